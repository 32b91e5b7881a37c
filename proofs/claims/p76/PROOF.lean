import PyProof.Rows.All
import Wide.All
import OpenK.AllK
import Wide.FinOn
import HandS.ForMost
import HandS.GenList
import HandS.AnyAll
import HandS.EndTab
import KE.KeyNested
import HandS.SortInts
import HandS.WordsExc
import HandS.TryOnly
import HandS.Flow
import HandS.Zip
import HandS.Sort
import HandS.TupAny
import HandS.TupMul
import HandS.Conv
import HandS.FStr
import HandS.TupLe
import HandS.Steps
import HandS.Text
import PyProof.CallFns
import HandS.Iter
import HandS.Walk
import HandS.ExcOwn
import HandS.ExcIs
import HandS.RaiseMore
import HandS.TryMany
import KE.KNest
import HandS.List
import PyProof.Draws
import HandS.IsInst
import HandS.Deep
import HandS.Replace
import HandS.Style
import HandS.WideBits
import KE.GoesNew
import KE.GoesMore
import HandS.Gcd
import KE.DataCmp
import HandS.DictComp
import HandS.HotCalls
import KE.GoesEnum
import KE.GoesZip
import HandS.CallSlots
import HandS.Spec
import HandS.TupLen
import HandS.SetKeys
import KE.KMathGC
import HandS.SetFor
import PyProof.ListStr
import KE.DataMinMax
import KE.GoesRaise
import HandS.Comp
import PyProof.ReprLen
import PySem.Challenge.RW_leafturner_k76_levels_and_portraits
set_option Elab.async false
set_option linter.all false
set_option maxRecDepth 100000
set_option maxHeartbeats 4000000
namespace Z
open PySem PySem.Spec PyProof.Rows L2 GenW
abbrev gcx (X : Cx) (s : Shared) (H : Hp) (ge : Env) (B : Around) (fp : List Addr) : Cx :=
  { X with A := B, s_0 := s, H_0 := H, env := ge, outer := X.stack, stack := ge :: X.stack, ex := fp, fn := fun _ => false, pn := [], xe := fun _ _ => False }
theorem inv_same {X : Cx} {pins : List (Addr × Obj)} {σ : L2.St} {H : Hp} {s s' : Shared} (I : Inv X pins σ H s) (h1 : s'.heap = s.heap) (h2 : s'.os = s.os) (h3 : AllBare s'.gens) : Inv X pins σ H s' := by
  obtain ⟨hh, g, d, t, o⟩ := s'
  have e1 : hh = s.heap := h1
  have e2 : o = s.os := h2
  subst e1 e2
  exact I.step (h' := s.heap) (H' := H) (g' := g) (t' := t) (d' := d) (ch := []) (fun b hb => by cases hb) (fun b o _ _ _ e _ => e) (fun b o _ _ _ e _ => ⟨o.slots, e⟩) (fun _ _ _ _ n => n) (fun b o _ e => ⟨o, e⟩)
    (fun _ _ e => e) (fun _ _ _ e => e) (fun b ps e => ⟨#[], by rw [e]; simp⟩) (fun m hm => hm) I.hok h3
section
variable {X : Cx} {pins : List (Addr × Obj)} {σ : L2.St} {H : Hp} {s : Shared}
theorem gen_start {scope : Scope} {own : List (Str × Nat)} {fp : List Addr} {B : Around} {code : Value} {it : Value} {h' : Heap} {go : Obj} {g' : Array GenState} {t' : Nat}
    (I : Inv X pins σ H s) (ok : BlkOk X.N X.env.scope scope own) (hN : X.N.Nodup) (hcell : ∀ y ∈ scope.names, y.2 ≠ .cell) (hfp : ∀ b ∈ fp, FpOk X pins H b ∧ b < s.heap.objs.size)
    (hB1 : B.handled = none) (hB2 : B.frames = some (genEnv scope (cloFrom X.env.cells scope.names []) s.heap.objs.size code builtinsNs X.env :: X.stack)) (hg : AllBare g')
    (hn : h'.Ns s.heap.objs.size (fun y => if y = ".0" then some it else none)) (hs : Heap.SameBut s.heap.objs.size (s.heap.push { cls := .type "frame", data := .dict #[] }) h')
    (hgo : ∀ v, go.data ≠ .cell v) (hgf : go.isFreed = false) (hdot : (".0" : Str) ∉ X.N) :
    Inv (gcx X s H (genEnv scope (cloFrom X.env.cells scope.names []) s.heap.objs.size code builtinsNs X.env) B fp) [(h'.objs.size, go)] (wipe σ (own.map (·.2))) H { s with heap := h'.push go, gens := g', toks := t' } := by
  have sz : h'.objs.size = s.heap.objs.size + 1 := by rw [hs.1, Heap.size_push]
  have kp : ∀ b o, s.heap.get? b = some o → (h'.push go).get? b = some o := fun b o e => Heap.get?_push_of_some _ (hs.extBut b o (Nat.ne_of_lt (Heap.lt_size e)) (Heap.get?_push_of_some _ e))
  have hfree : ∀ y ∈ scope.names, y.2 = .free → ∃ c, X.env.cells.lookup y.1 = some c := fun y hy e => by
    rcases ok.free y hy e with k | k
    · exact I.ok.has _ (.inl k)
    · exact I.ok.has _ (.inr k)
  generalize hge : genEnv scope (cloFrom X.env.cells scope.names []) s.heap.objs.size code builtinsNs X.env = ge at *
  have eL : ge.locals = s.heap.objs.size := by rw [← hge]; rfl
  have eC : ge.cells = cloFrom X.env.cells scope.names [] := by rw [← hge]; rfl
  have eS : ge.scope = scope := by rw [← hge]; rfl
  have cm : ∀ {y c}, ge.cells.lookup y = some c → X.env.cells.lookup y = some c ∧ c < s.heap.objs.size := fun {y c} e => by
    rw [eC] at e
    rcases cloFrom_mem (PySem.mem_of_lookup e) with hm | ⟨h1, rfl⟩
    · cases hm
    · obtain ⟨c, hc⟩ := hfree _ h1 rfl
      rw [hc]
      obtain ⟨w, z⟩ := I.cell _ _ hc
      exact ⟨rfl, z.lt⟩
  have look : ∀ {y}, scope.names.lookup y = some .free → ∃ c, ge.cells.lookup y = some c := fun {y} hl => by
    obtain ⟨c', e'⟩ := mem_lookup (cloFrom_has (cells := X.env.cells) (acc := []) (PySem.mem_of_lookup hl))
    exact ⟨c', by rw [eC]; exact e'⟩
  have okG : (gcx X s H ge B fp).Ok := by
    refine ⟨I.ok.mod, ?_, ?_, ?_, ?_, ?_, ?_, ?_, fun _ => hB1, hB2, .inr ⟨rfl, ?_⟩, ?_, I.bs, Nat.le_trans I.ok.bsz I.sz, ?_, ?_, I.stack, I.stkFree⟩
    · show ge.scope.kind = _
      rw [eS]; exact ok.kind
    · show ge.globals = _
      rw [← hge]; exact I.ok.glob
    · show ge.builtins = _
      rw [← hge]; rfl
    · show s.heap.objs.size ≤ ge.locals
      rw [eL]; exact Nat.le_refl _
    · exact fun y z c e1 e2 => I.ok.inj y z c (cm e1).1 (cm e2).1
    · intro y hy
      have hy' : scope.names.lookup y = some .cell ∨ scope.names.lookup y = some .free := by
        have q : ge.scope.names.lookup y = some .cell ∨ ge.scope.names.lookup y = some .free := hy
        rw [eS] at q
        exact q
      rcases hy' with q | q
      · exact (hcell _ (PySem.mem_of_lookup q) rfl).elim
      · exact look q
    · exact fun y c z => absurd z Bool.false_ne_true
    · show ge.frame = some ge.locals
      rw [← hge]; rfl
    · intro b hb
      refine ⟨?_, fun y c e z => (hfp b hb).1.2.2.2.2.1 y c (cm e).1 z⟩
      show b ≠ ge.locals
      rw [eL]; exact Nat.ne_of_lt (hfp b hb).2
    · intro b o e hb
      rcases (hfp b hb).1.2.2.2.1 with z | z
      · exact I.ok.noex b o e z
      · exact absurd (Nat.lt_of_lt_of_le (Heap.lt_size e) (Nat.le_trans I.ok.bsz z)) (Nat.lt_irrefl _)
    · intro b hb z
      rcases List.mem_cons.mp (I.stkSub b z) with z | z
      · exact (hfp b hb).1.2.1 z
      · exact (hfp b hb).1.2.2.1 z
  refine ⟨okG, rfl, hg, Un.kept kp, ⟨_, (by show Heap.Ns _ ge.locals _; rw [eL]; exact hn.push _), fun i y av e1 e2 e3 => ?_⟩, fun y c e => ?_, ?_, fun y c e => I.freeC y c (cm e).1, fun p hp => ?_, I.hok.kept kp, by rw [wipe_length]; exact I.len⟩
  · obtain ⟨e2, hne⟩ := wipe_some e2
    have e3 : scope.names.lookup y = some .local ∨ scope.names.lookup y = some .cell ∨ scope.names.lookup y = some .free := by
      have q : ge.scope.names.lookup y = some .local ∨ ge.scope.names.lookup y = some .cell ∨ ge.scope.names.lookup y = some .free := e3
      rw [eS] at q
      exact q
    have no : ∀ k, scope.names.lookup y = some k → ¬ (k = .local ∨ k = .cell) := fun k hk hh => by
      rcases ok.own _ (PySem.mem_of_lookup hk) hh with e' | e'
      · obtain ⟨p, hp, hpy⟩ := List.mem_map.mp e'
        have e3 := ok.ix p hp
        have hpy : p.1 = y := hpy
        rw [hpy] at e3
        exact hne (List.mem_map.mpr ⟨p, hp, nodup_ix hN e3 e1⟩)
      · exact e' (List.mem_of_getElem? e1)
    have hfr : scope.names.lookup y = some .free := by
      rcases e3 with q | q | q
      · exact (no _ q (.inl rfl)).elim
      · exact (no _ q (.inr rfl)).elim
      · exact q
    obtain ⟨m, hm, hl⟩ := I.loc
    have hvis : Vis X.env.scope y := (ok.free _ (PySem.mem_of_lookup hfr) rfl).elim (fun k => .inr (.inl k)) (fun k => .inr (.inr k))
    obtain ⟨w, r, q⟩ := hl i y av e1 e2 hvis
    refine ⟨w, r, .inr ⟨.inr (by show ge.scope.names.lookup y = _; rw [eS]; exact hfr), ?_⟩⟩
    obtain ⟨c, h1⟩ := look hfr
    rcases q with ⟨k, _⟩ | ⟨_, c', e', z⟩
    · have k : X.env.scope.names.lookup y = some .local := k
      rcases ok.free _ (PySem.mem_of_lookup hfr) rfl with k' | k' <;> rw [show X.env.scope.names.lookup y = _ from k'] at k <;> cases k
    · rw [(cm h1).1] at e'; cases e'
      exact ⟨c, h1, z.keeps kp⟩
  · obtain ⟨w, z⟩ := I.cell y c (cm e).1
    exact ⟨w, z.keeps kp⟩
  · show H ge.locals = none
    rw [eL]; exact I.hok.fresh (Nat.le_refl _)
  · have e : p = (h'.objs.size, go) := by simpa using hp
    subst e
    refine ⟨Heap.get?_push_size _ hgf, I.hok.fresh (by show s.heap.objs.size ≤ h'.objs.size; omega), ?_, fun hm => ?_, hgo⟩
    · show h'.objs.size ≠ ge.locals
      rw [eL]; omega
    · rcases List.mem_cons.mp (I.stkSub h'.objs.size hm) with z | z
      · have h1 : X.env.locals < s.heap.objs.size := I.lt
        have h2 : h'.objs.size = X.env.locals := z
        exact absurd h1 (by rw [← h2, sz]; exact Nat.not_lt_of_le (Nat.le_succ _))
      · exact I.nofs (a := h'.objs.size) (by omega) z
end
def TabOk (H : Hp) (P : Addr) : Prop := GxR.TabG H P
def Grown (P : Addr) (H H' : Hp) : Prop := GxR.Tabbed P H H'
def AllTurns (J : It) (g : TG) (te : TE) (vs : List Nat) (σ : L2.St) (Q : VK) (W : Nat → Nat → Hp → Prop) : Prop := ∀ i m H, W i m H →
  (J.stop i H ∧ Q (.bl true) H) ∨ (J.go i H ∧ ∀ x H', J.yld i H x H' → g x (wipe σ vs) H' fun σ2 H3 => wipe σ2 vs = wipe σ vs ∧ te σ2 H3 fun y H4 =>
    ∃ b, y = .bl b ∧ (b = true → ∃ m', m' < m ∧ W (i + 1) m' H4) ∧ (b = false → Q (.bl false) H4))
def tAll (wi : TI) (g : TG) (te : TE) (vs : List Nat) (P : Addr) : TE := fun σ H Q => wi σ H fun J H1 => TabOk H1 P ∧ ∀ H2, Grown P H1 H2 → ∃ W : Nat → Nat → Hp → Prop, (∃ m, W 0 m H2) ∧ AllTurns J g te vs σ Q W
abbrev GE (elt tg iter : Expr) (scope : Scope) (pos : Pos) : Expr := .GeneratorExp elt [⟨tg, iter, [], 0⟩] scope pos
section
variable {X : Cx} {s₁ : Shared} {H₁ : Hp} {ge : Env} {fp : List Addr} {elt tg iter : Expr} {scope : Scope} {pos : Pos} {it a : Addr} {go : Obj} {σ : L2.St} {vs : List Nat} {J : It} {g : TG} {te : TE} {Q : VK} {W : Nat → Nat → Hp → Prop} {tn : Nat → Heap → Prop} {B : Around}
abbrev gar (B : Around) (elt tg iter : Expr) (scope : Scope) (pos : Pos) (it : Addr) (ge : Env) : Around := B.over (.compLoop (GE elt tg iter scope pos) 0 (.ref it) .none ge) []
abbrev gC (X : Cx) (s₁ : Shared) (H₁ : Hp) (ge : Env) (fp : List Addr) (B : Around) (elt tg iter : Expr) (scope : Scope) (pos : Pos) (it : Addr) : Cx := gcx X s₁ H₁ ge (gar B elt tg iter scope pos it ge) fp
def gEnd (X : Cx) (s₁ : Shared) (H₁ : Hp) (ge : Env) (fp : List Addr) (B : Around) (elt tg iter : Expr) (scope : Scope) (pos : Pos) (it a : Addr) (go : Obj) (σ : L2.St) (vs : List Nat) (Q : VK) (s' : Shared) : Prop :=
  ∃ H', Inv (gC X s₁ H₁ ge fp B elt tg iter scope pos it) [(a, go)] (wipe σ vs) H' s' ∧ Q (.bl true) H'
def gItem (X : Cx) (s₁ : Shared) (H₁ : Hp) (ge : Env) (fp : List Addr) (B : Around) (elt tg iter : Expr) (scope : Scope) (pos : Pos) (it a : Addr) (go : Obj) (σ : L2.St) (vs : List Nat) (Q : VK) : Protocol := fun _ _ v s kap =>
  ∃ b H', v = .bool b ∧ Inv (gC X s₁ H₁ ge fp B elt tg iter scope pos it) [(a, go)] (wipe σ vs) H' s ∧ (b = false → Q (.bl false) H') ∧ (b = true → ∀ s' : Shared, s'.heap = s.heap → s'.os = s.os → AllBare s'.gens → kap (.send .none) s')
theorem gen_loop (hc : X.calm = true) (T : Turn X.prog X.w X.K tg J fp it tn) (hco : ge.scope.isCoroutine = false) (haf : ∀ b ∈ fp, b ≠ a)
    (pg : PG (gC X s₁ H₁ ge fp B elt tg iter scope pos it) tg g) (pe : PE (gC X s₁ H₁ ge fp B elt tg iter scope pos it) elt te) (turn : AllTurns J g te vs σ Q W) :
    ∀ (n i m : Nat) (H : Hp) (s₀ s : Shared), m < n → W i m H → Inv (gC X s₁ H₁ ge fp B elt tg iter scope pos it) [(a, go)] (wipe σ vs) H s → tn i s.heap → (∀ b ∈ fp, H b = none) →
      Seg (model X.prog X.w) B (fun _ _ r s' => r = .ok .next ∧ gEnd X s₁ H₁ ge fp B elt tg iter scope pos it a go σ vs Q s') (gItem X s₁ H₁ ge fp B elt tg iter scope pos it a go σ vs Q) n s₀
        (.compLoop (GE elt tg iter scope pos) 0 (.ref it) .none ge) ((model X.prog X.w).den (.compLoop (GE elt tg iter scope pos) 0 (.ref it) .none ge)) [] s := by
  have stat : ∀ {σ' : L2.St} {H' : Hp} {s' : Shared}, Inv (gC X s₁ H₁ ge fp B elt tg iter scope pos it) [(a, go)] σ' H' s' → (∀ b ∈ fp, H' b = none) → ∀ b ∈ fp, FpOk (gC X s₁ H₁ ge fp B elt tg iter scope pos it) [(a, go)] H' b :=
    fun {σ' H' s'} I' hn b hb => by
      refine ⟨hn b hb, (I'.ok.exf b hb).1, I'.ok.exfs b hb, .inl hb, fun x c e => (I'.ok.exf b hb).2 x c e, fun p hp => ?_⟩
      have e : p = (a, go) := by simpa using hp
      subst e
      exact (haf b hb).symm
  intro n
  induction n with
  | zero => intro i m H s₀ s hm; exact absurd hm (Nat.not_lt_zero _)
  | succ n ih =>
    intro i m H s₀ s hm w0 I st hn
    show Seg _ _ _ _ _ s₀ _ ((compTurn (GE elt tg iter scope pos) 0 (.ref it) .none ge).onRaise (leaving ge)) [] s
    rw [compTurn_gen, Sem.onRaise_eq_wrap] ; refine seg_bind_wrap (wpAny_standAt ?_)
    rcases turn i m H w0 with ⟨stop, qq⟩ | ⟨go1, step⟩
    · refine seg_bind_wrap (thnF (T.done (gC X s₁ H₁ ge fp B elt tg iter scope pos it) rfl rfl rfl hc i _ s _ H (fun _ _ => False) I (stat I hn) st stop) fun r s2 hr => ?_)
      obtain ⟨rfl, I2⟩ := hr
      exact seg_end (.ok .next) ⟨rfl, H, I2, qq⟩
    · refine seg_bind_wrap (thnF (T.item (gC X s₁ H₁ ge fp B elt tg iter scope pos it) rfl rfl rfl hc i _ s _ H (fun _ _ => False) I (stat I hn) st go1) fun r s2 hr => ?_)
      obtain ⟨u, rfl, hu⟩ := hr
      refine seg_bind_wrap (thnF hu fun _ s3 h3 => ?_)
      obtain ⟨x, H3, I3, r3, y3, st3, n3⟩ := h3
      have I3' := I3.pinned (stat I3 n3) (T.obj _ _ st3)
      refine seg_bind_wrap (thnF (pg.run _ s3 _ H3 x u _ I3' r3 (step x H3 y3)) fun _ s4 h4 => ?_)
      obtain ⟨σ4, H4, I4, hw4, q4⟩ := h4
      simp only [List.forIn_nil]
      refine seg_bind_wrap (wpAny_pure ?_)
      simp only [if_true]
      have hy : ∀ v, yieldOut ge v = yieldValue v := fun v => by unfold yieldOut; rw [hco]; rfl
      simp only [hy]
      rw [Sem.bind_eq_wrap', Sem.bind_eq_wrap', Sem.wrap_wrap, Sem.wrap_wrap] ; refine seg_wrap (thnF (pe.run _ s4 σ4 H4 _ I4 q4) fun v s5 h5 => ?_)
      obtain ⟨y, H5, I5, r5, b, rfl, k1, k0⟩ := h5
      have ev : v = Value.bool b := r5
      subst ev
      have hl : (wipe σ vs).length = σ4.length := by rw [← hw4, wipe_length]
      have I6 : Inv (gC X s₁ H₁ ge fp B elt tg iter scope pos it) [(a, go)] (wipe σ vs) H5 s5 := (I5.unpinned (pins := [(a, go)])).weak hl fun j v e => by
        rw [← hw4] at e
        exact (wipe_some e).1
      have pin' : ∀ b ∈ fp, ∀ o, s3.heap.get? b = some o → s5.heap.get? b = some o ∧ H5 b = none := fun b hb o e =>
        let z := I5.pin (b, o) (List.mem_append_right _ (List.mem_append_right _ (mem_pinsAt hb e)))
        ⟨z.1, z.2.1⟩
      have st5 : tn (i + 1) s5.heap := T.keep _ _ _ st3 fun b hb o e => (pin' b hb o e).1
      have n5 : ∀ b ∈ fp, H5 b = none := fun b hb => by
        obtain ⟨o, e, _⟩ := T.obj _ _ st3 b hb
        exact (pin' b hb o e).2
      refine seg_at (seg_yield rfl rfl rfl ⟨b, H5, rfl, I6, k0, fun hb s' e1 e2 e3 => ?_⟩)
      obtain ⟨m', hm', w'⟩ := k1 hb
      exact seg_again rfl (ih (i + 1) m' H5 s' s' (by omega) w' (inv_same I6 e1 e2 e3) (by rw [e1]; exact st5) n5)
theorem gen_begin (hc : X.calm = true) (T : Turn X.prog X.w X.K tg J fp it tn) (hco : ge.scope.isCoroutine = false) (haf : ∀ b ∈ fp, b ≠ a)
    (pg : PG (gC X s₁ H₁ ge fp B elt tg iter scope pos it) tg g) (pe : PE (gC X s₁ H₁ ge fp B elt tg iter scope pos it) elt te) (turn : AllTurns J g te vs σ Q W) {m : Nat} {H : Hp} {s₀ s : Shared} (w0 : W 0 m H)
    (I : Inv (gC X s₁ H₁ ge fp B elt tg iter scope pos it) [(a, go)] (wipe σ vs) H s) (st : tn 0 s.heap) (hn : ∀ b ∈ fp, H b = none) :
      Seg (model X.prog X.w) B (fun _ _ r s' => r = .ok .next ∧ gEnd X s₁ H₁ ge fp B elt tg iter scope pos it a go σ vs Q s') (gItem X s₁ H₁ ge fp B elt tg iter scope pos it a go σ vs Q) (m + 1) s₀
        (.compStart (GE elt tg iter scope pos) 0 (.ref it) .none ge) ((model X.prog X.w).den (.compStart (GE elt tg iter scope pos) 0 (.ref it) .none ge)) [] s := by
  have loop := gen_loop (s₁ := s₁) (H₁ := H₁) (go := go) hc T hco haf pg pe turn (m + 1) 0 m H s₀ s (Nat.lt_succ_self _) w0 I st hn
  show Seg _ _ _ _ _ s₀ _ ((compStart (GE elt tg iter scope pos) 0 (.ref it) .none ge).onRaise (leaving ge)) [] s
  unfold compStart ; rw [Sem.onRaise_eq_wrap] ; show Seg _ _ _ _ _ s₀ _ ((ask >>= _).wrap _ _ _ _) [] s
  refine seg_bind_wrap (wpAny_askSetting ?_) ; split
  · exact seg_again rfl loop
  · first
      | (refine seg_bind_wrap (wpAny_rule ?_) ; exact seg_bind_wrap (wpAny_standAt (seg_bind_wrap (T.self _ 0 s _ _ st (seg_again rfl loop)))))
      | (refine seg_bind_wrap (wpAny_rule ?_) ; show Seg _ _ _ _ _ s₀ _ ((standAt iter.pos >>= _).wrap _ _ _ _) [] s ; exact seg_bind_wrap (wpAny_standAt (seg_bind_wrap (T.self _ 0 s _ _ st (seg_again rfl loop)))))
end
end Z
set_option Elab.async false
set_option linter.all false
set_option maxRecDepth 100000
set_option maxHeartbeats 4000000
namespace Z
open PySem PySem.Spec PyProof.Rows L2 GenW
section
variable {P : Program} {w : World} {A : Around} {a : Addr} {g : Nat} {Rr : Result → Shared → Prop} {fin : Shared → Prop} {item : Protocol}
theorem all_turns (hh : A.handled = none) (hroom : A.depth < recursionLimit)
    (hItem : ∀ n s₀ v s kap, item n s₀ v s kap → (∃ b, v = .bool b) ∧ s.heap.IsGen a g ∧ s.heap.NoLimit ∧ AllBare s.gens)
    (hMore : ∀ n s₀ s kap, item n s₀ (.bool true) s kap → ∀ s' : Shared, s'.heap = s.heap → s'.os = s.os → AllBare s'.gens → kap (.send .none) s')
    (hStop : ∀ n s₀ s kap gs, item n s₀ (.bool false) s kap → gs.bare = true → Rr (.ok (.ret (.bool false))) (s.setGen g gs))
    (hEnd : ∀ s, fin s → ∀ h', (∀ b o, s.heap.get? b = some o → h'.get? b = some o) → Rr (.ok (.ret (.bool true))) { s.setGen g .finished with heap := h' }) :
    ∀ (n : Nat) (s : Shared), s.heap.IsGen a g → s.heap.NoLimit → (∃ gs, s.gens[g]? = some gs ∧ gs.Goes (model P w) A.in1.in1 (fun _ _ r s' => r = .ok .next ∧ fin s') item n (.send .none) (s.setGen g .running)) →
      codeAny (model P w) A (.builtin "all.loop" ⟨[.ref a], []⟩) Rr s := by
  intro n
  induction n with
  | zero =>
    intro s hg hl ⟨gs, hgs, hgo⟩
    refine codeAny_builtin PySem.F.entry_all_loop ?_ ; rw [Around.under_plainId PySem.F.plain_all_loop _] ; show wpAny _ A.in1 (pyNext (.ref a) >>= _) _ _ s
    refine wpAny_bind (wpAny_pyNext_genexpQ (A := A.in1) (P := fun _ _ s' => fin s') hh hl hroom hg hgs hgo (fun v s₁ gs' hb hv => ?_) (fun s₁ hp h' hk => ?_))
    · obtain ⟨⟨b, rfl⟩, _, _, _⟩ := hItem _ _ _ _ _ hv
      cases b with
      | true => exact (hMore _ _ _ _ hv s₁ rfl rfl (hItem _ _ _ _ _ hv).2.2.2).elim
      | false =>
        refine wpAny_bind (wpAny_holding (wpAny_truthy_bool ?_)) ; refine wpAny_bind (wpAny_letGo ?_)
        simp only [Bool.false_eq_true, if_false] ; exact wpAny_bind (wpAny_rule (wpAny_pure (hStop _ _ _ _ _ hv hb)))
    · exact wpAny_bind (wpAny_rule (wpAny_pure (hEnd _ hp h' hk)))
  | succ n ih =>
    intro s hg hl ⟨gs, hgs, hgo⟩
    have hgl : g < s.gens.size := (Array.getElem?_eq_some_iff.mp hgs).1
    refine codeAny_builtin PySem.F.entry_all_loop ?_ ; rw [Around.under_plainId PySem.F.plain_all_loop _] ; show wpAny _ A.in1 (pyNext (.ref a) >>= _) _ _ s
    refine wpAny_bind (wpAny_gsz (n := g + 1) hgl (wpAny_pyNext_genexpQ (A := A.in1) (P := fun _ _ s' => fin s') hh hl hroom hg hgs hgo (fun v s₁ gs' hb hv => ?_) (fun s₁ hp h' hk => ?_)))
    · intro hsz
      obtain ⟨⟨b, rfl⟩, g1, l1, b1⟩ := hItem _ _ _ _ _ hv
      cases b with
      | true =>
        refine wpAny_bind (wpAny_holding (wpAny_truthy_bool ?_)) ; refine wpAny_bind (wpAny_letGo ?_)
        have hsz1 : g < s₁.gens.size := by
          have q : (s₁.setGen g gs').gens.size = s₁.gens.size := setGen_size _ _ _
          have h2 : g + 1 ≤ (s₁.setGen g gs').gens.size := hsz
          omega
        simp only [if_true] ; refine wpAny_pure ⟨plainId_quiet PySem.F.plain_all_loop _, ih _ g1 l1 ⟨gs', setGen_at hsz1, ?_⟩⟩
        exact hMore _ _ _ _ hv _ rfl rfl (allBare_setGen (s := s₁.setGen g gs') (allBare_setGen b1 hb) rfl)
      | false =>
        refine wpAny_bind (wpAny_holding (wpAny_truthy_bool ?_)) ; refine wpAny_bind (wpAny_letGo ?_)
        simp only [Bool.false_eq_true, if_false] ; exact wpAny_bind (wpAny_rule (wpAny_pure (hStop _ _ _ _ _ hv hb)))
    · intro _
      exact wpAny_bind (wpAny_rule (wpAny_pure (hEnd _ hp h' hk)))
end
section
variable {X : Cx}
theorem pe_all {c P : Addr} {elt tg iter : Expr} {p pos gpos : Pos} {scope : Scope} {own : List (Str × Nat)} {wi : TI} {g : TG} {te : TE} {k : Nat}
    (hr : Room (k + 1) X.A) (hg : Gl X "all") (hm : X.mg "all" = none) (TB : LamX.TabB X.base X.mg c P) (hcode : X.env.code = .ref c) (hc : X.calm = true) (hN : X.N.Nodup)
    (hi : PI X tg iter wi) (ok : BlkOk X.N X.env.scope scope own) (hco : scope.isCoroutine = false) (hcell : ∀ y ∈ scope.names, y.2 ≠ .cell) (h0 : scope.names.lookup (".0" : Str) = some NameKind.local) (hdot : (".0" : Str) ∉ X.N)
    (hpg : ∀ (s : Shared) (H : Hp) (ge : Env) (B : Around) (fp : List Addr), ge.scope = scope → PG (gcx X s H ge B fp) tg g)
    (hpe : ∀ (s : Shared) (H : Hp) (ge : Env) (B : Around) (fp : List Addr), ge.scope = scope → Room k B → PE (gcx X s H ge B fp) elt te)
    (hs : ∀ v, genFold iter X.env v = pure v := by intro _; rfl)
    (he : starEach [GE elt tg iter scope gpos] X.env = (false, eval (GE elt tg iter scope gpos) X.env) :: starEach [] X.env := by rfl) :
    PE X (.Call (.Name "all" p) [GE elt tg iter scope gpos] [] pos) (tAll wi g te (own.map (·.2)) P) := by
  refine ⟨fun pins s σ H Q I h => ?_⟩
  have hfree : ∀ y ∈ scope.names, y.2 = .free → ∃ c, X.env.cells.lookup y.1 = some c := fun y hy e => by
    rcases ok.free y hy e with k | k
    · exact I.ok.has _ (.inl k)
    · exact I.ok.has _ (.inr k)
  refine wpAny_Call_Name_kw (ld_blt I hg hm PyProof.Rows.boot_all ?_)
  refine PyProof.Rows.callWith_builtin1 ?_ he (by rfl) ; rw [he]
  show wpAny _ _ (spliced ((false, eval (GE elt tg iter scope gpos) X.env) :: backTo pos (starEach [] X.env))) _ _ s
  refine Calls.spliced_cons ?_
  refine wpAny_GeneratorExp_make hco (closure_ok hfree) hcell h0 ok.kind (by have := hr.dp; omega) ?_ hs
  refine thn (hi.run pins s σ H _ I h) fun xv s1 hx => thn hx fun itv s2 h2 => ?_
  obtain ⟨it, fp, tn, J, H2, rfl, I2, T, st2, f2, ⟨ps, hP, ht⟩, q⟩ := h2
  refine ⟨I2.nolimit, ?_⟩
  have hPs : s2.heap.get? P = some { cls := .none, data := .fields ps } := I2.hok P _ hP
  have cd : PySem.W.CodeHd s2.heap c P := TB.code.keeps I2.bk
  have cont : ∀ (code : Value) (h3 : Heap) (tk : Nat) (more : Array Value), Heap.ExtBut P s2.heap h3 → s2.heap.objs.size ≤ h3.objs.size → h3.get? P = some { cls := .none, data := .fields (ps ++ more) } → TriplesOk (ps ++ more).toList →
      wpAny (model X.prog X.w) X.A (builtinsFor X.env.globals X.env.builtins) (fun bi s₄ => ∀ h' : Heap, h'.Ns s₄.heap.objs.size (fun y => if y = ".0" then some (.ref it) else none) → Heap.SameBut s₄.heap.objs.size (s₄.heap.push { cls := .type "frame", data := .dict #[] }) h' →
        wpAny (model X.prog X.w) X.A (spliced (backTo pos (starEach [] X.env))) (fun us s5 => wpAny (model X.prog X.w) X.A (call (.builtin "all") (Value.ref h'.objs.size :: us)) (EP X pins σ Q) X.xe s5) X.xe
          { s₄ with gens := s₄.gens.push (.fresh (.compStart (GE elt tg iter scope gpos) 0 (.ref it) .none (genEnv scope (cloFrom X.env.cells scope.names []) s₄.heap.objs.size code bi X.env))), toks := s₄.toks + 1 + 1 + 1, heap := h'.push { cls := .type "generator", data := .fields #[.int s₄.gens.size 0, .str "<genexpr>" (s₄.toks + 1), .str (X.env.qual ++ "<genexpr>") (s₄.toks + 1 + 1)] } }) X.xe { s2 with heap := h3, toks := tk } := by
    intro code h3 tk more hx hsz hP3 ht3
    obtain ⟨bm, ob, e1, e2, e3, e4, e5, e6, e7, e8⟩ := TB.bm
    have keep3 : ∀ b u, b ≠ P → s2.heap.get? b = some u → h3.get? b = some u := fun b u hb e => hx b u hb e
    refine wpAny_builtinsFor (m := X.mg) (by rw [I2.ok.glob]; exact (I2.mod.glob.keeps I2.bk).extBut hx TB.gP) e1 e2 (keep3 _ _ e4 (I2.bk _ _ e5)) e6 e7 e8 ?_
    have I3 : Inv X pins σ (upd H2 P (.tbl (ps ++ more))) { s2 with heap := h3, toks := tk } := GxR.inv_tab (more := more) (h' := h3) (g' := s2.gens) (d' := s2.drawn) (t' := tk) I2 hP keep3 hP3 I2.bare
    generalize hH3 : upd H2 P (.tbl (ps ++ more)) = H3 at I3
    generalize hs3 : ({ s2 with heap := h3, toks := tk } : Shared) = s3 at I3
    have hs3h : s3.heap = h3 := by rw [← hs3]
    intro h' hn' hsb
    have nfp : ∀ b ∈ fp, b ≠ P := fun b hb z => by
      have q1 := (f2 b hb).1
      rw [z, hP] at q1
      cases q1
    have st3 : tn 0 s3.heap := T.keep _ _ _ st2 fun b hb o e => by rw [hs3h]; exact keep3 b o (nfp b hb) e
    have f3 : ∀ b ∈ fp, FpOk X pins H3 b ∧ b < s3.heap.objs.size := fun b hb => by
      refine ⟨⟨?_, (f2 b hb).2⟩, ?_⟩
      · rw [← hH3, upd_ne (nfp b hb)]
        exact (f2 b hb).1
      · obtain ⟨o, e, _⟩ := T.obj _ _ st3 b hb
        exact Heap.lt_size e
    have bq : AllBare (s3.gens.push (GenState.fresh (.compStart (GE elt tg iter scope gpos) 0 (.ref it) .none (genEnv scope (cloFrom X.env.cells scope.names []) s3.heap.objs.size code builtinsNs X.env)))) := I3.bare.push rfl
    have sz' : h'.objs.size = s3.heap.objs.size + 1 := by rw [hsb.1, Heap.size_push]
    have nge : ∀ b ∈ fp, b ≠ h'.objs.size := fun b hb z => by
      have h9 := (f3 b hb).2
      rw [z, sz'] at h9
      exact absurd (Nat.lt_of_succ_lt h9) (Nat.lt_irrefl _)
    have I4 := gen_start (B := gar X.A.in1.in1 elt tg iter scope gpos it (genEnv scope (cloFrom X.env.cells scope.names []) s3.heap.objs.size code builtinsNs X.env)) (code := code) (it := .ref it) (t' := s3.toks + 1 + 1 + 1)
      (go := { cls := .type "generator", data := .fields #[.int s3.gens.size 0, .str "<genexpr>" (s3.toks + 1), .str (X.env.qual ++ "<genexpr>") (s3.toks + 1 + 1)] }) I3 ok hN hcell f3 hr.hd
      (by have e : X.A.in1.in1.frames = some X.stack := I3.ok.frames
          unfold gar Around.over ; dsimp only ; rw [e] ; rfl) bq hn' hsb (fun v z => by cases z) rfl hdot
    generalize hgo : ({ cls := .type "generator", data := .fields #[.int s3.gens.size 0, .str "<genexpr>" (s3.toks + 1), .str (X.env.qual ++ "<genexpr>") (s3.toks + 1 + 1)] } : Obj) = go at I4 ⊢
    have ggen : ∀ {s' : Shared} {σ' H'}, Inv (gC X s3 H3 (genEnv scope (cloFrom X.env.cells scope.names []) s3.heap.objs.size code builtinsNs X.env) fp X.A.in1.in1 elt tg iter scope gpos it) [(h'.objs.size, go)] σ' H' s' → s'.heap.IsGen h'.objs.size s3.gens.size := fun {s' σ' H'} J => by
      have q := (J.pin (h'.objs.size, go) (by simp)).1
      exact ⟨_, _, _, q, by rw [← hgo], by rw [← hgo], by rw [← hgo]⟩
    generalize hge : genEnv scope (cloFrom X.env.cells scope.names []) s3.heap.objs.size code builtinsNs X.env = ge at I4 bq ggen ⊢
    have geS : ge.scope = scope := by rw [← hge]; rfl
    generalize ha : h'.objs.size = a at I4 nge ggen ⊢
    generalize hs4 : ({ s3 with heap := h'.push go, gens := s3.gens.push (GenState.fresh (.compStart (GE elt tg iter scope gpos) 0 (.ref it) .none ge)), toks := s3.toks + 1 + 1 + 1 } : Shared) = s4 at I4 ⊢
    have hs4h : s4.heap = h'.push go := by rw [← hs4]
    have gs4 : s4.gens[s3.gens.size]? = some (GenState.fresh (.compStart (GE elt tg iter scope gpos) 0 (.ref it) .none ge)) := by
      rw [← hs4] ; exact Array.getElem?_push_size ..
    have st4 : tn 0 s4.heap := T.keep _ _ _ st3 fun b hb o e => by
      rw [hs4h]
      exact Heap.get?_push_of_some _ (hsb.extBut b o (Nat.ne_of_lt (Heap.lt_size e)) (Heap.get?_push_of_some _ e))
    obtain ⟨W, ⟨m0, w0⟩, turn⟩ := q H3 ⟨⟨ps ++ more, by rw [← hH3]; exact upd_same, ht3⟩, fun b hb => by rw [← hH3]; exact upd_ne hb⟩
    refine Calls.spliced_nil ?_
    refine call_function_tree PySem.F.kind_all PySem.F.plain_all PySem.F.entry_all (PySem.F.args_all1 _) ?_ ; unfold Builtin.«all»
    refine wpAny_bind (m := oneArg "all" _) (wpAny_pure ?_) ; refine wpAny_bind (wpAny_pyIter_gen (ggen I4) ?_)
    have back : ∀ {s' : Shared} {H' : Hp} {h'' : Heap} {gs : GenState}, Inv (gC X s3 H3 ge fp X.A.in1.in1 elt tg iter scope gpos it) [(a, go)] (wipe σ (own.map (·.2))) H' s' → gs.bare = true → (∀ b o, s'.heap.get? b = some o → h''.get? b = some o) →
        Inv X pins σ H' { s'.setGen s3.gens.size gs with heap := h'' } := fun {s' H' h'' gs} J hb hk => by
      have o1 : s'.os = s3.os := J.os
      exact I3.call' (ch := fp) (s' := { s'.setGen s3.gens.size gs with heap := h'' }) o1 (J.base.trans (Un.kept hk)) (J.hok.kept hk) (allBare_setGen J.bare hb)
        fun b hb => ⟨(f3 b hb).1.2.2.2.1, (f3 b hb).1.2.1, (f3 b hb).1.2.2.2.2.1, (f3 b hb).1.2.2.2.2.2⟩
    refine wpAny_pure ⟨plainId_quiet PySem.F.plain_all_loop _, all_turns (g := s3.gens.size) (fin := gEnd X s3 H3 ge fp X.A.in1.in1 elt tg iter scope gpos it a go σ (own.map (·.2)) Q) (item := gItem X s3 H3 ge fp X.A.in1.in1 elt tg iter scope gpos it a go σ (own.map (·.2)) Q)
      hr.hd (by have := hr.dp; omega) (fun n s₀ v s' kap hv => ?_) (fun n s₀ s' kap hv s'' e1 e2 e3 => ?_) (fun n s₀ s' kap gs hv hb => ?_) (fun s' hf h'' hk => ?_) (m0 + 1) s4 (ggen I4) I4.nolimit ⟨_, gs4, rfl, ?_⟩⟩
    · obtain ⟨b, H', rfl, J, _, _⟩ := hv
      exact ⟨⟨b, rfl⟩, ggen J, J.nolimit, J.bare⟩
    · obtain ⟨b, H', eb, J, _, k1⟩ := hv
      cases eb
      exact k1 rfl s'' e1 e2 e3
    · obtain ⟨b, H', eb, J, k0, _⟩ := hv
      cases eb
      exact ⟨.bl false, H', back J hb fun _ _ e => e, rfl, k0 rfl⟩
    · obtain ⟨H', J, qq⟩ := hf
      exact ⟨.bl true, H', back J rfl hk, rfl, qq⟩
    · have rB : Room k (gar X.A.in1.in1 elt tg iter scope gpos it ge) := by
        refine ⟨hr.hd, ?_, ?_⟩
        · have := hr.dp
          show X.A.depth + 0 + 1 + 3 * k + 5 < _
          omega
        · have := hr.un
          show X.A.units + 1 + 1 + 0 + 3 + 16 * k + 200 < _
          omega
      exact gen_begin hc T (by rw [geS]; exact hco) nge (hpg _ _ _ _ _ geS) (hpe _ _ _ _ _ geS rB) turn w0 (inv_same I4 rfl rfl (allBare_setGen I4.bare rfl)) st4 (fun b hb => (f3 b hb).1.1)
  cases hf : codeAmong gpos ps.toList with
  | none =>
    refine wpAny_genexprCodeX hcode (cd.code hPs ht) (cd.tab hPs) hf fun c' h' tk hx hge hlt hco' _ htab' _ => ?_
    obtain ⟨o1, vs, f1, tf, fl, tg1, inF, tx, tt, op, _, _, _, _, _, _, _, _, _, htr, _⟩ := hco'
    exact cont _ h' tk _ hx (Nat.le_trans hge (Nat.le_of_lt hlt)) htab'.2 htr
  | some cv =>
    refine wpAny_genexprCode_hit hcode (cd.code hPs ht) hf ?_
    have h1 := cont cv s2.heap s2.toks #[] (Heap.ExtBut.refl _ _) (Nat.le_refl _) (by simpa using hPs) (by simpa using ht)
    exact h1
end
end Z
set_option Elab.async false
set_option linter.all false
set_option maxRecDepth 100000
set_option maxHeartbeats 4000000
namespace Z
open PySem PySem.Spec PyProof.Rows L2
mutual
def ihash : NestedKey → Int
  | .none => reduceHash 0xFCA86420
  | .num i => hashInt i
  | .text _ => 0
  | .tup ks => reduceHash (Builtin.Tuple.tupleHashOf (ihashes ks))
def ihashes : List NestedKey → List Int
  | [] => []
  | k :: ks => ihash k :: ihashes ks
end
mutual
def tfree : NestedKey → Bool
  | .none => true
  | .num _ => true
  | .text _ => false
  | .tup ks => tfrees ks
def tfrees : List NestedKey → Bool
  | [] => true
  | k :: ks => tfree k && tfrees ks
end
def NdX (a : Addr) (ys : List (NestedKey × Addr × V)) : Heap → Prop := fun h => (a == sysModules) = false ∧ ys.length ≤ sizeLine ∧ (∀ y ∈ ys, tfree y.1 = true ∧ y.1.depth ≤ 8) ∧ (ys.map (·.1)).Nodup ∧
  ∃ (o : Obj) (es : Array DictEntry) (ep : Nat) (xs : List (NestedKey × Addr × Value)), h.get? a = some o ∧ o.ExactDict ∧ o.data = .dict es ep ∧
    Paired (fun (p : NestedKey × Addr × V) (q : NestedKey × Addr × Value) => p.1 = q.1 ∧ p.2.1 = q.2.1 ∧ RelV p.2.2 q.2.2) ys xs ∧ es.toList = xs.map fun x => (⟨ihash x.1, .ref x.2.1, x.2.2⟩ : DictEntry)
theorem NdX.stay {a : Addr} {ys : List (NestedKey × Addr × V)} {h1 h2 : Heap} (x : NdX a ys h1) (k : ∀ o, h1.get? a = some o → h2.get? a = some o) : NdX a ys h2 := by
  obtain ⟨h, l, t, n, o, es, ep, xs, e1, e2⟩ := x
  exact ⟨h, l, t, n, o, es, ep, xs, k o e1, e2⟩
theorem NdX.ok {P : Program} {w : World} {H : Hp} {h : Heap} {a : Addr} {ys : List (NestedKey × Addr × V)} (x : NdX a ys h) : ObjOk P w H h a (.ext (NdX a ys)) := by
  obtain ⟨h0, l, t, n, o, es, ep, xs, e1, e2⟩ := id x
  exact ⟨x, ⟨o, e1⟩, fun h1 h2 p k => p.stay k⟩
end Z
set_option Elab.async false
set_option linter.all false
set_option maxRecDepth 100000
set_option maxHeartbeats 4000000
namespace Z
open PySem PySem.Spec PyProof.Rows L2
def Sm (H H' : Hp) : Prop := (∀ a o, H a = some o → (∀ ps, o ≠ .tbl ps) → H' a = some o) ∧ ∀ P, TabOk H P → TabOk H' P
theorem Sm.refl (H : Hp) : Sm H H := ⟨fun _ _ h _ => h, fun _ h => h⟩
theorem Sm.trans {H H1 H2 : Hp} (a : Sm H H1) (b : Sm H1 H2) : Sm H H2 := ⟨fun x o h n => b.1 x o (a.1 x o h n) n, fun P h => b.2 P (a.2 P h)⟩
theorem Sm.of_le {H H' : Hp} (h : ∀ a o, H a = some o → H' a = some o) : Sm H H' := ⟨fun a o e _ => h a o e, fun P ⟨ps, e, t⟩ => ⟨ps, h _ _ e, t⟩⟩
theorem Sm.new {H : Hp} {p : Addr} {o : HO} (h : H p = none) : Sm H (upd H p o) := .of_le fun a u e => by rw [upd_ne (ne_of_none e h)]; exact e
theorem Sm.grown {P : Addr} {H H' : Hp} (h0 : TabOk H P) (g : Grown P H H') : Sm H H' := by
  obtain ⟨t, k⟩ := g
  obtain ⟨qs, hq, _⟩ := h0
  refine ⟨fun a o e n => ?_, fun P' h => ?_⟩
  · by_cases ha : a = P
    · rw [ha, hq] at e
      exact absurd (Option.some.inj e).symm (n qs)
    · rw [k a ha]; exact e
  · by_cases hp : P' = P
    · rw [hp]; exact t
    · obtain ⟨ps, e, r⟩ := h
      exact ⟨ps, by rw [k P' hp]; exact e, r⟩
def mask (O : List Addr) (H : Hp) : Hp := fun a => if a ∈ O then none else H a
theorem mask_out {O : List Addr} {H : Hp} {a : Addr} (h : a ∉ O) : mask O H a = H a := if_neg h
theorem mask_in {O : List Addr} {H : Hp} {a : Addr} (h : a ∈ O) : mask O H a = none := if_pos h
theorem mask_some {O : List Addr} {H : Hp} {a : Addr} {o : HO} (h : mask O H a = some o) : H a = some o ∧ a ∉ O := by
  by_cases q : a ∈ O
  · rw [mask_in q] at h; cases h
  · rw [mask_out q] at h; exact ⟨h, q⟩
theorem mask_le (O : List Addr) (H : Hp) : Sm (mask O H) H := .of_le fun _ _ e => (mask_some e).1
theorem mask_sub {O O' : List Addr} {H : Hp} (h : ∀ a ∈ O', a ∈ O) : Sm (mask O H) (mask O' H) := .of_le fun a o e => by
  obtain ⟨e1, e2⟩ := mask_some e
  rw [mask_out (fun q => e2 (h a q))]; exact e1
theorem mask_upd_in {O : List Addr} {H : Hp} {a : Addr} {o : HO} (h : a ∈ O) : mask O (upd H a o) = mask O H := by
  funext b
  by_cases q : b ∈ O
  · rw [mask_in q, mask_in q]
  · rw [mask_out q, mask_out q, upd_ne (fun e => q (by rw [e]; exact h))]
theorem mask_nil (H : Hp) : mask [] H = H := by funext a; exact mask_out (by simp)
theorem mask_upd_out {O : List Addr} {H : Hp} {a : Addr} {o : HO} (h : a ∉ O) : mask O (upd H a o) = upd (mask O H) a o := by
  funext b
  by_cases e : b = a
  · subst e; rw [mask_out h, upd_same, upd_same]
  · rw [upd_ne e]
    by_cases q : b ∈ O
    · rw [mask_in q, mask_in q]
    · rw [mask_out q, mask_out q, upd_ne e]
def Only (r : List (PyData × PyData)) (fs : List (Str × V)) : Prop := ∀ f ∈ fs.map (·.1), ∃ d, (PyData.list [.str f], d) ∈ r
def keyD : Key → PyData
  | .inl i => .int i
  | .inr x => .str x
mutual
def Rp (K : PySem.W.Frag) (H : Hp) : PyData → V → Prop
  | .none, v => v = .non
  | .bool b, v => v = .bl b
  | .int i, v => v = .int i
  | .str x, v => v = .str x
  | .list ds, v => ∃ a xs, v = .ref a ∧ SqL K H a xs ∧ RpL K H ds xs
  | .tuple ds, v => ∃ a xs, v = .ref a ∧ SqT K H a xs ∧ RpL K H ds xs
  | .dict kvs, v => ∃ a, v = .ref a ∧ ((∃ ys : List (Key × V), Rd H a (.dK ys) ∧ RpK K H kvs ys) ∨ (∃ ys : List (List Key × V), Rd H a (.dT ys) ∧ RpT K H kvs ys) ∨
      (∃ (b : Addr) (ys : List (NestedKey × Addr × V)), Rd H a (.ext (NdX b ys)) ∧ RpN K H kvs ys) ∨ ∃ C dx fs, H a = some (.ins C dx fs) ∧ RpI K H kvs C fs)
def RpL (K : PySem.W.Frag) (H : Hp) : List PyData → List V → Prop
  | [], vs => vs = []
  | d :: ds, vs => ∃ v r, vs = v :: r ∧ Rp K H d v ∧ RpL K H ds r
def RpK (K : PySem.W.Frag) (H : Hp) : List (PyData × PyData) → List (Key × V) → Prop
  | [], ys => ys = []
  | (k, d) :: r, ys => ∃ q y s, ys = (q, y) :: s ∧ k = keyD q ∧ Rp K H d y ∧ RpK K H r s
def RpT (K : PySem.W.Frag) (H : Hp) : List (PyData × PyData) → List (List Key × V) → Prop
  | [], ys => ys = []
  | (k, d) :: r, ys => ∃ q y s, ys = (q, y) :: s ∧ k = .tuple (q.map keyD) ∧ Rp K H d y ∧ RpT K H r s
def RpN (K : PySem.W.Frag) (H : Hp) : List (PyData × PyData) → List (NestedKey × Addr × V) → Prop
  | [], ys => ys = []
  | (.list [k], d) :: r, ys => ∃ q b y s, ys = (q, b, y) :: s ∧ k = q.data ∧ Rp K H k (.ref b) ∧ Rp K H d y ∧ RpN K H r s
  | _ :: _, _ => False
def RpI (K : PySem.W.Frag) (H : Hp) : List (PyData × PyData) → Addr → List (Str × V) → Prop
  | (.none, .str c) :: r, C, fs => PySem.W.nsIn K mainGlobals c = some (some (.ref C)) ∧ RpF K H r fs ∧ Only r fs
  | _, _, _ => False
def RpF (K : PySem.W.Frag) (H : Hp) : List (PyData × PyData) → List (Str × V) → Prop
  | [], _ => True
  | (.list [.str f], d) :: r, fs => (∃ y, fs.lookup f = some y ∧ Rp K H d y) ∧ RpF K H r fs
  | _ :: _, _ => False
end
theorem rd_sm {H H' : Hp} {a : Addr} {u : HO} (e : Sm H H') (n : ∀ ps, u ≠ .tbl ps) (h : Rd H a u) : Rd H' a u := by
  rcases h with h | ⟨o, h⟩
  · exact .inl (e.1 _ _ h n)
  · exact .inr ⟨o, e.1 _ _ h (fun ps z => by cases z)⟩
theorem sqL_sm {K : PySem.W.Frag} {H H' : Hp} {a : Addr} {xs : List V} (e : Sm H H') (h : SqL K H a xs) : SqL K H' a xs := by
  rcases h with h | h
  · exact .inl (rd_sm e (fun ps z => by cases z) h)
  · exact .inr h
theorem sqT_sm {K : PySem.W.Frag} {H H' : Hp} {a : Addr} {xs : List V} (e : Sm H H') (h : SqT K H a xs) : SqT K H' a xs := by
  rcases h with h | h
  · exact .inl (rd_sm e (fun ps z => by cases z) h)
  · exact .inr h
section
variable {K : PySem.W.Frag} {H H' : Hp}
mutual
theorem Rp.sm (e : Sm H H') : ∀ (d : PyData) (v : V), Rp K H d v → Rp K H' d v
  | .none, _, h => h
  | .bool _, _, h => h
  | .int _, _, h => h
  | .str _, _, h => h
  | .list ds, _, h => by
    simp only [Rp] at h ⊢
    obtain ⟨a, xs, h1, h2, h3⟩ := h
    exact ⟨a, xs, h1, sqL_sm e h2, RpL.sm e ds xs h3⟩
  | .tuple ds, _, h => by
    simp only [Rp] at h ⊢
    obtain ⟨a, xs, h1, h2, h3⟩ := h
    exact ⟨a, xs, h1, sqT_sm e h2, RpL.sm e ds xs h3⟩
  | .dict kvs, _, h => by
    simp only [Rp] at h ⊢
    obtain ⟨a, h1, h2⟩ := h
    refine ⟨a, h1, ?_⟩
    rcases h2 with ⟨ys, r, q⟩ | ⟨ys, r, q⟩ | ⟨b, ys, r, q⟩ | ⟨C, dx, fs, r, q⟩
    · exact .inl ⟨ys, rd_sm e (fun ps z => by cases z) r, RpK.sm e kvs ys q⟩
    · exact .inr (.inl ⟨ys, rd_sm e (fun ps z => by cases z) r, RpT.sm e kvs ys q⟩)
    · exact .inr (.inr (.inl ⟨b, ys, rd_sm e (fun ps z => by cases z) r, RpN.sm e kvs ys q⟩))
    · exact .inr (.inr (.inr ⟨C, dx, fs, e.1 _ _ r (fun ps z => by cases z), RpI.sm e kvs C fs q⟩))
theorem RpL.sm (e : Sm H H') : ∀ (ds : List PyData) (vs : List V), RpL K H ds vs → RpL K H' ds vs
  | [], _, h => h
  | d :: ds, _, h => by
    simp only [RpL] at h ⊢
    obtain ⟨v, r, h1, h2, h3⟩ := h
    exact ⟨v, r, h1, Rp.sm e d v h2, RpL.sm e ds r h3⟩
theorem RpK.sm (e : Sm H H') : ∀ (ds : List (PyData × PyData)) (vs : List (Key × V)), RpK K H ds vs → RpK K H' ds vs
  | [], _, h => h
  | (k, d) :: ds, _, h => by
    simp only [RpK] at h ⊢
    obtain ⟨q, y, s, h1, h2, h3, h4⟩ := h
    exact ⟨q, y, s, h1, h2, Rp.sm e d y h3, RpK.sm e ds s h4⟩
theorem RpT.sm (e : Sm H H') : ∀ (ds : List (PyData × PyData)) (vs : List (List Key × V)), RpT K H ds vs → RpT K H' ds vs
  | [], _, h => h
  | (k, d) :: ds, _, h => by
    simp only [RpT] at h ⊢
    obtain ⟨q, y, s, h1, h2, h3, h4⟩ := h
    exact ⟨q, y, s, h1, h2, Rp.sm e d y h3, RpT.sm e ds s h4⟩
theorem RpN.sm (e : Sm H H') : ∀ (ds : List (PyData × PyData)) (vs : List (NestedKey × Addr × V)), RpN K H ds vs → RpN K H' ds vs
  | [], _, h => h
  | (k, d) :: r, ys, h => by
    unfold RpN at h ⊢
    split at h
    · rename_i e1; cases e1
    · rename_i k' d' r' e1
      cases e1
      obtain ⟨q, b, y, s, h1, h2, h3, h4, h5⟩ := h
      exact ⟨q, b, y, s, h1, h2, Rp.sm e k' _ h3, Rp.sm e d y h4, RpN.sm e r s h5⟩
    · exact h.elim
theorem RpI.sm (e : Sm H H') : ∀ (ds : List (PyData × PyData)) (C : Addr) (fs : List (Str × V)), RpI K H ds C fs → RpI K H' ds C fs
  | [], _, _, h => by simp only [RpI] at h
  | (k, d) :: r, C, fs, h => by
    unfold RpI at h ⊢
    split at h
    · rename_i c r' e1
      cases e1
      exact ⟨h.1, RpF.sm e r _ h.2.1, h.2.2⟩
    · exact h.elim
theorem RpF.sm (e : Sm H H') : ∀ (ds : List (PyData × PyData)) (fs : List (Str × V)), RpF K H ds fs → RpF K H' ds fs
  | [], _, h => by simp only [RpF]
  | (k, d) :: r, fs, h => by
    unfold RpF at h ⊢
    split at h
    · rename_i e1; cases e1
    · rename_i f d' r' e1
      cases e1
      obtain ⟨⟨y, h1, h2⟩, h3⟩ := h
      exact ⟨⟨y, h1, Rp.sm e d y h2⟩, RpF.sm e r _ h3⟩
    · exact h.elim
end
end
theorem rpl_nil {K : PySem.W.Frag} {H : Hp} : RpL K H [] [] := by simp only [RpL]
theorem rpl_cons {K : PySem.W.Frag} {H : Hp} {d : PyData} {ds : List PyData} {v : V} {vs : List V} (h : Rp K H d v) (r : RpL K H ds vs) : RpL K H (d :: ds) (v :: vs) := by
  simp only [RpL] ; exact ⟨v, vs, rfl, h, r⟩
theorem rpl_len {K : PySem.W.Frag} {H : Hp} : ∀ {ds : List PyData} {vs : List V}, RpL K H ds vs → ds.length = vs.length
  | [], _, h => by simp only [RpL] at h; subst h; rfl
  | d :: ds, _, h => by
    simp only [RpL] at h
    obtain ⟨v, r, rfl, _, h3⟩ := h
    simp [rpl_len h3]
theorem rpl_get {K : PySem.W.Frag} {H : Hp} : ∀ {ds : List PyData} {vs : List V} {i : Nat} {d : PyData}, RpL K H ds vs → ds[i]? = some d → ∃ v, vs[i]? = some v ∧ Rp K H d v
  | [], _, _, _, _, e => by simp at e
  | d :: ds, _, 0, d', h, e => by
    simp only [RpL] at h
    obtain ⟨v, r, rfl, h2, _⟩ := h
    have : d = d' := by simpa using e
    subst this
    exact ⟨v, rfl, h2⟩
  | d :: ds, _, i + 1, d', h, e => by
    simp only [RpL] at h
    obtain ⟨v, r, rfl, _, h3⟩ := h
    obtain ⟨w, e1, e2⟩ := rpl_get (i := i) (d := d') h3 (by simpa using e)
    exact ⟨w, by simpa using e1, e2⟩
theorem rpl_app {K : PySem.W.Frag} {H : Hp} : ∀ {ds es : List PyData} {vs ws : List V}, RpL K H ds vs → RpL K H es ws → RpL K H (ds ++ es) (vs ++ ws)
  | [], _, _, _, h, g => by simp only [RpL] at h; subst h; exact g
  | d :: ds, _, _, _, h, g => by
    simp only [RpL] at h
    obtain ⟨v, r, rfl, h2, h3⟩ := h
    exact rpl_cons h2 (rpl_app h3 g)
theorem rpl_set {K : PySem.W.Frag} {H : Hp} {d : PyData} {v : V} (h : Rp K H d v) : ∀ {ds : List PyData} {vs : List V} (i : Nat), RpL K H ds vs → RpL K H (ds.set i d) (vs.set i v)
  | [], _, _, g => by simp only [RpL] at g; subst g; simp only [List.set_nil]; exact rpl_nil
  | e :: ds, _, 0, g => by
    simp only [RpL] at g
    obtain ⟨w, r, rfl, _, h3⟩ := g
    exact rpl_cons h h3
  | e :: ds, _, i + 1, g => by
    simp only [RpL] at g
    obtain ⟨w, r, rfl, h2, h3⟩ := g
    exact rpl_cons h2 (rpl_set h i h3)
theorem rpl_take {K : PySem.W.Frag} {H : Hp} : ∀ {ds : List PyData} {vs : List V} (n : Nat), RpL K H ds vs → RpL K H (ds.take n) (vs.take n)
  | _, _, 0, _ => rpl_nil
  | [], _, n + 1, g => by simp only [RpL] at g; subst g; exact rpl_nil
  | d :: ds, _, n + 1, g => by
    simp only [RpL] at g
    obtain ⟨w, r, rfl, h2, h3⟩ := g
    exact rpl_cons h2 (rpl_take n h3)
theorem rpl_drop {K : PySem.W.Frag} {H : Hp} : ∀ {ds : List PyData} {vs : List V} (n : Nat), RpL K H ds vs → RpL K H (ds.drop n) (vs.drop n)
  | _, _, 0, g => g
  | [], _, n + 1, g => by simp only [RpL] at g; subst g; exact rpl_nil
  | d :: ds, _, n + 1, g => by
    simp only [RpL] at g
    obtain ⟨w, r, rfl, h2, h3⟩ := g
    exact rpl_drop (ds := ds) (vs := r) n h3
def flat : PyData → Bool
  | .list _ => false
  | .dict _ => false
  | .tuple ds => flats ds
  | _ => true
where flats : List PyData → Bool
  | [] => true
  | d :: ds => flat d && flats ds
section
variable {K : PySem.W.Frag} {H : Hp} {O : List Addr}
def MutAll (O : List Addr) (H : Hp) : Prop := ∀ l ∈ O, Mut (H l)
mutual
theorem rp_flat (m : MutAll O H) : ∀ (d : PyData) (v : V), flat d = true → Rp K H d v → Rp K (mask O H) d v
  | .none, _, _, h => h
  | .bool _, _, _, h => h
  | .int _, _, _, h => h
  | .str _, _, _, h => h
  | .list ds, _, f, h => by simp [flat] at f
  | .dict kvs, _, f, h => by simp [flat] at f
  | .tuple ds, _, f, h => by
    simp only [Rp] at h ⊢
    obtain ⟨a, xs, h1, h2, h3⟩ := h
    refine ⟨a, xs, h1, ?_, rpl_flat m ds xs (by simpa only [flat] using f) h3⟩
    rcases h2 with (h2 | ⟨o, h2⟩) | h2
    · refine .inl (.inl ?_)
      rw [mask_out]
      · exact h2
      · intro q
        have := m a q
        rw [h2] at this
        exact this
    · refine .inl (.inr ⟨o, ?_⟩)
      rw [mask_out]
      · exact h2
      · intro q
        have := m a q
        rw [h2] at this
        exact this
    · exact .inr h2
theorem rpl_flat (m : MutAll O H) : ∀ (ds : List PyData) (vs : List V), flat.flats ds = true → RpL K H ds vs → RpL K (mask O H) ds vs
  | [], _, _, h => h
  | d :: ds, _, f, h => by
    simp only [RpL] at h ⊢
    obtain ⟨v, r, h1, h2, h3⟩ := h
    simp only [flat.flats, Bool.and_eq_true] at f
    exact ⟨v, r, h1, rp_flat m d v f.1 h2, rpl_flat m ds r f.2 h3⟩
end
end
abbrev Ga := List (Option PyData)
inductive Er where
  | own (c : Str)
  | fld (c f : Str) (d : PyData)
abbrev Res := Except Er PyData
structure Cb where
  K : PySem.W.Frag
  mg : Str → Option Value
  Ts : List Addr
structure Ob where
  sl : Nat
  ad : Addr
  cls : Addr
  fs : List (Str × Nat)
structure Cf extends Cb where
  fl : List Nat
  pin : List (Nat × V) := []
  ob : List Ob := []
abbrev Cf.oba (C : Cf) : List Addr := C.ob.map (·.ad)
abbrev Cf.free (C : Cf) (i : Nat) : Bool := (C.pin.all fun p => p.1 != i) && C.ob.all fun q => q.sl != i && q.fs.all fun p => p.2 != i
abbrev Cf.plain (C : Cf) (i : Nat) : Bool := !C.fl.contains i && C.free i
structure Cf.Off (C : Cf) (i : Nat) : Prop where
  pn : ∀ p ∈ C.pin, p.1 ≠ i
  ob : ∀ q ∈ C.ob, q.sl ≠ i ∧ ∀ p ∈ q.fs, p.2 ≠ i
theorem nfl {C : Cf} {i : Nat} (h : C.fl.contains i = false) : i ∉ C.fl := fun q => by
  have : C.fl.contains i = true := by simpa using q
  rw [h] at this
  cases this
theorem yfl {C : Cf} {i : Nat} (h : C.fl.contains i = true) : i ∈ C.fl := by simpa using h
theorem npn {C : Cf} {i : Nat} (h : C.free i = true) : C.Off i := by
  have h' := (Bool.and_eq_true _ _ ▸ h : _ ∧ _)
  refine ⟨fun p hp => ?_, fun q hq => ?_⟩
  · have := List.all_eq_true.mp h'.1 p hp
    simpa using this
  · have h2 := List.all_eq_true.mp h'.2 q hq
    have h3 := (Bool.and_eq_true _ _ ▸ h2 : _ ∧ _)
    refine ⟨by simpa using h3.1, fun p hp => ?_⟩
    have := List.all_eq_true.mp h3.2 p hp
    simpa using this
theorem pl1 {C : Cf} {i : Nat} (h : C.plain i = true) : i ∉ C.fl := nfl (by
  have := (Bool.and_eq_true _ _ ▸ h : _ ∧ _).1
  simpa using this)
theorem pl2 {C : Cf} {i : Nat} (h : C.plain i = true) : C.Off i := npn (Bool.and_eq_true _ _ ▸ h : _ ∧ _).2
def ow1 (σ : L2.St) (Γ : Ga) (i : Nat) : Option Addr := match Γ[i]? with
  | some (some _) => (match σ[i]? with
    | some (some (.ref l)) => some l
    | _ => none)
  | _ => none
def ow (fl : List Nat) (Ox : List Addr) (σ : L2.St) (Γ : Ga) : List Addr := fl.filterMap (ow1 σ Γ) ++ Ox
def Cel (K : PySem.W.Frag) (H : Hp) (d : PyData) (o : HO) : Prop := match d with
  | .list ds => ∃ xs, o = .lst xs ∧ RpL K H ds xs
  | .dict kvs => (∃ ys, o = .dK ys ∧ RpK K H kvs ys) ∨ (∃ ys, o = .dT ys ∧ kvs ≠ [] ∧ RpT K H kvs ys) ∨ ∃ b ys, o = .ext (NdX b ys) ∧ kvs ≠ [] ∧ RpN K H kvs ys
  | _ => False
theorem Cel.sm {K : PySem.W.Frag} {H H' : Hp} (e : Sm H H') {d : PyData} {o : HO} (h : Cel K H d o) : Cel K H' d o := by
  cases d with
  | list ds => obtain ⟨xs, h1, h2⟩ := h; exact ⟨xs, h1, RpL.sm e _ _ h2⟩
  | dict kvs =>
    rcases h with ⟨ys, h1, h2⟩ | ⟨ys, h1, h0, h2⟩ | ⟨b, ys, h1, h0, h2⟩
    · exact .inl ⟨ys, h1, RpK.sm e _ _ h2⟩
    · exact .inr (.inl ⟨ys, h1, h0, RpT.sm e _ _ h2⟩)
    · exact .inr (.inr ⟨b, ys, h1, h0, RpN.sm e _ _ h2⟩)
  | none => exact h
  | bool _ => exact h
  | int _ => exact h
  | str _ => exact h
  | tuple _ => exact h
theorem Cel.mut {K : PySem.W.Frag} {H : Hp} {d : PyData} {o : HO} (h : Cel K H d o) : Mut (some o) := by
  cases d with
  | list ds => obtain ⟨xs, rfl, h2⟩ := h; trivial
  | dict kvs =>
    rcases h with ⟨ys, rfl, h2⟩ | ⟨ys, rfl, h0, h2⟩ | ⟨b, ys, rfl, h0, h2⟩
    · trivial
    · trivial
    · trivial
  | none => exact h.elim
  | bool _ => exact h.elim
  | int _ => exact h.elim
  | str _ => exact h.elim
  | tuple _ => exact h.elim
theorem Cel.rp {K : PySem.W.Frag} {H : Hp} {d : PyData} {o : HO} {l : Addr} (h : Cel K H d o) (hl : H l = some o) : Rp K H d (.ref l) := by
  cases d with
  | list ds =>
    obtain ⟨xs, rfl, h2⟩ := h
    simp only [Rp]
    exact ⟨l, xs, rfl, .inl (.inl hl), h2⟩
  | dict kvs =>
    simp only [Rp]
    rcases h with ⟨ys, rfl, h2⟩ | ⟨ys, rfl, h0, h2⟩ | ⟨b, ys, rfl, h0, h2⟩
    · exact ⟨l, rfl, .inl ⟨ys, .inl hl, h2⟩⟩
    · exact ⟨l, rfl, .inr (.inl ⟨ys, .inl hl, h2⟩)⟩
    · exact ⟨l, rfl, .inr (.inr (.inl ⟨b, ys, .inl hl, h2⟩))⟩
  | none => exact h.elim
  | bool _ => exact h.elim
  | int _ => exact h.elim
  | str _ => exact h.elim
  | tuple _ => exact h.elim
def ObR (σ : L2.St) (H : Hp) (Ox : List Addr) (q : Ob) : Prop := ∃ a dx fs, σ[q.sl]? = some (some (.ref a)) ∧ (a ∈ Ox ∧ a = q.ad) ∧ H a = some (.ins q.cls dx fs) ∧ (∀ p ∈ q.fs, σ[p.2]? = some (fs.lookup p.1)) ∧ (∀ f ∈ fs.map (·.1), ∃ j, (f, j) ∈ q.fs) ∧ (fs.map (·.1)).Nodup
theorem ObR.set {σ : L2.St} {H : Hp} {Ox : List Addr} {q : Ob} (h : ObR σ H Ox q) {i : Nat} {v : Option V} (h1 : q.sl ≠ i) (h2 : ∀ p ∈ q.fs, p.2 ≠ i) : ObR (σ.set i v) H Ox q := by
  obtain ⟨a, dx, fs, e1, e2, e3, e4, e5⟩ := h
  exact ⟨a, dx, fs, by rw [List.getElem?_set_ne (Ne.symm h1)]; exact e1, e2, e3, fun p hp => by rw [List.getElem?_set_ne (Ne.symm (h2 p hp))]; exact e4 p hp, e5⟩
theorem ObR.at {σ : L2.St} {H H' : Hp} {Ox Ox' : List Addr} {q : Ob} (h : ObR σ H Ox q) (k : ∀ a ∈ Ox, (∃ C dx fs, H a = some (.ins C dx fs)) → H' a = H a) (s : ∀ a ∈ Ox, a ∈ Ox') : ObR σ H' Ox' q := by
  obtain ⟨a, dx, fs, e1, e2, e3, e4⟩ := h
  exact ⟨a, dx, fs, e1, ⟨s a e2.1, e2.2⟩, (k a e2.1 ⟨_, _, _, e3⟩).trans e3, e4⟩
structure EnvR (C : Cf) (H0 : Hp) (Ox : List Addr) (σ : L2.St) (Γ : Ga) (H : Hp) : Prop where
  len : σ.length = Γ.length
  tabs : ∀ P ∈ C.Ts, TabOk H0 P
  sm : Sm H0 (mask (ow C.fl C.oba σ Γ) H)
  val : ∀ (i : Nat) (d : PyData), Γ[i]? = some (some d) → i ∉ C.fl → ∃ v, σ[i]? = some (some v) ∧ Rp C.K (mask (ow C.fl Ox σ Γ) H) d v
  own : ∀ (i : Nat) (d : PyData), Γ[i]? = some (some d) → i ∈ C.fl → ∃ l o, σ[i]? = some (some (.ref l)) ∧ H l = some o ∧ Cel C.K (mask (ow C.fl Ox σ Γ) H) d o ∧ l ∉ Ox
  apart : ∀ (i j : Nat) (l : Addr), i ∈ C.fl → j ∈ C.fl → ow1 σ Γ i = some l → ow1 σ Γ j = some l → i = j
  ox : MutAll Ox H
  pn : ∀ p ∈ C.pin, σ[p.1]? = some (some p.2)
  ob : ∀ q ∈ C.ob, ObR σ H Ox q
def Stp (O : List Addr) (H H' : Hp) : Prop := Sm (mask O H) (mask O H') ∧ ∀ l ∈ O, H' l = H l
theorem Stp.refl (O : List Addr) (H : Hp) : Stp O H H := ⟨Sm.refl _, fun _ _ => rfl⟩
theorem Stp.trans {O : List Addr} {H H1 H2 : Hp} (a : Stp O H H1) (b : Stp O H1 H2) : Stp O H H2 := ⟨a.1.trans b.1, fun l hl => (b.2 l hl).trans (a.2 l hl)⟩
theorem Stp.sm {O : List Addr} {H H' : Hp} (a : Stp O H H') (m : MutAll O H) : Sm H H' := by
  refine ⟨fun b o e n => ?_, fun P h => ?_⟩
  · by_cases q : b ∈ O
    · rw [a.2 b q]; exact e
    · have := a.1.1 b o (by rw [mask_out q]; exact e) n
      exact (mask_some this).1
  · obtain ⟨ps, e, t⟩ := h
    have q : P ∉ O := fun q => by
      have := m P q
      rw [e] at this
      exact this
    obtain ⟨qs, e2, t2⟩ := a.1.2 P ⟨ps, by rw [mask_out q]; exact e, t⟩
    exact ⟨qs, (mask_some e2).1, t2⟩
theorem Stp.of_sm {O : List Addr} {H H' : Hp} (e : Sm H H') (m : MutAll O H) : Stp O H H' := by
  have k : ∀ l ∈ O, H' l = H l := fun l hl => by
    have h1 := m l hl
    cases q : H l with
    | none => rw [q] at h1; exact h1.elim
    | some o =>
      refine e.1 l o q fun ps z => ?_
      rw [q, z] at h1
      exact h1
  refine ⟨⟨fun b o h n => ?_, fun P ⟨ps, h, t⟩ => ?_⟩, k⟩
  · obtain ⟨h1, h2⟩ := mask_some h
    rw [mask_out h2]; exact e.1 b o h1 n
  · obtain ⟨h1, h2⟩ := mask_some h
    obtain ⟨qs, e1, t1⟩ := e.2 P ⟨ps, h1, t⟩
    exact ⟨qs, by rw [mask_out h2]; exact e1, t1⟩
theorem Stp.mut {O : List Addr} {H H' : Hp} (a : Stp O H H') (m : MutAll O H) : MutAll O H' := fun l hl => by rw [a.2 l hl]; exact m l hl
theorem Stp.new {O : List Addr} {H : Hp} {p : Addr} {o : HO} (m : MutAll O H) (h : H p = none) : Stp O H (upd H p o) := .of_sm (.new h) m
theorem not_own {O : List Addr} {H : Hp} {p : Addr} (m : MutAll O H) (h : H p = none) : p ∉ O := fun q => by
  have := m p q
  rw [h] at this
  exact this
section
variable {C : Cf} {H0 H1 H H' : Hp} {Ox : List Addr} {σ : L2.St} {Γ : Ga}
theorem ow_some {i : Nat} {l : Addr} (h : ow1 σ Γ i = some l) : (∃ d, Γ[i]? = some (some d)) ∧ σ[i]? = some (some (.ref l)) := by
  unfold ow1 at h
  split at h
  · rename_i d hd
    refine ⟨⟨d, hd⟩, ?_⟩
    split at h
    · rename_i l' hl
      cases h
      exact hl
    · cases h
  · cases h
theorem ow_of {i : Nat} {d : PyData} {l : Addr} (h1 : Γ[i]? = some (some d)) (h2 : σ[i]? = some (some (.ref l))) : ow1 σ Γ i = some l := by
  unfold ow1 ; rw [h1, h2]
theorem mem_ow {l : Addr} : l ∈ ow C.fl Ox σ Γ ↔ (∃ i ∈ C.fl, ow1 σ Γ i = some l) ∨ l ∈ Ox := by
  unfold ow
  rw [List.mem_append, List.mem_filterMap]
theorem EnvR.mut (E : EnvR C H0 Ox σ Γ H) : MutAll (ow C.fl Ox σ Γ) H := fun l hl => by
  rcases mem_ow.mp hl with ⟨i, hi, h⟩ | h
  · obtain ⟨⟨d, h1⟩, h2⟩ := ow_some h
    obtain ⟨l', o, e1, e2, e3, _⟩ := E.own i d h1 hi
    rw [h2] at e1
    cases e1
    rw [e2]
    exact e3.mut
  · exact E.ox l h
structure Ows (O Ox : List Addr) (H : Hp) : Prop where
  mu : MutAll O H
  sub : ∀ a ∈ Ox, a ∈ O
theorem EnvR.ows (E : EnvR C H0 Ox σ Γ H) : Ows (ow C.fl Ox σ Γ) Ox H := ⟨E.mut, fun a ha => mem_ow.mpr (.inr ha)⟩
theorem EnvR.obs (E : EnvR C H0 Ox σ Γ H) : ∀ a ∈ C.oba, a ∈ Ox := fun a h => by
  obtain ⟨q, hq, rfl⟩ := List.mem_map.mp h
  obtain ⟨a, dx, fs, e1, e2, e3, e4⟩ := E.ob q hq
  rw [← e2.2]; exact e2.1
theorem ow_sub {C : Cf} (hs : ∀ a ∈ C.oba, a ∈ Ox) : ∀ a ∈ ow C.fl C.oba σ Γ, a ∈ ow C.fl Ox σ Γ := fun a h => by
  unfold ow at h ⊢
  rcases List.mem_append.mp h with q | q
  · exact List.mem_append_left _ q
  · exact List.mem_append_right _ (hs a q)
theorem sm_mask {O : List Addr} {H H' : Hp} (k : Sm H H') : Sm (mask O H) (mask O H') := by
  refine ⟨fun b o h n => ?_, fun b ⟨ps, h, t⟩ => ?_⟩
  · obtain ⟨h1, h2⟩ := mask_some h
    rw [mask_out h2]; exact k.1 b o h1 n
  · obtain ⟨h1, h2⟩ := mask_some h
    obtain ⟨qs, e1, t1⟩ := k.2 b ⟨ps, h1, t⟩
    exact ⟨qs, by rw [mask_out h2]; exact e1, t1⟩
theorem mask_step {P O : List Addr} {H H' : Hp} (s : Stp O H H') (mu : MutAll O H) (sub : ∀ a ∈ P, a ∈ O) : Sm (mask P H) (mask P H') := sm_mask (s.sm mu)
theorem mask_two {C : Cf} (hs : ∀ a ∈ C.oba, a ∈ Ox) : mask Ox (mask (ow C.fl C.oba σ Γ) H) = mask (ow C.fl Ox σ Γ) H := by
  funext a
  have e : a ∈ ow C.fl Ox σ Γ ↔ a ∈ ow C.fl C.oba σ Γ ∨ a ∈ Ox := by
    unfold ow
    rw [List.mem_append, List.mem_append]
    exact ⟨fun z => z.elim (fun y => .inl (.inl y)) .inr, fun z => z.elim (fun y => y.elim .inl fun y => .inr (hs a y)) .inr⟩
  by_cases h1 : a ∈ Ox
  · rw [mask_in h1, mask_in (e.mpr (.inr h1))]
  · rw [mask_out h1]
    by_cases h2 : a ∈ ow C.fl C.oba σ Γ
    · rw [mask_in h2, mask_in (e.mpr (.inl h2))]
    · rw [mask_out h2, mask_out fun q => (e.mp q).elim h2 h1]
theorem EnvR.step (E : EnvR C H0 Ox σ Γ H) (s : Stp (ow C.fl Ox σ Γ) H H') : EnvR C H0 Ox σ Γ H' := by
  refine ⟨E.len, E.tabs, E.sm.trans (mask_step s E.mut (ow_sub E.obs)), fun i d h n => ?_, fun i d h n => ?_, E.apart, fun l hl => ?_, E.pn, fun q hq => (E.ob q hq).at (fun a ha _ => s.2 a (mem_ow.mpr (.inr ha))) fun _ h => h⟩
  · obtain ⟨v, e1, e2⟩ := E.val i d h n
    exact ⟨v, e1, e2.sm s.1⟩
  · obtain ⟨l, o, e1, e2, e3, e4⟩ := E.own i d h n
    exact ⟨l, o, e1, by rw [s.2 l (mem_ow.mpr (.inl ⟨i, n, ow_of h e1⟩))]; exact e2, e3.sm s.1, e4⟩
  · rw [s.2 l (mem_ow.mpr (.inr hl))]; exact E.ox l hl
theorem EnvR.rebase (E : EnvR C H0 Ox σ Γ H) : EnvR C (mask (ow C.fl C.oba σ Γ) H) Ox σ Γ H := ⟨E.len, fun P h => E.sm.2 P (E.tabs P h), Sm.refl _, E.val, E.own, E.apart, E.ox, E.pn, E.ob⟩
theorem EnvR.base (E : EnvR C H1 Ox σ Γ H) (h : Sm H0 H1) (t : ∀ P ∈ C.Ts, TabOk H0 P) : EnvR C H0 Ox σ Γ H := ⟨E.len, t, h.trans E.sm, E.val, E.own, E.apart, E.ox, E.pn, E.ob⟩
theorem EnvR.all (E : EnvR C H0 Ox σ Γ H) : Sm (mask Ox H0) (mask (ow C.fl Ox σ Γ) H) := by
  rw [← mask_two E.obs]
  exact sm_mask E.sm
end
end Z
set_option Elab.async false
set_option linter.all false
set_option maxRecDepth 100000
set_option maxHeartbeats 4000000
namespace Z
open PySem PySem.Spec PyProof.Rows L2
abbrev PX := Ga → Option Res
def cv (mg : Str → Option Value) (c : Str) : Value := (mg c).getD .none
def ErW (C : Cf) (W : WX) (σ : L2.St) (e : Er) (H : Hp) : Prop := match e with
  | .own c => W (cv C.mg c) none σ H
  | .fld c f d => ∀ dd v, H dd = none → Rp C.K H d v → W (cv C.mg c) (some dd) σ (upd H dd (.xd [(f, v)]))
inductive Md where
  | st | mid | rd
def hm (m : Md) (O Ox : List Addr) (H : Hp) : Hp := match m with
  | .st => mask O H
  | .mid => mask Ox H
  | .rd => H
theorem hm_sm {m : Md} {O Ox : List Addr} {H H' : Hp} (s : Stp O H H') (mu : Ows O Ox H) : Sm (hm m O Ox H) (hm m O Ox H') := by
  cases m with
  | st => exact s.1
  | mid => exact mask_step s mu.mu mu.sub
  | rd => exact s.sm mu.mu
theorem hm_le {m : Md} {O Ox : List Addr} {H : Hp} : Sm (hm m O Ox H) H := by
  cases m with
  | st => exact mask_le _ _
  | mid => exact mask_le _ _
  | rd => exact .refl _
theorem hm_lt {m : Md} {O Ox : List Addr} {H : Hp} (mu : Ows O Ox H) : Sm (mask O H) (hm m O Ox H) := by
  cases m with
  | st => exact .refl _
  | mid => exact mask_sub mu.sub
  | rd => exact mask_le _ _
theorem hm_new {m : Md} {O Ox : List Addr} {H : Hp} {p : Addr} {o : HO} (mu : Ows O Ox H) (h : H p = none) : hm m O Ox (upd H p o) = upd (hm m O Ox H) p o := by
  have n := not_own mu.mu h
  cases m with
  | st => exact mask_upd_out n
  | mid => exact mask_upd_out fun q => n (mu.sub p q)
  | rd => rfl
theorem hm_none {m : Md} {O Ox : List Addr} {H : Hp} {p : Addr} (mu : Ows O Ox H) (h : H p = none) : hm m O Ox H p = none := by
  have n := not_own mu.mu h
  cases m with
  | st => exact (mask_out n).trans h
  | mid => exact (mask_out fun q => n (mu.sub p q)).trans h
  | rd => exact h
theorem Stp.ows {O Ox : List Addr} {H H' : Hp} (a : Stp O H H') (m : Ows O Ox H) : Ows O Ox H' := ⟨a.mut m.mu, m.sub⟩
def Ev (C : Cf) (W : WX) (m : Md) (te : TE) (f : PX) : Prop := ∀ Γ r, f Γ = some r → ∀ H0 Ox σ H, EnvR C H0 Ox σ Γ H → ∀ Q : VK,
  (match r with
    | .ok d => ∀ v H', Stp (ow C.fl Ox σ Γ) H H' → Rp C.K (hm m (ow C.fl Ox σ Γ) Ox H') d v → Q v H'
    | .error e => ∀ H', Stp (ow C.fl Ox σ Γ) H H' → ErW C W σ e H') → te σ H Q
def EvF (C : Cf) (W : WX) (m : Md) (te : TE) (f : PX) : Prop := ∀ Γ r, f Γ = some r → ∀ H0 Ox σ H, EnvR C H0 Ox σ Γ H → ∀ Q : VK,
  (match r with
    | .ok d => ∀ l o H', Stp (ow C.fl Ox σ Γ) H H' → H' l = none → Cel C.K (hm m (ow C.fl Ox σ Γ) Ox H') d o → Q (.ref l) (upd H' l o)
    | .error e => ∀ H', Stp (ow C.fl Ox σ Γ) H H' → ErW C W σ e H') → te σ H Q
abbrev PAx := Ga → Option (Except Er (List PyData))
def EvA (C : Cf) (W : WX) (m : Md) (ta : TA) (f : PAx) : Prop := ∀ Γ r, f Γ = some r → ∀ H0 Ox σ H, EnvR C H0 Ox σ Γ H → ∀ Q : List V → Hp → Prop,
  (match r with
    | .ok ds => ∀ vs H', Stp (ow C.fl Ox σ Γ) H H' → RpL C.K (hm m (ow C.fl Ox σ Γ) Ox H') ds vs → Q vs H'
    | .error e => ∀ H', Stp (ow C.fl Ox σ Γ) H H' → ErW C W σ e H') → ta σ H Q
abbrev PTx := Ga → Option (Except Er Bool)
def EvT (C : Cf) (W : WX) (tt : TT) (f : PTx) : Prop := ∀ Γ r, f Γ = some r → ∀ H0 Ox σ H, EnvR C H0 Ox σ Γ H → ∀ Q : Bool → Hp → Prop,
  (match r with
    | .ok b => ∀ H', Stp (ow C.fl Ox σ Γ) H H' → Q b H'
    | .error e => ∀ H', Stp (ow C.fl Ox σ Γ) H H' → ErW C W σ e H') → tt σ H Q
structure PP (X : Cx) (C : Cf) (W : WX) (m : Md) (e : Expr) (te : TE) (f : PX) : Prop where
  pe : PE X e te
  ev : Ev C W m te f
structure PF (X : Cx) (C : Cf) (W : WX) (m : Md) (e : Expr) (te : TE) (f : PX) : Prop where
  pe : PE X e te
  ev : EvF C W m te f
structure PAr (X : Cx) (C : Cf) (W : WX) (m : Md) (es : List Expr) (ta : TA) (f : PAx) : Prop where
  pe : PA X es ta
  ev : EvA C W m ta f
structure PTt (X : Cx) (C : Cf) (W : WX) (e : Expr) (tt : TT) (f : PTx) : Prop where
  pe : PT X e tt
  ev : EvT C W tt f
section
variable {X : Cx} {C : Cf} {W : WX} {m : Md} {e a b : Expr} {te ta tb : TE} {f fa fb : PX}
theorem ev_to (h : Ev C W .st te f) : Ev C W m te f := fun Γ r hr H0 Ox σ H E Q q => h Γ r hr H0 Ox σ H E Q (by
  cases r with
  | ok d => exact fun v H' s p => q v H' s (p.sm (hm_lt (s.ows E.ows)))
  | error x => exact q)
theorem PP.rd (h : PP X C W .st e te f) : PP X C W m e te f := ⟨h.pe, ev_to h.ev⟩
def onlyFlat (f : PX) : PX := fun Γ => match f Γ with
  | some (.ok d) => if flat d then some (.ok d) else none
  | r => r
theorem PP.st (h : PP X C W .rd e te f) : PP X C W m e te (onlyFlat f) := by
  refine ⟨h.pe, ev_to fun Γ r hr H0 Ox σ H E Q q => ?_⟩
  unfold onlyFlat at hr
  cases hf : f Γ with
  | none => rw [hf] at hr; cases hr
  | some r' =>
    rw [hf] at hr
    cases r' with
    | error x =>
      cases hr
      exact h.ev Γ _ hf H0 Ox σ H E Q q
    | ok d =>
      simp only at hr
      by_cases hd : flat d = true
      · rw [if_pos hd] at hr
        cases hr
        exact h.ev Γ _ hf H0 Ox σ H E Q fun v H' s p => q v H' s (rp_flat (s.mut E.mut) d v hd p)
      · rw [if_neg hd] at hr
        cases hr
theorem evF_ev (h : EvF C W m te f) : Ev C W m te f := fun Γ r hr H0 Ox σ H E Q q => h Γ r hr H0 Ox σ H E Q (by
  cases r with
  | ok d =>
    intro l o H' s hl c
    have mu := s.ows E.ows
    refine q _ _ (s.trans (.new mu.mu hl)) ?_
    rw [hm_new mu hl]
    exact (c.sm (Sm.new (hm_none mu hl))).rp upd_same
  | error x => exact q)
theorem PF.pp (h : PF X C W m e te f) : PP X C W m e te f := ⟨h.pe, evF_ev h.ev⟩
def fV (i : Nat) : PX := fun Γ => match Γ[i]? with
  | some (some d) => some (.ok d)
  | _ => none
def fC (d : PyData) : PX := fun _ => some (.ok d)
theorem fV_some {i : Nat} {Γ : Ga} {r : Res} (h : fV i Γ = some r) : ∃ d, Γ[i]? = some (some d) ∧ r = .ok d := by
  unfold fV at h
  split at h
  · rename_i d hd
    cases h
    exact ⟨d, hd, rfl⟩
  · cases h
theorem pp_var (i : Nat) {x : Str} {pos : Pos} (hfl : C.fl.contains i = false := by rfl) (hN : X.N[i]? = some x := by rfl) (hv : Vis X.env.scope x := by first | exact Or.inl rfl | exact Or.inr (Or.inl rfl) | exact Or.inr (Or.inr rfl)) (hd : (x == ("__debug__" : Str)) = false := by decide)
    (hcd : (x == ("__classdict__" : Str)) = false := by decide) : PP X C W m (.Name x pos) (tVar i) (fV i) := by
  refine ⟨pe_var hN hv hd hcd, ev_to fun Γ r hr H0 Ox σ H E Q q => ?_⟩
  obtain ⟨d, h1, rfl⟩ := fV_some hr
  obtain ⟨v, h2, h3⟩ := E.val i d h1 (nfl hfl)
  exact ⟨v, h2, q v H (.refl _ _) h3⟩
theorem pp_own (i : Nat) {x : Str} {pos : Pos} (hN : X.N[i]? = some x := by rfl) (hv : Vis X.env.scope x := by first | exact Or.inl rfl | exact Or.inr (Or.inl rfl) | exact Or.inr (Or.inr rfl)) (hd : (x == ("__debug__" : Str)) = false := by decide)
    (hcd : (x == ("__classdict__" : Str)) = false := by decide) : PP X C W .mid (.Name x pos) (tVar i) (fV i) := by
  refine ⟨pe_var hN hv hd hcd, fun Γ r hr H0 Ox σ H E Q q => ?_⟩
  obtain ⟨d, h1, rfl⟩ := fV_some hr
  by_cases n : i ∈ C.fl
  · obtain ⟨l, o, e1, e2, e3, e4⟩ := E.own i d h1 n
    exact ⟨.ref l, e1, q _ H (.refl _ _) ((e3.sm (mask_sub E.ows.sub)).rp ((mask_out e4).trans e2))⟩
  · obtain ⟨v, e1, e2⟩ := E.val i d h1 n
    exact ⟨v, e1, q v H (.refl _ _) (e2.sm (mask_sub E.ows.sub))⟩
theorem ev_c {d : PyData} {v : V} (h : ∀ H, Rp C.K H d v) : Ev C W m (tC v) (fC d) := fun Γ r hr H0 Ox σ H E Q q => by
  cases hr
  exact q v H (.refl _ _) (h _)
theorem pp_int {i j pos} : PP X C W m (.Constant (.int i) j pos) (tC (.int i)) (fC (.int i)) := ⟨pe_int, ev_c fun H => by simp only [Rp]⟩
theorem pp_bl {b j pos} : PP X C W m (.Constant (.bool b) j pos) (tC (.bl b)) (fC (.bool b)) := ⟨pe_bl, ev_c fun H => by simp only [Rp]⟩
theorem pp_str {x j pos} : PP X C W m (.Constant (.str x) j pos) (tC (.str x)) (fC (.str x)) := ⟨pe_str, ev_c fun H => by simp only [Rp]⟩
theorem pp_glob {x : Str} {pos : Pos} {d : PyData} {v : V} {u : Value} (hm : X.mg x = some u) (r : RelV v u) (h : ∀ H, Rp C.K H d v) (hg : Gl X x := by rfl) (hd : (x == ("__debug__" : Str)) = false := by decide) : PP X C W m (.Name x pos) (tC v) (fC d) := ⟨pe_glob hg hm r hd, ev_c h⟩
def b1 (f : PX) (g : PyData → Option PyData) : PX := fun Γ => match f Γ with
  | some (.ok d) => (g d).map .ok
  | r => r
def b2 (f h : PX) (g : PyData → PyData → Option PyData) : PX := fun Γ => match f Γ with
  | some (.ok d) => (match h Γ with
    | some (.ok e) => (g d e).map .ok
    | r => r)
  | r => r
theorem ev_two {R : V → V → Hp → Prop} {H0 H : Hp} {Ox : List Addr} {σ : L2.St} {Γ : Ga} {r : Res} {g : PyData → PyData → Option PyData} (ha : Ev C W m ta fa) (hb : Ev C W m tb fb) (E : EnvR C H0 Ox σ Γ H) (hr : b2 fa fb g Γ = some r)
    (h : ∀ d e z, g d e = some z → r = .ok z → ∀ x y H2, Stp (ow C.fl Ox σ Γ) H H2 → EnvR C H0 Ox σ Γ H2 → Rp C.K (hm m (ow C.fl Ox σ Γ) Ox H2) d x → Rp C.K (hm m (ow C.fl Ox σ Γ) Ox H2) e y → R x y H2)
    (he : ∀ x, r = .error x → ∀ H', Stp (ow C.fl Ox σ Γ) H H' → ErW C W σ x H') : ta σ H fun x H1 => tb σ H1 fun y H2 => R x y H2 := by
  unfold b2 at hr
  cases h1 : fa Γ with
  | none => rw [h1] at hr; cases hr
  | some r1 =>
    rw [h1] at hr
    cases r1 with
    | error x =>
      cases hr
      exact ha Γ _ h1 H0 Ox σ H E _ (he x rfl)
    | ok d =>
      refine ha Γ _ h1 H0 Ox σ H E _ fun v H1 s1 p1 => ?_
      simp only at hr
      have E1 := E.step s1
      cases h2 : fb Γ with
      | none => rw [h2] at hr; cases hr
      | some r2 =>
        rw [h2] at hr
        cases r2 with
        | error x =>
          cases hr
          exact hb Γ _ h2 H0 Ox σ H1 E1 _ fun H' s => he x rfl H' (s1.trans s)
        | ok e =>
          refine hb Γ _ h2 H0 Ox σ H1 E1 _ fun u H2 s2 p2 => ?_
          simp only at hr
          cases h3 : g d e with
          | none => rw [h3] at hr; cases hr
          | some z =>
            rw [h3] at hr
            have er : r = .ok z := by cases hr; rfl
            exact h d e z h3 er v u H2 (s1.trans s2) (E1.step s2) (p1.sm (hm_sm s2 E1.ows)) p2
def RB (K : PySem.W.Frag) (m : Md) (r : R2) (g : PyData → PyData → Option PyData) : Prop := ∀ d e z, g d e = some z → ∀ O Ox x y H, Ows O Ox H → Rp K (hm m O Ox H) d x → Rp K (hm m O Ox H) e y → ∀ Q : VK,
  (∀ v H', Stp O H H' → Rp K (hm m O Ox H') z v → Q v H') → r x y H Q
theorem ev_bin {r : R2} {g : PyData → PyData → Option PyData} (ha : Ev C W m ta fa) (hb : Ev C W m tb fb) (hr : RB C.K m r g) : Ev C W m (tOp r ta tb) (b2 fa fb g) := fun Γ r hr' H0 Ox σ H E Q q => by
  refine ev_two ha hb E hr' (fun d e z hz er x y H2 s E2 px py => ?_) fun x ex => ?_
  · subst er
    exact hr d e z hz _ _ x y H2 E2.ows px py Q fun v H' s' p => q v H' (s.trans s') p
  · subst ex
    exact q
theorem ev_one {R : V → Hp → Prop} {H0 H : Hp} {Ox : List Addr} {σ : L2.St} {Γ : Ga} {r : Res} {g : PyData → Option PyData} (ha : Ev C W m ta fa) (E : EnvR C H0 Ox σ Γ H) (hr : b1 fa g Γ = some r)
    (h : ∀ d z, g d = some z → r = .ok z → ∀ x H2, Stp (ow C.fl Ox σ Γ) H H2 → EnvR C H0 Ox σ Γ H2 → Rp C.K (hm m (ow C.fl Ox σ Γ) Ox H2) d x → R x H2)
    (he : ∀ x, r = .error x → ∀ H', Stp (ow C.fl Ox σ Γ) H H' → ErW C W σ x H') : ta σ H R := by
  unfold b1 at hr
  cases h1 : fa Γ with
  | none => rw [h1] at hr; cases hr
  | some r1 =>
    rw [h1] at hr
    cases r1 with
    | error x =>
      cases hr
      exact ha Γ _ h1 H0 Ox σ H E _ (he x rfl)
    | ok d =>
      refine ha Γ _ h1 H0 Ox σ H E _ fun v H1 s1 p1 => ?_
      simp only at hr
      cases h3 : g d with
      | none => rw [h3] at hr; cases hr
      | some z =>
        rw [h3] at hr
        have er : r = .ok z := by cases hr; rfl
        exact h d z h3 er v H1 s1 (E.step s1) p1
def RU (K : PySem.W.Frag) (m : Md) (r : V → Hp → VK → Prop) (g : PyData → Option PyData) : Prop := ∀ d z, g d = some z → ∀ O Ox x H, Ows O Ox H → Rp K (hm m O Ox H) d x → ∀ Q : VK, (∀ v H', Stp O H H' → Rp K (hm m O Ox H') z v → Q v H') → r x H Q
theorem ev_un {ro : V → Hp → VK → Prop} {g : PyData → Option PyData} (ha : Ev C W m ta fa) (hr : RU C.K m ro g) : Ev C W m (tUn ro ta) (b1 fa g) := fun Γ r hr' H0 Ox σ H E Q q => by
  show ta σ H fun x H1 => ro x H1 Q
  refine ev_one ha E hr' (fun d z hz er x H2 s E2 px => ?_) fun x ex => ?_
  · subst er
    exact hr d z hz _ _ x H2 E2.ows px Q fun v H' s' p => q v H' (s.trans s') p
  · subst ex
    exact q
end
end Z
set_option Elab.async false
set_option linter.all false
set_option maxRecDepth 100000
set_option maxHeartbeats 4000000
namespace Z
open PySem PySem.Spec PyProof.Rows L2
abbrev big : Nat := 1000000
theorem big_ok {n : Nat} (h : n ≤ big) : n ≤ sizeLine := Nat.le_trans h (by decide)
section
variable {X : Cx}
def rCatL (K : PySem.W.Frag) : R2 := fun x y H Q => ∃ a b xs ys, x = .ref a ∧ y = .ref b ∧ SqL K H a xs ∧ SqL K H b ys ∧ xs.length + ys.length ≤ sizeLine ∧ ∀ p, H p = none → Q (.ref p) (upd H p (.lst (xs ++ ys)))
theorem op_catL : OpR X (binaryOp .Add) (rCatL X.K) := by
  intro pins s σ H x y v u Q I rx ry h
  obtain ⟨a, b, xs, ys, rfl, rfl, h1, h2, hz, q⟩ := h
  cases rx ; cases ry
  obtain ⟨its, r1, ⟨⟨c1, d1, da1, sl1⟩, n1, e1, q1, q2, q3⟩, z1⟩ := I.list h1
  obtain ⟨jts, r2, ⟨⟨c2, d2, da2, sl2⟩, n2, e2, p1, p2, p3⟩, z2⟩ := I.list h2
  simp only at q1 q2 q3 p1 p2 p3
  subst q1 q2 q3 p1 p2 p3
  have l1 := r1.length ; have l2 := r2.length
  refine concat_meets ⟨_, e1, rfl⟩ ⟨_, e2, rfl⟩ noFill_list_add seq_list_add PySem.F.slot_list_add PySem.F.entry_list_add (PySem.F.args_list_add_2 _ _) (list_addW a b its.toArray jts.toArray n1 n2 none none sl1 sl2 (by rw [List.size_toArray, List.size_toArray]; omega)) ⟨e1, e2, ?_⟩
  have ea : its.toArray ++ jts.toArray = (its ++ jts).toArray := by simp
  rw [ea]
  exact ⟨.ref _, _, I.lnew (t' := s.toks) (r1.append r2) (by rw [List.length_append]; omega), rfl, q _ I.fresh⟩
def rAddX (K : PySem.W.Frag) : R2 := fun x y H Q => rI0 (fun i j => .int (i + j)) x y H Q ∨ (∃ i j, x = .str i ∧ y = .str j ∧ i.length + j.length ≤ sizeLine ∧ Q (.str (i ++ j)) H) ∨ rCatA K x y H Q ∨ rCatL K x y H Q
theorem op_addX : OpR X (binaryOp .Add) (rAddX X.K) := op_add.or (op_add_str.or (op_catA.or op_catL))
def gAdd : PyData → PyData → Option PyData
  | .int i, .int j => some (.int (i + j))
  | .str a, .str b => if a.length + b.length ≤ big then some (.str (a ++ b)) else none
  | .tuple xs, .tuple ys => if xs.length + ys.length ≤ big then some (.tuple (xs ++ ys)) else none
  | .list xs, .list ys => if xs.length + ys.length ≤ big then some (.list (xs ++ ys)) else none
  | _, _ => none
theorem rp_tup {K : PySem.W.Frag} {H : Hp} {ds : List PyData} {v : V} (h : Rp K H (.tuple ds) v) : ∃ a xs, v = .ref a ∧ SqT K H a xs ∧ RpL K H ds xs := by simpa only [Rp] using h
theorem rp_lst {K : PySem.W.Frag} {H : Hp} {ds : List PyData} {v : V} (h : Rp K H (.list ds) v) : ∃ a xs, v = .ref a ∧ SqL K H a xs ∧ RpL K H ds xs := by simpa only [Rp] using h
theorem rp_int {K : PySem.W.Frag} {H : Hp} {i : Int} {v : V} (h : Rp K H (.int i) v) : v = .int i := by simpa only [Rp] using h
theorem rp_str {K : PySem.W.Frag} {H : Hp} {i : Str} {v : V} (h : Rp K H (.str i) v) : v = .str i := by simpa only [Rp] using h
theorem rp_bool {K : PySem.W.Frag} {H : Hp} {i : Bool} {v : V} (h : Rp K H (.bool i) v) : v = .bl i := by simpa only [Rp] using h
theorem rp_none {K : PySem.W.Frag} {H : Hp} {v : V} (h : Rp K H .none v) : v = .non := by simpa only [Rp] using h
theorem mk_int {K : PySem.W.Frag} {H : Hp} {i : Int} : Rp K H (.int i) (.int i) := by simp only [Rp]
theorem mk_str {K : PySem.W.Frag} {H : Hp} {i : Str} : Rp K H (.str i) (.str i) := by simp only [Rp]
theorem mk_bool {K : PySem.W.Frag} {H : Hp} {i : Bool} : Rp K H (.bool i) (.bl i) := by simp only [Rp]
theorem mk_none {K : PySem.W.Frag} {H : Hp} : Rp K H .none .non := by simp only [Rp]
theorem mk_tup {K : PySem.W.Frag} {H : Hp} {ds : List PyData} {a : Addr} {xs : List V} (h : SqT K H a xs) (r : RpL K H ds xs) : Rp K H (.tuple ds) (.ref a) := by simp only [Rp]; exact ⟨a, xs, rfl, h, r⟩
theorem mk_lst {K : PySem.W.Frag} {H : Hp} {ds : List PyData} {a : Addr} {xs : List V} (h : SqL K H a xs) (r : RpL K H ds xs) : Rp K H (.list ds) (.ref a) := by simp only [Rp]; exact ⟨a, xs, rfl, h, r⟩
theorem new_tup {K : PySem.W.Frag} {m : Md} {O Ox : List Addr} {H : Hp} {ds : List PyData} {xs : List V} {p : Addr} (mu : Ows O Ox H) (hp : H p = none) (r : RpL K (hm m O Ox H) ds xs) : Rp K (hm m O Ox (upd H p (.tup xs))) (.tuple ds) (.ref p) := by
  rw [hm_new mu hp]
  exact mk_tup (.inl (.inl upd_same)) (RpL.sm (.new (hm_none mu hp)) _ _ r)
theorem new_lst {K : PySem.W.Frag} {m : Md} {O Ox : List Addr} {H : Hp} {ds : List PyData} {xs : List V} {p : Addr} (mu : Ows O Ox H) (hp : H p = none) (r : RpL K (hm m O Ox H) ds xs) : Rp K (hm m O Ox (upd H p (.lst xs))) (.list ds) (.ref p) := by
  rw [hm_new mu hp]
  exact mk_lst (.inl (.inl upd_same)) (RpL.sm (.new (hm_none mu hp)) _ _ r)
theorem hm_sqT {K : PySem.W.Frag} {m : Md} {O Ox : List Addr} {H : Hp} {a : Addr} {xs : List V} (h : SqT K (hm m O Ox H) a xs) : SqT K H a xs := sqT_sm hm_le h
theorem hm_sqL {K : PySem.W.Frag} {m : Md} {O Ox : List Addr} {H : Hp} {a : Addr} {xs : List V} (h : SqL K (hm m O Ox H) a xs) : SqL K H a xs := sqL_sm hm_le h
theorem rb_add {K : PySem.W.Frag} {m : Md} : RB K m (rAddX K) gAdd := by
  intro d e z hz O Ox x y H mu px py Q q
  unfold gAdd at hz
  split at hz
  · cases hz
    rw [rp_int px, rp_int py]
    exact .inl ⟨_, _, rfl, rfl, q _ _ (.refl _ _) mk_int⟩
  · rename_i a b
    by_cases h : a.length + b.length ≤ big
    · rw [if_pos h] at hz ; cases hz
      rw [rp_str px, rp_str py]
      exact .inr (.inl ⟨_, _, rfl, rfl, big_ok h, q _ _ (.refl _ _) mk_str⟩)
    · rw [if_neg h] at hz ; cases hz
  · rename_i ds es
    by_cases h : ds.length + es.length ≤ big
    · rw [if_pos h] at hz ; cases hz
      obtain ⟨a, xs, rfl, h1, h2⟩ := rp_tup px
      obtain ⟨b, ys, rfl, h3, h4⟩ := rp_tup py
      have l1 := rpl_len h2 ; have l2 := rpl_len h4
      have app := rpl_app h2 h4
      refine .inr (.inr (.inl ⟨a, b, xs, ys, rfl, rfl, hm_sqT h1, hm_sqT h3, big_ok (by omega), fun hx => ?_, fun _ hy => ?_, fun _ _ p hp => ?_⟩))
      · subst hx
        exact q _ _ (.refl _ _) (mk_tup h3 app)
      · subst hy
        rw [List.append_nil] at app
        exact q _ _ (.refl _ _) (mk_tup h1 app)
      · exact q _ _ (.new mu.mu hp) (new_tup mu hp app)
    · rw [if_neg h] at hz ; cases hz
  · rename_i ds es
    by_cases h : ds.length + es.length ≤ big
    · rw [if_pos h] at hz ; cases hz
      obtain ⟨a, xs, rfl, h1, h2⟩ := rp_lst px
      obtain ⟨b, ys, rfl, h3, h4⟩ := rp_lst py
      have l1 := rpl_len h2 ; have l2 := rpl_len h4
      exact .inr (.inr (.inr ⟨a, b, xs, ys, rfl, rfl, hm_sqL h1, hm_sqL h3, big_ok (by omega), fun p hp => q _ _ (.new mu.mu hp) (new_lst mu hp (rpl_app h2 h4))⟩))
    · rw [if_neg h] at hz ; cases hz
  · cases hz
def gI (g : Int → Int → Option PyData) : PyData → PyData → Option PyData
  | .int i, .int j => g i j
  | _, _ => none
theorem rb_I {K : PySem.W.Frag} {m : Md} {Cc : Int → Int → Prop} [∀ i j, Decidable (Cc i j)] {gv : Int → Int → V} {gd : Int → Int → PyData} (h : ∀ i j H, Rp K H (gd i j) (gv i j)) : RB K m (rI Cc gv) (gI fun i j => if Cc i j then some (gd i j) else none) := by
  intro d e z hz O Ox x y H mu px py Q q
  unfold gI at hz
  split at hz
  · rename_i i j
    dsimp only at hz
    by_cases hc : Cc i j
    · rw [if_pos hc] at hz ; cases hz
      rw [rp_int px, rp_int py]
      exact ⟨i, j, rfl, rfl, hc, q _ _ (.refl _ _) (h i j _)⟩
    · rw [if_neg hc] at hz ; cases hz
  · cases hz
theorem rb_I0 {K : PySem.W.Frag} {m : Md} {gv : Int → Int → V} {gd : Int → Int → PyData} (h : ∀ i j H, Rp K H (gd i j) (gv i j)) : RB K m (rI0 gv) (gI fun i j => some (gd i j)) := by
  intro d e z hz O Ox x y H mu px py Q q
  unfold gI at hz
  split at hz
  · rename_i i j
    cases hz
    rw [rp_int px, rp_int py]
    exact ⟨i, j, rfl, rfl, q _ _ (.refl _ _) (h i j _)⟩
  · cases hz
abbrev gSub := gI fun i j => some (.int (i - j))
abbrev okMul (i j : Int) : Prop := (-(2 ^ 64) < i ∧ i < 2 ^ 64) ∨ (-(2 ^ 64) < j ∧ j < 2 ^ 64)
abbrev okDiv (_ j : Int) : Prop := 0 < j ∧ j < 1073741824
abbrev okMod (_ j : Int) : Prop := 0 < j
abbrev okPow (i j : Int) : Prop := 0 ≤ j ∧ j ≤ 1000000 ∧ i.natAbs < 2 ^ 64
abbrev gDiv := gI fun i j => if okDiv i j then some (.int (i / j)) else none
abbrev gMod := gI fun i j => if okMod i j then some (.int (i % j)) else none
abbrev gPow := gI fun i j => if okPow i j then some (.int (i ^ j.toNat)) else none
abbrev gLtI := gI fun i j => some (.bool (decide (i < j)))
abbrev gLeI := gI fun i j => some (.bool (decide (i ≤ j)))
abbrev gGeI := gI fun i j => some (.bool (decide (j ≤ i)))
theorem tuple_mul1W (l : Addr) (items : Array Value) (n : Nat) (dd : Option Addr) (sl : Array (Option Value)) (u : Tok) :
    Meets (Builtin.«tuple.__mul__» ⟨[.ref l, .int 1 u], []⟩) (fun _ R s => s.heap.get? l = some { cls := .type "tuple", dict := dd, data := .seq items n, slots := sl } ∧ R (.ok (.ret (Value.ref l))) s) :=
  .of_wp fun prog w A R s h => by
    obtain ⟨hp, g, d, tk, os⟩ := s
    obtain ⟨hl, h⟩ := h
    have f1 := AutoSeq1.idx_int
    have f2 := AutoSeq1.sub_tuple_tuple
    wp_walk using wpAny_loadPart' hl
    repeat (first
      | (refine wpAny_ite_false (by decide) ?_; wp_walk using wpAny_loadPart' hl)
      | (refine wpAny_ite_true (by simp) ?_; wp_walk using wpAny_loadPart' hl))
    exact ⟨_, rfl, h⟩
def rRep1 (K : PySem.W.Frag) : R2 := fun x y H Q => ∃ l xs, x = .ref l ∧ y = .int 1 ∧ SqT K H l xs ∧ Q (.ref l) H
theorem op_rep1 : OpR X (binaryOp .Mult) (rRep1 X.K) := by
  intro pins s σ H x y v u Q I rx ry h
  obtain ⟨l, xs, rfl, rfl, hT, q⟩ := h
  cases rx
  obtain ⟨t, rfl⟩ := ry
  obtain ⟨its, r, ⟨⟨cls, dd, data, sl⟩, ho, hc, n, hd⟩, hs⟩ := I.tuple hT
  simp only at hc hd
  subst hc hd
  refine wpAny_binaryOp_repeat_ref (T := "tuple") (U := "int") (by decide) ⟨_, ho, rfl⟩ (fun s' => typeIs_int s' 1 t) noFill_tuple_mul F.fills_int_mul F.slot_int_rmul repeat_tuple F.slot_int_index.lookup
    (call_meets F.slot_int_rmul (typeIs_int s 1 t) F.entry_int_rmul (F.args_int_rmul_2 _ _) (int_rmul_tuple 1 t l its.toArray n dd sl)
      ⟨ho, rfl, ⟨_, ho, rfl⟩, call_meets F.slot_tuple_mul ⟨_, ho, rfl⟩ F.entry_tuple_mul (F.args_tuple_mul_2 _ _) (tuple_mul1W l its.toArray n dd sl t) ⟨ho, ?_⟩⟩)
  exact ⟨.ref l, H, I, rfl, q⟩
def rMulX (K : PySem.W.Frag) : R2 := fun x y H Q => rI CMul (fun i j => .int (i * j)) x y H Q ∨ rRepT K x y H Q ∨ rRep1 K x y H Q
theorem op_mulX : OpR X (binaryOp .Mult) (rMulX X.K) := op_mul.or (op_repT.or op_rep1)
def gMul : PyData → PyData → Option PyData
  | .int i, .int j => if okMul i j then some (.int (i * j)) else none
  | .tuple xs, .int k => if xs ≠ [] ∧ 2 ≤ k ∧ k ≤ 1000 ∧ xs.length ≤ 1000 then some (.tuple (List.replicate k.toNat xs).flatten) else if k = 1 then some (.tuple xs) else none
  | _, _ => none
theorem rpl_rep {K : PySem.W.Frag} {H : Hp} {ds : List PyData} {vs : List V} (h : RpL K H ds vs) : ∀ n : Nat, RpL K H (List.replicate n ds).flatten (List.replicate n vs).flatten
  | 0 => rpl_nil
  | n + 1 => by
    rw [List.replicate_succ, List.replicate_succ, List.flatten_cons, List.flatten_cons]
    exact rpl_app h (rpl_rep h n)
instance (xs : List PyData) : Decidable (xs ≠ []) := match xs with
  | [] => .isFalse (fun h => h rfl)
  | _ :: _ => .isTrue (fun h => by cases h)
theorem rb_mul {K : PySem.W.Frag} {m : Md} : RB K m (rMulX K) gMul := by
  intro d e z hz O Ox x y H mu px py Q q
  unfold gMul at hz
  split at hz
  · rename_i i j
    by_cases h : okMul i j
    · rw [if_pos h] at hz ; cases hz
      rw [rp_int px, rp_int py]
      exact .inl ⟨_, _, rfl, rfl, h, q _ _ (.refl _ _) mk_int⟩
    · rw [if_neg h] at hz ; cases hz
  · rename_i ds k
    by_cases h : ds ≠ [] ∧ 2 ≤ k ∧ k ≤ 1000 ∧ ds.length ≤ 1000
    · rw [if_pos h] at hz ; cases hz
      obtain ⟨a, xs, rfl, h1, h2⟩ := rp_tup px
      rw [rp_int py]
      have l1 := rpl_len h2
      refine .inr (.inl ⟨a, k, xs, rfl, rfl, hm_sqT h1, fun e => h.1 (List.eq_nil_of_length_eq_zero (by rw [l1, e]; rfl)), h.2.1, h.2.2.1, by have := h.2.2.2; omega, fun p hp => ?_⟩)
      exact q _ _ (.new mu.mu hp) (new_tup mu hp (rpl_rep h2 _))
    · rw [if_neg h] at hz
      by_cases h1 : k = 1
      · rw [if_pos h1] at hz ; cases hz
        subst h1
        obtain ⟨a, xs, rfl, h2, h3⟩ := rp_tup px
        rw [rp_int py]
        exact .inr (.inr ⟨a, xs, rfl, rfl, hm_sqT h2, q _ _ (.refl _ _) px⟩)
      · rw [if_neg h1] at hz ; cases hz
  · cases hz
mutual
theorem rp_dp {K : PySem.W.Frag} {H : Hp} : ∀ (d : PyData) (v : V), d.canLay0 = true → Rp K H d v → Dp K H v d
  | .none, _, _, h => by rw [rp_none h]; exact .non
  | .bool b, _, _, h => by rw [rp_bool h]; exact .bl b
  | .int i, _, _, h => by rw [rp_int h]; exact .int i
  | .str i, _, _, h => by rw [rp_str h]; exact .str i
  | .list ds, _, f, h => by
    obtain ⟨a, xs, rfl, h2, h3⟩ := rp_lst h
    exact .lst h2 (rpl_dp ds xs (by simpa [PyData.canLay0] using f) h3)
  | .tuple ds, _, f, h => by
    obtain ⟨a, xs, rfl, h2, h3⟩ := rp_tup h
    exact .tup h2 (rpl_dp ds xs (by simpa [PyData.canLay0] using f) h3)
  | .dict _, _, f, _ => by simp [PyData.canLay0] at f
theorem rpl_dp {K : PySem.W.Frag} {H : Hp} : ∀ (ds : List PyData) (vs : List V), PyData.canLayAll0 ds = true → RpL K H ds vs → DpAll K H vs ds
  | [], _, _, h => by simp only [RpL] at h; subst h; exact .nil
  | d :: ds, _, f, h => by
    simp only [RpL] at h
    obtain ⟨v, r, rfl, h2, h3⟩ := h
    have f' : d.canLay0 = true ∧ PyData.canLayAll0 ds = true := by simpa [PyData.canLayAll0] using f
    exact .cons (rp_dp d v f'.1 h2) (rpl_dp ds r f'.2 h3)
end
def gEqB : PyData → PyData → Option Bool
  | .int i, .int j => some (decide (i = j))
  | .str i, .str j => some (decide (i = j))
  | .bool i, .bool j => some (decide (i = j))
  | .none, .none => some true
  | .none, .str _ => some false
  | .str _, .none => some false
  | .none, .int _ => some false
  | .int _, .none => some false
  | .str _, .int _ => some false
  | .int _, .str _ => some false
  | d, e => if SeqAt.shaped d && SeqAt.shaped e then some (PyData.eqv d e) else none
def gEq (d e : PyData) : Option PyData := (gEqB d e).map .bool
def gNe (d e : PyData) : Option PyData := (gEqB d e).map fun b => .bool (!b)
def rEqX (K : PySem.W.Frag) : R2 := fun x y H Q => rEq x y H Q ∨ rEqD K x y H Q
def rNeX (K : PySem.W.Frag) : R2 := fun x y H Q => rNe x y H Q ∨ rNeD K x y H Q
theorem op_eqX (hu : X.A.units + 200 < cLine) : OpR X (compareOp .Eq) (rEqX X.K) := op_eq.or (op_eqD (by omega))
theorem op_neX (hu : X.A.units + 200 < cLine) : OpR X (compareOp .NotEq) (rNeX X.K) := op_ne.or (op_neD (by omega))
theorem eq_cases {K : PySem.W.Frag} {H : Hp} {d e : PyData} {b : Bool} {x y : V} (h : gEqB d e = some b) (px : Rp K H d x) (py : Rp K H e y) :
    (scal x y = true ∧ decide (x = y) = b) ∨ (Dp K H x d ∧ Dp K H y e ∧ SeqAt.shaped d = true ∧ SeqAt.shaped e = true ∧ PyData.eqv d e = b) := by
  unfold gEqB at h
  split at h
  · cases h
    rw [rp_int px, rp_int py]
    exact .inl ⟨rfl, by simp⟩
  · cases h
    rw [rp_str px, rp_str py]
    exact .inl ⟨rfl, by simp⟩
  · cases h
    rw [rp_bool px, rp_bool py]
    exact .inl ⟨rfl, by simp⟩
  · cases h
    rw [rp_none px, rp_none py]
    exact .inl ⟨rfl, by simp⟩
  · cases h
    rw [rp_none px, rp_str py]
    exact .inl ⟨rfl, by simp⟩
  · cases h
    rw [rp_str px, rp_none py]
    exact .inl ⟨rfl, by simp⟩
  · cases h
    rw [rp_none px, rp_int py]
    exact .inl ⟨rfl, by simp⟩
  · cases h
    rw [rp_int px, rp_none py]
    exact .inl ⟨rfl, by simp⟩
  · cases h
    rw [rp_str px, rp_int py]
    exact .inl ⟨rfl, by simp⟩
  · cases h
    rw [rp_int px, rp_str py]
    exact .inl ⟨rfl, by simp⟩
  · by_cases hc : (SeqAt.shaped d && SeqAt.shaped e) = true
    · rw [if_pos hc] at h ; cases h
      rw [Bool.and_eq_true] at hc
      exact .inr ⟨rp_dp d x (SeqAt.canLay_of_shaped hc.1) px, rp_dp e y (SeqAt.canLay_of_shaped hc.2) py, hc.1, hc.2, rfl⟩
    · rw [if_neg hc] at h ; cases h
theorem rb_eq {K : PySem.W.Frag} {m : Md} : RB K m (rEqX K) gEq := by
  intro d e z hz O Ox x y H mu px py Q q
  unfold gEq at hz
  cases hb : gEqB d e with
  | none => rw [hb] at hz ; cases hz
  | some b =>
    rw [hb] at hz ; cases hz
    rcases eq_cases hb (px.sm hm_le) (py.sm hm_le) with ⟨h1, h2⟩ | ⟨h1, h2, h3, h4, h5⟩
    · exact .inl ⟨h1, by rw [h2]; exact q _ _ (.refl _ _) mk_bool⟩
    · exact .inr ⟨d, e, h1, h2, h3, h4, by rw [h5]; exact q _ _ (.refl _ _) mk_bool⟩
theorem rb_ne {K : PySem.W.Frag} {m : Md} : RB K m (rNeX K) gNe := by
  intro d e z hz O Ox x y H mu px py Q q
  unfold gNe at hz
  cases hb : gEqB d e with
  | none => rw [hb] at hz ; cases hz
  | some b =>
    rw [hb] at hz ; cases hz
    rcases eq_cases hb (px.sm hm_le) (py.sm hm_le) with ⟨h1, h2⟩ | ⟨h1, h2, h3, h4, h5⟩
    · exact .inl ⟨h1, by rw [h2]; exact q _ _ (.refl _ _) mk_bool⟩
    · exact .inr ⟨d, e, h1, h2, h3, h4, by rw [h5]; exact q _ _ (.refl _ _) mk_bool⟩
end
end Z
set_option Elab.async false
set_option linter.all false
set_option maxRecDepth 100000
set_option maxHeartbeats 4000000
namespace Z
open PySem PySem.Spec PyProof.Rows L2
structure On (X : Cx) (C : Cf) (k : Nat) : Prop where
  K : X.K = C.K
  mg : X.mg = C.mg
  un : X.A.units + 200 < cLine
  rm : X.calm = true → Room k X.A
  nd : X.N.Nodup
structure OnK (X : Cx) (C : Cf) : Prop where
  K : X.K = C.K
  nd : X.N.Nodup
theorem On.k {X : Cx} {C : Cf} {k : Nat} (o : On X C k) : OnK X C := ⟨o.K, o.nd⟩
theorem On.mk' {X : Cx} {C : Cf} {k : Nat} (hK : X.K = C.K) (hm : X.mg = C.mg) (r : Room k X.A) (nd : X.N.Nodup) : On X C k := ⟨hK, hm, by have := r.un; omega, fun _ => r, nd⟩
theorem On.le {X : Cx} {C : Cf} {j k : Nat} (o : On X C k) (h : j ≤ k) : On X C j := ⟨o.K, o.mg, o.un, fun c => (o.rm c).mono h, o.nd⟩
theorem On.tr {X : Cx} {C : Cf} {k : Nat} (o : On X C k) {pn : List (Addr × Obj)} {xe : Value → Shared → Prop} : On (X.tr pn xe) C k := ⟨o.K, o.mg, o.un, o.rm, o.nd⟩
theorem On.suite {X : Cx} {C : Cf} {k : Nat} (o : On X C k) {a : Addr} {pn : List (Addr × Obj)} {i : Nat} {v : V} : On (X.suite a pn) { C with pin := (i, v) :: C.pin } k := ⟨o.K, o.mg, o.un, fun c => Bool.noConfusion c, o.nd⟩
theorem On.held {X : Cx} {C : Cf} {k : Nat} (o : On X C k) {i : Nat} {v : V} : On X { C with pin := (i, v) :: C.pin } k := ⟨o.K, o.mg, o.un, o.rm, o.nd⟩
section
variable {X : Cx} {C : Cf} {W : WX} {m : Md} {k : Nat} {e a b c : Expr} {te ta tb tc : TE} {f fa fb fc : PX} {pos : Pos}
theorem pp_bin {op : Operator} {r : R2} {g : PyData → PyData → Option PyData} (ho : OpR X (binaryOp op) r) (hr : RB C.K m r g) (ha : PP X C W m a ta fa) (hb : PP X C W m b tb fb) : PP X C W m (.BinOp a op b pos) (tOp r ta tb) (b2 fa fb g) := ⟨pe_op ho ha.pe hb.pe, ev_bin ha.ev hb.ev hr⟩
theorem pp_add (o : On X C k) (ha : PP X C W m a ta fa) (hb : PP X C W m b tb fb) : PP X C W m (.BinOp a .Add b pos) (tOp (rAddX C.K) ta tb) (b2 fa fb gAdd) := pp_bin (by rw [← o.K]; exact op_addX) rb_add ha hb
theorem pp_mul (o : On X C k) (ha : PP X C W m a ta fa) (hb : PP X C W m b tb fb) : PP X C W m (.BinOp a .Mult b pos) (tOp (rMulX C.K) ta tb) (b2 fa fb gMul) := pp_bin (by rw [← o.K]; exact op_mulX) rb_mul ha hb
theorem pp_div (o : On X C k) (ha : PP X C W m a ta fa) (hb : PP X C W m b tb fb) : PP X C W m (.BinOp a .FloorDiv b pos) (tOp (rI okDiv fun i j => .int (i / j)) ta tb) (b2 fa fb gDiv) := pp_bin op_fdiv (rb_I fun _ _ _ => mk_int) ha hb
theorem pp_mod (o : On X C k) (ha : PP X C W m a ta fa) (hb : PP X C W m b tb fb) : PP X C W m (.BinOp a .Mod b pos) (tOp (rI okMod fun i j => .int (i % j)) ta tb) (b2 fa fb gMod) := pp_bin op_mod (rb_I fun _ _ _ => mk_int) ha hb
theorem pp_pow (o : On X C k) (ha : PP X C W m a ta fa) (hb : PP X C W m b tb fb) : PP X C W m (.BinOp a .Pow b pos) (tOp (rI okPow fun i j => .int (i ^ j.toNat)) ta tb) (b2 fa fb gPow) := pp_bin op_pow (rb_I fun _ _ _ => mk_int) ha hb
def gNeg : PyData → Option PyData
  | .int i => some (.int (-i))
  | _ => none
theorem pp_neg (o : On X C k) (ha : PP X C W m a ta fa) : PP X C W m (.UnaryOp .USub a pos) (tUn (rU fun i => .int (-i)) ta) (b1 fa gNeg) := ⟨pe_un un_neg ha.pe, ev_un ha.ev fun d z hz O Ox x H mu px Q q => by
  unfold gNeg at hz
  split at hz
  · cases hz
    rw [rp_int px]
    exact ⟨_, rfl, q _ _ (.refl _ _) mk_int⟩
  · cases hz⟩
theorem pp_cmp {op : CmpOp} {r : R2} {g : PyData → PyData → Option PyData} (ho : OpR X (compareOp op) r) (hr : RB C.K m r g) (ha : PP X C W m a ta fa) (hb : PP X C W m b tb fb) (hm : behindInMarks op b = false) : PP X C W m (.Compare a [op] [b] pos) (tOp r ta tb) (b2 fa fb g) := ⟨pe_cmpR ho ha.pe hb.pe hm, ev_bin ha.ev hb.ev hr⟩
theorem pp_eq (o : On X C k) (ha : PP X C W m a ta fa) (hb : PP X C W m b tb fb) : PP X C W m (.Compare a [.Eq] [b] pos) (tOp (rEqX C.K) ta tb) (b2 fa fb gEq) := pp_cmp (by rw [← o.K]; exact op_eqX o.un) rb_eq ha hb (nomark _)
theorem pp_ne (o : On X C k) (ha : PP X C W m a ta fa) (hb : PP X C W m b tb fb) : PP X C W m (.Compare a [.NotEq] [b] pos) (tOp (rNeX C.K) ta tb) (b2 fa fb gNe) := pp_cmp (by rw [← o.K]; exact op_neX o.un) rb_ne ha hb (nomark _)
abbrev rLtI : R2 := rI0 fun i j => .bl (decide (i < j))
abbrev rLeI : R2 := rI0 fun i j => .bl (decide (i ≤ j))
abbrev rGeI : R2 := rI0 fun i j => .bl (decide (j ≤ i))
theorem rb_lt {K : PySem.W.Frag} : RB K m rLtI gLtI := rb_I0 fun _ _ _ => mk_bool
theorem rb_le {K : PySem.W.Frag} : RB K m rLeI gLeI := rb_I0 fun _ _ _ => mk_bool
theorem rb_ge {K : PySem.W.Frag} : RB K m rGeI gGeI := rb_I0 fun _ _ _ => mk_bool
theorem pp_lt (o : On X C k) (ha : PP X C W m a ta fa) (hb : PP X C W m b tb fb) : PP X C W m (.Compare a [.Lt] [b] pos) (tOp rLtI ta tb) (b2 fa fb gLtI) := pp_cmp op_lt rb_lt ha hb (nomark _)
theorem pp_le (o : On X C k) (ha : PP X C W m a ta fa) (hb : PP X C W m b tb fb) : PP X C W m (.Compare a [.LtE] [b] pos) (tOp rLeI ta tb) (b2 fa fb gLeI) := pp_cmp op_le rb_le ha hb (nomark _)
theorem pp_ge (o : On X C k) (ha : PP X C W m a ta fa) (hb : PP X C W m b tb fb) : PP X C W m (.Compare a [.GtE] [b] pos) (tOp rGeI ta tb) (b2 fa fb gGeI) := pp_cmp op_ge rb_ge ha hb (nomark _)
def andX (f g : PX) : PX := fun Γ => match f Γ with
  | some (.ok (.bool true)) => (match g Γ with
    | some (.ok (.bool b)) => some (.ok (.bool b))
    | some (.ok _) => none
    | r => r)
  | some (.ok (.bool false)) => some (.ok (.bool false))
  | some (.ok _) => none
  | r => r
theorem and_cases {f g : PX} {Γ : Ga} {r : Res} (h : andX f g Γ = some r) : (f Γ = some (.ok (.bool false)) ∧ r = .ok (.bool false)) ∨ (f Γ = some (.ok (.bool true)) ∧ g Γ = some r ∧ ∀ d, r = .ok d → ∃ b, d = .bool b) ∨ ∃ x, f Γ = some (.error x) ∧ r = .error x := by
  unfold andX at h
  split at h
  · rename_i h1
    split at h
    · rename_i b h2
      cases h
      exact .inr (.inl ⟨h1, h2, fun d e => ⟨b, by cases e; rfl⟩⟩)
    · cases h
    · rename_i h2 h3
      exact .inr (.inl ⟨h1, h, fun d e => by subst e; exact absurd h (h3 d)⟩)
  · rename_i h1 ; cases h ; exact .inl ⟨h1, rfl⟩
  · cases h
  · rename_i h1 h2 h3
    refine .inr (.inr ?_)
    cases r with
    | ok d => exact absurd h (h3 d)
    | error x => exact ⟨x, h, rfl⟩
variable {rest : List Expr}
theorem pp_one {op} (h : PP X C W m a ta fa) : PP X C W m (.BoolOp op [a] pos) ta fa := ⟨pe_one h.pe, h.ev⟩
theorem pp_and (ha : PP X C W m a ta fa) (hb : PP X C W m (.BoolOp .And (b :: rest) pos) tb fb) : PP X C W m (.BoolOp .And (a :: b :: rest) pos) (tAndV ta tb) (andX fa fb) := by
  refine ⟨pe_and ha.pe hb.pe, fun Γ r hr H0 Ox σ H E Q q => ?_⟩
  rcases and_cases hr with ⟨h1, rfl⟩ | ⟨h1, h2, h3⟩ | ⟨x, h1, rfl⟩
  · refine ha.ev Γ _ h1 H0 Ox σ H E _ fun v H1 s1 p1 => ⟨false, rp_bool p1, ?_⟩
    rw [if_neg Bool.false_ne_true]
    exact q _ _ s1 mk_bool
  · refine ha.ev Γ _ h1 H0 Ox σ H E _ fun v H1 s1 p1 => ⟨true, rp_bool p1, ?_⟩
    rw [if_pos rfl]
    refine hb.ev Γ _ h2 H0 Ox σ H1 (E.step s1) _ ?_
    cases r with
    | ok d => exact fun v H' s p => q v H' (s1.trans s) p
    | error x => exact fun H' s => q H' (s1.trans s)
  · exact ha.ev Γ _ h1 H0 Ox σ H E _ q
def toT (f : PX) : PTx := fun Γ => match f Γ with
  | some (.ok (.bool b)) => some (.ok b)
  | some (.error e) => some (.error e)
  | _ => none
theorem ptt_val (ha : PP X C W .rd a ta fa) (he : ∀ whole, isTrue a X.env whole = (do let v ← whole; standAt a.pos; holding [v] (truthy v)) := by intro _; rfl) : PTt X C W a (tB ta) (toT fa) := by
  refine ⟨pt_val ha.pe he, fun Γ r hr H0 Ox σ H E Q q => ?_⟩
  unfold toT at hr
  split at hr
  · rename_i b h1
    cases hr
    exact ha.ev Γ _ h1 H0 Ox σ H E _ fun v H' s p => ⟨b, rp_bool p, q H' s⟩
  · rename_i e h1
    cases hr
    exact ha.ev Γ _ h1 H0 Ox σ H E _ q
  · cases hr
variable {t u : TT} {ft fu : PTx}
def orT (f g : PTx) : PTx := fun Γ => match f Γ with
  | some (.ok false) => g Γ
  | r => r
def notT (f : PTx) : PTx := fun Γ => match f Γ with
  | some (.ok b) => some (.ok (!b))
  | r => r
structure PWt (X : Cx) (C : Cf) (W : WX) (e : Expr) (tt : TT) (f : PTx) : Prop where
  pe : PW X e tt
  ev : EvT C W tt f
theorem PWt.tt (h : PWt X C W e t ft) : PTt X C W e t ft := ⟨h.pe.pt, h.ev⟩
theorem pwt_or1 (h : PTt X C W a t ft) : PWt X C W (.BoolOp .Or [a] pos) t ft := ⟨pw_or1 h.pe, h.ev⟩
theorem pwt_or (h : PTt X C W a t ft) (g : PWt X C W (.BoolOp .Or (b :: rest) pos) u fu) : PWt X C W (.BoolOp .Or (a :: b :: rest) pos) (tOr t u) (orT ft fu) := by
  refine ⟨pw_or h.pe g.pe, fun Γ r hr H0 Ox σ H E Q q => ?_⟩
  unfold orT at hr
  cases h1 : ft Γ with
  | none => rw [h1] at hr ; cases hr
  | some r1 =>
    rw [h1] at hr
    cases r1 with
    | error x => cases hr ; exact h.ev Γ _ h1 H0 Ox σ H E _ q
    | ok bb =>
      cases bb with
      | true =>
        cases hr
        refine h.ev Γ _ h1 H0 Ox σ H E _ fun H1 s1 => ?_
        rw [if_pos rfl] ; exact q _ s1
      | false =>
        refine h.ev Γ _ h1 H0 Ox σ H E _ fun H1 s1 => ?_
        rw [if_neg Bool.false_ne_true]
        refine g.ev Γ _ hr H0 Ox σ H1 (E.step s1) _ ?_
        cases r with
        | ok d => exact fun H' s => q H' (s1.trans s)
        | error x => exact fun H' s => q H' (s1.trans s)
theorem ptt_not (h : PTt X C W a t ft) : PTt X C W (.UnaryOp .Not a pos) (tNot t) (notT ft) := by
  refine ⟨pt_not h.pe, fun Γ r hr H0 Ox σ H E Q q => ?_⟩
  unfold notT at hr
  cases h1 : ft Γ with
  | none => rw [h1] at hr ; cases hr
  | some r1 =>
    rw [h1] at hr
    cases r1 with
    | error x => cases hr ; exact h.ev Γ _ h1 H0 Ox σ H E _ q
    | ok bb => cases hr ; exact h.ev Γ _ h1 H0 Ox σ H E _ fun H' s => q H' s
end
end Z
set_option Elab.async false
set_option linter.all false
set_option maxRecDepth 100000
set_option maxHeartbeats 4000000
namespace Z
open PySem PySem.Spec PyProof.Rows L2
def Hf (K : PySem.W.Frag) (m : Md) (O Ox : List Addr) (H : Hp) (d : PyData) (v : V) : Prop := match d with
  | .list ds => ∃ a xs, v = .ref a ∧ SqL K H a xs ∧ RpL K (hm m O Ox H) ds xs
  | d => Rp K (hm m O Ox H) d v
theorem hf_of {K : PySem.W.Frag} {m : Md} {O Ox : List Addr} {H : Hp} {d : PyData} {v : V} (h : Rp K (hm m O Ox H) d v) : Hf K m O Ox H d v := by
  cases d with
  | list ds =>
    obtain ⟨a, xs, rfl, h1, h2⟩ := rp_lst h
    exact ⟨a, xs, rfl, hm_sqL h1, h2⟩
  | _ => exact h
theorem hf_rd {K : PySem.W.Frag} {m : Md} {O Ox : List Addr} {H : Hp} {d : PyData} {v : V} (h : Hf K m O Ox H d v) : Rp K H d v := by
  cases d with
  | list ds =>
    obtain ⟨a, xs, rfl, h1, h2⟩ := h
    exact mk_lst h1 (RpL.sm hm_le _ _ h2)
  | none => exact Rp.sm (hm_le (m := m) (O := O) (Ox := Ox)) _ _ h
  | bool _ => exact Rp.sm (hm_le (m := m) (O := O) (Ox := Ox)) _ _ h
  | int _ => exact Rp.sm (hm_le (m := m) (O := O) (Ox := Ox)) _ _ h
  | str _ => exact Rp.sm (hm_le (m := m) (O := O) (Ox := Ox)) _ _ h
  | tuple _ => exact Rp.sm (hm_le (m := m) (O := O) (Ox := Ox)) _ _ h
  | dict _ => exact Rp.sm (hm_le (m := m) (O := O) (Ox := Ox)) _ _ h
theorem hf_sm {K : PySem.W.Frag} {m : Md} {O Ox : List Addr} {H H' : Hp} {d : PyData} {v : V} (s : Stp O H H') (mu : Ows O Ox H) (h : Hf K m O Ox H d v) : Hf K m O Ox H' d v := by
  cases d with
  | list ds =>
    obtain ⟨a, xs, e, h1, h2⟩ := h
    exact ⟨a, xs, e, sqL_sm (s.sm mu.mu) h1, RpL.sm (hm_sm s mu) _ _ h2⟩
  | none => exact Rp.sm (hm_sm (m := m) s mu) _ _ h
  | bool _ => exact Rp.sm (hm_sm (m := m) s mu) _ _ h
  | int _ => exact Rp.sm (hm_sm (m := m) s mu) _ _ h
  | str _ => exact Rp.sm (hm_sm (m := m) s mu) _ _ h
  | tuple _ => exact Rp.sm (hm_sm (m := m) s mu) _ _ h
  | dict _ => exact Rp.sm (hm_sm (m := m) s mu) _ _ h
def EvH (C : Cf) (W : WX) (m : Md) (te : TE) (f : PX) : Prop := ∀ Γ r, f Γ = some r → ∀ H0 Ox σ H, EnvR C H0 Ox σ Γ H → ∀ Q : VK,
  (match r with
    | .ok d => ∀ v H', Stp (ow C.fl Ox σ Γ) H H' → Hf C.K m (ow C.fl Ox σ Γ) Ox H' d v → Q v H'
    | .error e => ∀ H', Stp (ow C.fl Ox σ Γ) H H' → ErW C W σ e H') → te σ H Q
structure PH (X : Cx) (C : Cf) (W : WX) (m : Md) (e : Expr) (te : TE) (f : PX) : Prop where
  pe : PE X e te
  ev : EvH C W m te f
section
variable {X : Cx} {C : Cf} {W : WX} {m : Md} {k : Nat} {e a b c : Expr} {te ta tb tc : TE} {f fa fb fc : PX} {pos : Pos}
theorem PP.h (p : PP X C W m e te f) : PH X C W m e te f := ⟨p.pe, fun Γ r hr H0 Ox σ H E Q q => p.ev Γ r hr H0 Ox σ H E Q (by
  cases r with
  | ok d => exact fun v H' s p => q v H' s (hf_of p)
  | error x => exact q)⟩
def fO (i : Nat) : PX := fun Γ => match fV i Γ with
  | some (.ok (.dict _)) => none
  | r => r
theorem ph_own (i : Nat) {x : Str} {pos : Pos} (hN : X.N[i]? = some x := by rfl) (hv : Vis X.env.scope x := by first | exact Or.inl rfl | exact Or.inr (Or.inl rfl) | exact Or.inr (Or.inr rfl)) (hd : (x == ("__debug__" : Str)) = false := by decide)
    (hcd : (x == ("__classdict__" : Str)) = false := by decide) : PH X C W m (.Name x pos) (tVar i) (fO i) := by
  refine ⟨pe_var hN hv hd hcd, fun Γ r hr H0 Ox σ H E Q q => ?_⟩
  have hr' : fV i Γ = some r ∧ ∀ kvs, r ≠ .ok (.dict kvs) := by
    unfold fO at hr
    cases h1 : fV i Γ with
    | none => rw [h1] at hr; cases hr
    | some r1 =>
      rw [h1] at hr
      split at hr
      · cases hr
      · rename_i h2
        cases hr
        exact ⟨rfl, fun kvs e => h2 kvs (by rw [e])⟩
  obtain ⟨h0, hn⟩ := hr'
  obtain ⟨d, h1, rfl⟩ := fV_some h0
  by_cases n : i ∈ C.fl
  · obtain ⟨l, o, e1, e2, e3, e4⟩ := E.own i d h1 n
    refine ⟨.ref l, e1, q _ H (.refl _ _) ?_⟩
    cases d with
    | list ds =>
      obtain ⟨xs, rfl, h5⟩ := e3
      exact ⟨l, xs, rfl, .inl (.inl e2), RpL.sm (hm_lt E.ows) _ _ h5⟩
    | dict kvs => exact absurd rfl (hn kvs)
    | none => exact e3.elim
    | bool _ => exact e3.elim
    | int _ => exact e3.elim
    | str _ => exact e3.elim
    | tuple _ => exact e3.elim
  · obtain ⟨v, e1, e2⟩ := E.val i d h1 n
    exact ⟨v, e1, q v H (.refl _ _) (hf_of (e2.sm (hm_lt E.ows)))⟩
theorem evH_one {R : V → Hp → Prop} {H0 H : Hp} {Ox : List Addr} {σ : L2.St} {Γ : Ga} {r : Res} {g : PyData → Option PyData} (ha : EvH C W m ta fa) (E : EnvR C H0 Ox σ Γ H) (hr : b1 fa g Γ = some r)
    (h : ∀ d z, g d = some z → r = .ok z → ∀ x H2, Stp (ow C.fl Ox σ Γ) H H2 → EnvR C H0 Ox σ Γ H2 → Hf C.K m (ow C.fl Ox σ Γ) Ox H2 d x → R x H2)
    (he : ∀ x, r = .error x → ∀ H', Stp (ow C.fl Ox σ Γ) H H' → ErW C W σ x H') : ta σ H R := by
  unfold b1 at hr
  cases h1 : fa Γ with
  | none => rw [h1] at hr; cases hr
  | some r1 =>
    rw [h1] at hr
    cases r1 with
    | error x =>
      cases hr
      exact ha Γ _ h1 H0 Ox σ H E _ (he x rfl)
    | ok d =>
      refine ha Γ _ h1 H0 Ox σ H E _ fun v H1 s1 p1 => ?_
      simp only at hr
      cases h3 : g d with
      | none => rw [h3] at hr; cases hr
      | some z =>
        rw [h3] at hr
        have er : r = .ok z := by cases hr; rfl
        exact h d z h3 er v H1 s1 (E.step s1) p1
theorem evH_two {n : Md} {R : V → V → Hp → Prop} {H0 H : Hp} {Ox : List Addr} {σ : L2.St} {Γ : Ga} {r : Res} {g : PyData → PyData → Option PyData} (ha : EvH C W m ta fa) (hb : EvH C W n tb fb) (E : EnvR C H0 Ox σ Γ H) (hr : b2 fa fb g Γ = some r)
    (h : ∀ d e z, g d e = some z → r = .ok z → ∀ x y H2, Stp (ow C.fl Ox σ Γ) H H2 → EnvR C H0 Ox σ Γ H2 → Hf C.K m (ow C.fl Ox σ Γ) Ox H2 d x → Hf C.K n (ow C.fl Ox σ Γ) Ox H2 e y → R x y H2)
    (he : ∀ x, r = .error x → ∀ H', Stp (ow C.fl Ox σ Γ) H H' → ErW C W σ x H') : ta σ H fun x H1 => tb σ H1 fun y H2 => R x y H2 := by
  unfold b2 at hr
  cases h1 : fa Γ with
  | none => rw [h1] at hr; cases hr
  | some r1 =>
    rw [h1] at hr
    cases r1 with
    | error x =>
      cases hr
      exact ha Γ _ h1 H0 Ox σ H E _ (he x rfl)
    | ok d =>
      refine ha Γ _ h1 H0 Ox σ H E _ fun v H1 s1 p1 => ?_
      simp only at hr
      have E1 := E.step s1
      cases h2 : fb Γ with
      | none => rw [h2] at hr; cases hr
      | some r2 =>
        rw [h2] at hr
        cases r2 with
        | error x =>
          cases hr
          exact hb Γ _ h2 H0 Ox σ H1 E1 _ fun H' s => he x rfl H' (s1.trans s)
        | ok e =>
          refine hb Γ _ h2 H0 Ox σ H1 E1 _ fun u H2 s2 p2 => ?_
          simp only at hr
          cases h3 : g d e with
          | none => rw [h3] at hr; cases hr
          | some z =>
            rw [h3] at hr
            have er : r = .ok z := by cases hr; rfl
            exact h d e z h3 er v u H2 (s1.trans s2) (E1.step s2) (hf_sm s2 E1.ows p1) p2
def aNil : PAx := fun _ => some (.ok [])
def aCons (f : PX) (g : PAx) : PAx := fun Γ => match f Γ with
  | some (.ok d) => (match g Γ with
    | some (.ok ds) => some (.ok (d :: ds))
    | r => r)
  | some (.error e) => some (.error e)
  | none => none
variable {es : List Expr} {t : TA} {g : PAx}
theorem par_nil : PAr X C W m [] tNil aNil := ⟨pa_nil, fun Γ r hr H0 Ox σ H E Q q => by
  cases hr
  exact q [] H (.refl _ _) rpl_nil⟩
theorem par_cons (ha : PP X C W m a ta fa) (hr : PAr X C W m es t g) (hs : starEach (a :: es) X.env = (false, eval a X.env) :: starEach es X.env := by rfl) : PAr X C W m (a :: es) (tCons ta t) (aCons fa g) := by
  refine ⟨pa_cons ha.pe hr.pe hs, fun Γ r hrr H0 Ox σ H E Q q => ?_⟩
  show ta σ H fun x H1 => t σ H1 fun xs H2 => Q (x :: xs) H2
  unfold aCons at hrr
  cases h1 : fa Γ with
  | none => rw [h1] at hrr; cases hrr
  | some r1 =>
    rw [h1] at hrr
    cases r1 with
    | error x =>
      cases hrr
      exact ha.ev Γ _ h1 H0 Ox σ H E _ q
    | ok d =>
      refine ha.ev Γ _ h1 H0 Ox σ H E _ fun v H1 s1 p1 => ?_
      simp only at hrr
      have E1 := E.step s1
      cases h2 : g Γ with
      | none => rw [h2] at hrr; cases hrr
      | some r2 =>
        rw [h2] at hrr
        cases r2 with
        | error x =>
          cases hrr
          exact hr.ev Γ _ h2 H0 Ox σ H1 E1 _ fun H' s => q H' (s1.trans s)
        | ok ds =>
          cases hrr
          exact hr.ev Γ _ h2 H0 Ox σ H1 E1 _ fun xs H2 s2 p2 => q _ _ (s1.trans s2) (rpl_cons (p1.sm (hm_sm s2 E1.ows)) p2)
def c1 (f : PAx) (g : List PyData → Option PyData) : PX := fun Γ => match f Γ with
  | some (.ok ds) => (g ds).map .ok
  | some (.error e) => some (.error e)
  | none => none
def RA (K : PySem.W.Frag) (m : Md) (r : List V → Hp → VK → Prop) (g : List PyData → Option PyData) : Prop := ∀ ds z, g ds = some z → ∀ O Ox xs H, Ows O Ox H → RpL K (hm m O Ox H) ds xs → ∀ Q : VK, (∀ v H', Stp O H H' → Rp K (hm m O Ox H') z v → Q v H') → r xs H Q
def RAF (K : PySem.W.Frag) (m : Md) (r : List V → Hp → VK → Prop) (g : List PyData → Option PyData) : Prop := ∀ ds z, g ds = some z → ∀ O Ox xs H, Ows O Ox H → RpL K (hm m O Ox H) ds xs → ∀ Q : VK, (∀ l o H', Stp O H H' → H' l = none → Cel K (hm m O Ox H') z o → Q (.ref l) (upd H' l o)) → r xs H Q
variable {r : List V → Hp → VK → Prop} {gc : List PyData → Option PyData}
theorem ev_call (ha : EvA C W m t g) (hr : RA C.K m r gc) : Ev C W m (tCB r t) (c1 g gc) := fun Γ rr hrr H0 Ox σ H E Q q => by
  show t σ H fun vs H1 => r vs H1 Q
  unfold c1 at hrr
  cases h1 : g Γ with
  | none => rw [h1] at hrr; cases hrr
  | some r1 =>
    rw [h1] at hrr
    cases r1 with
    | error x =>
      cases hrr
      exact ha Γ _ h1 H0 Ox σ H E _ q
    | ok ds =>
      simp only at hrr
      refine ha Γ _ h1 H0 Ox σ H E _ fun vs H1 s1 p1 => ?_
      cases h2 : gc ds with
      | none => rw [h2] at hrr; cases hrr
      | some z =>
        rw [h2] at hrr
        cases hrr
        exact hr ds z h2 _ _ vs H1 (E.step s1).ows p1 Q fun v H' s p => q v H' (s1.trans s) p
theorem ev_callF (ha : EvA C W m t g) (hr : RAF C.K m r gc) : EvF C W m (tCB r t) (c1 g gc) := fun Γ rr hrr H0 Ox σ H E Q q => by
  show t σ H fun vs H1 => r vs H1 Q
  unfold c1 at hrr
  cases h1 : g Γ with
  | none => rw [h1] at hrr; cases hrr
  | some r1 =>
    rw [h1] at hrr
    cases r1 with
    | error x =>
      cases hrr
      exact ha Γ _ h1 H0 Ox σ H E _ q
    | ok ds =>
      simp only at hrr
      refine ha Γ _ h1 H0 Ox σ H E _ fun vs H1 s1 p1 => ?_
      cases h2 : gc ds with
      | none => rw [h2] at hrr; cases hrr
      | some z =>
        rw [h2] at hrr
        cases hrr
        exact hr ds z h2 _ _ vs H1 (E.step s1).ows p1 Q fun l o H' s hl p => q l o H' (s1.trans s) hl p
def gTupD (ds : List PyData) : Option PyData := if ds.length ≤ big then some (.tuple ds) else none
def gLstD (ds : List PyData) : Option PyData := if ds.length ≤ big then some (.list ds) else none
theorem pp_tup {x1} (ha : PAr X C W m es t g) : PP X C W m (.Tuple es x1 pos) (tTup t) (c1 g gTupD) := ⟨pe_tup ha.pe, ev_call (r := fun xs H1 Q => xs.length ≤ sizeLine ∧ ∀ p, H1 p = none → Q (.ref p) (upd H1 p (.tup xs))) ha.ev fun ds z hz O Ox xs H mu p Q q => by
  unfold gTupD at hz
  by_cases h : ds.length ≤ big
  · rw [if_pos h] at hz; cases hz
    exact ⟨by rw [← rpl_len p]; exact big_ok h, fun l hl => q _ _ (.new mu.mu hl) (new_tup mu hl p)⟩
  · rw [if_neg h] at hz; cases hz⟩
theorem pf_lst (ha : PAr X C W m es t g) : PF X C W m (.List es pos) (tLst t) (c1 g gLstD) := ⟨pe_lst ha.pe, ev_callF (r := fun xs H1 Q => xs.length ≤ sizeLine ∧ ∀ p, H1 p = none → Q (.ref p) (upd H1 p (.lst xs))) ha.ev fun ds z hz O Ox xs H mu p Q q => by
  unfold gLstD at hz
  by_cases h : ds.length ≤ big
  · rw [if_pos h] at hz; cases hz
    exact ⟨by rw [← rpl_len p]; exact big_ok h, fun l hl => q l _ H (.refl _ _) hl ⟨xs, rfl, p⟩⟩
  · rw [if_neg h] at hz; cases hz⟩
def gIx : PyData → PyData → Option PyData
  | .list ds, .int i => atI ds i
  | .tuple ds, .int i => atI ds i
  | .str z, .int i => if z.length ≤ big then (atI z.cps.toList i).map fun c => .str ⟨#[c]⟩ else none
  | _, _ => none
theorem rpl_atI {K : PySem.W.Frag} {H : Hp} {ds : List PyData} {vs : List V} {i : Int} {d : PyData} (h : RpL K H ds vs) (e : atI ds i = some d) : ∃ v, atI vs i = some v ∧ Rp K H d v := by
  unfold atI at e ⊢
  rw [← rpl_len h]
  cases h1 : ixN ds.length i with
  | none => rw [h1] at e; cases e
  | some j =>
    rw [h1] at e
    exact rpl_get h e
theorem pp_ix (o : On X C k) (ha : PH X C W m a ta fa) (hb : PP X C W .rd b tb fb) (hs : PlainIx b := by exact fun _ _ => rfl) : PP X C W m (.Subscript a b pos) (tOp (rIx C.K) ta tb) (b2 fa fb gIx) := by
  refine ⟨pe_ix (by rw [← o.K]; exact ix_seq) ha.pe hb.pe hs, fun Γ r hr H0 Ox σ H E Q q => ?_⟩
  refine evH_two ha.ev hb.h.ev E hr (fun d e z hz er x y H2 s E2 px py => ?_) fun x ex => by subst ex; exact q
  subst er
  unfold gIx at hz
  split at hz
  · rename_i ds i
    obtain ⟨p, xs, rfl, h1, h2⟩ := px
    obtain ⟨v, h3, h4⟩ := rpl_atI h2 hz
    rw [rp_int (K := C.K) (H := H2) py]
    exact .inl ⟨p, xs, i, v, rfl, rfl, h1, h3, q v _ s h4⟩
  · rename_i ds i
    obtain ⟨p, xs, rfl, h1, h2⟩ := rp_tup px
    obtain ⟨v, h3, h4⟩ := rpl_atI h2 hz
    rw [rp_int (K := C.K) (H := H2) py]
    exact .inr (.inl ⟨p, xs, i, v, rfl, rfl, hm_sqT h1, h3, q v _ s h4⟩)
  · rename_i zz i
    rw [rp_int (K := C.K) (H := H2) py, rp_str (K := C.K) (H := H2) px]
    by_cases h : zz.length ≤ big
    · rw [if_pos h] at hz
      cases h1 : atI zz.cps.toList i with
      | none => rw [h1] at hz; cases hz
      | some c =>
        rw [h1] at hz; cases hz
        exact .inr (.inr ⟨zz, i, c, rfl, rfl, big_ok h, h1, q _ _ s mk_str⟩)
    · rw [if_neg h] at hz; cases hz
  · cases hz
abbrev POx := Ga → Option (Except Er (Option Int))
def EvO (C : Cf) (W : WX) (to : TO) (f : POx) : Prop := ∀ Γ r, f Γ = some r → ∀ H0 Ox σ H, EnvR C H0 Ox σ Γ H → ∀ Q : Option Int → Hp → Prop,
  (match r with
    | .ok i => ∀ H', Stp (ow C.fl Ox σ Γ) H H' → Q i H'
    | .error e => ∀ H', Stp (ow C.fl Ox σ Γ) H H' → ErW C W σ e H') → to σ H Q
structure PPo (X : Cx) (C : Cf) (W : WX) (e : Option Expr) (to : TO) (f : POx) : Prop where
  pe : PO X e to
  ev : EvO C W to f
def oNone : POx := fun _ => some (.ok none)
def oSome (f : PX) : POx := fun Γ => match f Γ with
  | some (.ok (.int i)) => some (.ok (some i))
  | some (.error e) => some (.error e)
  | _ => none
theorem ppo_none : PPo X C W none tNoPart oNone := ⟨po_none, fun Γ r hr H0 Ox σ H E Q q => by cases hr; exact q H (.refl _ _)⟩
theorem ppo_some (h : PP X C W .rd e te f) : PPo X C W (some e) (tPart te) (oSome f) := ⟨po_some h.pe, fun Γ r hr H0 Ox σ H E Q q => by
  unfold oSome at hr
  split at hr
  · rename_i i h1
    cases hr
    exact h.ev Γ _ h1 H0 Ox σ H E _ fun v H' s p => ⟨i, rp_int p, q H' s⟩
  · rename_i x h1
    cases hr
    exact h.ev Γ _ h1 H0 Ox σ H E _ q
  · cases hr⟩
def cutD {α : Type} (xs : List α) (lo hi : Option Int) : List α := (xs.drop (HT.sIx xs.length 0 lo)).take (HT.sIx xs.length xs.length hi - HT.sIx xs.length 0 lo)
theorem rpl_cut {K : PySem.W.Frag} {H : Hp} {ds : List PyData} {vs : List V} (h : RpL K H ds vs) (lo hi : Option Int) : RpL K H (cutD ds lo hi) (cutV vs lo hi) := by
  unfold cutD cutV
  rw [rpl_len h]
  exact rpl_take _ (rpl_drop _ h)
def gSl (d : PyData) (lo hi : Option Int) : Option PyData := match d with
  | .list ds => some (.list (cutD ds lo hi))
  | .tuple ds => some (.tuple (cutD ds lo hi))
  | .str z => if z.length ≤ big then some (.str (cutS z lo hi)) else none
  | _ => none
def s3 (f : PX) (l u : POx) (g : PyData → Option Int → Option Int → Option PyData) : PX := fun Γ => match f Γ with
  | some (.ok d) => (match l Γ with
    | some (.ok lo) => (match u Γ with
      | some (.ok hi) => (g d lo hi).map .ok
      | some (.error e) => some (.error e)
      | none => none)
    | some (.error e) => some (.error e)
    | none => none)
  | some (.error e) => some (.error e)
  | none => none
abbrev rSlX (K : PySem.W.Frag) := fun (x : V) (lo hi : Option Int) (H : Hp) (Q : VK) => rSlL K x lo hi H Q ∨ (rSlA K x lo hi H Q ∨ rSlS x lo hi H Q)
variable {lo hi : Option Expr} {tl th : TO} {fl fh : POx} {p2 : Pos}
theorem ev_s3 {R : V → Option Int → Option Int → Hp → Prop} {H0 H : Hp} {Ox : List Addr} {σ : L2.St} {Γ : Ga} {r : Res} {g : PyData → Option Int → Option Int → Option PyData} (ha : EvH C W m ta fa) (hl : EvO C W tl fl) (hh : EvO C W th fh) (E : EnvR C H0 Ox σ Γ H) (hr : s3 fa fl fh g Γ = some r)
    (h : ∀ d lo hi z, g d lo hi = some z → r = .ok z → ∀ x H2, Stp (ow C.fl Ox σ Γ) H H2 → EnvR C H0 Ox σ Γ H2 → Hf C.K m (ow C.fl Ox σ Γ) Ox H2 d x → R x lo hi H2)
    (he : ∀ x, r = .error x → ∀ H', Stp (ow C.fl Ox σ Γ) H H' → ErW C W σ x H') : ta σ H fun x H1 => tl σ H1 fun l H2 => th σ H2 fun u H3 => R x l u H3 := by
  unfold s3 at hr
  cases h1 : fa Γ with
  | none => rw [h1] at hr; cases hr
  | some r1 =>
    rw [h1] at hr
    cases r1 with
    | error x => cases hr; exact ha Γ _ h1 H0 Ox σ H E _ (he x rfl)
    | ok d =>
      refine ha Γ _ h1 H0 Ox σ H E _ fun v H1 s1 p1 => ?_
      simp only at hr
      have E1 := E.step s1
      cases h2 : fl Γ with
      | none => rw [h2] at hr; cases hr
      | some r2 =>
        rw [h2] at hr
        cases r2 with
        | error x => cases hr; exact hl Γ _ h2 H0 Ox σ H1 E1 _ fun H' s => he x rfl H' (s1.trans s)
        | ok lo =>
          refine hl Γ _ h2 H0 Ox σ H1 E1 _ fun H2 s2 => ?_
          simp only at hr
          have E2 := E1.step s2
          cases h3 : fh Γ with
          | none => rw [h3] at hr; cases hr
          | some r3 =>
            rw [h3] at hr
            cases r3 with
            | error x => cases hr; exact hh Γ _ h3 H0 Ox σ H2 E2 _ fun H' s => he x rfl H' ((s1.trans s2).trans s)
            | ok hi =>
              refine hh Γ _ h3 H0 Ox σ H2 E2 _ fun H3 s3 => ?_
              simp only at hr
              cases h4 : g d lo hi with
              | none => rw [h4] at hr; cases hr
              | some z =>
                rw [h4] at hr
                have er : r = .ok z := by cases hr; rfl
                exact h d lo hi z h4 er v H3 ((s1.trans s2).trans s3) (E2.step s3) (hf_sm s3 E2.ows (hf_sm s2 E1.ows p1))
theorem pp_slice (o : On X C k) (ha : PH X C W m a ta fa) (hl : PPo X C W lo tl fl) (hh : PPo X C W hi th fh) : PP X C W m (.Subscript a (.Slice lo hi none p2) pos) (tSl (rSlX C.K) ta tl th) (s3 fa fl fh gSl) := by
  refine ⟨pe_slice (by rw [← o.K]; exact sl_list.or (sl_tupA.or sl_str)) ha.pe hl.pe hh.pe, fun Γ r hr H0 Ox σ H E Q q => ?_⟩
  refine ev_s3 ha.ev hl.ev hh.ev E hr (fun d l u z hz er x H2 s E2 px => ?_) fun x ex => by subst ex; exact q
  subst er
  have mu := E2.ows
  unfold gSl at hz
  split at hz
  · rename_i ds
    cases hz
    obtain ⟨p, xs, rfl, h1, h2⟩ := px
    exact .inl ⟨p, xs, rfl, h1, fun p hp => q _ _ (s.trans (.new mu.mu hp)) (new_lst mu hp (rpl_cut h2 l u))⟩
  · rename_i ds
    cases hz
    obtain ⟨p, xs, rfl, h1, h2⟩ := rp_tup px
    refine .inr (.inl ⟨p, xs, rfl, hm_sqT h1, fun hw => ?_, fun _ p hp => q _ _ (s.trans (.new mu.mu hp)) (new_tup mu hp (rpl_cut h2 l u))⟩)
    have e : cutD ds l u = ds := by
      unfold cutD
      rw [rpl_len h2, hw.1, hw.2, ← rpl_len h2]
      simp
    rw [e] at q
    exact q _ _ s px
  · rename_i zz
    rw [rp_str (K := C.K) (H := H2) px]
    by_cases h : zz.length ≤ big
    · rw [if_pos h] at hz; cases hz
      exact .inr (.inr ⟨zz, rfl, big_ok h, q _ _ s mk_str⟩)
    · rw [if_neg h] at hz; cases hz
  · cases hz
end
end Z
set_option Elab.async false
set_option linter.all false
set_option maxRecDepth 100000
set_option maxHeartbeats 4000000
namespace Z
open PySem PySem.Spec PyProof.Rows L2
def ints? : List PyData → Option (List Int)
  | [] => some []
  | .int i :: r => (ints? r).map (i :: ·)
  | _ => none
theorem ints_v {K : PySem.W.Frag} {H : Hp} : ∀ {ds : List PyData} {vs : List V} {ns : List Int}, ints? ds = some ns → RpL K H ds vs → vs = ns.map V.int
  | [], _, _, e, h => by simp only [RpL] at h; cases e; exact h
  | d :: ds, _, _, e, h => by
    simp only [RpL] at h
    obtain ⟨v, r, rfl, h2, h3⟩ := h
    cases d with
    | int i =>
      simp only [ints?] at e
      cases h1 : ints? ds with
      | none => rw [h1] at e; cases e
      | some ns => rw [h1] at e; cases e; rw [rp_int h2, ints_v h1 h3]; rfl
    | _ => cases e
theorem rpl_ints {K : PySem.W.Frag} {H : Hp} : ∀ (ns : List Int), RpL K H (ns.map PyData.int) (ns.map V.int)
  | [] => rpl_nil
  | _ :: ns => rpl_cons mk_int (rpl_ints ns)
theorem ints_map : ∀ ns : List Int, ints? (ns.map PyData.int) = some ns
  | [] => rfl
  | n :: ns => by simp only [List.map_cons, ints?, ints_map ns, Option.map]
def RH (K : PySem.W.Frag) (m : Md) (r : List V → Hp → VK → Prop) (g : PyData → Option PyData) : Prop := ∀ d z, g d = some z → ∀ O Ox x H, Ows O Ox H → Hf K m O Ox H d x → ∀ Q : VK, (∀ v H', Stp O H H' → Rp K (hm m O Ox H') z v → Q v H') → r [x] H Q
def RHF (K : PySem.W.Frag) (m : Md) (r : List V → Hp → VK → Prop) (g : PyData → Option PyData) : Prop := ∀ d z, g d = some z → ∀ O Ox x H, Ows O Ox H → Hf K m O Ox H d x → ∀ Q : VK, (∀ l o H', Stp O H H' → H' l = none → Cel K (hm m O Ox H') z o → Q (.ref l) (upd H' l o)) → r [x] H Q
section
variable {X : Cx} {C : Cf} {W : WX} {m : Md} {k : Nat} {e a b c : Expr} {te ta tb tc : TE} {f fa fb fc : PX} {pos p : Pos} {r : List V → Hp → VK → Prop} {g : PyData → Option PyData}
theorem ev_c1 (ha : EvH C W m ta fa) (hr : RH C.K m r g) : Ev C W m (tCB r (tCons ta tNil)) (b1 fa g) := fun Γ r' hr' H0 Ox σ H E Q q => by
  show ta σ H fun x H1 => r [x] H1 Q
  refine evH_one ha E hr' (fun d z hz er x H2 s E2 px => ?_) fun x ex => by subst ex; exact q
  subst er
  exact hr d z hz _ _ x H2 E2.ows px Q fun v H' s' p => q v H' (s.trans s') p
theorem ev_c1F (ha : EvH C W m ta fa) (hr : RHF C.K m r g) : EvF C W m (tCB r (tCons ta tNil)) (b1 fa g) := fun Γ r' hr' H0 Ox σ H E Q q => by
  show ta σ H fun x H1 => r [x] H1 Q
  refine evH_one ha E hr' (fun d z hz er x H2 s E2 px => ?_) fun x ex => by subst ex; exact q
  subst er
  exact hr d z hz _ _ x H2 E2.ows px Q fun l o H' s' hl p => q l o H' (s.trans s') hl p
variable (hs : starEach [a] X.env = (false, eval a X.env) :: starEach [] X.env := by rfl)
include hs
theorem pp_b1 {x : Str} {id : String} (ho : CallR X (.builtin id) r) (hr : RH C.K m r g) (hv : bootBuiltins x = some (.builtin id)) (hg : Gl X x) (hm : X.mg x = none) (ha : PH X C W m a ta fa) (hn : x ≠ "__name__" := by decide) (hdb : (x == ("__debug__" : Str)) = false := by decide) : PP X C W m (.Call (.Name x p) [a] [] pos) (tCB r (tCons ta tNil)) (b1 fa g) := ⟨pe_callB ho hg hm hv (pa_cons ha.pe pa_nil hs) hn hdb hs rfl, ev_c1 ha.ev hr⟩
theorem pp_t1 {x : Str} {id : String} (ho : CallR X (.type id) r) (hr : RH C.K m r g) (hv : bootBuiltins x = some (.type id)) (hg : Gl X x) (hm : X.mg x = none) (ha : PH X C W m a ta fa) (hn : x ≠ "__name__" := by decide) (hdb : (x == ("__debug__" : Str)) = false := by decide) : PP X C W m (.Call (.Name x p) [a] [] pos) (tCB r (tCons ta tNil)) (b1 fa g) := ⟨pe_callTy ho hg hm hv (pa_cons ha.pe pa_nil hs) hn hdb hs rfl, ev_c1 ha.ev hr⟩
theorem pf_b1 {x : Str} {id : String} (ho : CallR X (.builtin id) r) (hr : RHF C.K m r g) (hv : bootBuiltins x = some (.builtin id)) (hg : Gl X x) (hm : X.mg x = none) (ha : PH X C W m a ta fa) (hn : x ≠ "__name__" := by decide) (hdb : (x == ("__debug__" : Str)) = false := by decide) : PF X C W m (.Call (.Name x p) [a] [] pos) (tCB r (tCons ta tNil)) (b1 fa g) := ⟨pe_callB ho hg hm hv (pa_cons ha.pe pa_nil hs) hn hdb hs rfl, ev_c1F ha.ev hr⟩
theorem pf_t1 {x : Str} {id : String} (ho : CallR X (.type id) r) (hr : RHF C.K m r g) (hv : bootBuiltins x = some (.type id)) (hg : Gl X x) (hm : X.mg x = none) (ha : PH X C W m a ta fa) (hn : x ≠ "__name__" := by decide) (hdb : (x == ("__debug__" : Str)) = false := by decide) : PF X C W m (.Call (.Name x p) [a] [] pos) (tCB r (tCons ta tNil)) (b1 fa g) := ⟨pe_callTy ho hg hm hv (pa_cons ha.pe pa_nil hs) hn hdb hs rfl, ev_c1F ha.ev hr⟩
omit hs
def gLen : PyData → Option PyData
  | .list ds => some (.int ds.length)
  | .tuple ds => some (.int ds.length)
  | .str z => if z.length ≤ big then some (.int z.length) else none
  | _ => none
abbrev rLen (K : PySem.W.Frag) : List V → Hp → VK → Prop := fun xs H Q => ∃ x n, xs = [x] ∧ LenV K x H n ∧ Q (.int n) H
theorem rh_len {K : PySem.W.Frag} : RH K m (rLen K) gLen := by
  intro d z hz O Ox x H mu px Q q
  unfold gLen at hz
  split at hz
  · cases hz
    obtain ⟨p, xs, rfl, h1, h2⟩ := px
    exact ⟨_, xs.length, rfl, .inl ⟨xs, h1, rfl⟩, q _ H (.refl _ _) (by rw [rpl_len h2]; exact mk_int)⟩
  · cases hz
    obtain ⟨p, xs, rfl, h1, h2⟩ := rp_tup px
    exact ⟨_, xs.length, rfl, .inr ⟨xs, hm_sqT h1, rfl⟩, q _ H (.refl _ _) (by rw [rpl_len h2]; exact mk_int)⟩
  · rename_i zz
    rw [rp_str (K := K) (H := H) px]
    by_cases h : zz.length ≤ big
    · rw [if_pos h] at hz; cases hz
      exact ⟨_, zz.length, rfl, ⟨big_ok h, rfl⟩, q _ H (.refl _ _) mk_int⟩
    · rw [if_neg h] at hz; cases hz
  · cases hz
theorem pp_len (o : On X C k) (hg : Gl X "len") (hm : X.mg "len" = none) (ha : PH X C W m a ta fa) (hs : starEach [a] X.env = (false, eval a X.env) :: starEach [] X.env := by rfl) : PP X C W m (.Call (.Name "len" p) [a] [] pos) (tCB (rLen C.K) (tCons ta tNil)) (b1 fa gLen) := pp_b1 (hs := hs) (by rw [← o.K]; exact call_len) rh_len PySem.boot_len hg hm ha
def gTupO : PyData → Option PyData
  | .list ds => some (.tuple ds)
  | .tuple ds => some (.tuple ds)
  | _ => none
def gLstO : PyData → Option PyData
  | .list ds => some (.list ds)
  | .tuple ds => some (.list ds)
  | _ => none
abbrev rTupO (K : PySem.W.Frag) : List V → Hp → VK → Prop := fun xs H Q => ∃ p ys, xs = [.ref p] ∧ ((SqL K H p ys ∧ ∀ l, H l = none → Q (.ref l) (upd H l (.tup ys))) ∨ (SqT K H p ys ∧ Q (.ref p) H))
abbrev rLstO (K : PySem.W.Frag) : List V → Hp → VK → Prop := fun xs H Q => ∃ p ys, xs = [.ref p] ∧ (SqL K H p ys ∨ SqT K H p ys) ∧ ∀ l, H l = none → Q (.ref l) (upd H l (.lst ys))
theorem rh_tupO {K : PySem.W.Frag} : RH K m (rTupO K) gTupO := by
  intro d z hz O Ox x H mu px Q q
  unfold gTupO at hz
  split at hz
  · cases hz
    obtain ⟨p, xs, rfl, h1, h2⟩ := px
    exact ⟨p, xs, rfl, .inl ⟨h1, fun l hl => q _ _ (.new mu.mu hl) (new_tup mu hl h2)⟩⟩
  · cases hz
    obtain ⟨p, xs, rfl, h1, h2⟩ := rp_tup px
    exact ⟨p, xs, rfl, .inr ⟨hm_sqT h1, q _ _ (.refl _ _) px⟩⟩
  · cases hz
theorem rhf_lstO {K : PySem.W.Frag} : RHF K m (rLstO K) gLstO := by
  intro d z hz O Ox x H mu px Q q
  unfold gLstO at hz
  split at hz
  · cases hz
    obtain ⟨p, xs, rfl, h1, h2⟩ := px
    exact ⟨p, xs, rfl, .inl h1, fun l hl => q l _ H (.refl _ _) hl ⟨xs, rfl, h2⟩⟩
  · cases hz
    obtain ⟨p, xs, rfl, h1, h2⟩ := rp_tup px
    exact ⟨p, xs, rfl, .inr (hm_sqT h1), fun l hl => q l _ H (.refl _ _) hl ⟨xs, rfl, h2⟩⟩
  · cases hz
theorem pp_tupO (o : On X C k) (hg : Gl X "tuple") (hm : X.mg "tuple" = none) (ha : PH X C W m a ta fa) (hs : starEach [a] X.env = (false, eval a X.env) :: starEach [] X.env := by rfl) : PP X C W m (.Call (.Name "tuple" p) [a] [] pos) (tCB (rTupO C.K) (tCons ta tNil)) (b1 fa gTupO) := pp_t1 (hs := hs) (by rw [← o.K]; exact call_tuple_of) rh_tupO boot_tuple hg hm ha
theorem pf_lstO (o : On X C k) (hg : Gl X "list") (hm : X.mg "list" = none) (ha : PH X C W m a ta fa) (hs : starEach [a] X.env = (false, eval a X.env) :: starEach [] X.env := by rfl) : PF X C W m (.Call (.Name "list" p) [a] [] pos) (tCB (rLstO C.K) (tCons ta tNil)) (b1 fa gLstO) := pf_t1 (hs := hs) (by rw [← o.K]; exact call_list_of) rhf_lstO boot_list hg hm ha
def gInt : PyData → Option PyData
  | .int i => some (.int i)
  | .bool b => some (.int (if b then 1 else 0))
  | .str z => if z.length ≤ 640 then (PySem.intText? z).map .int else none
  | _ => none
abbrev rInt : List V → Hp → VK → Prop := fun xs H Q => ((∃ i, xs = [.int i] ∧ Q (.int i) H) ∨ ∃ k, xs = [.bl k] ∧ Q (.int (if k then 1 else 0)) H) ∨ ∃ a n, xs = [.str a] ∧ PySem.intText? a = some n ∧ a.length ≤ 640 ∧ Q (.int n) H
theorem rh_int {K : PySem.W.Frag} : RH K m rInt gInt := by
  intro d z hz O Ox x H mu px Q q
  unfold gInt at hz
  split at hz
  · cases hz
    rw [rp_int (K := K) (H := H) px]
    exact .inl (.inl ⟨_, rfl, q _ H (.refl _ _) mk_int⟩)
  · cases hz
    rw [rp_bool (K := K) (H := H) px]
    exact .inl (.inr ⟨_, rfl, q _ H (.refl _ _) mk_int⟩)
  · rename_i zz
    rw [rp_str (K := K) (H := H) px]
    by_cases h : zz.length ≤ 640
    · rw [if_pos h] at hz
      cases h1 : PySem.intText? zz with
      | none => rw [h1] at hz; cases hz
      | some n => rw [h1] at hz; cases hz; exact .inr ⟨_, n, rfl, h1, h, q _ H (.refl _ _) mk_int⟩
    · rw [if_neg h] at hz; cases hz
  · cases hz
theorem pp_int1 (o : On X C k) (hg : Gl X "int") (hm : X.mg "int" = none) (ha : PH X C W m a ta fa) (hs : starEach [a] X.env = (false, eval a X.env) :: starEach [] X.env := by rfl) : PP X C W m (.Call (.Name "int" p) [a] [] pos) (tCB rInt (tCons ta tNil)) (b1 fa gInt) := pp_t1 (hs := hs) (call_int1.or call_int_str) rh_int PyProof.Rows.boot_int hg hm ha
theorem boot_repr' : bootBuiltins "repr" = some (.builtin "repr") := by decide +kernel
theorem boot_sorted' : bootBuiltins "sorted" = some (.builtin "sorted") := by decide +kernel
def gRepr : PyData → Option PyData
  | .none => some (.str "None")
  | .bool b => some (.str (if b then "True" else "False"))
  | .str z => if (reprText z).length ≤ big then some (.str (reprText z)) else none
  | .int i => if i.natAbs.log2 < 1920 then some (.str (toString i)) else none
  | _ => none
abbrev rRepr : List V → Hp → VK → Prop := fun xs H Q => (xs = [.non] ∧ Q (.str "None") H) ∨ (∃ b, xs = [.bl b] ∧ Q (.str (if b then "True" else "False")) H) ∨ (∃ z, xs = [.str z] ∧ (reprText z).length ≤ sizeLine ∧ Q (.str (reprText z)) H) ∨ ∃ i, xs = [.int i] ∧ i.natAbs.log2 < 1920 ∧ Q (.str (toString i)) H
theorem call_reprS : CallR X (.builtin "repr") rRepr := by
  intro pins s σ H xs us Q I r h
  rcases h with ⟨rfl, q⟩ | ⟨b, rfl, q⟩ | ⟨z, rfl, hz, q⟩ | ⟨i, rfl, hz, q⟩
  · obtain ⟨u, rfl, r1⟩ := vals1 r
    cases r1
    exact PySem.P.repr_of_none ⟨.str _, H, I.tok _, ⟨_, rfl⟩, q⟩
  · obtain ⟨u, rfl, r1⟩ := vals1 r
    cases r1
    exact PySem.P.repr_of_bool ⟨.str _, H, I.tok _, ⟨_, rfl⟩, q⟩
  · obtain ⟨u, rfl, t, rfl⟩ := vals1 r
    exact PySem.P.repr_of_str ⟨.str _, H, I.tok _, ⟨_, rfl⟩, q⟩ hz
  · obtain ⟨u, rfl, t, rfl⟩ := vals1 r
    exact PySem.P.repr_of_int hz ⟨.str _, H, I.tok _, ⟨_, rfl⟩, q⟩
theorem rh_repr {K : PySem.W.Frag} : RH K m rRepr gRepr := by
  intro d z hz O Ox x H mu px Q q
  unfold gRepr at hz
  split at hz
  · cases hz
    rw [rp_none (K := K) (H := H) px]
    exact .inl ⟨rfl, q _ H (.refl _ _) mk_str⟩
  · cases hz
    rw [rp_bool (K := K) (H := H) px]
    exact .inr (.inl ⟨_, rfl, q _ H (.refl _ _) mk_str⟩)
  · rename_i zz
    rw [rp_str (K := K) (H := H) px]
    by_cases h : (reprText zz).length ≤ big
    · rw [if_pos h] at hz; cases hz
      exact .inr (.inr (.inl ⟨_, rfl, big_ok h, q _ H (.refl _ _) mk_str⟩))
    · rw [if_neg h] at hz; cases hz
  · rename_i i
    rw [rp_int (K := K) (H := H) px]
    by_cases h : i.natAbs.log2 < 1920
    · rw [if_pos h] at hz; cases hz
      exact .inr (.inr (.inr ⟨_, rfl, h, q _ H (.refl _ _) mk_str⟩))
    · rw [if_neg h] at hz; cases hz
  · cases hz
def isort (ns : List Int) : List Int := ns.mergeSort
theorem isort_unique {ns ns' : List Int} (hp : ns'.Perm ns) (hs : ns'.Pairwise (· ≤ ·)) : ns' = isort ns := by
  have h1 : (isort ns).Pairwise (· ≤ ·) := by
    have := List.pairwise_mergeSort (le := fun (a b : Int) => decide (a ≤ b)) (fun a b c h1 h2 => by simp at *; omega) (fun a b => by simp; omega) ns
    exact this.imp fun {x y} h => of_decide_eq_true h
  exact List.Perm.eq_of_pairwise (le := (· ≤ ·)) (fun a b _ _ h1 h2 => by omega) hs h1 (hp.trans (List.mergeSort_perm ns _).symm)
def gSortI : PyData → Option PyData
  | .list ds => (ints? ds).map fun ns => .list ((isort ns).map .int)
  | _ => none
theorem rhf_sortI {K : PySem.W.Frag} : RHF K m (rSortedI K) gSortI := by
  intro d z hz O Ox x H mu px Q q
  unfold gSortI at hz
  split at hz
  · rename_i ds
    cases h1 : ints? ds with
    | none => rw [h1] at hz; cases hz
    | some ns =>
      rw [h1] at hz; cases hz
      obtain ⟨p, xs, rfl, h2, h3⟩ := px
      have e := ints_v h1 h3
      subst e
      refine ⟨p, ns, rfl, h2, fun ns' l hp hs hl => ?_⟩
      rw [isort_unique hp hs]
      exact q l _ H (.refl _ _) hl ⟨_, rfl, rpl_ints _⟩
  · cases hz
def rgD (a b : Int) : List PyData := (List.range (b - a).toNat).map fun i => .int (a + (i : Nat))
theorem rpl_map {α : Type} {K : PySem.W.Frag} {H : Hp} {f : α → PyData} {g : α → V} (h : ∀ x, Rp K H (f x) (g x)) : ∀ l : List α, RpL K H (l.map f) (l.map g)
  | [] => rpl_nil
  | _ :: l => rpl_cons (h _) (rpl_map h l)
theorem rpl_rg {K : PySem.W.Frag} {H : Hp} (a b : Int) : RpL K H (rgD a b) (rgV a b) := rpl_map (fun _ => mk_int) _
abbrev rgOk (a b : Int) : Prop := a.natAbs ≤ 1000000 ∧ b.natAbs ≤ 1000000
theorem rgOk.ok {a b : Int} (h : rgOk a b) : RgOk a b := by
  unfold rgOk at h
  exact ⟨by omega, by omega, by omega, by omega, by omega⟩
def gRg1L : PyData → Option PyData
  | .int n => if rgOk 0 n then some (.list (rgD 0 n)) else none
  | _ => none
theorem pf_listRg1 {p p' pos' : Pos} (o : On X C k) (cm : X.calm = true) (hg : Gl X "list") (hm : X.mg "list" = none) (hgr : Gl X "range") (hmr : X.mg "range" = none) (ha : PP X C W .rd a ta fa) (hs : starEach [a] X.env = (false, eval a X.env) :: starEach [] X.env := by rfl)
    (na : starEach [Expr.Call (.Name "range" p') [a] [] pos'] X.env = (false, eval (Expr.Call (.Name "range" p') [a] [] pos') X.env) :: starEach [] X.env := by rfl) :
    PF X C W m (.Call (.Name "list" p) [.Call (.Name "range" p') [a] [] pos'] [] pos) (tLstRg (tRg1 ta)) (b1 fa gRg1L) := by
  refine ⟨pe_listRg cm hg hm (prg_1 hgr hmr ha.pe hs) na, fun Γ r' hr' H0 Ox σ H E Q q => ?_⟩
  show ta σ H fun x H1 => ∃ n, x = .int n ∧ RgOk 0 n ∧ ∀ l, H1 l = none → Q (.ref l) (upd H1 l (.lst (rgV 0 n)))
  refine ev_one ha.ev E hr' (fun d z hz er x H2 s E2 px => ?_) fun x ex => by subst ex; exact q
  subst er
  unfold gRg1L at hz
  split at hz
  · rename_i n
    by_cases h : rgOk 0 n
    · rw [if_pos h] at hz; cases hz
      exact ⟨n, rp_int px, h.ok, fun l hl => q l _ H2 s hl ⟨_, rfl, rpl_rg 0 n⟩⟩
    · rw [if_neg h] at hz; cases hz
  · cases hz
abbrev rRng : List V → Hp → VK → Prop := fun xs H Q => ∃ j, xs = [.int j] ∧ ∀ p, H p = none → Q (.ref p) (upd H p (.rng 0 j))
theorem cr_range1 : CallR X (.type "range") rRng := by
  intro pins s σ H vs us Q I r h
  obtain ⟨j, rfl, q⟩ := h
  obtain ⟨u, rfl, t, rfl⟩ := vals1 r
  refine call_range_1 ⟨.ref s.heap.objs.size, upd H s.heap.objs.size (.rng 0 j), I.laid (t' := s.toks + 1 + 1) (fun b o e => Heap.get?_push_of_some _ e) (Nat.le_refl _) ?_, rfl, q _ (I.hok.fresh (Nat.le_refl _))⟩
  exact ⟨s.toks, t, s.toks + 1, Heap.get?_push_size _ rfl⟩
def gInRg : PyData → PyData → Option PyData
  | .int i, .int n => some (.bool (decide (0 ≤ i ∧ i < n)))
  | _, _ => none
abbrev rInRg : R2 := fun x y H Q => ∃ i a lo hi, x = V.int i ∧ y = V.ref a ∧ H a = some (.rng lo hi) ∧ Q (.bl (decide (lo ≤ i ∧ i < hi))) H
theorem pp_inRg1 {p' pos' : Pos} (o : On X C k) (hgr : Gl X "range") (hmr : X.mg "range" = none) (ha : PP X C W .rd a ta fa) (hb : PP X C W .rd b tb fb) (hs : starEach [b] X.env = (false, eval b X.env) :: starEach [] X.env := by rfl) (hm : behindInMarks .In (Expr.Call (.Name "range" p') [b] [] pos') = false := by rfl) :
    PP X C W m (.Compare a [.In] [.Call (.Name "range" p') [b] [] pos'] pos) (tOp rInRg ta (tCB rRng (tCons tb tNil))) (b2 fa fb gInRg) := by
  refine ⟨pe_cmpR op_in_rng ha.pe (pe_callTy cr_range1 hgr hmr boot_range (pa_cons hb.pe pa_nil hs) (by decide) (by decide) hs rfl) hm, fun Γ r' hr' H0 Ox σ H E Q q => ?_⟩
  show ta σ H fun x H1 => tb σ H1 fun y H2 => ∃ j, [y] = [V.int j] ∧ ∀ p, H2 p = none → rInRg x (.ref p) (upd H2 p (.rng 0 j)) Q
  refine ev_two ha.ev hb.ev E hr' (fun d e z hz er x y H2 s E2 px py => ?_) fun x ex => by subst ex; exact q
  subst er
  unfold gInRg at hz
  split at hz
  · rename_i i n
    cases hz
    rw [rp_int px, rp_int py]
    exact ⟨n, rfl, fun l hl => ⟨i, l, 0, n, rfl, rfl, upd_same, q _ _ (s.trans (.new E2.mut hl)) mk_bool⟩⟩
  · cases hz
variable {apos : Pos}
end
end Z
set_option Elab.async false
set_option linter.all false
set_option maxRecDepth 100000
set_option maxHeartbeats 4000000
namespace Z
open PySem PySem.Spec PyProof.Rows L2
inductive Oc where
  | nx (Γ : Ga)
  | rt (d : PyData)
  | bk (Γ : Ga)
  | ct (Γ : Ga)
  | ex (e : Er) (Γ : Ga)
  | re (d : PyData) (Γ : Ga)
  | rn (d : PyData) (Γ : Ga)
abbrev SX := Ga → Option Oc
def OcW (C : Cf) (W : WX) (H0 : Hp) (Ox : List Addr) (D : Ends) : Oc → Prop
  | .nx Γ => ∀ σ H, EnvR C H0 Ox σ Γ H → D.nx σ H
  | .bk Γ => ∀ σ H, EnvR C H0 Ox σ Γ H → D.bk σ H
  | .ct Γ => ∀ σ H, EnvR C H0 Ox σ Γ H → D.ct σ H
  | .rt d => ∀ v H, Sm H0 H → Rp C.K (mask Ox H) d v → D.rt v H
  | .ex e Γ => ∀ σ H, EnvR C H0 Ox σ Γ H → ErW C W σ e H
  | .re d Γ => ∀ σ v H, EnvR C H0 Ox σ Γ H → Rp C.K (mask (ow C.fl Ox σ Γ) H) d v → D.rt v H
  | .rn d Γ => ∀ σ l o H, EnvR C H0 Ox σ Γ H → H l = none → Cel C.K (mask (ow C.fl Ox σ Γ) H) d o → D.rt (.ref l) (upd H l o)
def EvS (C : Cf) (W : WX) (t : TS) (f : SX) : Prop := ∀ Γ r, f Γ = some r → ∀ H0 Ox σ H, EnvR C H0 Ox σ Γ H → ∀ D, OcW C W H0 Ox D r → t D σ H
structure PSt (X : Cx) (C : Cf) (W : WX) (st : Stmt) (t : TS) (f : SX) : Prop where
  pe : PS X st t
  ev : EvS C W t f
structure PBk (X : Cx) (C : Cf) (W : WX) (sts : List Stmt) (t : TS) (f : SX) : Prop where
  pe : PSs X sts t
  ev : EvS C W t f
section
variable {C : Cf} {H0 H : Hp} {Ox : List Addr} {σ : L2.St} {Γ : Ga}
theorem ow1_set {i j : Nat} {v : Option V} {d : Option PyData} (h : j ≠ i) : ow1 (σ.set i v) (Γ.set i d) j = ow1 σ Γ j := by
  unfold ow1
  rw [List.getElem?_set_ne (Ne.symm h), List.getElem?_set_ne (Ne.symm h)]
theorem ow_set {i : Nat} {v : Option V} {d : Option PyData} (h : i ∉ C.fl) : ow C.fl Ox (σ.set i v) (Γ.set i d) = ow C.fl Ox σ Γ := by
  have : ∀ l : List Nat, i ∉ l → l.filterMap (ow1 (σ.set i v) (Γ.set i d)) = l.filterMap (ow1 σ Γ) := by
    intro l
    induction l with
    | nil => intro _; rfl
    | cons j l ih =>
      intro hl
      rw [List.filterMap_cons, List.filterMap_cons, ow1_set (fun e => hl (by rw [e]; simp)), ih (fun q => hl (List.mem_cons_of_mem _ q))]
  unfold ow
  rw [this _ h]
theorem EnvR.set (E : EnvR C H0 Ox σ Γ H) {i : Nat} {d : PyData} {v : V} (h : i ∉ C.fl) (hp : C.Off i) (p : Rp C.K (mask (ow C.fl Ox σ Γ) H) d v) : EnvR C H0 Ox (σ.set i (some v)) (Γ.set i (some d)) H := by
  refine ⟨by rw [List.length_set, List.length_set]; exact E.len, E.tabs, by rw [ow_set h]; exact E.sm, fun j e hj hn => ?_, fun j e hj hn => ?_, fun j k l hj hk h1 h2 => ?_, E.ox, (fun p q => by rw [List.getElem?_set_ne (Ne.symm (hp.pn p q))]; exact E.pn p q), fun q hq => (E.ob q hq).set (hp.ob q hq).1 (hp.ob q hq).2⟩
  · rw [ow_set h]
    by_cases q : j = i
    · subst q
      have lt : j < Γ.length := by
        have := List.getElem?_eq_some_iff.mp hj
        obtain ⟨h1, _⟩ := this
        rwa [List.length_set] at h1
      rw [List.getElem?_set_self lt] at hj
      cases hj
      exact ⟨v, by rw [List.getElem?_set_self (by rw [E.len]; exact lt)], p⟩
    · rw [List.getElem?_set_ne (Ne.symm q)] at hj ⊢
      exact E.val j e hj hn
  · have q : j ≠ i := fun e => h (e ▸ hn)
    rw [ow_set h]
    rw [List.getElem?_set_ne (Ne.symm q)] at hj ⊢
    exact E.own j e hj hn
  · rw [ow1_set (fun e => h (by rw [← e]; exact hj))] at h1
    rw [ow1_set (fun e => h (by rw [← e]; exact hk))] at h2
    exact E.apart j k l hj hk h1 h2
theorem EnvR.unset (E : EnvR C H0 Ox σ Γ H) {i : Nat} {v : Option V} (h : i ∉ C.fl) (hp : C.Off i) : EnvR C H0 Ox (σ.set i v) (Γ.set i none) H := by
  refine ⟨by rw [List.length_set, List.length_set]; exact E.len, E.tabs, by rw [ow_set h]; exact E.sm, fun j e hj hn => ?_, fun j e hj hn => ?_, fun j k l hj hk h1 h2 => ?_, E.ox, (fun p q => by rw [List.getElem?_set_ne (Ne.symm (hp.pn p q))]; exact E.pn p q), fun q hq => (E.ob q hq).set (hp.ob q hq).1 (hp.ob q hq).2⟩
  · rw [ow_set h]
    by_cases q : j = i
    · subst q
      rw [List.getElem?_set] at hj
      rw [if_pos rfl] at hj
      split at hj <;> cases hj
    · rw [List.getElem?_set_ne (Ne.symm q)] at hj ⊢
      exact E.val j e hj hn
  · have q : j ≠ i := fun e => h (e ▸ hn)
    rw [ow_set h]
    rw [List.getElem?_set_ne (Ne.symm q)] at hj ⊢
    exact E.own j e hj hn
  · rw [ow1_set (fun e => h (by rw [← e]; exact hj))] at h1
    rw [ow1_set (fun e => h (by rw [← e]; exact hk))] at h2
    exact E.apart j k l hj hk h1 h2
def wipeG (Γ : Ga) : List Nat → Ga
  | [] => Γ
  | v :: vs => (wipeG Γ vs).set v none
theorem EnvR.wipe (E : EnvR C H0 Ox σ Γ H) : ∀ {vs : List Nat}, (∀ i ∈ vs, C.plain i = true) → EnvR C H0 Ox (L2.wipe σ vs) (wipeG Γ vs) H ∧ ow C.fl Ox (L2.wipe σ vs) (wipeG Γ vs) = ow C.fl Ox σ Γ
  | [], _ => ⟨E, rfl⟩
  | v :: vs, h => by
    obtain ⟨E1, e1⟩ := EnvR.wipe E (vs := vs) fun i hi => h i (List.mem_cons_of_mem _ hi)
    have hv := h v List.mem_cons_self
    unfold L2.wipe wipeG
    exact ⟨E1.unset (pl1 hv) (pl2 hv), (ow_set (pl1 hv)).trans e1⟩
theorem sm_fresh {O O' : List Addr} {l : Addr} {o : HO} (hl : H l = none) (s : ∀ a ∈ O', a ∈ O ∨ a = l) : Sm (mask O H) (mask O' (upd H l o)) := .of_le fun a u e => by
  obtain ⟨e1, e2⟩ := mask_some e
  have ne : a ≠ l := fun z => by rw [z, hl] at e1; cases e1
  rw [mask_out (fun q => (s a q).elim e2 ne), upd_ne ne]
  exact e1
theorem EnvR.setF (E : EnvR C H0 Ox σ Γ H) {i : Nat} {d : PyData} {l : Addr} {o : HO} (h : i ∈ C.fl) (hp : C.Off i) (hi : i < Γ.length) (hl : H l = none) (p : Cel C.K (mask (ow C.fl Ox σ Γ) H) d o) : EnvR C H0 Ox (σ.set i (some (.ref l))) (Γ.set i (some d)) (upd H l o) := by
  have hi' : i < σ.length := by rw [E.len]; exact hi
  have e0 : ow1 (σ.set i (some (.ref l))) (Γ.set i (some d)) i = some l := ow_of (List.getElem?_set_self hi) (List.getElem?_set_self hi')
  have sub : ∀ O : List Addr, ∀ a ∈ ow C.fl O (σ.set i (some (.ref l))) (Γ.set i (some d)), a ∈ ow C.fl O σ Γ ∨ a = l := fun O a ha => by
    rcases mem_ow.mp ha with ⟨j, hj, h1⟩ | h1
    · by_cases q : j = i
      · subst q
        rw [e0] at h1
        cases h1
        exact .inr rfl
      · rw [ow1_set q] at h1
        exact .inl (mem_ow.mpr (.inl ⟨j, hj, h1⟩))
    · exact .inl (mem_ow.mpr (.inr h1))
  have n := not_own E.mut hl
  have sm1 := sm_fresh (o := o) hl (sub Ox)
  refine ⟨by rw [List.length_set, List.length_set]; exact E.len, E.tabs, E.sm.trans (sm_fresh hl (sub C.oba)), fun j e hj hn => ?_, fun j e hj hn => ?_, fun j k a hj hk h1 h2 => ?_, fun a ha => ?_, (fun p q => by rw [List.getElem?_set_ne (Ne.symm (hp.pn p q))]; exact E.pn p q), fun q hq => ((E.ob q hq).set (hp.ob q hq).1 (hp.ob q hq).2).at (fun a _ ⟨_, _, _, m⟩ => upd_ne fun z => by rw [z, hl] at m; cases m) fun _ h => h⟩
  · have q : j ≠ i := fun z => hn (z ▸ h)
    rw [List.getElem?_set_ne (Ne.symm q)] at hj ⊢
    obtain ⟨v, e1, e2⟩ := E.val j e hj hn
    exact ⟨v, e1, e2.sm sm1⟩
  · by_cases q : j = i
    · subst q
      rw [List.getElem?_set_self hi] at hj
      cases hj
      exact ⟨l, o, List.getElem?_set_self hi', upd_same, p.sm sm1, fun z => n (mem_ow.mpr (.inr z))⟩
    · rw [List.getElem?_set_ne (Ne.symm q)] at hj ⊢
      obtain ⟨l', o', e1, e2, e3, e4⟩ := E.own j e hj hn
      exact ⟨l', o', e1, by rw [upd_ne (ne_of_none e2 hl)]; exact e2, e3.sm sm1, e4⟩
  · have fr : ∀ j ∈ C.fl, j ≠ i → ow1 σ Γ j ≠ some l := fun j hj q z => n (mem_ow.mpr (.inl ⟨j, hj, z⟩))
    by_cases q1 : j = i
    · by_cases q2 : k = i
      · rw [q1, q2]
      · rw [q1, e0] at h1
        cases h1
        rw [ow1_set q2] at h2
        exact absurd h2 (fr k hk q2)
    · by_cases q2 : k = i
      · rw [q2, e0] at h2
        cases h2
        rw [ow1_set q1] at h1
        exact absurd h1 (fr j hj q1)
      · rw [ow1_set q1] at h1
        rw [ow1_set q2] at h2
        exact E.apart j k a hj hk h1 h2
  · have := E.ox a ha
    rw [upd_ne (fun z => by rw [z] at ha; exact n (mem_ow.mpr (.inr ha)))]
    exact this
theorem EnvR.chg (E : EnvR C H0 Ox σ Γ H) {i : Nat} {d d' : PyData} {l : Addr} {o o' : HO} (h : i ∈ C.fl) (hd : Γ[i]? = some (some d)) (hs : σ[i]? = some (some (.ref l))) (hl : H l = some o) (p : Cel C.K (mask (ow C.fl Ox σ Γ) H) d' o') (nx : l ∉ Ox) : EnvR C H0 Ox σ (Γ.set i (some d')) (upd H l o') := by
  have lt : i < Γ.length := (List.getElem?_eq_some_iff.mp hd).1
  have ow1e : ∀ j, ow1 σ (Γ.set i (some d')) j = ow1 σ Γ j := fun j => by
    by_cases q : j = i
    · subst q
      unfold ow1
      rw [List.getElem?_set_self lt, hd]
    · unfold ow1
      rw [List.getElem?_set_ne (Ne.symm q)]
  have owe : ∀ O, ow C.fl O σ (Γ.set i (some d')) = ow C.fl O σ Γ := fun O => by
    unfold ow
    rw [show ow1 σ (Γ.set i (some d')) = ow1 σ Γ from funext ow1e]
  have li : ∀ O, l ∈ ow C.fl O σ Γ := fun O => mem_ow.mpr (.inl ⟨i, h, ow_of hd hs⟩)
  have me : ∀ O, mask (ow C.fl O σ (Γ.set i (some d'))) (upd H l o') = mask (ow C.fl O σ Γ) H := fun O => by rw [owe, mask_upd_in (li O)]
  refine ⟨by rw [List.length_set]; exact E.len, E.tabs, by rw [me]; exact E.sm, fun j e hj hn => ?_, fun j e hj hn => ?_, fun j k a hj hk h1 h2 => ?_, fun a ha => ?_, E.pn, fun q hq => (E.ob q hq).at (fun a ha _ => upd_ne fun z => nx (by rw [← z]; exact ha)) fun _ h => h⟩
  · have q : j ≠ i := fun z => hn (z ▸ h)
    rw [List.getElem?_set_ne (Ne.symm q)] at hj
    rw [me]
    exact E.val j e hj hn
  · rw [me]
    by_cases q : j = i
    · subst q
      rw [List.getElem?_set_self lt] at hj
      cases hj
      exact ⟨l, o', hs, upd_same, p, nx⟩
    · rw [List.getElem?_set_ne (Ne.symm q)] at hj
      obtain ⟨l', u, e1, e2, e3, e4⟩ := E.own j e hj hn
      have ne : l' ≠ l := fun z => q (E.apart j i l hn h (ow_of hj (z ▸ e1)) (ow_of hd hs))
      exact ⟨l', u, e1, by rw [upd_ne ne]; exact e2, e3, e4⟩
  · rw [ow1e] at h1 h2
    exact E.apart j k a hj hk h1 h2
  · rw [upd_ne (fun z => nx (by rw [← z]; exact ha))]
    exact E.ox a ha
end
section
variable {X : Cx} {C : Cf} {W : WX} {k : Nat} {e a b c : Expr} {te ta tb tc : TE} {f fa fb fc : PX} {pos pos' : Pos} {st : Stmt} {rest sts : List Stmt} {t u : TS} {s g : SX}
def nxX : SX := fun Γ => some (.nx Γ)
def seqX (f g : SX) : SX := fun Γ => match f Γ with
  | some (.nx Γ') => g Γ'
  | r => r
theorem pbk_nil : PBk X C W [] tNext nxX := ⟨pss_nil, fun Γ r hr H0 Ox σ H E D q => by
  cases hr
  exact q σ H E⟩
theorem pbk_one (h : PSt X C W st t s) : PBk X C W [st] t s := ⟨pss_one h.pe, h.ev⟩
theorem pbk_cons (h : PSt X C W st t s) (r : PBk X C W rest u g) : PBk X C W (st :: rest) (tSeq t u) (seqX s g) := by
  refine ⟨pss_cons h.pe r.pe, fun Γ o ho H0 Ox σ H E D q => ?_⟩
  show t { D with nx := u D } σ H
  unfold seqX at ho
  split at ho
  · rename_i Γ' h1
    exact h.ev Γ _ h1 H0 Ox σ H E _ fun σ' H' E' => r.ev Γ' _ ho H0 Ox σ' H' E' D q
  · rename_i h1
    refine h.ev Γ _ ho H0 Ox σ H E _ ?_
    cases o with
    | nx Γ' => exact absurd ho (h1 Γ')
    | rt d => exact q
    | bk Γ' => exact q
    | ct Γ' => exact q
    | ex e Γ' => exact q
    | re d Γ' => exact q
    | rn d Γ' => exact q
def bkX : SX := fun Γ => some (.bk Γ)
theorem st_break : PSt X C W (.Break pos) tBreak bkX := ⟨ps_break, fun Γ r hr H0 Ox σ H E D q => by cases hr; exact q σ H E⟩
def retX (f : PX) : SX := fun Γ => match f Γ with
  | some (.ok d) => some (.rt d)
  | some (.error e) => some (.ex e Γ)
  | none => none
theorem st_ret (h : PP X C W .mid e te f) : PSt X C W (.Return (some e) pos) (tRet te) (retX f) := ⟨ps_ret h.pe, fun Γ r hr H0 Ox σ H E D q => by
  show te σ H D.rt
  unfold retX at hr
  split at hr
  · rename_i d h1
    cases hr
    exact h.ev Γ _ h1 H0 Ox σ H E _ fun v H' s p => q v H' ((E.step s).sm.trans (mask_le _ _)) p
  · rename_i x h1
    cases hr
    exact h.ev Γ _ h1 H0 Ox σ H E _ fun H' s => q σ H' (E.step s)
  · cases hr⟩
def dropX (f : PX) : SX := fun Γ => match f Γ with
  | some (.ok d) => some (.nx Γ)
  | some (.error e) => some (.ex e Γ)
  | none => none
theorem st_expr {m : Md} (h : PP X C W m e te f) (hs : swapsWith e none pos.line X.env = pure false := by rfl) : PSt X C W (.Expr e pos) (tDrop te) (dropX f) := ⟨ps_expr h.pe hs, fun Γ r hr H0 Ox σ H E D q => by
  show te σ H fun _ H1 => D.nx σ H1
  unfold dropX at hr
  split at hr
  · rename_i d h1
    cases hr
    exact h.ev Γ _ h1 H0 Ox σ H E _ fun v H' s p => q σ H' (E.step s)
  · rename_i x h1
    cases hr
    exact h.ev Γ _ h1 H0 Ox σ H E _ fun H' s => q σ H' (E.step s)
  · cases hr⟩
def ifS (c : PTx) (f g : SX) : SX := fun Γ => match c Γ with
  | some (.ok b) => if b then f Γ else g Γ
  | some (.error e) => some (.ex e Γ)
  | none => none
variable {tt : TT} {ft : PTx} {as bs : List Stmt}
theorem st_if (hc : PTt X C W c tt ft) (ha : PBk X C W as t s) (hb : PBk X C W bs u g) : PSt X C W (.If c as bs pos) (tIfS tt t u) (ifS ft s g) := ⟨ps_if hc.pe ha.pe hb.pe, fun Γ r hr H0 Ox σ H E D q => by
  show tt σ H fun b H1 => if b = true then t D σ H1 else u D σ H1
  unfold ifS at hr
  split at hr
  · rename_i b h1
    refine hc.ev Γ _ h1 H0 Ox σ H E _ fun H1 s1 => ?_
    cases b with
    | true => rw [if_pos rfl] at hr ⊢; exact ha.ev Γ _ hr H0 Ox σ H1 (E.step s1) D q
    | false => rw [if_neg Bool.false_ne_true] at hr ⊢; exact hb.ev Γ _ hr H0 Ox σ H1 (E.step s1) D q
  · rename_i x h1
    cases hr
    exact hc.ev Γ _ h1 H0 Ox σ H E _ fun H' s => q σ H' (E.step s)
  · cases hr⟩
abbrev BX := PyData → Ga → Option Ga
abbrev BXs := List PyData → Ga → Option Ga
def EvG (C : Cf) (g : TG) (b : BX) : Prop := ∀ d Γ Γ', b d Γ = some Γ' → ∀ H0 Ox σ H v, EnvR C H0 Ox σ Γ H → Rp C.K (mask (ow C.fl Ox σ Γ) H) d v → ∀ Q : L2.St → Hp → Prop, (∀ σ', EnvR C H0 Ox σ' Γ' H → ow C.fl Ox σ' Γ' = ow C.fl Ox σ Γ → Q σ' H) → g v σ H Q
def EvGs (C : Cf) (g : TGs) (b : BXs) : Prop := ∀ ds Γ Γ', b ds Γ = some Γ' → ∀ H0 Ox σ H vs, EnvR C H0 Ox σ Γ H → RpL C.K (mask (ow C.fl Ox σ Γ) H) ds vs → ∀ Q : L2.St → Hp → Prop, (∀ σ', EnvR C H0 Ox σ' Γ' H → ow C.fl Ox σ' Γ' = ow C.fl Ox σ Γ → Q σ' H) → g vs σ H Q
structure PTg (X : Cx) (C : Cf) (tg : Expr) (g : TG) (b : BX) : Prop where
  pe : PG X tg g
  ev : EvG C g b
structure PTgs (X : Cx) (C : Cf) (tgs : List Expr) (g : TGs) (b : BXs) : Prop where
  pe : PGs X tgs g
  ev : EvGs C g b
def bNm (i : Nat) : BX := fun d Γ => some (Γ.set i (some d))
def bNil : BXs := fun ds Γ => match ds with
  | [] => some Γ
  | _ => none
def bCons (b : BX) (r : BXs) : BXs := fun ds Γ => match ds with
  | d :: ds => (b d Γ).bind (r ds)
  | _ => none
def bTup (n : Nat) (b : BXs) : BX := fun d Γ => match d with
  | .tuple ds => if ds.length = n then b ds Γ else none
  | .list ds => if ds.length = n then b ds Γ else none
  | _ => none
def gTL (K : PySem.W.Frag) (n : Nat) (t : TGs) : TG := fun v σ H Q => gTup K n t v σ H Q ∨ gLst K n t v σ H Q
theorem pg_tl {X : Cx} {pos : Pos} {es : List Expr} {k : Nat} {t : TGs} {n : Nat} (hc : X.calm = true) (h : PGs X es t)
    (hn : (assignEach es X.env).length = n := by rfl) (hst : (assignEach es X.env).findIdx? (·.1) = none := by rfl) : PG X (.Tuple es k pos) (gTL X.K n t) :=
  ⟨fun pins s σ H v u Q I r hw => hw.elim (fun hw => (pg_tup hc h hn hst).run pins s σ H v u Q I r hw) fun hw => (pg_lst hc h hn hst).run pins s σ H v u Q I r hw⟩
variable {tg : Expr} {tgs : List Expr} {g1 : TG} {gs : TGs} {bx : BX} {bxs : BXs}
theorem tg_nm (o : OnK X C) (i : Nat) {x : Str} (hfl : C.plain i = true := by rfl) (hi : X.N[i]? = some x := by rfl) (hx : Loc X.env.scope x := by first | exact Or.inl rfl | exact Or.inr rfl) (hf : X.fn x = true ∨ X.env.scope.names.lookup x = some .local := by first | exact .inl rfl | exact .inr rfl | assumption) : PTg X C (.Name x pos) (gName i) (bNm i) := ⟨pg_name o.nd hi hx hf, fun d Γ Γ' hb H0 Ox σ H v E p Q q => by
  cases hb
  exact q _ (E.set (pl1 hfl) (pl2 hfl) p) (ow_set (pl1 hfl))⟩
theorem tgs_nil : PTgs X C [] gNil bNil := ⟨pgs_nil, fun ds Γ Γ' hb H0 Ox σ H vs E p Q q => by
  cases ds with
  | nil => cases hb; simp only [RpL] at p; exact ⟨p, q σ E rfl⟩
  | cons d ds => cases hb⟩
theorem tgs_cons (h : PTg X C tg g1 bx) (r : PTgs X C tgs gs bxs) (hs : (assignEach (tg :: tgs) X.env).map (·.2) = assign tg X.env :: (assignEach tgs X.env).map (·.2) := by rfl) : PTgs X C (tg :: tgs) (gCons g1 gs) (bCons bx bxs) := ⟨pgs_cons h.pe r.pe hs, fun ds Γ Γ' hb H0 Ox σ H vs E p Q q => by
  cases ds with
  | nil => cases hb
  | cons d ds =>
    simp only [RpL] at p
    obtain ⟨v, vr, rfl, p1, p2⟩ := p
    unfold bCons at hb
    simp only at hb
    cases h1 : bx d Γ with
    | none => rw [h1] at hb; cases hb
    | some Γ1 =>
      rw [h1] at hb
      refine ⟨v, vr, rfl, h.ev d Γ Γ1 h1 H0 Ox σ H v E p1 _ fun σ' E' oe => ?_⟩
      refine r.ev ds Γ1 Γ' hb H0 Ox σ' H vr E' (by rw [oe]; exact p2) Q fun σ2 E2 oe2 => q σ2 E2 (oe2.trans oe)⟩
theorem tg_tup (o : OnK X C) (cm : X.calm = true) {n k' : Nat} (h : PTgs X C tgs gs bxs) (hn : (assignEach tgs X.env).length = n := by rfl) (hst : (assignEach tgs X.env).findIdx? (·.1) = none := by rfl) : PTg X C (.Tuple tgs k' pos) (gTL C.K n gs) (bTup n bxs) := ⟨by rw [← o.K]; exact pg_tl cm h.pe hn hst, fun d Γ Γ' hb H0 Ox σ H v E p Q q => by
  unfold bTup at hb
  split at hb
  · rename_i ds
    by_cases hl : ds.length = n
    · rw [if_pos hl] at hb
      obtain ⟨a, xs, rfl, h1, h2⟩ := rp_tup p
      exact .inl ⟨a, xs, rfl, sqT_sm (mask_le _ _) h1, by rw [← rpl_len h2]; exact hl, h.ev ds Γ Γ' hb H0 Ox σ H xs E h2 Q q⟩
    · rw [if_neg hl] at hb; cases hb
  · rename_i ds
    by_cases hl : ds.length = n
    · rw [if_pos hl] at hb
      obtain ⟨a, xs, rfl, h1, h2⟩ := rp_lst p
      exact .inr ⟨a, xs, rfl, sqL_sm (mask_le _ _) h1, by rw [← rpl_len h2]; exact hl, h.ev ds Γ Γ' hb H0 Ox σ H xs E h2 Q q⟩
    · rw [if_neg hl] at hb; cases hb
  · cases hb⟩
def asgX (f : PX) (b : BX) : SX := fun Γ => match f Γ with
  | some (.ok d) => (b d Γ).map .nx
  | some (.error e) => some (.ex e Γ)
  | none => none
theorem ev_asg (h : Ev C W .st te f) (hg : EvG C g1 bx) : EvS C W (tAsg te g1) (asgX f bx) := fun Γ r hr H0 Ox σ H E D q => by
  show te σ H fun x H1 => g1 x σ H1 D.nx
  unfold asgX at hr
  split at hr
  · rename_i d h1
    cases h2 : bx d Γ with
    | none => rw [h2] at hr; cases hr
    | some Γ' =>
      rw [h2] at hr; cases hr
      refine h Γ _ h1 H0 Ox σ H E _ fun v H' s p => ?_
      exact hg d Γ Γ' h2 H0 Ox σ H' v (E.step s) p D.nx fun σ' E' _ => q σ' H' E'
  · rename_i x h1
    cases hr
    exact h Γ _ h1 H0 Ox σ H E _ fun H' s => q σ H' (E.step s)
  · cases hr
theorem st_set (o : On X C k) (i : Nat) {x : Str} (h : PP X C W .st e te f) (hfl : C.plain i = true := by rfl) (hi : X.N[i]? = some x := by rfl) (hx : Loc X.env.scope x := by first | exact Or.inl rfl | exact Or.inr rfl) (hs : swapsWith e (some (.Name x pos')) pos.line X.env = pure false := by rfl) (hf : X.fn x = true ∨ X.env.scope.names.lookup x = some .local := by first | exact .inl rfl | exact .inr rfl | assumption) :
    PSt X C W (.Assign [.Name x pos'] e pos) (tAsg te (gName i)) (asgX f (bNm i)) := ⟨ps_set o.nd hi hx h.pe hs hf, ev_asg h.ev fun d Γ Γ' hb H0 Ox σ H v E p Q q => by
  cases hb
  exact q _ (E.set (pl1 hfl) (pl2 hfl) p) (ow_set (pl1 hfl))⟩
def bNmF (i : Nat) : BX := fun d Γ => if i < Γ.length then some (Γ.set i (some d)) else none
theorem st_setF (o : On X C k) (i : Nat) {x : Str} (h : PF X C W .st e te f) (hfl : C.fl.contains i = true := by rfl) (hpn : C.free i = true := by rfl) (hi : X.N[i]? = some x := by rfl) (hx : Loc X.env.scope x := by first | exact Or.inl rfl | exact Or.inr rfl) (hs : swapsWith e (some (.Name x pos')) pos.line X.env = pure false := by rfl) (hf : X.fn x = true ∨ X.env.scope.names.lookup x = some .local := by first | exact .inl rfl | exact .inr rfl | assumption) :
    PSt X C W (.Assign [.Name x pos'] e pos) (tAsg te (gName i)) (asgX f (bNmF i)) := ⟨ps_set o.nd hi hx h.pe hs hf, fun Γ r hr H0 Ox σ H E D q => by
  show te σ H fun x H1 => D.nx (σ.set i (some x)) H1
  unfold asgX bNmF at hr
  split at hr
  · rename_i d h1
    by_cases lt : i < Γ.length
    · rw [if_pos lt] at hr; cases hr
      exact h.ev Γ _ h1 H0 Ox σ H E _ fun l o H' s hl p => q _ _ ((E.step s).setF (yfl hfl) (npn hpn) lt hl p)
    · rw [if_neg lt] at hr; cases hr
  · rename_i x h1
    cases hr
    exact h.ev Γ _ h1 H0 Ox σ H E _ fun H' s => q σ H' (E.step s)
  · cases hr⟩
theorem own_lst (E : EnvR C H0 Ox σ Γ H) {i : Nat} {ds : List PyData} (h : i ∈ C.fl) (hd : Γ[i]? = some (some (.list ds))) : ∃ l xs, σ[i]? = some (some (.ref l)) ∧ H l = some (.lst xs) ∧ RpL C.K (mask (ow C.fl Ox σ Γ) H) ds xs ∧ l ∉ Ox := by
  obtain ⟨l, o, e1, e2, ⟨xs, rfl, e3⟩, e4⟩ := E.own i _ hd h
  exact ⟨l, xs, e1, e2, e3, e4⟩
def appX (i : Nat) (f : PX) : SX := fun Γ => match Γ[i]? with
  | some (some (.list ds)) => (match f Γ with
    | some (.ok d) => if ds.length < big then some (.nx (Γ.set i (some (.list (ds ++ [d]))))) else none
    | some (.error e) => some (.ex e Γ)
    | none => none)
  | _ => none
theorem st_append (o : On X C k) (i : Nat) {x : Str} {p2 apos : Pos} (h : PP X C W .st e te f) (hfl : C.fl.contains i = true := by rfl) (hN : X.N[i]? = some x := by rfl) (hv : Vis X.env.scope x := by first | exact Or.inl rfl | exact Or.inr (Or.inl rfl) | exact Or.inr (Or.inr rfl)) (hd : (x == ("__debug__" : Str)) = false := by decide)
    (hcd : (x == ("__classdict__" : Str)) = false := by decide) (hs : swapsWith (.Call (.Attribute (.Name x p2) "append" apos) [e] [] pos') none pos.line X.env = pure false := by rfl)
    (hfew : ((backTo pos' (starEach [e] X.env)).all (fun x => !x.1) && (backToKw pos' (keywordEach [] X.env)).all (fun x => x.1.isSome)
      && decide (([e] : List Expr).length + ([] : List Keyword).length + (if ([] : List Keyword).isEmpty then 0 else 1) < 30)) = true := by rfl)
    (hline : (apos.endLine == pos'.line) = true := by rfl) (hse : starEach [e] X.env = (false, eval e X.env) :: starEach [] X.env := by rfl) (hplain : (backTo pos' (starEach [] X.env)).any (·.1) = false := by rfl) :
    PSt X C W (.Expr (.Call (.Attribute (.Name x p2) "append" apos) [e] [] pos') pos) (tDrop (tBM C.K "list" rAppend (tVar i) (tCons te tNil))) (appX i f) := by
  refine ⟨ps_expr (by rw [← o.K]; exact pe_bm PySem.F.plainAttrs_list PySem.F.slot_list_append PySem.F.type_list_append mt_append (pe_var hN hv hd hcd) (pa_cons h.pe pa_nil hse) rfl hfew hline hse hplain) hs, fun Γ r hr H0 Ox σ H E D q => ?_⟩
  show ∃ v, σ[i]? = some (some v) ∧ tyV C.K "list" v H ∧ te σ H fun y H2 => rAppend v [y] H2 fun _ H3 => D.nx σ H3
  unfold appX at hr
  split at hr
  · rename_i ds h0
    obtain ⟨l, xs, e1, e2, e3, e4⟩ := own_lst E (yfl hfl) h0
    refine ⟨.ref l, e1, .inl ⟨rfl, xs, SqL.of e2⟩, ?_⟩
    split at hr
    · rename_i d h1
      by_cases lt : ds.length < big
      · rw [if_pos lt] at hr; cases hr
        refine h.ev Γ _ h1 H0 Ox σ H E _ fun v H' s p => ?_
        have E' := E.step s
        have m : l ∈ ow C.fl Ox σ Γ := mem_ow.mpr (.inl ⟨i, yfl hfl, ow_of h0 e1⟩)
        have e2' : H' l = some (.lst xs) := by rw [s.2 l m]; exact e2
        refine ⟨l, xs, v, rfl, rfl, e2', Nat.lt_of_lt_of_le (by rw [← rpl_len e3]; exact lt) (by decide), ?_⟩
        exact q σ _ (E'.chg (yfl hfl) h0 e1 e2' (o' := .lst (xs ++ [v])) ⟨_, rfl, rpl_app (RpL.sm s.1 _ _ e3) (rpl_cons p rpl_nil)⟩ e4)
      · rw [if_neg lt] at hr; cases hr
    · rename_i x h1
      cases hr
      exact h.ev Γ _ h1 H0 Ox σ H E _ fun H' s => q σ H' (E.step s)
    · cases hr
  · cases hr
def setX (i : Nat) (fi f : PX) : SX := fun Γ => match f Γ with
  | some (.ok d) => (match Γ[i]? with
    | some (some (.list ds)) => (match fi Γ with
      | some (.ok (.int z)) => (ixN ds.length z).map fun j => .nx (Γ.set i (some (.list (ds.set j d))))
      | some (.error e) => some (.ex e Γ)
      | _ => none)
    | _ => none)
  | some (.error e) => some (.ex e Γ)
  | none => none
theorem st_setitem (o : On X C k) (i : Nat) {x : Str} {p2 p3 : Pos} (hi : PP X C W .rd a ta fa) (h : PP X C W .st e te f) (hfl : C.fl.contains i = true := by rfl) (hN : X.N[i]? = some x := by rfl) (hv : Vis X.env.scope x := by first | exact Or.inl rfl | exact Or.inr (Or.inl rfl) | exact Or.inr (Or.inr rfl)) (hd : (x == ("__debug__" : Str)) = false := by decide)
    (hcd : (x == ("__classdict__" : Str)) = false := by decide) (hs : swapsWithSole [.Subscript (.Name x p2) a p3] e pos.line X.env = pure false := by rfl) (hw : swappedStores [.Subscript (.Name x p2) a p3] e X.env = pure none := by rfl)
    (h1 : (assignEach [.Subscript (.Name x p2) a p3] X.env).map (·.2) = [assign (.Subscript (.Name x p2) a p3) X.env] := by rfl)
    (ha : ∀ v, assign (.Subscript (.Name x p2) a p3) X.env v = (do
      let ov ← holding [v] (eval (.Name x p2) X.env)
      let iv ← holding [v, ov] (eval a X.env)
      standAt p3
      holding [v, ov, iv] (setItem ov iv v)
      release [v, ov, iv] []) := by intro _; rfl) : PSt X C W (.Assign [.Subscript (.Name x p2) a p3] e pos) (tAsg te (L2.gSub (tVar i) ta rSetL)) (setX i fa f) := by
  refine ⟨ps_asg h.pe (pg_sub (pe_var hN hv hd hcd) hi.pe set_list ha) hs hw h1, fun Γ r hr H0 Ox σ H E D q => ?_⟩
  show te σ H fun y H1 => ∃ v, σ[i]? = some (some v) ∧ ta σ H1 fun z H2 => rSetL v z y H2 fun H3 => D.nx σ H3
  unfold setX at hr
  split at hr
  · rename_i d h1
    refine h.ev Γ _ h1 H0 Ox σ H E _ fun y H1 s1 p1 => ?_
    have E1 := E.step s1
    split at hr
    · rename_i ds h0
      obtain ⟨l, xs, e1, e2, e3, e4⟩ := own_lst E1 (yfl hfl) h0
      refine ⟨.ref l, e1, ?_⟩
      split at hr
      · rename_i z h2
        cases h3 : ixN ds.length z with
        | none => rw [h3] at hr; cases hr
        | some j =>
          rw [h3] at hr; cases hr
          refine hi.ev Γ _ h2 H0 Ox σ H1 E1 _ fun w H2 s2 p2 => ?_
          have E2 := E1.step s2
          have m : l ∈ ow C.fl Ox σ Γ := mem_ow.mpr (.inl ⟨i, yfl hfl, ow_of h0 e1⟩)
          have e2' : H2 l = some (.lst xs) := by rw [s2.2 l m]; exact e2
          refine ⟨l, xs, z, j, rfl, rp_int p2, e2', by rw [← rpl_len e3]; exact h3, ?_⟩
          exact q σ _ (E2.chg (yfl hfl) h0 e1 e2' (o' := .lst (xs.set j y)) ⟨_, rfl, rpl_set (p1.sm s2.1) j (RpL.sm s2.1 _ _ e3)⟩ e4)
      · rename_i x h2
        cases hr
        exact hi.ev Γ _ h2 H0 Ox σ H1 E1 _ fun H' s => q σ H' (E1.step s)
      · cases hr
    · cases hr
  · rename_i x h1
    cases hr
    exact h.ev Γ _ h1 H0 Ox σ H E _ fun H' s => q σ H' (E.step s)
  · cases hr
end
end Z
set_option Elab.async false
set_option linter.all false
set_option maxRecDepth 100000
set_option maxHeartbeats 4000000
namespace Z
open PySem PySem.Spec PyProof.Rows L2
def Wlk (K : PySem.W.Frag) (Hm : Hp) (J : It) (ds : List PyData) : Prop := ∃ (G : Hp → Prop) (Y : Nat → Hp → V → Hp → Prop), Walk J ds.length G Y ∧ (∀ H, Sm Hm H → G H) ∧
  ∀ i d H x H', ds[i]? = some d → Y i H x H' → ∀ O, Sm Hm (mask O H) → MutAll O H → Stp O H H' ∧ Rp K (mask O H') d x
section
variable {K : PySem.W.Frag} {Hm : Hp}
theorem wlk_list {a : Addr} {xs : List V} {ds : List PyData} (h : SqL K Hm a xs) (r : RpL K Hm ds xs) : Wlk K Hm (Itl K a) ds := by
  refine ⟨_, _, by rw [rpl_len r]; exact walk_list (xs := xs), fun H s => sqL_sm s h, fun i d H x H' hd y O s mu => ?_⟩
  obtain ⟨rfl, hx⟩ := y
  obtain ⟨v, h1, h2⟩ := rpl_get r hd
  rw [h1] at hx
  cases hx
  exact ⟨.refl _ _, h2.sm s⟩
theorem wlk_tup {a : Addr} {xs : List V} {ds : List PyData} (h : SqT K Hm a xs) (r : RpL K Hm ds xs) : Wlk K Hm (Itt K a) ds := by
  refine ⟨_, _, by rw [rpl_len r]; exact walk_tup (xs := xs), fun H s => sqT_sm s h, fun i d H x H' hd y O s mu => ?_⟩
  obtain ⟨rfl, hx⟩ := y
  obtain ⟨v, h1, h2⟩ := rpl_get r hd
  rw [h1] at hx
  cases hx
  exact ⟨.refl _ _, h2.sm s⟩
theorem rgD_len {a b : Int} : (rgD a b).length = (b - a).toNat := by unfold rgD; rw [List.length_map, List.length_range]
theorem rgD_get {a b : Int} {i : Nat} {d : PyData} (h : (rgD a b)[i]? = some d) : d = .int (a + i) := by
  unfold rgD at h
  rw [List.getElem?_map] at h
  cases h1 : (List.range (b - a).toNat)[i]? with
  | none => rw [h1] at h; cases h
  | some j =>
    rw [h1] at h
    obtain ⟨h2, h3⟩ := List.getElem?_eq_some_iff.mp h1
    rw [List.getElem_range] at h3
    subst h3
    cases h
    rfl
theorem wlk_range {lo hi : Int} : Wlk K Hm (Itr lo (hi - lo).toNat) (rgD lo hi) := by
  refine ⟨_, _, by rw [rgD_len]; exact walk_range (lo := lo), fun _ _ => trivial, fun i d H x H' hd y O s mu => ?_⟩
  obtain ⟨rfl, rfl⟩ := y
  rw [rgD_get hd]
  exact ⟨.refl _ _, mk_int⟩
def signs (z : Str) : List PyData := z.cps.toList.map fun c => .str ⟨#[c]⟩
theorem wlk_str {z : Str} : Wlk K Hm (Its z) (signs z) := by
  refine ⟨_, _, by unfold signs; rw [List.length_map, Array.length_toList]; exact walk_str (z := z), fun _ _ => trivial, fun i d H x H' hd y O s mu => ?_⟩
  obtain ⟨rfl, c, hc, rfl⟩ := y
  unfold signs at hd
  rw [List.getElem?_map, Array.getElem?_toList, hc] at hd
  cases hd
  exact ⟨.refl _ _, mk_str⟩
end
abbrev PIx := Ga → Option (Except Er (List PyData))
def EvI (C : Cf) (W : WX) (wi : TI) (f : PIx) : Prop := ∀ Γ r, f Γ = some r → ∀ H0 Ox σ H, EnvR C H0 Ox σ Γ H → ∀ R : It → Hp → Prop,
  (match r with
    | .ok ds => ∀ J H', Stp (ow C.fl Ox σ Γ) H H' → Wlk C.K (mask (ow C.fl Ox σ Γ) H') J ds → R J H'
    | .error e => ∀ H', Stp (ow C.fl Ox σ Γ) H H' → ErW C W σ e H') → wi σ H R
structure PIt (X : Cx) (C : Cf) (W : WX) (tg iter : Expr) (wi : TI) (f : PIx) : Prop where
  pe : PI X tg iter wi
  ev : EvI C W wi f
section
variable {X : Cx} {C : Cf} {W : WX} {k : Nat} {e a b c tg : Expr} {te ta tb tc : TE} {f fa fb fc : PX} {pos p : Pos}
abbrev rgB (i : Int) : Prop := i.natAbs < 4611686018427387904
theorem rgB.lo {i : Int} (h : rgB i) : -4611686018427387904 ≤ i := by unfold rgB at h; omega
theorem rgB.hi {i : Int} (h : rgB i) : i < 4611686018427387904 := by unfold rgB at h; omega
def iR1 (f : PX) : PIx := fun Γ => match f Γ with
  | some (.ok (.int n)) => if rgB n then some (.ok (rgD 0 n)) else none
  | some (.error e) => some (.error e)
  | _ => none
theorem pi_r1 {p : Pos} (o : On X C k) (hg : Gl X "range") (hm : X.mg "range" = none) (h : PP X C W .rd a ta fa) (hs : starEach [a] X.env = (false, eval a X.env) :: starEach [] X.env := by rfl) : PIt X C W tg (.Call (.Name "range" p) [a] [] pos) (iRng1 (tCons ta tNil)) (iR1 fa) := ⟨pi_range1 hg hm (pa_cons h.pe pa_nil hs) hs, fun Γ r hr H0 Ox σ H E R q => by
  show ta σ H fun x H1 => ∃ j : Int, [x] = [V.int j] ∧ -(2 ^ 62) ≤ j ∧ j < 2 ^ 62 ∧ R (Itr 0 j.toNat) H1
  unfold iR1 at hr
  split at hr
  · rename_i n h1
    by_cases hb : rgB n
    · rw [if_pos hb] at hr; cases hr
      refine h.ev Γ _ h1 H0 Ox σ H E _ fun v H' s p => ⟨n, by rw [rp_int p], rgB.lo hb, rgB.hi hb, q _ H' s ?_⟩
      have := wlk_range (K := C.K) (Hm := mask (ow C.fl Ox σ Γ) H') (lo := 0) (hi := n)
      rwa [Int.sub_zero] at this
    · rw [if_neg hb] at hr; cases hr
  · rename_i x h1
    cases hr
    exact h.ev Γ _ h1 H0 Ox σ H E _ q
  · cases hr⟩
def forX (b : BX) (s : SX) : List PyData → Ga → Option Oc
  | [], Γ => some (.nx Γ)
  | d :: ds, Γ => match b d Γ with
    | none => none
    | some Γ1 => match s Γ1 with
      | some (.nx Γ2) => forX b s ds Γ2
      | some (.ct Γ2) => forX b s ds Γ2
      | some (.bk Γ2) => some (.nx Γ2)
      | r => r
def forS (i : PIx) (b : BX) (s : SX) : SX := fun Γ => match i Γ with
  | some (.ok ds) => forX b s ds Γ
  | some (.error e) => some (.ex e Γ)
  | none => none
theorem OcW.base {H0 H1 : Hp} {Ox : List Addr} {D : Ends} {r : Oc} (q : OcW C W H0 Ox D r) (h : Sm H0 H1) (t : ∀ P ∈ C.Ts, TabOk H0 P) : OcW C W H1 Ox D r := by
  cases r with
  | nx Γ => exact fun σ H E => q σ H (E.base h t)
  | bk Γ => exact fun σ H E => q σ H (E.base h t)
  | ct Γ => exact fun σ H E => q σ H (E.base h t)
  | rt d => exact fun v H s p => q v H (h.trans s) p
  | ex e Γ => exact fun σ H E => q σ H (E.base h t)
  | re d Γ => exact fun σ v H E => q σ v H (E.base h t)
  | rn d Γ => exact fun σ l o H E => q σ l o H (E.base h t)
variable {iter : Expr} {wi : TI} {fi : PIx} {g1 : TG} {bx : BX} {body : List Stmt} {t : TS} {s : SX}
theorem st_for (o : On X C k) (cm : X.calm = true) (po : PassesOwn (model X.prog X.w) X.A X.env X.xe) (hi : PIt X C W tg iter wi fi) (hg : PTg X C tg g1 bx) (hb : PBk X C W body t s) (hs : ∀ x, foldedSetIterable iter X.env x = pure x := by intro _; rfl) : PSt X C W (.For tg iter body [] pos) (tFor wi g1 t) (forS fi bx s) := by
  refine ⟨ps_for po cm hi.pe hg.pe hb.pe hs, fun Γ r hr H0 Ox σ H E D q => ?_⟩
  unfold forS at hr
  cases h1 : fi Γ with
  | none => rw [h1] at hr; cases hr
  | some r1 =>
    rw [h1] at hr
    cases r1 with
    | error x =>
      cases hr
      exact hi.ev Γ _ h1 H0 Ox σ H E _ fun H' s => q σ H' (E.step s)
    | ok ds =>
      refine hi.ev Γ _ h1 H0 Ox σ H E _ fun J H1 s1 w => ?_
      have E1 := E.step s1
      obtain ⟨G, Y, wk, hG, hY⟩ := w
      have q1 := q.base (E1.sm) E1.tabs
      have sm : ∀ {σ' : L2.St} {Γ' : Ga} {H' : Hp}, EnvR C (mask (ow C.fl C.oba σ Γ) H1) Ox σ' Γ' H' → Sm (mask (ow C.fl Ox σ Γ) H1) (mask (ow C.fl Ox σ' Γ') H') := fun E' => by
        have := E'.all
        rwa [mask_two E.obs] at this
      refine for_it wk (D := D) (tb := t) (g := g1) (fun i σ' H' => ∃ Γ', forX bx s (ds.drop i) Γ' = some r ∧ EnvR C (mask (ow C.fl C.oba σ Γ) H1) Ox σ' Γ' H') ⟨Γ, hr, E1.rebase⟩ (fun i σ' H' hi ⟨Γ', _, E'⟩ => hG H' ((sm E').trans (mask_le _ _))) (fun i x σ' H2 H3 hlt ⟨Γ', h2, E'⟩ y => ?_) fun σ' H' ⟨Γ', h2, E'⟩ => ?_
      · have hd : ds[i]? = some ds[i] := by simp [hlt]
        obtain ⟨s2, p2⟩ := hY i ds[i] H2 x H3 hd y _ (sm E') E'.mut
        have E3 := E'.step s2
        rw [List.drop_eq_getElem_cons hlt] at h2
        unfold forX at h2
        cases h3 : bx ds[i] Γ' with
        | none => rw [h3] at h2; cases h2
        | some Γ1 =>
          rw [h3] at h2
          simp only at h2
          refine hg.ev _ Γ' Γ1 h3 _ Ox σ' H3 x E3 p2 _ fun σ2 E4 _ => ?_
          cases h4 : s Γ1 with
          | none => rw [h4] at h2; cases h2
          | some oc =>
            refine hb.ev Γ1 oc h4 _ Ox σ2 H3 E4 _ ?_
            rw [h4] at h2
            cases oc with
            | nx Γ2 => exact fun σ5 H5 E5 => ⟨Γ2, h2, E5⟩
            | ct Γ2 => exact fun σ5 H5 E5 => ⟨Γ2, h2, E5⟩
            | bk Γ2 => cases h2; exact q1
            | rt d => cases h2; exact q1
            | ex e Γ2 => cases h2; exact q1
            | re d Γ2 => cases h2; exact q1
            | rn d Γ2 => cases h2; exact q1
      · rw [List.drop_length] at h2
        unfold forX at h2
        cases h2
        exact q1 σ' H' E'
variable {tt : TT} {ft : PTx}
end
end Z
set_option Elab.async false
set_option linter.all false
set_option maxRecDepth 100000
set_option maxHeartbeats 4000000
namespace Z
open PySem PySem.Spec PyProof.Rows L2 GenW
theorem wipe_in {σ : L2.St} {i : Nat} {v : Option V} : ∀ {vs : List Nat}, i ∈ vs → wipe (σ.set i v) vs = wipe σ vs := by
  have out : ∀ vs : List Nat, i ∉ vs → wipe (σ.set i v) vs = (wipe σ vs).set i v := by
    intro vs
    induction vs with
    | nil => intro _; rfl
    | cons j vs ih =>
      intro h
      unfold wipe
      rw [ih (fun q => h (List.mem_cons_of_mem _ q)), List.set_comm _ _ (fun e => h (by rw [e]; exact List.mem_cons_self))]
  intro vs
  induction vs with
  | nil => intro h; cases h
  | cons j vs ih =>
    intro h
    unfold wipe
    by_cases q : i ∈ vs
    · rw [ih q]
    · have e : j = i := by
        rcases List.mem_cons.mp h with e | e
        · exact e.symm
        · exact absurd e q
      subst e
      rw [out vs q, List.set_set]
theorem wipe_idem {σ : L2.St} : ∀ {vs us : List Nat}, (∀ i ∈ us, i ∈ vs) → wipe (wipe σ us) vs = wipe σ vs
  | vs, [], _ => rfl
  | vs, j :: us, h => by
    show wipe ((wipe σ us).set j none) vs = _
    rw [wipe_in (h j List.mem_cons_self), wipe_idem fun i hi => h i (List.mem_cons_of_mem _ hi)]
def WpG (vs : List Nat) (g : TG) : Prop := ∀ v σ H Q, g v σ H Q → g v σ H fun σ2 H2 => wipe σ2 vs = wipe σ vs ∧ Q σ2 H2
def WpGs (vs : List Nat) (g : TGs) : Prop := ∀ v σ H Q, g v σ H Q → g v σ H fun σ2 H2 => wipe σ2 vs = wipe σ vs ∧ Q σ2 H2
theorem wp_nm {vs : List Nat} {i : Nat} (h : i ∈ vs) : WpG vs (gName i) := fun v σ H Q q => ⟨wipe_in h, q⟩
theorem wp_nil {vs : List Nat} : WpGs vs gNil := fun v σ H Q ⟨e, q⟩ => ⟨e, rfl, q⟩
def MonG (g : TG) : Prop := ∀ v σ H (Q Q' : L2.St → Hp → Prop), (∀ σ H, Q σ H → Q' σ H) → g v σ H Q → g v σ H Q'
def MonGs (g : TGs) : Prop := ∀ v σ H (Q Q' : L2.St → Hp → Prop), (∀ σ H, Q σ H → Q' σ H) → g v σ H Q → g v σ H Q'
theorem mon_nm {i : Nat} : MonG (gName i) := fun v σ H Q Q' h q => h _ _ q
theorem mon_nil : MonGs gNil := fun v σ H Q Q' h q => ⟨q.1, h _ _ q.2⟩
theorem mon_cons {g : TG} {gs : TGs} (h1 : MonG g) (h2 : MonGs gs) : MonGs (gCons g gs) := fun v σ H Q Q' h ⟨a, r, e, q⟩ => ⟨a, r, e, h1 _ _ _ _ _ (fun σ H q => h2 _ _ _ _ _ h q) q⟩
theorem wp_cons {vs : List Nat} {g : TG} {gs : TGs} (h1 : WpG vs g) (h2 : WpGs vs gs) (m1 : MonG g) (m2 : MonGs gs) : WpGs vs (gCons g gs) := fun v σ H Q ⟨a, r, e, q⟩ => ⟨a, r, e, m1 _ _ _ _ _ (fun σ2 H2 ⟨e2, q2⟩ => m2 _ _ _ _ _ (fun σ3 H3 ⟨e3, q3⟩ => ⟨e3.trans e2, q3⟩) (h2 _ _ _ _ q2)) (h1 _ _ _ _ q)⟩
theorem wp_tup {vs : List Nat} {K : PySem.W.Frag} {n : Nat} {gs : TGs} (h2 : WpGs vs gs) : WpG vs (gTL K n gs) := fun v σ H Q z => z.elim (fun ⟨a, xs, e, s, l, q⟩ => .inl ⟨a, xs, e, s, l, h2 _ _ _ _ q⟩) fun ⟨a, xs, e, s, l, q⟩ => .inr ⟨a, xs, e, s, l, h2 _ _ _ _ q⟩
abbrev WF : WX := fun _ _ _ _ => False
structure PTf (X : Cx) (C : Cf) (W : WX) (ifs : List Expr) (tt : TT) (f : PTx) : Prop where
  pe : PTs X ifs tt
  ev : EvT C W tt f
def fYes : PTx := fun _ => some (.ok true)
section
variable {C : Cf} {H0 H1 H : Hp} {Ox : List Addr} {σ : L2.St} {Γ : Ga}
theorem ow_cons {D : Addr} {a : Addr} : a ∈ ow C.fl (D :: Ox) σ Γ ↔ a ∈ ow C.fl Ox σ Γ ∨ a = D := by
  constructor
  · intro h
    rcases mem_ow.mp h with q | q
    · exact .inl (mem_ow.mpr (.inl q))
    · rcases List.mem_cons.mp q with e | e
      · exact .inr e
      · exact .inl (mem_ow.mpr (.inr e))
  · intro h
    rcases h with h | h
    · rcases mem_ow.mp h with q | q
      · exact mem_ow.mpr (.inl q)
      · exact mem_ow.mpr (.inr (List.mem_cons_of_mem _ q))
    · exact mem_ow.mpr (.inr (by rw [h]; exact List.mem_cons_self))
theorem sm_off {O : List Addr} {D : Addr} {o : HO} (h : Sm H0 (mask O H)) (n : H0 D = none) : Sm H0 (mask O (upd H D o)) := by
  refine ⟨fun a u e k => ?_, fun P t => ?_⟩
  · obtain ⟨e1, e2⟩ := mask_some (h.1 a u e k)
    rw [mask_out e2, upd_ne (ne_of_none e n)]
    exact e1
  · obtain ⟨ps, e, _⟩ := id t
    obtain ⟨qs, e1, t1⟩ := h.2 P t
    obtain ⟨e2, e3⟩ := mask_some e1
    exact ⟨qs, by rw [mask_out e3, upd_ne (ne_of_none e n)]; exact e2, t1⟩
theorem sm_off' {D : Addr} {o : HO} (h : Sm H0 H) (n : H0 D = none) : Sm H0 (upd H D o) := by
  have := sm_off (O := []) (o := o) (by rw [mask_nil]; exact h) n
  rwa [mask_nil] at this
theorem EnvR.addOx (E : EnvR C H0 Ox σ Γ H) {D : Addr} {xs : List V} (h : H D = none) : EnvR C H0 (D :: Ox) σ Γ (upd H D (.lst xs)) := by
  have sm : ∀ O', (∀ a ∈ O', a ∈ ow C.fl Ox σ Γ ∨ a = D) → Sm (mask (ow C.fl Ox σ Γ) H) (mask O' (upd H D (.lst xs))) := fun O' s => sm_fresh h s
  refine ⟨E.len, E.tabs, E.sm.trans (sm_fresh h fun a ha => .inl ha), fun i d hd hn => ?_, fun i d hd hn => ?_, E.apart, fun l hl => ?_, E.pn, fun q hq => (E.ob q hq).at (fun a _ ⟨_, _, _, m⟩ => upd_ne fun z => by rw [z, h] at m; cases m) fun _ h => List.mem_cons_of_mem _ h⟩
  · obtain ⟨v, e1, e2⟩ := E.val i d hd hn
    exact ⟨v, e1, e2.sm (sm _ fun a ha => ow_cons.mp ha)⟩
  · obtain ⟨l, o, e1, e2, e3, e4⟩ := E.own i d hd hn
    have ne := ne_of_none e2 h
    exact ⟨l, o, e1, by rw [upd_ne ne]; exact e2, e3.sm (sm _ fun a ha => ow_cons.mp ha), fun q => (List.mem_cons.mp q).elim ne e4⟩
  · by_cases q : l = D
    · rw [q, upd_same]; trivial
    · rw [upd_ne q]
      exact E.ox l ((List.mem_cons.mp hl).resolve_left q)
theorem EnvR.chgOx (E : EnvR C H0 Ox σ Γ H) {D : Addr} {xs : List V} (h : D ∈ Ox) (n : H0 D = none) (ni : ∀ C dx fs, H D ≠ some (.ins C dx fs)) : EnvR C H0 Ox σ Γ (upd H D (.lst xs)) := by
  have hm : D ∈ ow C.fl Ox σ Γ := mem_ow.mpr (.inr h)
  refine ⟨E.len, E.tabs, sm_off E.sm n, fun i d hd hn => ?_, fun i d hd hn => ?_, E.apart, fun l hl => ?_, E.pn, fun q hq => (E.ob q hq).at (fun a _ ⟨_, _, _, m⟩ => upd_ne fun z => ni _ _ _ (z ▸ m)) fun _ h => h⟩
  · rw [mask_upd_in hm]; exact E.val i d hd hn
  · rw [mask_upd_in hm]
    obtain ⟨l, o, e1, e2, e3, e4⟩ := E.own i d hd hn
    exact ⟨l, o, e1, by rw [upd_ne (fun e => e4 (by rw [e]; exact h))]; exact e2, e3, e4⟩
  · by_cases q : l = D
    · rw [q, upd_same]; trivial
    · rw [upd_ne q]
      exact E.ox l hl
theorem sm_out {O : List Addr} {D : Addr} (h : Sm H0 H) (n : H0 D = none) : Sm H0 (mask [D] H) := by
  refine ⟨fun a u e k => ?_, fun P t => ?_⟩
  · have ne := ne_of_none e n
    rw [mask_out (by simpa using ne)]
    exact h.1 a u e k
  · obtain ⟨ps, e, _⟩ := id t
    obtain ⟨qs, e1, t1⟩ := h.2 P t
    have ne := ne_of_none e n
    exact ⟨qs, by rw [mask_out (by simpa using ne)]; exact e1, t1⟩
end
def lcI (vs : List Nat) (b : BX) (ft : PTx) (f : PX) (Γ : Ga) (d : PyData) : Option (Option PyData) := match b d (wipeG Γ vs) with
  | none => none
  | some Γ1 => match ft Γ1 with
    | some (.ok true) => (match f Γ1 with
      | some (.ok y) => some (some y)
      | _ => none)
    | some (.ok false) => some none
    | _ => none
def lcL (item : PyData → Option (Option PyData)) : List PyData → Option (List PyData)
  | [] => some []
  | d :: ds => match item d with
    | some (some y) => (lcL item ds).map (y :: ·)
    | some none => lcL item ds
    | none => none
def lcX (i : PIx) (vs : List Nat) (b : BX) (ft : PTx) (f : PX) : PX := fun Γ => match i Γ with
  | some (.ok ds) => if ds.length ≤ big then (lcL (lcI vs b ft f Γ) ds).map fun ys => .ok (.list ys) else none
  | some (.error e) => some (.error e)
  | none => none
theorem lcL_snoc {item : PyData → Option (Option PyData)} {d : PyData} {o : Option PyData} (h : item d = some o) : ∀ {xs acc : List PyData}, lcL item xs = some acc → lcL item (xs ++ [d]) = some (acc ++ o.toList)
  | [], acc, e => by
    cases e
    rw [List.nil_append, lcL, h]
    cases o <;> rfl
  | x :: xs, acc, e => by
    rw [lcL] at e
    rw [List.cons_append, lcL]
    cases h1 : item x with
    | none => rw [h1] at e; cases e
    | some o1 =>
      rw [h1] at e
      cases o1 with
      | none => exact lcL_snoc h e
      | some y =>
        simp only at e ⊢
        cases h2 : lcL item xs with
        | none => rw [h2] at e; cases e
        | some a2 =>
          rw [h2] at e
          cases e
          rw [lcL_snoc h h2]
          rfl
theorem lcL_item {item : PyData → Option (Option PyData)} : ∀ {xs acc : List PyData}, lcL item xs = some acc → ∀ d ∈ xs, ∃ o, item d = some o
  | [], _, _, _, hd => by cases hd
  | x :: xs, acc, e, d, hd => by
    rw [lcL] at e
    cases h1 : item x with
    | none => rw [h1] at e; cases e
    | some o1 =>
      rcases List.mem_cons.mp hd with q | q
      · exact ⟨o1, by rw [q]; exact h1⟩
      · rw [h1] at e
        cases o1 with
        | none => exact lcL_item e d q
        | some y =>
          simp only at e
          cases h2 : lcL item xs with
          | none => rw [h2] at e; cases e
          | some a2 => exact lcL_item h2 d q
theorem lcL_le {item : PyData → Option (Option PyData)} : ∀ {xs acc : List PyData}, lcL item xs = some acc → acc.length ≤ xs.length
  | [], _, e => by cases e; exact Nat.le_refl _
  | x :: xs, acc, e => by
    rw [lcL] at e
    cases h1 : item x with
    | none => rw [h1] at e; cases e
    | some o1 =>
      rw [h1] at e
      cases o1 with
      | none => exact Nat.le_succ_of_le (lcL_le e)
      | some y =>
        simp only at e
        cases h2 : lcL item xs with
        | none => rw [h2] at e; cases e
        | some a2 =>
          rw [h2] at e
          cases e
          exact Nat.succ_le_succ (lcL_le h2)
section
variable {X : Cx} {C : Cf} {W : WX} {m : Md} {k : Nat} {elt tg iter : Expr} {ifs : List Expr} {scope : Scope} {own : List (Str × Nat)} {pos : Pos} {wi : TI} {fi : PIx} {g : TG} {b : BX} {tt : TT} {ft : PTx} {te : TE} {f : PX}
theorem ev_lc (hi : EvI C W wi fi) (hg : EvG C g b) (hw : WpG (own.map (·.2)) g) (ht : EvT C WF tt ft) (he : Ev C WF .st te f) (hfl : ∀ i ∈ own.map (·.2), C.plain i = true) : EvF C W m (tLc wi g tt te (own.map (·.2))) (lcX fi (own.map (·.2)) b ft f) := fun Γ r hr H0 Ox σ H E Q q => by
  unfold lcX at hr
  cases h1 : fi Γ with
  | none => rw [h1] at hr; cases hr
  | some r1 =>
    rw [h1] at hr
    cases r1 with
    | error x =>
      cases hr
      exact hi Γ _ h1 H0 Ox σ H E _ q
    | ok ds =>
      simp only at hr
      by_cases hz : ds.length ≤ big
      · rw [if_pos hz] at hr
        cases h2 : lcL (lcI (own.map (·.2)) b ft f Γ) ds with
        | none => rw [h2] at hr; cases hr
        | some ys =>
          rw [h2] at hr
          cases hr
          refine hi Γ _ h1 H0 Ox σ H E _ fun J Ha s1 w D hD => ?_
          have E1 := E.step s1
          obtain ⟨G, Y, wk, hG, hY⟩ := w
          obtain ⟨E2, oe⟩ := E1.rebase.wipe hfl
          have E3 := E2.addOx (xs := []) hD
          have hD0 : mask (ow C.fl C.oba σ Γ) Ha D = none := by
            unfold mask
            split
            · rfl
            · exact hD
          have gr : ∀ {Γ' : Ga} {σ' : L2.St} {H' : Hp}, EnvR C (mask (ow C.fl C.oba σ Γ) Ha) (D :: Ox) σ' Γ' H' → Sm (mask (ow C.fl Ox σ Γ) Ha) (mask (ow C.fl (D :: Ox) σ' Γ') H') := fun E' => by
            have h3 := E'.all
            have e : mask (D :: Ox) (mask (ow C.fl C.oba σ Γ) Ha) = mask (ow C.fl Ox σ Γ) Ha := by
              rw [← mask_two (Ox := Ox) (σ := σ) (Γ := Γ) (C := C) E.obs]
              funext a
              by_cases q1 : a ∈ Ox
              · rw [mask_in q1, mask_in (List.mem_cons_of_mem _ q1)]
              · rw [mask_out q1]
                by_cases q2 : a = D
                · rw [q2, mask_in List.mem_cons_self, hD0]
                · exact mask_out fun q3 => (List.mem_cons.mp q3).elim q2 q1
            rwa [e] at h3
          have inD : ∀ {σ' : L2.St} {Γ' : Ga}, D ∈ ow C.fl (D :: Ox) σ' Γ' := mem_ow.mpr (.inr List.mem_cons_self)
          refine lc_it wk (fun i H' => ∃ acc vs, lcL (lcI (own.map (·.2)) b ft f Γ) (ds.take i) = some acc ∧ H' D = some (.lst vs) ∧ RpL C.K (mask (ow C.fl (D :: Ox) (wipe σ (own.map (·.2))) (wipeG Γ (own.map (·.2)))) H') acc vs ∧
            EnvR C (mask (ow C.fl C.oba σ Γ) Ha) (D :: Ox) (wipe σ (own.map (·.2))) (wipeG Γ (own.map (·.2))) H' ∧ Sm Ha H') ⟨[], [], rfl, upd_same, rpl_nil, E3, Sm.new hD⟩ (fun i H' _ ⟨_, _, _, _, _, E', _⟩ => hG H' ((gr E').trans (mask_le _ _))) (fun i x Hb Hc hlt ⟨acc, vs, k1, k2, k3, E', k5⟩ y => ?_) fun H' ⟨acc, vs, k1, k2, k3, E', k5⟩ => ?_
          · have hd : ds[i]? = some ds[i] := by simp [hlt]
            obtain ⟨s2, p2⟩ := hY i ds[i] Hb x Hc hd y _ (gr E') E'.mut
            have E4 := E'.step s2
            obtain ⟨o, ho⟩ := lcL_item h2 ds[i] (List.getElem_mem hlt)
            have tk : ds.take (i + 1) = ds.take i ++ [ds[i]] := by rw [List.take_succ, hd]; rfl
            have acc' : lcL (lcI (own.map (·.2)) b ft f Γ) (ds.take (i + 1)) = some (acc ++ o.toList) := by rw [tk]; exact lcL_snoc ho k1
            unfold lcI at ho
            cases h3 : b ds[i] (wipeG Γ (own.map (·.2))) with
            | none => rw [h3] at ho; cases ho
            | some Γ1 =>
              rw [h3] at ho
              simp only at ho
              have wi2 : wipe (wipe σ (own.map (·.2))) (own.map (·.2)) = wipe σ (own.map (·.2)) := wipe_idem fun i hi => hi
              have hw' : ∀ Q, g x (wipe σ (own.map (·.2))) Hc Q → g x (wipe σ (own.map (·.2))) Hc (fun σ2 H2 => wipe σ2 (own.map (·.2)) = wipe σ (own.map (·.2)) ∧ Q σ2 H2) := fun Q h => by
                have := hw x _ Hc Q h
                simpa only [wi2] using this
              refine hw' _ (hg ds[i] _ Γ1 h3 _ _ _ Hc x E4 p2 _ fun σ2 E5 oe2 => ?_)
              have fin : ∀ H4, Sm Ha H4 → EnvR C (mask (ow C.fl C.oba σ Γ) Ha) (D :: Ox) (wipe σ (own.map (·.2))) (wipeG Γ (own.map (·.2))) H4 → True := fun _ _ _ => trivial
              have hkeep : ∀ {Hd : Hp}, Stp (ow C.fl (D :: Ox) σ2 Γ1) Hc Hd → Stp (ow C.fl (D :: Ox) (wipe σ (own.map (·.2))) (wipeG Γ (own.map (·.2)))) Hb Hd := fun s4 => s2.trans (by rw [← oe2]; exact s4)
              cases h4 : ft Γ1 with
              | none => rw [h4] at ho; cases ho
              | some rt =>
                rw [h4] at ho
                cases rt with
                | error x => cases ho
                | ok bb =>
                  refine ht Γ1 _ h4 _ _ σ2 Hc E5 _ fun H3 s3 => ?_
                  cases bb with
                  | false =>
                    cases ho
                    rw [if_neg Bool.false_ne_true]
                    have st := hkeep s3
                    refine ⟨acc, vs, by simpa using acc', by rw [st.2 D inD]; exact k2, RpL.sm st.1 _ _ k3, E'.step st, k5.trans (st.sm E'.mut)⟩
                  | true =>
                    rw [if_pos rfl]
                    simp only at ho
                    cases h5 : f Γ1 with
                    | none => rw [h5] at ho; cases ho
                    | some rf =>
                      rw [h5] at ho
                      cases rf with
                      | error x => cases ho
                      | ok yd =>
                        cases ho
                        refine he Γ1 _ h5 _ _ σ2 H3 (E5.step s3) _ fun yv H4 s4 p4 => ?_
                        have st := hkeep (s3.trans s4)
                        have kD : H4 D = some (.lst vs) := by rw [st.2 D inD]; exact k2
                        have lv : vs.length < sizeLine := by
                          have l1 := lcL_le k1
                          rw [← rpl_len k3]
                          have : (ds.take i).length ≤ i := List.length_take_le i ds
                          exact Nat.lt_of_lt_of_le (show acc.length < big by omega) (by decide)
                        have E6 := E'.step st
                        refine ⟨vs, kD, lv, acc ++ [yd], vs ++ [yv], acc', upd_same, ?_, E6.chgOx List.mem_cons_self hD0 (fun _ _ _ z => by rw [kD] at z; cases z), sm_off' (k5.trans (st.sm E'.mut)) hD⟩
                        rw [mask_upd_in inD]
                        exact rpl_app (RpL.sm st.1 _ _ k3) (rpl_cons (by rw [oe2] at p4; exact p4) rpl_nil)
          · rw [List.take_length] at k1
            rw [h2] at k1
            cases k1
            have e : upd (mask [D] H') D (.lst vs) = H' := by
              funext a
              by_cases q1 : a = D
              · rw [q1, upd_same, k2]
              · rw [upd_ne q1]
                exact mask_out (by simpa using q1)
            have sE := sm_out (O := []) k5 hD
            have := q D (.lst vs) (mask [D] H') (s1.trans (.of_sm sE E1.mut)) (mask_in (by simp)) ⟨vs, rfl, ?_⟩
            · rwa [e] at this
            · refine RpL.sm (hm_lt (s1.trans (Stp.of_sm sE E1.mut) |>.ows E.ows)) _ _ (RpL.sm ?_ _ _ k3)
              refine .of_le fun a u ea => ?_
              obtain ⟨e1, e2⟩ := mask_some ea
              have n1 : a ∉ ow C.fl Ox σ Γ := fun z => e2 (ow_cons.mpr (.inl (by rw [oe]; exact z)))
              have n2 : a ≠ D := fun z => e2 (ow_cons.mpr (.inr z))
              rw [mask_out n1, mask_out (by simpa using n2)]
              exact e1
      · rw [if_neg hz] at hr; cases hr
theorem On.blk (o : On X C k) {s : Shared} {H : Hp} {env : Env} {fp : List Addr} : On (X.blk s H scope env fp) C k := ⟨o.K, o.mg, o.un, o.rm, o.nd⟩
abbrev cEnv (X : Cx) (scope : Scope) (cl : List (Str × Addr)) (c : Addr) : Env := compEnvC scope cl c X.env
theorem pf_lc (o : On X C k) (cm : X.calm = true) (hi : PIt X C W tg iter wi fi) (ok : BlkOk X.N X.env.scope scope own) (hw : WpG (own.map (·.2)) g) (hfl : (own.map (·.2)).all C.plain = true)
    (hg : ∀ s H c cl fp, PTg (X.blk s H scope (cEnv X scope cl c) fp) C tg g b) (ht : ∀ s H c cl fp, PTf (X.blk s H scope (cEnv X scope cl c) fp) C WF ifs tt ft) (he : ∀ s H c cl fp, PP (X.blk s H scope (cEnv X scope cl c) fp) C WF .st elt te f)
    (hs : ∀ x, foldedSetIterable iter X.env x = pure x := by intro _; rfl) : PF X C W m (.ListComp elt [⟨tg, iter, ifs, 0⟩] scope pos) (tLc wi g tt te (own.map (·.2))) (lcX fi (own.map (·.2)) b ft f) :=
  ⟨pe_lc cm o.nd hi.pe ok (fun s H c cl fp => (hg s H c cl fp).pe) (fun s H c cl fp => (ht s H c cl fp).pe) (fun s H c cl fp => (he s H c cl fp).pe) hs,
    ev_lc hi.ev (hg X.s_0 X.H_0 0 [] []).ev hw (ht X.s_0 X.H_0 0 [] []).ev (he X.s_0 X.H_0 0 [] []).ev (List.all_eq_true.mp hfl)⟩
theorem st_setLc (o : On X C k) (cm : X.calm = true) (i : Nat) {y : Str} {py spos : Pos} (hi : PIt X C W tg iter wi fi) (ok : BlkOk X.N X.env.scope scope own) (hw : WpG (own.map (·.2)) g) (hfl : (own.map (·.2)).all C.plain = true)
    (hg : ∀ s H c cl fp, PTg (X.blk s H scope (cEnv X scope cl c) fp) C tg g b) (ht : ∀ s H c cl fp, PTf (X.blk s H scope (cEnv X scope cl c) fp) C WF ifs tt ft) (he : ∀ s H c cl fp, PP (X.blk s H scope (cEnv X scope cl c) fp) C WF .st elt te f)
    (hsw : swapsWith (.ListComp elt [⟨tg, iter, ifs, 0⟩] scope pos) (some (.Name y py)) spos.line X.env = pure true) (hn : C.plain i = true := by rfl) (hN : X.N[i]? = some y := by rfl) (hl : X.env.scope.names.lookup y = some .local := by rfl)
    (hs : ∀ x, foldedSetIterable iter X.env x = pure x := by intro _; rfl) : PSt X C W (.Assign [.Name y py] (.ListComp elt [⟨tg, iter, ifs, 0⟩] scope pos) spos) (tAsg (tLc wi g tt te (own.map (·.2))) (gName i)) (asgX (lcX fi (own.map (·.2)) b ft f) (bNm i)) :=
  ⟨ps_setLc cm o.nd hN hl hsw hi.pe ok (fun s H c cl fp => (hg s H c cl fp).pe) (fun s H c cl fp => (ht s H c cl fp).pe) (fun s H c cl fp => (he s H c cl fp).pe) hs,
    ev_asg (evF_ev (ev_lc hi.ev (hg X.s_0 X.H_0 0 [] []).ev hw (ht X.s_0 X.H_0 0 [] []).ev (he X.s_0 X.H_0 0 [] []).ev (List.all_eq_true.mp hfl))) fun d Γ Γ' hb H0 Ox σ H v E p Q q => by
      cases hb
      exact q _ (E.set (pl1 hn) (pl2 hn) p) (ow_set (pl1 hn))⟩
theorem ptf_nil : PTf X C W [] tYes fYes := ⟨pts_nil, fun Γ r hr H0 Ox σ H E Q q => by cases hr; exact q H (.refl _ _)⟩
def alI (vs : List Nat) (b : BX) (f : PX) (Γ : Ga) (d : PyData) : Option Bool := match b d (wipeG Γ vs) with
  | none => none
  | some Γ1 => match f Γ1 with
    | some (.ok (.bool y)) => some y
    | _ => none
def alL (item : PyData → Option Bool) : List PyData → Option Bool
  | [] => some true
  | d :: ds => match item d with
    | some true => alL item ds
    | some false => some false
    | none => none
def alX (i : PIx) (vs : List Nat) (b : BX) (f : PX) : PX := fun Γ => match i Γ with
  | some (.ok ds) => (alL (alI vs b f Γ) ds).map fun y => .ok (.bool y)
  | some (.error e) => some (.error e)
  | none => none
theorem ev_all {P : Addr} (hP : P ∈ C.Ts) (hi : EvI C W wi fi) (hg : EvG C g b) (hw : WpG (own.map (·.2)) g) (he : Ev C WF .rd te f) (hfl : ∀ i ∈ own.map (·.2), C.plain i = true) : Ev C W m (tAll wi g te (own.map (·.2)) P) (alX fi (own.map (·.2)) b f) := fun Γ r hr H0 Ox σ H E Q q => by
  unfold alX at hr
  cases h1 : fi Γ with
  | none => rw [h1] at hr; cases hr
  | some r1 =>
    rw [h1] at hr
    cases r1 with
    | error x =>
      cases hr
      exact hi Γ _ h1 H0 Ox σ H E _ q
    | ok ds =>
      simp only at hr
      cases h2 : alL (alI (own.map (·.2)) b f Γ) ds with
      | none => rw [h2] at hr; cases hr
      | some z =>
        rw [h2] at hr
        cases hr
        refine hi Γ _ h1 H0 Ox σ H E _ fun J Ha s1 w => ?_
        have E1 := E.step s1
        have tb : TabOk Ha P := by
          obtain ⟨qs, e1, t1⟩ := E1.sm.2 P (E1.tabs P hP)
          exact ⟨qs, (mask_some e1).1, t1⟩
        refine ⟨tb, fun Hg gr => ?_⟩
        have sg : Stp (ow C.fl Ox σ Γ) Ha Hg := .of_sm (.grown tb gr) E1.mut
        have Eg := E1.step sg
        obtain ⟨G, Y, wk, hG, hY⟩ := w
        obtain ⟨E2, oe⟩ := Eg.rebase.wipe hfl
        have wi2 : wipe (wipe σ (own.map (·.2))) (own.map (·.2)) = wipe σ (own.map (·.2)) := wipe_idem fun i hi => hi
        have gm : ∀ {Γ' : Ga} {σ' : L2.St} {H' : Hp}, EnvR C (mask (ow C.fl C.oba σ Γ) Hg) Ox σ' Γ' H' → Sm (mask (ow C.fl Ox σ Γ) Ha) (mask (ow C.fl Ox σ' Γ') H') := fun E' => by
          have h3 := E'.all
          rw [mask_two E.obs] at h3
          exact sg.1.trans h3
        refine ⟨fun i n H' => n = ds.length - i ∧ i ≤ ds.length ∧ alL (alI (own.map (·.2)) b f Γ) (ds.drop i) = some z ∧ EnvR C (mask (ow C.fl C.oba σ Γ) Hg) Ox (wipe σ (own.map (·.2))) (wipeG Γ (own.map (·.2))) H' ∧ Stp (ow C.fl Ox σ Γ) Ha H', ⟨ds.length, by simp, Nat.zero_le _, h2, E2, sg⟩, ?_⟩
        rintro i n H' ⟨rfl, hi', k1, E', k2⟩
        have hGG := hG H' ((gm E').trans (mask_le _ _))
        by_cases hlt : i < ds.length
        · refine .inr ⟨wk.goes i H' hlt hGG, fun x Hc y => ?_⟩
          have hd : ds[i]? = some ds[i] := by simp [hlt]
          obtain ⟨s2, p2⟩ := hY i ds[i] H' x Hc hd (wk.yields i H' x Hc hlt hGG y) _ (gm E') E'.mut
          have E4 := E'.step s2
          rw [List.drop_eq_getElem_cons hlt] at k1
          unfold alL at k1
          have hw' : ∀ Q, g x (wipe σ (own.map (·.2))) Hc Q → g x (wipe σ (own.map (·.2))) Hc (fun σ2 H2 => wipe σ2 (own.map (·.2)) = wipe σ (own.map (·.2)) ∧ Q σ2 H2) := fun Q h => by
            have := hw x _ Hc Q h
            simpa only [wi2] using this
          cases h3 : b ds[i] (wipeG Γ (own.map (·.2))) with
          | none => unfold alI at k1; rw [h3] at k1; cases k1
          | some Γ1 =>
            refine hw' _ (hg ds[i] _ Γ1 h3 _ _ _ Hc x E4 p2 _ fun σ2 E5 oe2 => ?_)
            unfold alI at k1
            rw [h3] at k1
            simp only at k1
            cases h4 : f Γ1 with
            | none => rw [h4] at k1; cases k1
            | some rf =>
              rw [h4] at k1
              cases rf with
              | error x => cases k1
              | ok yd =>
                cases yd with
                | bool bb =>
                  refine he Γ1 _ h4 _ _ σ2 Hc E5 _ fun yv H4 s4 p4 => ?_
                  have st : Stp (ow C.fl Ox (wipe σ (own.map (·.2))) (wipeG Γ (own.map (·.2)))) H' H4 := s2.trans (by rw [← oe2]; exact s4)
                  have st2 : Stp (ow C.fl Ox σ Γ) Ha H4 := k2.trans (by rw [← oe]; exact st)
                  refine ⟨bb, rp_bool p4, fun hb => ?_, fun hb => ?_⟩
                  · subst hb
                    exact ⟨ds.length - (i + 1), by omega, rfl, hlt, k1, E'.step st, st2⟩
                  · subst hb
                    cases k1
                    exact q _ H4 (s1.trans st2) mk_bool
                | none => cases k1
                | int _ => cases k1
                | str _ => cases k1
                | list _ => cases k1
                | tuple _ => cases k1
                | dict _ => cases k1
        · have e : i = ds.length := by omega
          subst e
          rw [List.drop_length] at k1
          cases k1
          exact .inl ⟨wk.stops H' hGG, q _ H' (s1.trans k2) mk_bool⟩
theorem On.gen (o : On X C (k + 1)) {s : Shared} {H : Hp} {ge : Env} {B : Around} {fp : List Addr} (hB : Room k B) : On (gcx X s H ge B fp) C k := .mk' o.K o.mg hB o.nd
theorem OnK.gen (o : OnK X C) {s : Shared} {H : Hp} {ge : Env} {B : Around} {fp : List Addr} : OnK (gcx X s H ge B fp) C := ⟨o.K, o.nd⟩
theorem pp_allG {c P : Addr} {p gpos : Pos} (o : On X C (k + 1)) (cm : X.calm = true) (hgl : Gl X "all") (hm : X.mg "all" = none) (hP : P ∈ C.Ts) (TB : LamX.TabB X.base X.mg c P) (hcode : X.env.code = .ref c)
    (hi : PIt X C W tg iter wi fi) (ok : BlkOk X.N X.env.scope scope own) (hw : WpG (own.map (·.2)) g) (hfl : (own.map (·.2)).all C.plain = true) (hco : scope.isCoroutine = false) (hcell : ∀ y ∈ scope.names, y.2 ≠ .cell) (h0 : scope.names.lookup (".0" : Str) = some NameKind.local) (hdot : (".0" : Str) ∉ X.N)
    (hg : ∀ s H (ge : Env) B fp, PTg (gcx X s H { ge with scope := scope } B fp) C tg g b) (he : ∀ s H (ge : Env) B fp, Room k B → PP (gcx X s H { ge with scope := scope } B fp) C WF .rd elt te f)
    (hs : ∀ v, genFold iter X.env v = pure v := by intro _; rfl)
    (hes : starEach [GE elt tg iter scope gpos] X.env = (false, eval (GE elt tg iter scope gpos) X.env) :: starEach [] X.env := by rfl) :
    PP X C W m (.Call (.Name "all" p) [GE elt tg iter scope gpos] [] pos) (tAll wi g te (own.map (·.2)) P) (alX fi (own.map (·.2)) b f) :=
  have eq : ∀ ge : Env, ge.scope = scope → ge = { ge with scope := scope } := fun ge q => by rw [← q]
  ⟨pe_all (o.rm cm) hgl hm TB hcode cm o.nd hi.pe ok hco hcell h0 hdot (fun s H ge B fp q => by rw [eq ge q]; exact (hg s H ge B fp).pe) (fun s H ge B fp q r => by rw [eq ge q]; exact (he s H ge B fp r).pe) hs hes, ev_all hP hi.ev (hg X.s_0 X.H_0 X.env X.A []).ev hw (he X.s_0 X.H_0 X.env X.A [] ((o.rm cm).mono (Nat.le_succ k))).ev (List.all_eq_true.mp hfl)⟩
end
end Z
set_option Elab.async false
set_option linter.all false
set_option maxRecDepth 100000
set_option maxHeartbeats 4000000
namespace Z
open PySem PySem.Spec PyProof.Rows L2
abbrev FX := List PyData → Option Res
def spF (C : Cb) (n : Nat) (F : FX) : Sp := fun vs H Q E => vs.length = n ∧ ∃ ds r O, MutAll O H ∧ (∀ P ∈ C.Ts, TabOk H P) ∧ RpL C.K (mask O H) ds vs ∧ F ds = some r ∧
  match r with
  | .ok d => ∀ v H', Sm H H' → Rp C.K (mask O H') d v → Q v H'
  | .error (.own c) => ∀ H', Sm H H' → E (cv C.mg c) none H'
  | .error (.fld c f d) => ∀ H' dd v, Sm H H' → H' dd = none → Rp C.K H' d v → E (cv C.mg c) (some dd) (upd H' dd (.xd [(f, v)]))
structure Df (P : Program) (w : World) (base : Heap) (C : Cb) (x : Str) (k n : Nat) (F : FX) : Prop where
  ex : ∃ f fd ps, C.mg x = some (.ref f) ∧ PySem.W.keepIn C.K (.ref f) = true ∧ (∀ us : List Value, us.length = ps.length → bindArgs fd ⟨us, []⟩ = pure (ps.zip us)) ∧ FnOk P w C.K C.mg base (L2.CX P w) k f fd ps (spF C n F)
  ln : ∀ ds r, F ds = some r → ds.length = n
def callX (f : PAx) (F : FX) : PX := fun Γ => match f Γ with
  | some (.ok ds) => F ds
  | some (.error e) => some (.error e)
  | none => none
def om (m : Md) (O Ox : List Addr) : List Addr := match m with
  | .st => O
  | .mid => Ox
  | .rd => []
theorem hm_om {m : Md} {O Ox : List Addr} {H : Hp} : hm m O Ox H = mask (om m O Ox) H := by
  cases m with
  | st => rfl
  | mid => rfl
  | rd => exact (mask_nil H).symm
theorem om_sub {m : Md} {O Ox : List Addr} {H : Hp} (mu : Ows O Ox H) : ∀ a ∈ om m O Ox, a ∈ O := by
  cases m with
  | st => exact fun a h => h
  | mid => exact mu.sub
  | rd => exact fun a h => by cases h
section
variable {X : Cx} {C : Cf} {W : WX} {m : Md} {k j n : Nat} {e : Expr} {es : List Expr} {t : TA} {g : PAx} {x : Str} {F : FX} {p pos : Pos}
theorem ev_sp (ha : EvA C W m t g) (hl : ∀ ds r, F ds = some r → ds.length = n) : Ev C W m (tCallS (spF C.toCb n F) (WE W) t) (callX g F) := fun Γ r hr H0 Ox σ H E Q q => by
  show t σ H fun vs H1 => spF C.toCb n F vs H1 Q (WE W σ)
  unfold callX at hr
  cases h1 : g Γ with
  | none => rw [h1] at hr; cases hr
  | some r1 =>
    rw [h1] at hr
    cases r1 with
    | error x =>
      cases hr
      exact ha Γ _ h1 H0 Ox σ H E _ q
    | ok ds =>
      simp only at hr
      refine ha Γ _ h1 H0 Ox σ H E _ fun vs H1 s1 p1 => ?_
      have E1 := E.step s1
      have mu := E1.ows
      rw [hm_om] at p1
      have tb : ∀ P ∈ C.Ts, TabOk H1 P := fun P hP => by
        obtain ⟨qs, e1, t1⟩ := E1.sm.2 P (E1.tabs P hP)
        exact ⟨qs, (mask_some e1).1, t1⟩
      refine ⟨by rw [← rpl_len p1]; exact hl ds r hr, ds, r, om m (ow C.fl Ox σ Γ) Ox, fun l h => mu.mu l (om_sub mu l h), tb, p1, hr, ?_⟩
      cases r with
      | ok d => exact fun v H' s p => q v H' (s1.trans (.of_sm s mu.mu)) (by rw [hm_om]; exact p)
      | error er =>
        cases er with
        | own c => exact fun H' s => q H' (s1.trans (.of_sm s mu.mu))
        | fld c f d => exact fun H' dd v s n p => q H' (s1.trans (.of_sm s mu.mu)) dd v n p
theorem pp_call (D : Df X.prog X.w X.base C.toCb x j n F) (o : On X C k) (cm : X.calm = true) (hjk : j ≤ k) (tk : Takes X W) (hg : Gl X x) (ha : PAr X C W m (e :: es) t g) (hdb : (x == ("__debug__" : Str)) = false := by decide) (he : starEach (e :: es) X.env = (false, eval e X.env) :: starEach es X.env := by rfl) (hpl : (backTo pos (starEach es X.env)).any (·.1) = false := by rfl) :
    PP X C W m (.Call (.Name x p) (e :: es) [] pos) (tCallS (spF C.toCb n F) (WE W) t) (callX g F) := by
  obtain ⟨f, fd, ps, h1, h2, h3, h4⟩ := D.ex
  refine ⟨?_, ev_sp ha.ev D.ln⟩
  have h3 : Binds C.K fd ps [] := .all h3
  rw [← o.K] at h2 h3 h4
  rw [← o.mg] at h1 h4
  exact pe_callS h4 ((o.rm cm).mono hjk) hg h1 h2 h3 (fun σ => passAt tk σ) ha.pe hdb he hpl
structure ExF (K : PySem.W.Frag) (mg : Str → Option Value) (x : Str) : Prop where
  ex : ∃ C : Addr, mg x = some (.ref C) ∧ PySem.W.excIn K C [.type "ValueError", .type "Exception", .type "BaseException", .type "object"] "ValueError.__new__" = true ∧ PySem.W.keepIn K (.ref C) = true ∧ PySem.W.subIn K (.ref C) (.type "BaseException") = some true ∧ PySem.W.typeIn K (.ref C) = some (.type "type")
def raX (f : PX) (x : Str) : SX := fun Γ => match f Γ with
  | some (.ok _) => some (.ex (.own x) Γ)
  | some (.error e) => some (.ex e Γ)
  | none => none
variable {a : Expr} {ta : TE} {fa : PX} {pos2 : Pos}
def tRa (mg : Str → Option Value) (W : WX) (x : Str) (ta : TE) : TS := fun _ σ H => ta σ H fun _ H1 => W (cv mg x) none σ H1
theorem st_raise (o : On X C k) (cm : X.calm = true) (tk : Takes X W) (ex : ExF C.K C.mg x) (hg : Gl X x) (ha : PP X C W .rd a ta fa) (hs : starEach [a] X.env = (false, eval a X.env) :: starEach [] X.env := by rfl) (hdb : (x == ("__debug__" : Str)) = false := by decide) :
    PSt X C W (.Raise (some (.Call (.Name x p) [a] [] pos)) none pos2) (tRa C.mg W x ta) (raX fa x) := by
  obtain ⟨c, h1, h2, h3, h4, h5⟩ := ex.ex
  have ec : cv C.mg x = .ref c := by unfold cv; rw [h1]; rfl
  refine ⟨?_, fun Γ r hr H0 Ox σ H E D q => ?_⟩
  · unfold tRa
    rw [ec]
    rw [← o.K] at h2 h3 h4 h5
    rw [← o.mg] at h1
    exact ps_raise cm tk (SkE.pmk_own1 PySem.F.excBase_ValueError h2 h1 h3 (raises_own h4 h5) hg ha.pe hs hdb)
  · show ta σ H fun _ H1 => W (cv C.mg x) none σ H1
    unfold raX at hr
    split at hr
    · rename_i d h6
      cases hr
      exact ha.ev Γ _ h6 H0 Ox σ H E _ fun v H' s p => q σ H' (E.step s)
    · rename_i er h6
      cases hr
      exact ha.ev Γ _ h6 H0 Ox σ H E _ fun H' s => q σ H' (E.step s)
    · cases hr
def Er.cls : Er → Str
  | .own c => c
  | .fld c _ _ => c
def ErC (mg : Str → Option Value) (e : Er) (cls : Value) (d : Option Addr) : Prop := match e with
  | .own c => cls = cv mg c ∧ d = none
  | .fld c _ _ => cls = cv mg c
abbrev Cf.hold (C : Cf) (i : Nat) (v : V) : Cf := { C with pin := (i, v) :: C.pin }
theorem EnvR.hold {H0 H : Hp} {Ox : List Addr} {σ : L2.St} {Γ : Ga} {i : Nat} {v : V} (E : EnvR C H0 Ox σ Γ H) (h : σ[i]? = some (some v)) : EnvR (C.hold i v) H0 Ox σ Γ H := ⟨E.len, E.tabs, E.sm, E.val, E.own, E.apart, E.ox, fun p hp => by
  rcases List.mem_cons.mp hp with q | q
  · rw [q]; exact h
  · exact E.pn p q, E.ob⟩
theorem EnvR.unhold {H0 H : Hp} {Ox : List Addr} {σ : L2.St} {Γ : Ga} {i : Nat} {v : V} (E : EnvR (C.hold i v) H0 Ox σ Γ H) : EnvR C H0 Ox σ Γ H := ⟨E.len, E.tabs, E.sm, E.val, E.own, E.apart, E.ox, fun p hp => E.pn p (List.mem_cons_of_mem _ hp), E.ob⟩
open Classical in
noncomputable def tsOf (mg : Str → Option Value) (ts : Addr → Value → Option Addr → TS) : Addr → Value → Option Addr → TS := fun a cls d => if h : ∃ er, ErC mg er cls d then ts a cls d else tNever
theorem lookup_mem {α : Type} {c : Str} {b : α} : ∀ {l : List (Str × α)}, l.lookup c = some b → (c, b) ∈ l
  | [], h => by cases h
  | (k, v) :: l, h => by
    rw [List.lookup_cons] at h
    by_cases q : (c == k) = true
    · rw [q] at h
      have e : c = k := by simpa using q
      cases h
      rw [e]
      exact List.mem_cons_self
    · have q' : (c == k) = false := by simpa using q
      rw [q'] at h
      exact List.mem_cons_of_mem _ (lookup_mem h)
end
end Z
set_option Elab.async false
set_option linter.all false
set_option maxRecDepth 100000
set_option maxHeartbeats 4000000
namespace Z
open PySem PySem.Spec PyProof.Rows L2
section
variable {X : Cx} {C : Cf} {W : WX} {m : Md} {k : Nat} {x y : Str} {p p1 p2 pos : Pos}
theorem boot_isinst : bootBuiltins "isinstance" = some (.builtin "isinstance") := by decide +kernel
structure IsF (K : PySem.W.Frag) (mg : Str → Option Value) (y : Str) (l : List (Str × Bool)) : Prop where
  gl : ∃ c : Addr, mg y = some (.ref c)
  ex : ∀ q ∈ l, ∃ D, cv mg q.1 = .ref D ∧ ExcC K D
  is : ∀ q ∈ l, PySem.W.kitOne K (cv mg q.1) (cv mg y) = some q.2
theorem ret_new {C : Cf} {H0 H : Hp} {Ox : List Addr} {σ : L2.St} {Γ : Ga} {d : PyData} {l : Addr} {o : HO} (E : EnvR C H0 Ox σ Γ H) (hl : H l = none) (c : Cel C.K (mask (ow C.fl Ox σ Γ) H) d o) : Sm H0 (upd H l o) ∧ Rp C.K (mask Ox (upd H l o)) d (.ref l) := by
  refine ⟨(E.sm.trans (mask_le _ _)).trans (.new hl), ?_⟩
  have e := hm_new (m := .mid) (o := o) E.ows hl
  have e' : mask Ox (upd H l o) = upd (mask Ox H) l o := e
  rw [e']
  have n : mask Ox H l = none := hm_none (m := .mid) E.ows hl
  exact ((c.sm (mask_sub E.ows.sub)).sm (Sm.new n)).rp upd_same
def defX (n N : Nat) (fb : SX) : FX := fun ds => if ds.length = n then (match fb (ds.map some ++ List.replicate (N - n) none) with
  | some (.nx _) => some (.ok .none)
  | some (.rt d) => some (.ok d)
  | some (.rn d _) => some (.ok d)
  | some (.re d _) => some (.ok d)
  | some (.ex e _) => some (.error e)
  | _ => none) else none
abbrev CfD (C : Cb) (fl : List Nat) : Cf := { C with fl := fl }
abbrev WD (E : XK) : WX := fun cls d _ H => E cls d H
theorem env_start {C : Cb} {fl : List Nat} {H : Hp} {O : List Addr} {ds : List PyData} {vs : List V} {N : List Str} (mu : MutAll O H) (tb : ∀ P ∈ C.Ts, TabOk H P) (p : RpL C.K (mask O H) ds vs) (hfl : ∀ i ∈ fl, ds.length ≤ i) :
    EnvR (CfD C fl) H O (L2.start N vs) (ds.map some ++ List.replicate (N.length - ds.length) none) H := by
  have hl := rpl_len p
  have no : ∀ i d, ds.length ≤ i → (ds.map some ++ List.replicate (N.length - ds.length) (none : Option PyData))[i]? ≠ some (some d) := fun i d h e => by
    rw [List.getElem?_append_right (by rw [List.length_map]; exact h)] at e
    have := List.mem_of_getElem? e
    have := List.eq_of_mem_replicate this
    cases this
  have e0 : ∀ O' : List Addr, ow fl O' (L2.start N vs) (ds.map some ++ List.replicate (N.length - ds.length) none) = O' := fun O' => by
    have : ∀ l : List Nat, (∀ i ∈ l, ds.length ≤ i) → l.filterMap (ow1 (L2.start N vs) (ds.map some ++ List.replicate (N.length - ds.length) none)) = [] := by
      intro l
      induction l with
      | nil => intro _; rfl
      | cons i l ih =>
        intro h
        have : ow1 (L2.start N vs) (ds.map some ++ List.replicate (N.length - ds.length) none) i = none := by
          cases q : ow1 (L2.start N vs) (ds.map some ++ List.replicate (N.length - ds.length) none) i with
          | none => rfl
          | some a =>
            obtain ⟨⟨d, h1⟩, _⟩ := ow_some q
            exact absurd h1 (no i d (h i List.mem_cons_self))
        rw [List.filterMap_cons, this, ih fun j hj => h j (List.mem_cons_of_mem _ hj)]
    unfold ow
    rw [this fl hfl, List.nil_append]
  refine ⟨?_, tb, ?_, fun i d h1 h2 => ?_, fun i d h1 h2 => ?_, fun i j l h1 h2 h3 h4 => ?_, mu, (fun p hp => by cases hp), fun q hq => by cases hq⟩
  · unfold L2.start
    rw [List.length_append, List.length_append, List.length_map, List.length_map, List.length_replicate, List.length_replicate, hl]
  · show Sm H (mask (ow fl [] _ _) H)
    rw [e0, mask_nil]
    exact .refl _
  · show ∃ v, _ ∧ Rp C.K (mask (ow fl O _ _) H) d v
    rw [e0]
    by_cases lt : i < ds.length
    · rw [List.getElem?_append_left (by rw [List.length_map]; exact lt), List.getElem?_map] at h1
      cases h3 : ds[i]? with
      | none => rw [h3] at h1; cases h1
      | some d' =>
        rw [h3] at h1
        cases h1
        obtain ⟨v, h4, h5⟩ := rpl_get p h3
        refine ⟨v, ?_, h5⟩
        unfold L2.start
        rw [List.getElem?_append_left (by rw [List.length_map, ← hl]; exact lt), List.getElem?_map, h4]
        rfl
    · exact absurd h1 (no i d (by omega))
  · exact absurd h1 (no i d (hfl i h2))
  · obtain ⟨⟨d, h5⟩, _⟩ := ow_some h3
    exact absurd h5 (no i d (hfl i h1))
theorem fn_z {P : Program} {w : World} {base : Heap} {C : Cb} {x qual : Str} {f : Addr} {params : Arguments} {body : List Stmt} {scope : Scope} {dV kV doc pm cdv ct oc : Value} {an od : Option Addr} {osl : Array (Option Value)} {N ps : List Str} {fl : List Nat} {fb : SX} {k : Nat}
    (hmg : C.mg x = some (.ref f)) (lk : C.K.lookup f = some ⟨oc, od, .func (PySem.W.fnOf x qual params body scope dV kV doc pm an cdv ct), osl⟩) (hcd : PySem.W.codeIn C.K cdv qual = true) (hk : PySem.W.keepIn C.K (.ref f) = true)
    (S : FnScope N ps scope) (hb : ∀ us : List Value, us.length = ps.length → bindArgs (PySem.W.fnOf x qual params body scope dV kV doc pm an cdv ct) ⟨us, []⟩ = pure (ps.zip us)) (hfl : (fl.all fun i => decide (ps.length ≤ i)) = true)
    (hbody : ∀ (A : Around) (outer : List Env) (s : Shared) (H : Hp) (E : XK), Room k (A.deeper (envOfC qual scope s.heap.objs.size f cdv)) → ∃ t, PBk (cxOf (L2.CX P w) P w C.K C.mg base N qual scope f cdv A outer s H E) (CfD C fl) (WD E) body t fb) :
    FnOk P w C.K C.mg base (L2.CX P w) (k + 1) f (PySem.W.fnOf x qual params body scope dV kV doc pm an cdv ct) ps (spF C ps.length (defX ps.length N.length fb)) := by
  have ln : ∀ ds r, defX ps.length N.length fb ds = some r → ds.length = ps.length := fun ds r h => by
    unfold defX at h
    by_cases e : ds.length = ps.length
    · exact e
    · rw [if_neg e] at h; cases h
  refine fn_of lk hcd S (fun vs H Q E h => h.1) fun A outer s H vs Q E hr hsp => ?_
  obtain ⟨t, h⟩ := hbody A outer s H E hr
  refine ⟨t, h.pe, ?_⟩
  obtain ⟨_, ds, r, O, mu, tb, p, hF, hr⟩ := hsp
  have hn := ln ds r hF
  unfold defX at hF
  rw [if_pos hn] at hF
  have fl' : ∀ i ∈ fl, ds.length ≤ i := fun i hi => by
    have := List.all_eq_true.mp hfl i hi
    rw [hn]
    exact of_decide_eq_true this
  have E0 := env_start (N := N) (fl := fl) mu tb p fl'
  rw [hn] at E0
  cases h1 : fb (ds.map some ++ List.replicate (N.length - ps.length) none) with
  | none => rw [h1] at hF; cases hF
  | some ocm =>
    rw [h1] at hF
    refine h.ev _ ocm h1 H O _ H E0 _ ?_
    cases ocm with
    | nx Γ => cases hF; exact fun σ H' E' => hr _ H' (E'.sm.trans (mask_le _ _)) mk_none
    | bk Γ => cases hF
    | ct Γ => cases hF
    | rt d => cases hF; exact fun v H' s pp => hr v H' s pp
    | re d Γ => cases hF; exact fun σ v H' E' pp => hr v H' (E'.sm.trans (mask_le _ _)) (pp.sm (mask_sub E'.ows.sub))
    | rn d Γ =>
      cases hF
      intro σ l o H' E' hl c
      obtain ⟨r1, r2⟩ := ret_new E' hl c
      exact hr _ _ r1 r2
    | ex e Γ =>
      cases hF
      intro σ H' E'
      cases e with
      | own c => exact hr H' (E'.sm.trans (mask_le _ _))
      | fld c f d => exact fun dd v hn p => hr H' dd v (E'.sm.trans (mask_le _ _)) hn p
end
theorem df_of {P : Program} {w : World} {base : Heap} {C : Cb} {x qual : Str} {f : Addr} {params : Arguments} {body : List Stmt} {scope : Scope} {dV kV doc pm cdv ct oc : Value} {an od : Option Addr} {osl : Array (Option Value)} {N ps : List Str} {fl : List Nat} {fb : SX} {k : Nat}
    (hmg : C.mg x = some (.ref f)) (lk : C.K.lookup f = some ⟨oc, od, .func (PySem.W.fnOf x qual params body scope dV kV doc pm an cdv ct), osl⟩) (hcd : PySem.W.codeIn C.K cdv qual = true) (hk : PySem.W.keepIn C.K (.ref f) = true)
    (S : FnScope N ps scope) (hb : ∀ us : List Value, us.length = ps.length → bindArgs (PySem.W.fnOf x qual params body scope dV kV doc pm an cdv ct) ⟨us, []⟩ = pure (ps.zip us)) (hfl : (fl.all fun i => decide (ps.length ≤ i)) = true)
    (hbody : ∀ (A : Around) (outer : List Env) (s : Shared) (H : Hp) (E : XK), Room k (A.deeper (envOfC qual scope s.heap.objs.size f cdv)) → ∃ t, PBk (cxOf (L2.CX P w) P w C.K C.mg base N qual scope f cdv A outer s H E) (CfD C fl) (WD E) body t fb) :
    Df P w base C x (k + 1) ps.length (defX ps.length N.length fb) :=
  ⟨⟨f, _, ps, hmg, hk, hb, fn_z hmg lk hcd hk S hb hfl hbody⟩, fun ds r h => by
    unfold defX at h
    by_cases e : ds.length = ps.length
    · exact e
    · rw [if_neg e] at h; cases h⟩
end Z
set_option Elab.async false
set_option linter.all false
set_option maxRecDepth 100000
set_option maxHeartbeats 4000000
namespace Z
open PySem PySem.Spec PyProof.Rows L2
section
variable {X : Cx} {C : Cf} {W : WX} {m : Md} {k : Nat} {e a b c tg : Expr} {te ta tb tc : TE} {f fa fb fc : PX} {pos p p' pos' : Pos}
theorem ptt_of (ha : PP X C W .rd e te f) (ht : PT X e (tTest te)) : PTt X C W e (tTest te) (toT f) := by
  refine ⟨ht, fun Γ r hr H0 Ox σ H E Q q => ?_⟩
  unfold toT at hr
  split at hr
  · rename_i b h1
    cases hr
    exact ha.ev Γ _ h1 H0 Ox σ H E _ fun v H' s p => ⟨b, rp_bool p, q H' s⟩
  · rename_i e h1
    cases hr
    exact ha.ev Γ _ h1 H0 Ox σ H E _ q
  · cases hr
theorem pt_ne (o : On X C k) (ha : PP X C W .rd a ta fa) (hb : PP X C W .rd b tb fb) : PTt X C W (.Compare a [.NotEq] [b] pos) (tTest (tOp (rNeX C.K) ta tb)) (toT (b2 fa fb gNe)) := ptt_of (pp_ne o ha hb) (pt_cmpR (by rw [← o.K]; exact op_neX o.un) ha.pe hb.pe (nomark _))
theorem pt_lt (o : On X C k) (ha : PP X C W .rd a ta fa) (hb : PP X C W .rd b tb fb) : PTt X C W (.Compare a [.Lt] [b] pos) (tTest (tOp rLtI ta tb)) (toT (b2 fa fb gLtI)) := ptt_of (pp_lt o ha hb) (pt_cmpR op_lt ha.pe hb.pe (nomark _))
theorem pt_ge (o : On X C k) (ha : PP X C W .rd a ta fa) (hb : PP X C W .rd b tb fb) : PTt X C W (.Compare a [.GtE] [b] pos) (tTest (tOp rGeI ta tb)) (toT (b2 fa fb gGeI)) := ptt_of (pp_ge o ha hb) (pt_cmpR op_ge ha.pe hb.pe (nomark _))
theorem pp_gint {x : Str} {i : Int} (o : On X C k) (h : ∃ t, C.mg x = some (.int i t)) (hg : Gl X x := by rfl) (hd : (x == ("__debug__" : Str)) = false := by decide) : PP X C W m (.Name x pos) (tC (.int i)) (fC (.int i)) := by
  obtain ⟨t, h⟩ := h
  exact pp_glob (by rw [o.mg]; exact h) ⟨t, rfl⟩ (fun _ => mk_int) hg hd
def iAny (K : PySem.W.Frag) (tl : TE) : TI := fun σ H R => tl σ H fun x H1 => (∃ a, x = .ref a ∧ (∃ xs, SqL K H1 a xs) ∧ R (Itl K a) H1) ∨ (∃ a, x = .ref a ∧ (∃ xs, SqT K H1 a xs) ∧ R (Itt K a) H1) ∨ ∃ z, x = .str z ∧ R (Its z) H1
theorem pi_any' {tl : TE} (hl : PE X e tl) : PI X tg e (iAny X.K tl) := by
  refine ⟨fun pins s σ H R I h => thn (hl.run pins s σ H _ I h) fun v s1 ⟨x, H1, I1, r1, q1⟩ => ?_⟩
  rcases q1 with ⟨a, rfl, ⟨xs, hq⟩, q⟩ | ⟨a, rfl, ⟨xs, hq⟩, q⟩ | ⟨z, rfl, q⟩
  · cases r1 ; obtain ⟨its, rv, p, hz⟩ := I1.list hq
    exact wpAny_pyIter_list p.isList (pi_one (tk := s1.toks) I1 _ (turn_list a _) ⟨_, Heap.get?_push_size _ rfl, rfl, rfl⟩ q)
  · cases r1 ; obtain ⟨its, rv, p, hz⟩ := I1.tuple hq
    exact wpAny_pyIter_tuple (show s1.heap.IsTuple a its.toArray from p) (pi_one (tk := s1.toks) I1 _ (turn_tuple a _) ⟨_, Heap.get?_push_size _ rfl, rfl, rfl⟩ q)
  · obtain ⟨t, rfl⟩ := r1 ; cases ha : z.cps.all (· < 128)
    · exact wpAny_pyIter_wide ha (pi_one (tk := s1.toks) I1 _ (turn_str _ z t "str_iterator" (.inr rfl)) ⟨_, Heap.get?_push_size _ rfl, rfl, rfl⟩ q)
    · exact wpAny_pyIter_ascii ha (pi_one (tk := s1.toks) I1 _ (turn_str _ z t "str_ascii_iterator" (.inl rfl)) ⟨_, Heap.get?_push_size _ rfl, rfl, rfl⟩ q)
def itD : PyData → Option (List PyData)
  | .list ds => some ds
  | .tuple ds => some ds
  | .str z => some (signs z)
  | _ => none
def iA (f : PX) : PIx := fun Γ => match f Γ with
  | some (.ok d) => (itD d).map .ok
  | some (.error e) => some (.error e)
  | none => none
theorem pi_any (o : On X C k) (h : PP X C W .st e te f) : PIt X C W tg e (iAny C.K te) (iA f) := ⟨by rw [← o.K]; exact pi_any' h.pe, fun Γ r hr H0 Ox σ H E R q => by
  show te σ H fun x H1 => (∃ a, x = .ref a ∧ (∃ xs, SqL C.K H1 a xs) ∧ R (Itl C.K a) H1) ∨ (∃ a, x = .ref a ∧ (∃ xs, SqT C.K H1 a xs) ∧ R (Itt C.K a) H1) ∨ ∃ z, x = .str z ∧ R (Its z) H1
  unfold iA at hr
  split at hr
  · rename_i d h1
    cases h2 : itD d with
    | none => rw [h2] at hr; cases hr
    | some ds =>
      rw [h2] at hr
      cases hr
      refine h.ev Γ _ h1 H0 Ox σ H E _ fun v H' s p => ?_
      unfold itD at h2
      split at h2
      · cases h2
        obtain ⟨a, xs, rfl, h3, h4⟩ := rp_lst p
        exact .inl ⟨a, rfl, ⟨xs, sqL_sm (mask_le _ _) h3⟩, q _ H' s (wlk_list h3 h4)⟩
      · cases h2
        obtain ⟨a, xs, rfl, h3, h4⟩ := rp_tup p
        exact .inr (.inl ⟨a, rfl, ⟨xs, sqT_sm (mask_le _ _) h3⟩, q _ H' s (wlk_tup h3 h4)⟩)
      · cases h2
        exact .inr (.inr ⟨_, rp_str p, q _ H' s wlk_str⟩)
      · cases h2
  · rename_i x h1
    cases hr
    exact h.ev Γ _ h1 H0 Ox σ H E _ q
  · cases hr⟩
end
end Z
set_option Elab.async false
set_option linter.all false
set_option maxRecDepth 100000
set_option maxHeartbeats 4000000
namespace Z
open PySem PySem.Spec PyProof.Rows L2
def pickH : List (List (Str × Bool) × SX) → Er → Option (Option SX)
  | [], _ => some none
  | (l, s) :: r, e => match l.lookup e.cls with
    | some true => some (some s)
    | some false => pickH r e
    | none => none
def tryM (body : SX) (hs : List (List (Str × Bool) × SX)) : SX := fun Γ => match body Γ with
  | some (.ex e Γ') => (match pickH hs e with
    | some (some su) => (match su Γ' with
      | some (.ex _ _) => none
      | r => r)
    | some none => some (.ex e Γ')
    | none => none)
  | r => r
inductive HdZ (X : Cx) (C : Cf) : List ExceptHandler → List (Value × (Addr → Value → Option Addr → TS)) → List (List (Str × Bool) × SX) → Prop
  | nil : HdZ X C [] [] []
  | cons {x : Str} {t : TS} {fs : SX} {b₀ : Stmt} {suite : List Stmt} {np pos' : Pos} {hds : List ExceptHandler} {l : List (Value × (Addr → Value → Option Addr → TS))} {lb : List (Str × Bool)} {r : List (List (Str × Bool) × SX)}
      (ex : ExF C.K C.mg x) (hg : Gl X x) (hdb : (x == ("__debug__" : Str)) = false) (hl : ∀ q ∈ lb, PySem.W.exmOne C.K (cv C.mg q.1) (cv C.mg x) = some q.2)
      (hsu : ∀ (a : Addr) (oe : Obj) (cls : Value) (d : Option Addr) (pn : List (Addr × Obj)), Zc cls d oe → (∃ vs, oe.data = .fields vs) → PBk (X.suite a ((a, oe) :: pn)) C WF (b₀ :: suite) t fs) (rest : HdZ X C hds l r) :
      HdZ X C (.ExceptHandler (some (.Name x np)) none (b₀ :: suite) pos' :: hds) ((cv C.mg x, fun _ _ _ => t) :: l) ((lb, fs) :: r)
section
variable {X : Cx} {C : Cf} {W : WX} {k : Nat} {hds : List ExceptHandler} {l : List (Value × (Addr → Value → Option Addr → TS))} {r : List (List (Str × Bool) × SX)}
theorem HdZ.ok (h : HdZ X C hds l r) (hmg : X.mg = C.mg) : HdsOk X hds l := by
  induction h with
  | nil => exact .nil
  | @cons x t fs b₀ suite np pos' hds l lb r ex hg hdb hl hsu rest ih =>
    obtain ⟨c, h1, _⟩ := ex.ex
    have ec : cv C.mg x = .ref c := by unfold cv; rw [h1]; rfl
    exact .cons ⟨hg, hdb, .inl (by rw [hmg, ec]; exact h1)⟩ (fun a oe cls d pn hz hf => (hsu a oe cls d pn hz hf).pe) ih
theorem HdZ.many (h : HdZ X C hds l r) {e : Er} {Γ : Ga} {D : Ends} {H0 : Hp} {Ox : List Addr} {rr : Oc} (hr : (match pickH r e with
    | some (some su) => (match su Γ with
      | some (.ex _ _) => none
      | r => r)
    | some none => some (.ex e Γ)
    | none => none) = some rr) (q : OcW C W H0 Ox D rr) {cls : Value} {d : Option Addr} {σ : L2.St} {H : Hp} (hcls : cls = cv C.mg e.cls) (E : EnvR C H0 Ox σ Γ H) (hW : rr = .ex e Γ → W cls d σ H) : wMany C.K W D l cls d σ H := by
  induction h with
  | nil =>
    unfold pickH at hr
    cases hr
    exact hW rfl
  | @cons x t fs b₀ suite np pos' hds l lb r ex hg hdb hl hsu rest ih =>
    unfold pickH at hr
    cases h2 : lb.lookup e.cls with
    | none => rw [h2] at hr; cases hr
    | some b =>
      rw [h2] at hr
      cases b with
      | false => exact ⟨false, by rw [hcls]; exact hl _ (lookup_mem h2), fun z => Bool.noConfusion z, fun _ => ih hr⟩
      | true =>
        refine ⟨true, by rw [hcls]; exact hl _ (lookup_mem h2), fun _ a ha => ?_, fun z => Bool.noConfusion z⟩
        have ev := (hsu a { cls := cls, dict := d, data := .fields #[] } cls d [] ⟨rfl, rfl⟩ ⟨_, rfl⟩).ev
        simp only at hr
        cases h5 : fs Γ with
        | none => rw [h5] at hr; cases hr
        | some oc2 =>
          rw [h5] at hr
          refine ev Γ oc2 h5 H0 Ox σ H E D ?_
          cases oc2 with
          | nx Γ4 => cases hr; exact q
          | bk Γ4 => cases hr; exact q
          | ct Γ4 => cases hr; exact q
          | rt dd => cases hr; exact q
          | ex e2 Γ4 => cases hr
          | re dd Γ4 => cases hr; exact q
          | rn dd Γ4 => cases hr; exact q
theorem st_try_many {body : List Stmt} {h₀ : ExceptHandler} {pos : Pos} {tb : WX → TS} {fb : SX} (o : On X C k) (hst : X.stack = X.env :: X.outer) (hfr : X.env.frame = some X.env.locals) (tk : Takes X W)
    (hb : ∀ (W' : WX) (pn : List (Addr × Obj)) (xe : Value → Shared → Prop), Takes (X.tr pn xe) W' → PassesOwn (model X.prog X.w) X.A X.env xe → PBk (X.tr pn xe) C W' body (tb W') fb)
    (hh : HdZ X C (h₀ :: hds) l r) : PSt X C W (.Try body (h₀ :: hds) [] [] pos) (fun D σ H => tb (wMany C.K W D l) D σ H) (tryM fb r) := by
  refine ⟨by rw [← o.K]; exact ps_try_many hst hfr tk (fun W' pn xe t p => (hb W' pn xe t p).pe) (hh.ok o.mg), fun Γ rr hr H0 Ox σ H E D q => ?_⟩
  unfold tryM at hr
  have hbody : EvS C (wMany C.K W D l) (tb (wMany C.K W D l)) fb := (hb _ [] (fun e s₁ => wpAny (model X.prog X.w) X.A (noteFrame e X.env) (fun _ s₂ => wpAny (model X.prog X.w) X.A (setFlight e none) (fun _ _ => True) (fun _ _ => False) s₂) (fun _ _ => False) s₁) (fun u s' xx => by
    obtain ⟨a, B, sI, pins', σ', H', cls, d, rfl, J', nb, up, sky, na, os, ag, ww⟩ := xx ; rw [show (X.tr _ _).stack = X.env :: X.outer from hst] at sky
    exact Sky.land Zc.steady (show X.A.frames = some (X.env :: X.outer) by rw [← hst]; exact J'.ok.frames) hfr sky fun h3 fl3 up3 => trivial) PassesOwn.looking).ev
  cases h2 : fb Γ with
  | none => rw [h2] at hr; cases hr
  | some oc =>
    refine hbody Γ oc h2 H0 Ox σ H E D ?_
    rw [h2] at hr
    cases oc with
    | nx Γ' => cases hr; exact q
    | bk Γ' => cases hr; exact q
    | ct Γ' => cases hr; exact q
    | rt d => cases hr; exact q
    | re d Γ' => cases hr; exact q
    | rn d Γ' => cases hr; exact q
    | ex er Γ' =>
      intro σ' H' E'
      cases er with
      | own c => exact hh.many hr q rfl E' fun e => by subst e; exact q σ' H' E'
      | fld c f d => exact fun dd v hn p => hh.many hr q rfl (E'.step (.new E'.mut hn)) fun e => by subst e; exact q σ' H' E' dd v hn p
end
theorem op_nin_rng {X : Cx} : OpR X (compareOp .NotIn) (fun x y H Q => ∃ i a lo hi, x = V.int i ∧ y = V.ref a ∧ H a = some (.rng lo hi) ∧ Q (.bl (!decide (lo ≤ i ∧ i < hi))) H) := by
  intro pins s σ H x y v u Q I rx ry h
  obtain ⟨i, a, lo, hi, rfl, rfl, ha, q⟩ := h
  obtain ⟨k, rfl⟩ := rx ; obtain rfl : u = Value.ref a := ry ; obtain ⟨t1, t2, t3, ho⟩ := I.hok a _ ha
  show wpAny _ _ (do return Value.bool (!(← contains (Value.ref a) (Value.int i k)))) _ _ s
  refine wpAny_bind (wpAny_contains_slot (T := "range") ⟨_, ho, rfl⟩ PySem.F.slot_range_contains (call_meets PySem.F.slot_range_contains ⟨_, ho, rfl⟩ PySem.F.entry_range_contains (PySem.F.args_range_contains_2 _ _) (q_contains a lo hi i t1 t2 t3 k) ⟨ho, wpAny_truthy_bool (wpAny_pure ⟨.bl _, H, I, rfl, ?_⟩)⟩))
  rw [place1] ; exact q
abbrev rNinRg : R2 := fun x y H Q => ∃ i a lo hi, x = V.int i ∧ y = V.ref a ∧ H a = some (.rng lo hi) ∧ Q (.bl (!decide (lo ≤ i ∧ i < hi))) H
end Z
set_option Elab.async false
set_option linter.all false
set_option maxRecDepth 100000
set_option maxHeartbeats 4000000
namespace Z
open PySem PySem.Spec PyProof.Rows L2
theorem tabIn_of {K : PySem.W.Frag} {x : Str} {f c P : Addr} {oc e : Value} {od dd : Option Addr} {fd : FuncData} {osl sl : Array (Option Value)} {vs : Array Value} (a : PySem.W.nsIn K mainGlobals x = some (some (.ref f))) (l : K.lookup f = some ⟨oc, od, .func fd, osl⟩) (h : fd.code = .ref c) (lc : K.lookup c = some ⟨e, dd, .fields vs, sl⟩) (v : vs[11]? = some (.ref P)) : PySem.W.tabIn K x = some (c, P) := by
  unfold PySem.W.tabIn
  rw [a]
  simp only [l, h, lc, v]
end Z
set_option Elab.async false
set_option linter.all false
set_option maxRecDepth 100000
set_option maxHeartbeats 4000000
namespace Z
open PySem PySem.Spec PyProof.Rows L2
theorem str_eq {x y : Str} (h : x.cps.toList = y.cps.toList) : x = y := by
  obtain ⟨⟨l⟩⟩ := x
  obtain ⟨⟨m⟩⟩ := y
  have h : l = m := h
  rw [h]
end Z
set_option Elab.async false
set_option linter.all false
set_option maxRecDepth 100000
set_option maxHeartbeats 4000000
namespace Z
open PySem PySem.Spec PyProof.Rows L2
end Z
set_option Elab.async false
set_option linter.all false
set_option maxRecDepth 100000
set_option maxHeartbeats 4000000
namespace Z
open PySem PySem.Spec PyProof.Rows L2
structure FnG (P : Program) (w : World) (K : PySem.W.Frag) (mg : Str → Option Value) (base : Heap) (CC : CXT) (k : Nat) (f : Addr) (fd : FuncData) (ps : List Str) (sp : Sp) : Prop where
  len : ∀ vs H Q E, sp vs H Q E → vs.length = ps.length
  run : ∀ (A : Around) (outer : List Env) (s : Shared) (H : Hp) (args : Args) (us : List Value) (vs : List V) (Q : VK) (E : XK), A.guards = some [] → Room k A → Env0 P w K mg base A outer s H → BindsTo s fd args (ps.zip us) → Vals vs us → sp vs H Q E →
    codeAny (model P w) A (.call (.ref f) args) (L2.CR CC outer P w H s Q E) s
theorem fn_ofG {CC : CXT} {P : Program} {w : World} {K : PySem.W.Frag} {mg : Str → Option Value} {base : Heap} {k : Nat} {f : Addr} {name qual : Str} {params : Arguments} {body : List Stmt} {scope : Scope} {dV kV doc pm cdv ct oc : Value} {an od : Option Addr} {osl : Array (Option Value)} {N ps : List Str} {sp : Sp}
    (lk : K.lookup f = some ⟨oc, od, .func (PySem.W.fnOf name qual params body scope dV kV doc pm an cdv ct), osl⟩) (hcd : PySem.W.codeIn K cdv qual = true) (S : FnScope N ps scope) (len : ∀ vs H Q E, sp vs H Q E → vs.length = ps.length)
    (hbody : ∀ (A : Around) (outer : List Env) (s : Shared) (H : Hp) (vs : List V) (Q : VK) (E : XK), A.guards = some [] → Room k (A.deeper (envOfC qual scope s.heap.objs.size f cdv)) → sp vs H Q E → ∃ t, PSs (cxOf CC P w K mg base N qual scope f cdv A outer s H E) body t ∧ t { nx := fun _ H' => Q .non H', rt := Q } (L2.start N vs) H) :
    FnG P w K mg base CC (k + 1) f (PySem.W.fnOf name qual params body scope dV kV doc pm an cdv ct) ps sp := by
  refine ⟨len, fun A outer s H args us vs Q E hgd hr e0 hb r hsp => ?_⟩
  have hl := len vs H Q E hsp
  have KX : K.In s.heap := PySem.W.Frag.In.keeps e0.mod.kin fun b o e => (e0.bs b o e).1
  have lim := Heap.NoLimit.keeps e0.mod.nolimit fun b o e => (e0.bs b o e).1
  refine codeAny_call_function hr.depth (KX f _ lk) rfl S.co S.gen rfl (PySem.W.codeRec_of KX hcd) ?_
  refine hb (model P w) A.in1 _ _ ?_
  refine wpAny_newFunctionEnv_cells S.kind (fun y hy => ?_) fun env he s1 x => ?_
  · rcases S.par y.1 (List.of_mem_zip hy).1 with q | q
    · exact .inl q
    · exact .inr ⟨q, PySem.W.cellsFrom_some scope.names (s.heap.objs.size + 1) [] (.inl q)⟩
  · subst he
    refine ⟨Heap.NoLimit.keeps lim x.toInCall.keep, codeAny_func ?_⟩
    obtain ⟨t, ht, hq⟩ := hbody A outer s H vs Q E hgd (hr.deeper _) hsp
    have I := inv_start (CX := CC) (E := E) S hr.hd e0 hl r x
    refine wpAny_mono (ht.run [] s1 (L2.start N vs) H _ I hq) (fun fl s' hs => ?_) fun e s' hs => hs
    cases fl with
    | ret u =>
      obtain ⟨v, σ', H', J, rv, q⟩ := hs
      exact ⟨v, H', J.os, J.bare, J.base, J.hok, rv, q⟩
    | next =>
      obtain ⟨σ', H', J, q⟩ := hs
      exact ⟨.non, H', J.os, J.bare, J.base, J.hok, rfl, q⟩
    | brk => obtain ⟨_, _, _, q⟩ := hs; exact q.elim
    | cont => obtain ⟨_, _, _, q⟩ := hs; exact q.elim
theorem law_callG {P : Program} {w : World} {K : PySem.W.Frag} {mg mb : Str → Option Value} {CC : CXT} {k : Nat} {fa a : Addr} {cs : List (Addr × Addr)} {fd : FuncData} {x : Str} {sp : Sp} {s₁ : Shared} {vs : List Value} {ns : List Int}
    (KX : K.In s₁.heap) (hns : s₁.heap.Ns mainGlobals mg) (hb : s₁.heap.Ns builtinsNs mb) (hbb : ∀ x : Str, x ≠ "__name__" → mb x = bootBuiltins x) (hlim : s₁.heap.NoLimit) (hg : s₁.gens = #[])
    (hT : ∀ p ∈ cs, s₁.heap.get? p.2 = some { cls := .none, data := .fields #[] }) (nT : ∀ p ∈ cs, K.lookup p.2 = none) (Cd : ∀ p ∈ cs, PySem.W.CodeHd s₁.heap p.1 p.2)
    (hbm : ∃ bm ob, mg "__builtins__" = some (.ref bm) ∧ bm ≠ builtinsNs ∧ s₁.heap.get? bm = some ob ∧ ob.cls = .type "module" ∧ ob.dict = some builtinsNs ∧ ob.data = .plain)
    (ha : s₁.heap.get? a = some { cls := .type "list", data := .seq vs.toArray }) (hi : IntsAre vs ns) (hl : ns.length ≤ sizeLine) (hr : Room k callerA)
    (F : ∀ base : Heap, K.In base → base.Ns mainGlobals mg → (∀ p ∈ cs, LamX.TabB base mg p.1 p.2) → FnG P w K mg base CC k fa fd [x] sp)
    (hbind : ∀ (s : Shared) (u : Value), BindsTo s fd ⟨[u], []⟩ [(x, u)])
    (hsp : ∀ H : Hp, (∀ p ∈ cs, H p.2 = some (.tbl #[])) → SqL K H a (ns.map V.int) → sp [.ref a] H (fun v _ => v = .bl true) fun _ _ _ => False)
    (hCX : ∀ (H : Hp) (e : Value) (s' : Shared), CC [] H s₁ (fun _ _ _ => False) e s' → False) :
    codeAny (model P w) callerA (.call (.ref fa) ⟨[.ref a], []⟩) (fun r s' => r = .ok (.ret (.bool true)) ∧ OldK s₁.heap s'.heap ∧ s'.os = s₁.os ∧ AllBare s'.gens) s₁ := by
  have rv := vals_ints hi
  have isT : ∀ b ∈ cs.map (·.2), s₁.heap.get? b = some { cls := .none, data := .fields #[] } := fun b hb => by
    obtain ⟨p, hp, rfl⟩ := List.mem_map.mp hb
    exact hT p hp
  have aT : a ∉ cs.map (·.2) := fun z => by
    have q := isT a z
    rw [ha] at q
    cases q
  have core : ∀ H : Hp, (∀ p ∈ cs, H p.2 = some (.tbl #[])) → (∀ b, H b = none ∨ b ∈ cs.map (·.2) ∨ ∃ o u, H b = some (.frz o u)) → SqL K H a (ns.map V.int) → HOk P w H s₁.heap → (∀ b, H b ≠ none → b = a ∨ b ∈ cs.map (·.2)) → (H a ≠ none → K.lookup a = none) →
      codeAny (model P w) callerA (.call (.ref fa) ⟨[.ref a], []⟩) (fun r s' => r = .ok (.ret (.bool true)) ∧ OldK s₁.heap s'.heap ∧ s'.os = s₁.os ∧ AllBare s'.gens) s₁ := by
    intro H hH hO hS hok hA hK
    have noD : ∀ {b : Addr} {o : Obj}, s₁.heap.get? b = some o → (∀ us n, o.data ≠ .seq us n) → o.data ≠ .fields #[] → H b = none := fun {b o} e h1 h2 => by
      cases q : H b with
      | none => rfl
      | some u =>
        rcases hA b (by rw [q]; exact fun z => nomatch z) with e' | e'
        · rw [e', ha] at e
          cases e
          exact absurd rfl (h1 _ _)
        · rw [isT b e'] at e
          cases e
          exact absurd rfl h2
    have nsK : ∀ {b : Addr} {m : Str → Option Value}, s₁.heap.Ns b m → (hidT s₁.heap H).Ns b m := fun {b m} ⟨o, es, ep, e, d, r⟩ => ⟨o, es, ep, hidT_get e (noD e (fun us n z => by rw [d] at z; cases z) fun z => by rw [d] at z; cases z), d, r⟩
    have hKb : K.In (hidT s₁.heap H) := fun b o e => hidT_get (KX b o e) (by
      cases q : H b with
      | none => rfl
      | some u =>
        rcases hA b (by rw [q]; exact fun z => nomatch z) with e' | e'
        · rw [e', hK (by rw [← e', q]; exact fun z => nomatch z)] at e
          cases e
        · obtain ⟨p, hp, ep⟩ := List.mem_map.mp e'
          rw [← ep, nT p hp] at e
          cases e)
    have hM : L2.Mod K mg (hidT s₁.heap H) := ⟨hKb, nsK hns, ⟨mb, nsK hb, hbb⟩, by
      obtain ⟨mc, h1, h2⟩ := hlim
      exact ⟨mc, nsK h1, h2⟩⟩
    have TB : ∀ p ∈ cs, LamX.TabB (hidT s₁.heap H) mg p.1 p.2 := fun p hp => by
      have hTp := hT p hp
      refine ⟨?_, ?_, ?_⟩
      · obtain ⟨o, us, file, tf, flags, tg, inF, text, tt, e1, r1, r2, r3, r4⟩ := Cd p hp
        refine ⟨o, us, file, tf, flags, tg, inF, text, tt, hidT_get e1 (noD e1 (fun us n z => by rw [r2] at z; cases z) fun z => ?_), r1, r2, r3, r4⟩
        rw [r2] at z
        cases z
        simp at r3
      · obtain ⟨bm, ob, b1, b2, b3, b4, b5, b6⟩ := hbm
        refine ⟨bm, ob, b1, b2, fun q => ?_, fun q => ?_, hidT_get b3 (noD b3 (fun us n z => by rw [b6] at z; cases z) fun z => by rw [b6] at z; cases z), b4, b5, b6⟩
        · obtain ⟨o, es, ep, e, d, r⟩ := hns
          rw [q, e] at b3
          cases b3
          rw [d] at b6
          cases b6
        · rw [q, hTp] at b3
          cases b3
          cases b6
      · intro z
        obtain ⟨o, es, ep, e, d, r⟩ := hns
        rw [z, hTp] at e
        cases e
        cases d
    have e0 : Env0 P w K mg (hidT s₁.heap H) callerA [] s₁ H := ⟨rfl, hM, fun b o e => of_hidT e, Nat.le_of_eq (hidT_size s₁.heap H), trivial, fun b hb => (by cases hb), hok, .of_eq hg⟩
    refine codeAny_mono ((F (hidT s₁.heap H) hKb (nsK hns) TB).run callerA [] s₁ H ⟨[.ref a], []⟩ [.ref a] [.ref a] (fun v _ => v = .bl true) (fun _ _ _ => False) rfl hr e0 (hbind s₁ _) (.cons rfl .nil) (hsp H hH hS)) fun r s' h => ?_
    cases r with
    | error e => exact (hCX H e s' h).elim
    | ok fl =>
      cases fl with
      | next => exact h.elim
      | brk => exact h.elim
      | cont => exact h.elim
      | ret u =>
        obtain ⟨v, H', os, bare, un, hok', r', q⟩ := h
        have q : v = .bl true := q
        subst q
        have r' : u = .bool true := r'
        subst r'
        have key : ∀ (b : Addr) (o : Obj), b ∉ cs.map (·.2) → s₁.heap.get? b = some o → s'.heap.get? b = some o := fun b o nb e => by
          cases q : H b with
          | none => exact un.keep b o e q (fun z => by cases z) (fun z => by cases z)
          | some u =>
            rcases hO b with z | z | ⟨o', u', z⟩
            · rw [q] at z; cases z
            · exact absurd z nb
            · have h1 := hok' b _ (un.frzs b o' u' z)
              have h2 := hok b _ z
              simp only [ObjOk] at h1 h2
              rw [h2.1] at e
              cases e
              exact h1.1
        have tab : ∀ (b : Addr) (o : Obj), b ∈ cs.map (·.2) → s₁.heap.get? b = some o → ∃ more, s'.heap.get? b = some { cls := .none, data := .fields (#[] ++ more) } ∧ o = { cls := .none, data := .fields #[] } ∧ isCodeTable s₁.heap b := fun b o hb e => by
          rw [isT b hb] at e
          cases e
          obtain ⟨p, hp, rfl⟩ := List.mem_map.mp hb
          obtain ⟨more, z⟩ := un.tbls p.2 #[] (hH p hp)
          have h1 := hok' p.2 _ z
          simp only [ObjOk] at h1
          obtain ⟨o, us, file, tf, flags, tg, inF, text, tt, e1, r1, r2, r3, r4⟩ := Cd p hp
          exact ⟨more, h1, rfl, p.1, o, us, e1, r1, r2, r3⟩
        refine ⟨rfl, ⟨fun b o e => ?_, fun b o e => ?_⟩, os, bare⟩
        · by_cases hb : b ∈ cs.map (·.2)
          · obtain ⟨more, h1, rfl, h2⟩ := tab b o hb e
            exact .inr (.inl ⟨h2, rfl, #[], more, rfl, h1⟩)
          · exact .inl (key b o hb e)
        · by_cases hb : b ∈ cs.map (·.2)
          · obtain ⟨more, h1, _, _⟩ := tab b o hb e
            exact ⟨_, h1⟩
          · exact ⟨o, key b o hb e⟩
  cases hk : K.lookup a with
  | none =>
    refine core (fun b => if b = a then some (.frz { cls := .type "list", data := .seq vs.toArray } (.lst (ns.map V.int))) else if b ∈ cs.map (·.2) then some (.tbl #[]) else none) (fun p hp => ?_) (fun b => ?_) (.inl (.inr ⟨_, if_pos rfl⟩)) (fun b u z => ?_) (fun b z => ?_) fun _ => hk
    · have m : p.2 ∈ cs.map (·.2) := List.mem_map.mpr ⟨p, hp, rfl⟩
      exact (if_neg (fun z => aT (by rw [← z]; exact m))).trans (if_pos m)
    · by_cases h1 : b = a
      · exact .inr (.inr ⟨_, _, if_pos h1⟩)
      · by_cases h2 : b ∈ cs.map (·.2)
        · exact .inr (.inl h2)
        · exact .inl ((if_neg h1).trans (if_neg h2))
    · by_cases h1 : b = a
      · have z' := (if_pos h1).symm.trans z
        cases z'
        subst h1
        simp only [ObjOk]
        exact ⟨ha, by rw [List.length_map]; exact hl, vs, 0, rv, ha⟩
      · have z1 := (if_neg h1).symm.trans z
        by_cases h2 : b ∈ cs.map (·.2)
        · have z' := (if_pos h2).symm.trans z1
          cases z'
          exact isT b h2
        · have z' := (if_neg h2).symm.trans z1
          cases z'
    · by_cases h1 : b = a
      · exact .inl h1
      · by_cases h2 : b ∈ cs.map (·.2)
        · exact .inr h2
        · exact absurd ((if_neg h1).trans (if_neg h2)) z
  | some o =>
    have e := KX a o hk
    rw [ha] at e
    cases e
    have lenV := hi.length
    refine core (fun b => if b ∈ cs.map (·.2) then some (.tbl #[]) else none) (fun p hp => if_pos (List.mem_map.mpr ⟨p, hp, rfl⟩)) (fun b => ?_) (.inr ⟨_, vs.toArray, 0, hk, rfl, rfl, rfl, by rw [List.size_toArray, lenV]; exact hl, rv⟩) (fun b u z => ?_) (fun b z => ?_) fun z => absurd (if_neg aT) z
    · by_cases h2 : b ∈ cs.map (·.2)
      · exact .inr (.inl h2)
      · exact .inl (if_neg h2)
    · by_cases h2 : b ∈ cs.map (·.2)
      · have z' := (if_pos h2).symm.trans z
        cases z'
        exact isT b h2
      · have z' := (if_neg h2).symm.trans z
        cases z'
    · by_cases h2 : b ∈ cs.map (·.2)
      · exact .inr h2
      · exact absurd (if_neg h2) z
theorem fn_zG {P : Program} {w : World} {base : Heap} {C : Cb} {x qual : Str} {f : Addr} {params : Arguments} {body : List Stmt} {scope : Scope} {dV kV doc pm cdv ct oc : Value} {an od : Option Addr} {osl : Array (Option Value)} {N ps : List Str} {fl : List Nat} {fb : SX} {k : Nat}
    (hmg : C.mg x = some (.ref f)) (lk : C.K.lookup f = some ⟨oc, od, .func (PySem.W.fnOf x qual params body scope dV kV doc pm an cdv ct), osl⟩) (hcd : PySem.W.codeIn C.K cdv qual = true) (hk : PySem.W.keepIn C.K (.ref f) = true)
    (S : FnScope N ps scope) (hb : ∀ us : List Value, us.length = ps.length → bindArgs (PySem.W.fnOf x qual params body scope dV kV doc pm an cdv ct) ⟨us, []⟩ = pure (ps.zip us)) (hfl : (fl.all fun i => decide (ps.length ≤ i)) = true)
    (hbody : ∀ (A : Around) (outer : List Env) (s : Shared) (H : Hp) (E : XK), A.guards = some [] → Room k (A.deeper (envOfC qual scope s.heap.objs.size f cdv)) → ∃ t, PBk (cxOf (L2.CX P w) P w C.K C.mg base N qual scope f cdv A outer s H E) (CfD C fl) (WD E) body t fb) :
    FnG P w C.K C.mg base (L2.CX P w) (k + 1) f (PySem.W.fnOf x qual params body scope dV kV doc pm an cdv ct) ps (spF C ps.length (defX ps.length N.length fb)) := by
  have ln : ∀ ds r, defX ps.length N.length fb ds = some r → ds.length = ps.length := fun ds r h => by
    unfold defX at h
    by_cases e : ds.length = ps.length
    · exact e
    · rw [if_neg e] at h; cases h
  refine fn_ofG lk hcd S (fun vs H Q E h => h.1) fun A outer s H vs Q E hgd hr hsp => ?_
  obtain ⟨t, h⟩ := hbody A outer s H E hgd hr
  refine ⟨t, h.pe, ?_⟩
  obtain ⟨_, ds, r, O, mu, tb, p, hF, hr⟩ := hsp
  have hn := ln ds r hF
  unfold defX at hF
  rw [if_pos hn] at hF
  have fl' : ∀ i ∈ fl, ds.length ≤ i := fun i hi => by
    have := List.all_eq_true.mp hfl i hi
    rw [hn]
    exact of_decide_eq_true this
  have E0 := env_start (N := N) (fl := fl) mu tb p fl'
  rw [hn] at E0
  cases h1 : fb (ds.map some ++ List.replicate (N.length - ps.length) none) with
  | none => rw [h1] at hF; cases hF
  | some ocm =>
    rw [h1] at hF
    refine h.ev _ ocm h1 H O _ H E0 _ ?_
    cases ocm with
    | nx Γ => cases hF; exact fun σ H' E' => hr _ H' (E'.sm.trans (mask_le _ _)) mk_none
    | bk Γ => cases hF
    | ct Γ => cases hF
    | rt d => cases hF; exact fun v H' s pp => hr v H' s pp
    | re d Γ => cases hF; exact fun σ v H' E' pp => hr v H' (E'.sm.trans (mask_le _ _)) (pp.sm (mask_sub E'.ows.sub))
    | rn d Γ =>
      cases hF
      intro σ l o H' E' hl c
      obtain ⟨r1, r2⟩ := ret_new E' hl c
      exact hr _ _ r1 r2
    | ex e Γ =>
      cases hF
      intro σ H' E'
      cases e with
      | own c => exact hr H' (E'.sm.trans (mask_le _ _))
      | fld c f d => exact fun dd v hn p => hr H' dd v (E'.sm.trans (mask_le _ _)) hn p
def ZAtG (l : PySem.W.OpenLaw) (w : World) (K : PySem.W.Frag) (k n : Nat) (mg : Str → Option Value) (fa : Addr) (h : Heap) : Prop :=
  ∃ (cs : List (Addr × Addr)) (F : FX) (fd : FuncData), (∀ p ∈ cs, PySem.W.CodeHd h p.1 p.2 ∧ h.get? p.2 = some { cls := .none, data := .fields #[] }) ∧ (∀ p ∈ cs, K.lookup p.2 = none) ∧
    (∀ ns : List Int, ns.length ≤ n → (∀ z ∈ ns, Builtin.Int.intBits z ≤ 1048576) → F [.list (ns.map .int)] = some (.ok (.bool true))) ∧ (∀ us : List Value, us.length = 1 → bindArgs fd ⟨us, []⟩ = pure ((["script"] : List Str).zip us)) ∧
    ∀ base : Heap, K.In base → base.Ns mainGlobals mg → (∀ p ∈ cs, LamX.TabB base mg p.1 p.2) → FnG l.prog w K mg base (L2.CX l.prog w) k fa fd ["script"] (spF ⟨K, mg, cs.map (·.2)⟩ 1 F)
theorem walk_zG {l : PySem.W.OpenLaw} {n k : Nat} {q : Program} {loose : List Str} {XP : (Str → Option Value) → Heap → Prop} {YP : World → Heap → Prop} {d : DefRec} {K : Params → PySem.W.Frag}
    (hn : l.most = some n) (hn2 : n ≤ sizeLine) (hdf : d.params.defaults = []) (hr : Room k callerA) (hnm : d.name = "law") (hY : ∀ (w : World) (h : Heap), YP w h → (K w.params).In h)
    (F : ∀ (w : World) (mean : ExcName → Option Value) (mg mb : Str → Option Value) (fa : Addr) (h : Heap), YP w h → (K w.params).In h → h.Ns mainGlobals mg → Top q (PySem.W.looseW q loose) mean mg mb h → mg "law" = some (.ref fa) → ZAtG l w (K w.params) k n mg fa h) :
    PySem.W.WalkO q loose XP YP l.row.toRowW d [] (fun f vs => PySem.call f vs) := by
  refine Att.attach_callB hn hdf fun w s₀ s₁ mg mb fa o pm cd doc a vs ns G Y ho hd hcd hmg hobj hints hlen hbits hg => ?_
  have KX := hY w _ Y
  rw [hnm] at hmg
  obtain ⟨cs, F', fd, hT, nT, hF, hb, hD⟩ := F w _ mg mb fa _ Y KX G.T.g G.T hmg
  refine law_callG (CC := L2.CX l.prog w) (x := "script") KX G.T.g G.T.b G.T.builtins G.T.nolimit hg (fun p hp => (hT p hp).2) nT (fun p hp => (hT p hp).1) G.T.bmain hobj hints (Nat.le_trans hlen hn2) hr hD (fun s u => .of_eq (hb [u] rfl)) (fun H hH hS => ?_) fun H e s' hc => ?_
  · refine ⟨rfl, [.list (ns.map .int)], .ok (.bool true), [], (fun _ h => nomatch h), fun P hP => ?_, ?_, hF ns hlen hbits, fun v H' _ p => rp_bool p⟩
    · obtain ⟨p, hp, rfl⟩ := List.mem_map.mp hP
      exact ⟨#[], hH p hp, by first | exact trivial | exact .nil | (show PySem.TriplesOk []; constructor) | decide⟩
    · rw [mask_nil]
      exact rpl_cons (mk_lst hS (rpl_ints ns)) rpl_nil
  · obtain ⟨_, _, _, _, _, _, _, _, _, _, _, _, z⟩ := hc
    exact z
def gReprD : PyData → Option PyData
  | .list ds => if (PyData.list ds).canLay0 && (PyData.list ds).showable && !(PyData.list ds).hasDict && decide ((PyData.list ds).depth < 60) && decide ((PyData.list ds).shown.length ≤ big) then some (.str (PyData.list ds).shown) else none
  | .tuple ds => if (PyData.tuple ds).canLay0 && (PyData.tuple ds).showable && !(PyData.tuple ds).hasDict && decide ((PyData.tuple ds).depth < 60) && decide ((PyData.tuple ds).shown.length ≤ big) then some (.str (PyData.tuple ds).shown) else none
  | d => gRepr d
def rReprD (K : PySem.W.Frag) : List V → Hp → VK → Prop := fun xs H Q => ∃ a d, xs = [.ref a] ∧ Dp K H (.ref a) d ∧ d.showable = true ∧ d.hasDict = false ∧ d.depth < 60 ∧ d.shown.length ≤ big ∧ Q (.str d.shown) H
section
variable {X : Cx} {C : Cf} {W : WX} {m : Md} {k : Nat} {a : Expr} {ta : TE} {fa : PX} {pos p : Pos}
theorem call_reprD (hgd : X.A.guards = some []) (hu : X.A.units + 200 < cLine) : CallR X (.builtin "repr") (rReprD X.K) := by
  intro pins s σ H xs us Q I r h
  obtain ⟨a, d, rfl, hd, h1, h2, h3, h4, q⟩ := h
  obtain ⟨u, rfl, rfl⟩ := vals1 r
  obtain ⟨as, rr⟩ := Dp.reads I d (.ref a) (.ref a) hd rfl
  exact repr_of_reads' rr h1 (fun z => by rw [h2] at z; cases z) hgd (by omega) (fun b o e => e) (fun h' u tk keep => ⟨.str d.shown, H, I.kept keep, ⟨u, rfl⟩, q⟩) (big_ok h4)
theorem rh_reprD {K : PySem.W.Frag} : RH K m (fun xs H Q => rReprD K xs H Q ∨ rRepr xs H Q) gReprD := by
  intro d z hz O Ox x H mu px Q q
  unfold gReprD at hz
  split at hz
  · rename_i ds
    split at hz
    · rename_i hc
      simp only [Bool.and_eq_true, decide_eq_true_eq] at hc
      obtain ⟨⟨⟨⟨c1, c2⟩, c3⟩, c4⟩, c5⟩ := hc
      cases hz
      obtain ⟨p, xs, rfl, h1, h2⟩ := px
      exact .inl ⟨p, _, rfl, rp_dp _ _ c1 (mk_lst h1 (RpL.sm hm_le _ _ h2)), c2, by simpa using c3, c4, c5, q _ H (.refl _ _) mk_str⟩
    · cases hz
  · rename_i ds
    split at hz
    · rename_i hc
      simp only [Bool.and_eq_true, decide_eq_true_eq] at hc
      obtain ⟨⟨⟨⟨c1, c2⟩, c3⟩, c4⟩, c5⟩ := hc
      cases hz
      obtain ⟨p, xs, rfl, h1, h2⟩ := rp_tup px
      exact .inl ⟨p, _, rfl, rp_dp _ _ c1 (mk_tup (hm_sqT h1) (RpL.sm hm_le _ _ h2)), c2, by simpa using c3, c4, c5, q _ H (.refl _ _) mk_str⟩
    · cases hz
  · exact .inr (rh_repr d z hz O Ox x H mu px Q q)
theorem pp_reprG (o : On X C k) (hgd : X.A.guards = some []) (hg : Gl X "repr") (hm : X.mg "repr" = none) (ha : PH X C W m a ta fa) (hs : starEach [a] X.env = (false, eval a X.env) :: starEach [] X.env := by rfl) : PP X C W m (.Call (.Name "repr" p) [a] [] pos) (tCB (fun xs H Q => rReprD C.K xs H Q ∨ rRepr xs H Q) (tCons ta tNil)) (b1 fa gReprD) := pp_b1 (hs := hs) (by rw [← o.K]; exact (call_reprD hgd o.un).or call_reprS) rh_reprD boot_repr' hg hm ha
end
end Z
set_option Elab.async false
set_option linter.all false
set_option maxRecDepth 100000
set_option maxHeartbeats 4000000
namespace Z
open PySem PySem.Spec PyProof.Rows L2
theorem new_enum {u : Value} {it : Obj} {P : Shared → Prop} (hu : ∀ (prog : Program) (w : World) (A : Around) (E : Value → Shared → Prop) (s : Shared) (Q : Value → Shared → Prop), P s → Q (.ref s.heap.objs.size) { heap := s.heap.push it, gens := s.gens, drawn := s.drawn, toks := s.toks, os := s.os } → wpAny (model prog w) A (pyIter u) Q E s) :
    Meets (Builtin.«enumerate.__new__» ⟨[.type "enumerate", u], []⟩) fun _ R s => P s ∧ R (.ok (.ret (.ref (s.heap.push it).objs.size))) { heap := (s.heap.push it).push { cls := .type "enumerate", data := .fields #[.none, .bool false, .ref s.heap.objs.size, rawInt 0, .none, .none] }, gens := s.gens, drawn := s.drawn, toks := s.toks, os := s.os } := by
  refine Meets.of_wp fun prog w A R s h => ?_
  obtain ⟨hp, g, d, tk, os⟩ := s
  obtain ⟨hP, h⟩ := h
  unfold Builtin.«enumerate.__new__»
  have fin : ∀ (R' : Value → Prop), wpAny (model prog w) A.in1 (do
      let it ← pyIter u
      let r ← Builtin.SmallTypes.newRecord (Value.type "enumerate") (Builtin.SmallTypes.ownedTupleFields ++ [it, rawInt 0, Value.none, Value.none])
      ret r) (fun fin s' => ∃ v, fin = Fin.done (Flow.ret v) ∧ R (Except.ok (Flow.ret v)) s') (fun e s' => R (Except.error e) s') { heap := hp, gens := g, drawn := d, toks := tk, os := os } := fun _ => by
    refine wpAny_bind (hu _ _ _ _ _ _ hP (wpAny_bind ?_))
    unfold Builtin.SmallTypes.newRecord
    dsimp only
    unfold newObj
    apply wpAny_ite_false
    · rfl
    refine wpAny_bind (wpAny_alloc' ?_)
    refine wpAny_pure (wpAny_pure ?_)
    exact ⟨_, rfl, h⟩
  refine wpAny_bind (wpAny_bind (wpAny_pure (wpAny_ite_false rfl (wpAny_bind (wpAny_of_eq sub_enumerate (wpAny_ite_false rfl (wpAny_pure (wpAny_ite_true rfl (wpAny_bind (wpAny_bind (wpAny_stack_any fun stk => wpAny_pure ?_)))))))))))
  have fin2 : ∀ (f : Value × Option Value → Sem Fin), True := fun _ => trivial
  split
  · rename_i c tail kw snd tl hd
    rcases Bool.eq_false_or_eq_true (c == Value.type "enumerate") with hcc | hcc
    · rw [hcc]
      refine wpAny_ite_true rfl (wpAny_bind (wpAny_pure ?_))
      exact fin fun _ => True
    · rw [hcc]
      refine wpAny_ite_false rfl (wpAny_bind (wpAny_of_eq (show _ = (pure (u, none) : Sem (Value × Option Value)) from rfl) ?_))
      exact fin fun _ => True
  · refine wpAny_ite_false rfl (wpAny_bind (wpAny_of_eq (show _ = (pure (u, none) : Sem (Value × Option Value)) from rfl) ?_))
    exact fin fun _ => True
theorem call_enumT {prog : Program} {w : World} {A : Around} {E : Value → Shared → Prop} {s : Shared} {l : Addr} {items : Array Value} {Q : Value → Shared → Prop} (hL : s.heap.IsTuple l items)
    (h : ∀ h' : Heap, IsEnum h' (s.heap.objs.size + 1) s.heap.objs.size 0 .none → h'.IsTupleIter s.heap.objs.size l 0 → h'.objs.size = s.heap.objs.size + 2 → (∀ (b : Addr) (o : Obj), s.heap.get? b = some o → h'.get? b = some o) →
      Q (.ref (s.heap.objs.size + 1)) { heap := h', gens := s.gens, drawn := s.drawn, toks := s.toks, os := s.os }) :
    wpAny (model prog w) A (call (.type "enumerate") [.ref l]) Q E s := by
  refine callType_new PySem.F.called_enumerate (by decide) (PySem.F.typeCall_enumerate_1 (.ref l)) (PySem.F.newCall_enumerate_1 (.ref l)) (fun obj => PySem.F.args_object_init_2 obj (.ref l)) PySem.F.entry_enumerate_new
    (new_enum (u := .ref l) (it := { cls := .type "tuple_iterator", data := .fields #[.ref l, .int 0 0] }) (P := fun s => s.heap.IsTuple l items) fun prog w A E s Q hp hq => wpAny_pyIter_tuple hp hq) ⟨hL, ?_⟩
  have hz := Heap.size_push s.heap { cls := .type "tuple_iterator", data := .fields #[.ref l, .int 0 0] }
  show Shared.TypeIs _ (.ref (s.heap.push _).objs.size) "enumerate" ∧ Q (.ref (s.heap.push _).objs.size) _
  rw [hz]
  have he := Heap.get?_push_size (s.heap.push { cls := .type "tuple_iterator", data := .fields #[.ref l, .int 0 0] }) (o := { cls := .type "enumerate", data := .fields #[.none, .bool false, .ref s.heap.objs.size, rawInt 0, .none, .none] }) rfl
  rw [hz] at he
  refine ⟨⟨_, he, rfl⟩, h _ he ⟨_, Heap.get?_push_of_some _ (Heap.get?_push_size s.heap rfl), rfl, rfl⟩ ?_ fun b o x => Heap.get?_push_of_some _ (Heap.get?_push_of_some _ x)⟩
  rw [Heap.size_push, hz]
theorem drawsT {prog : Program} {w : World} {A : Around} (hh : A.handled = none) (it l : Addr) (hne : l ≠ it) (items : Array Value) : Draws prog w A it [it, l] items.size (fun i v => items[i]? = some v) fun i h => h.IsTupleIter it l i ∧ h.IsTuple l items where
  live := fun i h st => by obtain ⟨⟨o, ho, _⟩, _⟩ := st; exact ⟨o, ho⟩
  frame := fun i h h' st hk => by
    obtain ⟨⟨o, ho, r⟩, ⟨p, hp, r2⟩⟩ := st
    exact ⟨⟨o, hk it (by simp) o ho, r⟩, ⟨p, hk l (by simp) p hp, r2⟩⟩
  item := fun i s Q E hi st hQ => RZ.nextOf_tuple_item st.1 st.2 (by simp [hi] : items[i]? = some items[i]) fun h' hit' hs' => hQ items[i] h' s.toks (by simp [hi]) ⟨hit', by
    obtain ⟨p, hp, r2⟩ := st.2
    exact ⟨p, by rw [hs'.2 l hne]; exact hp, r2⟩⟩ hs'
  done := fun s Q E st hE => RZ.nextOf_tuple_end hh st.1 st.2 (by simp) hE
theorem drawsT0 {prog : Program} {w : World} {A : Around} (hh : A.handled = none) (it l : Addr) (hne : l ≠ it) (items : Array Value) {i : Nat} (hi : items[i]? = none) : Draws prog w A it [it, l] 0 (fun _ _ => True) fun _ h => h.IsTupleIter it l i ∧ h.IsTuple l items where
  live := fun i h st => by obtain ⟨⟨o, ho, _⟩, _⟩ := st; exact ⟨o, ho⟩
  frame := fun i h h' st hk => by
    obtain ⟨⟨o, ho, r⟩, ⟨p, hp, r2⟩⟩ := st
    exact ⟨⟨o, hk it (by simp) o ho, r⟩, ⟨p, hk l (by simp) p hp, r2⟩⟩
  item := fun i s Q E hi st hQ => absurd hi (Nat.not_lt_zero _)
  done := fun s Q E st hE => RZ.nextOf_tuple_end hh st.1 st.2 hi hE
def IteT (K : PySem.W.Frag) (a : Addr) : It where
  go := fun i H => ∃ xs x, SqT K H a xs ∧ xs[i]? = some x
  yld := fun i H v H' => ∃ T x, v = .ref T ∧ H T = none ∧ H' = upd H T (.tup [.int i, x]) ∧ ∀ xs, SqT K H a xs → xs[i]? = some x
  stop := fun i H => ∃ xs, SqT K H a xs ∧ xs.length ≤ i
theorem turn_enumT {P : Program} {w : World} {K : PySem.W.Frag} {elts : List Expr} {kk : Nat} {tpos : Pos} (a e it : Addr) : Turn P w K (.Tuple elts kk tpos) (IteT K a) [e, it] e fun i h => (∃ old, IsEnum h e it i old) ∧ h.IsTupleIter it a i ∧ e ≠ it where
  mem := by simp
  obj := fun i h st b hb => by
    obtain ⟨⟨old, he⟩, ⟨o, ho, c1, c2⟩, hne⟩ := st
    rcases List.mem_cons.mp hb with z | z
    · rw [z]; exact ⟨_, he, fun v q => by cases q⟩
    · rw [List.mem_singleton.mp z]; exact ⟨o, ho, fun v q => by rw [c2] at q; cases q⟩
  keep := fun i h h' st k => by
    obtain ⟨⟨old, he⟩, ⟨o, ho, r⟩, hne⟩ := st
    exact ⟨⟨old, k e (by simp) _ he⟩, ⟨o, k it (by simp) o ho, r⟩, hne⟩
  item := fun X hP hw hK hc i pins s σ H E I hf st hg => by
    subst hP hw hK
    obtain ⟨⟨old, he⟩, hit, hne⟩ := st
    obtain ⟨xs, x, hq, hx⟩ := hg
    obtain ⟨its, rv, p, hz⟩ := I.tuple hq
    obtain ⟨u, hu, ru⟩ := rv.get hx
    have hel := Heap.lt_size he
    have hil : it < s.heap.objs.size := by obtain ⟨o, ho, _⟩ := hit; exact Heap.lt_size ho
    have hea : e ≠ a := fun z => by
      obtain ⟨o, ho, c, _⟩ := p
      rw [← z, he] at ho
      cases ho
      exact absurd (Value.type.inj c) (by decide)
    have hai : a ≠ it := fun z => by
      obtain ⟨o, ho, c, _⟩ := p
      obtain ⟨o2, ho2, c2, _⟩ := hit
      rw [z, ho2] at ho
      cases ho
      rw [c2] at c
      exact absurd (Value.type.inj c) (by decide)
    have lt : i < its.toArray.size := by
      rw [List.size_toArray]
      exact (List.getElem?_eq_some_iff.mp hu).1
    refine wpAny_pyNext_enum_itemD (drawsT (A := X.A.in1) (I.ok.hd hc) it a hai its.toArray) he ⟨hit, p⟩ lt hne (by simp [hne, hea]) fun y h' tk hy ho hSt hT hsz hk => ?_
    have hy : its[i]? = some y := by simpa using hy
    rw [hu] at hy
    cases hy
    refine ⟨_, rfl, wpAny_letOwnedTupleGo_enum ho fun h'' he' sb => ?_⟩
    have hT2 : h''.get? s.heap.objs.size = some { cls := .type "tuple", data := .seq #[.int i tk, u] } := (sb.2 s.heap.objs.size (Nat.ne_of_gt hel)).trans hT
    have new : ObjOk X.prog X.w (upd H s.heap.objs.size (.tup [.int i, x])) h'' s.heap.objs.size (.tup [.int i, x]) := ⟨show 2 ≤ sizeLine by decide, [.int i tk, u], .cons ⟨tk, rfl⟩ (.cons ru .nil), _, hT2, rfl, 0, rfl⟩
    have I1 := I.turnedNew (t' := tk + 1) (ch := [e, it]) (fun b ob hb q => (sb.2 b fun z => hb (by simp [z])).trans (hk b ob (fun z => hb (by simp [z])) (fun z => hb (by simp [z])) q)) hf (Nat.le_refl _) new
    refine ⟨.ref s.heap.objs.size, upd H s.heap.objs.size (.tup [.int i, x]), I1, rfl, ⟨s.heap.objs.size, x, rfl, I.hok.fresh (Nat.le_refl _), rfl, fun ys hy => by rw [I.tuple_inj hy hq]; exact hx⟩, ⟨⟨u, by
      rw [show ((i + 1 : Nat) : Int) = (i : Int) + 1 by omega]
      exact he'⟩, ?_, hne⟩, fun b hb => ?_⟩
    · obtain ⟨⟨o, ho2, r⟩, _⟩ := hSt
      exact ⟨o, (sb.2 it (Ne.symm hne)).trans ho2, r⟩
    · have : b < s.heap.objs.size := by
        rcases List.mem_cons.mp hb with z | z
        · rw [z]; exact hel
        · rw [List.mem_singleton.mp z]; exact hil
      rw [upd_ne (Nat.ne_of_lt this)]
      exact (hf b hb).1
  done := fun X hP hw hK hc i pins s σ H E I hf st hg => by
    subst hP hw hK
    obtain ⟨⟨old, he⟩, hit, hne⟩ := st
    obtain ⟨xs, hq, hx⟩ := hg
    obtain ⟨its, rv, p, hz⟩ := I.tuple hq
    have hai : a ≠ it := fun z => by
      obtain ⟨o, ho, c, _⟩ := p
      obtain ⟨o2, ho2, c2, _⟩ := hit
      rw [z, ho2] at ho
      cases ho
      rw [c2] at c
      exact absurd (Value.type.inj c) (by decide)
    obtain ⟨f0, f1, f2, f3, f4, f5⟩ := hf it (by simp)
    have hl := rv.length
    exact wpAny_pyNext_enum_endD (drawsT0 (A := X.A.in1) (I.ok.hd hc) it a hai its.toArray (i := i) (by simp; omega)) he ⟨hit, p⟩ fun h' eb => ⟨rfl, I.turned (fun b o hb q => eb b o hb q) f0 f1 f3 f4 f5⟩
  self := fun A i s Q E st h => by
    obtain ⟨⟨old, he⟩, _⟩ := st
    exact wpAny_pyIter_enum he h
abbrev iEnumX (K : PySem.W.Frag) (ta : TA) : TI := fun σ H R => ta σ H fun vs H1 => ∃ a, vs = [.ref a] ∧ ((∃ xs, SqL K H1 a xs ∧ R (Ite K a) H1) ∨ ∃ xs, SqT K H1 a xs ∧ R (IteT K a) H1)
section
variable {X : Cx} {C : Cf} {W : WX} {m : Md} {k : Nat} {a b : Expr} {ta tb : TE} {fa fb : PX} {p pos tpos : Pos} {elts : List Expr} {kk : Nat} {t : TA}
theorem pi_enumX' (hg : Gl X "enumerate") (hm : X.mg "enumerate" = none) (ha : PA X [a] t) (hs : starEach [a] X.env = (false, eval a X.env) :: starEach [] X.env := by rfl) : PI X (.Tuple elts kk tpos) (.Call (.Name "enumerate" p) [a] [] pos) (iEnumX X.K t) := ⟨fun pins s σ H R I h => by
  refine Call_ (ld_blt I hg hm boot_enumerate (PyProof.Rows.callWith_type1 (thn (ha.run pos pins s σ H _ I h) fun us s1 x => ?_) hs rfl) (by decide) (by decide)) rfl
  obtain ⟨vs, H1, I1, r1, l, rfl, q1⟩ := x
  obtain ⟨u, rfl, rfl⟩ := vals1 r1
  rcases q1 with ⟨xs, hq, q⟩ | ⟨xs, hq, q⟩
  · obtain ⟨its, rv, p', hz⟩ := I1.list hq
    refine call_enumerate_list p'.isList fun h' he hit hsz hk => wpAny_pyIter_enum he ?_
    have I2 := I1.kept (t' := s1.toks) hk
    refine ⟨s1.heap.objs.size + 1, [s1.heap.objs.size + 1, s1.heap.objs.size], _, Ite X.K l, H1, rfl, I2, turn_enum l (s1.heap.objs.size + 1) s1.heap.objs.size, ⟨⟨.none, he⟩, hit, Nat.succ_ne_self _⟩, fun b hb => ?_, q⟩
    have hle : s1.heap.objs.size ≤ b := by
      rcases List.mem_cons.mp hb with z | z
      · rw [z]; exact Nat.le_succ _
      · rw [List.mem_singleton.mp z]; exact Nat.le_refl _
    exact I1.fpOk hle (I1.hok.fresh hle)
  · obtain ⟨its, rv, p', hz⟩ := I1.tuple hq
    refine call_enumT p' fun h' he hit hsz hk => wpAny_pyIter_enum he ?_
    have I2 := I1.kept (t' := s1.toks) hk
    refine ⟨s1.heap.objs.size + 1, [s1.heap.objs.size + 1, s1.heap.objs.size], _, IteT X.K l, H1, rfl, I2, turn_enumT l (s1.heap.objs.size + 1) s1.heap.objs.size, ⟨⟨.none, he⟩, hit, Nat.succ_ne_self _⟩, fun b hb => ?_, q⟩
    have hle : s1.heap.objs.size ≤ b := by
      rcases List.mem_cons.mp hb with z | z
      · rw [z]; exact Nat.le_succ _
      · rw [List.mem_singleton.mp z]; exact Nat.le_refl _
    exact I1.fpOk hle (I1.hok.fresh hle)⟩
end
def enD : Nat → List PyData → List PyData
  | _, [] => []
  | i, d :: ds => .tuple [.int (i : Int), d] :: enD (i + 1) ds
theorem enD_len : ∀ (ds : List PyData) (i : Nat), (enD i ds).length = ds.length
  | [], _ => rfl
  | d :: ds, i => by rw [enD, List.length_cons, List.length_cons, enD_len ds]
theorem enD_get : ∀ {ds : List PyData} {i j : Nat} {d : PyData}, (enD i ds)[j]? = some d → ∃ e, ds[j]? = some e ∧ d = .tuple [.int ((i + j : Nat) : Int), e]
  | [], _, _, _, h => by simp [enD] at h
  | e :: ds, i, 0, d, h => ⟨e, rfl, by simpa [enD] using h.symm⟩
  | e :: ds, i, j + 1, d, h => by
    obtain ⟨f, h1, h2⟩ := enD_get (ds := ds) (i := i + 1) (j := j) (d := d) (by simpa [enD] using h)
    exact ⟨f, by simpa using h1, by rw [h2, show i + 1 + j = i + (j + 1) by omega]⟩
section
variable {K : PySem.W.Frag} {Hm : Hp}
theorem en_new {xs : List V} {ds : List PyData} (h1 : RpL K Hm ds xs) {i : Nat} {d : PyData} {H H' : Hp} {x : V} {T : Addr} (hd : (enD 0 ds)[i]? = some d) (hT : H T = none) (hH : H' = upd H T (.tup [.int i, x])) (hx : xs[i]? = some x) {O : List Addr} (s : Sm Hm (mask O H)) (mu : MutAll O H) : Stp O H H' ∧ Rp K (mask O H') d (.ref T) := by
  obtain ⟨e, h2, rfl⟩ := enD_get hd
  obtain ⟨v, q1, r1⟩ := rpl_get h1 h2
  rw [hx] at q1
  cases q1
  subst hH
  refine ⟨.new mu hT, ?_⟩
  rw [Nat.zero_add]
  exact new_tup (K := K) (m := .st) (O := O) (Ox := []) (H := H) (ds := [.int i, e]) (xs := [.int i, x]) (p := T) ⟨mu, fun _ z => nomatch z⟩ hT (rpl_cons mk_int (rpl_cons (r1.sm s) rpl_nil))
theorem wlk_enL {a : Addr} {xs : List V} {ds : List PyData} (h : SqL K Hm a xs) (r : RpL K Hm ds xs) : Wlk K Hm (Ite K a) (enD 0 ds) := by
  refine ⟨fun H => SqL K H a xs, fun i H x H' => ∃ T y, x = .ref T ∧ H T = none ∧ H' = upd H T (.tup [.int i, y]) ∧ xs[i]? = some y, ⟨fun i H hi g => ?_, fun H g => ⟨xs, g, ?_⟩, fun i H x H' hi g y => ?_⟩, fun H s => sqL_sm s h, fun i d H x H' hd y O s mu => ?_⟩
  · rw [enD_len, rpl_len r] at hi
    exact ⟨xs, xs[i], g, by simp [hi]⟩
  · rw [enD_len, rpl_len r]; exact Nat.le_refl _
  · obtain ⟨T, z, e1, e2, e3, e4⟩ := y
    exact ⟨T, z, e1, e2, e3, e4 xs g⟩
  · obtain ⟨T, z, rfl, e2, e3, e4⟩ := y
    exact en_new r hd e2 e3 e4 s mu
theorem wlk_enT {a : Addr} {xs : List V} {ds : List PyData} (h : SqT K Hm a xs) (r : RpL K Hm ds xs) : Wlk K Hm (IteT K a) (enD 0 ds) := by
  refine ⟨fun H => SqT K H a xs, fun i H x H' => ∃ T y, x = .ref T ∧ H T = none ∧ H' = upd H T (.tup [.int i, y]) ∧ xs[i]? = some y, ⟨fun i H hi g => ?_, fun H g => ⟨xs, g, ?_⟩, fun i H x H' hi g y => ?_⟩, fun H s => sqT_sm s h, fun i d H x H' hd y O s mu => ?_⟩
  · rw [enD_len, rpl_len r] at hi
    exact ⟨xs, xs[i], g, by simp [hi]⟩
  · rw [enD_len, rpl_len r]; exact Nat.le_refl _
  · obtain ⟨T, z, e1, e2, e3, e4⟩ := y
    exact ⟨T, z, e1, e2, e3, e4 xs g⟩
  · obtain ⟨T, z, rfl, e2, e3, e4⟩ := y
    exact en_new r hd e2 e3 e4 s mu
end
def enX (f : PX) : PIx := fun Γ => match f Γ with
  | some (.ok (.list xs)) => some (.ok (enD 0 xs))
  | some (.ok (.tuple xs)) => some (.ok (enD 0 xs))
  | some (.error e) => some (.error e)
  | _ => none
section
variable {X : Cx} {C : Cf} {W : WX} {k : Nat} {a : Expr} {ta : TE} {fa : PX} {p pos tpos : Pos} {elts : List Expr} {kk : Nat}
theorem pi_enumX (o : On X C k) (hg : Gl X "enumerate") (hm : X.mg "enumerate" = none) (ha : PP X C W .st a ta fa) (hs : starEach [a] X.env = (false, eval a X.env) :: starEach [] X.env := by rfl) :
    PIt X C W (.Tuple elts kk tpos) (.Call (.Name "enumerate" p) [a] [] pos) (iEnumX C.K (tCons ta tNil)) (enX fa) := ⟨by rw [← o.K]; exact pi_enumX' hg hm (pa_cons ha.pe pa_nil hs) hs, fun Γ r hr H0 Ox σ H E R q => by
  show ta σ H fun x H1 => ∃ a, [x] = [V.ref a] ∧ ((∃ xs, SqL C.K H1 a xs ∧ R (Ite C.K a) H1) ∨ ∃ xs, SqT C.K H1 a xs ∧ R (IteT C.K a) H1)
  unfold enX at hr
  split at hr
  · rename_i xs h1
    cases hr
    refine ha.ev Γ _ h1 H0 Ox σ H E _ fun v H1 s1 p1 => ?_
    obtain ⟨l, vs, rfl, k1, k2⟩ := rp_lst p1
    exact ⟨l, rfl, .inl ⟨vs, sqL_sm (mask_le _ _) k1, q _ H1 s1 (wlk_enL k1 k2)⟩⟩
  · rename_i xs h1
    cases hr
    refine ha.ev Γ _ h1 H0 Ox σ H E _ fun v H1 s1 p1 => ?_
    obtain ⟨l, vs, rfl, k1, k2⟩ := rp_tup p1
    exact ⟨l, rfl, .inr ⟨vs, sqT_sm (mask_le _ _) k1, q _ H1 s1 (wlk_enT k1 k2)⟩⟩
  · rename_i x h1
    cases hr
    exact ha.ev Γ _ h1 H0 Ox σ H E _ q
  · cases hr⟩
end
end Z
set_option Elab.async false
set_option linter.all false
set_option maxRecDepth 100000
set_option maxHeartbeats 4000000
namespace Z
open PySem PySem.Spec PyProof.Rows L2
section
variable {X : Cx} {C : Cf} {W : WX} {m : Md} {k : Nat} {a b e : Expr} {ta tb te : TE} {fa fb f : PX} {pos p p2 : Pos}
def tyN : PyData → Option String
  | .none => some "NoneType"
  | .bool _ => some "bool"
  | .int _ => some "int"
  | .str _ => some "str"
  | .list _ => some "list"
  | .tuple _ => some "tuple"
  | .dict _ => none
def gIsT (T : String) (d : PyData) : Option PyData := (tyN d).bind fun t => (kitB t T).map .bool
theorem ty_of {K : PySem.W.Frag} {H : Hp} {d : PyData} {x : V} {t : String} (h : tyN d = some t) (r : Rp K H d x) : TyX K H x (.type t) := by
  cases d with
  | none => cases h; rw [rp_none r]; exact .base .non
  | bool b => cases h; rw [rp_bool r]; exact .base (.bl _)
  | int i => cases h; rw [rp_int r]; exact .base (.int _)
  | str s => cases h; rw [rp_str r]; exact .base (.str _)
  | list ds =>
    cases h
    obtain ⟨a, xs, rfl, h1, _⟩ := rp_lst r
    rcases h1 with (h1 | ⟨o, h1⟩) | ⟨o, its, n, h1, h2, _⟩
    · exact .base (.lst h1)
    · exact .base (.frz h1)
    · exact .kList h1 h2
  | tuple ds =>
    cases h
    obtain ⟨a, xs, rfl, h1, _⟩ := rp_tup r
    rcases h1 with (h1 | ⟨o, h1⟩) | ⟨o, its, n, h1, h2, _⟩
    · exact .base (.tup h1)
    · exact .fTuple h1
    · exact .kTuple h1 h2
  | dict _ => cases h
theorem pp_isT {T : String} {y : Str} (o : On X C k) (hg : Gl X "isinstance") (hm : X.mg "isinstance" = none) (ha : PH X C W m e te f) (hgy : Gl X y) (hmy : X.mg y = none) (hvy : bootBuiltins y = some (.type T)) (hny : y ≠ "__name__" := by decide) (hdy : (y == ("__debug__" : Str)) = false := by decide)
    (hs1 : starEach [e, Expr.Name y p2] X.env = (false, eval e X.env) :: starEach [Expr.Name y p2] X.env := by rfl) (hs2 : starEach [Expr.Name y p2] X.env = (false, eval (.Name y p2) X.env) :: starEach [] X.env := by rfl) (hpl : (backTo pos (starEach [Expr.Name y p2] X.env)).any (·.1) = false := by rfl) :
    PP X C W m (.Call (.Name "isinstance" p) [e, .Name y p2] [] pos) (tCB (rIsi X.K) (tCons te (tCons (tC (.ty T)) tNil))) (b1 f (gIsT T)) := by
  refine ⟨pe_callB call_isi hg hm boot_isinst (pa_cons ha.pe (pa_cons (pe_bltn hgy hmy hvy rfl hny hdy) pa_nil hs2) hs1) (by decide) (by decide) hs1 hpl, fun Γ r' hr' H0 Ox σ H E Q q => ?_⟩
  show te σ H fun x H1 => rIsi X.K [x, .ty T] H1 Q
  refine evH_one ha.ev E hr' (fun d z hz er x H2 s E2 px => ?_) fun x ex => by subst ex; exact q
  subst er
  unfold gIsT at hz
  cases h1 : tyN d with
  | none => rw [h1] at hz; cases hz
  | some t =>
    rw [h1] at hz
    simp only [Option.bind_some] at hz
    cases h2 : kitB t T with
    | none => rw [h2] at hz; cases hz
    | some bb =>
      rw [h2] at hz
      cases hz
      have rp : Rp X.K H2 d x := by
        rw [o.K]
        cases d with
        | list ds =>
          obtain ⟨l, xs, rfl, k1, k2⟩ := px
          exact mk_lst k1 (RpL.sm hm_le _ _ k2)
        | none => exact px.sm hm_le
        | bool _ => exact px.sm hm_le
        | int _ => exact px.sm hm_le
        | str _ => exact px.sm hm_le
        | tuple _ => exact px.sm hm_le
        | dict _ => cases h1
      exact ⟨x, .ty T, .type t, .type T, bb, rfl, .ty T, ty_of h1 rp, kit_ty h2, q _ H2 s mk_bool⟩
end
end Z
set_option Elab.async false
set_option linter.all false
set_option maxRecDepth 100000
set_option maxHeartbeats 4000000
namespace Z
open PySem PySem.Spec PyProof.Rows L2
structure ZA (z TI TO i1 i2 : Addr) (f1 f2 : List Addr) : Prop where
  zTI : z ≠ TI
  zTO : z ≠ TO
  zi1 : z ≠ i1
  zi2 : z ≠ i2
  IO : TI ≠ TO
  Ii1 : TI ≠ i1
  Ii2 : TI ≠ i2
  Oi1 : TO ≠ i1
  Oi2 : TO ≠ i2
  i12 : i1 ≠ i2
  zf1 : z ∉ f1
  zf2 : z ∉ f2
  Of1 : TO ∉ f1
  Of2 : TO ∉ f2
  i1f2 : i1 ∉ f2
  i2f1 : i2 ∉ f1
def IsItK (k : Bool) (h : Heap) (it l : Addr) (i : Nat) : Prop := match k with | true => h.IsTupleIter it l i | false => h.IsListIter it l i
def itN : Bool → String | true => "tuple_iterator" | false => "list_iterator"
def itO (k : Bool) (l : Addr) : Obj := { cls := .type (itN k), data := .fields #[.ref l, .int 0 0] }
def SqK (k : Bool) (K : PySem.W.Frag) (H : Hp) (a : Addr) (xs : List V) : Prop := match k with | true => SqT K H a xs | false => SqL K H a xs
end Z
set_option Elab.async false
set_option linter.all false
set_option maxRecDepth 100000
set_option maxHeartbeats 4000000
namespace Z
open PySem PySem.Spec PyProof.Rows L2
section
variable {prog : Program} {w : World} {A : Around} {E : Value → Shared → Prop} {s : Shared}
theorem collect_tup {l : Addr} {vs : List Value} {Q : List Value → Shared → Prop} (hl : s.heap.IsTuple l vs.toArray)
    (h : Q vs { s with heap := (s.heap.push (seqObj "list" #[] 0)).update s.heap.objs.size (Obj.mapSeq (· ++ vs.toArray)) }) (hsz : vs.length ≤ sizeLine) : wpAny (model prog w) A (collect (.ref l)) Q E s := by
  obtain ⟨o, ho, hc, n, hd⟩ := id hl
  unfold collect
  refine wpAny_bind (wpAny_runValue (codeAny_builtin entry_proto_collect' ?_))
  show wpAny _ _ (do again (.builtin "list.__iadd__" ⟨[← newList [], .ref l], []⟩)) _ _ s
  refine wpAny_bind (wpAny_newList (wpAny_pure ⟨Code.quiet_builtin _ (by decide +kernel), codeAny_builtin entry_list_iadd' ?_⟩))
  show wpAny _ _ (Builtin.List.listExtendWith (.ref s.heap.objs.size) (.ref l) (.ref s.heap.objs.size)) _ _ { s with heap := s.heap.push (seqObj "list" #[] 0) }
  unfold Builtin.List.listExtendWith
  have ho' : (s.heap.push (seqObj "list" #[] 0)).get? l = some o := Heap.get?_push_of_some _ ho
  refine wpAny_bind (wpAny_typeOf (T := "tuple") ⟨o, ho', hc⟩ ?_)
  have ht : (Value.type "tuple" == Value.type "tuple") = true := by rfl
  rw [if_pos (by rw [ht]; simp)]
  refine wpAny_bind (listItems_at ho' hd (wpAny_bind (listItems_at (xs := #[]) (n := 0) (Heap.get?_push_size _ rfl) rfl ?_)))
  rw [if_neg (by simp)]
  refine wpAny_bind (listUpdate_at (xs := #[]) (n := 0) (Heap.get?_push_size _ rfl) rfl (wpAny_pure ?_) (Nat.zero_le _) (by show (#[] ++ vs.toArray).size ≤ sizeLine + 1; simp only [Array.size_append, List.size_toArray, List.length_nil]; omega))
  refine wpAny_bind (wpAny_load (get?_update_seq (Heap.get?_push_size _ rfl) _) ?_)
  show wpAny _ _ (pure ((#[] : Array Value) ++ vs.toArray).toList) Q E _
  rw [show ((#[] : Array Value) ++ vs.toArray).toList = vs by simp]
  exact wpAny_pure h
theorem sorted_tup {l : Addr} {vs : List Value} {ltv : Value → Value → Bool} {Q : Value → Shared → Prop} (O : SrtO.Swo ltv) (hl : s.heap.IsTuple l vs.toArray) (hz : vs.length ≤ sizeLine)
    (hS : 2 ≤ vs.length → ∀ (h₁ : Heap) (a : Addr), SrtO.SortableO prog w A.in1.in1 { s with heap := h₁ } a vs ltv)
    (h : ∀ out : List Value, SrtO.Srtd ltv out → SrtO.Stb ltv out vs → Q (.ref (s.heap.objs.size + 1)) { s with heap := sortedAll s.heap vs out.toArray }) :
    wpAny (model prog w) A (call (.builtin "sorted") [.ref l]) Q E s := by
  refine Calls.call_function_entry kind_sorted plain_sorted entry_sorted (args_sorted1 _) ?_
  unfold Builtin.«sorted»
  refine wpAny_bind (m := checkCount "sorted" 1 1 _) (wpAny_pure (wpAny_bind (collect_tup hl (wpAny_bind (wpAny_newList ?_ hz)) hz)))
  have hsz : ((s.heap.push (seqObj "list" #[] 0)).update s.heap.objs.size (Obj.mapSeq (· ++ vs.toArray))).objs.size = s.heap.objs.size + 1 := by
    rw [Heap.size_update, size_push']
  have hoL : (((s.heap.push (seqObj "list" #[] 0)).update s.heap.objs.size (Obj.mapSeq (· ++ vs.toArray))).push (seqObj "list" vs.toArray 0)).get? (s.heap.objs.size + 1) = some (seqObj "list" vs.toArray 0) := by
    rw [← hsz]; exact Heap.get?_push_size _ rfl
  show wpAny _ _ _ _ _ { s with heap := ((s.heap.push (seqObj "list" #[] 0)).update s.heap.objs.size (Obj.mapSeq (· ++ vs.toArray))).push (seqObj "list" vs.toArray 0) }
  rw [hsz]
  refine wpAny_bind (wpAny_holding (wpAny_call_entry slot_list_sort ⟨_, hoL, rfl⟩ entry_list_sort (SrtO.list_sort_ord O hoL hz (fun h2 => hS h2 _ _) fun out hs hb => ⟨_, rfl, ?_⟩) (args_list_sort _)))
  exact wpAny_pure ⟨_, rfl, h out hs hb⟩
end
def rSortedU (K : PySem.W.Frag) : List V → Hp → VK → Prop := fun vs H Q => ∃ (a : Addr) (ns : List Int), vs = [V.ref a] ∧ SqT K H a (ns.map V.int) ∧ ∀ (ns' : List Int) (p : Addr), ns'.Perm ns → ns'.Pairwise (· ≤ ·) → H p = none → Q (.ref p) (upd H p (.lst (ns'.map V.int)))
theorem cr_sortedU {X : Cx} : CallR X (.builtin "sorted") (rSortedU X.K) := by
  intro pins s σ H vs us Q I r h
  obtain ⟨a, ns, rfl, hs, q⟩ := h
  obtain ⟨its, rv, hl, hz⟩ := I.tuple hs
  rw [Vals.ref1 r]
  have hi := rv.ints
  refine sorted_tup SrtO.swo_int hl (by rw [← rv.length]; exact hz) (fun h2 h₁ a' => SrtO.ints_sortable hi h2) fun out h1 h2 => ?_
  obtain ⟨k1, k2, k3⟩ := SrtO.ints_out hi h1 h2
  obtain ⟨ep, he'⟩ := PyProof.Rows.sortedAll_at s.heap its out.toArray
  have hlen : ((out.map SrtO.iv).map V.int).length ≤ sizeLine := by
    rw [List.length_map, k2.length_eq]
    rw [List.length_map] at hz
    exact hz
  exact ⟨.ref _, upd H (s.heap.objs.size + 1) (.lst ((out.map SrtO.iv).map V.int)), I.laid (t' := s.toks) (fun _ _ => PyProof.Rows.sortedAll_old) (Nat.le_succ _) ⟨hlen, out, ep, vals_of_ints k1, he'⟩, rfl, q _ _ k2 k3 (I.hok.fresh (Nat.le_succ _))⟩
def gSortP : PyData → Option PyData
  | .list ds => (ints? ds).map fun ns => .list ((isort ns).map .int)
  | .tuple ds => (ints? ds).map fun ns => .list ((isort ns).map .int)
  | _ => none
section
variable {X : Cx} {C : Cf} {W : WX} {m : Md} {k : Nat} {a : Expr} {ta : TE} {fa : PX} {pos p : Pos}
theorem rhf_sortP {K : PySem.W.Frag} : RHF K m (fun vs H Q => rSortedI K vs H Q ∨ rSortedU K vs H Q) gSortP := by
  intro d z hz O Ox x H mu px Q q
  unfold gSortP at hz
  split at hz
  · rename_i ds
    exact .inl (rhf_sortI (.list ds) z hz O Ox x H mu px Q q)
  · rename_i ds
    cases h1 : ints? ds with
    | none => rw [h1] at hz; cases hz
    | some ns =>
      rw [h1] at hz; cases hz
      obtain ⟨p, xs, rfl, h2, h3⟩ := rp_tup px
      have e := ints_v h1 h3
      subst e
      refine .inr ⟨p, ns, rfl, hm_sqT h2, fun ns' l hp hs hl => ?_⟩
      rw [isort_unique hp hs]
      exact q l _ H (.refl _ _) hl ⟨_, rfl, rpl_ints _⟩
  · cases hz
theorem pf_sortP (o : On X C k) (hg : Gl X "sorted") (hm : X.mg "sorted" = none) (ha : PH X C W m a ta fa) (hs : starEach [a] X.env = (false, eval a X.env) :: starEach [] X.env := by rfl) : PF X C W m (.Call (.Name "sorted" p) [a] [] pos) (tCB (fun vs H Q => rSortedI C.K vs H Q ∨ rSortedU C.K vs H Q) (tCons ta tNil)) (b1 fa gSortP) := pf_b1 (hs := hs) (by rw [← o.K]; exact cr_sortedI.or cr_sortedU) rhf_sortP boot_sorted' hg hm ha
end
end Z
set_option Elab.async false
set_option linter.all false
set_option maxRecDepth 100000
set_option maxHeartbeats 4000000
namespace Z
open PySem PySem.Spec PyProof.Rows L2
end Z
set_option Elab.async false
set_option linter.all false
set_option maxRecDepth 100000
set_option maxHeartbeats 4000000
namespace Z
open PySem PySem.Spec PyProof.Rows L2
def tIxM (K : PySem.W.Frag) (to te : TE) : TE := fun σ H Q => to σ H fun x H1 => ((∃ a, x = .str a) ∨ tyV K "list" x H1) ∧ te σ H1 fun y H2 =>
  (∃ a b i rest, x = .str a ∧ y = .str b ∧ Builtin.Str.occurrences a b 0 a.length 1 = i :: rest ∧ Q (.int (i : Nat)) H2) ∨ rIndexD K x [y] H2 Q
def firstD (d : PyData) (ds : List PyData) : Option Nat := ds.findIdx? fun z => PyData.eqv z d
def gIndex : PyData → PyData → Option PyData
  | .list ds, d => if SeqAt.shaped (.list ds) && SeqAt.shaped d then (firstD d ds).map fun j => .int (j : Nat) else none
  | .str a, .str b => (match Builtin.Str.occurrences a b 0 a.length 1 with
    | i :: _ => some (.int (i : Nat))
    | [] => none)
  | _, _ => none
theorem firstD_some {d : PyData} {ds : List PyData} {j : Nat} (h : firstD d ds = some j) : ∃ z, ds[j]? = some z ∧ PyData.eqv z d = true ∧ ∀ (m : Nat) (z' : PyData), m < j → ds[m]? = some z' → PyData.eqv z' d = false := by
  unfold firstD at h
  rw [List.findIdx?_eq_some_iff_getElem] at h
  obtain ⟨hj, h1, h2⟩ := h
  refine ⟨ds[j], by simp [hj], h1, fun m z' hm hz => ?_⟩
  have hml : m < ds.length := by omega
  rw [List.getElem?_eq_getElem hml] at hz
  cases hz
  simpa using h2 m hm
section
variable {X : Cx} {C : Cf} {W : WX} {m : Md} {k : Nat} {a b : Expr} {ta tb : TE} {fa fb : PX} {pos apos : Pos}
theorem pe_ixM (hu : X.A.units + 65 < cLine) (ho : PE X a ta) (he : PE X b tb) (hs : starEach [b] X.env = [(false, eval b X.env)] := by rfl) (hbase : attributeBase a "index" X.env (eval a X.env) = eval a X.env := by rfl) (hline : (apos.endLine == pos.line) = true := by rfl) :
    PE X (.Call (.Attribute a "index" apos) [b] [] pos) (tIxM X.K ta tb) := by
  refine ⟨fun pins s σ H Q I h => ?_⟩
  refine PySem.Call_method1 hbase hs hline (thn (ho.run pins s σ H _ I h) fun v s1 ⟨x, H1, I1, r1, q1⟩ => ?_)
  obtain ⟨ty, q1⟩ := q1
  rcases ty with ⟨a, rfl⟩ | ty
  · obtain ⟨t, rfl⟩ := _root_.id r1
    refine ⟨"str", _, PySem.F.plainAttrs_str, PySem.F.slot_str_index, PySem.F.type_str_index, typeIs_str _ _ _, (fun _ e => nomatch e), Calls.callWith_builtin rfl (Calls.evalArgs_plain (Calls.spliced_cons ?_))⟩
    refine thn (he.run pins s1 σ H1 _ I1 q1) fun u s2 ⟨y, H2, I2, r2, q2⟩ => Calls.spliced_nil ?_
    rcases q2 with ⟨a', b, i, rest, e1, e2, e3, q2⟩ | ⟨p, _, _, _, _, _, e, _⟩
    · exact mt_sindex pins s2 σ H2 _ [y] _ [u] Q I2 r1 (.cons r2 .nil) ⟨a', b, i, rest, e1, by rw [e2], e3, q2⟩
    · cases e
  · obtain ⟨h1, h2⟩ := tyV_is I1 r1 ty
    refine ⟨"list", _, PySem.F.plainAttrs_list, PySem.F.slot_list_index, PySem.F.type_list_index, h1, h2, Calls.callWith_builtin rfl (Calls.evalArgs_plain (Calls.spliced_cons ?_))⟩
    refine thn (he.run pins s1 σ H1 _ I1 q1) fun u s2 ⟨y, H2, I2, r2, q2⟩ => Calls.spliced_nil ?_
    rcases q2 with ⟨a', b, i, rest, e1, e2, e3, q2⟩ | q2
    · subst e1
      exact absurd (show "list" = "str" from ty) (by decide)
    · exact mt_indexD hu pins s2 σ H2 _ [y] _ [u] Q I2 r1 (.cons r2 .nil) q2
def isIx : PyData → Bool
  | .list _ => true
  | .str _ => true
  | _ => false
def fI (f : PX) : PX := fun Γ => match f Γ with
  | some (.ok d) => if isIx d then some (.ok d) else none
  | r => r
theorem ix_ty {K : PySem.W.Frag} {O Ox : List Addr} {H : Hp} {d : PyData} {x : V} (h : isIx d = true) (px : Hf K m O Ox H d x) : (∃ a, x = .str a) ∨ tyV K "list" x H := by
  unfold isIx at h
  split at h
  · obtain ⟨p, xs, rfl, h1, _⟩ := px
    exact .inr (.inl ⟨rfl, xs, h1⟩)
  · exact .inl ⟨_, rp_str (K := K) (H := H) (hf_rd px)⟩
  · cases h
theorem pp_index (o : On X C k) (ha : PH X C W m a ta fa) (hb : PP X C W m b tb fb) (hs : starEach [b] X.env = [(false, eval b X.env)] := by rfl) (hbase : attributeBase a "index" X.env (eval a X.env) = eval a X.env := by rfl) (hline : (apos.endLine == pos.line) = true := by rfl) :
    PP X C W m (.Call (.Attribute a "index" apos) [b] [] pos) (tIxM C.K ta tb) (b2 (fI fa) fb gIndex) := by
  refine ⟨by rw [← o.K]; exact pe_ixM (by have := o.un; omega) ha.pe hb.pe hs hbase hline, fun Γ r' hr' H0 Ox σ H E Q q => ?_⟩
  unfold b2 fI at hr'
  cases h1 : fa Γ with
  | none => rw [h1] at hr'; cases hr'
  | some ra =>
    rw [h1] at hr'
    cases ra with
    | error x => cases hr'; exact ha.ev Γ _ h1 H0 Ox σ H E _ q
    | ok d =>
      simp only at hr'
      by_cases hd : isIx d = true
      · rw [if_pos hd] at hr'
        refine ha.ev Γ _ h1 H0 Ox σ H E _ fun x H1 s1 px => ?_
        refine ⟨ix_ty hd px, ?_⟩
        have E1 := E.step s1
        simp only at hr'
        cases h2 : fb Γ with
        | none => rw [h2] at hr'; cases hr'
        | some r2 =>
          rw [h2] at hr'
          cases r2 with
          | error x =>
            cases hr'
            exact hb.ev Γ _ h2 H0 Ox σ H1 E1 _ fun H' s => q H' (s1.trans s)
          | ok e =>
            refine hb.ev Γ _ h2 H0 Ox σ H1 E1 _ fun u H2 s2 py => ?_
            simp only at hr'
            have px2 : Hf C.K m (ow C.fl Ox σ Γ) Ox H2 d x := hf_sm s2 E1.ows px
            cases h3 : gIndex d e with
            | none => rw [h3] at hr'; cases hr'
            | some z =>
              rw [h3] at hr'
              cases hr'
              unfold gIndex at h3
              split at h3
              · rename_i ds
                by_cases hc : (SeqAt.shaped (.list ds) && SeqAt.shaped e) = true
                · rw [if_pos hc] at h3
                  rw [Bool.and_eq_true] at hc
                  cases h4 : firstD e ds with
                  | none => rw [h4] at h3; cases h3
                  | some j =>
                    rw [h4] at h3; cases h3
                    obtain ⟨z, z1, z2, z3⟩ := firstD_some h4
                    have pl := rp_dp _ x (SeqAt.canLay_of_shaped hc.1) (hf_rd px2)
                    have hx : ∃ p, x = .ref p := by obtain ⟨p, xs, e, _⟩ := rp_lst (hf_rd px2); exact ⟨p, e⟩
                    obtain ⟨p, rfl⟩ := hx
                    exact .inr ⟨p, u, e, ds, j, z, rfl, rfl, pl, rp_dp e u (SeqAt.canLay_of_shaped hc.2) (hf_rd (hf_of py)), hc.1, hc.2, z1, z2, z3, q _ _ (s1.trans s2) mk_int⟩
                · rw [if_neg hc] at h3; cases h3
              · split at h3
                · rename_i i rest ho
                  cases h3
                  refine .inl ⟨_, _, i, rest, rp_str (K := C.K) (H := H2) (hf_rd px2), rp_str (K := C.K) (H := H2) (hf_rd (hf_of py)), ho, q _ _ (s1.trans s2) mk_int⟩
                · cases h3
              · cases h3
      · rw [if_neg hd] at hr'; cases hr'
theorem rv_fI {Γ : Ga} {f : PX} {d : PyData} (h : f Γ = some (.ok d)) (i : isIx d = true) : fI f Γ = some (.ok d) := by
  unfold fI
  rw [h]
  simp only [i, if_true]
theorem isI_L {ds : List PyData} : isIx (.list ds) = true := rfl
end
end Z
set_option Elab.async false
set_option linter.all false
set_option maxRecDepth 100000
set_option maxHeartbeats 4000000
namespace Z
open PySem PySem.Spec PyProof.Rows L2
end Z
set_option Elab.async false
set_option linter.all false
set_option maxRecDepth 100000
set_option maxHeartbeats 4000000
namespace Z
open PySem PySem.Spec PyProof.Rows L2
def b3 (f g h : PX) (k : PyData → PyData → PyData → Option PyData) : PX := fun Γ => match f Γ with
  | some (.ok d) => b2 g h (k d) Γ
  | r => r
section
variable {X : Cx} {C : Cf} {W : WX} {m : Md} {k : Nat} {e a b c : Expr} {te ta tb tc : TE} {f fa fb fc : PX} {pos p p' pos' apos : Pos}
theorem ev_three {R : V → V → V → Hp → Prop} {H0 H : Hp} {Ox : List Addr} {σ : L2.St} {Γ : Ga} {r : Res} {g : PyData → PyData → PyData → Option PyData} (ha : Ev C W m ta fa) (hb : Ev C W m tb fb) (hc : Ev C W m tc fc) (E : EnvR C H0 Ox σ Γ H) (hr : b3 fa fb fc g Γ = some r)
    (h : ∀ d e c z, g d e c = some z → r = .ok z → ∀ x y w H2, Stp (ow C.fl Ox σ Γ) H H2 → EnvR C H0 Ox σ Γ H2 → Rp C.K (hm m (ow C.fl Ox σ Γ) Ox H2) d x → Rp C.K (hm m (ow C.fl Ox σ Γ) Ox H2) e y → Rp C.K (hm m (ow C.fl Ox σ Γ) Ox H2) c w → R x y w H2)
    (he : ∀ x, r = .error x → ∀ H', Stp (ow C.fl Ox σ Γ) H H' → ErW C W σ x H') : ta σ H fun x H1 => tb σ H1 fun y H2 => tc σ H2 fun w H3 => R x y w H3 := by
  unfold b3 at hr
  cases h1 : fa Γ with
  | none => rw [h1] at hr; cases hr
  | some r1 =>
    rw [h1] at hr
    cases r1 with
    | error x =>
      cases hr
      exact ha Γ _ h1 H0 Ox σ H E _ (he x rfl)
    | ok d =>
      refine ha Γ _ h1 H0 Ox σ H E _ fun v H1 s1 p1 => ?_
      simp only at hr
      have E1 := E.step s1
      refine ev_two hb hc E1 hr (fun e c z hz er y w H2 s2 E2 py pw => ?_) fun x ex H' s => he x ex H' (s1.trans s)
      exact h d e c z hz er v y w H2 (s1.trans s2) E2 (p1.sm (hm_sm s2 E1.ows)) py pw
def gSum : PyData → Option PyData
  | .list ds => (ints? ds).map fun ns => .int ns.sum
  | _ => none
theorem boot_sum' : bootBuiltins "sum" = some (.builtin "sum") := by decide +kernel
theorem rh_sum {K : PySem.W.Frag} : RH K m (rSum K) gSum := by
  intro d z hz O Ox x H mu px Q q
  unfold gSum at hz
  split at hz
  · rename_i ds
    cases h1 : ints? ds with
    | none => rw [h1] at hz; cases hz
    | some ns =>
      rw [h1] at hz; cases hz
      obtain ⟨p, xs, rfl, h2, h3⟩ := px
      have e := ints_v h1 h3
      subst e
      exact ⟨p, ns, rfl, h2, q _ H (.refl _ _) mk_int⟩
  · cases hz
theorem pp_sum (o : On X C k) (cm : X.calm = true) (hg : Gl X "sum") (hm : X.mg "sum" = none) (ha : PH X C W m a ta fa) (hs : starEach [a] X.env = (false, eval a X.env) :: starEach [] X.env := by rfl) : PP X C W m (.Call (.Name "sum" p) [a] [] pos) (tCB (rSum C.K) (tCons ta tNil)) (b1 fa gSum) := pp_b1 (hs := hs) (by rw [← o.K]; exact cr_sum cm) rh_sum boot_sum' hg hm ha
abbrev rRng2 : List V → Hp → VK → Prop := fun xs H Q => ∃ i j, xs = [.int i, .int j] ∧ ∀ p, H p = none → Q (.ref p) (upd H p (.rng i j))
theorem cr_range2 : CallR X (.type "range") rRng2 := by
  intro pins s σ H vs us Q I r h
  obtain ⟨i, j, rfl, q⟩ := h
  cases r with
  | cons r1 r =>
    cases r with
    | cons r2 r =>
      cases r
      obtain ⟨t, rfl⟩ := r1
      obtain ⟨t2, rfl⟩ := r2
      refine call_range_2 ⟨.ref s.heap.objs.size, upd H s.heap.objs.size (.rng i j), I.laid (t' := s.toks + 1) (fun b o e => Heap.get?_push_of_some _ e) (Nat.le_refl _) ?_, rfl, q _ (I.hok.fresh (Nat.le_refl _))⟩
      exact ⟨t, t2, s.toks, Heap.get?_push_size _ rfl⟩
def gNinRg2 : PyData → PyData → PyData → Option PyData
  | .int i, .int lo, .int hi => some (.bool (!decide (lo ≤ i ∧ i < hi)))
  | _, _, _ => none
theorem pp_ninRg2 (o : On X C k) (hgr : Gl X "range") (hmr : X.mg "range" = none) (ha : PP X C W .rd a ta fa) (hb : PP X C W .rd b tb fb) (hc : PP X C W .rd c tc fc) (hs : starEach [b, c] X.env = (false, eval b X.env) :: starEach [c] X.env := by rfl) (hs2 : starEach [c] X.env = (false, eval c X.env) :: starEach [] X.env := by rfl)
    (hpl : (backTo pos' (starEach [c] X.env)).any (·.1) = false := by rfl) (hm : behindInMarks .NotIn (Expr.Call (.Name "range" p') [b, c] [] pos') = false := by rfl) :
    PP X C W m (.Compare a [.NotIn] [.Call (.Name "range" p') [b, c] [] pos'] pos) (tOp rNinRg ta (tCB rRng2 (tCons tb (tCons tc tNil)))) (b3 fa fb fc gNinRg2) := by
  refine ⟨pe_cmpR op_nin_rng ha.pe (pe_callTy cr_range2 hgr hmr boot_range (pa_cons hb.pe (pa_cons hc.pe pa_nil hs2) hs) (by decide) (by decide) hs hpl) hm, fun Γ r' hr' H0 Ox σ H E Q q => ?_⟩
  show ta σ H fun x H1 => tb σ H1 fun y H2 => tc σ H2 fun w H3 => ∃ i j, [y, w] = [V.int i, V.int j] ∧ ∀ p, H3 p = none → rNinRg x (.ref p) (upd H3 p (.rng i j)) Q
  refine ev_three ha.ev hb.ev hc.ev E hr' (fun d e c z hz er x y w H2 s E2 px py pw => ?_) fun x ex => by subst ex; exact q
  subst er
  unfold gNinRg2 at hz
  split at hz
  · rename_i i lo hi
    cases hz
    rw [rp_int px, rp_int py, rp_int pw]
    exact ⟨lo, hi, rfl, fun l hl => ⟨i, l, lo, hi, rfl, rfl, upd_same, q _ _ (s.trans (.new E2.mut hl)) mk_bool⟩⟩
  · cases hz
theorem pt_ninRg2 (o : On X C k) (hgr : Gl X "range") (hmr : X.mg "range" = none) (ha : PP X C W .rd a ta fa) (hb : PP X C W .rd b tb fb) (hc : PP X C W .rd c tc fc) (hs : starEach [b, c] X.env = (false, eval b X.env) :: starEach [c] X.env := by rfl) (hs2 : starEach [c] X.env = (false, eval c X.env) :: starEach [] X.env := by rfl)
    (hpl : (backTo pos' (starEach [c] X.env)).any (·.1) = false := by rfl) (hm : behindInMarks .NotIn (Expr.Call (.Name "range" p') [b, c] [] pos') = false := by rfl) :
    PTt X C W (.Compare a [.NotIn] [.Call (.Name "range" p') [b, c] [] pos'] pos) (tTest (tOp rNinRg ta (tCB rRng2 (tCons tb (tCons tc tNil))))) (toT (b3 fa fb fc gNinRg2)) := ptt_of (pp_ninRg2 o hgr hmr ha hb hc hs hs2 hpl hm) (pt_cmpR op_nin_rng ha.pe (pe_callTy cr_range2 hgr hmr boot_range (pa_cons hb.pe (pa_cons hc.pe pa_nil hs2) hs) (by decide) (by decide) hs hpl) hm)
abbrev rgCok (i j c : Int) : Prop := c ≠ 0 ∧ c.natAbs < 1073741824 ∧ Builtin.Range.small i j c = true ∧ 0 ≤ Builtin.Range.rangeSize i j c
def rgC (i c : Int) (n : Nat) : List PyData := (List.range n).map fun t => .int (i + (t : Nat) * c)
def gRg3 : PyData → PyData → PyData → Option PyData
  | .int i, .int j, .int c => if rgCok i j c then some (.list (rgC i c (Builtin.Range.rangeSize i j c).toNat)) else none
  | _, _, _ => none
def toI (f : PX) : PIx := fun Γ => match f Γ with
  | some (.ok (.list ds)) => some (.ok ds)
  | some (.error e) => some (.error e)
  | _ => none
theorem toI_some {Γ : Ga} {r : Except Er (List PyData)} (h : toI f Γ = some r) : ∃ r', f Γ = some r' ∧ (match r' with | .ok d => ∃ ds, d = .list ds ∧ r = .ok ds | .error e => r = .error e) := by
  unfold toI at h
  split at h
  · rename_i ds h1; cases h; exact ⟨_, h1, ds, rfl, rfl⟩
  · rename_i e h1; cases h; exact ⟨_, h1, rfl⟩
  · cases h
theorem wlk_rgC {K : PySem.W.Frag} {Hm : Hp} {i c : Int} {n : Nat} : Wlk K Hm (Itc i c n) (rgC i c n) := by
  have hl : (rgC i c n).length = n := by unfold rgC; rw [List.length_map, List.length_range]
  refine ⟨_, _, by rw [hl]; exact walk_rangeC (lo := i) (c := c), fun _ _ => trivial, fun t d H x H' hd y O s mu => ?_⟩
  obtain ⟨rfl, rfl⟩ := y
  have ht : t < n := by have := (List.getElem?_eq_some_iff.mp hd).1; rwa [hl] at this
  unfold rgC at hd
  rw [List.getElem?_map, List.getElem?_range ht] at hd
  cases hd
  exact ⟨.refl _ _, mk_int⟩
theorem pi_r3 {tg : Expr} (o : On X C k) (hg : Gl X "range") (hm : X.mg "range" = none) (ha : PP X C W .rd a ta fa) (hb : PP X C W .rd b tb fb) (hc : PP X C W .rd c tc fc) (hs : starEach [a, b, c] X.env = (false, eval a X.env) :: starEach [b, c] X.env := by rfl) (hs2 : starEach [b, c] X.env = (false, eval b X.env) :: starEach [c] X.env := by rfl) (hs3 : starEach [c] X.env = (false, eval c X.env) :: starEach [] X.env := by rfl)
    (hpl : (backTo pos (starEach [b, c] X.env)).any (·.1) = false := by rfl) : PIt X C W tg (.Call (.Name "range" p) [a, b, c] [] pos) (iRng3 (tCons ta (tCons tb (tCons tc tNil)))) (toI (b3 fa fb fc gRg3)) := ⟨pi_range3 hg hm (pa_cons ha.pe (pa_cons hb.pe (pa_cons hc.pe pa_nil hs3) hs2) hs) hs hpl, fun Γ r hr H0 Ox σ H E R q => by
  show ta σ H fun x H1 => tb σ H1 fun y H2 => tc σ H2 fun w H3 => ∃ (i j c : Int) (n : Nat), [x, y, w] = [V.int i, V.int j, V.int c] ∧ RgC i j c n ∧ R (Itc i c n) H3
  obtain ⟨r', h1, h2⟩ := toI_some hr
  refine ev_three ha.ev hb.ev hc.ev E h1 (fun d e c z hz er x y w H2 s E2 px py pw => ?_) fun x ex => ?_
  · subst er
    obtain ⟨ds, rfl, rfl⟩ := h2
    unfold gRg3 at hz
    split at hz
    · rename_i i j c
      by_cases hk : rgCok i j c
      · rw [if_pos hk] at hz; cases hz
        exact ⟨i, j, c, _, by rw [rp_int px, rp_int py, rp_int pw], ⟨hk.1, hk.2.1, hk.2.2.1, by rw [Int.toNat_of_nonneg hk.2.2.2]⟩, q _ H2 s wlk_rgC⟩
      · rw [if_neg hk] at hz; cases hz
    · cases hz
  · subst ex
    have h2 : r = .error x := h2
    subst h2
    exact q⟩
def gRevL : PyData → Option PyData
  | .list ds => some (.list ds.reverse)
  | _ => none
theorem rpl_rev {K : PySem.W.Frag} {H : Hp} : ∀ {ds : List PyData} {vs : List V}, RpL K H ds vs → RpL K H ds.reverse vs.reverse
  | [], _, h => by simp only [RpL] at h; subst h; exact rpl_nil
  | d :: ds, _, h => by
    simp only [RpL] at h
    obtain ⟨v, r, rfl, h2, h3⟩ := h
    rw [List.reverse_cons, List.reverse_cons]
    exact rpl_app (rpl_rev h3) (rpl_cons h2 rpl_nil)
theorem pf_revL {kk : Nat} {p1 p2 p3 : Pos} (o : On X C k) (ha : PH X C W m a ta fa) : PF X C W m (.Subscript a (.Slice none none (some (.UnaryOp .USub (.Constant (.int 1) kk p1) p2)) p3) pos) (tRevL C.K ta) (b1 fa gRevL) := by
  refine ⟨by rw [← o.K]; exact pe_revL ha.pe, fun Γ r' hr' H0 Ox σ H E Q q => ?_⟩
  show ta σ H fun x H1 => ∃ a xs, x = .ref a ∧ SqL C.K H1 a xs ∧ ∀ p, H1 p = none → Q (.ref p) (upd H1 p (.lst xs.reverse))
  refine evH_one ha.ev E hr' (fun d z hz er x H2 s E2 px => ?_) fun x ex => by subst ex; exact q
  subst er
  unfold gRevL at hz
  split at hz
  · cases hz
    obtain ⟨p, xs, rfl, h1, h2⟩ := px
    exact ⟨p, xs, rfl, h1, fun l hl => q l _ H2 s hl ⟨_, rfl, rpl_rev h2⟩⟩
  · cases hz
def augM (i : Nat) (f : PX) : SX := fun Γ => match Γ[i]? with
  | some (some (.int x)) => (match f Γ with
    | some (.ok (.int y)) => if okMul x y then some (.nx (Γ.set i (some (.int (x * y))))) else none
    | some (.error e) => some (.ex e Γ)
    | _ => none)
  | _ => none
theorem st_augM (o : On X C k) (i : Nat) {x : Str} (h : PP X C W .rd e te f) (hfl : C.plain i = true := by rfl) (hi : X.N[i]? = some x := by rfl) (hx : Loc X.env.scope x := by first | exact Or.inl rfl | exact Or.inr rfl) (hf : X.fn x = true ∨ X.env.scope.names.lookup x = some .local := by first | exact .inl rfl | exact .inr rfl | assumption) :
    PSt X C W (.AugAssign (.Name x pos') .Mult e pos) (tAug i te (rI CMul fun i j => .int (i * j))) (augM i f) := ⟨ps_aug o.nd hi hx h.pe iop_mul hf, fun Γ r hr H0 Ox σ H E D q => by
  unfold augM at hr
  split at hr
  · rename_i z h0
    obtain ⟨v, e1, e2⟩ := E.val i _ h0 (pl1 hfl)
    refine ⟨v, e1, ?_⟩
    split at hr
    · rename_i y h1
      by_cases hc : okMul z y
      · rw [if_pos hc] at hr
        cases hr
        refine h.ev Γ _ h1 H0 Ox σ H E _ fun w H' s p => ⟨z, y, rp_int e2, rp_int p, hc, ?_⟩
        exact q _ H' ((E.step s).set (pl1 hfl) (pl2 hfl) mk_int)
      · rw [if_neg hc] at hr; cases hr
    · rename_i x h1
      cases hr
      exact h.ev Γ _ h1 H0 Ox σ H E _ fun H' s => q σ H' (E.step s)
    · cases hr
  · cases hr⟩
end
end Z
set_option Elab.async false
set_option linter.all false
set_option maxRecDepth 100000
set_option maxHeartbeats 4000000
namespace Z
open PySem PySem.Spec PyProof.Rows L2 GenW
theorem lc_it1 {J : It} {n : Nat} {G : Hp → Prop} {Y : Nat → Hp → V → Hp → Prop} (w : Walk J n G Y) {g : TG} {tt : TT} {te : TE} {vs : List Nat} {σ : L2.St} {H1 : Hp} {D : Addr} {Qd : Hp → Prop} (Pv : Nat → Hp → Prop) (h0 : Pv 0 H1) (hG : ∀ i H, i ≤ n → Pv i H → G H)
    (hs : ∀ i x H H', i < n → Pv i H → Y i H x H' → g x (wipe σ vs) H' fun σ2 H2 => wipe σ2 vs = wipe σ vs ∧ tt σ2 H2 fun b H3 =>
      if b = true then te σ2 H3 fun y H4 => ∃ acc, H4 D = some (.lst acc) ∧ acc.length < sizeLine ∧ Pv (i + 1) (upd H4 D (.lst (acc ++ [y]))) else Pv (i + 1) H3) (hd : ∀ H, Pv n H → Qd H) :
    ∃ W : Nat → Nat → Hp → Prop, (∃ m, W 0 m H1) ∧ ∀ i m H, W i m H →
      (J.stop i H ∧ Qd H) ∨ (J.go i H ∧ ∃ Nx : Hp → Prop, (∀ H', Nx H' → ∃ m', m' < m ∧ W (i + 1) m' H') ∧ ∀ x H', J.yld i H x H' → g x (wipe σ vs) H' fun σ2 H2 => wipe σ2 vs = wipe σ vs ∧ tt σ2 H2 fun b H3 =>
        if b = true then te σ2 H3 fun y H4 => ∃ acc, H4 D = some (.lst acc) ∧ acc.length < sizeLine ∧ Nx (upd H4 D (.lst (acc ++ [y]))) else Nx H3) := by
  refine ⟨fun i m H => m = n - i ∧ i ≤ n ∧ Pv i H, ⟨n, by simp, Nat.zero_le _, h0⟩, ?_⟩
  rintro i m H ⟨rfl, hi, p⟩
  have q := hG i H hi p
  by_cases hlt : i < n
  · refine .inr ⟨w.goes i H hlt q, Pv (i + 1), fun H' p' => ⟨n - (i + 1), by omega, rfl, hlt, p'⟩, fun x H' y => hs i x H H' hlt p (w.yields i H x H' hlt q y)⟩
  · have e : i = n := by omega
    subst e
    exact .inl ⟨w.stops H q, hd H p⟩
theorem lc_itO {J : It} {n : Nat} {G : Hp → Prop} {Y : Nat → Hp → V → Hp → Prop} (w : Walk J n G Y) {T : (Hp → Prop) → V → Hp → Prop} {H1 : Hp} {Qd : Hp → Prop} (Pv : Nat → Hp → Prop) (h0 : Pv 0 H1) (hG : ∀ i H, i ≤ n → Pv i H → G H)
    (hs : ∀ i x H H', i < n → Pv i H → Y i H x H' → T (Pv (i + 1)) x H') (hd : ∀ H, Pv n H → Qd H) :
    ∃ W : Nat → Nat → Hp → Prop, (∃ m, W 0 m H1) ∧ ∀ i m H, W i m H →
      (J.stop i H ∧ Qd H) ∨ (J.go i H ∧ ∃ Nx : Hp → Prop, (∀ H', Nx H' → ∃ m', m' < m ∧ W (i + 1) m' H') ∧ ∀ x H', J.yld i H x H' → T Nx x H') := by
  refine ⟨fun i m H => m = n - i ∧ i ≤ n ∧ Pv i H, ⟨n, by simp, Nat.zero_le _, h0⟩, ?_⟩
  rintro i m H ⟨rfl, hi, p⟩
  have q := hG i H hi p
  by_cases hlt : i < n
  · refine .inr ⟨w.goes i H hlt q, Pv (i + 1), fun H' p' => ⟨n - (i + 1), by omega, rfl, hlt, p'⟩, fun x H' y => hs i x H H' hlt p (w.yields i H x H' hlt q y)⟩
  · have e : i = n := by omega
    subst e
    exact .inl ⟨w.stops H q, hd H p⟩
def lc2I (vs : List Nat) (b : BX) (ft : PTx) (fi1 : PIx) (vs1 : List Nat) (b1 : BX) (ft1 : PTx) (f : PX) (Γ : Ga) (d : PyData) : Option (List PyData) := match b d (wipeG Γ vs) with
  | none => none
  | some Γ1 => match ft Γ1 with
    | some (.ok true) => (match fi1 Γ1 with
      | some (.ok ds1) => lcL (lcI vs1 b1 ft1 f Γ1) ds1
      | _ => none)
    | some (.ok false) => some []
    | _ => none
def lc2L (item : PyData → Option (List PyData)) : List PyData → Option (List PyData)
  | [] => some []
  | d :: ds => match item d with
    | some ys => (lc2L item ds).map (ys ++ ·)
    | none => none
def lc2X (i : PIx) (vs : List Nat) (b : BX) (ft : PTx) (fi1 : PIx) (vs1 : List Nat) (b1 : BX) (ft1 : PTx) (f : PX) : PX := fun Γ => match i Γ with
  | some (.ok ds) => (match lc2L (lc2I vs b ft fi1 vs1 b1 ft1 f Γ) ds with
    | some ys => if ys.length ≤ big then some (.ok (.list ys)) else none
    | none => none)
  | some (.error e) => some (.error e)
  | none => none
theorem lc2L_snoc {item : PyData → Option (List PyData)} {d : PyData} {o : List PyData} (h : item d = some o) : ∀ {xs acc : List PyData}, lc2L item xs = some acc → lc2L item (xs ++ [d]) = some (acc ++ o)
  | [], acc, e => by
    cases e
    rw [List.nil_append, lc2L, h]
    simp [lc2L]
  | x :: xs, acc, e => by
    rw [lc2L] at e
    rw [List.cons_append, lc2L]
    cases h1 : item x with
    | none => rw [h1] at e; cases e
    | some o1 =>
      rw [h1] at e
      simp only at e ⊢
      cases h2 : lc2L item xs with
      | none => rw [h2] at e; cases e
      | some a2 =>
        rw [h2] at e
        cases e
        rw [lc2L_snoc h h2]
        simp
theorem lc2L_item {item : PyData → Option (List PyData)} : ∀ {xs acc : List PyData}, lc2L item xs = some acc → ∀ (i : Nat) (d : PyData), xs[i]? = some d → ∃ o pre, item d = some o ∧ lc2L item (xs.take i) = some pre ∧ pre.length + o.length ≤ acc.length
  | [], _, _, i, d, hd => by simp at hd
  | x :: xs, acc, e, i, d, hd => by
    rw [lc2L] at e
    cases h1 : item x with
    | none => rw [h1] at e; cases e
    | some o1 =>
      rw [h1] at e
      simp only at e
      cases h2 : lc2L item xs with
      | none => rw [h2] at e; cases e
      | some a2 =>
        rw [h2] at e
        cases e
        cases i with
        | zero =>
          have : x = d := by simpa using hd
          subst this
          exact ⟨o1, [], h1, rfl, by simp⟩
        | succ i =>
          obtain ⟨o, pre, k1, k2, k3⟩ := lc2L_item h2 i d (by simpa using hd)
          refine ⟨o, o1 ++ pre, k1, ?_, by simp; omega⟩
          rw [List.take_succ_cons, lc2L, h1]
          simp only [k2, Option.map_some]
theorem lcL_pre {item : PyData → Option (Option PyData)} : ∀ {xs acc : List PyData}, lcL item xs = some acc → ∀ i : Nat, ∃ pre, lcL item (xs.take i) = some pre ∧ pre.length ≤ acc.length
  | [], _, e, i => by cases e; exact ⟨[], by rw [List.take_nil]; rfl, Nat.le_refl _⟩
  | x :: xs, acc, e, i => by
    cases i with
    | zero => exact ⟨[], rfl, Nat.zero_le _⟩
    | succ i =>
      rw [lcL] at e
      rw [List.take_succ_cons, lcL]
      cases h1 : item x with
      | none => rw [h1] at e; cases e
      | some o1 =>
        rw [h1] at e
        cases o1 with
        | none => exact lcL_pre e i
        | some y =>
          simp only at e ⊢
          cases h2 : lcL item xs with
          | none => rw [h2] at e; cases e
          | some a2 =>
            rw [h2] at e
            cases e
            obtain ⟨pre, k1, k2⟩ := lcL_pre h2 i
            exact ⟨y :: pre, by rw [k1]; rfl, by simpa using k2⟩
section
variable {X : Cx} {C : Cf} {W : WX} {m : Md} {k : Nat} {elt tg iter tg1 iter1 : Expr} {ifs ifs1 : List Expr} {scope : Scope} {own : List (Str × Nat)} {vs1 : List Nat} {pos : Pos} {wi wi1 : TI} {fi fi1 : PIx} {g g1 : TG} {b b1 : BX} {tt tt1 : TT} {ft ft1 : PTx} {te : TE} {f : PX}
theorem ev_lc2 (hi : EvI C W wi fi) (hg : EvG C g b) (hw : WpG (own.map (·.2)) g) (ht : EvT C WF tt ft) (hi1 : EvI C WF wi1 fi1) (hg1 : EvG C g1 b1) (hw1 : WpG vs1 g1) (ht1 : EvT C WF tt1 ft1) (he : Ev C WF .st te f) (hfl : ∀ i ∈ own.map (·.2), C.plain i = true) (hv : ∀ i ∈ vs1, i ∈ own.map (·.2)) :
    EvF C W m (tLc2 wi g tt wi1 g1 tt1 te (own.map (·.2)) vs1) (lc2X fi (own.map (·.2)) b ft fi1 vs1 b1 ft1 f) := fun Γ r hr H0 Ox σ H E Q q => by
  unfold lc2X at hr
  cases h1 : fi Γ with
  | none => rw [h1] at hr; cases hr
  | some r1 =>
    rw [h1] at hr
    cases r1 with
    | error x =>
      cases hr
      exact hi Γ _ h1 H0 Ox σ H E _ q
    | ok ds =>
      simp only at hr
      cases h2 : lc2L (lc2I (own.map (·.2)) b ft fi1 vs1 b1 ft1 f Γ) ds with
      | none => rw [h2] at hr; cases hr
      | some ys =>
        rw [h2] at hr
        simp only at hr
        by_cases hz : ys.length ≤ big
        · rw [if_pos hz] at hr
          cases hr
          refine hi Γ _ h1 H0 Ox σ H E _ fun J Ha s1 w D hD => ?_
          have E1 := E.step s1
          obtain ⟨G, Y, wk, hG, hY⟩ := w
          obtain ⟨E2, oe⟩ := E1.rebase.wipe hfl
          have E3 := E2.addOx (xs := []) hD
          have hD0 : mask (ow C.fl C.oba σ Γ) Ha D = none := by
            unfold mask
            split
            · rfl
            · exact hD
          have gr : ∀ {Γ' : Ga} {σ' : L2.St} {H' : Hp}, EnvR C (mask (ow C.fl C.oba σ Γ) Ha) (D :: Ox) σ' Γ' H' → Sm (mask (ow C.fl Ox σ Γ) Ha) (mask (ow C.fl (D :: Ox) σ' Γ') H') := fun E' => by
            have h3 := E'.all
            have e : mask (D :: Ox) (mask (ow C.fl C.oba σ Γ) Ha) = mask (ow C.fl Ox σ Γ) Ha := by
              rw [← mask_two (Ox := Ox) (σ := σ) (Γ := Γ) (C := C) E.obs]
              funext a
              by_cases q1 : a ∈ Ox
              · rw [mask_in q1, mask_in (List.mem_cons_of_mem _ q1)]
              · rw [mask_out q1]
                by_cases q2 : a = D
                · rw [q2, mask_in List.mem_cons_self, hD0]
                · exact mask_out fun q3 => (List.mem_cons.mp q3).elim q2 q1
            rwa [e] at h3
          have inD : ∀ {σ' : L2.St} {Γ' : Ga}, D ∈ ow C.fl (D :: Ox) σ' Γ' := mem_ow.mpr (.inr List.mem_cons_self)
          refine lc_itO (T := fun Nx x H' => g x (wipe σ (own.map (·.2))) H' fun σ2 H2 => wipe σ2 (own.map (·.2)) = wipe σ (own.map (·.2)) ∧ tt σ2 H2 fun b H3 =>
            if b = true then wi1 σ2 H3 fun J1 H4 => ∃ W1 : Nat → Nat → Hp → Prop, (∃ m, W1 0 m H4) ∧ ∀ j k H, W1 j k H →
              (J1.stop j H ∧ Nx H) ∨ (J1.go j H ∧ ∃ Nx1 : Hp → Prop, (∀ H', Nx1 H' → ∃ k', k' < k ∧ W1 (j + 1) k' H') ∧ ∀ x H', J1.yld j H x H' → g1 x (wipe σ2 vs1) H' fun σ3 H5 => wipe σ3 vs1 = wipe σ2 vs1 ∧ tt1 σ3 H5 fun b H6 =>
                if b = true then te σ3 H6 fun y H7 => ∃ acc, H7 D = some (.lst acc) ∧ acc.length < sizeLine ∧ Nx1 (upd H7 D (.lst (acc ++ [y]))) else Nx1 H6)
            else Nx H3) wk (fun i H' => ∃ acc vs, lc2L (lc2I (own.map (·.2)) b ft fi1 vs1 b1 ft1 f Γ) (ds.take i) = some acc ∧ H' D = some (.lst vs) ∧ RpL C.K (mask (ow C.fl (D :: Ox) (wipe σ (own.map (·.2))) (wipeG Γ (own.map (·.2)))) H') acc vs ∧
            EnvR C (mask (ow C.fl C.oba σ Γ) Ha) (D :: Ox) (wipe σ (own.map (·.2))) (wipeG Γ (own.map (·.2))) H' ∧ Sm Ha H') ⟨[], [], rfl, upd_same, rpl_nil, E3, Sm.new hD⟩ (fun i H' _ ⟨_, _, _, _, _, E', _⟩ => hG H' ((gr E').trans (mask_le _ _))) (fun i x Hb Hc hlt ⟨acc, vs, k1, k2, k3, E', k5⟩ y => ?_) fun H' ⟨acc, vs, k1, k2, k3, E', k5⟩ => ?_
          · have hd : ds[i]? = some ds[i] := by simp [hlt]
            obtain ⟨s2, p2⟩ := hY i ds[i] Hb x Hc hd y _ (gr E') E'.mut
            have E4 := E'.step s2
            obtain ⟨o, pre, ho, hpre, hlen⟩ := lc2L_item h2 i ds[i] hd
            rw [k1] at hpre
            cases hpre
            have tk : ds.take (i + 1) = ds.take i ++ [ds[i]] := by rw [List.take_succ, hd]; rfl
            have acc' : lc2L (lc2I (own.map (·.2)) b ft fi1 vs1 b1 ft1 f Γ) (ds.take (i + 1)) = some (acc ++ o) := by rw [tk]; exact lc2L_snoc ho k1
            unfold lc2I at ho
            cases h3 : b ds[i] (wipeG Γ (own.map (·.2))) with
            | none => rw [h3] at ho; cases ho
            | some Γ1 =>
              rw [h3] at ho
              simp only at ho
              have wi2 : wipe (wipe σ (own.map (·.2))) (own.map (·.2)) = wipe σ (own.map (·.2)) := wipe_idem fun i hi => hi
              have hw' : ∀ Q, g x (wipe σ (own.map (·.2))) Hc Q → g x (wipe σ (own.map (·.2))) Hc (fun σ2 H2 => wipe σ2 (own.map (·.2)) = wipe σ (own.map (·.2)) ∧ Q σ2 H2) := fun Q h => by
                have := hw x _ Hc Q h
                simpa only [wi2] using this
              refine hw' _ (hg ds[i] _ Γ1 h3 _ _ _ Hc x E4 p2 _ fun σ2 E5 oe2 => ?_)
              have hkeep : ∀ {Hd : Hp}, Stp (ow C.fl (D :: Ox) σ2 Γ1) Hc Hd → Stp (ow C.fl (D :: Ox) (wipe σ (own.map (·.2))) (wipeG Γ (own.map (·.2)))) Hb Hd := fun s4 => s2.trans (by rw [← oe2]; exact s4)
              cases h4 : ft Γ1 with
              | none => rw [h4] at ho; cases ho
              | some rt =>
                rw [h4] at ho
                cases rt with
                | error x => cases ho
                | ok bb =>
                  refine ht Γ1 _ h4 _ _ σ2 Hc E5 _ fun H3 s3 => ?_
                  cases bb with
                  | false =>
                    cases ho
                    rw [if_neg Bool.false_ne_true]
                    have st := hkeep s3
                    refine ⟨acc, vs, by simpa using acc', by rw [st.2 D inD]; exact k2, RpL.sm st.1 _ _ k3, E'.step st, k5.trans (st.sm E'.mut)⟩
                  | true =>
                    rw [if_pos rfl]
                    simp only at ho
                    have E6 := E5.step s3
                    have st3 := hkeep s3
                    cases h5 : fi1 Γ1 with
                    | none => rw [h5] at ho; cases ho
                    | some ri =>
                      rw [h5] at ho
                      cases ri with
                      | error x => cases ho
                      | ok ds1 =>
                        simp only at ho
                        refine hi1 Γ1 _ h5 _ _ σ2 H3 E6 _ fun J1 He s5 w1 => ?_
                        have E7 := E6.step s5
                        obtain ⟨G1, Y1, wk1, hG1, hY1⟩ := w1
                        have hfl1 : ∀ i ∈ vs1, C.plain i = true := fun i hi => hfl i (hv i hi)
                        obtain ⟨E8, oe8⟩ := E7.wipe hfl1
                        have oo : ow C.fl (D :: Ox) (wipe σ2 vs1) (wipeG Γ1 vs1) = ow C.fl (D :: Ox) (wipe σ (own.map (·.2))) (wipeG Γ (own.map (·.2))) := oe8.trans oe2
                        have st5 : Stp (ow C.fl (D :: Ox) (wipe σ (own.map (·.2))) (wipeG Γ (own.map (·.2)))) Hb He := s2.trans (by rw [← oe2]; exact s3.trans s5)
                        refine lc_it1 (D := D) wk1 (fun j H' => ∃ acc1 vs', lcL (lcI vs1 b1 ft1 f Γ1) (ds1.take j) = some acc1 ∧ H' D = some (.lst vs') ∧ RpL C.K (mask (ow C.fl (D :: Ox) (wipe σ (own.map (·.2))) (wipeG Γ (own.map (·.2)))) H') (acc ++ acc1) vs' ∧
                          EnvR C (mask (ow C.fl C.oba σ Γ) Ha) (D :: Ox) (wipe σ (own.map (·.2))) (wipeG Γ (own.map (·.2))) H' ∧ EnvR C (mask (ow C.fl C.oba σ Γ) Ha) (D :: Ox) (wipe σ2 vs1) (wipeG Γ1 vs1) H' ∧ Sm Ha H' ∧ Sm (mask (ow C.fl (D :: Ox) (wipe σ2 vs1) (wipeG Γ1 vs1)) He) (mask (ow C.fl (D :: Ox) (wipe σ2 vs1) (wipeG Γ1 vs1)) H'))
                          ⟨[], vs, rfl, by rw [st5.2 D inD]; exact k2, by rw [List.append_nil]; exact RpL.sm st5.1 _ _ k3, E'.step st5, E8, k5.trans (st5.sm E'.mut), Sm.refl _⟩ (fun j H' _ ⟨_, _, _, _, _, _, E'', _, k7⟩ => hG1 H' ?_) (fun j x1 Hf Hg hlt1 ⟨acc1, vs', m1, m2, m3, m4, m5, m6, m7⟩ y1 => ?_) fun H' ⟨acc1, vs', m1, m2, m3, m4, m5, m6, m7⟩ => ?_
                        · rw [oe8] at k7
                          exact k7.trans (mask_le _ _)
                        · have hd1 : ds1[j]? = some ds1[j] := by simp [hlt1]
                          have m7' : Sm (mask (ow C.fl (D :: Ox) σ2 Γ1) He) (mask (ow C.fl (D :: Ox) (wipe σ2 vs1) (wipeG Γ1 vs1)) Hf) := by rw [← oe8]; exact m7
                          obtain ⟨s6, p6⟩ := hY1 j ds1[j] Hf x1 Hg hd1 y1 _ m7' m5.mut
                          have E9 := m5.step s6
                          obtain ⟨o1, ho1⟩ := lcL_item ho ds1[j] (List.getElem_mem hlt1)
                          have tk1 : ds1.take (j + 1) = ds1.take j ++ [ds1[j]] := by rw [List.take_succ, hd1]; rfl
                          have acc1' : lcL (lcI vs1 b1 ft1 f Γ1) (ds1.take (j + 1)) = some (acc1 ++ o1.toList) := by rw [tk1]; exact lcL_snoc ho1 m1
                          unfold lcI at ho1
                          cases n3 : b1 ds1[j] (wipeG Γ1 vs1) with
                          | none => rw [n3] at ho1; cases ho1
                          | some Γ2 =>
                            rw [n3] at ho1
                            simp only at ho1
                            have wi3 : wipe (wipe σ2 vs1) vs1 = wipe σ2 vs1 := wipe_idem fun i hi => hi
                            have hw1' : ∀ Q, g1 x1 (wipe σ2 vs1) Hg Q → g1 x1 (wipe σ2 vs1) Hg (fun σ3 H2 => wipe σ3 vs1 = wipe σ2 vs1 ∧ Q σ3 H2) := fun Q h => by
                              have := hw1 x1 _ Hg Q h
                              simpa only [wi3] using this
                            refine hw1' _ (hg1 ds1[j] _ Γ2 n3 _ _ _ Hg x1 E9 p6 _ fun σ3 E10 oe3 => ?_)
                            have hkeep1 : ∀ {Hd : Hp}, Stp (ow C.fl (D :: Ox) σ3 Γ2) Hg Hd → Stp (ow C.fl (D :: Ox) (wipe σ2 vs1) (wipeG Γ1 vs1)) Hf Hd := fun s4 => s6.trans (by rw [← oe3]; exact s4)
                            cases n4 : ft1 Γ2 with
                            | none => rw [n4] at ho1; cases ho1
                            | some rt =>
                              rw [n4] at ho1
                              cases rt with
                              | error x => cases ho1
                              | ok bb =>
                                refine ht1 Γ2 _ n4 _ _ σ3 Hg E10 _ fun H5 s7 => ?_
                                cases bb with
                                | false =>
                                  cases ho1
                                  rw [if_neg Bool.false_ne_true]
                                  have st := hkeep1 s7
                                  have st' := st
                                  rw [oo] at st'
                                  refine ⟨acc1, vs', by simpa using acc1', by rw [st'.2 D inD]; exact m2, RpL.sm st'.1 _ _ m3, m4.step st', m5.step st, m6.trans (st'.sm m4.mut), m7.trans st.1⟩
                                | true =>
                                  rw [if_pos rfl]
                                  simp only at ho1
                                  cases n5 : f Γ2 with
                                  | none => rw [n5] at ho1; cases ho1
                                  | some rf =>
                                    rw [n5] at ho1
                                    cases rf with
                                    | error x => cases ho1
                                    | ok yd =>
                                      cases ho1
                                      refine he Γ2 _ n5 _ _ σ3 H5 (E10.step s7) _ fun yv H4 s8 p8 => ?_
                                      have st := hkeep1 (s7.trans s8)
                                      have st' := st
                                      rw [oo] at st'
                                      have kD : H4 D = some (.lst vs') := by rw [st'.2 D inD]; exact m2
                                      have lv : vs'.length < sizeLine := by
                                        have l1 := rpl_len m3
                                        rw [List.length_append] at l1
                                        obtain ⟨pre, q1, q2⟩ := lcL_pre ho (j + 1)
                                        rw [acc1'] at q1
                                        cases q1
                                        have q3 : acc1.length + 1 ≤ o.length := by simpa using q2
                                        rw [← l1]
                                        exact Nat.lt_of_lt_of_le (show acc.length + acc1.length < big by omega) (by decide)
                                      have E11 := m4.step st'
                                      have E12 := m5.step st
                                      have inO : D ∈ ow C.fl (D :: Ox) (wipe σ2 vs1) (wipeG Γ1 vs1) := inD
                                      refine ⟨vs', kD, lv, acc1 ++ [yd], vs' ++ [yv], acc1', upd_same, ?_, E11.chgOx List.mem_cons_self hD0 (fun _ _ _ z => by rw [kD] at z; cases z), E12.chgOx List.mem_cons_self hD0 (fun _ _ _ z => by rw [kD] at z; cases z), sm_off' (m6.trans (st'.sm m4.mut)) hD, ?_⟩
                                      · rw [mask_upd_in inD, ← List.append_assoc]
                                        exact rpl_app (RpL.sm st'.1 _ _ m3) (rpl_cons (by rw [oe3, oo] at p8; exact p8) rpl_nil)
                                      · rw [mask_upd_in inO]
                                        exact m7.trans st.1
                        · rw [List.take_length] at m1
                          rw [ho] at m1
                          cases m1
                          exact ⟨_, vs', acc', m2, m3, m4, m6⟩
          · rw [List.take_length] at k1
            rw [h2] at k1
            cases k1
            have e : upd (mask [D] H') D (.lst vs) = H' := by
              funext a
              by_cases q1 : a = D
              · rw [q1, upd_same, k2]
              · rw [upd_ne q1]
                exact mask_out (by simpa using q1)
            have sE := sm_out (O := []) k5 hD
            have := q D (.lst vs) (mask [D] H') (s1.trans (.of_sm sE E1.mut)) (mask_in (by simp)) ⟨vs, rfl, ?_⟩
            · rwa [e] at this
            · refine RpL.sm (hm_lt (s1.trans (Stp.of_sm sE E1.mut) |>.ows E.ows)) _ _ (RpL.sm ?_ _ _ k3)
              refine .of_le fun a u ea => ?_
              obtain ⟨e1, e2⟩ := mask_some ea
              have n1 : a ∉ ow C.fl Ox σ Γ := fun z => e2 (ow_cons.mpr (.inl (by rw [oe]; exact z)))
              have n2 : a ≠ D := fun z => e2 (ow_cons.mpr (.inr z))
              rw [mask_out n1, mask_out (by simpa using n2)]
              exact e1
        · rw [if_neg hz] at hr; cases hr
theorem pf_lc2 (o : On X C k) (cm : X.calm = true) (hi : PIt X C W tg iter wi fi) (ok : BlkOk X.N X.env.scope scope own) (hw : WpG (own.map (·.2)) g) (hw1 : WpG vs1 g1) (hfl : (own.map (·.2)).all C.plain = true) (hv : (vs1.all fun i => (own.map (·.2)).contains i) = true)
    (hg : ∀ s H c cl fp, PTg (X.blk s H scope (cEnv X scope cl c) fp) C tg g b) (ht : ∀ s H c cl fp, PTf (X.blk s H scope (cEnv X scope cl c) fp) C WF ifs tt ft) (hi1 : ∀ s H c cl fp, PIt (X.blk s H scope (cEnv X scope cl c) fp) C WF tg1 iter1 wi1 fi1)
    (hg1 : ∀ s H c cl fp, PTg (X.blk s H scope (cEnv X scope cl c) fp) C tg1 g1 b1) (ht1 : ∀ s H c cl fp, PTf (X.blk s H scope (cEnv X scope cl c) fp) C WF ifs1 tt1 ft1) (he : ∀ s H c cl fp, PP (X.blk s H scope (cEnv X scope cl c) fp) C WF .st elt te f)
    (hs : ∀ x, foldedSetIterable iter X.env x = pure x := by intro _; rfl) (hs1 : ∀ env x, foldedSetIterable iter1 env x = pure x := by intro _ _; rfl) : PF X C W m (.ListComp elt [⟨tg, iter, ifs, 0⟩, ⟨tg1, iter1, ifs1, 0⟩] scope pos) (tLc2 wi g tt wi1 g1 tt1 te (own.map (·.2)) vs1) (lc2X fi (own.map (·.2)) b ft fi1 vs1 b1 ft1 f) :=
  have hv' : ∀ i ∈ vs1, i ∈ own.map (·.2) := fun i hi => by simpa using List.all_eq_true.mp hv i hi
  ⟨pe_lc2 cm o.nd hi.pe ok hv' (fun s H c cl fp => (hg s H c cl fp).pe) (fun s H c cl fp => (ht s H c cl fp).pe) (fun s H c cl fp => (hi1 s H c cl fp).pe) (fun s H c cl fp => (hg1 s H c cl fp).pe) (fun s H c cl fp => (ht1 s H c cl fp).pe) (fun s H c cl fp => (he s H c cl fp).pe) hs hs1,
    ev_lc2 hi.ev (hg X.s_0 X.H_0 0 [] []).ev hw (ht X.s_0 X.H_0 0 [] []).ev (hi1 X.s_0 X.H_0 0 [] []).ev (hg1 X.s_0 X.H_0 0 [] []).ev hw1 (ht1 X.s_0 X.H_0 0 [] []).ev (he X.s_0 X.H_0 0 [] []).ev (List.all_eq_true.mp hfl) hv'⟩
end
end Z
set_option Elab.async false
set_option linter.all false
set_option maxRecDepth 100000
set_option maxHeartbeats 4000000
namespace Z
open PySem PySem.Spec PyProof.Rows L2
end Z
set_option Elab.async false
set_option linter.all false
set_option maxRecDepth 100000
set_option maxHeartbeats 4000000
namespace Z
open PySem PySem.Spec PyProof.Rows L2
end Z
set_option Elab.async false
set_option linter.all false
set_option maxRecDepth 100000
set_option maxHeartbeats 4000000
namespace Z
open PySem PySem.Spec PyProof.Rows L2
end Z
set_option Elab.async false
set_option linter.all false
set_option maxRecDepth 100000
set_option maxHeartbeats 4000000
namespace Z
open PySem PySem.Spec PyProof.Rows L2
inductive Sc where
  | sq (k : Bool) (a : Addr)
  | tx (x : Str)
def sgV (x : Str) : List V := x.cps.toList.map fun c => V.str ⟨#[c]⟩
def Sc.v : Sc → V
  | .sq _ a => .ref a
  | .tx x => .str x
def Sc.hs (K : PySem.W.Frag) (H : Hp) : Sc → List V → Prop
  | .sq k a, xs => SqK k K H a xs
  | .tx x, xs => xs = sgV x
def Sc.st (t : Tok) (it : Addr) (h : Heap) : Sc → Nat → Prop
  | .sq k a, i => IsItK k h it a i
  | .tx x, i => h.IsStrIter it (strIterType x) x t i
def Sc.ob (t : Tok) : Sc → Obj
  | .sq k a => itO k a
  | .tx x => { cls := .type (strIterType x), data := .fields #[.str x t, .int 0 0] }
def Sc.fp (it : Addr) : Sc → List Addr
  | .sq _ a => [it, a]
  | .tx _ => [it]
def Sc.ne (it : Addr) : Sc → Prop
  | .sq _ a => a ≠ it
  | .tx _ => True
def Sc.val (t : Tok) : Sc → Value
  | .sq _ a => .ref a
  | .tx x => .str x t
def Sc.own : Sc → List Addr
  | .sq _ a => [a]
  | .tx _ => []
end Z
set_option Elab.async false
set_option linter.all false
set_option maxRecDepth 100000
set_option maxHeartbeats 4000000
namespace Z
open PySem PySem.Spec PyProof.Rows L2
abbrev Kvs := List (PyData × PyData)
end Z
set_option Elab.async false
set_option linter.all false
set_option maxRecDepth 100000
set_option maxHeartbeats 4000000
namespace Z
open PySem PySem.Spec PyProof.Rows L2
end Z
set_option Elab.async false
set_option linter.all false
set_option maxRecDepth 100000
set_option maxHeartbeats 4000000
namespace Z
open PySem PySem.Spec PyProof.Rows L2
end Z
set_option Elab.async false
set_option linter.all false
set_option maxRecDepth 100000
set_option maxHeartbeats 4000000
namespace Z
open PySem PySem.Spec PyProof.Rows L2
end Z
set_option Elab.async false
set_option linter.all false
set_option maxRecDepth 100000
set_option maxHeartbeats 4000000
namespace Z
open PySem PySem.Spec PyProof.Rows L2
end Z
set_option Elab.async false
set_option linter.all false
set_option maxRecDepth 100000
set_option maxHeartbeats 4000000
namespace Z
open PySem PySem.Spec PyProof.Rows L2
end Z
set_option Elab.async false
set_option linter.all false
set_option maxRecDepth 100000
set_option maxHeartbeats 4000000
namespace Z
open PySem PySem.Spec PyProof.Rows L2
def nf : HO → Bool
  | .lst _ => true
  | .tup _ => true
  | .dK _ => true
  | .dT _ => true
  | .ext _ => true
  | _ => false
end Z
set_option Elab.async false
set_option linter.all false
set_option maxRecDepth 100000
set_option maxHeartbeats 4000000
namespace Z
open PySem PySem.Spec PyProof.Rows L2
end Z
set_option Elab.async false
set_option linter.all false
set_option maxRecDepth 100000
set_option maxHeartbeats 4000000
namespace Z
open PySem PySem.Spec PyProof.Rows L2
end Z
set_option Elab.async false
set_option linter.all false
set_option maxRecDepth 100000
set_option maxHeartbeats 4000000
namespace Z
open PySem PySem.Spec PyProof.Rows L2
end Z
set_option Elab.async false
set_option linter.all false
set_option maxRecDepth 100000
set_option maxHeartbeats 4000000
namespace Z
open PySem PySem.Spec PyProof.Rows L2
end Z
set_option Elab.async false
set_option linter.all false
set_option maxRecDepth 100000
set_option maxHeartbeats 4000000
namespace Z
open PySem PySem.Spec PyProof.Rows L2 GenW
abbrev EX := Ga → Option (PyData × Ga)
abbrev EAx := Ga → Option (List PyData × Ga)
abbrev ETx := Ga → Option (Bool × Ga)
section
variable (C : Cf) (H0 : Hp) (Ox : List Addr) (σ : L2.St) (Γ Γ1 : Ga) (H H' : Hp)
structure Af : Prop where
  env : EnvR C H0 Ox σ Γ1 H'
  ow : Z.ow C.fl Ox σ Γ1 = Z.ow C.fl Ox σ Γ
  sm : Sm (mask (Z.ow C.fl Ox σ Γ) H) (mask (Z.ow C.fl Ox σ Γ) H')
  ox : ∀ a ∈ Ox, H' a = H a
end
section
variable {C : Cf} {H0 : Hp} {Ox : List Addr} {σ : L2.St} {Γ Γ1 Γ2 : Ga} {H H1 H2 : Hp}
theorem Af.refl (E : EnvR C H0 Ox σ Γ H) : Af C H0 Ox σ Γ Γ H H := ⟨E, rfl, .refl _, fun _ _ => rfl⟩
theorem Af.trans (a : Af C H0 Ox σ Γ Γ1 H H1) (b : Af C H0 Ox σ Γ1 Γ2 H1 H2) : Af C H0 Ox σ Γ Γ2 H H2 := ⟨b.env, b.ow.trans a.ow, a.sm.trans (by have := b.sm; rwa [a.ow] at this), fun x hx => (b.ox x hx).trans (a.ox x hx)⟩
theorem Af.step (a : Af C H0 Ox σ Γ Γ1 H H1) (s : Stp (Z.ow C.fl Ox σ Γ) H1 H2) : Af C H0 Ox σ Γ Γ1 H H2 := ⟨a.env.step (by rw [a.ow]; exact s), a.ow, a.sm.trans s.1, fun x hx => (s.2 x (mem_ow.mpr (.inr hx))).trans (a.ox x hx)⟩
theorem Af.ows (a : Af C H0 Ox σ Γ Γ1 H H1) : Ows (Z.ow C.fl Ox σ Γ) Ox H1 := by
  have := a.env.ows
  rwa [a.ow] at this
theorem Af.tb (a : Af C H0 Ox σ Γ Γ1 H H1) : ∀ P ∈ C.Ts, TabOk H1 P := fun P hP => by
  obtain ⟨qs, e1, t1⟩ := a.env.sm.2 P (a.env.tabs P hP)
  exact ⟨qs, (mask_some e1).1, t1⟩
end
def EvE (C : Cf) (te : TE) (f : EX) : Prop := ∀ Γ d Γ1, f Γ = some (d, Γ1) → ∀ H0 Ox σ H, EnvR C H0 Ox σ Γ H → ∀ Q : VK,
  (∀ v H', Af C H0 Ox σ Γ Γ1 H H' → Rp C.K (mask (ow C.fl Ox σ Γ) H') d v → Q v H') → te σ H Q
def EvEF (C : Cf) (te : TE) (f : EX) : Prop := ∀ Γ d Γ1, f Γ = some (d, Γ1) → ∀ H0 Ox σ H, EnvR C H0 Ox σ Γ H → ∀ Q : VK,
  (∀ l o H', Af C H0 Ox σ Γ Γ1 H H' → H' l = none → Cel C.K (mask (ow C.fl Ox σ Γ) H') d o → Q (.ref l) (upd H' l o)) → te σ H Q
def EvEA (C : Cf) (ta : TA) (f : EAx) : Prop := ∀ Γ ds Γ1, f Γ = some (ds, Γ1) → ∀ H0 Ox σ H, EnvR C H0 Ox σ Γ H → ∀ Q : List V → Hp → Prop,
  (∀ vs H', Af C H0 Ox σ Γ Γ1 H H' → RpL C.K (mask (ow C.fl Ox σ Γ) H') ds vs → Q vs H') → ta σ H Q
def EvET (C : Cf) (tt : TT) (f : ETx) : Prop := ∀ Γ b Γ1, f Γ = some (b, Γ1) → ∀ H0 Ox σ H, EnvR C H0 Ox σ Γ H → ∀ Q : Bool → Hp → Prop,
  (∀ H', Af C H0 Ox σ Γ Γ1 H H' → Q b H') → tt σ H Q
def EvEI (C : Cf) (wi : TI) (f : EAx) : Prop := ∀ Γ ds Γ1, f Γ = some (ds, Γ1) → ∀ H0 Ox σ H, EnvR C H0 Ox σ Γ H → ∀ R : It → Hp → Prop,
  (∀ J H', Af C H0 Ox σ Γ Γ1 H H' → Wlk C.K (mask (ow C.fl Ox σ Γ) H') J ds → R J H') → wi σ H R
structure XE (X : Cx) (C : Cf) (e : Expr) (te : TE) (f : EX) : Prop where
  pe : PE X e te
  ev : EvE C te f
structure XF (X : Cx) (C : Cf) (e : Expr) (te : TE) (f : EX) : Prop where
  pe : PE X e te
  ev : EvEF C te f
structure XA (X : Cx) (C : Cf) (es : List Expr) (ta : TA) (f : EAx) : Prop where
  pe : PA X es ta
  ev : EvEA C ta f
structure XT (X : Cx) (C : Cf) (e : Expr) (tt : TT) (f : ETx) : Prop where
  pe : PT X e tt
  ev : EvET C tt f
structure XI (X : Cx) (C : Cf) (tg e : Expr) (wi : TI) (f : EAx) : Prop where
  pe : PI X tg e wi
  ev : EvEI C wi f
def eL (f : PX) : EX := fun Γ => match f Γ with
  | some (.ok d) => some (d, Γ)
  | _ => none
section
variable {X : Cx} {C : Cf} {W : WX} {k : Nat} {e a b c : Expr} {es : List Expr} {te ta tb tc : TE} {t : TA} {tt : TT} {f : PX} {ft : PTx} {fa fb fc : EX} {ga : EAx} {pos p pos' p2 apos : Pos} {r2 : R2}
theorem XF.x (h : XF X C e te fa) : XE X C e te fa := ⟨h.pe, fun Γ d Γ1 hf H0 Ox σ H E Q q => h.ev Γ d Γ1 hf H0 Ox σ H E Q fun l o H' af hl c => by
  have mu := af.ows
  refine q _ _ (af.step (.new mu.mu hl)) ?_
  have e : mask (ow C.fl Ox σ Γ) (upd H' l o) = upd (mask (ow C.fl Ox σ Γ) H') l o := mask_upd_out (not_own mu.mu hl)
  rw [e]
  exact (c.sm (Sm.new (hm_none (m := .st) mu hl))).rp upd_same⟩
def e1 (f : EX) (k : PyData → Option PyData) : EX := fun Γ => match f Γ with
  | some (d, Γ1) => (k d).map fun z => (z, Γ1)
  | none => none
def e2 (f g : EX) (k : PyData → PyData → Option PyData) : EX := fun Γ => match f Γ with
  | some (d, Γ1) => (match g Γ1 with
    | some (e, Γ2) => (k d e).map fun z => (z, Γ2)
    | none => none)
  | none => none
def eC (g : EAx) (k : List PyData → Option PyData) : EX := fun Γ => match g Γ with
  | some (ds, Γ1) => (k ds).map fun z => (z, Γ1)
  | none => none
end
end Z
set_option Elab.async false
set_option linter.all false
set_option maxRecDepth 100000
set_option maxHeartbeats 4000000
namespace Z
open PySem PySem.Spec PyProof.Rows L2 GenW
section
variable {X : Cx} {C : Cf} {W : WX} {k j n pn di : Nat} {e a b c : Expr} {es : List Expr} {te ta tb tc : TE} {t : TA} {tt : TT} {f : PX} {ft : PTx} {fa fb fc : EX} {ga : EAx} {pos p pos' p2 apos : Pos} {r2 : R2} {x : Str}
abbrev FE := List PyData → Option (PyData × PyData)
def spE (C : Cb) (n p : Nat) (F : FE) : Sp := fun vs H Q E => vs.length = n ∧ ∃ vp l vq pre o ob post d o' Ox, vs = vp ++ .ref l :: vq ∧ vp.length = p ∧ l ∉ Ox ∧ MutAll Ox H ∧ (∀ P ∈ C.Ts, TabOk H P) ∧ H l = some ob ∧ Cel C.K (mask (l :: Ox) H) o ob ∧ RpL C.K (mask (l :: Ox) H) pre vp ∧ RpL C.K (mask (l :: Ox) H) post vq ∧ F (pre ++ o :: post) = some (d, o') ∧
  ∀ v H' ob', Sm (mask [l] H) (mask [l] H') → H' l = some ob' → Cel C.K (mask (l :: Ox) H') o' ob' → Rp C.K (mask (l :: Ox) H') d v → Q v H'
structure DfE (P : Program) (w : World) (base : Heap) (C : Cb) (x : Str) (k n p : Nat) (F : FE) : Prop where
  ex : ∃ f fd ps, C.mg x = some (.ref f) ∧ PySem.W.keepIn C.K (.ref f) = true ∧ (∀ us : List Value, us.length = ps.length → bindArgs fd ⟨us, []⟩ = pure (ps.zip us)) ∧ FnOk P w C.K C.mg base (L2.CX P w) k f fd ps (spE C n p F)
  ln : ∀ ds r, F ds = some r → ds.length = n
abbrev EOx := Ga → Option (List PyData × List PyData × Ga)
def EvEO (C : Cf) (di : Nat) (ta : TA) (f : EOx) : Prop := ∀ Γ pre post Γ1, f Γ = some (pre, post, Γ1) → ∀ H0 Ox σ H, EnvR C H0 Ox σ Γ H → ∀ Q : List V → Hp → Prop,
  (∀ vp l vq H', Af C H0 Ox σ Γ Γ1 H H' → σ[di]? = some (some (.ref l)) → RpL C.K (mask (ow C.fl Ox σ Γ) H') pre vp → RpL C.K (mask (ow C.fl Ox σ Γ) H') post vq → Q (vp ++ .ref l :: vq) H') → ta σ H Q
structure XO (X : Cx) (C : Cf) (di pn : Nat) (es : List Expr) (ta : TA) (f : EOx) : Prop where
  pe : PA X es ta
  ev : EvEO C di ta f
  ln : ∀ Γ pre post Γ1, f Γ = some (pre, post, Γ1) → pre.length = pn
end
end Z
set_option Elab.async false
set_option linter.all false
set_option maxRecDepth 100000
set_option maxHeartbeats 4000000
namespace Z
open PySem PySem.Spec PyProof.Rows L2 GenW
end Z
set_option Elab.async false
set_option linter.all false
set_option maxRecDepth 100000
set_option maxHeartbeats 4000000
namespace Z
open PySem PySem.Spec PyProof.Rows L2 GenW
end Z
set_option Elab.async false
set_option linter.all false
set_option maxRecDepth 100000
set_option maxHeartbeats 4000000
namespace Z
open PySem PySem.Spec PyProof.Rows L2
def isLD : PyData → Bool
  | .list _ => true
  | .dict _ => true
  | _ => false
def spN (C : Cb) (n : Nat) (F : FX) : Sp := fun vs H Q E => vs.length = n ∧ ∃ ds r O, MutAll O H ∧ (∀ P ∈ C.Ts, TabOk H P) ∧ RpL C.K (mask O H) ds vs ∧ F ds = some r ∧
  match r with
  | .ok d => if isLD d then ∀ l o H', Sm H H' → H' l = none → Cel C.K (mask O H') d o → Q (.ref l) (upd H' l o) else ∀ v H', Sm H H' → Rp C.K (mask O H') d v → Q v H'
  | .error (.own c) => ∀ H', Sm H H' → E (cv C.mg c) none H'
  | .error (.fld c f d) => ∀ H' dd v, Sm H H' → H' dd = none → Rp C.K H' d v → E (cv C.mg c) (some dd) (upd H' dd (.xd [(f, v)]))
structure DfN (P : Program) (w : World) (base : Heap) (C : Cb) (x : Str) (k n : Nat) (F : FX) : Prop where
  ex : ∃ f fd ps, C.mg x = some (.ref f) ∧ PySem.W.keepIn C.K (.ref f) = true ∧ (∀ us : List Value, us.length = ps.length → bindArgs fd ⟨us, []⟩ = pure (ps.zip us)) ∧ FnOk P w C.K C.mg base (L2.CX P w) k f fd ps (spN C n F)
  ln : ∀ ds r, F ds = some r → ds.length = n
end Z
set_option Elab.async false
set_option linter.all false
set_option maxRecDepth 100000
set_option maxHeartbeats 4000000
namespace Z
open PySem PySem.Spec PyProof.Rows L2 GenW
section
variable {X : Cx} {C : Cf} {W : WX} {k i : Nat} {a b e : Expr} {rest : List Expr} {t u : TT} {ft fu : ETx} {te ta tb : TE} {fa fe : EX} {pos : Pos}
structure XW (X : Cx) (C : Cf) (e : Expr) (tt : TT) (f : ETx) : Prop where
  pe : PW X e tt
  ev : EvET C tt f
theorem XW.tt (h : XW X C e t ft) : XT X C e t ft := ⟨h.pe.pt, h.ev⟩
end
end Z
set_option Elab.async false
set_option linter.all false
set_option maxRecDepth 100000
set_option maxHeartbeats 4000000
namespace Z
open PySem PySem.Spec PyProof.Rows L2
structure FnK (P : Program) (w : World) (K : PySem.W.Frag) (mg : Str → Option Value) (base : Heap) (CC : CXT) (k : Nat) (f : Addr) (fd : FuncData) (ps : List Str) (sp : Addr × Obj → Sp) : Prop where
  len : ∀ p vs H Q E, sp p vs H Q E → vs.length = ps.length
  run : ∀ (A : Around) (outer : List Env) (s : Shared) (H : Hp) (args : Args) (us : List Value) (vs : List V) (Q : VK) (E : XK) (p : Addr × Obj), L2H.RoomH k A → L2H.PinOk outer H s p → Env0 P w K mg base A outer s H → BindsTo s fd args (ps.zip us) →
    Vals vs us → sp p vs H Q E → codeAny (model P w) A (.call (.ref f) args) (CR CC outer P w H s Q E) s
def spK (C : Cb) (F : Str → Option PyData) (p : Addr × Obj) : Sp := fun vs H Q _ => vs.length = 1 ∧ vs = [.ref p.1] ∧ ∃ c d O, Zc (cv C.mg c) none p.2 ∧ (∃ us, p.2.data = .fields us) ∧ MutAll O H ∧ (∀ P ∈ C.Ts, TabOk H P) ∧ F c = some d ∧ ∀ v H', Sm H H' → Rp C.K (mask O H') d v → Q v H'
structure DfK (P : Program) (w : World) (base : Heap) (C : Cb) (x : Str) (k : Nat) (F : Str → Option PyData) : Prop where
  ex : ∃ f fd ps, C.mg x = some (.ref f) ∧ PySem.W.keepIn C.K (.ref f) = true ∧ (∀ us : List Value, us.length = ps.length → bindArgs fd ⟨us, []⟩ = pure (ps.zip us)) ∧ FnK P w C.K C.mg base (L2.CX P w) k f fd ps (spK C F)
end Z
set_option Elab.async false
set_option linter.all false
set_option maxRecDepth 100000
set_option maxHeartbeats 4000000
namespace Z
open PySem PySem.Spec PyProof.Rows L2
abbrev Hd1 := Value × Option Nat × (Addr → Value → Option Addr → TS)
def dropI (i : Option Nat) (D : Ends) : Ends := match i with
  | none => D
  | some i => { nx := fun σ' H' => D.nx (σ'.set i none) H', rt := D.rt, bk := fun σ' H' => D.bk (σ'.set i none) H', ct := fun σ' H' => D.ct (σ'.set i none) H' }
def putI (i : Option Nat) (a : Addr) (σ : L2.St) : L2.St := match i with
  | none => σ
  | some i => σ.set i (some (.ref a))
def wMix (K : PySem.W.Frag) (Wout : WX) (D : Ends) : List Hd1 → WX
  | [] => Wout
  | (c, i, ts) :: r => fun cls d σ H => ∃ b, PySem.W.exmOne K cls c = some b ∧ (b = true → ∀ a, H a = none → ts a cls d (dropI i D) (putI i a σ) H) ∧ (b = false → wMix K Wout D r cls d σ H)
inductive HdsX (X : Cx) : List ExceptHandler → List Hd1 → Prop
  | nil : HdsX X [] []
  | cons {x : Str} {n : Option Str} {i : Option Nat} {c : Value} {ts : Addr → Value → Option Addr → TS} {b₀ : Stmt} {suite : List Stmt} {np pos' : Pos} {hds : List ExceptHandler} {l : List Hd1} (hc : Names X x c) (hn : ∀ y, n = some y → ∃ j, i = some j ∧ X.N[j]? = some y ∧ X.env.kindOf y = some .local) (hn0 : n = none → i = none)
      (hsu : ∀ (a : Addr) (oe : Obj) (cls : Value) (d : Option Addr) (pn : List (Addr × Obj)), Zc cls d oe → (∃ vs, oe.data = .fields vs) → PSs (X.suite a ((a, oe) :: pn)) (b₀ :: suite) (ts a cls d)) (r : HdsX X hds l) :
      HdsX X (.ExceptHandler (some (.Name x np)) n (b₀ :: suite) pos' :: hds) ((c, i, ts) :: l)
abbrev HdX := List (Str × Bool) × Option Nat × (Er → SX)
def pickX : List HdX → Er → Option (Option (Option Nat × SX))
  | [], _ => some none
  | (l, i, s) :: r, e => match l.lookup e.cls with
    | some true => some (some (i, s e))
    | some false => pickX r e
    | none => none
def unI (i : Option Nat) (Γ : Ga) : Ga := match i with
  | none => Γ
  | some i => Γ.set i none
def suiteX (i : Option Nat) (s : SX) : SX := fun Γ => if (match i with | none => true | some j => decide (j < Γ.length)) = true then (match s (unI i Γ) with
  | some (.nx Γ2) => some (.nx (unI i Γ2))
  | some (.bk Γ2) => some (.bk (unI i Γ2))
  | some (.ct Γ2) => some (.ct (unI i Γ2))
  | some (.rt d) => some (.rt d)
  | some (.re d Γ2) => some (.re d (unI i Γ2))
  | some (.rn d Γ2) => some (.rn d (unI i Γ2))
  | _ => none) else none
abbrev holdI (C : Cf) (i : Option Nat) (a : Addr) : Cf := match i with
  | none => C
  | some i => C.hold i (.ref a)
inductive HdW (X : Cx) (C : Cf) : List ExceptHandler → List Hd1 → List HdX → Prop
  | nil : HdW X C [] [] []
  | cons {x : Str} {n : Option Str} {i : Option Nat} {ts : Addr → Value → Option Addr → TS} {fs : Er → SX} {b₀ : Stmt} {suite : List Stmt} {np pos' : Pos} {hds : List ExceptHandler} {l : List Hd1} {lb : List (Str × Bool)} {r : List HdX}
      (ex : ExF C.K C.mg x) (hg : Gl X x) (hdb : (x == ("__debug__" : Str)) = false) (hl : ∀ q ∈ lb, PySem.W.exmOne C.K (cv C.mg q.1) (cv C.mg x) = some q.2)
      (hn : ∀ y, n = some y → ∃ j, i = some j ∧ X.N[j]? = some y ∧ X.env.kindOf y = some .local) (hn0 : n = none → i = none) (hfl : ∀ j, i = some j → C.plain j = true)
      (hsu : ∀ (er : Er) (a : Addr) (oe : Obj) (cls : Value) (d : Option Addr) (pn : List (Addr × Obj)), Zc cls d oe → (∃ vs, oe.data = .fields vs) → ErC C.mg er cls d → PBk (X.suite a ((a, oe) :: pn)) (holdI C i a) WF (b₀ :: suite) (ts a cls d) (fs er)) (rest : HdW X C hds l r) :
      HdW X C (.ExceptHandler (some (.Name x np)) n (b₀ :: suite) pos' :: hds) ((cv C.mg x, i, tsOf C.mg ts) :: l) ((lb, i, fs) :: r)
section
variable {X : Cx} {C : Cf} {W : WX} {k : Nat} {hds : List ExceptHandler} {l : List Hd1} {r : List HdX}
theorem HdW.ok (h : HdW X C hds l r) (hmg : X.mg = C.mg) : HdsX X hds l := by
  induction h with
  | nil => exact .nil
  | @cons x n i ts fs b₀ suite np pos' hds l lb r ex hg hdb hl hn hn0 hfl hsu rest ih =>
    obtain ⟨c, h1, _⟩ := ex.ex
    have ec : cv C.mg x = .ref c := by unfold cv; rw [h1]; rfl
    refine .cons ⟨hg, hdb, .inl (by rw [hmg, ec]; exact h1)⟩ hn hn0 (fun a oe cls d pn hz hf => ?_) ih
    unfold tsOf
    by_cases h : ∃ er, ErC C.mg er cls d
    · rw [dif_pos h]
      obtain ⟨er, her⟩ := h
      exact (hsu er a oe cls d pn hz hf her).pe
    · rw [dif_neg h]
      exact pss_never
theorem HdW.many (h : HdW X C hds l r) {e : Er} {Γ : Ga} {D : Ends} {H0 : Hp} {Ox : List Addr} {rr : Oc} (hr : (match pickX r e with
    | some (some (i, su)) => suiteX i su Γ
    | some none => some (.ex e Γ)
    | none => none) = some rr) (q : OcW C W H0 Ox D rr) {cls : Value} {d : Option Addr} {σ : L2.St} {H : Hp} (her : ErC C.mg e cls d) (hcls : cls = cv C.mg e.cls) (E : EnvR C H0 Ox σ Γ H) (hW : rr = .ex e Γ → W cls d σ H) : wMix C.K W D l cls d σ H := by
  induction h with
  | nil =>
    unfold pickX at hr
    cases hr
    exact hW rfl
  | @cons x n i ts fs b₀ suite np pos' hds l lb r ex hg hdb hl hn hn0 hfl hsu rest ih =>
    unfold pickX at hr
    cases h2 : lb.lookup e.cls with
    | none => rw [h2] at hr; cases hr
    | some b =>
      rw [h2] at hr
      cases b with
      | false => exact ⟨false, by rw [hcls]; exact hl _ (lookup_mem h2), fun z => Bool.noConfusion z, fun _ => ih hr⟩
      | true =>
        refine ⟨true, by rw [hcls]; exact hl _ (lookup_mem h2), fun _ a ha => ?_, fun z => Bool.noConfusion z⟩
        have ev := (hsu e a { cls := cls, dict := d, data := .fields #[] } cls d [] ⟨rfl, rfl⟩ ⟨_, rfl⟩ her).ev
        unfold tsOf
        rw [dif_pos ⟨e, her⟩]
        simp only at hr
        unfold suiteX at hr
        cases i with
        | none =>
          simp only [if_true, unI] at hr
          cases h5 : fs e Γ with
          | none => rw [h5] at hr; cases hr
          | some oc2 =>
            rw [h5] at hr
            refine ev Γ oc2 h5 H0 Ox σ H E D ?_
            cases oc2 with
            | nx Γ4 => cases hr; exact q
            | bk Γ4 => cases hr; exact q
            | ct Γ4 => cases hr; exact q
            | rt dd => cases hr; exact q
            | ex e2 Γ4 => cases hr
            | re dd Γ4 => cases hr; exact q
            | rn dd Γ4 => cases hr; exact q
        | some j =>
          have hp := hfl j rfl
          by_cases lt : j < Γ.length
          · rw [if_pos (by simpa using lt)] at hr
            have E3 : EnvR (C.hold j (.ref a)) H0 Ox (σ.set j (some (.ref a))) (Γ.set j none) H := (E.unset (pl1 hp) (pl2 hp)).hold (List.getElem?_set_self (by rw [E.len]; exact lt))
            have fin : ∀ {σ4 : L2.St} {Γ4 : Ga} {H4 : Hp}, EnvR (C.hold j (.ref a)) H0 Ox σ4 Γ4 H4 → EnvR C H0 Ox (σ4.set j none) (Γ4.set j none) H4 := fun E4 => E4.unhold.unset (pl1 hp) (pl2 hp)
            simp only [unI] at hr
            cases h5 : fs e (Γ.set j none) with
            | none => rw [h5] at hr; cases hr
            | some oc2 =>
              rw [h5] at hr
              refine ev _ oc2 h5 H0 Ox _ H E3 _ ?_
              cases oc2 with
              | nx Γ4 => cases hr; exact fun σ4 H4 E4 => q _ _ (fin E4)
              | bk Γ4 => cases hr; exact fun σ4 H4 E4 => q _ _ (fin E4)
              | ct Γ4 => cases hr; exact fun σ4 H4 E4 => q _ _ (fin E4)
              | rt dd => cases hr; exact q
              | ex e2 Γ4 => cases hr
              | re dd Γ4 => cases hr; exact fun σ4 v H4 E4 p => q _ v H4 (fin E4) (by rw [ow_set (C := C) (pl1 hp)]; exact p)
              | rn dd Γ4 => cases hr; exact fun σ4 l o H4 E4 hl p => q _ l o H4 (fin E4) hl (by rw [ow_set (C := C) (pl1 hp)]; exact p)
          · rw [if_neg (by simpa using lt)] at hr; cases hr
end
end Z
set_option Elab.async false
set_option linter.all false
set_option maxRecDepth 100000
set_option maxHeartbeats 4000000
namespace Z
open PySem PySem.Spec PyProof.Rows L2
end Z
set_option Elab.async false
set_option linter.all false
set_option maxRecDepth 100000
set_option maxHeartbeats 4000000
namespace Z
open PySem PySem.Spec PyProof.Rows L2
end Z
set_option Elab.async false
set_option linter.all false
set_option maxRecDepth 100000
set_option maxHeartbeats 4000000
namespace Z
open PySem PySem.Spec PyProof.Rows L2
end Z
set_option Elab.async false
set_option linter.all false
set_option maxRecDepth 100000
set_option maxHeartbeats 4000000
namespace Z
open PySem PySem.Spec PyProof.Rows L2
end Z
set_option Elab.async false
set_option linter.all false
set_option maxRecDepth 100000
set_option maxHeartbeats 4000000
namespace Z
open PySem PySem.Spec PyProof.Rows L2
end Z
set_option Elab.async false
set_option linter.all false
set_option maxRecDepth 100000
set_option maxHeartbeats 4000000
namespace Z
open PySem PySem.Spec PyProof.Rows L2
end Z
set_option Elab.async false
set_option linter.all false
set_option maxRecDepth 100000
set_option maxHeartbeats 4000000
namespace Z
open PySem PySem.Spec PyProof.Rows L2
end Z
set_option Elab.async false
set_option linter.all false
set_option maxRecDepth 100000
set_option maxHeartbeats 4000000
namespace Z
open PySem PySem.Spec PyProof.Rows L2
end Z
set_option Elab.async false
set_option linter.all false
set_option maxRecDepth 100000
set_option maxHeartbeats 4000000
namespace Z
open PySem PySem.Spec PyProof.Rows L2
end Z
set_option Elab.async false
set_option linter.all false
set_option maxRecDepth 100000
set_option maxHeartbeats 4000000
namespace Z
open PySem PySem.Spec PyProof.Rows L2
end Z
set_option Elab.async false
set_option linter.all false
set_option maxRecDepth 100000
set_option maxHeartbeats 4000000
namespace Z
open PySem PySem.Spec PyProof.Rows L2
structure DfM (P : Program) (w : World) (base : Heap) (C : Cb) (x m : Str) (k n : Nat) (F : FX) : Prop where
  ex : ∀ c : Addr, PySem.W.nsIn C.K mainGlobals x = some (some (.ref c)) → Cls C.K c ∧ ∃ f fd ps, Meth C.K c m f ∧ (∀ us : List Value, us.length = ps.length → bindArgs fd ⟨us, []⟩ = pure (ps.zip us)) ∧ FnOk P w C.K C.mg base (L2.CX P w) k f fd ps (spF C n F)
  ln : ∀ ds r, F ds = some r → ds.length = n
theorem DfM.mono {P : Program} {w : World} {base : Heap} {C : Cb} {x m : Str} {j k n : Nat} {F : FX} (D : DfM P w base C x m j n F) (h : j ≤ k) : DfM P w base C x m k n F :=
  ⟨fun c hc => by
    obtain ⟨h1, f, fd, ps, h2, h3, h4⟩ := D.ex c hc
    exact ⟨h1, f, fd, ps, h2, h3, h4.mono h⟩, D.ln⟩
end Z
set_option Elab.async false
set_option linter.all false
set_option maxRecDepth 100000
set_option maxHeartbeats 4000000
namespace Z
open PySem PySem.Spec PyProof.Rows L2
def spC (C : Cb) (c : Addr) (n : Nat) (F : FX) : Sp := fun vs H Q _ => ∃ x dx vs0, vs = .ref x :: vs0 ∧ vs0.length = n ∧ H x = some (.ins c dx []) ∧ ∃ ds kvs O, x ∉ O ∧ MutAll O H ∧ (∀ P ∈ C.Ts, TabOk H P) ∧ RpL C.K (mask (x :: O) H) ds vs0 ∧ F ds = some (.ok (.dict kvs)) ∧
  ∀ fs H' dx', H' x = some (.ins c dx' fs) → Sm (mask [x] H) H' → RpI C.K (mask (x :: O) H') kvs c fs → Q .non H'
structure DfC (P : Program) (w : World) (base : Heap) (C : Cb) (x : Str) (k n : Nat) (F : FX) : Prop where
  ex : ∃ c f fd ps, C.mg x = some (.ref c) ∧ Mk C.K c f ∧ (∀ us : List Value, us.length = ps.length → bindArgs fd ⟨us, []⟩ = pure (ps.zip us)) ∧ FnOk P w C.K C.mg base (L2.CX P w) k f fd ps (spC C c n F)
  ok : ∀ ds r, F ds = some r → ds.length = n ∧ ∃ kvs, r = .ok (.dict kvs)
end Z
set_option Elab.async false
set_option linter.all false
set_option maxRecDepth 100000
set_option maxHeartbeats 4000000
namespace Z
open PySem PySem.Spec PyProof.Rows L2
noncomputable def DfC.cl {P : Program} {w : World} {base : Heap} {C : Cb} {x : Str} {k n : Nat} {F : FX} (D : DfC P w base C x k n F) : Addr := Classical.choose D.ex
end Z
set_option Elab.async false
set_option linter.all false
set_option maxRecDepth 100000
set_option maxHeartbeats 4000000
namespace Z
open PySem PySem.Spec PyProof.Rows L2
structure ObI (C : Cf) (c : Addr) (gs : List (Str × Nat)) (f : Str) (g : Nat) : Prop where
  ob : ∃ ad, C.ob = [⟨0, ad, c, gs⟩]
  mem : (f, g) ∈ gs
  inj : ∀ p ∈ gs, p.1 = f ↔ p.2 = g
  g0 : g ≠ 0
  pn : ∀ p ∈ C.pin, p.1 ≠ g
  sm : gs.length < 1000
end Z
set_option Elab.async false
set_option linter.all false
set_option maxRecDepth 100000
set_option maxHeartbeats 4000000
namespace Z
open PySem PySem.Spec PyProof.Rows L2
end Z
set_option Elab.async false
set_option linter.all false
set_option maxRecDepth 100000
set_option maxHeartbeats 4000000
namespace Z
open PySem PySem.Spec PyProof.Rows L2
end Z
set_option Elab.async false
set_option linter.all false
set_option maxRecDepth 100000
set_option maxHeartbeats 4000000
namespace Z
open PySem PySem.Spec PyProof.Rows L2
end Z
set_option Elab.async false
set_option linter.all false
set_option maxRecDepth 100000
set_option maxHeartbeats 4000000
namespace Z
open PySem PySem.Spec PyProof.Rows L2
end Z
set_option Elab.async false
set_option linter.all false
set_option maxRecDepth 100000
set_option maxHeartbeats 4000000
namespace Z
open PySem PySem.Spec PyProof.Rows L2
end Z
set_option Elab.async false
set_option linter.all false
set_option maxRecDepth 100000
set_option maxHeartbeats 4000000
namespace Z
open PySem PySem.Spec PyProof.Rows L2
end Z
set_option Elab.async false
set_option linter.all false
set_option maxRecDepth 100000
set_option maxHeartbeats 4000000
namespace Z
open PySem PySem.Spec PyProof.Rows L2
end Z
set_option Elab.async false
set_option linter.all false
set_option maxRecDepth 100000
set_option maxHeartbeats 4000000
namespace Z
open PySem PySem.Spec PyProof.Rows L2
end Z
set_option Elab.async false
set_option linter.all false
set_option maxRecDepth 100000
set_option maxHeartbeats 4000000
namespace Z
open PySem PySem.Spec PyProof.Rows L2 GenW
end Z
set_option Elab.async false
set_option linter.all false
set_option maxRecDepth 100000
set_option maxHeartbeats 4000000
namespace Z
open PySem PySem.Spec PyProof.Rows L2
end Z
set_option Elab.async false
set_option linter.all false
set_option maxRecDepth 100000
set_option maxHeartbeats 4000000
namespace Z
open PySem PySem.Spec PyProof.Rows L2 GenW
end Z
set_option Elab.async false
set_option linter.all false
set_option maxRecDepth 100000
set_option maxHeartbeats 4000000
namespace Z
open PySem PySem.Spec PyProof.Rows L2
end Z
set_option Elab.async false
set_option linter.all false
set_option maxRecDepth 100000
set_option maxHeartbeats 4000000
namespace Z
open PySem PySem.Spec PyProof.Rows L2
end Z
set_option Elab.async false
set_option linter.all false
set_option maxRecDepth 100000
set_option maxHeartbeats 4000000
namespace Z
open PySem PySem.Spec PyProof.Rows L2
end Z
set_option Elab.async false
set_option linter.all false
set_option maxRecDepth 100000
set_option maxHeartbeats 4000000
namespace Z
open PySem PySem.Spec PyProof.Rows L2
section
variable {M : Model} {A : Around} {E : Value → Shared → Prop} {s : Shared} {Zp : Obj → Prop} {G : Heap} {env : Env} {outer : List Env} {L a : Addr}
theorem look_other {fl : Value} {Q : Unit → Shared → Prop} (hZ : HandSPX.Steady Zp) (hfr : A.frames = some (env :: outer)) (hf : env.frame = some L) (kp : G.StaysIn s.heap) (na : G.get? a = none) (ff : s.heap.FunFrames G (env :: outer)) (tr : HandSPX.TracedZ s.heap G a Zp fl) (hne : (fl == rawInt L) = false)
    (hQ : ∀ h', HandSPX.HeldZ G (env :: outer) a Zp L h' → s.heap.UpToSlots h' → Q () { s with heap := h' }) : wpAny M A (noteFrame (.ref a) env) Q E s := by
  obtain ⟨ob, fs, T, ot, gs, ga, zo, do_, f1, nT, Ta, gT, dT, f3⟩ := tr
  have away : ∀ b, b ≠ T → (s.heap.update T (Obj.mapFields (·.setIfInBounds 3 Value.none))).get? b = s.heap.get? b := fun b q => Heap.get?_update_other _ _ (Ne.symm q)
  have plain : ∀ b o, s.heap.get? b = some o → (∀ ws, o.data ≠ .fields ws) → b ≠ T := fun b o q nf z => by
    subst z
    rw [gT] at q
    cases q
    exact nf gs dT
  unfold noteFrame
  simp only [hf]
  refine wpAny_bind (wpAny_field ga do_ f1 ?_)
  rw [if_pos (by simp : (Value.ref T != Value.none) = true)]
  refine wpAny_bind (wpAny_field gT dT f3 ?_)
  rw [if_neg (by rw [hne]; exact Bool.false_ne_true)]
  have l3 : 3 < gs.size := (Array.getElem?_eq_some_iff.mp f3).1
  have l1 : 1 < fs.size := (Array.getElem?_eq_some_iff.mp f1).1
  refine wpAny_bind (wpAny_setField gT dT l3 ?_)
  have ff2 : (s.heap.update T (Obj.mapFields (·.setIfInBounds 3 Value.none))).FunFrames G (env :: outer) := ff.of_keeps fun b o q nf => ⟨o, by rw [away b (plain b o q nf)]; exact q, rfl⟩
  have ga2 : (s.heap.update T (Obj.mapFields (·.setIfInBounds 3 Value.none))).get? a = some ob := by rw [away a (Ne.symm Ta)]; exact ga
  have kp2 : G.StaysIn (s.heap.update T (Obj.mapFields (·.setIfInBounds 3 Value.none))) := fun b o q => by
    rw [away b fun z => by rw [z, nT] at q; cases q]
    exact kp b o q
  refine HandSPX.wpAny_entryZ (s := { s with heap := s.heap.update T (Obj.mapFields (·.setIfInBounds 3 Value.none)) }) hZ hfr ff2 hf ga2 kp2 na do_ l1 zo fun h' nt => ?_
  obtain ⟨n1, n2, n3, n4⟩ := nt
  exact hQ h' ⟨n1, na, n2, n3⟩ fun b o q nf => n4 b o (by rw [away b (plain b o q nf)]; exact q) nf
end
theorem blk_err {X : Cx} {W Wb : WX} {σ : L2.St} {pins : List (Addr × Obj)} {s3 s' : Shared} {H3 : Hp} {scope : Scope} {ce : Env} {fp : List Addr} {u : Value}
    (hst : X.stack = X.env :: X.outer) (hfr : X.env.frame = some X.env.locals) (hcf : ce.frame = X.env.frame) (hC : ce.locals = s3.heap.objs.size) (I3 : Inv X pins σ H3 s3)
    (hfp : ∀ b ∈ fp, (b ∈ X.ex ∨ X.s_0.heap.objs.size ≤ b) ∧ b ≠ X.env.locals ∧ (∀ x c, X.env.cells.lookup x = some c → c ≠ b) ∧ ∀ p ∈ X.pn ++ pins, p.1 ≠ b)
    (tk : Takes X W) (hW : ∀ cls d τ H', Wb cls d τ H' → W cls d σ H') (x : L2.XE (X.blk s3 H3 scope ce fp) Wb u s') :
    notedBy (model X.prog X.w) X.A ce (CompFails (model X.prog X.w) X.A X.xe ce) u s' := by
  obtain ⟨a, B, sI, pb, τ, H', cls, d, rfl, I, nb, up, sky, na, os, ag, w⟩ := x
  have hAf : X.A.frames = some (X.env :: X.outer) := by rw [I3.ok.frames, hst]
  have I7 : Inv X pins σ H' sI := I3.call' (ch := fp) I.os I.base I.hok I.bare hfp
  have nC : H' s3.heap.objs.size = none := by
    have z : H' ce.locals = none := I.free
    rwa [hC] at z
  obtain ⟨c0, c1, c2, c3, c4, c5⟩ := I3.fpOk (b := s3.heap.objs.size) (Nat.le_refl _) nC
  rw [← hC] at c1 c2 c3 c4 c5
  have nC' : H' ce.locals = none := I.free
  have I8 : Inv X pins σ H' { sI with heap := PySem.W.hideAll sI.heap [ce.locals] } := I7.turned (t' := sI.toks) (fun b o q e => PySem.W.hideAll_get _ e (by simpa using q)) nC' c1 c3 c4 c5
  obtain ⟨m0, ns0, _⟩ := I.loc
  have ns0 : sI.heap.Ns ce.locals m0 := ns0
  have ns1 : s'.heap.Ns ce.locals m0 := ns0.upToSlots up
  show wpAny (model X.prog X.w) X.A (noteFrame (.ref a) ce) _ _ s'
  rw [noteFrame_env _ hcf]
  have fin : ∀ h1, HandSPX.HeldZ B (X.env :: X.outer) a (Zc cls d) X.env.locals h1 → s'.heap.UpToSlots h1 → CompFails (model X.prog X.w) X.A X.xe ce (.ref a) { s' with heap := h1 } := by
    intro h1 hh u1
    obtain ⟨b1, b0, f1, t1⟩ := hh
    have ns2 : h1.Ns ce.locals m0 := ns1.upToSlots u1
    refine ⟨m0, ns2, fun h2 m2 ns3 sb => ?_⟩
    obtain ⟨oC, esC, epC, gC, dC, _⟩ := id ns2
    obtain ⟨ob, fs, T, ot, gs, ga, zo, do_, e1, nT, Ta, gT, dT, e3⟩ := t1
    have aC : a ≠ ce.locals := fun q => by
      rw [q] at ga
      rw [ga] at gC
      cases gC
      rw [do_] at dC
      cases dC
    have TC : T ≠ ce.locals := fun q => by
      rw [q] at gT
      rw [gT] at gC
      cases gC
      rw [dT] at dC
      cases dC
    have less : ∀ b, B.get? b = none → (PySem.W.hideAll B [ce.locals]).get? b = none := fun b q => by
      cases z : (PySem.W.hideAll B [ce.locals]).get? b with
      | none => rfl
      | some o => rw [PySem.W.of_hideAll _ z] at q; cases q
    have ne : ∀ {h : Heap} {b o}, (PySem.W.hideAll h [ce.locals]).get? b = some o → b ≠ ce.locals := fun {h b o} q z => by
      rw [z, PySem.W.hideAll_none _ (List.mem_singleton_self _)] at q
      cases q
    have ga2 : h2.get? a = some ob := by rw [sb.2 a aC]; exact ga
    have gT2 : h2.get? T = some ot := by rw [sb.2 T TC]; exact gT
    have held : HandSPX.HeldZ (PySem.W.hideAll B [ce.locals]) (X.env :: X.outer) a (Zc cls d) X.env.locals h2 := by
      refine ⟨fun b o q => ?_, less a b0, funFrames_none (Heap.FunFrames.sameBut sb ns3 f1) fun Lb hm => less Lb ?_, ⟨ob, fs, T, ot, gs, ga2, zo, do_, e1, less T nT, Ta, gT2, dT, e3⟩⟩
      · rw [sb.2 b (ne q)]
        exact b1 b o (PySem.W.of_hideAll _ q)
      · exact (f1.mem hm).1
    unfold PySem.passOn
    refine wpAny_bind (wpAny_field ga2 do_ e1 ?_)
    rw [if_neg (by simp : ¬ ((Value.ref T == Value.none) = true))]
    rw [hcf, hfr]
    have last : wpAny (model X.prog X.w) X.A (setFlight (.ref a) (some X.env.locals)) (fun _ s4 => wpAny (model X.prog X.w) X.A (throw (.ref a) : Sem Value) (fun _ _ => False) X.xe s4) X.xe { s' with heap := h2 } := by
      refine HandSPX.setFlight_onZ (s := { s' with heap := h2 }) held fun h3 held3 u3 => wpAny_throw (tk _ _ ?_)
      refine ⟨a, PySem.W.hideAll B [ce.locals], { sI with heap := PySem.W.hideAll sI.heap [ce.locals] }, pins, σ, H', cls, d, rfl, I8, fun b o q hb => ?_, fun b o q nf => ?_, .inr (.inr (by rw [hst]; exact held3)), na, os, ag, hW _ _ _ _ w⟩
      · exact PySem.W.hideAll_get _ (nb b o (PySem.W.of_hideAll _ q) hb) (by simpa using ne q)
      · obtain ⟨sl1, q1⟩ := up b o (PySem.W.of_hideAll _ q) nf
        obtain ⟨sl2, q2⟩ := u1 b _ q1 nf
        have q3 : h2.get? b = some { o with slots := sl2 } := by rw [sb.2 b (ne q)]; exact q2
        obtain ⟨sl3, q4⟩ := u3 b _ q3 nf
        exact ⟨sl3, q4⟩
    first
      | exact wpAny_bind (wpAny_pure (wpAny_bind last))
      | exact wpAny_bind last
  have sky : HandSPX.Steady (Zc cls d) ∧ Sky B X.stack a (Zc cls d) ce.locals s'.heap := ⟨Zc.steady, sky⟩
  obtain ⟨hZ, sky⟩ := sky
  rw [hst] at sky
  rcases sky with ⟨hB, hn, hl, oe, vs, he, hz, hd, h1⟩ | fl | hd
  · exact HandSPX.look_newZ hZ hAf hl hfr he hB hn hd h1 hz fun h' hh k => fin h' hh k
  · exact HandSPX.looks_onZ hZ hAf hfr fl fun h' hh k => fin h' hh k
  · obtain ⟨k1, k2, k3, k4⟩ := hd
    refine look_other hZ hAf hfr k1 k2 k3 k4 ?_ fun h' hh k => fin h' hh k
    have q : (ce.locals : Int) ≠ (X.env.locals : Int) := fun z => c1 (Int.ofNat.inj z)
    simp [rawInt, q]
end Z
set_option Elab.async false
set_option linter.all false
set_option maxRecDepth 100000
set_option maxHeartbeats 4000000
namespace Z
open PySem PySem.Spec PyProof.Rows L2
end Z
set_option Elab.async false
set_option linter.all false
set_option maxRecDepth 100000
set_option maxHeartbeats 4000000
namespace Z
open PySem PySem.Spec PyProof.Rows L2
abbrev BXc (X : Cx) (Wb : WX) (t : Shared) (G : Hp) (sc : Scope) (ce : Env) (ps : List Addr) : Cx := { X.blk t G sc ce ps with xe := fun u t' => L2.XE (X.blk t G sc ce ps) Wb u t' }
section
variable {X : Cx} {Wb : WX} {t0 t1 : Shared} {G G1 : Hp} {sc : Scope} {ce : Env} {ps : List Addr} {pins : List (Addr × Obj)} {τ : L2.St} {C : Cf} {k : Nat}
theorem ok_bx (o : (X.blk t0 G sc ce ps).Ok) : (BXc X Wb t0 G sc ce ps).Ok := by
  obtain ⟨a1, a2, a3, a4, a5, a6, a7, a8, a9, b1, b2, b3, b4, b5, b6, b7, b8, b9⟩ := o
  exact ⟨a1, a2, a3, a4, a5, a6, a7, a8, a9, b1, b2, b3, b4, b5, b6, b7, b8, b9⟩
theorem ok_xb (o : (BXc X Wb t0 G sc ce ps).Ok) : (X.blk t0 G sc ce ps).Ok := by
  obtain ⟨a1, a2, a3, a4, a5, a6, a7, a8, a9, b1, b2, b3, b4, b5, b6, b7, b8, b9⟩ := o
  exact ⟨a1, a2, a3, a4, a5, a6, a7, a8, a9, b1, b2, b3, b4, b5, b6, b7, b8, b9⟩
theorem to_bx (J : Inv (X.blk t0 G sc ce ps) pins τ G1 t1) : Inv (BXc X Wb t0 G sc ce ps) pins τ G1 t1 := by
  obtain ⟨a1, a2, a3, a4, a5, a6, a7, a8, a9, b1, b2⟩ := J
  exact ⟨ok_bx a1, a2, a3, a4, a5, a6, a7, a8, a9, b1, b2⟩
theorem of_bx (J : Inv (BXc X Wb t0 G sc ce ps) pins τ G1 t1) : Inv (X.blk t0 G sc ce ps) pins τ G1 t1 := by
  obtain ⟨a1, a2, a3, a4, a5, a6, a7, a8, a9, b1, b2⟩ := J
  exact ⟨ok_xb a1, a2, a3, a4, a5, a6, a7, a8, a9, b1, b2⟩
theorem takesB : Takes (BXc X Wb t0 G sc ce ps) Wb := fun u t' ⟨a, B, sI, pins, σ, H, cls, d, e, J, r⟩ => ⟨a, B, sI, pins, σ, H, cls, d, e, of_bx J, r⟩
theorem On.bx (o : On X C k) : On (BXc X Wb t0 G sc ce ps) C k := ⟨o.K, o.mg, o.un, o.rm, o.nd⟩
end
section
variable {X : Cx} {W : WX}
theorem lcx_core {pins : List (Addr × Obj)} {s : Shared} {σ : L2.St} {H : Hp} {Q : VK} {elt tg iter : Expr} {ifs : List Expr} {scope : Scope} {own : List (Str × Nat)} {pos at_ : Pos} {wi : TI} {g : TG} {tt : TT} {te : TE} {use : Option (Value → Sem Unit)} {Qf : Value → Shared → Prop}
    (tk : Takes X W) (hst : X.stack = X.env :: X.outer) (hfr : X.env.frame = some X.env.locals) (cm : X.calm = true) (nd : X.N.Nodup) (I : Inv X pins σ H s) (hi : PI X tg iter wi) (ok : BlkOk X.N X.env.scope scope own)
    (hg : ∀ t G c cl ps, PG (X.blk t G scope (cEnv X scope cl c) ps) tg g) (ht : ∀ t G c cl ps, PTs (X.blk t G scope (cEnv X scope cl c) ps) ifs tt)
    (he : ∀ t G c cl ps, PE (BXc X (fun cls d _ H' => W cls d σ H') t G scope (cEnv X scope cl c) ps) elt te) (hs : ∀ x, foldedSetIterable iter X.env x = pure x)
    (h : tLc wi g tt te (own.map (·.2)) σ H Q)
    (last : ∀ D ce s' m H', Inv X pins σ H' s' → Q (.ref D) H' → s'.heap.Ns ce.locals m → FpOk X pins H' ce.locals → compEnds (model X.prog X.w) X.A X.xe use Qf (.ref D) ce (.ok .next) s') :
    wpAny (model X.prog X.w) X.A (comprehension (.ListComp elt [⟨tg, iter, ifs, 0⟩] scope pos) scope X.env at_ (newList []) false (eval iter X.env) use) Qf X.xe s := by
  have clo : closureFor scope X.env = pure (cloFrom X.env.cells scope.names []) := closure_ok fun y hy e => by
    rcases ok.free y hy e with k | k
    · exact I.ok.has _ (.inl k)
    · exact I.ok.has _ (.inr k)
  refine comprehension_at (use := use) rfl hs clo ok.kind (fun y hy e => by rw [ok.uniq y hy, e]) ?_
  refine thn (hi.run pins s σ H _ I h) fun v s1 hv => thn hv fun itv s2 hp => ?_
  obtain ⟨it, fp, tn, J, Hi, rfl, Ii, T, ti, fi, q⟩ := hp
  obtain ⟨D, eD⟩ : ∃ D, D = s2.heap.objs.size := ⟨_, rfl⟩
  have nD : Hi D = none := Ii.hok.fresh (by rw [eD]; exact Nat.le_refl _)
  obtain ⟨Wk, ⟨m0, w0⟩, turn⟩ := q D nD
  refine wpAny_newObj_type (newEnv_comp ?_) (Nat.zero_le _)
  generalize e3 : ({ s2 with heap := s2.heap.push { cls := .type "list", data := .seq ([] : List Value).toArray } } : Shared) = s3
  have hp3 : s3.heap = s2.heap.push { cls := .type "list", data := .seq ([] : List Value).toArray } := by rw [← e3]
  have up3 : ∀ b o, s2.heap.get? b = some o → s3.heap.get? b = some o := fun b o e => by
    rw [hp3]
    exact Heap.get?_push_of_some _ e
  have I3 : Inv X pins σ (upd Hi D (.lst [])) s3 := by
    rw [← e3]
    refine Ii.laid (t' := s2.toks) (fun b o e => Heap.get?_push_of_some _ e) (by rw [eD]; exact Nat.le_refl _) ⟨Nat.zero_le _, [], 0, .nil, ?_⟩
    rw [eD]
    exact Heap.get?_push_size _ rfl
  have onf : ∀ b ∈ fp, FpOk X pins (upd Hi D (.lst [])) b ∧ b < s3.heap.objs.size := fun b hb => by
    obtain ⟨o, eo, _⟩ := T.obj _ _ ti b hb
    have lt := Heap.lt_size eo
    exact ⟨⟨by rw [upd_ne (by rw [eD]; exact Nat.ne_of_lt lt)]; exact (fi b hb).1, (fi b hb).2⟩, Heap.lt_size (up3 b o eo)⟩
  have t3 : tn 0 s3.heap := T.keep _ _ _ ti fun b _ o e => up3 b o e
  have I4 := block_start I3 ok nd onf
  rw [← eD]
  show codeAny _ _ (.compStart (.ListComp elt [⟨tg, iter, ifs, 0⟩] scope pos) 0 (.ref it) (.ref D) (cEnv X scope (cellsFrom (s3.heap.objs.size + 1) scope.names (cloFrom X.env.cells scope.names [])) s3.heap.objs.size)) (compEnds _ _ X.xe use Qf _ (cEnv X scope (cellsFrom (s3.heap.objs.size + 1) scope.names (cloFrom X.env.cells scope.names [])) s3.heap.objs.size)) { s3 with heap := pushCells (s3.heap.push { cls := .type "dict", data := .dict #[] }) scope.names }
  have pg := hg s3 (upd Hi D (.lst [])) s3.heap.objs.size (cellsFrom (s3.heap.objs.size + 1) scope.names (cloFrom X.env.cells scope.names [])) fp
  have pt := ht s3 (upd Hi D (.lst [])) s3.heap.objs.size (cellsFrom (s3.heap.objs.size + 1) scope.names (cloFrom X.env.cells scope.names [])) fp
  have pe := he s3 (upd Hi D (.lst [])) s3.heap.objs.size (cellsFrom (s3.heap.objs.size + 1) scope.names (cloFrom X.env.cells scope.names [])) fp
  generalize hce : cEnv X scope (cellsFrom (s3.heap.objs.size + 1) scope.names (cloFrom X.env.cells scope.names [])) s3.heap.objs.size = ce at pg pt pe ⊢
  have I4 : Inv (X.blk s3 (upd Hi D (.lst [])) scope ce fp) [] (wipe σ (own.map (·.2))) (upd Hi D (.lst [])) { s3 with heap := pushCells (s3.heap.push { cls := .type "dict", data := .dict #[] }) scope.names } := by
    rw [← hce]
    exact I4
  have cL : ce.locals = s3.heap.objs.size := by rw [← hce]; rfl
  have cF : ce.frame = X.env.frame := by rw [← hce]; rfl
  generalize e4 : ({ s3 with heap := pushCells (s3.heap.push { cls := .type "dict", data := .dict #[] }) scope.names } : Shared) = s4 at I4 ⊢
  have t4 : tn 0 s4.heap := T.keep _ _ _ t3 fun b _ o e => by
    rw [← e4]
    exact pushCells_keeps _ _ _ _ (Heap.get?_push_of_some _ e)
  generalize eH3 : upd Hi D (.lst []) = H3 at I3 I4 pg pt pe w0 onf
  have away : ∀ b ∈ fp, (b ∈ X.ex ∨ X.s_0.heap.objs.size ≤ b) ∧ b ≠ X.env.locals ∧ (∀ x c, X.env.cells.lookup x = some c → c ≠ b) ∧ ∀ p ∈ X.pn ++ pins, p.1 ≠ b := fun b hb => by
    obtain ⟨⟨_, c1, _, c3, c4, c5⟩, _⟩ := onf b hb
    exact ⟨c3, c1, c4, c5⟩
  have err : ∀ u s', L2.XE (X.blk s3 H3 scope ce fp) (fun cls d _ H' => W cls d σ H') u s' → notedBy (model X.prog X.w) X.A ce (fun e s'' => compEnds (model X.prog X.w) X.A X.xe use Qf (.ref D) ce (.error e) s'') u s' := fun u s' x => by
    cases use <;> exact blk_err hst hfr cF cL I3 away tk (fun _ _ _ _ z => z) x
  have foot : ∀ {τ : L2.St} {H' : Hp} {s' : Shared}, Inv (X.blk s3 H3 scope ce fp) [] τ H' s' → (∀ b ∈ fp, H' b = none) → ∀ b ∈ fp, FpOk (X.blk s3 H3 scope ce fp) [] H' b := fun {τ H' s'} K hn b hb =>
    ⟨hn b hb, (K.ok.exf b hb).1, K.ok.exfs b hb, .inl hb, (K.ok.exf b hb).2, fun p hp => nomatch (show p ∈ ([] : List (Addr × Obj)) from hp)⟩
  have loop : codeAny (model X.prog X.w) X.A (.compLoop (.ListComp elt [⟨tg, iter, ifs, 0⟩] scope pos) 0 (.ref it) (.ref D) ce) (compEnds (model X.prog X.w) X.A X.xe use Qf (.ref D) ce) s4 := by
    refine compLoop_any (fun n t => ∃ i H', Inv (X.blk s3 H3 scope ce fp) [] (wipe σ (own.map (·.2))) H' t ∧ tn i t.heap ∧ (∀ b ∈ fp, H' b = none) ∧ Wk i n H') ?_ m0 ⟨0, H3, I4, t4, fun b hb => (onf b hb).1.1, w0⟩
    rintro n t5 ⟨i, H5, I5, st5, n5, w5⟩
    rcases turn i n H5 w5 with ⟨stop, qq⟩ | ⟨go, Nx, hNx, step⟩
    · refine thnF (T.done (X.blk s3 H3 scope ce fp) rfl rfl rfl cm i [] t5 _ H5 (fun _ _ => False) I5 (foot I5 n5) st5 stop) fun r t6 ⟨hr, I6⟩ => ?_
      subst hr
      obtain ⟨m, hn, _⟩ := I6.loc
      have nC : H5 ce.locals = none := I6.free
      exact last D ce t6 m H5 (I3.call' (ch := fp) I6.os I6.base I6.hok I6.bare away) qq hn (I3.fpOk (by rw [cL]; exact Nat.le_refl _) nC)
    · refine thnF (T.item (X.blk s3 H3 scope ce fp) rfl rfl rfl cm i [] t5 _ H5 (fun _ _ => False) I5 (foot I5 n5) st5 go) fun r t6 ⟨u, hr, h6⟩ => ?_
      subst hr
      refine thnF h6 fun _ t7 ⟨x, H7, I7, r7, y7, st7, n7⟩ => ?_
      refine thnF (pg.run _ t7 _ H7 x u _ (I7.pinned (foot I7 n7) (T.obj _ _ st7)) r7 (step x H7 y7)) fun _ t8 ⟨σ8, H8, I8, hw8, q8⟩ => ?_
      refine thnF (pt.run _ t8 σ8 H8 _ I8 q8) fun b t9 ⟨H9, I9, q9⟩ => ?_
      have on : ∀ {z : Shared} {Hz : Hp}, Inv (X.blk s3 H3 scope ce fp) ([] ++ pinsAt fp t7.heap) σ8 Hz z → Nx Hz → ∃ m, m < n ∧ ∃ i H', Inv (X.blk s3 H3 scope ce fp) [] (wipe σ (own.map (·.2))) H' z ∧ tn i z.heap ∧ (∀ b ∈ fp, H' b = none) ∧ Wk i m H' := fun {z Hz} K nx => by
        obtain ⟨m', lt, w'⟩ := hNx Hz nx
        have still : ∀ b ∈ fp, ∀ o, t7.heap.get? b = some o → z.heap.get? b = some o ∧ Hz b = none := fun b hb o e =>
          let y := K.pin (b, o) (List.mem_append_right _ (List.mem_append_right _ (mem_pinsAt hb e)))
          ⟨y.1, y.2.1⟩
        refine ⟨m', lt, i + 1, Hz, (K.unpinned (pins := [])).weak (by rw [← hw8, wipe_length]) (fun j v e => ?_), T.keep _ _ _ st7 fun b hb o e => (still b hb o e).1, fun b hb => ?_, w'⟩
        · rw [← hw8] at e
          exact (wipe_some e).1
        · obtain ⟨o, e, _⟩ := T.obj _ _ st7 b hb
          exact (still b hb o e).2
      cases b with
      | false =>
        rw [if_neg Bool.false_ne_true] at q9 ⊢
        exact on I9 q9
      | true =>
        rw [if_pos rfl] at q9 ⊢
        refine wpAny_mono (pe.run _ t9 σ8 H9 _ (to_bx I9) q9) (fun z ta ⟨yv, Ha, Ia, ra, acc, hDa, hza, nx⟩ => ?_) fun u s' x => err u s' x
        exact app_ok (X := X.blk s3 H3 scope ce fp) (of_bx Ia) hDa hza ra fun tb Ib => on Ib nx
  exact codeAny_compStart_list loop (T.self X.A 0 _ _ _ t4 loop)
abbrev Wb (W : WX) (σ : L2.St) : WX := fun cls d _ H' => W cls d σ H'
def tLcw (wi : TI) (g : TG) (tt : TT) (te : L2.St → TE) (vs : List Nat) : TE := fun σ H Q => tLc wi g tt (te σ) vs σ H Q
theorem pe_lcw {elt tg iter : Expr} {ifs : List Expr} {scope : Scope} {own : List (Str × Nat)} {pos : Pos} {wi : TI} {g : TG} {tt : TT} {te : L2.St → TE}
    (tk : Takes X W) (hst : X.stack = X.env :: X.outer) (hfr : X.env.frame = some X.env.locals) (cm : X.calm = true) (nd : X.N.Nodup) (hi : PI X tg iter wi) (ok : BlkOk X.N X.env.scope scope own)
    (hg : ∀ t G c cl ps, PG (X.blk t G scope (cEnv X scope cl c) ps) tg g) (ht : ∀ t G c cl ps, PTs (X.blk t G scope (cEnv X scope cl c) ps) ifs tt)
    (he : ∀ σ t G c cl ps, PE (BXc X (Wb W σ) t G scope (cEnv X scope cl c) ps) elt (te σ)) (hs : ∀ x, foldedSetIterable iter X.env x = pure x := by intro _; rfl) :
    PE X (.ListComp elt [⟨tg, iter, ifs, 0⟩] scope pos) (tLcw wi g tt te (own.map (·.2))) := ⟨fun pins s σ H Q I h => by
  rw [eval_ListComp]
  refine lcx_core tk hst hfr cm nd I hi ok hg ht (he σ) hs h fun D ce s' m H' I' q hn ⟨f0, f1, _, f3, f4, f5⟩ => ⟨m, hn, fun h2 sb => ?_⟩
  exact ⟨.ref D, H', I'.turned (t' := s'.toks) (fun b o hb e => (sb.2 b hb).trans e) f0 f1 f3 f4 f5, rfl, q⟩⟩
end
def lcIE (vs : List Nat) (b : BX) (ft : PTx) (f : PX) (Γ : Ga) (d : PyData) : Option (Except Er (Option PyData)) := match b d (wipeG Γ vs) with
  | none => none
  | some Γ1 => match ft Γ1 with
    | some (.ok true) => (f Γ1).map fun r => r.map some
    | some (.ok false) => some (.ok none)
    | _ => none
def lcLE (item : PyData → Option (Except Er (Option PyData))) : List PyData → Option (Except Er (List PyData))
  | [] => some (.ok [])
  | d :: ds => match item d with
    | some (.ok o) => (lcLE item ds).map fun r => r.map (o.toList ++ ·)
    | some (.error e) => some (.error e)
    | none => none
def lcXE (i : PIx) (vs : List Nat) (b : BX) (ft : PTx) (f : PX) : PX := fun Γ => match i Γ with
  | some (.ok ds) => if ds.length ≤ big then (lcLE (lcIE vs b ft f Γ) ds).map fun r => r.map PyData.list else none
  | some (.error e) => some (.error e)
  | none => none
section
variable {item : PyData → Option (Except Er (Option PyData))}
theorem lcLE_snoc {d : PyData} {o : Option PyData} (h : item d = some (.ok o)) : ∀ {xs acc : List PyData}, lcLE item xs = some (.ok acc) → lcLE item (xs ++ [d]) = some (.ok (acc ++ o.toList))
  | [], acc, e => by
    cases e
    rw [List.nil_append, lcLE, h]
    simp only [lcLE, Option.map_some, Except.map, List.append_nil, List.nil_append]
  | x :: xs, acc, e => by
    rw [lcLE] at e
    rw [List.cons_append, lcLE]
    cases h1 : item x with
    | none => rw [h1] at e; cases e
    | some r =>
      rw [h1] at e
      cases r with
      | error z => cases e
      | ok o1 =>
        simp only at e ⊢
        cases h2 : lcLE item xs with
        | none => rw [h2] at e; cases e
        | some r2 =>
          rw [h2] at e
          cases r2 with
          | error z => cases e
          | ok a2 =>
            cases e
            rw [lcLE_snoc h h2]
            simp only [Option.map_some, Except.map, List.append_assoc]
theorem lcLE_at {d : PyData} {ys : List PyData} : ∀ {xs acc : List PyData} {r : Except Er (List PyData)}, lcLE item xs = some (.ok acc) → lcLE item (xs ++ d :: ys) = some r → ∃ z, item d = some z ∧ ∀ e, z = .error e → r = .error e
  | [], acc, r, _, h => by
    rw [List.nil_append, lcLE] at h
    cases h1 : item d with
    | none => rw [h1] at h; cases h
    | some z =>
      refine ⟨z, rfl, fun e he => ?_⟩
      subst he
      rw [h1] at h
      cases h
      rfl
  | x :: xs, acc, r, e, h => by
    rw [lcLE] at e
    rw [List.cons_append, lcLE] at h
    cases h1 : item x with
    | none => rw [h1] at e; cases e
    | some q =>
      rw [h1] at e h
      cases q with
      | error z => cases e
      | ok o1 =>
        simp only at e h
        cases h2 : lcLE item xs with
        | none => rw [h2] at e; cases e
        | some r2 =>
          rw [h2] at e
          cases r2 with
          | error z => cases e
          | ok a2 =>
            cases h3 : lcLE item (xs ++ d :: ys) with
            | none => rw [h3] at h; cases h
            | some r3 =>
              rw [h3] at h
              obtain ⟨z, k1, k2⟩ := lcLE_at h2 h3
              refine ⟨z, k1, fun e he => ?_⟩
              rw [k2 e he] at h
              cases h
              rfl
theorem lcLE_le : ∀ {xs acc : List PyData}, lcLE item xs = some (.ok acc) → acc.length ≤ xs.length
  | [], acc, e => by cases e; exact Nat.le_refl _
  | x :: xs, acc, e => by
    rw [lcLE] at e
    cases h1 : item x with
    | none => rw [h1] at e; cases e
    | some q =>
      rw [h1] at e
      cases q with
      | error z => cases e
      | ok o1 =>
        simp only at e
        cases h2 : lcLE item xs with
        | none => rw [h2] at e; cases e
        | some r2 =>
          rw [h2] at e
          cases r2 with
          | error z => cases e
          | ok a2 =>
            cases e
            have := lcLE_le h2
            rw [List.length_append, List.length_cons]
            have : o1.toList.length ≤ 1 := by cases o1 <;> simp
            omega
end
section
variable {X : Cx} {C : Cf} {W : WX} {m : Md} {k : Nat} {elt tg iter : Expr} {ifs : List Expr} {scope : Scope} {own : List (Str × Nat)} {pos : Pos} {wi : TI} {fi : PIx} {g : TG} {b : BX} {tt : TT} {ft : PTx} {te : L2.St → TE} {f : PX}
theorem erW_b {σ τ : L2.St} {e : Er} {H : Hp} (h : ErW C W σ e H) : ErW C (Wb W σ) τ e H := by cases e <;> exact h
theorem ev_lcw (hi : EvI C W wi fi) (hg : EvG C g b) (hw : WpG (own.map (·.2)) g) (ht : EvT C WF tt ft) (he : ∀ σ, Ev C (Wb W σ) .st (te σ) f) (hfl : ∀ i ∈ own.map (·.2), C.plain i = true) : EvF C W m (tLcw wi g tt te (own.map (·.2))) (lcXE fi (own.map (·.2)) b ft f) := fun Γ r hr H0 Ox σ H E Q q => by
  unfold lcXE at hr
  cases h1 : fi Γ with
  | none => rw [h1] at hr; cases hr
  | some r1 =>
    rw [h1] at hr
    cases r1 with
    | error x =>
      cases hr
      exact hi Γ _ h1 H0 Ox σ H E _ q
    | ok ds =>
      simp only at hr
      by_cases hz : ds.length ≤ big
      · rw [if_pos hz] at hr
        cases h2 : lcLE (lcIE (own.map (·.2)) b ft f Γ) ds with
        | none => rw [h2] at hr; cases hr
        | some rr =>
          rw [h2] at hr
          cases hr
          refine hi Γ _ h1 H0 Ox σ H E _ fun J Ha s1 w D hD => ?_
          have E1 := E.step s1
          obtain ⟨G, Y, wk, hG, hY⟩ := w
          obtain ⟨E2, oe⟩ := E1.rebase.wipe hfl
          have E3 := E2.addOx (xs := []) hD
          have hD0 : mask (ow C.fl C.oba σ Γ) Ha D = none := by
            unfold mask
            split
            · rfl
            · exact hD
          have gr : ∀ {Γ' : Ga} {σ' : L2.St} {H' : Hp}, EnvR C (mask (ow C.fl C.oba σ Γ) Ha) (D :: Ox) σ' Γ' H' → Sm (mask (ow C.fl Ox σ Γ) Ha) (mask (ow C.fl (D :: Ox) σ' Γ') H') := fun E' => by
            have h3 := E'.all
            have e : mask (D :: Ox) (mask (ow C.fl C.oba σ Γ) Ha) = mask (ow C.fl Ox σ Γ) Ha := by
              rw [← mask_two (Ox := Ox) (σ := σ) (Γ := Γ) (C := C) E.obs]
              funext a
              by_cases q1 : a ∈ Ox
              · rw [mask_in q1, mask_in (List.mem_cons_of_mem _ q1)]
              · rw [mask_out q1]
                by_cases q2 : a = D
                · rw [q2, mask_in List.mem_cons_self, hD0]
                · exact mask_out fun q3 => (List.mem_cons.mp q3).elim q2 q1
            rwa [e] at h3
          have inD : ∀ {σ' : L2.St} {Γ' : Ga}, D ∈ ow C.fl (D :: Ox) σ' Γ' := mem_ow.mpr (.inr List.mem_cons_self)
          refine lc_it wk (fun i H' => ∃ acc vs, lcLE (lcIE (own.map (·.2)) b ft f Γ) (ds.take i) = some (.ok acc) ∧ H' D = some (.lst vs) ∧ RpL C.K (mask (ow C.fl (D :: Ox) (wipe σ (own.map (·.2))) (wipeG Γ (own.map (·.2)))) H') acc vs ∧
            EnvR C (mask (ow C.fl C.oba σ Γ) Ha) (D :: Ox) (wipe σ (own.map (·.2))) (wipeG Γ (own.map (·.2))) H' ∧ Sm Ha H') ⟨[], [], rfl, upd_same, rpl_nil, E3, Sm.new hD⟩ (fun i H' _ ⟨_, _, _, _, _, E', _⟩ => hG H' ((gr E').trans (mask_le _ _))) (fun i x Hb Hc hlt ⟨acc, vs, k1, k2, k3, E', k5⟩ y => ?_) fun H' ⟨acc, vs, k1, k2, k3, E', k5⟩ => ?_
          · have hd : ds[i]? = some ds[i] := by simp [hlt]
            obtain ⟨s2, p2⟩ := hY i ds[i] Hb x Hc hd y _ (gr E') E'.mut
            have E4 := E'.step s2
            have sp : ds = ds.take i ++ ds[i] :: ds.drop (i + 1) := by rw [List.getElem_cons_drop, List.take_append_drop]
            obtain ⟨o, ho, hbad⟩ := lcLE_at (d := ds[i]) (ys := ds.drop (i + 1)) k1 (by rw [← sp]; exact h2)
            have tk : ds.take (i + 1) = ds.take i ++ [ds[i]] := by rw [List.take_succ, hd]; rfl
            have acc' : ∀ o1, o = .ok o1 → lcLE (lcIE (own.map (·.2)) b ft f Γ) (ds.take (i + 1)) = some (.ok (acc ++ o1.toList)) := fun o1 e => by rw [tk]; exact lcLE_snoc (by rw [ho, e]) k1
            clear sp tk
            unfold lcIE at ho
            cases h3 : b ds[i] (wipeG Γ (own.map (·.2))) with
            | none => rw [h3] at ho; cases ho
            | some Γ1 =>
              rw [h3] at ho
              simp only at ho
              have wi2 : wipe (wipe σ (own.map (·.2))) (own.map (·.2)) = wipe σ (own.map (·.2)) := wipe_idem fun i hi => hi
              have hw' : ∀ Q, g x (wipe σ (own.map (·.2))) Hc Q → g x (wipe σ (own.map (·.2))) Hc (fun σ2 H2 => wipe σ2 (own.map (·.2)) = wipe σ (own.map (·.2)) ∧ Q σ2 H2) := fun Q h => by
                have := hw x _ Hc Q h
                simpa only [wi2] using this
              refine hw' _ (hg ds[i] _ Γ1 h3 _ _ _ Hc x E4 p2 _ fun σ2 E5 oe2 => ?_)
              have hkeep : ∀ {Hd : Hp}, Stp (ow C.fl (D :: Ox) σ2 Γ1) Hc Hd → Stp (ow C.fl (D :: Ox) (wipe σ (own.map (·.2))) (wipeG Γ (own.map (·.2)))) Hb Hd := fun s4 => s2.trans (by rw [← oe2]; exact s4)
              cases h4 : ft Γ1 with
              | none => rw [h4] at ho; cases ho
              | some rt =>
                rw [h4] at ho
                cases rt with
                | error x => cases ho
                | ok bb =>
                  refine ht Γ1 _ h4 _ _ σ2 Hc E5 _ fun H3 s3 => ?_
                  cases bb with
                  | false =>
                    cases ho
                    rw [if_neg Bool.false_ne_true]
                    have st := hkeep s3
                    refine ⟨acc, vs, by simpa using acc' _ rfl, by rw [st.2 D inD]; exact k2, RpL.sm st.1 _ _ k3, E'.step st, k5.trans (st.sm E'.mut)⟩
                  | true =>
                    rw [if_pos rfl]
                    simp only at ho
                    cases h5 : f Γ1 with
                    | none => rw [h5] at ho; cases ho
                    | some rf =>
                      rw [h5] at ho
                      cases ho
                      cases rf with
                      | error x =>
                        have := hbad x rfl
                        subst this
                        refine he σ Γ1 _ h5 _ _ σ2 H3 (E5.step s3) _ fun H4 s4 => ?_
                        have st := hkeep (s3.trans s4)
                        exact erW_b (q H4 (s1.trans (.of_sm (k5.trans (st.sm E'.mut)) E1.mut)))
                      | ok yd =>
                        refine he σ Γ1 _ h5 _ _ σ2 H3 (E5.step s3) _ fun yv H4 s4 p4 => ?_
                        have st := hkeep (s3.trans s4)
                        have kD : H4 D = some (.lst vs) := by rw [st.2 D inD]; exact k2
                        have lv : vs.length < sizeLine := by
                          have l1 := lcLE_le k1
                          rw [← rpl_len k3]
                          have : (ds.take i).length ≤ i := List.length_take_le i ds
                          exact Nat.lt_of_lt_of_le (show acc.length < big by omega) (by decide)
                        have E6 := E'.step st
                        refine ⟨vs, kD, lv, acc ++ [yd], vs ++ [yv], acc' _ rfl, upd_same, ?_, E6.chgOx List.mem_cons_self hD0 (fun _ _ _ z => by rw [kD] at z; cases z), sm_off' (k5.trans (st.sm E'.mut)) hD⟩
                        rw [mask_upd_in inD]
                        exact rpl_app (RpL.sm st.1 _ _ k3) (rpl_cons (by rw [oe2] at p4; exact p4) rpl_nil)
          · rw [List.take_length] at k1
            rw [h2] at k1
            cases k1
            have e : upd (mask [D] H') D (.lst vs) = H' := by
              funext a
              by_cases q1 : a = D
              · rw [q1, upd_same, k2]
              · rw [upd_ne q1]
                exact mask_out (by simpa using q1)
            have sE := sm_out (O := []) k5 hD
            have := q D (.lst vs) (mask [D] H') (s1.trans (.of_sm sE E1.mut)) (mask_in (by simp)) ⟨vs, rfl, ?_⟩
            · rwa [e] at this
            · refine RpL.sm (hm_lt (s1.trans (Stp.of_sm sE E1.mut) |>.ows E.ows)) _ _ (RpL.sm ?_ _ _ k3)
              refine .of_le fun a u ea => ?_
              obtain ⟨e1, e2⟩ := mask_some ea
              have n1 : a ∉ ow C.fl Ox σ Γ := fun z => e2 (ow_cons.mpr (.inl (by rw [oe]; exact z)))
              have n2 : a ≠ D := fun z => e2 (ow_cons.mpr (.inr z))
              rw [mask_out n1, mask_out (by simpa using n2)]
              exact e1
      · rw [if_neg hz] at hr; cases hr
theorem pf_lcw (o : On X C k) (tk : Takes X W) (hst : X.stack = X.env :: X.outer) (hfr : X.env.frame = some X.env.locals) (cm : X.calm = true) (hi : PIt X C W tg iter wi fi) (ok : BlkOk X.N X.env.scope scope own) (hw : WpG (own.map (·.2)) g) (hfl : (own.map (·.2)).all C.plain = true)
    (hg : ∀ s H c cl fp, PTg (X.blk s H scope (cEnv X scope cl c) fp) C tg g b) (ht : ∀ s H c cl fp, PTf (X.blk s H scope (cEnv X scope cl c) fp) C WF ifs tt ft) (he : ∀ σ s H c cl fp, PP (BXc X (Wb W σ) s H scope (cEnv X scope cl c) fp) C (Wb W σ) .st elt (te σ) f)
    (hs : ∀ x, foldedSetIterable iter X.env x = pure x := by intro _; rfl) : PF X C W m (.ListComp elt [⟨tg, iter, ifs, 0⟩] scope pos) (tLcw wi g tt te (own.map (·.2))) (lcXE fi (own.map (·.2)) b ft f) :=
  ⟨pe_lcw tk hst hfr cm o.nd hi.pe ok (fun s H c cl fp => (hg s H c cl fp).pe) (fun s H c cl fp => (ht s H c cl fp).pe) (fun σ s H c cl fp => (he σ s H c cl fp).pe) hs,
    ev_lcw hi.ev (hg X.s_0 X.H_0 0 [] []).ev hw (ht X.s_0 X.H_0 0 [] []).ev (fun σ => (he σ X.s_0 X.H_0 0 [] []).ev) (List.all_eq_true.mp hfl)⟩
end
theorem lcLE_ok {α : Type} {item : PyData → Option (Except Er (Option PyData))} {g : α → PyData} {k : α → PyData} : ∀ {l : List α}, (∀ a ∈ l, item (g a) = some (.ok (some (k a)))) → lcLE item (l.map g) = some (.ok (l.map k))
  | [], _ => rfl
  | a :: l, h => by rw [List.map_cons, lcLE, h a (.head _), lcLE_ok fun b hb => h b (.tail _ hb)]; rfl
end Z
set_option Elab.async false
set_option linter.all false
set_option maxRecDepth 100000
set_option maxHeartbeats 4000000
namespace D
open PySem PySem.Spec PyProof.Rows L2 Z
def top (i : Nat) : Stmt := PySem.Challenge.pw_leafturner_k76_levels_and_portraits.main.body.getD i (.Pass ⟨0, 0, 0, 0⟩)
def l_m_BadNumber : List (Str × Bool) := [("BadNumber", true), ("LeafError", false), ("NoAnswer", false), ("NotPortrait", false)]
def l_m_NoAnswer : List (Str × Bool) := [("BadNumber", false), ("LeafError", false), ("NoAnswer", true), ("NotPortrait", false)]
def l_m_NotPortrait : List (Str × Bool) := [("BadNumber", false), ("LeafError", false), ("NoAnswer", false), ("NotPortrait", true)]
structure Fc (K : PySem.W.Frag) (mg : Str → Option Value) : Prop where
  b_all : mg "all" = none
  b_enumerate : mg "enumerate" = none
  b_int : mg "int" = none
  b_isinstance : mg "isinstance" = none
  b_len : mg "len" = none
  b_list : mg "list" = none
  b_range : mg "range" = none
  b_repr : mg "repr" = none
  b_sorted : mg "sorted" = none
  b_str : mg "str" = none
  b_sum : mg "sum" = none
  b_tuple : mg "tuple" = none
  g_GREATEST_DEPTH : ∃ t, mg "GREATEST_DEPTH" = some (.int 6 t)
  g_LEAST_DIGITS : ∃ t, mg "LEAST_DIGITS" = some (.int 2 t)
  g_MOST_ARRANGEMENTS : ∃ t, mg "MOST_ARRANGEMENTS" = some (.int 400 t)
  g_MOST_DIGITS : ∃ t, mg "MOST_DIGITS" = some (.int 4 t)
  x_BadNumber : ExF K mg "BadNumber"
  x_NoAnswer : ExF K mg "NoAnswer"
  x_NotPortrait : ExF K mg "NotPortrait"
  m_BadNumber : ∀ q ∈ l_m_BadNumber, PySem.W.exmOne K (cv mg q.1) (cv mg "BadNumber") = some q.2
  m_NoAnswer : ∀ q ∈ l_m_NoAnswer, PySem.W.exmOne K (cv mg q.1) (cv mg "NoAnswer") = some q.2
  m_NotPortrait : ∀ q ∈ l_m_NotPortrait, PySem.W.exmOne K (cv mg q.1) (cv mg "NotPortrait") = some q.2
def p__law_acted : SX := (seqX (asgX (fC (.str "")) (bNm 3))
  (seqX (asgX (fC (.int 0)) (bNm 4))
  (seqX (forS (iR1 (b1 (fV 2) gLen)) (bNm 5) (seqX (asgX (b1 (b2 (fV 2) (fV 5) gIx) gInt) (bNm 6))
  (seqX (asgX (b2 (fV 3) (b2 (fC (.str "0123")) (b2 (b2 (b2 (fV 1) (fV 5) gIx) (fV 4) gIx) (fV 6) gIx) gIx) gAdd) (bNm 3))
  (asgX (b2 (b2 (fV 4) (fV 0) gMul) (fV 6) gAdd) (bNm 4)))))
  (retX (fV 3)))))
def F__law_acted : FX := defX 3 7 p__law_acted
theorem b__law_acted {P : Program} {w : World} {base : Heap} {K : PySem.W.Frag} {mg : Str → Option Value} {Ts : List Addr} {f : Addr} {cdv : Value} (F : Fc K mg)
    (A : Around) (outer : List Env) (s : Shared) (H : Hp) (E : XK) (hr : Room 0 (A.deeper (envOfC "_law_acted" (defScope (top 29)) s.heap.objs.size f cdv))) :
    ∃ t, PBk (cxOf (L2.CX P w) P w K mg base ["k", "portrait", "string", "written", "at", "place", "digit"] "_law_acted" (defScope (top 29)) f cdv A outer s H E) (CfD ⟨K, mg, Ts⟩ []) (WD E) (defBody (top 29)) t p__law_acted := by
  have o : On (cxOf (L2.CX P w) P w K mg base ["k", "portrait", "string", "written", "at", "place", "digit"] "_law_acted" (defScope (top 29)) f cdv A outer s H E) (CfD ⟨K, mg, Ts⟩ []) 0 := .mk' rfl rfl hr (show (["k", "portrait", "string", "written", "at", "place", "digit"] : List Str).Nodup by decide +kernel)
  have tk : Takes (cxOf (L2.CX P w) P w K mg base ["k", "portrait", "string", "written", "at", "place", "digit"] "_law_acted" (defScope (top 29)) f cdv A outer s H E) (WD E) := takes_of rfl rfl rfl rfl
  have po := passes_of (X := (cxOf (L2.CX P w) P w K mg base ["k", "portrait", "string", "written", "at", "place", "digit"] "_law_acted" (defScope (top 29)) f cdv A outer s H E)) rfl
  exact ⟨_, (pbk_cons (st_set o 3 pp_str)
      (pbk_cons (st_set o 4 pp_int)
      (pbk_cons (st_for o rfl po (pi_r1 o rfl F.b_range (pp_len o rfl F.b_len (PP.h (pp_var 2)))) (tg_nm o.k 5) (pbk_cons (st_set o 6 (pp_int1 o rfl F.b_int (PP.h (pp_ix o (PP.h (pp_var 2)) (pp_var 5)))))
      (pbk_cons (st_set o 3 (pp_add o (pp_var 3) (pp_ix o (PP.h pp_str) (pp_ix o (PP.h (pp_ix o (PP.h (pp_ix o (PP.h (pp_var 1)) (pp_var 5))) (pp_var 4))) (pp_var 6)))))
      (pbk_one (st_set o 4 (pp_add o (pp_mul o (pp_var 4) (pp_var 0)) (pp_var 6)))))))
      (pbk_one (st_ret (pp_var 3))))))⟩
def p__law_cell : SX := (seqX (ifS (toT (b2 (fV 1) (b1 (fV 0) gLen) gLtI)) (retX (b2 (fV 0) (fV 1) gIx)) nxX)
  (retX (fC (.int 0))))
def F__law_cell : FX := defX 2 2 p__law_cell
theorem b__law_cell {P : Program} {w : World} {base : Heap} {K : PySem.W.Frag} {mg : Str → Option Value} {Ts : List Addr} {f : Addr} {cdv : Value} (F : Fc K mg)
    (A : Around) (outer : List Env) (s : Shared) (H : Hp) (E : XK) (hr : Room 0 (A.deeper (envOfC "_law_cell" (defScope (top 25)) s.heap.objs.size f cdv))) :
    ∃ t, PBk (cxOf (L2.CX P w) P w K mg base ["script", "k"] "_law_cell" (defScope (top 25)) f cdv A outer s H E) (CfD ⟨K, mg, Ts⟩ []) (WD E) (defBody (top 25)) t p__law_cell := by
  have o : On (cxOf (L2.CX P w) P w K mg base ["script", "k"] "_law_cell" (defScope (top 25)) f cdv A outer s H E) (CfD ⟨K, mg, Ts⟩ []) 0 := .mk' rfl rfl hr (show (["script", "k"] : List Str).Nodup by decide +kernel)
  have tk : Takes (cxOf (L2.CX P w) P w K mg base ["script", "k"] "_law_cell" (defScope (top 25)) f cdv A outer s H E) (WD E) := takes_of rfl rfl rfl rfl
  have po := passes_of (X := (cxOf (L2.CX P w) P w K mg base ["script", "k"] "_law_cell" (defScope (top 25)) f cdv A outer s H E)) rfl
  exact ⟨_, (pbk_cons (st_if (pt_lt o (pp_var 1) (pp_len o rfl F.b_len (PP.h (pp_var 0)))) (pbk_one (st_ret (pp_ix o (PP.h (pp_var 0)) (pp_var 1)))) pbk_nil)
      (pbk_one (st_ret pp_int)))⟩
def p__law_common : SX := (seqX (asgX (fC (.int 0)) (bNm 2))
  (seqX (forS (iR1 (b1 (fV 0) gLen)) (bNm 3) (seqX (ifS (toT (b2 (b2 (fV 0) (fV 3) gIx) (b2 (fV 1) (fV 3) gIx) gNe)) bkX nxX)
  (asgX (b2 (fV 2) (fC (.int 1)) gAdd) (bNm 2))))
  (retX (fV 2))))
def F__law_common : FX := defX 2 4 p__law_common
theorem b__law_common {P : Program} {w : World} {base : Heap} {K : PySem.W.Frag} {mg : Str → Option Value} {Ts : List Addr} {f : Addr} {cdv : Value} (F : Fc K mg)
    (A : Around) (outer : List Env) (s : Shared) (H : Hp) (E : XK) (hr : Room 0 (A.deeper (envOfC "_law_common" (defScope (top 33)) s.heap.objs.size f cdv))) :
    ∃ t, PBk (cxOf (L2.CX P w) P w K mg base ["one", "other", "length", "place"] "_law_common" (defScope (top 33)) f cdv A outer s H E) (CfD ⟨K, mg, Ts⟩ []) (WD E) (defBody (top 33)) t p__law_common := by
  have o : On (cxOf (L2.CX P w) P w K mg base ["one", "other", "length", "place"] "_law_common" (defScope (top 33)) f cdv A outer s H E) (CfD ⟨K, mg, Ts⟩ []) 0 := .mk' rfl rfl hr (show (["one", "other", "length", "place"] : List Str).Nodup by decide +kernel)
  have tk : Takes (cxOf (L2.CX P w) P w K mg base ["one", "other", "length", "place"] "_law_common" (defScope (top 33)) f cdv A outer s H E) (WD E) := takes_of rfl rfl rfl rfl
  have po := passes_of (X := (cxOf (L2.CX P w) P w K mg base ["one", "other", "length", "place"] "_law_common" (defScope (top 33)) f cdv A outer s H E)) rfl
  exact ⟨_, (pbk_cons (st_set o 2 pp_int)
      (pbk_cons (st_for o rfl po (pi_r1 o rfl F.b_range (pp_len o rfl F.b_len (PP.h (pp_var 0)))) (tg_nm o.k 3) (pbk_cons (st_if (pt_ne o (pp_ix o (PP.h (pp_var 0)) (pp_var 3)) (pp_ix o (PP.h (pp_var 1)) (pp_var 3))) (pbk_one st_break) pbk_nil)
      (pbk_one (st_set o 2 (pp_add o (pp_var 2) pp_int)))))
      (pbk_one (st_ret (pp_var 2)))))⟩
def p__law_level : SX := (seqX (asgX (c1 (aCons (fC (.str "")) aNil) gLstD) (bNm 2))
  (seqX (forS (iR1 (fV 1)) (bNm 3) (seqX (asgX (c1 aNil gLstD) (bNm 4))
  (seqX (forS (iA (fV 2)) (bNm 5) (asgX (b2 (fV 4) (lcX (iR1 (fV 0)) [6] (bNm 6) fYes (b2 (fV 5) (b2 (fC (.str "0123")) (fV 6) gIx) gAdd)) gAdd) (bNm 4)))
  (asgX (fV 4) (bNm 2)))))
  (retX (fV 2))))
def F__law_level : FX := defX 2 7 p__law_level
theorem b__law_level {P : Program} {w : World} {base : Heap} {K : PySem.W.Frag} {mg : Str → Option Value} {Ts : List Addr} {f : Addr} {cdv : Value} (F : Fc K mg)
    (A : Around) (outer : List Env) (s : Shared) (H : Hp) (E : XK) (hr : Room 0 (A.deeper (envOfC "_law_level" (defScope (top 31)) s.heap.objs.size f cdv))) :
    ∃ t, PBk (cxOf (L2.CX P w) P w K mg base ["k", "n", "strings", "step", "longer", "one", "digit"] "_law_level" (defScope (top 31)) f cdv A outer s H E) (CfD ⟨K, mg, Ts⟩ []) (WD E) (defBody (top 31)) t p__law_level := by
  have o : On (cxOf (L2.CX P w) P w K mg base ["k", "n", "strings", "step", "longer", "one", "digit"] "_law_level" (defScope (top 31)) f cdv A outer s H E) (CfD ⟨K, mg, Ts⟩ []) 0 := .mk' rfl rfl hr (show (["k", "n", "strings", "step", "longer", "one", "digit"] : List Str).Nodup by decide +kernel)
  have tk : Takes (cxOf (L2.CX P w) P w K mg base ["k", "n", "strings", "step", "longer", "one", "digit"] "_law_level" (defScope (top 31)) f cdv A outer s H E) (WD E) := takes_of rfl rfl rfl rfl
  have po := passes_of (X := (cxOf (L2.CX P w) P w K mg base ["k", "n", "strings", "step", "longer", "one", "digit"] "_law_level" (defScope (top 31)) f cdv A outer s H E)) rfl
  exact ⟨_, (pbk_cons (st_set o 2 (PF.pp (pf_lst (par_cons pp_str par_nil))))
      (pbk_cons (st_for o rfl po (pi_r1 o rfl F.b_range (pp_var 1)) (tg_nm o.k 3) (pbk_cons (st_set o 4 (PF.pp (pf_lst par_nil)))
      (pbk_cons (st_for o rfl po (pi_any o (pp_var 2)) (tg_nm o.k 5) (pbk_one (st_set o 4 (pp_add o (pp_var 4) (PF.pp (pf_lc o rfl (own := [("digit", 6)]) (pi_r1 o rfl F.b_range (pp_var 0)) (blkOk_by (by kernel_rfl)) (wp_nm (by simp)) rfl (fun _ _ _ _ _ => (tg_nm o.blk.k 6)) (fun _ _ _ _ _ => ptf_nil) (fun _ _ _ _ _ => (pp_add o.blk (pp_var 5) (pp_ix o.blk (PP.h pp_str) (pp_var 6))))))))))
      (pbk_one (st_set o 2 (pp_var 4))))))
      (pbk_one (st_ret (pp_var 2)))))⟩
def p__law_keeps : SX := (seqX (asgX (callX (aCons (fV 0) (aCons (fV 1) aNil)) F__law_level) (bNm 3))
  (seqX (forS (iR1 (b1 (fV 3) gLen)) (bNm 4) (forS (iR1 (fV 4)) (bNm 5) (ifS (toT (b2 (callX (aCons (b2 (fV 3) (fV 4) gIx) (aCons (b2 (fV 3) (fV 5) gIx) aNil)) F__law_common) (callX (aCons (b2 (fV 3) (b2 (fV 2) (fV 4) gIx) gIx) (aCons (b2 (fV 3) (b2 (fV 2) (fV 5) gIx) gIx) aNil)) F__law_common) gNe)) (retX (fC (.bool false))) nxX)))
  (retX (fC (.bool true)))))
def F__law_keeps : FX := defX 3 6 p__law_keeps
theorem b__law_keeps {P : Program} {w : World} {base : Heap} {K : PySem.W.Frag} {mg : Str → Option Value} {Ts : List Addr} {f : Addr} {cdv : Value} (F : Fc K mg) (D__law_level : Df P w base ⟨K, mg, Ts⟩ "_law_level" 1 2 F__law_level) (D__law_common : Df P w base ⟨K, mg, Ts⟩ "_law_common" 1 2 F__law_common)
    (A : Around) (outer : List Env) (s : Shared) (H : Hp) (E : XK) (hr : Room 1 (A.deeper (envOfC "_law_keeps" (defScope (top 34)) s.heap.objs.size f cdv))) :
    ∃ t, PBk (cxOf (L2.CX P w) P w K mg base ["k", "n", "numbers", "strings", "one", "other"] "_law_keeps" (defScope (top 34)) f cdv A outer s H E) (CfD ⟨K, mg, Ts⟩ []) (WD E) (defBody (top 34)) t p__law_keeps := by
  have o : On (cxOf (L2.CX P w) P w K mg base ["k", "n", "numbers", "strings", "one", "other"] "_law_keeps" (defScope (top 34)) f cdv A outer s H E) (CfD ⟨K, mg, Ts⟩ []) 1 := .mk' rfl rfl hr (show (["k", "n", "numbers", "strings", "one", "other"] : List Str).Nodup by decide +kernel)
  have tk : Takes (cxOf (L2.CX P w) P w K mg base ["k", "n", "numbers", "strings", "one", "other"] "_law_keeps" (defScope (top 34)) f cdv A outer s H E) (WD E) := takes_of rfl rfl rfl rfl
  have po := passes_of (X := (cxOf (L2.CX P w) P w K mg base ["k", "n", "numbers", "strings", "one", "other"] "_law_keeps" (defScope (top 34)) f cdv A outer s H E)) rfl
  exact ⟨_, (pbk_cons (st_set o 3 (pp_call D__law_level o rfl (by decide) tk rfl (par_cons (pp_var 0) (par_cons (pp_var 1) par_nil))))
      (pbk_cons (st_for o rfl po (pi_r1 o rfl F.b_range (pp_len o rfl F.b_len (PP.h (pp_var 3)))) (tg_nm o.k 4) (pbk_one (st_for o rfl po (pi_r1 o rfl F.b_range (pp_var 4)) (tg_nm o.k 5) (pbk_one (st_if (pt_ne o (pp_call D__law_common o rfl (by decide) tk rfl (par_cons (pp_ix o (PP.h (pp_var 3)) (pp_var 4)) (par_cons (pp_ix o (PP.h (pp_var 3)) (pp_var 5)) par_nil))) (pp_call D__law_common o rfl (by decide) tk rfl (par_cons (pp_ix o (PP.h (pp_var 3)) (pp_ix o (PP.h (pp_var 2)) (pp_var 4))) (par_cons (pp_ix o (PP.h (pp_var 3)) (pp_ix o (PP.h (pp_var 2)) (pp_var 5))) par_nil)))) (pbk_one (st_ret pp_bl)) pbk_nil)))))
      (pbk_one (st_ret pp_bl))))⟩
def p__law_arranged : SX := (seqX (asgX (b1 (fV 1) gRg1L) (bNm 2))
  (seqX (asgX (c1 aNil gLstD) (bNmF 3))
  (seqX (forS (iR1 (fV 1)) (bNm 4) (seqX (asgX (b2 (fV 0) (b1 (fV 2) gLen) gMod) (bNm 5))
  (seqX (asgX (b2 (fV 0) (b1 (fV 2) gLen) gDiv) (bNm 0))
  (seqX (appX 3 (b2 (fV 2) (fV 5) gIx))
  (asgX (b2 (s3 (fV 2) oNone (oSome (fV 5)) gSl) (s3 (fV 2) (oSome (b2 (fV 5) (fC (.int 1)) gAdd)) oNone gSl) gAdd) (bNm 2))))))
  (retX (b1 (fO 3) gTupO)))))
def F__law_arranged : FX := defX 2 6 p__law_arranged
theorem b__law_arranged {P : Program} {w : World} {base : Heap} {K : PySem.W.Frag} {mg : Str → Option Value} {Ts : List Addr} {f : Addr} {cdv : Value} (F : Fc K mg)
    (A : Around) (outer : List Env) (s : Shared) (H : Hp) (E : XK) (hr : Room 0 (A.deeper (envOfC "_law_arranged" (defScope (top 27)) s.heap.objs.size f cdv))) :
    ∃ t, PBk (cxOf (L2.CX P w) P w K mg base ["value", "size", "left", "row", "k", "at"] "_law_arranged" (defScope (top 27)) f cdv A outer s H E) (CfD ⟨K, mg, Ts⟩ [3]) (WD E) (defBody (top 27)) t p__law_arranged := by
  have o : On (cxOf (L2.CX P w) P w K mg base ["value", "size", "left", "row", "k", "at"] "_law_arranged" (defScope (top 27)) f cdv A outer s H E) (CfD ⟨K, mg, Ts⟩ [3]) 0 := .mk' rfl rfl hr (show (["value", "size", "left", "row", "k", "at"] : List Str).Nodup by decide +kernel)
  have tk : Takes (cxOf (L2.CX P w) P w K mg base ["value", "size", "left", "row", "k", "at"] "_law_arranged" (defScope (top 27)) f cdv A outer s H E) (WD E) := takes_of rfl rfl rfl rfl
  have po := passes_of (X := (cxOf (L2.CX P w) P w K mg base ["value", "size", "left", "row", "k", "at"] "_law_arranged" (defScope (top 27)) f cdv A outer s H E)) rfl
  exact ⟨_, (pbk_cons (st_set o 2 (PF.pp (pf_listRg1 o rfl rfl F.b_list rfl F.b_range (pp_var 1))))
      (pbk_cons (st_setF o 3 (pf_lst par_nil))
      (pbk_cons (st_for o rfl po (pi_r1 o rfl F.b_range (pp_var 1)) (tg_nm o.k 4) (pbk_cons (st_set o 5 (pp_mod o (pp_var 0) (pp_len o rfl F.b_len (PP.h (pp_var 2)))))
      (pbk_cons (st_set o 0 (pp_div o (pp_var 0) (pp_len o rfl F.b_len (PP.h (pp_var 2)))))
      (pbk_cons (st_append o 3 (pp_ix o (PP.h (pp_var 2)) (pp_var 5)))
      (pbk_one (st_set o 2 (pp_add o (pp_slice o (PP.h (pp_var 2)) ppo_none (ppo_some (pp_var 5))) (pp_slice o (PP.h (pp_var 2)) (ppo_some (pp_add o (pp_var 5) pp_int)) ppo_none))))))))
      (pbk_one (st_ret (pp_tupO o rfl F.b_tuple (ph_own 3)))))))⟩
def p__law_values : SX := (seqX (asgX (c1 aNil gLstD) (bNmF 3))
  (seqX (asgX (fV 0) (bNm 4))
  (seqX (forS (iR1 (fV 1)) (bNm 5) (ifS (toT (b2 (fV 4) (b2 (fC (.int 10)) (fC (.int 12)) gPow) gGeI)) (seqX (appX 3 (b2 (b1 (fV 4) gInt) (fV 2) gMod))
  (asgX (b2 (fV 4) (fV 2) gDiv) (bNm 4))) (seqX (asgX (b2 (b2 (b2 (b2 (b2 (b1 (fV 0) gInt) (fC (.int 2147483647)) gMod) (fC (.int 48271)) gMul) (b2 (fV 5) (fC (.int 69621)) gMul) gAdd) (fC (.int 7)) gAdd) (fC (.int 2147483647)) gMod) (bNm 6))
  (appX 3 (b2 (b2 (b2 (fV 6) (fC (.int 16807)) gMul) (fC (.int 2147483647)) gMod) (fV 2) gMod)))))
  (retX (fV 3)))))
def F__law_values : FX := defX 3 7 p__law_values
theorem b__law_values {P : Program} {w : World} {base : Heap} {K : PySem.W.Frag} {mg : Str → Option Value} {Ts : List Addr} {f : Addr} {cdv : Value} (F : Fc K mg)
    (A : Around) (outer : List Env) (s : Shared) (H : Hp) (E : XK) (hr : Room 0 (A.deeper (envOfC "_law_values" (defScope (top 26)) s.heap.objs.size f cdv))) :
    ∃ t, PBk (cxOf (L2.CX P w) P w K mg base ["cell", "count", "size", "values", "rest", "k", "mixed"] "_law_values" (defScope (top 26)) f cdv A outer s H E) (CfD ⟨K, mg, Ts⟩ [3]) (WD E) (defBody (top 26)) t p__law_values := by
  have o : On (cxOf (L2.CX P w) P w K mg base ["cell", "count", "size", "values", "rest", "k", "mixed"] "_law_values" (defScope (top 26)) f cdv A outer s H E) (CfD ⟨K, mg, Ts⟩ [3]) 0 := .mk' rfl rfl hr (show (["cell", "count", "size", "values", "rest", "k", "mixed"] : List Str).Nodup by decide +kernel)
  have tk : Takes (cxOf (L2.CX P w) P w K mg base ["cell", "count", "size", "values", "rest", "k", "mixed"] "_law_values" (defScope (top 26)) f cdv A outer s H E) (WD E) := takes_of rfl rfl rfl rfl
  have po := passes_of (X := (cxOf (L2.CX P w) P w K mg base ["cell", "count", "size", "values", "rest", "k", "mixed"] "_law_values" (defScope (top 26)) f cdv A outer s H E)) rfl
  exact ⟨_, (pbk_cons (st_setF o 3 (pf_lst par_nil))
      (pbk_cons (st_set o 4 (pp_var 0))
      (pbk_cons (st_for o rfl po (pi_r1 o rfl F.b_range (pp_var 1)) (tg_nm o.k 5) (pbk_one (st_if (pt_ge o (pp_var 4) (pp_pow o pp_int pp_int)) (pbk_cons (st_append o 3 (pp_mod o (pp_int1 o rfl F.b_int (PP.h (pp_var 4))) (pp_var 2)))
      (pbk_one (st_set o 4 (pp_div o (pp_var 4) (pp_var 2))))) (pbk_cons (st_set o 6 (pp_mod o (pp_add o (pp_add o (pp_mul o (pp_mod o (pp_int1 o rfl F.b_int (PP.h (pp_var 0))) pp_int) pp_int) (pp_mul o (pp_var 5) pp_int)) pp_int) pp_int))
      (pbk_one (st_append o 3 (pp_mod o (pp_mod o (pp_mul o (pp_var 6) pp_int) pp_int) (pp_var 2))))))))
      (pbk_one (st_ret (pp_own 3))))))⟩
def p__law_portrait : SX := (seqX (asgX (c1 aNil gLstD) (bNmF 3))
  (seqX (asgX (fC (.int 1)) (bNm 4))
  (seqX (forS (iR1 (fV 2)) (bNm 5) (seqX (asgX (callX (aCons (b2 (fV 0) (b2 (fC (.int 31)) (fV 5) gMul) gAdd) (aCons (fV 4) (aCons (fC (.int 997)) aNil))) F__law_values) (bNm 6))
  (seqX (appX 3 (b1 (lcX (iA (fV 6)) [7] (bNm 7) fYes (callX (aCons (fV 7) (aCons (fV 1) aNil)) F__law_arranged)) gTupO))
  (asgX (b2 (fV 4) (fV 1) gMul) (bNm 4)))))
  (retX (b1 (fO 3) gTupO)))))
def F__law_portrait : FX := defX 3 8 p__law_portrait
theorem b__law_portrait {P : Program} {w : World} {base : Heap} {K : PySem.W.Frag} {mg : Str → Option Value} {Ts : List Addr} {f : Addr} {cdv : Value} (F : Fc K mg) (D__law_values : Df P w base ⟨K, mg, Ts⟩ "_law_values" 1 3 F__law_values) (D__law_arranged : Df P w base ⟨K, mg, Ts⟩ "_law_arranged" 1 2 F__law_arranged)
    (A : Around) (outer : List Env) (s : Shared) (H : Hp) (E : XK) (hr : Room 1 (A.deeper (envOfC "_law_portrait" (defScope (top 28)) s.heap.objs.size f cdv))) :
    ∃ t, PBk (cxOf (L2.CX P w) P w K mg base ["cell", "k", "depth", "levels", "size", "level", "values", "value"] "_law_portrait" (defScope (top 28)) f cdv A outer s H E) (CfD ⟨K, mg, Ts⟩ [3]) (WD E) (defBody (top 28)) t p__law_portrait := by
  have o : On (cxOf (L2.CX P w) P w K mg base ["cell", "k", "depth", "levels", "size", "level", "values", "value"] "_law_portrait" (defScope (top 28)) f cdv A outer s H E) (CfD ⟨K, mg, Ts⟩ [3]) 1 := .mk' rfl rfl hr (show (["cell", "k", "depth", "levels", "size", "level", "values", "value"] : List Str).Nodup by decide +kernel)
  have tk : Takes (cxOf (L2.CX P w) P w K mg base ["cell", "k", "depth", "levels", "size", "level", "values", "value"] "_law_portrait" (defScope (top 28)) f cdv A outer s H E) (WD E) := takes_of rfl rfl rfl rfl
  have po := passes_of (X := (cxOf (L2.CX P w) P w K mg base ["cell", "k", "depth", "levels", "size", "level", "values", "value"] "_law_portrait" (defScope (top 28)) f cdv A outer s H E)) rfl
  exact ⟨_, (pbk_cons (st_setF o 3 (pf_lst par_nil))
      (pbk_cons (st_set o 4 pp_int)
      (pbk_cons (st_for o rfl po (pi_r1 o rfl F.b_range (pp_var 2)) (tg_nm o.k 5) (pbk_cons (st_set o 6 (pp_call D__law_values o rfl (by decide) tk rfl (par_cons (pp_add o (pp_var 0) (pp_mul o pp_int (pp_var 5))) (par_cons (pp_var 4) (par_cons pp_int par_nil)))))
      (pbk_cons (st_append o 3 (pp_tupO o rfl F.b_tuple (PP.h (PF.pp (pf_lc o rfl (own := [("value", 7)]) (pi_any o (pp_var 6)) (blkOk_by (by kernel_rfl)) (wp_nm (by simp)) rfl (fun _ _ _ _ _ => (tg_nm o.blk.k 7)) (fun _ _ _ _ _ => ptf_nil) (fun _ _ _ _ _ => (pp_call D__law_arranged o.blk rfl (by decide) takes0 rfl (par_cons (pp_var 7) (par_cons (pp_var 1) par_nil)))))))))
      (pbk_one (st_set o 4 (pp_mul o (pp_var 4) (pp_var 1)))))))
      (pbk_one (st_ret (pp_tupO o rfl F.b_tuple (ph_own 3)))))))⟩
def p_check_count : SX := (ifS (toT (b3 (fV 0) (fC (.int 2)) (b2 (fC (.int 4)) (fC (.int 1)) gAdd) gNinRg2)) (raX (fC (.str "there are from 2 to 4 digits")) "BadNumber") nxX)
def F_check_count : FX := defX 1 1 p_check_count
theorem b_check_count {P : Program} {w : World} {base : Heap} {K : PySem.W.Frag} {mg : Str → Option Value} {Ts : List Addr} {f : Addr} {cdv : Value} (F : Fc K mg)
    (A : Around) (outer : List Env) (s : Shared) (H : Hp) (E : XK) (hr : Room 0 (A.deeper (envOfC "check_count" (defScope (top 8)) s.heap.objs.size f cdv))) :
    ∃ t, PBk (cxOf (L2.CX P w) P w K mg base ["k"] "check_count" (defScope (top 8)) f cdv A outer s H E) (CfD ⟨K, mg, Ts⟩ []) (WD E) (defBody (top 8)) t p_check_count := by
  have o : On (cxOf (L2.CX P w) P w K mg base ["k"] "check_count" (defScope (top 8)) f cdv A outer s H E) (CfD ⟨K, mg, Ts⟩ []) 0 := .mk' rfl rfl hr (show (["k"] : List Str).Nodup by decide +kernel)
  have tk : Takes (cxOf (L2.CX P w) P w K mg base ["k"] "check_count" (defScope (top 8)) f cdv A outer s H E) (WD E) := takes_of rfl rfl rfl rfl
  have po := passes_of (X := (cxOf (L2.CX P w) P w K mg base ["k"] "check_count" (defScope (top 8)) f cdv A outer s H E)) rfl
  exact ⟨_, (pbk_one (st_if (pt_ninRg2 o rfl F.b_range (pp_var 0) (pp_gint o F.g_LEAST_DIGITS) (pp_add o (pp_gint o F.g_MOST_DIGITS) pp_int)) (pbk_one (st_raise o rfl tk F.x_BadNumber rfl pp_str)) pbk_nil))⟩
def p_string_count : SX := (seqX (asgX (fC (.int 1)) (bNm 2))
  (seqX (forS (iR1 (fV 1)) (bNm 3) (augM 2 (fV 0)))
  (retX (fV 2))))
def F_string_count : FX := defX 2 4 p_string_count
theorem b_string_count {P : Program} {w : World} {base : Heap} {K : PySem.W.Frag} {mg : Str → Option Value} {Ts : List Addr} {f : Addr} {cdv : Value} (F : Fc K mg)
    (A : Around) (outer : List Env) (s : Shared) (H : Hp) (E : XK) (hr : Room 0 (A.deeper (envOfC "string_count" (defScope (top 10)) s.heap.objs.size f cdv))) :
    ∃ t, PBk (cxOf (L2.CX P w) P w K mg base ["k", "level", "count", "_"] "string_count" (defScope (top 10)) f cdv A outer s H E) (CfD ⟨K, mg, Ts⟩ []) (WD E) (defBody (top 10)) t p_string_count := by
  have o : On (cxOf (L2.CX P w) P w K mg base ["k", "level", "count", "_"] "string_count" (defScope (top 10)) f cdv A outer s H E) (CfD ⟨K, mg, Ts⟩ []) 0 := .mk' rfl rfl hr (show (["k", "level", "count", "_"] : List Str).Nodup by decide +kernel)
  have tk : Takes (cxOf (L2.CX P w) P w K mg base ["k", "level", "count", "_"] "string_count" (defScope (top 10)) f cdv A outer s H E) (WD E) := takes_of rfl rfl rfl rfl
  have po := passes_of (X := (cxOf (L2.CX P w) P w K mg base ["k", "level", "count", "_"] "string_count" (defScope (top 10)) f cdv A outer s H E)) rfl
  exact ⟨_, (pbk_cons (st_set o 2 pp_int)
      (pbk_cons (st_for o rfl po (pi_r1 o rfl F.b_range (pp_var 1)) (tg_nm o.k 3) (pbk_one (st_augM o 2 (pp_var 0))))
      (pbk_one (st_ret (pp_var 2)))))⟩
def p_arrangement_count : SX := (retX (b1 (lcX (iR1 (fV 1)) [2] (bNm 2) fYes (callX (aCons (fV 0) (aCons (fV 2) aNil)) F_string_count)) gSum))
def F_arrangement_count : FX := defX 2 3 p_arrangement_count
theorem b_arrangement_count {P : Program} {w : World} {base : Heap} {K : PySem.W.Frag} {mg : Str → Option Value} {Ts : List Addr} {f : Addr} {cdv : Value} (F : Fc K mg) (D_string_count : Df P w base ⟨K, mg, Ts⟩ "string_count" 1 2 F_string_count)
    (A : Around) (outer : List Env) (s : Shared) (H : Hp) (E : XK) (hr : Room 1 (A.deeper (envOfC "arrangement_count" (defScope (top 14)) s.heap.objs.size f cdv))) :
    ∃ t, PBk (cxOf (L2.CX P w) P w K mg base ["k", "depth", "level"] "arrangement_count" (defScope (top 14)) f cdv A outer s H E) (CfD ⟨K, mg, Ts⟩ []) (WD E) (defBody (top 14)) t p_arrangement_count := by
  have o : On (cxOf (L2.CX P w) P w K mg base ["k", "depth", "level"] "arrangement_count" (defScope (top 14)) f cdv A outer s H E) (CfD ⟨K, mg, Ts⟩ []) 1 := .mk' rfl rfl hr (show (["k", "depth", "level"] : List Str).Nodup by decide +kernel)
  have tk : Takes (cxOf (L2.CX P w) P w K mg base ["k", "depth", "level"] "arrangement_count" (defScope (top 14)) f cdv A outer s H E) (WD E) := takes_of rfl rfl rfl rfl
  have po := passes_of (X := (cxOf (L2.CX P w) P w K mg base ["k", "depth", "level"] "arrangement_count" (defScope (top 14)) f cdv A outer s H E)) rfl
  exact ⟨_, (pbk_one (st_ret (pp_sum o rfl rfl F.b_sum (PP.h (PF.pp (pf_lc o rfl (own := [("level", 2)]) (pi_r1 o rfl F.b_range (pp_var 1)) (blkOk_by (by kernel_rfl)) (wp_nm (by simp)) rfl (fun _ _ _ _ _ => (tg_nm o.blk.k 2)) (fun _ _ _ _ _ => ptf_nil) (fun _ _ _ _ _ => (pp_call D_string_count o.blk rfl (by decide) takes0 rfl (par_cons (pp_var 0) (par_cons (pp_var 2) par_nil))))))))))⟩
def p_is_depth : SX := (retX (andX (b2 (fV 1) (b2 (fC (.int 6)) (fC (.int 1)) gAdd) gInRg) (b2 (callX (aCons (fV 0) (aCons (fV 1) aNil)) F_arrangement_count) (fC (.int 400)) gLeI)))
def F_is_depth : FX := defX 2 2 p_is_depth
theorem b_is_depth {P : Program} {w : World} {base : Heap} {K : PySem.W.Frag} {mg : Str → Option Value} {Ts : List Addr} {f : Addr} {cdv : Value} (F : Fc K mg) (D_arrangement_count : Df P w base ⟨K, mg, Ts⟩ "arrangement_count" 2 2 F_arrangement_count)
    (A : Around) (outer : List Env) (s : Shared) (H : Hp) (E : XK) (hr : Room 2 (A.deeper (envOfC "is_depth" (defScope (top 15)) s.heap.objs.size f cdv))) :
    ∃ t, PBk (cxOf (L2.CX P w) P w K mg base ["k", "depth"] "is_depth" (defScope (top 15)) f cdv A outer s H E) (CfD ⟨K, mg, Ts⟩ []) (WD E) (defBody (top 15)) t p_is_depth := by
  have o : On (cxOf (L2.CX P w) P w K mg base ["k", "depth"] "is_depth" (defScope (top 15)) f cdv A outer s H E) (CfD ⟨K, mg, Ts⟩ []) 2 := .mk' rfl rfl hr (show (["k", "depth"] : List Str).Nodup by decide +kernel)
  have tk : Takes (cxOf (L2.CX P w) P w K mg base ["k", "depth"] "is_depth" (defScope (top 15)) f cdv A outer s H E) (WD E) := takes_of rfl rfl rfl rfl
  have po := passes_of (X := (cxOf (L2.CX P w) P w K mg base ["k", "depth"] "is_depth" (defScope (top 15)) f cdv A outer s H E)) rfl
  exact ⟨_, (pbk_one (st_ret (pp_and (pp_inRg1 o rfl F.b_range (pp_var 1) (pp_add o (pp_gint o F.g_GREATEST_DEPTH) pp_int)) (pp_one (pp_le o (pp_call D_arrangement_count o rfl (by decide) tk rfl (par_cons (pp_var 0) (par_cons (pp_var 1) par_nil))) (pp_gint o F.g_MOST_ARRANGEMENTS))))))⟩
def p_is_level : SX := (seqX (asgX (b1 (fV 0) gRg1L) (bNm 3))
  (retX (andX (b2 (b1 (fV 1) gLen) (fV 2) gEq) (alX (iA (fV 1)) [4] (bNm 4) (b2 (b1 (fV 4) gSortP) (fV 3) gEq)))))
def F_is_level : FX := defX 3 5 p_is_level
theorem b_is_level {P : Program} {w : World} {base : Heap} {K : PySem.W.Frag} {mg : Str → Option Value} {Ts : List Addr} {f : Addr} {cdv : Value} (F : Fc K mg)  {cc PP_ : Addr} (hP : PP_ ∈ Ts) (TB : LamX.TabB base mg cc PP_) (hcd : cdv = .ref cc)
    (A : Around) (outer : List Env) (s : Shared) (H : Hp) (E : XK) (hr : Room 1 (A.deeper (envOfC "is_level" (defScope (top 18)) s.heap.objs.size f cdv))) :
    ∃ t, PBk (cxOf (L2.CX P w) P w K mg base ["k", "level", "count_there", "digits", "arrangement"] "is_level" (defScope (top 18)) f cdv A outer s H E) (CfD ⟨K, mg, Ts⟩ []) (WD E) (defBody (top 18)) t p_is_level := by
  have o : On (cxOf (L2.CX P w) P w K mg base ["k", "level", "count_there", "digits", "arrangement"] "is_level" (defScope (top 18)) f cdv A outer s H E) (CfD ⟨K, mg, Ts⟩ []) 1 := .mk' rfl rfl hr (show (["k", "level", "count_there", "digits", "arrangement"] : List Str).Nodup by decide +kernel)
  have tk : Takes (cxOf (L2.CX P w) P w K mg base ["k", "level", "count_there", "digits", "arrangement"] "is_level" (defScope (top 18)) f cdv A outer s H E) (WD E) := takes_of rfl rfl rfl rfl
  have po := passes_of (X := (cxOf (L2.CX P w) P w K mg base ["k", "level", "count_there", "digits", "arrangement"] "is_level" (defScope (top 18)) f cdv A outer s H E)) rfl
  exact ⟨_, (pbk_cons (st_set o 3 (PF.pp (pf_listRg1 o rfl rfl F.b_list rfl F.b_range (pp_var 0))))
      (pbk_one (st_ret (pp_and (pp_eq o (pp_len o rfl F.b_len (PP.h (pp_var 1))) (pp_var 2)) (pp_one (pp_allG (own := [("arrangement", 4)]) o rfl rfl F.b_all hP TB hcd (pi_any o (pp_var 1)) (blkOk_by (by kernel_rfl)) (wp_nm (by simp)) rfl rfl (by decide +kernel) (by kernel_rfl) (show (".0" : Str) ∉ (["k", "level", "count_there", "digits", "arrangement"] : List Str) by decide +kernel) (fun _ _ _ _ _ => (tg_nm o.k.gen 4)) (fun _ _ _ _ _ hB1 => (pp_eq (o.gen hB1) (PF.pp (pf_sortP (o.gen hB1) rfl F.b_sorted (PP.h (pp_var 4)))) (pp_var 3)))))))))⟩
def p_is_portrait : SX := (seqX (dropX (callX (aCons (fV 0) aNil) F_check_count))
  (seqX (ifS (notT (toT (callX (aCons (fV 0) (aCons (b1 (fV 1) gLen) aNil)) F_is_depth))) (retX (fC (.bool false))) nxX)
  (retX (alX (enX (fV 1)) [2, 3] (bTup 2 (bCons (bNm 2) (bCons (bNm 3) bNil))) (callX (aCons (fV 0) (aCons (fV 3) (aCons (callX (aCons (fV 0) (aCons (fV 2) aNil)) F_string_count) aNil))) F_is_level)))))
def F_is_portrait : FX := defX 2 4 p_is_portrait
theorem b_is_portrait {P : Program} {w : World} {base : Heap} {K : PySem.W.Frag} {mg : Str → Option Value} {Ts : List Addr} {f : Addr} {cdv : Value} (F : Fc K mg) (D_check_count : Df P w base ⟨K, mg, Ts⟩ "check_count" 1 1 F_check_count) (D_is_depth : Df P w base ⟨K, mg, Ts⟩ "is_depth" 3 2 F_is_depth) (D_string_count : Df P w base ⟨K, mg, Ts⟩ "string_count" 1 2 F_string_count) (D_is_level : Df P w base ⟨K, mg, Ts⟩ "is_level" 2 3 F_is_level) {cc PP_ : Addr} (hP : PP_ ∈ Ts) (TB : LamX.TabB base mg cc PP_) (hcd : cdv = .ref cc)
    (A : Around) (outer : List Env) (s : Shared) (H : Hp) (E : XK) (hr : Room 3 (A.deeper (envOfC "is_portrait" (defScope (top 17)) s.heap.objs.size f cdv))) :
    ∃ t, PBk (cxOf (L2.CX P w) P w K mg base ["k", "portrait", "at", "level"] "is_portrait" (defScope (top 17)) f cdv A outer s H E) (CfD ⟨K, mg, Ts⟩ []) (WD E) (defBody (top 17)) t p_is_portrait := by
  have o : On (cxOf (L2.CX P w) P w K mg base ["k", "portrait", "at", "level"] "is_portrait" (defScope (top 17)) f cdv A outer s H E) (CfD ⟨K, mg, Ts⟩ []) 3 := .mk' rfl rfl hr (show (["k", "portrait", "at", "level"] : List Str).Nodup by decide +kernel)
  have tk : Takes (cxOf (L2.CX P w) P w K mg base ["k", "portrait", "at", "level"] "is_portrait" (defScope (top 17)) f cdv A outer s H E) (WD E) := takes_of rfl rfl rfl rfl
  have po := passes_of (X := (cxOf (L2.CX P w) P w K mg base ["k", "portrait", "at", "level"] "is_portrait" (defScope (top 17)) f cdv A outer s H E)) rfl
  exact ⟨_, (pbk_cons (st_expr (m := .rd) (pp_call D_check_count o rfl (by decide) tk rfl (par_cons (pp_var 0) par_nil)))
      (pbk_cons (st_if (ptt_not (ptt_val (pp_call D_is_depth o rfl (by decide) tk rfl (par_cons (pp_var 0) (par_cons (pp_len o rfl F.b_len (PP.h (pp_var 1))) par_nil))))) (pbk_one (st_ret pp_bl)) pbk_nil)
      (pbk_one (st_ret (pp_allG (own := [("at", 2), ("level", 3)]) o rfl rfl F.b_all hP TB hcd (pi_enumX o rfl F.b_enumerate (pp_var 1)) (blkOk_by (by kernel_rfl)) (wp_tup (wp_cons (wp_nm (by simp)) (wp_cons (wp_nm (by simp)) wp_nil mon_nm mon_nil) mon_nm (mon_cons mon_nm mon_nil))) rfl rfl (by decide +kernel) (by kernel_rfl) (show (".0" : Str) ∉ (["k", "portrait", "at", "level"] : List Str) by decide +kernel) (fun _ _ _ _ _ => (tg_tup o.k.gen rfl (tgs_cons (tg_nm o.k.gen 2) (tgs_cons (tg_nm o.k.gen 3) tgs_nil)))) (fun _ _ _ _ _ hB1 => (pp_call D_is_level (o.gen hB1) rfl (by decide) takes0 rfl (par_cons (pp_var 0) (par_cons (pp_var 3) (par_cons (pp_call D_string_count (o.gen hB1) rfl (by decide) takes0 rfl (par_cons (pp_var 0) (par_cons (pp_var 2) par_nil))) par_nil))))))))))⟩
def p_check_portrait : SX := (ifS (notT (toT (callX (aCons (fV 0) (aCons (fV 1) aNil)) F_is_portrait))) (raX (fC (.str "not a portrait")) "NotPortrait") nxX)
def F_check_portrait : FX := defX 2 2 p_check_portrait
theorem b_check_portrait {P : Program} {w : World} {base : Heap} {K : PySem.W.Frag} {mg : Str → Option Value} {Ts : List Addr} {f : Addr} {cdv : Value} (F : Fc K mg) (D_is_portrait : Df P w base ⟨K, mg, Ts⟩ "is_portrait" 4 2 F_is_portrait)
    (A : Around) (outer : List Env) (s : Shared) (H : Hp) (E : XK) (hr : Room 4 (A.deeper (envOfC "check_portrait" (defScope (top 19)) s.heap.objs.size f cdv))) :
    ∃ t, PBk (cxOf (L2.CX P w) P w K mg base ["k", "portrait"] "check_portrait" (defScope (top 19)) f cdv A outer s H E) (CfD ⟨K, mg, Ts⟩ []) (WD E) (defBody (top 19)) t p_check_portrait := by
  have o : On (cxOf (L2.CX P w) P w K mg base ["k", "portrait"] "check_portrait" (defScope (top 19)) f cdv A outer s H E) (CfD ⟨K, mg, Ts⟩ []) 4 := .mk' rfl rfl hr (show (["k", "portrait"] : List Str).Nodup by decide +kernel)
  have tk : Takes (cxOf (L2.CX P w) P w K mg base ["k", "portrait"] "check_portrait" (defScope (top 19)) f cdv A outer s H E) (WD E) := takes_of rfl rfl rfl rfl
  have po := passes_of (X := (cxOf (L2.CX P w) P w K mg base ["k", "portrait"] "check_portrait" (defScope (top 19)) f cdv A outer s H E)) rfl
  exact ⟨_, (pbk_one (st_if (ptt_not (ptt_val (pp_call D_is_portrait o rfl (by decide) tk rfl (par_cons (pp_var 0) (par_cons (pp_var 1) par_nil))))) (pbk_one (st_raise o rfl tk F.x_NotPortrait rfl pp_str)) pbk_nil))⟩
def p_turns_on_levels : SX := (seqX (asgX (c1 (aCons (c1 (aCons (fC (.int 0)) aNil) gTupD) aNil) gLstD) (bNmF 2))
  (seqX (forS (iA (fV 1)) (bNm 3) (seqX (asgX (b2 (fO 2) (b1 (fC (.int 1)) gNeg) gIx) (bNm 4))
  (appX 2 (b1 (lc2X (enX (fV 3)) [6, 7, 5] (bTup 2 (bCons (bNm 6) (bCons (bNm 7) bNil))) fYes (iA (fV 7)) [5] (bNm 5) fYes (b2 (b2 (b2 (fV 4) (fV 6) gIx) (fV 0) gMul) (fV 5) gAdd)) gTupO))))
  (retX (fV 2))))
def F_turns_on_levels : FX := defX 2 8 p_turns_on_levels
theorem b_turns_on_levels {P : Program} {w : World} {base : Heap} {K : PySem.W.Frag} {mg : Str → Option Value} {Ts : List Addr} {f : Addr} {cdv : Value} (F : Fc K mg)
    (A : Around) (outer : List Env) (s : Shared) (H : Hp) (E : XK) (hr : Room 0 (A.deeper (envOfC "turns_on_levels" (defScope (top 20)) s.heap.objs.size f cdv))) :
    ∃ t, PBk (cxOf (L2.CX P w) P w K mg base ["k", "portrait", "turns", "level", "turn", "out", "u", "arrangement"] "turns_on_levels" (defScope (top 20)) f cdv A outer s H E) (CfD ⟨K, mg, Ts⟩ [2]) (WD E) (defBody (top 20)) t p_turns_on_levels := by
  have o : On (cxOf (L2.CX P w) P w K mg base ["k", "portrait", "turns", "level", "turn", "out", "u", "arrangement"] "turns_on_levels" (defScope (top 20)) f cdv A outer s H E) (CfD ⟨K, mg, Ts⟩ [2]) 0 := .mk' rfl rfl hr (show (["k", "portrait", "turns", "level", "turn", "out", "u", "arrangement"] : List Str).Nodup by decide +kernel)
  have tk : Takes (cxOf (L2.CX P w) P w K mg base ["k", "portrait", "turns", "level", "turn", "out", "u", "arrangement"] "turns_on_levels" (defScope (top 20)) f cdv A outer s H E) (WD E) := takes_of rfl rfl rfl rfl
  have po := passes_of (X := (cxOf (L2.CX P w) P w K mg base ["k", "portrait", "turns", "level", "turn", "out", "u", "arrangement"] "turns_on_levels" (defScope (top 20)) f cdv A outer s H E)) rfl
  exact ⟨_, (pbk_cons (st_setF o 2 (pf_lst (par_cons (pp_tup (par_cons pp_int par_nil)) par_nil)))
      (pbk_cons (st_for o rfl po (pi_any o (pp_var 1)) (tg_nm o.k 3) (pbk_cons (st_set o 4 (pp_ix o (ph_own 2) (pp_neg o pp_int)))
      (pbk_one (st_append o 2 (pp_tupO o rfl F.b_tuple (PP.h (PF.pp (pf_lc2 o rfl (own := [("u", 6), ("arrangement", 7), ("out", 5)]) (vs1 := [5]) (pi_enumX o rfl F.b_enumerate (pp_var 3)) (blkOk_by (by kernel_rfl)) (wp_tup (wp_cons (wp_nm (by simp)) (wp_cons (wp_nm (by simp)) wp_nil mon_nm mon_nil) mon_nm (mon_cons mon_nm mon_nil))) (wp_nm (by simp)) rfl rfl (fun _ _ _ _ _ => (tg_tup o.blk.k rfl (tgs_cons (tg_nm o.blk.k 6) (tgs_cons (tg_nm o.blk.k 7) tgs_nil)))) (fun _ _ _ _ _ => ptf_nil) (fun _ _ _ _ _ => (pi_any o.blk (pp_var 7))) (fun _ _ _ _ _ => (tg_nm o.blk.k 5)) (fun _ _ _ _ _ => ptf_nil) (fun _ _ _ _ _ => (pp_add o.blk (pp_mul o.blk (pp_ix o.blk (PP.h (pp_var 4)) (pp_var 6)) (pp_var 0)) (pp_var 5)))))))))))
      (pbk_one (st_ret (pp_own 2)))))⟩
def p_level_of : SX := (seqX (dropX (callX (aCons (fV 0) (aCons (fV 1) aNil)) F_check_portrait))
  (retX (b2 (callX (aCons (fV 0) (aCons (fV 1) aNil)) F_turns_on_levels) (b1 (fC (.int 1)) gNeg) gIx)))
def F_level_of : FX := defX 2 2 p_level_of
theorem b_level_of {P : Program} {w : World} {base : Heap} {K : PySem.W.Frag} {mg : Str → Option Value} {Ts : List Addr} {f : Addr} {cdv : Value} (F : Fc K mg) (D_check_portrait : Df P w base ⟨K, mg, Ts⟩ "check_portrait" 5 2 F_check_portrait) (D_turns_on_levels : Df P w base ⟨K, mg, Ts⟩ "turns_on_levels" 1 2 F_turns_on_levels)
    (A : Around) (outer : List Env) (s : Shared) (H : Hp) (E : XK) (hr : Room 5 (A.deeper (envOfC "level_of" (defScope (top 21)) s.heap.objs.size f cdv))) :
    ∃ t, PBk (cxOf (L2.CX P w) P w K mg base ["k", "portrait"] "level_of" (defScope (top 21)) f cdv A outer s H E) (CfD ⟨K, mg, Ts⟩ []) (WD E) (defBody (top 21)) t p_level_of := by
  have o : On (cxOf (L2.CX P w) P w K mg base ["k", "portrait"] "level_of" (defScope (top 21)) f cdv A outer s H E) (CfD ⟨K, mg, Ts⟩ []) 5 := .mk' rfl rfl hr (show (["k", "portrait"] : List Str).Nodup by decide +kernel)
  have tk : Takes (cxOf (L2.CX P w) P w K mg base ["k", "portrait"] "level_of" (defScope (top 21)) f cdv A outer s H E) (WD E) := takes_of rfl rfl rfl rfl
  have po := passes_of (X := (cxOf (L2.CX P w) P w K mg base ["k", "portrait"] "level_of" (defScope (top 21)) f cdv A outer s H E)) rfl
  exact ⟨_, (pbk_cons (st_expr (m := .rd) (pp_call D_check_portrait o rfl (by decide) tk rfl (par_cons (pp_var 0) (par_cons (pp_var 1) par_nil))))
      (pbk_one (st_ret (pp_ix o (PP.h (pp_call D_turns_on_levels o rfl (by decide) tk rfl (par_cons (pp_var 0) (par_cons (pp_var 1) par_nil)))) (pp_neg o pp_int)))))⟩
def p__law_refuses : SX := (seqX (tryM (dropX (callX (aCons (fV 0) (aCons (fV 1) aNil)) F_level_of)) ((l_m_BadNumber, (retX (fC (.str "number")))) :: ((l_m_NotPortrait, (retX (fC (.str "portrait")))) :: [])))
  (retX (fC (.str "none"))))
def F__law_refuses : FX := defX 2 2 p__law_refuses
theorem b__law_refuses {P : Program} {w : World} {base : Heap} {K : PySem.W.Frag} {mg : Str → Option Value} {Ts : List Addr} {f : Addr} {cdv : Value} (F : Fc K mg) (D_level_of : Df P w base ⟨K, mg, Ts⟩ "level_of" 6 2 F_level_of)
    (A : Around) (outer : List Env) (s : Shared) (H : Hp) (E : XK) (hr : Room 6 (A.deeper (envOfC "_law_refuses" (defScope (top 35)) s.heap.objs.size f cdv))) :
    ∃ t, PBk (cxOf (L2.CX P w) P w K mg base ["k", "portrait"] "_law_refuses" (defScope (top 35)) f cdv A outer s H E) (CfD ⟨K, mg, Ts⟩ []) (WD E) (defBody (top 35)) t p__law_refuses := by
  have o : On (cxOf (L2.CX P w) P w K mg base ["k", "portrait"] "_law_refuses" (defScope (top 35)) f cdv A outer s H E) (CfD ⟨K, mg, Ts⟩ []) 6 := .mk' rfl rfl hr (show (["k", "portrait"] : List Str).Nodup by decide +kernel)
  have tk : Takes (cxOf (L2.CX P w) P w K mg base ["k", "portrait"] "_law_refuses" (defScope (top 35)) f cdv A outer s H E) (WD E) := takes_of rfl rfl rfl rfl
  have po := passes_of (X := (cxOf (L2.CX P w) P w K mg base ["k", "portrait"] "_law_refuses" (defScope (top 35)) f cdv A outer s H E)) rfl
  exact ⟨_, (pbk_cons (st_try_many o rfl rfl tk (fun W pn xe tk po => (pbk_one (st_expr (m := .rd) (pp_call D_level_of o.tr rfl (by decide) tk rfl (par_cons (pp_var 0) (par_cons (pp_var 1) par_nil)))))) (.cons F.x_BadNumber rfl (by decide) F.m_BadNumber (fun a oe cls d pn hz hf => (pbk_one (st_ret pp_str))) (.cons F.x_NotPortrait rfl (by decide) F.m_NotPortrait (fun a oe cls d pn hz hf => (pbk_one (st_ret pp_str))) .nil)))
      (pbk_one (st_ret pp_str)))⟩
def p_beginning_of : SX := (seqX (asgX (b2 (b2 (fV 0) (fC (.int 0)) gIx) (fV 1) gDiv) (bNm 2))
  (seqX (ifS (notT (toT (alX (iA (fV 0)) [3] (bNm 3) (b2 (b2 (fV 3) (fV 1) gDiv) (fV 2) gEq)))) (raX (fC (.str "the rearrangement parts strings with the same beginning")) "NoAnswer") nxX)
  (retX (fV 2))))
def F_beginning_of : FX := defX 2 4 p_beginning_of
theorem b_beginning_of {P : Program} {w : World} {base : Heap} {K : PySem.W.Frag} {mg : Str → Option Value} {Ts : List Addr} {f : Addr} {cdv : Value} (F : Fc K mg)  {cc PP_ : Addr} (hP : PP_ ∈ Ts) (TB : LamX.TabB base mg cc PP_) (hcd : cdv = .ref cc)
    (A : Around) (outer : List Env) (s : Shared) (H : Hp) (E : XK) (hr : Room 1 (A.deeper (envOfC "beginning_of" (defScope (top 23)) s.heap.objs.size f cdv))) :
    ∃ t, PBk (cxOf (L2.CX P w) P w K mg base ["row", "k", "beginning", "number"] "beginning_of" (defScope (top 23)) f cdv A outer s H E) (CfD ⟨K, mg, Ts⟩ []) (WD E) (defBody (top 23)) t p_beginning_of := by
  have o : On (cxOf (L2.CX P w) P w K mg base ["row", "k", "beginning", "number"] "beginning_of" (defScope (top 23)) f cdv A outer s H E) (CfD ⟨K, mg, Ts⟩ []) 1 := .mk' rfl rfl hr (show (["row", "k", "beginning", "number"] : List Str).Nodup by decide +kernel)
  have tk : Takes (cxOf (L2.CX P w) P w K mg base ["row", "k", "beginning", "number"] "beginning_of" (defScope (top 23)) f cdv A outer s H E) (WD E) := takes_of rfl rfl rfl rfl
  have po := passes_of (X := (cxOf (L2.CX P w) P w K mg base ["row", "k", "beginning", "number"] "beginning_of" (defScope (top 23)) f cdv A outer s H E)) rfl
  exact ⟨_, (pbk_cons (st_set o 2 (pp_div o (pp_ix o (PP.h (pp_var 0)) pp_int) (pp_var 1)))
      (pbk_cons (st_if (ptt_not (ptt_val (pp_allG (own := [("number", 3)]) o rfl rfl F.b_all hP TB hcd (pi_any o (pp_var 0)) (blkOk_by (by kernel_rfl)) (wp_nm (by simp)) rfl rfl (by decide +kernel) (by kernel_rfl) (show (".0" : Str) ∉ (["row", "k", "beginning", "number"] : List Str) by decide +kernel) (fun _ _ _ _ _ => (tg_nm o.k.gen 3)) (fun _ _ _ _ _ hB1 => (pp_eq (o.gen hB1) (pp_div (o.gen hB1) (pp_var 3) (pp_var 1)) (pp_var 2)))))) (pbk_one (st_raise o rfl tk F.x_NoAnswer rfl pp_str)) pbk_nil)
      (pbk_one (st_ret (pp_var 2)))))⟩
def p_check_depth : SX := (seqX (dropX (callX (aCons (fV 0) aNil) F_check_count))
  (ifS (notT (toT (callX (aCons (fV 0) (aCons (fV 1) aNil)) F_is_depth))) (raX (fC (.str "not a depth of a portrait")) "BadNumber") nxX))
def F_check_depth : FX := defX 2 2 p_check_depth
theorem b_check_depth {P : Program} {w : World} {base : Heap} {K : PySem.W.Frag} {mg : Str → Option Value} {Ts : List Addr} {f : Addr} {cdv : Value} (F : Fc K mg) (D_check_count : Df P w base ⟨K, mg, Ts⟩ "check_count" 1 1 F_check_count) (D_is_depth : Df P w base ⟨K, mg, Ts⟩ "is_depth" 3 2 F_is_depth)
    (A : Around) (outer : List Env) (s : Shared) (H : Hp) (E : XK) (hr : Room 3 (A.deeper (envOfC "check_depth" (defScope (top 16)) s.heap.objs.size f cdv))) :
    ∃ t, PBk (cxOf (L2.CX P w) P w K mg base ["k", "depth"] "check_depth" (defScope (top 16)) f cdv A outer s H E) (CfD ⟨K, mg, Ts⟩ []) (WD E) (defBody (top 16)) t p_check_depth := by
  have o : On (cxOf (L2.CX P w) P w K mg base ["k", "depth"] "check_depth" (defScope (top 16)) f cdv A outer s H E) (CfD ⟨K, mg, Ts⟩ []) 3 := .mk' rfl rfl hr (show (["k", "depth"] : List Str).Nodup by decide +kernel)
  have tk : Takes (cxOf (L2.CX P w) P w K mg base ["k", "depth"] "check_depth" (defScope (top 16)) f cdv A outer s H E) (WD E) := takes_of rfl rfl rfl rfl
  have po := passes_of (X := (cxOf (L2.CX P w) P w K mg base ["k", "depth"] "check_depth" (defScope (top 16)) f cdv A outer s H E)) rfl
  exact ⟨_, (pbk_cons (st_expr (m := .rd) (pp_call D_check_count o rfl (by decide) tk rfl (par_cons (pp_var 0) par_nil)))
      (pbk_one (st_if (ptt_not (ptt_val (pp_call D_is_depth o rfl (by decide) tk rfl (par_cons (pp_var 0) (par_cons (pp_var 1) par_nil))))) (pbk_one (st_raise o rfl tk F.x_BadNumber rfl pp_str)) pbk_nil)))⟩
def p_from_level : SX := (seqX (dropX (callX (aCons (fV 0) (aCons (fV 1) aNil)) F_check_depth))
  (seqX (ifS (toT (b2 (b1 (fV 2) gSortP) (b1 (callX (aCons (fV 0) (aCons (fV 1) aNil)) F_string_count) gRg1L) gNe)) (raX (fC (.str "not a rearrangement of the level")) "NotPortrait") nxX)
  (seqX (asgX (c1 aNil gLstD) (bNmF 3))
  (seqX (forS (iR1 (fV 1)) (bNm 4) (seqX (asgX (lcX (toI (b3 (fC (.int 0)) (b1 (fV 2) gLen) (fV 0) gRg3)) [6] (bNm 6) fYes (s3 (fV 2) (oSome (fV 6)) (oSome (b2 (fV 6) (fV 0) gAdd)) gSl)) (bNm 5))
  (seqX (appX 3 (b1 (lcX (iA (fV 5)) [7] (bNm 7) fYes (b1 (lcX (iA (fV 7)) [8] (bNm 8) fYes (b2 (fV 8) (fV 0) gMod)) gTupO)) gTupO))
  (asgX (b1 (lcXE (iA (fV 5)) [7] (bNm 7) fYes (callX (aCons (fV 7) (aCons (fV 0) aNil)) F_beginning_of)) gTupO) (bNm 2)))))
  (retX (b1 (b1 (fO 3) gRevL) gTupO))))))
def F_from_level : FX := defX 3 9 p_from_level
theorem b_from_level {P : Program} {w : World} {base : Heap} {K : PySem.W.Frag} {mg : Str → Option Value} {Ts : List Addr} {f : Addr} {cdv : Value} (F : Fc K mg) (D_check_depth : Df P w base ⟨K, mg, Ts⟩ "check_depth" 4 2 F_check_depth) (D_string_count : Df P w base ⟨K, mg, Ts⟩ "string_count" 1 2 F_string_count) (D_beginning_of : Df P w base ⟨K, mg, Ts⟩ "beginning_of" 2 2 F_beginning_of)
    (A : Around) (outer : List Env) (s : Shared) (H : Hp) (E : XK) (hr : Room 4 (A.deeper (envOfC "from_level" (defScope (top 22)) s.heap.objs.size f cdv))) :
    ∃ t, PBk (cxOf (L2.CX P w) P w K mg base ["k", "n", "numbers", "levels", "_", "rows", "at", "row", "number"] "from_level" (defScope (top 22)) f cdv A outer s H E) (CfD ⟨K, mg, Ts⟩ [3]) (WD E) (defBody (top 22)) t p_from_level := by
  have o : On (cxOf (L2.CX P w) P w K mg base ["k", "n", "numbers", "levels", "_", "rows", "at", "row", "number"] "from_level" (defScope (top 22)) f cdv A outer s H E) (CfD ⟨K, mg, Ts⟩ [3]) 4 := .mk' rfl rfl hr (show (["k", "n", "numbers", "levels", "_", "rows", "at", "row", "number"] : List Str).Nodup by decide +kernel)
  have tk : Takes (cxOf (L2.CX P w) P w K mg base ["k", "n", "numbers", "levels", "_", "rows", "at", "row", "number"] "from_level" (defScope (top 22)) f cdv A outer s H E) (WD E) := takes_of rfl rfl rfl rfl
  have po := passes_of (X := (cxOf (L2.CX P w) P w K mg base ["k", "n", "numbers", "levels", "_", "rows", "at", "row", "number"] "from_level" (defScope (top 22)) f cdv A outer s H E)) rfl
  exact ⟨_, (pbk_cons (st_expr (m := .rd) (pp_call D_check_depth o rfl (by decide) tk rfl (par_cons (pp_var 0) (par_cons (pp_var 1) par_nil))))
      (pbk_cons (st_if (pt_ne o (PF.pp (pf_sortP o rfl F.b_sorted (PP.h (pp_var 2)))) (PF.pp (pf_listRg1 o rfl rfl F.b_list rfl F.b_range (pp_call D_string_count o rfl (by decide) tk rfl (par_cons (pp_var 0) (par_cons (pp_var 1) par_nil)))))) (pbk_one (st_raise o rfl tk F.x_NotPortrait rfl pp_str)) pbk_nil)
      (pbk_cons (st_setF o 3 (pf_lst par_nil))
      (pbk_cons (st_for o rfl po (pi_r1 o rfl F.b_range (pp_var 1)) (tg_nm o.k 4) (pbk_cons (st_setLc o rfl 5 (own := [("at", 6)]) (pi_r3 o rfl F.b_range pp_int (pp_len o rfl F.b_len (PP.h (pp_var 2))) (pp_var 0)) (blkOk_by (by kernel_rfl)) (wp_nm (by simp)) rfl (fun _ _ _ _ _ => (tg_nm o.blk.k 6)) (fun _ _ _ _ _ => ptf_nil) (fun _ _ _ _ _ => (pp_slice o.blk (PP.h (pp_var 2)) (ppo_some (pp_var 6)) (ppo_some (pp_add o.blk (pp_var 6) (pp_var 0))))) (sw_true rfl rfl rfl (by kernel_rfl)))
      (pbk_cons (st_append o 3 (pp_tupO o rfl F.b_tuple (PP.h (PF.pp (pf_lc o rfl (own := [("row", 7)]) (pi_any o (pp_var 5)) (blkOk_by (by kernel_rfl)) (wp_nm (by simp)) rfl (fun _ _ _ _ _ => (tg_nm o.blk.k 7)) (fun _ _ _ _ _ => ptf_nil) (fun _ _ _ _ _ => (pp_tupO o.blk rfl F.b_tuple (PP.h (PF.pp (pf_lc o.blk rfl (own := [("number", 8)]) (pi_any o.blk (pp_var 7)) (blkOk_by (by kernel_rfl)) (wp_nm (by simp)) rfl (fun _ _ _ _ _ => (tg_nm o.blk.blk.k 8)) (fun _ _ _ _ _ => ptf_nil) (fun _ _ _ _ _ => (pp_mod o.blk.blk (pp_var 8) (pp_var 0)))))))))))))
      (pbk_one (st_set o 2 (pp_tupO o rfl F.b_tuple (PP.h (PF.pp (pf_lcw o tk rfl rfl rfl (own := [("row", 7)]) (pi_any o (pp_var 5)) (blkOk_by (by kernel_rfl)) (wp_nm (by simp)) rfl (fun _ _ _ _ _ => (tg_nm o.blk.k 7)) (fun _ _ _ _ _ => ptf_nil) (fun _ _ _ _ _ _ => (pp_call D_beginning_of o.bx rfl (by decide) takesB rfl (par_cons (pp_var 7) (par_cons (pp_var 0) par_nil)))))))))))))
      (pbk_one (st_ret (pp_tupO o rfl F.b_tuple (PP.h (PF.pp (pf_revL o (ph_own 3)))))))))))⟩
def p__law_told : SX := (tryM (retX (callX (aCons (fV 0) (aCons (fV 1) (aCons (fV 2) aNil))) F_from_level)) ((l_m_BadNumber, (retX (fC (.str "number")))) :: ((l_m_NotPortrait, (retX (fC (.str "portrait")))) :: ((l_m_NoAnswer, (retX (fC (.str "none")))) :: []))))
def F__law_told : FX := defX 3 3 p__law_told
theorem b__law_told {P : Program} {w : World} {base : Heap} {K : PySem.W.Frag} {mg : Str → Option Value} {Ts : List Addr} {f : Addr} {cdv : Value} (F : Fc K mg) (D_from_level : Df P w base ⟨K, mg, Ts⟩ "from_level" 5 3 F_from_level)
    (A : Around) (outer : List Env) (s : Shared) (H : Hp) (E : XK) (hr : Room 5 (A.deeper (envOfC "_law_told" (defScope (top 32)) s.heap.objs.size f cdv))) :
    ∃ t, PBk (cxOf (L2.CX P w) P w K mg base ["k", "n", "numbers"] "_law_told" (defScope (top 32)) f cdv A outer s H E) (CfD ⟨K, mg, Ts⟩ []) (WD E) (defBody (top 32)) t p__law_told := by
  have o : On (cxOf (L2.CX P w) P w K mg base ["k", "n", "numbers"] "_law_told" (defScope (top 32)) f cdv A outer s H E) (CfD ⟨K, mg, Ts⟩ []) 5 := .mk' rfl rfl hr (show (["k", "n", "numbers"] : List Str).Nodup by decide +kernel)
  have tk : Takes (cxOf (L2.CX P w) P w K mg base ["k", "n", "numbers"] "_law_told" (defScope (top 32)) f cdv A outer s H E) (WD E) := takes_of rfl rfl rfl rfl
  have po := passes_of (X := (cxOf (L2.CX P w) P w K mg base ["k", "n", "numbers"] "_law_told" (defScope (top 32)) f cdv A outer s H E)) rfl
  exact ⟨_, (pbk_one (st_try_many o rfl rfl tk (fun W pn xe tk po => (pbk_one (st_ret (pp_call D_from_level o.tr rfl (by decide) tk rfl (par_cons (pp_var 0) (par_cons (pp_var 1) (par_cons (pp_var 2) par_nil))))))) (.cons F.x_BadNumber rfl (by decide) F.m_BadNumber (fun a oe cls d pn hz hf => (pbk_one (st_ret pp_str))) (.cons F.x_NotPortrait rfl (by decide) F.m_NotPortrait (fun a oe cls d pn hz hf => (pbk_one (st_ret pp_str))) (.cons F.x_NoAnswer rfl (by decide) F.m_NoAnswer (fun a oe cls d pn hz hf => (pbk_one (st_ret pp_str))) .nil)))))⟩
def p_law : SX := (seqX (asgX (b2 (fC (.int 2)) (b2 (callX (aCons (fV 0) (aCons (fC (.int 0)) aNil)) F__law_cell) (fC (.int 3)) gMod) gAdd) (bNm 1))
  (seqX (asgX (b2 (b2 (callX (aCons (fV 0) (aCons (fC (.int 0)) aNil)) F__law_cell) (fC (.int 3)) gDiv) (b2 (c1 (aCons (fC (.int 0)) (aCons (fC (.int 0)) (aCons (fC (.int 5)) (aCons (fC (.int 4)) (aCons (fC (.int 3)) aNil))))) gLstD) (fV 1) gIx) gMod) (bNm 2))
  (seqX (asgX (callX (aCons (callX (aCons (fV 0) (aCons (fC (.int 1)) aNil)) F__law_cell) (aCons (fV 1) (aCons (fV 2) aNil))) F__law_portrait) (bNm 3))
  (seqX (asgX (callX (aCons (fV 1) (aCons (fV 2) aNil)) F__law_level) (bNm 4))
  (seqX (asgX (b1 (lcX (iA (fV 4)) [6] (bNm 6) fYes (b2 (fI (fV 4)) (callX (aCons (fV 1) (aCons (fV 3) (aCons (fV 6) aNil))) F__law_acted) gIndex)) gTupO) (bNm 5))
  (seqX (asgX (callX (aCons (fV 1) (aCons (fV 3) aNil)) F_level_of) (bNm 7))
  (seqX (ifS (orT (toT (b2 (b1 (fV 7) gReprD) (b1 (fV 5) gReprD) gNe)) (toT (b2 (b1 (callX (aCons (fV 1) (aCons (fV 2) (aCons (fV 7) aNil))) F__law_told) gReprD) (b1 (fV 3) gReprD) gNe))) (retX (fC (.bool false))) nxX)
  (seqX (asgX (b2 (callX (aCons (fV 0) (aCons (fC (.int 2)) aNil)) F__law_cell) (b1 (fV 4) gLen) gMod) (bNm 8))
  (seqX (asgX (b2 (callX (aCons (fV 0) (aCons (fC (.int 3)) aNil)) F__law_cell) (b1 (fV 4) gLen) gMod) (bNm 9))
  (seqX (asgX (b1 (fV 7) gLstO) (bNmF 10))
  (seqX (asgX (b2 (fO 10) (fV 8) gIx) (bNm 11))
  (seqX (setX 10 (fV 8) (b2 (fO 10) (fV 9) gIx))
  (seqX (setX 10 (fV 9) (fV 11))
  (seqX (asgX (b1 (fO 10) gTupO) (bNm 12))
  (seqX (asgX (callX (aCons (fV 1) (aCons (fV 2) (aCons (fV 12) aNil))) F__law_told) (bNm 13))
  (seqX (ifS (toT (callX (aCons (fV 1) (aCons (fV 2) (aCons (fV 12) aNil))) F__law_keeps)) (ifS (orT (toT (b1 (fV 13) (gIsT "str"))) (toT (b2 (callX (aCons (fV 1) (aCons (fV 13) aNil)) F_level_of) (fV 12) gNe))) (retX (fC (.bool false))) nxX) (ifS (toT (b2 (fV 13) (fC (.str "none")) gNe)) (retX (fC (.bool false))) nxX))
  (seqX (asgX (c1 (aCons (b2 (fV 7) (c1 (aCons (fC (.int 0)) aNil) gTupD) gAdd) (aCons (s3 (fV 7) oNone (oSome (b1 (fC (.int 1)) gNeg)) gSl) (aCons (b2 (s3 (fV 7) oNone (oSome (b1 (fC (.int 1)) gNeg)) gSl) (c1 (aCons (b1 (fC (.int 1)) gNeg) aNil) gTupD) gAdd) (aCons (b2 (s3 (fV 7) oNone (oSome (b1 (fC (.int 1)) gNeg)) gSl) (c1 (aCons (b1 (fV 7) gLen) aNil) gTupD) gAdd) aNil)))) gLstD) (bNm 14))
  (seqX (ifS (toT (b2 (callX (aCons (fV 1) (aCons (fV 2) (aCons (b2 (fV 14) (b2 (callX (aCons (fV 0) (aCons (fC (.int 4)) aNil)) F__law_cell) (fC (.int 4)) gMod) gIx) aNil))) F__law_told) (fC (.str "portrait")) gNe)) (retX (fC (.bool false))) nxX)
  (seqX (ifS (orT (toT (b2 (callX (aCons (fV 1) (aCons (b1 (fC (.int 1)) gNeg) (aCons (c1 aNil gTupD) aNil))) F__law_told) (fC (.str "number")) gNe)) (orT (toT (b2 (callX (aCons (fV 1) (aCons (fC (.int 7)) (aCons (c1 aNil gTupD) aNil))) F__law_told) (fC (.str "number")) gNe)) (toT (b2 (callX (aCons (fC (.int 5)) (aCons (fV 2) (aCons (c1 aNil gTupD) aNil))) F__law_told) (fC (.str "number")) gNe)))) (retX (fC (.bool false))) nxX)
  (retX (andX (b2 (callX (aCons (fC (.int 5)) (aCons (c1 aNil gTupD) aNil)) F__law_refuses) (fC (.str "number")) gEq) (b2 (callX (aCons (fV 1) (aCons (c1 (aCons (c1 aNil gTupD) aNil) gTupD) aNil)) F__law_refuses) (fC (.str "portrait")) gEq))))))))))))))))))))))
def F_law : FX := defX 1 15 p_law
theorem b_law {P : Program} {w : World} {base : Heap} {K : PySem.W.Frag} {mg : Str → Option Value} {Ts : List Addr} {f : Addr} {cdv : Value} (F : Fc K mg) (D__law_cell : Df P w base ⟨K, mg, Ts⟩ "_law_cell" 1 2 F__law_cell) (D__law_portrait : Df P w base ⟨K, mg, Ts⟩ "_law_portrait" 2 3 F__law_portrait) (D__law_level : Df P w base ⟨K, mg, Ts⟩ "_law_level" 1 2 F__law_level) (D__law_acted : Df P w base ⟨K, mg, Ts⟩ "_law_acted" 1 3 F__law_acted) (D_level_of : Df P w base ⟨K, mg, Ts⟩ "level_of" 6 2 F_level_of) (D__law_told : Df P w base ⟨K, mg, Ts⟩ "_law_told" 6 3 F__law_told) (D__law_keeps : Df P w base ⟨K, mg, Ts⟩ "_law_keeps" 2 3 F__law_keeps) (D__law_refuses : Df P w base ⟨K, mg, Ts⟩ "_law_refuses" 7 2 F__law_refuses)
    (A : Around) (outer : List Env) (s : Shared) (H : Hp) (E : XK) (hgd : A.guards = some []) (hr : Room 7 (A.deeper (envOfC "law" (defScope (top 36)) s.heap.objs.size f cdv))) :
    ∃ t, PBk (cxOf (L2.CX P w) P w K mg base ["script", "k", "depth", "portrait", "strings", "due", "string", "numbers", "one", "other", "row", "first", "changed", "told", "strange"] "law" (defScope (top 36)) f cdv A outer s H E) (CfD ⟨K, mg, Ts⟩ [10]) (WD E) (defBody (top 36)) t p_law := by
  have o : On (cxOf (L2.CX P w) P w K mg base ["script", "k", "depth", "portrait", "strings", "due", "string", "numbers", "one", "other", "row", "first", "changed", "told", "strange"] "law" (defScope (top 36)) f cdv A outer s H E) (CfD ⟨K, mg, Ts⟩ [10]) 7 := .mk' rfl rfl hr (show (["script", "k", "depth", "portrait", "strings", "due", "string", "numbers", "one", "other", "row", "first", "changed", "told", "strange"] : List Str).Nodup by decide +kernel)
  have tk : Takes (cxOf (L2.CX P w) P w K mg base ["script", "k", "depth", "portrait", "strings", "due", "string", "numbers", "one", "other", "row", "first", "changed", "told", "strange"] "law" (defScope (top 36)) f cdv A outer s H E) (WD E) := takes_of rfl rfl rfl rfl
  have po := passes_of (X := (cxOf (L2.CX P w) P w K mg base ["script", "k", "depth", "portrait", "strings", "due", "string", "numbers", "one", "other", "row", "first", "changed", "told", "strange"] "law" (defScope (top 36)) f cdv A outer s H E)) rfl
  exact ⟨_, (pbk_cons (st_set o 1 (pp_add o pp_int (pp_mod o (pp_call D__law_cell o rfl (by decide) tk rfl (par_cons (pp_var 0) (par_cons pp_int par_nil))) pp_int)))
      (pbk_cons (st_set o 2 (pp_mod o (pp_div o (pp_call D__law_cell o rfl (by decide) tk rfl (par_cons (pp_var 0) (par_cons pp_int par_nil))) pp_int) (pp_ix o (PP.h (PF.pp (pf_lst (par_cons pp_int (par_cons pp_int (par_cons pp_int (par_cons pp_int (par_cons pp_int par_nil)))))))) (pp_var 1))))
      (pbk_cons (st_set o 3 (pp_call D__law_portrait o rfl (by decide) tk rfl (par_cons (pp_call D__law_cell o rfl (by decide) tk rfl (par_cons (pp_var 0) (par_cons pp_int par_nil))) (par_cons (pp_var 1) (par_cons (pp_var 2) par_nil)))))
      (pbk_cons (st_set o 4 (pp_call D__law_level o rfl (by decide) tk rfl (par_cons (pp_var 1) (par_cons (pp_var 2) par_nil))))
      (pbk_cons (st_set o 5 (pp_tupO o rfl F.b_tuple (PP.h (PF.pp (pf_lc o rfl (own := [("string", 6)]) (pi_any o (pp_var 4)) (blkOk_by (by kernel_rfl)) (wp_nm (by simp)) rfl (fun _ _ _ _ _ => (tg_nm o.blk.k 6)) (fun _ _ _ _ _ => ptf_nil) (fun _ _ _ _ _ => (pp_index o.blk (PP.h (pp_var 4)) (pp_call D__law_acted o.blk rfl (by decide) takes0 rfl (par_cons (pp_var 1) (par_cons (pp_var 3) (par_cons (pp_var 6) par_nil)))))))))))
      (pbk_cons (st_set o 7 (pp_call D_level_of o rfl (by decide) tk rfl (par_cons (pp_var 1) (par_cons (pp_var 3) par_nil))))
      (pbk_cons (st_if (PWt.tt (pwt_or (pt_ne o (pp_reprG o hgd rfl F.b_repr (PP.h (pp_var 7))) (pp_reprG o hgd rfl F.b_repr (PP.h (pp_var 5)))) (pwt_or1 (pt_ne o (pp_reprG o hgd rfl F.b_repr (PP.h (pp_call D__law_told o rfl (by decide) tk rfl (par_cons (pp_var 1) (par_cons (pp_var 2) (par_cons (pp_var 7) par_nil)))))) (pp_reprG o hgd rfl F.b_repr (PP.h (pp_var 3))))))) (pbk_one (st_ret pp_bl)) pbk_nil)
      (pbk_cons (st_set o 8 (pp_mod o (pp_call D__law_cell o rfl (by decide) tk rfl (par_cons (pp_var 0) (par_cons pp_int par_nil))) (pp_len o rfl F.b_len (PP.h (pp_var 4)))))
      (pbk_cons (st_set o 9 (pp_mod o (pp_call D__law_cell o rfl (by decide) tk rfl (par_cons (pp_var 0) (par_cons pp_int par_nil))) (pp_len o rfl F.b_len (PP.h (pp_var 4)))))
      (pbk_cons (st_setF o 10 (pf_lstO o rfl F.b_list (PP.h (pp_var 7))))
      (pbk_cons (st_set o 11 (pp_ix o (ph_own 10) (pp_var 8)))
      (pbk_cons (st_setitem o 10 (pp_var 8) (pp_ix o (ph_own 10) (pp_var 9)))
      (pbk_cons (st_setitem o 10 (pp_var 9) (pp_var 11))
      (pbk_cons (st_set o 12 (pp_tupO o rfl F.b_tuple (ph_own 10)))
      (pbk_cons (st_set o 13 (pp_call D__law_told o rfl (by decide) tk rfl (par_cons (pp_var 1) (par_cons (pp_var 2) (par_cons (pp_var 12) par_nil)))))
      (pbk_cons (st_if (ptt_val (pp_call D__law_keeps o rfl (by decide) tk rfl (par_cons (pp_var 1) (par_cons (pp_var 2) (par_cons (pp_var 12) par_nil))))) (pbk_one (st_if (PWt.tt (pwt_or (ptt_val (pp_isT o rfl F.b_isinstance (PP.h (pp_var 13)) rfl F.b_str (by decide +kernel))) (pwt_or1 (pt_ne o (pp_call D_level_of o rfl (by decide) tk rfl (par_cons (pp_var 1) (par_cons (pp_var 13) par_nil))) (pp_var 12))))) (pbk_one (st_ret pp_bl)) pbk_nil)) (pbk_one (st_if (pt_ne o (pp_var 13) pp_str) (pbk_one (st_ret pp_bl)) pbk_nil)))
      (pbk_cons (st_set o 14 (PF.pp (pf_lst (par_cons (pp_add o (pp_var 7) (pp_tup (par_cons pp_int par_nil))) (par_cons (pp_slice o (PP.h (pp_var 7)) ppo_none (ppo_some (pp_neg o pp_int))) (par_cons (pp_add o (pp_slice o (PP.h (pp_var 7)) ppo_none (ppo_some (pp_neg o pp_int))) (pp_tup (par_cons (pp_neg o pp_int) par_nil))) (par_cons (pp_add o (pp_slice o (PP.h (pp_var 7)) ppo_none (ppo_some (pp_neg o pp_int))) (pp_tup (par_cons (pp_len o rfl F.b_len (PP.h (pp_var 7))) par_nil))) par_nil)))))))
      (pbk_cons (st_if (pt_ne o (pp_call D__law_told o rfl (by decide) tk rfl (par_cons (pp_var 1) (par_cons (pp_var 2) (par_cons (pp_ix o (PP.h (pp_var 14)) (pp_mod o (pp_call D__law_cell o rfl (by decide) tk rfl (par_cons (pp_var 0) (par_cons pp_int par_nil))) pp_int)) par_nil)))) pp_str) (pbk_one (st_ret pp_bl)) pbk_nil)
      (pbk_cons (st_if (PWt.tt (pwt_or (pt_ne o (pp_call D__law_told o rfl (by decide) tk rfl (par_cons (pp_var 1) (par_cons (pp_neg o pp_int) (par_cons (pp_tup par_nil) par_nil)))) pp_str) (pwt_or (pt_ne o (pp_call D__law_told o rfl (by decide) tk rfl (par_cons (pp_var 1) (par_cons pp_int (par_cons (pp_tup par_nil) par_nil)))) pp_str) (pwt_or1 (pt_ne o (pp_call D__law_told o rfl (by decide) tk rfl (par_cons pp_int (par_cons (pp_var 2) (par_cons (pp_tup par_nil) par_nil)))) pp_str))))) (pbk_one (st_ret pp_bl)) pbk_nil)
      (pbk_one (st_ret (pp_and (pp_eq o (pp_call D__law_refuses o rfl (by decide) tk rfl (par_cons pp_int (par_cons (pp_tup par_nil) par_nil))) pp_str) (pp_one (pp_eq o (pp_call D__law_refuses o rfl (by decide) tk rfl (par_cons (pp_var 1) (par_cons (pp_tup (par_cons (pp_tup par_nil) par_nil)) par_nil))) pp_str))))))))))))))))))))))))⟩
theorem sc__law_acted : FnScope ["k", "portrait", "string", "written", "at", "place", "digit"] ["k", "portrait", "string"] (defScope (top 29)) := ⟨rfl, rfl, rfl, by decide +kernel, rfl, by decide +kernel, by decide +kernel⟩
theorem df__law_acted {P : Program} {w : World} {base : Heap} {K : PySem.W.Frag} {mg : Str → Option Value} {Ts : List Addr} (F : Fc K mg)  {f : Addr} {oc kV doc pm cdv ct : Value} {od an : Option Addr} {osl : Array (Option Value)} (a : mg "_law_acted" = some (.ref f)) (l : K.lookup f = some ⟨oc, od, .func (PySem.W.fnOf "_law_acted" "_law_acted" (defArgs (top 29)) (defBody (top 29)) (defScope (top 29)) .none kV doc pm an cdv ct), osl⟩) (c : PySem.W.codeIn K cdv "_law_acted" = true) (k : PySem.W.keepIn K (.ref f) = true) : Df P w base ⟨K, mg, Ts⟩ "_law_acted" 1 3 F__law_acted := df_of (C := ⟨K, mg, Ts⟩) (fl := []) a l c k sc__law_acted (fun us hl => match us, hl with | [_, _, _], _ => rfl) rfl fun A outer s H E hr => b__law_acted F  A outer s H E hr
theorem sc__law_cell : FnScope ["script", "k"] ["script", "k"] (defScope (top 25)) := ⟨rfl, rfl, rfl, by decide +kernel, rfl, by decide +kernel, by decide +kernel⟩
theorem df__law_cell {P : Program} {w : World} {base : Heap} {K : PySem.W.Frag} {mg : Str → Option Value} {Ts : List Addr} (F : Fc K mg)  {f : Addr} {oc kV doc pm cdv ct : Value} {od an : Option Addr} {osl : Array (Option Value)} (a : mg "_law_cell" = some (.ref f)) (l : K.lookup f = some ⟨oc, od, .func (PySem.W.fnOf "_law_cell" "_law_cell" (defArgs (top 25)) (defBody (top 25)) (defScope (top 25)) .none kV doc pm an cdv ct), osl⟩) (c : PySem.W.codeIn K cdv "_law_cell" = true) (k : PySem.W.keepIn K (.ref f) = true) : Df P w base ⟨K, mg, Ts⟩ "_law_cell" 1 2 F__law_cell := df_of (C := ⟨K, mg, Ts⟩) (fl := []) a l c k sc__law_cell (fun us hl => match us, hl with | [_, _], _ => rfl) rfl fun A outer s H E hr => b__law_cell F  A outer s H E hr
theorem sc__law_common : FnScope ["one", "other", "length", "place"] ["one", "other"] (defScope (top 33)) := ⟨rfl, rfl, rfl, by decide +kernel, rfl, by decide +kernel, by decide +kernel⟩
theorem df__law_common {P : Program} {w : World} {base : Heap} {K : PySem.W.Frag} {mg : Str → Option Value} {Ts : List Addr} (F : Fc K mg)  {f : Addr} {oc kV doc pm cdv ct : Value} {od an : Option Addr} {osl : Array (Option Value)} (a : mg "_law_common" = some (.ref f)) (l : K.lookup f = some ⟨oc, od, .func (PySem.W.fnOf "_law_common" "_law_common" (defArgs (top 33)) (defBody (top 33)) (defScope (top 33)) .none kV doc pm an cdv ct), osl⟩) (c : PySem.W.codeIn K cdv "_law_common" = true) (k : PySem.W.keepIn K (.ref f) = true) : Df P w base ⟨K, mg, Ts⟩ "_law_common" 1 2 F__law_common := df_of (C := ⟨K, mg, Ts⟩) (fl := []) a l c k sc__law_common (fun us hl => match us, hl with | [_, _], _ => rfl) rfl fun A outer s H E hr => b__law_common F  A outer s H E hr
theorem sc__law_level : FnScope ["k", "n", "strings", "step", "longer", "one", "digit"] ["k", "n"] (defScope (top 31)) := ⟨rfl, rfl, rfl, by decide +kernel, rfl, by decide +kernel, by decide +kernel⟩
theorem df__law_level {P : Program} {w : World} {base : Heap} {K : PySem.W.Frag} {mg : Str → Option Value} {Ts : List Addr} (F : Fc K mg)  {f : Addr} {oc kV doc pm cdv ct : Value} {od an : Option Addr} {osl : Array (Option Value)} (a : mg "_law_level" = some (.ref f)) (l : K.lookup f = some ⟨oc, od, .func (PySem.W.fnOf "_law_level" "_law_level" (defArgs (top 31)) (defBody (top 31)) (defScope (top 31)) .none kV doc pm an cdv ct), osl⟩) (c : PySem.W.codeIn K cdv "_law_level" = true) (k : PySem.W.keepIn K (.ref f) = true) : Df P w base ⟨K, mg, Ts⟩ "_law_level" 1 2 F__law_level := df_of (C := ⟨K, mg, Ts⟩) (fl := []) a l c k sc__law_level (fun us hl => match us, hl with | [_, _], _ => rfl) rfl fun A outer s H E hr => b__law_level F  A outer s H E hr
theorem sc__law_keeps : FnScope ["k", "n", "numbers", "strings", "one", "other"] ["k", "n", "numbers"] (defScope (top 34)) := ⟨rfl, rfl, rfl, by decide +kernel, rfl, by decide +kernel, by decide +kernel⟩
theorem df__law_keeps {P : Program} {w : World} {base : Heap} {K : PySem.W.Frag} {mg : Str → Option Value} {Ts : List Addr} (F : Fc K mg) (D__law_level : Df P w base ⟨K, mg, Ts⟩ "_law_level" 1 2 F__law_level) (D__law_common : Df P w base ⟨K, mg, Ts⟩ "_law_common" 1 2 F__law_common) {f : Addr} {oc kV doc pm cdv ct : Value} {od an : Option Addr} {osl : Array (Option Value)} (a : mg "_law_keeps" = some (.ref f)) (l : K.lookup f = some ⟨oc, od, .func (PySem.W.fnOf "_law_keeps" "_law_keeps" (defArgs (top 34)) (defBody (top 34)) (defScope (top 34)) .none kV doc pm an cdv ct), osl⟩) (c : PySem.W.codeIn K cdv "_law_keeps" = true) (k : PySem.W.keepIn K (.ref f) = true) : Df P w base ⟨K, mg, Ts⟩ "_law_keeps" 2 3 F__law_keeps := df_of (C := ⟨K, mg, Ts⟩) (fl := []) a l c k sc__law_keeps (fun us hl => match us, hl with | [_, _, _], _ => rfl) rfl fun A outer s H E hr => b__law_keeps F D__law_level D__law_common A outer s H E hr
theorem sc__law_arranged : FnScope ["value", "size", "left", "row", "k", "at"] ["value", "size"] (defScope (top 27)) := ⟨rfl, rfl, rfl, by decide +kernel, rfl, by decide +kernel, by decide +kernel⟩
theorem df__law_arranged {P : Program} {w : World} {base : Heap} {K : PySem.W.Frag} {mg : Str → Option Value} {Ts : List Addr} (F : Fc K mg)  {f : Addr} {oc kV doc pm cdv ct : Value} {od an : Option Addr} {osl : Array (Option Value)} (a : mg "_law_arranged" = some (.ref f)) (l : K.lookup f = some ⟨oc, od, .func (PySem.W.fnOf "_law_arranged" "_law_arranged" (defArgs (top 27)) (defBody (top 27)) (defScope (top 27)) .none kV doc pm an cdv ct), osl⟩) (c : PySem.W.codeIn K cdv "_law_arranged" = true) (k : PySem.W.keepIn K (.ref f) = true) : Df P w base ⟨K, mg, Ts⟩ "_law_arranged" 1 2 F__law_arranged := df_of (C := ⟨K, mg, Ts⟩) (fl := [3]) a l c k sc__law_arranged (fun us hl => match us, hl with | [_, _], _ => rfl) rfl fun A outer s H E hr => b__law_arranged F  A outer s H E hr
theorem sc__law_values : FnScope ["cell", "count", "size", "values", "rest", "k", "mixed"] ["cell", "count", "size"] (defScope (top 26)) := ⟨rfl, rfl, rfl, by decide +kernel, rfl, by decide +kernel, by decide +kernel⟩
theorem df__law_values {P : Program} {w : World} {base : Heap} {K : PySem.W.Frag} {mg : Str → Option Value} {Ts : List Addr} (F : Fc K mg)  {f : Addr} {oc kV doc pm cdv ct : Value} {od an : Option Addr} {osl : Array (Option Value)} (a : mg "_law_values" = some (.ref f)) (l : K.lookup f = some ⟨oc, od, .func (PySem.W.fnOf "_law_values" "_law_values" (defArgs (top 26)) (defBody (top 26)) (defScope (top 26)) .none kV doc pm an cdv ct), osl⟩) (c : PySem.W.codeIn K cdv "_law_values" = true) (k : PySem.W.keepIn K (.ref f) = true) : Df P w base ⟨K, mg, Ts⟩ "_law_values" 1 3 F__law_values := df_of (C := ⟨K, mg, Ts⟩) (fl := [3]) a l c k sc__law_values (fun us hl => match us, hl with | [_, _, _], _ => rfl) rfl fun A outer s H E hr => b__law_values F  A outer s H E hr
theorem sc__law_portrait : FnScope ["cell", "k", "depth", "levels", "size", "level", "values", "value"] ["cell", "k", "depth"] (defScope (top 28)) := ⟨rfl, rfl, rfl, by decide +kernel, rfl, by decide +kernel, by decide +kernel⟩
theorem df__law_portrait {P : Program} {w : World} {base : Heap} {K : PySem.W.Frag} {mg : Str → Option Value} {Ts : List Addr} (F : Fc K mg) (D__law_values : Df P w base ⟨K, mg, Ts⟩ "_law_values" 1 3 F__law_values) (D__law_arranged : Df P w base ⟨K, mg, Ts⟩ "_law_arranged" 1 2 F__law_arranged) {f : Addr} {oc kV doc pm cdv ct : Value} {od an : Option Addr} {osl : Array (Option Value)} (a : mg "_law_portrait" = some (.ref f)) (l : K.lookup f = some ⟨oc, od, .func (PySem.W.fnOf "_law_portrait" "_law_portrait" (defArgs (top 28)) (defBody (top 28)) (defScope (top 28)) .none kV doc pm an cdv ct), osl⟩) (c : PySem.W.codeIn K cdv "_law_portrait" = true) (k : PySem.W.keepIn K (.ref f) = true) : Df P w base ⟨K, mg, Ts⟩ "_law_portrait" 2 3 F__law_portrait := df_of (C := ⟨K, mg, Ts⟩) (fl := [3]) a l c k sc__law_portrait (fun us hl => match us, hl with | [_, _, _], _ => rfl) rfl fun A outer s H E hr => b__law_portrait F D__law_values D__law_arranged A outer s H E hr
theorem sc_check_count : FnScope ["k"] ["k"] (defScope (top 8)) := ⟨rfl, rfl, rfl, by decide +kernel, rfl, by decide +kernel, by decide +kernel⟩
theorem df_check_count {P : Program} {w : World} {base : Heap} {K : PySem.W.Frag} {mg : Str → Option Value} {Ts : List Addr} (F : Fc K mg)  {f : Addr} {oc kV doc pm cdv ct : Value} {od an : Option Addr} {osl : Array (Option Value)} (a : mg "check_count" = some (.ref f)) (l : K.lookup f = some ⟨oc, od, .func (PySem.W.fnOf "check_count" "check_count" (defArgs (top 8)) (defBody (top 8)) (defScope (top 8)) .none kV doc pm an cdv ct), osl⟩) (c : PySem.W.codeIn K cdv "check_count" = true) (k : PySem.W.keepIn K (.ref f) = true) : Df P w base ⟨K, mg, Ts⟩ "check_count" 1 1 F_check_count := df_of (C := ⟨K, mg, Ts⟩) (fl := []) a l c k sc_check_count (fun us hl => match us, hl with | [_], _ => rfl) rfl fun A outer s H E hr => b_check_count F  A outer s H E hr
theorem sc_string_count : FnScope ["k", "level", "count", "_"] ["k", "level"] (defScope (top 10)) := ⟨rfl, rfl, rfl, by decide +kernel, rfl, by decide +kernel, by decide +kernel⟩
theorem df_string_count {P : Program} {w : World} {base : Heap} {K : PySem.W.Frag} {mg : Str → Option Value} {Ts : List Addr} (F : Fc K mg)  {f : Addr} {oc kV doc pm cdv ct : Value} {od an : Option Addr} {osl : Array (Option Value)} (a : mg "string_count" = some (.ref f)) (l : K.lookup f = some ⟨oc, od, .func (PySem.W.fnOf "string_count" "string_count" (defArgs (top 10)) (defBody (top 10)) (defScope (top 10)) .none kV doc pm an cdv ct), osl⟩) (c : PySem.W.codeIn K cdv "string_count" = true) (k : PySem.W.keepIn K (.ref f) = true) : Df P w base ⟨K, mg, Ts⟩ "string_count" 1 2 F_string_count := df_of (C := ⟨K, mg, Ts⟩) (fl := []) a l c k sc_string_count (fun us hl => match us, hl with | [_, _], _ => rfl) rfl fun A outer s H E hr => b_string_count F  A outer s H E hr
theorem sc_arrangement_count : FnScope ["k", "depth", "level"] ["k", "depth"] (defScope (top 14)) := ⟨rfl, rfl, rfl, by decide +kernel, rfl, by decide +kernel, by decide +kernel⟩
theorem df_arrangement_count {P : Program} {w : World} {base : Heap} {K : PySem.W.Frag} {mg : Str → Option Value} {Ts : List Addr} (F : Fc K mg) (D_string_count : Df P w base ⟨K, mg, Ts⟩ "string_count" 1 2 F_string_count) {f : Addr} {oc kV doc pm cdv ct : Value} {od an : Option Addr} {osl : Array (Option Value)} (a : mg "arrangement_count" = some (.ref f)) (l : K.lookup f = some ⟨oc, od, .func (PySem.W.fnOf "arrangement_count" "arrangement_count" (defArgs (top 14)) (defBody (top 14)) (defScope (top 14)) .none kV doc pm an cdv ct), osl⟩) (c : PySem.W.codeIn K cdv "arrangement_count" = true) (k : PySem.W.keepIn K (.ref f) = true) : Df P w base ⟨K, mg, Ts⟩ "arrangement_count" 2 2 F_arrangement_count := df_of (C := ⟨K, mg, Ts⟩) (fl := []) a l c k sc_arrangement_count (fun us hl => match us, hl with | [_, _], _ => rfl) rfl fun A outer s H E hr => b_arrangement_count F D_string_count A outer s H E hr
theorem sc_is_depth : FnScope ["k", "depth"] ["k", "depth"] (defScope (top 15)) := ⟨rfl, rfl, rfl, by decide +kernel, rfl, by decide +kernel, by decide +kernel⟩
theorem df_is_depth {P : Program} {w : World} {base : Heap} {K : PySem.W.Frag} {mg : Str → Option Value} {Ts : List Addr} (F : Fc K mg) (D_arrangement_count : Df P w base ⟨K, mg, Ts⟩ "arrangement_count" 2 2 F_arrangement_count) {f : Addr} {oc kV doc pm cdv ct : Value} {od an : Option Addr} {osl : Array (Option Value)} (a : mg "is_depth" = some (.ref f)) (l : K.lookup f = some ⟨oc, od, .func (PySem.W.fnOf "is_depth" "is_depth" (defArgs (top 15)) (defBody (top 15)) (defScope (top 15)) .none kV doc pm an cdv ct), osl⟩) (c : PySem.W.codeIn K cdv "is_depth" = true) (k : PySem.W.keepIn K (.ref f) = true) : Df P w base ⟨K, mg, Ts⟩ "is_depth" 3 2 F_is_depth := df_of (C := ⟨K, mg, Ts⟩) (fl := []) a l c k sc_is_depth (fun us hl => match us, hl with | [_, _], _ => rfl) rfl fun A outer s H E hr => b_is_depth F D_arrangement_count A outer s H E hr
theorem sc_is_level : FnScope ["k", "level", "count_there", "digits", "arrangement"] ["k", "level", "count_there"] (defScope (top 18)) := ⟨rfl, rfl, rfl, by decide +kernel, rfl, by decide +kernel, by decide +kernel⟩
theorem df_is_level {P : Program} {w : World} {base : Heap} {K : PySem.W.Frag} {mg : Str → Option Value} {Ts : List Addr} (F : Fc K mg)  {f : Addr} {oc kV doc pm cdv ct : Value} {od an : Option Addr} {osl : Array (Option Value)} {cc PP_ : Addr} (hP : PP_ ∈ Ts) (TB : LamX.TabB base mg cc PP_) (hcd : cdv = .ref cc) (a : mg "is_level" = some (.ref f)) (l : K.lookup f = some ⟨oc, od, .func (PySem.W.fnOf "is_level" "is_level" (defArgs (top 18)) (defBody (top 18)) (defScope (top 18)) .none kV doc pm an cdv ct), osl⟩) (c : PySem.W.codeIn K cdv "is_level" = true) (k : PySem.W.keepIn K (.ref f) = true) : Df P w base ⟨K, mg, Ts⟩ "is_level" 2 3 F_is_level := df_of (C := ⟨K, mg, Ts⟩) (fl := []) a l c k sc_is_level (fun us hl => match us, hl with | [_, _, _], _ => rfl) rfl fun A outer s H E hr => b_is_level F  hP TB hcd A outer s H E hr
theorem sc_is_portrait : FnScope ["k", "portrait", "at", "level"] ["k", "portrait"] (defScope (top 17)) := ⟨rfl, rfl, rfl, by decide +kernel, rfl, by decide +kernel, by decide +kernel⟩
theorem df_is_portrait {P : Program} {w : World} {base : Heap} {K : PySem.W.Frag} {mg : Str → Option Value} {Ts : List Addr} (F : Fc K mg) (D_check_count : Df P w base ⟨K, mg, Ts⟩ "check_count" 1 1 F_check_count) (D_is_depth : Df P w base ⟨K, mg, Ts⟩ "is_depth" 3 2 F_is_depth) (D_string_count : Df P w base ⟨K, mg, Ts⟩ "string_count" 1 2 F_string_count) (D_is_level : Df P w base ⟨K, mg, Ts⟩ "is_level" 2 3 F_is_level) {f : Addr} {oc kV doc pm cdv ct : Value} {od an : Option Addr} {osl : Array (Option Value)} {cc PP_ : Addr} (hP : PP_ ∈ Ts) (TB : LamX.TabB base mg cc PP_) (hcd : cdv = .ref cc) (a : mg "is_portrait" = some (.ref f)) (l : K.lookup f = some ⟨oc, od, .func (PySem.W.fnOf "is_portrait" "is_portrait" (defArgs (top 17)) (defBody (top 17)) (defScope (top 17)) .none kV doc pm an cdv ct), osl⟩) (c : PySem.W.codeIn K cdv "is_portrait" = true) (k : PySem.W.keepIn K (.ref f) = true) : Df P w base ⟨K, mg, Ts⟩ "is_portrait" 4 2 F_is_portrait := df_of (C := ⟨K, mg, Ts⟩) (fl := []) a l c k sc_is_portrait (fun us hl => match us, hl with | [_, _], _ => rfl) rfl fun A outer s H E hr => b_is_portrait F D_check_count D_is_depth D_string_count D_is_level hP TB hcd A outer s H E hr
theorem sc_check_portrait : FnScope ["k", "portrait"] ["k", "portrait"] (defScope (top 19)) := ⟨rfl, rfl, rfl, by decide +kernel, rfl, by decide +kernel, by decide +kernel⟩
theorem df_check_portrait {P : Program} {w : World} {base : Heap} {K : PySem.W.Frag} {mg : Str → Option Value} {Ts : List Addr} (F : Fc K mg) (D_is_portrait : Df P w base ⟨K, mg, Ts⟩ "is_portrait" 4 2 F_is_portrait) {f : Addr} {oc kV doc pm cdv ct : Value} {od an : Option Addr} {osl : Array (Option Value)} (a : mg "check_portrait" = some (.ref f)) (l : K.lookup f = some ⟨oc, od, .func (PySem.W.fnOf "check_portrait" "check_portrait" (defArgs (top 19)) (defBody (top 19)) (defScope (top 19)) .none kV doc pm an cdv ct), osl⟩) (c : PySem.W.codeIn K cdv "check_portrait" = true) (k : PySem.W.keepIn K (.ref f) = true) : Df P w base ⟨K, mg, Ts⟩ "check_portrait" 5 2 F_check_portrait := df_of (C := ⟨K, mg, Ts⟩) (fl := []) a l c k sc_check_portrait (fun us hl => match us, hl with | [_, _], _ => rfl) rfl fun A outer s H E hr => b_check_portrait F D_is_portrait A outer s H E hr
theorem sc_turns_on_levels : FnScope ["k", "portrait", "turns", "level", "turn", "out", "u", "arrangement"] ["k", "portrait"] (defScope (top 20)) := ⟨rfl, rfl, rfl, by decide +kernel, rfl, by decide +kernel, by decide +kernel⟩
theorem df_turns_on_levels {P : Program} {w : World} {base : Heap} {K : PySem.W.Frag} {mg : Str → Option Value} {Ts : List Addr} (F : Fc K mg)  {f : Addr} {oc kV doc pm cdv ct : Value} {od an : Option Addr} {osl : Array (Option Value)} (a : mg "turns_on_levels" = some (.ref f)) (l : K.lookup f = some ⟨oc, od, .func (PySem.W.fnOf "turns_on_levels" "turns_on_levels" (defArgs (top 20)) (defBody (top 20)) (defScope (top 20)) .none kV doc pm an cdv ct), osl⟩) (c : PySem.W.codeIn K cdv "turns_on_levels" = true) (k : PySem.W.keepIn K (.ref f) = true) : Df P w base ⟨K, mg, Ts⟩ "turns_on_levels" 1 2 F_turns_on_levels := df_of (C := ⟨K, mg, Ts⟩) (fl := [2]) a l c k sc_turns_on_levels (fun us hl => match us, hl with | [_, _], _ => rfl) rfl fun A outer s H E hr => b_turns_on_levels F  A outer s H E hr
theorem sc_level_of : FnScope ["k", "portrait"] ["k", "portrait"] (defScope (top 21)) := ⟨rfl, rfl, rfl, by decide +kernel, rfl, by decide +kernel, by decide +kernel⟩
theorem df_level_of {P : Program} {w : World} {base : Heap} {K : PySem.W.Frag} {mg : Str → Option Value} {Ts : List Addr} (F : Fc K mg) (D_check_portrait : Df P w base ⟨K, mg, Ts⟩ "check_portrait" 5 2 F_check_portrait) (D_turns_on_levels : Df P w base ⟨K, mg, Ts⟩ "turns_on_levels" 1 2 F_turns_on_levels) {f : Addr} {oc kV doc pm cdv ct : Value} {od an : Option Addr} {osl : Array (Option Value)} (a : mg "level_of" = some (.ref f)) (l : K.lookup f = some ⟨oc, od, .func (PySem.W.fnOf "level_of" "level_of" (defArgs (top 21)) (defBody (top 21)) (defScope (top 21)) .none kV doc pm an cdv ct), osl⟩) (c : PySem.W.codeIn K cdv "level_of" = true) (k : PySem.W.keepIn K (.ref f) = true) : Df P w base ⟨K, mg, Ts⟩ "level_of" 6 2 F_level_of := df_of (C := ⟨K, mg, Ts⟩) (fl := []) a l c k sc_level_of (fun us hl => match us, hl with | [_, _], _ => rfl) rfl fun A outer s H E hr => b_level_of F D_check_portrait D_turns_on_levels A outer s H E hr
theorem sc__law_refuses : FnScope ["k", "portrait"] ["k", "portrait"] (defScope (top 35)) := ⟨rfl, rfl, rfl, by decide +kernel, rfl, by decide +kernel, by decide +kernel⟩
theorem df__law_refuses {P : Program} {w : World} {base : Heap} {K : PySem.W.Frag} {mg : Str → Option Value} {Ts : List Addr} (F : Fc K mg) (D_level_of : Df P w base ⟨K, mg, Ts⟩ "level_of" 6 2 F_level_of) {f : Addr} {oc kV doc pm cdv ct : Value} {od an : Option Addr} {osl : Array (Option Value)} (a : mg "_law_refuses" = some (.ref f)) (l : K.lookup f = some ⟨oc, od, .func (PySem.W.fnOf "_law_refuses" "_law_refuses" (defArgs (top 35)) (defBody (top 35)) (defScope (top 35)) .none kV doc pm an cdv ct), osl⟩) (c : PySem.W.codeIn K cdv "_law_refuses" = true) (k : PySem.W.keepIn K (.ref f) = true) : Df P w base ⟨K, mg, Ts⟩ "_law_refuses" 7 2 F__law_refuses := df_of (C := ⟨K, mg, Ts⟩) (fl := []) a l c k sc__law_refuses (fun us hl => match us, hl with | [_, _], _ => rfl) rfl fun A outer s H E hr => b__law_refuses F D_level_of A outer s H E hr
theorem sc_beginning_of : FnScope ["row", "k", "beginning", "number"] ["row", "k"] (defScope (top 23)) := ⟨rfl, rfl, rfl, by decide +kernel, rfl, by decide +kernel, by decide +kernel⟩
theorem df_beginning_of {P : Program} {w : World} {base : Heap} {K : PySem.W.Frag} {mg : Str → Option Value} {Ts : List Addr} (F : Fc K mg)  {f : Addr} {oc kV doc pm cdv ct : Value} {od an : Option Addr} {osl : Array (Option Value)} {cc PP_ : Addr} (hP : PP_ ∈ Ts) (TB : LamX.TabB base mg cc PP_) (hcd : cdv = .ref cc) (a : mg "beginning_of" = some (.ref f)) (l : K.lookup f = some ⟨oc, od, .func (PySem.W.fnOf "beginning_of" "beginning_of" (defArgs (top 23)) (defBody (top 23)) (defScope (top 23)) .none kV doc pm an cdv ct), osl⟩) (c : PySem.W.codeIn K cdv "beginning_of" = true) (k : PySem.W.keepIn K (.ref f) = true) : Df P w base ⟨K, mg, Ts⟩ "beginning_of" 2 2 F_beginning_of := df_of (C := ⟨K, mg, Ts⟩) (fl := []) a l c k sc_beginning_of (fun us hl => match us, hl with | [_, _], _ => rfl) rfl fun A outer s H E hr => b_beginning_of F  hP TB hcd A outer s H E hr
theorem sc_check_depth : FnScope ["k", "depth"] ["k", "depth"] (defScope (top 16)) := ⟨rfl, rfl, rfl, by decide +kernel, rfl, by decide +kernel, by decide +kernel⟩
theorem df_check_depth {P : Program} {w : World} {base : Heap} {K : PySem.W.Frag} {mg : Str → Option Value} {Ts : List Addr} (F : Fc K mg) (D_check_count : Df P w base ⟨K, mg, Ts⟩ "check_count" 1 1 F_check_count) (D_is_depth : Df P w base ⟨K, mg, Ts⟩ "is_depth" 3 2 F_is_depth) {f : Addr} {oc kV doc pm cdv ct : Value} {od an : Option Addr} {osl : Array (Option Value)} (a : mg "check_depth" = some (.ref f)) (l : K.lookup f = some ⟨oc, od, .func (PySem.W.fnOf "check_depth" "check_depth" (defArgs (top 16)) (defBody (top 16)) (defScope (top 16)) .none kV doc pm an cdv ct), osl⟩) (c : PySem.W.codeIn K cdv "check_depth" = true) (k : PySem.W.keepIn K (.ref f) = true) : Df P w base ⟨K, mg, Ts⟩ "check_depth" 4 2 F_check_depth := df_of (C := ⟨K, mg, Ts⟩) (fl := []) a l c k sc_check_depth (fun us hl => match us, hl with | [_, _], _ => rfl) rfl fun A outer s H E hr => b_check_depth F D_check_count D_is_depth A outer s H E hr
theorem sc_from_level : FnScope ["k", "n", "numbers", "levels", "_", "rows", "at", "row", "number"] ["k", "n", "numbers"] (defScope (top 22)) := ⟨rfl, rfl, rfl, by decide +kernel, rfl, by decide +kernel, by decide +kernel⟩
theorem df_from_level {P : Program} {w : World} {base : Heap} {K : PySem.W.Frag} {mg : Str → Option Value} {Ts : List Addr} (F : Fc K mg) (D_check_depth : Df P w base ⟨K, mg, Ts⟩ "check_depth" 4 2 F_check_depth) (D_string_count : Df P w base ⟨K, mg, Ts⟩ "string_count" 1 2 F_string_count) (D_beginning_of : Df P w base ⟨K, mg, Ts⟩ "beginning_of" 2 2 F_beginning_of) {f : Addr} {oc kV doc pm cdv ct : Value} {od an : Option Addr} {osl : Array (Option Value)} (a : mg "from_level" = some (.ref f)) (l : K.lookup f = some ⟨oc, od, .func (PySem.W.fnOf "from_level" "from_level" (defArgs (top 22)) (defBody (top 22)) (defScope (top 22)) .none kV doc pm an cdv ct), osl⟩) (c : PySem.W.codeIn K cdv "from_level" = true) (k : PySem.W.keepIn K (.ref f) = true) : Df P w base ⟨K, mg, Ts⟩ "from_level" 5 3 F_from_level := df_of (C := ⟨K, mg, Ts⟩) (fl := [3]) a l c k sc_from_level (fun us hl => match us, hl with | [_, _, _], _ => rfl) rfl fun A outer s H E hr => b_from_level F D_check_depth D_string_count D_beginning_of A outer s H E hr
theorem sc__law_told : FnScope ["k", "n", "numbers"] ["k", "n", "numbers"] (defScope (top 32)) := ⟨rfl, rfl, rfl, by decide +kernel, rfl, by decide +kernel, by decide +kernel⟩
theorem df__law_told {P : Program} {w : World} {base : Heap} {K : PySem.W.Frag} {mg : Str → Option Value} {Ts : List Addr} (F : Fc K mg) (D_from_level : Df P w base ⟨K, mg, Ts⟩ "from_level" 5 3 F_from_level) {f : Addr} {oc kV doc pm cdv ct : Value} {od an : Option Addr} {osl : Array (Option Value)} (a : mg "_law_told" = some (.ref f)) (l : K.lookup f = some ⟨oc, od, .func (PySem.W.fnOf "_law_told" "_law_told" (defArgs (top 32)) (defBody (top 32)) (defScope (top 32)) .none kV doc pm an cdv ct), osl⟩) (c : PySem.W.codeIn K cdv "_law_told" = true) (k : PySem.W.keepIn K (.ref f) = true) : Df P w base ⟨K, mg, Ts⟩ "_law_told" 6 3 F__law_told := df_of (C := ⟨K, mg, Ts⟩) (fl := []) a l c k sc__law_told (fun us hl => match us, hl with | [_, _, _], _ => rfl) rfl fun A outer s H E hr => b__law_told F D_from_level A outer s H E hr
theorem sc_law : FnScope ["script", "k", "depth", "portrait", "strings", "due", "string", "numbers", "one", "other", "row", "first", "changed", "told", "strange"] ["script"] (defScope (top 36)) := ⟨rfl, rfl, rfl, by decide +kernel, rfl, by decide +kernel, by decide +kernel⟩
theorem df_law {P : Program} {w : World} {base : Heap} {K : PySem.W.Frag} {mg : Str → Option Value} {Ts : List Addr} (F : Fc K mg) (D__law_cell : Df P w base ⟨K, mg, Ts⟩ "_law_cell" 1 2 F__law_cell) (D__law_portrait : Df P w base ⟨K, mg, Ts⟩ "_law_portrait" 2 3 F__law_portrait) (D__law_level : Df P w base ⟨K, mg, Ts⟩ "_law_level" 1 2 F__law_level) (D__law_acted : Df P w base ⟨K, mg, Ts⟩ "_law_acted" 1 3 F__law_acted) (D_level_of : Df P w base ⟨K, mg, Ts⟩ "level_of" 6 2 F_level_of) (D__law_told : Df P w base ⟨K, mg, Ts⟩ "_law_told" 6 3 F__law_told) (D__law_keeps : Df P w base ⟨K, mg, Ts⟩ "_law_keeps" 2 3 F__law_keeps) (D__law_refuses : Df P w base ⟨K, mg, Ts⟩ "_law_refuses" 7 2 F__law_refuses) {f : Addr} {oc kV doc pm cdv ct : Value} {od an : Option Addr} {osl : Array (Option Value)} (a : mg "law" = some (.ref f)) (l : K.lookup f = some ⟨oc, od, .func (PySem.W.fnOf "law" "law" (defArgs (top 36)) (defBody (top 36)) (defScope (top 36)) .none kV doc pm an cdv ct), osl⟩) (c : PySem.W.codeIn K cdv "law" = true) (k : PySem.W.keepIn K (.ref f) = true) : FnG P w K mg base (L2.CX P w) 8 f (PySem.W.fnOf "law" "law" (defArgs (top 36)) (defBody (top 36)) (defScope (top 36)) .none kV doc pm an cdv ct) ["script"] (spF ⟨K, mg, Ts⟩ 1 F_law) := fn_zG (C := ⟨K, mg, Ts⟩) (fl := [10]) a l c k sc_law (fun us hl => match us, hl with | [_], _ => rfl) rfl fun A outer s H E hgd hr => b_law F D__law_cell D__law_portrait D__law_level D__law_acted D_level_of D__law_told D__law_keeps D__law_refuses A outer s H E hgd hr
theorem mk {l : PySem.W.OpenLaw} {w : World} {K : PySem.W.Frag} {h : Heap} {mg mb : Str → Option Value} {mean : ExcName → Option Value} {q : Program} {loose : List Str} {fa : Addr} {most : Nat} (X : K.In h) (G : h.Ns mainGlobals mg) (T : Top q loose mean mg mb h) (hfa : mg "law" = some (.ref fa))
    {t_GREATEST_DEPTH : Tok} {t_LEAST_DIGITS : Tok} {t_MOST_ARRANGEMENTS : Tok} {t_MOST_DIGITS : Tok} {C_BadNumber : Addr} {C_LeafError : Addr} {C_NoAnswer : Addr} {C_NotPortrait : Addr} {f29 : Addr} {oc29 kV29 doc29 pm29 ct29 cd29 : Value} {od29 an29 : Option Addr} {sl29 : Array (Option Value)} {f25 : Addr} {oc25 kV25 doc25 pm25 ct25 cd25 : Value} {od25 an25 : Option Addr} {sl25 : Array (Option Value)} {f33 : Addr} {oc33 kV33 doc33 pm33 ct33 cd33 : Value} {od33 an33 : Option Addr} {sl33 : Array (Option Value)} {f31 : Addr} {oc31 kV31 doc31 pm31 ct31 cd31 : Value} {od31 an31 : Option Addr} {sl31 : Array (Option Value)} {f34 : Addr} {oc34 kV34 doc34 pm34 ct34 cd34 : Value} {od34 an34 : Option Addr} {sl34 : Array (Option Value)} {f27 : Addr} {oc27 kV27 doc27 pm27 ct27 cd27 : Value} {od27 an27 : Option Addr} {sl27 : Array (Option Value)} {f26 : Addr} {oc26 kV26 doc26 pm26 ct26 cd26 : Value} {od26 an26 : Option Addr} {sl26 : Array (Option Value)} {f28 : Addr} {oc28 kV28 doc28 pm28 ct28 cd28 : Value} {od28 an28 : Option Addr} {sl28 : Array (Option Value)} {f8 : Addr} {oc8 kV8 doc8 pm8 ct8 cd8 : Value} {od8 an8 : Option Addr} {sl8 : Array (Option Value)} {f10 : Addr} {oc10 kV10 doc10 pm10 ct10 cd10 : Value} {od10 an10 : Option Addr} {sl10 : Array (Option Value)} {f14 : Addr} {oc14 kV14 doc14 pm14 ct14 cd14 : Value} {od14 an14 : Option Addr} {sl14 : Array (Option Value)} {f15 : Addr} {oc15 kV15 doc15 pm15 ct15 cd15 : Value} {od15 an15 : Option Addr} {sl15 : Array (Option Value)} {f18 : Addr} {oc18 kV18 doc18 pm18 ct18 : Value} {od18 an18 : Option Addr} {sl18 : Array (Option Value)} {cc18 P18 : Addr} {ev18 : Value} {dd18 : Option Addr} {vs18 : Array Value} {es18 : Array (Option Value)} {f17 : Addr} {oc17 kV17 doc17 pm17 ct17 : Value} {od17 an17 : Option Addr} {sl17 : Array (Option Value)} {cc17 P17 : Addr} {ev17 : Value} {dd17 : Option Addr} {vs17 : Array Value} {es17 : Array (Option Value)} {f19 : Addr} {oc19 kV19 doc19 pm19 ct19 cd19 : Value} {od19 an19 : Option Addr} {sl19 : Array (Option Value)} {f20 : Addr} {oc20 kV20 doc20 pm20 ct20 cd20 : Value} {od20 an20 : Option Addr} {sl20 : Array (Option Value)} {f21 : Addr} {oc21 kV21 doc21 pm21 ct21 cd21 : Value} {od21 an21 : Option Addr} {sl21 : Array (Option Value)} {f35 : Addr} {oc35 kV35 doc35 pm35 ct35 cd35 : Value} {od35 an35 : Option Addr} {sl35 : Array (Option Value)} {f23 : Addr} {oc23 kV23 doc23 pm23 ct23 : Value} {od23 an23 : Option Addr} {sl23 : Array (Option Value)} {cc23 P23 : Addr} {ev23 : Value} {dd23 : Option Addr} {vs23 : Array Value} {es23 : Array (Option Value)} {f16 : Addr} {oc16 kV16 doc16 pm16 ct16 cd16 : Value} {od16 an16 : Option Addr} {sl16 : Array (Option Value)} {f22 : Addr} {oc22 kV22 doc22 pm22 ct22 cd22 : Value} {od22 an22 : Option Addr} {sl22 : Array (Option Value)} {f32 : Addr} {oc32 kV32 doc32 pm32 ct32 cd32 : Value} {od32 an32 : Option Addr} {sl32 : Array (Option Value)} {f36 : Addr} {oc36 kV36 doc36 pm36 ct36 cd36 : Value} {od36 an36 : Option Addr} {sl36 : Array (Option Value)}
    (b_all : PySem.W.nsIn K mainGlobals "all" = some none)
    (b_enumerate : PySem.W.nsIn K mainGlobals "enumerate" = some none)
    (b_int : PySem.W.nsIn K mainGlobals "int" = some none)
    (b_isinstance : PySem.W.nsIn K mainGlobals "isinstance" = some none)
    (b_len : PySem.W.nsIn K mainGlobals "len" = some none)
    (b_list : PySem.W.nsIn K mainGlobals "list" = some none)
    (b_range : PySem.W.nsIn K mainGlobals "range" = some none)
    (b_repr : PySem.W.nsIn K mainGlobals "repr" = some none)
    (b_sorted : PySem.W.nsIn K mainGlobals "sorted" = some none)
    (b_str : PySem.W.nsIn K mainGlobals "str" = some none)
    (b_sum : PySem.W.nsIn K mainGlobals "sum" = some none)
    (b_tuple : PySem.W.nsIn K mainGlobals "tuple" = some none)
    (g_GREATEST_DEPTH : PySem.W.nsIn K mainGlobals "GREATEST_DEPTH" = some (some (.int 6 t_GREATEST_DEPTH)))
    (g_LEAST_DIGITS : PySem.W.nsIn K mainGlobals "LEAST_DIGITS" = some (some (.int 2 t_LEAST_DIGITS)))
    (g_MOST_ARRANGEMENTS : PySem.W.nsIn K mainGlobals "MOST_ARRANGEMENTS" = some (some (.int 400 t_MOST_ARRANGEMENTS)))
    (g_MOST_DIGITS : PySem.W.nsIn K mainGlobals "MOST_DIGITS" = some (some (.int 4 t_MOST_DIGITS)))
    (e0_BadNumber : PySem.W.nsIn K mainGlobals "BadNumber" = some (some (.ref C_BadNumber)))
    (e1_BadNumber : PySem.W.excIn K C_BadNumber [.type "ValueError", .type "Exception", .type "BaseException", .type "object"] "ValueError.__new__" = true)
    (e2_BadNumber : PySem.W.keepIn K (.ref C_BadNumber) = true)
    (e3_BadNumber : PySem.W.subIn K (.ref C_BadNumber) (.type "BaseException") = some true)
    (e4_BadNumber : PySem.W.typeIn K (.ref C_BadNumber) = some (.type "type"))
    (e0_LeafError : PySem.W.nsIn K mainGlobals "LeafError" = some (some (.ref C_LeafError)))
    (e1_LeafError : PySem.W.excIn K C_LeafError [.type "ValueError", .type "Exception", .type "BaseException", .type "object"] "ValueError.__new__" = true)
    (e2_LeafError : PySem.W.keepIn K (.ref C_LeafError) = true)
    (e3_LeafError : PySem.W.subIn K (.ref C_LeafError) (.type "BaseException") = some true)
    (e4_LeafError : PySem.W.typeIn K (.ref C_LeafError) = some (.type "type"))
    (e0_NoAnswer : PySem.W.nsIn K mainGlobals "NoAnswer" = some (some (.ref C_NoAnswer)))
    (e1_NoAnswer : PySem.W.excIn K C_NoAnswer [.type "ValueError", .type "Exception", .type "BaseException", .type "object"] "ValueError.__new__" = true)
    (e2_NoAnswer : PySem.W.keepIn K (.ref C_NoAnswer) = true)
    (e3_NoAnswer : PySem.W.subIn K (.ref C_NoAnswer) (.type "BaseException") = some true)
    (e4_NoAnswer : PySem.W.typeIn K (.ref C_NoAnswer) = some (.type "type"))
    (e0_NotPortrait : PySem.W.nsIn K mainGlobals "NotPortrait" = some (some (.ref C_NotPortrait)))
    (e1_NotPortrait : PySem.W.excIn K C_NotPortrait [.type "ValueError", .type "Exception", .type "BaseException", .type "object"] "ValueError.__new__" = true)
    (e2_NotPortrait : PySem.W.keepIn K (.ref C_NotPortrait) = true)
    (e3_NotPortrait : PySem.W.subIn K (.ref C_NotPortrait) (.type "BaseException") = some true)
    (e4_NotPortrait : PySem.W.typeIn K (.ref C_NotPortrait) = some (.type "type"))
    (m_BadNumber_BadNumber : PySem.W.exmOne K (.ref C_BadNumber) (.ref C_BadNumber) = some true)
    (m_BadNumber_LeafError : PySem.W.exmOne K (.ref C_LeafError) (.ref C_BadNumber) = some false)
    (m_BadNumber_NoAnswer : PySem.W.exmOne K (.ref C_NoAnswer) (.ref C_BadNumber) = some false)
    (m_BadNumber_NotPortrait : PySem.W.exmOne K (.ref C_NotPortrait) (.ref C_BadNumber) = some false)
    (m_NoAnswer_BadNumber : PySem.W.exmOne K (.ref C_BadNumber) (.ref C_NoAnswer) = some false)
    (m_NoAnswer_LeafError : PySem.W.exmOne K (.ref C_LeafError) (.ref C_NoAnswer) = some false)
    (m_NoAnswer_NoAnswer : PySem.W.exmOne K (.ref C_NoAnswer) (.ref C_NoAnswer) = some true)
    (m_NoAnswer_NotPortrait : PySem.W.exmOne K (.ref C_NotPortrait) (.ref C_NoAnswer) = some false)
    (m_NotPortrait_BadNumber : PySem.W.exmOne K (.ref C_BadNumber) (.ref C_NotPortrait) = some false)
    (m_NotPortrait_LeafError : PySem.W.exmOne K (.ref C_LeafError) (.ref C_NotPortrait) = some false)
    (m_NotPortrait_NoAnswer : PySem.W.exmOne K (.ref C_NoAnswer) (.ref C_NotPortrait) = some false)
    (m_NotPortrait_NotPortrait : PySem.W.exmOne K (.ref C_NotPortrait) (.ref C_NotPortrait) = some true)
    (a29 : PySem.W.nsIn K mainGlobals "_law_acted" = some (some (.ref f29)))
    (l29 : K.lookup f29 = some ⟨oc29, od29, .func (PySem.W.fnOf "_law_acted" "_law_acted" (defArgs (top 29)) (defBody (top 29)) (defScope (top 29)) .none kV29 doc29 pm29 an29 cd29 ct29), sl29⟩)
    (c29 : PySem.W.codeIn K cd29 "_law_acted" = true)
    (k29 : PySem.W.keepIn K (.ref f29) = true)
    (a25 : PySem.W.nsIn K mainGlobals "_law_cell" = some (some (.ref f25)))
    (l25 : K.lookup f25 = some ⟨oc25, od25, .func (PySem.W.fnOf "_law_cell" "_law_cell" (defArgs (top 25)) (defBody (top 25)) (defScope (top 25)) .none kV25 doc25 pm25 an25 cd25 ct25), sl25⟩)
    (c25 : PySem.W.codeIn K cd25 "_law_cell" = true)
    (k25 : PySem.W.keepIn K (.ref f25) = true)
    (a33 : PySem.W.nsIn K mainGlobals "_law_common" = some (some (.ref f33)))
    (l33 : K.lookup f33 = some ⟨oc33, od33, .func (PySem.W.fnOf "_law_common" "_law_common" (defArgs (top 33)) (defBody (top 33)) (defScope (top 33)) .none kV33 doc33 pm33 an33 cd33 ct33), sl33⟩)
    (c33 : PySem.W.codeIn K cd33 "_law_common" = true)
    (k33 : PySem.W.keepIn K (.ref f33) = true)
    (a31 : PySem.W.nsIn K mainGlobals "_law_level" = some (some (.ref f31)))
    (l31 : K.lookup f31 = some ⟨oc31, od31, .func (PySem.W.fnOf "_law_level" "_law_level" (defArgs (top 31)) (defBody (top 31)) (defScope (top 31)) .none kV31 doc31 pm31 an31 cd31 ct31), sl31⟩)
    (c31 : PySem.W.codeIn K cd31 "_law_level" = true)
    (k31 : PySem.W.keepIn K (.ref f31) = true)
    (a34 : PySem.W.nsIn K mainGlobals "_law_keeps" = some (some (.ref f34)))
    (l34 : K.lookup f34 = some ⟨oc34, od34, .func (PySem.W.fnOf "_law_keeps" "_law_keeps" (defArgs (top 34)) (defBody (top 34)) (defScope (top 34)) .none kV34 doc34 pm34 an34 cd34 ct34), sl34⟩)
    (c34 : PySem.W.codeIn K cd34 "_law_keeps" = true)
    (k34 : PySem.W.keepIn K (.ref f34) = true)
    (a27 : PySem.W.nsIn K mainGlobals "_law_arranged" = some (some (.ref f27)))
    (l27 : K.lookup f27 = some ⟨oc27, od27, .func (PySem.W.fnOf "_law_arranged" "_law_arranged" (defArgs (top 27)) (defBody (top 27)) (defScope (top 27)) .none kV27 doc27 pm27 an27 cd27 ct27), sl27⟩)
    (c27 : PySem.W.codeIn K cd27 "_law_arranged" = true)
    (k27 : PySem.W.keepIn K (.ref f27) = true)
    (a26 : PySem.W.nsIn K mainGlobals "_law_values" = some (some (.ref f26)))
    (l26 : K.lookup f26 = some ⟨oc26, od26, .func (PySem.W.fnOf "_law_values" "_law_values" (defArgs (top 26)) (defBody (top 26)) (defScope (top 26)) .none kV26 doc26 pm26 an26 cd26 ct26), sl26⟩)
    (c26 : PySem.W.codeIn K cd26 "_law_values" = true)
    (k26 : PySem.W.keepIn K (.ref f26) = true)
    (a28 : PySem.W.nsIn K mainGlobals "_law_portrait" = some (some (.ref f28)))
    (l28 : K.lookup f28 = some ⟨oc28, od28, .func (PySem.W.fnOf "_law_portrait" "_law_portrait" (defArgs (top 28)) (defBody (top 28)) (defScope (top 28)) .none kV28 doc28 pm28 an28 cd28 ct28), sl28⟩)
    (c28 : PySem.W.codeIn K cd28 "_law_portrait" = true)
    (k28 : PySem.W.keepIn K (.ref f28) = true)
    (a8 : PySem.W.nsIn K mainGlobals "check_count" = some (some (.ref f8)))
    (l8 : K.lookup f8 = some ⟨oc8, od8, .func (PySem.W.fnOf "check_count" "check_count" (defArgs (top 8)) (defBody (top 8)) (defScope (top 8)) .none kV8 doc8 pm8 an8 cd8 ct8), sl8⟩)
    (c8 : PySem.W.codeIn K cd8 "check_count" = true)
    (k8 : PySem.W.keepIn K (.ref f8) = true)
    (a10 : PySem.W.nsIn K mainGlobals "string_count" = some (some (.ref f10)))
    (l10 : K.lookup f10 = some ⟨oc10, od10, .func (PySem.W.fnOf "string_count" "string_count" (defArgs (top 10)) (defBody (top 10)) (defScope (top 10)) .none kV10 doc10 pm10 an10 cd10 ct10), sl10⟩)
    (c10 : PySem.W.codeIn K cd10 "string_count" = true)
    (k10 : PySem.W.keepIn K (.ref f10) = true)
    (a14 : PySem.W.nsIn K mainGlobals "arrangement_count" = some (some (.ref f14)))
    (l14 : K.lookup f14 = some ⟨oc14, od14, .func (PySem.W.fnOf "arrangement_count" "arrangement_count" (defArgs (top 14)) (defBody (top 14)) (defScope (top 14)) .none kV14 doc14 pm14 an14 cd14 ct14), sl14⟩)
    (c14 : PySem.W.codeIn K cd14 "arrangement_count" = true)
    (k14 : PySem.W.keepIn K (.ref f14) = true)
    (a15 : PySem.W.nsIn K mainGlobals "is_depth" = some (some (.ref f15)))
    (l15 : K.lookup f15 = some ⟨oc15, od15, .func (PySem.W.fnOf "is_depth" "is_depth" (defArgs (top 15)) (defBody (top 15)) (defScope (top 15)) .none kV15 doc15 pm15 an15 cd15 ct15), sl15⟩)
    (c15 : PySem.W.codeIn K cd15 "is_depth" = true)
    (k15 : PySem.W.keepIn K (.ref f15) = true)
    (a18 : PySem.W.nsIn K mainGlobals "is_level" = some (some (.ref f18)))
    (l18 : K.lookup f18 = some ⟨oc18, od18, .func (PySem.W.fnOf "is_level" "is_level" (defArgs (top 18)) (defBody (top 18)) (defScope (top 18)) .none kV18 doc18 pm18 an18 (.ref cc18) ct18), sl18⟩)
    (c18 : PySem.W.codeIn K (.ref cc18) "is_level" = true)
    (k18 : PySem.W.keepIn K (.ref f18) = true)
    (q18 : K.lookup cc18 = some ⟨ev18, dd18, .fields vs18, es18⟩)
    (v18 : vs18[11]? = some (.ref P18))
    (n18 : K.lookup P18 = none)
    (r18 : ((recsOf q).find? (fun e => e.name == ("is_level" : Str))).isSome = true)
    (a17 : PySem.W.nsIn K mainGlobals "is_portrait" = some (some (.ref f17)))
    (l17 : K.lookup f17 = some ⟨oc17, od17, .func (PySem.W.fnOf "is_portrait" "is_portrait" (defArgs (top 17)) (defBody (top 17)) (defScope (top 17)) .none kV17 doc17 pm17 an17 (.ref cc17) ct17), sl17⟩)
    (c17 : PySem.W.codeIn K (.ref cc17) "is_portrait" = true)
    (k17 : PySem.W.keepIn K (.ref f17) = true)
    (q17 : K.lookup cc17 = some ⟨ev17, dd17, .fields vs17, es17⟩)
    (v17 : vs17[11]? = some (.ref P17))
    (n17 : K.lookup P17 = none)
    (r17 : ((recsOf q).find? (fun e => e.name == ("is_portrait" : Str))).isSome = true)
    (a19 : PySem.W.nsIn K mainGlobals "check_portrait" = some (some (.ref f19)))
    (l19 : K.lookup f19 = some ⟨oc19, od19, .func (PySem.W.fnOf "check_portrait" "check_portrait" (defArgs (top 19)) (defBody (top 19)) (defScope (top 19)) .none kV19 doc19 pm19 an19 cd19 ct19), sl19⟩)
    (c19 : PySem.W.codeIn K cd19 "check_portrait" = true)
    (k19 : PySem.W.keepIn K (.ref f19) = true)
    (a20 : PySem.W.nsIn K mainGlobals "turns_on_levels" = some (some (.ref f20)))
    (l20 : K.lookup f20 = some ⟨oc20, od20, .func (PySem.W.fnOf "turns_on_levels" "turns_on_levels" (defArgs (top 20)) (defBody (top 20)) (defScope (top 20)) .none kV20 doc20 pm20 an20 cd20 ct20), sl20⟩)
    (c20 : PySem.W.codeIn K cd20 "turns_on_levels" = true)
    (k20 : PySem.W.keepIn K (.ref f20) = true)
    (a21 : PySem.W.nsIn K mainGlobals "level_of" = some (some (.ref f21)))
    (l21 : K.lookup f21 = some ⟨oc21, od21, .func (PySem.W.fnOf "level_of" "level_of" (defArgs (top 21)) (defBody (top 21)) (defScope (top 21)) .none kV21 doc21 pm21 an21 cd21 ct21), sl21⟩)
    (c21 : PySem.W.codeIn K cd21 "level_of" = true)
    (k21 : PySem.W.keepIn K (.ref f21) = true)
    (a35 : PySem.W.nsIn K mainGlobals "_law_refuses" = some (some (.ref f35)))
    (l35 : K.lookup f35 = some ⟨oc35, od35, .func (PySem.W.fnOf "_law_refuses" "_law_refuses" (defArgs (top 35)) (defBody (top 35)) (defScope (top 35)) .none kV35 doc35 pm35 an35 cd35 ct35), sl35⟩)
    (c35 : PySem.W.codeIn K cd35 "_law_refuses" = true)
    (k35 : PySem.W.keepIn K (.ref f35) = true)
    (a23 : PySem.W.nsIn K mainGlobals "beginning_of" = some (some (.ref f23)))
    (l23 : K.lookup f23 = some ⟨oc23, od23, .func (PySem.W.fnOf "beginning_of" "beginning_of" (defArgs (top 23)) (defBody (top 23)) (defScope (top 23)) .none kV23 doc23 pm23 an23 (.ref cc23) ct23), sl23⟩)
    (c23 : PySem.W.codeIn K (.ref cc23) "beginning_of" = true)
    (k23 : PySem.W.keepIn K (.ref f23) = true)
    (q23 : K.lookup cc23 = some ⟨ev23, dd23, .fields vs23, es23⟩)
    (v23 : vs23[11]? = some (.ref P23))
    (n23 : K.lookup P23 = none)
    (r23 : ((recsOf q).find? (fun e => e.name == ("beginning_of" : Str))).isSome = true)
    (a16 : PySem.W.nsIn K mainGlobals "check_depth" = some (some (.ref f16)))
    (l16 : K.lookup f16 = some ⟨oc16, od16, .func (PySem.W.fnOf "check_depth" "check_depth" (defArgs (top 16)) (defBody (top 16)) (defScope (top 16)) .none kV16 doc16 pm16 an16 cd16 ct16), sl16⟩)
    (c16 : PySem.W.codeIn K cd16 "check_depth" = true)
    (k16 : PySem.W.keepIn K (.ref f16) = true)
    (a22 : PySem.W.nsIn K mainGlobals "from_level" = some (some (.ref f22)))
    (l22 : K.lookup f22 = some ⟨oc22, od22, .func (PySem.W.fnOf "from_level" "from_level" (defArgs (top 22)) (defBody (top 22)) (defScope (top 22)) .none kV22 doc22 pm22 an22 cd22 ct22), sl22⟩)
    (c22 : PySem.W.codeIn K cd22 "from_level" = true)
    (k22 : PySem.W.keepIn K (.ref f22) = true)
    (a32 : PySem.W.nsIn K mainGlobals "_law_told" = some (some (.ref f32)))
    (l32 : K.lookup f32 = some ⟨oc32, od32, .func (PySem.W.fnOf "_law_told" "_law_told" (defArgs (top 32)) (defBody (top 32)) (defScope (top 32)) .none kV32 doc32 pm32 an32 cd32 ct32), sl32⟩)
    (c32 : PySem.W.codeIn K cd32 "_law_told" = true)
    (k32 : PySem.W.keepIn K (.ref f32) = true)
    (a36 : PySem.W.nsIn K mainGlobals "law" = some (some (.ref f36)))
    (l36 : K.lookup f36 = some ⟨oc36, od36, .func (PySem.W.fnOf "law" "law" (defArgs (top 36)) (defBody (top 36)) (defScope (top 36)) .none kV36 doc36 pm36 an36 cd36 ct36), sl36⟩)
    (c36 : PySem.W.codeIn K cd36 "law" = true)
    (k36 : PySem.W.keepIn K (.ref f36) = true)
    (math : ∀ ns : List Int, ns.length ≤ most → (∀ z ∈ ns, Builtin.Int.intBits z ≤ 1048576) → F_law [.list (ns.map .int)] = some (.ok (.bool true))) :
    ZAtG l w K 8 most mg fa h := by
  have e := hfa.symm.trans (PySem.W.mg_of X G a36)
  cases e
  have H_m_BadNumber : ∀ q ∈ l_m_BadNumber, PySem.W.exmOne K (cv mg q.1) (cv mg "BadNumber") = some q.2 := fun q hq => by unfold l_m_BadNumber at hq; simp only [List.mem_cons, List.not_mem_nil, or_false] at hq; rcases hq with rfl | rfl | rfl | rfl <;> simp only [cv, PySem.W.mg_of X G e0_BadNumber, PySem.W.mg_of X G e0_BadNumber, PySem.W.mg_of X G e0_LeafError, PySem.W.mg_of X G e0_NoAnswer, PySem.W.mg_of X G e0_NotPortrait, Option.getD_some, m_BadNumber_BadNumber, m_BadNumber_LeafError, m_BadNumber_NoAnswer, m_BadNumber_NotPortrait]
  have H_m_NoAnswer : ∀ q ∈ l_m_NoAnswer, PySem.W.exmOne K (cv mg q.1) (cv mg "NoAnswer") = some q.2 := fun q hq => by unfold l_m_NoAnswer at hq; simp only [List.mem_cons, List.not_mem_nil, or_false] at hq; rcases hq with rfl | rfl | rfl | rfl <;> simp only [cv, PySem.W.mg_of X G e0_NoAnswer, PySem.W.mg_of X G e0_BadNumber, PySem.W.mg_of X G e0_LeafError, PySem.W.mg_of X G e0_NoAnswer, PySem.W.mg_of X G e0_NotPortrait, Option.getD_some, m_NoAnswer_BadNumber, m_NoAnswer_LeafError, m_NoAnswer_NoAnswer, m_NoAnswer_NotPortrait]
  have H_m_NotPortrait : ∀ q ∈ l_m_NotPortrait, PySem.W.exmOne K (cv mg q.1) (cv mg "NotPortrait") = some q.2 := fun q hq => by unfold l_m_NotPortrait at hq; simp only [List.mem_cons, List.not_mem_nil, or_false] at hq; rcases hq with rfl | rfl | rfl | rfl <;> simp only [cv, PySem.W.mg_of X G e0_NotPortrait, PySem.W.mg_of X G e0_BadNumber, PySem.W.mg_of X G e0_LeafError, PySem.W.mg_of X G e0_NoAnswer, PySem.W.mg_of X G e0_NotPortrait, Option.getD_some, m_NotPortrait_BadNumber, m_NotPortrait_LeafError, m_NotPortrait_NoAnswer, m_NotPortrait_NotPortrait]
  have F : Fc K mg := { b_all := PySem.W.mg_none_of X G b_all, b_enumerate := PySem.W.mg_none_of X G b_enumerate, b_int := PySem.W.mg_none_of X G b_int, b_isinstance := PySem.W.mg_none_of X G b_isinstance, b_len := PySem.W.mg_none_of X G b_len, b_list := PySem.W.mg_none_of X G b_list, b_range := PySem.W.mg_none_of X G b_range, b_repr := PySem.W.mg_none_of X G b_repr, b_sorted := PySem.W.mg_none_of X G b_sorted, b_str := PySem.W.mg_none_of X G b_str, b_sum := PySem.W.mg_none_of X G b_sum, b_tuple := PySem.W.mg_none_of X G b_tuple, g_GREATEST_DEPTH := ⟨_, PySem.W.mg_of X G g_GREATEST_DEPTH⟩, g_LEAST_DIGITS := ⟨_, PySem.W.mg_of X G g_LEAST_DIGITS⟩, g_MOST_ARRANGEMENTS := ⟨_, PySem.W.mg_of X G g_MOST_ARRANGEMENTS⟩, g_MOST_DIGITS := ⟨_, PySem.W.mg_of X G g_MOST_DIGITS⟩, x_BadNumber := ⟨C_BadNumber, PySem.W.mg_of X G e0_BadNumber, e1_BadNumber, e2_BadNumber, e3_BadNumber, e4_BadNumber⟩, x_NoAnswer := ⟨C_NoAnswer, PySem.W.mg_of X G e0_NoAnswer, e1_NoAnswer, e2_NoAnswer, e3_NoAnswer, e4_NoAnswer⟩, x_NotPortrait := ⟨C_NotPortrait, PySem.W.mg_of X G e0_NotPortrait, e1_NotPortrait, e2_NotPortrait, e3_NotPortrait, e4_NotPortrait⟩, m_BadNumber := H_m_BadNumber, m_NoAnswer := H_m_NoAnswer, m_NotPortrait := H_m_NotPortrait }
  obtain ⟨d18, hd18⟩ := Option.isSome_iff_exists.mp r18
  have T18 := PySem.W.tab_of T X hd18 (tabIn_of a18 l18 rfl q18 v18)
  obtain ⟨d17, hd17⟩ := Option.isSome_iff_exists.mp r17
  have T17 := PySem.W.tab_of T X hd17 (tabIn_of a17 l17 rfl q17 v17)
  obtain ⟨d23, hd23⟩ := Option.isSome_iff_exists.mp r23
  have T23 := PySem.W.tab_of T X hd23 (tabIn_of a23 l23 rfl q23 v23)
  refine ⟨[(cc18, P18), (cc17, P17), (cc23, P23)], F_law, PySem.W.fnOf "law" "law" (defArgs (top 36)) (defBody (top 36)) (defScope (top 36)) .none kV36 doc36 pm36 an36 cd36 ct36, ?_, ?_, math, (fun us hl => match us, hl with | [_], _ => rfl), fun base kb nb TB => ?_⟩
  · intro p hp; simp only [List.mem_cons, List.not_mem_nil, or_false] at hp; rcases hp with rfl | rfl | rfl
    · exact T18
    · exact T17
    · exact T23
  · intro p hp; simp only [List.mem_cons, List.not_mem_nil, or_false] at hp; rcases hp with rfl | rfl | rfl
    · exact n18
    · exact n17
    · exact n23
  · skip; have B18 := TB (cc18, P18) (by simp); have B17 := TB (cc17, P17) (by simp); have B23 := TB (cc23, P23) (by simp)
    have D__law_acted : Df l.prog w base ⟨K, mg, ([(cc18, P18), (cc17, P17), (cc23, P23)] : List (Addr × Addr)).map (·.2)⟩ "_law_acted" 1 3 F__law_acted := df__law_acted F  (PySem.W.mg_of X G a29) l29 c29 k29
    have D__law_cell : Df l.prog w base ⟨K, mg, ([(cc18, P18), (cc17, P17), (cc23, P23)] : List (Addr × Addr)).map (·.2)⟩ "_law_cell" 1 2 F__law_cell := df__law_cell F  (PySem.W.mg_of X G a25) l25 c25 k25
    have D__law_common : Df l.prog w base ⟨K, mg, ([(cc18, P18), (cc17, P17), (cc23, P23)] : List (Addr × Addr)).map (·.2)⟩ "_law_common" 1 2 F__law_common := df__law_common F  (PySem.W.mg_of X G a33) l33 c33 k33
    have D__law_level : Df l.prog w base ⟨K, mg, ([(cc18, P18), (cc17, P17), (cc23, P23)] : List (Addr × Addr)).map (·.2)⟩ "_law_level" 1 2 F__law_level := df__law_level F  (PySem.W.mg_of X G a31) l31 c31 k31
    have D__law_keeps : Df l.prog w base ⟨K, mg, ([(cc18, P18), (cc17, P17), (cc23, P23)] : List (Addr × Addr)).map (·.2)⟩ "_law_keeps" 2 3 F__law_keeps := df__law_keeps F D__law_level D__law_common (PySem.W.mg_of X G a34) l34 c34 k34
    have D__law_arranged : Df l.prog w base ⟨K, mg, ([(cc18, P18), (cc17, P17), (cc23, P23)] : List (Addr × Addr)).map (·.2)⟩ "_law_arranged" 1 2 F__law_arranged := df__law_arranged F  (PySem.W.mg_of X G a27) l27 c27 k27
    have D__law_values : Df l.prog w base ⟨K, mg, ([(cc18, P18), (cc17, P17), (cc23, P23)] : List (Addr × Addr)).map (·.2)⟩ "_law_values" 1 3 F__law_values := df__law_values F  (PySem.W.mg_of X G a26) l26 c26 k26
    have D__law_portrait : Df l.prog w base ⟨K, mg, ([(cc18, P18), (cc17, P17), (cc23, P23)] : List (Addr × Addr)).map (·.2)⟩ "_law_portrait" 2 3 F__law_portrait := df__law_portrait F D__law_values D__law_arranged (PySem.W.mg_of X G a28) l28 c28 k28
    have D_check_count : Df l.prog w base ⟨K, mg, ([(cc18, P18), (cc17, P17), (cc23, P23)] : List (Addr × Addr)).map (·.2)⟩ "check_count" 1 1 F_check_count := df_check_count F  (PySem.W.mg_of X G a8) l8 c8 k8
    have D_string_count : Df l.prog w base ⟨K, mg, ([(cc18, P18), (cc17, P17), (cc23, P23)] : List (Addr × Addr)).map (·.2)⟩ "string_count" 1 2 F_string_count := df_string_count F  (PySem.W.mg_of X G a10) l10 c10 k10
    have D_arrangement_count : Df l.prog w base ⟨K, mg, ([(cc18, P18), (cc17, P17), (cc23, P23)] : List (Addr × Addr)).map (·.2)⟩ "arrangement_count" 2 2 F_arrangement_count := df_arrangement_count F D_string_count (PySem.W.mg_of X G a14) l14 c14 k14
    have D_is_depth : Df l.prog w base ⟨K, mg, ([(cc18, P18), (cc17, P17), (cc23, P23)] : List (Addr × Addr)).map (·.2)⟩ "is_depth" 3 2 F_is_depth := df_is_depth F D_arrangement_count (PySem.W.mg_of X G a15) l15 c15 k15
    have D_is_level : Df l.prog w base ⟨K, mg, ([(cc18, P18), (cc17, P17), (cc23, P23)] : List (Addr × Addr)).map (·.2)⟩ "is_level" 2 3 F_is_level := df_is_level F  (PP_ := P18) (by simp) B18 rfl (PySem.W.mg_of X G a18) l18 c18 k18
    have D_is_portrait : Df l.prog w base ⟨K, mg, ([(cc18, P18), (cc17, P17), (cc23, P23)] : List (Addr × Addr)).map (·.2)⟩ "is_portrait" 4 2 F_is_portrait := df_is_portrait F D_check_count D_is_depth D_string_count D_is_level (PP_ := P17) (by simp) B17 rfl (PySem.W.mg_of X G a17) l17 c17 k17
    have D_check_portrait : Df l.prog w base ⟨K, mg, ([(cc18, P18), (cc17, P17), (cc23, P23)] : List (Addr × Addr)).map (·.2)⟩ "check_portrait" 5 2 F_check_portrait := df_check_portrait F D_is_portrait (PySem.W.mg_of X G a19) l19 c19 k19
    have D_turns_on_levels : Df l.prog w base ⟨K, mg, ([(cc18, P18), (cc17, P17), (cc23, P23)] : List (Addr × Addr)).map (·.2)⟩ "turns_on_levels" 1 2 F_turns_on_levels := df_turns_on_levels F  (PySem.W.mg_of X G a20) l20 c20 k20
    have D_level_of : Df l.prog w base ⟨K, mg, ([(cc18, P18), (cc17, P17), (cc23, P23)] : List (Addr × Addr)).map (·.2)⟩ "level_of" 6 2 F_level_of := df_level_of F D_check_portrait D_turns_on_levels (PySem.W.mg_of X G a21) l21 c21 k21
    have D__law_refuses : Df l.prog w base ⟨K, mg, ([(cc18, P18), (cc17, P17), (cc23, P23)] : List (Addr × Addr)).map (·.2)⟩ "_law_refuses" 7 2 F__law_refuses := df__law_refuses F D_level_of (PySem.W.mg_of X G a35) l35 c35 k35
    have D_beginning_of : Df l.prog w base ⟨K, mg, ([(cc18, P18), (cc17, P17), (cc23, P23)] : List (Addr × Addr)).map (·.2)⟩ "beginning_of" 2 2 F_beginning_of := df_beginning_of F  (PP_ := P23) (by simp) B23 rfl (PySem.W.mg_of X G a23) l23 c23 k23
    have D_check_depth : Df l.prog w base ⟨K, mg, ([(cc18, P18), (cc17, P17), (cc23, P23)] : List (Addr × Addr)).map (·.2)⟩ "check_depth" 4 2 F_check_depth := df_check_depth F D_check_count D_is_depth (PySem.W.mg_of X G a16) l16 c16 k16
    have D_from_level : Df l.prog w base ⟨K, mg, ([(cc18, P18), (cc17, P17), (cc23, P23)] : List (Addr × Addr)).map (·.2)⟩ "from_level" 5 3 F_from_level := df_from_level F D_check_depth D_string_count D_beginning_of (PySem.W.mg_of X G a22) l22 c22 k22
    have D__law_told : Df l.prog w base ⟨K, mg, ([(cc18, P18), (cc17, P17), (cc23, P23)] : List (Addr × Addr)).map (·.2)⟩ "_law_told" 6 3 F__law_told := df__law_told F D_from_level (PySem.W.mg_of X G a32) l32 c32 k32
    exact df_law F D__law_cell D__law_portrait D__law_level D__law_acted D_level_of D__law_told D__law_keeps D__law_refuses (PySem.W.mg_of X G a36) l36 c36 k36
end D
set_option Elab.async false
set_option linter.all false
set_option maxRecDepth 100000
set_option maxHeartbeats 4000000
namespace Z
open PySem PySem.Spec PyProof.Rows L2
theorem atI_nat {α : Type} {xs : List α} {i : Int} {v : α} (h0 : 0 ≤ i) (h : xs[i.toNat]? = some v) : atI xs i = some v := by
  have lt : i.toNat < xs.length := (List.getElem?_eq_some_iff.mp h).1
  unfold atI ixN
  rw [if_pos h0, if_pos (by omega)]
  exact h
theorem ixN_nat {n : Nat} {i : Int} (h0 : 0 ≤ i) (h : i < n) : ixN n i = some i.toNat := by
  unfold ixN
  rw [if_pos h0, if_pos h]
theorem forX_inv {b : BX} {s : SX} (Inv : Nat → Ga → Prop) : ∀ (ds : List PyData) (j : Nat) (Γ : Ga), Inv j Γ → (∀ i d Γ, ds[i]? = some d → Inv (j + i) Γ → ∃ Γ1 Γ2, b d Γ = some Γ1 ∧ s Γ1 = some (.nx Γ2) ∧ Inv (j + i + 1) Γ2) → ∃ Γ', forX b s ds Γ = some (.nx Γ') ∧ Inv (j + ds.length) Γ'
  | [], j, Γ, h, _ => ⟨Γ, rfl, h⟩
  | d :: ds, j, Γ, h, st => by
    obtain ⟨Γ1, Γ2, h1, h2, h3⟩ := st 0 d Γ rfl h
    obtain ⟨Γ', h4, h5⟩ := forX_inv Inv ds (j + 1) Γ2 h3 fun i d Γ hd hi => by
      have e : j + 1 + i = j + (i + 1) := by omega
      rw [e] at hi
      obtain ⟨Γ3, Γ4, k1, k2, k3⟩ := st (i + 1) d Γ (by simpa using hd) hi
      exact ⟨Γ3, Γ4, k1, k2, by rw [e]; exact k3⟩
    refine ⟨Γ', ?_, by rw [List.length_cons, show j + (ds.length + 1) = j + 1 + ds.length by omega]; exact h5⟩
    rw [forX, h1]
    simp only [h2]
    exact h4
theorem forR_inv {b : BX} {s : SX} (Inv : Nat → Ga → Prop) {n : Nat} {Γ : Ga} (h : Inv 0 Γ) (st : ∀ i Γ, i < n → Inv i Γ → ∃ Γ1 Γ2, b (.int i) Γ = some Γ1 ∧ s Γ1 = some (.nx Γ2) ∧ Inv (i + 1) Γ2) : ∃ Γ', forX b s (rgD 0 n) Γ = some (.nx Γ') ∧ Inv n Γ' := by
  obtain ⟨Γ', h1, h2⟩ := forX_inv Inv (rgD 0 n) 0 Γ h fun i d Γ hd hi => by
    have lt : i < n := by
      have := (List.getElem?_eq_some_iff.mp hd).1
      rw [rgD_len] at this
      omega
    have := rgD_get hd
    subst this
    rw [Nat.zero_add] at hi ⊢
    rw [Int.zero_add]
    exact st i Γ lt hi
  refine ⟨Γ', h1, ?_⟩
  rw [rgD_len] at h2
  have e : 0 + ((n : Int) - 0).toNat = n := by omega
  rwa [e] at h2
theorem lcL_map {α : Type} {item : PyData → Option (Option PyData)} {f : α → PyData} {g : α → PyData} {l : List α} (h : ∀ a ∈ l, item (f a) = some (some (g a))) : lcL item (l.map f) = some (l.map g) := by
  induction l with
  | nil => rfl
  | cons a l ih =>
    rw [List.map_cons, lcL, h a List.mem_cons_self]
    simp only [ih fun b hb => h b (List.mem_cons_of_mem _ hb), Option.map_some]
    rfl
theorem alL_map {α : Type} {item : PyData → Option Bool} {f : α → PyData} {g : α → Bool} {l : List α} (h : ∀ a ∈ l, item (f a) = some (g a)) : alL item (l.map f) = some (l.all g) := by
  induction l with
  | nil => rfl
  | cons a l ih =>
    rw [List.map_cons, alL, h a List.mem_cons_self, List.all_cons]
    cases g a
    · rfl
    · simp only [ih fun b hb => h b (List.mem_cons_of_mem _ hb), Bool.true_and]
theorem rgD_map {n : Nat} : rgD 0 n = (List.range n).map fun (i : Nat) => PyData.int (i : Int) := by
  unfold rgD
  simp
abbrev rg (n : Nat) : List Int := (List.range n).map fun (i : Nat) => (i : Int)
theorem rgD_rg {n : Nat} : rgD 0 n = (rg n).map PyData.int := by
  rw [rgD_map, List.map_map]
  rfl
theorem eqvAll_ints : ∀ {a b : List Int}, PyData.eqvAll (a.map .int) (b.map .int) = decide (a = b)
  | [], [] => by simp [PyData.eqvAll]
  | [], _ :: _ => by simp [PyData.eqvAll]
  | _ :: _, [] => by simp [PyData.eqvAll]
  | x :: a, y :: b => by
    simp only [List.map_cons, PyData.eqvAll, PyData.eqv, eqvAll_ints (a := a) (b := b)]
    by_cases h : x = y <;> by_cases k : a = b <;> simp [h, k]
theorem canLay_ints : ∀ a : List Int, PyData.canLayAll0 (a.map .int) = true
  | [] => rfl
  | _ :: a => by simp only [List.map_cons, PyData.canLayAll0, PyData.canLay0, canLay_ints a, Bool.and_self]
theorem eq_lists {a b : List Int} : gEqB (.list (a.map .int)) (.list (b.map .int)) = some (decide (a = b)) := by
  have sh : ∀ a : List Int, SeqAt.shaped (.list (a.map .int)) = true := fun a => by
    unfold SeqAt.shaped
    rw [Bool.and_eq_true]
    have d0 : ∀ a : List Int, PyData.depthAll (a.map .int) = 0 := fun a => by
      induction a with
      | nil => rfl
      | cons x a ih => simp only [List.map_cons, PyData.depthAll, PyData.depth, ih, Nat.max_self]
    exact ⟨by simp only [PyData.canLay0, canLay_ints], by simp only [PyData.depth, d0]; decide⟩
  unfold gEqB
  simp only [sh, Bool.and_self, if_true, PyData.eqv, eqvAll_ints]
section
variable {f g h : PX} {s t u : SX} {Γ Γ' : Ga} {i : Nat} {c c' : PTx} {pa : PAx} {r : Option Oc} {d e z : PyData} {ds : List PyData} {b : Bool} {er : Er} {rr : Option Res} {n N : Nat}
theorem rv_seq (h1 : s Γ = some (.nx Γ')) (h2 : t Γ' = r) : seqX s t Γ = r := by unfold seqX; rw [h1]; exact h2
theorem rv_seqR (h1 : s Γ = some (.rt d)) : seqX s t Γ = some (.rt d) := by unfold seqX; rw [h1]
theorem rv_seqE (h1 : s Γ = some (.ex er Γ')) : seqX s t Γ = some (.ex er Γ') := by unfold seqX; rw [h1]
theorem rv_nx : nxX Γ = some (.nx Γ) := rfl
theorem rv_if (h1 : c Γ = some (.ok b)) (h2 : b = true → s Γ = r) (h3 : b = false → t Γ = r) : ifS c s t Γ = r := by
  unfold ifS; rw [h1]
  cases b with
  | true => exact h2 rfl
  | false => exact h3 rfl
theorem rv_ifT (h1 : c Γ = some (.ok true)) (h2 : s Γ = r) : ifS c s t Γ = r := rv_if h1 (fun _ => h2) fun z => Bool.noConfusion z
theorem rv_ifF (h1 : c Γ = some (.ok false)) (h2 : t Γ = r) : ifS c s t Γ = r := rv_if h1 (fun z => Bool.noConfusion z) fun _ => h2
theorem rv_ret (h1 : f Γ = some (.ok d)) : retX f Γ = some (.rt d) := by unfold retX; rw [h1]
theorem rv_retE (h1 : f Γ = some (.error er)) : retX f Γ = some (.ex er Γ) := by unfold retX; rw [h1]
theorem rv_drop (h1 : f Γ = some (.ok d)) : dropX f Γ = some (.nx Γ) := by unfold dropX; rw [h1]
theorem rv_dropE (h1 : f Γ = some (.error er)) : dropX f Γ = some (.ex er Γ) := by unfold dropX; rw [h1]
theorem rv_ra {x : Str} (h1 : f Γ = some (.ok d)) : raX f x Γ = some (.ex (.own x) Γ) := by unfold raX; rw [h1]
theorem rv_asg {bx : BX} (h1 : f Γ = some (.ok d)) (h2 : bx d Γ = some Γ') : asgX f bx Γ = some (.nx Γ') := by unfold asgX; rw [h1]; simp only [h2, Option.map_some]
theorem rv_asgE {bx : BX} (h1 : f Γ = some (.error er)) : asgX f bx Γ = some (.ex er Γ) := by unfold asgX; rw [h1]
theorem rv_app (h0 : Γ[i]? = some (some (.list ds))) (h1 : f Γ = some (.ok d)) (h2 : ds.length < big) (h3 : Γ.set i (some (.list (ds ++ [d]))) = Γ') : appX i f Γ = some (.nx Γ') := by unfold appX; rw [h0]; simp only [h1, if_pos h2, h3]
theorem rv_set {j : Nat} {k : Int} (h1 : g Γ = some (.ok d)) (h0 : Γ[i]? = some (some (.list ds))) (h2 : f Γ = some (.ok (.int k))) (h3 : ixN ds.length k = some j) (h4 : Γ.set i (some (.list (ds.set j d))) = Γ') : setX i f g Γ = some (.nx Γ') := by unfold setX; rw [h1]; simp only [h0, h2, h3, Option.map_some, h4]
theorem rv_fV (h1 : Γ[i]? = some (some d)) : fV i Γ = some (.ok d) := by unfold fV; rw [h1]
theorem rv_fOl (h1 : Γ[i]? = some (some (.list ds))) : fO i Γ = some (.ok (.list ds)) := by unfold fO fV; rw [h1]
theorem rv_fC : fC d Γ = some (.ok d) := rfl
theorem rv_b1 {k : PyData → Option PyData} (h1 : f Γ = some (.ok d)) (h2 : k d = some z) : b1 f k Γ = some (.ok z) := by unfold b1; rw [h1]; simp only [h2, Option.map_some]
theorem rv_b2 {k : PyData → PyData → Option PyData} (h1 : f Γ = some (.ok d)) (h2 : g Γ = some (.ok e)) (h3 : k d e = some z) : b2 f g k Γ = some (.ok z) := by unfold b2; rw [h1]; simp only [h2, h3, Option.map_some]
theorem rv_c1 {k : List PyData → Option PyData} (h1 : pa Γ = some (.ok ds)) (h2 : k ds = some z) : c1 pa k Γ = some (.ok z) := by unfold c1; rw [h1]; simp only [h2, Option.map_some]
theorem rv_nil : aNil Γ = some (.ok []) := rfl
theorem rv_cons (h1 : f Γ = some (.ok d)) (h2 : pa Γ = some (.ok ds)) : aCons f pa Γ = some (.ok (d :: ds)) := by unfold aCons; rw [h1]; simp only [h2]
theorem rv_callX {F : FX} (h1 : pa Γ = some (.ok ds)) (h2 : F ds = rr) : callX pa F Γ = rr := by unfold callX; rw [h1]; exact h2
theorem rv_toT (h1 : f Γ = some (.ok (.bool b))) : toT f Γ = some (.ok b) := by unfold toT; rw [h1]
theorem rv_toTE (h1 : f Γ = some (.error er)) : toT f Γ = some (.error er) := by unfold toT; rw [h1]
theorem rv_not (h1 : c Γ = some (.ok b)) : notT c Γ = some (.ok (!b)) := by unfold notT; rw [h1]
theorem rv_or {b' : Bool} (h1 : c Γ = some (.ok b)) (h2 : b = false → c' Γ = some (.ok b')) : orT c c' Γ = some (.ok (b || b')) := by
  unfold orT; rw [h1]
  cases b with
  | false => simp only [h2 rfl, Bool.false_or]
  | true => rfl
theorem rv_andX {b' : Bool} (h1 : f Γ = some (.ok (.bool b))) (h2 : b = true → g Γ = some (.ok (.bool b'))) : andX f g Γ = some (.ok (.bool (b && b'))) := by
  unfold andX; rw [h1]
  cases b with
  | true => simp only [h2 rfl, Bool.true_and]
  | false => rfl
theorem rv_for {ii : PIx} {bx : BX} (h1 : ii Γ = some (.ok ds)) (h2 : forX bx s ds Γ = r) : forS ii bx s Γ = r := by unfold forS; rw [h1]; exact h2
theorem rv_iR1 {k : Int} (h1 : f Γ = some (.ok (.int k))) (h2 : rgB k) : iR1 f Γ = some (.ok (rgD 0 k)) := by unfold iR1; rw [h1]; simp only [if_pos h2]
theorem rv_iA (h1 : f Γ = some (.ok d)) (h2 : itD d = some ds) : iA f Γ = some (.ok ds) := by unfold iA; rw [h1]; simp only [h2, Option.map_some]
theorem rv_oNone : oNone Γ = some (.ok none) := rfl
theorem rv_oSome {k : Int} (h1 : f Γ = some (.ok (.int k))) : oSome f Γ = some (.ok (some k)) := by unfold oSome; rw [h1]
theorem rv_s3 {l l' : POx} {k : PyData → Option Int → Option Int → Option PyData} {lo hi : Option Int} (h1 : f Γ = some (.ok d)) (h2 : l Γ = some (.ok lo)) (h3 : l' Γ = some (.ok hi)) (h4 : k d lo hi = some z) : s3 f l l' k Γ = some (.ok z) := by unfold s3; rw [h1]; simp only [h2, h3, h4, Option.map_some]
theorem rv_lc {ii : PIx} {vs : List Nat} {bx : BX} {ys : List PyData} (h1 : ii Γ = some (.ok ds)) (h2 : ds.length ≤ big) (h3 : lcL (lcI vs bx c f Γ) ds = some ys) : lcX ii vs bx c f Γ = some (.ok (.list ys)) := by unfold lcX; rw [h1]; simp only [if_pos h2, h3, Option.map_some]
theorem rv_al {ii : PIx} {vs : List Nat} {bx : BX} (h1 : ii Γ = some (.ok ds)) (h3 : alL (alI vs bx f Γ) ds = some b) : alX ii vs bx f Γ = some (.ok (.bool b)) := by unfold alX; rw [h1]; simp only [h3, Option.map_some]
theorem rv_lcI {vs : List Nat} {bx : BX} (h1 : bx d (wipeG Γ vs) = some Γ') (h2 : f Γ' = some (.ok z)) : lcI vs bx fYes f Γ d = some (some z) := by unfold lcI; simp only [h1, fYes, h2]
theorem rv_alI {vs : List Nat} {bx : BX} (h1 : bx d (wipeG Γ vs) = some Γ') (h2 : f Γ' = some (.ok (.bool b))) : alI vs bx f Γ d = some b := by unfold alI; simp only [h1, h2]
theorem rv_def {G : Ga} (hl : ds.length = n) (hG : ds.map some ++ List.replicate (N - n) none = G) (h1 : s G = some (.rt d)) : defX n N s ds = some (.ok d) := by unfold defX; rw [if_pos hl, hG, h1]
theorem rv_defN {G : Ga} (hl : ds.length = n) (hG : ds.map some ++ List.replicate (N - n) none = G) (h1 : s G = some (.nx Γ')) : defX n N s ds = some (.ok .none) := by unfold defX; rw [if_pos hl, hG, h1]
theorem rv_defE {G : Ga} (hl : ds.length = n) (hG : ds.map some ++ List.replicate (N - n) none = G) (h1 : s G = some (.ex er Γ')) : defX n N s ds = some (.error er) := by unfold defX; rw [if_pos hl, hG, h1]
end
section
variable {i j : Int} {ds es : List PyData} {a b c d e : PyData}
theorem gv_add : gAdd (.int i) (.int j) = some (.int (i + j)) := rfl
theorem gv_mul (h : okMul i j) : gMul (.int i) (.int j) = some (.int (i * j)) := if_pos h
theorem gv_mulR (h1 : -1000000000 < j) (h2 : j < 1000000000) : gMul (.int i) (.int j) = some (.int (i * j)) := gv_mul (.inr ⟨by omega, by omega⟩)
theorem gv_mod (h : 0 < j) : gMod (.int i) (.int j) = some (.int (i % j)) := by unfold gMod gI; exact if_pos h
theorem gv_div (h : 0 < j ∧ j < 1073741824) : gDiv (.int i) (.int j) = some (.int (i / j)) := by unfold gDiv gI; exact if_pos h
theorem gv_p12 : gPow (.int 10) (.int 12) = some (.int 1000000000000) := by unfold gPow gI okPow; simp
theorem gv_lt : gLtI (.int i) (.int j) = some (.bool (decide (i < j))) := rfl
theorem gv_le : gLeI (.int i) (.int j) = some (.bool (decide (i ≤ j))) := rfl
theorem gv_eq : gEq (.int i) (.int j) = some (.bool (decide (i = j))) := rfl
theorem gv_ne : gNe (.int i) (.int j) = some (.bool (!decide (i = j))) := rfl
theorem gv_int : gInt (.int i) = some (.int i) := rfl
theorem gv_neg : gNeg (.int i) = some (.int (-i)) := rfl
theorem gv_lenL : gLen (.list ds) = some (.int ds.length) := rfl
theorem gv_lenT : gLen (.tuple ds) = some (.int ds.length) := rfl
theorem gv_ixL (h0 : 0 ≤ i) (h : ds[i.toNat]? = some d) : gIx (.list ds) (.int i) = some d := atI_nat h0 h
theorem gv_ixT (h0 : 0 ≤ i) (h : ds[i.toNat]? = some d) : gIx (.tuple ds) (.int i) = some d := atI_nat h0 h
theorem gv_tupL : gTupO (.list ds) = some (.tuple ds) := rfl
theorem gv_lstT : gLstO (.tuple ds) = some (.list ds) := rfl
theorem gv_L0 : gLstD [] = some (.list []) := rfl
theorem gv_L1 : gLstD [a] = some (.list [a]) := by unfold gLstD; rw [if_pos (by simp [big])]
theorem gv_L5 : gLstD [a, b, c, d, e] = some (.list [a, b, c, d, e]) := by unfold gLstD; rw [if_pos (by simp [big])]
theorem gv_T0 : gTupD [] = some (.tuple []) := rfl
theorem gv_T1 : gTupD [a] = some (.tuple [a]) := by unfold gTupD; rw [if_pos (by simp [big])]
theorem gv_rg (h : rgOk 0 i) : gRg1L (.int i) = some (.list (rgD 0 i)) := if_pos h
theorem gv_addL (h : ds.length + es.length ≤ big) : gAdd (.list ds) (.list es) = some (.list (ds ++ es)) := if_pos h
theorem gv_slL {lo hi : Option Int} : gSl (.list ds) lo hi = some (.list (cutD ds lo hi)) := rfl
theorem gv_inRg : gInRg (.int i) (.int j) = some (.bool (decide (0 ≤ i ∧ i < j))) := rfl
theorem gv_eqB {x y : PyData} {q : Bool} (h : gEqB x y = some q) : gEq x y = some (.bool q) := by unfold gEq; rw [h]; rfl
theorem gv_neB {x y : PyData} {q : Bool} (h : gEqB x y = some q) : gNe x y = some (.bool (!q)) := by unfold gNe; rw [h]; rfl
end
theorem sIx_none {n d : Nat} : HT.sIx n d none = d := rfl
theorem sIx_some {n d : Nat} {i : Int} (h0 : 0 ≤ i) (h1 : i ≤ n) : HT.sIx n d (some i) = i.toNat := by
  unfold HT.sIx
  simp only [show ¬ i < 0 by omega, if_false]
  omega
theorem cut_to {α : Type} {xs : List α} {i : Int} (h0 : 0 ≤ i) (h1 : i ≤ xs.length) : cutD xs none (some i) = xs.take i.toNat := by
  unfold cutD
  rw [sIx_none, sIx_some h0 h1, List.drop_zero, Nat.sub_zero]
theorem cut_from {α : Type} {xs : List α} {i : Int} (h0 : 0 ≤ i) (h1 : i ≤ xs.length) : cutD xs (some i) none = xs.drop i.toNat := by
  unfold cutD
  rw [sIx_none, sIx_some h0 h1, List.take_of_length_le (by rw [List.length_drop]; exact Nat.le_refl _)]
end Z
set_option Elab.async false
set_option linter.all false
set_option maxRecDepth 100000
set_option maxHeartbeats 4000000
namespace Z
open PySem PySem.Spec PyProof.Rows L2
section
variable {f g h : PX} {s t u : SX} {Γ Γ' : Ga} {i j : Nat} {c c' : PTx} {pa : PAx} {r : Option Oc} {d e z : PyData} {ds : List PyData} {b : Bool} {er : Er} {rr : Option Res} {n N : Nat} {bx : BX}
theorem rv_seq_asg (h1 : f Γ = some (.ok d)) (h2 : bx d Γ = some Γ') (h3 : t Γ' = r) : seqX (asgX f bx) t Γ = r := rv_seq (rv_asg h1 h2) h3
theorem rv_seq_drop (h1 : f Γ = some (.ok d)) (h3 : t Γ = r) : seqX (dropX f) t Γ = r := rv_seq (rv_drop h1) h3
theorem rv_seq_dropE (h1 : f Γ = some (.error er)) : seqX (dropX f) t Γ = some (.ex er Γ) := rv_seqE (rv_dropE h1)
theorem rv_seq_nxX (h3 : t Γ = r) : seqX nxX t Γ = r := rv_seq rv_nx h3
theorem rv_seq_ra {x : Str} (h1 : f Γ = some (.ok d)) : seqX (raX f x) t Γ = some (.ex (.own x) Γ) := rv_seqE (rv_ra h1)
theorem rv_seq_app (h0 : Γ[i]? = some (some (.list ds))) (h1 : f Γ = some (.ok d)) (h2 : ds.length < big) (h3 : Γ.set i (some (.list (ds ++ [d]))) = Γ') (h4 : t Γ' = r) : seqX (appX i f) t Γ = r := rv_seq (rv_app h0 h1 h2 h3) h4
theorem rv_seq_set {j : Nat} {k : Int} (h1 : g Γ = some (.ok d)) (h0 : Γ[i]? = some (some (.list ds))) (h2 : f Γ = some (.ok (.int k))) (h3 : ixN ds.length k = some j) (h4 : Γ.set i (some (.list (ds.set j d))) = Γ') (h5 : t Γ' = r) : seqX (setX i f g) t Γ = r := rv_seq (rv_set h1 h0 h2 h3 h4) h5
theorem rv_seq_if (h1 : c Γ = some (.ok b)) (h2 : b = true → seqX s u Γ = r) (h3 : b = false → seqX t u Γ = r) : seqX (ifS c s t) u Γ = r := by
  unfold seqX ifS at *
  rw [h1]
  cases b with
  | true => exact h2 rfl
  | false => exact h3 rfl
theorem rv_seq_ifT (h1 : c Γ = some (.ok true)) (h2 : seqX s u Γ = r) : seqX (ifS c s t) u Γ = r := rv_seq_if h1 (fun _ => h2) fun z => Bool.noConfusion z
theorem rv_seq_ifF (h1 : c Γ = some (.ok false)) (h2 : seqX t u Γ = r) : seqX (ifS c s t) u Γ = r := rv_seq_if h1 (fun z => Bool.noConfusion z) fun _ => h2
theorem rv_seq_for {ii : PIx} (h1 : ii Γ = some (.ok ds)) (h2 : forX bx s ds Γ = some (.nx Γ')) (h3 : t Γ' = r) : seqX (forS ii bx s) t Γ = r := rv_seq (rv_for h1 h2) h3
theorem rv_is {x y : PTx} {b b' : Bool} (h : x Γ = some (.ok b)) (e : b = b') : x Γ = some (.ok b') := by rw [h, e]
theorem rv_isX {x : PX} {d d' : PyData} (h : x Γ = some (.ok d)) (e : d = d') : x Γ = some (.ok d') := by rw [h, e]
theorem gv_addIs {i j m : Int} (h : i + j = m) : gAdd (.int i) (.int j) = some (.int m) := by rw [← h]; rfl
end
theorem forX_cons {bx : BX} {s : SX} {d : PyData} {ds : List PyData} {Γ Γ1 Γ2 : Ga} {r : Option Oc} (h1 : bx d Γ = some Γ1) (h2 : s Γ1 = some (.nx Γ2)) (h3 : forX bx s ds Γ2 = r) : forX bx s (d :: ds) Γ = r := by
  rw [forX, h1]
  simp only [h2, h3]
theorem forX_consR {bx : BX} {s : SX} {d e : PyData} {ds : List PyData} {Γ Γ1 : Ga} (h1 : bx d Γ = some Γ1) (h2 : s Γ1 = some (.rt e)) : forX bx s (d :: ds) Γ = some (.rt e) := by
  rw [forX, h1]
  simp only [h2]
end Z
set_option Elab.async false
set_option linter.all false
set_option maxRecDepth 100000
set_option maxHeartbeats 4000000
namespace M
open PySem PySem.Spec PyProof.Rows L2 Z
theorem app_cps (a b : Str) : (a ++ b).cps.toList = a.cps.toList ++ b.cps.toList := by
  show (a.cps ++ b.cps).toList = _
  simp
theorem gv_lenS {z : Str} (h : z.length ≤ big) : gLen (.str z) = some (.int z.length) := if_pos h
theorem gv_ixS {z : Str} {i : Int} {c : Nat} (hz : z.length ≤ big) (h0 : 0 ≤ i) (h : z.cps.toList[i.toNat]? = some c) : gIx (.str z) (.int i) = some (.str ⟨#[c]⟩) := by
  show (if z.length ≤ big then (atI z.cps.toList i).map fun c => PyData.str ⟨#[c]⟩ else none) = _
  rw [if_pos hz, atI_nat h0 h]
  rfl
theorem gv_ixN {ds : List PyData} {d : PyData} {i : Int} {j : Nat} (h : i = j) (hd : ds[j]? = some d) : gIx (.list ds) (.int i) = some d := gv_ixL (by omega) (by rw [h]; exact hd)
theorem gv_ixTN {ds : List PyData} {d : PyData} {i : Int} {j : Nat} (h : i = j) (hd : ds[j]? = some d) : gIx (.tuple ds) (.int i) = some d := gv_ixT (by omega) (by rw [h]; exact hd)
theorem rg_sorted (n : Nat) : (rg n).Pairwise (· ≤ ·) := by
  unfold rg
  rw [List.pairwise_map]
  exact List.pairwise_lt_range.imp fun h => by omega
theorem isort_rg {k : Nat} {o : List Int} (h : o.Perm (rg k)) : isort o = rg k := (isort_unique h.symm (rg_sorted k)).symm
theorem gv_neS {s : Str} : gNe (.str s) (.str s) = some (.bool false) := by
  show some (PyData.bool (!decide (s = s))) = _
  simp
theorem gv_eqS {s : Str} : gEq (.str s) (.str s) = some (.bool true) := by
  show some (PyData.bool (decide (s = s))) = _
  simp
theorem gv_addS {a b : Str} (h : a.length + b.length ≤ big) : gAdd (.str a) (.str b) = some (.str (a ++ b)) := if_pos h
abbrev Rows := List (List (Int × Int))
def tx (ds : List Nat) : Str := ⟨(ds.map (48 + ·)).toArray⟩
def dch (d : Nat) : Str := ⟨#[48 + d]⟩
abbrev chD (d : Nat) : PyData := .str (dch d)
theorem tx_cps (ds : List Nat) : (tx ds).cps.toList = ds.map (48 + ·) := by simp [tx]
theorem tx_len (ds : List Nat) : (tx ds).length = ds.length := by
  show (tx ds).cps.size = _
  rw [← Array.length_toList, tx_cps, List.length_map]
theorem tx_inj {a b : List Nat} (h : tx a = tx b) : a = b := by
  have h := congrArg (fun z : Str => z.cps.toList) h
  simp only [tx_cps] at h
  exact List.map_inj_right (fun x y h => by omega) |>.mp h
theorem tx_app (a b : List Nat) : tx a ++ tx b = tx (a ++ b) := by
  apply str_eq
  rw [app_cps, tx_cps, tx_cps, tx_cps, List.map_append]
theorem int_ch : ∀ d : Nat, d < 10 → PySem.intText? (dch d) = some (d : Int) := by decide +kernel
theorem gv_intC (d : Nat) (h : d < 10) : gInt (chD d) = some (.int (d : Int)) := by
  show (if (dch d).length ≤ 640 then (PySem.intText? (dch d)).map PyData.int else none) = _
  rw [int_ch d h, if_pos (show (dch d).length ≤ 640 from (by decide : 1 ≤ 640))]
  rfl
theorem gv_dig4 (d : Nat) (h : d < 4) : gIx (.str "0123") (.int (d : Int)) = some (chD d) := by
  rcases (by omega : d = 0 ∨ d = 1 ∨ d = 2 ∨ d = 3) with rfl | rfl | rfl | rfl <;> rfl
theorem gv_addC {w : List Nat} {d : Nat} (h : w.length ≤ 1000) : gAdd (.str (tx w)) (chD d) = some (.str (tx (w ++ [d]))) := by
  rw [gv_addS (by rw [tx_len]; show w.length + 1 ≤ big; unfold big; omega), ← tx_app]
  rfl
theorem rv_tryM {Γ : Ga} {body : SX} {hs : List (List (Str × Bool) × SX)} {d : PyData} (h : body Γ = some (.rt d)) : tryM body hs Γ = some (.rt d) := by
  unfold tryM
  simp only [h]
theorem rv_tryE {Γ Γ' : Ga} {body : SX} {hs : List (List (Str × Bool) × SX)} {e : Er} {su : SX} {d : PyData} (h : body Γ = some (.ex e Γ')) (h2 : pickH hs e = some (some su)) (h3 : su Γ' = some (.rt d)) : tryM body hs Γ = some (.rt d) := by
  unfold tryM
  simp only [h, h2, h3]
end M
set_option Elab.async false
set_option linter.all false
set_option maxRecDepth 100000
set_option maxHeartbeats 4000000
namespace M
open PySem PySem.Spec PyProof.Rows L2 Z
abbrev Ptr := Nat → Nat → Nat → Nat
def sh (k : Nat) : Nat → Nat → List Nat
  | 0, _ => []
  | i + 1, j => sh k i (j / k) ++ [j % k]
def numF (k : Nat) (a : Nat) (w : List Nat) : Nat := w.foldl (fun a d => a * k + d) a
abbrev num (k : Nat) (w : List Nat) : Nat := numF k 0 w
theorem numF_snoc (k a : Nat) (w : List Nat) (x : Nat) : numF k a (w ++ [x]) = numF k a w * k + x := by simp [numF, List.foldl_append]
theorem sh_len (k : Nat) : ∀ i j, (sh k i j).length = i
  | 0, _ => rfl
  | i + 1, j => by rw [sh, List.length_append, sh_len k i]; rfl
theorem sh_lt {k : Nat} (hk : 0 < k) : ∀ i j, ∀ d ∈ sh k i j, d < k
  | 0, _, d, h => nomatch h
  | i + 1, j, d, h => by
    rw [sh] at h
    rcases List.mem_append.mp h with h | h
    · exact sh_lt hk i _ d h
    · rw [List.mem_singleton.mp h]; exact Nat.mod_lt _ hk
theorem dv {k j i : Nat} (hk : 0 < k) (h : j < k ^ (i + 1)) : j / k < k ^ i := by
  rw [Nat.div_lt_iff_lt_mul hk]; rwa [Nat.pow_succ] at h
theorem num_sh {k : Nat} (hk : 0 < k) : ∀ i j, j < k ^ i → num k (sh k i j) = j
  | 0, j, h => by
    rw [Nat.pow_zero] at h
    show 0 = j
    omega
  | i + 1, j, h => by
    rw [sh, num, numF_snoc]
    have := num_sh hk i (j / k) (dv hk h)
    rw [num] at this
    rw [this]
    have := Nat.div_add_mod j k
    rw [Nat.mul_comm] at this
    exact this
theorem sh_cons {k i m x : Nat} (hx : x < k) : sh k (i + 1) (m * k + x) = sh k i m ++ [x] := by
  have hk : 0 < k := by omega
  rw [sh]
  have e1 : (m * k + x) / k = m := by
    rw [Nat.mul_comm, Nat.mul_add_div hk, Nat.div_eq_of_lt hx]; rfl
  have e2 : (m * k + x) % k = x := by rw [Nat.mul_comm, Nat.mul_add_mod, Nat.mod_eq_of_lt hx]
  rw [e1, e2]
def actL (k : Nat) (P : Ptr) : Nat → Nat → List Nat → List Nat
  | _, _, [] => []
  | i, a, x :: w => P i a x :: actL k P (i + 1) (a * k + x) w
abbrev act (k : Nat) (P : Ptr) (w : List Nat) : List Nat := actL k P 0 0 w
theorem actL_len (k : Nat) (P : Ptr) : ∀ (w : List Nat) (i a : Nat), (actL k P i a w).length = w.length
  | [], _, _ => rfl
  | x :: w, i, a => by rw [actL, List.length_cons, List.length_cons, actL_len k P w]
theorem actL_app (k : Nat) (P : Ptr) : ∀ (v w : List Nat) (i a : Nat), actL k P i a (v ++ w) = actL k P i a v ++ actL k P (i + v.length) (numF k a v) w
  | [], w, i, a => rfl
  | x :: v, w, i, a => by
    rw [List.cons_append, actL, actL, actL_app k P v w, List.cons_append, List.length_cons]
    have e : i + 1 + v.length = i + (v.length + 1) := by omega
    rw [e]
    rfl
structure Gd (k d : Nat) (P : Ptr) : Prop where
  perm : ∀ i j, i < d → j < k ^ i → ((List.range k).map (P i j)).Perm (List.range k)
theorem Gd.lt {k d : Nat} {P : Ptr} (G : Gd k d P) {i j x : Nat} (hi : i < d) (hj : j < k ^ i) (hx : x < k) : P i j x < k :=
  List.mem_range.mp ((G.perm i j hi hj).mem_iff.mp (List.mem_map.mpr ⟨x, List.mem_range.mpr hx, rfl⟩))
def img (k : Nat) (P : Ptr) : Nat → Nat → Nat
  | 0, _ => 0
  | i + 1, j => img k P i (j / k) * k + P i (j / k) (j % k)
theorem pow_lt' {k i a x : Nat} (ha : a < k ^ i) (hx : x < k) : a * k + x < k ^ (i + 1) := by
  rw [Nat.pow_succ]
  calc a * k + x < a * k + k := by omega
    _ = (a + 1) * k := by rw [Nat.add_mul, Nat.one_mul]
    _ ≤ k ^ i * k := Nat.mul_le_mul_right k ha
theorem img_lt {k d : Nat} {P : Ptr} (hk : 0 < k) (G : Gd k d P) : ∀ i j, i ≤ d → j < k ^ i → img k P i j < k ^ i
  | 0, j, _, _ => by rw [img, Nat.pow_zero]; exact Nat.one_pos
  | i + 1, j, hi, hj => by
    rw [img]
    exact pow_lt' (img_lt hk G i _ (by omega) (dv hk hj)) (G.lt (by omega) (dv hk hj) (Nat.mod_lt _ hk))
theorem mk_div {k a x : Nat} (hx : x < k) : (a * k + x) / k = a := by
  have hk : 0 < k := by omega
  rw [Nat.mul_comm, Nat.mul_add_div hk, Nat.div_eq_of_lt hx]; rfl
theorem mk_mod {k a x : Nat} (hx : x < k) : (a * k + x) % k = x := by rw [Nat.mul_comm, Nat.mul_add_mod, Nat.mod_eq_of_lt hx]
theorem act_sh {k d : Nat} {P : Ptr} (hk : 0 < k) (G : Gd k d P) : ∀ i j, i ≤ d → j < k ^ i → act k P (sh k i j) = sh k i (img k P i j)
  | 0, _, _, _ => rfl
  | i + 1, j, hi, hj => by
    have h1 := dv hk hj
    have h2 := act_sh hk G i (j / k) (by omega) h1
    have h3 := num_sh hk i (j / k) h1
    rw [sh, act, actL_app]
    rw [act] at h2
    rw [h2, Nat.zero_add, sh_len]
    rw [num] at h3
    rw [h3, img, sh_cons (G.lt (by omega) h1 (Nat.mod_lt _ hk))]
    rfl
def Same (k d : Nat) (P Q : Ptr) : Prop := ∀ i j x, i < d → j < k ^ i → x < k → P i j x = Q i j x
theorem Same.img {k d : Nat} {P Q : Ptr} (hk : 0 < k) (h : Same k d P Q) : ∀ i j, i ≤ d → j < k ^ i → img k P i j = img k Q i j
  | 0, _, _, _ => rfl
  | i + 1, j, hi, hj => by
    rw [M.img, M.img, Same.img hk h i _ (by omega) (dv hk hj), h i _ _ (by omega) (dv hk hj) (Nat.mod_lt _ hk)]
def idp : Ptr := fun _ _ x => x
theorem idp_gd (k d : Nat) : Gd k d idp := ⟨fun i j _ _ => by
  rw [show idp i j = id from rfl, List.map_id]⟩
abbrev rowP (k : Nat) (f : Nat → Nat) : PyData := .tuple ((List.range k).map fun x => PyData.int (f x : Nat))
abbrev levP (k : Nat) (P : Ptr) (i : Nat) : PyData := .tuple ((List.range (k ^ i)).map fun j => rowP k (P i j))
abbrev datP (k d : Nat) (P : Ptr) : PyData := .tuple ((List.range d).map (levP k P))
theorem gv_lev {k d : Nat} {P : Ptr} {i : Nat} (hi : i < d) : gIx (datP k d P) (.int (i : Nat)) = some (levP k P i) := gv_ixTN rfl (by simp [hi])
theorem gv_row' {k : Nat} {P : Ptr} {i j : Nat} (hj : j < k ^ i) : gIx (levP k P i) (.int (j : Nat)) = some (rowP k (P i j)) := gv_ixTN rfl (by simp [hj])
theorem gv_out {k x : Nat} {f : Nat → Nat} (hx : x < k) : gIx (rowP k f) (.int (x : Nat)) = some (.int (f x : Nat)) := gv_ixTN rfl (by simp [hx])
theorem numF_lt {k : Nat} : ∀ (w : List Nat) (a : Nat), (∀ d ∈ w, d < k) → numF k a w < (a + 1) * k ^ w.length
  | [], a, _ => by simp [numF]
  | x :: w, a, h => by
    have h1 := numF_lt w (a * k + x) fun d hd => h d (List.mem_cons_of_mem _ hd)
    have h2 := h x List.mem_cons_self
    have e : numF k a (x :: w) = numF k (a * k + x) w := rfl
    rw [e, List.length_cons]
    refine Nat.lt_of_lt_of_le h1 ?_
    rw [Nat.pow_succ, Nat.mul_comm (k ^ w.length) k, ← Nat.mul_assoc]
    refine Nat.mul_le_mul_right _ ?_
    rw [Nat.add_mul]
    omega
theorem num_lt {k : Nat} {w : List Nat} (h : ∀ d ∈ w, d < k) : num k w < k ^ w.length := by
  have := numF_lt w 0 h
  rwa [Nat.zero_add, Nat.one_mul] at this
theorem actL_get (k : Nat) (P : Ptr) : ∀ (w : List Nat) (i a m : Nat) (h : m < w.length), (actL k P i a w)[m]? = some (P (i + m) (numF k a (w.take m)) w[m])
  | x :: w, i, a, 0, _ => rfl
  | x :: w, i, a, m + 1, h => by
    rw [actL, List.getElem?_cons_succ, actL_get k P w (i + 1) (a * k + x) m (by simpa using h)]
    have e : i + 1 + m = i + (m + 1) := by omega
    rw [e]
    rfl
theorem act_take (k : Nat) (P : Ptr) (w : List Nat) (m : Nat) (h : m < w.length) : (act k P w).take (m + 1) = (act k P w).take m ++ [P m (num k (w.take m)) w[m]] := by
  rw [List.take_add_one, act, actL_get k P w 0 0 m h, Nat.zero_add]
  rfl
theorem num_take (k : Nat) (w : List Nat) (m : Nat) (h : m < w.length) : num k (w.take (m + 1)) = num k (w.take m) * k + w[m] := by
  rw [List.take_add_one, List.getElem?_eq_getElem h]
  exact numF_snoc k 0 _ _
theorem gv_txIx {w : List Nat} {m : Nat} (h : m < w.length) (hl : w.length ≤ 1000) : gIx (.str (tx w)) (.int (m : Nat)) = some (chD w[m]) := by
  refine gv_ixS (c := 48 + w[m]) (by rw [tx_len]; unfold big; omega) (by omega) ?_
  rw [tx_cps, Int.toNat_natCast, List.getElem?_map, List.getElem?_eq_getElem h]
  rfl
theorem row_perm {k : Nat} {row : List Int} (h : row.Perm (rg k)) : PyData.tuple (row.map .int) = rowP k (fun x => (row.getD x 0).toNat) ∧ ((List.range k).map fun x => (row.getD x 0).toNat).Perm (List.range k) := by
  have hl : row.length = k := by rw [h.length_eq]; simp [rg]
  have e1 : (List.range k).map (fun x => (row.getD x 0).toNat) = row.map Int.toNat := by
    refine List.ext_getElem (by simp [hl]) fun i h1 h2 => ?_
    have hi : i < row.length := by simpa using h2
    simp [List.getD_eq_getElem?_getD, List.getElem?_eq_getElem hi]
  refine ⟨?_, ?_⟩
  · unfold rowP
    congr 1
    refine List.ext_getElem (by simp [hl]) fun i h1 h2 => ?_
    have hi : i < row.length := by simpa using h1
    have h0 : 0 ≤ row[i] := by
      obtain ⟨n, _, e⟩ := List.mem_map.mp (h.mem_iff.mp (List.getElem_mem hi))
      omega
    simp only [List.getElem_map, List.getElem_range, List.getD_eq_getElem?_getD, List.getElem?_eq_getElem hi, Option.getD_some]
    rw [Int.toNat_of_nonneg h0]
  · rw [e1]
    have h2 := h.map Int.toNat
    have e2 : (rg k).map Int.toNat = List.range k := by
      unfold rg
      rw [List.map_map]
      conv => rhs; rw [← List.map_id (List.range k)]
      exact List.map_congr_left fun x _ => rfl
    rwa [e2] at h2
end M
set_option Elab.async false
set_option linter.all false
set_option maxRecDepth 100000
set_option maxHeartbeats 4000000
namespace M
open PySem PySem.Spec PyProof.Rows L2 Z D
theorem cell_eq (xs : List Int) (k : Nat) : F__law_cell [.list (xs.map .int), .int k] = some (.ok (.int (xs.getD k 0))) := by
  refine rv_def (G := [some (.list (xs.map .int)), some (.int k)]) rfl rfl ?_
  unfold p__law_cell
  have hl : (xs.map PyData.int).length = xs.length := by simp
  by_cases h : k < xs.length
  · refine rv_seqR (rv_if (rv_toT (rv_b2 (rv_fV rfl) (rv_b1 (rv_fV rfl) gv_lenL) gv_lt)) (fun _ => rv_ret (rv_b2 (rv_fV rfl) (rv_fV rfl) (gv_ixL (Int.natCast_nonneg k) ?_))) fun z => ?_)
    · simp [h]
    · rw [hl] at z
      exact absurd h (by have := of_decide_eq_false z; omega)
  · refine rv_seq (rv_if (rv_toT (rv_b2 (rv_fV rfl) (rv_b1 (rv_fV rfl) gv_lenL) gv_lt)) (fun z => ?_) fun _ => rv_nx) (rv_ret ?_)
    · rw [hl] at z
      exact absurd (of_decide_eq_true z) (by omega)
    · have : xs.getD k 0 = 0 := by simp [List.getElem?_eq_none (show xs.length ≤ k by omega)]
      rw [this]
      exact rv_fC
def VInv (cell count size : Int) (i : Nat) (Γ : Ga) : Prop := ∃ (vs : List Int) (rest : Int) (x y : Option PyData), Γ = [some (.int cell), some (.int count), some (.int size), some (.list (vs.map .int)), some (.int rest), x, y] ∧ vs.length = i ∧ ∀ v ∈ vs, 0 ≤ v ∧ v < size
theorem values_eq (cell : Int) (count : Nat) (size : Int) (hc : count ≤ 10000) (h1 : 0 < size) (h2 : size < 1000) : ∃ vs : List Int, F__law_values [.int cell, .int count, .int size] = some (.ok (.list (vs.map .int))) ∧ vs.length = count ∧ ∀ v ∈ vs, 0 ≤ v ∧ v < size := by
  have loop := forR_inv (b := bNm 5) (s := (ifS (toT (b2 (fV 4) (b2 (fC (.int 10)) (fC (.int 12)) gPow) gGeI)) (seqX (appX 3 (b2 (b1 (fV 4) gInt) (fV 2) gMod))
    (asgX (b2 (fV 4) (fV 2) gDiv) (bNm 4))) (seqX (asgX (b2 (b2 (b2 (b2 (b2 (b1 (fV 0) gInt) (fC (.int 2147483647)) gMod) (fC (.int 48271)) gMul) (b2 (fV 5) (fC (.int 69621)) gMul) gAdd) (fC (.int 7)) gAdd) (fC (.int 2147483647)) gMod) (bNm 6))
    (appX 3 (b2 (b2 (b2 (fV 6) (fC (.int 16807)) gMul) (fC (.int 2147483647)) gMod) (fV 2) gMod))))) (VInv cell count size) (n := count) (Γ := [some (.int cell), some (.int count), some (.int size), some (.list []), some (.int cell), none, none]) ⟨[], cell, none, none, rfl, rfl, by simp⟩ ?_
  · obtain ⟨Γ', e1, vs, rest, x, y, rfl, e3, e4⟩ := loop
    refine ⟨vs, ?_, e3, e4⟩
    refine rv_def (G := [some (.int cell), some (.int count), some (.int size), none, none, none, none]) rfl rfl ?_
    unfold p__law_values
    refine rv_seq (rv_asg (rv_c1 rv_nil gv_L0) rfl) (rv_seq (rv_asg (rv_fV rfl) rfl) (rv_seq (rv_for (rv_iR1 (rv_fV rfl) ?_) e1) (rv_ret (rv_fV rfl))))
    unfold rgB; omega
  · rintro i Γ hi ⟨vs, rest, x, y, rfl, e3, e4⟩
    have lb : (vs.map PyData.int).length < big := by rw [List.length_map, e3]; unfold big; omega
    have app : ∀ v : Int, vs.map PyData.int ++ [PyData.int v] = (vs ++ [v]).map PyData.int := fun v => by simp
    have inv : ∀ (v rest : Int) (y : Option PyData), 0 ≤ v → v < size → VInv cell count size (i + 1) [some (.int cell), some (.int count), some (.int size), some (.list ((vs ++ [v]).map .int)), some (.int rest), some (.int i), y] := fun v rest y k1 k2 =>
      ⟨vs ++ [v], rest, _, y, rfl, by simp [e3], fun w hw => by
        rcases List.mem_append.mp hw with q | q
        · exact e4 w q
        · rw [List.mem_singleton.mp q]; exact ⟨k1, k2⟩⟩
    have inv' : ∀ (v rest : Int) (y : Option PyData), 0 ≤ v → v < size → VInv cell count size (i + 1) [some (.int cell), some (.int count), some (.int size), some (.list (vs.map .int ++ [.int v])), some (.int rest), some (.int i), y] := fun v rest y k1 k2 => by
      rw [app]; exact inv v rest y k1 k2
    by_cases hr : (1000000000000 : Int) ≤ rest
    · refine ⟨_, [some (.int cell), some (.int count), some (.int size), some (.list (vs.map .int ++ [.int (rest % size)])), some (.int (rest / size)), some (.int i), y], rfl, ?_, inv' _ _ _ (Int.emod_nonneg _ (by omega)) (Int.emod_lt_of_pos _ h1)⟩
      exact rv_ifT (rv_toT (rv_b2 (rv_fV rfl) (rv_b2 rv_fC rv_fC gv_p12) (show some _ = some _ by simp [hr]))) (rv_seq (rv_app rfl (rv_b2 (rv_b1 (rv_fV rfl) gv_int) (rv_fV rfl) (gv_mod h1)) lb rfl) (rv_asg (rv_b2 (rv_fV rfl) (rv_fV rfl) (gv_div ⟨h1, by omega⟩)) rfl))
    · refine ⟨_, [some (.int cell), some (.int count), some (.int size), some (.list (vs.map .int ++ [.int (((cell % 2147483647 * 48271 + i * 69621 + 7) % 2147483647) * 16807 % 2147483647 % size)])), some (.int rest), some (.int i), some (.int ((cell % 2147483647 * 48271 + i * 69621 + 7) % 2147483647))], rfl, ?_, inv' _ _ _ (Int.emod_nonneg _ (by omega)) (Int.emod_lt_of_pos _ h1)⟩
      exact rv_ifF (rv_toT (rv_b2 (rv_fV rfl) (rv_b2 rv_fC rv_fC gv_p12) (show some _ = some _ by simp; omega))) (rv_seq (rv_asg (rv_b2 (rv_b2 (rv_b2 (rv_b2 (rv_b2 (rv_b1 (rv_fV rfl) gv_int) rv_fC (gv_mod (by omega))) rv_fC (gv_mulR (by omega) (by omega))) (rv_b2 (rv_fV rfl) rv_fC (gv_mulR (by omega) (by omega))) gv_add) rv_fC gv_add) rv_fC (gv_mod (by omega))) rfl)
        (rv_app rfl (rv_b2 (rv_b2 (rv_b2 (rv_fV rfl) rv_fC (gv_mulR (by omega) (by omega))) rv_fC (gv_mod (by omega))) (rv_fV rfl) (gv_mod h1)) lb rfl))
end M
set_option Elab.async false
set_option linter.all false
set_option maxRecDepth 100000
set_option maxHeartbeats 4000000
namespace M
open PySem PySem.Spec PyProof.Rows L2 Z D
def AInv (size : Nat) (i : Nat) (Γ : Ga) : Prop := ∃ (value : Int) (left row : List Int) (x y : Option PyData), Γ = [some (.int value), some (.int size), some (.list (left.map .int)), some (.list (row.map .int)), x, y] ∧ row.length = i ∧ left.length + i = size ∧ (row ++ left).Perm (rg size)
theorem arranged_eq (value : Int) (size : Nat) (hs : size ≤ 1000) : ∃ row : List Int, F__law_arranged [.int value, .int size] = some (.ok (.tuple (row.map .int))) ∧ row.Perm (rg size) := by
  have lr : (rg size).length = size := by simp [rg]
  have loop := forR_inv (b := bNm 4) (s := (seqX (asgX (b2 (fV 0) (b1 (fV 2) gLen) gMod) (bNm 5)) (seqX (asgX (b2 (fV 0) (b1 (fV 2) gLen) gDiv) (bNm 0)) (seqX (appX 3 (b2 (fV 2) (fV 5) gIx))
    (asgX (b2 (s3 (fV 2) oNone (oSome (fV 5)) gSl) (s3 (fV 2) (oSome (b2 (fV 5) (fC (.int 1)) gAdd)) oNone gSl) gAdd) (bNm 2)))))) (AInv size) (n := size) (Γ := [some (.int value), some (.int size), some (.list ((rg size).map .int)), some (.list []), none, none]) ⟨value, rg size, [], none, none, rfl, rfl, by rw [lr]; rfl, by simp⟩ ?_
  · obtain ⟨Γ', e1, v, left, row, x, y, rfl, e3, e4, e5⟩ := loop
    have : left = [] := List.eq_nil_of_length_eq_zero (by omega)
    subst this
    rw [List.append_nil] at e5
    refine ⟨row, ?_, e5⟩
    refine rv_def (G := [some (.int value), some (.int size), none, none, none, none]) rfl rfl ?_
    unfold p__law_arranged
    refine rv_seq (rv_asg (rv_b1 (rv_fV rfl) (gv_rg ?_)) rfl) (rv_seq (rv_asg (rv_c1 rv_nil gv_L0) rfl) (rv_seq (rv_for (rv_iR1 (rv_fV rfl) ?_) (by rw [← rgD_rg] at e1; exact e1)) (rv_ret (rv_b1 (rv_fOl rfl) gv_tupL))))
    · unfold rgOk; omega
    · unfold rgB; omega
  · rintro i Γ hi ⟨v, left, row, x, y, rfl, e3, e4, e5⟩
    have hp : (0 : Int) < ((left.map PyData.int).length : Nat) := by rw [List.length_map]; omega
    obtain ⟨at_, hat⟩ : ∃ at_ : Int, at_ = v % ((left.map PyData.int).length : Nat) := ⟨_, rfl⟩
    have a0 : 0 ≤ at_ := by rw [hat]; exact Int.emod_nonneg _ (by omega)
    have a1 : at_ < left.length := by
      have := Int.emod_lt_of_pos v hp
      rw [← hat, List.length_map] at this
      exact this
    have lt : at_.toNat < left.length := by omega
    have e : cutD (left.map PyData.int) none (some at_) ++ cutD (left.map PyData.int) (some (at_ + 1)) none = (left.take at_.toNat ++ left.drop (at_.toNat + 1)).map .int := by
      rw [cut_to a0 (by rw [List.length_map]; omega), cut_from (by omega) (by rw [List.length_map]; omega), show (at_ + 1).toNat = at_.toNat + 1 by omega, List.map_append, List.map_take, List.map_drop]
    refine ⟨_, [some (.int (v / ((left.map PyData.int).length : Nat))), some (.int size), some (.list (left.take at_.toNat ++ left.drop (at_.toNat + 1) |>.map .int)), some (.list (row ++ [left[at_.toNat]] |>.map .int)), some (.int i), some (.int at_)], rfl, ?_, _, left.take at_.toNat ++ left.drop (at_.toNat + 1), row ++ [left[at_.toNat]], _, _, rfl, by simp [e3], ?_, ?_⟩
    · apply rv_seq
      · apply rv_asg
        · apply rv_b2 (rv_fV rfl) (rv_b1 (rv_fV rfl) gv_lenL) (gv_mod hp)
        · rfl
      · apply rv_seq
        · apply rv_asg
          · apply rv_b2 (rv_fV rfl) (rv_b1 (rv_fV rfl) gv_lenL) (gv_div ⟨hp, by rw [List.length_map]; omega⟩)
          · rfl
        · rw [← hat]
          apply rv_seq
          · apply rv_app rfl (rv_b2 (rv_fV rfl) (rv_fV rfl) (gv_ixL (d := .int left[at_.toNat]) a0 (by simp [lt]))) (by rw [List.length_map]; unfold big; omega) rfl
          · apply rv_asg
            · refine rv_b2 (rv_s3 (rv_fV rfl) rv_oNone (rv_oSome (rv_fV rfl)) gv_slL) (rv_s3 (rv_fV rfl) (rv_oSome (rv_b2 (rv_fV rfl) rv_fC gv_add)) rv_oNone gv_slL) (gv_addL ?_)
              rw [← List.length_append, e]
              simp [big]
              omega
            · rw [e]
              simp [bNm]
    · simp; omega
    · have hl : left = left.take at_.toNat ++ left[at_.toNat] :: left.drop (at_.toNat + 1) := by rw [← List.drop_eq_getElem_cons lt, List.take_append_drop]
      refine List.Perm.trans ?_ e5
      conv => rhs; rw [hl]
      rw [List.append_assoc]
      exact List.Perm.append_left row (show (left[at_.toNat] :: (left.take at_.toNat ++ left.drop (at_.toNat + 1))).Perm _ from List.perm_middle.symm)
end M
set_option Elab.async false
set_option linter.all false
set_option maxRecDepth 100000
set_option maxHeartbeats 4000000
namespace M
open PySem PySem.Spec PyProof.Rows L2 Z D
abbrev lvStep (k : Nat) (i m : Nat) : List PyData := (List.range m).map fun j => PyData.str (tx (sh k i j))
theorem lvStep_add (k i m : Nat) : lvStep k (i + 1) (m * k) ++ ((List.range k).map fun x => PyData.str (tx (sh k i m ++ [x]))) = lvStep k (i + 1) ((m + 1) * k) := by
  unfold lvStep
  rw [show (m + 1) * k = m * k + k by rw [Nat.add_mul, Nat.one_mul], List.range_add, List.map_append, List.map_map]
  congr 1
  refine List.map_congr_left fun x hx => ?_
  show _ = PyData.str (tx (sh k (i + 1) (m * k + x)))
  rw [sh_cons (List.mem_range.mp hx)]
theorem pow_small {k i n : Nat} (hk : k ≤ 4) (hi : i ≤ n) (hn : n ≤ 6) : k ^ i ≤ 4096 := by
  calc k ^ i ≤ 4 ^ i := Nat.pow_le_pow_left hk i
    _ ≤ 4 ^ 6 := Nat.pow_le_pow_right (by decide) (by omega)
    _ = 4096 := by decide
theorem level_eq {k n : Nat} (hk : 1 ≤ k ∧ k ≤ 4) (hn : n ≤ 6) : F__law_level [.int k, .int n] = some (.ok (.list (lvStep k n (k ^ n)))) := by
  have loop := forR_inv (b := bNm 3) (s := (seqX (asgX (c1 aNil gLstD) (bNm 4))
    (seqX (forS (iA (fV 2)) (bNm 5) (asgX (b2 (fV 4) (lcX (iR1 (fV 0)) [6] (bNm 6) fYes (b2 (fV 5) (b2 (fC (.str "0123")) (fV 6) gIx) gAdd)) gAdd) (bNm 4)))
    (asgX (fV 4) (bNm 2))))) (fun i Γ => ∃ x3 x4 x5 x6 : Option PyData, Γ = [some (.int k), some (.int n), some (.list (lvStep k i (k ^ i))), x3, x4, x5, x6]) (n := n) (Γ := [some (.int k), some (.int n), some (.list [.str ""]), none, none, none, none]) ⟨none, none, none, none, rfl⟩ ?_
  · obtain ⟨Γ', e1, x3, x4, x5, x6, rfl⟩ := loop
    refine rv_def (G := [some (.int k), some (.int n), none, none, none, none, none]) rfl rfl ?_
    unfold p__law_level
    refine rv_seq (rv_asg (rv_c1 (rv_cons rv_fC rv_nil) gv_L1) rfl) (rv_seq (rv_for (rv_iR1 (rv_fV rfl) (by unfold rgB; omega)) e1) (rv_ret (rv_fV rfl)))
  · rintro i Γ hi ⟨x3, x4, x5, x6, rfl⟩
    have hb := pow_small (k := k) (i := i + 1) (n := n) hk.2 (by omega) hn
    have inner := forX_inv (b := bNm 5) (s := (asgX (b2 (fV 4) (lcX (iR1 (fV 0)) [6] (bNm 6) fYes (b2 (fV 5) (b2 (fC (.str "0123")) (fV 6) gIx) gAdd)) gAdd) (bNm 4))) (fun m Γ => ∃ x5 : Option PyData, Γ = [some (.int k), some (.int n), some (.list (lvStep k i (k ^ i))), some (.int i), some (.list (lvStep k (i + 1) (m * k))), x5, x6])
      (lvStep k i (k ^ i)) 0 [some (.int k), some (.int n), some (.list (lvStep k i (k ^ i))), some (.int i), some (.list []), x5, x6] ⟨x5, by rw [Nat.zero_mul]; rfl⟩ ?_
    · obtain ⟨Γ', e1, x5, rfl⟩ := inner
      refine ⟨[some (.int k), some (.int n), some (.list (lvStep k i (k ^ i))), some (.int i), x4, _, x6], _, rfl, rv_seq (rv_asg (rv_c1 rv_nil gv_L0) rfl) (rv_seq (rv_for (rv_iA (rv_fV rfl) rfl) e1) (rv_asg (rv_fV rfl) rfl)), some (.int i), some (.list (lvStep k (i + 1) (k ^ (i + 1)))), x5, x6, ?_⟩
      have e : (0 + (lvStep k i (k ^ i)).length) * k = k ^ (i + 1) := by unfold lvStep; rw [List.length_map, List.length_range, Nat.zero_add, Nat.pow_succ]
      rw [e]
      rfl
    · rintro m d Γ hd ⟨x5, rfl⟩
      rw [Nat.zero_add]
      have hm : m < k ^ i := by
        have := (List.getElem?_eq_some_iff.mp hd).1
        unfold lvStep at this
        rwa [List.length_map, List.length_range] at this
      have hd2 : d = .str (tx (sh k i m)) := by
        unfold lvStep at hd
        rw [List.getElem?_map, List.getElem?_range hm] at hd
        exact (Option.some.inj hd).symm
      subst hd2
      have hmk : (m + 1) * k ≤ k ^ (i + 1) := by rw [Nat.pow_succ]; exact Nat.mul_le_mul_right k hm
      refine ⟨[some (.int k), some (.int n), some (.list (lvStep k i (k ^ i))), some (.int i), some (.list (lvStep k (i + 1) (m * k))), some (.str (tx (sh k i m))), x6], [some (.int k), some (.int n), some (.list (lvStep k i (k ^ i))), some (.int i), some (.list (lvStep k (i + 1) ((m + 1) * k))), some (.str (tx (sh k i m))), x6], rfl, ?_, some (.str (tx (sh k i m))), rfl⟩
      rw [← lvStep_add]
      refine rv_asg (rv_b2 (rv_fV rfl) (rv_lc (ds := (List.range k).map fun (x : Nat) => PyData.int (x : Int)) (ys := (List.range k).map fun x => PyData.str (tx (sh k i m ++ [x]))) ?_ ?_ ?_) (gv_addL ?_)) rfl
      · rw [← rgD_map]; exact rv_iR1 (rv_fV rfl) (by unfold rgB; omega)
      · rw [List.length_map, List.length_range]; unfold big; omega
      · refine lcL_map (f := fun (x : Nat) => PyData.int (x : Int)) (g := fun x => PyData.str (tx (sh k i m ++ [x]))) fun x hx => ?_
        have hx := List.mem_range.mp hx
        refine rv_lcI rfl (rv_b2 (rv_fV rfl) (rv_b2 rv_fC (rv_fV rfl) (gv_dig4 x (by omega))) (gv_addC ?_))
        rw [sh_len]; omega
      · unfold lvStep
        rw [List.length_map, List.length_range, List.length_map, List.length_range]
        rw [Nat.add_mul, Nat.one_mul] at hmk
        unfold big
        omega
theorem acted_eq {k d : Nat} {P : Ptr} (hk : k ≤ 4) (G : Gd k d P) {w : List Nat} (hl : w.length ≤ d) (hd : d ≤ 6) (hw : ∀ x ∈ w, x < k) : F__law_acted [.int k, datP k d P, .str (tx w)] = some (.ok (.str (tx (act k P w)))) := by
  have loop := forR_inv (b := bNm 5) (s := (seqX (asgX (b1 (b2 (fV 2) (fV 5) gIx) gInt) (bNm 6))
    (seqX (asgX (b2 (fV 3) (b2 (fC (.str "0123")) (b2 (b2 (b2 (fV 1) (fV 5) gIx) (fV 4) gIx) (fV 6) gIx) gIx) gAdd) (bNm 3))
    (asgX (b2 (b2 (fV 4) (fV 0) gMul) (fV 6) gAdd) (bNm 4))))) (fun i Γ => ∃ x5 x6 : Option PyData, Γ = [some (.int k), some (datP k d P), some (.str (tx w)), some (.str (tx ((act k P w).take i))), some (.int (num k (w.take i) : Nat)), x5, x6]) (n := w.length)
    (Γ := [some (.int k), some (datP k d P), some (.str (tx w)), some (.str ""), some (.int 0), none, none]) ⟨none, none, rfl⟩ ?_
  · obtain ⟨Γ', e1, x5, x6, rfl⟩ := loop
    refine rv_def (G := [some (.int k), some (datP k d P), some (.str (tx w)), none, none, none, none]) rfl rfl ?_
    unfold p__law_acted
    refine rv_seq (rv_asg rv_fC rfl) (rv_seq (rv_asg rv_fC rfl) (rv_seq (rv_for (rv_iR1 (k := w.length) (rv_b1 (rv_fV rfl) ?_) (by unfold rgB; omega)) e1) (rv_ret (rv_isX (rv_fV rfl) ?_))))
    · rw [gv_lenS (by rw [tx_len]; unfold big; omega), tx_len]
    · rw [List.take_of_length_le (by rw [act, actL_len]; exact Nat.le_refl _)]
  · rintro i Γ hi ⟨x5, x6, rfl⟩
    have hx : w[i] < k := hw _ (List.getElem_mem hi)
    have hn : num k (w.take i) < k ^ i := by
      have := num_lt (k := k) (w := w.take i) fun d hd => hw d (List.mem_of_mem_take hd)
      rwa [List.length_take, Nat.min_eq_left (by omega)] at this
    have hp := G.lt (i := i) (by omega) hn hx
    refine ⟨[some (.int k), some (datP k d P), some (.str (tx w)), some (.str (tx ((act k P w).take i))), some (.int (num k (w.take i) : Nat)), some (.int i), x6], [some (.int k), some (datP k d P), some (.str (tx w)), some (.str (tx ((act k P w).take (i + 1)))), some (.int (num k (w.take (i + 1)) : Nat)), some (.int i), some (.int (w[i] : Nat))], rfl, ?_, some (.int i), some (.int (w[i] : Nat)), rfl⟩
    rw [act_take k P w i hi, num_take k w i hi]
    refine rv_seq (rv_asg (rv_b1 (rv_b2 (rv_fV rfl) (rv_fV rfl) (gv_txIx hi (by omega))) (gv_intC _ (by omega))) rfl) ?_
    refine rv_seq (rv_asg (rv_b2 (rv_fV rfl) (rv_b2 rv_fC (rv_b2 (rv_b2 (rv_b2 (rv_fV rfl) (rv_fV rfl) (gv_lev (by omega))) (rv_fV rfl) (gv_row' hn)) (rv_fV rfl) (gv_out hx)) (gv_dig4 _ (by omega))) (gv_addC ?_)) rfl) ?_
    · rw [List.length_take]; omega
    · refine rv_asg (rv_b2 (rv_b2 (rv_fV rfl) (rv_fV rfl) (gv_mulR (by omega) (by omega))) (rv_fV rfl) (gv_addIs ?_)) rfl
      rw [Int.natCast_add, Int.natCast_mul]
theorem portrait_eq (cell : Int) {k d : Nat} (hk : 1 ≤ k ∧ k ≤ 4) (hd : d ≤ 6) : ∃ P : Ptr, Gd k d P ∧ F__law_portrait [.int cell, .int k, .int d] = some (.ok (datP k d P)) := by
  obtain ⟨f, hf⟩ := Classical.skolem.mp fun v => arranged_eq v k (by omega)
  have loop := forR_inv (b := bNm 5) (s := (seqX (asgX (callX (aCons (b2 (fV 0) (b2 (fC (.int 31)) (fV 5) gMul) gAdd) (aCons (fV 4) (aCons (fC (.int 997)) aNil))) F__law_values) (bNm 6))
    (seqX (appX 3 (b1 (lcX (iA (fV 6)) [7] (bNm 7) fYes (callX (aCons (fV 7) (aCons (fV 1) aNil)) F__law_arranged)) gTupO))
    (asgX (b2 (fV 4) (fV 1) gMul) (bNm 4))))) (fun i Γ => ∃ (P : Ptr) (x5 x6 x7 : Option PyData), Gd k i P ∧ Γ = [some (.int cell), some (.int k), some (.int d), some (.list ((List.range i).map (levP k P))), some (.int (k ^ i : Nat)), x5, x6, x7]) (n := d)
    (Γ := [some (.int cell), some (.int k), some (.int d), some (.list []), some (.int 1), none, none, none]) ⟨idp, none, none, none, idp_gd k 0, rfl⟩ ?_
  · obtain ⟨Γ', e1, P, x5, x6, x7, G, rfl⟩ := loop
    refine ⟨P, G, ?_⟩
    refine rv_def (G := [some (.int cell), some (.int k), some (.int d), none, none, none, none, none]) rfl rfl ?_
    unfold p__law_portrait
    exact rv_seq (rv_asg (rv_c1 rv_nil gv_L0) rfl) (rv_seq (rv_asg rv_fC rfl) (rv_seq (rv_for (rv_iR1 (rv_fV rfl) (by unfold rgB; omega)) e1) (rv_ret (rv_b1 (rv_fOl rfl) gv_tupL))))
  · rintro i Γ hi ⟨P, x5, x6, x7, G, rfl⟩
    have hb := pow_small (k := k) (i := i) (n := d) hk.2 (by omega) hd
    obtain ⟨vs, v1, v2, v3⟩ := values_eq (cell + 31 * (i : Int)) (k ^ i) 997 (by omega) (by omega) (by omega)
    have lc : lcX (iA (fV 6)) [7] (bNm 7) fYes (callX (aCons (fV 7) (aCons (fV 1) aNil)) F__law_arranged) [some (.int cell), some (.int k), some (.int d), some (.list ((List.range i).map (levP k P))), some (.int (k ^ i : Nat)), some (.int i), some (.list (vs.map .int)), x7] = some (.ok (.list (vs.map fun v => PyData.tuple ((f v).map .int)))) := by
      refine rv_lc (ds := vs.map .int) (rv_iA (d := .list (vs.map .int)) (rv_fV rfl) rfl) ?_ (lcL_map (f := PyData.int) (g := fun v => PyData.tuple ((f v).map .int)) fun v _ => rv_lcI rfl (rv_callX (rv_cons (rv_fV rfl) (rv_cons (rv_fV rfl) rv_nil)) (hf v).1))
      rw [List.length_map]; unfold big; omega
    refine ⟨[some (.int cell), some (.int k), some (.int d), some (.list ((List.range i).map (levP k P))), some (.int (k ^ i : Nat)), some (.int i), x6, x7], [some (.int cell), some (.int k), some (.int d), some (.list ((List.range i).map (levP k P) ++ [.tuple (vs.map fun v => PyData.tuple ((f v).map .int))])), some (.int ((k ^ i : Nat) * (k : Int))), some (.int i), some (.list (vs.map .int)), x7], rfl, ?_, fun i' j x => if i' = i then ((f (vs.getD j 0)).getD x 0).toNat else P i' j x, some (.int i), some (.list (vs.map .int)), x7, ?_, ?_⟩
    · refine rv_seq (rv_asg (rv_callX (rv_cons (rv_b2 (rv_fV rfl) (rv_b2 rv_fC (rv_fV rfl) (gv_mulR (by omega) (by omega))) gv_add) (rv_cons (rv_fV rfl) (rv_cons rv_fC rv_nil))) v1) rfl) ?_
      refine rv_seq (rv_app rfl (rv_b1 lc gv_tupL) ?_ rfl) (rv_asg (rv_b2 (rv_fV rfl) (rv_fV rfl) (gv_mulR (by omega) (by omega))) rfl)
      rw [List.length_map, List.length_range]; unfold big; omega
    · refine ⟨fun i' j hi' hj => ?_⟩
      by_cases e : i' = i
      · subst e
        simp only [if_true]
        exact (row_perm (hf _).2).2
      · simp only [if_neg e]
        exact G.perm i' j (by omega) hj
    · rw [List.range_succ, List.map_append]
      have e1 : (List.range i).map (levP k P) = (List.range i).map (levP k fun i' j x => if i' = i then ((f (vs.getD j 0)).getD x 0).toNat else P i' j x) := by
        refine List.map_congr_left fun i' hi' => ?_
        have := List.mem_range.mp hi'
        unfold levP rowP
        simp only [if_neg (show i' ≠ i by omega)]
      have e2 : PyData.tuple (vs.map fun v => PyData.tuple ((f v).map .int)) = levP k (fun i' j x => if i' = i then ((f (vs.getD j 0)).getD x 0).toNat else P i' j x) i := by
        refine congrArg PyData.tuple (List.ext_getElem (by simp [v2]) fun j h1 h2 => ?_)
        have hj : j < vs.length := by simpa using h1
        simp only [List.getElem_map, List.getElem_range, if_true]
        rw [(row_perm (hf _).2).1, List.getD_eq_getElem?_getD, List.getElem?_eq_getElem hj]
        rfl
      rw [e1, e2, Nat.pow_succ, Int.natCast_mul]
      rfl
end M
set_option Elab.async false
set_option linter.all false
set_option maxRecDepth 100000
set_option maxHeartbeats 4000000
namespace M
open PySem PySem.Spec PyProof.Rows L2 Z
abbrev fl (k : Nat) (f : Nat → Nat) : List Nat := (List.range k).map f
def perms : Nat → List (List Nat)
  | 2 => [[0, 1], [1, 0]]
  | 3 => [[0, 1, 2], [0, 2, 1], [1, 0, 2], [1, 2, 0], [2, 0, 1], [2, 1, 0]]
  | 4 => [[0, 1, 2, 3], [0, 1, 3, 2], [0, 2, 1, 3], [0, 2, 3, 1], [0, 3, 1, 2], [0, 3, 2, 1], [1, 0, 2, 3], [1, 0, 3, 2], [1, 2, 0, 3], [1, 2, 3, 0], [1, 3, 0, 2], [1, 3, 2, 0], [2, 0, 1, 3], [2, 0, 3, 1], [2, 1, 0, 3], [2, 1, 3, 0], [2, 3, 0, 1], [2, 3, 1, 0], [3, 0, 1, 2], [3, 0, 2, 1], [3, 1, 0, 2], [3, 1, 2, 0], [3, 2, 0, 1], [3, 2, 1, 0]]
  | _ => []
theorem mem4 : ∀ a b c d : Fin 4, [a.val, b.val, c.val, d.val].Nodup → [a.val, b.val, c.val, d.val] ∈ perms 4 := by decide +kernel
theorem mem3 : ∀ a b c : Fin 3, [a.val, b.val, c.val].Nodup → [a.val, b.val, c.val] ∈ perms 3 := by decide +kernel
theorem mem2 : ∀ a b : Fin 2, [a.val, b.val].Nodup → [a.val, b.val] ∈ perms 2 := by decide +kernel
theorem range_mul (n k : Nat) : List.range (n * k) = (List.range n).flatMap fun m => (List.range k).map fun x => m * k + x := by
  induction n with
  | zero => rw [Nat.zero_mul]; rfl
  | succ n ih => rw [Nat.add_mul, Nat.one_mul, List.range_add, ih, List.range_succ, List.flatMap_append]; simp
theorem perm_fm {α β : Type} {f g : α → List β} : ∀ l : List α, (∀ a ∈ l, (f a).Perm (g a)) → (l.flatMap f).Perm (l.flatMap g)
  | [], _ => by rw [List.flatMap_nil, List.flatMap_nil]
  | a :: l, h => by
    rw [List.flatMap_cons, List.flatMap_cons]
    exact (h a List.mem_cons_self).append (perm_fm l fun b hb => h b (List.mem_cons_of_mem _ hb))
theorem img_perm {k d : Nat} {P : Ptr} (hk : 0 < k) (G : Gd k d P) : ∀ i, i ≤ d → ((List.range (k ^ i)).map (img k P i)).Perm (List.range (k ^ i))
  | 0, _ => by rw [Nat.pow_zero]; exact List.Perm.refl _
  | i + 1, hi => by
    have ih := img_perm hk G i (by omega)
    rw [Nat.pow_succ, range_mul, List.map_flatMap]
    have h1 : ((List.range (k ^ i)).flatMap fun m => ((List.range k).map fun x => m * k + x).map (img k P (i + 1))).Perm ((List.range (k ^ i)).flatMap fun m => (List.range k).map fun x => img k P i m * k + x) := by
      refine perm_fm _ fun m hm => ?_
      rw [List.map_map]
      have e : (List.range k).map (img k P (i + 1) ∘ fun x => m * k + x) = ((List.range k).map (P i m)).map fun x => img k P i m * k + x := by
        rw [List.map_map]
        refine List.map_congr_left fun x hx => ?_
        show img k P (i + 1) (m * k + x) = img k P i m * k + P i m x
        rw [img, mk_div (List.mem_range.mp hx), mk_mod (List.mem_range.mp hx)]
      rw [e]
      exact (G.perm i m (by omega) (List.mem_range.mp hm)).map _
    refine h1.trans ?_
    have h2 : ((List.range (k ^ i)).flatMap fun m => (List.range k).map fun x => img k P i m * k + x) = ((List.range (k ^ i)).map (img k P i)).flatMap fun m => (List.range k).map fun x => m * k + x := by rw [List.flatMap_map]
    rw [h2]
    exact List.Perm.flatMap_right _ ih
abbrev nats (l : List Nat) : List PyData := l.map fun (n : Nat) => PyData.int (n : Int)
end M
set_option Elab.async false
set_option linter.all false
set_option maxRecDepth 100000
set_option maxHeartbeats 4000000
namespace M
open PySem PySem.Spec PyProof.Rows L2 Z
def cpl : List Nat → List Nat → Nat
  | x :: u, y :: v => if x = y then cpl u v + 1 else 0
  | _, _ => 0
theorem cpl_take : ∀ (u v : List Nat) (i : Nat), u.length = v.length → i ≤ u.length → (i ≤ cpl u v ↔ u.take i = v.take i)
  | u, v, 0, _, _ => by simp
  | x :: u, y :: v, i + 1, hl, hi => by
    have ih := cpl_take u v i (by simpa using hl) (by simpa using hi)
    rw [cpl, List.take_succ_cons, List.take_succ_cons]
    by_cases e : x = y
    · rw [if_pos e, e, List.cons.injEq]
      simp only [true_and]
      rw [← ih]
      omega
    · rw [if_neg e, List.cons.injEq]
      constructor
      · intro h; omega
      · intro h; exact absurd h.1 e
  | [], _, i + 1, _, hi => absurd hi (by simp)
theorem sh_take {k : Nat} (hk : 0 < k) (i : Nat) : ∀ (m j : Nat), (sh k (i + m) j).take i = sh k i (j / k ^ m)
  | 0, j => by rw [Nat.pow_zero, Nat.div_one, List.take_of_length_le (by rw [sh_len]; exact Nat.le_refl _)]; rfl
  | m + 1, j => by
    rw [show i + (m + 1) = (i + m) + 1 by omega, sh, List.take_append_of_le_length (by rw [sh_len]; omega), sh_take hk i m (j / k), Nat.div_div_eq_div_mul, Nat.pow_succ, Nat.mul_comm k]
theorem div_lt' {k i m j : Nat} (hk : 0 < k) (h : j < k ^ (i + m)) : j / k ^ m < k ^ i := by
  rw [Nat.div_lt_iff_lt_mul (Nat.pow_pos hk), ← Nat.pow_add]; exact h
theorem sh_inj {k i a b : Nat} (hk : 0 < k) (ha : a < k ^ i) (hb : b < k ^ i) (e : sh k i a = sh k i b) : a = b := by
  rw [← num_sh hk i a ha, ← num_sh hk i b hb, e]
def Keeps (k d : Nat) (f : Nat → Nat) : Prop := ∀ a b, a < k ^ d → b < k ^ d → cpl (sh k d a) (sh k d b) = cpl (sh k d (f a)) (sh k d (f b))
theorem cpl_pre {k i m a b : Nat} (hk : 0 < k) (ha : a < k ^ (i + m)) (hb : b < k ^ (i + m)) : i ≤ cpl (sh k (i + m) a) (sh k (i + m) b) ↔ a / k ^ m = b / k ^ m := by
  rw [cpl_take _ _ i (by rw [sh_len, sh_len]) (by rw [sh_len]; omega), sh_take hk, sh_take hk]
  exact ⟨sh_inj hk (div_lt' hk ha) (div_lt' hk hb), fun e => by rw [e]⟩
theorem Keeps.pre {k d : Nat} {f : Nat → Nat} (hk : 0 < k) (K : Keeps k d f) (hf : ∀ a, a < k ^ d → f a < k ^ d) {i m a b : Nat} (e : i + m = d) (ha : a < k ^ d) (hb : b < k ^ d) : a / k ^ m = b / k ^ m ↔ f a / k ^ m = f b / k ^ m := by
  subst e
  rw [← cpl_pre hk ha hb, ← cpl_pre hk (hf a ha) (hf b hb), K a b ha hb]
theorem perms_perm : ∀ k, 2 ≤ k → k ≤ 4 → ∀ l ∈ perms k, l.Perm (List.range k) := by
  intro k h1 h2
  rcases (by omega : k = 2 ∨ k = 3 ∨ k = 4) with rfl | rfl | rfl <;> decide +kernel
theorem perm_of_nodup {k : Nat} (hk : 2 ≤ k ∧ k ≤ 4) {l : List Nat} (hl : l.length = k) (hn : l.Nodup) (hlt : ∀ x ∈ l, x < k) : l.Perm (List.range k) := by
  refine perms_perm k hk.1 hk.2 l ?_
  rcases (by omega : k = 2 ∨ k = 3 ∨ k = 4) with rfl | rfl | rfl
  · match l, hl, hn, hlt with
    | [a, b], _, hn, hlt => exact mem2 ⟨a, hlt a (by simp)⟩ ⟨b, hlt b (by simp)⟩ hn
  · match l, hl, hn, hlt with
    | [a, b, c], _, hn, hlt => exact mem3 ⟨a, hlt a (by simp)⟩ ⟨b, hlt b (by simp)⟩ ⟨c, hlt c (by simp)⟩ hn
  · match l, hl, hn, hlt with
    | [a, b, c, d], _, hn, hlt => exact mem4 ⟨a, hlt a (by simp)⟩ ⟨b, hlt b (by simp)⟩ ⟨c, hlt c (by simp)⟩ ⟨d, hlt d (by simp)⟩ hn
theorem nodup_on {f : Nat → Nat} {l : List Nat} (h : ∀ x ∈ l, ∀ y ∈ l, f x = f y → x = y) (hn : l.Nodup) : (l.map f).Nodup := List.pairwise_map.mpr (List.Pairwise.imp_of_mem (fun {a b} hx hy hne e => hne (h _ hx _ hy e)) hn)
def qf (k d : Nat) (f : Nat → Nat) (i p : Nat) : Nat := f (p * k ^ (d - i)) / k ^ (d - i)
def ptrOf (k d : Nat) (f : Nat → Nat) : Ptr := fun i p x => qf k d f (i + 1) (p * k + x) % k
theorem at_lt {k d i p : Nat} (hk : 0 < k) (hi : i ≤ d) (hp : p < k ^ i) : p * k ^ (d - i) < k ^ d := by
  have e : k ^ d = k ^ i * k ^ (d - i) := by rw [← Nat.pow_add]; congr 1; omega
  rw [e]
  exact Nat.mul_lt_mul_of_pos_right hp (Nat.pow_pos hk)
theorem qf_div {k d : Nat} {f : Nat → Nat} (hk : 0 < k) (K : Keeps k d f) (hf : ∀ a, a < k ^ d → f a < k ^ d) {i p x : Nat} (hi : i < d) (hp : p < k ^ i) (hx : x < k) : qf k d f (i + 1) (p * k + x) / k = qf k d f i p := by
  have hpx := pow_lt' hp hx
  have a1 := at_lt (d := d) hk (show i + 1 ≤ d by omega) hpx
  have a2 := at_lt (d := d) hk (show i ≤ d by omega) hp
  unfold qf
  have e : k ^ (d - i) = k ^ (d - (i + 1)) * k := by rw [← Nat.pow_succ]; congr 1; omega
  rw [Nat.div_div_eq_div_mul, ← e]
  refine (K.pre hk hf (i := i) (m := d - i) (by omega) a1 a2).mp ?_
  rw [Nat.mul_div_cancel _ (Nat.pow_pos hk), e, ← Nat.div_div_eq_div_mul, Nat.mul_div_cancel _ (Nat.pow_pos hk), mk_div hx]
theorem ptr_gd {k d : Nat} {f : Nat → Nat} (hk : 2 ≤ k ∧ k ≤ 4) (K : Keeps k d f) (hf : ∀ a, a < k ^ d → f a < k ^ d) : Gd k d (ptrOf k d f) := ⟨fun i p hi hp => by
  have hk0 : 0 < k := by omega
  refine perm_of_nodup hk (by simp) ?_ fun y hy => ?_
  · refine nodup_on (fun x hx y hy e => ?_) List.nodup_range
    have hx := List.mem_range.mp hx
    have hy := List.mem_range.mp hy
    have e1 := qf_div hk0 K hf hi hp hx
    have e2 := qf_div hk0 K hf hi hp hy
    have e3 : qf k d f (i + 1) (p * k + x) = qf k d f (i + 1) (p * k + y) := by
      have h1 := Nat.div_add_mod (qf k d f (i + 1) (p * k + x)) k
      have h2 := Nat.div_add_mod (qf k d f (i + 1) (p * k + y)) k
      have e' : qf k d f (i + 1) (p * k + x) % k = qf k d f (i + 1) (p * k + y) % k := e
      rw [e1, e'] at h1
      rw [e2] at h2
      omega
    have a1 := at_lt (d := d) hk0 (show i + 1 ≤ d by omega) (pow_lt' hp hx)
    have a2 := at_lt (d := d) hk0 (show i + 1 ≤ d by omega) (pow_lt' hp hy)
    have := (K.pre hk0 hf (i := i + 1) (m := d - (i + 1)) (by omega) a1 a2).mpr e3
    rw [Nat.mul_div_cancel _ (Nat.pow_pos hk0), Nat.mul_div_cancel _ (Nat.pow_pos hk0)] at this
    omega
  · obtain ⟨x, _, rfl⟩ := List.mem_map.mp hy
    exact Nat.mod_lt _ hk0⟩
theorem img_ptr {k d : Nat} {f : Nat → Nat} (hk : 0 < k) (K : Keeps k d f) (hf : ∀ a, a < k ^ d → f a < k ^ d) : ∀ i p, i ≤ d → p < k ^ i → img k (ptrOf k d f) i p = qf k d f i p
  | 0, p, _, hp => by
    rw [Nat.pow_zero] at hp
    have : p = 0 := by omega
    subst this
    rw [img]
    unfold qf
    rw [Nat.sub_zero, Nat.zero_mul, Nat.div_eq_of_lt (hf 0 (Nat.pow_pos hk))]
  | i + 1, p, hi, hp => by
    have h1 := dv hk hp
    have h2 := Nat.mod_lt p hk
    rw [img, img_ptr hk K hf i (p / k) (by omega) h1]
    have e : p / k * k + p % k = p := by rw [Nat.mul_comm]; exact Nat.div_add_mod p k
    have e1 := qf_div hk K hf (i := i) (by omega) h1 h2
    rw [e] at e1
    show _ * k + qf k d f (i + 1) (p / k * k + p % k) % k = _
    rw [e, ← e1, Nat.mul_comm]
    exact Nat.div_add_mod _ k
theorem img_ptr_d {k d : Nat} {f : Nat → Nat} (hk : 0 < k) (K : Keeps k d f) (hf : ∀ a, a < k ^ d → f a < k ^ d) {j : Nat} (hj : j < k ^ d) : img k (ptrOf k d f) d j = f j := by
  rw [img_ptr hk K hf d j (Nat.le_refl _) hj]
  unfold qf
  rw [Nat.sub_self, Nat.pow_zero, Nat.mul_one, Nat.div_one]
end M
set_option Elab.async false
set_option linter.all false
set_option maxRecDepth 100000
set_option maxHeartbeats 4000000
namespace Z
open PySem PySem.Spec PyProof.Rows L2
mutual
theorem eqv_self : ∀ d : PyData, d.canLay0 = true → PyData.eqv d d = true
  | .none, _ => by simp [PyData.eqv]
  | .bool b, _ => by simp [PyData.eqv]
  | .int i, _ => by simp [PyData.eqv]
  | .str s, _ => by simp [PyData.eqv]
  | .list ds, h => by
    simp only [PyData.eqv]
    exact eqvAll_self ds (by simpa [PyData.canLay0] using h)
  | .tuple ds, h => by
    simp only [PyData.eqv]
    exact eqvAll_self ds (by simpa [PyData.canLay0] using h)
  | .dict _, h => by simp [PyData.canLay0] at h
theorem eqvAll_self : ∀ ds : List PyData, PyData.canLayAll0 ds = true → PyData.eqvAll ds ds = true
  | [], _ => by simp [PyData.eqvAll]
  | d :: ds, h => by
    have h' : d.canLay0 = true ∧ PyData.canLayAll0 ds = true := by simpa [PyData.canLayAll0] using h
    simp only [PyData.eqvAll, eqv_self d h'.1, eqvAll_self ds h'.2, Bool.and_self]
end
theorem shaped_of {d : PyData} (h : d.canLay0 = true) (h2 : d.depth ≤ 20) : SeqAt.shaped d = true := by
  unfold SeqAt.shaped
  rw [Bool.and_eq_true]
  refine ⟨h, ?_⟩
  first
  | exact decide_eq_true (by omega)
  | simp; omega
theorem gv_neSelf {ds : List PyData} (h : SeqAt.shaped (.tuple ds) = true) : gNe (.tuple ds) (.tuple ds) = some (.bool false) := by
  have : gEqB (.tuple ds) (.tuple ds) = some true := by
    unfold gEqB
    simp only [h, Bool.and_self, if_true]
    rw [eqv_self _ (SeqAt.canLay_of_shaped h)]
  exact gv_neB this
theorem gv_reprTup {ds : List PyData} (h : ((PyData.tuple ds).canLay0 && (PyData.tuple ds).showable && !(PyData.tuple ds).hasDict && decide ((PyData.tuple ds).depth < 60) && decide ((PyData.tuple ds).shown.length ≤ big)) = true) : gReprD (.tuple ds) = some (.str (PyData.tuple ds).shown) := if_pos h
end Z
set_option Elab.async false
set_option linter.all false
set_option maxRecDepth 100000
set_option maxHeartbeats 4000000
namespace M
open PySem PySem.Spec PyProof.Rows L2 Z
structure Rpr (c n : Nat) (d : PyData) : Prop where
  lay : d.canLay0 = true
  sh : d.showable = true
  nd : d.hasDict = false
  dp : d.depth ≤ c
  lf : d.leavesShort 13 = true
  wt : d.weight ≤ n
theorem all_lay {ds : List PyData} (h : ∀ d ∈ ds, d.canLay0 = true) : PyData.canLayAll0 ds = true := by
  induction ds with
  | nil => rfl
  | cons d ds ih => simp only [PyData.canLayAll0, h d List.mem_cons_self, ih fun e he => h e (List.mem_cons_of_mem _ he), Bool.and_self]
theorem all_sh {ds : List PyData} (h : ∀ d ∈ ds, d.showable = true) : PyData.showableAll ds = true := by
  induction ds with
  | nil => rfl
  | cons d ds ih => simp only [PyData.showableAll, h d List.mem_cons_self, ih fun e he => h e (List.mem_cons_of_mem _ he), Bool.and_self]
theorem all_nd {ds : List PyData} (h : ∀ d ∈ ds, d.hasDict = false) : PyData.hasDictAll ds = false := by
  induction ds with
  | nil => rfl
  | cons d ds ih => simp only [PyData.hasDictAll, h d List.mem_cons_self, ih fun e he => h e (List.mem_cons_of_mem _ he), Bool.or_self]
theorem all_lf {ds : List PyData} (h : ∀ d ∈ ds, d.leavesShort 13 = true) : PyData.leavesShortAll 13 ds = true := by
  induction ds with
  | nil => rfl
  | cons d ds ih => simp only [PyData.leavesShortAll, h d List.mem_cons_self, ih fun e he => h e (List.mem_cons_of_mem _ he), Bool.and_self]
theorem all_dp {c : Nat} {ds : List PyData} (h : ∀ d ∈ ds, d.depth ≤ c) : PyData.depthAll ds ≤ c := by
  induction ds with
  | nil => simp [PyData.depthAll]
  | cons d ds ih =>
    simp only [PyData.depthAll]
    exact Nat.max_le.mpr ⟨h d List.mem_cons_self, ih fun e he => h e (List.mem_cons_of_mem _ he)⟩
theorem all_wt {n : Nat} {ds : List PyData} (h : ∀ d ∈ ds, d.weight ≤ n) : PyData.weightAll ds ≤ ds.length * (n + 1) := by
  induction ds with
  | nil => simp [PyData.weightAll]
  | cons d ds ih =>
    have h1 := h d List.mem_cons_self
    have h2 := ih fun e he => h e (List.mem_cons_of_mem _ he)
    simp only [PyData.weightAll, List.length_cons]
    rw [Nat.add_mul, Nat.one_mul]
    omega
theorem rpr_tup {c n N : Nat} {ds : List PyData} (h : ∀ d ∈ ds, Rpr c n d) (hN : ds.length * (n + 1) ≤ N) : Rpr (c + 1) N (.tuple ds) where
  lay := by simpa [PyData.canLay0] using all_lay fun d hd => (h d hd).lay
  sh := by simpa [PyData.showable] using all_sh fun d hd => (h d hd).sh
  nd := by simpa [PyData.hasDict] using all_nd fun d hd => (h d hd).nd
  dp := by
    simp only [PyData.depth]
    have := all_dp fun d hd => (h d hd).dp
    omega
  lf := by simpa [PyData.leavesShort] using all_lf fun d hd => (h d hd).lf
  wt := by
    simp only [PyData.weight]
    exact Nat.le_trans (all_wt fun d hd => (h d hd).wt) hN
theorem rpr_lst {c n N : Nat} {ds : List PyData} (h : ∀ d ∈ ds, Rpr c n d) (hN : ds.length * (n + 1) ≤ N) : Rpr (c + 1) N (.list ds) where
  lay := by simpa [PyData.canLay0] using all_lay fun d hd => (h d hd).lay
  sh := by simpa [PyData.showable] using all_sh fun d hd => (h d hd).sh
  nd := by simpa [PyData.hasDict] using all_nd fun d hd => (h d hd).nd
  dp := by
    simp only [PyData.depth]
    have := all_dp fun d hd => (h d hd).dp
    omega
  lf := by simpa [PyData.leavesShort] using all_lf fun d hd => (h d hd).lf
  wt := by
    simp only [PyData.weight]
    exact Nat.le_trans (all_wt fun d hd => (h d hd).wt) hN
theorem rpr_dig : ∀ x : Nat, x < 10 → Rpr 0 4 (.int (x : Int)) := fun x hx => by
  have key : ∀ x : Nat, x < 10 → decide (((x : Int).natAbs.log2 < 1920) ∧ (PyData.shown (.int (x : Int))).length ≤ 13 ∧ (PyData.int (x : Int)).weight ≤ 4) = true := by decide +kernel
  obtain ⟨h1, h2, h3⟩ := of_decide_eq_true (key x hx)
  exact ⟨rfl, decide_eq_true h1, rfl, by simp [PyData.depth], decide_eq_true h2, h3⟩
theorem gv_reprT {c n : Nat} {ds : List PyData} (h : Rpr c n (.tuple ds)) (hc : c < 60) (hn : n ≤ 60000) : gReprD (.tuple ds) = some (.str (PyData.tuple ds).shown) := by
  refine gv_reprTup ?_
  have h1 := h.dp
  have h2 := PyData.shown_le 13 (by omega) _ h.lf
  have h3 := h.wt
  simp only [Bool.and_eq_true, decide_eq_true_eq, h.lay, h.sh, h.nd, Bool.not_false, true_and]
  exact ⟨by omega, by unfold big; omega⟩
theorem rpr_shaped {c n : Nat} {d : PyData} (h : Rpr c n d) (hc : c ≤ 20) : SeqAt.shaped d = true := shaped_of h.lay (Nat.le_trans h.dp hc)
theorem rpr_row {k : Nat} {f : Nat → Nat} (hk : k ≤ 4) (h : ∀ x, x < k → f x < 10) : Rpr 1 20 (rowP k f) := rpr_tup (c := 0) (n := 4) (fun d hd => by
  obtain ⟨x, hx, rfl⟩ := List.mem_map.mp hd
  exact rpr_dig _ (h x (List.mem_range.mp hx))) (by rw [List.length_map, List.length_range]; omega)
theorem rpr_ptr {k d : Nat} {P : Ptr} (hk : k ≤ 4) (hd : d ≤ 6) (hp : ∀ i, i < d → k ^ i ≤ 256) (G : Gd k d P) : Rpr 3 40000 (datP k d P) := rpr_tup (c := 2) (n := 5400) (fun l hl => by
  obtain ⟨i, hi, rfl⟩ := List.mem_map.mp hl
  have hi := List.mem_range.mp hi
  refine rpr_tup (c := 1) (n := 20) (fun r hr => ?_) ?_
  · obtain ⟨j, hj, rfl⟩ := List.mem_map.mp hr
    exact rpr_row hk fun x hx => by
      have := G.lt hi (List.mem_range.mp hj) hx
      omega
  · rw [List.length_map, List.length_range]
    have := hp i hi
    omega) (by rw [List.length_map, List.length_range]; omega)
end M
set_option Elab.async false
set_option linter.all false
set_option maxRecDepth 100000
set_option maxHeartbeats 4000000
namespace M
open PySem PySem.Spec PyProof.Rows L2 Z D
abbrev cBody : SX := (seqX (ifS (toT (b2 (b2 (fV 0) (fV 3) gIx) (b2 (fV 1) (fV 3) gIx) gNe)) bkX nxX) (asgX (b2 (fV 2) (fC (.int 1)) gAdd) (bNm 2)))
theorem gv_neC {a b : Nat} : gNe (chD a) (chD b) = some (.bool (!decide (a = b))) := by
  show some (PyData.bool (!decide (dch a = dch b))) = _
  have : (dch a = dch b) ↔ a = b := ⟨fun h => by
    have h := congrArg (fun z : Str => z.cps.toList) h
    simp only [dch, List.cons.injEq, and_true] at h
    omega, fun h => by rw [h]⟩
  simp only [this]
theorem common_loop (u v : List Nat) (hl : u.length = v.length) (h6 : u.length ≤ 6) : ∀ (n i : Nat), i + n = u.length → ∀ x3 : Option PyData, ∃ c y, forX (bNm 3) cBody ((List.range' i n).map fun (x : Nat) => PyData.int (x : Int)) [some (.str (tx u)), some (.str (tx v)), some (.int i), x3] = some (.nx [some (.str (tx u)), some (.str (tx v)), some (.int c), y]) ∧ c = ((i + cpl (u.drop i) (v.drop i) : Nat) : Int)
  | 0, i, e, x3 => ⟨i, x3, rfl, by
    have : u.drop i = [] := List.drop_of_length_le (by omega)
    rw [this]; simp [cpl]⟩
  | n + 1, i, e, x3 => by
    have hu : i < u.length := by omega
    have hv : i < v.length := by omega
    have e1 : u.drop i = u[i] :: u.drop (i + 1) := List.drop_eq_getElem_cons hu
    have e2 : v.drop i = v[i] :: v.drop (i + 1) := List.drop_eq_getElem_cons hv
    have test : toT (b2 (b2 (fV 0) (fV 3) gIx) (b2 (fV 1) (fV 3) gIx) gNe) [some (.str (tx u)), some (.str (tx v)), some (.int i), some (.int i)] = some (.ok (!decide (u[i] = v[i]))) := rv_toT (rv_b2 (rv_b2 (rv_fV rfl) (rv_fV rfl) (gv_txIx hu (by omega))) (rv_b2 (rv_fV rfl) (rv_fV rfl) (gv_txIx hv (by omega))) gv_neC)
    rw [List.range'_succ, List.map_cons]
    by_cases h : u[i] = v[i]
    · obtain ⟨c, y, f1, f2⟩ := common_loop u v hl h6 n (i + 1) (by omega) (some (.int i))
      refine ⟨c, y, forX_cons (Γ1 := [some (.str (tx u)), some (.str (tx v)), some (.int i), some (.int i)]) rfl ?_ f1, ?_⟩
      · refine rv_seq (rv_ifF (rv_is (y := fun _ => none) test (by rw [decide_eq_true h]; rfl)) rv_nx) (rv_asg (rv_b2 (rv_fV rfl) rv_fC (gv_addIs ?_)) rfl)
        rw [Int.natCast_add]; rfl
      · rw [f2, e1, e2, cpl, if_pos h]
        congr 1
        omega
    · refine ⟨i, some (.int i), ?_, ?_⟩
      · have hb : cBody [some (.str (tx u)), some (.str (tx v)), some (.int i), some (.int i)] = some (.bk [some (.str (tx u)), some (.str (tx v)), some (.int i), some (.int i)]) := by
          show seqX _ _ _ = _
          unfold seqX
          rw [rv_ifT (r := some (.bk [some (.str (tx u)), some (.str (tx v)), some (.int i), some (.int i)])) (rv_is (y := fun _ => none) test (by rw [decide_eq_false h]; rfl)) rfl]
        rw [forX]
        show (match cBody [some (.str (tx u)), some (.str (tx v)), some (.int i), some (.int i)] with
          | some (.nx Γ2) => forX (bNm 3) cBody _ Γ2
          | some (.ct Γ2) => forX (bNm 3) cBody _ Γ2
          | some (.bk Γ2) => some (.nx Γ2)
          | r => r) = _
        rw [hb]
      · rw [e1, e2, cpl, if_neg h, Nat.add_zero]
theorem common_eq {u v : List Nat} (hl : u.length = v.length) (h6 : u.length ≤ 6) : F__law_common [.str (tx u), .str (tx v)] = some (.ok (.int (cpl u v : Nat))) := by
  obtain ⟨c, y, e, hc⟩ := common_loop u v hl h6 u.length 0 (by omega) none
  rw [← List.range_eq_range', ← rgD_map] at e
  subst hc
  refine rv_def (G := [some (.str (tx u)), some (.str (tx v)), none, none]) rfl rfl ?_
  unfold p__law_common
  refine rv_seq (rv_asg rv_fC rfl) (rv_seq (rv_for (rv_iR1 (k := u.length) (rv_b1 (rv_fV rfl) ?_) (by unfold rgB; omega)) e) (rv_ret (rv_isX (rv_fV rfl) ?_)))
  · rw [gv_lenS (by rw [tx_len]; unfold big; omega), tx_len]
  · rw [List.drop_zero, List.drop_zero, Nat.zero_add]
theorem forL_or {b : BX} {s : SX} {e : PyData} (Inv : Ga → Prop) (Q : Nat → Prop) : ∀ (n i : Nat) (Γ : Ga), Inv Γ → (∀ j Γ, i ≤ j → j < i + n → Inv Γ → (Q j ∧ ∃ Γ1 Γ2, b (.int j) Γ = some Γ1 ∧ s Γ1 = some (.nx Γ2) ∧ Inv Γ2) ∨ (¬ Q j ∧ ∃ Γ1, b (.int j) Γ = some Γ1 ∧ s Γ1 = some (.rt e))) →
    (∃ Γ', forX b s ((List.range' i n).map fun (x : Nat) => PyData.int (x : Int)) Γ = some (.nx Γ') ∧ Inv Γ' ∧ ∀ j, i ≤ j → j < i + n → Q j) ∨ (forX b s ((List.range' i n).map fun (x : Nat) => PyData.int (x : Int)) Γ = some (.rt e) ∧ ∃ j, i ≤ j ∧ j < i + n ∧ ¬ Q j)
  | 0, i, Γ, h, _ => .inl ⟨Γ, rfl, h, fun j a b => by omega⟩
  | n + 1, i, Γ, h, st => by
    rw [List.range'_succ, List.map_cons]
    rcases st i Γ (Nat.le_refl _) (by omega) h with ⟨q, Γ1, Γ2, e1, e2, h2⟩ | ⟨q, Γ1, e1, e2⟩
    · rcases forL_or Inv Q n (i + 1) Γ2 h2 fun j Γ a b => st j Γ (by omega) (by omega) with ⟨Γ', f1, f2, f3⟩ | ⟨f1, j, j1, j2, j3⟩
      · refine .inl ⟨Γ', forX_cons e1 e2 f1, f2, fun j a b => ?_⟩
        by_cases hj : j = i
        · rw [hj]; exact q
        · exact f3 j (by omega) (by omega)
      · exact .inr ⟨forX_cons e1 e2 f1, j, by omega, by omega, j3⟩
    · exact .inr ⟨forX_consR e1 e2, i, Nat.le_refl _, by omega, q⟩
theorem cpl_comm : ∀ u v : List Nat, cpl u v = cpl v u
  | [], [] => rfl
  | [], _ :: _ => rfl
  | _ :: _, [] => rfl
  | x :: u, y :: v => by
    rw [cpl, cpl, cpl_comm u v]
    by_cases h : x = y
    · rw [if_pos h, if_pos h.symm]
    · rw [if_neg h, if_neg fun e => h e.symm]
theorem cpl_self : ∀ u : List Nat, cpl u u = u.length
  | [] => rfl
  | x :: u => by rw [cpl, if_pos rfl, cpl_self u, List.length_cons]
theorem keeps_eq {k d : Nat} {f : Nat → Nat} (hk : 1 ≤ k ∧ k ≤ 4) (hd : d ≤ 6) (hf : ∀ a, a < k ^ d → f a < k ^ d) : ∃ b : Bool, F__law_keeps [.int k, .int d, .tuple (nats ((List.range (k ^ d)).map f))] = some (.ok (.bool b)) ∧ (b = true ↔ Keeps k d f) := by
  have hN := pow_small (k := k) (i := d) (n := d) hk.2 (Nat.le_refl _) hd
  have hS : ∀ j, j < k ^ d → gIx (.list (lvStep k d (k ^ d))) (.int (j : Nat)) = some (.str (tx (sh k d j))) := fun j hj => gv_ixN rfl (by simp [lvStep, hj])
  have hF : ∀ j, j < k ^ d → gIx (.tuple (nats ((List.range (k ^ d)).map f))) (.int (j : Nat)) = some (.int (f j : Nat)) := fun j hj => gv_ixTN rfl (by simp [nats, hj])
  have hln : (lvStep k d (k ^ d)).length = k ^ d := by simp [lvStep]
  have inner : ∀ a, a < k ^ d → ∀ x5 : Option PyData, (∃ y5, forX (bNm 5) (ifS (toT (b2 (callX (aCons (b2 (fV 3) (fV 4) gIx) (aCons (b2 (fV 3) (fV 5) gIx) aNil)) F__law_common) (callX (aCons (b2 (fV 3) (b2 (fV 2) (fV 4) gIx) gIx) (aCons (b2 (fV 3) (b2 (fV 2) (fV 5) gIx) gIx) aNil)) F__law_common) gNe)) (retX (fC (.bool false))) nxX) (rgD 0 (a : Int)) [some (.int k), some (.int d), some (.tuple (nats ((List.range (k ^ d)).map f))), some (.list (lvStep k d (k ^ d))), some (.int a), x5] = some (.nx [some (.int k), some (.int d), some (.tuple (nats ((List.range (k ^ d)).map f))), some (.list (lvStep k d (k ^ d))), some (.int a), y5]) ∧ ∀ b, b < a → cpl (sh k d a) (sh k d b) = cpl (sh k d (f a)) (sh k d (f b))) ∨
      (forX (bNm 5) (ifS (toT (b2 (callX (aCons (b2 (fV 3) (fV 4) gIx) (aCons (b2 (fV 3) (fV 5) gIx) aNil)) F__law_common) (callX (aCons (b2 (fV 3) (b2 (fV 2) (fV 4) gIx) gIx) (aCons (b2 (fV 3) (b2 (fV 2) (fV 5) gIx) gIx) aNil)) F__law_common) gNe)) (retX (fC (.bool false))) nxX) (rgD 0 (a : Int)) [some (.int k), some (.int d), some (.tuple (nats ((List.range (k ^ d)).map f))), some (.list (lvStep k d (k ^ d))), some (.int a), x5] = some (.rt (.bool false)) ∧ ∃ b, b < a ∧ cpl (sh k d a) (sh k d b) ≠ cpl (sh k d (f a)) (sh k d (f b))) := fun a ha x5 => by
    rw [rgD_map, List.range_eq_range']
    rcases forL_or (b := bNm 5) (s := (ifS (toT (b2 (callX (aCons (b2 (fV 3) (fV 4) gIx) (aCons (b2 (fV 3) (fV 5) gIx) aNil)) F__law_common) (callX (aCons (b2 (fV 3) (b2 (fV 2) (fV 4) gIx) gIx) (aCons (b2 (fV 3) (b2 (fV 2) (fV 5) gIx) gIx) aNil)) F__law_common) gNe)) (retX (fC (.bool false))) nxX)) (e := .bool false)
      (fun Γ => ∃ y5, Γ = [some (.int k), some (.int d), some (.tuple (nats ((List.range (k ^ d)).map f))), some (.list (lvStep k d (k ^ d))), some (.int a), y5]) (fun b => cpl (sh k d a) (sh k d b) = cpl (sh k d (f a)) (sh k d (f b))) a 0 [some (.int k), some (.int d), some (.tuple (nats ((List.range (k ^ d)).map f))), some (.list (lvStep k d (k ^ d))), some (.int a), x5] ⟨x5, rfl⟩ (fun b Γ _ hb ⟨y5, hΓ⟩ => by
        subst hΓ
        have hb' : b < k ^ d := by omega
        have test : toT (b2 (callX (aCons (b2 (fV 3) (fV 4) gIx) (aCons (b2 (fV 3) (fV 5) gIx) aNil)) F__law_common) (callX (aCons (b2 (fV 3) (b2 (fV 2) (fV 4) gIx) gIx) (aCons (b2 (fV 3) (b2 (fV 2) (fV 5) gIx) gIx) aNil)) F__law_common) gNe) [some (.int k), some (.int d), some (.tuple (nats ((List.range (k ^ d)).map f))), some (.list (lvStep k d (k ^ d))), some (.int a), some (.int b)] = some (.ok (!decide (((cpl (sh k d a) (sh k d b) : Nat) : Int) = (cpl (sh k d (f a)) (sh k d (f b)) : Nat)))) :=
          rv_toT (rv_b2 (rv_callX (rv_cons (rv_b2 (rv_fV rfl) (rv_fV rfl) (hS a ha)) (rv_cons (rv_b2 (rv_fV rfl) (rv_fV rfl) (hS b hb')) rv_nil)) (common_eq (by rw [sh_len, sh_len]) (by rw [sh_len]; omega)))
            (rv_callX (rv_cons (rv_b2 (rv_fV rfl) (rv_b2 (rv_fV rfl) (rv_fV rfl) (hF a ha)) (hS _ (hf a ha))) (rv_cons (rv_b2 (rv_fV rfl) (rv_b2 (rv_fV rfl) (rv_fV rfl) (hF b hb')) (hS _ (hf b hb'))) rv_nil)) (common_eq (by rw [sh_len, sh_len]) (by rw [sh_len]; omega))) gv_ne)
        by_cases q : cpl (sh k d a) (sh k d b) = cpl (sh k d (f a)) (sh k d (f b))
        · exact .inl ⟨q, _, _, rfl, rv_ifF (rv_is (y := fun _ => none) test (by rw [q]; simp)) rv_nx, _, rfl⟩
        · exact .inr ⟨q, _, rfl, rv_ifT (rv_is (y := fun _ => none) test (by rw [decide_eq_false (by omega)]; rfl)) (rv_ret rv_fC)⟩) with ⟨Γ', e, ⟨y5, rfl⟩, h⟩ | ⟨e, b, _, hb, h⟩
    · exact .inl ⟨y5, e, fun b hb => h b (Nat.zero_le _) (by omega)⟩
    · exact .inr ⟨e, b, by omega, h⟩
  rcases forL_or (b := bNm 4) (s := (forS (iR1 (fV 4)) (bNm 5) (ifS (toT (b2 (callX (aCons (b2 (fV 3) (fV 4) gIx) (aCons (b2 (fV 3) (fV 5) gIx) aNil)) F__law_common) (callX (aCons (b2 (fV 3) (b2 (fV 2) (fV 4) gIx) gIx) (aCons (b2 (fV 3) (b2 (fV 2) (fV 5) gIx) gIx) aNil)) F__law_common) gNe)) (retX (fC (.bool false))) nxX))) (e := .bool false)
    (fun Γ => ∃ y4 y5, Γ = [some (.int k), some (.int d), some (.tuple (nats ((List.range (k ^ d)).map f))), some (.list (lvStep k d (k ^ d))), y4, y5]) (fun a => ∀ b, b < a → cpl (sh k d a) (sh k d b) = cpl (sh k d (f a)) (sh k d (f b))) (k ^ d) 0 [some (.int k), some (.int d), some (.tuple (nats ((List.range (k ^ d)).map f))), some (.list (lvStep k d (k ^ d))), none, none] ⟨none, none, rfl⟩ (fun a Γ _ ha ⟨y4, y5, hΓ⟩ => by
      subst hΓ
      have ha' : a < k ^ d := by omega
      rcases inner a ha' y5 with ⟨z5, e, h⟩ | ⟨e, b, hb, h⟩
      · exact .inl ⟨h, _, _, rfl, rv_for (rv_iR1 (rv_fV rfl) (by unfold rgB; omega)) e, _, _, rfl⟩
      · exact .inr ⟨fun q => h (q b hb), _, rfl, rv_for (rv_iR1 (rv_fV rfl) (by unfold rgB; omega)) e⟩) with ⟨Γ', e, ⟨y4, y5, rfl⟩, h⟩ | ⟨e, a, _, ha, h⟩
  · refine ⟨true, rv_def (G := [some (.int k), some (.int d), some (.tuple (nats ((List.range (k ^ d)).map f))), none, none, none]) rfl rfl ?_, fun _ a b ha hb => ?_, fun _ => rfl⟩
    · unfold p__law_keeps
      rw [← List.range_eq_range', ← rgD_map] at e
      refine rv_seq (rv_asg (rv_callX (rv_cons (rv_fV rfl) (rv_cons (rv_fV rfl) rv_nil)) (level_eq hk hd)) rfl) (rv_seq (rv_for (rv_iR1 (k := (k ^ d : Nat)) (rv_b1 (rv_fV rfl) ?_) (by unfold rgB; omega)) e) (rv_ret rv_fC))
      rw [gv_lenL, hln]
    · rcases Nat.lt_trichotomy a b with q | q | q
      · rw [cpl_comm, cpl_comm (sh k d (f a))]; exact h b (Nat.zero_le _) (by omega) a q
      · rw [q, cpl_self, cpl_self, sh_len, sh_len]
      · exact h a (Nat.zero_le _) (by omega) b q
  · refine ⟨false, rv_def (G := [some (.int k), some (.int d), some (.tuple (nats ((List.range (k ^ d)).map f))), none, none, none]) rfl rfl ?_, fun z => Bool.noConfusion z, fun K => absurd (fun b hb => K a b (by omega) (by omega)) h⟩
    unfold p__law_keeps
    rw [← List.range_eq_range', ← rgD_map] at e
    refine rv_seq (rv_asg (rv_callX (rv_cons (rv_fV rfl) (rv_cons (rv_fV rfl) rv_nil)) (level_eq hk hd)) rfl) (rv_seqR (rv_for (rv_iR1 (k := (k ^ d : Nat)) (rv_b1 (rv_fV rfl) ?_) (by unfold rgB; omega)) e))
    rw [gv_lenL, hln]
end M
set_option Elab.async false
set_option linter.all false
set_option maxRecDepth 100000
set_option maxHeartbeats 4000000
namespace M
open PySem PySem.Spec PyProof.Rows L2 Z D
abbrev D6 (k d : Nat) : Prop := 2 ≤ k ∧ k ≤ 4 ∧ d + k < 7
abbrev numT (k d : Nat) (f : Nat → Nat) : PyData := .tuple (nats ((List.range (k ^ d)).map f))
structure Owes76 : Prop where
  lev : ∀ k d P, D6 k d → Gd k d P → F_level_of [.int k, datP k d P] = some (.ok (numT k d (img k P d)))
  lev5 : F_level_of [.int 5, .tuple []] = some (.error (.own "BadNumber"))
  levB : ∀ k : Nat, 2 ≤ k → k ≤ 4 → F_level_of [.int k, .tuple [.tuple []]] = some (.error (.own "NotPortrait"))
  frm : ∀ k d P, D6 k d → Gd k d P → F_from_level [.int k, .int d, numT k d (img k P d)] = some (.ok (datP k d P))
  frmN : ∀ k d f, D6 k d → ((List.range (k ^ d)).map f).Perm (List.range (k ^ d)) → ¬ Keeps k d f → F_from_level [.int k, .int d, numT k d f] = some (.error (.own "NoAnswer"))
  frmS : ∀ (k d : Nat) (ns : List Int), D6 k d → ns.length ≤ 300 → ¬ ns.Perm (rg (k ^ d)) → F_from_level [.int k, .int d, .tuple (ns.map .int)] = some (.error (.own "NotPortrait"))
  frmM : ∀ k : Nat, 2 ≤ k → k ≤ 4 → F_from_level [.int k, .int (-1), .tuple []] = some (.error (.own "BadNumber"))
  frm7 : ∀ k : Nat, 2 ≤ k → k ≤ 4 → F_from_level [.int k, .int 7, .tuple []] = some (.error (.own "BadNumber"))
  frm5 : ∀ k d : Nat, D6 k d → F_from_level [.int 5, .int d, .tuple []] = some (.error (.own "BadNumber"))
theorem told_ok {k n : Int} {a v : PyData} (h : F_from_level [.int k, .int n, a] = some (.ok v)) : F__law_told [.int k, .int n, a] = some (.ok v) := by
  refine rv_def (G := [some (.int k), some (.int n), some a]) rfl rfl ?_
  unfold p__law_told
  exact rv_tryM (rv_ret (rv_callX (rv_cons (rv_fV rfl) (rv_cons (rv_fV rfl) (rv_cons (rv_fV rfl) rv_nil))) h))
theorem told_N {k n : Int} {a : PyData} (h : F_from_level [.int k, .int n, a] = some (.error (.own "BadNumber"))) : F__law_told [.int k, .int n, a] = some (.ok (.str "number")) := by
  refine rv_def (G := [some (.int k), some (.int n), some a]) rfl rfl ?_
  unfold p__law_told
  exact rv_tryE (e := .own "BadNumber") (rv_retE (rv_callX (rv_cons (rv_fV rfl) (rv_cons (rv_fV rfl) (rv_cons (rv_fV rfl) rv_nil))) h)) rfl (rv_ret rv_fC)
theorem told_P {k n : Int} {a : PyData} (h : F_from_level [.int k, .int n, a] = some (.error (.own "NotPortrait"))) : F__law_told [.int k, .int n, a] = some (.ok (.str "portrait")) := by
  refine rv_def (G := [some (.int k), some (.int n), some a]) rfl rfl ?_
  unfold p__law_told
  exact rv_tryE (e := .own "NotPortrait") (rv_retE (rv_callX (rv_cons (rv_fV rfl) (rv_cons (rv_fV rfl) (rv_cons (rv_fV rfl) rv_nil))) h)) rfl (rv_ret rv_fC)
theorem told_A {k n : Int} {a : PyData} (h : F_from_level [.int k, .int n, a] = some (.error (.own "NoAnswer"))) : F__law_told [.int k, .int n, a] = some (.ok (.str "none")) := by
  refine rv_def (G := [some (.int k), some (.int n), some a]) rfl rfl ?_
  unfold p__law_told
  exact rv_tryE (e := .own "NoAnswer") (rv_retE (rv_callX (rv_cons (rv_fV rfl) (rv_cons (rv_fV rfl) (rv_cons (rv_fV rfl) rv_nil))) h)) rfl (rv_ret rv_fC)
theorem ref_N {k : Int} {a : PyData} (h : F_level_of [.int k, a] = some (.error (.own "BadNumber"))) : F__law_refuses [.int k, a] = some (.ok (.str "number")) := by
  refine rv_def (G := [some (.int k), some a]) rfl rfl ?_
  unfold p__law_refuses
  exact rv_seqR (rv_tryE (e := .own "BadNumber") (rv_dropE (rv_callX (rv_cons (rv_fV rfl) (rv_cons (rv_fV rfl) rv_nil)) h)) rfl (rv_ret rv_fC))
theorem ref_P {k : Int} {a : PyData} (h : F_level_of [.int k, a] = some (.error (.own "NotPortrait"))) : F__law_refuses [.int k, a] = some (.ok (.str "portrait")) := by
  refine rv_def (G := [some (.int k), some a]) rfl rfl ?_
  unfold p__law_refuses
  exact rv_seqR (rv_tryE (e := .own "NotPortrait") (rv_dropE (rv_callX (rv_cons (rv_fV rfl) (rv_cons (rv_fV rfl) rv_nil)) h)) rfl (rv_ret rv_fC))
def sw (a b j : Nat) : Nat := if j = a then b else if j = b then a else j
theorem sw_sw (a b j : Nat) : sw a b (sw a b j) = j := by
  unfold sw
  by_cases h1 : j = a
  · subst h1
    rw [if_pos rfl]
    by_cases h : b = j
    · rw [if_pos h]; exact h
    · rw [if_neg h, if_pos rfl]
  · rw [if_neg h1]
    by_cases h2 : j = b
    · subst h2
      rw [if_pos rfl, if_pos rfl]
    · rw [if_neg h2, if_neg h1, if_neg h2]
theorem sw_lt {a b j n : Nat} (ha : a < n) (hb : b < n) (hj : j < n) : sw a b j < n := by unfold sw; split <;> (try split) <;> assumption
theorem sw_perm {a b n : Nat} (ha : a < n) (hb : b < n) : ((List.range n).map (sw a b)).Perm (List.range n) := by
  rw [List.perm_iff_count]
  intro x
  rw [List.count_eq_countP, List.countP_map]
  have e : ((fun y => y == x) ∘ sw a b) = fun y => y == sw a b x := by
    funext y
    show (sw a b y == x) = (y == sw a b x)
    rw [Bool.eq_iff_iff, beq_iff_eq, beq_iff_eq]
    exact ⟨fun h => by rw [← h, sw_sw], fun h => by rw [h, sw_sw]⟩
  rw [e, ← List.count_eq_countP, List.nodup_range.count, List.nodup_range.count]
  have : sw a b x ∈ List.range n ↔ x ∈ List.range n := by
    rw [List.mem_range, List.mem_range]
    exact ⟨fun h => by have := sw_lt ha hb h; rwa [sw_sw] at this, sw_lt ha hb⟩
  simp only [this]
theorem set_sw {a b n : Nat} (f : Nat → Nat) (ha : a < n) (hb : b < n) : ((nats ((List.range n).map f)).set a (.int (f b : Nat))).set b (.int (f a : Nat)) = nats ((List.range n).map fun j => f (sw a b j)) := by
  refine List.ext_getElem (by simp [nats]) fun j h1 h2 => ?_
  have hj : j < n := by simpa [nats] using h2
  simp only [nats, List.getElem_set, List.getElem_map, List.getElem_range, List.map_map, Function.comp]
  unfold sw
  by_cases h1 : b = j
  · subst h1
    by_cases h3 : b = a
    · subst h3; simp
    · simp [h3]
  · by_cases h2 : a = j
    · subst h2; simp [h1]
    · simp [h1, h2, Ne.symm h1, Ne.symm h2, fun e : j = a => h2 e.symm, fun e : j = b => h1 e.symm]
theorem rpr_nat : ∀ x : Nat, x < 300 → Rpr 0 9 (.int (x : Int)) := fun x hx => by
  have key : ∀ x : Nat, x < 300 → decide (((x : Int).natAbs.log2 < 1920) ∧ (PyData.shown (.int (x : Int))).length ≤ 13 ∧ (PyData.int (x : Int)).weight ≤ 9) = true := by decide +kernel
  obtain ⟨h1, h2, h3⟩ := of_decide_eq_true (key x hx)
  exact ⟨rfl, decide_eq_true h1, rfl, by simp [PyData.depth], decide_eq_true h2, h3⟩
theorem rpr_num {k d : Nat} {f : Nat → Nat} (hN : k ^ d ≤ 256) (hf : ∀ a, a < k ^ d → f a < k ^ d) : Rpr 1 3000 (numT k d f) := rpr_tup (c := 0) (n := 9) (fun x hx => by
  unfold nats at hx
  rw [List.map_map] at hx
  obtain ⟨j, hj, rfl⟩ := List.mem_map.mp hx
  have := hf j (List.mem_range.mp hj)
  exact rpr_nat _ (by omega)) (by simp [nats]; omega)
theorem idx_eq {k d m : Nat} (hk : 1 ≤ k ∧ k ≤ 4) (hd : d ≤ 6) (hN : k ^ d ≤ 256) (hm : m < k ^ d) : gIndex (.list (lvStep k d (k ^ d))) (.str (tx (sh k d m))) = some (.int (m : Nat)) := by
  have hk0 : 0 < k := hk.1
  have asc : ∀ j, Rpr 0 10 (.str (tx (sh k d j))) := fun j => ⟨by
    show (tx (sh k d j)).cps.all _ = true
    rw [← Array.all_toList, List.all_eq_true, tx_cps]
    intro c hc
    obtain ⟨x, hx, rfl⟩ := List.mem_map.mp hc
    have := sh_lt hk0 d j x hx
    exact decide_eq_true (by omega), rfl, rfl, by simp [PyData.depth], by
    simp only [PyData.leavesShort, List.all_eq_true, decide_eq_true_eq]
    intro c hc
    rw [tx_cps] at hc
    obtain ⟨x, hx, rfl⟩ := List.mem_map.mp hc
    have := sh_lt hk0 d j x hx
    omega, by
    show (tx (sh k d j)).cps.size ≤ 10
    rw [← Array.length_toList, tx_cps, List.length_map, sh_len]; omega⟩
  have h1 := rpr_shaped (asc m) (by omega)
  have h2 : SeqAt.shaped (.list (lvStep k d (k ^ d))) = true := rpr_shaped (rpr_lst (c := 0) (n := 10) (N := 3000) (fun x hx => by
    obtain ⟨j, _, rfl⟩ := List.mem_map.mp hx
    exact asc j) (by simp [lvStep]; omega)) (by omega)
  have hf : firstD (.str (tx (sh k d m))) (lvStep k d (k ^ d)) = some m := by
    unfold firstD
    rw [List.findIdx?_eq_some_iff_getElem]
    refine ⟨by simpa [lvStep] using hm, by simp [lvStep, PyData.eqv], fun j hj => ?_⟩
    have hjn : j < k ^ d := by omega
    simp only [lvStep, List.getElem_map, List.getElem_range, PyData.eqv]
    have : tx (sh k d j) ≠ tx (sh k d m) := fun e => by
      have := sh_inj hk0 hjn hm (tx_inj e)
      omega
    simpa using this
  unfold gIndex
  simp only [h1, h2, Bool.and_self, if_true, hf, Option.map_some]
end M
set_option Elab.async false
set_option linter.all false
set_option maxRecDepth 100000
set_option maxHeartbeats 4000000
namespace M
open PySem PySem.Spec PyProof.Rows L2 Z D
theorem cut_m1 {ds : List PyData} : gSl (.tuple ds) none (some (-1)) = some (.tuple (ds.take (ds.length - 1))) := by
  show some (PyData.tuple (Z.cutD ds none (some (-1)))) = _
  unfold Z.cutD
  have e1 : HT.sIx ds.length 0 none = 0 := rfl
  have e2 : HT.sIx ds.length ds.length (some (-1)) = ds.length - 1 := by
    show (if (-1 : Int) < 0 then ((-1 : Int) + (ds.length : Int)).toNat else min (-1 : Int).toNat ds.length) = _
    rw [if_pos (by decide)]
    omega
  rw [e1, e2, List.drop_zero, Nat.sub_zero]
theorem gv_isTS {ds : List PyData} : gIsT "str" (.tuple ds) = some (.bool false) := rfl
theorem gv_addTT {ds es : List PyData} (h : ds.length + es.length ≤ big) : gAdd (.tuple ds) (.tuple es) = some (.tuple (ds ++ es)) := if_pos h
theorem gv_L4' {a b c d : PyData} : gLstD [a, b, c, d] = some (.list [a, b, c, d]) := by unfold gLstD; rw [if_pos (by simp [big])]
theorem strange_ok {k d : Nat} {f : Nat → Nat} (S : Owes76) (h : D6 k d) (v : Int) (Γ : Ga) (h1 : Γ[1]? = some (some (.int k))) (h2 : Γ[2]? = some (some (.int d))) (h7 : Γ[7]? = some (some (numT k d f))) (hf : ∀ a, a < k ^ d → f a < k ^ d) (hN : k ^ d ≤ 256) : ∃ l, c1 (aCons (b2 (fV 7) (c1 (aCons (fC (.int 0)) aNil) gTupD) gAdd) (aCons (s3 (fV 7) oNone (oSome (b1 (fC (.int 1)) gNeg)) gSl) (aCons (b2 (s3 (fV 7) oNone (oSome (b1 (fC (.int 1)) gNeg)) gSl) (c1 (aCons (b1 (fC (.int 1)) gNeg) aNil) gTupD) gAdd) (aCons (b2 (s3 (fV 7) oNone (oSome (b1 (fC (.int 1)) gNeg)) gSl) (c1 (aCons (b1 (fV 7) gLen) aNil) gTupD) gAdd) aNil)))) gLstD Γ = some (.ok (.list l)) ∧
    ∃ s, gIx (.list l) (.int (v % 4)) = some s ∧ F__law_told [.int k, .int d, s] = some (.ok (.str "portrait")) := by
  have hk0 : 0 < k := by have := h.1; omega
  have pos : 0 < k ^ d := Nat.pow_pos hk0
  let L : List Int := ((List.range (k ^ d)).map f).map fun (n : Nat) => (n : Int)
  have hL : nats ((List.range (k ^ d)).map f) = L.map .int := by simp [nats, L]
  have lL : L.length = k ^ d := by simp [L]
  have f7 : fV 7 Γ = some (.ok (.tuple (L.map .int))) := by rw [← hL]; exact rv_fV h7
  have cut : s3 (fV 7) oNone (oSome (b1 (fC (.int 1)) gNeg)) gSl Γ = some (.ok (.tuple ((L.take (k ^ d - 1)).map .int))) := by
    refine rv_s3 f7 rv_oNone (rv_oSome (rv_b1 rv_fC gv_neg)) ?_
    rw [cut_m1, List.length_map, lL, List.map_take]
  have lrg : (rg (k ^ d)).length = k ^ d := by simp [rg]
  refine ⟨[.tuple ((L ++ [0]).map .int), .tuple ((L.take (k ^ d - 1)).map .int), .tuple ((L.take (k ^ d - 1) ++ [-1]).map .int), .tuple ((L.take (k ^ d - 1) ++ [((k ^ d : Nat) : Int)]).map .int)], ?_, ?_⟩
  · refine rv_c1 (rv_cons (rv_isX (rv_b2 f7 (rv_c1 (rv_cons rv_fC rv_nil) gv_T1) (gv_addTT ?_)) ?_) (rv_cons cut (rv_cons (rv_isX (rv_b2 cut (rv_c1 (rv_cons (rv_b1 rv_fC gv_neg) rv_nil) gv_T1) (gv_addTT ?_)) ?_) (rv_cons (rv_isX (rv_b2 cut (rv_c1 (rv_cons (rv_b1 (z := .int (k ^ d : Nat)) f7 ?_) rv_nil) gv_T1) (gv_addTT ?_)) ?_) rv_nil)))) gv_L4'
    · rw [List.length_map, lL]; show _ + 1 ≤ big; unfold big; omega
    · rw [List.map_append]; rfl
    · rw [List.length_map, List.length_take, lL]; show _ + 1 ≤ big; unfold big; omega
    · rw [List.map_append]; rfl
    · rw [gv_lenT, List.length_map, lL]
    · rw [List.length_map, List.length_take, lL]; show _ + 1 ≤ big; unfold big; omega
    · rw [List.map_append]; rfl
  · have bad : ∀ ns : List Int, ns.length ≤ 300 → ¬ ns.Perm (rg (k ^ d)) → F__law_told [.int k, .int d, .tuple (ns.map .int)] = some (.ok (.str "portrait")) := fun ns h3 h4 => told_P (S.frmS k d ns h h3 h4)
    have m0 := Int.emod_nonneg v (show (4 : Int) ≠ 0 by decide)
    have m1 := Int.emod_lt_of_pos v (show (0 : Int) < 4 by decide)
    rcases (by omega : v % 4 = 0 ∨ v % 4 = 1 ∨ v % 4 = 2 ∨ v % 4 = 3) with e | e | e | e
    · rw [e]
      exact ⟨_, rfl, bad _ (by rw [List.length_append, lL]; show _ + 1 ≤ 300; omega) fun p => by
        have := p.length_eq
        rw [List.length_append, lL, lrg] at this
        have : k ^ d + 1 = k ^ d := this
        omega⟩
    · rw [e]
      exact ⟨_, rfl, bad _ (by rw [List.length_take, lL]; omega) fun p => by
        have := p.length_eq
        rw [List.length_take, lL, lrg] at this
        omega⟩
    · rw [e]
      exact ⟨_, rfl, bad _ (by rw [List.length_append, List.length_take, lL]; show _ + 1 ≤ 300; omega) fun p => by
        have : (-1 : Int) ∈ rg (k ^ d) := p.mem_iff.mp (List.mem_append_right _ List.mem_cons_self)
        obtain ⟨n, _, q⟩ := List.mem_map.mp this
        omega⟩
    · rw [e]
      exact ⟨_, rfl, bad _ (by rw [List.length_append, List.length_take, lL]; show _ + 1 ≤ 300; omega) fun p => by
        have : ((k ^ d : Nat) : Int) ∈ rg (k ^ d) := p.mem_iff.mp (List.mem_append_right _ List.mem_cons_self)
        obtain ⟨n, hn, q⟩ := List.mem_map.mp this
        have := List.mem_range.mp hn
        omega⟩
theorem law_of (S : Owes76) (xs : List Int) : F_law [.list (xs.map .int)] = some (.ok (.bool true)) := by
  obtain ⟨k, hk, hk2, hk4⟩ : ∃ k : Nat, (k : Int) = 2 + xs.getD 0 0 % 3 ∧ 2 ≤ k ∧ k ≤ 4 := ⟨(2 + xs.getD 0 0 % 3).toNat, by omega, by omega, by omega⟩
  obtain ⟨d, hd, hdk⟩ : ∃ d : Nat, (d : Int) = xs.getD 0 0 / 3 % (7 - k) ∧ d + k < 7 := by
    have a := Int.emod_nonneg (xs.getD 0 0 / 3) (show (7 - k : Int) ≠ 0 by omega)
    have b := Int.emod_lt_of_pos (xs.getD 0 0 / 3) (show (0 : Int) < 7 - k by omega)
    exact ⟨(xs.getD 0 0 / 3 % (7 - k)).toNat, by omega, by omega⟩
  have D : D6 k d := ⟨hk2, hk4, hdk⟩
  have hk0 : 0 < k := by omega
  have hkk : 1 ≤ k ∧ k ≤ 4 := ⟨hk0, hk4⟩
  obtain ⟨P, G, eP⟩ := portrait_eq (xs.getD 1 0) (k := k) (d := d) hkk (by omega)
  have small : ∀ i, i ≤ d → k ^ i ≤ 256 := fun i hi => by
    have h4 : k ^ i ≤ 4 ^ i := Nat.pow_le_pow_left hk4 i
    rcases (by omega : k = 2 ∨ k = 3 ∨ k = 4) with q | q | q
    · rw [q]
      have := Nat.pow_le_pow_right (show 0 < 2 by decide) (show i ≤ 4 by omega)
      have e : (2 : Nat) ^ 4 = 16 := by decide
      omega
    · have h5 : 4 ^ i ≤ 4 ^ 4 := Nat.pow_le_pow_right (by decide) (by omega)
      have h6 : (4 : Nat) ^ 4 = 256 := by decide
      omega
    · have h5 : 4 ^ i ≤ 4 ^ 4 := Nat.pow_le_pow_right (by decide) (by omega)
      have h6 : (4 : Nat) ^ 4 = 256 := by decide
      omega
  have hN := small d (Nat.le_refl _)
  have pos : 0 < k ^ d := Nat.pow_pos hk0
  have hf : ∀ a, a < k ^ d → img k P d a < k ^ d := fun a ha => img_lt hk0 G d a (Nat.le_refl _) ha
  have hperm := img_perm hk0 G d (Nat.le_refl _)
  obtain ⟨a, ha, han⟩ : ∃ a : Nat, (a : Int) = xs.getD 2 0 % ((k ^ d : Nat) : Int) ∧ a < k ^ d := by
    have p := Int.emod_nonneg (xs.getD 2 0) (show ((k ^ d : Nat) : Int) ≠ 0 by omega)
    have q := Int.emod_lt_of_pos (xs.getD 2 0) (show (0 : Int) < ((k ^ d : Nat) : Int) by omega)
    exact ⟨(xs.getD 2 0 % ((k ^ d : Nat) : Int)).toNat, by omega, by omega⟩
  obtain ⟨b, hb, hbn⟩ : ∃ b : Nat, (b : Int) = xs.getD 3 0 % ((k ^ d : Nat) : Int) ∧ b < k ^ d := by
    have p := Int.emod_nonneg (xs.getD 3 0) (show ((k ^ d : Nat) : Int) ≠ 0 by omega)
    have q := Int.emod_lt_of_pos (xs.getD 3 0) (show (0 : Int) < ((k ^ d : Nat) : Int) by omega)
    exact ⟨(xs.getD 3 0 % ((k ^ d : Nat) : Int)).toNat, by omega, by omega⟩
  have hg : ∀ j, j < k ^ d → img k P d (sw a b j) < k ^ d := fun j hj => hf _ (sw_lt han hbn hj)
  have gperm : ((List.range (k ^ d)).map fun j => img k P d (sw a b j)).Perm (List.range (k ^ d)) := by
    have h := (sw_perm han hbn).map (img k P d)
    rw [List.map_map] at h
    exact h.trans hperm
  obtain ⟨kb, ekeep, hkeep⟩ := keeps_eq (k := k) (d := d) (f := fun j => img k P d (sw a b j)) hkk (by omega) hg
  have c0 : F__law_cell [.list (xs.map .int), .int 0] = some (.ok (.int (xs.getD 0 0))) := cell_eq xs 0
  have c1' : F__law_cell [.list (xs.map .int), .int 1] = some (.ok (.int (xs.getD 1 0))) := cell_eq xs 1
  have c2 : F__law_cell [.list (xs.map .int), .int 2] = some (.ok (.int (xs.getD 2 0))) := cell_eq xs 2
  have c3 : F__law_cell [.list (xs.map .int), .int 3] = some (.ok (.int (xs.getD 3 0))) := cell_eq xs 3
  have c4 : F__law_cell [.list (xs.map .int), .int 4] = some (.ok (.int (xs.getD 4 0))) := cell_eq xs 4
  have rpN := gv_reprT (rpr_num hN hf) (by omega) (by omega)
  have rpP := gv_reprT (rpr_ptr hk4 (by omega) (fun i hi => small i (by omega)) G) (by omega) (by omega)
  have lenS : (lvStep k d (k ^ d)).length = k ^ d := by simp [lvStep]
  have ixk : gIx (.list [.int 0, .int 0, .int 5, .int 4, .int 3]) (.int k) = some (.int (7 - (k : Int))) := by
    rcases (by omega : k = 2 ∨ k = 3 ∨ k = 4) with q | q | q <;> subst q <;> rfl
  have due : lcX (iA (fV 4)) [6] (bNm 6) fYes (b2 (fI (fV 4)) (callX (aCons (fV 1) (aCons (fV 3) (aCons (fV 6) aNil))) F__law_acted) gIndex) [some (.list (xs.map .int)), some (.int k), some (.int d), some (datP k d P), some (.list (lvStep k d (k ^ d))), none, none, none, none, none, none, none, none, none, none] = some (.ok (.list (nats ((List.range (k ^ d)).map (img k P d))))) := by
    refine rv_lc (rv_iA (d := .list (lvStep k d (k ^ d))) (rv_fV rfl) rfl) (by rw [lenS]; unfold big; omega) ?_
    unfold nats lvStep
    rw [List.map_map]
    refine lcL_map (f := fun j => PyData.str (tx (sh k d j))) (g := (fun (n : Nat) => PyData.int (n : Int)) ∘ img k P d) fun j hj => ?_
    have hj := List.mem_range.mp hj
    have e := acted_eq (k := k) (P := P) (d := d) (w := sh k d j) hk4 G (by rw [sh_len]; exact Nat.le_refl _) (by omega) (sh_lt hk0 d j)
    rw [act_sh hk0 G d j (Nat.le_refl _) hj] at e
    exact rv_lcI rfl (rv_b2 (rv_fI (rv_fV rfl) isI_L) (rv_callX (rv_cons (rv_fV rfl) (rv_cons (rv_fV rfl) (rv_cons (rv_fV rfl) rv_nil))) e) (idx_eq hkk (by omega) hN (hf j hj)))
  refine rv_def (G := [some (.list (xs.map .int)), none, none, none, none, none, none, none, none, none, none, none, none, none, none]) rfl rfl ?_
  unfold p_law
  refine rv_seq_asg (d := .int k) (rv_isX (rv_b2 rv_fC (rv_b2 (rv_callX (rv_cons (rv_fV rfl) (rv_cons rv_fC rv_nil)) c0) rv_fC (gv_mod (by decide))) gv_add) (by rw [hk])) rfl ?_
  refine rv_seq_asg (d := .int d) (rv_isX (rv_b2 (rv_b2 (rv_callX (rv_cons (rv_fV rfl) (rv_cons rv_fC rv_nil)) c0) rv_fC (gv_div (by decide))) (rv_b2 (rv_c1 (rv_cons rv_fC (rv_cons rv_fC (rv_cons rv_fC (rv_cons rv_fC (rv_cons rv_fC rv_nil))))) gv_L5) (rv_fV rfl) ixk) (gv_mod (by omega))) (by rw [hd])) rfl ?_
  refine rv_seq_asg (rv_callX (rv_cons (rv_callX (rv_cons (rv_fV rfl) (rv_cons rv_fC rv_nil)) c1') (rv_cons (rv_fV rfl) (rv_cons (rv_fV rfl) rv_nil))) eP) rfl ?_
  refine rv_seq_asg (rv_callX (rv_cons (rv_fV rfl) (rv_cons (rv_fV rfl) rv_nil)) (level_eq hkk (by omega))) rfl ?_
  refine rv_seq_asg (rv_b1 due gv_tupL) rfl ?_
  refine rv_seq_asg (rv_callX (rv_cons (rv_fV rfl) (rv_cons (rv_fV rfl) rv_nil)) (S.lev k d P D G)) rfl ?_
  refine rv_seq_ifF (rv_or (rv_toT (rv_b2 (rv_b1 (rv_fV rfl) rpN) (rv_b1 (rv_fV rfl) rpN) gv_neS)) fun _ => rv_toT (rv_b2 (rv_b1 (rv_callX (rv_cons (rv_fV rfl) (rv_cons (rv_fV rfl) (rv_cons (rv_fV rfl) rv_nil))) (told_ok (S.frm k d P D G))) rpP) (rv_b1 (rv_fV rfl) rpP) gv_neS)) (rv_seq_nxX ?_)
  refine rv_seq_asg (d := .int a) (rv_isX (rv_b2 (rv_callX (rv_cons (rv_fV rfl) (rv_cons rv_fC rv_nil)) c2) (rv_b1 (rv_fV rfl) gv_lenL) (gv_mod (by rw [lenS]; omega))) (by rw [lenS, ha])) rfl ?_
  refine rv_seq_asg (d := .int b) (rv_isX (rv_b2 (rv_callX (rv_cons (rv_fV rfl) (rv_cons rv_fC rv_nil)) c3) (rv_b1 (rv_fV rfl) gv_lenL) (gv_mod (by rw [lenS]; omega))) (by rw [lenS, hb])) rfl ?_
  have lnat : (nats ((List.range (k ^ d)).map (img k P d))).length = k ^ d := by simp [nats]
  have atj : ∀ j, j < k ^ d → (nats ((List.range (k ^ d)).map (img k P d)))[j]? = some (.int (img k P d j : Nat)) := fun j hj => by simp [nats, hj]
  refine rv_seq_asg (d := .list (nats ((List.range (k ^ d)).map (img k P d)))) (rv_b1 (rv_fV rfl) gv_lstT) rfl ?_
  refine rv_seq_asg (rv_b2 (rv_fOl rfl) (rv_fV rfl) (gv_ixN rfl (atj a han))) rfl ?_
  refine rv_seq_set (j := a) (rv_b2 (rv_fOl rfl) (rv_fV rfl) (gv_ixN rfl (atj b hbn))) rfl (rv_fV rfl) (ixN_nat (by omega) (by rw [lnat]; omega)) rfl ?_
  refine rv_seq_set (j := b) (rv_fV rfl) rfl (rv_fV rfl) (ixN_nat (by omega) (by rw [List.length_set, lnat]; omega)) rfl ?_
  rw [set_sw (img k P d) han hbn]
  refine rv_seq_asg (rv_b1 (rv_fOl rfl) gv_tupL) rfl ?_
  have fin : ∀ x13 : Option PyData, (seqX (asgX (c1 (aCons (b2 (fV 7) (c1 (aCons (fC (.int 0)) aNil) gTupD) gAdd) (aCons (s3 (fV 7) oNone (oSome (b1 (fC (.int 1)) gNeg)) gSl) (aCons (b2 (s3 (fV 7) oNone (oSome (b1 (fC (.int 1)) gNeg)) gSl) (c1 (aCons (b1 (fC (.int 1)) gNeg) aNil) gTupD) gAdd) (aCons (b2 (s3 (fV 7) oNone (oSome (b1 (fC (.int 1)) gNeg)) gSl) (c1 (aCons (b1 (fV 7) gLen) aNil) gTupD) gAdd) aNil)))) gLstD) (bNm 14))
      (seqX (ifS (toT (b2 (callX (aCons (fV 1) (aCons (fV 2) (aCons (b2 (fV 14) (b2 (callX (aCons (fV 0) (aCons (fC (.int 4)) aNil)) F__law_cell) (fC (.int 4)) gMod) gIx) aNil))) F__law_told) (fC (.str "portrait")) gNe)) (retX (fC (.bool false))) nxX)
      (seqX (ifS (orT (toT (b2 (callX (aCons (fV 1) (aCons (b1 (fC (.int 1)) gNeg) (aCons (c1 aNil gTupD) aNil))) F__law_told) (fC (.str "number")) gNe)) (orT (toT (b2 (callX (aCons (fV 1) (aCons (fC (.int 7)) (aCons (c1 aNil gTupD) aNil))) F__law_told) (fC (.str "number")) gNe)) (toT (b2 (callX (aCons (fC (.int 5)) (aCons (fV 2) (aCons (c1 aNil gTupD) aNil))) F__law_told) (fC (.str "number")) gNe)))) (retX (fC (.bool false))) nxX)
      (retX (andX (b2 (callX (aCons (fC (.int 5)) (aCons (c1 aNil gTupD) aNil)) F__law_refuses) (fC (.str "number")) gEq) (b2 (callX (aCons (fV 1) (aCons (c1 (aCons (c1 aNil gTupD) aNil) gTupD) aNil)) F__law_refuses) (fC (.str "portrait")) gEq))))))
      [some (.list (xs.map .int)), some (.int k), some (.int d), some (datP k d P), some (.list (lvStep k d (k ^ d))), some (numT k d (img k P d)), none, some (numT k d (img k P d)), some (.int a), some (.int b), some (.list (nats ((List.range (k ^ d)).map fun j => img k P d (sw a b j)))), some (.int (img k P d a : Nat)), some (numT k d fun j => img k P d (sw a b j)), x13, none] = some (.rt (.bool true)) := fun x13 => by
    obtain ⟨l, el, s, es, et⟩ := strange_ok (f := img k P d) S D (xs.getD 4 0) [some (.list (xs.map .int)), some (.int k), some (.int d), some (datP k d P), some (.list (lvStep k d (k ^ d))), some (numT k d (img k P d)), none, some (numT k d (img k P d)), some (.int a), some (.int b), some (.list (nats ((List.range (k ^ d)).map fun j => img k P d (sw a b j)))), some (.int (img k P d a : Nat)), some (numT k d fun j => img k P d (sw a b j)), x13, none] rfl rfl rfl hf hN
    refine rv_seq_asg el rfl ?_
    refine rv_seq_ifF (rv_toT (rv_b2 (rv_callX (rv_cons (rv_fV rfl) (rv_cons (rv_fV rfl) (rv_cons (rv_b2 (rv_fV rfl) (rv_b2 (rv_callX (rv_cons (rv_fV rfl) (rv_cons rv_fC rv_nil)) c4) rv_fC (gv_mod (by decide))) es) rv_nil))) et) rv_fC gv_neS)) (rv_seq_nxX ?_)
    refine rv_seq_ifF (rv_or (rv_toT (rv_b2 (rv_callX (rv_cons (rv_fV rfl) (rv_cons (rv_b1 rv_fC gv_neg) (rv_cons (rv_c1 rv_nil gv_T0) rv_nil))) (told_N (S.frmM k hk2 hk4))) rv_fC gv_neS)) fun _ => rv_or (rv_toT (rv_b2 (rv_callX (rv_cons (rv_fV rfl) (rv_cons rv_fC (rv_cons (rv_c1 rv_nil gv_T0) rv_nil))) (told_N (S.frm7 k hk2 hk4))) rv_fC gv_neS)) fun _ => rv_toT (rv_b2 (rv_callX (rv_cons rv_fC (rv_cons (rv_fV rfl) (rv_cons (rv_c1 rv_nil gv_T0) rv_nil))) (told_N (S.frm5 k d D))) rv_fC gv_neS)) (rv_seq_nxX ?_)
    exact rv_ret (rv_andX (rv_b2 (rv_callX (rv_cons rv_fC (rv_cons (rv_c1 rv_nil gv_T0) rv_nil)) (ref_N S.lev5)) rv_fC gv_eqS) fun _ => rv_b2 (rv_callX (rv_cons (rv_fV rfl) (rv_cons (rv_c1 (rv_cons (rv_c1 rv_nil gv_T0) rv_nil) gv_T1) rv_nil)) (ref_P (S.levB k hk2 hk4))) rv_fC gv_eqS)
  have hsg := rpr_shaped (rpr_num (f := fun j => img k P d (sw a b j)) hN hg) (by omega)
  cases kb with
  | true =>
    have K := hkeep.mp rfl
    have G2 := ptr_gd ⟨hk2, hk4⟩ K hg
    have same : (List.range (k ^ d)).map (img k (ptrOf k d fun j => img k P d (sw a b j)) d) = (List.range (k ^ d)).map fun j => img k P d (sw a b j) := List.map_congr_left fun j hj => img_ptr_d hk0 K hg (List.mem_range.mp hj)
    have e1 := told_ok (S.frm k d _ D G2)
    have e2 := S.lev k d _ D G2
    unfold numT at e1 e2
    rw [same] at e1 e2
    refine rv_seq_asg (rv_callX (rv_cons (rv_fV rfl) (rv_cons (rv_fV rfl) (rv_cons (rv_fV rfl) rv_nil))) e1) rfl ?_
    refine rv_seq_ifT (rv_toT (rv_callX (rv_cons (rv_fV rfl) (rv_cons (rv_fV rfl) (rv_cons (rv_fV rfl) rv_nil))) ekeep)) ?_
    refine rv_seq_ifF (rv_or (rv_toT (rv_b1 (rv_fV rfl) gv_isTS)) fun _ => rv_toT (rv_b2 (rv_callX (rv_cons (rv_fV rfl) (rv_cons (rv_fV rfl) rv_nil)) e2) (rv_fV rfl) (gv_neSelf hsg))) (rv_seq_nxX ?_)
    exact fin _
  | false =>
    have K : ¬ Keeps k d fun j => img k P d (sw a b j) := fun K => Bool.noConfusion (hkeep.mpr K)
    have e1 := told_A (S.frmN k d _ D gperm K)
    refine rv_seq_asg (rv_callX (rv_cons (rv_fV rfl) (rv_cons (rv_fV rfl) (rv_cons (rv_fV rfl) rv_nil))) e1) rfl ?_
    refine rv_seq_ifF (rv_toT (rv_callX (rv_cons (rv_fV rfl) (rv_cons (rv_fV rfl) (rv_cons (rv_fV rfl) rv_nil))) ekeep)) ?_
    refine rv_seq_ifF (rv_toT (rv_b2 (rv_fV rfl) rv_fC gv_neS)) (rv_seq_nxX ?_)
    exact fin _
end M
set_option Elab.async false
set_option linter.all false
set_option maxRecDepth 100000
set_option maxHeartbeats 4000000
namespace Z
open PySem PySem.Spec PyProof.Rows L2
section
variable {f g h : PX} {s t u : SX} {Γ Γ' : Ga} {i j : Nat} {c c' : PTx} {pa : PAx} {r : Option Oc} {d e z : PyData} {ds : List PyData} {b : Bool} {er : Er} {rr : Option Res} {n N : Nat} {bx : BX}
theorem rv_b3 {k : PyData → PyData → PyData → Option PyData} {x y w : PyData} (h1 : f Γ = some (.ok x)) (h2 : g Γ = some (.ok y)) (h3 : h Γ = some (.ok w)) (h4 : k x y w = some z) : b3 f g h k Γ = some (.ok z) := by
  unfold b3
  rw [h1]
  exact rv_b2 h2 h3 h4
theorem rv_toI (h1 : f Γ = some (.ok (.list ds))) : toI f Γ = some (.ok ds) := by unfold toI; rw [h1]
theorem rv_augM {x y : Int} (h0 : Γ[i]? = some (some (.int x))) (h1 : f Γ = some (.ok (.int y))) (h2 : okMul x y) (h3 : Γ.set i (some (.int (x * y))) = Γ') : augM i f Γ = some (.nx Γ') := by
  unfold augM
  rw [h0]
  simp only [h1, if_pos h2, h3]
theorem rv_lc2 {ii ii1 : PIx} {vs vs1 : List Nat} {b1 : BX} {ft ft1 : PTx} {ys : List PyData} (h1 : ii Γ = some (.ok ds)) (h2 : lc2L (lc2I vs bx ft ii1 vs1 b1 ft1 f Γ) ds = some ys) (h3 : ys.length ≤ big) : lc2X ii vs bx ft ii1 vs1 b1 ft1 f Γ = some (.ok (.list ys)) := by
  unfold lc2X
  rw [h1]
  simp only [h2, if_pos h3]
theorem rv_lc2I {ii1 : PIx} {vs vs1 : List Nat} {b1 : BX} {ft1 : PTx} {ys ds1 : List PyData} (h1 : bx d (wipeG Γ vs) = some Γ') (h2 : ii1 Γ' = some (.ok ds1)) (h3 : lcL (lcI vs1 b1 ft1 f Γ') ds1 = some ys) : lc2I vs bx fYes ii1 vs1 b1 ft1 f Γ d = some ys := by
  unfold lc2I
  simp only [h1, fYes, h2, h3]
theorem lc2L_map {α : Type} {item : PyData → Option (List PyData)} {f : α → PyData} {g : α → List PyData} : ∀ {l : List α}, (∀ a ∈ l, item (f a) = some (g a)) → lc2L item (l.map f) = some (l.flatMap g)
  | [], _ => rfl
  | a :: l, h => by
    rw [List.map_cons, lc2L, h a List.mem_cons_self]
    simp only [lc2L_map fun b hb => h b (List.mem_cons_of_mem _ hb), Option.map_some]
    rfl
theorem rv_enT (h1 : f Γ = some (.ok (.tuple ds))) : enX f Γ = some (.ok (enD 0 ds)) := by unfold enX; rw [h1]
theorem rv_toTE2 (h1 : c Γ = some (.error er)) : notT c Γ = some (.error er) := by unfold notT; rw [h1]
end
theorem gv_sum {ns : List Int} : gSum (.list (ns.map .int)) = some (.int ns.sum) := by
  show (ints? (ns.map .int)).map _ = _
  rw [ints_map]
  rfl
theorem gv_ninRg2 {i lo hi : Int} : gNinRg2 (.int i) (.int lo) (.int hi) = some (.bool (!decide (lo ≤ i ∧ i < hi))) := rfl
theorem gv_revL {ds : List PyData} : gRevL (.list ds) = some (.list ds.reverse) := rfl
theorem gv_sortT {ns : List Int} : gSortP (.tuple (ns.map .int)) = some (.list ((isort ns).map .int)) := by
  show (ints? (ns.map .int)).map _ = _
  rw [ints_map]
  rfl
theorem enD_map {α : Type} (f : α → PyData) : ∀ (l : List α) (s : Nat), enD s (l.map f) = (l.zipIdx s).map fun p => .tuple [.int (p.2 : Nat), f p.1]
  | [], _ => rfl
  | a :: l, s => by
    rw [List.map_cons, enD, List.zipIdx_cons, List.map_cons, enD_map f l (s + 1)]
theorem enD_range (f : Nat → PyData) (n : Nat) : enD 0 ((List.range n).map f) = (List.range n).map fun i => .tuple [.int (i : Nat), f i] := by
  rw [enD_map]
  refine List.ext_getElem (by simp) fun i h1 h2 => ?_
  simp
end Z
set_option Elab.async false
set_option linter.all false
set_option maxRecDepth 100000
set_option maxHeartbeats 4000000
namespace M
open PySem PySem.Spec PyProof.Rows L2 Z D
theorem string_count_eq {k n : Nat} (hk : k ≤ 1000) (hn : n ≤ 1000) : F_string_count [.int k, .int n] = some (.ok (.int ((k ^ n : Nat) : Int))) := by
  have loop := forR_inv (b := bNm 3) (s := augM 2 (fV 0)) (fun i Γ => ∃ y, Γ = [some (.int k), some (.int n), some (.int ((k ^ i : Nat) : Int)), y]) (n := n) (Γ := [some (.int k), some (.int n), some (.int ((1 : Nat) : Int)), none]) ⟨none, rfl⟩ ?_
  · obtain ⟨Γ', e, y, rfl⟩ := loop
    refine rv_def (G := [some (.int k), some (.int n), none, none]) rfl rfl ?_
    unfold p_string_count
    exact rv_seq (rv_asg rv_fC rfl) (rv_seq (rv_for (rv_iR1 (rv_fV rfl) (by unfold rgB; omega)) e) (rv_ret (rv_fV rfl)))
  · rintro i Γ hi ⟨y, rfl⟩
    refine ⟨[some (.int k), some (.int n), some (.int ((k ^ i : Nat) : Int)), some (.int i)], _, rfl, rv_augM rfl (rv_fV rfl) (.inr ⟨by omega, by omega⟩) rfl, some (.int i), ?_⟩
    rw [Nat.pow_succ, Int.natCast_mul]
    rfl
def geo (k : Nat) : Nat → Nat
  | 0 => 0
  | d + 1 => geo k d + k ^ d
theorem geo_sum (k : Nat) : ∀ d : Nat, ((List.range d).map fun i => ((k ^ i : Nat) : Int)).sum = ((geo k d : Nat) : Int)
  | 0 => rfl
  | d + 1 => by
    rw [List.range_succ, List.map_append, List.sum_append, geo_sum k d, geo]
    simp
theorem arrangement_count_eq {k d : Nat} (hk : k ≤ 1000) (hd : d ≤ 1000) : F_arrangement_count [.int k, .int d] = some (.ok (.int ((geo k d : Nat) : Int))) := by
  refine rv_def (G := [some (.int k), some (.int d), none]) rfl rfl ?_
  unfold p_arrangement_count
  refine rv_ret (rv_b1 (rv_lc (ds := (List.range d).map fun (x : Nat) => PyData.int (x : Int)) (ys := ((List.range d).map fun i => ((k ^ i : Nat) : Int)).map PyData.int) ?_ (by rw [List.length_map, List.length_range]; unfold big; omega) ?_) (by rw [gv_sum, geo_sum]))
  · rw [← rgD_map]; exact rv_iR1 (rv_fV rfl) (by unfold rgB; omega)
  · rw [List.map_map]
    exact lcL_map (f := fun (x : Nat) => PyData.int (x : Int)) (g := PyData.int ∘ fun i => ((k ^ i : Nat) : Int)) fun x hx => rv_lcI rfl (rv_callX (rv_cons (rv_fV rfl) (rv_cons (rv_fV rfl) rv_nil)) (string_count_eq hk (by have := List.mem_range.mp hx; omega)))
theorem is_depth_eq {k d : Nat} (hk : k ≤ 1000) : F_is_depth [.int k, .int d] = some (.ok (.bool (decide (d < 7) && decide (geo k d ≤ 400)))) := by
  refine rv_def (G := [some (.int k), some (.int d)]) rfl rfl ?_
  unfold p_is_depth
  refine rv_ret ?_
  have h := rv_andX (f := b2 (fV 1) (b2 (fC (.int 6)) (fC (.int 1)) gAdd) gInRg) (g := b2 (callX (aCons (fV 0) (aCons (fV 1) aNil)) F_arrangement_count) (fC (.int 400)) gLeI) (Γ := [some (.int k), some (.int d)]) (b := decide ((0 : Int) ≤ d ∧ (d : Int) < 6 + 1)) (b' := decide (((geo k d : Nat) : Int) ≤ 400))
    (rv_b2 (rv_fV rfl) (rv_b2 rv_fC rv_fC gv_add) gv_inRg) fun e => rv_b2 (rv_callX (rv_cons (rv_fV rfl) (rv_cons (rv_fV rfl) rv_nil)) (arrangement_count_eq hk (by have := of_decide_eq_true e; omega))) rv_fC gv_le
  refine rv_isX h ?_
  congr 2
  · exact decide_eq_decide.mpr (by omega)
  · exact decide_eq_decide.mpr (by omega)
def dOk (k d : Nat) : Bool := decide (d < 7) && decide (geo k d ≤ 400)
theorem dOk_small : ∀ k : Nat, k < 5 → ∀ d : Nat, d < 5 → dOk k d = true := by decide
theorem check_count_eq {k : Nat} (hk : 2 ≤ k ∧ k ≤ 4) : F_check_count [.int k] = some (.ok .none) := by
  refine rv_defN (G := [some (.int k)]) rfl rfl (Γ' := [some (.int k)]) ?_
  unfold p_check_count
  refine rv_ifF (rv_is (y := fun _ => none) (rv_toT (rv_b3 (rv_fV rfl) rv_fC (rv_b2 rv_fC rv_fC gv_add) gv_ninRg2)) ?_) rv_nx
  rw [decide_eq_true (by omega)]
  rfl
theorem check_count_bad {k : Int} (hk : ¬ (2 ≤ k ∧ k < 5)) : F_check_count [.int k] = some (.error (.own "BadNumber")) := by
  refine rv_defE (G := [some (.int k)]) rfl rfl (Γ' := [some (.int k)]) ?_
  unfold p_check_count
  refine rv_ifT (rv_is (y := fun _ => none) (rv_toT (rv_b3 (rv_fV rfl) rv_fC (rv_b2 rv_fC rv_fC gv_add) gv_ninRg2)) ?_) (rv_ra rv_fC)
  rw [decide_eq_false (by omega)]
  rfl
theorem is_level_eq {k n : Nat} {rows : List (List Int)} (hk : k ≤ 1000) : F_is_level [.int k, .tuple (rows.map fun r => .tuple (r.map .int)), .int n] = some (.ok (.bool (decide (rows.length = n) && rows.all fun r => decide (isort r = rg k)))) := by
  refine rv_def (G := [some (.int k), some (.tuple (rows.map fun r => .tuple (r.map .int))), some (.int n), none, none]) rfl rfl ?_
  unfold p_is_level
  refine rv_seq_asg (d := .list (rgD 0 k)) (rv_b1 (rv_fV rfl) (gv_rg (by unfold rgOk; omega))) rfl ?_
  refine rv_ret (rv_isX (rv_andX (rv_b2 (rv_b1 (rv_fV rfl) gv_lenT) (rv_fV rfl) gv_eq) fun _ => rv_al (ds := rows.map fun r => .tuple (r.map .int)) (rv_iA (rv_fV rfl) rfl) (alL_map (f := fun r => PyData.tuple (r.map .int)) (g := fun r => decide (isort r = rg k)) fun r _ => rv_alI rfl (rv_b2 (rv_b1 (rv_fV rfl) gv_sortT) (rv_fV rfl) (gv_eqB ?_)))) ?_)
  · rw [rgD_rg]; exact eq_lists
  · rw [List.length_map]
    congr 2
    exact decide_eq_decide.mpr (by omega)
theorem levP_rows (k : Nat) (P : Ptr) (i : Nat) : levP k P i = .tuple (((List.range (k ^ i)).map fun j => (List.range k).map fun x => ((P i j x : Nat) : Int)).map fun r => .tuple (r.map .int)) := by
  unfold levP rowP
  rw [List.map_map]
  congr 1
  refine List.map_congr_left fun j _ => ?_
  show _ = PyData.tuple (List.map PyData.int (List.map _ _))
  rw [List.map_map]
  rfl
theorem row_sort {k : Nat} {f : Nat → Nat} (h : ((List.range k).map f).Perm (List.range k)) : isort ((List.range k).map fun x => ((f x : Nat) : Int)) = rg k := by
  refine isort_rg ?_
  have := h.map fun (n : Nat) => (n : Int)
  rwa [List.map_map] at this
theorem is_level_good {k d : Nat} {P : Ptr} (hk : k ≤ 1000) (G : Gd k d P) {i n : Nat} (hi : i < d) : F_is_level [.int k, levP k P i, .int n] = some (.ok (.bool (decide (k ^ i = n)))) := by
  rw [levP_rows, is_level_eq hk, List.length_map, List.length_range]
  congr 3
  have : (((List.range (k ^ i)).map fun j => (List.range k).map fun x => ((P i j x : Nat) : Int)).all fun r => decide (isort r = rg k)) = true := by
    rw [List.all_eq_true]
    intro r hr
    obtain ⟨j, hj, rfl⟩ := List.mem_map.mp hr
    exact decide_eq_true (row_sort (G.perm i j hi (List.mem_range.mp hj)))
  rw [this, Bool.and_true]
theorem is_portrait_levels {k : Nat} (hk : 2 ≤ k ∧ k ≤ 4) {lv : List PyData} {g : Nat → Bool} (hd : lv.length ≤ 1000) (hl : ∀ (i : Nat) (l : PyData), lv[i]? = some l → F_is_level [.int k, l, .int ((k ^ i : Nat) : Int)] = some (.ok (.bool (g i)))) :
    F_is_portrait [.int k, .tuple lv] = some (.ok (.bool (dOk k lv.length && (List.range lv.length).all g))) := by
  refine rv_def (G := [some (.int k), some (.tuple lv), none, none]) rfl rfl ?_
  unfold p_is_portrait
  refine rv_seq_drop (rv_callX (rv_cons (rv_fV rfl) rv_nil) (check_count_eq hk)) ?_
  have e := is_depth_eq (k := k) (d := lv.length) (by omega)
  cases hb : dOk k lv.length with
  | false =>
    have hb' : (decide (lv.length < 7) && decide (geo k lv.length ≤ 400)) = false := hb
    rw [hb'] at e
    exact rv_seq_ifT (rv_not (rv_toT (rv_callX (rv_cons (rv_fV rfl) (rv_cons (rv_b1 (rv_fV rfl) gv_lenT) rv_nil)) e))) (rv_seqR (rv_ret rv_fC))
  | true =>
    have hb' : (decide (lv.length < 7) && decide (geo k lv.length ≤ 400)) = true := hb
    rw [hb'] at e
    refine rv_seq_ifF (rv_not (rv_toT (rv_callX (rv_cons (rv_fV rfl) (rv_cons (rv_b1 (rv_fV rfl) gv_lenT) rv_nil)) e))) (rv_seq_nxX ?_)
    have el : lv = (List.range lv.length).map fun i => lv.getD i .none := by
      refine List.ext_getElem (by simp) fun i h1 h2 => ?_
      simp [List.getD_eq_getElem?_getD, List.getElem?_eq_getElem h1]
    refine rv_ret (rv_al (ds := (List.range lv.length).map fun i => .tuple [.int (i : Nat), lv.getD i .none]) (b := (List.range lv.length).all g) ?_ (alL_map (f := fun i => PyData.tuple [.int (i : Nat), lv.getD i .none]) (g := g) fun i hi => rv_alI rfl (rv_callX (rv_cons (rv_fV rfl) (rv_cons (rv_fV rfl) (rv_cons (rv_callX (rv_cons (rv_fV rfl) (rv_cons (rv_fV rfl) rv_nil)) (string_count_eq (by omega) ?_)) rv_nil))) ?_)))
    · rw [← enD_range, ← el]
      exact rv_enT (rv_fV rfl)
    · have := List.mem_range.mp hi
      omega
    · have := List.mem_range.mp hi
      exact hl i _ (by simp [List.getD_eq_getElem?_getD, List.getElem?_eq_getElem this])
theorem is_portrait_good {k d : Nat} {P : Ptr} (hk : 2 ≤ k ∧ k ≤ 4) (hd : d ≤ 1000) (hD : dOk k d = true) (G : Gd k d P) : F_is_portrait [.int k, datP k d P] = some (.ok (.bool true)) := by
  have hlen : ((List.range d).map (levP k P)).length = d := by rw [List.length_map, List.length_range]
  have := is_portrait_levels hk (lv := (List.range d).map (levP k P)) (g := fun _ => true) (by rw [hlen]; exact hd) fun i l h => by
    have hi : i < d := by have := (List.getElem?_eq_some_iff.mp h).1; rwa [hlen] at this
    rw [List.getElem?_map, List.getElem?_range hi] at h
    cases h
    rw [is_level_good (by omega) G hi, decide_eq_true rfl]
  rw [this, hlen, hD, Bool.true_and]
  congr 3
  exact List.all_eq_true.mpr fun _ _ => rfl
theorem check_portrait_ok {k : Nat} {s : PyData} (h : F_is_portrait [.int k, s] = some (.ok (.bool true))) : F_check_portrait [.int k, s] = some (.ok .none) := by
  refine rv_defN (G := [some (.int k), some s]) rfl rfl (Γ' := [some (.int k), some s]) ?_
  unfold p_check_portrait
  exact rv_ifF (rv_not (rv_toT (rv_callX (rv_cons (rv_fV rfl) (rv_cons (rv_fV rfl) rv_nil)) h))) rv_nx
theorem check_portrait_no {k : Nat} {s : PyData} (h : F_is_portrait [.int k, s] = some (.ok (.bool false))) : F_check_portrait [.int k, s] = some (.error (.own "NotPortrait")) := by
  refine rv_defE (G := [some (.int k), some s]) rfl rfl (Γ' := [some (.int k), some s]) ?_
  unfold p_check_portrait
  exact rv_ifT (rv_not (rv_toT (rv_callX (rv_cons (rv_fV rfl) (rv_cons (rv_fV rfl) rv_nil)) h))) (rv_ra rv_fC)
theorem is_portrait_bad {k : Int} {s : PyData} (hk : ¬ (2 ≤ k ∧ k < 5)) : F_is_portrait [.int k, s] = some (.error (.own "BadNumber")) := by
  refine rv_defE (G := [some (.int k), some s, none, none]) rfl rfl (Γ' := [some (.int k), some s, none, none]) ?_
  unfold p_is_portrait
  exact rv_seq_dropE (rv_callX (rv_cons (rv_fV rfl) rv_nil) (check_count_bad hk))
theorem check_portrait_bad {k : Int} {s : PyData} (hk : ¬ (2 ≤ k ∧ k < 5)) : F_check_portrait [.int k, s] = some (.error (.own "BadNumber")) := by
  refine rv_defE (G := [some (.int k), some s]) rfl rfl (Γ' := [some (.int k), some s]) ?_
  unfold p_check_portrait
  have e : notT (toT (callX (aCons (fV 0) (aCons (fV 1) aNil)) F_is_portrait)) [some (.int k), some s] = some (.error (.own "BadNumber")) := rv_toTE2 (rv_toTE (rv_callX (rv_cons (rv_fV rfl) (rv_cons (rv_fV rfl) rv_nil)) (is_portrait_bad hk)))
  unfold ifS
  rw [e]
end M
set_option Elab.async false
set_option linter.all false
set_option maxRecDepth 100000
set_option maxHeartbeats 4000000
namespace M
open PySem PySem.Spec PyProof.Rows L2 Z D
abbrev turnD (k : Nat) (P : Ptr) (i : Nat) : PyData := .tuple ((List.range (k ^ i)).map fun j => PyData.int ((img k P i j : Nat) : Int))
theorem flat_range {α : Type} (n k : Nat) (hk : 0 < k) (f : Nat → α) : (List.range n).flatMap (fun u => (List.range k).map fun x => f (u * k + x)) = (List.range (n * k)).map f := by
  induction n with
  | zero => simp
  | succ n ih =>
    rw [List.range_succ, List.flatMap_append, ih, Nat.add_mul, Nat.one_mul, List.range_add, List.map_append, List.map_map]
    congr 1
    simp only [List.flatMap_cons, List.flatMap_nil, List.append_nil]
    rfl
theorem turns_eq {k d : Nat} {P : Ptr} (hk : 1 ≤ k ∧ k ≤ 4) (hd : d ≤ 6) : F_turns_on_levels [.int k, datP k d P] = some (.ok (.list ((List.range (d + 1)).map (turnD k P)))) := by
  have loop := forX_inv (b := bNm 3) (s := (seqX (asgX (b2 (fO 2) (b1 (fC (.int 1)) gNeg) gIx) (bNm 4))
    (appX 2 (b1 (lc2X (enX (fV 3)) [6, 7, 5] (bTup 2 (bCons (bNm 6) (bCons (bNm 7) bNil))) fYes (iA (fV 7)) [5] (bNm 5) fYes (b2 (b2 (b2 (fV 4) (fV 6) gIx) (fV 0) gMul) (fV 5) gAdd)) gTupO))))
    (fun i Γ => ∃ x3 x4 x5 x6 x7, Γ = [some (.int k), some (datP k d P), some (.list ((List.range (i + 1)).map (turnD k P))), x3, x4, x5, x6, x7]) ((List.range d).map (levP k P)) 0 [some (.int k), some (datP k d P), some (.list [.tuple [.int 0]]), none, none, none, none, none] ⟨none, none, none, none, none, rfl⟩ ?_
  · obtain ⟨Γ', e, x3, x4, x5, x6, x7, rfl⟩ := loop
    rw [List.length_map, List.length_range, Nat.zero_add] at e
    refine rv_def (G := [some (.int k), some (datP k d P), none, none, none, none, none, none]) rfl rfl ?_
    unfold p_turns_on_levels
    exact rv_seq (rv_asg (rv_c1 (rv_cons (rv_c1 (rv_cons rv_fC rv_nil) gv_T1) rv_nil) gv_L1) rfl) (rv_seq (rv_for (rv_iA (rv_fV rfl) rfl) e) (rv_ret (rv_fV rfl)))
  · rintro i l Γ hl ⟨x3, x4, x5, x6, x7, rfl⟩
    have hi : i < d := by have := (List.getElem?_eq_some_iff.mp hl).1; rwa [List.length_map, List.length_range] at this
    rw [List.getElem?_map, List.getElem?_range hi] at hl
    cases hl
    have hp : k ^ i ≤ 4096 := pow_small hk.2 (Nat.le_of_lt hi) (by omega)
    have hp1 : k ^ (i + 1) ≤ 4096 := pow_small (n := 6) hk.2 (by omega) (by omega)
    rw [Nat.zero_add]
    refine ⟨[some (.int k), some (datP k d P), some (.list ((List.range (i + 1)).map (turnD k P))), some (levP k P i), x4, x5, x6, x7], _, rfl, ?_, some (levP k P i), some (turnD k P i), x5, x6, x7, rfl⟩
    refine rv_seq (rv_asg (d := turnD k P i) (rv_b2 (rv_fOl rfl) (rv_b1 rv_fC gv_neg) ?_) rfl) ?_
    · have e1 : ((List.range (i + 1)).map (turnD k P)).length = i + 1 := by rw [List.length_map, List.length_range]
      show atI _ _ = _
      unfold atI ixN
      rw [e1, if_neg (by omega), if_pos (by omega)]
      have e2 : (-1 + ((i + 1 : Nat) : Int)).toNat = i := by omega
      show ((List.range (i + 1)).map (turnD k P))[(-1 + ((i + 1 : Nat) : Int)).toNat]? = _
      rw [e2]
      simp
    · refine rv_app (ds := (List.range (i + 1)).map (turnD k P)) (d := turnD k P (i + 1)) rfl (rv_b1 (d := .list ((List.range (k ^ (i + 1))).map fun j => PyData.int ((img k P (i + 1) j : Nat) : Int))) (rv_lc2 (ds := (List.range (k ^ i)).map fun u => .tuple [.int (u : Nat), rowP k (P i u)]) ?_ ?_ ?_) gv_tupL) ?_ ?_
      · rw [← enD_range]; exact rv_enT (rv_fV rfl)
      · rw [Nat.pow_succ, ← flat_range (k ^ i) k hk.1]
        refine lc2L_map (f := fun u => PyData.tuple [.int (u : Nat), rowP k (P i u)]) (g := fun u => (List.range k).map fun x => PyData.int ((img k P (i + 1) (u * k + x) : Nat) : Int)) fun u hu => ?_
        have hu := List.mem_range.mp hu
        refine rv_lc2I rfl (rv_iA (d := rowP k (P i u)) (rv_fV rfl) rfl) (lcL_map (f := fun x => PyData.int ((P i u x : Nat) : Int)) (g := fun x => PyData.int ((img k P (i + 1) (u * k + x) : Nat) : Int)) fun x hx => ?_)
        have hx := List.mem_range.mp hx
        refine rv_lcI rfl (rv_isX (rv_b2 (rv_b2 (rv_b2 (rv_fV rfl) (rv_fV rfl) (gv_ixTN (d := .int ((img k P i u : Nat) : Int)) rfl (by simp [hu]))) (rv_fV rfl) (gv_mulR (by omega) (by omega))) (rv_fV rfl) gv_add) ?_)
        have e1 : (u * k + x) / k = u := mk_div hx
        have e2 : (u * k + x) % k = x := mk_mod hx
        rw [img, e1, e2, Int.natCast_add, Int.natCast_mul]
      · rw [List.length_map, List.length_range]; unfold big; omega
      · rw [List.length_map, List.length_range]; unfold big; omega
      · rw [List.range_succ (n := i + 1), List.map_append]
        rfl
end M
set_option Elab.async false
set_option linter.all false
set_option maxRecDepth 100000
set_option maxHeartbeats 4000000
namespace M
open PySem PySem.Spec PyProof.Rows L2 Z D
def Bk (n k : Nat) (g : Nat → Nat) : Prop := ∀ p, p < n → ∀ x, x < k → g (p * k + x) / k = g (p * k) / k
def Ij (n : Nat) (g : Nat → Nat) : Prop := ∀ a b, a < n → b < n → g a = g b → a = b
abbrev up (k : Nat) (g : Nat → Nat) (p : Nat) : Nat := g (p * k) / k
theorem Bk.at {n k : Nat} {g : Nat → Nat} (B : Bk n k g) (hk : 0 < k) {a : Nat} (ha : a < n * k) : g a / k = up k g (a / k) := by
  have e : a / k * k + a % k = a := by rw [Nat.mul_comm]; exact Nat.div_add_mod a k
  have h := B (a / k) (by rw [Nat.div_lt_iff_lt_mul hk]; exact ha) (a % k) (Nat.mod_lt _ hk)
  rw [e] at h
  exact h
theorem in_row {n k p x : Nat} (hp : p < n) (hx : x < k) : p * k + x < n * k := by
  have : (p + 1) * k ≤ n * k := Nat.mul_le_mul_right k hp
  rw [Nat.add_mul, Nat.one_mul] at this
  omega
theorem same_of {a b k : Nat} (h1 : a / k = b / k) (h2 : a % k = b % k) : a = b := by
  rw [← Nat.div_add_mod a k, ← Nat.div_add_mod b k, h1, h2]
theorem up_inj {n k : Nat} {g : Nat → Nat} (hk : 2 ≤ k ∧ k ≤ 4) (B : Bk n k g) (J : Ij (n * k) g) : Ij n (up k g) := fun p q hp hq e => by
  have hk0 : 0 < k := by omega
  have nd : ((List.range k).map fun x => g (p * k + x) % k).Nodup := nodup_on (fun x hx y hy h => by
    have hx := List.mem_range.mp hx
    have hy := List.mem_range.mp hy
    have := J _ _ (in_row hp hx) (in_row hp hy) (same_of ((B p hp x hx).trans (B p hp y hy).symm) h)
    omega) List.nodup_range
  have pm := perm_of_nodup hk (by simp) nd fun y hy => by
    obtain ⟨x, _, rfl⟩ := List.mem_map.mp hy
    exact Nat.mod_lt _ hk0
  have hm := pm.mem_iff.mpr (List.mem_range.mpr (Nat.mod_lt (g (q * k)) hk0))
  obtain ⟨x, hx, hxe⟩ := List.mem_map.mp hm
  have hx := List.mem_range.mp hx
  have := J (p * k + x) (q * k + 0) (in_row hp hx) (in_row hq hk0) (same_of ((B p hp x hx).trans e) hxe)
  have d1 : (p * k + x) / k = p := mk_div hx
  have d2 : (q * k + 0) / k = q := mk_div hk0
  rw [← d1, this, d2]
theorem cpl_snoc : ∀ (u v : List Nat) (x y : Nat), u.length = v.length → cpl (u ++ [x]) (v ++ [y]) = if u = v then u.length + (if x = y then 1 else 0) else cpl u v
  | [], [], x, y, _ => by
    rw [if_pos rfl]
    show (if x = y then cpl [] [] + 1 else 0) = _
    by_cases h : x = y <;> simp [h, cpl]
  | a :: u, b :: v, x, y, h => by
    have h : u.length = v.length := by simpa using h
    rw [List.cons_append, List.cons_append, cpl, cpl, cpl_snoc u v x y h]
    by_cases e : a = b
    · subst e
      by_cases e2 : u = v
      · subst e2
        simp
        omega
      · simp [e2]
    · have : ¬ (a :: u = b :: v) := fun z => e (List.cons.inj z).1
      rw [if_neg e, if_neg this, if_neg e]
theorem keeps_up {k i : Nat} {g : Nat → Nat} (hk : 2 ≤ k ∧ k ≤ 4) (B : Bk (k ^ i) k g) (J : Ij (k ^ (i + 1)) g) (hg : ∀ a, a < k ^ (i + 1) → g a < k ^ (i + 1)) (K : Keeps k i (up k g)) : Keeps k (i + 1) g := fun a b ha hb => by
  have hk0 : 0 < k := by omega
  have e0 : k ^ (i + 1) = k ^ i * k := Nat.pow_succ ..
  have ea := B.at hk0 (a := a) (by rw [← e0]; exact ha)
  have eb := B.at hk0 (a := b) (by rw [← e0]; exact hb)
  have da := dv hk0 ha
  have db := dv hk0 hb
  rw [sh, sh, sh, sh, cpl_snoc _ _ _ _ (by rw [sh_len, sh_len]), cpl_snoc _ _ _ _ (by rw [sh_len, sh_len]), sh_len, sh_len, ea, eb]
  by_cases h : a / k = b / k
  · rw [h, if_pos rfl, if_pos rfl]
    have : (a % k = b % k) ↔ (g a % k = g b % k) := ⟨fun z => by rw [same_of h z], fun z => by rw [J a b ha hb (same_of (by rw [ea, eb, h]) z)]⟩
    by_cases z : a % k = b % k
    · rw [if_pos z, if_pos (this.mp z)]
    · rw [if_neg z, if_neg fun y => z (this.mpr y)]
  · have n1 : sh k i (a / k) ≠ sh k i (b / k) := fun z => h (sh_inj hk0 da db z)
    have lt : ∀ p, p < k ^ i → up k g p < k ^ i := fun p hp => dv hk0 (hg _ (by
      rw [e0]
      exact in_row (x := 0) hp hk0))
    have n2 : sh k i (up k g (a / k)) ≠ sh k i (up k g (b / k)) := fun z => h (up_inj hk B (by rw [← e0]; exact J) _ _ da db (sh_inj hk0 (lt _ da) (lt _ db) z))
    rw [if_neg n1, if_neg n2]
    exact K _ _ da db
theorem keeps_zero {k : Nat} {g : Nat → Nat} : Keeps k 0 g := fun a b _ _ => rfl
abbrev ntD (n : Nat) (g : Nat → Nat) : PyData := .tuple ((List.range n).map fun a => PyData.int ((g a : Nat) : Int))
theorem numT_nt (k d : Nat) (f : Nat → Nat) : numT k d f = ntD (k ^ d) f := by
  unfold numT nats
  rw [List.map_map]
  rfl
abbrev rowN (k : Nat) (g : Nat → Nat) (p : Nat) : PyData := rowP k fun x => g (p * k + x)
theorem begin_ok {k p : Nat} {g : Nat → Nat} (hk : 0 < k ∧ k ≤ 4) (h : ∀ x, x < k → g (p * k + x) / k = g (p * k) / k) : F_beginning_of [rowN k g p, .int k] = some (.ok (.int (up k g p : Nat))) := by
  refine rv_def (G := [some (rowN k g p), some (.int k), none, none]) rfl rfl ?_
  unfold p_beginning_of
  refine rv_seq_asg (d := .int (up k g p : Nat)) (rv_isX (rv_b2 (rv_b2 (rv_fV rfl) rv_fC (gv_ixTN (j := 0) (d := .int ((g (p * k + 0) : Nat) : Int)) rfl (by simp [hk.1]))) (rv_fV rfl) (gv_div (by omega))) ?_) rfl ?_
  · rw [Nat.add_zero, ← Int.natCast_ediv]
  · refine rv_seq_ifF (rv_not (rv_toT (rv_al (b := true) (ds := (List.range k).map fun x => PyData.int ((g (p * k + x) : Nat) : Int)) (rv_iA (rv_fV rfl) rfl) ?_))) (rv_seq_nxX (rv_ret (rv_fV rfl)))
    have e := alL_map (item := alI [3] (bNm 3) (b2 (b2 (fV 3) (fV 1) gDiv) (fV 2) gEq) [some (rowN k g p), some (.int k), some (.int (up k g p : Nat)), none]) (f := fun x => PyData.int ((g (p * k + x) : Nat) : Int)) (g := fun x => decide (g (p * k + x) / k = up k g p)) (l := List.range k) fun x _ => rv_alI rfl (rv_isX (rv_b2 (rv_b2 (rv_fV rfl) (rv_fV rfl) (gv_div (by omega))) (rv_fV rfl) gv_eq) (by
      rw [← Int.natCast_ediv]
      congr 1
      exact decide_eq_decide.mpr (by omega)))
    refine e.trans ?_
    congr 1
    rw [List.all_eq_true]
    exact fun x hx => decide_eq_true (h x (List.mem_range.mp hx))
theorem begin_no {k p : Nat} {g : Nat → Nat} (hk : 0 < k ∧ k ≤ 4) (h : ¬ ∀ x, x < k → g (p * k + x) / k = g (p * k) / k) : F_beginning_of [rowN k g p, .int k] = some (.error (.own "NoAnswer")) := by
  refine rv_defE (G := [some (rowN k g p), some (.int k), none, none]) (Γ' := [some (rowN k g p), some (.int k), some (.int (up k g p : Nat)), none]) rfl rfl ?_
  unfold p_beginning_of
  refine rv_seq_asg (d := .int (up k g p : Nat)) (rv_isX (rv_b2 (rv_b2 (rv_fV rfl) rv_fC (gv_ixTN (j := 0) (d := .int ((g (p * k + 0) : Nat) : Int)) rfl (by simp [hk.1]))) (rv_fV rfl) (gv_div (by omega))) ?_) rfl ?_
  · rw [Nat.add_zero, ← Int.natCast_ediv]
  · refine rv_seq_ifT (rv_not (rv_toT (rv_al (b := false) (ds := (List.range k).map fun x => PyData.int ((g (p * k + x) : Nat) : Int)) (rv_iA (rv_fV rfl) rfl) ?_))) (rv_seq_ra rv_fC)
    have e := alL_map (item := alI [3] (bNm 3) (b2 (b2 (fV 3) (fV 1) gDiv) (fV 2) gEq) [some (rowN k g p), some (.int k), some (.int (up k g p : Nat)), none]) (f := fun x => PyData.int ((g (p * k + x) : Nat) : Int)) (g := fun x => decide (g (p * k + x) / k = up k g p)) (l := List.range k) fun x _ => rv_alI rfl (rv_isX (rv_b2 (rv_b2 (rv_fV rfl) (rv_fV rfl) (gv_div (by omega))) (rv_fV rfl) gv_eq) (by
      rw [← Int.natCast_ediv]
      congr 1
      exact decide_eq_decide.mpr (by omega)))
    refine e.trans ?_
    congr 1
    rw [← Bool.not_eq_true, List.all_eq_true]
    exact fun z => h fun x hx => of_decide_eq_true (z x (List.mem_range.mpr hx))
theorem rows_eq {n k : Nat} {g : Nat → Nat} {Γ : Ga} {d : PyData} (hk : 1 ≤ k ∧ k ≤ 4) (hn : n * k ≤ 4096) (h0 : Γ[0]? = some (some (.int k))) (h2 : Γ[2]? = some (some (ntD (n * k) g))) (hl : Γ.length = 9) :
    lcX (toI (b3 (fC (.int 0)) (b1 (fV 2) gLen) (fV 0) gRg3)) [6] (bNm 6) fYes (s3 (fV 2) (oSome (fV 6)) (oSome (b2 (fV 6) (fV 0) gAdd)) gSl) Γ = some (.ok (.list ((List.range n).map (rowN k g)))) := by
  have hn1 : n ≤ 4096 := Nat.le_trans (Nat.le_mul_of_pos_right n hk.1) hn
  have hsz : Builtin.Range.rangeSize 0 ((n * k : Nat) : Int) (k : Int) = (n : Int) := by
    unfold Builtin.Range.rangeSize
    rw [if_pos (by omega)]
    by_cases c : (0 : Int) < ((n * k : Nat) : Int)
    · rw [if_pos c]
      have c1 : 0 < n * k := by omega
      have n0 : 0 < n := Nat.pos_of_mul_pos_right c1
      have e : ((n * k : Nat) : Int) - 0 - 1 = ((n * k - 1 : Nat) : Int) := by omega
      rw [e, ← Int.natCast_ediv]
      have e2 : (n * k - 1) / k = n - 1 := by
        have e3 : n * k - 1 = (n - 1) * k + (k - 1) := by
          have : n * k = (n - 1) * k + k := by
            have h := Nat.add_mul (n - 1) 1 k
            rw [Nat.one_mul, Nat.sub_add_cancel n0] at h
            exact h
          omega
        rw [e3, mk_div (by omega)]
      rw [e2]
      omega
    · rw [if_neg c]
      have : n = 0 := by
        rcases Nat.mul_eq_zero.mp (show n * k = 0 by omega) with h | h
        · exact h
        · omega
      omega
  have hok : rgCok 0 ((n * k : Nat) : Int) (k : Int) := by
    have fl : ∀ i : Int, -1000000000 ≤ i → i ≤ 1000000000 → Builtin.Range.rangeFitsLong i = true := fun i a b => by
      unfold Builtin.Range.rangeFitsLong
      rw [decide_eq_true (by omega), decide_eq_true (by omega)]
      rfl
    refine ⟨by omega, by omega, ?_, by rw [hsz]; omega⟩
    unfold Builtin.Range.small
    rw [hsz, fl _ (by omega) (by omega), fl _ (by omega) (by omega), fl _ (by omega) (by omega), if_pos (by omega), fl _ (by omega) (by omega)]
    simp
    refine .inr (fl _ ?_ ?_) <;> rw [← Int.natCast_mul] <;> omega
  refine rv_lc (ds := (List.range n).map fun t => PyData.int ((t * k : Nat) : Int)) (rv_toI (rv_b3 rv_fC (rv_b1 (rv_fV h2) gv_lenT) (rv_fV h0) ?_)) (by rw [List.length_map, List.length_range]; unfold big; omega) (lcL_map (f := fun t => PyData.int ((t * k : Nat) : Int)) (g := rowN k g) fun t ht => ?_)
  · rw [List.length_map, List.length_range]
    show (if _ then _ else _) = _
    rw [if_pos hok, hsz, Int.toNat_natCast]
    unfold rgC
    congr 2
    refine List.map_congr_left fun t _ => ?_
    rw [Int.zero_add, Int.natCast_mul]
  · have ht := List.mem_range.mp ht
    have g0 : (wipeG Γ [6])[0]? = some (some (.int k)) := by
      show (Γ.set 6 none)[0]? = _
      rw [List.getElem?_set_ne (by decide)]
      exact h0
    have g2 : (wipeG Γ [6])[2]? = some (some (ntD (n * k) g)) := by
      show (Γ.set 6 none)[2]? = _
      rw [List.getElem?_set_ne (by decide)]
      exact h2
    have l9 : (wipeG Γ [6]).length = 9 := by
      show (Γ.set 6 none).length = 9
      rw [List.length_set]
      exact hl
    have a0 : ((wipeG Γ [6]).set 6 (some (PyData.int ((t * k : Nat) : Int))))[0]? = some (some (.int k)) := by rw [List.getElem?_set_ne (by decide)]; exact g0
    have a2 : ((wipeG Γ [6]).set 6 (some (PyData.int ((t * k : Nat) : Int))))[2]? = some (some (ntD (n * k) g)) := by rw [List.getElem?_set_ne (by decide)]; exact g2
    have a6 : ((wipeG Γ [6]).set 6 (some (PyData.int ((t * k : Nat) : Int))))[6]? = some (some (PyData.int ((t * k : Nat) : Int))) := by rw [List.getElem?_set_self (by omega)]
    have row := in_row ht (show k - 1 < k by omega)
    refine rv_lcI rfl (rv_s3 (rv_fV a2) (rv_oSome (rv_fV a6)) (rv_oSome (rv_b2 (rv_fV a6) (rv_fV a0) gv_add)) ?_)
    show some (PyData.tuple (Z.cutD _ _ _)) = _
    unfold Z.cutD
    rw [List.length_map, List.length_range]
    have e1 : HT.sIx (n * k) 0 (some ((t * k : Nat) : Int)) = t * k := by
      show (if ((t * k : Nat) : Int) < 0 then (((t * k : Nat) : Int) + ((n * k : Nat) : Int)).toNat else min ((t * k : Nat) : Int).toNat (n * k)) = _
      rw [if_neg (by omega), Int.toNat_natCast]
      omega
    have e2 : HT.sIx (n * k) (n * k) (some (((t * k : Nat) : Int) + (k : Int))) = t * k + k := by
      show (if ((t * k : Nat) : Int) + (k : Int) < 0 then (((t * k : Nat) : Int) + (k : Int) + ((n * k : Nat) : Int)).toNat else min (((t * k : Nat) : Int) + (k : Int)).toNat (n * k)) = _
      rw [if_neg (by omega)]
      omega
    rw [e1, e2]
    congr 2
    refine List.ext_getElem (by simp; omega) fun j j1 j2 => ?_
    simp
theorem level_turns {n k : Nat} {g : Nat → Nat} {Γ : Ga} (hk : 1 ≤ k ∧ k ≤ 4) (hn : n ≤ 4096) (h0 : Γ[0]? = some (some (.int k))) (h5 : Γ[5]? = some (some (.list ((List.range n).map (rowN k g))))) (hl : Γ.length = 9) :
    b1 (lcX (iA (fV 5)) [7] (bNm 7) fYes (b1 (lcX (iA (fV 7)) [8] (bNm 8) fYes (b2 (fV 8) (fV 0) gMod)) gTupO)) gTupO Γ = some (.ok (.tuple ((List.range n).map fun p => rowP k fun x => g (p * k + x) % k))) := by
  refine rv_b1 (rv_lc (ds := (List.range n).map (rowN k g)) (rv_iA (rv_fV h5) rfl) (by rw [List.length_map, List.length_range]; unfold big; omega) (lcL_map (f := rowN k g) (g := fun p => rowP k fun x => g (p * k + x) % k) fun p _ => ?_)) gv_tupL
  have g0 : ((Γ.set 7 none).set 7 (some (rowN k g p)))[0]? = some (some (.int k)) := by
    rw [List.getElem?_set_ne (by decide), List.getElem?_set_ne (by decide)]
    exact h0
  have g7 : ((Γ.set 7 none).set 7 (some (rowN k g p)))[7]? = some (some (rowN k g p)) := by rw [List.getElem?_set_self (by rw [List.length_set]; omega)]
  have l9 : ((Γ.set 7 none).set 7 (some (rowN k g p))).length = 9 := by rw [List.length_set, List.length_set]; exact hl
  refine rv_lcI (Γ' := (Γ.set 7 none).set 7 (some (rowN k g p))) rfl ?_
  generalize (Γ.set 7 none).set 7 (some (rowN k g p)) = G at g0 g7 l9
  refine rv_b1 (rv_lc (ds := (List.range k).map fun x => PyData.int ((g (p * k + x) : Nat) : Int)) (rv_iA (rv_fV g7) rfl) (by rw [List.length_map, List.length_range]; unfold big; omega) (lcL_map (f := fun x => PyData.int ((g (p * k + x) : Nat) : Int)) (g := fun x => PyData.int ((g (p * k + x) % k : Nat) : Int)) fun x _ => ?_)) gv_tupL
  have k0 : ((G.set 8 none).set 8 (some (PyData.int ((g (p * k + x) : Nat) : Int))))[0]? = some (some (.int k)) := by
    rw [List.getElem?_set_ne (by decide), List.getElem?_set_ne (by decide)]
    exact g0
  have k8 : ((G.set 8 none).set 8 (some (PyData.int ((g (p * k + x) : Nat) : Int))))[8]? = some (some (PyData.int ((g (p * k + x) : Nat) : Int))) := by rw [List.getElem?_set_self (by rw [List.length_set]; omega)]
  exact rv_lcI (Γ' := (G.set 8 none).set 8 (some (PyData.int ((g (p * k + x) : Nat) : Int)))) rfl (rv_isX (rv_b2 (rv_fV k8) (rv_fV k0) (gv_mod (by omega))) (by rw [← Int.natCast_emod]))
theorem lcLE_bad {α : Type} {item : PyData → Option (Except Er (Option PyData))} {g : α → PyData} {e : Er} : ∀ {l : List α}, (∀ a ∈ l, (∃ y, item (g a) = some (.ok (some y))) ∨ item (g a) = some (.error e)) → (∃ a ∈ l, item (g a) = some (.error e)) → lcLE item (l.map g) = some (.error e)
  | [], _, ⟨a, ha, _⟩ => nomatch ha
  | a :: l, h, ⟨b, hb, hbe⟩ => by
    rw [List.map_cons, lcLE]
    rcases h a (.head _) with ⟨y, hy⟩ | hy
    · have : b ∈ l := by
        rcases List.mem_cons.mp hb with q | q
        · rw [q, hy] at hbe; cases hbe
        · exact q
      rw [hy, lcLE_bad (fun c hc => h c (.tail _ hc)) ⟨b, this, hbe⟩]
      rfl
    · rw [hy]
theorem rv_lcE {ii : PIx} {vs : List Nat} {bx : BX} {c : PTx} {f : PX} {Γ : Ga} {ds : List PyData} {r : Except Er (List PyData)} (h1 : ii Γ = some (.ok ds)) (h2 : ds.length ≤ big) (h3 : lcLE (lcIE vs bx c f Γ) ds = some r) : lcXE ii vs bx c f Γ = some (r.map PyData.list) := by
  unfold lcXE
  rw [h1]
  simp only [if_pos h2, h3, Option.map_some]
theorem item_of {k : Nat} {g : Nat → Nat} {Γ : Ga} {p : Nat} {r : Res} (h0 : Γ[0]? = some (some (.int k))) (hl : Γ.length = 9) (h : F_beginning_of [rowN k g p, .int k] = some r) : lcIE [7] (bNm 7) fYes (callX (aCons (fV 7) (aCons (fV 0) aNil)) F_beginning_of) Γ (rowN k g p) = some (r.map some) := by
  have g0 : ((Γ.set 7 none).set 7 (some (rowN k g p)))[0]? = some (some (.int k)) := by
    rw [List.getElem?_set_ne (by decide), List.getElem?_set_ne (by decide)]
    exact h0
  have g7 : ((Γ.set 7 none).set 7 (some (rowN k g p)))[7]? = some (some (rowN k g p)) := by rw [List.getElem?_set_self (by rw [List.length_set]; omega)]
  have e : callX (aCons (fV 7) (aCons (fV 0) aNil)) F_beginning_of ((Γ.set 7 none).set 7 (some (rowN k g p))) = some r := rv_callX (rv_cons (rv_fV g7) (rv_cons (rv_fV g0) rv_nil)) h
  show ((callX (aCons (fV 7) (aCons (fV 0) aNil)) F_beginning_of ((Γ.set 7 none).set 7 (some (rowN k g p)))).map fun r => r.map some) = _
  rw [e]
  rfl
theorem begins_ok {n k : Nat} {g : Nat → Nat} {Γ : Ga} (hk : 1 ≤ k ∧ k ≤ 4) (hn : n ≤ 4096) (B : Bk n k g) (h0 : Γ[0]? = some (some (.int k))) (h5 : Γ[5]? = some (some (.list ((List.range n).map (rowN k g))))) (hl : Γ.length = 9) :
    b1 (lcXE (iA (fV 5)) [7] (bNm 7) fYes (callX (aCons (fV 7) (aCons (fV 0) aNil)) F_beginning_of)) gTupO Γ = some (.ok (ntD n (up k g))) := by
  refine rv_b1 (rv_lcE (r := .ok ((List.range n).map fun p => PyData.int ((up k g p : Nat) : Int))) (ds := (List.range n).map (rowN k g)) (rv_iA (rv_fV h5) rfl) (by rw [List.length_map, List.length_range]; unfold big; omega) ?_) gv_tupL
  exact lcLE_ok fun p hp => item_of h0 hl (begin_ok ⟨hk.1, hk.2⟩ (B p (List.mem_range.mp hp)))
theorem begins_no {n k : Nat} {g : Nat → Nat} {Γ : Ga} (hk : 1 ≤ k ∧ k ≤ 4) (hn : n ≤ 4096) (B : ¬ Bk n k g) (h0 : Γ[0]? = some (some (.int k))) (h5 : Γ[5]? = some (some (.list ((List.range n).map (rowN k g))))) (hl : Γ.length = 9) :
    b1 (lcXE (iA (fV 5)) [7] (bNm 7) fYes (callX (aCons (fV 7) (aCons (fV 0) aNil)) F_beginning_of)) gTupO Γ = some (.error (.own "NoAnswer")) := by
  have ex : ∃ p, p < n ∧ ¬ ∀ x, x < k → g (p * k + x) / k = g (p * k) / k := Classical.byContradiction fun q => B fun p hp => Classical.byContradiction fun z => q ⟨p, hp, z⟩
  obtain ⟨p, hp, hb⟩ := ex
  have e := rv_lcE (r := .error (.own "NoAnswer")) (ii := iA (fV 5)) (vs := [7]) (bx := bNm 7) (c := fYes) (f := callX (aCons (fV 7) (aCons (fV 0) aNil)) F_beginning_of) (Γ := Γ) (ds := (List.range n).map (rowN k g)) (rv_iA (rv_fV h5) rfl) (by rw [List.length_map, List.length_range]; unfold big; omega) (lcLE_bad (fun q _ => ?_) ⟨p, List.mem_range.mpr hp, item_of h0 hl (begin_no ⟨hk.1, hk.2⟩ hb)⟩)
  · unfold b1
    rw [e]
    rfl
  · by_cases z : ∀ x, x < k → g (q * k + x) / k = g (q * k) / k
    · exact .inl ⟨_, item_of h0 hl (begin_ok ⟨hk.1, hk.2⟩ z)⟩
    · exact .inr (item_of h0 hl (begin_no ⟨hk.1, hk.2⟩ z))
abbrev fBody : SX := (seqX (asgX (lcX (toI (b3 (fC (.int 0)) (b1 (fV 2) gLen) (fV 0) gRg3)) [6] (bNm 6) fYes (s3 (fV 2) (oSome (fV 6)) (oSome (b2 (fV 6) (fV 0) gAdd)) gSl)) (bNm 5))
  (seqX (appX 3 (b1 (lcX (iA (fV 5)) [7] (bNm 7) fYes (b1 (lcX (iA (fV 7)) [8] (bNm 8) fYes (b2 (fV 8) (fV 0) gMod)) gTupO)) gTupO))
  (asgX (b1 (lcXE (iA (fV 5)) [7] (bNm 7) fYes (callX (aCons (fV 7) (aCons (fV 0) aNil)) F_beginning_of)) gTupO) (bNm 2))))
theorem step_ok {n k d : Nat} {g : Nat → Nat} {L : List PyData} {x4 x5 : Option PyData} (hk : 1 ≤ k ∧ k ≤ 4) (hn : n * k ≤ 4096) (hL : L.length ≤ 6) (B : Bk n k g) :
    fBody [some (.int k), some (.int d), some (ntD (n * k) g), some (.list L), x4, x5, none, none, none] = some (.nx [some (.int k), some (.int d), some (ntD n (up k g)), some (.list (L ++ [.tuple ((List.range n).map fun p => rowP k fun x => g (p * k + x) % k)])), x4, some (.list ((List.range n).map (rowN k g))), none, none, none]) := by
  have hn1 : n ≤ 4096 := Nat.le_trans (Nat.le_mul_of_pos_right n hk.1) hn
  exact rv_seq_asg (rows_eq (d := .none) hk hn rfl rfl rfl) rfl (rv_seq_app rfl (level_turns hk hn1 rfl rfl rfl) (by unfold big; omega) rfl (rv_asg (begins_ok hk hn1 B rfl rfl rfl) rfl))
theorem step_no {n k d : Nat} {g : Nat → Nat} {L : List PyData} {x4 x5 : Option PyData} (hk : 1 ≤ k ∧ k ≤ 4) (hn : n * k ≤ 4096) (hL : L.length ≤ 6) (B : ¬ Bk n k g) :
    ∃ Γ', fBody [some (.int k), some (.int d), some (ntD (n * k) g), some (.list L), x4, x5, none, none, none] = some (.ex (.own "NoAnswer") Γ') := by
  have hn1 : n ≤ 4096 := Nat.le_trans (Nat.le_mul_of_pos_right n hk.1) hn
  exact ⟨_, rv_seq_asg (rows_eq (d := .none) hk hn rfl rfl rfl) rfl (rv_seq_app rfl (level_turns hk hn1 rfl rfl rfl) (by unfold big; omega) rfl (rv_asgE (begins_no hk hn1 B rfl rfl rfl)))⟩
theorem loop_ok {k d : Nat} {P : Ptr} (hk : 1 ≤ k ∧ k ≤ 4) (hd : d ≤ 6) (G : Gd k d P) : ∀ (i : Nat) (l L : List PyData) (x4 x5 : Option PyData), l.length = i → i ≤ d → L.length + i ≤ 6 → ∃ y2 y4 y5, forX (bNm 4) fBody l [some (.int k), some (.int d), some (ntD (k ^ i) (img k P i)), some (.list L), x4, x5, none, none, none] = some (.nx [some (.int k), some (.int d), y2, some (.list (L ++ ((List.range i).map (levP k P)).reverse)), y4, y5, none, none, none])
  | 0, [], L, x4, x5, _, _, _ => ⟨_, _, _, by
    show some (Oc.nx _) = _
    simp only [List.range_zero, List.map_nil, List.reverse_nil, List.append_nil]
    rfl⟩
  | 0, _ :: _, _, _, _, h, _, _ => nomatch h
  | i + 1, [], _, _, _, h, _, _ => nomatch h
  | i + 1, z :: l, L, x4, x5, h, hi, hL => by
    have hp : k ^ i * k ≤ 4096 := by
      rw [← Nat.pow_succ]
      exact pow_small (n := 6) hk.2 (by omega) (by omega)
    have at1 : ∀ p, p < k ^ i → ∀ x, x < k → img k P (i + 1) (p * k + x) = img k P i p * k + P i p x := fun p hp x hx => by
      rw [img, mk_div hx, mk_mod hx]
    have B : Bk (k ^ i) k (img k P (i + 1)) := fun p hp x hx => by
      have z := at1 p hp 0 hk.1
      rw [Nat.add_zero (p * k)] at z
      rw [at1 p hp x hx, z, mk_div (G.lt (by omega) hp hx), mk_div (G.lt (by omega) hp hk.1)]
    have e1 : ntD (k ^ i) (up k (img k P (i + 1))) = ntD (k ^ i) (img k P i) := by
      unfold ntD
      congr 1
      refine List.map_congr_left fun p hp => ?_
      have hp := List.mem_range.mp hp
      have z := at1 p hp 0 hk.1
      rw [Nat.add_zero (p * k)] at z
      show PyData.int ((img k P (i + 1) (p * k) / k : Nat) : Int) = _
      rw [z, mk_div (G.lt (by omega) hp hk.1)]
    have e2 : PyData.tuple ((List.range (k ^ i)).map fun p => rowP k fun x => img k P (i + 1) (p * k + x) % k) = levP k P i := by
      unfold levP
      congr 1
      refine List.map_congr_left fun p hp => ?_
      have hp := List.mem_range.mp hp
      unfold rowP
      congr 1
      refine List.map_congr_left fun x hx => ?_
      have hx := List.mem_range.mp hx
      show PyData.int ((img k P (i + 1) (p * k + x) % k : Nat) : Int) = _
      rw [at1 p hp x hx, mk_mod (G.lt (by omega) hp hx)]
    have st := step_ok (n := k ^ i) (k := k) (d := d) (g := img k P (i + 1)) (L := L) (x4 := some z) (x5 := x5) hk hp (by omega) B
    rw [e1, e2] at st
    obtain ⟨y2, y4, y5, e⟩ := loop_ok hk hd G i l (L ++ [levP k P i]) (some z) (some (.list ((List.range (k ^ i)).map (rowN k (img k P (i + 1)))))) (by simpa using h) (by omega) (by rw [List.length_append]; simp; omega)
    refine ⟨y2, y4, y5, ?_⟩
    rw [Nat.pow_succ]
    refine forX_cons rfl st (e.trans ?_)
    rw [List.range_succ, List.map_append, List.reverse_append, List.append_assoc]
    rfl
theorem forX_consE {b : BX} {s : SX} {d : PyData} {ds : List PyData} {Γ Γ1 Γ2 : Ga} {e : Er} (h1 : b d Γ = some Γ1) (h2 : s Γ1 = some (.ex e Γ2)) : forX b s (d :: ds) Γ = some (.ex e Γ2) := by
  rw [forX, h1]
  simp only [h2]
theorem loop_no {k d : Nat} (hk : 2 ≤ k ∧ k ≤ 4) : ∀ (i : Nat) (g : Nat → Nat) (l L : List PyData) (x4 x5 : Option PyData), l.length = i → L.length + i ≤ 6 → Ij (k ^ i) g → (∀ a, a < k ^ i → g a < k ^ i) → ¬ Keeps k i g → ∃ Γ', forX (bNm 4) fBody l [some (.int k), some (.int d), some (ntD (k ^ i) g), some (.list L), x4, x5, none, none, none] = some (.ex (.own "NoAnswer") Γ')
  | 0, g, _, _, _, _, _, _, _, _, K => absurd keeps_zero K
  | i + 1, _, [], _, _, _, h, _, _, _, _ => nomatch h
  | i + 1, g, z :: l, L, x4, x5, h, hL, J, hg, K => by
    have hk' : 1 ≤ k ∧ k ≤ 4 := ⟨by omega, hk.2⟩
    have hk0 : 0 < k := by omega
    have e0 : k ^ (i + 1) = k ^ i * k := Nat.pow_succ ..
    have hp : k ^ i * k ≤ 4096 := by
      rw [← Nat.pow_succ]
      exact pow_small (n := 6) hk.2 (by omega) (by omega)
    by_cases B : Bk (k ^ i) k g
    · have st := step_ok (n := k ^ i) (k := k) (d := d) (g := g) (L := L) (x4 := some z) (x5 := x5) hk' hp (by omega) B
      obtain ⟨Γ', e⟩ := loop_no (d := d) hk i (up k g) l (L ++ [.tuple ((List.range (k ^ i)).map fun p => rowP k fun x => g (p * k + x) % k)]) (some z) (some (.list ((List.range (k ^ i)).map (rowN k g)))) (by simpa using h) (by rw [List.length_append]; simp; omega) (up_inj hk B (by rw [← e0]; exact J)) (fun p hp => dv hk0 (hg _ (by rw [e0]; exact in_row (x := 0) hp hk0))) fun K' => K (keeps_up hk B J hg K')
      refine ⟨Γ', ?_⟩
      rw [e0]
      exact forX_cons rfl st e
    · obtain ⟨Γ', e⟩ := step_no (n := k ^ i) (k := k) (d := d) (g := g) (L := L) (x4 := some z) (x5 := x5) hk' hp (by omega) B
      refine ⟨Γ', ?_⟩
      rw [e0]
      exact forX_consE rfl e
theorem D6.dok {k d : Nat} (h : D6 k d) : dOk k d = true := dOk_small k (by have := h.2; omega) d (by have := h.1; have := h.2; omega)
theorem depth_ok {k d : Nat} (h : D6 k d) : F_check_depth [.int k, .int d] = some (.ok .none) := by
  refine rv_defN (G := [some (.int k), some (.int d)]) rfl rfl (Γ' := [some (.int k), some (.int d)]) ?_
  unfold p_check_depth
  refine rv_seq_drop (rv_callX (rv_cons (rv_fV rfl) rv_nil) (check_count_eq ⟨h.1, h.2.1⟩)) ?_
  have e := is_depth_eq (k := k) (d := d) (by have := h.2; omega)
  have hb : (decide (d < 7) && decide (geo k d ≤ 400)) = true := h.dok
  rw [hb] at e
  exact rv_ifF (rv_not (rv_toT (rv_callX (rv_cons (rv_fV rfl) (rv_cons (rv_fV rfl) rv_nil)) e))) rv_nx
theorem depth_no {k d : Int} (h : ∃ q : Nat, k = q ∧ 2 ≤ q ∧ q ≤ 4) (e : F_is_depth [.int k, .int d] = some (.ok (.bool false))) : F_check_depth [.int k, .int d] = some (.error (.own "BadNumber")) := by
  obtain ⟨q, rfl, h1, h2⟩ := h
  refine rv_defE (G := [some (.int q), some (.int d)]) rfl rfl (Γ' := [some (.int q), some (.int d)]) ?_
  unfold p_check_depth
  refine rv_seq_drop (rv_callX (rv_cons (rv_fV rfl) rv_nil) (check_count_eq ⟨h1, h2⟩)) ?_
  exact rv_ifT (rv_not (rv_toT (rv_callX (rv_cons (rv_fV rfl) (rv_cons (rv_fV rfl) rv_nil)) e))) (rv_ra rv_fC)
theorem depth_bad {k d : Int} (hk : ¬ (2 ≤ k ∧ k < 5)) : F_check_depth [.int k, .int d] = some (.error (.own "BadNumber")) := by
  refine rv_defE (G := [some (.int k), some (.int d)]) rfl rfl (Γ' := [some (.int k), some (.int d)]) ?_
  unfold p_check_depth
  exact rv_seq_dropE (rv_callX (rv_cons (rv_fV rfl) rv_nil) (check_count_bad hk))
theorem from_depth {k d : Int} {a : PyData} {e : Er} (h : F_check_depth [.int k, .int d] = some (.error e)) : F_from_level [.int k, .int d, a] = some (.error e) := by
  refine rv_defE (G := [some (.int k), some (.int d), some a, none, none, none, none, none, none]) rfl rfl (Γ' := [some (.int k), some (.int d), some a, none, none, none, none, none, none]) ?_
  unfold p_from_level
  exact rv_seq_dropE (rv_callX (rv_cons (rv_fV rfl) (rv_cons (rv_fV rfl) rv_nil)) h)
theorem whole_test {k d : Nat} {ns : List Int} (h : D6 k d) (hN : k ^ d ≤ 4096) : toT (b2 (b1 (fV 2) gSortP) (b1 (callX (aCons (fV 0) (aCons (fV 1) aNil)) F_string_count) gRg1L) gNe) [some (.int k), some (.int d), some (.tuple (ns.map .int)), none, none, none, none, none, none] = some (.ok (!decide (isort ns = rg (k ^ d)))) :=
  rv_toT (rv_b2 (rv_b1 (rv_fV rfl) gv_sortT) (rv_b1 (rv_callX (rv_cons (rv_fV rfl) (rv_cons (rv_fV rfl) rv_nil)) (string_count_eq (by have := h.2; omega) (by have := h.2; omega))) (gv_rg (by unfold rgOk; omega))) (gv_neB (by rw [rgD_rg]; exact eq_lists)))
theorem pow_D6 {k d : Nat} (h : D6 k d) : k ^ d ≤ 4096 := pow_small (n := 6) h.2.1 (by have := h.2; omega) (by omega)
theorem ints_nt (n : Nat) (f : Nat → Nat) : ntD n f = .tuple (((List.range n).map fun a => ((f a : Nat) : Int)).map .int) := by
  unfold ntD
  rw [List.map_map]
  rfl
theorem whole_ok {k d : Nat} {f : Nat → Nat} (h : D6 k d) (hp : ((List.range (k ^ d)).map f).Perm (List.range (k ^ d))) : toT (b2 (b1 (fV 2) gSortP) (b1 (callX (aCons (fV 0) (aCons (fV 1) aNil)) F_string_count) gRg1L) gNe) [some (.int k), some (.int d), some (ntD (k ^ d) f), none, none, none, none, none, none] = some (.ok false) := by
  rw [ints_nt, whole_test h (pow_D6 h), row_sort hp, decide_eq_true rfl]
  rfl
theorem owes : Owes76 where
  lev := fun k d P h G => by
    rw [numT_nt]
    have hk : 2 ≤ k ∧ k ≤ 4 := ⟨h.1, h.2.1⟩
    have hd : d ≤ 6 := by have := h.2; omega
    refine rv_def (G := [some (.int k), some (datP k d P)]) rfl rfl ?_
    unfold p_level_of
    refine rv_seq_drop (rv_callX (rv_cons (rv_fV rfl) (rv_cons (rv_fV rfl) rv_nil)) (check_portrait_ok (is_portrait_good hk (by omega) h.dok G))) (rv_ret (rv_b2 (rv_callX (rv_cons (rv_fV rfl) (rv_cons (rv_fV rfl) rv_nil)) (turns_eq ⟨by omega, h.2.1⟩ hd)) (rv_b1 rv_fC gv_neg) ?_))
    have e1 : ((List.range (d + 1)).map (turnD k P)).length = d + 1 := by rw [List.length_map, List.length_range]
    show atI _ _ = _
    unfold atI ixN
    rw [e1, if_neg (by omega), if_pos (by omega)]
    have e2 : (-1 + ((d + 1 : Nat) : Int)).toNat = d := by omega
    show ((List.range (d + 1)).map (turnD k P))[(-1 + ((d + 1 : Nat) : Int)).toNat]? = _
    rw [e2]
    simp
  lev5 := by
    refine rv_defE (G := [some (.int 5), some (.tuple [])]) rfl rfl (Γ' := [some (.int 5), some (.tuple [])]) ?_
    unfold p_level_of
    exact rv_seq_dropE (rv_callX (rv_cons (rv_fV rfl) (rv_cons (rv_fV rfl) rv_nil)) (check_portrait_bad (by omega)))
  levB := fun k h1 h2 => by
    refine rv_defE (G := [some (.int k), some (.tuple [.tuple []])]) rfl rfl (Γ' := [some (.int k), some (.tuple [.tuple []])]) ?_
    unfold p_level_of
    refine rv_seq_dropE (rv_callX (rv_cons (rv_fV rfl) (rv_cons (rv_fV rfl) rv_nil)) (check_portrait_no ?_))
    have e := is_portrait_levels ⟨h1, h2⟩ (lv := [.tuple []]) (g := fun _ => false) (by simp) fun i l hl => by
      cases i with
      | zero =>
        have : PyData.tuple [] = l := by simpa using hl
        subst this
        have e := is_level_eq (k := k) (n := k ^ 0) (rows := []) (by omega)
        rw [Nat.pow_zero] at e ⊢
        exact e
      | succ i => simp at hl
    rw [e]
    simp
  frm := fun k d P h G => by
    rw [numT_nt]
    have hk : 1 ≤ k ∧ k ≤ 4 := ⟨by have := h.1; omega, h.2.1⟩
    have hd : d ≤ 6 := by have := h.2; omega
    obtain ⟨y2, y4, y5, e⟩ := loop_ok hk hd G d (rgD 0 d) [] none none (by rw [rgD_map]; simp) (Nat.le_refl _) (by simp; omega)
    refine rv_def (G := [some (.int k), some (.int d), some (ntD (k ^ d) (img k P d)), none, none, none, none, none, none]) rfl rfl ?_
    unfold p_from_level
    refine rv_seq_drop (rv_callX (rv_cons (rv_fV rfl) (rv_cons (rv_fV rfl) rv_nil)) (depth_ok h)) (rv_seq_ifF (whole_ok h (img_perm hk.1 G d (Nat.le_refl _))) (rv_seq_nxX (rv_seq_asg (rv_c1 rv_nil gv_L0) rfl (rv_seq_for (rv_iR1 (rv_fV rfl) (by unfold rgB; omega)) e (rv_ret (rv_b1 (rv_b1 (rv_fOl rfl) gv_revL) ?_))))))
    rw [List.nil_append, List.reverse_reverse]
    rfl
  frmN := fun k d f h hp K => by
    rw [numT_nt]
    have hk : 2 ≤ k ∧ k ≤ 4 := ⟨h.1, h.2.1⟩
    have J : Ij (k ^ d) f := fun a b ha hb e => by
      have nd := hp.nodup_iff.mpr List.nodup_range
      have at_ := List.pairwise_iff_getElem.mp nd
      refine Decidable.byContradiction fun ne => ?_
      rcases Nat.lt_or_gt_of_ne ne with l | l
      · exact at_ a b (by simpa using ha) (by simpa using hb) l (by simp [e])
      · exact at_ b a (by simpa using hb) (by simpa using ha) l (by simp [e])
    obtain ⟨Γ', e⟩ := loop_no (d := d) hk d f (rgD 0 d) [] none none (by rw [rgD_map]; simp) (by have := h.2; simp; omega) J (fun a ha => List.mem_range.mp (hp.mem_iff.mp (List.mem_map.mpr ⟨a, List.mem_range.mpr ha, rfl⟩))) K
    refine rv_defE (G := [some (.int k), some (.int d), some (ntD (k ^ d) f), none, none, none, none, none, none]) (Γ' := Γ') rfl rfl ?_
    unfold p_from_level
    refine rv_seq_drop (rv_callX (rv_cons (rv_fV rfl) (rv_cons (rv_fV rfl) rv_nil)) (depth_ok h)) (rv_seq_ifF (whole_ok h hp) (rv_seq_nxX (rv_seq_asg (rv_c1 rv_nil gv_L0) rfl (rv_seqE ?_))))
    unfold forS
    rw [rv_iR1 (k := (d : Int)) (rv_fV rfl) (by have := h.2; unfold rgB; omega)]
    exact e
  frmS := fun k d ns h _ hn => by
    refine rv_defE (G := [some (.int k), some (.int d), some (.tuple (ns.map .int)), none, none, none, none, none, none]) rfl rfl (Γ' := [some (.int k), some (.int d), some (.tuple (ns.map .int)), none, none, none, none, none, none]) ?_
    unfold p_from_level
    refine rv_seq_drop (rv_callX (rv_cons (rv_fV rfl) (rv_cons (rv_fV rfl) rv_nil)) (depth_ok h)) (rv_seq_ifT (rv_is (y := fun _ => none) (whole_test h (pow_D6 h)) ?_) (rv_seq_ra rv_fC))
    rw [decide_eq_false fun e => hn (by rw [← e]; exact (List.mergeSort_perm ns _).symm)]
    rfl
  frmM := fun k h1 h2 => from_depth (depth_no ⟨k, rfl, h1, h2⟩ (by
    refine rv_def (G := [some (.int k), some (.int (-1))]) rfl rfl ?_
    unfold p_is_depth
    exact rv_ret (rv_andX (b := false) (b' := false) (rv_b2 (rv_fV rfl) (rv_b2 rv_fC rv_fC gv_add) gv_inRg) fun z => Bool.noConfusion z)))
  frm7 := fun k h1 h2 => from_depth (depth_no ⟨k, rfl, h1, h2⟩ (is_depth_eq (k := k) (d := 7) (by omega)))
  frm5 := fun k d h => from_depth (depth_bad (by omega))
theorem law_eq (xs : List Int) : F_law [.list (xs.map .int)] = some (.ok (.bool true)) := law_of owes xs
end M
open PySem PySem.W PyProof.Rows
set_option Elab.async false
set_option maxRecDepth 100000 in
set_option maxHeartbeats 0 in
theorem PySem.Challenge.cw_leafturner_k76_levels_and_portraits_holds : PySem.Challenge.rw_leafturner_k76_levels_and_portraits.Holds := by
  w_on; o_law; k_head; (case hw => w_witness2)
  k_fill
  refine Z.walk_zG (n := 63) (k := 8) rfl (by decide) rfl ⟨rfl, by decide, by decide⟩ rfl (fun w h Y => PySem.W.kIn_of Y) ?F
  intro w mean mg mb fa h Y KX G T hmg
  refine' D.mk KX G T hmg ?b_all ?b_enumerate ?b_int ?b_isinstance ?b_len ?b_list ?b_range ?b_repr ?b_sorted ?b_str ?b_sum ?b_tuple ?g_GREATEST_DEPTH ?g_LEAST_DIGITS ?g_MOST_ARRANGEMENTS ?g_MOST_DIGITS ?e0_BadNumber ?e1_BadNumber ?e2_BadNumber ?e3_BadNumber ?e4_BadNumber ?e0_LeafError ?e1_LeafError ?e2_LeafError ?e3_LeafError ?e4_LeafError ?e0_NoAnswer ?e1_NoAnswer ?e2_NoAnswer ?e3_NoAnswer ?e4_NoAnswer ?e0_NotPortrait ?e1_NotPortrait ?e2_NotPortrait ?e3_NotPortrait ?e4_NotPortrait ?m_BadNumber_BadNumber ?m_BadNumber_LeafError ?m_BadNumber_NoAnswer ?m_BadNumber_NotPortrait ?m_NoAnswer_BadNumber ?m_NoAnswer_LeafError ?m_NoAnswer_NoAnswer ?m_NoAnswer_NotPortrait ?m_NotPortrait_BadNumber ?m_NotPortrait_LeafError ?m_NotPortrait_NoAnswer ?m_NotPortrait_NotPortrait ?a29 ?l29 ?c29 ?k29 ?a25 ?l25 ?c25 ?k25 ?a33 ?l33 ?c33 ?k33 ?a31 ?l31 ?c31 ?k31 ?a34 ?l34 ?c34 ?k34 ?a27 ?l27 ?c27 ?k27 ?a26 ?l26 ?c26 ?k26 ?a28 ?l28 ?c28 ?k28 ?a8 ?l8 ?c8 ?k8 ?a10 ?l10 ?c10 ?k10 ?a14 ?l14 ?c14 ?k14 ?a15 ?l15 ?c15 ?k15 ?a18 ?l18 ?c18 ?k18 ?q18 ?v18 ?n18 ?r18 ?a17 ?l17 ?c17 ?k17 ?q17 ?v17 ?n17 ?r17 ?a19 ?l19 ?c19 ?k19 ?a20 ?l20 ?c20 ?k20 ?a21 ?l21 ?c21 ?k21 ?a35 ?l35 ?c35 ?k35 ?a23 ?l23 ?c23 ?k23 ?q23 ?v23 ?n23 ?r23 ?a16 ?l16 ?c16 ?k16 ?a22 ?l22 ?c22 ?k22 ?a32 ?l32 ?c32 ?k32 ?a36 ?l36 ?c36 ?k36 (fun ns hl hb => M.law_eq ns)
  (case b_all => k_is)
  (case b_enumerate => k_is)
  (case b_int => k_is)
  (case b_isinstance => k_is)
  (case b_len => k_is)
  (case b_list => k_is)
  (case b_range => k_is)
  (case b_repr => k_is)
  (case b_sorted => k_is)
  (case b_str => k_is)
  (case b_sum => k_is)
  (case b_tuple => k_is)
  (case g_GREATEST_DEPTH => k_is)
  (case g_LEAST_DIGITS => k_is)
  (case g_MOST_ARRANGEMENTS => k_is)
  (case g_MOST_DIGITS => k_is)
  (case e0_BadNumber => k_is)
  (case e1_BadNumber => first | k_exc | kernel_rfl | decide +kernel)
  (case e2_BadNumber => k_is)
  (case e3_BadNumber => k_is)
  (case e4_BadNumber => k_is)
  (case e0_LeafError => k_is)
  (case e1_LeafError => first | k_exc | kernel_rfl | decide +kernel)
  (case e2_LeafError => k_is)
  (case e3_LeafError => k_is)
  (case e4_LeafError => k_is)
  (case e0_NoAnswer => k_is)
  (case e1_NoAnswer => first | k_exc | kernel_rfl | decide +kernel)
  (case e2_NoAnswer => k_is)
  (case e3_NoAnswer => k_is)
  (case e4_NoAnswer => k_is)
  (case e0_NotPortrait => k_is)
  (case e1_NotPortrait => first | k_exc | kernel_rfl | decide +kernel)
  (case e2_NotPortrait => k_is)
  (case e3_NotPortrait => k_is)
  (case e4_NotPortrait => k_is)
  (case m_BadNumber_BadNumber => first | rfl | kernel_rfl | decide +kernel)
  (case m_BadNumber_LeafError => first | rfl | kernel_rfl | decide +kernel)
  (case m_BadNumber_NoAnswer => first | rfl | kernel_rfl | decide +kernel)
  (case m_BadNumber_NotPortrait => first | rfl | kernel_rfl | decide +kernel)
  (case m_NoAnswer_BadNumber => first | rfl | kernel_rfl | decide +kernel)
  (case m_NoAnswer_LeafError => first | rfl | kernel_rfl | decide +kernel)
  (case m_NoAnswer_NoAnswer => first | rfl | kernel_rfl | decide +kernel)
  (case m_NoAnswer_NotPortrait => first | rfl | kernel_rfl | decide +kernel)
  (case m_NotPortrait_BadNumber => first | rfl | kernel_rfl | decide +kernel)
  (case m_NotPortrait_LeafError => first | rfl | kernel_rfl | decide +kernel)
  (case m_NotPortrait_NoAnswer => first | rfl | kernel_rfl | decide +kernel)
  (case m_NotPortrait_NotPortrait => first | rfl | kernel_rfl | decide +kernel)
  (case a29 => k_is)
  (case l29 => k_is)
  (case c29 => k_is)
  (case k29 => k_is)
  (case a25 => k_is)
  (case l25 => k_is)
  (case c25 => k_is)
  (case k25 => k_is)
  (case a33 => k_is)
  (case l33 => k_is)
  (case c33 => k_is)
  (case k33 => k_is)
  (case a31 => k_is)
  (case l31 => k_is)
  (case c31 => k_is)
  (case k31 => k_is)
  (case a34 => k_is)
  (case l34 => k_is)
  (case c34 => k_is)
  (case k34 => k_is)
  (case a27 => k_is)
  (case l27 => k_is)
  (case c27 => k_is)
  (case k27 => k_is)
  (case a26 => k_is)
  (case l26 => k_is)
  (case c26 => k_is)
  (case k26 => k_is)
  (case a28 => k_is)
  (case l28 => k_is)
  (case c28 => k_is)
  (case k28 => k_is)
  (case a8 => k_is)
  (case l8 => k_is)
  (case c8 => k_is)
  (case k8 => k_is)
  (case a10 => k_is)
  (case l10 => k_is)
  (case c10 => k_is)
  (case k10 => k_is)
  (case a14 => k_is)
  (case l14 => k_is)
  (case c14 => k_is)
  (case k14 => k_is)
  (case a15 => k_is)
  (case l15 => k_is)
  (case c15 => k_is)
  (case k15 => k_is)
  (case a18 => k_is)
  (case l18 => k_is)
  (case c18 => k_is)
  (case k18 => k_is)
  (case q18 => k_is)
  (case v18 => first | rfl | kernel_rfl | decide +kernel)
  (case n18 => first | rfl | kernel_rfl | decide +kernel)
  (case r18 => first | rfl | decide +kernel | kernel_rfl)
  (case a17 => k_is)
  (case l17 => k_is)
  (case c17 => k_is)
  (case k17 => k_is)
  (case q17 => k_is)
  (case v17 => first | rfl | kernel_rfl | decide +kernel)
  (case n17 => first | rfl | kernel_rfl | decide +kernel)
  (case r17 => first | rfl | decide +kernel | kernel_rfl)
  (case a19 => k_is)
  (case l19 => k_is)
  (case c19 => k_is)
  (case k19 => k_is)
  (case a20 => k_is)
  (case l20 => k_is)
  (case c20 => k_is)
  (case k20 => k_is)
  (case a21 => k_is)
  (case l21 => k_is)
  (case c21 => k_is)
  (case k21 => k_is)
  (case a35 => k_is)
  (case l35 => k_is)
  (case c35 => k_is)
  (case k35 => k_is)
  (case a23 => k_is)
  (case l23 => k_is)
  (case c23 => k_is)
  (case k23 => k_is)
  (case q23 => k_is)
  (case v23 => first | rfl | kernel_rfl | decide +kernel)
  (case n23 => first | rfl | kernel_rfl | decide +kernel)
  (case r23 => first | rfl | decide +kernel | kernel_rfl)
  (case a16 => k_is)
  (case l16 => k_is)
  (case c16 => k_is)
  (case k16 => k_is)
  (case a22 => k_is)
  (case l22 => k_is)
  (case c22 => k_is)
  (case k22 => k_is)
  (case a32 => k_is)
  (case l32 => k_is)
  (case c32 => k_is)
  (case k32 => k_is)
  (case a36 => k_is)
  (case l36 => k_is)
  (case c36 => k_is)
  (case k36 => k_is)
