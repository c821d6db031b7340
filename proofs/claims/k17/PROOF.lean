import PyProof.Rows.All
import Wide.All
import OpenK.AllK
import Wide.FinOn
import PyProof.GenQ
import HandS.GenOver
import PyProof.ConsumeS
import HandS.Base
import HandS.Call
import HandS.List
import HandS.Ends
import HandS.Words
import HandS.WordsList
import HandS.Text
import HandS.Comp
import HandS.Iter
import HandS.Wide
import HandS.Exc
import HandS.RaiseOp
import HandS.StrMore
import HandS.TupLe
import HandS.Zip0
import HandS.AnyAll
import HandS.Replace
import PyProof.Rows.RuleB_bool
import PyProof.FString5
import HandS.IsInst
import HandS.Dict
import KE.KDictPairs
import KE.KIndexOf
import PyProof.ReprRoads
import PyProof.FitsInt
import PyProof.ReprLen
import PyProof.StrLawsRepr
import HandS.Zip
import HandS.Rev
import HandS.TupAny
import HandS.EndTab
import KE.KNest
import PySem.Challenge.RW_indoubt_k17_rows_that_can_be_stored
set_option Elab.async false
set_option linter.all false
set_option maxRecDepth 100000
namespace IndG
open PySem PySem.Spec GenW
/-! ### all(..), any(..) of a generator expression whose element is any walk that keeps a stage -/
abbrev MM (prog : Program) (w : World) : Model := model prog w
/-- the stages of a generator: j items are out; the element j is the truth tr j; nothing is raised -/
structure Stage (prog : Program) (w : World) (Ag : Around) (cenv : Env) (target elt : Expr) (I : Addr) (n : Nat) (tr : Nat → Bool) (V : Nat → Shared → Prop) (F : Shared → Prop) : Prop where
  still : ∀ j s g t, V j s → (∀ y ∈ g, y.bare = true) → V j { s with gens := g, toks := t }
  bare : ∀ j s, V j s → ∀ y ∈ s.gens, y.bare = true
  item : ∀ j s E, j < n → V j s → wpAny (MM prog w) Ag (pyNext (.ref I)) (fun r s1 => ∃ v, r = some v ∧
    wpAny (MM prog w) Ag (letOwnedTupleGo target (.ref I) v) (fun _ s2 => wpAny (MM prog w) Ag (assign target cenv v) (fun _ s3 =>
      wpAny (MM prog w) Ag (eval elt cenv) (fun y s4 => y = .bool (tr j) ∧ V (j + 1) s4) E s3) E s2) E s1) E s
  done : ∀ s E, V n s → wpAny (MM prog w) Ag (pyNext (.ref I)) (fun r s1 => r = none ∧ F s1) E s
/-- what goes out and comes back -/
def prot (n : Nat) (tr : Nat → Bool) (V : Nat → Shared → Prop) : Protocol := fun m s₀ v s kap =>
  m < n ∧ v = .bool (tr (n - 1 - m)) ∧ V (n - m) s ∧ s₀.gens.size ≤ s.gens.size ∧ ∀ z, V (n - m) z → kap (.send .none) z
def fin (F : Shared → Prop) : GenEnd := fun m s₀ r s => r = .ok .next ∧ (m = 0 ∧ s₀.gens.size ≤ s.gens.size ∧ F s)
section
variable {prog : Program} {w : World} {A : Around} {target elt iter : Expr} {scope : Scope} {pos : Pos} {I : Addr} {cenv : Env} {n : Nat} {tr : Nat → Bool} {V : Nat → Shared → Prop} {F : Shared → Prop}
abbrev gx (elt target iter : Expr) (scope : Scope) (pos : Pos) : Expr := .GeneratorExp elt [⟨target, iter, [], 0⟩] scope pos
theorem turns (S : Stage prog w (A.over (.compLoop (gx elt target iter scope pos) 0 (.ref I) .none cenv) []) cenv target elt I n tr V F) (hco : cenv.scope.isCoroutine = false) :
    ∀ (k j : Nat) (s₀ s : Shared), n - j = k → j ≤ n → V j s → s₀.gens.size ≤ s.gens.size →
      Seg (MM prog w) A (fin F) (prot n tr V) k s₀ (.compLoop (gx elt target iter scope pos) 0 (.ref I) .none cenv) ((MM prog w).den (.compLoop (gx elt target iter scope pos) 0 (.ref I) .none cenv)) [] s := by
  intro k
  induction k with
  | zero =>
    intro j s₀ s hk hj hV hg
    have e : j = n := by omega
    subst e
    show Seg _ A _ _ _ s₀ _ ((compTurn (gx elt target iter scope pos) 0 (.ref I) .none cenv).onRaise (leaving cenv)) [] s
    rw [compTurn_gen]
    rw [Sem.onRaise_eq_wrap]
    refine seg_bind_wrap (wpAny_standAt ?_)
    refine seg_bind_wrap (wpAny_gsz hg (wpAny_mono (S.done s _ hV) (fun r s1 h1 h2 => ?_) fun _ _ x _ => x))
    obtain ⟨rfl, hF⟩ := h1
    exact seg_end (.ok .next) ⟨rfl, rfl, h2, hF⟩
  | succ k ih =>
    intro j s₀ s hk hj hV hg
    have hlt : j < n := by omega
    show Seg _ A _ _ _ s₀ _ ((compTurn (gx elt target iter scope pos) 0 (.ref I) .none cenv).onRaise (leaving cenv)) [] s
    rw [compTurn_gen]
    rw [Sem.onRaise_eq_wrap]
    refine seg_bind_wrap (wpAny_standAt ?_)
    refine seg_bind_wrap (wpAny_gsz hg (wpAny_mono (S.item j s _ hlt hV) (fun r s1 h1 g1 => ?_) fun _ _ x _ => x))
    obtain ⟨v, rfl, h1⟩ := h1
    refine seg_bind_wrap (wpAny_gsz g1 (wpAny_mono h1 (fun _ s2 h2 g2 => ?_) fun _ _ x _ => x))
    refine seg_bind_wrap (wpAny_gsz g2 (wpAny_mono h2 (fun _ s3 h3 g3 => ?_) fun _ _ x _ => x))
    simp only [List.forIn_nil]
    refine seg_bind_wrap (wpAny_pure ?_)
    simp only [if_true]
    have out : ∀ v, yieldOut cenv v = yieldValue v := by
      intro v
      simp only [yieldOut, hco, Bool.false_eq_true, if_false]
    simp only [out]
    iterate 2 rw [Sem.bind_eq_wrap']
    iterate 2 rw [Sem.wrap_wrap]
    refine seg_wrap (wpAny_gsz g3 (wpAny_mono h3 (fun y s4 h4 g4 => ?_) fun _ _ x _ => x))
    obtain ⟨rfl, hV4⟩ := h4
    have ek : n - k = j + 1 := by omega
    have et : n - 1 - k = j := by omega
    refine seg_at (seg_yield rfl rfl rfl ⟨by omega, by rw [et], by rw [ek]; exact hV4, g4, fun z hz => ?_⟩)
    rw [ek] at hz
    exact seg_again rfl (ih (j + 1) z z (by omega) hlt hz (Nat.le_refl _))
/-- the first waking -/
theorem wakes (S : Stage prog w (A.over (.compLoop (gx elt target iter scope pos) 0 (.ref I) .none cenv) []) cenv target elt I n tr V F) (hco : cenv.scope.isCoroutine = false)
    (same : A.over (.compStart (gx elt target iter scope pos) 0 (.ref I) .none cenv) [] = A.over (.compLoop (gx elt target iter scope pos) 0 (.ref I) .none cenv) [])
    (self : ∀ s Q E, V 0 s → Q (.ref I) s → wpAny (MM prog w) (A.over (.compStart (gx elt target iter scope pos) 0 (.ref I) .none cenv) []) (pyIter (.ref I)) Q E s) :
    ∀ (s₀ s : Shared), V 0 s → s₀.gens.size ≤ s.gens.size →
      Seg (MM prog w) A (fin F) (prot n tr V) n s₀ (.compStart (gx elt target iter scope pos) 0 (.ref I) .none cenv) ((MM prog w).den (.compStart (gx elt target iter scope pos) 0 (.ref I) .none cenv)) [] s := by
  intro s₀ s hV hg
  have go := turns (iter := iter) (scope := scope) (pos := pos) S hco n 0 s₀ s (by omega) (Nat.zero_le _) hV hg
  show Seg _ A _ _ _ s₀ _ ((compStart (gx elt target iter scope pos) 0 (.ref I) .none cenv).onRaise (leaving cenv)) [] s
  unfold compStart
  rw [Sem.onRaise_eq_wrap]
  show Seg _ A _ _ _ s₀ _ (((ask) >>= _).wrap _ _ _ _) [] s
  refine seg_bind_wrap (wpAny_askSetting ?_)
  split
  · exact seg_again rfl go
  · refine seg_bind_wrap (wpAny_rule ?_)
    show Seg _ A _ _ _ s₀ _ (((standAt iter.pos) >>= _).wrap _ _ _ _) [] s
    refine seg_bind_wrap (wpAny_standAt ?_)
    refine seg_bind_wrap (self s _ _ hV ?_)
    exact seg_again rfl go
end
end IndG

set_option Elab.async false
set_option linter.all false
set_option maxRecDepth 100000
namespace IndG
open PySem PySem.Spec GenW
/-- what holds of the generator's object through all stages -/
structure Held (a : Addr) (g : Nat) (V : Nat → Shared → Prop) (F : Shared → Prop) : Prop where
  gen : ∀ j s, V j s → s.heap.IsGen a g ∧ s.heap.NoLimit
  fbare : ∀ s, F s → ∀ y ∈ s.gens, y.bare = true
/-- a generator with j items out, asleep -/
def Asleep (prog : Program) (w : World) (A : Around) (g n : Nat) (tr : Nat → Bool) (V : Nat → Shared → Prop) (F : Shared → Prop) (j : Nat) (s : Shared) : Prop :=
  V j s ∧ ∃ gs, s.gens[g]? = some gs ∧ ∀ z, V j z → gs.Goes (MM prog w) A.in1 (fin F) (prot n tr V) (n - j) (.send .none) z
/-- how it may be left -/
def Left (V : Nat → Shared → Prop) (F : Shared → Prop) (s : Shared) : Prop :=
  (∃ j, V j s) ∨ ∃ s1 g' h', F s1 ∧ s = { s1 with gens := g', heap := h' } ∧ (∀ y ∈ g', y.bare = true) ∧ ∀ b o, s1.heap.get? b = some o → h'.get? b = some o
section
variable {prog : Program} {w : World} {A : Around} {a : Addr} {g n : Nat} {tr : Nat → Bool} {V : Nat → Shared → Prop} {F : Shared → Prop}
theorem setGen_bare {s : Shared} {x : GenState} (h : ∀ y ∈ s.gens, y.bare = true) (hx : x.bare = true) : ∀ y ∈ (s.setGen g x).gens, y.bare = true := by
  intro y hy
  have hy : y ∈ s.gens.setIfInBounds g x := hy
  obtain ⟨i, hi, e⟩ := Array.mem_iff_getElem.mp hy
  have hi2 : i < s.gens.size := by simpa using hi
  rw [Array.getElem_setIfInBounds hi2] at e
  split at e
  · rw [← e]; exact hx
  · rw [← e]
    exact h _ (Array.getElem_mem hi2)
theorem setGen_at {s : Shared} {x : GenState} (h : g < s.gens.size) : (s.setGen g x).gens[g]? = some x := by
  simp [Shared.setGen, h]
theorem step (still : ∀ j s g' t, V j s → (∀ y ∈ g', y.bare = true) → V j { s with gens := g', toks := t }) (bare : ∀ j s, V j s → ∀ y ∈ s.gens, y.bare = true) (K : Held a g V F)
    (hh : A.handled = none) (room : A.depth < recursionLimit) {j : Nat} {s : Shared} (h : Asleep prog w A g n tr V F j s) (hlt : j < n) {Q : Option Value → Shared → Prop} {E : Value → Shared → Prop}
    (hQ : ∀ z, Asleep prog w A g n tr V F (j + 1) z → Q (some (.bool (tr j))) z) : wpAny (MM prog w) A (pyNext (.ref a)) Q E s := by
  obtain ⟨hV, gs, hgs, go⟩ := h
  obtain ⟨hg, hl⟩ := K.gen _ _ hV
  have hsz : g < s.gens.size := (Array.getElem?_eq_some_iff.mp hgs).1
  have hV2 : V j (s.setGen g .running) := still j s _ s.toks hV (setGen_bare (g := g) (bare _ _ hV) rfl)
  refine wpAny_pyNext_genexpQ (n := n - j) (P := fun m s₀ s₁ => m = 0 ∧ s₀.gens.size ≤ s₁.gens.size ∧ F s₁) hh hl room hg hgs (go _ hV2) (fun v s1 gs' hb hy => ?_) (fun s1 hp h' hk => ?_)
  · obtain ⟨m, em⟩ : ∃ m, n - j = m + 1 := ⟨n - j - 1, by omega⟩
    rw [em] at hy
    obtain ⟨y1, y2, y3, y4, y5⟩ := hy
    have e1 : n - 1 - (m + 1 - 1) = j := by omega
    have e2 : n - (m + 1 - 1) = j + 1 := by omega
    rw [e1] at y2
    rw [e2] at y3 y5
    subst y2
    have hsz1 : g < s1.gens.size := by
      have : (s.setGen g .running).gens.size = s.gens.size := by simp [Shared.setGen]
      omega
    refine hQ _ ⟨still _ s1 _ s1.toks y3 (setGen_bare (g := g) (bare _ _ y3) hb), gs', setGen_at hsz1, fun z hz => ?_⟩
    rw [show n - (j + 1) = m by omega]
    exact y5 z hz
  · have := hp.1
    omega
theorem stop (still : ∀ j s g' t, V j s → (∀ y ∈ g', y.bare = true) → V j { s with gens := g', toks := t }) (bare : ∀ j s, V j s → ∀ y ∈ s.gens, y.bare = true) (K : Held a g V F)
    (hh : A.handled = none) (room : A.depth < recursionLimit) {s : Shared} (h : Asleep prog w A g n tr V F n s) {Q : Option Value → Shared → Prop} {E : Value → Shared → Prop}
    (hQ : ∀ z, Left V F z → Q none z) : wpAny (MM prog w) A (pyNext (.ref a)) Q E s := by
  obtain ⟨hV, gs, hgs, go⟩ := h
  obtain ⟨hg, hl⟩ := K.gen _ _ hV
  have hV2 : V n (s.setGen g .running) := still n s _ s.toks hV (setGen_bare (g := g) (bare _ _ hV) rfl)
  refine wpAny_pyNext_genexpQ (n := n - n) (P := fun m s₀ s₁ => m = 0 ∧ s₀.gens.size ≤ s₁.gens.size ∧ F s₁) hh hl room hg hgs (go _ hV2) (fun v s1 gs' hb hy => ?_) (fun s1 hp h' hk => ?_)
  · rw [Nat.sub_self] at hy
    obtain ⟨_, _, y3, _, y5⟩ := hy
    exact (y5 _ y3).elim
  · refine hQ _ (.inr ⟨s1, (s1.setGen g .finished).gens, h', hp.2.2, rfl, setGen_bare (g := g) (K.fbare _ hp.2.2) rfl, hk⟩)
theorem all_turns (still : ∀ j s g' t, V j s → (∀ y ∈ g', y.bare = true) → V j { s with gens := g', toks := t }) (bare : ∀ j s, V j s → ∀ y ∈ s.gens, y.bare = true) (K : Held a g V F)
    (hh : A.handled = none) (room : A.depth < recursionLimit) {R : Result → Shared → Prop} : ∀ (k j : Nat) (s : Shared), n - j = k → j ≤ n → Asleep prog w A.in1 g n tr V F j s →
      (∀ z, Left V F z → R (.ok (.ret (.bool (((List.range n).drop j).all tr)))) z) → codeAny (MM prog w) A (.builtin "all.loop" ⟨[.ref a], []⟩) R s := by
  intro k
  induction k with
  | zero =>
    intro j s hk hj h hR
    have e : j = n := by omega
    subst e
    refine codeAny_builtin PySem.F.entry_all_loop ?_
    rw [Around.under_plainId PySem.F.plain_all_loop _]
    show wpAny _ A.in1 ((pyNext (.ref a)) >>= _) _ _ s
    refine wpAny_bind (stop (A := A.in1) still bare K hh room h fun z hz => ?_)
    refine wpAny_bind (wpAny_rule (wpAny_pure ?_))
    have q := hR z hz
    rw [List.drop_of_length_le (by simp)] at q
    exact q
  | succ k ih =>
    intro j s hk hj h hR
    have hlt : j < n := by omega
    have hd : (List.range n).drop j = j :: (List.range n).drop (j + 1) := by
      rw [List.drop_eq_getElem_cons (by simpa using hlt)]
      simp
    rw [hd] at hR
    refine codeAny_builtin PySem.F.entry_all_loop ?_
    rw [Around.under_plainId PySem.F.plain_all_loop _]
    show wpAny _ A.in1 ((pyNext (.ref a)) >>= _) _ _ s
    refine wpAny_bind (step (A := A.in1) still bare K hh room h hlt fun z hz => ?_)
    refine wpAny_bind (wpAny_holding (wpAny_truthy_bool ?_))
    refine wpAny_bind (wpAny_letGo ?_)
    cases hb : tr j with
    | true =>
      simp only [if_true]
      refine wpAny_pure ⟨plainId_quiet PySem.F.plain_all_loop _, ih (j + 1) z (by omega) hlt hz fun y hy => ?_⟩
      have q := hR y hy
      rw [List.all_cons, hb] at q
      exact q
    | false =>
      simp only [Bool.false_eq_true, if_false]
      refine wpAny_bind (wpAny_rule (wpAny_pure ?_))
      have q := hR z (.inl ⟨_, hz.1⟩)
      rw [List.all_cons, hb] at q
      exact q
theorem any_turns (still : ∀ j s g' t, V j s → (∀ y ∈ g', y.bare = true) → V j { s with gens := g', toks := t }) (bare : ∀ j s, V j s → ∀ y ∈ s.gens, y.bare = true) (K : Held a g V F)
    (hh : A.handled = none) (room : A.depth < recursionLimit) {R : Result → Shared → Prop} : ∀ (k j : Nat) (s : Shared), n - j = k → j ≤ n → Asleep prog w A.in1 g n tr V F j s →
      (∀ z, Left V F z → R (.ok (.ret (.bool (((List.range n).drop j).any tr)))) z) → codeAny (MM prog w) A (.builtin "any.loop" ⟨[.ref a], []⟩) R s := by
  intro k
  induction k with
  | zero =>
    intro j s hk hj h hR
    have e : j = n := by omega
    subst e
    refine codeAny_builtin PySem.F.entry_any_loop ?_
    rw [Around.under_plainId PySem.F.plain_any_loop _]
    show wpAny _ A.in1 ((pyNext (.ref a)) >>= _) _ _ s
    refine wpAny_bind (stop (A := A.in1) still bare K hh room h fun z hz => ?_)
    refine wpAny_bind (wpAny_rule (wpAny_pure ?_))
    have q := hR z hz
    rw [List.drop_of_length_le (by simp)] at q
    exact q
  | succ k ih =>
    intro j s hk hj h hR
    have hlt : j < n := by omega
    have hd : (List.range n).drop j = j :: (List.range n).drop (j + 1) := by
      rw [List.drop_eq_getElem_cons (by simpa using hlt)]
      simp
    rw [hd] at hR
    refine codeAny_builtin PySem.F.entry_any_loop ?_
    rw [Around.under_plainId PySem.F.plain_any_loop _]
    show wpAny _ A.in1 ((pyNext (.ref a)) >>= _) _ _ s
    refine wpAny_bind (step (A := A.in1) still bare K hh room h hlt fun z hz => ?_)
    refine wpAny_bind (wpAny_holding (wpAny_truthy_bool ?_))
    refine wpAny_bind (wpAny_letGo ?_)
    cases hb : tr j with
    | false =>
      simp only [Bool.false_eq_true, if_false]
      refine wpAny_pure ⟨plainId_quiet PySem.F.plain_any_loop _, ih (j + 1) z (by omega) hlt hz fun y hy => ?_⟩
      have q := hR y hy
      rw [List.any_cons, hb] at q
      exact q
    | true =>
      simp only [if_true]
      refine wpAny_bind (wpAny_rule (wpAny_pure ?_))
      have q := hR z (.inl ⟨_, hz.1⟩)
      rw [List.any_cons, hb] at q
      exact q
/-- all(g), g asleep with nothing out -/
theorem call_all (still : ∀ j s g' t, V j s → (∀ y ∈ g', y.bare = true) → V j { s with gens := g', toks := t }) (bare : ∀ j s, V j s → ∀ y ∈ s.gens, y.bare = true) (K : Held a g V F)
    (hh : A.handled = none) (room : A.depth < recursionLimit) {s : Shared} {Q : Value → Shared → Prop} {E : Value → Shared → Prop} (h : Asleep prog w A.in1 g n tr V F 0 s)
    (hQ : ∀ z, Left V F z → Q (.bool ((List.range n).all tr)) z) : wpAny (MM prog w) A (call (.builtin "all") [.ref a]) Q E s := by
  refine call_function_tree PySem.F.kind_all PySem.F.plain_all PySem.F.entry_all (PySem.F.args_all1 _) ?_
  unfold Builtin.«all»
  refine wpAny_bind (m := oneArg "all" _) (wpAny_pure ?_)
  refine wpAny_bind (wpAny_pyIter_gen (K.gen _ _ h.1).1 ?_)
  refine wpAny_pure ⟨plainId_quiet PySem.F.plain_all_loop _, ?_⟩
  refine all_turns (A := A) still bare K hh room n 0 s rfl (Nat.zero_le _) h fun z hz => ?_
  simpa using hQ z hz
theorem call_any (still : ∀ j s g' t, V j s → (∀ y ∈ g', y.bare = true) → V j { s with gens := g', toks := t }) (bare : ∀ j s, V j s → ∀ y ∈ s.gens, y.bare = true) (K : Held a g V F)
    (hh : A.handled = none) (room : A.depth < recursionLimit) {s : Shared} {Q : Value → Shared → Prop} {E : Value → Shared → Prop} (h : Asleep prog w A.in1 g n tr V F 0 s)
    (hQ : ∀ z, Left V F z → Q (.bool ((List.range n).any tr)) z) : wpAny (MM prog w) A (call (.builtin "any") [.ref a]) Q E s := by
  refine call_function_tree PySem.F.kind_any PySem.F.plain_any PySem.F.entry_any (PySem.F.args_any1 _) ?_
  unfold Builtin.«any»
  refine wpAny_bind (m := oneArg "any" _) (wpAny_pure ?_)
  refine wpAny_bind (wpAny_pyIter_gen (K.gen _ _ h.1).1 ?_)
  refine wpAny_pure ⟨plainId_quiet PySem.F.plain_any_loop _, ?_⟩
  refine any_turns (A := A) still bare K hh room n 0 s rfl (Nat.zero_le _) h fun z hz => ?_
  simpa using hQ z hz
end
end IndG

set_option Elab.async false
set_option linter.all false
set_option maxRecDepth 100000
set_option maxHeartbeats 4000000
namespace Ind
open PySem PySem.Spec PyProof.Rows L2
/-! ### heaps: all but the tape stands -/
def Fz (t : Addr) (H H' : Hp) : Prop := ∀ b o, b ≠ t → H b = some o → H' b = some o
theorem Fz.refl {t : Addr} {H : Hp} : Fz t H H := fun _ _ _ h => h
theorem Fz.trans {t : Addr} {H H1 H2 : Hp} (a : Fz t H H1) (b : Fz t H1 H2) : Fz t H H2 := fun c o n h => b c o n (a c o n h)
theorem Fz.of {t : Addr} {H H' : Hp} (a : Same H H') : Fz t H H' := fun b o _ h => a b o h
theorem Fz.upd {t : Addr} {H H' : Hp} {o : HO} (a : Fz t H H') : Fz t H (upd H' t o) := fun b u n h => by rw [upd_ne n]; exact a b u n h
theorem Fz.new {t p : Addr} {H H' : Hp} {o : HO} (a : Fz t H H') (n : H' p = none) : Fz t H (L2.upd H' p o) := fun b u nb h => by
  have e := a b u nb h
  rw [upd_ne (ne_of_none e n)]; exact e
theorem same_upd {H : Hp} {p : Addr} {o : HO} (h : H p = none) : Same H (upd H p o) := fun b x e => by
  rw [upd_ne (ne_of_none e h)]; exact e
theorem Same.new {p : Addr} {H H' : Hp} {o : HO} (a : Same H H') (n : H' p = none) : Same H (L2.upd H' p o) := a.trans (same_upd n)
theorem line {n : Nat} (h : n ≤ 1000) : n ≤ sizeLine := Nat.le_trans h (by decide)
/-- what holds between two turns (kept shut) -/
inductive Iv (p : Prop) : Prop
  | a (h : p) : Iv p
  | b (h : False) : Iv p
theorem Iv.out {p : Prop} (h : Iv p) : p := by cases h with | a h => exact h | b h => exact h.elim
/-! ### the tape: its list, and the list of the script in it -/
structure Tp where
  a : Addr
  l : Addr
def TapeAt (H : Hp) (t : Tp) : Prop := ∃ (ns : List Int) (p n s : Int),
  H t.a = some (.lst [.ref t.l, .int p, .int n, .int s]) ∧ H t.l = some (.lst (ns.map V.int)) ∧ ns.length ≤ 1000 ∧ 0 ≤ p ∧ 0 ≤ n ∧ 0 ≤ s ∧ s < 2147483647
theorem Tape.ne {H : Hp} {t l : Addr} {ns : List Int} {p n s : Int} (h : H t = some (.lst [.ref l, .int p, .int n, .int s])) (h' : H l = some (.lst (ns.map V.int))) : l ≠ t := fun e => by
  rw [e, h] at h'
  injection h' with h'
  injection h' with h'
  cases ns with
  | nil => cases h'
  | cons a r => injection h' with a1 a2; cases a1
theorem TapeAt.same {H H' : Hp} {t : Tp} (h : TapeAt H t) (e : Same H H') : TapeAt H' t := by
  obtain ⟨ns, p, n, s, h1, h2, h3⟩ := h
  exact ⟨ns, p, n, s, e _ _ h1, e _ _ h2, h3⟩
theorem TapeAt.new {H : Hp} {t : Tp} {p : Addr} {o : HO} (h : TapeAt H t) (n : H p = none) : TapeAt (upd H p o) t := h.same (same_upd n)
theorem TapeAt.there {H : Hp} {t : Tp} (h : TapeAt H t) : (∃ o, H t.a = some o) ∧ ∃ o, H t.l = some o := by
  obtain ⟨ns, p, n, s, h1, h2, _⟩ := h
  exact ⟨⟨_, h1⟩, ⟨_, h2⟩⟩
/-- an address that was free beside the tape -/
structure Off (t : Tp) (b : Addr) : Prop where
  a : b ≠ t.a
  l : b ≠ t.l
theorem TapeAt.off {H : Hp} {t : Tp} {b : Addr} (h : TapeAt H t) (e : H b = none) : Off t b := by
  obtain ⟨⟨o, q⟩, ⟨u, r⟩⟩ := h.there
  refine ⟨?_, ?_⟩
  · intro z; rw [z, q] at e; cases e
  · intro z; rw [z, r] at e; cases e
theorem TapeAt.upd {H : Hp} {t : Tp} {b : Addr} {o : HO} (h : TapeAt H t) (e : Off t b) : TapeAt (L2.upd H b o) t := by
  obtain ⟨ns, p, n, s, h1, h2, h3⟩ := h
  exact ⟨ns, p, n, s, by rw [upd_ne e.a.symm]; exact h1, by rw [upd_ne e.l.symm]; exact h2, h3⟩
theorem Fz.upd' {t p : Addr} {H H' : Hp} {o : HO} (a : Fz t H H') (n : H p = none) : Fz t H (L2.upd H' p o) := fun b u nb h => by
  rw [upd_ne (ne_of_none h n)]; exact a b u nb h
theorem rd {K : PySem.W.Frag} {H : Hp} {p : Addr} {xs : List V} {Q : VK} (h : H p = some (.lst xs)) (j : Nat) {v : V} (e : xs[j]? = some v) (q : Q v H) : rIxL K (.ref p) (.int (j : Int)) H Q := ⟨_, _, _, _, rfl, rfl, .of h, atI_nat e, q⟩
theorem rdT {K : PySem.W.Frag} {H : Hp} {p : Addr} {xs : List V} {Q : VK} (h : H p = some (.tup xs)) (j : Nat) {v : V} (e : xs[j]? = some v) (q : Q v H) : rIxT K (.ref p) (.int (j : Int)) H Q := ⟨_, _, _, _, rfl, rfl, .of h, atI_nat e, q⟩
theorem rdI {K : PySem.W.Frag} {H : Hp} {p : Addr} {xs : List V} {Q : VK} (h : H p = some (.lst xs)) {i : Int} (j : Nat) (ej : i = (j : Int)) {v : V} (e : xs[j]? = some v) (q : Q v H) : rIxL K (.ref p) (.int i) H Q := ⟨_, _, _, _, rfl, rfl, .of h, at_of ej e, q⟩
theorem wr {H : Hp} {p : Addr} {xs : List V} {Q : Hp → Prop} {v : V} (h : H p = some (.lst xs)) (j : Nat) (e : ixN xs.length (j : Int) = some j) (q : Q (upd H p (.lst (xs.set j v)))) : rSetL (.ref p) (.int (j : Int)) v H Q := ⟨_, _, _, _, rfl, rfl, h, e, q⟩
/-! ### promises -/
/-- what a draw may be asked for: a bound that can be divided by -/
def Dm (m : Int) : Prop := ∀ x : Int, CDivW x (if (2 : Int) > m then 2 else m)
theorem dm {m : Int} (h : m < 1606938044258990275541962092341162602522202993782792835301376) : Dm m := fun x => by
  refine wide_div (b := 200) ?_ ?_ (by decide) (by decide)
  · split <;> omega
  · have e : (2 : Nat) ^ 200 = 1606938044258990275541962092341162602522202993782792835301376 := by decide +kernel
    rw [e]
    split <;> omega
def spTape (K : PySem.W.Frag) : Sp := fun vs H Q _ => ∃ (a : Addr) (ns : List Int), vs = [.ref a] ∧ SqL K H a (ns.map V.int) ∧ ns.length ≤ 63 ∧
  ∀ H' (t : Tp), Same H H' → H t.a = none → H t.l = none → TapeAt H' t → Q (.ref t.a) H'
def spDraw : Sp := fun vs H Q _ => ∃ (t : Tp) (m : Int), vs = [.ref t.a, .int m] ∧ TapeAt H t ∧ Dm m ∧
  ∀ H' r, Fz t.a H H' → TapeAt H' t → 0 ≤ r → (r < m ∨ r < 1) → Q (.int r) H'
end Ind

set_option Elab.async false
set_option linter.all false
set_option maxRecDepth 100000
set_option maxHeartbeats 4000000
namespace IndG
open PySem PySem.Spec PyProof.Rows L2 GenW
theorem over_gen {A : Around} {elt target iter : Expr} {scope : Scope} {pos : Pos} {it v : Value} {env : Env} : A.over (.compLoop (gx elt target iter scope pos) 0 it v env) [] = A.deeper env := by
  first
    | rfl
    | (obtain ⟨hd, d, fr, gs, u⟩ := A; simp [Around.over, Around.deeper, marksOver, frameCount, unitsOf, envsOf, guardsOf, pushEnvs, pushGuards, Code.envs, Code.env?, Code.isFrame, Code.guards, Code.isGuard, Code.weight, Code.frames, Code.isCreation, Code.isCaller, Code.cUnits])
theorem over_gen0 {A : Around} {elt target iter : Expr} {scope : Scope} {pos : Pos} {it v : Value} {env : Env} : A.over (.compStart (gx elt target iter scope pos) 0 it v env) [] = A.deeper env := by
  first
    | rfl
    | (obtain ⟨hd, d, fr, gs, u⟩ := A; simp [Around.over, Around.deeper, marksOver, frameCount, unitsOf, envsOf, guardsOf, pushEnvs, pushGuards, Code.envs, Code.env?, Code.isFrame, Code.guards, Code.isGuard, Code.weight, Code.frames, Code.isCreation, Code.isCaller, Code.cUnits])
/-- the frame of a generator expression -/
abbrev genC (X : Cx) (env : Env) (s : Shared) (H : Hp) (fp : List Addr) : Cx :=
  { X with A := X.A.in1.in1.deeper env, s_0 := s, H_0 := H, env := env, outer := X.stack, stack := env :: X.stack, ex := fp, fn := fun _ => false, calm := true, pn := [], xe := fun _ _ => False }
theorem room_gen {X : Cx} {env : Env} {k : Nat} (r : Room (k + 1) X.A) : Room k (X.A.in1.in1.deeper env) := by
  refine ⟨r.hd, ?_, ?_⟩
  · have := r.dp
    show X.A.depth + 1 + 3 * k + 5 < _
    omega
  · have := r.un
    show X.A.units + 1 + 1 + 3 + 16 * k + 200 < _
    omega
theorem nodup_inj {α : Type} : ∀ {l : List α} {i j : Nat} {a : α}, l.Nodup → l[i]? = some a → l[j]? = some a → i = j
  | [], i, _, _, _, e, _ => by simp at e
  | x :: l, 0, 0, _, _, _, _ => rfl
  | x :: l, 0, j + 1, a, nd, e1, e2 => by
    simp only [List.getElem?_cons_zero, Option.some.injEq] at e1
    subst e1
    rw [List.getElem?_cons_succ] at e2
    exact absurd (List.mem_of_getElem? e2) (List.nodup_cons.mp nd).1
  | x :: l, i + 1, 0, a, nd, e1, e2 => by
    simp only [List.getElem?_cons_zero, Option.some.injEq] at e2
    subst e2
    rw [List.getElem?_cons_succ] at e1
    exact absurd (List.mem_of_getElem? e1) (List.nodup_cons.mp nd).1
  | x :: l, i + 1, j + 1, a, nd, e1, e2 => by
    rw [List.getElem?_cons_succ] at e1 e2
    rw [nodup_inj (List.nodup_cons.mp nd).2 e1 e2]
section
variable {X : Cx} {pins : List (Addr × Obj)} {σ : L2.St} {H : Hp} {s : Shared}
/-- the cells that a generator expression takes over -/
theorem taken (I : Inv X pins σ H s) {scope : Scope} (free : ∀ y ∈ scope.names, y.2 = .free → ∃ c, X.env.cells.lookup y.1 = some c) {y : Str} {c : Addr} (m : (y, c) ∈ cloFrom X.env.cells scope.names []) :
    (y, NameKind.free) ∈ scope.names ∧ X.env.cells.lookup y = some c ∧ c < s.heap.objs.size := by
  rcases cloFrom_mem m with m | ⟨h1, rfl⟩
  · cases m
  · obtain ⟨c, hc⟩ := free _ h1 rfl
    obtain ⟨v, z⟩ := I.cell _ _ hc
    rw [hc]
    exact ⟨h1, rfl, z.lt⟩
theorem gen_start {scope : Scope} {own : List (Str × Nat)} {fp : List Addr} {env : Env} {code it : Value} {h' : Heap} {go : Obj} {gs : GenState} {tk : Nat} (hc : X.calm = true) (hN : X.N.Nodup)
    (I : Inv X pins σ H s) (ok : BlkOk X.N X.env.scope scope own) (nocell : ∀ y ∈ scope.names, y.2 ≠ .cell) (eEnv : env = genEnv scope (cloFrom X.env.cells scope.names []) s.heap.objs.size code builtinsNs X.env)
    (hfp : ∀ b ∈ fp, FpOk X pins H b ∧ b < s.heap.objs.size) (hn : h'.Ns s.heap.objs.size (fun y => if y = ".0" then some it else none)) (hs : Heap.SameBut s.heap.objs.size (s.heap.push { cls := .type "frame", data := .dict #[] }) h')
    (hg : gs.bare = true) (hgo : ∀ v, go.data ≠ .cell v) (hgf : go.isFreed = false) :
    Inv (genC X env s H fp) [(h'.objs.size, go)] (wipe σ (own.map (·.2))) H { s with gens := s.gens.push gs, toks := tk, heap := h'.push go } := by
  have free : ∀ y ∈ scope.names, y.2 = .free → ∃ c, X.env.cells.lookup y.1 = some c := fun y hy e => (ok.free y hy e).elim (fun k => I.ok.has _ (.inl k)) (fun k => I.ok.has _ (.inr k))
  have eL : env.locals = s.heap.objs.size := by rw [eEnv]; rfl
  have eC : env.cells = cloFrom X.env.cells scope.names [] := by rw [eEnv]; rfl
  have eS : env.scope = scope := by rw [eEnv]; rfl
  have eF : env.frame = some env.locals := by rw [eEnv]; rfl
  have sz : h'.objs.size = s.heap.objs.size + 1 := by rw [hs.1, Heap.size_push]
  have kp : ∀ b o, s.heap.get? b = some o → (h'.push go).get? b = some o := fun b o e =>
    Heap.get?_push_of_some _ (hs.extBut b o (Nat.ne_of_lt (Heap.lt_size e)) (Heap.get?_push_of_some _ e))
  have cm : ∀ {y c}, env.cells.lookup y = some c → (y, NameKind.free) ∈ scope.names ∧ X.env.cells.lookup y = some c ∧ c < s.heap.objs.size := fun {y c} e => by
    rw [eC] at e
    exact taken I free (PySem.mem_of_lookup e)
  have look : ∀ {y}, (y, NameKind.free) ∈ scope.names → ∃ c, env.cells.lookup y = some c ∧ X.env.cells.lookup y = some c := fun {y} m => by
    obtain ⟨c', e'⟩ := mem_lookup (cloFrom_has (cells := X.env.cells) (acc := []) m)
    rw [← eC] at e'
    exact ⟨c', e', (cm e').2.1⟩
  have kinds : ∀ {y k}, env.kindOf y = some k → (y, k) ∈ scope.names := fun {y k} e => by
    unfold Env.kindOf at e
    rw [eS] at e
    exact PySem.mem_of_lookup e
  have okG : (genC X env s H fp).Ok := by
    refine ⟨I.ok.mod, ?_, ?_, ?_, ?_, ?_, ?_, ?_, ?_, ?_, ?_, ?_, I.bs, Nat.le_trans I.ok.bsz I.sz, ?_, ?_, I.stack, I.stkFree⟩
    · show env.scope.kind = _
      rw [eS]; exact ok.kind
    · show env.globals = _
      rw [eEnv]; exact I.ok.glob
    · show env.builtins = _
      rw [eEnv]; rfl
    · show s.heap.objs.size ≤ env.locals
      rw [eL]; exact Nat.le_refl _
    · intro y z c e1 e2
      exact I.ok.inj y z c (cm e1).2.1 (cm e2).2.1
    · intro y hy
      rcases hy with hy | hy
      · exact absurd rfl (nocell _ (kinds hy))
      · obtain ⟨c, e, _⟩ := look (kinds hy)
        exact ⟨c, e⟩
    · intro y c z
      exact absurd (show (false : Bool) = true from z) (by decide)
    · intro _
      exact I.ok.hd hc
    · exact Around.frames_deeper (show X.A.in1.in1.frames = some X.stack from I.ok.frames)
    · exact .inr ⟨rfl, eF⟩
    · intro b hb
      refine ⟨?_, fun y c e z => (hfp b hb).1.2.2.2.2.1 y c (cm e).2.1 z⟩
      show b ≠ env.locals
      rw [eL]
      exact Nat.ne_of_lt (hfp b hb).2
    · intro b o e hb
      rcases (hfp b hb).1.2.2.2.1 with z | z
      · exact I.ok.noex b o e z
      · exact absurd (Nat.lt_of_lt_of_le (Heap.lt_size e) (Nat.le_trans I.ok.bsz z)) (Nat.lt_irrefl _)
    · intro b hb z
      rcases List.mem_cons.mp (I.stkSub b z) with z | z
      · exact (hfp b hb).1.2.1 z
      · exact (hfp b hb).1.2.2.1 z
  refine ⟨okG, rfl, I.bare.push hg, Un.kept kp, ⟨fun y => if y = ".0" then some it else none, ?_, fun i y v e1 e2 e3 => ?_⟩, fun y c e => ?_, ?_, fun y c e => ?_, fun p hp => ?_, I.hok.kept kp, by rw [wipe_length]; exact I.len⟩
  · show (h'.push go).Ns env.locals _
    rw [eL]
    exact hn.push _
  · obtain ⟨e2, hne⟩ := wipe_some e2
    have notown : y ∉ own.map (·.1) := fun z => by
      obtain ⟨p, hp, ep⟩ := List.mem_map.mp z
      have ix := ok.ix p hp
      rw [ep] at ix
      have : p.2 = i := nodup_inj hN ix (show X.N[i]? = some y from e1)
      exact hne (List.mem_map.mpr ⟨p, hp, this⟩)
    have e3 : Vis scope y := by
      have z : Vis env.scope y := e3
      rw [eS] at z
      exact z
    have yN : y ∈ X.N := List.mem_of_getElem? (show X.N[i]? = some y from e1)
    have fr : (y, NameKind.free) ∈ scope.names := by
      rcases e3 with z | z | z
      · exact ((ok.own _ (PySem.mem_of_lookup z) (.inl rfl)).elim (fun q => absurd q notown) (fun q => absurd yN q))
      · exact absurd rfl (nocell _ (PySem.mem_of_lookup z))
      · exact PySem.mem_of_lookup z
    obtain ⟨c, l1, l2⟩ := look fr
    have vis : X.env.scope.names.lookup y = some .cell ∨ X.env.scope.names.lookup y = some .free := ok.free _ fr rfl
    obtain ⟨m, _, lc⟩ := I.loc
    obtain ⟨u, ru, lk⟩ := lc i y v e1 e2 (.inr vis)
    rcases lk with ⟨z, _⟩ | ⟨_, c2, z1, z2⟩
    · have z : X.env.scope.names.lookup y = some .local := z
      rcases vis with q | q <;> (rw [z] at q; cases q)
    · rw [l2] at z1
      cases z1
      refine ⟨u, ru, .inr ⟨.inr ?_, c, l1, z2.keeps kp⟩⟩
      show env.kindOf y = some .free
      unfold Env.kindOf
      rw [eS]
      exact ok.uniq _ fr
  · obtain ⟨v, z⟩ := I.cell y c (cm e).2.1
    exact ⟨v, z.keeps kp⟩
  · show H env.locals = none
    rw [eL]
    exact I.hok.fresh (Nat.le_refl _)
  · exact I.freeC y c (cm e).2.1
  · have hp : p = (h'.objs.size, go) := by simpa using hp
    subst hp
    refine ⟨Heap.get?_push_size _ hgf, I.hok.fresh (by omega), ?_, fun z => ?_, hgo⟩
    · show h'.objs.size ≠ env.locals
      rw [eL]
      omega
    · have z : h'.objs.size ∈ frs X.stack := z
      have big : s.heap.objs.size ≤ h'.objs.size := by omega
      rcases List.mem_cons.mp (I.stkSub _ z) with q | q
      · have := I.lt
        rw [← q] at this
        exact Nat.lt_irrefl _ (Nat.lt_of_lt_of_le this big)
      · exact I.nofs big q
end
end IndG

set_option Elab.async false
set_option linter.all false
set_option maxRecDepth 100000
set_option maxHeartbeats 4000000
namespace IndG
open PySem PySem.Spec PyProof.Rows L2 GenW
section
variable {X : Cx} {pins : List (Addr × Obj)} {σ : L2.St} {H0 : Hp} {s0 : Shared} {env : Env} {fp : List Addr} {a it : Addr} {go : Obj} {own : List (Str × Nat)} {target elt iter : Expr} {scope : Scope} {pos : Pos} {J : It} {tn : Nat → Heap → Prop} {n : Nat} {tr : Nat → Bool} {Pv : Nat → Hp → Prop} {g : TG} {te : TE}
/-- the stage j of a generator's frame -/
def GV (X : Cx) (σ : L2.St) (H0 : Hp) (s0 : Shared) (env : Env) (fp : List Addr) (a : Addr) (go : Obj) (own : List (Str × Nat)) (tn : Nat → Heap → Prop) (Pv : Nat → Hp → Prop) (j : Nat) (s : Shared) : Prop :=
  ∃ H, Inv (genC X env s0 H0 fp) [(a, go)] (wipe σ (own.map (·.2))) H s ∧ tn j s.heap ∧ (∀ b ∈ fp, H b = none) ∧ Pv j H
def GF (X : Cx) (σ : L2.St) (H0 : Hp) (s0 : Shared) (env : Env) (fp : List Addr) (a : Addr) (go : Obj) (own : List (Str × Nat)) (Pv : Nat → Hp → Prop) (n : Nat) (s : Shared) : Prop :=
  ∃ H, Inv (genC X env s0 H0 fp) [(a, go)] (wipe σ (own.map (·.2))) H s ∧ Pv n H
theorem inv_still {Y : Cx} {pins : List (Addr × Obj)} {σ : L2.St} {H : Hp} {s : Shared} {g' : Array GenState} {t : Nat} (I : Inv Y pins σ H s) (b : ∀ y ∈ g', y.bare = true) : Inv Y pins σ H { s with gens := g', toks := t } :=
  ⟨I.ok, I.os, b, I.base, I.loc, I.cell, I.free, I.freeC, I.pin, I.hok, I.len⟩
theorem gen_stage (T : Turn X.prog X.w X.K target J fp it tn) (apart : ∀ b ∈ fp, a ≠ b)
    (hg : PG (genC X env s0 H0 fp) target g) (he : PE (genC X env s0 H0 fp) elt te)
    (turn : ∀ j H, j < n → Pv j H → J.go j H ∧ ∀ x H', J.yld j H x H' → g x (wipe σ (own.map (·.2))) H' fun σ2 H2 => wipe σ2 (own.map (·.2)) = wipe σ (own.map (·.2)) ∧ te σ2 H2 fun y H3 => y = .bl (tr j) ∧ Pv (j + 1) H3)
    (stop : ∀ H, Pv n H → J.stop n H) :
    Stage X.prog X.w (X.A.in1.in1.deeper env) env target elt it n tr (GV X σ H0 s0 env fp a go own tn Pv) (GF X σ H0 s0 env fp a go own Pv n) := by
  have ok : ∀ {σ' : L2.St} {H' : Hp} {s' : Shared}, Inv (genC X env s0 H0 fp) [(a, go)] σ' H' s' → (∀ b ∈ fp, H' b = none) → ∀ b ∈ fp, FpOk (genC X env s0 H0 fp) [(a, go)] H' b := fun {σ' H' s'} I' hn b hb =>
    ⟨hn b hb, (I'.ok.exf b hb).1, I'.ok.exfs b hb, .inl hb, fun x c e => (I'.ok.exf b hb).2 x c e, fun p hp => by
      have hp : p = (a, go) := by simpa using hp
      subst hp
      exact apart b hb⟩
  refine ⟨?_, ?_, ?_, ?_⟩
  · rintro j s g' t ⟨H, I, st, no, pv⟩ b
    exact ⟨H, inv_still I b, st, no, pv⟩
  · rintro j s ⟨H, I, _⟩
    exact I.bare
  · rintro j s E hj ⟨H, I, st, no, pv⟩
    obtain ⟨go', yl⟩ := turn j H hj pv
    refine wpAny_mono (T.item (genC X env s0 H0 fp) rfl rfl rfl rfl j [(a, go)] s _ H E I (ok I no) st go') (fun r s1 h1 => ?_) fun _ _ x => x
    obtain ⟨u, er, h1⟩ := h1
    refine ⟨u, er, wpAny_mono h1 (fun _ s2 h2 => ?_) fun _ _ x => x⟩
    obtain ⟨x, H2, I2, r2, y2, st2, no2⟩ := h2
    have I2p := I2.pinned (ok I2 no2) (T.obj _ _ st2)
    refine thnF (hg.run _ s2 _ H2 x u _ I2p r2 (yl x H2 y2)) fun _ s3 h3 => ?_
    obtain ⟨σ3, H3, I3, w3, q3⟩ := h3
    refine thnF (he.run _ s3 σ3 H3 _ I3 q3) fun y s4 h4 => ?_
    obtain ⟨v, H4, I4, r4, ev, pv4⟩ := h4
    subst ev
    have ey : y = Value.bool (tr j) := r4
    have pin : ∀ b ∈ fp, ∀ o, s2.heap.get? b = some o → s4.heap.get? b = some o ∧ H4 b = none := fun b hb o e => by
      have z := I4.pin (b, o) (List.mem_append_right _ (List.mem_append_right _ (mem_pinsAt hb e)))
      exact ⟨z.1, z.2.1⟩
    have ln : (wipe σ (own.map (·.2))).length = σ3.length := by rw [← w3, wipe_length]
    refine ⟨ey, H4, (I4.unpinned (pins := [(a, go)])).weak ln (fun i v e => ?_), T.keep _ _ _ st2 (fun b hb o e => (pin b hb o e).1), fun b hb => ?_, pv4⟩
    · rw [← w3] at e
      exact (wipe_some e).1
    · obtain ⟨o, e, _⟩ := T.obj _ _ st2 b hb
      exact (pin b hb o e).2
  · rintro s E ⟨H, I, st, no, pv⟩
    refine wpAny_mono (T.done (genC X env s0 H0 fp) rfl rfl rfl rfl n [(a, go)] s _ H E I (ok I no) st (stop H pv)) (fun r s1 h1 => ?_) fun _ _ x => x
    exact ⟨h1.1, H, h1.2, pv⟩
/-- the caller's state again -/
theorem gen_left {σ0 : L2.St} (I0 : Inv X pins σ0 H0 s0) (hfp : ∀ b ∈ fp, FpOk X pins H0 b) {s : Shared} (h : Left (GV X σ H0 s0 env fp a go own tn Pv) (GF X σ H0 s0 env fp a go own Pv n) s) : ∃ j H, Pv j H ∧ Inv X pins σ0 H s := by
  have back : ∀ {H : Hp} {z : Shared}, Inv (genC X env s0 H0 fp) [(a, go)] (wipe σ (own.map (·.2))) H z → Inv X pins σ0 H z := fun {H z} I =>
    I0.call' (ch := fp) I.os I.base I.hok I.bare fun b hb => ⟨(hfp b hb).2.2.2.1, (hfp b hb).2.1, (hfp b hb).2.2.2.2.1, (hfp b hb).2.2.2.2.2⟩
  rcases h with ⟨j, H, I, _, _, pv⟩ | ⟨s1, g', h', ⟨H, I, pv⟩, rfl, b, k⟩
  · exact ⟨j, H, pv, back I⟩
  · refine ⟨n, H, pv, ?_⟩
    have I1 := (back I).kept (t' := s1.toks) k
    exact inv_still (g' := g') (t := s1.toks) I1 b
end
end IndG

set_option Elab.async false
set_option linter.all false
set_option maxRecDepth 100000
set_option maxHeartbeats 4000000
namespace IndG
open PySem PySem.Spec PyProof.Rows L2 GenW GxR
section
variable {X : Cx} {pins : List (Addr × Obj)} {σ : L2.St} {H : Hp} {s : Shared} {own : List (Str × Nat)} {target elt iter : Expr} {scope : Scope} {pos gpos : Pos} {g : TG} {te : TE} {wi : TI} {c P : Addr}
/-- what is asked of a generator expression that all(..) or any(..) reads: r, the answer of n truths -/
def genR (P : Addr) (wi : TI) (g : TG) (te : TE) (vs : List Nat) (ans : List Nat → (Nat → Bool) → Bool) : TE := fun σ H Q => wi σ H fun J H1 => TabG H1 P ∧ ∀ H2, Tabbed P H1 H2 →
  ∃ (n : Nat) (tr : Nat → Bool) (Pv : Nat → Hp → Prop), Pv 0 H2 ∧ (∀ j H3, j < n → Pv j H3 → J.go j H3 ∧ ∀ x H4, J.yld j H3 x H4 → g x (wipe σ vs) H4 fun σ2 H5 => wipe σ2 vs = wipe σ vs ∧ te σ2 H5 fun y H6 => y = .bl (tr j) ∧ Pv (j + 1) H6) ∧
    (∀ H3, Pv n H3 → J.stop n H3) ∧ ∀ j H3, Pv j H3 → Q (.bl (ans (List.range n) tr)) H3
/-- the generator is made and asleep -/
theorem gen_made {k : Nat} {Q' : Value → Shared → Prop} {R : It → Hp → Prop} (hc : X.calm = true) (hN : X.N.Nodup) (hr : Room k X.A) (TB : TabB X.base X.mg c P) (hcode : X.env.code = .ref c) (ok : BlkOk X.N X.env.scope scope own)
    (nocell : ∀ y ∈ scope.names, y.2 ≠ .cell) (dot : scope.names.lookup (".0" : Str) = some NameKind.local) (hco : scope.isCoroutine = false) (hi : PI X target iter wi) (hs : ∀ v, genFold iter X.env v = pure v)
    (I : Inv X pins σ H s) (h : wi σ H fun J H1 => TabG H1 P ∧ ∀ H2, Tabbed P H1 H2 → R J H2)
    (hQ : ∀ (it : Addr) (fp : List Addr) (tn : Nat → Heap → Prop) (J : It) (H2 : Hp) (s4 : Shared) (code : Value) (a : Addr) (go : Obj) (s5 : Shared), R J H2 → Inv X pins σ H2 s4 → Turn X.prog X.w X.K target J fp it tn → (∀ b ∈ fp, FpOk X pins H2 b) → (∀ b ∈ fp, a ≠ b) →
      Inv (genC X (genEnv scope (cloFrom X.env.cells scope.names []) s4.heap.objs.size code builtinsNs X.env) s4 H2 fp) [(a, go)] (wipe σ (own.map (·.2))) H2 s5 → tn 0 s5.heap → (∀ b ∈ fp, H2 b = none) → s5.heap.IsGen a s4.gens.size → s5.gens[s4.gens.size]? = some (.fresh (.compStart (gx elt target iter scope gpos) 0 (.ref it) .none (genEnv scope (cloFrom X.env.cells scope.names []) s4.heap.objs.size code builtinsNs X.env))) →
      (∀ h : Heap, h.get? a = some go → h.IsGen a s4.gens.size) → Q' (.ref a) s5) :
    wpAny (model X.prog X.w) X.A (eval (gx elt target iter scope gpos) X.env) Q' X.xe s := by
  have free : ∀ y ∈ scope.names, y.2 = .free → ∃ c, X.env.cells.lookup y.1 = some c := fun y hy e => (ok.free y hy e).elim (fun k => I.ok.has _ (.inl k)) (fun k => I.ok.has _ (.inr k))
  refine wpAny_GeneratorExp_make hco (closure_ok free) nocell dot ok.kind (by have := hr.dp; omega) ?_ hs
  refine thn (hi.run pins s σ H _ I h) fun xv s1 h1 => thn h1 fun itv s2 h2 => ?_
  obtain ⟨it, fp, tn, J, H1, rfl, I2, T, st, fpk, ⟨ps, hP, ht⟩, q⟩ := h2
  have hPs : s2.heap.get? P = some { cls := .none, data := .fields ps } := I2.hok P _ hP
  have cd : PySem.W.CodeHd s2.heap c P := TB.code.keeps fun b u e => I2.bk b u e
  have nP : ∀ b ∈ fp, b ≠ P := fun b hb z => by
    have := (fpk b hb).1
    rw [z, hP] at this
    cases this
  obtain ⟨bm, ob, e1, e2, e3, e4, e5, e6, e7, e8⟩ := TB.bm
  have hcP : cStatics ≠ P := fun e => by
    obtain ⟨_, hns, _⟩ := I2.nolimit
    obtain ⟨o', es, ep, ho, hd, _⟩ := hns
    rw [e, hPs] at ho
    cases ho
    cases hd
  have cont : ∀ (code : Value) (h3 : Heap) (tk : Nat) (ps' : Array Value), Heap.ExtBut P s2.heap h3 → h3.get? P = some { cls := .none, data := .fields ps' } → (∃ more, ps' = ps ++ more) → TriplesOk ps'.toList →
      wpAny (model X.prog X.w) X.A (builtinsFor X.env.globals X.env.builtins) (fun bi s₄ => ∀ h', h'.Ns s₄.heap.objs.size (fun y => if y = ".0" then some (.ref it) else none) → Heap.SameBut s₄.heap.objs.size (s₄.heap.push { cls := .type "frame", data := .dict #[] }) h' →
        Q' (.ref h'.objs.size) { s₄ with
          gens := s₄.gens.push (.fresh (.compStart (gx elt target iter scope gpos) 0 (.ref it) .none (genEnv scope (cloFrom X.env.cells scope.names []) s₄.heap.objs.size code bi X.env))),
          toks := s₄.toks + 1 + 1 + 1,
          heap := h'.push { cls := .type "generator", data := .fields #[.int s₄.gens.size 0, .str "<genexpr>" (s₄.toks + 1), .str (X.env.qual ++ "<genexpr>") (s₄.toks + 1 + 1)] } }) X.xe { s2 with heap := h3, toks := tk } := by
    intro code h3 tk ps' hx hP3 hmore ht3
    obtain ⟨more, em⟩ := hmore
    have keep3 : ∀ b u, b ≠ P → s2.heap.get? b = some u → h3.get? b = some u := fun b u hb e => hx b u hb e
    refine wpAny_builtinsFor (m := X.mg) (by rw [I2.ok.glob]; exact (I2.mod.glob.keeps I2.bk).extBut hx TB.gP) e1 e2 (keep3 _ _ e4 (I2.bk _ _ e5)) e6 e7 e8 ?_
    intro h' hn' hs'
    have I3 : Inv X pins σ (upd H1 P (.tbl (ps ++ more))) { s2 with heap := h3, toks := tk } := inv_tab (more := more) (g' := s2.gens) (d' := s2.drawn) (t' := tk) I2 hP (fun b o hb e => keep3 b o hb e) (by rw [← em]; exact hP3) I2.bare
    have tabd : Tabbed P H1 (upd H1 P (.tbl (ps ++ more))) := ⟨⟨ps ++ more, upd_same, by rw [← em]; exact ht3⟩, fun b hb => upd_ne hb⟩
    have fpk3 : ∀ b ∈ fp, FpOk X pins (upd H1 P (.tbl (ps ++ more))) b := fun b hb => ⟨by rw [upd_ne (nP b hb)]; exact (fpk b hb).1, (fpk b hb).2⟩
    have st3 : tn 0 h3 := T.keep _ _ _ st fun b hb o e => keep3 b o (nP b hb) e
    have sz3 : ∀ b ∈ fp, b < h3.objs.size := fun b hb => by
      obtain ⟨o, e, _⟩ := T.obj _ _ st3 b hb
      exact Heap.lt_size e
    have szh : h'.objs.size = h3.objs.size + 1 := by rw [hs'.1, Heap.size_push]
    have ext : ∀ (go : Obj) b o, h3.get? b = some o → (h'.push go).get? b = some o := fun go b o e => Heap.get?_push_of_some _ (hs'.extBut b o (Nat.ne_of_lt (Heap.lt_size e)) (Heap.get?_push_of_some _ e))
    refine hQ it fp tn J _ _ code _ _ _ (q _ tabd) I3 T fpk3 (fun b hb z => ?_) (gen_start (code := code) (it := .ref it) hc hN I3 ok nocell rfl (fun b hb => ⟨fpk3 b hb, sz3 b hb⟩) hn' hs' rfl (fun v e => by cases e) rfl)
      (T.keep _ _ _ st3 fun b hb o e => ext _ b o e) (fun b hb => (fpk3 b hb).1) ⟨_, _, _, Heap.get?_push_size _ rfl, rfl, rfl, rfl⟩ (Array.getElem?_push_size ..) (fun hh e => ⟨_, _, _, e, rfl, rfl, rfl⟩)
    have := sz3 b hb
    have z : h'.objs.size = b := z
    have e9 : (h'.objs.size : Nat) = b := z
    rw [szh] at e9
    exact absurd this (by rw [← e9]; exact Nat.not_lt.mpr (Nat.le_succ _))
  refine ⟨I2.nolimit, ?_⟩
  cases hf : codeAmong gpos ps.toList with
  | some cv =>
    refine wpAny_genexprCode_hit hcode (cd.code hPs ht) hf ?_
    exact cont cv s2.heap s2.toks ps (Heap.ExtBut.refl _ _) hPs ⟨#[], by simp⟩ ht
  | none =>
    refine wpAny_genexprCodeX hcode (cd.code hPs ht) (cd.tab hPs) hf fun c' h' tk hx hge hlt isc' _ tab' _ => ?_
    obtain ⟨z1, z2, z3, z4, z5, z6, z7, z8, z9, z10, _, _, _, _, _, _, _, _, _, ztr, _⟩ := isc'
    exact cont _ h' tk _ hx tab'.2 ⟨_, rfl⟩ ztr
end
end IndG

set_option Elab.async false
set_option linter.all false
set_option maxRecDepth 100000
set_option maxHeartbeats 4000000
namespace IndG
open PySem PySem.Spec PyProof.Rows L2 GenW GxR
section
variable {X : Cx} {own : List (Str × Nat)} {target elt iter : Expr} {scope : Scope} {p pos gpos : Pos} {g : TG} {te : TE} {wi : TI} {c P : Addr} {k : Nat}
/-- all(..), any(..): what both share -/
theorem gen_call {b : String} {ans : List Nat → (Nat → Bool) → Bool} {pins : List (Addr × Obj)} {σ : L2.St} {H : Hp} {s : Shared} {Q : VK} (hc : X.calm = true) (hN : X.N.Nodup) (hr : Room k X.A) (TB : TabB X.base X.mg c P) (hcode : X.env.code = .ref c) (ok : BlkOk X.N X.env.scope scope own)
    (nocell : ∀ y ∈ scope.names, y.2 ≠ .cell) (dot : scope.names.lookup (".0" : Str) = some NameKind.local) (hco : scope.isCoroutine = false) (hi : PI X target iter wi) (hs : ∀ v, genFold iter X.env v = pure v)
    (pg : ∀ (s : Shared) (H : Hp) (C : Addr) (cl : List (Str × Addr)) (code : Value) (fp : List Addr), PG (genC X (genEnv scope cl C code builtinsNs X.env) s H fp) target g)
    (pe : ∀ (s : Shared) (H : Hp) (C : Addr) (cl : List (Str × Addr)) (code : Value) (fp : List Addr), PE (genC X (genEnv scope cl C code builtinsNs X.env) s H fp) elt te)
    (I : Inv X pins σ H s) (h : genR P wi g te (own.map (·.2)) ans σ H Q)
    (run : ∀ {a : Addr} {gi n : Nat} {tr : Nat → Bool} {V : Nat → Shared → Prop} {F : Shared → Prop} (still : ∀ j s g' t, V j s → (∀ y ∈ g', y.bare = true) → V j { s with gens := g', toks := t }) (bare : ∀ j s, V j s → ∀ y ∈ s.gens, y.bare = true) (K : Held a gi V F) {s : Shared} {Q : Value → Shared → Prop} {E : Value → Shared → Prop},
      Asleep X.prog X.w X.A.in1 gi n tr V F 0 s → (∀ z, Left V F z → Q (.bool (ans (List.range n) tr)) z) → wpAny (MM X.prog X.w) X.A (call (.builtin b) [.ref a]) Q E s) :
    wpAny (model X.prog X.w) X.A (eval (gx elt target iter scope gpos) X.env) (fun v s1 => wpAny (model X.prog X.w) X.A (call (.builtin b) [v]) (EP X pins σ Q) X.xe s1) X.xe s := by
  refine gen_made (R := fun J H2 => ∃ (n : Nat) (tr : Nat → Bool) (Pv : Nat → Hp → Prop), Pv 0 H2 ∧ (∀ j H3, j < n → Pv j H3 → J.go j H3 ∧ ∀ x H4, J.yld j H3 x H4 → g x (wipe σ (own.map (·.2))) H4 fun σ2 H5 => wipe σ2 (own.map (·.2)) = wipe σ (own.map (·.2)) ∧ te σ2 H5 fun y H6 => y = .bl (tr j) ∧ Pv (j + 1) H6) ∧
    (∀ H3, Pv n H3 → J.stop n H3) ∧ ∀ j H3, Pv j H3 → Q (.bl (ans (List.range n) tr)) H3) hc hN hr TB hcode ok nocell dot hco hi hs I h ?_
  intro it fp tn J H2 s4 code a go s5 hR I4 T fpk apart I5 st5 no5 gen5 gs5 isg
  obtain ⟨n, tr, Pv, pv0, turn, stop, fin'⟩ := hR
  have St := gen_stage (s0 := s4) (H0 := H2) (env := genEnv scope (cloFrom X.env.cells scope.names []) s4.heap.objs.size code builtinsNs X.env) (go := go) (σ := σ) (own := own) (n := n) (tr := tr) (Pv := Pv) T apart (pg _ _ _ _ _ _) (pe _ _ _ _ _ _) turn stop
  have V0 : GV X σ H2 s4 (genEnv scope (cloFrom X.env.cells scope.names []) s4.heap.objs.size code builtinsNs X.env) fp a go own tn Pv 0 s5 := ⟨H2, I5, st5, no5, pv0⟩
  have K : Held a s4.gens.size (GV X σ H2 s4 (genEnv scope (cloFrom X.env.cells scope.names []) s4.heap.objs.size code builtinsNs X.env) fp a go own tn Pv) (GF X σ H2 s4 (genEnv scope (cloFrom X.env.cells scope.names []) s4.heap.objs.size code builtinsNs X.env) fp a go own Pv n) := by
    refine ⟨?_, ?_⟩
    · rintro j z ⟨H3, I3, _⟩
      exact ⟨isg _ (I3.pin (a, go) (by simp)).1, I3.nolimit⟩
    · rintro z ⟨H3, I3, _⟩
      exact I3.bare
  have wk := fun z hz => wakes (prog := X.prog) (w := X.w) (A := X.A.in1.in1) (iter := iter) (scope := scope) (pos := gpos) (by rw [over_gen]; exact St) hco (by rw [over_gen, over_gen0]) (fun s Q E hV hQ => by
    obtain ⟨H3, I3, st3, _⟩ := hV
    exact T.self _ 0 s Q E st3 hQ) z z hz (Nat.le_refl _)
  refine run (n := n) (tr := tr) St.still St.bare K ⟨V0, _, gs5, fun z hz => ⟨rfl, ?_⟩⟩ fun z hz => ?_
  · rw [Nat.sub_zero]
    exact wk z hz
  · obtain ⟨j, H3, pv, I3⟩ := gen_left I4 fpk hz
    exact ⟨.bl _, H3, I3, rfl, fin' j H3 pv⟩
theorem pe_allG (hc : X.calm = true) (hN : X.N.Nodup) (hr : Room k X.A) (TB : TabB X.base X.mg c P) (hcode : X.env.code = .ref c) (hg : Gl X "all") (hm : X.mg "all" = none) (hb : bootBuiltins "all" = some (.builtin "all")) (ok : BlkOk X.N X.env.scope scope own)
    (nocell : ∀ y ∈ scope.names, y.2 ≠ .cell) (dot : scope.names.lookup (".0" : Str) = some NameKind.local) (hco : scope.isCoroutine = false) (hi : PI X target iter wi) (hs : ∀ v, genFold iter X.env v = pure v)
    (pg : ∀ (s : Shared) (H : Hp) (C : Addr) (cl : List (Str × Addr)) (code : Value) (fp : List Addr), PG (genC X (genEnv scope cl C code builtinsNs X.env) s H fp) target g)
    (pe : ∀ (s : Shared) (H : Hp) (C : Addr) (cl : List (Str × Addr)) (code : Value) (fp : List Addr), PE (genC X (genEnv scope cl C code builtinsNs X.env) s H fp) elt te)
    (he : starEach [gx elt target iter scope gpos] X.env = (false, eval (gx elt target iter scope gpos) X.env) :: starEach [] X.env := by rfl) :
    PE X (.Call (.Name "all" p) [gx elt target iter scope gpos] [] pos) (genR P wi g te (own.map (·.2)) List.all) := by
  constructor
  intro pins s σ H Q I h
  refine wpAny_Call_Name_kw (ld_blt I hg hm hb ?_)
  refine PyProof.Rows.callWith_builtin1 ?_ he (by rfl)
  rw [he]
  show wpAny _ _ (spliced ((false, eval (gx elt target iter scope gpos) X.env) :: (backTo pos (starEach [] X.env)))) _ _ s
  refine Calls.spliced_cons (thn (gen_call (b := "all") hc hN hr TB hcode ok nocell dot hco hi hs pg pe I h @fun a gi n tr V F still bare K s Q E h1 h2 => call_all still bare K (I.ok.hd hc) (by have := hr.dp; omega) h1 h2) fun v s1 h1 => ?_)
  exact Calls.spliced_nil h1
theorem pe_anyG (hc : X.calm = true) (hN : X.N.Nodup) (hr : Room k X.A) (TB : TabB X.base X.mg c P) (hcode : X.env.code = .ref c) (hg : Gl X "any") (hm : X.mg "any" = none) (hb : bootBuiltins "any" = some (.builtin "any")) (ok : BlkOk X.N X.env.scope scope own)
    (nocell : ∀ y ∈ scope.names, y.2 ≠ .cell) (dot : scope.names.lookup (".0" : Str) = some NameKind.local) (hco : scope.isCoroutine = false) (hi : PI X target iter wi) (hs : ∀ v, genFold iter X.env v = pure v)
    (pg : ∀ (s : Shared) (H : Hp) (C : Addr) (cl : List (Str × Addr)) (code : Value) (fp : List Addr), PG (genC X (genEnv scope cl C code builtinsNs X.env) s H fp) target g)
    (pe : ∀ (s : Shared) (H : Hp) (C : Addr) (cl : List (Str × Addr)) (code : Value) (fp : List Addr), PE (genC X (genEnv scope cl C code builtinsNs X.env) s H fp) elt te)
    (he : starEach [gx elt target iter scope gpos] X.env = (false, eval (gx elt target iter scope gpos) X.env) :: starEach [] X.env := by rfl) :
    PE X (.Call (.Name "any" p) [gx elt target iter scope gpos] [] pos) (genR P wi g te (own.map (·.2)) List.any) := by
  constructor
  intro pins s σ H Q I h
  refine wpAny_Call_Name_kw (ld_blt I hg hm hb ?_)
  refine PyProof.Rows.callWith_builtin1 ?_ he (by rfl)
  rw [he]
  show wpAny _ _ (spliced ((false, eval (gx elt target iter scope gpos) X.env) :: (backTo pos (starEach [] X.env)))) _ _ s
  refine Calls.spliced_cons (thn (gen_call (b := "any") hc hN hr TB hcode ok nocell dot hco hi hs pg pe I h @fun a gi n tr V F still bare K s Q E h1 h2 => call_any still bare K (I.ok.hd hc) (by have := hr.dp; omega) h1 h2) fun v s1 h1 => ?_)
  exact Calls.spliced_nil h1
end
end IndG

set_option Elab.async false
set_option linter.all false
set_option maxRecDepth 100000
set_option maxHeartbeats 4000000
namespace Ind
open PySem PySem.Spec PyProof.Rows L2
theorem small_div {x j : Int} (h : 0 < j) (h2 : j < 1606938044258990275541962092341162602522202993782792835301376) : CDivW x j := by
  refine wide_div (b := 200) h ?_ (by decide) (by decide)
  have e : (2 : Nat) ^ 200 = 1606938044258990275541962092341162602522202993782792835301376 := by decide +kernel
  rw [e]
  omega
/-! ### texts -/
theorem codes_app (a y : PySem.Str) : (a ++ y).cps.toList = a.cps.toList ++ y.cps.toList := by
  cases a; cases y
  show (_ ++ _ : Array Nat).toList = _
  simp
theorem codes_len (a : PySem.Str) : a.length = a.cps.toList.length := (Array.length_toList).symm
theorem codes_one (c : Nat) : (⟨#[c]⟩ : PySem.Str).cps.toList = [c] := rfl
def Sgn (c : Nat) : Prop := 32 ≤ c ∧ c ≤ 126 ∧ c ≠ 37
instance (c : Nat) : Decidable (Sgn c) := inferInstanceAs (Decidable (32 ≤ c ∧ c ≤ 126 ∧ c ≠ 37))
def Sgns (x : PySem.Str) : Prop := ∀ c ∈ x.cps.toList, Sgn c
def TxtOk (x : PySem.Str) : Prop := x.length ≤ 20 ∧ Sgns x
theorem Sgns.app {x y : PySem.Str} (a : Sgns x) (b : Sgns y) : Sgns (x ++ y) := fun c h => by
  rw [codes_app] at h
  exact (List.mem_append.mp h).elim (a c) (b c)
theorem Sgns.one {c : Nat} (h : Sgn c) : Sgns ⟨#[c]⟩ := fun d hd => by
  have e : d = c := by simpa [codes_one] using hd
  rw [e]; exact h
theorem len_app (x y : PySem.Str) : (x ++ y).length = x.length + y.length := by
  rw [codes_len, codes_len, codes_len, codes_app, List.length_append]
theorem len_one (c : Nat) : (⟨#[c]⟩ : PySem.Str).length = 1 := rfl
abbrev sgA : PySem.Str := " !\"#$&'()*+,-./0123456789:;<=>?@ABCDEFGHIJKLMNOPQRSTUVWXYZ[\\]^_`"
abbrev sgB : PySem.Str := "abcdefghijklmnopqrstuvwxyz{|}~"
def sg : PySem.Str := sgA ++ sgB
theorem sg_codes : sg.cps.toList = (List.range' 32 5) ++ (List.range' 38 89) := by decide +kernel
theorem sg_len : sg.length = 94 := by rw [codes_len, sg_codes]; rfl
theorem sg_all : ∀ c ∈ sg.cps.toList, Sgn c := by rw [sg_codes]; decide +kernel
/-- an item of a written list of whole numbers -/
theorem pick {ns : List Int} {i : Int} (h0 : 0 ≤ i) (h1 : i < (ns.length : Int)) : ∃ x, atI (ns.map V.int) i = some (.int x) ∧ x ∈ ns := by
  have hlt : i.toNat < ns.length := by omega
  refine ⟨ns[i.toNat], at_of (show i = (i.toNat : Int) by omega) ?_, List.getElem_mem hlt⟩
  rw [List.getElem?_map, List.getElem?_eq_getElem hlt]
  rfl
theorem pickS {l : List Nat} {i : Int} (h0 : 0 ≤ i) (h1 : i < (l.length : Int)) : ∃ x, atI l i = some x ∧ x ∈ l := by
  have hlt : i.toNat < l.length := by omega
  have e := atI_nat (xs := l) (j := i.toNat) (v := l[i.toNat]) (List.getElem?_eq_getElem hlt)
  rw [show ((i.toNat : Nat) : Int) = i by omega] at e
  exact ⟨_, e, List.getElem_mem hlt⟩
theorem sg_pick {i : Int} (h0 : 0 ≤ i) (h1 : i < 94) : ∃ c, atI sg.cps.toList i = some c ∧ Sgn c := by
  obtain ⟨c, e, m⟩ := pickS (l := sg.cps.toList) h0 (by rw [← codes_len, sg_len]; omega)
  exact ⟨c, e, sg_all c m⟩
theorem sgns_nil : Sgns ("" : PySem.Str) := fun c h => by cases h
theorem quad_all : ∀ c ∈ ("abB' " : PySem.Str).cps.toList, Sgn c := by decide +kernel
theorem quad_len : ("abB' " : PySem.Str).cps.toList.length = 5 := by decide +kernel
theorem txt_push {x : PySem.Str} {c : Nat} (hs : Sgns x) (h : Sgn c) : Sgns (x ++ ⟨#[c]⟩) := hs.app (.one h)
theorem len_push {x : PySem.Str} {c n : Nat} (h : x.length ≤ n) : (x ++ (⟨#[c]⟩ : PySem.Str)).length ≤ n + 1 := by rw [len_app, len_one]; omega
def sgIx (c : Nat) : Nat := if c < 37 then c - 32 else c - 33
theorem sg_occ : ∀ c, c < 127 → Sgn c → Builtin.Str.occurrences sg ⟨#[c]⟩ 0 sg.length 1 = [sgIx c] := by decide +kernel
theorem sg_index {c : Nat} (h : Sgn c) : Builtin.Str.occurrences sg ⟨#[c]⟩ 0 sg.length 1 = sgIx c :: [] := sg_occ c (by have := h.2.1; omega) h
theorem sgIx_lt {c d : Nat} (h : Sgn c) (k : Sgn d) : sgIx c < sgIx d ↔ c < d := by
  obtain ⟨a1, a2, a3⟩ := h
  obtain ⟨b1, b2, b3⟩ := k
  unfold sgIx
  split <;> split <;> omega
/-! ### slices of texts -/
theorem cut_lo (z : PySem.Str) (k : Nat) (h : k ≤ z.length) : (cutS z none (some (k : Int))).cps.toList = z.cps.toList.take k := by
  unfold cutS
  rw [show HT.sIx z.length z.length (some (k : Int)) = min k z.length from HT.sIx_nat _ _ _, HT.sIx_none, Nat.min_eq_left h]
  simp
theorem cut_hi (z : PySem.Str) (k : Nat) : (cutS z (some (k : Int)) none).cps.toList = z.cps.toList.drop (min k z.length) := by
  unfold cutS
  rw [show HT.sIx z.length 0 (some (k : Int)) = min k z.length from HT.sIx_nat _ _ _, HT.sIx_none]
  show (List.take _ _).toArray.toList = _
  rw [List.take_of_length_le]
  rw [List.length_drop, codes_len]
  exact Nat.le_refl _
theorem cut_sgns {z : PySem.Str} {lo hi : Option Int} (h : Sgns z) : Sgns (cutS z lo hi) := fun c m => by
  unfold cutS at m
  exact h c (List.mem_of_mem_drop (List.mem_of_mem_take (by simpa using m)))
theorem cut_len_hi (z : PySem.Str) (k : Nat) : (cutS z none (some (k : Int))).length ≤ k := by
  rw [codes_len]
  unfold cutS
  rw [show HT.sIx z.length z.length (some (k : Int)) = min k z.length from HT.sIx_nat _ _ _, HT.sIx_none]
  show (List.take _ _).toArray.toList.length ≤ _
  rw [List.length_take]
  omega
/-! ### values: whole numbers and texts -/
def ValOk : V → Prop
  | .int _ => True
  | .str x => TxtOk x
  | _ => False
def kindB : V → Bool
  | .str _ => true
  | _ => false
theorem dec_ii {i j : Int} : decide (V.int i = V.int j) = decide (i = j) := by
  by_cases e : i = j
  · subst e; simp
  · simp [e]
def vLt : V → V → Bool
  | .int i, .int j => decide (i < j)
  | .int _, .str _ => true
  | .str x, .str y => decide (x.cps.toList < y.cps.toList)
  | _, _ => false
theorem ValOk.cases {v : V} (h : ValOk v) : (∃ i, v = .int i) ∨ ∃ x, v = .str x ∧ TxtOk x := by
  cases v with
  | int i => exact .inl ⟨i, rfl⟩
  | str x => exact .inr ⟨x, rfl, h⟩
  | _ => exact h.elim
def spText : Sp := fun vs H Q _ => ∃ (t : Tp), vs = [.ref t.a] ∧ TapeAt H t ∧ ∀ H' x, Fz t.a H H' → TapeAt H' t → TxtOk x → Q (.str x) H'
def spAny : Sp := fun vs H Q _ => ∃ (t : Tp), vs = [.ref t.a] ∧ TapeAt H t ∧ ∀ H' v, Fz t.a H H' → TapeAt H' t → ValOk v → Q v H'
def spNear : Sp := fun vs H Q _ => ∃ (t : Tp) (x : V), vs = [.ref t.a, x] ∧ ValOk x ∧ TapeAt H t ∧ ∀ H' v, Fz t.a H H' → TapeAt H' t → ValOk v → Q v H'
def spSigns : Sp := fun vs H Q _ => vs = [] ∧ Q (.str sg) H
def spBefore : Sp := fun vs H Q _ => ∃ x y, vs = [x, y] ∧ ValOk x ∧ ValOk y ∧ ∀ H', Same H H' → Q (.bl (vLt x y)) H'
def spIs : Sp := fun vs H Q _ => ∃ x y : Int, vs = [.int x, .int y] ∧ Q (.bl (decide (x = y))) H
def spKey : Sp := fun vs H Q _ => ∃ x, vs = [x] ∧ ValOk x ∧ ∀ p, H p = none → Q (.ref p) (upd H p (.tup [.bl (kindB x), x]))
def spCmp : Sp := fun vs H Q _ => ∃ x y, vs = [x, y] ∧ ValOk x ∧ ValOk y ∧ ∀ H', Same H H' → Q (.int (if vLt x y then -1 else if vLt y x then 1 else 0)) H'
def spLaw (K : PySem.W.Frag) : Sp := fun vs H Q _ => ∃ (a : Addr) (ns : List Int), vs = [.ref a] ∧ SqL K H a (ns.map V.int) ∧ ns.length ≤ 63 ∧ ∀ H', Q (.bl true) H'
end Ind

set_option Elab.async false
set_option linter.all false
set_option maxRecDepth 100000
set_option maxHeartbeats 4000000
namespace IndCmp
open PySem PySem.SeqAt Ob
open PySem.AutoSeq1 (wpAny_loadPart')
open PySem.MeetsSeq PySem.MeetsSeq2 PySem.MeetsSeq3

theorem ltAt (l b : Addr) (xs ys : Array Value) (n n2 : Nat) (dd dd2 : Option Addr) (sl sl2 : Array (Option Value)) (e r : Nat → Bool) :
    Meets (Builtin.«tuple.__lt__» ⟨[.ref l, .ref b], []⟩) (fun A R s =>
      (s.heap.get? l = some { cls := .type "tuple", dict := dd, data := .seq xs n, slots := sl }) ∧
      (s.heap.get? b = some { cls := .type "tuple", dict := dd2, data := .seq ys n2, slots := sl2 }) ∧
      (∀ j (h1 : j < xs.size) (h2 : j < ys.size), EqAt A.in1 s xs[j] ys[j] (e j)) ∧
      (∀ j (h1 : j < xs.size) (h2 : j < ys.size), (∀ k, k < j → e k = true) → e j = false → RcOp .Lt A.in1 s xs[j] ys[j] (r j)) ∧
      R (.ok (.ret (.bool (lexAt e r (decide (xs.size < ys.size)) 0 (min xs.size ys.size))))) s) :=
  .of_wp fun prog w A R s hh => by
    obtain ⟨hp, g, d, tk, os⟩ := s
    obtain ⟨a1, a2, qe, qr, hh⟩ := hh
    have sb := AutoSeq1.sub_tuple_tuple
    have zz : (xs.toList.zip ys.toList).length = min xs.size ys.size := by simp
    wp_walk using wpAny_loadPart' a1, wpAny_loadPart' a2, wpAny_forIn_list _ (fun rest b s' =>
      b.1 = none ∧ s' = ⟨hp, g, d, tk, os⟩ ∧ ∃ i, rest = (xs.toList.zip ys.toList).drop i ∧ (∀ k, k < i → e k = true) ∧
      R (.ok (.ret (.bool (lexAt e r (decide (xs.size < ys.size)) i (min xs.size ys.size - i))))) ⟨hp, g, d, tk, os⟩) _
    case turn =>
      rintro ⟨y, x⟩ rest b s' ⟨nb, rfl, i, hz, before, goal⟩
      have il : i < (xs.toList.zip ys.toList).length := by
        by_cases c : i < (xs.toList.zip ys.toList).length
        · exact c
        · rw [List.drop_of_length_le (by omega)] at hz
          cases hz
      have im : i < min xs.size ys.size := by omega
      have i1 : i < xs.size := by omega
      have i2 : i < ys.size := by omega
      rw [List.drop_eq_getElem_cons il] at hz
      injection hz with pr tl
      have ey : y = xs[i] := by have t1 := congrArg Prod.fst pr; simpa using t1
      have ex : x = ys[i] := by have t1 := congrArg Prod.snd pr; simpa using t1
      subst ey ex
      have step : min xs.size ys.size - i = (min xs.size ys.size - (i + 1)) + 1 := by omega
      rw [step, lexAt_succ] at goal
      refine wpAny_bind (qe i i1 i2 prog w _ _ ?_)
      cases c : e i with
      | true =>
        rw [c, if_pos rfl] at goal
        wp_walk
        refine ⟨rfl, rfl, i + 1, tl, fun k hk => ?_, goal⟩
        by_cases ki : k = i
        · rw [ki]; exact c
        · exact before k (by omega)
      | false =>
        rw [c, if_neg Bool.false_ne_true] at goal
        have now := qr i i1 i2 before c prog w
        wp_walk using now
        exact ⟨_, rfl, by simpa using goal⟩
    case fin =>
      rintro ⟨b1, b2⟩ s' ⟨nb, rfl, i, hz, before, goal⟩
      simp only at nb
      subst nb
      have le : min xs.size ys.size ≤ i := by
        by_cases c : i < (xs.toList.zip ys.toList).length
        · rw [List.drop_eq_getElem_cons c] at hz
          cases hz
        · omega
      rw [Nat.sub_eq_zero_of_le le, lexAt_zero] at goal
      wp_walk
      exact ⟨_, rfl, by simpa [Builtin.Tuple.tupleCompareSizes] using goal⟩
    case h =>
      exact ⟨rfl, rfl, 0, rfl, fun k hk => absurd hk (Nat.not_lt_zero _), by simpa using hh⟩
theorem rc_lt {A : Around} {s : Shared} {l b : Addr} {xs ys : Array Value} {e r : Nat → Bool} (hl : s.heap.IsTuple l xs) (hb : s.heap.IsTuple b ys) (room : A.units < cLine)
    (qe : ∀ j (h1 : j < xs.size) (h2 : j < ys.size), EqAt A.in1 s xs[j] ys[j] (e j))
    (qr : ∀ j (h1 : j < xs.size) (h2 : j < ys.size), (∀ k, k < j → e k = true) → e j = false → RcOp .Lt A.in1 s xs[j] ys[j] (r j)) :
    RcOp .Lt A s (.ref l) (.ref b) (lexAt e r (decide (xs.size < ys.size)) 0 (min xs.size ys.size)) := fun prog w E Q hq => by
  obtain ⟨⟨c1, dd, da, sl⟩, o1, hc, n, hd⟩ := id hl
  obtain ⟨⟨c2, dd2, da2, sl2⟩, o2, hc2, n2, hd2⟩ := id hb
  simp only at hc hd hc2 hd2
  subst hc hd hc2 hd2
  refine richCompare_meets_room (op := .Lt) ⟨_, o1, rfl⟩ ⟨_, o2, rfl⟩ F.slot_tuple_lt F.entry_tuple_lt
    (F.args_tuple_lt_2 _ _) (ltAt l b xs ys n n2 dd dd2 sl sl2 e r) ⟨o1, o2, qe, qr, ?_⟩ room
  exact ⟨(fun x => nomatch x), hq⟩

theorem gtAt (l b : Addr) (xs ys : Array Value) (n n2 : Nat) (dd dd2 : Option Addr) (sl sl2 : Array (Option Value)) (e r : Nat → Bool) :
    Meets (Builtin.«tuple.__gt__» ⟨[.ref l, .ref b], []⟩) (fun A R s =>
      (s.heap.get? l = some { cls := .type "tuple", dict := dd, data := .seq xs n, slots := sl }) ∧
      (s.heap.get? b = some { cls := .type "tuple", dict := dd2, data := .seq ys n2, slots := sl2 }) ∧
      (∀ j (h1 : j < xs.size) (h2 : j < ys.size), EqAt A.in1 s xs[j] ys[j] (e j)) ∧
      (∀ j (h1 : j < xs.size) (h2 : j < ys.size), (∀ k, k < j → e k = true) → e j = false → RcOp .Gt A.in1 s xs[j] ys[j] (r j)) ∧
      R (.ok (.ret (.bool (lexAt e r (decide (xs.size > ys.size)) 0 (min xs.size ys.size))))) s) :=
  .of_wp fun prog w A R s hh => by
    obtain ⟨hp, g, d, tk, os⟩ := s
    obtain ⟨a1, a2, qe, qr, hh⟩ := hh
    have sb := AutoSeq1.sub_tuple_tuple
    have zz : (xs.toList.zip ys.toList).length = min xs.size ys.size := by simp
    wp_walk using wpAny_loadPart' a1, wpAny_loadPart' a2, wpAny_forIn_list _ (fun rest b s' =>
      b.1 = none ∧ s' = ⟨hp, g, d, tk, os⟩ ∧ ∃ i, rest = (xs.toList.zip ys.toList).drop i ∧ (∀ k, k < i → e k = true) ∧
      R (.ok (.ret (.bool (lexAt e r (decide (xs.size > ys.size)) i (min xs.size ys.size - i))))) ⟨hp, g, d, tk, os⟩) _
    case turn =>
      rintro ⟨y, x⟩ rest b s' ⟨nb, rfl, i, hz, before, goal⟩
      have il : i < (xs.toList.zip ys.toList).length := by
        by_cases c : i < (xs.toList.zip ys.toList).length
        · exact c
        · rw [List.drop_of_length_le (by omega)] at hz
          cases hz
      have im : i < min xs.size ys.size := by omega
      have i1 : i < xs.size := by omega
      have i2 : i < ys.size := by omega
      rw [List.drop_eq_getElem_cons il] at hz
      injection hz with pr tl
      have ey : y = xs[i] := by have t1 := congrArg Prod.fst pr; simpa using t1
      have ex : x = ys[i] := by have t1 := congrArg Prod.snd pr; simpa using t1
      subst ey ex
      have step : min xs.size ys.size - i = (min xs.size ys.size - (i + 1)) + 1 := by omega
      rw [step, lexAt_succ] at goal
      refine wpAny_bind (qe i i1 i2 prog w _ _ ?_)
      cases c : e i with
      | true =>
        rw [c, if_pos rfl] at goal
        wp_walk
        refine ⟨rfl, rfl, i + 1, tl, fun k hk => ?_, goal⟩
        by_cases ki : k = i
        · rw [ki]; exact c
        · exact before k (by omega)
      | false =>
        rw [c, if_neg Bool.false_ne_true] at goal
        have now := qr i i1 i2 before c prog w
        wp_walk using now
        exact ⟨_, rfl, by simpa using goal⟩
    case fin =>
      rintro ⟨b1, b2⟩ s' ⟨nb, rfl, i, hz, before, goal⟩
      simp only at nb
      subst nb
      have le : min xs.size ys.size ≤ i := by
        by_cases c : i < (xs.toList.zip ys.toList).length
        · rw [List.drop_eq_getElem_cons c] at hz
          cases hz
        · omega
      rw [Nat.sub_eq_zero_of_le le, lexAt_zero] at goal
      wp_walk
      exact ⟨_, rfl, by simpa [Builtin.Tuple.tupleCompareSizes] using goal⟩
    case h =>
      exact ⟨rfl, rfl, 0, rfl, fun k hk => absurd hk (Nat.not_lt_zero _), by simpa using hh⟩
theorem rc_gt {A : Around} {s : Shared} {l b : Addr} {xs ys : Array Value} {e r : Nat → Bool} (hl : s.heap.IsTuple l xs) (hb : s.heap.IsTuple b ys) (room : A.units < cLine)
    (qe : ∀ j (h1 : j < xs.size) (h2 : j < ys.size), EqAt A.in1 s xs[j] ys[j] (e j))
    (qr : ∀ j (h1 : j < xs.size) (h2 : j < ys.size), (∀ k, k < j → e k = true) → e j = false → RcOp .Gt A.in1 s xs[j] ys[j] (r j)) :
    RcOp .Gt A s (.ref l) (.ref b) (lexAt e r (decide (xs.size > ys.size)) 0 (min xs.size ys.size)) := fun prog w E Q hq => by
  obtain ⟨⟨c1, dd, da, sl⟩, o1, hc, n, hd⟩ := id hl
  obtain ⟨⟨c2, dd2, da2, sl2⟩, o2, hc2, n2, hd2⟩ := id hb
  simp only at hc hd hc2 hd2
  subst hc hd hc2 hd2
  refine richCompare_meets_room (op := .Gt) ⟨_, o1, rfl⟩ ⟨_, o2, rfl⟩ F.slot_tuple_gt F.entry_tuple_gt
    (F.args_tuple_gt_2 _ _) (gtAt l b xs ys n n2 dd dd2 sl sl2 e r) ⟨o1, o2, qe, qr, ?_⟩ room
  exact ⟨(fun x => nomatch x), hq⟩

end IndCmp

set_option Elab.async false
set_option linter.all false
set_option maxRecDepth 100000
set_option maxHeartbeats 4000000
namespace Ind
open PySem PySem.Spec PyProof.Rows L2
theorem lex_irr (l : List Nat) : ¬ l < l := List.lt_irrefl l
theorem vLt_irr (v : V) : vLt v v = false := by
  cases v with
  | int i => simp [vLt]
  | str x => simp [vLt]
  | _ => rfl
/-- == of such values -/
theorem eqAt_val {A : Around} {s : Shared} {u v : V} {a b : Value} (hu : ValOk u) (hv : ValOk v) (ra : RelV u a) (rb : RelV v b) : SeqAt.EqAt A s a b (decide (u = v)) := by
  rcases hu.cases with ⟨i, rfl⟩ | ⟨x, rfl, _⟩ <;> rcases hv.cases with ⟨j, rfl⟩ | ⟨y, rfl, _⟩
  · obtain ⟨t, rfl⟩ := ra
    obtain ⟨t', rfl⟩ := rb
    rw [dec_int]
    exact SeqAt.EqAt.int_int _ _ _ _
  · obtain ⟨t, rfl⟩ := ra
    obtain ⟨t', rfl⟩ := rb
    rw [decide_eq_false (fun z => nomatch z)]
    exact fun prog w E Q h => SeqAt.EqAt.int_str i t y t' _ _ _ _ h
  · obtain ⟨t, rfl⟩ := ra
    obtain ⟨t', rfl⟩ := rb
    rw [decide_eq_false (fun z => nomatch z)]
    exact fun prog w E Q h => SeqAt.EqAt.str_int x t j t' _ _ _ _ h
  · obtain ⟨t, rfl⟩ := ra
    obtain ⟨t', rfl⟩ := rb
    rw [dec_str]
    exact SeqAt.EqAt.str_str _ _ _ _
theorem rc_lt_val {A : Around} {s : Shared} {u v : V} {a b : Value} (hu : ValOk u) (hv : ValOk v) (ra : RelV u a) (rb : RelV v b) (k : kindB u = kindB v) : Ob.RcOp .Lt A s a b (vLt u v) := by
  rcases hu.cases with ⟨i, rfl⟩ | ⟨x, rfl, _⟩ <;> rcases hv.cases with ⟨j, rfl⟩ | ⟨y, rfl, _⟩
  · obtain ⟨t, rfl⟩ := ra
    obtain ⟨t', rfl⟩ := rb
    exact .lt_int _ _ _ _
  · cases k
  · cases k
  · obtain ⟨t, rfl⟩ := ra
    obtain ⟨t', rfl⟩ := rb
    exact fun _ _ _ _ h => PyProof.Rows.lt_str h
theorem rc_gt_val {A : Around} {s : Shared} {u v : V} {a b : Value} (hu : ValOk u) (hv : ValOk v) (ra : RelV u a) (rb : RelV v b) (k : kindB u = kindB v) : Ob.RcOp .Gt A s a b (vLt v u) := by
  rcases hu.cases with ⟨i, rfl⟩ | ⟨x, rfl, _⟩ <;> rcases hv.cases with ⟨j, rfl⟩ | ⟨y, rfl, _⟩
  · obtain ⟨t, rfl⟩ := ra
    obtain ⟨t', rfl⟩ := rb
    exact .gt_int _ _ _ _
  · cases k
  · cases k
  · obtain ⟨t, rfl⟩ := ra
    obtain ⟨t', rfl⟩ := rb
    exact fun _ _ _ _ h => PySem.P.gt_str h
theorem pair_lex {u v : V} (hu : ValOk u) (hv : ValOk v) (r1 : Bool) (h : kindB u = kindB v → r1 = vLt u v) :
    Ob.lexAt (fun j => if j = 0 then kindB u == kindB v else decide (u = v)) (fun j => if j = 0 then decide (b2i (kindB u) < b2i (kindB v)) else r1) (decide (2 < 2)) 0 (min 2 2) = vLt u v := by
  rcases hu.cases with ⟨i, rfl⟩ | ⟨x, rfl, _⟩ <;> rcases hv.cases with ⟨j, rfl⟩ | ⟨y, rfl, _⟩
  · rw [h rfl]
    by_cases e : i = j
    · subst e; simp [Ob.lexAt, vLt]
    · simp [Ob.lexAt, vLt, kindB, e]
  · simp [Ob.lexAt, vLt, kindB, b2i]
  · simp [Ob.lexAt, vLt, kindB, b2i]
  · rw [h rfl]
    by_cases e : x = y
    · subst e; simp [Ob.lexAt, vLt]
    · simp [Ob.lexAt, vLt, kindB, e]
theorem pair_lex2 {u v : V} (hu : ValOk u) (hv : ValOk v) (r1 : Bool) (h : kindB u = kindB v → r1 = vLt v u) :
    Ob.lexAt (fun j => if j = 0 then kindB u == kindB v else decide (u = v)) (fun j => if j = 0 then decide (b2i (kindB u) > b2i (kindB v)) else r1) (decide (2 > 2)) 0 (min 2 2) = vLt v u := by
  rcases hu.cases with ⟨i, rfl⟩ | ⟨x, rfl, _⟩ <;> rcases hv.cases with ⟨j, rfl⟩ | ⟨y, rfl, _⟩
  · rw [h rfl]
    by_cases e : i = j
    · subst e; simp [Ob.lexAt, vLt]
    · simp [Ob.lexAt, vLt, kindB, e]
  · simp [Ob.lexAt, vLt, kindB, b2i]
  · simp [Ob.lexAt, vLt, kindB, b2i]
  · rw [h rfl]
    by_cases e : x = y
    · subst e; simp [Ob.lexAt, vLt]
    · simp [Ob.lexAt, vLt, kindB, e]
theorem pair_of {k : Bool} {u : V} {its : List Value} (r : Vals [V.bl k, u] its) : ∃ a, its = [Value.bool k, a] ∧ RelV u a := by
  obtain ⟨a, b, rfl, r1, r2⟩ := vals2 r
  cases (show a = Value.bool k from r1)
  exact ⟨b, rfl, r2⟩
def rKeyL (K : PySem.W.Frag) : R2 := fun x y H Q => ∃ a b u v, x = .ref a ∧ y = .ref b ∧ ValOk u ∧ ValOk v ∧ H a = some (.tup [.bl (kindB u), u]) ∧ H b = some (.tup [.bl (kindB v), v]) ∧ Q (.bl (vLt u v)) H
def rKeyG (K : PySem.W.Frag) : R2 := fun x y H Q => ∃ a b u v, x = .ref a ∧ y = .ref b ∧ ValOk u ∧ ValOk v ∧ H a = some (.tup [.bl (kindB u), u]) ∧ H b = some (.tup [.bl (kindB v), v]) ∧ Q (.bl (vLt v u)) H
section
variable {X : Cx}
theorem op_lt_key (hu : X.A.units < cLine) : OpR X (compareOp .Lt) (rKeyL X.K) := by
  intro pins s σ H x y v u Q I rx ry h
  obtain ⟨a, b, p, q, rfl, rfl, hp, hq, ha, hb, fin⟩ := h
  cases rx
  cases ry
  obtain ⟨its, r1, p1, _⟩ := I.tuple (SqT.of ha)
  obtain ⟨its2, r2, p2, _⟩ := I.tuple (SqT.of hb)
  obtain ⟨va, rfl, ra⟩ := pair_of r1
  obtain ⟨vb, rfl, rb⟩ := pair_of r2
  have R := IndCmp.rc_lt (A := X.A) (s := s) (e := fun j => if j = 0 then kindB p == kindB q else decide (p = q)) (r := fun j => if j = 0 then decide (b2i (kindB p) < b2i (kindB q)) else vLt p q) p1 p2 hu
    (fun j h1 h2 => match j, h1, h2 with
      | 0, _, _ => SeqAt.EqAt.bool_bool _ _
      | 1, _, _ => eqAt_val hp hq ra rb)
    (fun j h1 h2 bef ne => match j, h1, h2, bef, ne with
      | 0, _, _, _, _ => fun _ _ _ _ h => PyProof.Rows.lt_bool h
      | 1, _, _, bef, _ => rc_lt_val hp hq ra rb (by have := bef 0 (by decide); simpa using this))
  rw [show ([Value.bool (kindB p), va].toArray.size) = 2 from rfl, show ([Value.bool (kindB q), vb].toArray.size) = 2 from rfl, pair_lex hp hq (vLt p q) (fun _ => rfl)] at R
  have z : wpAny (model X.prog X.w) X.A (compareOp .Lt (.ref a) (.ref b)) (EP X pins σ Q) X.xe s := R X.prog X.w X.xe (EP X pins σ Q) ⟨.bl _, H, I, rfl, fin⟩
  exact z
theorem op_gt_key (hu : X.A.units < cLine) : OpR X (compareOp .Gt) (rKeyG X.K) := by
  intro pins s σ H x y v u Q I rx ry h
  obtain ⟨a, b, p, q, rfl, rfl, hp, hq, ha, hb, fin⟩ := h
  cases rx
  cases ry
  obtain ⟨its, r1, p1, _⟩ := I.tuple (SqT.of ha)
  obtain ⟨its2, r2, p2, _⟩ := I.tuple (SqT.of hb)
  obtain ⟨va, rfl, ra⟩ := pair_of r1
  obtain ⟨vb, rfl, rb⟩ := pair_of r2
  have R := IndCmp.rc_gt (A := X.A) (s := s) (e := fun j => if j = 0 then kindB p == kindB q else decide (p = q)) (r := fun j => if j = 0 then decide (b2i (kindB p) > b2i (kindB q)) else vLt q p) p1 p2 hu
    (fun j h1 h2 => match j, h1, h2 with
      | 0, _, _ => SeqAt.EqAt.bool_bool _ _
      | 1, _, _ => eqAt_val hp hq ra rb)
    (fun j h1 h2 bef ne => match j, h1, h2, bef, ne with
      | 0, _, _, _, _ => fun _ _ _ _ h => PyProof.Rows.gt_bool h
      | 1, _, _, bef, _ => rc_gt_val hp hq ra rb (by have := bef 0 (by decide); simpa using this))
  rw [show ([Value.bool (kindB p), va].toArray.size) = 2 from rfl, show ([Value.bool (kindB q), vb].toArray.size) = 2 from rfl, pair_lex2 hp hq (vLt q p) (fun _ => rfl)] at R
  have z : wpAny (model X.prog X.w) X.A (compareOp .Gt (.ref a) (.ref b)) (EP X pins σ Q) X.xe s := R X.prog X.w X.xe (EP X pins σ Q) ⟨.bl _, H, I, rfl, fin⟩
  exact z
end
end Ind

set_option Elab.async false
set_option linter.all false
set_option maxRecDepth 100000
set_option maxHeartbeats 4000000
namespace Ind
open PySem PySem.Spec PyProof.Rows L2
theorem k_int_int : kitB "int" "int" = some true := by decide +kernel
theorem k_int_str : kitB "int" "str" = some false := by decide +kernel
theorem k_str_str : kitB "str" "str" = some true := by decide +kernel
theorem k_str_int : kitB "str" "int" = some false := by decide +kernel
theorem k_int_bool : kitB "int" "bool" = some false := by decide +kernel
theorem k_bool_int : kitB "bool" "int" = some true := by decide +kernel
theorem k_bool_bool : kitB "bool" "bool" = some true := by decide +kernel
theorem k_tup_tup : kitB "tuple" "tuple" = some true := by decide +kernel
/-! ### the order of texts, sign by sign -/
theorem lt_at : ∀ (a b : List Nat) (i : Nat) (c d : Nat), a.take i = b.take i → a[i]? = some c → b[i]? = some d → c ≠ d → (a < b ↔ c < d)
  | [], _, i, c, d, _, h, _, _ => by simp at h
  | _ :: _, [], i, c, d, _, _, h, _ => by simp at h
  | x :: a, y :: b, 0, c, d, _, h, k, ne => by
    have e1 : x = c := by simpa using h
    have e2 : y = d := by simpa using k
    subst e1 e2
    rw [List.cons_lt_cons_iff]
    constructor
    · rintro (q | ⟨q, _⟩)
      · exact q
      · exact absurd q ne
    · exact fun q => .inl q
  | x :: a, y :: b, i + 1, c, d, t, h, k, ne => by
    have t' : x = y ∧ a.take i = b.take i := by simpa using t
    have ih := lt_at a b i c d t'.2 (by simpa using h) (by simpa using k) ne
    rw [List.cons_lt_cons_iff, ← ih]
    constructor
    · rintro (q | ⟨_, q⟩)
      · exact absurd (t'.1 ▸ q) (Nat.lt_irrefl _)
      · exact q
    · exact fun q => .inr ⟨t'.1, q⟩
theorem lt_end : ∀ (a b : List Nat), a.take (min a.length b.length) = b.take (min a.length b.length) → (a < b ↔ a.length < b.length)
  | [], [], _ => by simp
  | [], y :: b, _ => by simp
  | x :: a, [], _ => by simp
  | x :: a, y :: b, t => by
    have t' : x = y ∧ a.take (min a.length b.length) = b.take (min a.length b.length) := by
      have e : min (x :: a).length (y :: b).length = min a.length b.length + 1 := by simp
      rw [e] at t
      simpa using t
    have ih := lt_end a b t'.2
    rw [List.cons_lt_cons_iff, List.length_cons, List.length_cons]
    constructor
    · rintro (q | ⟨_, q⟩)
      · exact absurd (t'.1 ▸ q) (Nat.lt_irrefl _)
      · exact Nat.succ_lt_succ (ih.mp q)
    · exact fun q => .inr ⟨t'.1, ih.mpr (Nat.lt_of_succ_lt_succ q)⟩
theorem take_next {a b : List Nat} {i c : Nat} (t : a.take i = b.take i) (h : a[i]? = some c) (k : b[i]? = some c) : a.take (i + 1) = b.take (i + 1) := by
  rw [List.take_add_one, List.take_add_one, t, h, k]
theorem vLt_tri {u v : V} (hu : ValOk u) (hv : ValOk v) : (if vLt u v then (-1 : Int) else if vLt v u then 1 else 0) = -(if vLt v u then (-1 : Int) else if vLt u v then 1 else 0) := by
  by_cases a : vLt u v = true <;> by_cases b : vLt v u = true
  · exfalso
    rcases hu.cases with ⟨i, rfl⟩ | ⟨x, rfl, _⟩ <;> rcases hv.cases with ⟨j, rfl⟩ | ⟨y, rfl, _⟩
    · simp [vLt] at a b; omega
    · simp [vLt] at a b
    · simp [vLt] at a b
    · simp [vLt] at a b
      exact absurd (List.lt_trans a b) (List.lt_irrefl _)
  all_goals simp [a, b]
theorem vLt_not_both {u v : V} (hu : ValOk u) (hv : ValOk v) (a : vLt u v = true) (b : vLt v u = true) : False := by
  rcases hu.cases with ⟨i, rfl⟩ | ⟨x, rfl, _⟩ <;> rcases hv.cases with ⟨j, rfl⟩ | ⟨y, rfl, _⟩
  · simp [vLt] at a b; omega
  · simp [vLt] at a b
  · simp [vLt] at a b
  · simp [vLt] at a b
    exact absurd (List.lt_trans a b) (List.lt_irrefl _)
theorem one_txt {c d : Nat} : decide (V.str ⟨#[c]⟩ = V.str ⟨#[d]⟩) = decide (c = d) := by
  by_cases e : c = d
  · subst e; simp
  · rw [decide_eq_false e, decide_eq_false]
    intro z
    injection z with z
    injection z with z
    exact e (by simpa using z)
theorem qb {Q : VK} {b : Bool} {H : Hp} (e : b = true) (q : ∀ H', Q (.bl true) H') : Q (.bl b) H := by rw [e]; exact q H
end Ind

set_option Elab.async false
set_option linter.all false
set_option maxRecDepth 100000
set_option maxHeartbeats 4000000
namespace Ind
open PySem PySem.Spec PyProof.Rows L2
/-! ### data of tuples and plain values: what stands stays -/
mutual
def tuplesOnly : PyData → Bool
  | .none => true
  | .bool _ => true
  | .int _ => true
  | .str _ => true
  | .tuple xs => tuplesOnlyAll xs
  | _ => false
def tuplesOnlyAll : List PyData → Bool
  | [] => true
  | x :: xs => tuplesOnly x && tuplesOnlyAll xs
end
/-- tuples stay where they stand -/
structure Kp (H H' : Hp) : Prop where
  tup : ∀ b xs, H b = some (.tup xs) → H' b = some (.tup xs)
  frz : ∀ b o xs, H b = some (.frz o (.tup xs)) → H' b = some (.frz o (.tup xs))
theorem Kp.refl (H : Hp) : Kp H H := ⟨fun _ _ h => h, fun _ _ _ h => h⟩
theorem Kp.trans {H H1 H2 : Hp} (a : Kp H H1) (b : Kp H1 H2) : Kp H H2 := ⟨fun c x h => b.tup c x (a.tup c x h), fun c o x h => b.frz c o x (a.frz c o x h)⟩
theorem Same.kp {H H' : Hp} (s : Same H H') : Kp H H' := ⟨fun c x h => s _ _ h, fun c o x h => s _ _ h⟩
theorem Fz.kp {t : Tp} {H H' : Hp} (s : Fz t.a H H') (T : TapeAt H t) : Kp H H' := by
  obtain ⟨ns, p, n, z, h1, _⟩ := T
  refine ⟨fun c x h => s _ _ ?_ h, fun c o x h => s _ _ ?_ h⟩ <;> (intro e; rw [e, h1] at h; cases h)
theorem Kp.upd {H : Hp} {l : Addr} {xs : List V} {o : HO} (h : H l = some (.lst xs)) : Kp H (upd H l o) := by
  refine ⟨fun c x e => ?_, fun c u x e => ?_⟩ <;> (rw [upd_ne (ne_of e h (by intro z; cases z))]; exact e)
theorem Kp.new {H : Hp} {l : Addr} {o : HO} (h : H l = none) : Kp H (L2.upd H l o) := Same.kp (same_upd h)
theorem Kp.sqT {K : PySem.W.Frag} {H H' : Hp} {a : Addr} {xs : List V} (k : Kp H H') (h : SqT K H a xs) : SqT K H' a xs := by
  rcases h with (h | ⟨o, h⟩) | h
  · exact .inl (.inl (k.tup _ _ h))
  · exact .inl (.inr ⟨o, k.frz _ _ _ h⟩)
  · exact .inr h
mutual
theorem Dp.kp {K : PySem.W.Frag} {H H' : Hp} (k : Kp H H') : ∀ (d : PyData) (v : V), tuplesOnly d = true → Dp K H v d → Dp K H' v d
  | .none, _, _, h => by cases h; exact .non
  | .bool _, _, _, h => by cases h; exact .bl _
  | .int _, _, _, h => by cases h; exact .int _
  | .str _, _, _, h => by cases h; exact .str _
  | .list _, _, t, _ => by simp [tuplesOnly] at t
  | .dict _, _, t, _ => by simp [tuplesOnly] at t
  | .tuple ds, _, t, h => by
    cases h with
    | tup hs ha => exact .tup (k.sqT hs) (DpAll.kp k ds _ (by simpa [tuplesOnly] using t) ha)
theorem DpAll.kp {K : PySem.W.Frag} {H H' : Hp} (k : Kp H H') : ∀ (ds : List PyData) (vs : List V), tuplesOnlyAll ds = true → DpAll K H vs ds → DpAll K H' vs ds
  | [], _, _, h => by cases h; exact .nil
  | d :: ds, _, t, h => by
    cases h with
    | cons h1 h2 =>
      have t' : tuplesOnly d = true ∧ tuplesOnlyAll ds = true := by simpa [tuplesOnlyAll] using t
      exact .cons (Dp.kp k d _ t'.1 h1) (DpAll.kp k ds _ t'.2 h2)
end
end Ind
namespace L2
open PySem PySem.Spec PyProof.Rows
theorem DpAll.len {K : PySem.W.Frag} {H : Hp} : ∀ {ds : List PyData} {vs : List V}, DpAll K H vs ds → vs.length = ds.length
  | [], _, h => by cases h; rfl
  | d :: ds, _, h => by
    cases h with
    | cons _ h2 => rw [List.length_cons, List.length_cons, DpAll.len h2]
theorem DpAll.get {K : PySem.W.Frag} {H : Hp} : ∀ {ds : List PyData} {vs : List V} {i : Nat} {d : PyData}, DpAll K H vs ds → ds[i]? = some d → ∃ v, vs[i]? = some v ∧ Dp K H v d
  | [], _, _, _, _, e => by simp at e
  | d :: ds, _, 0, _, h, e => by
    cases h with
    | cons h1 _ =>
      simp only [List.getElem?_cons_zero, Option.some.injEq] at e
      subst e
      exact ⟨_, rfl, h1⟩
  | d :: ds, _, i + 1, _, h, e => by
    cases h with
    | cons _ h2 =>
      obtain ⟨v, q, r⟩ := DpAll.get h2 (show ds[i]? = some _ by simpa using e)
      exact ⟨v, by simpa using q, r⟩
theorem DpAll.app {K : PySem.W.Frag} {H : Hp} : ∀ {ds es : List PyData} {vs ws : List V}, DpAll K H vs ds → DpAll K H ws es → DpAll K H (vs ++ ws) (ds ++ es)
  | [], _, _, _, h, g => by cases h; exact g
  | d :: ds, _, _, _, h, g => by
    cases h with
    | cons h1 h2 => exact .cons h1 (DpAll.app h2 g)
theorem Dp.tup_inv {K : PySem.W.Frag} {H : Hp} {v : V} {ds : List PyData} (h : Dp K H v (.tuple ds)) : ∃ a xs, v = .ref a ∧ SqT K H a xs ∧ DpAll K H xs ds := by
  cases h with
  | tup hs ha => exact ⟨_, _, rfl, hs, ha⟩
theorem Dp.str_inv {K : PySem.W.Frag} {H : Hp} {v : V} {x : PySem.Str} (h : Dp K H v (.str x)) : v = .str x := by cases h; rfl
theorem Dp.int_inv {K : PySem.W.Frag} {H : Hp} {v : V} {x : Int} (h : Dp K H v (.int x)) : v = .int x := by cases h; rfl
end L2
namespace Ind
open PySem PySem.Spec PyProof.Rows L2
/-! ### repr of data, where no repr is under way -/
def rReprD (K : PySem.W.Frag) : List V → Hp → VK → Prop := fun xs H Q => ∃ x d, xs = [x] ∧ Dp K H x d ∧ d.showable = true ∧ d.hasDict = false ∧ d.depth ≤ 60 ∧ d.shown.length ≤ sizeLine ∧ Q (.str d.shown) H
section
variable {X : Cx}
theorem call_reprD (hg : X.A.guards = some []) (hu : X.A.units + 64 < cLine) : CallR X (.builtin "repr") (rReprD X.K) := by
  intro pins s σ H xs us Q I r h
  obtain ⟨x, d, rfl, hd, hs, nd, dep, len, q⟩ := h
  obtain ⟨u, rfl, ru⟩ := vals1 r
  cases x with
  | ref a =>
    obtain ⟨as, rd⟩ := Dp.reads I d _ u hd ru
    cases (show u = Value.ref a from ru)
    refine repr_of_reads' rd hs (fun e => by rw [nd] at e; cases e) hg (by omega) (fun _ _ e => e) (fun h' u' tk keep => ?_) len
    exact ⟨.str d.shown, H, I.kept keep, ⟨_, rfl⟩, q⟩
  | int i =>
    cases hd
    obtain ⟨t, rfl⟩ := (show ∃ t, u = Value.int i t from ru)
    exact PySem.P.repr_of_int (by simpa [PyData.showable] using hs) ⟨.str (toString i), H, I.tok _, ⟨_, rfl⟩, q⟩
  | str z =>
    cases hd
    obtain ⟨t, rfl⟩ := (show ∃ t, u = Value.str z t from ru)
    exact PySem.P.repr_of_str ⟨.str (reprText z), H, I.tok _, ⟨_, rfl⟩, q⟩ len
  | bl b =>
    cases hd
    cases (show u = Value.bool b from ru)
    exact PySem.P.repr_of_bool ⟨.str (if b then "True" else "False"), H, I.tok _, ⟨_, rfl⟩, q⟩
  | non =>
    cases hd
    cases (show u = Value.none from ru)
    exact PySem.P.repr_of_none ⟨.str "None", H, I.tok _, ⟨_, rfl⟩, q⟩
  | _ => cases hd
/-- tuple(xs): the new object is known to have no dict -/
theorem call_tupleZ : CallR X (.type "tuple") (fun xs H Q => ∃ p ys, xs = [.ref p] ∧ SqL X.K H p ys ∧ ∀ l o, H l = none → o.dict = none → Q (.ref l) (upd H l (.frz o (.tup ys)))) := by
  intro pins s σ H xs us Q I r h
  obtain ⟨p, ys, rfl, hq, q⟩ := h
  obtain ⟨u, rfl, rx⟩ := vals1 r
  cases rx
  obtain ⟨its, rv, pl, small⟩ := I.list hq
  have same := rv.length
  apply call_tuple_list pl.isList
  · intro h' kp
    have I1 : Inv X pins σ H { s with heap := h' } := I.kept (t' := s.toks) kp
    let o : Obj := { cls := .type "tuple", data := .seq its.toArray }
    have at_ : (h'.push o).get? h'.objs.size = some o := Heap.get?_push_size _ rfl
    have I2 : Inv X pins σ (upd H h'.objs.size (.frz o (.tup ys))) { s with heap := h'.push o } := by
      apply I1.laid (t' := s.toks) (fun b ob e => Heap.get?_push_of_some _ e) (Nat.le_refl _)
      exact ⟨at_, small, its, rv, IsTup.new _ _⟩
    exact ⟨.ref h'.objs.size, _, I2, rfl, q _ o (I1.hok.fresh (Nat.le_refl _)) rfl⟩
/-- dict(t), t such a tuple of pairs -/
def rDictT (K : PySem.W.Frag) : List V → Hp → VK → Prop := fun xs H Q => ∃ (a : Addr) (o : Obj) (ps : List Addr) (kvs : List (Key × V)), xs = [.ref a] ∧ H a = some (.frz o (.tup (ps.map V.ref))) ∧ o.dict = none ∧
  Paired (fun p kv => SqT K H p [kV kv.1, kv.2]) ps kvs ∧ ∀ p, H p = none → Q (.ref p) (upd H p (.dK (mergeK [] kvs)))
theorem call_dictT (calm : X.calm = true) : CallR X (.type "dict") (rDictT X.K) := by
  intro pins s σ H xs us Q I r h
  obtain ⟨a, o, ps, kvs, rfl, ha, nod, hp, q⟩ := h
  obtain ⟨u, rfl, ru⟩ := vals1 r
  cases (show u = Value.ref a from ru)
  obtain ⟨ho, small, its, rv, o', ho', hc, n, hdat⟩ := I.hok a _ ha
  rw [ho] at ho'
  cases ho'
  have ei := refs_at rv
  subst ei
  obtain ⟨prs, rel, hl, hpr⟩ := pairs_of I hp
  rw [List.length_map] at small
  -- the pairs as values
  have vals : ∃ vps : List (Value × Value), vps.length = ps.length ∧ PairItems s.heap (ps.map Value.ref).toArray (fun j => ps.getD j 0) vps ∧ ∀ (j : Nat) (k v : Value), vps[j]? = some (k, v) → ∃ kk, prs[j]? = some (kk, v) ∧ keyIs kk k = true := by
    have aux : ∀ j, j < ps.length → ∃ kv : Value × Value, (∃ kk, prs[j]? = some (kk, kv.2) ∧ keyIs kk kv.1 = true) ∧ IsTup s.heap (ps.getD j 0) #[kv.1, kv.2] := by
      intro j hj
      obtain ⟨qv, eq⟩ : ∃ qv, prs[j]? = some qv := ⟨prs[j], List.getElem?_eq_getElem (by omega)⟩
      obtain ⟨b, u, e1, e2, e3⟩ := hpr j qv eq
      have eb : ps.getD j 0 = b := by rw [List.getD_eq_getElem?_getD, e1]; rfl
      exact ⟨(u, qv.2), ⟨qv.1, eq, e3⟩, by rw [eb]; exact e2⟩
    refine ⟨(List.range ps.length).map (fun j => if hj : j < ps.length then Classical.choose (aux j hj) else (.none, .none)), by simp, ⟨by simp, ?_⟩, ?_⟩
    · intro j k v e
      rw [List.getElem?_map] at e
      cases er : (List.range ps.length)[j]? with
      | none => rw [er] at e; cases e
      | some i =>
        obtain ⟨hi, ei⟩ := List.getElem?_eq_some_iff.mp er
        rw [List.getElem_range] at ei
        subst ei
        have hj : j < ps.length := by simpa using hi
        rw [er] at e
        simp only [Option.map_some, hj, dif_pos, Option.some.injEq] at e
        have sp := Classical.choose_spec (aux j hj)
        rw [e] at sp
        refine ⟨?_, .inl sp.2⟩
        simp [hj, List.getD_eq_getElem?_getD]
    · intro j k v e
      rw [List.getElem?_map] at e
      cases er : (List.range ps.length)[j]? with
      | none => rw [er] at e; cases e
      | some i =>
        obtain ⟨hi, ei⟩ := List.getElem?_eq_some_iff.mp er
        rw [List.getElem_range] at ei
        subst ei
        have hj : j < ps.length := by simpa using hi
        rw [er] at e
        simp only [Option.map_some, hj, dif_pos, Option.some.injEq] at e
        have sp := Classical.choose_spec (aux j hj)
        rw [e] at sp
        exact sp.1
  obtain ⟨vps, vl, vi, vk⟩ := vals
  refine PySem.call_dict_pairs (knd := mixKind X.prog X.w) (kvs := prs) (PairArg.tuple a _ _ vps) (I.ok.hd calm) ⟨⟨o, n, ho, hc, nod, hdat⟩, vi⟩ ⟨by rw [hl, vl], fun i key v e => ?_⟩ (by rw [vl]; exact small) fun h' tk hd' keep => ?_
  · obtain ⟨kk, e1, e2⟩ := vk i key v e
    exact ⟨kk, e1, e2⟩
  · have hm : (s.heap.objs.size == sysModules) = false := beq_eq_false_iff_ne.mpr (Nat.ne_of_gt I.big)
    have hlen : (mergeK [] kvs).length ≤ sizeLine := by
      have l1 := length_mergeK kvs []
      have l2 := rel.length
      rw [List.length_nil, Nat.zero_add] at l1
      omega
    have keep' : ∀ b ob, s.heap.get? b = some ob → h'.get? b = some ob := fun b ob e => keep b ob (by simp) e
    refine ⟨.ref s.heap.objs.size, upd H s.heap.objs.size (.dK (mergeK [] kvs)), ?_, rfl, q _ (I.hok.fresh (Nat.le_refl _))⟩
    exact I.laid (t' := tk) keep' (Nat.le_refl _) (show ObjOk X.prog X.w _ _ _ (.dK (mergeK [] kvs)) from ⟨hlen, hm, merged [] prs, KV.merge rel .nil, hd'⟩)
/-- t.index(x) of texts -/
def rTIndex (K : PySem.W.Frag) : V → List V → Hp → VK → Prop := fun x xs H Q => ∃ (a : Addr) (ys : List PySem.Str) (y : PySem.Str), x = .ref a ∧ xs = [.str y] ∧ SqT K H a (ys.map V.str) ∧ y ∈ ys ∧ Q (.int (ys.idxOf y : Nat)) H
theorem mt_tindex : MtR X "tuple.index" (rTIndex X.K) := by
  intro pins s σ H x xs v us Q I rx rxs h
  obtain ⟨a, ys, y, rfl, rfl, hs, hy, q⟩ := h
  cases rx
  obtain ⟨u, rfl, ru⟩ := vals1 rxs
  obtain ⟨t, rfl⟩ := (show ∃ t, u = Value.str y t from ru)
  obtain ⟨its, rv, pl, _⟩ := I.tuple hs
  have sa := Vals.strs rv
  exact SeqAt.call_tuple_index pl (SeqAt.ItemsEq.strs sa) hy ⟨.int _, H, I.tok _, ⟨_, rfl⟩, q⟩
end
end Ind

set_option Elab.async false
set_option linter.all false
set_option maxRecDepth 100000
set_option maxHeartbeats 4000000
namespace IndEnd
open PySem PySem.Spec PyProof.Rows L2
/-- a def called where the caller stands: its body's reading is asked at this Around alone -/
theorem fun_at {P : Program} {w : World} {K : PySem.W.Frag} {mg : Str → Option Value} {base : Heap} {x qual : Str} {st : Stmt} {f : Addr} {fd : FuncData} {N ps : List Str} {k : Nat} {A : Around} {outer : List Env} {s : Shared} {H : Hp} {us : List Value} {vs : List V} {Q : VK}
    (F : Fun K x qual st f fd) (S : FnScope N ps (defScope st)) (room : Room (k + 1) A) (e0 : Env0 P w K mg base A outer s H) (bt : BindsTo s fd ⟨us, []⟩ (ps.zip us)) (rv : Vals vs us) (len : vs.length = ps.length)
    (body : ∀ cdv : Value, Room k (A.deeper (envOfC qual (defScope st) s.heap.objs.size f cdv)) →
      ∃ t, PSs (cxOf CX0 P w K mg base N qual (defScope st) f cdv A outer s H E0).nox (defBody st) t ∧ t { nx := fun _ H' => Q .non H', rt := Q } (start N vs) H) :
    codeAny (model P w) A (.call (.ref f) ⟨us, []⟩) (CR CX0 outer P w H s Q E0) s := by
  obtain ⟨oc, od, kV, doc, pm, an, cdv, ct, osl, rfl, lk, cin⟩ := F.ex
  have keep : ∀ b o, base.get? b = some o → s.heap.get? b = some o := fun b o e => (e0.bs b o e).1
  have KX : K.In s.heap := e0.mod.kin.keeps keep
  have kinds : ∀ y ∈ ps.zip us, (defScope st).names.lookup y.1 = some .local ∨ ((defScope st).names.lookup y.1 = some .cell ∧ ((cellsFrom (s.heap.objs.size + 1) (defScope st).names []).lookup y.1).isSome = true) := by
    rintro ⟨n, v⟩ hy
    have hn : n ∈ ps := (List.of_mem_zip hy).1
    cases S.par n hn with
    | inl q => exact .inl q
    | inr q => exact .inr ⟨q, PySem.W.cellsFrom_some _ _ _ (.inl q)⟩
  apply codeAny_call_function room.depth (KX _ _ lk) rfl S.co S.gen rfl (PySem.W.codeRec_of KX cin)
  apply bt
  apply wpAny_newFunctionEnv_cells S.kind kinds
  intro env he s1 ic
  subst he
  have lim := (e0.mod.nolimit.keeps keep).keeps ic.toInCall.keep
  refine ⟨lim, codeAny_func ?_⟩
  obtain ⟨t, ht, hq⟩ := body cdv (room.deeper _)
  have I := inv_start (CX := CX0) (E := E0) S room.hd e0 len rv ic
  refine wpAny_mono (ht.nox.run [] s1 _ H _ I hq) ?_ (fun _ _ z => z)
  intro fl s' hs
  cases fl with
  | ret u => obtain ⟨v, σ', H', J, r, q⟩ := hs; exact ⟨v, H', J.os, J.bare, J.base, J.hok, r, q⟩
  | next => obtain ⟨σ', H', J, q⟩ := hs; exact ⟨V.non, H', J.os, J.bare, J.base, J.hok, rfl, q⟩
  | brk => obtain ⟨_, _, _, q⟩ := hs; exact q.elim
  | cont => obtain ⟨_, _, _, q⟩ := hs; exact q.elim

/-- what is tracked ahead of the law: the script, frozen, or nothing (it is an object of the written part) -/
def start0 (K : PySem.W.Frag) (a : Addr) (o : Obj) (ns : List Int) : Hp := fun b =>
  if b = a ∧ K.lookup a = none then some (.frz o (.lst (ns.map V.int))) else none
theorem start0_some {K : PySem.W.Frag} {a b : Addr} {o : Obj} {ns : List Int} {u : HO} (h : start0 K a o ns b = some u) : b = a ∧ K.lookup a = none ∧ u = .frz o (.lst (ns.map V.int)) := by
  unfold start0 at h
  split at h
  · rename_i c; cases h; exact ⟨c.1, c.2, rfl⟩
  · cases h
theorem law_go {P : Program} {w : World} {K : PySem.W.Frag} {mg mb : Str → Option Value} {fa a : Addr} {s₁ : Shared} {vs : List Value} {ns : List Int}
    (KX : K.In s₁.heap) (hns : s₁.heap.Ns mainGlobals mg) (hb : s₁.heap.Ns builtinsNs mb) (hbb : ∀ x : Str, x ≠ "__name__" → mb x = bootBuiltins x) (hlim : s₁.heap.NoLimit) (hg : s₁.gens = #[])
    (ha : s₁.heap.get? a = some { cls := .type "list", data := .seq vs.toArray }) (hi : IntsAre vs ns) (hl : ns.length ≤ sizeLine)
    (F : ∀ base : Heap, K.In base → base.Ns mainGlobals mg → ∀ H : Hp, Env0 P w K mg base callerA [] s₁ H → SqL K H a (ns.map V.int) →
      codeAny (model P w) callerA (.call (.ref fa) ⟨[.ref a], []⟩) (CR CX0 [] P w H s₁ (fun v _ => v = .bl true) E0) s₁) :
    codeAny (model P w) callerA (.call (.ref fa) ⟨[.ref a], []⟩) (fun r s' => r = .ok (.ret (.bool true)) ∧ OldK s₁.heap s'.heap ∧ s'.os = s₁.os ∧ AllBare s'.gens) s₁ := by
  have rv := vals_ints hi
  have hlen := hi.length
  let o : Obj := { cls := .type "list", data := .seq vs.toArray }
  let H := start0 K a o ns
  have SQ : SqL K H a (ns.map V.int) := by
    cases hk : K.lookup a with
    | none => exact .inl (.inr ⟨o, by show start0 K a o ns a = _; unfold start0; rw [if_pos ⟨rfl, hk⟩]⟩)
    | some o' =>
      have e := KX a o' hk
      rw [ha] at e
      cases e
      refine .inr ⟨_, vs.toArray, _, hk, rfl, rfl, rfl, ?_, ?_⟩
      · rw [List.size_toArray, hlen]; exact hl
      · simpa using rv
  have OK : HOk P w H s₁.heap := fun b u e => by
    obtain ⟨rfl, _, rfl⟩ := start0_some e
    exact ⟨ha, by rw [List.length_map]; exact hl, vs, _, rv, ha⟩
  have under : ∀ {b : Addr} {ob : Obj}, s₁.heap.get? b = some ob → H b = none → (hidT s₁.heap H).get? b = some ob := fun e n => hidT_get e n
  have nsp : ∀ {b : Addr} {m : Str → Option Value}, s₁.heap.Ns b m → (hidT s₁.heap H).Ns b m := by
    rintro b m ⟨ob, es, ep, e, d, r⟩
    refine ⟨ob, es, ep, under e ?_, d, r⟩
    cases q : H b with
    | none => rfl
    | some u =>
      obtain ⟨rfl, _, _⟩ := start0_some q
      rw [ha] at e
      cases e
      cases d
  have KB : K.In (hidT s₁.heap H) := fun b ob e => under (KX b ob e) (by
    cases q : H b with
    | none => rfl
    | some u =>
      obtain ⟨rfl, n, _⟩ := start0_some q
      rw [n] at e
      cases e)
  have lim2 : (hidT s₁.heap H).NoLimit := by
    obtain ⟨mc, h1, h2⟩ := hlim
    exact ⟨mc, nsp h1, h2⟩
  have e0 : Env0 P w K mg (hidT s₁.heap H) callerA [] s₁ H := by
    refine ⟨rfl, ⟨KB, nsp hns, ⟨mb, nsp hb, hbb⟩, lim2⟩, fun b ob e => of_hidT e, Nat.le_of_eq (hidT_size _ _), trivial, fun b z => ?_, OK, .of_eq hg⟩
    exact absurd (show b ∈ ([] : List Addr) from z) (by simp)
  refine codeAny_mono (F _ KB (nsp hns) H e0 SQ) fun r s' h => ?_
  match r, h with
  | .error e, h => exact h.elim
  | .ok (.next), h => exact False.elim h
  | .ok (.brk), h => exact False.elim h
  | .ok (.cont), h => exact False.elim h
  | .ok (.ret u), h =>
    obtain ⟨v, H', os, bare, un, ok', rel, q⟩ := h
    have q1 : v = .bl true := q
    subst q1
    have q2 : u = Value.bool true := rel
    subst q2
    refine ⟨rfl, OldK.of_keep fun b ob e => ?_, os, bare⟩
    cases q : H b with
    | none => exact un.keep b ob e q (fun z => absurd (show b ∈ ([] : List Addr) from z) (by simp)) (by simp)
    | some u =>
      obtain ⟨rfl, _, rfl⟩ := start0_some q
      obtain ⟨z, _⟩ := ok' b _ (un.frzs b _ _ q)
      rw [ha] at e
      cases e
      exact z
/-- the goal that k_head leaves -/
theorem walk_at_caller {l : PySem.W.OpenLaw} {n : Nat} {q : Program} {loose : List Str} {XP : (Str → Option Value) → Heap → Prop} {YP : World → Heap → Prop} {d : DefRec} {K : Params → PySem.W.Frag}
    (hn : l.most = some n) (hn2 : n ≤ sizeLine) (hdf : d.params.defaults = []) (hY : ∀ (w : World) (h : Heap), YP w h → (K w.params).In h)
    (F : ∀ (w : World) (mg : Str → Option Value) (fa : Addr) (h : Heap), (K w.params).In h → h.Ns mainGlobals mg → mg d.name = some (.ref fa) →
      ∀ (base : Heap) (s : Shared) (H : Hp) (a : Addr) (ns : List Int), (K w.params).In base → base.Ns mainGlobals mg → Env0 l.prog w (K w.params) mg base callerA [] s H → ns.length ≤ n → SqL (K w.params) H a (ns.map V.int) →
        codeAny (model l.prog w) callerA (.call (.ref fa) ⟨[.ref a], []⟩) (CR CX0 [] l.prog w H s (fun v _ => v = .bl true) E0) s) :
    PySem.W.WalkO q loose XP YP l.row.toRowW d [] (fun f vs => PySem.call f vs) := by
  apply Att.attach_call hn hdf
  intro w s₀ s₁ mg mb fa o pm cd doc a vs ns G Y ho hd hcd hmg hobj hints hlen hg
  have KX := hY w _ Y
  exact law_go KX G.T.g G.T.b G.T.builtins G.T.nolimit hg hobj hints (Nat.le_trans hlen hn2) fun base hk hb H e0 hS => F w mg fa _ KX G.T.g hmg base s₁ H a ns hk hb e0 hlen hS
end IndEnd

set_option Elab.async false
set_option linter.all false
set_option maxRecDepth 100000
set_option maxHeartbeats 4000000
namespace Ind
open PySem PySem.Spec PyProof.Rows L2
abbrev S := PySem.Str
/-! ### the data of expressions -/
inductive Op where
  | col (n : S)
  | num (i : Int)
  | txt (x : S)
def Op.d : Op → PyData
  | .col n => .tuple [.str "column", .str n]
  | .num i => .tuple [.str "integer", .int i]
  | .txt x => .tuple [.str "string", .str x]
abbrev Kd := Option Int
def kdD : Kd → PyData
  | none => .tuple [.str "string"]
  | some b => .tuple [.str "integer", .int b]
abbrev Col := S × Kd
def colD (c : Col) : PyData := .tuple [.str c.1, kdD c.2]
structure Tm where
  plus : Bool
  op : Op
def sgS : Bool → S
  | true => "+"
  | false => "-"
def Tm.d (t : Tm) : PyData := .tuple [.str (sgS t.plus), t.op.d]
def exD (ts : List Tm) : PyData := .tuple (ts.map Tm.d)
theorem tO_op (o : Op) : tuplesOnly o.d = true := by cases o <;> rfl
theorem tO_kd (k : Kd) : tuplesOnly (kdD k) = true := by cases k <;> rfl
theorem tO_col (c : Col) : tuplesOnly (colD c) = true := by
  show (true && (tuplesOnly (kdD c.2) && true)) = true
  rw [tO_kd]; rfl
theorem tO_tm (t : Tm) : tuplesOnly t.d = true := by
  show (true && (tuplesOnly t.op.d && true)) = true
  rw [tO_op]; rfl
theorem tO_all {α : Type} (f : α → PyData) (h : ∀ a, tuplesOnly (f a) = true) : ∀ l : List α, tuplesOnlyAll (l.map f) = true
  | [] => rfl
  | a :: l => by
    show (tuplesOnly (f a) && tuplesOnlyAll (l.map f)) = true
    rw [h, tO_all f h l]; rfl
theorem tO_ex (ts : List Tm) : tuplesOnly (exD ts) = true := tO_all _ tO_tm ts
def KdOk : Kd → Prop
  | none => True
  | some b => 0 ≤ b ∧ b ≤ 1000000000000
structure ColsOk (cs : List Col) : Prop where
  nd : (cs.map (·.1)).Nodup
  kd : ∀ c ∈ cs, KdOk c.2
  len : cs.length ≤ 10
  nm : ∀ c ∈ cs, TxtOk c.1
/-- the columns as they stand -/
def ColsAt (K : PySem.W.Frag) (H : Hp) (v : V) (cs : List Col) : Prop := ∃ (a : Addr) (o : Obj) (ps : List Addr), v = .ref a ∧ H a = some (.frz o (.tup (ps.map V.ref))) ∧ o.dict = none ∧ DpAll K H (ps.map V.ref) (cs.map colD)
theorem ColsAt.kp {K : PySem.W.Frag} {H H' : Hp} {v : V} {cs : List Col} (k : Kp H H') (h : ColsAt K H v cs) : ColsAt K H' v cs := by
  obtain ⟨a, o, ps, e, h1, h2, h3⟩ := h
  exact ⟨a, o, ps, e, k.frz _ _ _ h1, h2, DpAll.kp k _ _ (tO_all _ tO_col cs) h3⟩
/-- the bound of an operand as the law reckons it -/
def opBound (cs : List Col) : Op → Int
  | .num i => if i < 0 then -i else i
  | .txt _ => 0
  | .col n => match cs.find? (fun c => decide (c.1 = n) && c.2.isSome) with
    | some (_, some b) => b
    | _ => 0
def OpInt (cs : List Col) : Op → Prop
  | .num i => -1000000 ≤ i ∧ i ≤ 1000000
  | .txt _ => False
  | .col n => ∃ b, (n, some b) ∈ cs
def OpTxt (cs : List Col) : Op → Prop
  | .num _ => False
  | .txt x => TxtOk x
  | .col n => (n, none) ∈ cs
def OpOk (cs : List Col) (word : Bool) (o : Op) : Prop := if word then OpTxt cs o else OpInt cs o
def wordS : Bool → S
  | true => "string"
  | false => "integer"
/-- an expression of the law's making -/
structure ExOk (cs : List Col) (word : Bool) (ts : List Tm) : Prop where
  ne : ts ≠ []
  first : ∀ t, ts.head? = some t → t.plus = true
  ops : ∀ t ∈ ts, OpOk cs word t.op
  one : word = true → ts.length = 1
  sum : (ts.map fun t => opBound cs t.op).sum ≤ 1000000000000
  len : ts.length ≤ 20
/-- the values of a row -/
def ValIn : Kd → V → Prop
  | none, .str x => TxtOk x
  | some b, .int i => -b ≤ i ∧ i ≤ b
  | _, _ => False
inductive RowIn : List Col → List V → Prop
  | nil : RowIn [] []
  | cons {c : Col} {v : V} {cs : List Col} {vs : List V} : ValIn c.2 v → RowIn cs vs → RowIn (c :: cs) (v :: vs)
theorem RowIn.len {cs : List Col} {vs : List V} (h : RowIn cs vs) : vs.length = cs.length := by induction h <;> simp_all
theorem RowIn.get : ∀ {cs : List Col} {vs : List V} {i : Nat} {c : Col}, RowIn cs vs → cs[i]? = some c → ∃ v, vs[i]? = some v ∧ ValIn c.2 v
  | _, _, _, _, .nil, e => by simp at e
  | _, _, 0, _, .cons h _, e => by
    simp only [List.getElem?_cons_zero, Option.some.injEq] at e
    subst e
    exact ⟨_, rfl, h⟩
  | _, _, i + 1, _, .cons _ t, e => by
    obtain ⟨v, q, r⟩ := RowIn.get t (show _ = some _ by simpa using e)
    exact ⟨v, by simpa using q, r⟩
theorem RowIn.snoc : ∀ {cs : List Col} {vs : List V} {c : Col} {v : V}, RowIn cs vs → ValIn c.2 v → RowIn (cs ++ [c]) (vs ++ [v])
  | _, _, _, _, .nil, h => .cons h .nil
  | _, _, _, _, .cons a t, h => .cons a (RowIn.snoc t h)
/-- an operand's value -/
def opVal (cs : List Col) (vs : List V) : Op → V
  | .num i => .int i
  | .txt x => .str x
  | .col n => vs.getD ((cs.map (·.1)).idxOf n) .non
def iOf : V → Int
  | .int i => i
  | _ => 0
def tmVal (cs : List Col) (vs : List V) (t : Tm) : Int := if t.plus then iOf (opVal cs vs t.op) else -iOf (opVal cs vs t.op)
/-- the value of an expression -/
def exVal (cs : List Col) (vs : List V) : List Tm → V
  | [t] => opVal cs vs t.op
  | ts => .int (ts.map (tmVal cs vs)).sum
def exKd (cs : List Col) (word : Bool) (ts : List Tm) : Kd := if word then none else some (ts.map fun t => opBound cs t.op).sum
/-! ### promises -/
def spName : Sp := fun vs H Q _ => ∃ (t : Tp), vs = [.ref t.a] ∧ TapeAt H t ∧ ∀ H' x, Fz t.a H H' → TapeAt H' t → TxtOk x → Q (.str x) H'
def spNames : Sp := fun vs H Q _ => ∃ (t : Tp) (m : Int), vs = [.ref t.a, .int m] ∧ TapeAt H t ∧ (0 ≤ m ∧ m ≤ 10) ∧ ∀ H' p (ns : List S), Fz t.a H H' → TapeAt H' t → H p = none → H' p = some (.lst (ns.map V.str)) → ns.Nodup → ns.length ≤ m.toNat → (∀ n ∈ ns, TxtOk n) → Q (.ref p) H'
def spNumber : Sp := fun vs H Q _ => ∃ (t : Tp), vs = [.ref t.a] ∧ TapeAt H t ∧ ∀ H' i, Fz t.a H H' → TapeAt H' t → (-1000000 ≤ i ∧ i ≤ 1000000) → Q (.int i) H'
def spKind (K : PySem.W.Frag) : Sp := fun vs H Q _ => ∃ (t : Tp), vs = [.ref t.a] ∧ TapeAt H t ∧ ∀ H' v k, Fz t.a H H' → TapeAt H' t → Dp K H' v (kdD k) → KdOk k → Q v H'
def spValue (K : PySem.W.Frag) : Sp := fun vs H Q _ => ∃ (t : Tp) (v : V) (k : Kd), vs = [.ref t.a, v] ∧ TapeAt H t ∧ Dp K H v (kdD k) ∧ KdOk k ∧ ∀ H' u, Fz t.a H H' → TapeAt H' t → ValIn k u → Q u H'
def spColumns (K : PySem.W.Frag) : Sp := fun vs H Q _ => ∃ (t : Tp) (m : Int), vs = [.ref t.a, .int m] ∧ TapeAt H t ∧ (0 ≤ m ∧ m ≤ 10) ∧ ∀ H' v cs, Fz t.a H H' → TapeAt H' t → ColsAt K H' v cs → ColsOk cs → Q v H'
def spBound (K : PySem.W.Frag) : Sp := fun vs H Q _ => ∃ (v c : V) (o : Op) (cs : List Col) (b : Bool), vs = [v, c] ∧ Dp K H v o.d ∧ ColsAt K H c cs ∧ ColsOk cs ∧ OpOk cs b o ∧ ∀ H', Same H H' → Q (.int (opBound cs o)) H'
def spOperand (K : PySem.W.Frag) : Sp := fun vs H Q _ => ∃ (t : Tp) (c : V) (cs : List Col) (b : Bool), vs = [.ref t.a, c, .str (wordS b)] ∧ TapeAt H t ∧ ColsAt K H c cs ∧ ColsOk cs ∧ ∀ H' v o, Fz t.a H H' → TapeAt H' t → Dp K H' v o.d → OpOk cs b o → Q v H'
def spExpression (K : PySem.W.Frag) : Sp := fun vs H Q _ => ∃ (t : Tp) (c : V) (cs : List Col) (b : Bool), vs = [.ref t.a, c, .str (wordS b), .int 11] ∧ TapeAt H t ∧ ColsAt K H c cs ∧ ColsOk cs ∧ ∀ H' v ts, Fz t.a H H' → TapeAt H' t → Dp K H' v (exD ts) → ExOk cs b ts → Q v H'
def spSum (K : PySem.W.Frag) : Sp := fun vs H Q _ => ∃ (v c : V) (ts : List Tm) (cs : List Col) (b : Bool), vs = [v, c] ∧ Dp K H v (exD ts) ∧ ts.length ≤ 20 ∧ ColsAt K H c cs ∧ ColsOk cs ∧ (∀ t ∈ ts, OpOk cs b t.op) ∧ ∀ H', Same H H' → Q (.int (ts.map fun t => opBound cs t.op).sum) H'
/-- names and a row as they stand -/
def NamesAt (K : PySem.W.Frag) (H : Hp) (v : V) (cs : List Col) : Prop := ∃ (a : Addr) (o : Obj), v = .ref a ∧ H a = some (.frz o (.tup (cs.map fun c => V.str c.1))) ∧ o.dict = none
def RowAt (K : PySem.W.Frag) (H : Hp) (v : V) (vs : List V) : Prop := ∃ a, v = .ref a ∧ SqT K H a vs
def spDue (K : PySem.W.Frag) : Sp := fun xs H Q _ => ∃ (e n r : V) (ts : List Tm) (cs : List Col) (vs : List V) (b : Bool), xs = [e, n, r] ∧ Dp K H e (exD ts) ∧ ExOk cs b ts ∧ ColsOk cs ∧ NamesAt K H n cs ∧ RowAt K H r vs ∧ RowIn cs vs ∧ ∀ H', Same H H' → Q (exVal cs vs ts) H'
/-- each column at most once, each constant with the sign of its term -/
structure Straight (cs : List Col) (ts : List Tm) : Prop where
  nd : (ts.filterMap fun t => match t.op with | .col n => some n | _ => none).Nodup
  signs : ∀ t ∈ ts, ∀ i, t.op = .num i → if t.plus then 0 ≤ i else i ≤ 0
def spStraight (K : PySem.W.Frag) : Sp := fun vs H Q _ => ∃ (t : Tp) (c : V) (cs : List Col), vs = [.ref t.a, c] ∧ TapeAt H t ∧ ColsAt K H c cs ∧ ColsOk cs ∧ ∀ H' v ts, Fz t.a H H' → TapeAt H' t → Dp K H' v (exD ts) → ExOk cs false ts → Straight cs ts → Q v H'
/-- the row that brings the expression to its bound -/
def farVal (ts : List Tm) (c : Col) (v : V) : V := ts.foldl (fun v t => match t.op, c.2 with | .col n, some b => if n = c.1 then (if t.plus then .int b else .int (-b)) else v | _, _ => v) v
def spFarthest (K : PySem.W.Frag) : Sp := fun xs H Q _ => ∃ (t : Tp) (c e : V) (cs : List Col) (ts : List Tm), xs = [.ref t.a, c, e] ∧ TapeAt H t ∧ ColsAt K H c cs ∧ ColsOk cs ∧ Dp K H e (exD ts) ∧ ExOk cs false ts ∧ ts.length ≤ 20 ∧
  ∀ H' r vs us, Fz t.a H H' → TapeAt H' t → RowAt K H' r vs → RowIn cs us → vs = (cs.zip us).map (fun p => farVal ts p.1 p.2) → Q r H'
end Ind

set_option Elab.async false
set_option linter.all false
set_option maxRecDepth 100000
set_option maxHeartbeats 4000000
namespace Ind
open PySem PySem.Spec PyProof.Rows L2
theorem pickT {ss : List S} {i : Int} (h0 : 0 ≤ i) (h1 : i < (ss.length : Int)) : ∃ x, atI (ss.map V.str) i = some (.str x) ∧ x ∈ ss := by
  have hlt : i.toNat < ss.length := by omega
  refine ⟨ss[i.toNat], at_of (show i = (i.toNat : Int) by omega) ?_, List.getElem_mem hlt⟩
  rw [List.getElem?_map, List.getElem?_eq_getElem hlt]
  rfl
abbrev nmSigns : S := "abcdefghijklmnopqrstuvwxyz0123456789_"
theorem nmSigns_len : nmSigns.length = 37 := by decide +kernel
theorem nm_all : ∀ c ∈ nmSigns.cps.toList, Sgn c := by decide +kernel
theorem nm_pick {i : Int} (h0 : 0 ≤ i) (h1 : i < 37) : ∃ c, atI nmSigns.cps.toList i = some c ∧ Sgn c := by
  obtain ⟨c, e, m⟩ := pickS (l := nmSigns.cps.toList) h0 (by rw [← codes_len, nmSigns_len]; omega)
  exact ⟨c, e, nm_all c m⟩
theorem flat_strs (ns : List S) : (ns.map V.str).all flatV = true := by
  rw [List.all_eq_true]
  intro v h
  obtain ⟨x, _, rfl⟩ := List.mem_map.mp h
  rfl
theorem inV_strs (x : S) (ns : List S) : inV (.str x) (ns.map V.str) = decide (x ∈ ns) := by
  unfold inV
  rw [List.any_map]
  by_cases h : x ∈ ns
  · rw [decide_eq_true h, List.any_eq_true]
    exact ⟨x, h, by simp [eqV]⟩
  · rw [decide_eq_false h, List.any_eq_false]
    intro y hy
    simp only [Function.comp, eqV]
    intro e
    exact h (by rw [← (beq_iff_eq.mp e : y = x)]; exact hy)
theorem txt_strOk {x : S} (h : TxtOk x) : PyData.strOk x = true := by
  unfold PyData.strOk
  rw [Array.all_eq_true']
  intro c hc
  have := (h.2 c (by simpa using hc)).2.1
  exact decide_eq_true (by omega)
end Ind

set_option Elab.async false
set_option linter.all false
set_option maxRecDepth 100000
set_option maxHeartbeats 4000000
namespace Ind
open PySem PySem.Spec PyProof.Rows L2
variable {K : PySem.W.Frag} {H : Hp}
theorem dp_one {v : V} {x : PyData} (h : Dp K H v (.tuple [x])) : ∃ a u, v = .ref a ∧ SqT K H a [u] ∧ Dp K H u x := by
  obtain ⟨a, xs, rfl, hs, hx⟩ := h.tup_inv
  cases hx with
  | cons h1 h2 => cases h2; exact ⟨a, _, rfl, hs, h1⟩
theorem dp_two {v : V} {x y : PyData} (h : Dp K H v (.tuple [x, y])) : ∃ a u1 u2, v = .ref a ∧ SqT K H a [u1, u2] ∧ Dp K H u1 x ∧ Dp K H u2 y := by
  obtain ⟨a, xs, rfl, hs, hx⟩ := h.tup_inv
  cases hx with
  | cons h1 h2 => cases h2 with
    | cons h2 h3 => cases h3; exact ⟨a, _, _, rfl, hs, h1, h2⟩
def wk : Kd → S
  | none => "string"
  | some _ => "integer"
theorem kd_at {v : V} {k : Kd} (h : Dp K H v (kdD k)) : ∃ a xs, v = .ref a ∧ SqT K H a (.str (wk k) :: xs) ∧ ∀ b, k = some b → xs = [.int b] := by
  cases k with
  | none =>
    obtain ⟨a, u, rfl, hs, h1⟩ := dp_one h
    cases h1.str_inv
    exact ⟨a, [], rfl, hs, fun b e => by cases e⟩
  | some b =>
    obtain ⟨a, u1, u2, rfl, hs, h1, h2⟩ := dp_two h
    cases h1.str_inv
    cases h2.int_inv
    exact ⟨a, _, rfl, hs, fun b e => by cases e; rfl⟩
def Op.word : Op → S
  | .col _ => "column"
  | .num _ => "integer"
  | .txt _ => "string"
def Op.cont : Op → V
  | .col n => .str n
  | .num i => .int i
  | .txt x => .str x
theorem op_at {v : V} {o : Op} (h : Dp K H v o.d) : ∃ a, v = .ref a ∧ SqT K H a [.str o.word, o.cont] := by
  cases o with
  | _ =>
    obtain ⟨a, u1, u2, rfl, hs, h1, h2⟩ := dp_two h
    cases h1.str_inv
    first | cases h2.str_inv | cases h2.int_inv
    exact ⟨a, rfl, hs⟩
theorem op_dp {a : Addr} {o : Op} (h : SqT K H a [.str o.word, o.cont]) : Dp K H (.ref a) o.d := by
  cases o with
  | col n => exact .tup h (.cons (.str _) (.cons (.str _) .nil))
  | num n => exact .tup h (.cons (.str _) (.cons (.int _) .nil))
  | txt n => exact .tup h (.cons (.str _) (.cons (.str _) .nil))
theorem tm_at {v : V} {t : Tm} (h : Dp K H v t.d) : ∃ a u, v = .ref a ∧ SqT K H a [.str (sgS t.plus), u] ∧ Dp K H u t.op.d := by
  obtain ⟨a, u1, u2, rfl, hs, h1, h2⟩ := dp_two h
  cases h1.str_inv
  exact ⟨a, u2, rfl, hs, h2⟩
theorem col_at {v : V} {c : Col} (h : Dp K H v (colD c)) : ∃ a u, v = .ref a ∧ SqT K H a [.str c.1, u] ∧ Dp K H u (kdD c.2) := by
  obtain ⟨a, u1, u2, rfl, hs, h1, h2⟩ := dp_two h
  cases h1.str_inv
  exact ⟨a, u2, rfl, hs, h2⟩
theorem map_get {α β : Type} {f : α → β} {l : List α} {i : Nat} {x : β} (h : (l.map f)[i]? = some x) : ∃ a, l[i]? = some a ∧ x = f a := by
  rw [List.getElem?_map] at h
  cases e : l[i]? with
  | none => rw [e] at h; cases h
  | some a => rw [e] at h; exact ⟨a, rfl, by cases h; rfl⟩
theorem take_more {α : Type} {l : List α} {i : Nat} {a : α} (h : l[i]? = some a) : l.take (i + 1) = l.take i ++ [a] := by
  rw [List.take_add_one, h]; rfl
theorem dps_get {vs : List V} {α : Type} {f : α → PyData} {l : List α} {i : Nat} {v : V} (h : DpAll K H vs (l.map f)) (e : vs[i]? = some v) : ∃ a, l[i]? = some a ∧ Dp K H v (f a) := by
  have hl : i < l.length := by
    have := h.len
    rw [List.length_map] at this
    rw [← this]
    exact (List.getElem?_eq_some_iff.mp e).1
  have el : (l.map f)[i]? = some (f l[i]) := by rw [List.getElem?_map, List.getElem?_eq_getElem hl]; rfl
  obtain ⟨v', e', d⟩ := h.get el
  rw [e] at e'
  cases e'
  exact ⟨l[i], List.getElem?_eq_getElem hl, d⟩
theorem ColsAt.tup {c : V} {cs : List Col} (h : ColsAt K H c cs) : ∃ (a : Addr) (ps : List Addr), c = .ref a ∧ SqT K H a (ps.map V.ref) ∧ DpAll K H (ps.map V.ref) (cs.map colD) := by
  obtain ⟨a, o, ps, e, h1, h2, h3⟩ := h
  exact ⟨a, ps, e, .inl (.inr ⟨o, h1⟩), h3⟩
theorem tO_cols (cs : List Col) : tuplesOnlyAll (cs.map colD) = true := tO_all _ tO_col cs
theorem tO_tms (ts : List Tm) : tuplesOnlyAll (ts.map Tm.d) = true := tO_all _ tO_tm ts
theorem opBound_find (cs : List Col) (n : S) (c : Col) (h : cs.find? (fun c => decide (c.1 = n) && c.2.isSome) = some c) (b : Int) (e : c.2 = some b) : opBound cs (.col n) = b := by
  obtain ⟨m, k⟩ := c
  cases e
  show (match cs.find? (fun c => decide (c.1 = n) && c.2.isSome) with | some (_, some b) => b | _ => 0) = b
  rw [h]
theorem word_int {o : Op} (h : o.word = "integer") : ∃ i, o = .num i := by
  cases o with
  | col n => exact absurd (show ("column" : S) = "integer" from h) (by decide)
  | num i => exact ⟨i, rfl⟩
  | txt x => exact absurd (show ("string" : S) = "integer" from h) (by decide)
theorem word_col {o : Op} (h : o.word = "column") : ∃ n, o = .col n := by
  cases o with
  | col n => exact ⟨n, rfl⟩
  | num i => exact absurd (show ("integer" : S) = "column" from h) (by decide)
  | txt x => exact absurd (show ("string" : S) = "column" from h) (by decide)
theorem word_txt {o : Op} (h : o.word = "string") : ∃ n, o = .txt n := by
  cases o with
  | col n => exact absurd (show ("column" : S) = "string" from h) (by decide)
  | num i => exact absurd (show ("integer" : S) = "string" from h) (by decide)
  | txt x => exact ⟨x, rfl⟩
theorem dstr {x y : S} (e : decide (V.str x = V.str y) = true) : x = y := by
  have e := of_decide_eq_true e
  injection e
theorem dstrN {x y : S} (e : decide (V.str x = V.str y) = false) : x ≠ y := by
  have e := of_decide_eq_false e
  exact fun z => e (by rw [z])
theorem wk_int {k : Kd} (h : wk k = "integer") : ∃ b, k = some b := by
  cases k with
  | none => exact absurd (show ("string" : S) = "integer" from h) (by decide)
  | some b => exact ⟨b, rfl⟩
theorem wk_txt {k : Kd} (h : wk k = "string") : k = none := by
  cases k with
  | none => rfl
  | some b => exact absurd (show ("integer" : S) = "string" from h) (by decide)
theorem wk_wordS {k : Kd} {b : Bool} (h : wk k = wordS b) : k.isSome = !b := by
  cases b with
  | false => obtain ⟨x, rfl⟩ := wk_int h; rfl
  | true => cases wk_txt h; rfl
theorem op_eqv (o : Op) (n : S) : o.d.eqv (Op.col n).d = true ↔ o = .col n := by
  cases o with
  | col m =>
    show ((("column" : S) == "column") && ((m == n) && true)) = true ↔ _
    simp
  | num m =>
    show ((("integer" : S) == "column") && (false && true)) = true ↔ _
    simp
  | txt m =>
    show ((("string" : S) == "column") && ((m == n) && true)) = true ↔ _
    rw [show (("string" : S) == "column") = false by decide]
    simp
theorem OpOk.str {cs : List Col} {b : Bool} {o : Op} (ok : ColsOk cs) (h : OpOk cs b o) : (∃ i, o = .num i) ∨ ∃ x, TxtOk x ∧ (o = .txt x ∨ o = .col x) := by
  cases o with
  | num i => exact .inl ⟨i, rfl⟩
  | txt x =>
    cases b with
    | true => exact .inr ⟨x, h, .inl rfl⟩
    | false => exact h.elim
  | col x =>
    refine .inr ⟨x, ?_, .inr rfl⟩
    cases b with
    | true => exact ok.nm _ (show (x, none) ∈ cs from h)
    | false =>
      obtain ⟨k, hk⟩ := (show ∃ k, (x, some k) ∈ cs from h)
      exact ok.nm _ hk
theorem shape_col {x : S} (h : TxtOk x) : SeqAt.shaped (Op.col x).d = true := by
  simp [Op.d, SeqAt.shaped]
  simp [PyData.canLay0, PyData.canLayAll0, PyData.depth, PyData.depthAll, txt_strOk h]
  decide +kernel
theorem op_shaped {cs : List Col} {b : Bool} {o : Op} (ok : ColsOk cs) (h : OpOk cs b o) : SeqAt.shaped o.d = true := by
  rcases h.str ok with ⟨i, rfl⟩ | ⟨x, hx, rfl | rfl⟩
  · simp [Op.d, SeqAt.shaped]
    simp [PyData.canLay0, PyData.canLayAll0, PyData.depth, PyData.depthAll]
    decide +kernel
  · simp [Op.d, SeqAt.shaped]
    simp [PyData.canLay0, PyData.canLayAll0, PyData.depth, PyData.depthAll, txt_strOk hx]
    decide +kernel
  · exact shape_col hx
theorem kd_shaped (o : Kd) : SeqAt.shaped (kdD o) = true := by
  cases o <;> simp [kdD, SeqAt.shaped] <;> simp [PyData.canLay0, PyData.canLayAll0, PyData.depth, PyData.depthAll] <;> decide +kernel
/-- the row of columns before the one that counts -/
theorem opBound_at {cs : List Col} {n : S} {k : Int} {i : Nat} (e : cs[i]? = some (n, some k)) (no : ∀ c ∈ cs.take i, ¬ (Op.col n = .col c.1 ∧ c.2.isSome = true)) : opBound cs (.col n) = k := by
  refine opBound_find cs n (n, some k) ?_ k rfl
  rw [List.find?_eq_some_iff_getElem]
  obtain ⟨hi, ei⟩ := List.getElem?_eq_some_iff.mp e
  refine ⟨by simp, i, hi, ei, fun j hj => ?_⟩
  have hm : cs[j]'(by omega) ∈ cs.take i := by
    rw [List.mem_take_iff_getElem]
    exact ⟨j, by omega, rfl⟩
  have := no _ hm
  cases hs : (cs[j]'(by omega)).2.isSome
  · simp [hs]
  · simp only [hs, Bool.and_true, Bool.not_eq_true', decide_eq_false_iff_not]
    intro ee
    exact this ⟨by rw [ee], hs⟩
theorem opBound_no {cs : List Col} {o : Op} (ni : ∀ i, o ≠ .num i) (no : ∀ c ∈ cs, ¬ (o = .col c.1 ∧ c.2.isSome = true)) : opBound cs o = 0 := by
  cases o with
  | num i => exact absurd rfl (ni i)
  | txt x => rfl
  | col n =>
    have : cs.find? (fun c => decide (c.1 = n) && c.2.isSome) = none := by
      rw [List.find?_eq_none]
      intro c hc
      have := no c hc
      cases hs : c.2.isSome
      · simp
      · simp only [Bool.and_true, decide_eq_true_eq]
        intro ee
        exact this ⟨by rw [ee], hs⟩
    show (match cs.find? (fun c => decide (c.1 = n) && c.2.isSome) with | some (_, some b) => b | _ => 0) = 0
    rw [this]
/-- the rules in a comprehension's own scope -/
theorem ixT {X : Cx} {K : PySem.W.Frag} (h : X.K = K) : IxR X (rIxT K) := h ▸ ix_tup
theorem ixL {X : Cx} {K : PySem.W.Frag} (h : X.K = K) : IxR X (rIxL K) := h ▸ ix_list
theorem Same.upd' {p : Addr} {H H' : Hp} {o : HO} (a : Same H H') (n : H p = none) : Same H (L2.upd H' p o) := fun b u h => by
  rw [upd_ne (ne_of_none h n)]; exact a b u h
theorem Fz.none {t b : Addr} {H H' : Hp} (f : Fz t H H') (n : b ≠ t) (e : H' b = Option.none) : H b = Option.none := by
  cases h : H b with
  | none => rfl
  | some o => rw [f b o n h] at e; cases e
theorem OpOk.mem {cs : List Col} {b : Bool} {n : S} (h : OpOk cs b (.col n)) : n ∈ cs.map (·.1) := by
  cases b with
  | true => exact List.mem_map.mpr ⟨_, (show (n, none) ∈ cs from h), rfl⟩
  | false =>
    obtain ⟨k, hk⟩ := (show ∃ k, (n, some k) ∈ cs from h)
    exact List.mem_map.mpr ⟨_, hk, rfl⟩
theorem row_at {cs : List Col} {vs : List V} {n : S} (r : RowIn cs vs) (h : n ∈ cs.map (·.1)) : vs[(cs.map (·.1)).idxOf n]? = some (opVal cs vs (.col n)) := by
  have hl := List.idxOf_lt_length_of_mem h
  rw [List.length_map, ← r.len] at hl
  show _ = some (vs.getD ((cs.map (·.1)).idxOf n) .non)
  rw [List.getElem?_eq_getElem hl, List.getD_eq_getElem?_getD, List.getElem?_eq_getElem hl]
  rfl
theorem op_cont {cs : List Col} {vs : List V} {o : Op} (h : ∀ n, o ≠ .col n) : o.cont = opVal cs vs o := by
  cases o with
  | col n => exact absurd rfl (h n)
  | num i => rfl
  | txt x => rfl
end Ind

set_option Elab.async false
set_option linter.all false
set_option maxRecDepth 100000
set_option maxHeartbeats 4000000
namespace Ind
open PySem PySem.Spec PyProof.Rows L2
/-! ### methods of a tuple that `tuple(..)` made -/
def tyZ (x : V) (H : Hp) : Prop := ∃ (p : Addr) (o : Obj) (xs : List V), x = .ref p ∧ H p = some (.frz o (.tup xs)) ∧ o.dict = none
def tBMZ (r : V → List V → Hp → VK → Prop) (to : TE) (t : TA) : TE := fun σ H Q =>
  to σ H fun x H1 => tyZ x H1 ∧ t σ H1 fun xs H2 => r x xs H2 Q
section
variable {X : Cx} {σ : L2.St} {H : Hp}
theorem tyZ_is {pins : List (Addr × Obj)} {s : Shared} {x : V} {v : Value} (I : Inv X pins σ H s) (r : RelV x v) (z : tyZ x H) :
    s.TypeIs v "tuple" ∧ ∀ a, v = .ref a → ∃ ob, s.heap.get? a = some ob ∧ ob.dict = none := by
  obtain ⟨p, o, xs, rfl, hp, nd⟩ := z
  cases r
  obtain ⟨h1, h2, its, rv, o', h3, hc, n, hd⟩ := I.hok p _ hp
  rw [h1] at h3
  cases h3
  exact ⟨⟨o, h1, hc⟩, fun a e => by cases e; exact ⟨o, h1, nd⟩⟩
variable {o e : Expr} {name : Str} {apos cpos : Pos} {id : String} {to : TE} {t : TA} {r : V → List V → Hp → VK → Prop}
theorem pe_bmZ (slot : Slot "tuple" name id) (hty : typeOf (.builtin id) = pure (.type "method_descriptor")) (hm : MtR X id r) (ho : PE X o to) (ha : PA X [e] t)
    (h1 : attributeBase o name X.env (eval o X.env) = eval o X.env := by rfl)
    (h2 : ((backTo cpos (starEach [e] X.env)).all (fun x => !x.1) && (backToKw cpos (keywordEach [] X.env)).all (fun x => x.1.isSome) && decide ([e].length + ([] : List Keyword).length + (if ([] : List Keyword).isEmpty then 0 else 1) < 30)) = true := by rfl)
    (h3 : (apos.endLine == cpos.line) = true := by rfl)
    (h4 : starEach [e] X.env = (false, eval e X.env) :: starEach [] X.env := by rfl)
    (h5 : (backTo cpos (starEach [] X.env)).any (·.1) = false := by rfl) : PE X (.Call (.Attribute o name apos) [e] [] cpos) (tBMZ r to t) := by
  constructor
  intro pins s σ H Q I h
  refine wpAny_Call_method_late h1 h2 h3 rfl ?_
  refine thn (ho.run pins s σ H _ I h) fun v s1 ⟨x, H1, I1, r1, ty, q1⟩ => ?_
  have tz := tyZ_is I1 r1 ty
  refine ⟨"tuple", id, PySem.F.plainAttrs_tuple, slot, hty, tz.1, tz.2, ?_⟩
  have run := ha.run cpos pins s1 σ H1 _ I1 q1
  rw [h4] at run ⊢
  refine Calls.callWith_builtin ?_ (Calls.evalArgs_plain (thn run fun us s2 ⟨vs, H2, I2, r2, q2⟩ => hm pins s2 σ H2 x vs v us Q I2 r1 r2 q2))
  show (false || (backTo cpos (starEach [] X.env)).any (·.1)) = false
  rw [h5] <;> rfl
end
end Ind

set_option Elab.async false
set_option linter.all false
set_option maxRecDepth 100000
set_option maxHeartbeats 4000000
namespace Ind
open PySem PySem.Spec PyProof.Rows L2
theorem idx_nodup {α : Type} [BEq α] [LawfulBEq α] : ∀ {l : List α}, l.Nodup → ∀ (j : Nat) (h : j < l.length), l.idxOf l[j] = j
  | a :: l, nd, 0, _ => by simp
  | a :: l, nd, j + 1, h => by
    rw [List.nodup_cons] at nd
    have h' : j < l.length := by simpa using h
    have ih := idx_nodup nd.2 j h'
    have ne : (a == l[j]) = false := by
      rw [beq_eq_false_iff_ne]
      intro e
      exact nd.1 (e ▸ List.getElem_mem h')
    show List.idxOf l[j] (a :: l) = j + 1
    rw [List.idxOf_cons, ne, cond_false, ih]
theorem col_ix {cs : List Col} (nd : (cs.map (·.1)).Nodup) {n : S} {k : Kd} (h : (n, k) ∈ cs) : ∃ j, cs[j]? = some (n, k) ∧ (cs.map (·.1)).idxOf n = j := by
  obtain ⟨j, hj, ej⟩ := List.getElem_of_mem h
  refine ⟨j, by rw [List.getElem?_eq_getElem hj, ej], ?_⟩
  have e1 : (cs.map (·.1))[j]'(by simpa using hj) = n := by rw [List.getElem_map, ej]
  have := idx_nodup nd j (by simpa using hj)
  rw [e1] at this
  exact this
theorem opBound_mem {cs : List Col} (nd : (cs.map (·.1)).Nodup) {n : S} {b : Int} (h : (n, some b) ∈ cs) : opBound cs (.col n) = b := by
  obtain ⟨j, ej, ij⟩ := col_ix nd h
  refine opBound_at ej ?_
  intro c hc z
  obtain ⟨i, hi, ei⟩ := List.getElem_of_mem hc
  have hi2 : i < j ∧ i < cs.length := by
    rw [List.length_take] at hi
    omega
  rw [List.getElem_take] at ei
  have z1 := z.1
  injection z1 with z1
  have e2 : (cs.map (·.1)).idxOf n = i := by
    have := idx_nodup nd i (by simpa using hi2.2)
    rw [List.getElem_map, ei, ← z1] at this
    exact this
  omega
theorem col_val {cs : List Col} {vs : List V} (ok : ColsOk cs) (ri : RowIn cs vs) {n : S} {k : Kd} (h : (n, k) ∈ cs) : ValIn k (opVal cs vs (.col n)) := by
  obtain ⟨j, ej, ij⟩ := col_ix ok.nd h
  have r := row_at ri (List.mem_map.mpr ⟨_, h, rfl⟩)
  obtain ⟨v, ev, hv⟩ := ri.get ej
  rw [ij, ev] at r
  cases r
  exact hv
theorem op_int {cs : List Col} {vs : List V} (ok : ColsOk cs) (ri : RowIn cs vs) {o : Op} (h : OpOk cs false o) : ∃ i, opVal cs vs o = .int i ∧ -opBound cs o ≤ i ∧ i ≤ opBound cs o := by
  cases o with
  | txt x => exact h.elim
  | num i =>
    refine ⟨i, rfl, ?_⟩
    show -(if i < 0 then -i else i) ≤ i ∧ i ≤ (if i < 0 then -i else i)
    split <;> omega
  | col n =>
    obtain ⟨b, hb⟩ := (show ∃ b, (n, some b) ∈ cs from h)
    have hv := col_val ok ri hb
    rw [opBound_mem ok.nd hb]
    cases e : opVal cs vs (.col n) with
    | int i => rw [e] at hv; exact ⟨i, rfl, hv⟩
    | _ => rw [e] at hv; exact hv.elim
theorem op_txt {cs : List Col} {vs : List V} (ok : ColsOk cs) (ri : RowIn cs vs) {o : Op} (h : OpOk cs true o) : ∃ x, opVal cs vs o = .str x ∧ TxtOk x := by
  cases o with
  | num i => exact h.elim
  | txt x => exact ⟨x, rfl, h⟩
  | col n =>
    have hv := col_val ok ri (show (n, none) ∈ cs from h)
    cases e : opVal cs vs (.col n) with
    | str x => rw [e] at hv; exact ⟨x, rfl, hv⟩
    | _ => rw [e] at hv; exact hv.elim
theorem exVal_many {cs : List Col} {vs : List V} {ts : List Tm} (h : ts.length ≠ 1) : exVal cs vs ts = .int (ts.map (tmVal cs vs)).sum := by
  match ts, h with
  | [], _ => rfl
  | [a], h => exact absurd rfl h
  | a :: b :: r, _ => rfl
theorem exVal_one {cs : List Col} {vs : List V} {ts : List Tm} (h : ts.length = 1) : ∃ t, ts = [t] ∧ exVal cs vs ts = opVal cs vs t.op := by
  match ts, h with
  | [a], _ => exact ⟨a, rfl, rfl⟩
/-- the terms with one sign -/
def sided (cs : List Col) (vs : List V) (p : Bool) (ts : List Tm) : List Int := (ts.filter (fun t => t.plus == p)).map fun t => iOf (opVal cs vs t.op)
theorem sided_sum (cs : List Col) (vs : List V) (ts : List Tm) : (sided cs vs true ts).sum - (sided cs vs false ts).sum = (ts.map (tmVal cs vs)).sum := by
  induction ts with
  | nil => rfl
  | cons t r ih =>
    obtain ⟨p, o⟩ := t
    cases p with
    | true =>
      have e1 : sided cs vs true (⟨true, o⟩ :: r) = iOf (opVal cs vs o) :: sided cs vs true r := rfl
      have e2 : sided cs vs false (⟨true, o⟩ :: r) = sided cs vs false r := rfl
      have e3 : tmVal cs vs ⟨true, o⟩ = iOf (opVal cs vs o) := rfl
      rw [e1, e2, List.map_cons, List.sum_cons, List.sum_cons, e3]
      omega
    | false =>
      have e1 : sided cs vs false (⟨false, o⟩ :: r) = iOf (opVal cs vs o) :: sided cs vs false r := rfl
      have e2 : sided cs vs true (⟨false, o⟩ :: r) = sided cs vs true r := rfl
      have e3 : tmVal cs vs ⟨false, o⟩ = -iOf (opVal cs vs o) := rfl
      rw [e1, e2, List.map_cons, List.sum_cons, List.sum_cons, e3]
      omega
theorem sided_more {cs : List Col} {vs : List V} {p : Bool} {ts : List Tm} {i : Nat} {t : Tm} (e : ts[i]? = some t) : sided cs vs p (ts.take (i + 1)) = sided cs vs p (ts.take i) ++ (if t.plus = p then [iOf (opVal cs vs t.op)] else []) := by
  unfold sided
  rw [take_more e, List.filter_append, List.map_append]
  congr 1
  rw [List.filter_cons]
  by_cases h : t.plus = p
  · rw [if_pos h, if_pos (by simpa using h)]; rfl
  · rw [if_neg h, if_neg (by simpa using h)]; rfl
theorem sided_len {cs : List Col} {vs : List V} {p : Bool} {ts : List Tm} : (sided cs vs p ts).length ≤ ts.length := by
  unfold sided
  rw [List.length_map]
  exact List.length_filter_le _ _
theorem Same.none {b : Addr} {H H' : Hp} (f : Same H H') (e : H' b = Option.none) : H b = Option.none := by
  cases h : H b with
  | none => rfl
  | some o => rw [f b o h] at e; cases e
theorem opBound_le {cs : List Col} {b : Bool} {o : Op} (ok : ColsOk cs) (h : OpOk cs b o) : 0 ≤ opBound cs o ∧ opBound cs o ≤ 1000000000000 := by
  cases o with
  | txt x => exact ⟨(by decide : (0 : Int) ≤ 0), (by decide : (0 : Int) ≤ 1000000000000)⟩
  | num i =>
    cases b with
    | true => exact h.elim
    | false =>
      have := (show -1000000 ≤ i ∧ i ≤ 1000000 from h)
      show 0 ≤ (if i < 0 then -i else i) ∧ (if i < 0 then -i else i) ≤ 1000000000000
      split <;> omega
  | col n =>
    show 0 ≤ (match cs.find? (fun c => decide (c.1 = n) && c.2.isSome) with | some (_, some b) => b | _ => 0) ∧ (match cs.find? (fun c => decide (c.1 = n) && c.2.isSome) with | some (_, some b) => b | _ => 0) ≤ 1000000000000
    split
    · rename_i m k e
      exact ok.kd _ (List.mem_of_find?_eq_some e)
    · exact ⟨by decide, by decide⟩
end Ind

set_option Elab.async false
set_option linter.all false
set_option maxRecDepth 100000
set_option maxHeartbeats 4000000
namespace Ind
open PySem PySem.Spec PyProof.Rows L2
/-! ### two ways that meet -/
theorem meet {c : Prop} [Decidable c] {tb : TS} {D : Ends} {σ0 : L2.St} {H0 : Hp} (G : L2.St → Hp → Prop) (rest : ∀ σ H, G σ H → D.nx σ H)
    (h1 : (∀ σ H, G σ H → D.nx σ H) → c → tb D σ0 H0) (h2 : ¬ c → G σ0 H0) : if c then tb D σ0 H0 else tNext D σ0 H0 := by
  by_cases h : c
  · rw [if_pos h]; exact h1 rest h
  · rw [if_neg h]; exact rest _ _ (h2 h)
theorem leave {D : Ends} {σ : L2.St} {H : Hp} (h : D.nx σ H) : tNext D σ H := h
theorem if_not {A B : Prop} (h : B) : if false = true then A else B := by rw [if_neg (by decide)]; exact h
/-- straight expressions under way -/
def colN (t : Tm) : Option S := match t.op with
  | .col n => some n
  | _ => none
structure StI (cs : List Col) (ts : List Tm) (fs : List S) (n : Int) (i : Nat) : Prop where
  ne : 0 < i → ts ≠ []
  first : ∀ t, ts.head? = some t → t.plus = true
  ops : ∀ t ∈ ts, OpOk cs false t.op
  sum : (ts.map fun t => opBound cs t.op).sum = n
  low : n ≤ 1000000000000
  len : ts.length ≤ i
  nd : (ts.filterMap colN).Nodup
  signs : ∀ t ∈ ts, ∀ j, t.op = .num j → if t.plus then 0 ≤ j else j ≤ 0
  left : ∀ f ∈ fs, ∃ b, (f, some b) ∈ cs
  fnd : fs.Nodup
  apart : ∀ f ∈ fs, f ∉ ts.filterMap colN
  few : fs.length ≤ 10
/-- an operand that may come next -/
structure Nxt (cs : List Col) (ts : List Tm) (fs : List S) (pl : Bool) (o : Op) : Prop where
  ok : OpOk cs false o
  sign : ∀ j, o = .num j → if pl then 0 ≤ j else j ≤ 0
  apart : ∀ n, o = .col n → n ∉ fs ∧ n ∉ ts.filterMap colN
theorem StI.same {cs : List Col} {ts : List Tm} {fs : List S} {n : Int} {i : Nat} (h : StI cs ts fs n i) (ne : ts ≠ []) : StI cs ts fs n (i + 1) :=
  ⟨fun _ => ne, h.first, h.ops, h.sum, h.low, Nat.le_succ_of_le h.len, h.nd, h.signs, h.left, h.fnd, h.apart, h.few⟩
theorem StI.less {cs : List Col} {ts : List Tm} {fs : List S} {n : Int} {i : Nat} (h : StI cs ts fs n i) (k : Nat) : StI cs ts (fs.eraseIdx k) n i :=
  ⟨h.ne, h.first, h.ops, h.sum, h.low, h.len, h.nd, h.signs, fun f m => h.left f (List.mem_of_mem_eraseIdx m), h.fnd.sublist (List.eraseIdx_sublist _ _), fun f m => h.apart f (List.mem_of_mem_eraseIdx m), Nat.le_trans (List.length_eraseIdx_le _ _) h.few⟩
theorem erase_out {fs : List S} (nd : fs.Nodup) : ∀ {k : Nat} {f : S}, fs[k]? = some f → f ∉ fs.eraseIdx k := by
  induction fs with
  | nil => intro k f e; simp at e
  | cons a r ih =>
    intro k f e
    rw [List.nodup_cons] at nd
    cases k with
    | zero =>
      simp only [List.getElem?_cons_zero, Option.some.injEq] at e
      subst e
      exact nd.1
    | succ k =>
      rw [List.getElem?_cons_succ] at e
      rw [List.eraseIdx_cons_succ, List.mem_cons, not_or]
      exact ⟨fun z => nd.1 (z ▸ List.mem_of_getElem? e), ih nd.2 e⟩
theorem StI.add {cs : List Col} {ts : List Tm} {fs : List S} {n : Int} {i : Nat} {pl : Bool} {o : Op} (h : StI cs ts fs n i) (x : Nxt cs ts fs pl o) (hp : i = 0 → pl = true) (l : n + opBound cs o ≤ 1000000000000) : StI cs (ts ++ [⟨pl, o⟩]) fs (n + opBound cs o) (i + 1) := by
  refine ⟨fun _ => by simp, ?_, ?_, ?_, l, ?_, ?_, ?_, h.left, h.fnd, ?_, h.few⟩
  · intro t ht
    cases ts with
    | nil =>
      have hi : i = 0 ∨ 0 < i := by omega
      rcases hi with hi | hi
      · cases ht; exact hp hi
      · exact absurd rfl (h.ne hi)
    | cons a r => exact h.first t ht
  · intro t ht
    rcases List.mem_append.mp ht with m | m
    · exact h.ops t m
    · cases List.mem_singleton.mp m; exact x.ok
  · rw [List.map_append, List.sum_append, h.sum]; simp
  · have := h.len
    simp; omega
  · rw [List.filterMap_append, List.nodup_append]
    refine ⟨h.nd, ?_, ?_⟩
    · cases o with
      | col m => exact (by show [m].Nodup; simp)
      | num j => exact (show ([] : List S).Nodup from List.nodup_nil)
      | txt y => exact (show ([] : List S).Nodup from List.nodup_nil)
    · intro a ha b hb e
      subst e
      cases o with
      | col m =>
        have : a = m := by simpa [colN] using hb
        subst this
        exact (x.apart a rfl).2 ha
      | num j => simp [colN] at hb
      | txt y => simp [colN] at hb
  · intro t ht j ej
    rcases List.mem_append.mp ht with m | m
    · exact h.signs t m j ej
    · cases List.mem_singleton.mp m; exact x.sign j ej
  · intro f hf
    rw [List.filterMap_append, List.mem_append, not_or]
    refine ⟨h.apart f hf, ?_⟩
    cases o with
    | col m =>
      intro hb
      have : f = m := by simpa [colN] using hb
      subst this
      exact (x.apart f rfl).1 hf
    | num j => simp [colN]
    | txt y => simp [colN]
theorem StI.out {cs : List Col} {ts : List Tm} {fs : List S} {n : Int} {i : Nat} (h : StI cs ts fs n i) (hi : 0 < i ∧ i ≤ 20) : ExOk cs false ts ∧ Straight cs ts :=
  ⟨⟨h.ne hi.1, h.first, h.ops, (fun e => by cases e), by rw [h.sum]; exact h.low, Nat.le_trans h.len hi.2⟩, ⟨h.nd, h.signs⟩⟩
theorem pick_ix {i : Int} {n : Nat} (h0 : 0 ≤ i) (h1 : i < (n : Int)) : seqIndex? i n = some i.toNat := PySem.StrLaws.seqIndex_nonneg h0 h1
theorem map_erase {α β : Type} (f : α → β) : ∀ (l : List α) (k : Nat), (l.map f).eraseIdx k = (l.eraseIdx k).map f
  | [], _ => rfl
  | a :: l, 0 => rfl
  | a :: l, k + 1 => by
    show f a :: (l.map f).eraseIdx k = f a :: (l.eraseIdx k).map f
    rw [map_erase f l k]
end Ind

set_option Elab.async false
set_option linter.all false
set_option maxRecDepth 100000
set_option maxHeartbeats 4000000
namespace Ind
open PySem PySem.Spec PyProof.Rows L2
theorem col_uniq {cs : List Col} (nd : (cs.map (·.1)).Nodup) {n : S} {k k' : Kd} (h : (n, k) ∈ cs) (h' : (n, k') ∈ cs) : k = k' := by
  obtain ⟨j, ej, ij⟩ := col_ix nd h
  obtain ⟨j', ej', ij'⟩ := col_ix nd h'
  have e : j = j' := by omega
  subst e
  rw [ej] at ej'
  cases ej'
  rfl
/-- one term's word on the value of a column -/
def farStep (c : Col) (v : V) (t : Tm) : V := match t.op, c.2 with
  | .col n, some b => if n = c.1 then (if t.plus then .int b else .int (-b)) else v
  | _, _ => v
theorem far_fold (ts : List Tm) (c : Col) (v : V) : farVal ts c v = ts.foldl (farStep c) v := rfl
theorem far_more {ts : List Tm} {i : Nat} {t : Tm} (e : ts[i]? = some t) (c : Col) (v : V) : farVal (ts.take (i + 1)) c v = farStep c (farVal (ts.take i) c v) t := by
  rw [far_fold, take_more e, List.foldl_append]
  rfl
theorem far_hit {c : Col} {v : V} {t : Tm} {b : Int} (e : t.op = .col c.1) (k : c.2 = some b) : farStep c v t = .int (if t.plus then b else -b) := by
  unfold farStep
  rw [e, k]
  simp
  split <;> rfl
theorem far_miss {c : Col} {v : V} {t : Tm} (e : t.op ≠ .col c.1) : farStep c v t = v := by
  unfold farStep
  split
  · rename_i n b e1 e2
    rw [if_neg (fun z => e (by rw [e1, z]))]
  · rfl
end Ind

set_option Elab.async false
set_option linter.all false
set_option maxRecDepth 100000
set_option maxHeartbeats 4000000
namespace Ind
open PySem PySem.Spec PyProof.Rows L2
/-! ### the dict of the kinds -/
inductive KvOf (K : PySem.W.Frag) (H : Hp) : List Col → List (Key × V) → Prop
  | nil : KvOf K H [] []
  | cons {c : Col} {u : V} {cs : List Col} {kvs : List (Key × V)} : Dp K H u (kdD c.2) → KvOf K H cs kvs → KvOf K H (c :: cs) ((.inr c.1, u) :: kvs)
variable {K : PySem.W.Frag} {H H' : Hp}
theorem KvOf.keys {cs : List Col} {kvs : List (Key × V)} (h : KvOf K H cs kvs) : kvs.map (·.1) = cs.map (fun c => (.inr c.1 : Key)) := by
  induction h with
  | nil => rfl
  | cons _ _ ih => rw [List.map_cons, List.map_cons, ih]
theorem KvOf.kp {cs : List Col} {kvs : List (Key × V)} (k : Kp H H') (h : KvOf K H cs kvs) : KvOf K H' cs kvs := by
  induction h with
  | nil => exact .nil
  | cons d _ ih => exact .cons (Dp.kp k _ _ (tO_kd _) d) ih
theorem KvOf.get {cs : List Col} {kvs : List (Key × V)} (h : KvOf K H cs kvs) (nd : (cs.map (·.1)).Nodup) {n : S} {k : Kd} (m : (n, k) ∈ cs) : ∃ u, valV kvs (.inr n) = some u ∧ Dp K H u (kdD k) := by
  induction h with
  | nil => cases m
  | cons d r ih =>
    rename_i c u cs kvs
    rw [List.map_cons, List.nodup_cons] at nd
    rcases List.mem_cons.mp m with e | m'
    · subst e
      exact ⟨u, valV_pos rfl, d⟩
    · obtain ⟨u', e1, d1⟩ := ih nd.2 m'
      have ne : ¬ ((.inr c.1 : Key)) = .inr n := fun e => by
        injection e with e
        exact nd.1 (e ▸ List.mem_map.mpr ⟨_, m', rfl⟩)
      refine ⟨u', ?_, d1⟩
      rw [valV_neg (p := ((.inr c.1 : Key), u)) ne]
      exact e1
theorem merge_new : ∀ (more acc : List (Key × V)), ((acc ++ more).map (·.1)).Nodup → mergeK acc more = acc ++ more
  | [], acc, _ => by rw [List.append_nil]; rfl
  | p :: r, acc, nd => by
    have e0 : acc ++ p :: r = (acc ++ [p]) ++ r := by simp
    have ih := merge_new r (acc ++ [p]) (by rw [← e0]; exact nd)
    have hp : putK acc p.1 p.2 = acc ++ [p] := by
      unfold putK
      rw [if_neg]
      intro e
      rw [List.any_eq_true] at e
      obtain ⟨x, hx, ex⟩ := e
      rw [List.map_append, List.nodup_append] at nd
      exact nd.2.2 x.1 (List.mem_map.mpr ⟨x, hx, rfl⟩) p.1 (by simp) (of_decide_eq_true ex)
    show mergeK (putK acc p.1 p.2) r = _
    rw [hp, ih, e0]
theorem cols_kvs : ∀ (cs : List Col) (ps : List Addr), DpAll K H (ps.map V.ref) (cs.map colD) → ∃ kvs : List (Key × V), Paired (fun p kv => SqT K H p [kV kv.1, kv.2]) ps kvs ∧ KvOf K H cs kvs
  | [], [], _ => ⟨[], .nil, .nil⟩
  | [], p :: ps, h => by cases h
  | c :: cs, [], h => by cases h
  | c :: cs, p :: ps, h => by
    cases h with
    | cons h1 h2 =>
      obtain ⟨a, u, e, hs, du⟩ := col_at h1
      cases e
      obtain ⟨kvs, hp, hk⟩ := cols_kvs cs ps h2
      exact ⟨(.inr c.1, u) :: kvs, .cons hs hp, .cons du hk⟩
def DictAt (K : PySem.W.Frag) (H : Hp) (d : Addr) (cs : List Col) : Prop := ∃ kvs, H d = some (.dK kvs) ∧ KvOf K H cs kvs
theorem DictAt.same {d : Addr} {cs : List Col} (h : DictAt K H d cs) (s : Same H H') : DictAt K H' d cs := by
  obtain ⟨kvs, h1, h2⟩ := h
  exact ⟨kvs, s _ _ h1, h2.kp (Same.kp s)⟩
def opKd (cs : List Col) (b : Bool) (o : Op) : Kd := if b then none else some (opBound cs o)
/-! ### promises of the program -/
def spOpKind (K : PySem.W.Frag) : Sp := fun vs H Q _ => ∃ (v : V) (d : Addr) (o : Op) (cs : List Col) (b : Bool), vs = [v, .ref d] ∧ Dp K H v o.d ∧ DictAt K H d cs ∧ ColsOk cs ∧ OpOk cs b o ∧
  ∀ H' u, Same H H' → Dp K H' u (kdD (opKd cs b o)) → Q u H'
def spKindOf (K : PySem.W.Frag) : Sp := fun vs H Q _ => ∃ (e c : V) (ts : List Tm) (cs : List Col) (b : Bool), vs = [e, c] ∧ Dp K H e (exD ts) ∧ ColsAt K H c cs ∧ ColsOk cs ∧ ExOk cs b ts ∧
  ∀ H' u, Same H H' → Dp K H' u (kdD (exKd cs b ts)) → Q u H'
def spOpValue (K : PySem.W.Frag) : Sp := fun xs H Q _ => ∃ (v n r : V) (o : Op) (cs : List Col) (vs : List V) (b : Bool), xs = [v, n, r] ∧ Dp K H v o.d ∧ OpOk cs b o ∧ ColsOk cs ∧ NamesAt K H n cs ∧ RowAt K H r vs ∧ RowIn cs vs ∧ Q (opVal cs vs o) H
def spEval (K : PySem.W.Frag) : Sp := fun xs H Q _ => ∃ (e n r : V) (ts : List Tm) (cs : List Col) (vs : List V) (b : Bool), xs = [e, n, r] ∧ Dp K H e (exD ts) ∧ ExOk cs b ts ∧ ColsOk cs ∧ NamesAt K H n cs ∧ RowAt K H r vs ∧ RowIn cs vs ∧ Q (exVal cs vs ts) H
theorem kd_ne (b : Int) : (kdD (some b)).eqv (kdD none) = false := by
  show ((("integer" : S) == "string") && false) = false
  exact Bool.and_false _
end Ind

set_option Elab.async false
set_option linter.all false
set_option maxRecDepth 100000
set_option maxHeartbeats 4000000
namespace Ind
open PySem PySem.Spec PyProof.Rows L2
/-! ### how long data are when they are shown -/
theorem int_show {i : Int} (h : -1000000000000 ≤ i ∧ i ≤ 1000000000000) : (PyData.int i).shown.length ≤ 20 := by
  show (Str.ofString (toString i)).length ≤ 20
  rw [PySem.ofString_length]
  have := int_text_length_le10 (a := i) (k := 13) (by decide) (by omega)
  omega
theorem txt_show {x : S} (h : TxtOk x) : (PyData.str x).shown.length ≤ 202 := by
  show (reprText x).length ≤ 202
  have := PySem.StrLaws.reprText_len x (fun c hc => by have := (h.2 c hc).2.1; omega)
  have := h.1
  omega
theorem int_word : (PyData.str "integer").shown.length ≤ 9 := by decide +kernel
theorem str_word : (PyData.str "string").shown.length ≤ 8 := by decide +kernel
theorem kd_show {k : Kd} (h : ∀ b, k = some b → -1000000000000 ≤ b ∧ b ≤ 1000000000000) : (kdD k).shown.length ≤ 1000 := by
  cases k with
  | none =>
    show (tupleText [(PyData.str "string").shown]).length ≤ 1000
    have := tupleText_len_le [(PyData.str "string").shown]
    have := str_word
    simp only [List.map_cons, List.map_nil, List.sum_cons, List.sum_nil, List.length_cons, List.length_nil] at *
    omega
  | some b =>
    show (tupleText [(PyData.str "integer").shown, (PyData.int b).shown]).length ≤ 1000
    have := tupleText_len_le [(PyData.str "integer").shown, (PyData.int b).shown]
    have := int_word
    have := int_show (h b rfl)
    simp only [List.map_cons, List.map_nil, List.sum_cons, List.sum_nil, List.length_cons, List.length_nil] at *
    omega
theorem log_low {i : Int} (h : -1000000000000 ≤ i ∧ i ≤ 1000000000000) : i.natAbs.log2 < 1920 := by
  by_cases z : i.natAbs = 0
  · rw [z]; decide
  · refine Nat.lt_of_lt_of_le ((Nat.log2_lt z).mpr (show i.natAbs < 2 ^ 40 from ?_)) (by decide)
    have e : (2 : Nat) ^ 40 = 1099511627776 := by decide +kernel
    rw [e]
    omega
theorem kd_able {k : Kd} (h : ∀ b, k = some b → -1000000000000 ≤ b ∧ b ≤ 1000000000000) : (kdD k).showable = true := by
  cases k with
  | none => simp [kdD, PyData.showable, PyData.showableAll]
  | some b =>
    have := h b rfl
    simp [kdD, PyData.showable, PyData.showableAll]
    exact log_low this
theorem kd_dict (k : Kd) : (kdD k).hasDict = false := by
  cases k <;> simp [kdD, PyData.hasDict, PyData.hasDictAll]
theorem kd_depth (k : Kd) : (kdD k).depth ≤ 60 := by
  cases k <;> simp [kdD, PyData.depth, PyData.depthAll]
theorem int_able {i : Int} (h : -1000000000000 ≤ i ∧ i ≤ 1000000000000) : (PyData.int i).showable = true := by
  simp [PyData.showable]
  exact log_low h
end Ind

set_option Elab.async false
set_option linter.all false
set_option maxRecDepth 100000
set_option maxHeartbeats 4000000
namespace Ind
open PySem PySem.Spec PyProof.Rows L2
/-! ### bounds of values, and the row that reaches them -/
theorem sum_low {cs : List Col} {vs : List V} (ok : ColsOk cs) (ri : RowIn cs vs) : ∀ (ts : List Tm), (∀ t ∈ ts, OpOk cs false t.op) →
    -(ts.map fun t => opBound cs t.op).sum ≤ (ts.map (tmVal cs vs)).sum ∧ (ts.map (tmVal cs vs)).sum ≤ (ts.map fun t => opBound cs t.op).sum
  | [], _ => ⟨(by decide : -(0 : Int) ≤ 0), (by decide : (0 : Int) ≤ 0)⟩
  | t :: r, h => by
    have ih := sum_low ok ri r (fun u hu => h u (List.mem_cons_of_mem _ hu))
    obtain ⟨z, ez, z1, z2⟩ := op_int ok ri (h t (List.mem_cons_self ..))
    have tv : -opBound cs t.op ≤ tmVal cs vs t ∧ tmVal cs vs t ≤ opBound cs t.op := by
      unfold tmVal
      rw [ez]
      show -opBound cs t.op ≤ (if t.plus = true then z else -z) ∧ (if t.plus = true then z else -z) ≤ opBound cs t.op
      split <;> omega
    simp only [List.map_cons, List.sum_cons]
    omega
theorem ex_int {cs : List Col} {vs : List V} {ts : List Tm} (ok : ColsOk cs) (ri : RowIn cs vs) (ex : ExOk cs false ts) : ∃ z, exVal cs vs ts = .int z ∧ -(ts.map fun t => opBound cs t.op).sum ≤ z ∧ z ≤ (ts.map fun t => opBound cs t.op).sum := by
  by_cases l : ts.length = 1
  · obtain ⟨t, rfl, e⟩ := exVal_one (cs := cs) (vs := vs) l
    obtain ⟨z, ez, z1, z2⟩ := op_int ok ri (ex.ops t (by simp))
    refine ⟨z, by rw [e, ez], ?_⟩
    simp only [List.map_cons, List.map_nil, List.sum_cons, List.sum_nil]
    omega
  · exact ⟨_, exVal_many l, sum_low ok ri ts ex.ops⟩
theorem ex_txt {cs : List Col} {vs : List V} {ts : List Tm} (ok : ColsOk cs) (ri : RowIn cs vs) (ex : ExOk cs true ts) : ∃ x, exVal cs vs ts = .str x ∧ TxtOk x := by
  obtain ⟨t, rfl, e⟩ := exVal_one (cs := cs) (vs := vs) (ex.one rfl)
  obtain ⟨x, exx, tx⟩ := op_txt ok ri (ex.ops t (by simp))
  exact ⟨x, by rw [e, exx], tx⟩
theorem far_step_in {c : Col} {v : V} {t : Tm} (k : KdOk c.2) (h : ValIn c.2 v) : ValIn c.2 (farStep c v t) := by
  by_cases e : t.op = .col c.1
  · cases kk : c.2 with
    | none =>
      have : farStep c v t = v := by
        unfold farStep
        rw [e, kk]
      rw [this, ← kk]; exact h
    | some b =>
      rw [far_hit e kk]
      rw [kk] at k
      have : 0 ≤ b := k.1
      show -b ≤ _ ∧ _ ≤ b
      split <;> omega
  · rw [far_miss e]; exact h
theorem far_in {c : Col} (k : KdOk c.2) : ∀ (ts : List Tm) (v : V), ValIn c.2 v → ValIn c.2 (farVal ts c v)
  | [], _, h => h
  | t :: r, v, h => far_in k r _ (far_step_in k h)
theorem far_row (ts : List Tm) : ∀ {cs : List Col} {us : List V}, (∀ c ∈ cs, KdOk c.2) → RowIn cs us → RowIn cs ((cs.zip us).map fun p => farVal ts p.1 p.2) := by
  intro cs us k r
  induction r with
  | nil => exact .nil
  | cons h r ih => exact .cons (far_in (k _ (List.mem_cons_self ..)) ts _ h) (ih (fun d hd => k d (List.mem_cons_of_mem _ hd)))
theorem far_none {c : Col} : ∀ (ts : List Tm) (v : V), c.1 ∉ ts.filterMap colN → farVal ts c v = v
  | [], _, _ => rfl
  | t :: r, v, h => by
    have ne : t.op ≠ .col c.1 := by
      intro e
      apply h
      rw [List.mem_filterMap]
      exact ⟨t, List.mem_cons_self .., by unfold colN; rw [e]⟩
    show farVal r c (farStep c v t) = v
    rw [far_miss ne]
    refine far_none r v ?_
    intro m
    apply h
    rw [List.mem_filterMap] at m ⊢
    obtain ⟨u, hu, eu⟩ := m
    exact ⟨u, List.mem_cons_of_mem _ hu, eu⟩
theorem far_val {c : Col} {b : Int} (kk : c.2 = some b) : ∀ (ts : List Tm) (v : V) (t : Tm), (ts.filterMap colN).Nodup → t ∈ ts → t.op = .col c.1 → farVal ts c v = .int (if t.plus then b else -b)
  | [], _, _, _, m, _ => by cases m
  | u :: r, v, t, nd, m, e => by
    show farVal r c (farStep c v u) = _
    rcases List.mem_cons.mp m with h | h
    · subst h
      rw [far_hit e kk]
      refine far_none r _ ?_
      have : (t :: r).filterMap colN = c.1 :: r.filterMap colN := by
        rw [List.filterMap_cons]
        unfold colN
        rw [e]
      rw [this, List.nodup_cons] at nd
      exact nd.1
    · refine far_val kk r _ t ?_ h e
      rw [List.filterMap_cons] at nd
      split at nd
      · exact nd
      · rw [List.nodup_cons] at nd; exact nd.2
theorem zip_at {α β γ : Type} (f : α × β → γ) : ∀ (as : List α) (bs : List β) (j : Nat) (a : α) (b : β), as[j]? = some a → bs[j]? = some b → ((as.zip bs).map f)[j]? = some (f (a, b))
  | a :: as, b :: bs, 0, _, _, e1, e2 => by
    simp only [List.getElem?_cons_zero, Option.some.injEq] at e1 e2
    subst e1; subst e2
    rfl
  | a :: as, b :: bs, j + 1, x, y, e1, e2 => by
    rw [List.getElem?_cons_succ] at e1 e2
    exact zip_at f as bs j x y e1 e2
  | [], _, _, _, _, e1, _ => by simp at e1
  | _ :: _, [], _, _, _, _, e2 => by simp at e2
theorem far_tm {cs : List Col} {us : List V} {ts : List Tm} (ok : ColsOk cs) (ri : RowIn cs us) (st : Straight cs ts) {t : Tm} (m : t ∈ ts) (oo : OpOk cs false t.op) :
    tmVal cs ((cs.zip us).map fun p => farVal ts p.1 p.2) t = opBound cs t.op := by
  unfold tmVal
  cases e : t.op with
  | txt x => rw [e] at oo; exact oo.elim
  | num i =>
    have sg := st.signs t m i e
    show (if t.plus = true then i else -i) = (if i < 0 then -i else i)
    cases hp : t.plus
    · rw [hp] at sg
      have : i ≤ 0 := sg
      rw [if_neg (by decide)]
      split <;> omega
    · rw [hp] at sg
      have : 0 ≤ i := sg
      rw [if_pos rfl]
      split <;> omega
  | col n =>
    rw [e] at oo
    obtain ⟨b, hb⟩ := (show ∃ b, (n, some b) ∈ cs from oo)
    obtain ⟨j, ej, ij⟩ := col_ix ok.nd hb
    obtain ⟨u, eu, _⟩ := ri.get ej
    have r := row_at (far_row ts ok.kd ri) (List.mem_map.mpr ⟨_, hb, rfl⟩)
    rw [ij, zip_at _ cs us j _ _ ej eu] at r
    injection r with r
    rw [← r, far_val (c := (n, some b)) rfl ts u t st.nd m e, opBound_mem ok.nd hb]
    cases hp : t.plus
    · show (if false = true then -b else - -b) = b
      rw [if_neg (by decide)]
      omega
    · rfl
theorem far_ex {cs : List Col} {us : List V} {ts : List Tm} (ok : ColsOk cs) (ri : RowIn cs us) (ex : ExOk cs false ts) (st : Straight cs ts) :
    exVal cs ((cs.zip us).map fun p => farVal ts p.1 p.2) ts = .int (ts.map fun t => opBound cs t.op).sum := by
  have all : ts.map (tmVal cs ((cs.zip us).map fun p => farVal ts p.1 p.2)) = ts.map fun t => opBound cs t.op :=
    List.map_congr_left fun t m => far_tm ok ri st m (ex.ops t m)
  by_cases l : ts.length = 1
  · obtain ⟨t, rfl, e⟩ := exVal_one (cs := cs) (vs := (cs.zip us).map fun p => farVal ts p.1 p.2) l
    have pl := ex.first t rfl
    have ft := far_tm ok ri st (t := t) (by simp) (ex.ops t (by simp))
    obtain ⟨z, ez, _⟩ := op_int ok (far_row [t] ok.kd ri) (ex.ops t (by simp))
    rw [e, ez]
    unfold tmVal at ft
    rw [if_pos pl, ez] at ft
    have : z = opBound cs t.op := ft
    rw [this]
    simp
  · rw [exVal_many l, all]
theorem sum_pos {cs : List Col} {b : Bool} (ok : ColsOk cs) : ∀ (ts : List Tm), (∀ t ∈ ts, OpOk cs b t.op) → 0 ≤ (ts.map fun t => opBound cs t.op).sum
  | [], _ => (by decide : (0 : Int) ≤ 0)
  | t :: r, h => by
    have ih := sum_pos ok r (fun u hu => h u (List.mem_cons_of_mem _ hu))
    have := opBound_le ok (h t (List.mem_cons_self ..))
    simp only [List.map_cons, List.sum_cons]
    omega
theorem exKd_low {cs : List Col} {b : Bool} {ts : List Tm} (ok : ColsOk cs) (ex : ExOk cs b ts) : ∀ x, exKd cs b ts = some x → -1000000000000 ≤ x ∧ x ≤ 1000000000000 := by
  intro x e
  unfold exKd at e
  split at e
  · cases e
  · injection e with e
    have := sum_pos ok ts ex.ops
    have := ex.sum
    omega
theorem fits {n : Nat} (h : n ≤ 1000) : n ≤ sizeLine := Nat.le_trans h (by decide)
/-- what stands through the law -/
structure Lw (K : PySem.W.Frag) (H : Hp) (t : Tp) (ca na : Addr) (cs : List Col) : Prop where
  tp : TapeAt H t
  cols : ColsAt K H (.ref ca) cs
  nm : NamesAt K H (.ref na) cs
theorem Lw.kp {K : PySem.W.Frag} {H H' : Hp} {t : Tp} {ca na : Addr} {cs : List Col} (h : Lw K H t ca na cs) (k : Kp H H') (T : TapeAt H' t) : Lw K H' t ca na cs := by
  obtain ⟨a, o, e, h1, h2⟩ := h.nm
  exact ⟨T, h.cols.kp k, ⟨a, o, e, k.frz _ _ _ h1, h2⟩⟩
/-- a value that is shown -/
structure Shw (K : PySem.W.Frag) (v : V) (d : PyData) : Prop where
  dp : ∀ H, Dp K H v d
  able : d.showable = true
  nod : d.hasDict = false
  dep : d.depth ≤ 60
  len : d.shown.length ≤ sizeLine
theorem shw_int {K : PySem.W.Frag} {i : Int} (h : -1000000000000 ≤ i ∧ i ≤ 1000000000000) : Shw K (.int i) (.int i) := ⟨fun _ => .int _, int_able h, rfl, by simp [PyData.depth], fits (Nat.le_trans (int_show h) (by decide))⟩
theorem shw_txt {K : PySem.W.Frag} {x : S} (h : TxtOk x) : Shw K (.str x) (.str x) := ⟨fun _ => .str _, by simp [PyData.showable], rfl, by simp [PyData.depth], fits (Nat.le_trans (txt_show h) (by decide))⟩
theorem ex_shw {K : PySem.W.Frag} {cs : List Col} {vs : List V} {ts : List Tm} {b : Bool} (ok : ColsOk cs) (ri : RowIn cs vs) (ex : ExOk cs b ts) : ∃ d, Shw K (exVal cs vs ts) d := by
  cases b with
  | true =>
    obtain ⟨x, e, hx⟩ := ex_txt ok ri ex
    rw [e]; exact ⟨_, shw_txt hx⟩
  | false =>
    obtain ⟨z, e, h1, h2⟩ := ex_int ok ri ex
    have := ex.sum
    rw [e]; exact ⟨_, shw_int ⟨by omega, by omega⟩⟩
end Ind

set_option Elab.async false
set_option linter.all false
set_option maxRecDepth 100000
set_option maxHeartbeats 4000000
namespace Ind
open PySem PySem.Spec PyProof.Rows L2 IndG
/-- a tuple of targets in another scope -/
theorem pg_tupK {X : Cx} {K : PySem.W.Frag} {es : List Expr} {t : TGs} {k : Nat} {pos : Pos} (n : Nat) (hK : X.K = K) (hc : X.calm = true) (h : PGs X es t) (hn : (assignEach es X.env).length = n) (hst : (assignEach es X.env).findIdx? (·.1) = none) : PG X (.Tuple es k pos) (gTup K n t) := by
  subst hK
  exact pg_tup hc h hn hst
/-- repr of a truth -/
theorem call_reprB {X : Cx} : CallR X (.builtin "repr") (fun xs H Q => ∃ b : Bool, xs = [.bl b] ∧ Q (.str (if b then "True" else "False")) H) := by
  intro pins s σ H xs us Q I r h
  obtain ⟨b, rfl, q⟩ := h
  obtain ⟨u, rfl, ru⟩ := vals1 r
  cases (show u = Value.bool b from ru)
  exact PySem.P.repr_of_bool ⟨.str (if b then "True" else "False"), H, I.tok _, ⟨_, rfl⟩, q⟩
theorem boot_all : bootBuiltins "all" = some (.builtin "all") := by first | rfl | decide | exact PyProof.Rows.Boot.«all»
/-- a def whose code object is known -/
structure FunC (K : PySem.W.Frag) (x qual : Str) (st : Stmt) (f : Addr) (fd : FuncData) (c : Addr) : Prop where
  ex : ∃ (oc : Value) (od : Option Addr) (kV doc pm : Value) (an : Option Addr) (ct : Value) (osl : Array (Option Value)),
    fd = PySem.W.fnOf x qual (defArgs st) (defBody st) (defScope st) .none kV doc pm an (.ref c) ct ∧ K.lookup f = some ⟨oc, od, .func fd, osl⟩ ∧ PySem.W.codeIn K (.ref c) qual = true
theorem FunC.okC {P : Program} {w : World} {K : PySem.W.Frag} {mg : Str → Option Value} {base : Heap} {x qual : Str} {st : Stmt} {f c : Addr} {fd : FuncData} {N ps : List Str} {k : Nat} {sp : Sp} (F : FunC K x qual st f fd c) (S : FnScope N ps (defScope st))
    (len : ∀ vs H Q E, sp vs H Q E → vs.length = ps.length)
    (body : ∀ (A : Around) (outer : List Env) (s : Shared) (H : Hp) (vs : List V) (Q : VK) (E : XK), Room k (A.deeper (envOfC qual (defScope st) s.heap.objs.size f (.ref c))) → sp vs H Q E →
      ∃ t, PSs (cxOf CX0 P w K mg base N qual (defScope st) f (.ref c) A outer s H E).nox (defBody st) t ∧ t { nx := fun _ H' => Q .non H', rt := Q } (start N vs) H) : FnOk P w K mg base CX0 (k + 1) f fd ps sp := by
  obtain ⟨oc, od, kV, doc, pm, an, ct, osl, rfl, lk, hcd⟩ := F.ex
  refine fn_of lk hcd S len fun A outer s H vs Q E hr h => ?_
  obtain ⟨t, ht, q⟩ := body A outer s H vs Q E hr h
  exact ⟨t, ht.nox, q⟩
/-! ### tables and rows -/
structure Tb where
  name : S
  cols : List (S × Bool)
  key : PyData
  limit : Int
def cwD (c : S × Bool) : PyData := .tuple [.str c.1, .str (wordS c.2)]
def tbD (t : Tb) : PyData := .tuple [.str t.name, .tuple (t.cols.map cwD), t.key, .int t.limit, .tuple [], .tuple []]
def scD (ts : List Tb) : PyData := .tuple [.tuple (ts.map tbD), .tuple [], .tuple []]
def TbOk (t : Tb) : Prop := tuplesOnly t.key = true
theorem tO_cw (c : S × Bool) : tuplesOnly (cwD c) = true := rfl
theorem tO_cws (cs : List (S × Bool)) : tuplesOnlyAll (cs.map cwD) = true := tO_all _ tO_cw cs
theorem tO_tb {t : Tb} (h : TbOk t) : tuplesOnly (tbD t) = true := by
  show (true && (tuplesOnlyAll (t.cols.map cwD) && (tuplesOnly t.key && (true && (true && (true && true)))))) = true
  rw [tO_cws, show tuplesOnly t.key = true from h]
  rfl
theorem tO_tbs : ∀ {ts : List Tb}, (∀ t ∈ ts, TbOk t) → tuplesOnlyAll (ts.map tbD) = true
  | [], _ => rfl
  | t :: r, h => by
    show (tuplesOnly (tbD t) && tuplesOnlyAll (r.map tbD)) = true
    rw [tO_tb (h t (List.mem_cons_self ..)), tO_tbs (fun u hu => h u (List.mem_cons_of_mem _ hu))]
    rfl
theorem tO_sc {ts : List Tb} (h : ∀ t ∈ ts, TbOk t) : tuplesOnly (scD ts) = true := by
  show (tuplesOnlyAll (ts.map tbD) && (true && (true && true))) = true
  rw [tO_tbs h]
  rfl
/-- a value that may stand in a row -/
def Pv : V → Prop
  | .int _ => True
  | .str _ => True
  | _ => False
def fitsB (v : V) (b : Bool) : Bool := match v with
  | .int i => !b && (decide (-1000000 ≤ i) && decide (i ≤ 1000000))
  | .str _ => b
  | _ => false
def rowFits (vs : List V) (cs : List (S × Bool)) : Bool := decide (vs.length = cs.length) && (vs.zip cs).all fun p => fitsB p.1 p.2.2
def spFits : Sp := fun vs H Q _ => ∃ (v : V) (b : Bool), vs = [v, .str (wordS b)] ∧ Pv v ∧ Q (.bl (fitsB v b)) H
def spFind (K : PySem.W.Frag) : Sp := fun vs H Q _ => ∃ (v : V) (ts : List Tb) (t : Tb), vs = [v, .str t.name] ∧ Dp K H v (scD ts) ∧ (ts.map (·.name)).Nodup ∧ t ∈ ts ∧ ∀ u, Dp K H u (tbD t) → Q u H
/-- all but the tape and the table of can_store stands -/
structure Mv (P : Addr) (H H' : Hp) : Prop where
  st : ∀ b o, b ≠ P → H b = some o → H' b = some o
  tab : GxR.TabG H' P
def spCan (K : PySem.W.Frag) (P : Addr) : Sp := fun xs H Q _ => ∃ (v r : V) (ts : List Tb) (t : Tb) (vs : List V), xs = [v, .str t.name, r] ∧ Dp K H v (scD ts) ∧ (∀ t ∈ ts, TbOk t) ∧ (ts.map (·.name)).Nodup ∧ t ∈ ts ∧ RowAt K H r vs ∧ (∀ v ∈ vs, Pv v) ∧ GxR.TabG H P ∧ vs.length ≤ 1000 ∧
  ∀ H', Mv P H H' → Q (.bl (rowFits vs t.cols)) H'
theorem Mv.kp {P : Addr} {H H' : Hp} (t : GxR.TabG H P) (m : Mv P H H') : Kp H H' := by
  obtain ⟨ps, hp, _⟩ := t
  refine ⟨fun c x h => m.st _ _ ?_ h, fun c o x h => m.st _ _ ?_ h⟩ <;> (intro e; rw [e, hp] at h; cases h)
theorem Mv.of {P : Addr} {H H' : Hp} (t : GxR.Tabbed P H H') : Mv P H H' := ⟨fun b o n h => by rw [t.2 b n]; exact h, t.1⟩
theorem Mv.refl {P : Addr} {H : Hp} (t : GxR.TabG H P) : Mv P H H := ⟨fun _ _ _ h => h, t⟩
theorem Mv.trans {P : Addr} {H H1 H2 : Hp} (a : Mv P H H1) (b : Mv P H1 H2) : Mv P H H2 := ⟨fun c o n h => b.st c o n (a.st c o n h), b.tab⟩
theorem Mv.new {P a : Addr} {H H' : Hp} {o : HO} (m : Mv P H H') (n : H' a = none) : Mv P H (L2.upd H' a o) := by
  refine ⟨fun b u nb h => ?_, ?_⟩
  · have e := m.st b u nb h
    rw [upd_ne (ne_of_none e n)]; exact e
  · obtain ⟨ps, hp, t⟩ := m.tab
    exact ⟨ps, by rw [upd_ne (ne_of_none hp n)]; exact hp, t⟩
def fitAt (vs : List V) (cs : List (S × Bool)) (j : Nat) : Bool := match (vs.zip cs)[j]? with
  | some p => fitsB p.1 p.2.2
  | none => true
theorem fit_all (vs : List V) (cs : List (S × Bool)) (h : vs.length = cs.length) : (List.range vs.length).all (fitAt vs cs) = rowFits vs cs := by
  unfold rowFits
  rw [decide_eq_true h, Bool.true_and]
  have lz : (vs.zip cs).length = vs.length := by rw [List.length_zip, ← h, Nat.min_self]
  rw [Bool.eq_iff_iff, List.all_eq_true, List.all_eq_true]
  constructor
  · intro a p hp
    obtain ⟨j, hj, e⟩ := List.getElem_of_mem hp
    have := a j (List.mem_range.mpr (by omega))
    unfold fitAt at this
    rw [List.getElem?_eq_getElem hj, e] at this
    exact this
  · intro a j hj
    have hj := List.mem_range.mp hj
    unfold fitAt
    rw [List.getElem?_eq_getElem (show j < (vs.zip cs).length by omega)]
    exact a _ (List.getElem_mem _)
theorem fit_at {vs : List V} {cs : List (S × Bool)} {j : Nat} {v : V} {c : S × Bool} (h1 : vs[j]? = some v) (h2 : cs[j]? = some c) : fitAt vs cs j = fitsB v c.2 := by
  unfold fitAt
  rw [show (vs.zip cs)[j]? = some (v, c) from List.getElem?_zip_eq_some.mpr ⟨h1, h2⟩]
def spNamesN : Sp := fun vs H Q _ => ∃ (t : Tp) (m : Int), vs = [.ref t.a, .int m] ∧ TapeAt H t ∧ (0 ≤ m ∧ m ≤ 10) ∧ ∀ H' p (ns : List S), Fz t.a H H' → TapeAt H' t → H p = none → H' p = some (.lst (ns.map V.str)) → ns.Nodup → ns.length ≤ m.toNat → (∀ n ∈ ns, TxtOk n) → (0 < m → ns ≠ []) → Q (.ref p) H'
def cwK (c : S × Bool) : Col := (c.1, if c.2 then none else some 1000000)
def spKinds (K : PySem.W.Frag) : Sp := fun vs H Q _ => ∃ (v : V) (cs : List (S × Bool)), vs = [v] ∧ Dp K H v (.tuple (cs.map cwD)) ∧ cs.length ≤ 10 ∧ ∀ H' u, Same H H' → Dp K H' u (.tuple (cs.map fun c => colD (cwK c))) → Q u H'
def spRow (K : PySem.W.Frag) : Sp := fun vs H Q _ => ∃ (t : Tp) (v : V) (cs : List (S × Bool)), vs = [.ref t.a, v] ∧ TapeAt H t ∧ Dp K H v (.tuple (cs.map fun c => colD (cwK c))) ∧ cs.length ≤ 10 ∧ ∀ H' u us, Fz t.a H H' → TapeAt H' t → RowAt K H' u us → (∀ x ∈ us, Pv x) → us.length = cs.length → Q u H'
def spSome (K : PySem.W.Frag) : Sp := fun vs H Q _ => ∃ (t : Tp) (p : Addr) (ps : List Addr) (cs : List (S × Bool)), vs = [.ref t.a, .ref p] ∧ TapeAt H t ∧ p ≠ t.a ∧ H p = some (.lst (ps.map V.ref)) ∧ DpAll K H (ps.map V.ref) (cs.map cwD) ∧ cs ≠ [] ∧ cs.length ≤ 10 ∧
  ∀ H' u (ds : List (S × Bool)), Fz t.a H H' → TapeAt H' t → Dp K H' u (.tuple (ds.map cwD)) → ds.length ≤ 10 → Q u H'
def spTables (K : PySem.W.Frag) : Sp := fun vs H Q _ => ∃ (t : Tp) (p : Addr) (ns : List S), vs = [.ref t.a, .ref p] ∧ TapeAt H t ∧ p ≠ t.a ∧ H p = some (.lst (ns.map V.str)) ∧ ns.length ≤ 10 ∧
  ∀ H' u (ts : List Tb), Fz t.a H H' → TapeAt H' t → Dp K H' u (.tuple (ts.map tbD)) → ts.map (·.name) = ns → (∀ t ∈ ts, TbOk t ∧ t.cols.length ≤ 10) → Q u H'
def spOdd : Sp := fun vs H Q _ => ∃ (t : Tp), vs = [.ref t.a] ∧ TapeAt H t ∧ ∀ H' v, Fz t.a H H' → TapeAt H' t → Pv v → Q v H'
/-! ### slices and sums of tuples: whole or new -/
theorem cut_whole {xs : List V} {lo hi : Option Int} (h : HT.sIx xs.length 0 lo = 0 ∧ HT.sIx xs.length xs.length hi = xs.length) : cutV xs lo hi = xs := by
  unfold cutV
  rw [h.1, h.2, List.drop_zero, Nat.sub_zero, List.take_of_length_le (Nat.le_refl _)]
theorem cutA {K : PySem.W.Frag} {H : Hp} {a : Addr} {xs : List V} {lo hi : Option Int} {Q : VK} (h : SqT K H a xs) (q : ∀ u H', Same H H' → RowAt K H' u (cutV xs lo hi) → Q u H') : rSlA K (.ref a) lo hi H Q := by
  refine ⟨a, xs, rfl, h, fun w => q _ _ (fun _ _ e => e) ⟨a, rfl, ?_⟩, fun _ p np => q _ _ (same_upd np) ⟨p, rfl, .of upd_same⟩⟩
  rw [cut_whole w]
  exact h
theorem catA {K : PySem.W.Frag} {H : Hp} {a b : Addr} {xs ys : List V} {Q : VK} (ha : SqT K H a xs) (hb : SqT K H b ys) (sz : xs.length + ys.length ≤ sizeLine) (q : ∀ u H', Same H H' → RowAt K H' u (xs ++ ys) → Q u H') : rCatA K (.ref a) (.ref b) H Q := by
  refine ⟨a, b, xs, ys, rfl, rfl, ha, hb, sz, fun e => ?_, fun _ e => ?_, fun _ _ p np => q _ _ (same_upd np) ⟨p, rfl, .of upd_same⟩⟩
  · refine q _ _ (fun _ _ z => z) ⟨b, rfl, ?_⟩
    rw [e]; exact hb
  · refine q _ _ (fun _ _ z => z) ⟨a, rfl, ?_⟩
    rw [e, List.append_nil]; exact ha
theorem dp_drop {K : PySem.W.Frag} {H : Hp} : ∀ {vs : List V} {ds : List PyData} (k : Nat), DpAll K H vs ds → DpAll K H (vs.drop k) (ds.drop k)
  | _, _, 0, h => h
  | _, _, _ + 1, .nil => .nil
  | _, _, k + 1, .cons _ t => dp_drop k t
theorem dp_take {K : PySem.W.Frag} {H : Hp} : ∀ {vs : List V} {ds : List PyData} (k : Nat), DpAll K H vs ds → DpAll K H (vs.take k) (ds.take k)
  | _, _, 0, _ => .nil
  | _, _, _ + 1, .nil => .nil
  | _, _, k + 1, .cons h t => .cons h (dp_take k t)
theorem cut_pv {xs : List V} {lo hi : Option Int} (h : ∀ x ∈ xs, Pv x) : ∀ x ∈ cutV xs lo hi, Pv x := by
  intro x hx
  unfold cutV at hx
  exact h x (List.mem_of_mem_drop (List.mem_of_mem_take hx))
end Ind

set_option Elab.async false
set_option linter.all false
set_option maxRecDepth 100000
set_option maxHeartbeats 4000000
namespace Ind
open PySem PySem.Spec PyProof.Rows L2
def top (i : Nat) : Stmt := PySem.Challenge.pw_indoubt_k17_rows_that_can_be_stored.main.body.getD i (.Pass ⟨0, 0, 0, 0⟩)
abbrev s_is_storable : Stmt := top 2
abbrev N_is_storable : List Str := ["value", "word"]
theorem sc_is_storable : FnScope N_is_storable ["value", "word"] (defScope s_is_storable) := ⟨rfl, rfl, rfl, by decide +kernel, rfl, by decide +kernel, by decide +kernel⟩
abbrev s_can_store : Stmt := top 4
abbrev N_can_store : List Str := ["schema", "name", "row", "columns", "value", "_", "word"]
theorem sc_can_store : FnScope N_can_store ["schema", "name", "row"] (defScope s_can_store) := ⟨rfl, rfl, rfl, by decide +kernel, rfl, by decide +kernel, by decide +kernel⟩
abbrev s_find_table : Stmt := top 5
abbrev N_find_table : List Str := ["schema", "name", "table"]
theorem sc_find_table : FnScope N_find_table ["schema", "name"] (defScope s_find_table) := ⟨rfl, rfl, rfl, by decide +kernel, rfl, by decide +kernel, by decide +kernel⟩
abbrev s__law_tape : Stmt := top 7
abbrev N__law_tape : List Str := ["script", "total", "cell"]
theorem sc__law_tape : FnScope N__law_tape ["script"] (defScope s__law_tape) := ⟨rfl, rfl, rfl, by decide +kernel, rfl, by decide +kernel, by decide +kernel⟩
abbrev s__law_draw : Stmt := top 8
abbrev N__law_draw : List Str := ["tape", "many", "place", "number"]
theorem sc__law_draw : FnScope N__law_draw ["tape", "many"] (defScope s__law_draw) := ⟨rfl, rfl, rfl, by decide +kernel, rfl, by decide +kernel, by decide +kernel⟩
abbrev s__law_name : Stmt := top 9
abbrev N__law_name : List Str := ["tape", "signs", "number", "name", "k"]
theorem sc__law_name : FnScope N__law_name ["tape"] (defScope s__law_name) := ⟨rfl, rfl, rfl, by decide +kernel, rfl, by decide +kernel, by decide +kernel⟩
abbrev s__law_names : Stmt := top 10
abbrev N__law_names : List Str := ["tape", "many", "names", "k", "name"]
theorem sc__law_names : FnScope N__law_names ["tape", "many"] (defScope s__law_names) := ⟨rfl, rfl, rfl, by decide +kernel, rfl, by decide +kernel, by decide +kernel⟩
abbrev s__law_signs : Stmt := top 11
abbrev N__law_signs : List Str := ["signs"]
theorem sc__law_signs : FnScope N__law_signs [] (defScope s__law_signs) := ⟨rfl, rfl, rfl, by decide +kernel, rfl, by decide +kernel, by decide +kernel⟩
abbrev s__law_text : Stmt := top 12
abbrev N__law_text : List Str := ["tape", "number", "share", "text", "k"]
theorem sc__law_text : FnScope N__law_text ["tape"] (defScope s__law_text) := ⟨rfl, rfl, rfl, by decide +kernel, rfl, by decide +kernel, by decide +kernel⟩
abbrev s__law_value : Stmt := top 13
abbrev N__law_value : List Str := ["tape", "kind", "most", "number", "share"]
theorem sc__law_value : FnScope N__law_value ["tape", "kind"] (defScope s__law_value) := ⟨rfl, rfl, rfl, by decide +kernel, rfl, by decide +kernel, by decide +kernel⟩
abbrev s__law_some : Stmt := top 14
abbrev N__law_some : List Str := ["tape", "names", "left", "found", "k"]
theorem sc__law_some : FnScope N__law_some ["tape", "names"] (defScope s__law_some) := ⟨rfl, rfl, rfl, by decide +kernel, rfl, by decide +kernel, by decide +kernel⟩
abbrev s__law_row : Stmt := top 15
abbrev N__law_row : List Str := ["tape", "columns", "column"]
theorem sc__law_row : FnScope N__law_row ["tape", "columns"] (defScope s__law_row) := ⟨rfl, rfl, rfl, by decide +kernel, rfl, by decide +kernel, by decide +kernel⟩
abbrev s__law_kinds : Stmt := top 16
abbrev N__law_kinds : List Str := ["columns", "found", "column"]
theorem sc__law_kinds : FnScope N__law_kinds ["columns"] (defScope s__law_kinds) := ⟨rfl, rfl, rfl, by decide +kernel, rfl, by decide +kernel, by decide +kernel⟩
abbrev s__law_plain_tables : Stmt := top 17
abbrev N__law_plain_tables : List Str := ["tape", "names", "wide", "name", "pool", "tables", "columns", "limit", "column"]
theorem sc__law_plain_tables : FnScope N__law_plain_tables ["tape", "names"] (defScope s__law_plain_tables) := ⟨rfl, rfl, rfl, by decide +kernel, rfl, by decide +kernel, by decide +kernel⟩
abbrev s__law_fits : Stmt := top 18
abbrev N__law_fits : List Str := ["value", "word"]
theorem sc__law_fits : FnScope N__law_fits ["value", "word"] (defScope s__law_fits) := ⟨rfl, rfl, rfl, by decide +kernel, rfl, by decide +kernel, by decide +kernel⟩
abbrev s__law_odd : Stmt := top 19
abbrev N__law_odd : List Str := ["tape", "number", "near"]
theorem sc__law_odd : FnScope N__law_odd ["tape"] (defScope s__law_odd) := ⟨rfl, rfl, rfl, by decide +kernel, rfl, by decide +kernel, by decide +kernel⟩
abbrev s_law : Stmt := top 20
abbrev N_law : List Str := ["script", "tape", "schema", "table", "row", "at", "odd", "word", "rows", "one", "due", "k"]
theorem sc_law : FnScope N_law ["script"] (defScope s_law) := ⟨rfl, rfl, rfl, by decide +kernel, rfl, by decide +kernel, by decide +kernel⟩
structure Txt (K : PySem.W.Frag) (mg : Str → Option Value) where
  a_is_storable : Addr
  d_is_storable : FuncData
  F_is_storable : Fun K "is_storable" "is_storable" s_is_storable a_is_storable d_is_storable
  b_is_storable : Binds K d_is_storable ["value", "word"] []
  g_is_storable : mg "is_storable" = some (.ref a_is_storable)
  a_can_store : Addr
  d_can_store : FuncData
  F_can_store : Fun K "can_store" "can_store" s_can_store a_can_store d_can_store
  b_can_store : Binds K d_can_store ["schema", "name", "row"] []
  g_can_store : mg "can_store" = some (.ref a_can_store)
  a_find_table : Addr
  d_find_table : FuncData
  F_find_table : Fun K "find_table" "find_table" s_find_table a_find_table d_find_table
  b_find_table : Binds K d_find_table ["schema", "name"] []
  g_find_table : mg "find_table" = some (.ref a_find_table)
  a__law_tape : Addr
  d__law_tape : FuncData
  F__law_tape : Fun K "_law_tape" "_law_tape" s__law_tape a__law_tape d__law_tape
  b__law_tape : Binds K d__law_tape ["script"] []
  g__law_tape : mg "_law_tape" = some (.ref a__law_tape)
  a__law_draw : Addr
  d__law_draw : FuncData
  F__law_draw : Fun K "_law_draw" "_law_draw" s__law_draw a__law_draw d__law_draw
  b__law_draw : Binds K d__law_draw ["tape", "many"] []
  g__law_draw : mg "_law_draw" = some (.ref a__law_draw)
  a__law_name : Addr
  d__law_name : FuncData
  F__law_name : Fun K "_law_name" "_law_name" s__law_name a__law_name d__law_name
  b__law_name : Binds K d__law_name ["tape"] []
  g__law_name : mg "_law_name" = some (.ref a__law_name)
  a__law_names : Addr
  d__law_names : FuncData
  F__law_names : Fun K "_law_names" "_law_names" s__law_names a__law_names d__law_names
  b__law_names : Binds K d__law_names ["tape", "many"] []
  g__law_names : mg "_law_names" = some (.ref a__law_names)
  a__law_signs : Addr
  d__law_signs : FuncData
  F__law_signs : Fun K "_law_signs" "_law_signs" s__law_signs a__law_signs d__law_signs
  b__law_signs : Binds K d__law_signs [] []
  g__law_signs : mg "_law_signs" = some (.ref a__law_signs)
  a__law_text : Addr
  d__law_text : FuncData
  F__law_text : Fun K "_law_text" "_law_text" s__law_text a__law_text d__law_text
  b__law_text : Binds K d__law_text ["tape"] []
  g__law_text : mg "_law_text" = some (.ref a__law_text)
  a__law_value : Addr
  d__law_value : FuncData
  F__law_value : Fun K "_law_value" "_law_value" s__law_value a__law_value d__law_value
  b__law_value : Binds K d__law_value ["tape", "kind"] []
  g__law_value : mg "_law_value" = some (.ref a__law_value)
  a__law_some : Addr
  d__law_some : FuncData
  F__law_some : Fun K "_law_some" "_law_some" s__law_some a__law_some d__law_some
  b__law_some : Binds K d__law_some ["tape", "names"] []
  g__law_some : mg "_law_some" = some (.ref a__law_some)
  a__law_row : Addr
  d__law_row : FuncData
  F__law_row : Fun K "_law_row" "_law_row" s__law_row a__law_row d__law_row
  b__law_row : Binds K d__law_row ["tape", "columns"] []
  g__law_row : mg "_law_row" = some (.ref a__law_row)
  a__law_kinds : Addr
  d__law_kinds : FuncData
  F__law_kinds : Fun K "_law_kinds" "_law_kinds" s__law_kinds a__law_kinds d__law_kinds
  b__law_kinds : Binds K d__law_kinds ["columns"] []
  g__law_kinds : mg "_law_kinds" = some (.ref a__law_kinds)
  a__law_plain_tables : Addr
  d__law_plain_tables : FuncData
  F__law_plain_tables : Fun K "_law_plain_tables" "_law_plain_tables" s__law_plain_tables a__law_plain_tables d__law_plain_tables
  b__law_plain_tables : Binds K d__law_plain_tables ["tape", "names"] []
  g__law_plain_tables : mg "_law_plain_tables" = some (.ref a__law_plain_tables)
  a__law_fits : Addr
  d__law_fits : FuncData
  F__law_fits : Fun K "_law_fits" "_law_fits" s__law_fits a__law_fits d__law_fits
  b__law_fits : Binds K d__law_fits ["value", "word"] []
  g__law_fits : mg "_law_fits" = some (.ref a__law_fits)
  a__law_odd : Addr
  d__law_odd : FuncData
  F__law_odd : Fun K "_law_odd" "_law_odd" s__law_odd a__law_odd d__law_odd
  b__law_odd : Binds K d__law_odd ["tape"] []
  g__law_odd : mg "_law_odd" = some (.ref a__law_odd)
  a_law : Addr
  d_law : FuncData
  F_law : Fun K "law" "law" s_law a_law d_law
  b_law : Binds K d_law ["script"] []
  g_law : mg "law" = some (.ref a_law)
  cc_can_store : Addr
  pp_can_store : Addr
  C_can_store : FunC K "can_store" "can_store" s_can_store a_can_store d_can_store cc_can_store
  t_LARGEST_STORED : Tok
  c_LARGEST_STORED : mg "LARGEST_STORED" = some (.int 1000000 t_LARGEST_STORED)
  z_abs : mg "abs" = none
  z_all : mg "all" = none
  z_int : mg "int" = none
  z_isinstance : mg "isinstance" = none
  z_len : mg "len" = none
  z_list : mg "list" = none
  z_max : mg "max" = none
  z_min : mg "min" = none
  z_range : mg "range" = none
  z_repr : mg "repr" = none
  z_reversed : mg "reversed" = none
  z_str : mg "str" = none
  z_tuple : mg "tuple" = none
  z_zip : mg "zip" = none
end Ind

set_option Elab.async false
set_option linter.all false
set_option maxRecDepth 100000
set_option maxHeartbeats 4000000
namespace Ind
open PySem PySem.Spec PyProof.Rows L2
local macro_rules | `(tactic| walk_at "cn") => `(tactic| first
  | assumption
  | omega
  | exact dm (by omega)
  | exact line (by simp)
  | exact line (by omega)
  | exact line (by simp only [len_app, len_one]; omega)
  | exact small_div (by omega) (by omega)
  | solve_by_elim
  | exact Or.inr ⟨by omega, by omega⟩
  | exact Or.inl ⟨by omega, by omega⟩
  | exact ⟨by omega, by omega⟩
  | decide)
local macro_rules | `(tactic| walk_at "st") => `(tactic| repeat (first
  | refine ⟨_, rfl, ?_⟩
  | refine ⟨_, _, rfl, rfl, ?_⟩
  | refine ⟨_, _, rfl, ?_⟩
  | refine .inl ⟨_, rfl, ?_⟩
  | refine And.intro rfl ?_
  | refine And.intro (by walk_at "cn") ?_))
local macro_rules | `(tactic| walk_at "fz") => `(tactic| repeat (first | exact Fz.refl | apply Fz.upd))
local macro_rules | `(tactic| walk_at "hl") => `(tactic| ((repeat rw [upd_ne (by assumption)]); assumption))

section
variable {P : Program} {w : World} {K : PySem.W.Frag} {mg : Str → Option Value} {base : Heap}
theorem ok__law_tape (T : Txt K mg) : FnOk P w K mg base CX0 1 T.a__law_tape T.d__law_tape ["script"] (spTape K) := by
  refine T.F__law_tape.ok sc__law_tape (fun vs H Q E h => ?_) (fun cdv A outer s H vs Q E hr h => ?_)
  · obtain ⟨a, ns, rfl, _⟩ := h
    rfl
  · obtain ⟨a, ns, rfl, hS, hl, q⟩ := h
    refine ⟨_, (pss_cons (ps_set (i := 1) sc__law_tape.nd rfl (.inl rfl) pe_int)
      (pss_cons (ps_for PassesOwn.never rfl (pi_list (pv 0)) (pg_name (i := 2) sc__law_tape.nd rfl (.inl rfl))
      (pss_one (ps_set (i := 1) sc__law_tape.nd rfl (.inl rfl) (pe_op op_mod (pe_callTy call_int1 (by rfl) T.z_int boot_int (pa_cons (pe_op op_add (pe_op op_mul (pv 1) pe_int) (pe_callB call_abs (by rfl) T.z_abs boot_abs (pa_cons (pe_callTy call_int1 (by rfl) T.z_int boot_int (pa_cons (pv 2) pa_nil)) pa_nil))) pa_nil)) pe_int))))
      (pss_one (ps_ret (pe_lst (pa_cons (pe_callTy call_list_of (by rfl) T.z_list boot_list (pa_cons (pv 0) pa_nil)) (pa_cons pe_int (pa_cons pe_int (pa_cons (pv 1) pa_nil))))))))), ?_⟩
    refine ⟨_, rfl, a, rfl, ⟨_, hS⟩, for_list (K := K) (a := a) (xs := ns.map V.int) (fun i σ H' => ∃ z y, σ = [some (.ref a), some (.int z), y] ∧ H' = H ∧ 0 ≤ z ∧ z < 2147483647)
      ⟨7, none, rfl, rfl, by decide, by decide⟩ (fun i σ H' _ ⟨_, _, _, e, _⟩ => by rw [e]; exact hS) ?_ ?_⟩
    · rintro i x σ H' hi ⟨z, y, rfl, rfl, h0, h1⟩
      obtain ⟨u, rfl⟩ : ∃ u, x = V.int u := by
        rw [List.getElem?_map] at hi
        cases e : ns[i]? with
        | none => rw [e] at hi; cases hi
        | some u => rw [e] at hi; exact ⟨u, (Option.some.inj hi).symm⟩
      walk_at "st"
      omega
    · rintro σ H' ⟨z, y, rfl, rfl, h0, h1⟩
      refine ⟨_, rfl, _, _, rfl, .inl hS, fun l nl => ⟨_, rfl, line (by simp), fun t nt => ?_⟩⟩
      have nlt : l ≠ t := fun e => by rw [← e, upd_same] at nt; cases nt
      have ntH : H' t = none := by rw [upd_ne nlt.symm] at nt; exact nt
      exact q _ ⟨t, l⟩ ((same_upd nl).trans (same_upd nt)) ntH nl ⟨ns, 0, 0, z, upd_same, by rw [upd_ne nlt, upd_same], by omega, by decide, by decide, h0, h1⟩
theorem ok__law_draw (T : Txt K mg) : FnOk P w K mg base CX0 1 T.a__law_draw T.d__law_draw ["tape", "many"] spDraw := by
  refine T.F__law_draw.ok sc__law_draw (fun vs H Q E h => ?_) (fun cdv A outer s H vs Q E hr h => ?_)
  · obtain ⟨a, ns, rfl, _⟩ := h
    rfl
  · obtain ⟨⟨t, l⟩, m, rfl, ⟨ns, p, n, z, ht, hL, hlen, hp, hn, hz, hz2⟩, hm, q⟩ := h
    refine ⟨_, (pss_cons (ps_if (pt_cmpR op_eq (pe_ix ix_list (pv 0) pe_int (fun _ _ => rfl)) pe_int (nomark _)) (pss_cons (ps_set (i := 2) sc__law_draw.nd rfl (.inl rfl) (pe_ix ix_list (pv 0) pe_int (fun _ _ => rfl)))
      (pss_cons (ps_set (i := 3) sc__law_draw.nd rfl (.inl rfl) pe_int)
      (pss_cons (ps_if (pt_cmpR op_lt (pv 2) (pe_callB call_len_seq (by rfl) T.z_len boot_len (pa_cons (pe_ix ix_list (pv 0) pe_int (fun _ _ => rfl)) pa_nil)) (nomark _)) (pss_one (ps_set (i := 3) sc__law_draw.nd rfl (.inl rfl) (pe_callB call_abs (by rfl) T.z_abs boot_abs (pa_cons (pe_callTy call_int1 (by rfl) T.z_int boot_int (pa_cons (pe_ix ix_list (pe_ix ix_list (pv 0) pe_int (fun _ _ => rfl)) (pv 2) (fun _ _ => rfl)) pa_nil)) pa_nil)))) (pss_cons (ps_asg (pe_op op_mod (pe_callTy call_int1 (by rfl) T.z_int boot_int (pa_cons (pe_op op_add (pe_op op_add (pe_op op_mul (pe_ix ix_list (pv 0) pe_int (fun _ _ => rfl)) pe_int) (pv 2)) pe_int) pa_nil)) pe_int) (pg_sub (pv 0) pe_int set_list))
      (pss_one (ps_set (i := 3) sc__law_draw.nd rfl (.inl rfl) (pe_ix ix_list (pv 0) pe_int (fun _ _ => rfl))))))
      (pss_cons (ps_asg (pe_op op_add (pv 2) pe_int) (pg_sub (pv 0) pe_int set_list))
      (pss_cons (ps_if (pt_cmpR op_lt (pv 3) (pe_op op_pow pe_int pe_int) (nomark _)) (pss_cons (ps_set (i := 3) sc__law_draw.nd rfl (.inl rfl) (pe_op op_mod (pe_callTy call_int1 (by rfl) T.z_int boot_int (pa_cons (pe_op op_add (pe_op op_add (pe_op op_mul (pv 3) pe_int) (pe_op op_mul (pv 2) pe_int)) pe_int) pa_nil)) pe_int))
      (pss_cons (ps_set (i := 3) sc__law_draw.nd rfl (.inl rfl) (pe_op op_mod (pe_callTy call_int1 (by rfl) T.z_int boot_int (pa_cons (pe_op op_mul (pv 3) pe_int) pa_nil)) pe_int))
      (pss_one (ps_ret (pe_op op_mod (pe_callTy call_int1 (by rfl) T.z_int boot_int (pa_cons (pv 3) pa_nil)) (pe_callB (call_max2 rfl) (by rfl) T.z_max boot_max (pa_cons (pv 1) (pa_cons pe_int pa_nil)))))))) pss_nil)
      (pss_one (ps_asg (pv 3) (pg_sub (pv 0) pe_int set_list)))))))) pss_nil)
      (pss_cons (ps_set (i := 3) sc__law_draw.nd rfl (.inl rfl) (pe_ix ix_list (pv 0) pe_int (fun _ _ => rfl)))
      (pss_cons (ps_asg (pe_op op_fdivW (pv 3) (pe_callB (call_max2 rfl) (by rfl) T.z_max boot_max (pa_cons (pv 1) (pa_cons pe_int pa_nil)))) (pg_sub (pv 0) pe_int set_list))
      (pss_one (ps_ret (pe_op op_mod (pe_callTy call_int1 (by rfl) T.z_int boot_int (pa_cons (pv 3) pa_nil)) (pe_callB (call_max2 rfl) (by rfl) T.z_max boot_max (pa_cons (pv 1) (pa_cons pe_int pa_nil))))))))), ?_⟩
    have ht : H t = some (.lst [.ref l, .int p, .int n, .int z]) := ht
    have hL : H l = some (.lst (ns.map V.int)) := hL
    have nlt : l ≠ t := Tape.ne ht hL
    have many1 : 0 < if (1 : Int) > m then 1 else m := by split <;> omega
    have many2 : ∀ x : Int, CDivW x (if (2 : Int) > m then 2 else m) := hm
    have lt1 : ∀ x : Int, (x % if (1 : Int) > m then 1 else m) < m ∨ (x % if (1 : Int) > m then 1 else m) < 1 := fun x => by
      have q1 := Int.emod_lt_of_pos x many1
      revert q1
      split <;> intro q1 <;> omega
    walk_at "st"
    refine ⟨_, _, _, _, rfl, rfl, .of ht, atI_nat (j := 2) rfl, ?_⟩
    walk_at "st"
    refine ite2 (fun e => ?_) (fun e => ?_)
    · walk_at "st"
      refine ⟨_, _, _, _, rfl, rfl, .of ht, atI_nat (j := 1) rfl, ?_⟩
      walk_at "st"
      refine ⟨_, _, _, _, rfl, rfl, .of ht, atI_nat (j := 0) rfl, ?_⟩
      refine ⟨l, _, rfl, .inl (.of hL), ?_⟩
      walk_at "st"
      refine ite2 (fun e2 => ?a1) (fun e2 => ?a2)
      case' a1 =>
        have hlt : p.toNat < ns.length := by
          have := of_decide_eq_true e2
          rw [List.length_map] at this
          omega
        walk_at "st"
        refine ⟨_, _, _, _, rfl, rfl, .of ht, atI_nat (j := 0) rfl, ?_⟩
        walk_at "st"
        refine ⟨_, _, _, _, rfl, rfl, .of hL, at_of (show p = (p.toNat : Int) by omega) (show (ns.map V.int)[p.toNat]? = some (.int ns[p.toNat]) by rw [List.getElem?_map, List.getElem?_eq_getElem hlt]; rfl), ?_⟩
        have hnum : 0 ≤ (if ns[p.toNat] < 0 then -ns[p.toNat] else ns[p.toNat]) := by split <;> omega
      case' a2 =>
        walk_at "st"
        refine ⟨_, _, _, _, rfl, rfl, .of ht, atI_nat (j := 3) rfl, ?_⟩
        walk_at "st"
        refine ⟨_, _, _, 3, rfl, rfl, ht, rfl, ?_⟩
        walk_at "st"
        refine ⟨_, _, _, _, rfl, rfl, .of upd_same, atI_nat (j := 3) rfl, ?_⟩
        have hnum : 0 ≤ (z * 48271 + p + 1) % 2147483647 := by omega
        have hnum2 : (z * 48271 + p + 1) % 2147483647 < 2147483647 := by omega
      all_goals
        walk_at "st"
      case' a1 => refine ⟨_, _, _, 1, rfl, rfl, ht, rfl, ?_⟩
      case' a2 => refine ⟨_, _, _, 1, rfl, rfl, upd_same, rfl, ?_⟩
      all_goals
        walk_at "st"
        refine ite2 (fun e3 => ?_) (fun e3 => ?_)
        · walk_at "st"
          refine q _ _ (by walk_at "fz") ⟨ns, p + 1, n, _, upd_same, by walk_at "hl", hlen, by omega, hn, ?_, ?_⟩ (Int.emod_nonneg _ (by omega)) (lt1 _) <;> assumption
        · walk_at "st"
          refine ⟨_, _, _, 2, rfl, rfl, upd_same, rfl, ?_⟩
          walk_at "st"
          refine ⟨_, _, _, _, rfl, rfl, .of upd_same, atI_nat (j := 2) rfl, ?_⟩
          walk_at "st"
          refine ⟨_, _, _, 2, rfl, rfl, upd_same, rfl, ?_⟩
          walk_at "st"
          refine q _ _ (by walk_at "fz") ⟨ns, p + 1, _, _, upd_same, by walk_at "hl", hlen, by omega, Int.ediv_nonneg hnum ?_, ?_, ?_⟩ (Int.emod_nonneg _ (by omega)) (lt1 _) <;> first | assumption | (split <;> omega)
    · walk_at "st"
      refine ⟨_, _, _, _, rfl, rfl, .of ht, atI_nat (j := 2) rfl, ?_⟩
      walk_at "st"
      refine ⟨_, _, _, 2, rfl, rfl, ht, rfl, ?_⟩
      walk_at "st"
      refine q _ _ Fz.refl.upd ⟨ns, p, _, z, upd_same, by rw [upd_ne nlt]; exact hL, hlen, hp, ?_, hz, hz2⟩ (Int.emod_nonneg _ (by omega)) (lt1 _)
      refine Int.ediv_nonneg hn ?_
      split <;> omega
end
end Ind

set_option Elab.async false
set_option linter.all false
set_option maxRecDepth 100000
set_option maxHeartbeats 4000000
namespace Ind
open PySem PySem.Spec PyProof.Rows L2
local macro_rules | `(tactic| walk_at "cn") => `(tactic| first
  | assumption
  | omega
  | exact dm (by omega)
  | exact line (by simp)
  | exact line (by omega)
  | exact line (by simp only [len_app, len_one]; omega)
  | exact small_div (by omega) (by omega)
  | solve_by_elim
  | exact Or.inr ⟨by omega, by omega⟩
  | exact Or.inl ⟨by omega, by omega⟩
  | exact ⟨by omega, by omega⟩
  | decide)
local macro_rules | `(tactic| walk_at "st") => `(tactic| repeat (first
  | refine ⟨_, rfl, ?_⟩
  | refine ⟨_, _, rfl, rfl, ?_⟩
  | refine ⟨_, _, rfl, ?_⟩
  | refine .inl ⟨_, rfl, ?_⟩
  | refine And.intro rfl ?_
  | refine And.intro (by walk_at "cn") ?_))
local macro_rules | `(tactic| walk_at "fz") => `(tactic| repeat (first | exact Fz.refl | apply Fz.upd))
local macro_rules | `(tactic| walk_at "hl") => `(tactic| ((repeat rw [upd_ne (by assumption)]); assumption))

section
variable {P : Program} {w : World} {K : PySem.W.Frag} {mg : Str → Option Value} {base : Heap}
theorem ok__law_signs (T : Txt K mg) : FnOk P w K mg base CX0 1 T.a__law_signs T.d__law_signs [] spSigns := by
  refine T.F__law_signs.ok sc__law_signs (fun vs H Q E h => ?_) (fun cdv A outer s H vs Q E hr h => ?_)
  · obtain ⟨rfl, q⟩ := h
    rfl
  · obtain ⟨rfl, q⟩ := h
    refine ⟨_, (pss_cons (ps_set (i := 0) sc__law_signs.nd rfl (.inl rfl) pe_str)
      (pss_one (ps_ret (pe_op op_add_str (pv 0) pe_str)))), ?_⟩
    walk_at "st"
    exact q
theorem ok__law_text (T : Txt K mg) : FnOk P w K mg base CX0 2 T.a__law_text T.d__law_text ["tape"] spText := by
  have G__law_draw := ok__law_draw (P := P) (w := w) (base := base) T
  have G__law_signs := ok__law_signs (P := P) (w := w) (base := base) T
  refine T.F__law_text.ok sc__law_text (fun vs H Q E h => ?_) (fun cdv A outer s H vs Q E hr h => ?_)
  · obtain ⟨t, rfl, hT, q⟩ := h
    rfl
  · obtain ⟨t, rfl, hT, q⟩ := h
    refine ⟨_, (pss_cons (ps_set (i := 1) sc__law_text.nd rfl (.inl rfl) (pe_call G__law_draw hr (by rfl) T.g__law_draw T.F__law_draw.kp T.b__law_draw .nil pass0 (pa_cons (pv 0) (pa_cons pe_int pa_nil))))
      (pss_cons (ps_set (i := 2) sc__law_text.nd rfl (.inl rfl) (pe_op op_mod (pe_callTy call_int1 (by rfl) T.z_int boot_int (pa_cons (pv 1) pa_nil)) pe_int))
      (pss_cons (ps_set (i := 3) sc__law_text.nd rfl (.inl rfl) pe_str)
      (pss_cons (ps_if (pt_cmpR op_lt (pv 2) pe_int (nomark _)) (pss_cons (ps_for PassesOwn.never rfl (pi_range1 (by rfl) T.z_range (pa_cons (pe_ix ix_list (pe_lst (pa_cons pe_int (pa_cons pe_int (pa_cons pe_int (pa_cons pe_int (pa_cons pe_int (pa_cons pe_int pa_nil))))))) (pv 2) (fun _ _ => rfl)) pa_nil)) (pg_name (i := 4) sc__law_text.nd rfl (.inl rfl))
      (pss_one (ps_set (i := 3) sc__law_text.nd rfl (.inl rfl) (pe_op op_add_str (pv 3) (pe_ix ix_str pe_str (pe_op op_mod (pe_callTy call_int1 (by rfl) T.z_int boot_int (pa_cons (pe_op op_fdivW (pv 1) (pe_ix ix_list (pe_lst (pa_cons pe_int (pa_cons pe_int (pa_cons pe_int pa_nil)))) (pv 4) (fun _ _ => rfl))) pa_nil)) pe_int) (fun _ _ => rfl))))))
      (pss_one (ps_ret (pv 3)))) pss_nil)
      (pss_cons (ps_for PassesOwn.never rfl (pi_range1 (by rfl) T.z_range (pa_cons (pe_ix ix_list (pe_lst (pa_cons pe_int (pa_cons (pe_op op_fdivW (pv 1) pe_int) pa_nil))) (pe_op op_sub (pv 2) pe_int) (fun _ _ => rfl)) pa_nil)) (pg_name (i := 4) sc__law_text.nd rfl (.inl rfl))
      (pss_one (ps_set (i := 3) sc__law_text.nd rfl (.inl rfl) (pe_op op_add_str (pv 3) (pe_ix ix_str (pe_call0 G__law_signs hr (by rfl) T.g__law_signs T.F__law_signs.kp T.b__law_signs .nil pass0) (pe_call G__law_draw hr (by rfl) T.g__law_draw T.F__law_draw.kp T.b__law_draw .nil pass0 (pa_cons (pv 0) (pa_cons pe_int pa_nil))) (fun _ _ => rfl))))))
      (pss_one (ps_ret (pv 3)))))))), ?_⟩
    walk_at "st"
    intro H1 r f1 T1 r0 r1
    have r2 : r < 21000 := by omega
    walk_at "st"
    refine ite2 (fun e => ?_) (fun e => ?_)
    · have e' : r % 8 < 6 := of_decide_eq_true e
      walk_at "st"
      intro p1 n1
      obtain ⟨u, eu, mu⟩ := pick (ns := [0, 1, 1, 1, 2, 3]) (i := r % 8) (by omega) (by simp; omega)
      have hu : 0 ≤ u ∧ u ≤ 3 := by
        simp at mu
        omega
      walk_at "st"
      refine ⟨_, _, _, _, rfl, rfl, .of upd_same, eu, ?_⟩
      walk_at "st"
      refine for_range (fun i σ H' => Iv (∃ x y, σ = [some (.ref t.a), some (.int r), some (.int (r % 8)), some (.str x), y] ∧ Fz t.a H H' ∧ TapeAt H' t ∧ x.length ≤ i ∧ Sgns x))
        (.a ⟨_, _, rfl, f1.new n1, T1.new n1, by decide, sgns_nil⟩) ?_ ?_
      · rintro i σ H' hi iv
        obtain ⟨x, y, rfl, f2, T2, hx, hs⟩ := iv.out
        walk_at "st"
        intro p2 n2
        obtain ⟨d, ed, md⟩ := pick (ns := [8, 40, 200]) (i := 0 + (i : Int)) (by omega) (by simp; omega)
        have hd : 0 < d ∧ d < 201 := by
          simp at md
          omega
        walk_at "st"
        refine ⟨_, _, _, _, rfl, rfl, .of upd_same, ed, ?_⟩
        walk_at "st"
        obtain ⟨c, ec, mc⟩ := pickS (l := ("abB' " : PySem.Str).cps.toList) (i := (r / d) % 5) (by omega) (by rw [quad_len]; omega)
        refine ⟨_, _, c, rfl, rfl, line (by decide), ec, ?_⟩
        walk_at "st"
        exact .a ⟨_, _, rfl, f2.new n2, T2.new n2, len_push hx, txt_push hs (quad_all c mc)⟩
      · rintro σ H' iv
        obtain ⟨x, y, rfl, f2, T2, hx, hs⟩ := iv.out
        walk_at "st"
        exact q _ _ f2 T2 ⟨by omega, hs⟩
    · have e' : ¬ r % 8 < 6 := fun z => e (decide_eq_true z)
      walk_at "st"
      intro p1 n1
      obtain ⟨u, eu, mu⟩ := pick (ns := [20, r / 1000]) (i := r % 8 - 6) (by omega) (by simp; omega)
      have hu : 0 ≤ u ∧ u ≤ 20 := by
        simp at mu
        omega
      walk_at "st"
      refine ⟨_, _, _, _, rfl, rfl, .of upd_same, eu, ?_⟩
      walk_at "st"
      refine for_range (fun i σ H' => Iv (∃ x y, σ = [some (.ref t.a), some (.int r), some (.int (r % 8)), some (.str x), y] ∧ Fz t.a H H' ∧ TapeAt H' t ∧ x.length ≤ i ∧ Sgns x))
        (.a ⟨_, _, rfl, f1.new n1, T1.new n1, by decide, sgns_nil⟩) ?_ ?_
      · rintro i σ H' hi iv
        obtain ⟨x, y, rfl, f2, T2, hx, hs⟩ := iv.out
        walk_at "st"
        intro H3 a f3 T3 a0 a1
        obtain ⟨c, ec, mc⟩ := sg_pick (i := a) a0 (by omega)
        refine ⟨_, _, c, rfl, rfl, line (by rw [sg_len]; decide), ec, ?_⟩
        walk_at "st"
        exact .a ⟨_, _, rfl, f2.trans f3, T3, len_push hx, txt_push hs mc⟩
      · rintro σ H' iv
        obtain ⟨x, y, rfl, f2, T2, hx, hs⟩ := iv.out
        walk_at "st"
        exact q _ _ f2 T2 ⟨by omega, hs⟩
end
end Ind

set_option Elab.async false
set_option linter.all false
set_option maxRecDepth 100000
set_option maxHeartbeats 4000000
namespace Ind
open PySem PySem.Spec PyProof.Rows L2
local macro_rules | `(tactic| walk_at "cn") => `(tactic| first
  | assumption
  | omega
  | exact dm (by omega)
  | exact line (by simp)
  | exact line (by omega)
  | exact line (by simp only [len_app, len_one]; omega)
  | exact small_div (by omega) (by omega)
  | solve_by_elim
  | exact Or.inr ⟨by omega, by omega⟩
  | exact Or.inl ⟨by omega, by omega⟩
  | exact ⟨by omega, by omega⟩
  | decide)
local macro_rules | `(tactic| walk_at "st") => `(tactic| repeat (first
  | refine ⟨_, rfl, ?_⟩
  | refine ⟨_, _, rfl, rfl, ?_⟩
  | refine ⟨_, _, rfl, ?_⟩
  | refine .inl ⟨_, rfl, ?_⟩
  | refine And.intro rfl ?_
  | refine And.intro (by walk_at "cn") ?_))
local macro_rules | `(tactic| walk_at "fz") => `(tactic| repeat (first | exact Fz.refl | apply Fz.upd))
local macro_rules | `(tactic| walk_at "hl") => `(tactic| ((repeat rw [upd_ne (by assumption)]); assumption))

section
variable {P : Program} {w : World} {K : PySem.W.Frag} {mg : Str → Option Value} {base : Heap}
theorem ok__law_name (T : Txt K mg) : FnOk P w K mg base CX0 2 T.a__law_name T.d__law_name ["tape"] spName := by
  have G__law_draw := ok__law_draw (P := P) (w := w) (base := base) T
  refine T.F__law_name.ok sc__law_name (fun vs H Q E h => ?_) (fun cdv A outer s H vs Q E hr h => ?_)
  · obtain ⟨t, rfl, hT, q⟩ := h
    rfl
  · obtain ⟨t, rfl, hT, q⟩ := h
    refine ⟨_, (pss_cons (ps_set (i := 1) sc__law_name.nd rfl (.inl rfl) pe_str)
      (pss_cons (ps_set (i := 2) sc__law_name.nd rfl (.inl rfl) (pe_call G__law_draw hr (by rfl) T.g__law_draw T.F__law_draw.kp T.b__law_draw .nil pass0 (pa_cons (pv 0) (pa_cons pe_int pa_nil))))
      (pss_cons (ps_set (i := 3) sc__law_name.nd rfl (.inl rfl) (pe_op op_add_str (pe_ix ix_list (pe_lst (pa_cons pe_str (pa_cons pe_str (pa_cons pe_str (pa_cons pe_str pa_nil))))) (pe_op op_mod (pe_callTy call_int1 (by rfl) T.z_int boot_int (pa_cons (pv 2) pa_nil)) pe_int) (fun _ _ => rfl)) (pe_ix ix_str (pv 1) (pe_op op_mod (pe_callTy call_int1 (by rfl) T.z_int boot_int (pa_cons (pe_op op_fdivW (pv 2) pe_int) pa_nil)) pe_int) (fun _ _ => rfl))))
      (pss_cons (ps_for PassesOwn.never rfl (pi_range1 (by rfl) T.z_range (pa_cons (pe_ix ix_list (pe_lst (pa_cons pe_int (pa_cons pe_int (pa_cons pe_int (pa_cons pe_int pa_nil))))) (pe_op op_mod (pe_callTy call_int1 (by rfl) T.z_int boot_int (pa_cons (pe_op op_fdivW (pv 2) pe_int) pa_nil)) pe_int) (fun _ _ => rfl)) pa_nil)) (pg_name (i := 4) sc__law_name.nd rfl (.inl rfl))
      (pss_one (ps_set (i := 3) sc__law_name.nd rfl (.inl rfl) (pe_op op_add_str (pv 3) (pe_ix ix_str (pv 1) (pe_op op_mod (pe_callTy call_int1 (by rfl) T.z_int boot_int (pa_cons (pe_op op_fdivW (pv 2) (pe_ix ix_list (pe_lst (pa_cons pe_int (pa_cons pe_int pa_nil))) (pv 4) (fun _ _ => rfl))) pa_nil)) pe_int) (fun _ _ => rfl))))))
      (pss_cons (ps_if (pt_cmpR op_in_seq (pv 3) (pe_lst (pa_cons pe_str (pa_cons pe_str (pa_cons pe_str (pa_cons pe_str (pa_cons pe_str (pa_cons pe_str (pa_cons pe_str (pa_cons pe_str (pa_cons pe_str (pa_cons pe_str pa_nil))))))))))) (by rfl)) (pss_one (ps_ret (pe_op op_add_str (pv 3) pe_str))) pss_nil)
      (pss_one (ps_ret (pv 3)))))))), ?_⟩
    walk_at "st"
    intro H1 r f1 T1 r0 r1
    have r2 : r < 569504 := by omega
    walk_at "st"
    intro p1 n1
    obtain ⟨z, ez, mz⟩ := pickT (ss := ["", "", "", "reservation_x"]) (i := r % 4) (by omega) (by simp; omega)
    have hz : z.length ≤ 13 ∧ Sgns z := by
      simp only [List.mem_cons, List.not_mem_nil, or_false] at mz
      rcases mz with rfl | rfl | rfl | rfl
      iterate 3 exact ⟨by decide, sgns_nil⟩
      exact ⟨by decide, by unfold Sgns; decide +kernel⟩
    walk_at "st"
    refine ⟨_, _, _, _, rfl, rfl, .of upd_same, ez, ?_⟩
    walk_at "st"
    obtain ⟨c, ec, sc⟩ := nm_pick (i := (r / 16) % 26) (by omega) (by omega)
    refine ⟨_, _, c, rfl, rfl, line (by decide), ec, ?_⟩
    walk_at "st"
    intro p2 n2
    obtain ⟨u, eu, mu⟩ := pick (ns := [0, 0, 1, 2]) (i := (r / 4) % 4) (by omega) (by simp; omega)
    have hu : 0 ≤ u ∧ u ≤ 2 := by
      simp at mu
      omega
    walk_at "st"
    refine ⟨_, _, _, _, rfl, rfl, .of upd_same, eu, ?_⟩
    walk_at "st"
    refine for_range (fun i σ H' => Iv (∃ x y, σ = [some (.ref t.a), some (.str nmSigns), some (.int r), some (.str x), y] ∧ Fz t.a H H' ∧ TapeAt H' t ∧ x.length ≤ 14 + i ∧ Sgns x))
      (.a ⟨_, _, rfl, (f1.new n1).new n2, (T1.new n1).new n2, len_push hz.1, txt_push hz.2 sc⟩) ?_ ?_
    · rintro i σ H' hi iv
      obtain ⟨x, y, rfl, f2, T2, hx, hxs⟩ := iv.out
      walk_at "st"
      intro p3 n3
      obtain ⟨d, ed, md⟩ := pick (ns := [416, 15392]) (i := 0 + (i : Int)) (by omega) (by simp; omega)
      have hd : 0 < d ∧ d < 20000 := by
        simp at md
        omega
      walk_at "st"
      refine ⟨_, _, _, _, rfl, rfl, .of upd_same, ed, ?_⟩
      walk_at "st"
      obtain ⟨c2, ec2, sc2⟩ := nm_pick (i := (r / d) % 37) (by omega) (by omega)
      refine ⟨_, _, c2, rfl, rfl, line (by decide), ec2, ?_⟩
      walk_at "st"
      exact .a ⟨_, _, rfl, f2.new n3, T2.new n3, len_push hx, txt_push hxs sc2⟩
    · rintro σ H' iv
      obtain ⟨x, y, rfl, f2, T2, hx, hxs⟩ := iv.out
      walk_at "st"
      intro p3 n3
      refine ⟨_, _, rfl, .inl (.of upd_same), rfl, rfl, ?_⟩
      walk_at "st"
      refine ite2 (fun e => ?_) (fun e => ?_)
      · walk_at "st"
        have l2 : (x ++ ("_" : S)).length ≤ 20 := by
          rw [len_app, show ("_" : S).length = 1 by decide]
          omega
        refine And.intro (line (by rw [show ("_" : S).length = 1 by decide]; omega)) ?_
        exact q _ _ (f2.new n3) (T2.new n3) ⟨l2, hxs.app (by unfold Sgns; decide +kernel)⟩
      · walk_at "st"
        exact q _ _ (f2.new n3) (T2.new n3) ⟨by omega, hxs⟩
theorem ok__law_names (T : Txt K mg) : FnOk P w K mg base CX0 3 T.a__law_names T.d__law_names ["tape", "many"] spNamesN := by
  have G__law_name := ok__law_name (P := P) (w := w) (base := base) T
  refine T.F__law_names.ok sc__law_names (fun vs H Q E h => ?_) (fun cdv A outer s H vs Q E hr h => ?_)
  · obtain ⟨t, m, rfl, hT, ⟨m0, m1⟩, q⟩ := h
    rfl
  · obtain ⟨t, m, rfl, hT, ⟨m0, m1⟩, q⟩ := h
    refine ⟨_, (pss_cons (ps_set (i := 2) sc__law_names.nd rfl (.inl rfl) (pe_lst pa_nil))
      (pss_cons (ps_for PassesOwn.never rfl (pi_range1 (by rfl) T.z_range (pa_cons (pv 1) pa_nil)) (pg_name (i := 3) sc__law_names.nd rfl (.inl rfl))
      (pss_cons (ps_set (i := 4) sc__law_names.nd rfl (.inl rfl) (pe_call G__law_name hr (by rfl) T.g__law_name T.F__law_name.kp T.b__law_name .nil pass0 (pa_cons (pv 0) pa_nil)))
      (pss_one (ps_if (pt_cmpR op_notIn_seq (pv 4) (pv 2) (by rfl)) (pss_one (ps_expr (pe_bm PySem.F.plainAttrs_list PySem.F.slot_list_append PySem.F.type_list_append mt_append (pv 2) (pa_cons (pv 4) pa_nil)))) pss_nil))))
      (pss_one (ps_ret (pv 2))))), ?_⟩
    walk_at "st"
    intro p np
    have off := hT.off np
    walk_at "st"
    refine for_range (fun i σ H' => Iv (∃ (ns : List S) (y z : Option V), σ = [some (.ref t.a), some (.int m), some (.ref p), y, z] ∧ Fz t.a H H' ∧ TapeAt H' t ∧ H' p = some (.lst (ns.map V.str)) ∧ ns.Nodup ∧ ns.length ≤ i ∧ (∀ n ∈ ns, TxtOk n) ∧ (0 < i → ns ≠ [])))
      (.a ⟨[], _, _, rfl, Fz.refl.new np, hT.new np, upd_same, .nil, by decide, by simp, fun z => absurd z (by decide)⟩) ?_ ?_
    · rintro i σ H' hi iv
      obtain ⟨ns, y, z, rfl, f2, T2, hp, nd, hl, hn, hz⟩ := iv.out
      walk_at "st"
      intro H3 x f3 T3 hx
      have hp3 := f3 p _ off.a hp
      walk_at "st"
      refine ⟨_, _, rfl, .inl (.of hp3), rfl, flat_strs _, ?_⟩
      walk_at "st"
      rw [inV_strs]
      refine ite2 (fun e => ?_) (fun e => ?_)
      · have nin : x ∉ ns := by simpa using e
        walk_at "st"
        refine ⟨.inl ⟨rfl, _, .of hp3⟩, ?_⟩
        walk_at "st"
        refine ⟨_, _, _, rfl, rfl, hp3, small1000 (by simp <;> omega), ?_⟩
        refine .a ⟨ns ++ [x], _, _, rfl, (f2.trans f3).upd' np, T3.upd off, ?_, ?_, ?_, ?_, fun _ => by simp⟩
        · rw [upd_same, List.map_append]; rfl
        · exact List.nodup_append.mpr ⟨nd, by simp, by simp only [List.mem_singleton, forall_eq]; exact fun a ha e => nin (e ▸ ha)⟩
        · simp; omega
        · intro n h
          rcases List.mem_append.mp h with h | h
          · exact hn n h
          · cases List.mem_singleton.mp h; exact hx
      · walk_at "st"
        exact .a ⟨ns, _, _, rfl, f2.trans f3, T3, hp3, nd, by omega, hn, fun _ => by intro z; rw [z] at e; simp at e⟩
    · rintro σ H' iv
      obtain ⟨ns, y, z, rfl, f2, T2, hp, nd, hl, hn, hz⟩ := iv.out
      walk_at "st"
      exact q _ p ns f2 T2 np hp nd hl hn (fun z => hz (by omega))
theorem ok__law_value (T : Txt K mg) : FnOk P w K mg base CX0 3 T.a__law_value T.d__law_value ["tape", "kind"] (spValue K) := by
  have G__law_draw := ok__law_draw (P := P) (w := w) (base := base) T
  have G__law_text := ok__law_text (P := P) (w := w) (base := base) T
  refine T.F__law_value.ok sc__law_value (fun vs H Q E h => ?_) (fun cdv A outer s H vs Q E hr h => ?_)
  · obtain ⟨t, v, k, rfl, hT, hk, ok, q⟩ := h
    rfl
  · obtain ⟨t, v, k, rfl, hT, hk, ok, q⟩ := h
    refine ⟨_, (pss_cons (ps_if (pt_cmpR op_eq (pe_ix ix_tup (pv 1) pe_int (fun _ _ => rfl)) pe_str (nomark _)) (pss_one (ps_ret (pe_call G__law_text hr (by rfl) T.g__law_text T.F__law_text.kp T.b__law_text .nil pass0 (pa_cons (pv 0) pa_nil)))) pss_nil)
      (pss_cons (ps_set (i := 2) sc__law_value.nd rfl (.inl rfl) (pe_ix ix_tup (pv 1) pe_int (fun _ _ => rfl)))
      (pss_cons (ps_set (i := 3) sc__law_value.nd rfl (.inl rfl) (pe_call G__law_draw (hr.mono (by decide)) (by rfl) T.g__law_draw T.F__law_draw.kp T.b__law_draw .nil pass0 (pa_cons (pv 0) (pa_cons (pe_op op_mul pe_int (pe_op op_add (pv 2) pe_int)) pa_nil))))
      (pss_cons (ps_set (i := 4) sc__law_value.nd rfl (.inl rfl) (pe_op op_mod (pe_callTy call_int1 (by rfl) T.z_int boot_int (pa_cons (pv 3) pa_nil)) pe_int))
      (pss_cons (ps_if (pt_cmpR op_lt (pv 4) pe_int (nomark _)) (pss_one (ps_ret (pe_callB (call_min2 rfl) (by rfl) T.z_min boot_min (pa_cons (pv 2) (pa_cons (pe_op op_mod (pe_callTy call_int1 (by rfl) T.z_int boot_int (pa_cons (pe_op op_fdivW (pv 3) pe_int) pa_nil)) pe_int) pa_nil))))) pss_nil)
      (pss_cons (ps_if (pt_cmpR op_eq (pv 4) pe_int (nomark _)) (pss_one (ps_ret (pe_callB (call_max2 rfl) (by rfl) T.z_max boot_max (pa_cons (pe_un un_neg (pv 2)) (pa_cons (pe_callB (call_min2 rfl) (by rfl) T.z_min boot_min (pa_cons (pv 2) (pa_cons (pe_op op_sub (pe_op op_mod (pe_callTy call_int1 (by rfl) T.z_int boot_int (pa_cons (pe_op op_fdivW (pv 3) pe_int) pa_nil)) pe_int) pe_int) pa_nil))) pa_nil))))) pss_nil)
      (pss_cons (ps_if (pt_cmpR op_eq (pv 4) pe_int (nomark _)) (pss_one (ps_ret (pe_ix ix_list (pe_lst (pa_cons (pv 2) (pa_cons (pe_un un_neg (pv 2)) pa_nil))) (pe_op op_mod (pe_callTy call_int1 (by rfl) T.z_int boot_int (pa_cons (pe_op op_fdivW (pv 3) pe_int) pa_nil)) pe_int) (fun _ _ => rfl)))) pss_nil)
      (pss_one (ps_ret (pe_op op_sub (pe_op op_mod (pe_callTy call_int1 (by rfl) T.z_int boot_int (pa_cons (pe_op op_mul (pe_op op_fdivW (pv 3) pe_int) pe_int) pa_nil)) (pe_op op_add (pe_op op_mul pe_int (pv 2)) pe_int)) (pv 2))))))))))), ?_⟩
    cases k with
    | none =>
      obtain ⟨a, xs, rfl, hs, hx⟩ := hk.tup_inv
      obtain ⟨x0, rfl⟩ : ∃ x0, xs = [x0] := by
        have l := hx.len
        match xs, l with
        | [x0], _ => exact ⟨x0, rfl⟩
      obtain ⟨v0, e0, d0⟩ := hx.get (i := 0) rfl
      cases (show v0 = x0 from (Option.some.inj e0).symm)
      cases d0.str_inv
      walk_at "st"
      refine ⟨_, _, _, _, rfl, rfl, hs, atI_nat (j := 0) rfl, ?_⟩
      walk_at "st"
      exact fun H2 x f2 T2 hx => q _ _ f2 T2 hx
    | some b =>
      obtain ⟨a, xs, rfl, hs, hx⟩ := hk.tup_inv
      obtain ⟨x0, x1, rfl⟩ : ∃ x0 x1, xs = [x0, x1] := by
        have l := hx.len
        match xs, l with
        | [x0, x1], _ => exact ⟨x0, x1, rfl⟩
      obtain ⟨v0, e0, d0⟩ := hx.get (i := 0) rfl
      cases (show v0 = x0 from (Option.some.inj e0).symm)
      cases d0.str_inv
      obtain ⟨v1, e1, d1⟩ := hx.get (i := 1) rfl
      cases (show v1 = x1 from (Option.some.inj e1).symm)
      cases d1.int_inv
      have b0 : 0 ≤ b := ok.1
      have b1 : b ≤ 1000000000000 := ok.2
      walk_at "st"
      refine ⟨_, _, _, _, rfl, rfl, hs, atI_nat (j := 0) rfl, ?_⟩
      walk_at "st"
      refine ⟨_, _, _, _, rfl, rfl, hs, atI_nat (j := 1) rfl, ?_⟩
      walk_at "st"
      intro H2 r f2 T2 r0 r1
      walk_at "st"
      refine ite2 (fun e => ?_) (fun e => ?_)
      · walk_at "st"
        exact q _ _ f2 T2 (show -b ≤ _ ∧ _ ≤ b from ⟨by split <;> omega, by split <;> omega⟩)
      · walk_at "st"
        refine ite2 (fun e => ?_) (fun e => ?_)
        · walk_at "st"
          exact q _ _ f2 T2 (show -b ≤ _ ∧ _ ≤ b from ⟨by (repeat' split) <;> omega, by (repeat' split) <;> omega⟩)
        · walk_at "st"
          refine ite2 (fun e => ?_) (fun e => ?_)
          · walk_at "st"
            intro p1 n1
            obtain ⟨u, eu, mu⟩ := pick (ns := [b, -b]) (i := (r / 8) % 2) (by omega) (by simp; omega)
            walk_at "st"
            refine ⟨_, _, _, _, rfl, rfl, .of upd_same, eu, ?_⟩
            exact q _ _ (f2.new n1) (T2.new n1) (show -b ≤ _ ∧ _ ≤ b by simp at mu; omega)
          · walk_at "st"
            have m0 := Int.emod_nonneg (r / 8 * 1000003) (b := 2 * b + 1) (by omega)
            have m1 := Int.emod_lt_of_pos (r / 8 * 1000003) (b := 2 * b + 1) (by omega)
            exact q _ _ f2 T2 (show -b ≤ _ ∧ _ ≤ b by omega)
end
end Ind

set_option Elab.async false
set_option linter.all false
set_option maxRecDepth 100000
set_option maxHeartbeats 4000000
namespace Ind
open PySem PySem.Spec PyProof.Rows L2 IndG
local macro_rules | `(tactic| walk_at "cn") => `(tactic| first
  | assumption
  | omega
  | exact dm (by omega)
  | exact line (by simp)
  | exact line (by omega)
  | exact line (by simp only [len_app, len_one]; omega)
  | exact small_div (by omega) (by omega)
  | solve_by_elim
  | exact Or.inr ⟨by omega, by omega⟩
  | exact Or.inl ⟨by omega, by omega⟩
  | exact ⟨by omega, by omega⟩
  | decide)
local macro_rules | `(tactic| walk_at "st") => `(tactic| repeat (first
  | refine ⟨_, rfl, ?_⟩
  | refine ⟨_, _, rfl, rfl, ?_⟩
  | refine ⟨_, _, rfl, ?_⟩
  | refine .inl ⟨_, rfl, ?_⟩
  | refine And.intro rfl ?_
  | refine And.intro (by walk_at "cn") ?_))
local macro_rules | `(tactic| walk_at "fz") => `(tactic| repeat (first | exact Fz.refl | apply Fz.upd))
local macro_rules | `(tactic| walk_at "hl") => `(tactic| ((repeat rw [upd_ne (by assumption)]); assumption))

section
variable {P : Program} {w : World} {K : PySem.W.Frag} {mg : Str → Option Value} {base : Heap}
theorem ok__law_fits (T : Txt K mg) : FnOk P w K mg base CX0 1 T.a__law_fits T.d__law_fits ["value", "word"] spFits := by
  refine T.F__law_fits.ok sc__law_fits (fun vs H Q E h => ?_) (fun cdv A outer s H vs Q E hr h => ?_)
  · obtain ⟨v, b, rfl, hpv, q⟩ := h
    rfl
  · obtain ⟨v, b, rfl, hpv, q⟩ := h
    refine ⟨_, (pss_cons (ps_if (pt_cmpR op_eq (pv 1) pe_str (nomark _)) (pss_one (ps_ret (pe_callB call_isi (by rfl) T.z_isinstance boot_isinstance (pa_cons (pv 0) (pa_cons (pe_bltn (v := .ty "str") (by rfl) T.z_str boot_str rfl) pa_nil))))) pss_nil)
      (pss_one (ps_ret (pe_and (pe_callB call_isi (by rfl) T.z_isinstance boot_isinstance (pa_cons (pv 0) (pa_cons (pe_bltn (v := .ty "int") (by rfl) T.z_int boot_int rfl) pa_nil))) (pe_and (pe_cmpR op_le (pe_un un_neg pe_int) (pv 0) (nomark _)) (pe_one (pe_cmpR op_le (pv 0) pe_int (nomark _)))))))), ?_⟩
    walk_at "st"
    refine ite2 (fun e => ?_) (fun e => ?_)
    · have eb : b = true := by
        cases b
        · exact absurd (dstr e) (by decide)
        · rfl
      subst eb
      cases v with
      | int i =>
        walk_at "st"
        refine ⟨_, _, _, _, _, rfl, .ty _, .base (.int _), kit_ty k_int_str, ?_⟩
        exact q
      | str x =>
        walk_at "st"
        refine ⟨_, _, _, _, _, rfl, .ty _, .base (.str _), kit_ty k_str_str, ?_⟩
        exact q
      | _ => exact hpv.elim
    · have eb : b = false := by
        cases b
        · rfl
        · exact absurd (decide_eq_true rfl) e
      subst eb
      cases v with
      | int i =>
        walk_at "st"
        refine ⟨_, _, _, _, _, rfl, .ty _, .base (.int _), kit_ty k_int_int, ?_⟩
        walk_at "st"
        refine ite2 (fun e1 => ?_) (fun e1 => ?_)
        · walk_at "st"
          have : fitsB (.int i) false = decide (i ≤ 1000000) := by
            show (!false && (decide (-1000000 ≤ i) && decide (i ≤ 1000000))) = _
            rw [e1]
            rfl
          rw [this] at q
          exact q
        · have : fitsB (.int i) false = false := by
            show (!false && (decide (-1000000 ≤ i) && decide (i ≤ 1000000))) = _
            rw [show decide (-1000000 ≤ i) = false by simpa using e1]
            rfl
          rw [this] at q
          exact q
      | str x =>
        walk_at "st"
        refine ⟨_, _, _, _, _, rfl, .ty _, .base (.str _), kit_ty k_str_int, ?_⟩
        walk_at "st"
        exact q
      | _ => exact hpv.elim
theorem ok__law_odd (T : Txt K mg) : FnOk P w K mg base CX0 3 T.a__law_odd T.d__law_odd ["tape"] spOdd := by
  have G__law_draw := ok__law_draw (P := P) (w := w) (base := base) T
  have G__law_text := ok__law_text (P := P) (w := w) (base := base) T
  refine T.F__law_odd.ok sc__law_odd (fun vs H Q E h => ?_) (fun cdv A outer s H vs Q E hr h => ?_)
  · obtain ⟨t, rfl, hT, q⟩ := h
    rfl
  · obtain ⟨t, rfl, hT, q⟩ := h
    refine ⟨_, (pss_cons (ps_set (i := 1) sc__law_odd.nd rfl (.inl rfl) (pe_call G__law_draw (hr.mono (by decide)) (by rfl) T.g__law_draw T.F__law_draw.kp T.b__law_draw .nil pass0 (pa_cons (pv 0) (pa_cons pe_int pa_nil))))
      (pss_cons (ps_if (pt_cmpR op_eq (pe_op op_mod (pe_callTy call_int1 (by rfl) T.z_int boot_int (pa_cons (pv 1) pa_nil)) pe_int) pe_int (nomark _)) (pss_one (ps_ret (pe_ix ix_list (pe_lst (pa_cons (pe_call G__law_text hr (by rfl) T.g__law_text T.F__law_text.kp T.b__law_text .nil pass0 (pa_cons (pv 0) pa_nil)) (pa_cons (pe_callTy call_str_int (by rfl) T.z_str boot_str (pa_cons (pv 1) pa_nil)) pa_nil))) (pe_op op_mod (pe_callTy call_int1 (by rfl) T.z_int boot_int (pa_cons (pe_op op_fdivW (pv 1) pe_int) pa_nil)) pe_int) (fun _ _ => rfl)))) pss_nil)
      (pss_cons (ps_set (i := 2) sc__law_odd.nd rfl (.inl rfl) (pe_op op_add pe_int (pe_op op_mod (pe_callTy call_int1 (by rfl) T.z_int boot_int (pa_cons (pe_op op_fdivW (pv 1) pe_int) pa_nil)) pe_int)))
      (pss_one (ps_ret (pe_ix ix_list (pe_lst (pa_cons (pv 2) (pa_cons (pe_un un_neg (pv 2)) (pa_cons (pe_op op_sub (pe_op op_pow pe_int pe_int) (pv 1)) pa_nil)))) (pe_op op_sub (pe_op op_mod (pe_callTy call_int1 (by rfl) T.z_int boot_int (pa_cons (pv 1) pa_nil)) pe_int) pe_int) (fun _ _ => rfl))))))), ?_⟩
    walk_at "st"
    intro H1 r f1 T1 r0 r1
    have r2 : r < 4000000 := by omega
    walk_at "st"
    refine ite2 (fun e => ?_) (fun e => ?_)
    · walk_at "st"
      intro H2 x f2 T2 hx
      walk_at "st"
      refine And.intro (log_low ⟨by omega, by omega⟩) ?_
      walk_at "st"
      intro p np
      obtain ⟨z, ez, _⟩ := pickT (ss := [x, Str.ofString (toString r)]) (i := (r / 4) % 2) (by omega) (by simp; omega)
      walk_at "st"
      refine ⟨_, _, _, _, rfl, rfl, .of upd_same, ez, ?_⟩
      exact q _ _ ((f1.trans f2).new np) (T2.new np) trivial
    · walk_at "st"
      intro p np
      have e2 : ¬ r % 4 = 0 := by
        intro z
        rw [decide_eq_true (show V.int (r % 4) = V.int 0 by rw [z])] at e
        exact e rfl
      obtain ⟨z, ez, _⟩ := pick (ns := [999998 + r / 4 % 5, -(999998 + r / 4 % 5), 10 ^ 30 - r]) (i := r % 4 - 1) (by omega) (by simp; omega)
      walk_at "st"
      refine ⟨_, _, _, _, rfl, rfl, .of upd_same, ez, ?_⟩
      exact q _ _ (f1.new np) (T1.new np) trivial
theorem ok__law_kinds (T : Txt K mg) : FnOk P w K mg base CX0 1 T.a__law_kinds T.d__law_kinds ["columns"] (spKinds K) := by
  refine T.F__law_kinds.ok sc__law_kinds (fun vs H Q E h => ?_) (fun cdv A outer s H vs Q E hr h => ?_)
  · obtain ⟨v, cs, rfl, dv, lc, q⟩ := h
    rfl
  · obtain ⟨v, cs, rfl, dv, lc, q⟩ := h
    refine ⟨_, (pss_cons (ps_set (i := 1) sc__law_kinds.nd rfl (.inl rfl) (pe_lst pa_nil))
      (pss_cons (ps_for PassesOwn.never rfl (pi_tup (pv 0)) (pg_name (i := 2) sc__law_kinds.nd rfl (.inl rfl))
      (pss_one (ps_if (pt_cmpR op_eq (pe_ix ix_tup (pv 2) pe_int (fun _ _ => rfl)) pe_str (nomark _)) (pss_one (ps_expr (pe_bm PySem.F.plainAttrs_list PySem.F.slot_list_append PySem.F.type_list_append mt_append (pv 1) (pa_cons (pe_tup (pa_cons (pe_ix ix_tup (pv 2) pe_int (fun _ _ => rfl)) (pa_cons (pe_tup (pa_cons pe_str (pa_cons pe_int pa_nil))) pa_nil))) pa_nil)))) (pss_one (ps_expr (pe_bm PySem.F.plainAttrs_list PySem.F.slot_list_append PySem.F.type_list_append mt_append (pv 1) (pa_cons (pe_tup (pa_cons (pe_ix ix_tup (pv 2) pe_int (fun _ _ => rfl)) (pa_cons (pe_tup (pa_cons pe_str pa_nil)) pa_nil))) pa_nil)))))))
      (pss_one (ps_ret (pe_callTy call_tuple_of (by rfl) T.z_tuple boot_tuple (pa_cons (pv 1) pa_nil)))))), ?_⟩
    obtain ⟨a, xs, rfl, hs, hx⟩ := dv.tup_inv
    have lx : xs.length = cs.length := by
      have := hx.len
      simpa using this
    walk_at "st"
    intro D nD
    walk_at "st"
    refine And.intro ⟨_, (Kp.new nD).sqT hs⟩ ?_
    refine for_tup (xs := xs) (fun i σ H' => Iv (∃ (ps : List Addr) (z : Option V), σ = [some (.ref a), some (.ref D), z] ∧ Same H H' ∧ H' D = some (.lst (ps.map V.ref)) ∧ DpAll K H' (ps.map V.ref) ((cs.take i).map fun c => colD (cwK c)))) (.a ⟨[], _, rfl, same_upd nD, upd_same, .nil⟩) ?_ ?_ ?_
    · intro i σ H' hi iv
      obtain ⟨ps, z, rfl, sm, hD, dp⟩ := iv.out
      exact (Same.kp sm).sqT hs
    · intro i x σ H' ex iv
      obtain ⟨ps, z, rfl, sm, hD, dp⟩ := iv.out
      obtain ⟨cc, ec, dc⟩ := dps_get hx ex
      obtain ⟨a5, u1, u2, rfl, hs5, d5, d6⟩ := dp_two (Dp.kp (Same.kp sm) _ _ (tO_cw cc) dc)
      cases d5.str_inv
      cases d6.str_inv
      have hi : i < cs.length := (List.getElem?_eq_some_iff.mp ec).1
      have lp : ps.length = i := by
        have := dp.len
        simp at this
        omega
      have kD : ∀ {b : Addr}, H' b = none → D ≠ b := fun {b} n => ne_of_none hD n
      walk_at "st"
      refine ⟨_, _, _, _, rfl, rfl, hs5, atI_nat (j := 1) rfl, ?_⟩
      walk_at "st"
      refine ite2 (fun e => ?_) (fun e => ?_)
      · have eb : cc.2 = false := by
          cases h : cc.2
          · rfl
          · rw [h] at e; exact absurd (dstr e) (by decide)
        walk_at "st"
        refine ⟨.inl ⟨rfl, _, .of hD⟩, ?_⟩
        walk_at "st"
        refine ⟨_, _, _, _, rfl, rfl, hs5, atI_nat (j := 0) rfl, ?_⟩
        walk_at "st"
        intro p1 n1
        walk_at "st"
        intro p2 n2
        have m1 : D ≠ p1 := kD n1
        have hD1 : upd H' p1 (.tup [.str "integer", .int 1000000]) D = some (.lst (ps.map V.ref)) := by rw [upd_ne m1]; exact hD
        have m2 : D ≠ p2 := ne_of_none hD1 n2
        have hD2 : upd (upd H' p1 (.tup [.str "integer", .int 1000000])) p2 (.tup [.str cc.1, .ref p1]) D = some (.lst (ps.map V.ref)) := by rw [upd_ne m2]; exact hD1
        have m12 : p1 ≠ p2 := ne_of_none upd_same n2
        refine ⟨_, _, _, rfl, rfl, hD2, small1000 (by simp <;> omega), ?_⟩
        refine .a ⟨ps ++ [p2], _, rfl, Same.upd' ((sm.trans (same_upd n1)).trans (same_upd n2)) nD, ?_, ?_⟩
        · rw [upd_same, List.map_append]; rfl
        · have kq : Kp H' (upd (upd (upd H' p1 (.tup [.str "integer", .int 1000000])) p2 (.tup [.str cc.1, .ref p1])) D (.lst (ps.map V.ref ++ [.ref p2]))) := ((Kp.new n1).trans (Kp.new n2)).trans (Kp.upd hD2)
          rw [List.map_append, take_more ec, List.map_append]
          have eK : cwK cc = (cc.1, some 1000000) := by unfold cwK; rw [eb]; rfl
          refine DpAll.app (DpAll.kp kq _ _ (tO_all _ (fun c => tO_col _) (cs.take i)) dp) (.cons ?_ .nil)
          show Dp K _ (.ref p2) (colD (cwK cc))
          rw [eK]
          refine .tup (xs := [.str cc.1, .ref p1]) (.of ?_) (.cons (.str _) (.cons (.tup (.of ?_) (.cons (.str _) (.cons (.int _) .nil))) .nil))
          · rw [upd_ne m2.symm, upd_same]
          · rw [upd_ne m1.symm, upd_ne m12, upd_same]
      · have eb : cc.2 = true := by
          cases h : cc.2
          · rw [h] at e; exact absurd (decide_eq_true rfl) e
          · rfl
        walk_at "st"
        refine ⟨.inl ⟨rfl, _, .of hD⟩, ?_⟩
        walk_at "st"
        refine ⟨_, _, _, _, rfl, rfl, hs5, atI_nat (j := 0) rfl, ?_⟩
        walk_at "st"
        intro p1 n1
        walk_at "st"
        intro p2 n2
        have m1 : D ≠ p1 := kD n1
        have hD1 : upd H' p1 (.tup [.str "string"]) D = some (.lst (ps.map V.ref)) := by rw [upd_ne m1]; exact hD
        have m2 : D ≠ p2 := ne_of_none hD1 n2
        have hD2 : upd (upd H' p1 (.tup [.str "string"])) p2 (.tup [.str cc.1, .ref p1]) D = some (.lst (ps.map V.ref)) := by rw [upd_ne m2]; exact hD1
        have m12 : p1 ≠ p2 := ne_of_none upd_same n2
        refine ⟨_, _, _, rfl, rfl, hD2, small1000 (by simp <;> omega), ?_⟩
        refine .a ⟨ps ++ [p2], _, rfl, Same.upd' ((sm.trans (same_upd n1)).trans (same_upd n2)) nD, ?_, ?_⟩
        · rw [upd_same, List.map_append]; rfl
        · have kq : Kp H' (upd (upd (upd H' p1 (.tup [.str "string"])) p2 (.tup [.str cc.1, .ref p1])) D (.lst (ps.map V.ref ++ [.ref p2]))) := ((Kp.new n1).trans (Kp.new n2)).trans (Kp.upd hD2)
          rw [List.map_append, take_more ec, List.map_append]
          have eK : cwK cc = (cc.1, none) := by unfold cwK; rw [eb]; rfl
          refine DpAll.app (DpAll.kp kq _ _ (tO_all _ (fun c => tO_col _) (cs.take i)) dp) (.cons ?_ .nil)
          show Dp K _ (.ref p2) (colD (cwK cc))
          rw [eK]
          refine .tup (xs := [.str cc.1, .ref p1]) (.of ?_) (.cons (.str _) (.cons (.tup (.of ?_) (.cons (.str _) .nil)) .nil))
          · rw [upd_ne m2.symm, upd_same]
          · rw [upd_ne m1.symm, upd_ne m12, upd_same]
    · intro σ H' iv
      obtain ⟨ps, z, rfl, sm, hD, dp⟩ := iv.out
      rw [lx, List.take_of_length_le (Nat.le_refl _)] at dp
      walk_at "st"
      refine ⟨_, _, rfl, .inl ⟨.of hD, ?_⟩⟩
      intro l9 n9
      exact q _ _ (sm.trans (same_upd n9)) (.tup (.of upd_same) (DpAll.kp (Kp.new n9) _ _ (tO_all _ (fun c => tO_col _) cs) dp))
end
end Ind

set_option Elab.async false
set_option linter.all false
set_option maxRecDepth 100000
set_option maxHeartbeats 4000000
namespace Ind
open PySem PySem.Spec PyProof.Rows L2 IndG
local macro_rules | `(tactic| walk_at "cn") => `(tactic| first
  | assumption
  | omega
  | exact dm (by omega)
  | exact line (by simp)
  | exact line (by omega)
  | exact line (by simp only [len_app, len_one]; omega)
  | exact small_div (by omega) (by omega)
  | solve_by_elim
  | exact Or.inr ⟨by omega, by omega⟩
  | exact Or.inl ⟨by omega, by omega⟩
  | exact ⟨by omega, by omega⟩
  | decide)
local macro_rules | `(tactic| walk_at "st") => `(tactic| repeat (first
  | refine ⟨_, rfl, ?_⟩
  | refine ⟨_, _, rfl, rfl, ?_⟩
  | refine ⟨_, _, rfl, ?_⟩
  | refine .inl ⟨_, rfl, ?_⟩
  | refine And.intro rfl ?_
  | refine And.intro (by walk_at "cn") ?_))
local macro_rules | `(tactic| walk_at "fz") => `(tactic| repeat (first | exact Fz.refl | apply Fz.upd))
local macro_rules | `(tactic| walk_at "hl") => `(tactic| ((repeat rw [upd_ne (by assumption)]); assumption))

theorem dp_erase {K : PySem.W.Frag} {H : Hp} : ∀ {vs : List V} {ds : List PyData} (k : Nat), DpAll K H vs ds → DpAll K H (vs.eraseIdx k) (ds.eraseIdx k)
  | _, _, _, .nil => .nil
  | _, _, 0, .cons _ t => t
  | _, _, k + 1, .cons h t => .cons h (dp_erase k t)
section
variable {P : Program} {w : World} {K : PySem.W.Frag} {mg : Str → Option Value} {base : Heap}
theorem ok__law_row (T : Txt K mg) : FnOk P w K mg base CX0 4 T.a__law_row T.d__law_row ["tape", "columns"] (spRow K) := by
  have G__law_value := ok__law_value (P := P) (w := w) (base := base) T
  refine T.F__law_row.ok sc__law_row (fun vs H Q E h => ?_) (fun cdv A outer s H vs Q E hr h => ?_)
  · obtain ⟨t, v, cs, rfl, hT, dv, lc, q⟩ := h
    rfl
  · obtain ⟨t, v, cs, rfl, hT, dv, lc, q⟩ := h
    refine ⟨_, (pss_one (ps_ret (pe_callTy call_tuple_of (by rfl) T.z_tuple boot_tuple (pa_cons (pe_lc (own := [("column", 2)]) (g := gName 2) (tt := tYes) rfl sc__law_row.nd (pi_tup (pv 1)) (blkOk_by (own := [("column", 2)]) (N := N__law_row) (sc := defScope s__law_row) (by decide +kernel)) (fun _ _ _ _ _ => (pg_name (i := 2) sc__law_row.nd rfl (.inl rfl))) (fun _ _ _ _ _ => pts_nil) (fun _ _ _ _ _ => (pe_call G__law_value hr (by rfl) T.g__law_value T.F__law_value.kp T.b__law_value .nil pass0 (pa_cons (pv 0) (pa_cons (pe_ix (ixT (K := K) rfl) (pv 2) pe_int (fun _ _ => rfl)) pa_nil))))) pa_nil)))), ?_⟩
    obtain ⟨a, xs, rfl, hs, hx⟩ := dv.tup_inv
    have lx : xs.length = cs.length := by
      have := hx.len
      simpa using this
    walk_at "st"
    intro D nD
    have offD := hT.off nD
    refine lc_tup (xs := xs) (fun i H' => Iv (∃ us : List V, Fz t.a H H' ∧ TapeAt H' t ∧ H' D = some (.lst us) ∧ (∀ x ∈ us, Pv x) ∧ us.length = i))
      (.a ⟨[], Fz.refl.new nD, hT.new nD, upd_same, by simp, rfl⟩) ?_ ?_ ?_
    · intro i H' hi iv
      obtain ⟨us, f1, T1, hD, hpv, lu⟩ := iv.out
      exact (f1.kp hT).sqT hs
    · intro i x H' ex iv
      obtain ⟨us, f1, T1, hD, hpv, lu⟩ := iv.out
      obtain ⟨cc, ec, dc⟩ := dps_get hx ex
      obtain ⟨a2, u2, rfl, hs2, du⟩ := col_at (Dp.kp (f1.kp hT) _ _ (tO_col _) dc)
      have hi : i < cs.length := (List.getElem?_eq_some_iff.mp ec).1
      walk_at "st"
      refine ⟨_, _, _, _, rfl, rfl, hs2, atI_nat (j := 1) rfl, ?_⟩
      walk_at "st"
      refine ⟨t, u2, (cwK cc).2, rfl, T1, du, ?_, ?_⟩
      · unfold cwK
        cases cc.2
        · exact ⟨by decide, by decide⟩
        · exact trivial
      intro H2 u f2 T2 hu
      have hpu : Pv u := by
        cases h : (cwK cc).2 with
        | none => rw [h] at hu; cases u <;> first | trivial | exact hu.elim
        | some b => rw [h] at hu; cases u <;> first | trivial | exact hu.elim
      refine ⟨_, f2 D _ offD.a hD, small1000 (by omega), .a ⟨us ++ [u], (f1.trans f2).upd' nD, T2.upd offD, upd_same, ?_, by simp; omega⟩⟩
      intro x hx
      rcases List.mem_append.mp hx with h | h
      · exact hpv x h
      · cases List.mem_singleton.mp h; exact hpu
    · intro H' iv
      obtain ⟨us, f1, T1, hD, hpv, lu⟩ := iv.out
      walk_at "st"
      refine ⟨_, _, rfl, .inl ⟨.of hD, ?_⟩⟩
      intro l9 n9
      exact q _ _ us (f1.new n9) (T1.new n9) ⟨l9, rfl, .of upd_same⟩ hpv (by omega)
theorem ok__law_some (T : Txt K mg) : FnOk P w K mg base CX0 2 T.a__law_some T.d__law_some ["tape", "names"] (spSome K) := by
  have G__law_draw := ok__law_draw (P := P) (w := w) (base := base) T
  refine T.F__law_some.ok sc__law_some (fun vs H Q E h => ?_) (fun cdv A outer s H vs Q E hr h => ?_)
  · obtain ⟨t, p, ps, cs, rfl, hT, pt, hp, dp, cne, lc, q⟩ := h
    rfl
  · obtain ⟨t, p, ps, cs, rfl, hT, pt, hp, dp, cne, lc, q⟩ := h
    refine ⟨_, (pss_cons (ps_set (i := 2) sc__law_some.nd rfl (.inl rfl) (pe_callTy call_list_of (by rfl) T.z_list boot_list (pa_cons (pv 1) pa_nil)))
      (pss_cons (ps_set (i := 3) sc__law_some.nd rfl (.inl rfl) (pe_lst pa_nil))
      (pss_cons (ps_for PassesOwn.never rfl (pi_range1 (by rfl) T.z_range (pa_cons (pe_op op_add pe_int (pe_call G__law_draw hr (by rfl) T.g__law_draw T.F__law_draw.kp T.b__law_draw .nil pass0 (pa_cons (pv 0) (pa_cons (pe_callB call_len_seq (by rfl) T.z_len boot_len (pa_cons (pv 2) pa_nil)) pa_nil)))) pa_nil)) (pg_name (i := 4) sc__law_some.nd rfl (.inl rfl))
      (pss_one (ps_expr (pe_bm PySem.F.plainAttrs_list PySem.F.slot_list_append PySem.F.type_list_append mt_append (pv 3) (pa_cons (pe_bm PySem.F.plainAttrs_list PySem.F.slot_list_pop PySem.F.type_list_pop mt_popAt (pv 2) (pa_cons (pe_call G__law_draw hr (by rfl) T.g__law_draw T.F__law_draw.kp T.b__law_draw .nil pass0 (pa_cons (pv 0) (pa_cons (pe_callB call_len_seq (by rfl) T.z_len boot_len (pa_cons (pv 2) pa_nil)) pa_nil))) pa_nil)) pa_nil)))))
      (pss_one (ps_ret (pe_callTy call_tuple_of (by rfl) T.z_tuple boot_tuple (pa_cons (pv 3) pa_nil))))))), ?_⟩
    have lp : ps.length = cs.length := by
      have := dp.len
      simpa using this
    walk_at "st"
    refine ⟨_, _, rfl, .inl (.of hp), ?_⟩
    intro L nL
    have offL := hT.off nL
    have T1 := hT.new (o := .lst (ps.map V.ref)) nL
    walk_at "st"
    intro F nF
    have lF : L ≠ F := ne_of_none upd_same nF
    have offF := T1.off nF
    have nFH : H F = none := by rw [← nF, upd_ne lF.symm]
    have T2 := T1.new (o := .lst []) nF
    have hL2 : upd (upd H L (.lst (ps.map V.ref))) F (.lst []) L = some (.lst (ps.map V.ref)) := by rw [upd_ne lF, upd_same]
    walk_at "st"
    refine ⟨_, _, rfl, .inl (.of hL2), ?_⟩
    rw [List.length_map]
    walk_at "st"
    intro H3 r f3 T3 r0 r1
    have rn : r < (cs.length : Int) := by
      have : 0 < cs.length := List.length_pos_iff.mpr cne
      omega
    have k3 : Kp H H3 := ((Kp.new nL).trans (Kp.new nF)).trans (f3.kp T2)
    have fz3 : Fz t.a H H3 := ((Fz.refl.new nL).new nF).trans f3
    walk_at "st"
    refine for_range (fun i σ H' => Iv (∃ (ls fs : List Addr) (lcs fcs : List (S × Bool)) (z : Option V), σ = [some (.ref t.a), some (.ref p), some (.ref L), some (.ref F), z] ∧ Fz t.a H H' ∧ TapeAt H' t ∧ H' L = some (.lst (ls.map V.ref)) ∧ H' F = some (.lst (fs.map V.ref)) ∧ DpAll K H' (ls.map V.ref) (lcs.map cwD) ∧ DpAll K H' (fs.map V.ref) (fcs.map cwD) ∧ lcs.length + i = cs.length ∧ fcs.length = i))
      (.a ⟨ps, [], cs, [], _, rfl, fz3, T3, f3 L _ offL.a hL2, f3 F _ offF.a upd_same, DpAll.kp k3 _ _ (tO_cws cs) dp, .nil, rfl, rfl⟩) ?_ ?_
    · rintro i σ H' hi iv
      obtain ⟨ls, fs, lcs, fcs, z, rfl, f4, T4, hL, hF, dL, dF, ll, lf⟩ := iv.out
      have lls : ls.length = lcs.length := by
        have := dL.len
        simpa using this
      have lfs : fs.length = fcs.length := by
        have := dF.len
        simpa using this
      have ipos : i < cs.length := by omega
      walk_at "st"
      refine ⟨.inl ⟨rfl, _, .of hF⟩, ?_⟩
      walk_at "st"
      refine ⟨.inl ⟨rfl, _, .of hL⟩, ?_⟩
      walk_at "st"
      refine ⟨_, _, rfl, .inl (.of hL), ?_⟩
      rw [List.length_map]
      walk_at "st"
      intro H5 r5 f5 T5 r50 r51
      have rl : r5 < (ls.length : Int) := by omega
      have rl2 : r5.toNat < ls.length := by omega
      have gf : ls[r5.toNat]? = some ls[r5.toNat] := List.getElem?_eq_getElem rl2
      have gc : lcs[r5.toNat]? = some (lcs[r5.toNat]'(by omega)) := List.getElem?_eq_getElem _
      have hL5 := f5 L _ offL.a hL
      have hF5 := f5 F _ offF.a hF
      refine ⟨L, _, r5, r5.toNat, .ref ls[r5.toNat], rfl, rfl, hL5, by omega, by omega, pick_ix r50 (by rw [List.length_map]; exact rl), by rw [List.getElem?_map, gf]; rfl, ?_⟩
      have hF6 : upd H5 L (.lst ((ls.map V.ref).eraseIdx r5.toNat)) F = some (.lst (fs.map V.ref)) := by rw [upd_ne lF.symm]; exact hF5
      have kq : Kp H5 (upd (upd H5 L (.lst ((ls.map V.ref).eraseIdx r5.toNat))) F (.lst (fs.map V.ref ++ [.ref ls[r5.toNat]]))) := (Kp.upd hL5).trans (Kp.upd hF6)
      have k5 := (f5.kp T4).trans kq
      walk_at "st"
      refine ⟨_, _, _, rfl, rfl, hF6, small1000 (by simp <;> omega), ?_⟩
      refine .a ⟨ls.eraseIdx r5.toNat, fs ++ [ls[r5.toNat]], lcs.eraseIdx r5.toNat, fcs ++ [lcs[r5.toNat]'(by omega)], _, rfl, ((f4.trans f5).upd' nL).upd' nFH, (T5.upd offL).upd offF, ?_, ?_, ?_, ?_, ?_, by simp; omega⟩
      · rw [upd_ne lF, upd_same, map_erase]
      · rw [upd_same, List.map_append]; rfl
      · have z := dp_erase r5.toNat (DpAll.kp k5 _ _ (tO_cws lcs) dL)
        rw [← map_erase V.ref, ← map_erase cwD]
        exact z
      · have z := DpAll.kp k5 _ _ (tO_cws fcs) dF
        have y := DpAll.kp k5 _ _ (tO_cws lcs) dL
        obtain ⟨v, ev, dv⟩ := y.get (i := r5.toNat) (d := cwD (lcs[r5.toNat]'(by omega))) (by rw [List.getElem?_map, gc]; rfl)
        rw [List.getElem?_map, gf] at ev
        cases ev
        rw [List.map_append, List.map_append]
        exact DpAll.app z (.cons dv .nil)
      · rw [List.length_eraseIdx_of_lt (by omega)]
        omega
    · rintro σ H' iv
      obtain ⟨ls, fs, lcs, fcs, z, rfl, f4, T4, hL, hF, dL, dF, ll, lf⟩ := iv.out
      walk_at "st"
      refine ⟨_, _, rfl, .inl ⟨.of hF, ?_⟩⟩
      intro l9 n9
      exact q _ _ fcs (f4.new n9) (T4.new n9) (.tup (.of upd_same) (DpAll.kp (Kp.new n9) _ _ (tO_cws fcs) dF)) (by omega)
end
end Ind

set_option Elab.async false
set_option linter.all false
set_option maxRecDepth 100000
set_option maxHeartbeats 4000000
namespace Ind
open PySem PySem.Spec PyProof.Rows L2 IndG
local macro_rules | `(tactic| walk_at "cn") => `(tactic| first
  | assumption
  | omega
  | exact dm (by omega)
  | exact line (by simp)
  | exact line (by omega)
  | exact line (by simp only [len_app, len_one]; omega)
  | exact small_div (by omega) (by omega)
  | solve_by_elim
  | exact Or.inr ⟨by omega, by omega⟩
  | exact Or.inl ⟨by omega, by omega⟩
  | exact ⟨by omega, by omega⟩
  | decide)
local macro_rules | `(tactic| walk_at "st") => `(tactic| repeat (first
  | refine ⟨_, rfl, ?_⟩
  | refine ⟨_, _, rfl, rfl, ?_⟩
  | refine ⟨_, _, rfl, ?_⟩
  | refine .inl ⟨_, rfl, ?_⟩
  | refine And.intro rfl ?_
  | refine And.intro (by walk_at "cn") ?_))
local macro_rules | `(tactic| walk_at "fz") => `(tactic| repeat (first | exact Fz.refl | apply Fz.upd))
local macro_rules | `(tactic| walk_at "hl") => `(tactic| ((repeat rw [upd_ne (by assumption)]); assumption))

section
variable {P : Program} {w : World} {K : PySem.W.Frag} {mg : Str → Option Value} {base : Heap}
theorem ok__law_plain_tables (T : Txt K mg) : FnOk P w K mg base CX0 4 T.a__law_plain_tables T.d__law_plain_tables ["tape", "names"] (spTables K) := by
  have G__law_draw := ok__law_draw (P := P) (w := w) (base := base) T
  have G__law_names := ok__law_names (P := P) (w := w) (base := base) T
  have G__law_some := ok__law_some (P := P) (w := w) (base := base) T
  refine T.F__law_plain_tables.ok sc__law_plain_tables (fun vs H Q E h => ?_) (fun cdv A outer s H vs Q E hr h => ?_)
  · obtain ⟨t, p, ns, rfl, hT, pt, hp, ln, q⟩ := h
    rfl
  · obtain ⟨t, p, ns, rfl, hT, pt, hp, ln, q⟩ := h
    refine ⟨_, (pss_cons (ps_set (i := 2) sc__law_plain_tables.nd rfl (.inl rfl) (pe_ix ix_list (pe_lst (pa_cons pe_int (pa_cons pe_int (pa_cons pe_int pa_nil)))) (pe_call G__law_draw (hr.mono (by decide)) (by rfl) T.g__law_draw T.F__law_draw.kp T.b__law_draw .nil pass0 (pa_cons (pv 0) (pa_cons pe_int pa_nil))) (fun _ _ => rfl)))
      (pss_cons (ps_setLc (i := 4) (own := [("name", 3)]) (g := gName 3) (tt := tYes) rfl sc__law_plain_tables.nd rfl rfl (sw_true rfl rfl rfl (by decide +kernel)) (pi_list (pe_call G__law_names hr (by rfl) T.g__law_names T.F__law_names.kp T.b__law_names .nil pass0 (pa_cons (pv 0) (pa_cons (pv 2) pa_nil)))) (blkOk_by (own := [("name", 3)]) (N := N__law_plain_tables) (sc := defScope s__law_plain_tables) (by decide +kernel)) (fun _ _ _ _ _ => (pg_name (i := 3) sc__law_plain_tables.nd rfl (.inl rfl))) (fun _ _ _ _ _ => pts_nil) (fun _ _ _ _ _ => (pe_tup (pa_cons (pv 3) (pa_cons (pe_ix (ixL (K := K) rfl) (pe_lst (pa_cons pe_str (pa_cons pe_str (pa_cons pe_str pa_nil)))) (pe_call G__law_draw (hr.mono (by decide)) (by rfl) T.g__law_draw T.F__law_draw.kp T.b__law_draw .nil pass0 (pa_cons (pv 0) (pa_cons pe_int pa_nil))) (fun _ _ => rfl)) pa_nil)))))
      (pss_cons (ps_set (i := 5) sc__law_plain_tables.nd rfl (.inl rfl) (pe_lst pa_nil))
      (pss_cons (ps_for PassesOwn.never rfl (pi_list (pv 1)) (pg_name (i := 3) sc__law_plain_tables.nd rfl (.inl rfl))
      (pss_cons (ps_set (i := 6) sc__law_plain_tables.nd rfl (.inl rfl) (pe_slice sl_tupA (pe_call G__law_some (hr.mono (by decide)) (by rfl) T.g__law_some T.F__law_some.kp T.b__law_some .nil pass0 (pa_cons (pv 0) (pa_cons (pv 4) pa_nil))) po_none (po_some (pe_op op_sub (pv 2) pe_int))))
      (pss_cons (ps_set (i := 7) sc__law_plain_tables.nd rfl (.inl rfl) (pe_ix ix_list (pe_lst (pa_cons pe_int (pa_cons pe_int (pa_cons pe_int (pa_cons pe_int (pa_cons pe_int pa_nil)))))) (pe_call G__law_draw (hr.mono (by decide)) (by rfl) T.g__law_draw T.F__law_draw.kp T.b__law_draw .nil pass0 (pa_cons (pv 0) (pa_cons pe_int pa_nil))) (fun _ _ => rfl)))
      (pss_one (ps_expr (pe_bm PySem.F.plainAttrs_list PySem.F.slot_list_append PySem.F.type_list_append mt_append (pv 5) (pa_cons (pe_tup (pa_cons (pv 3) (pa_cons (pv 6) (pa_cons (pe_callTy call_tuple_of (by rfl) T.z_tuple boot_tuple (pa_cons (pe_lc (own := [("column", 8)]) (g := gName 8) (tt := tYes) rfl sc__law_plain_tables.nd (pi_tup (pv 6)) (blkOk_by (own := [("column", 8)]) (N := N__law_plain_tables) (sc := defScope s__law_plain_tables) (by decide +kernel)) (fun _ _ _ _ _ => (pg_name (i := 8) sc__law_plain_tables.nd rfl (.inl rfl))) (fun _ _ _ _ _ => pts_nil) (fun _ _ _ _ _ => (pe_ix (ixT (K := K) rfl) (pv 8) pe_int (fun _ _ => rfl)))) pa_nil)) (pa_cons (pv 7) (pa_cons (pe_tup pa_nil) (pa_cons (pe_tup pa_nil) pa_nil))))))) pa_nil)))))))
      (pss_one (ps_ret (pe_callTy call_tuple_of (by rfl) T.z_tuple boot_tuple (pa_cons (pv 5) pa_nil)))))))), ?_⟩
    walk_at "st"
    intro l1 n1
    have off1 := hT.off n1
    have T1 := hT.new (o := .lst [.int 5, .int 5, .int 8]) n1
    walk_at "st"
    intro H2 r f2 T2 r0 r1
    obtain ⟨wd, ew, mw⟩ := pick (ns := [5, 5, 8]) (i := r) r0 (by simp; omega)
    have hw : 5 ≤ wd ∧ wd ≤ 8 := by
      simp at mw
      omega
    refine ⟨_, _, _, _, rfl, rfl, .of (f2 l1 _ off1.a upd_same), ew, ?_⟩
    have fz2 : Fz t.a H H2 := (Fz.refl.new n1).trans f2
    walk_at "st"
    intro H3 pn ms f3 T3 npn hpn nd3 lm3 tm3 ne3
    have fz3 := fz2.trans f3
    have offn := T2.off npn
    have msne := ne3 (by omega)
    walk_at "st"
    refine And.intro ⟨_, .of hpn⟩ ?_
    intro D nD
    have offD := T3.off nD
    refine lc_list (xs := ms.map V.str) (fun i H' => Iv (∃ (ps : List Addr) (cs : List (S × Bool)), Fz t.a H3 H' ∧ TapeAt H' t ∧ H' D = some (.lst (ps.map V.ref)) ∧ DpAll K H' (ps.map V.ref) (cs.map cwD) ∧ cs.length = i))
      (.a ⟨[], [], Fz.refl.new nD, T3.new nD, upd_same, .nil, rfl⟩) ?_ ?_ ?_
    · intro i H' hi iv
      obtain ⟨ps, cs, f4, T4, hD, dp, lc⟩ := iv.out
      exact .of (f4 pn _ offn.a hpn)
    · intro i x H' ex iv
      obtain ⟨ps, cs, f4, T4, hD, dp, lc⟩ := iv.out
      obtain ⟨nm, en, rfl⟩ := map_get ex
      have hi : i < ms.length := (List.getElem?_eq_some_iff.mp en).1
      have lp : ps.length = cs.length := by
        have := dp.len
        simpa using this
      walk_at "st"
      intro l5 n5
      have off5 := T4.off n5
      have T5 := T4.new (o := .lst [.str "integer", .str "integer", .str "string"]) n5
      walk_at "st"
      intro H6 r6 f6 T6 r60 r61
      obtain ⟨wx, ewx, mwx⟩ := pickT (ss := ["integer", "integer", "string"]) (i := r6) r60 (by simp; omega)
      obtain ⟨b, rfl⟩ : ∃ b, wx = wordS b := by
        simp only [List.mem_cons, List.not_mem_nil, or_false] at mwx
        rcases mwx with rfl | rfl | rfl
        iterate 2 exact ⟨false, rfl⟩
        exact ⟨true, rfl⟩
      refine ⟨_, _, _, _, rfl, rfl, .of (f6 l5 _ off5.a upd_same), ewx, ?_⟩
      walk_at "st"
      intro p7 n7
      have hD5 : upd H' l5 (.lst [.str "integer", .str "integer", .str "string"]) D = some (.lst (ps.map V.ref)) := by rw [upd_ne (ne_of_none hD n5)]; exact hD
      have hD6 := f6 D _ offD.a hD5
      have m7 : D ≠ p7 := ne_of_none hD6 n7
      have kq : Kp H' (upd (upd H6 p7 (.tup [.str nm, .str (wordS b)])) D (.lst (ps.map V.ref ++ [.ref p7]))) := (((Kp.new n5).trans (f6.kp T5)).trans (Kp.new n7)).trans (Kp.upd (xs := ps.map V.ref) (by rw [upd_ne m7]; exact hD6))
      refine ⟨ps.map V.ref, by rw [upd_ne m7]; exact hD6, small1000 (by simp; omega), .a ⟨ps ++ [p7], cs ++ [(nm, b)], ?_, ?_, ?_, ?_, by simp; omega⟩⟩
      · exact (((f4.new n5).trans f6).new n7).upd' nD
      · exact (T6.new n7).upd offD
      · rw [upd_same, List.map_append]; rfl
      · rw [List.map_append, List.map_append]
        refine DpAll.app (DpAll.kp kq _ _ (tO_cws cs) dp) (.cons (.tup (xs := [.str nm, .str (wordS b)]) (.of ?_) (.cons (.str _) (.cons (.str _) .nil))) .nil)
        rw [upd_ne m7.symm, upd_same]
    · intro H4 iv
      obtain ⟨ps, cs, f4, T4, hD, dp, lc⟩ := iv.out
      rw [List.length_map] at lc
      have fz4 := fz3.trans f4
      have lmm : ms.length ≤ 8 := by omega
      walk_at "st"
      intro M nM
      have offM := T4.off nM
      have dM : D ≠ M := ne_of_none hD nM
      have pM : p ≠ M := ne_of_none (fz4 p _ pt hp) nM
      have T5 := T4.new (o := .lst []) nM
      have hD4 : upd H4 M (.lst []) D = some (.lst (ps.map V.ref)) := by rw [upd_ne dM]; exact hD
      have hp4 : upd H4 M (.lst []) p = some (.lst (ns.map V.str)) := by rw [upd_ne pM]; exact fz4 p _ pt hp
      have csne : cs ≠ [] := by
        intro z
        rw [z] at lc
        exact msne (List.length_eq_zero_iff.mp (by simpa using lc.symm))
      have nMH : H M = none := fz4.none offM.a nM
      have nDH : H D = none := fz3.none offD.a nD
      have fz5 := fz4.new (o := .lst []) nM
      walk_at "st"
      refine And.intro ⟨_, .of hp4⟩ ?_
      refine for_list (xs := ns.map V.str) (fun i σ H' => Iv (∃ (qs : List Addr) (ts : List Tb) (z3 z6 z7 z8 : Option V), σ = [some (.ref t.a), some (.ref p), some (.int wd), z3, some (.ref D), some (.ref M), z6, z7, z8] ∧ Fz t.a H4 H' ∧ TapeAt H' t ∧ H' M = some (.lst (qs.map V.ref)) ∧ H' D = some (.lst (ps.map V.ref)) ∧ H' p = some (.lst (ns.map V.str)) ∧ DpAll K H' (ps.map V.ref) (cs.map cwD) ∧ DpAll K H' (qs.map V.ref) (ts.map tbD) ∧ ts.map (·.name) = ns.take i ∧ (∀ u ∈ ts, TbOk u ∧ u.cols.length ≤ 10)))
        (.a ⟨[], [], _, _, _, _, rfl, Fz.refl.new nM, T5, upd_same, hD4, hp4, DpAll.kp (Kp.new nM) _ _ (tO_cws cs) dp, .nil, rfl, by simp⟩) ?_ ?_ ?_
      · intro i σ H' hi iv
        obtain ⟨qs, ts, z3, z6, z7, z8, rfl, f6, T6, hM, hD6, hp6, dpc, dpt, en, tok⟩ := iv.out
        exact .of hp6
      · intro i x σ H' ex iv
        obtain ⟨qs, ts, z3, z6, z7, z8, rfl, f6, T6, hM, hD6, hp6, dpc, dpt, en, tok⟩ := iv.out
        obtain ⟨nm, enm, rfl⟩ := map_get ex
        walk_at "st"
        refine ⟨t, D, ps, cs, rfl, T6, offD.a, hD6, dpc, csne, by omega, ?_⟩
        intro H7 u ds f7 T7 du lds
        obtain ⟨ua, ux, rfl, hus, hux⟩ := du.tup_inv
        walk_at "st"
        refine cutA hus fun u2 H8 s8 hr8 => ?_
        obtain ⟨c8, rfl, hc8⟩ := hr8
        obtain ⟨d8, dp8, l8⟩ : ∃ d8 : List (S × Bool), DpAll K H8 (cutV ux none (some (wd - 1))) (d8.map cwD) ∧ d8.length ≤ 10 := by
          refine ⟨(ds.drop (HT.sIx ux.length 0 none)).take (HT.sIx ux.length ux.length (some (wd - 1)) - HT.sIx ux.length 0 none), ?_, ?_⟩
          · rw [List.map_take, List.map_drop]
            exact dp_take _ (dp_drop _ (DpAll.kp (Same.kp s8) _ _ (tO_cws ds) hux))
          · rw [List.length_take, List.length_drop]
            omega
        have T8 := T7.same s8
        have k68 := (f7.kp T6).trans (Same.kp s8)
        have fz8 := (f6.trans f7).trans (Fz.of s8)
        have hM8 := s8 _ _ (f7 M _ offM.a hM)
        walk_at "st"
        intro l9 n9
        have off9 := T8.off n9
        have T9 := T8.new (o := .lst [.int 2, .int 3, .int 5, .int 8, .int 60]) n9
        have hM9 : upd H8 l9 (.lst [.int 2, .int 3, .int 5, .int 8, .int 60]) M = some (.lst (qs.map V.ref)) := by rw [upd_ne (ne_of_none hM8 n9)]; exact hM8
        walk_at "st"
        intro H10 r10 f10 T10 r100 r101
        obtain ⟨lim, elim, _⟩ := pick (ns := [2, 3, 5, 8, 60]) (i := r10) r100 (by simp; omega)
        refine ⟨_, _, _, _, rfl, rfl, .of (f10 l9 _ off9.a upd_same), elim, ?_⟩
        have k810 : Kp H8 H10 := (Kp.new n9).trans (f10.kp T9)
        have hM10 := f10 M _ offM.a hM9
        have hc10 := k810.sqT hc8
        have dp10 := DpAll.kp k810 _ _ (tO_cws d8) dp8
        have fz10 := (fz8.new n9).trans f10
        have lc10 : (cutV ux none (some (wd - 1))).length = d8.length := by
          have := dp10.len
          simpa using this
        walk_at "st"
        refine ⟨.inl ⟨rfl, _, .of hM10⟩, ?_⟩
        walk_at "st"
        refine And.intro ⟨_, hc10⟩ ?_
        intro E1 nE
        have hME : M ≠ E1 := ne_of_none hM10 nE
        refine lc_tup (xs := cutV ux none (some (wd - 1))) (fun j H' => Iv (Same H10 H' ∧ H' E1 = some (.lst ((d8.take j).map fun c => V.str c.1))))
          (.a ⟨same_upd nE, upd_same⟩) ?_ ?_ ?_
        · intro j H' hj iv
          obtain ⟨sm, hE⟩ := iv.out
          exact (Same.kp sm).sqT hc10
        · intro j x H' exj iv
          obtain ⟨sm, hE⟩ := iv.out
          obtain ⟨cc, ecc, dcc⟩ := dps_get dp10 exj
          obtain ⟨a5, u1, u2, rfl, hs5, d5, d6⟩ := dp_two (Dp.kp (Same.kp sm) _ _ (tO_cw cc) dcc)
          cases d5.str_inv
          walk_at "st"
          refine ⟨_, _, _, _, rfl, rfl, hs5, atI_nat (j := 0) rfl, ?_⟩
          refine ⟨_, hE, small1000 (by simp; omega), .a ⟨Same.upd' sm nE, ?_⟩⟩
          rw [upd_same, take_more ecc, List.map_append]
          rfl
        intro H11 iv
        obtain ⟨s11, hE11⟩ := iv.out
        rw [lc10, List.take_of_length_le (Nat.le_refl _)] at hE11
        walk_at "st"
        refine ⟨_, _, rfl, .inl ⟨.of hE11, ?_⟩⟩
        intro kk nk
        walk_at "st"
        intro e1 ne1
        walk_at "st"
        intro e2 ne2
        walk_at "st"
        intro pt2 npt
        have sk : Same H11 (upd H11 kk (.tup (d8.map fun c => V.str c.1))) := same_upd nk
        have s1 : Same H10 (upd (upd H11 kk (.tup (d8.map fun c => V.str c.1))) e1 (.tup [])) := Same.new (s11.trans sk) ne1
        have s2 : Same H10 (upd (upd (upd H11 kk (.tup (d8.map fun c => V.str c.1))) e1 (.tup [])) e2 (.tup [])) := Same.new s1 ne2
        have sG : Same H10 (upd (upd (upd (upd H11 kk (.tup (d8.map fun c => V.str c.1))) e1 (.tup [])) e2 (.tup [])) pt2 (.tup [.str nm, .ref c8, .ref kk, .int lim, .ref e1, .ref e2])) := Same.new s2 npt
        have hMG := sG _ _ hM10
        have kk_e1 : kk ≠ e1 := ne_of_none upd_same ne1
        have hk1 : upd (upd H11 kk (.tup (d8.map fun c => V.str c.1))) e1 (.tup []) kk = some (.tup (d8.map fun c => V.str c.1)) := by rw [upd_ne kk_e1, upd_same]
        have kk_e2 : kk ≠ e2 := ne_of_none hk1 ne2
        have e1_e2 : e1 ≠ e2 := ne_of_none upd_same ne2
        have hk2 : upd (upd (upd H11 kk (.tup (d8.map fun c => V.str c.1))) e1 (.tup [])) e2 (.tup []) kk = some (.tup (d8.map fun c => V.str c.1)) := by rw [upd_ne kk_e2]; exact hk1
        have he1 : upd (upd (upd H11 kk (.tup (d8.map fun c => V.str c.1))) e1 (.tup [])) e2 (.tup []) e1 = some (.tup []) := by rw [upd_ne e1_e2, upd_same]
        have kqG : Kp H10 (upd (upd (upd (upd (upd H11 kk (.tup (d8.map fun c => V.str c.1))) e1 (.tup [])) e2 (.tup [])) pt2 (.tup [.str nm, .ref c8, .ref kk, .int lim, .ref e1, .ref e2])) M (.lst (qs.map V.ref ++ [.ref pt2]))) := (Same.kp sG).trans (Kp.upd hMG)
        have mk : M ≠ kk := fun z => by have y := s2 _ _ hM10; rw [z, hk2] at y; cases y
        have me1 : M ≠ e1 := fun z => by have y := s2 _ _ hM10; rw [z, he1] at y; cases y
        have me2 : M ≠ e2 := fun z => by have y := s2 _ _ hM10; rw [z, upd_same] at y; cases y
        have mp : M ≠ pt2 := ne_of_none (s2 _ _ hM10) npt
        have lq : qs.length = ts.length := by
          have := dpt.len
          simpa using this
        have lti : ts.length ≤ i := by
          have := congrArg List.length en
          rw [List.length_map, List.length_take] at this
          omega
        have hin : i < ns.length := (List.getElem?_eq_some_iff.mp enm).1
        have k610 := k68.trans (k810.trans kqG)
        have DM : D ≠ M := dM
        have pM' : p ≠ M := pM
        have hDG := sG _ _ (f10 D _ offD.a (by rw [upd_ne (ne_of_none (s8 _ _ (f7 D _ offD.a hD6)) n9)]; exact s8 _ _ (f7 D _ offD.a hD6)))
        have hpG := sG _ _ (f10 p _ pt (by rw [upd_ne (ne_of_none (s8 _ _ (f7 p _ pt hp6)) n9)]; exact s8 _ _ (f7 p _ pt hp6)))
        let tb : Tb := ⟨nm, d8, .tuple (d8.map fun c => .str c.1), lim⟩
        have tbo : TbOk tb := tO_all (fun c : S × Bool => PyData.str c.1) (fun _ => rfl) d8
        have dpk : ∀ (G : Hp) (l : List (S × Bool)), DpAll K G (l.map fun c => V.str c.1) (l.map fun c => PyData.str c.1) := by
          intro G l
          induction l with
          | nil => exact .nil
          | cons c r ih => exact .cons (.str _) ih
        have dtb : Dp K (upd (upd (upd (upd (upd H11 kk (.tup (d8.map fun c => V.str c.1))) e1 (.tup [])) e2 (.tup [])) pt2 (.tup [.str nm, .ref c8, .ref kk, .int lim, .ref e1, .ref e2])) M (.lst (qs.map V.ref ++ [.ref pt2]))) (.ref pt2) (tbD tb) := by
          refine .tup (xs := [.str nm, .ref c8, .ref kk, .int lim, .ref e1, .ref e2]) (.of ?_) (.cons (.str _) (.cons (.tup (kqG.sqT hc10) (DpAll.kp kqG _ _ (tO_cws d8) dp10)) (.cons (.tup (xs := d8.map fun c => V.str c.1) (.of ?_) (dpk _ d8)) (.cons (.int _) (.cons (.tup (xs := []) (.of ?_) .nil) (.cons (.tup (xs := []) (.of ?_) .nil) .nil))))))
          · rw [upd_ne mp.symm, upd_same]
          · rw [upd_ne mk.symm, upd_ne (ne_of_none hk2 npt)]; exact hk2
          · rw [upd_ne me1.symm, upd_ne (ne_of_none he1 npt)]; exact he1
          · rw [upd_ne me2.symm, upd_ne (ne_of_none upd_same npt), upd_same]
        refine ⟨_, _, _, rfl, rfl, hMG, small1000 (by simp <;> omega), ?_⟩
        refine .a ⟨qs ++ [pt2], ts ++ [tb], _, _, _, _, rfl, ((fz10.trans (Fz.of sG)).upd' nM), ((T10.same sG).upd offM), ?_, ?_, ?_, DpAll.kp k610 _ _ (tO_cws cs) dpc, ?_, ?_, ?_⟩
        · rw [upd_same, List.map_append]; rfl
        · rw [upd_ne DM]; exact hDG
        · rw [upd_ne pM']; exact hpG
        · rw [List.map_append, List.map_append]
          exact DpAll.app (DpAll.kp k610 _ _ (tO_tbs fun u hu => (tok u hu).1) dpt) (.cons dtb .nil)
        · rw [List.map_append, en, take_more enm]
          rfl
        · intro u hu
          rcases List.mem_append.mp hu with h | h
          · exact tok u h
          · cases List.mem_singleton.mp h
            exact ⟨tbo, l8⟩
      · intro σ H' iv
        obtain ⟨qs, ts, z3, z6, z7, z8, rfl, f6, T6, hM, hD6, hp6, dpc, dpt, en, tok⟩ := iv.out
        rw [List.length_map, List.take_of_length_le (Nat.le_refl _)] at en
        walk_at "st"
        refine ⟨_, _, rfl, .inl ⟨.of hM, ?_⟩⟩
        intro l9 n9
        exact q _ _ ts ((fz4.trans f6).new n9) (T6.new n9) (.tup (.of upd_same) (DpAll.kp (Kp.new n9) _ _ (tO_tbs (fun u hu => (tok u hu).1)) dpt)) en tok
end
end Ind

set_option Elab.async false
set_option linter.all false
set_option maxRecDepth 100000
set_option maxHeartbeats 4000000
namespace Ind
open PySem PySem.Spec PyProof.Rows L2 IndG
local macro_rules | `(tactic| walk_at "cn") => `(tactic| first
  | assumption
  | omega
  | exact dm (by omega)
  | exact line (by simp)
  | exact line (by omega)
  | exact line (by simp only [len_app, len_one]; omega)
  | exact small_div (by omega) (by omega)
  | solve_by_elim
  | exact Or.inr ⟨by omega, by omega⟩
  | exact Or.inl ⟨by omega, by omega⟩
  | exact ⟨by omega, by omega⟩
  | decide)
local macro_rules | `(tactic| walk_at "st") => `(tactic| repeat (first
  | refine ⟨_, rfl, ?_⟩
  | refine ⟨_, _, rfl, rfl, ?_⟩
  | refine ⟨_, _, rfl, ?_⟩
  | refine .inl ⟨_, rfl, ?_⟩
  | refine And.intro rfl ?_
  | refine And.intro (by walk_at "cn") ?_))
local macro_rules | `(tactic| walk_at "fz") => `(tactic| repeat (first | exact Fz.refl | apply Fz.upd))
local macro_rules | `(tactic| walk_at "hl") => `(tactic| ((repeat rw [upd_ne (by assumption)]); assumption))

section
variable {P : Program} {w : World} {K : PySem.W.Frag} {mg : Str → Option Value} {base : Heap}
theorem ok_is_storable (T : Txt K mg) : FnOk P w K mg base CX0 1 T.a_is_storable T.d_is_storable ["value", "word"] spFits := by
  refine T.F_is_storable.ok sc_is_storable (fun vs H Q E h => ?_) (fun cdv A outer s H vs Q E hr h => ?_)
  · obtain ⟨v, b, rfl, hpv, q⟩ := h
    rfl
  · obtain ⟨v, b, rfl, hpv, q⟩ := h
    refine ⟨_, (pss_cons (ps_if (pt_cmpR op_eq (pv 1) pe_str (nomark _)) (pss_one (ps_ret (pe_callB call_isi (by rfl) T.z_isinstance boot_isinstance (pa_cons (pv 0) (pa_cons (pe_bltn (v := .ty "str") (by rfl) T.z_str boot_str rfl) pa_nil))))) pss_nil)
      (pss_one (ps_ret (pe_and (pe_callB call_isi (by rfl) T.z_isinstance boot_isinstance (pa_cons (pv 0) (pa_cons (pe_bltn (v := .ty "int") (by rfl) T.z_int boot_int rfl) pa_nil))) (pe_one (pe_chain op_le op_le (pe_un un_neg (pe_glob (v := .int 1000000) (by rfl) T.c_LARGEST_STORED ⟨_, rfl⟩)) (pv 0) (pe_glob (v := .int 1000000) (by rfl) T.c_LARGEST_STORED ⟨_, rfl⟩))))))), ?_⟩
    walk_at "st"
    refine ite2 (fun e => ?_) (fun e => ?_)
    · have eb : b = true := by
        cases b
        · exact absurd (dstr e) (by decide)
        · rfl
      subst eb
      cases v with
      | int i =>
        walk_at "st"
        refine ⟨_, _, _, _, _, rfl, .ty _, .base (.int _), kit_ty k_int_str, ?_⟩
        exact q
      | str x =>
        walk_at "st"
        refine ⟨_, _, _, _, _, rfl, .ty _, .base (.str _), kit_ty k_str_str, ?_⟩
        exact q
      | _ => exact hpv.elim
    · have eb : b = false := by
        cases b
        · rfl
        · exact absurd (decide_eq_true rfl) e
      subst eb
      cases v with
      | int i =>
        walk_at "st"
        refine ⟨_, _, _, _, _, rfl, .ty _, .base (.int _), kit_ty k_int_int, ?_⟩
        walk_at "st"
        refine ite2 (fun e1 => ?_) (fun e1 => ?_)
        · walk_at "st"
          have : fitsB (.int i) false = decide (i ≤ 1000000) := by
            show (!false && (decide (-1000000 ≤ i) && decide (i ≤ 1000000))) = _
            rw [e1]
            rfl
          rw [this] at q
          exact q
        · have : fitsB (.int i) false = false := by
            show (!false && (decide (-1000000 ≤ i) && decide (i ≤ 1000000))) = _
            rw [show decide (-1000000 ≤ i) = false by simpa using e1]
            rfl
          rw [this] at q
          exact q
      | str x =>
        walk_at "st"
        refine ⟨_, _, _, _, _, rfl, .ty _, .base (.str _), kit_ty k_str_int, ?_⟩
        walk_at "st"
        exact q
      | _ => exact hpv.elim
theorem ok_find_table (T : Txt K mg) : FnOk P w K mg base CX0 1 T.a_find_table T.d_find_table ["schema", "name"] (spFind K) := by
  refine T.F_find_table.ok sc_find_table (fun vs H Q E h => ?_) (fun cdv A outer s H vs Q E hr h => ?_)
  · obtain ⟨v, ts, t, rfl, dv, nd, mt, q⟩ := h
    rfl
  · obtain ⟨v, ts, t, rfl, dv, nd, mt, q⟩ := h
    refine ⟨_, (pss_cons (ps_for PassesOwn.never rfl (pi_tup (pe_ix ix_tup (pv 0) pe_int (fun _ _ => rfl))) (pg_name (i := 2) sc_find_table.nd rfl (.inl rfl))
      (pss_one (ps_if (pt_cmpR op_eq (pe_ix ix_tup (pv 2) pe_int (fun _ _ => rfl)) (pv 1) (nomark _)) (pss_one (ps_ret (pv 2))) pss_nil)))
      (pss_one (ps_ret pe_non))), ?_⟩
    obtain ⟨a, xs, rfl, hs, hx⟩ := dv.tup_inv
    obtain ⟨v0, e0, d0⟩ := hx.get (i := 0) rfl
    obtain ⟨ta, tx, rfl, hts, htx⟩ := d0.tup_inv
    walk_at "st"
    refine ⟨_, _, _, _, rfl, rfl, hs, atI_nat (j := 0) e0, ?_⟩
    walk_at "st"
    refine for_tup (xs := tx) (fun i σ H' => Iv (∃ z, σ = [some (.ref a), some (.str t.name), z] ∧ H' = H ∧ ∀ u ∈ ts.take i, u.name ≠ t.name)) (.a ⟨_, rfl, rfl, by simp⟩) ?_ ?_ ?_
    · intro i σ H' hi iv
      obtain ⟨z, rfl, rfl, no⟩ := iv.out
      exact hts
    · intro i x σ H' ex iv
      obtain ⟨z, rfl, rfl, no⟩ := iv.out
      obtain ⟨tb, et, dt⟩ := dps_get htx ex
      obtain ⟨b, bx, rfl, hbs, hbx⟩ := dt.tup_inv
      obtain ⟨w0, f0, g0⟩ := hbx.get (i := 0) rfl
      cases g0.str_inv
      walk_at "st"
      refine ⟨_, _, _, _, rfl, rfl, hbs, atI_nat (j := 0) f0, ?_⟩
      walk_at "st"
      refine ite2 (fun e => ?_) (fun e => ?_)
      · have en := dstr e
        have : tb = t := by
          obtain ⟨j, hj, ej⟩ := List.getElem_of_mem mt
          have h1 : (ts.map (·.name))[i]? = some t.name := by rw [List.getElem?_map, et]; exact congrArg some en
          have h2 : (ts.map (·.name))[j]? = some t.name := by rw [List.getElem?_map, List.getElem?_eq_getElem hj, ej]; rfl
          have := nodup_inj nd h1 h2
          subst this
          rw [List.getElem?_eq_getElem hj, ej] at et
          injection et with et
          exact et.symm
        subst this
        walk_at "st"
        exact q _ dt
      · walk_at "st"
        refine .a ⟨_, rfl, rfl, ?_⟩
        intro u hu
        rw [take_more et] at hu
        rcases List.mem_append.mp hu with h | h
        · exact no u h
        · cases List.mem_singleton.mp h
          exact fun z => e (by rw [z]; exact decide_eq_true rfl)
    · intro σ H' iv
      obtain ⟨z, rfl, rfl, no⟩ := iv.out
      have lt : tx.length = ts.length := by
        have := htx.len
        simpa using this
      rw [List.take_of_length_le (by omega)] at no
      exact absurd rfl (no t mt)
theorem ok_can_store (T : Txt K mg) (TB_can_store : GxR.TabB base mg T.cc_can_store T.pp_can_store) : FnOk P w K mg base CX0 3 T.a_can_store T.d_can_store ["schema", "name", "row"] (spCan K T.pp_can_store) := by
  have G_find_table := ok_find_table (P := P) (w := w) (base := base) T
  have G_is_storable := ok_is_storable (P := P) (w := w) (base := base) T
  refine T.C_can_store.okC sc_can_store (fun vs H Q E h => ?_) (fun A outer s H vs Q E hr h => ?_)
  · obtain ⟨v, r, ts, t, vs, rfl, dv, tok, nd, mt, hr2, hpv, tg, lv, q⟩ := h
    rfl
  · obtain ⟨v, r, ts, t, vs, rfl, dv, tok, nd, mt, hr2, hpv, tg, lv, q⟩ := h
    refine ⟨_, (pss_cons (ps_set (i := 3) sc_can_store.nd rfl (.inl rfl) (pe_ix ix_tup (pe_call G_find_table (hr.mono (by decide)) (by rfl) T.g_find_table T.F_find_table.kp T.b_find_table .nil pass0 (pa_cons (pv 0) (pa_cons (pv 1) pa_nil))) pe_int (fun _ _ => rfl)))
      (pss_cons (ps_if (pt_cmpR op_ne (pe_callB call_len_seq (by rfl) T.z_len boot_len (pa_cons (pv 2) pa_nil)) (pe_callB call_len_seq (by rfl) T.z_len boot_len (pa_cons (pv 3) pa_nil)) (nomark _)) (pss_one (ps_ret pe_bl)) pss_nil)
      (pss_one (ps_ret (pe_allG (own := [("value", 4), ("_", 5), ("word", 6)]) rfl sc_can_store.nd hr TB_can_store rfl (by rfl) T.z_all boot_all (blkOk_by (own := [("value", 4), ("_", 5), ("word", 6)]) (N := N_can_store) (sc := defScope s_can_store) (by decide +kernel)) (by decide +kernel) (by rfl) rfl (RZ.pi_zipA (by rfl) T.z_zip (pa_cons (pv 2) (pa_cons (pv 3) pa_nil))) (fun _ => rfl) (fun _ _ _ _ _ _ => (pg_tupK (K := K) 2 rfl rfl (pgs_cons (pg_name (i := 4) sc_can_store.nd rfl (.inl rfl)) (pgs_cons (pg_tupK (K := K) 2 rfl rfl (pgs_cons (pg_name (i := 5) sc_can_store.nd rfl (.inl rfl)) (pgs_cons (pg_name (i := 6) sc_can_store.nd rfl (.inl rfl)) pgs_nil)) (by rfl) (by rfl)) pgs_nil)) (by rfl) (by rfl))) (fun _ _ _ _ _ _ => (pe_call G_is_storable (room_gen (hr.mono (by decide))) (by rfl) T.g_is_storable T.F_is_storable.kp T.b_is_storable .nil pass0 (pa_cons (pv 4) (pa_cons (pv 6) pa_nil))))))))), ?_⟩
    walk_at "st"
    refine ⟨v, ts, t, rfl, dv, nd, mt, ?_⟩
    intro u du
    obtain ⟨ra, rfl, hrs⟩ := hr2
    obtain ⟨b, bx, rfl, hbs, hbx⟩ := du.tup_inv
    obtain ⟨w1, f1, g1⟩ := hbx.get (i := 1) rfl
    obtain ⟨ca, cx, rfl, hcs, hcx⟩ := g1.tup_inv
    have lc : cx.length = t.cols.length := by
      have := hcx.len
      simpa using this
    walk_at "st"
    refine ⟨_, _, _, _, rfl, rfl, hbs, atI_nat (j := 1) f1, ?_⟩
    walk_at "st"
    refine ⟨_, _, rfl, .inr hrs, ?_⟩
    walk_at "st"
    refine ⟨_, _, rfl, .inr hcs, ?_⟩
    walk_at "st"
    refine ite2 (fun e => ?_) (fun e => ?_)
    · have ne : vs.length ≠ t.cols.length := by
        intro z
        rw [lc, z] at e
        simp at e
      walk_at "st"
      have := q H (Mv.refl tg)
      unfold rowFits at this
      rw [decide_eq_false ne, Bool.false_and] at this
      exact this
    · have eq : vs.length = t.cols.length := by
        apply Classical.byContradiction
        intro z
        apply e
        rw [lc]
        simp
        omega
      walk_at "st"
      refine ⟨ra, ca, vs, cx, rfl, .inr ⟨hrs, hcs, tg, fun H2 tb => ?_⟩⟩
      refine ⟨vs.length, fitAt vs t.cols, fun j H3 => Iv (Mv T.pp_can_store H H3), .a (.of tb), ?_, ?_, ?_⟩
      · intro j H3 hj iv
        have m := iv.out
        have k3 := m.kp tg
        obtain ⟨v0, ev⟩ : ∃ v0, vs[j]? = some v0 := ⟨_, List.getElem?_eq_getElem hj⟩
        obtain ⟨c0, ec⟩ : ∃ c0, cx[j]? = some c0 := ⟨_, List.getElem?_eq_getElem (by omega)⟩
        refine ⟨⟨vs, cx, v0, c0, k3.sqT hrs, k3.sqT hcs, ev, ec⟩, ?_⟩
        rintro x H4 ⟨t4, x0, y0, rfl, n4, rfl, e1, e2⟩
        have e1 := e1 vs (k3.sqT hrs)
        have e2 := e2 cx (k3.sqT hcs)
        obtain ⟨cc, ecc, dcc⟩ := dps_get hcx e2
        obtain ⟨a5, u1, u2, rfl, hs5, d5, d6⟩ := dp_two (Dp.kp k3 _ _ (tO_cw cc) dcc)
        cases d5.str_inv
        cases d6.str_inv
        have k4 : Kp H3 (upd H3 t4 (.tup [x0, .ref a5])) := Kp.new n4
        have h5 := k4.sqT hs5
        refine ⟨t4, [x0, .ref a5], rfl, .of upd_same, rfl, ?_⟩
        walk_at "st"
        refine ⟨_, _, rfl, h5, rfl, ?_⟩
        walk_at "st"
        exact ⟨hpv x0 (List.mem_of_getElem? e1), by rw [fit_at e1 ecc], .a (m.new n4)⟩
      · intro H3 iv
        have m := iv.out
        have k3 := m.kp tg
        exact ⟨vs, cx, k3.sqT hrs, k3.sqT hcs, .inl (Nat.le_refl _)⟩
      · intro j H3 iv
        rw [fit_all vs t.cols eq]
        exact q H3 iv.out
end
end Ind

set_option Elab.async false
set_option linter.all false
set_option maxRecDepth 100000
set_option maxHeartbeats 4000000
namespace Ind
open PySem PySem.Spec PyProof.Rows L2 IndG
local macro_rules | `(tactic| walk_at "cn") => `(tactic| first
  | assumption
  | omega
  | exact dm (by omega)
  | exact line (by simp)
  | exact line (by omega)
  | exact line (by simp only [len_app, len_one]; omega)
  | exact small_div (by omega) (by omega)
  | solve_by_elim
  | exact Or.inr ⟨by omega, by omega⟩
  | exact Or.inl ⟨by omega, by omega⟩
  | exact ⟨by omega, by omega⟩
  | decide)
local macro_rules | `(tactic| walk_at "st") => `(tactic| repeat (first
  | refine ⟨_, rfl, ?_⟩
  | refine ⟨_, _, rfl, rfl, ?_⟩
  | refine ⟨_, _, rfl, ?_⟩
  | refine .inl ⟨_, rfl, ?_⟩
  | refine And.intro rfl ?_
  | refine And.intro (by walk_at "cn") ?_))
local macro_rules | `(tactic| walk_at "fz") => `(tactic| repeat (first | exact Fz.refl | apply Fz.upd))
local macro_rules | `(tactic| walk_at "hl") => `(tactic| ((repeat rw [upd_ne (by assumption)]); assumption))

theorem tab_same {P : Addr} {H H' : Hp} (t : GxR.TabG H P) (s : Same H H') : GxR.TabG H' P := by
  obtain ⟨ps, h, k⟩ := t
  exact ⟨ps, s _ _ h, k⟩
theorem tab_fz {P : Addr} {t : Tp} {H H' : Hp} (g : GxR.TabG H P) (T : TapeAt H t) (f : Fz t.a H H') : GxR.TabG H' P := by
  obtain ⟨ps, h, k⟩ := g
  obtain ⟨ns, p, n, s, h1, _⟩ := T
  refine ⟨ps, f _ _ ?_ h, k⟩
  intro e
  rw [e, h1] at h
  cases h
theorem tape_mv {P : Addr} {t : Tp} {H H' : Hp} (g : GxR.TabG H P) (T : TapeAt H t) (m : Mv P H H') : TapeAt H' t := by
  obtain ⟨ps, h, k⟩ := g
  obtain ⟨ns, p, n, s, h1, h2, h3⟩ := T
  refine ⟨ns, p, n, s, m.st _ _ ?_ h1, m.st _ _ ?_ h2, h3⟩ <;> (intro e; first | (rw [e, h] at h1; cases h1) | (rw [e, h] at h2; cases h2))
/-- what stands through the law -/
structure Bs (K : PySem.W.Frag) (P : Addr) (t : Tp) (H : Hp) (sc : V) (ts : List Tb) : Prop where
  tp : TapeAt H t
  tg : GxR.TabG H P
  dp : Dp K H sc (scD ts)
def Rws (K : PySem.W.Frag) (H : Hp) (xs : List V) : Prop := ∀ x ∈ xs, ∃ vs, RowAt K H x vs ∧ (∀ v ∈ vs, Pv v) ∧ vs.length ≤ 30
theorem Rws.kp {K : PySem.W.Frag} {H H' : Hp} {xs : List V} (k : Kp H H') (r : Rws K H xs) : Rws K H' xs := fun x hx => by
  obtain ⟨vs, ⟨a, e, h⟩, h2⟩ := r x hx
  exact ⟨vs, ⟨a, e, k.sqT h⟩, h2⟩
/-- a row of at most n values -/
def Rw (K : PySem.W.Frag) (H : Hp) (u : V) (n : Nat) : Prop := ∃ vs, RowAt K H u vs ∧ (∀ v ∈ vs, Pv v) ∧ vs.length ≤ n
theorem Rw.kp {K : PySem.W.Frag} {H H' : Hp} {u : V} {n : Nat} (h : Rw K H u n) (k : Kp H H') : Rw K H' u n := by
  obtain ⟨vs, ⟨a, e, h⟩, h2⟩ := h
  exact ⟨vs, ⟨a, e, k.sqT h⟩, h2⟩
theorem slR {K : PySem.W.Frag} {H : Hp} {u : V} {n : Nat} {lo hi : Option Int} {Q : VK} (h : Rw K H u n) (q : ∀ u' H', Same H H' → Rw K H' u' n → Q u' H') : rSlA K u lo hi H Q := by
  obtain ⟨vs, ⟨a, rfl, h⟩, hp, hl⟩ := h
  exact cutA h fun u' H' s r => q u' H' s ⟨_, r, cut_pv hp, Nat.le_trans (cutV_length _ _ _) hl⟩
theorem catR {K : PySem.W.Frag} {H : Hp} {u u' : V} {n m : Nat} {Q : VK} (h : Rw K H u n) (h' : Rw K H u' m) (sz : n + m ≤ 1000) (q : ∀ u2 H', Same H H' → Rw K H' u2 (n + m) → Q u2 H') : rCatA K u u' H Q := by
  obtain ⟨vs, ⟨a, rfl, h⟩, hp, hl⟩ := h
  obtain ⟨ws, ⟨b, rfl, h'⟩, hp', hl'⟩ := h'
  refine catA h h' (Nat.le_trans (by omega) (line sz)) fun u2 H' s r => q u2 H' s ⟨_, r, ?_, by rw [List.length_append]; omega⟩
  intro v hv
  exact (List.mem_append.mp hv).elim (hp v) (hp' v)
theorem noP {σ : List (Option V)} {H : Hp} {Q : Option Int → Hp → Prop} (h : Q none H) : tNoPart σ H Q := h
theorem Rw.le {K : PySem.W.Frag} {H : Hp} {u : V} {n m : Nat} (h : Rw K H u n) (l : n ≤ m) : Rw K H u m := by
  obtain ⟨vs, h1, h2, h3⟩ := h
  exact ⟨vs, h1, h2, Nat.le_trans h3 l⟩
theorem rws6 {K : PySem.W.Frag} {H : Hp} {a b c d e f : V} (ha : Rw K H a 30) (hb : Rw K H b 30) (hc : Rw K H c 30) (hd : Rw K H d 30) (he : Rw K H e 30) (hf : Rw K H f 30) : Rws K H [a, b, c, d, e, f] := by
  intro x hx
  simp only [List.mem_cons, List.not_mem_nil, or_false] at hx
  rcases hx with e1 | e1 | e1 | e1 | e1 | e1 <;> (rw [e1]; assumption)
def acc17 (vs : List V) (cs : List (S × Bool)) (i : Nat) : Bool := decide (vs.length = cs.length) && ((vs.zip cs).take i).all fun p => fitsB p.1 p.2.2
theorem acc_zero (vs : List V) (cs : List (S × Bool)) : acc17 vs cs 0 = decide (vs.length = cs.length) := by simp [acc17]
theorem acc_succ {vs : List V} {cs : List (S × Bool)} {i : Nat} {v : V} {c : S × Bool} (hv : vs[i]? = some v) (hc : cs[i]? = some c) : acc17 vs cs (i + 1) = (acc17 vs cs i && fitsB v c.2) := by
  have h : (vs.zip cs)[i]? = some (v, c) := List.getElem?_zip_eq_some.mpr ⟨hv, hc⟩
  unfold acc17
  rw [List.take_succ, h]
  simp [List.all_append, Bool.and_assoc]
theorem acc_end {vs : List V} {cs : List (S × Bool)} {n : Nat} (h : vs.length ≤ n ∨ cs.length ≤ n) : acc17 vs cs n = rowFits vs cs := by
  unfold acc17 rowFits
  rw [List.take_of_length_le (by rw [List.length_zip]; omega)]
theorem oneR {K : PySem.W.Frag} {H : Hp} {p : Addr} {v : V} (h : Pv v) : Rw K (upd H p (.tup [v])) (.ref p) 1 := ⟨[v], ⟨p, rfl, .of upd_same⟩, by simpa using h, by simp⟩
def spLaw17 (K : PySem.W.Frag) (P : Addr) : Sp := fun vs H Q _ => ∃ (a : Addr) (ns : List Int), vs = [.ref a] ∧ SqL K H a (ns.map V.int) ∧ ns.length ≤ 63 ∧ GxR.TabG H P ∧ ∀ H', Q (.bl true) H'
section
variable {P : Program} {w : World} {K : PySem.W.Frag} {mg : Str → Option Value} {base : Heap}
theorem ok_law (T : Txt K mg) (TB_can_store : GxR.TabB base mg T.cc_can_store T.pp_can_store) : FnOk P w K mg base CX0 5 T.a_law T.d_law ["script"] (spLaw17 K T.pp_can_store) := by
  have G__law_tape := ok__law_tape (P := P) (w := w) (base := base) T
  have G__law_plain_tables := ok__law_plain_tables (P := P) (w := w) (base := base) T
  have G__law_row := ok__law_row (P := P) (w := w) (base := base) T
  have G__law_draw := ok__law_draw (P := P) (w := w) (base := base) T
  have G__law_odd := ok__law_odd (P := P) (w := w) (base := base) T
  have G__law_names := ok__law_names (P := P) (w := w) (base := base) T
  have G__law_kinds := ok__law_kinds (P := P) (w := w) (base := base) T
  have G_is_storable := ok_is_storable (P := P) (w := w) (base := base) T
  have G__law_fits := ok__law_fits (P := P) (w := w) (base := base) T
  have G_can_store := ok_can_store (P := P) (w := w) (base := base) T TB_can_store
  refine T.F_law.ok sc_law (fun vs H Q E h => ?_) (fun cdv A outer s H vs Q E hr h => ?_)
  · obtain ⟨a, ns, rfl, hS, hl, tg, q⟩ := h
    rfl
  · obtain ⟨a, ns, rfl, hS, hl, tg, q⟩ := h
    refine ⟨_, (pss_cons (ps_set (i := 1) sc_law.nd rfl (.inl rfl) (pe_call G__law_tape (hr.mono (by decide)) (by rfl) T.g__law_tape T.F__law_tape.kp T.b__law_tape .nil pass0 (pa_cons (pv 0) pa_nil)))
      (pss_cons (ps_set (i := 2) sc_law.nd rfl (.inl rfl) (pe_tup (pa_cons (pe_call G__law_plain_tables hr (by rfl) T.g__law_plain_tables T.F__law_plain_tables.kp T.b__law_plain_tables .nil pass0 (pa_cons (pv 1) (pa_cons (pe_call G__law_names (hr.mono (by decide)) (by rfl) T.g__law_names T.F__law_names.kp T.b__law_names .nil pass0 (pa_cons (pv 1) (pa_cons (pe_ix ix_list (pe_lst (pa_cons pe_int (pa_cons pe_int (pa_cons pe_int pa_nil)))) (pe_call G__law_draw (hr.mono (by decide)) (by rfl) T.g__law_draw T.F__law_draw.kp T.b__law_draw .nil pass0 (pa_cons (pv 1) (pa_cons pe_int pa_nil))) (fun _ _ => rfl)) pa_nil))) pa_nil))) (pa_cons (pe_tup pa_nil) (pa_cons (pe_tup pa_nil) pa_nil)))))
      (pss_cons (ps_for PassesOwn.never rfl (pi_tup (pe_ix ix_tup (pv 2) pe_int (fun _ _ => rfl))) (pg_name (i := 3) sc_law.nd rfl (.inl rfl))
      (pss_cons (ps_set (i := 4) sc_law.nd rfl (.inl rfl) (pe_call G__law_row hr (by rfl) T.g__law_row T.F__law_row.kp T.b__law_row .nil pass0 (pa_cons (pv 1) (pa_cons (pe_call G__law_kinds (hr.mono (by decide)) (by rfl) T.g__law_kinds T.F__law_kinds.kp T.b__law_kinds .nil pass0 (pa_cons (pe_ix ix_tup (pv 3) pe_int (fun _ _ => rfl)) pa_nil)) pa_nil))))
      (pss_cons (ps_set (i := 5) sc_law.nd rfl (.inl rfl) (pe_call G__law_draw (hr.mono (by decide)) (by rfl) T.g__law_draw T.F__law_draw.kp T.b__law_draw .nil pass0 (pa_cons (pv 1) (pa_cons (pe_callB call_len_seq (by rfl) T.z_len boot_len (pa_cons (pv 4) pa_nil)) pa_nil))))
      (pss_cons (ps_set (i := 6) sc_law.nd rfl (.inl rfl) (pe_call G__law_odd (hr.mono (by decide)) (by rfl) T.g__law_odd T.F__law_odd.kp T.b__law_odd .nil pass0 (pa_cons (pv 1) pa_nil)))
      (pss_cons (ps_for PassesOwn.never rfl (pi_list (pe_lst (pa_cons pe_str (pa_cons pe_str pa_nil)))) (pg_name (i := 7) sc_law.nd rfl (.inl rfl))
      (pss_one (ps_if (pt_cmpR op_ne (pe_callB call_reprB (by rfl) T.z_repr boot_repr (pa_cons (pe_call G_is_storable (hr.mono (by decide)) (by rfl) T.g_is_storable T.F_is_storable.kp T.b_is_storable .nil pass0 (pa_cons (pv 6) (pa_cons (pv 7) pa_nil))) pa_nil)) (pe_callB call_reprB (by rfl) T.z_repr boot_repr (pa_cons (pe_call G__law_fits (hr.mono (by decide)) (by rfl) T.g__law_fits T.F__law_fits.kp T.b__law_fits .nil pass0 (pa_cons (pv 6) (pa_cons (pv 7) pa_nil))) pa_nil)) (nomark _)) (pss_one (ps_ret pe_bl)) pss_nil)))
      (pss_cons (ps_set (i := 8) sc_law.nd rfl (.inl rfl) (pe_lst (pa_cons (pv 4) (pa_cons (pe_op op_catA (pe_op op_catA (pe_slice sl_tupA (pv 4) po_none (po_some (pv 5))) (pe_tup (pa_cons (pv 6) pa_nil))) (pe_slice sl_tupA (pv 4) (po_some (pe_op op_add (pv 5) pe_int)) po_none)) (pa_cons (pe_op op_catA (pe_slice sl_tupA (pv 4) po_none (po_some (pv 5))) (pe_slice sl_tupA (pv 4) (po_some (pe_op op_add (pv 5) pe_int)) po_none)) (pa_cons (pe_op op_catA (pe_op op_catA (pe_slice sl_tupA (pv 4) po_none (po_some (pv 5))) (pe_tup (pa_cons (pv 6) pa_nil))) (pe_slice sl_tupA (pv 4) (po_some (pv 5)) po_none)) pa_nil))))))
      (pss_one (ps_for PassesOwn.never rfl (pi_list (pe_op op_cat (pv 8) (pe_lst (pa_cons (RT.pe_tupRev rfl (by rfl) T.z_tuple (by rfl) T.z_reversed (pe_callTy call_list_of (by rfl) T.z_list boot_list (pa_cons (pv 4) pa_nil))) (pa_cons (pe_tup pa_nil) pa_nil))))) (pg_name (i := 9) sc_law.nd rfl (.inl rfl))
      (pss_cons (ps_set (i := 10) sc_law.nd rfl (.inl rfl) (pe_cmpR op_eq (pe_callB call_len_seq (by rfl) T.z_len boot_len (pa_cons (pv 9) pa_nil)) (pe_callB call_len_seq (by rfl) T.z_len boot_len (pa_cons (pe_ix ix_tup (pv 3) pe_int (fun _ _ => rfl)) pa_nil)) (nomark _)))
      (pss_cons (ps_for PassesOwn.never rfl (pi_range1 (by rfl) T.z_range (pa_cons (pe_callB (call_min2 rfl) (by rfl) T.z_min boot_min (pa_cons (pe_callB call_len_seq (by rfl) T.z_len boot_len (pa_cons (pv 9) pa_nil)) (pa_cons (pe_callB call_len_seq (by rfl) T.z_len boot_len (pa_cons (pe_ix ix_tup (pv 3) pe_int (fun _ _ => rfl)) pa_nil)) pa_nil))) pa_nil)) (pg_name (i := 11) sc_law.nd rfl (.inl rfl))
      (pss_one (ps_set (i := 10) sc_law.nd rfl (.inl rfl) (pe_and (pv 10) (pe_one (pe_call G__law_fits (hr.mono (by decide)) (by rfl) T.g__law_fits T.F__law_fits.kp T.b__law_fits .nil pass0 (pa_cons (pe_ix ix_tup (pv 9) (pv 11) (fun _ _ => rfl)) (pa_cons (pe_ix ix_tup (pe_ix ix_tup (pe_ix ix_tup (pv 3) pe_int (fun _ _ => rfl)) (pv 11) (fun _ _ => rfl)) pe_int (fun _ _ => rfl)) pa_nil))))))))
      (pss_one (ps_if (pt_cmpR op_ne (pe_callB call_reprB (by rfl) T.z_repr boot_repr (pa_cons (pe_call G_can_store (hr.mono (by decide)) (by rfl) T.g_can_store T.F_can_store.kp T.b_can_store .nil pass0 (pa_cons (pv 2) (pa_cons (pe_ix ix_tup (pv 3) pe_int (fun _ _ => rfl)) (pa_cons (pv 9) pa_nil)))) pa_nil)) (pe_callB call_reprB (by rfl) T.z_repr boot_repr (pa_cons (pv 10) pa_nil)) (nomark _)) (pss_one (ps_ret pe_bl)) pss_nil))))))))))))
      (pss_one (ps_ret pe_bl))))), ?_⟩
    walk_at "st"
    refine ⟨a, ns, rfl, hS, hl, ?_⟩
    intro H1 t s1 n1 n2 T1
    have tg1 := tab_same tg s1
    walk_at "st"
    intro l2 m2
    have off2 := T1.off m2
    have T2 := T1.new (o := .lst [.int 3, .int 3, .int 8]) m2
    have tg2 := tab_same tg1 (same_upd (o := .lst [.int 3, .int 3, .int 8]) m2)
    walk_at "st"
    intro H3 r f3 T3 r0 r1
    obtain ⟨wd, ew, mw⟩ := pick (ns := [3, 3, 8]) (i := r) r0 (by simp; omega)
    have hw : 3 ≤ wd ∧ wd ≤ 8 := by
      simp at mw
      omega
    have tg3 := tab_fz tg2 T2 f3
    refine ⟨_, _, _, _, rfl, rfl, .of (f3 l2 _ off2.a upd_same), ew, ?_⟩
    walk_at "st"
    intro H4 pn ms f4 T4 npn hpn nd4 lm4 tm4 ne4
    have tg4 := tab_fz tg3 T3 f4
    walk_at "st"
    refine ⟨t, pn, ms, rfl, T4, (T3.off npn).a, hpn, by omega, ?_⟩
    intro H5 u ts f5 T5 du en tok
    have tg5 := tab_fz tg4 T4 f5
    walk_at "st"
    intro e1 ne1
    walk_at "st"
    intro e2 ne2
    walk_at "st"
    intro sc nsc
    have e12 : e1 ≠ e2 := ne_of_none upd_same ne2
    have s56 : Same H5 (upd (upd (upd H5 e1 (.tup [])) e2 (.tup [])) sc (.tup [u, .ref e1, .ref e2])) := Same.new (Same.new (same_upd ne1) ne2) nsc
    have he1 : upd (upd H5 e1 (.tup [])) e2 (.tup []) e1 = some (.tup []) := by rw [upd_ne e12, upd_same]
    have bs6 : Bs K T.pp_can_store t (upd (upd (upd H5 e1 (.tup [])) e2 (.tup [])) sc (.tup [u, .ref e1, .ref e2])) (.ref sc) ts := by
      refine ⟨T5.same s56, tab_same tg5 s56, .tup (xs := [u, .ref e1, .ref e2]) (.of upd_same) (.cons (Dp.kp (Same.kp s56) _ _ (tO_tbs fun x hx => (tok x hx).1) du) (.cons (.tup (xs := []) (.of ?_) .nil) (.cons (.tup (xs := []) (.of ?_) .nil) .nil)))⟩
      · rw [upd_ne (ne_of_none he1 nsc)]; exact he1
      · rw [upd_ne (ne_of_none upd_same nsc), upd_same]
    have nd5 : (ts.map (·.name)).Nodup := by rw [en]; exact nd4
    have tok1 : ∀ x ∈ ts, TbOk x := fun x hx => (tok x hx).1
    generalize upd (upd (upd H5 e1 (.tup [])) e2 (.tup [])) sc (.tup [u, .ref e1, .ref e2]) = H6 at bs6 ⊢
    obtain ⟨sa, sx, esa, hsx, dsx⟩ := bs6.dp.tup_inv
    cases esa
    obtain ⟨w0, f0, g0⟩ := dsx.get (i := 0) rfl
    obtain ⟨ta, tx, rfl, htx, dtx⟩ := g0.tup_inv
    have ltx : tx.length = ts.length := by
      have := dtx.len
      simpa using this
    walk_at "st"
    refine ⟨_, _, _, _, rfl, rfl, hsx, atI_nat (j := 0) f0, ?_⟩
    walk_at "st"
    refine for_tup (xs := tx) (fun i σ H' => Iv (∃ (z3 z4 z5 z6 z7 z8 z9 z10 z11 : Option V), σ = [some (.ref a), some (.ref t.a), some (.ref sc), z3, z4, z5, z6, z7, z8, z9, z10, z11] ∧ Kp H6 H' ∧ TapeAt H' t ∧ GxR.TabG H' T.pp_can_store))
      (.a ⟨_, _, _, _, _, _, _, _, _, rfl, Kp.refl _, bs6.tp, bs6.tg⟩) ?_ ?_ ?_
    · intro i σ H' hi iv
      obtain ⟨z3, z4, z5, z6, z7, z8, z9, z10, z11, rfl, k6, Tp', tg'⟩ := iv.out
      exact k6.sqT htx
    · intro i x σ H7 ex iv
      obtain ⟨z3, z4, z5, z6, z7, z8, z9, z10, z11, rfl, k7, T7, tg7⟩ := iv.out
      obtain ⟨tb, et, dt⟩ := dps_get dtx ex
      have mtb := List.mem_of_getElem? et
      have dt7 := Dp.kp k7 _ _ (tO_tb (tok1 _ mtb)) dt
      obtain ⟨b, bx, rfl, hbs, hbx⟩ := dt7.tup_inv
      obtain ⟨w1, f1, g1⟩ := hbx.get (i := 1) rfl
      obtain ⟨wn, fn, gn⟩ := hbx.get (i := 0) rfl
      cases gn.str_inv
      obtain ⟨ca, cx, rfl, hcx, dcx⟩ := g1.tup_inv
      have lcx : cx.length = tb.cols.length := by
        have := dcx.len
        simpa using this
      have l10 := (tok _ mtb).2
      walk_at "st"
      refine ⟨_, _, _, _, rfl, rfl, hbs, atI_nat (j := 1) f1, ?_⟩
      walk_at "st"
      refine ⟨_, tb.cols, rfl, g1, l10, ?_⟩
      intro H8 uk s8 duk
      have T8 := T7.same s8
      have tg8 := tab_same tg7 s8
      walk_at "st"
      refine ⟨t, uk, tb.cols, rfl, T8, duk, l10, ?_⟩
      intro H9 ur us f9 T9 hur hpv lus
      have tg9 := tab_fz tg8 T8 f9
      have k79 : Kp H7 H9 := (Same.kp s8).trans (f9.kp T8)
      obtain ⟨ra, rfl, hrs⟩ := hur
      walk_at "st"
      refine ⟨_, _, rfl, .inr hrs, ?_⟩
      walk_at "st"
      intro H10 at0 f10 T10 a0 a1
      have tg10 := tab_fz tg9 T9 f10
      walk_at "st"
      intro H11 odd f11 T11 hodd
      have tg11 := tab_fz tg10 T10 f11
      have k911 : Kp H9 H11 := (f10.kp T9).trans (f11.kp T10)
      have hrs11 := k911.sqT hrs
      have k711 := k79.trans k911
      walk_at "st"
      intro lw nw
      have T12 := T11.new (o := .lst [.str "integer", .str "string"]) nw
      have tg12 := tab_same tg11 (same_upd (o := .lst [.str "integer", .str "string"]) nw)
      have k712 := k711.trans (Kp.new (o := .lst [.str "integer", .str "string"]) nw)
      have hrs12 := (Kp.new (o := .lst [.str "integer", .str "string"]) nw).sqT hrs11
      have hlw : SqL K (upd H11 lw (.lst [.str "integer", .str "string"])) lw [.str "integer", .str "string"] := .of upd_same
      generalize upd H11 lw (.lst [.str "integer", .str "string"]) = H12 at T12 tg12 k712 hrs12 hlw ⊢
      walk_at "st"
      refine And.intro ⟨_, hlw⟩ ?_
      refine for_list (xs := [.str "integer", .str "string"]) (fun j σ H' => Iv (∃ (z7 z8 z9 z10 z11 : Option V), σ = [some (.ref a), some (.ref t.a), some (.ref sc), some (.ref b), some (.ref ra), some (.int at0), some odd, z7, z8, z9, z10, z11] ∧ H' = H12))
        (.a ⟨_, _, _, _, _, rfl, rfl⟩) ?_ ?_ ?_
      · intro j σ H' hj iv
        obtain ⟨z7, z8, z9, z10, z11, rfl, rfl⟩ := iv.out
        exact hlw
      · intro j x σ H' exj iv
        obtain ⟨z7, z8, z9, z10, z11, rfl, rfl⟩ := iv.out
        obtain ⟨b2, rfl⟩ : ∃ b2, x = .str (wordS b2) := by
          rcases j with _ | _ | j
          · simp at exj; exact ⟨false, exj.symm⟩
          · simp at exj; exact ⟨true, exj.symm⟩
          · simp at exj
        walk_at "st"
        refine ite2 (fun e1 => ?_) (fun _ => ?_)
        · rw [decide_eq_true rfl] at e1; exact absurd e1 (by decide)
        exact .a ⟨_, _, _, _, _, rfl, rfl⟩
      · intro σ H' iv
        obtain ⟨z7, z8, z9, z10, z11, rfl, rfl⟩ := iv.out
        have rw0 : Rw K H' (.ref ra) 10 := ⟨us, ⟨ra, rfl, hrs12⟩, hpv, by omega⟩
        walk_at "st"
        refine slR rw0 fun u1 G1 sm1 r1 => ?_
        walk_at "st"
        intro p2 np2
        have k2 := Kp.new (o := .tup [odd]) np2
        have c2 : Same H' (upd G1 p2 (.tup [odd])) := Same.new sm1 np2
        walk_at "st"
        refine catR (r1.kp k2) (oneR hodd) (by decide) fun u3 G3 sm3 r3 => ?_
        have c3 := c2.trans sm3
        walk_at "st"
        walk_at "st"
        refine noP ?_
        refine slR (rw0.kp (Same.kp c3)) fun u4 G4 sm4 r4 => ?_
        have c4 := c3.trans sm4
        walk_at "st"
        refine catR (r3.kp (Same.kp sm4)) r4 (by decide) fun u5 G5 sm5 r5 => ?_
        have c5 := c4.trans sm5
        walk_at "st"
        refine slR (rw0.kp (Same.kp c5)) fun u6 G6 sm6 r6 => ?_
        have c6 := c5.trans sm6
        walk_at "st"
        refine noP ?_
        refine slR (rw0.kp (Same.kp c6)) fun u7 G7 sm7 r7 => ?_
        have c7 := c6.trans sm7
        walk_at "st"
        refine catR (r6.kp (Same.kp sm7)) r7 (by decide) fun u8 G8 sm8 r8 => ?_
        have c8 := c7.trans sm8
        walk_at "st"
        refine slR (rw0.kp (Same.kp c8)) fun u9 G9 sm9 r9 => ?_
        have c9 := c8.trans sm9
        walk_at "st"
        intro p3 np3
        have k10 := Kp.new (o := .tup [odd]) np3
        have c10 : Same H' (upd G9 p3 (.tup [odd])) := Same.new c9 np3
        walk_at "st"
        refine catR (r9.kp k10) (oneR hodd) (by decide) fun u10 G10 sm10 r10 => ?_
        have c11 := c10.trans sm10
        walk_at "st"
        refine noP ?_
        refine slR (rw0.kp (Same.kp c11)) fun u11 G11 sm11 r11 => ?_
        have c12 := c11.trans sm11
        walk_at "st"
        refine catR (r10.kp (Same.kp sm11)) r11 (by decide) fun u12 G12 sm12 r12 => ?_
        have c13 := c12.trans sm12
        have q5 : Rw K G12 u5 30 := (r5.le (by decide)).kp (Same.kp (((((sm6.trans sm7).trans sm8).trans sm9).trans (same_upd np3)).trans ((sm10.trans sm11).trans sm12)))
        have q8 : Rw K G12 u8 30 := (r8.le (by decide)).kp (Same.kp ((sm9.trans (same_upd np3)).trans ((sm10.trans sm11).trans sm12)))
        have q12 : Rw K G12 u12 30 := r12.le (by decide)
        have q0 : Rw K G12 (.ref ra) 30 := (rw0.le (by decide)).kp (Same.kp c13)
        have hrsG := (Same.kp c13).sqT hrs12
        walk_at "st"
        intro p4 np4
        walk_at "st"
        have s4 := same_upd (o := .lst [.ref ra, u5, u8, u12]) np4
        have hp4 : upd G12 p4 (.lst [.ref ra, u5, u8, u12]) p4 = some (.lst [.ref ra, u5, u8, u12]) := upd_same
        have c14 := c13.trans s4
        generalize upd G12 p4 (.lst [.ref ra, u5, u8, u12]) = X4 at s4 hp4 c14 ⊢
        refine ⟨_, _, rfl, .inr ((Same.kp s4).sqT hrsG), ?_⟩
        intro p5 np5
        walk_at "st"
        refine ⟨_, _, rfl, .of upd_same, ?_⟩
        intro p6 np6
        walk_at "st"
        intro p7 np7
        walk_at "st"
        intro p8 np8
        walk_at "st"
        have s5 := same_upd (o := .lst us) np5
        have s6 := same_upd (o := .tup us.reverse) np6
        have s7 := same_upd (o := .tup []) np7
        have s8' := same_upd (o := .lst [.ref p6, .ref p7]) np8
        have s48 := ((s5.trans s6).trans s7).trans s8'
        refine ⟨_, _, _, _, rfl, rfl, s48 _ _ hp4, upd_same, line (by simp), ?_⟩
        intro p9 np9
        walk_at "st"
        have s9 := same_upd (o := .lst ([.ref ra, u5, u8, u12] ++ [.ref p6, .ref p7])) np9
        have s49 := s48.trans s9
        have r6' := Rw.kp (n := 30) (u := .ref p6) (K := K) (H := upd (upd X4 p5 (.lst us)) p6 (.tup us.reverse)) ⟨us.reverse, ⟨p6, rfl, .of upd_same⟩, fun v hv => hpv v (List.mem_reverse.mp hv), by simp; omega⟩ (Same.kp ((s7.trans s8').trans s9))
        have r7' := Rw.kp (n := 30) (u := .ref p7) (K := K) (H := upd (upd (upd X4 p5 (.lst us)) p6 (.tup us.reverse)) p7 (.tup [])) ⟨[], ⟨p7, rfl, .of upd_same⟩, by simp, by simp⟩ (Same.kp (s8'.trans s9))
        have kk := Same.kp (s4.trans s49)
        have rws := rws6 (q0.kp kk) (q5.kp kk) (q8.kp kk) (q12.kp kk) r6' r7'
        have hp9 : (upd (upd (upd (upd (upd X4 p5 (.lst us)) p6 (.tup us.reverse)) p7 (.tup [])) p8 (.lst [.ref p6, .ref p7])) p9 (.lst ([.ref ra, u5, u8, u12] ++ [.ref p6, .ref p7]))) p9 = some (.lst [.ref ra, u5, u8, u12, .ref p6, .ref p7]) := upd_same
        have c15 := c14.trans s49
        generalize upd (upd (upd (upd (upd X4 p5 (.lst us)) p6 (.tup us.reverse)) p7 (.tup [])) p8 (.lst [.ref p6, .ref p7])) p9 (.lst ([.ref ra, u5, u8, u12] ++ [.ref p6, .ref p7])) = X9 at rws hp9 c15 ⊢
        have T9' := T12.same c15
        have tg9' := tab_same tg12 c15
        have k9' := k712.trans (Same.kp c15)
        clear r6' r7' s49 s48 s5 s6 s7 s8' s9 np5 np6 np7 np8 np9 q0 q5 q8 q12 r1 r3 r4 r5 r6 r7 r8 r9 r10 r11 r12
        refine And.intro ⟨_, .of hp9⟩ ?_
        refine for_list (xs := [.ref ra, u5, u8, u12, .ref p6, .ref p7]) (fun j σ H' => Iv (∃ (z9 z10 z11 : Option V), σ = [some (.ref a), some (.ref t.a), some (.ref sc), some (.ref b), some (.ref ra), some (.int at0), some odd, z7, some (.ref p4), z9, z10, z11] ∧ H' p9 = some (.lst [.ref ra, u5, u8, u12, .ref p6, .ref p7]) ∧ Kp X9 H' ∧ TapeAt H' t ∧ GxR.TabG H' T.pp_can_store))
          (.a ⟨_, _, _, rfl, hp9, Kp.refl _, T9', tg9'⟩) ?_ ?_ ?_
        · intro j σ H' hj iv
          obtain ⟨z9, z10, z11, rfl, hpx, kx, Tx, tgx⟩ := iv.out
          exact .of hpx
        · intro j x σ H' exj iv
          obtain ⟨z9, z10, z11, rfl, hpx, kx, Tx, tgx⟩ := iv.out
          obtain ⟨vs, ⟨ro, rfl, hro⟩, hpo, hlo⟩ := (Rw.kp (n := 30) (rws x (List.mem_of_getElem? exj)) kx : Rw K H' x 30)
          have hbsx := (k9'.trans kx).sqT hbs
          have hcxx := (k9'.trans kx).sqT hcx
          walk_at "st"
          refine ⟨_, _, rfl, .inr hro, ?_⟩
          walk_at "st"
          refine ⟨_, _, _, _, rfl, rfl, hbsx, atI_nat (j := 1) f1, ?_⟩
          walk_at "st"
          refine ⟨_, _, rfl, .inr hcxx, ?_⟩
          walk_at "st"
          refine ⟨_, _, rfl, .inr hro, ?_⟩
          walk_at "st"
          refine ⟨_, _, _, _, rfl, rfl, hbsx, atI_nat (j := 1) f1, ?_⟩
          walk_at "st"
          refine ⟨_, _, rfl, .inr hcxx, ?_⟩
          walk_at "st"
          have ed : decide (V.int (vs.length : Int) = V.int (cx.length : Int)) = acc17 vs tb.cols 0 := by
            rw [acc_zero, lcx]
            simp
            exact ⟨fun h => by omega, fun h => by omega⟩
          refine for_range (fun i σ H2 => Iv (∃ (z11 : Option V) (z : Bool), σ = [some (.ref a), some (.ref t.a), some (.ref sc), some (.ref b), some (.ref ra), some (.int at0), some odd, z7, some (.ref p4), some (.ref ro), some (.bl z), z11] ∧ z = acc17 vs tb.cols i ∧ H2 = H'))
            (.a ⟨_, _, rfl, ed, rfl⟩) ?_ ?_
          · rintro i σ H2 hi iv
            obtain ⟨z11', z, rfl, ez, rfl⟩ := iv.out
            have hi' : i < vs.length ∧ i < cx.length := by first | omega | (split at hi <;> omega)
            have ev : vs[i]? = some vs[i] := List.getElem?_eq_getElem hi'.1
            have ecx : cx[i]? = some cx[i] := List.getElem?_eq_getElem hi'.2
            generalize vs[i] = v1 at ev
            generalize cx[i] = cv at ecx
            obtain ⟨c, ec, dc⟩ := dps_get dcx ecx
            have dc' := Dp.kp (k9'.trans kx) _ _ (tO_cw c) dc
            obtain ⟨qa, qx, rfl, hq, dq⟩ := dc'.tup_inv
            obtain ⟨wv, fw, gw⟩ := dq.get (i := 1) rfl
            cases gw.str_inv
            have es := acc_succ ev ec
            walk_at "st"
            refine ite2 (fun e => ?_) (fun e => ?_)
            · walk_at "st"
              refine ⟨_, _, _, _, rfl, rfl, hro, by rw [Int.zero_add]; exact atI_nat ev, ?_⟩
              walk_at "st"
              refine ⟨_, _, _, _, rfl, rfl, hbsx, atI_nat (j := 1) f1, ?_⟩
              walk_at "st"
              refine ⟨_, _, _, _, rfl, rfl, hcxx, by rw [Int.zero_add]; exact atI_nat ecx, ?_⟩
              walk_at "st"
              refine ⟨_, _, _, _, rfl, rfl, hq, atI_nat (j := 1) fw, ?_⟩
              walk_at "st"
              refine ⟨hpo _ (List.mem_of_getElem? ev), ?_⟩
              walk_at "st"
              exact .a ⟨_, _, rfl, by rw [es, ← ez, e, Bool.true_and], rfl⟩
            · walk_at "st"
              have e' : z = false := by simpa using e
              exact .a ⟨_, _, rfl, by rw [es, ← ez, e', Bool.false_and], rfl⟩
          · rintro σ H2 iv
            obtain ⟨z11', z, rfl, ez, rfl⟩ := iv.out
            have ez2 : z = rowFits vs tb.cols := by
              rw [ez]
              refine acc_end ?_
              first | omega | (split <;> omega)
            walk_at "st"
            refine ⟨_, _, _, _, rfl, rfl, hbsx, atI_nat (j := 0) fn, ?_⟩
            walk_at "st"
            refine ⟨.ref sc, .ref ro, ts, tb, vs, rfl, Dp.kp (k7.trans (k9'.trans kx)) _ _ (tO_sc tok1) bs6.dp, tok1, nd5, mtb, ⟨ro, rfl, hro⟩, hpo, tgx, by omega, ?_⟩
            intro H3' mv
            walk_at "st"
            refine ite2 (fun e1 => ?_) (fun _ => ?_)
            · rw [ez2, decide_eq_true rfl] at e1; exact absurd e1 (by decide)
            · refine .a ⟨_, _, _, rfl, mv.st _ _ ?_ hpx, kx.trans (Mv.kp tgx mv), tape_mv tgx Tx mv, mv.tab⟩
              intro e1
              obtain ⟨ps, hp, _⟩ := tgx
              rw [← e1, hpx] at hp
              cases hp
        · intro σ H' iv
          obtain ⟨z9, z10, z11, rfl, hpx, kx, Tx, tgx⟩ := iv.out
          exact .a ⟨_, _, _, _, _, _, _, _, _, rfl, k7.trans (k9'.trans kx), Tx, tgx⟩
    · intro σ H' iv
      obtain ⟨z3, z4, z5, z6, z7, z8, z9, z10, z11, rfl, k6, Tp', tg'⟩ := iv.out
      walk_at "st"
      exact q _
end
end Ind

set_option Elab.async false
set_option linter.all false
set_option maxRecDepth 100000
set_option maxHeartbeats 4000000
namespace IndEnd
open PySem PySem.Spec PyProof.Rows L2
/-- the head's end, where defs have generator expressions: what is known of their code objects and tables -/
theorem walk_tabs {l : PySem.W.OpenLaw} {n k : Nat} {q : Program} {loose : List Str} {XP : (Str → Option Value) → Heap → Prop} {YP : World → Heap → Prop} {d : DefRec} {K : Params → PySem.W.Frag} {CX : World → CXT} {x : Str}
    (hn : l.most = some n) (hn2 : n ≤ sizeLine) (hdf : d.params.defaults = []) (room : Room k callerA) (hY : ∀ (w : World) (h : Heap), YP w h → (K w.params).In h)
    (F : ∀ (w : World) (mg : Str → Option Value) (fa : Addr) (h : Heap), (K w.params).In h → h.Ns mainGlobals mg → mg d.name = some (.ref fa) →
      (∀ (y : Str) (e : DefRec) (c P : Addr), (recsOf q).find? (fun r => r.name == y) = some e → PySem.W.tabIn (K w.params) y = some (c, P) → PySem.W.CodeHd h c P ∧ h.get? P = some { cls := .none, data := .fields #[] }) → LamX.LawAtS l w (K w.params) (CX w) k n x mg fa h)
    (no : ∀ (w : World) (H : Hp) (s : Shared) (e : Value) (s' : Shared), CX w [] H s (fun _ _ _ => False) e s' → False) :
    PySem.W.WalkO q loose XP YP l.row.toRowW d [] (fun f vs => PySem.call f vs) := by
  apply Att.attach_callB hn hdf
  intro w s₀ s₁ mg mb fa o pm cd doc a vs ns G Y ho hd hcd hmg hobj hints hlen hbits hg
  have KX := hY w _ Y
  obtain ⟨fd, cs, sp, t1, t2, t3, hb, hsp, hF⟩ := F w mg fa _ KX G.T.g hmg fun y e c P h1 h2 => PySem.W.tab_of G.T KX h1 h2
  exact LamX.law_callTs KX G.T.g G.T.b G.T.builtins G.T.nolimit hg t1 t2 t3 G.T.bmain hobj hints (Nat.le_trans hlen hn2) room hF hb (fun H hH hS => hsp H a ns hlen hbits hH hS) fun H e s' => no w H s₁ e s'
end IndEnd

set_option Elab.async false
set_option linter.all false
set_option maxRecDepth 100000
set_option maxHeartbeats 4000000
namespace Ind
open PySem PySem.Spec PyProof.Rows L2
theorem all_mk {l : PySem.W.OpenLaw} {w : World} {K : PySem.W.Frag} {h : Heap} {mg : Str → Option Value} {fa : Addr} (X : K.In h) (G : h.Ns mainGlobals mg) (hfa : mg "law" = some (.ref fa))
    {f0 : Addr} {od0 an0 : Option Addr} {sl0 : Array (Option Value)} {oc0 kV0 dc0 pm0 cd0 ct0 : Value}
    {f1 : Addr} {od1 an1 : Option Addr} {sl1 : Array (Option Value)} {oc1 kV1 dc1 pm1 ct1 : Value} {cc pp : Addr}
    {f2 : Addr} {od2 an2 : Option Addr} {sl2 : Array (Option Value)} {oc2 kV2 dc2 pm2 cd2 ct2 : Value}
    {f3 : Addr} {od3 an3 : Option Addr} {sl3 : Array (Option Value)} {oc3 kV3 dc3 pm3 cd3 ct3 : Value}
    {f4 : Addr} {od4 an4 : Option Addr} {sl4 : Array (Option Value)} {oc4 kV4 dc4 pm4 cd4 ct4 : Value}
    {f5 : Addr} {od5 an5 : Option Addr} {sl5 : Array (Option Value)} {oc5 kV5 dc5 pm5 cd5 ct5 : Value}
    {f6 : Addr} {od6 an6 : Option Addr} {sl6 : Array (Option Value)} {oc6 kV6 dc6 pm6 cd6 ct6 : Value}
    {f7 : Addr} {od7 an7 : Option Addr} {sl7 : Array (Option Value)} {oc7 kV7 dc7 pm7 cd7 ct7 : Value}
    {f8 : Addr} {od8 an8 : Option Addr} {sl8 : Array (Option Value)} {oc8 kV8 dc8 pm8 cd8 ct8 : Value}
    {f9 : Addr} {od9 an9 : Option Addr} {sl9 : Array (Option Value)} {oc9 kV9 dc9 pm9 cd9 ct9 : Value}
    {f10 : Addr} {od10 an10 : Option Addr} {sl10 : Array (Option Value)} {oc10 kV10 dc10 pm10 cd10 ct10 : Value}
    {f11 : Addr} {od11 an11 : Option Addr} {sl11 : Array (Option Value)} {oc11 kV11 dc11 pm11 cd11 ct11 : Value}
    {f12 : Addr} {od12 an12 : Option Addr} {sl12 : Array (Option Value)} {oc12 kV12 dc12 pm12 cd12 ct12 : Value}
    {f13 : Addr} {od13 an13 : Option Addr} {sl13 : Array (Option Value)} {oc13 kV13 dc13 pm13 cd13 ct13 : Value}
    {f14 : Addr} {od14 an14 : Option Addr} {sl14 : Array (Option Value)} {oc14 kV14 dc14 pm14 cd14 ct14 : Value}
    {f15 : Addr} {od15 an15 : Option Addr} {sl15 : Array (Option Value)} {oc15 kV15 dc15 pm15 cd15 ct15 : Value}
    {f16 : Addr} {od16 an16 : Option Addr} {sl16 : Array (Option Value)} {oc16 kV16 dc16 pm16 cd16 ct16 : Value}
    (a0 : PySem.W.nsIn K mainGlobals "is_storable" = some (some (.ref f0))) (l0 : K.lookup f0 = some ⟨oc0, od0, .func (PySem.W.fnOf "is_storable" "is_storable" (defArgs s_is_storable) (defBody s_is_storable) (defScope s_is_storable) .none kV0 dc0 pm0 an0 cd0 ct0), sl0⟩) (c0 : PySem.W.codeIn K cd0 "is_storable" = true) (k0 : PySem.W.keepIn K (.ref f0) = true)
    (a1 : PySem.W.nsIn K mainGlobals "can_store" = some (some (.ref f1))) (l1 : K.lookup f1 = some ⟨oc1, od1, .func (PySem.W.fnOf "can_store" "can_store" (defArgs s_can_store) (defBody s_can_store) (defScope s_can_store) .none kV1 dc1 pm1 an1 (.ref cc) ct1), sl1⟩) (c1 : PySem.W.codeIn K (.ref cc) "can_store" = true) (k1 : PySem.W.keepIn K (.ref f1) = true)
    (a2 : PySem.W.nsIn K mainGlobals "find_table" = some (some (.ref f2))) (l2 : K.lookup f2 = some ⟨oc2, od2, .func (PySem.W.fnOf "find_table" "find_table" (defArgs s_find_table) (defBody s_find_table) (defScope s_find_table) .none kV2 dc2 pm2 an2 cd2 ct2), sl2⟩) (c2 : PySem.W.codeIn K cd2 "find_table" = true) (k2 : PySem.W.keepIn K (.ref f2) = true)
    (a3 : PySem.W.nsIn K mainGlobals "_law_tape" = some (some (.ref f3))) (l3 : K.lookup f3 = some ⟨oc3, od3, .func (PySem.W.fnOf "_law_tape" "_law_tape" (defArgs s__law_tape) (defBody s__law_tape) (defScope s__law_tape) .none kV3 dc3 pm3 an3 cd3 ct3), sl3⟩) (c3 : PySem.W.codeIn K cd3 "_law_tape" = true) (k3 : PySem.W.keepIn K (.ref f3) = true)
    (a4 : PySem.W.nsIn K mainGlobals "_law_draw" = some (some (.ref f4))) (l4 : K.lookup f4 = some ⟨oc4, od4, .func (PySem.W.fnOf "_law_draw" "_law_draw" (defArgs s__law_draw) (defBody s__law_draw) (defScope s__law_draw) .none kV4 dc4 pm4 an4 cd4 ct4), sl4⟩) (c4 : PySem.W.codeIn K cd4 "_law_draw" = true) (k4 : PySem.W.keepIn K (.ref f4) = true)
    (a5 : PySem.W.nsIn K mainGlobals "_law_name" = some (some (.ref f5))) (l5 : K.lookup f5 = some ⟨oc5, od5, .func (PySem.W.fnOf "_law_name" "_law_name" (defArgs s__law_name) (defBody s__law_name) (defScope s__law_name) .none kV5 dc5 pm5 an5 cd5 ct5), sl5⟩) (c5 : PySem.W.codeIn K cd5 "_law_name" = true) (k5 : PySem.W.keepIn K (.ref f5) = true)
    (a6 : PySem.W.nsIn K mainGlobals "_law_names" = some (some (.ref f6))) (l6 : K.lookup f6 = some ⟨oc6, od6, .func (PySem.W.fnOf "_law_names" "_law_names" (defArgs s__law_names) (defBody s__law_names) (defScope s__law_names) .none kV6 dc6 pm6 an6 cd6 ct6), sl6⟩) (c6 : PySem.W.codeIn K cd6 "_law_names" = true) (k6 : PySem.W.keepIn K (.ref f6) = true)
    (a7 : PySem.W.nsIn K mainGlobals "_law_signs" = some (some (.ref f7))) (l7 : K.lookup f7 = some ⟨oc7, od7, .func (PySem.W.fnOf "_law_signs" "_law_signs" (defArgs s__law_signs) (defBody s__law_signs) (defScope s__law_signs) .none kV7 dc7 pm7 an7 cd7 ct7), sl7⟩) (c7 : PySem.W.codeIn K cd7 "_law_signs" = true) (k7 : PySem.W.keepIn K (.ref f7) = true)
    (a8 : PySem.W.nsIn K mainGlobals "_law_text" = some (some (.ref f8))) (l8 : K.lookup f8 = some ⟨oc8, od8, .func (PySem.W.fnOf "_law_text" "_law_text" (defArgs s__law_text) (defBody s__law_text) (defScope s__law_text) .none kV8 dc8 pm8 an8 cd8 ct8), sl8⟩) (c8 : PySem.W.codeIn K cd8 "_law_text" = true) (k8 : PySem.W.keepIn K (.ref f8) = true)
    (a9 : PySem.W.nsIn K mainGlobals "_law_value" = some (some (.ref f9))) (l9 : K.lookup f9 = some ⟨oc9, od9, .func (PySem.W.fnOf "_law_value" "_law_value" (defArgs s__law_value) (defBody s__law_value) (defScope s__law_value) .none kV9 dc9 pm9 an9 cd9 ct9), sl9⟩) (c9 : PySem.W.codeIn K cd9 "_law_value" = true) (k9 : PySem.W.keepIn K (.ref f9) = true)
    (a10 : PySem.W.nsIn K mainGlobals "_law_some" = some (some (.ref f10))) (l10 : K.lookup f10 = some ⟨oc10, od10, .func (PySem.W.fnOf "_law_some" "_law_some" (defArgs s__law_some) (defBody s__law_some) (defScope s__law_some) .none kV10 dc10 pm10 an10 cd10 ct10), sl10⟩) (c10 : PySem.W.codeIn K cd10 "_law_some" = true) (k10 : PySem.W.keepIn K (.ref f10) = true)
    (a11 : PySem.W.nsIn K mainGlobals "_law_row" = some (some (.ref f11))) (l11 : K.lookup f11 = some ⟨oc11, od11, .func (PySem.W.fnOf "_law_row" "_law_row" (defArgs s__law_row) (defBody s__law_row) (defScope s__law_row) .none kV11 dc11 pm11 an11 cd11 ct11), sl11⟩) (c11 : PySem.W.codeIn K cd11 "_law_row" = true) (k11 : PySem.W.keepIn K (.ref f11) = true)
    (a12 : PySem.W.nsIn K mainGlobals "_law_kinds" = some (some (.ref f12))) (l12 : K.lookup f12 = some ⟨oc12, od12, .func (PySem.W.fnOf "_law_kinds" "_law_kinds" (defArgs s__law_kinds) (defBody s__law_kinds) (defScope s__law_kinds) .none kV12 dc12 pm12 an12 cd12 ct12), sl12⟩) (c12 : PySem.W.codeIn K cd12 "_law_kinds" = true) (k12 : PySem.W.keepIn K (.ref f12) = true)
    (a13 : PySem.W.nsIn K mainGlobals "_law_plain_tables" = some (some (.ref f13))) (l13 : K.lookup f13 = some ⟨oc13, od13, .func (PySem.W.fnOf "_law_plain_tables" "_law_plain_tables" (defArgs s__law_plain_tables) (defBody s__law_plain_tables) (defScope s__law_plain_tables) .none kV13 dc13 pm13 an13 cd13 ct13), sl13⟩) (c13 : PySem.W.codeIn K cd13 "_law_plain_tables" = true) (k13 : PySem.W.keepIn K (.ref f13) = true)
    (a14 : PySem.W.nsIn K mainGlobals "_law_fits" = some (some (.ref f14))) (l14 : K.lookup f14 = some ⟨oc14, od14, .func (PySem.W.fnOf "_law_fits" "_law_fits" (defArgs s__law_fits) (defBody s__law_fits) (defScope s__law_fits) .none kV14 dc14 pm14 an14 cd14 ct14), sl14⟩) (c14 : PySem.W.codeIn K cd14 "_law_fits" = true) (k14 : PySem.W.keepIn K (.ref f14) = true)
    (a15 : PySem.W.nsIn K mainGlobals "_law_odd" = some (some (.ref f15))) (l15 : K.lookup f15 = some ⟨oc15, od15, .func (PySem.W.fnOf "_law_odd" "_law_odd" (defArgs s__law_odd) (defBody s__law_odd) (defScope s__law_odd) .none kV15 dc15 pm15 an15 cd15 ct15), sl15⟩) (c15 : PySem.W.codeIn K cd15 "_law_odd" = true) (k15 : PySem.W.keepIn K (.ref f15) = true)
    (a16 : PySem.W.nsIn K mainGlobals "law" = some (some (.ref f16))) (l16 : K.lookup f16 = some ⟨oc16, od16, .func (PySem.W.fnOf "law" "law" (defArgs s_law) (defBody s_law) (defScope s_law) .none kV16 dc16 pm16 an16 cd16 ct16), sl16⟩) (c16 : PySem.W.codeIn K cd16 "law" = true) (k16 : PySem.W.keepIn K (.ref f16) = true)
    {t_LARGEST_STORED : Tok} (y_LARGEST_STORED : PySem.W.nsIn K mainGlobals "LARGEST_STORED" = some (some (.int 1000000 t_LARGEST_STORED)))
    (z_abs : PySem.W.nsIn K mainGlobals "abs" = some none)
    (z_all : PySem.W.nsIn K mainGlobals "all" = some none)
    (z_int : PySem.W.nsIn K mainGlobals "int" = some none)
    (z_isinstance : PySem.W.nsIn K mainGlobals "isinstance" = some none)
    (z_len : PySem.W.nsIn K mainGlobals "len" = some none)
    (z_list : PySem.W.nsIn K mainGlobals "list" = some none)
    (z_max : PySem.W.nsIn K mainGlobals "max" = some none)
    (z_min : PySem.W.nsIn K mainGlobals "min" = some none)
    (z_range : PySem.W.nsIn K mainGlobals "range" = some none)
    (z_repr : PySem.W.nsIn K mainGlobals "repr" = some none)
    (z_reversed : PySem.W.nsIn K mainGlobals "reversed" = some none)
    (z_str : PySem.W.nsIn K mainGlobals "str" = some none)
    (z_tuple : PySem.W.nsIn K mainGlobals "tuple" = some none)
    (z_zip : PySem.W.nsIn K mainGlobals "zip" = some none)
    {om : Value} {odm : Option Addr} {vm : Array Value} {slm : Array (Option Value)} (m : K.lookup cc = some ⟨om, odm, .fields vm, slm⟩) (p : (vm[11]? : Option Value) = some (.ref pp)) (ti : PySem.W.tabIn K "can_store" = some (cc, pp) → PySem.W.CodeHd h cc pp ∧ h.get? pp = some { cls := .none, data := .fields #[] }) :
  List.lookup pp K = none → LamX.LawAtS l w K CX0 5 63 "script" mg fa h := by
  intro np
  have tq : PySem.W.tabIn K "can_store" = some (cc, pp) := by
    unfold PySem.W.tabIn
    rw [a1]
    simp only [l1, m, p, PySem.W.fnOf]
  obtain ⟨hd, ht⟩ := ti tq
  have e := hfa.symm.trans (PySem.W.mg_of X G a16)
  cases e
  have F0 := fun_mk (st := s_is_storable) l0 c0 k0
  have b0 := F0.binds (ps := ["value", "word"]) fun _ _ _ _ _ _ us hl => match us, hl with | [_, _], _ => rfl
  have F1 := fun_mk (st := s_can_store) l1 c1 k1
  have b1 := F1.binds (ps := ["schema", "name", "row"]) fun _ _ _ _ _ _ us hl => match us, hl with | [_, _, _], _ => rfl
  have F2 := fun_mk (st := s_find_table) l2 c2 k2
  have b2 := F2.binds (ps := ["schema", "name"]) fun _ _ _ _ _ _ us hl => match us, hl with | [_, _], _ => rfl
  have F3 := fun_mk (st := s__law_tape) l3 c3 k3
  have b3 := F3.binds (ps := ["script"]) fun _ _ _ _ _ _ us hl => match us, hl with | [_], _ => rfl
  have F4 := fun_mk (st := s__law_draw) l4 c4 k4
  have b4 := F4.binds (ps := ["tape", "many"]) fun _ _ _ _ _ _ us hl => match us, hl with | [_, _], _ => rfl
  have F5 := fun_mk (st := s__law_name) l5 c5 k5
  have b5 := F5.binds (ps := ["tape"]) fun _ _ _ _ _ _ us hl => match us, hl with | [_], _ => rfl
  have F6 := fun_mk (st := s__law_names) l6 c6 k6
  have b6 := F6.binds (ps := ["tape", "many"]) fun _ _ _ _ _ _ us hl => match us, hl with | [_, _], _ => rfl
  have F7 := fun_mk (st := s__law_signs) l7 c7 k7
  have b7 := F7.binds (ps := []) fun _ _ _ _ _ _ us hl => match us, hl with | [], _ => rfl
  have F8 := fun_mk (st := s__law_text) l8 c8 k8
  have b8 := F8.binds (ps := ["tape"]) fun _ _ _ _ _ _ us hl => match us, hl with | [_], _ => rfl
  have F9 := fun_mk (st := s__law_value) l9 c9 k9
  have b9 := F9.binds (ps := ["tape", "kind"]) fun _ _ _ _ _ _ us hl => match us, hl with | [_, _], _ => rfl
  have F10 := fun_mk (st := s__law_some) l10 c10 k10
  have b10 := F10.binds (ps := ["tape", "names"]) fun _ _ _ _ _ _ us hl => match us, hl with | [_, _], _ => rfl
  have F11 := fun_mk (st := s__law_row) l11 c11 k11
  have b11 := F11.binds (ps := ["tape", "columns"]) fun _ _ _ _ _ _ us hl => match us, hl with | [_, _], _ => rfl
  have F12 := fun_mk (st := s__law_kinds) l12 c12 k12
  have b12 := F12.binds (ps := ["columns"]) fun _ _ _ _ _ _ us hl => match us, hl with | [_], _ => rfl
  have F13 := fun_mk (st := s__law_plain_tables) l13 c13 k13
  have b13 := F13.binds (ps := ["tape", "names"]) fun _ _ _ _ _ _ us hl => match us, hl with | [_, _], _ => rfl
  have F14 := fun_mk (st := s__law_fits) l14 c14 k14
  have b14 := F14.binds (ps := ["value", "word"]) fun _ _ _ _ _ _ us hl => match us, hl with | [_, _], _ => rfl
  have F15 := fun_mk (st := s__law_odd) l15 c15 k15
  have b15 := F15.binds (ps := ["tape"]) fun _ _ _ _ _ _ us hl => match us, hl with | [_], _ => rfl
  have F16 := fun_mk (st := s_law) l16 c16 k16
  have b16 := F16.binds (ps := ["script"]) fun _ _ _ _ _ _ us hl => match us, hl with | [_], _ => rfl
  let T : Txt K mg := ⟨f0, _, F0, b0, PySem.W.mg_of X G a0, f1, _, F1, b1, PySem.W.mg_of X G a1, f2, _, F2, b2, PySem.W.mg_of X G a2, f3, _, F3, b3, PySem.W.mg_of X G a3, f4, _, F4, b4, PySem.W.mg_of X G a4, f5, _, F5, b5, PySem.W.mg_of X G a5, f6, _, F6, b6, PySem.W.mg_of X G a6, f7, _, F7, b7, PySem.W.mg_of X G a7, f8, _, F8, b8, PySem.W.mg_of X G a8, f9, _, F9, b9, PySem.W.mg_of X G a9, f10, _, F10, b10, PySem.W.mg_of X G a10, f11, _, F11, b11, PySem.W.mg_of X G a11, f12, _, F12, b12, PySem.W.mg_of X G a12, f13, _, F13, b13, PySem.W.mg_of X G a13, f14, _, F14, b14, PySem.W.mg_of X G a14, f15, _, F15, b15, PySem.W.mg_of X G a15, fa, _, F16, b16, PySem.W.mg_of X G a16, cc, pp, ⟨_, _, _, _, _, _, _, _, rfl, l1, c1⟩, _, PySem.W.mg_of X G y_LARGEST_STORED, PySem.W.mg_none_of X G z_abs, PySem.W.mg_none_of X G z_all, PySem.W.mg_none_of X G z_int, PySem.W.mg_none_of X G z_isinstance, PySem.W.mg_none_of X G z_len, PySem.W.mg_none_of X G z_list, PySem.W.mg_none_of X G z_max, PySem.W.mg_none_of X G z_min, PySem.W.mg_none_of X G z_range, PySem.W.mg_none_of X G z_repr, PySem.W.mg_none_of X G z_reversed, PySem.W.mg_none_of X G z_str, PySem.W.mg_none_of X G z_tuple, PySem.W.mg_none_of X G z_zip⟩
  have one : ∀ p ∈ [(cc, pp)], p = (cc, pp) := fun p hp => List.mem_singleton.mp hp
  exact ⟨_, [(cc, pp)], spLaw17 K pp, fun p hp => by rw [one p hp]; exact ht, fun p hp => by rw [one p hp]; exact np, fun p hp => by rw [one p hp]; exact hd, fun s v => .of_eq rfl, fun H a ns hl _ ht hS => ⟨a, ns, rfl, hS, hl, ⟨#[], ht _ (List.mem_singleton.mpr rfl), trivial⟩, fun _ => rfl⟩, fun base _ _ tb => ok_law T ⟨(tb _ (List.mem_singleton.mpr rfl)).code, (tb _ (List.mem_singleton.mpr rfl)).bm, (tb _ (List.mem_singleton.mpr rfl)).gP⟩⟩
end Ind
open PySem PySem.W PyProof.Rows
set_option maxHeartbeats 0 in
theorem PySem.Challenge.cw_indoubt_k17_rows_that_can_be_stored_holds : PySem.Challenge.rw_indoubt_k17_rows_that_can_be_stored.Holds := by
  w_on; o_law; k_head; (case hw => w_witness2)
  k_fill
  refine IndEnd.walk_tabs (l := PySem.Challenge.rw_indoubt_k17_rows_that_can_be_stored) (n := 63) (k := 5) (x := "script") (CX := fun _ => L2.CX0) rfl (by decide) rfl ⟨rfl, by decide, by decide⟩ (fun w h Y => PySem.W.kIn_of Y) ?F (fun _ _ _ _ _ h => h)
  case F =>
    intro w mg fa h KX G hmg tabs
    have tb := fun e c P h1 h2 => tabs "can_store" e c P h1 h2
    refine' Ind.all_mk KX G hmg ?a0 ?l0 ?c0 ?k0 ?a1 ?l1 ?c1 ?k1 ?a2 ?l2 ?c2 ?k2 ?a3 ?l3 ?c3 ?k3 ?a4 ?l4 ?c4 ?k4 ?a5 ?l5 ?c5 ?k5 ?a6 ?l6 ?c6 ?k6 ?a7 ?l7 ?c7 ?k7 ?a8 ?l8 ?c8 ?k8 ?a9 ?l9 ?c9 ?k9 ?a10 ?l10 ?c10 ?k10 ?a11 ?l11 ?c11 ?k11 ?a12 ?l12 ?c12 ?k12 ?a13 ?l13 ?c13 ?k13 ?a14 ?l14 ?c14 ?k14 ?a15 ?l15 ?c15 ?k15 ?a16 ?l16 ?c16 ?k16 ?y_LARGEST_STORED ?z_abs ?z_all ?z_int ?z_isinstance ?z_len ?z_list ?z_max ?z_min ?z_range ?z_repr ?z_reversed ?z_str ?z_tuple ?z_zip ?um ?up (fun z => tb _ _ _ (by rfl) z) ?np
    (case a0 => k_is); (case l0 => k_is); (case c0 => k_is); (case k0 => k_is); (case a1 => k_is); (case l1 => k_is); (case c1 => k_is); (case k1 => k_is); (case a2 => k_is); (case l2 => k_is); (case c2 => k_is); (case k2 => k_is); (case a3 => k_is); (case l3 => k_is); (case c3 => k_is); (case k3 => k_is); (case a4 => k_is); (case l4 => k_is); (case c4 => k_is); (case k4 => k_is); (case a5 => k_is); (case l5 => k_is); (case c5 => k_is); (case k5 => k_is); (case a6 => k_is); (case l6 => k_is); (case c6 => k_is); (case k6 => k_is); (case a7 => k_is); (case l7 => k_is); (case c7 => k_is); (case k7 => k_is); (case a8 => k_is); (case l8 => k_is); (case c8 => k_is); (case k8 => k_is); (case a9 => k_is); (case l9 => k_is); (case c9 => k_is); (case k9 => k_is); (case a10 => k_is); (case l10 => k_is); (case c10 => k_is); (case k10 => k_is); (case a11 => k_is); (case l11 => k_is); (case c11 => k_is); (case k11 => k_is); (case a12 => k_is); (case l12 => k_is); (case c12 => k_is); (case k12 => k_is); (case a13 => k_is); (case l13 => k_is); (case c13 => k_is); (case k13 => k_is); (case a14 => k_is); (case l14 => k_is); (case c14 => k_is); (case k14 => k_is); (case a15 => k_is); (case l15 => k_is); (case c15 => k_is); (case k15 => k_is); (case a16 => k_is); (case l16 => k_is); (case c16 => k_is); (case k16 => k_is); (case y_LARGEST_STORED => k_is); (case z_abs => k_is); (case z_all => k_is); (case z_int => k_is); (case z_isinstance => k_is); (case z_len => k_is); (case z_list => k_is); (case z_max => k_is); (case z_min => k_is); (case z_range => k_is); (case z_repr => k_is); (case z_reversed => k_is); (case z_str => k_is); (case z_tuple => k_is); (case z_zip => k_is)
    case um => k_is
    case up => rfl
    case np => first | kernel_rfl | rfl | decide +kernel

