import PyProof.Rows.All
import Wide.All
import OpenK.AllK
import Wide.FinOn
import PyProof.GenQ
import HandS.GenOver
import PyProof.ConsumeS
import HandS.Base
import HandS.Call
import HandS.List
import HandS.Ends
import HandS.Words
import HandS.WordsList
import HandS.Text
import HandS.Comp
import HandS.Iter
import HandS.Wide
import HandS.Exc
import HandS.RaiseOp
import HandS.StrMore
import HandS.TupLe
import HandS.Zip0
import HandS.AnyAll
import HandS.Replace
import PyProof.Rows.RuleB_bool
import PyProof.FString5
import HandS.IsInst
import HandS.Dict
import KE.KDictPairs
import KE.KIndexOf
import PyProof.ReprRoads
import PyProof.FitsInt
import PyProof.ReprLen
import PyProof.StrLawsRepr
import HandS.TupAny
import HandS.Zip
import HandS.Rev
import HandS.Deep
import HandS.Conv
import HandS.WordsDict
import PyProof.P3In
import HandS.ExcOwn
import HandS.ExcIs
import HandS.WordsExc
import KE.KDictList
import HandS.RevTup
import HandS.More
import HandS.ListItems
import HandS.Style
import HandS.SortRule
import KE.KExcSuper
import KE.KExcInit
import HandS.FStr
import HandS.ExcField
import KE.KExcIs
import HandS.EndTab
import KE.KNest
import PyProof.ReprBulk
import PySem.Challenge.RW_indoubt_k04_first_error_of_a_formula
set_option Elab.async false
set_option linter.all false
set_option maxRecDepth 100000
namespace IndG
open PySem PySem.Spec GenW
/-! ### all(..), any(..) of a generator expression whose element is any walk that keeps a stage -/
abbrev MM (prog : Program) (w : World) : Model := model prog w
/-- the stages of a generator: j items are out; the element j is the truth tr j; nothing is raised -/
structure Stage (prog : Program) (w : World) (Ag : Around) (cenv : Env) (target elt : Expr) (I : Addr) (n : Nat) (tr : Nat → Bool) (V : Nat → Shared → Prop) (F : Shared → Prop) : Prop where
  still : ∀ j s g t, V j s → (∀ y ∈ g, y.bare = true) → V j { s with gens := g, toks := t }
  bare : ∀ j s, V j s → ∀ y ∈ s.gens, y.bare = true
  item : ∀ j s E, j < n → V j s → wpAny (MM prog w) Ag (pyNext (.ref I)) (fun r s1 => ∃ v, r = some v ∧
    wpAny (MM prog w) Ag (letOwnedTupleGo target (.ref I) v) (fun _ s2 => wpAny (MM prog w) Ag (assign target cenv v) (fun _ s3 =>
      wpAny (MM prog w) Ag (eval elt cenv) (fun y s4 => y = .bool (tr j) ∧ V (j + 1) s4) E s3) E s2) E s1) E s
  done : ∀ s E, V n s → wpAny (MM prog w) Ag (pyNext (.ref I)) (fun r s1 => r = none ∧ F s1) E s
/-- what goes out and comes back -/
def prot (n : Nat) (tr : Nat → Bool) (V : Nat → Shared → Prop) : Protocol := fun m s₀ v s kap =>
  m < n ∧ v = .bool (tr (n - 1 - m)) ∧ V (n - m) s ∧ s₀.gens.size ≤ s.gens.size ∧ ∀ z, V (n - m) z → kap (.send .none) z
def fin (F : Shared → Prop) : GenEnd := fun m s₀ r s => r = .ok .next ∧ (m = 0 ∧ s₀.gens.size ≤ s.gens.size ∧ F s)
section
variable {prog : Program} {w : World} {A : Around} {target elt iter : Expr} {scope : Scope} {pos : Pos} {I : Addr} {cenv : Env} {n : Nat} {tr : Nat → Bool} {V : Nat → Shared → Prop} {F : Shared → Prop}
abbrev gx (elt target iter : Expr) (scope : Scope) (pos : Pos) : Expr := .GeneratorExp elt [⟨target, iter, [], 0⟩] scope pos
theorem turns (S : Stage prog w (A.over (.compLoop (gx elt target iter scope pos) 0 (.ref I) .none cenv) []) cenv target elt I n tr V F) (hco : cenv.scope.isCoroutine = false) :
    ∀ (k j : Nat) (s₀ s : Shared), n - j = k → j ≤ n → V j s → s₀.gens.size ≤ s.gens.size →
      Seg (MM prog w) A (fin F) (prot n tr V) k s₀ (.compLoop (gx elt target iter scope pos) 0 (.ref I) .none cenv) ((MM prog w).den (.compLoop (gx elt target iter scope pos) 0 (.ref I) .none cenv)) [] s := by
  intro k
  induction k with
  | zero =>
    intro j s₀ s hk hj hV hg
    have e : j = n := by omega
    subst e
    show Seg _ A _ _ _ s₀ _ ((compTurn (gx elt target iter scope pos) 0 (.ref I) .none cenv).onRaise (leaving cenv)) [] s
    rw [compTurn_gen]
    rw [Sem.onRaise_eq_wrap]
    refine seg_bind_wrap (wpAny_standAt ?_)
    refine seg_bind_wrap (wpAny_gsz hg (wpAny_mono (S.done s _ hV) (fun r s1 h1 h2 => ?_) fun _ _ x _ => x))
    obtain ⟨rfl, hF⟩ := h1
    exact seg_end (.ok .next) ⟨rfl, rfl, h2, hF⟩
  | succ k ih =>
    intro j s₀ s hk hj hV hg
    have hlt : j < n := by omega
    show Seg _ A _ _ _ s₀ _ ((compTurn (gx elt target iter scope pos) 0 (.ref I) .none cenv).onRaise (leaving cenv)) [] s
    rw [compTurn_gen]
    rw [Sem.onRaise_eq_wrap]
    refine seg_bind_wrap (wpAny_standAt ?_)
    refine seg_bind_wrap (wpAny_gsz hg (wpAny_mono (S.item j s _ hlt hV) (fun r s1 h1 g1 => ?_) fun _ _ x _ => x))
    obtain ⟨v, rfl, h1⟩ := h1
    refine seg_bind_wrap (wpAny_gsz g1 (wpAny_mono h1 (fun _ s2 h2 g2 => ?_) fun _ _ x _ => x))
    refine seg_bind_wrap (wpAny_gsz g2 (wpAny_mono h2 (fun _ s3 h3 g3 => ?_) fun _ _ x _ => x))
    simp only [List.forIn_nil]
    refine seg_bind_wrap (wpAny_pure ?_)
    simp only [if_true]
    have out : ∀ v, yieldOut cenv v = yieldValue v := by
      intro v
      simp only [yieldOut, hco, Bool.false_eq_true, if_false]
    simp only [out]
    iterate 2 rw [Sem.bind_eq_wrap']
    iterate 2 rw [Sem.wrap_wrap]
    refine seg_wrap (wpAny_gsz g3 (wpAny_mono h3 (fun y s4 h4 g4 => ?_) fun _ _ x _ => x))
    obtain ⟨rfl, hV4⟩ := h4
    have ek : n - k = j + 1 := by omega
    have et : n - 1 - k = j := by omega
    refine seg_at (seg_yield rfl rfl rfl ⟨by omega, by rw [et], by rw [ek]; exact hV4, g4, fun z hz => ?_⟩)
    rw [ek] at hz
    exact seg_again rfl (ih (j + 1) z z (by omega) hlt hz (Nat.le_refl _))
/-- the first waking -/
theorem wakes (S : Stage prog w (A.over (.compLoop (gx elt target iter scope pos) 0 (.ref I) .none cenv) []) cenv target elt I n tr V F) (hco : cenv.scope.isCoroutine = false)
    (same : A.over (.compStart (gx elt target iter scope pos) 0 (.ref I) .none cenv) [] = A.over (.compLoop (gx elt target iter scope pos) 0 (.ref I) .none cenv) [])
    (self : ∀ s Q E, V 0 s → Q (.ref I) s → wpAny (MM prog w) (A.over (.compStart (gx elt target iter scope pos) 0 (.ref I) .none cenv) []) (pyIter (.ref I)) Q E s) :
    ∀ (s₀ s : Shared), V 0 s → s₀.gens.size ≤ s.gens.size →
      Seg (MM prog w) A (fin F) (prot n tr V) n s₀ (.compStart (gx elt target iter scope pos) 0 (.ref I) .none cenv) ((MM prog w).den (.compStart (gx elt target iter scope pos) 0 (.ref I) .none cenv)) [] s := by
  intro s₀ s hV hg
  have go := turns (iter := iter) (scope := scope) (pos := pos) S hco n 0 s₀ s (by omega) (Nat.zero_le _) hV hg
  show Seg _ A _ _ _ s₀ _ ((compStart (gx elt target iter scope pos) 0 (.ref I) .none cenv).onRaise (leaving cenv)) [] s
  unfold compStart
  rw [Sem.onRaise_eq_wrap]
  show Seg _ A _ _ _ s₀ _ (((ask) >>= _).wrap _ _ _ _) [] s
  refine seg_bind_wrap (wpAny_askSetting ?_)
  split
  · exact seg_again rfl go
  · refine seg_bind_wrap (wpAny_rule ?_)
    show Seg _ A _ _ _ s₀ _ (((standAt iter.pos) >>= _).wrap _ _ _ _) [] s
    refine seg_bind_wrap (wpAny_standAt ?_)
    refine seg_bind_wrap (self s _ _ hV ?_)
    exact seg_again rfl go
end
end IndG

set_option Elab.async false
set_option linter.all false
set_option maxRecDepth 100000
namespace IndG
open PySem PySem.Spec GenW
/-- what holds of the generator's object through all stages -/
structure Held (a : Addr) (g : Nat) (V : Nat → Shared → Prop) (F : Shared → Prop) : Prop where
  gen : ∀ j s, V j s → s.heap.IsGen a g ∧ s.heap.NoLimit
  fbare : ∀ s, F s → ∀ y ∈ s.gens, y.bare = true
/-- a generator with j items out, asleep -/
def Asleep (prog : Program) (w : World) (A : Around) (g n : Nat) (tr : Nat → Bool) (V : Nat → Shared → Prop) (F : Shared → Prop) (j : Nat) (s : Shared) : Prop :=
  V j s ∧ ∃ gs, s.gens[g]? = some gs ∧ ∀ z, V j z → gs.Goes (MM prog w) A.in1 (fin F) (prot n tr V) (n - j) (.send .none) z
/-- how it may be left -/
def Left (V : Nat → Shared → Prop) (F : Shared → Prop) (s : Shared) : Prop :=
  (∃ j, V j s) ∨ ∃ s1 g' h', F s1 ∧ s = { s1 with gens := g', heap := h' } ∧ (∀ y ∈ g', y.bare = true) ∧ ∀ b o, s1.heap.get? b = some o → h'.get? b = some o
section
variable {prog : Program} {w : World} {A : Around} {a : Addr} {g n : Nat} {tr : Nat → Bool} {V : Nat → Shared → Prop} {F : Shared → Prop}
theorem setGen_bare {s : Shared} {x : GenState} (h : ∀ y ∈ s.gens, y.bare = true) (hx : x.bare = true) : ∀ y ∈ (s.setGen g x).gens, y.bare = true := by
  intro y hy
  have hy : y ∈ s.gens.setIfInBounds g x := hy
  obtain ⟨i, hi, e⟩ := Array.mem_iff_getElem.mp hy
  have hi2 : i < s.gens.size := by simpa using hi
  rw [Array.getElem_setIfInBounds hi2] at e
  split at e
  · rw [← e]; exact hx
  · rw [← e]
    exact h _ (Array.getElem_mem hi2)
theorem setGen_at {s : Shared} {x : GenState} (h : g < s.gens.size) : (s.setGen g x).gens[g]? = some x := by
  simp [Shared.setGen, h]
theorem step (still : ∀ j s g' t, V j s → (∀ y ∈ g', y.bare = true) → V j { s with gens := g', toks := t }) (bare : ∀ j s, V j s → ∀ y ∈ s.gens, y.bare = true) (K : Held a g V F)
    (hh : A.handled = none) (room : A.depth < recursionLimit) {j : Nat} {s : Shared} (h : Asleep prog w A g n tr V F j s) (hlt : j < n) {Q : Option Value → Shared → Prop} {E : Value → Shared → Prop}
    (hQ : ∀ z, Asleep prog w A g n tr V F (j + 1) z → Q (some (.bool (tr j))) z) : wpAny (MM prog w) A (pyNext (.ref a)) Q E s := by
  obtain ⟨hV, gs, hgs, go⟩ := h
  obtain ⟨hg, hl⟩ := K.gen _ _ hV
  have hsz : g < s.gens.size := (Array.getElem?_eq_some_iff.mp hgs).1
  have hV2 : V j (s.setGen g .running) := still j s _ s.toks hV (setGen_bare (g := g) (bare _ _ hV) rfl)
  refine wpAny_pyNext_genexpQ (n := n - j) (P := fun m s₀ s₁ => m = 0 ∧ s₀.gens.size ≤ s₁.gens.size ∧ F s₁) hh hl room hg hgs (go _ hV2) (fun v s1 gs' hb hy => ?_) (fun s1 hp h' hk => ?_)
  · obtain ⟨m, em⟩ : ∃ m, n - j = m + 1 := ⟨n - j - 1, by omega⟩
    rw [em] at hy
    obtain ⟨y1, y2, y3, y4, y5⟩ := hy
    have e1 : n - 1 - (m + 1 - 1) = j := by omega
    have e2 : n - (m + 1 - 1) = j + 1 := by omega
    rw [e1] at y2
    rw [e2] at y3 y5
    subst y2
    have hsz1 : g < s1.gens.size := by
      have : (s.setGen g .running).gens.size = s.gens.size := by simp [Shared.setGen]
      omega
    refine hQ _ ⟨still _ s1 _ s1.toks y3 (setGen_bare (g := g) (bare _ _ y3) hb), gs', setGen_at hsz1, fun z hz => ?_⟩
    rw [show n - (j + 1) = m by omega]
    exact y5 z hz
  · have := hp.1
    omega
theorem stop (still : ∀ j s g' t, V j s → (∀ y ∈ g', y.bare = true) → V j { s with gens := g', toks := t }) (bare : ∀ j s, V j s → ∀ y ∈ s.gens, y.bare = true) (K : Held a g V F)
    (hh : A.handled = none) (room : A.depth < recursionLimit) {s : Shared} (h : Asleep prog w A g n tr V F n s) {Q : Option Value → Shared → Prop} {E : Value → Shared → Prop}
    (hQ : ∀ z, Left V F z → Q none z) : wpAny (MM prog w) A (pyNext (.ref a)) Q E s := by
  obtain ⟨hV, gs, hgs, go⟩ := h
  obtain ⟨hg, hl⟩ := K.gen _ _ hV
  have hV2 : V n (s.setGen g .running) := still n s _ s.toks hV (setGen_bare (g := g) (bare _ _ hV) rfl)
  refine wpAny_pyNext_genexpQ (n := n - n) (P := fun m s₀ s₁ => m = 0 ∧ s₀.gens.size ≤ s₁.gens.size ∧ F s₁) hh hl room hg hgs (go _ hV2) (fun v s1 gs' hb hy => ?_) (fun s1 hp h' hk => ?_)
  · rw [Nat.sub_self] at hy
    obtain ⟨_, _, y3, _, y5⟩ := hy
    exact (y5 _ y3).elim
  · refine hQ _ (.inr ⟨s1, (s1.setGen g .finished).gens, h', hp.2.2, rfl, setGen_bare (g := g) (K.fbare _ hp.2.2) rfl, hk⟩)
theorem all_turns (still : ∀ j s g' t, V j s → (∀ y ∈ g', y.bare = true) → V j { s with gens := g', toks := t }) (bare : ∀ j s, V j s → ∀ y ∈ s.gens, y.bare = true) (K : Held a g V F)
    (hh : A.handled = none) (room : A.depth < recursionLimit) {R : Result → Shared → Prop} : ∀ (k j : Nat) (s : Shared), n - j = k → j ≤ n → Asleep prog w A.in1 g n tr V F j s →
      (∀ z, Left V F z → R (.ok (.ret (.bool (((List.range n).drop j).all tr)))) z) → codeAny (MM prog w) A (.builtin "all.loop" ⟨[.ref a], []⟩) R s := by
  intro k
  induction k with
  | zero =>
    intro j s hk hj h hR
    have e : j = n := by omega
    subst e
    refine codeAny_builtin PySem.F.entry_all_loop ?_
    rw [Around.under_plainId PySem.F.plain_all_loop _]
    show wpAny _ A.in1 ((pyNext (.ref a)) >>= _) _ _ s
    refine wpAny_bind (stop (A := A.in1) still bare K hh room h fun z hz => ?_)
    refine wpAny_bind (wpAny_rule (wpAny_pure ?_))
    have q := hR z hz
    rw [List.drop_of_length_le (by simp)] at q
    exact q
  | succ k ih =>
    intro j s hk hj h hR
    have hlt : j < n := by omega
    have hd : (List.range n).drop j = j :: (List.range n).drop (j + 1) := by
      rw [List.drop_eq_getElem_cons (by simpa using hlt)]
      simp
    rw [hd] at hR
    refine codeAny_builtin PySem.F.entry_all_loop ?_
    rw [Around.under_plainId PySem.F.plain_all_loop _]
    show wpAny _ A.in1 ((pyNext (.ref a)) >>= _) _ _ s
    refine wpAny_bind (step (A := A.in1) still bare K hh room h hlt fun z hz => ?_)
    refine wpAny_bind (wpAny_holding (wpAny_truthy_bool ?_))
    refine wpAny_bind (wpAny_letGo ?_)
    cases hb : tr j with
    | true =>
      simp only [if_true]
      refine wpAny_pure ⟨plainId_quiet PySem.F.plain_all_loop _, ih (j + 1) z (by omega) hlt hz fun y hy => ?_⟩
      have q := hR y hy
      rw [List.all_cons, hb] at q
      exact q
    | false =>
      simp only [Bool.false_eq_true, if_false]
      refine wpAny_bind (wpAny_rule (wpAny_pure ?_))
      have q := hR z (.inl ⟨_, hz.1⟩)
      rw [List.all_cons, hb] at q
      exact q
theorem any_turns (still : ∀ j s g' t, V j s → (∀ y ∈ g', y.bare = true) → V j { s with gens := g', toks := t }) (bare : ∀ j s, V j s → ∀ y ∈ s.gens, y.bare = true) (K : Held a g V F)
    (hh : A.handled = none) (room : A.depth < recursionLimit) {R : Result → Shared → Prop} : ∀ (k j : Nat) (s : Shared), n - j = k → j ≤ n → Asleep prog w A.in1 g n tr V F j s →
      (∀ z, Left V F z → R (.ok (.ret (.bool (((List.range n).drop j).any tr)))) z) → codeAny (MM prog w) A (.builtin "any.loop" ⟨[.ref a], []⟩) R s := by
  intro k
  induction k with
  | zero =>
    intro j s hk hj h hR
    have e : j = n := by omega
    subst e
    refine codeAny_builtin PySem.F.entry_any_loop ?_
    rw [Around.under_plainId PySem.F.plain_any_loop _]
    show wpAny _ A.in1 ((pyNext (.ref a)) >>= _) _ _ s
    refine wpAny_bind (stop (A := A.in1) still bare K hh room h fun z hz => ?_)
    refine wpAny_bind (wpAny_rule (wpAny_pure ?_))
    have q := hR z hz
    rw [List.drop_of_length_le (by simp)] at q
    exact q
  | succ k ih =>
    intro j s hk hj h hR
    have hlt : j < n := by omega
    have hd : (List.range n).drop j = j :: (List.range n).drop (j + 1) := by
      rw [List.drop_eq_getElem_cons (by simpa using hlt)]
      simp
    rw [hd] at hR
    refine codeAny_builtin PySem.F.entry_any_loop ?_
    rw [Around.under_plainId PySem.F.plain_any_loop _]
    show wpAny _ A.in1 ((pyNext (.ref a)) >>= _) _ _ s
    refine wpAny_bind (step (A := A.in1) still bare K hh room h hlt fun z hz => ?_)
    refine wpAny_bind (wpAny_holding (wpAny_truthy_bool ?_))
    refine wpAny_bind (wpAny_letGo ?_)
    cases hb : tr j with
    | false =>
      simp only [Bool.false_eq_true, if_false]
      refine wpAny_pure ⟨plainId_quiet PySem.F.plain_any_loop _, ih (j + 1) z (by omega) hlt hz fun y hy => ?_⟩
      have q := hR y hy
      rw [List.any_cons, hb] at q
      exact q
    | true =>
      simp only [if_true]
      refine wpAny_bind (wpAny_rule (wpAny_pure ?_))
      have q := hR z (.inl ⟨_, hz.1⟩)
      rw [List.any_cons, hb] at q
      exact q
/-- all(g), g asleep with nothing out -/
theorem call_all (still : ∀ j s g' t, V j s → (∀ y ∈ g', y.bare = true) → V j { s with gens := g', toks := t }) (bare : ∀ j s, V j s → ∀ y ∈ s.gens, y.bare = true) (K : Held a g V F)
    (hh : A.handled = none) (room : A.depth < recursionLimit) {s : Shared} {Q : Value → Shared → Prop} {E : Value → Shared → Prop} (h : Asleep prog w A.in1 g n tr V F 0 s)
    (hQ : ∀ z, Left V F z → Q (.bool ((List.range n).all tr)) z) : wpAny (MM prog w) A (call (.builtin "all") [.ref a]) Q E s := by
  refine call_function_tree PySem.F.kind_all PySem.F.plain_all PySem.F.entry_all (PySem.F.args_all1 _) ?_
  unfold Builtin.«all»
  refine wpAny_bind (m := oneArg "all" _) (wpAny_pure ?_)
  refine wpAny_bind (wpAny_pyIter_gen (K.gen _ _ h.1).1 ?_)
  refine wpAny_pure ⟨plainId_quiet PySem.F.plain_all_loop _, ?_⟩
  refine all_turns (A := A) still bare K hh room n 0 s rfl (Nat.zero_le _) h fun z hz => ?_
  simpa using hQ z hz
theorem call_any (still : ∀ j s g' t, V j s → (∀ y ∈ g', y.bare = true) → V j { s with gens := g', toks := t }) (bare : ∀ j s, V j s → ∀ y ∈ s.gens, y.bare = true) (K : Held a g V F)
    (hh : A.handled = none) (room : A.depth < recursionLimit) {s : Shared} {Q : Value → Shared → Prop} {E : Value → Shared → Prop} (h : Asleep prog w A.in1 g n tr V F 0 s)
    (hQ : ∀ z, Left V F z → Q (.bool ((List.range n).any tr)) z) : wpAny (MM prog w) A (call (.builtin "any") [.ref a]) Q E s := by
  refine call_function_tree PySem.F.kind_any PySem.F.plain_any PySem.F.entry_any (PySem.F.args_any1 _) ?_
  unfold Builtin.«any»
  refine wpAny_bind (m := oneArg "any" _) (wpAny_pure ?_)
  refine wpAny_bind (wpAny_pyIter_gen (K.gen _ _ h.1).1 ?_)
  refine wpAny_pure ⟨plainId_quiet PySem.F.plain_any_loop _, ?_⟩
  refine any_turns (A := A) still bare K hh room n 0 s rfl (Nat.zero_le _) h fun z hz => ?_
  simpa using hQ z hz
end
end IndG

set_option Elab.async false
set_option linter.all false
set_option maxRecDepth 100000
set_option maxHeartbeats 4000000
namespace Ind
open PySem PySem.Spec PyProof.Rows L2
/-! ### heaps: all but the tape stands -/
def Fz (t : Addr) (H H' : Hp) : Prop := ∀ b o, b ≠ t → H b = some o → H' b = some o
theorem Fz.refl {t : Addr} {H : Hp} : Fz t H H := fun _ _ _ h => h
theorem Fz.trans {t : Addr} {H H1 H2 : Hp} (a : Fz t H H1) (b : Fz t H1 H2) : Fz t H H2 := fun c o n h => b c o n (a c o n h)
theorem Fz.of {t : Addr} {H H' : Hp} (a : Same H H') : Fz t H H' := fun b o _ h => a b o h
theorem Fz.upd {t : Addr} {H H' : Hp} {o : HO} (a : Fz t H H') : Fz t H (upd H' t o) := fun b u n h => by rw [upd_ne n]; exact a b u n h
theorem Fz.new {t p : Addr} {H H' : Hp} {o : HO} (a : Fz t H H') (n : H' p = none) : Fz t H (L2.upd H' p o) := fun b u nb h => by
  have e := a b u nb h
  rw [upd_ne (ne_of_none e n)]; exact e
theorem same_upd {H : Hp} {p : Addr} {o : HO} (h : H p = none) : Same H (upd H p o) := fun b x e => by
  rw [upd_ne (ne_of_none e h)]; exact e
theorem Same.new {p : Addr} {H H' : Hp} {o : HO} (a : Same H H') (n : H' p = none) : Same H (L2.upd H' p o) := a.trans (same_upd n)
theorem line {n : Nat} (h : n ≤ 1000) : n ≤ sizeLine := Nat.le_trans h (by decide)
/-- what holds between two turns (kept shut) -/
inductive Iv (p : Prop) : Prop
  | a (h : p) : Iv p
  | b (h : False) : Iv p
theorem Iv.out {p : Prop} (h : Iv p) : p := by cases h with | a h => exact h | b h => exact h.elim
/-! ### the tape: its list, and the list of the script in it -/
structure Tp where
  a : Addr
  l : Addr
def TapeAt (H : Hp) (t : Tp) : Prop := ∃ (ns : List Int) (p n s : Int),
  H t.a = some (.lst [.ref t.l, .int p, .int n, .int s]) ∧ H t.l = some (.lst (ns.map V.int)) ∧ ns.length ≤ 1000 ∧ 0 ≤ p ∧ 0 ≤ n ∧ 0 ≤ s ∧ s < 2147483647
theorem Tape.ne {H : Hp} {t l : Addr} {ns : List Int} {p n s : Int} (h : H t = some (.lst [.ref l, .int p, .int n, .int s])) (h' : H l = some (.lst (ns.map V.int))) : l ≠ t := fun e => by
  rw [e, h] at h'
  injection h' with h'
  injection h' with h'
  cases ns with
  | nil => cases h'
  | cons a r => injection h' with a1 a2; cases a1
theorem TapeAt.same {H H' : Hp} {t : Tp} (h : TapeAt H t) (e : Same H H') : TapeAt H' t := by
  obtain ⟨ns, p, n, s, h1, h2, h3⟩ := h
  exact ⟨ns, p, n, s, e _ _ h1, e _ _ h2, h3⟩
theorem TapeAt.new {H : Hp} {t : Tp} {p : Addr} {o : HO} (h : TapeAt H t) (n : H p = none) : TapeAt (upd H p o) t := h.same (same_upd n)
theorem TapeAt.there {H : Hp} {t : Tp} (h : TapeAt H t) : (∃ o, H t.a = some o) ∧ ∃ o, H t.l = some o := by
  obtain ⟨ns, p, n, s, h1, h2, _⟩ := h
  exact ⟨⟨_, h1⟩, ⟨_, h2⟩⟩
/-- an address that was free beside the tape -/
structure Off (t : Tp) (b : Addr) : Prop where
  a : b ≠ t.a
  l : b ≠ t.l
theorem TapeAt.off {H : Hp} {t : Tp} {b : Addr} (h : TapeAt H t) (e : H b = none) : Off t b := by
  obtain ⟨⟨o, q⟩, ⟨u, r⟩⟩ := h.there
  refine ⟨?_, ?_⟩
  · intro z; rw [z, q] at e; cases e
  · intro z; rw [z, r] at e; cases e
theorem TapeAt.upd {H : Hp} {t : Tp} {b : Addr} {o : HO} (h : TapeAt H t) (e : Off t b) : TapeAt (L2.upd H b o) t := by
  obtain ⟨ns, p, n, s, h1, h2, h3⟩ := h
  exact ⟨ns, p, n, s, by rw [upd_ne e.a.symm]; exact h1, by rw [upd_ne e.l.symm]; exact h2, h3⟩
theorem Fz.upd' {t p : Addr} {H H' : Hp} {o : HO} (a : Fz t H H') (n : H p = none) : Fz t H (L2.upd H' p o) := fun b u nb h => by
  rw [upd_ne (ne_of_none h n)]; exact a b u nb h
theorem rd {K : PySem.W.Frag} {H : Hp} {p : Addr} {xs : List V} {Q : VK} (h : H p = some (.lst xs)) (j : Nat) {v : V} (e : xs[j]? = some v) (q : Q v H) : rIxL K (.ref p) (.int (j : Int)) H Q := ⟨_, _, _, _, rfl, rfl, .of h, atI_nat e, q⟩
theorem rdT {K : PySem.W.Frag} {H : Hp} {p : Addr} {xs : List V} {Q : VK} (h : H p = some (.tup xs)) (j : Nat) {v : V} (e : xs[j]? = some v) (q : Q v H) : rIxT K (.ref p) (.int (j : Int)) H Q := ⟨_, _, _, _, rfl, rfl, .of h, atI_nat e, q⟩
theorem rdI {K : PySem.W.Frag} {H : Hp} {p : Addr} {xs : List V} {Q : VK} (h : H p = some (.lst xs)) {i : Int} (j : Nat) (ej : i = (j : Int)) {v : V} (e : xs[j]? = some v) (q : Q v H) : rIxL K (.ref p) (.int i) H Q := ⟨_, _, _, _, rfl, rfl, .of h, at_of ej e, q⟩
theorem wr {H : Hp} {p : Addr} {xs : List V} {Q : Hp → Prop} {v : V} (h : H p = some (.lst xs)) (j : Nat) (e : ixN xs.length (j : Int) = some j) (q : Q (upd H p (.lst (xs.set j v)))) : rSetL (.ref p) (.int (j : Int)) v H Q := ⟨_, _, _, _, rfl, rfl, h, e, q⟩
/-! ### promises -/
/-- what a draw may be asked for: a bound that can be divided by -/
def Dm (m : Int) : Prop := ∀ x : Int, CDivW x (if (2 : Int) > m then 2 else m)
theorem dm {m : Int} (h : m < 1606938044258990275541962092341162602522202993782792835301376) : Dm m := fun x => by
  refine wide_div (b := 200) ?_ ?_ (by decide) (by decide)
  · split <;> omega
  · have e : (2 : Nat) ^ 200 = 1606938044258990275541962092341162602522202993782792835301376 := by decide +kernel
    rw [e]
    split <;> omega
def spTape (K : PySem.W.Frag) : Sp := fun vs H Q _ => ∃ (a : Addr) (ns : List Int), vs = [.ref a] ∧ SqL K H a (ns.map V.int) ∧ ns.length ≤ 63 ∧
  ∀ H' (t : Tp), Same H H' → H t.a = none → H t.l = none → TapeAt H' t → Q (.ref t.a) H'
def spDraw : Sp := fun vs H Q _ => ∃ (t : Tp) (m : Int), vs = [.ref t.a, .int m] ∧ TapeAt H t ∧ Dm m ∧
  ∀ H' r, Fz t.a H H' → TapeAt H' t → 0 ≤ r → (r < m ∨ r < 1) → Q (.int r) H'
end Ind

set_option Elab.async false
set_option linter.all false
set_option maxRecDepth 100000
set_option maxHeartbeats 4000000
namespace IndG
open PySem PySem.Spec PyProof.Rows L2 GenW
theorem over_gen {A : Around} {elt target iter : Expr} {scope : Scope} {pos : Pos} {it v : Value} {env : Env} : A.over (.compLoop (gx elt target iter scope pos) 0 it v env) [] = A.deeper env := by
  first
    | rfl
    | (obtain ⟨hd, d, fr, gs, u⟩ := A; simp [Around.over, Around.deeper, marksOver, frameCount, unitsOf, envsOf, guardsOf, pushEnvs, pushGuards, Code.envs, Code.env?, Code.isFrame, Code.guards, Code.isGuard, Code.weight, Code.frames, Code.isCreation, Code.isCaller, Code.cUnits])
theorem over_gen0 {A : Around} {elt target iter : Expr} {scope : Scope} {pos : Pos} {it v : Value} {env : Env} : A.over (.compStart (gx elt target iter scope pos) 0 it v env) [] = A.deeper env := by
  first
    | rfl
    | (obtain ⟨hd, d, fr, gs, u⟩ := A; simp [Around.over, Around.deeper, marksOver, frameCount, unitsOf, envsOf, guardsOf, pushEnvs, pushGuards, Code.envs, Code.env?, Code.isFrame, Code.guards, Code.isGuard, Code.weight, Code.frames, Code.isCreation, Code.isCaller, Code.cUnits])
/-- the frame of a generator expression -/
abbrev genC (X : Cx) (env : Env) (s : Shared) (H : Hp) (fp : List Addr) : Cx :=
  { X with A := X.A.in1.in1.deeper env, s_0 := s, H_0 := H, env := env, outer := X.stack, stack := env :: X.stack, ex := fp, fn := fun _ => false, calm := true, pn := [], xe := fun _ _ => False }
theorem room_gen {X : Cx} {env : Env} {k : Nat} (r : Room (k + 1) X.A) : Room k (X.A.in1.in1.deeper env) := by
  refine ⟨r.hd, ?_, ?_⟩
  · have := r.dp
    show X.A.depth + 1 + 3 * k + 5 < _
    omega
  · have := r.un
    show X.A.units + 1 + 1 + 3 + 16 * k + 200 < _
    omega
theorem nodup_inj {α : Type} : ∀ {l : List α} {i j : Nat} {a : α}, l.Nodup → l[i]? = some a → l[j]? = some a → i = j
  | [], i, _, _, _, e, _ => by simp at e
  | x :: l, 0, 0, _, _, _, _ => rfl
  | x :: l, 0, j + 1, a, nd, e1, e2 => by
    simp only [List.getElem?_cons_zero, Option.some.injEq] at e1
    subst e1
    rw [List.getElem?_cons_succ] at e2
    exact absurd (List.mem_of_getElem? e2) (List.nodup_cons.mp nd).1
  | x :: l, i + 1, 0, a, nd, e1, e2 => by
    simp only [List.getElem?_cons_zero, Option.some.injEq] at e2
    subst e2
    rw [List.getElem?_cons_succ] at e1
    exact absurd (List.mem_of_getElem? e1) (List.nodup_cons.mp nd).1
  | x :: l, i + 1, j + 1, a, nd, e1, e2 => by
    rw [List.getElem?_cons_succ] at e1 e2
    rw [nodup_inj (List.nodup_cons.mp nd).2 e1 e2]
section
variable {X : Cx} {pins : List (Addr × Obj)} {σ : L2.St} {H : Hp} {s : Shared}
/-- the cells that a generator expression takes over -/
theorem taken (I : Inv X pins σ H s) {scope : Scope} (free : ∀ y ∈ scope.names, y.2 = .free → ∃ c, X.env.cells.lookup y.1 = some c) {y : Str} {c : Addr} (m : (y, c) ∈ cloFrom X.env.cells scope.names []) :
    (y, NameKind.free) ∈ scope.names ∧ X.env.cells.lookup y = some c ∧ c < s.heap.objs.size := by
  rcases cloFrom_mem m with m | ⟨h1, rfl⟩
  · cases m
  · obtain ⟨c, hc⟩ := free _ h1 rfl
    obtain ⟨v, z⟩ := I.cell _ _ hc
    rw [hc]
    exact ⟨h1, rfl, z.lt⟩
theorem gen_start {scope : Scope} {own : List (Str × Nat)} {fp : List Addr} {env : Env} {code it : Value} {h' : Heap} {go : Obj} {gs : GenState} {tk : Nat} (hc : X.calm = true) (hN : X.N.Nodup)
    (I : Inv X pins σ H s) (ok : BlkOk X.N X.env.scope scope own) (nocell : ∀ y ∈ scope.names, y.2 ≠ .cell) (eEnv : env = genEnv scope (cloFrom X.env.cells scope.names []) s.heap.objs.size code builtinsNs X.env)
    (hfp : ∀ b ∈ fp, FpOk X pins H b ∧ b < s.heap.objs.size) (hn : h'.Ns s.heap.objs.size (fun y => if y = ".0" then some it else none)) (hs : Heap.SameBut s.heap.objs.size (s.heap.push { cls := .type "frame", data := .dict #[] }) h')
    (hg : gs.bare = true) (hgo : ∀ v, go.data ≠ .cell v) (hgf : go.isFreed = false) :
    Inv (genC X env s H fp) [(h'.objs.size, go)] (wipe σ (own.map (·.2))) H { s with gens := s.gens.push gs, toks := tk, heap := h'.push go } := by
  have free : ∀ y ∈ scope.names, y.2 = .free → ∃ c, X.env.cells.lookup y.1 = some c := fun y hy e => (ok.free y hy e).elim (fun k => I.ok.has _ (.inl k)) (fun k => I.ok.has _ (.inr k))
  have eL : env.locals = s.heap.objs.size := by rw [eEnv]; rfl
  have eC : env.cells = cloFrom X.env.cells scope.names [] := by rw [eEnv]; rfl
  have eS : env.scope = scope := by rw [eEnv]; rfl
  have eF : env.frame = some env.locals := by rw [eEnv]; rfl
  have sz : h'.objs.size = s.heap.objs.size + 1 := by rw [hs.1, Heap.size_push]
  have kp : ∀ b o, s.heap.get? b = some o → (h'.push go).get? b = some o := fun b o e =>
    Heap.get?_push_of_some _ (hs.extBut b o (Nat.ne_of_lt (Heap.lt_size e)) (Heap.get?_push_of_some _ e))
  have cm : ∀ {y c}, env.cells.lookup y = some c → (y, NameKind.free) ∈ scope.names ∧ X.env.cells.lookup y = some c ∧ c < s.heap.objs.size := fun {y c} e => by
    rw [eC] at e
    exact taken I free (PySem.mem_of_lookup e)
  have look : ∀ {y}, (y, NameKind.free) ∈ scope.names → ∃ c, env.cells.lookup y = some c ∧ X.env.cells.lookup y = some c := fun {y} m => by
    obtain ⟨c', e'⟩ := mem_lookup (cloFrom_has (cells := X.env.cells) (acc := []) m)
    rw [← eC] at e'
    exact ⟨c', e', (cm e').2.1⟩
  have kinds : ∀ {y k}, env.kindOf y = some k → (y, k) ∈ scope.names := fun {y k} e => by
    unfold Env.kindOf at e
    rw [eS] at e
    exact PySem.mem_of_lookup e
  have okG : (genC X env s H fp).Ok := by
    refine ⟨I.ok.mod, ?_, ?_, ?_, ?_, ?_, ?_, ?_, ?_, ?_, ?_, ?_, I.bs, Nat.le_trans I.ok.bsz I.sz, ?_, ?_, I.stack, I.stkFree⟩
    · show env.scope.kind = _
      rw [eS]; exact ok.kind
    · show env.globals = _
      rw [eEnv]; exact I.ok.glob
    · show env.builtins = _
      rw [eEnv]; rfl
    · show s.heap.objs.size ≤ env.locals
      rw [eL]; exact Nat.le_refl _
    · intro y z c e1 e2
      exact I.ok.inj y z c (cm e1).2.1 (cm e2).2.1
    · intro y hy
      rcases hy with hy | hy
      · exact absurd rfl (nocell _ (kinds hy))
      · obtain ⟨c, e, _⟩ := look (kinds hy)
        exact ⟨c, e⟩
    · intro y c z
      exact absurd (show (false : Bool) = true from z) (by decide)
    · intro _
      exact I.ok.hd hc
    · exact Around.frames_deeper (show X.A.in1.in1.frames = some X.stack from I.ok.frames)
    · exact .inr ⟨rfl, eF⟩
    · intro b hb
      refine ⟨?_, fun y c e z => (hfp b hb).1.2.2.2.2.1 y c (cm e).2.1 z⟩
      show b ≠ env.locals
      rw [eL]
      exact Nat.ne_of_lt (hfp b hb).2
    · intro b o e hb
      rcases (hfp b hb).1.2.2.2.1 with z | z
      · exact I.ok.noex b o e z
      · exact absurd (Nat.lt_of_lt_of_le (Heap.lt_size e) (Nat.le_trans I.ok.bsz z)) (Nat.lt_irrefl _)
    · intro b hb z
      rcases List.mem_cons.mp (I.stkSub b z) with z | z
      · exact (hfp b hb).1.2.1 z
      · exact (hfp b hb).1.2.2.1 z
  refine ⟨okG, rfl, I.bare.push hg, Un.kept kp, ⟨fun y => if y = ".0" then some it else none, ?_, fun i y v e1 e2 e3 => ?_⟩, fun y c e => ?_, ?_, fun y c e => ?_, fun p hp => ?_, I.hok.kept kp, by rw [wipe_length]; exact I.len⟩
  · show (h'.push go).Ns env.locals _
    rw [eL]
    exact hn.push _
  · obtain ⟨e2, hne⟩ := wipe_some e2
    have notown : y ∉ own.map (·.1) := fun z => by
      obtain ⟨p, hp, ep⟩ := List.mem_map.mp z
      have ix := ok.ix p hp
      rw [ep] at ix
      have : p.2 = i := nodup_inj hN ix (show X.N[i]? = some y from e1)
      exact hne (List.mem_map.mpr ⟨p, hp, this⟩)
    have e3 : Vis scope y := by
      have z : Vis env.scope y := e3
      rw [eS] at z
      exact z
    have yN : y ∈ X.N := List.mem_of_getElem? (show X.N[i]? = some y from e1)
    have fr : (y, NameKind.free) ∈ scope.names := by
      rcases e3 with z | z | z
      · exact ((ok.own _ (PySem.mem_of_lookup z) (.inl rfl)).elim (fun q => absurd q notown) (fun q => absurd yN q))
      · exact absurd rfl (nocell _ (PySem.mem_of_lookup z))
      · exact PySem.mem_of_lookup z
    obtain ⟨c, l1, l2⟩ := look fr
    have vis : X.env.scope.names.lookup y = some .cell ∨ X.env.scope.names.lookup y = some .free := ok.free _ fr rfl
    obtain ⟨m, _, lc⟩ := I.loc
    obtain ⟨u, ru, lk⟩ := lc i y v e1 e2 (.inr vis)
    rcases lk with ⟨z, _⟩ | ⟨_, c2, z1, z2⟩
    · have z : X.env.scope.names.lookup y = some .local := z
      rcases vis with q | q <;> (rw [z] at q; cases q)
    · rw [l2] at z1
      cases z1
      refine ⟨u, ru, .inr ⟨.inr ?_, c, l1, z2.keeps kp⟩⟩
      show env.kindOf y = some .free
      unfold Env.kindOf
      rw [eS]
      exact ok.uniq _ fr
  · obtain ⟨v, z⟩ := I.cell y c (cm e).2.1
    exact ⟨v, z.keeps kp⟩
  · show H env.locals = none
    rw [eL]
    exact I.hok.fresh (Nat.le_refl _)
  · exact I.freeC y c (cm e).2.1
  · have hp : p = (h'.objs.size, go) := by simpa using hp
    subst hp
    refine ⟨Heap.get?_push_size _ hgf, I.hok.fresh (by omega), ?_, fun z => ?_, hgo⟩
    · show h'.objs.size ≠ env.locals
      rw [eL]
      omega
    · have z : h'.objs.size ∈ frs X.stack := z
      have big : s.heap.objs.size ≤ h'.objs.size := by omega
      rcases List.mem_cons.mp (I.stkSub _ z) with q | q
      · have := I.lt
        rw [← q] at this
        exact Nat.lt_irrefl _ (Nat.lt_of_lt_of_le this big)
      · exact I.nofs big q
end
end IndG

set_option Elab.async false
set_option linter.all false
set_option maxRecDepth 100000
set_option maxHeartbeats 4000000
namespace IndG
open PySem PySem.Spec PyProof.Rows L2 GenW
section
variable {X : Cx} {pins : List (Addr × Obj)} {σ : L2.St} {H0 : Hp} {s0 : Shared} {env : Env} {fp : List Addr} {a it : Addr} {go : Obj} {own : List (Str × Nat)} {target elt iter : Expr} {scope : Scope} {pos : Pos} {J : It} {tn : Nat → Heap → Prop} {n : Nat} {tr : Nat → Bool} {Pv : Nat → Hp → Prop} {g : TG} {te : TE}
/-- the stage j of a generator's frame -/
def GV (X : Cx) (σ : L2.St) (H0 : Hp) (s0 : Shared) (env : Env) (fp : List Addr) (a : Addr) (go : Obj) (own : List (Str × Nat)) (tn : Nat → Heap → Prop) (Pv : Nat → Hp → Prop) (j : Nat) (s : Shared) : Prop :=
  ∃ H, Inv (genC X env s0 H0 fp) [(a, go)] (wipe σ (own.map (·.2))) H s ∧ tn j s.heap ∧ (∀ b ∈ fp, H b = none) ∧ Pv j H
def GF (X : Cx) (σ : L2.St) (H0 : Hp) (s0 : Shared) (env : Env) (fp : List Addr) (a : Addr) (go : Obj) (own : List (Str × Nat)) (Pv : Nat → Hp → Prop) (n : Nat) (s : Shared) : Prop :=
  ∃ H, Inv (genC X env s0 H0 fp) [(a, go)] (wipe σ (own.map (·.2))) H s ∧ Pv n H
theorem inv_still {Y : Cx} {pins : List (Addr × Obj)} {σ : L2.St} {H : Hp} {s : Shared} {g' : Array GenState} {t : Nat} (I : Inv Y pins σ H s) (b : ∀ y ∈ g', y.bare = true) : Inv Y pins σ H { s with gens := g', toks := t } :=
  ⟨I.ok, I.os, b, I.base, I.loc, I.cell, I.free, I.freeC, I.pin, I.hok, I.len⟩
theorem gen_stage (T : Turn X.prog X.w X.K target J fp it tn) (apart : ∀ b ∈ fp, a ≠ b)
    (hg : PG (genC X env s0 H0 fp) target g) (he : PE (genC X env s0 H0 fp) elt te)
    (turn : ∀ j H, j < n → Pv j H → J.go j H ∧ ∀ x H', J.yld j H x H' → g x (wipe σ (own.map (·.2))) H' fun σ2 H2 => wipe σ2 (own.map (·.2)) = wipe σ (own.map (·.2)) ∧ te σ2 H2 fun y H3 => y = .bl (tr j) ∧ Pv (j + 1) H3)
    (stop : ∀ H, Pv n H → J.stop n H) :
    Stage X.prog X.w (X.A.in1.in1.deeper env) env target elt it n tr (GV X σ H0 s0 env fp a go own tn Pv) (GF X σ H0 s0 env fp a go own Pv n) := by
  have ok : ∀ {σ' : L2.St} {H' : Hp} {s' : Shared}, Inv (genC X env s0 H0 fp) [(a, go)] σ' H' s' → (∀ b ∈ fp, H' b = none) → ∀ b ∈ fp, FpOk (genC X env s0 H0 fp) [(a, go)] H' b := fun {σ' H' s'} I' hn b hb =>
    ⟨hn b hb, (I'.ok.exf b hb).1, I'.ok.exfs b hb, .inl hb, fun x c e => (I'.ok.exf b hb).2 x c e, fun p hp => by
      have hp : p = (a, go) := by simpa using hp
      subst hp
      exact apart b hb⟩
  refine ⟨?_, ?_, ?_, ?_⟩
  · rintro j s g' t ⟨H, I, st, no, pv⟩ b
    exact ⟨H, inv_still I b, st, no, pv⟩
  · rintro j s ⟨H, I, _⟩
    exact I.bare
  · rintro j s E hj ⟨H, I, st, no, pv⟩
    obtain ⟨go', yl⟩ := turn j H hj pv
    refine wpAny_mono (T.item (genC X env s0 H0 fp) rfl rfl rfl rfl j [(a, go)] s _ H E I (ok I no) st go') (fun r s1 h1 => ?_) fun _ _ x => x
    obtain ⟨u, er, h1⟩ := h1
    refine ⟨u, er, wpAny_mono h1 (fun _ s2 h2 => ?_) fun _ _ x => x⟩
    obtain ⟨x, H2, I2, r2, y2, st2, no2⟩ := h2
    have I2p := I2.pinned (ok I2 no2) (T.obj _ _ st2)
    refine thnF (hg.run _ s2 _ H2 x u _ I2p r2 (yl x H2 y2)) fun _ s3 h3 => ?_
    obtain ⟨σ3, H3, I3, w3, q3⟩ := h3
    refine thnF (he.run _ s3 σ3 H3 _ I3 q3) fun y s4 h4 => ?_
    obtain ⟨v, H4, I4, r4, ev, pv4⟩ := h4
    subst ev
    have ey : y = Value.bool (tr j) := r4
    have pin : ∀ b ∈ fp, ∀ o, s2.heap.get? b = some o → s4.heap.get? b = some o ∧ H4 b = none := fun b hb o e => by
      have z := I4.pin (b, o) (List.mem_append_right _ (List.mem_append_right _ (mem_pinsAt hb e)))
      exact ⟨z.1, z.2.1⟩
    have ln : (wipe σ (own.map (·.2))).length = σ3.length := by rw [← w3, wipe_length]
    refine ⟨ey, H4, (I4.unpinned (pins := [(a, go)])).weak ln (fun i v e => ?_), T.keep _ _ _ st2 (fun b hb o e => (pin b hb o e).1), fun b hb => ?_, pv4⟩
    · rw [← w3] at e
      exact (wipe_some e).1
    · obtain ⟨o, e, _⟩ := T.obj _ _ st2 b hb
      exact (pin b hb o e).2
  · rintro s E ⟨H, I, st, no, pv⟩
    refine wpAny_mono (T.done (genC X env s0 H0 fp) rfl rfl rfl rfl n [(a, go)] s _ H E I (ok I no) st (stop H pv)) (fun r s1 h1 => ?_) fun _ _ x => x
    exact ⟨h1.1, H, h1.2, pv⟩
/-- the caller's state again -/
theorem gen_left {σ0 : L2.St} (I0 : Inv X pins σ0 H0 s0) (hfp : ∀ b ∈ fp, FpOk X pins H0 b) {s : Shared} (h : Left (GV X σ H0 s0 env fp a go own tn Pv) (GF X σ H0 s0 env fp a go own Pv n) s) : ∃ j H, Pv j H ∧ Inv X pins σ0 H s := by
  have back : ∀ {H : Hp} {z : Shared}, Inv (genC X env s0 H0 fp) [(a, go)] (wipe σ (own.map (·.2))) H z → Inv X pins σ0 H z := fun {H z} I =>
    I0.call' (ch := fp) I.os I.base I.hok I.bare fun b hb => ⟨(hfp b hb).2.2.2.1, (hfp b hb).2.1, (hfp b hb).2.2.2.2.1, (hfp b hb).2.2.2.2.2⟩
  rcases h with ⟨j, H, I, _, _, pv⟩ | ⟨s1, g', h', ⟨H, I, pv⟩, rfl, b, k⟩
  · exact ⟨j, H, pv, back I⟩
  · refine ⟨n, H, pv, ?_⟩
    have I1 := (back I).kept (t' := s1.toks) k
    exact inv_still (g' := g') (t := s1.toks) I1 b
end
end IndG

set_option Elab.async false
set_option linter.all false
set_option maxRecDepth 100000
set_option maxHeartbeats 4000000
namespace IndG
open PySem PySem.Spec PyProof.Rows L2 GenW GxR
section
variable {X : Cx} {pins : List (Addr × Obj)} {σ : L2.St} {H : Hp} {s : Shared} {own : List (Str × Nat)} {target elt iter : Expr} {scope : Scope} {pos gpos : Pos} {g : TG} {te : TE} {wi : TI} {c P : Addr}
/-- what is asked of a generator expression that all(..) or any(..) reads: r, the answer of n truths -/
def genR (P : Addr) (wi : TI) (g : TG) (te : TE) (vs : List Nat) (ans : List Nat → (Nat → Bool) → Bool) : TE := fun σ H Q => wi σ H fun J H1 => TabG H1 P ∧ ∀ H2, Tabbed P H1 H2 →
  ∃ (n : Nat) (tr : Nat → Bool) (Pv : Nat → Hp → Prop), Pv 0 H2 ∧ (∀ j H3, j < n → Pv j H3 → J.go j H3 ∧ ∀ x H4, J.yld j H3 x H4 → g x (wipe σ vs) H4 fun σ2 H5 => wipe σ2 vs = wipe σ vs ∧ te σ2 H5 fun y H6 => y = .bl (tr j) ∧ Pv (j + 1) H6) ∧
    (∀ H3, Pv n H3 → J.stop n H3) ∧ ∀ j H3, Pv j H3 → Q (.bl (ans (List.range n) tr)) H3
/-- the generator is made and asleep -/
theorem gen_made {k : Nat} {Q' : Value → Shared → Prop} {R : It → Hp → Prop} (hc : X.calm = true) (hN : X.N.Nodup) (hr : Room k X.A) (TB : TabB X.base X.mg c P) (hcode : X.env.code = .ref c) (ok : BlkOk X.N X.env.scope scope own)
    (nocell : ∀ y ∈ scope.names, y.2 ≠ .cell) (dot : scope.names.lookup (".0" : Str) = some NameKind.local) (hco : scope.isCoroutine = false) (hi : PI X target iter wi) (hs : ∀ v, genFold iter X.env v = pure v)
    (I : Inv X pins σ H s) (h : wi σ H fun J H1 => TabG H1 P ∧ ∀ H2, Tabbed P H1 H2 → R J H2)
    (hQ : ∀ (it : Addr) (fp : List Addr) (tn : Nat → Heap → Prop) (J : It) (H2 : Hp) (s4 : Shared) (code : Value) (a : Addr) (go : Obj) (s5 : Shared), R J H2 → Inv X pins σ H2 s4 → Turn X.prog X.w X.K target J fp it tn → (∀ b ∈ fp, FpOk X pins H2 b) → (∀ b ∈ fp, a ≠ b) →
      Inv (genC X (genEnv scope (cloFrom X.env.cells scope.names []) s4.heap.objs.size code builtinsNs X.env) s4 H2 fp) [(a, go)] (wipe σ (own.map (·.2))) H2 s5 → tn 0 s5.heap → (∀ b ∈ fp, H2 b = none) → s5.heap.IsGen a s4.gens.size → s5.gens[s4.gens.size]? = some (.fresh (.compStart (gx elt target iter scope gpos) 0 (.ref it) .none (genEnv scope (cloFrom X.env.cells scope.names []) s4.heap.objs.size code builtinsNs X.env))) →
      (∀ h : Heap, h.get? a = some go → h.IsGen a s4.gens.size) → Q' (.ref a) s5) :
    wpAny (model X.prog X.w) X.A (eval (gx elt target iter scope gpos) X.env) Q' X.xe s := by
  have free : ∀ y ∈ scope.names, y.2 = .free → ∃ c, X.env.cells.lookup y.1 = some c := fun y hy e => (ok.free y hy e).elim (fun k => I.ok.has _ (.inl k)) (fun k => I.ok.has _ (.inr k))
  refine wpAny_GeneratorExp_make hco (closure_ok free) nocell dot ok.kind (by have := hr.dp; omega) ?_ hs
  refine thn (hi.run pins s σ H _ I h) fun xv s1 h1 => thn h1 fun itv s2 h2 => ?_
  obtain ⟨it, fp, tn, J, H1, rfl, I2, T, st, fpk, ⟨ps, hP, ht⟩, q⟩ := h2
  have hPs : s2.heap.get? P = some { cls := .none, data := .fields ps } := I2.hok P _ hP
  have cd : PySem.W.CodeHd s2.heap c P := TB.code.keeps fun b u e => I2.bk b u e
  have nP : ∀ b ∈ fp, b ≠ P := fun b hb z => by
    have := (fpk b hb).1
    rw [z, hP] at this
    cases this
  obtain ⟨bm, ob, e1, e2, e3, e4, e5, e6, e7, e8⟩ := TB.bm
  have hcP : cStatics ≠ P := fun e => by
    obtain ⟨_, hns, _⟩ := I2.nolimit
    obtain ⟨o', es, ep, ho, hd, _⟩ := hns
    rw [e, hPs] at ho
    cases ho
    cases hd
  have cont : ∀ (code : Value) (h3 : Heap) (tk : Nat) (ps' : Array Value), Heap.ExtBut P s2.heap h3 → h3.get? P = some { cls := .none, data := .fields ps' } → (∃ more, ps' = ps ++ more) → TriplesOk ps'.toList →
      wpAny (model X.prog X.w) X.A (builtinsFor X.env.globals X.env.builtins) (fun bi s₄ => ∀ h', h'.Ns s₄.heap.objs.size (fun y => if y = ".0" then some (.ref it) else none) → Heap.SameBut s₄.heap.objs.size (s₄.heap.push { cls := .type "frame", data := .dict #[] }) h' →
        Q' (.ref h'.objs.size) { s₄ with
          gens := s₄.gens.push (.fresh (.compStart (gx elt target iter scope gpos) 0 (.ref it) .none (genEnv scope (cloFrom X.env.cells scope.names []) s₄.heap.objs.size code bi X.env))),
          toks := s₄.toks + 1 + 1 + 1,
          heap := h'.push { cls := .type "generator", data := .fields #[.int s₄.gens.size 0, .str "<genexpr>" (s₄.toks + 1), .str (X.env.qual ++ "<genexpr>") (s₄.toks + 1 + 1)] } }) X.xe { s2 with heap := h3, toks := tk } := by
    intro code h3 tk ps' hx hP3 hmore ht3
    obtain ⟨more, em⟩ := hmore
    have keep3 : ∀ b u, b ≠ P → s2.heap.get? b = some u → h3.get? b = some u := fun b u hb e => hx b u hb e
    refine wpAny_builtinsFor (m := X.mg) (by rw [I2.ok.glob]; exact (I2.mod.glob.keeps I2.bk).extBut hx TB.gP) e1 e2 (keep3 _ _ e4 (I2.bk _ _ e5)) e6 e7 e8 ?_
    intro h' hn' hs'
    have I3 : Inv X pins σ (upd H1 P (.tbl (ps ++ more))) { s2 with heap := h3, toks := tk } := inv_tab (more := more) (g' := s2.gens) (d' := s2.drawn) (t' := tk) I2 hP (fun b o hb e => keep3 b o hb e) (by rw [← em]; exact hP3) I2.bare
    have tabd : Tabbed P H1 (upd H1 P (.tbl (ps ++ more))) := ⟨⟨ps ++ more, upd_same, by rw [← em]; exact ht3⟩, fun b hb => upd_ne hb⟩
    have fpk3 : ∀ b ∈ fp, FpOk X pins (upd H1 P (.tbl (ps ++ more))) b := fun b hb => ⟨by rw [upd_ne (nP b hb)]; exact (fpk b hb).1, (fpk b hb).2⟩
    have st3 : tn 0 h3 := T.keep _ _ _ st fun b hb o e => keep3 b o (nP b hb) e
    have sz3 : ∀ b ∈ fp, b < h3.objs.size := fun b hb => by
      obtain ⟨o, e, _⟩ := T.obj _ _ st3 b hb
      exact Heap.lt_size e
    have szh : h'.objs.size = h3.objs.size + 1 := by rw [hs'.1, Heap.size_push]
    have ext : ∀ (go : Obj) b o, h3.get? b = some o → (h'.push go).get? b = some o := fun go b o e => Heap.get?_push_of_some _ (hs'.extBut b o (Nat.ne_of_lt (Heap.lt_size e)) (Heap.get?_push_of_some _ e))
    refine hQ it fp tn J _ _ code _ _ _ (q _ tabd) I3 T fpk3 (fun b hb z => ?_) (gen_start (code := code) (it := .ref it) hc hN I3 ok nocell rfl (fun b hb => ⟨fpk3 b hb, sz3 b hb⟩) hn' hs' rfl (fun v e => by cases e) rfl)
      (T.keep _ _ _ st3 fun b hb o e => ext _ b o e) (fun b hb => (fpk3 b hb).1) ⟨_, _, _, Heap.get?_push_size _ rfl, rfl, rfl, rfl⟩ (Array.getElem?_push_size ..) (fun hh e => ⟨_, _, _, e, rfl, rfl, rfl⟩)
    have := sz3 b hb
    have z : h'.objs.size = b := z
    have e9 : (h'.objs.size : Nat) = b := z
    rw [szh] at e9
    exact absurd this (by rw [← e9]; exact Nat.not_lt.mpr (Nat.le_succ _))
  refine ⟨I2.nolimit, ?_⟩
  cases hf : codeAmong gpos ps.toList with
  | some cv =>
    refine wpAny_genexprCode_hit hcode (cd.code hPs ht) hf ?_
    exact cont cv s2.heap s2.toks ps (Heap.ExtBut.refl _ _) hPs ⟨#[], by simp⟩ ht
  | none =>
    refine wpAny_genexprCodeX hcode (cd.code hPs ht) (cd.tab hPs) hf fun c' h' tk hx hge hlt isc' _ tab' _ => ?_
    obtain ⟨z1, z2, z3, z4, z5, z6, z7, z8, z9, z10, _, _, _, _, _, _, _, _, _, ztr, _⟩ := isc'
    exact cont _ h' tk _ hx tab'.2 ⟨_, rfl⟩ ztr
end
end IndG

set_option Elab.async false
set_option linter.all false
set_option maxRecDepth 100000
set_option maxHeartbeats 4000000
namespace IndG
open PySem PySem.Spec PyProof.Rows L2 GenW GxR
section
variable {X : Cx} {own : List (Str × Nat)} {target elt iter : Expr} {scope : Scope} {p pos gpos : Pos} {g : TG} {te : TE} {wi : TI} {c P : Addr} {k : Nat}
/-- all(..), any(..): what both share -/
theorem gen_call {b : String} {ans : List Nat → (Nat → Bool) → Bool} {pins : List (Addr × Obj)} {σ : L2.St} {H : Hp} {s : Shared} {Q : VK} (hc : X.calm = true) (hN : X.N.Nodup) (hr : Room k X.A) (TB : TabB X.base X.mg c P) (hcode : X.env.code = .ref c) (ok : BlkOk X.N X.env.scope scope own)
    (nocell : ∀ y ∈ scope.names, y.2 ≠ .cell) (dot : scope.names.lookup (".0" : Str) = some NameKind.local) (hco : scope.isCoroutine = false) (hi : PI X target iter wi) (hs : ∀ v, genFold iter X.env v = pure v)
    (pg : ∀ (s : Shared) (H : Hp) (C : Addr) (cl : List (Str × Addr)) (code : Value) (fp : List Addr), PG (genC X (genEnv scope cl C code builtinsNs X.env) s H fp) target g)
    (pe : ∀ (s : Shared) (H : Hp) (C : Addr) (cl : List (Str × Addr)) (code : Value) (fp : List Addr), PE (genC X (genEnv scope cl C code builtinsNs X.env) s H fp) elt te)
    (I : Inv X pins σ H s) (h : genR P wi g te (own.map (·.2)) ans σ H Q)
    (run : ∀ {a : Addr} {gi n : Nat} {tr : Nat → Bool} {V : Nat → Shared → Prop} {F : Shared → Prop} (still : ∀ j s g' t, V j s → (∀ y ∈ g', y.bare = true) → V j { s with gens := g', toks := t }) (bare : ∀ j s, V j s → ∀ y ∈ s.gens, y.bare = true) (K : Held a gi V F) {s : Shared} {Q : Value → Shared → Prop} {E : Value → Shared → Prop},
      Asleep X.prog X.w X.A.in1 gi n tr V F 0 s → (∀ z, Left V F z → Q (.bool (ans (List.range n) tr)) z) → wpAny (MM X.prog X.w) X.A (call (.builtin b) [.ref a]) Q E s) :
    wpAny (model X.prog X.w) X.A (eval (gx elt target iter scope gpos) X.env) (fun v s1 => wpAny (model X.prog X.w) X.A (call (.builtin b) [v]) (EP X pins σ Q) X.xe s1) X.xe s := by
  refine gen_made (R := fun J H2 => ∃ (n : Nat) (tr : Nat → Bool) (Pv : Nat → Hp → Prop), Pv 0 H2 ∧ (∀ j H3, j < n → Pv j H3 → J.go j H3 ∧ ∀ x H4, J.yld j H3 x H4 → g x (wipe σ (own.map (·.2))) H4 fun σ2 H5 => wipe σ2 (own.map (·.2)) = wipe σ (own.map (·.2)) ∧ te σ2 H5 fun y H6 => y = .bl (tr j) ∧ Pv (j + 1) H6) ∧
    (∀ H3, Pv n H3 → J.stop n H3) ∧ ∀ j H3, Pv j H3 → Q (.bl (ans (List.range n) tr)) H3) hc hN hr TB hcode ok nocell dot hco hi hs I h ?_
  intro it fp tn J H2 s4 code a go s5 hR I4 T fpk apart I5 st5 no5 gen5 gs5 isg
  obtain ⟨n, tr, Pv, pv0, turn, stop, fin'⟩ := hR
  have St := gen_stage (s0 := s4) (H0 := H2) (env := genEnv scope (cloFrom X.env.cells scope.names []) s4.heap.objs.size code builtinsNs X.env) (go := go) (σ := σ) (own := own) (n := n) (tr := tr) (Pv := Pv) T apart (pg _ _ _ _ _ _) (pe _ _ _ _ _ _) turn stop
  have V0 : GV X σ H2 s4 (genEnv scope (cloFrom X.env.cells scope.names []) s4.heap.objs.size code builtinsNs X.env) fp a go own tn Pv 0 s5 := ⟨H2, I5, st5, no5, pv0⟩
  have K : Held a s4.gens.size (GV X σ H2 s4 (genEnv scope (cloFrom X.env.cells scope.names []) s4.heap.objs.size code builtinsNs X.env) fp a go own tn Pv) (GF X σ H2 s4 (genEnv scope (cloFrom X.env.cells scope.names []) s4.heap.objs.size code builtinsNs X.env) fp a go own Pv n) := by
    refine ⟨?_, ?_⟩
    · rintro j z ⟨H3, I3, _⟩
      exact ⟨isg _ (I3.pin (a, go) (by simp)).1, I3.nolimit⟩
    · rintro z ⟨H3, I3, _⟩
      exact I3.bare
  have wk := fun z hz => wakes (prog := X.prog) (w := X.w) (A := X.A.in1.in1) (iter := iter) (scope := scope) (pos := gpos) (by rw [over_gen]; exact St) hco (by rw [over_gen, over_gen0]) (fun s Q E hV hQ => by
    obtain ⟨H3, I3, st3, _⟩ := hV
    exact T.self _ 0 s Q E st3 hQ) z z hz (Nat.le_refl _)
  refine run (n := n) (tr := tr) St.still St.bare K ⟨V0, _, gs5, fun z hz => ⟨rfl, ?_⟩⟩ fun z hz => ?_
  · rw [Nat.sub_zero]
    exact wk z hz
  · obtain ⟨j, H3, pv, I3⟩ := gen_left I4 fpk hz
    exact ⟨.bl _, H3, I3, rfl, fin' j H3 pv⟩
theorem pe_allG (hc : X.calm = true) (hN : X.N.Nodup) (hr : Room k X.A) (TB : TabB X.base X.mg c P) (hcode : X.env.code = .ref c) (hg : Gl X "all") (hm : X.mg "all" = none) (hb : bootBuiltins "all" = some (.builtin "all")) (ok : BlkOk X.N X.env.scope scope own)
    (nocell : ∀ y ∈ scope.names, y.2 ≠ .cell) (dot : scope.names.lookup (".0" : Str) = some NameKind.local) (hco : scope.isCoroutine = false) (hi : PI X target iter wi) (hs : ∀ v, genFold iter X.env v = pure v)
    (pg : ∀ (s : Shared) (H : Hp) (C : Addr) (cl : List (Str × Addr)) (code : Value) (fp : List Addr), PG (genC X (genEnv scope cl C code builtinsNs X.env) s H fp) target g)
    (pe : ∀ (s : Shared) (H : Hp) (C : Addr) (cl : List (Str × Addr)) (code : Value) (fp : List Addr), PE (genC X (genEnv scope cl C code builtinsNs X.env) s H fp) elt te)
    (he : starEach [gx elt target iter scope gpos] X.env = (false, eval (gx elt target iter scope gpos) X.env) :: starEach [] X.env := by rfl) :
    PE X (.Call (.Name "all" p) [gx elt target iter scope gpos] [] pos) (genR P wi g te (own.map (·.2)) List.all) := by
  constructor
  intro pins s σ H Q I h
  refine wpAny_Call_Name_kw (ld_blt I hg hm hb ?_)
  refine PyProof.Rows.callWith_builtin1 ?_ he (by rfl)
  rw [he]
  show wpAny _ _ (spliced ((false, eval (gx elt target iter scope gpos) X.env) :: (backTo pos (starEach [] X.env)))) _ _ s
  refine Calls.spliced_cons (thn (gen_call (b := "all") hc hN hr TB hcode ok nocell dot hco hi hs pg pe I h @fun a gi n tr V F still bare K s Q E h1 h2 => call_all still bare K (I.ok.hd hc) (by have := hr.dp; omega) h1 h2) fun v s1 h1 => ?_)
  exact Calls.spliced_nil h1
theorem pe_anyG (hc : X.calm = true) (hN : X.N.Nodup) (hr : Room k X.A) (TB : TabB X.base X.mg c P) (hcode : X.env.code = .ref c) (hg : Gl X "any") (hm : X.mg "any" = none) (hb : bootBuiltins "any" = some (.builtin "any")) (ok : BlkOk X.N X.env.scope scope own)
    (nocell : ∀ y ∈ scope.names, y.2 ≠ .cell) (dot : scope.names.lookup (".0" : Str) = some NameKind.local) (hco : scope.isCoroutine = false) (hi : PI X target iter wi) (hs : ∀ v, genFold iter X.env v = pure v)
    (pg : ∀ (s : Shared) (H : Hp) (C : Addr) (cl : List (Str × Addr)) (code : Value) (fp : List Addr), PG (genC X (genEnv scope cl C code builtinsNs X.env) s H fp) target g)
    (pe : ∀ (s : Shared) (H : Hp) (C : Addr) (cl : List (Str × Addr)) (code : Value) (fp : List Addr), PE (genC X (genEnv scope cl C code builtinsNs X.env) s H fp) elt te)
    (he : starEach [gx elt target iter scope gpos] X.env = (false, eval (gx elt target iter scope gpos) X.env) :: starEach [] X.env := by rfl) :
    PE X (.Call (.Name "any" p) [gx elt target iter scope gpos] [] pos) (genR P wi g te (own.map (·.2)) List.any) := by
  constructor
  intro pins s σ H Q I h
  refine wpAny_Call_Name_kw (ld_blt I hg hm hb ?_)
  refine PyProof.Rows.callWith_builtin1 ?_ he (by rfl)
  rw [he]
  show wpAny _ _ (spliced ((false, eval (gx elt target iter scope gpos) X.env) :: (backTo pos (starEach [] X.env)))) _ _ s
  refine Calls.spliced_cons (thn (gen_call (b := "any") hc hN hr TB hcode ok nocell dot hco hi hs pg pe I h @fun a gi n tr V F still bare K s Q E h1 h2 => call_any still bare K (I.ok.hd hc) (by have := hr.dp; omega) h1 h2) fun v s1 h1 => ?_)
  exact Calls.spliced_nil h1
end
end IndG

set_option Elab.async false
set_option linter.all false
set_option maxRecDepth 100000
set_option maxHeartbeats 4000000
namespace Ind
open PySem PySem.Spec PyProof.Rows L2
theorem small_div {x j : Int} (h : 0 < j) (h2 : j < 1606938044258990275541962092341162602522202993782792835301376) : CDivW x j := by
  refine wide_div (b := 200) h ?_ (by decide) (by decide)
  have e : (2 : Nat) ^ 200 = 1606938044258990275541962092341162602522202993782792835301376 := by decide +kernel
  rw [e]
  omega
/-! ### texts -/
theorem codes_app (a y : PySem.Str) : (a ++ y).cps.toList = a.cps.toList ++ y.cps.toList := by
  cases a; cases y
  show (_ ++ _ : Array Nat).toList = _
  simp
theorem codes_len (a : PySem.Str) : a.length = a.cps.toList.length := (Array.length_toList).symm
theorem codes_one (c : Nat) : (⟨#[c]⟩ : PySem.Str).cps.toList = [c] := rfl
def Sgn (c : Nat) : Prop := 32 ≤ c ∧ c ≤ 126 ∧ c ≠ 37
instance (c : Nat) : Decidable (Sgn c) := inferInstanceAs (Decidable (32 ≤ c ∧ c ≤ 126 ∧ c ≠ 37))
def Sgns (x : PySem.Str) : Prop := ∀ c ∈ x.cps.toList, Sgn c
def TxtOk (x : PySem.Str) : Prop := x.length ≤ 20 ∧ Sgns x
theorem Sgns.app {x y : PySem.Str} (a : Sgns x) (b : Sgns y) : Sgns (x ++ y) := fun c h => by
  rw [codes_app] at h
  exact (List.mem_append.mp h).elim (a c) (b c)
theorem Sgns.one {c : Nat} (h : Sgn c) : Sgns ⟨#[c]⟩ := fun d hd => by
  have e : d = c := by simpa [codes_one] using hd
  rw [e]; exact h
theorem len_app (x y : PySem.Str) : (x ++ y).length = x.length + y.length := by
  rw [codes_len, codes_len, codes_len, codes_app, List.length_append]
theorem len_one (c : Nat) : (⟨#[c]⟩ : PySem.Str).length = 1 := rfl
abbrev sgA : PySem.Str := " !\"#$&'()*+,-./0123456789:;<=>?@ABCDEFGHIJKLMNOPQRSTUVWXYZ[\\]^_`"
abbrev sgB : PySem.Str := "abcdefghijklmnopqrstuvwxyz{|}~"
def sg : PySem.Str := sgA ++ sgB
theorem sg_codes : sg.cps.toList = (List.range' 32 5) ++ (List.range' 38 89) := by decide +kernel
theorem sg_len : sg.length = 94 := by rw [codes_len, sg_codes]; rfl
theorem sg_all : ∀ c ∈ sg.cps.toList, Sgn c := by rw [sg_codes]; decide +kernel
/-- an item of a written list of whole numbers -/
theorem pick {ns : List Int} {i : Int} (h0 : 0 ≤ i) (h1 : i < (ns.length : Int)) : ∃ x, atI (ns.map V.int) i = some (.int x) ∧ x ∈ ns := by
  have hlt : i.toNat < ns.length := by omega
  refine ⟨ns[i.toNat], at_of (show i = (i.toNat : Int) by omega) ?_, List.getElem_mem hlt⟩
  rw [List.getElem?_map, List.getElem?_eq_getElem hlt]
  rfl
theorem pickS {l : List Nat} {i : Int} (h0 : 0 ≤ i) (h1 : i < (l.length : Int)) : ∃ x, atI l i = some x ∧ x ∈ l := by
  have hlt : i.toNat < l.length := by omega
  have e := atI_nat (xs := l) (j := i.toNat) (v := l[i.toNat]) (List.getElem?_eq_getElem hlt)
  rw [show ((i.toNat : Nat) : Int) = i by omega] at e
  exact ⟨_, e, List.getElem_mem hlt⟩
theorem sg_pick {i : Int} (h0 : 0 ≤ i) (h1 : i < 94) : ∃ c, atI sg.cps.toList i = some c ∧ Sgn c := by
  obtain ⟨c, e, m⟩ := pickS (l := sg.cps.toList) h0 (by rw [← codes_len, sg_len]; omega)
  exact ⟨c, e, sg_all c m⟩
theorem sgns_nil : Sgns ("" : PySem.Str) := fun c h => by cases h
theorem quad_all : ∀ c ∈ ("abB' " : PySem.Str).cps.toList, Sgn c := by decide +kernel
theorem quad_len : ("abB' " : PySem.Str).cps.toList.length = 5 := by decide +kernel
theorem txt_push {x : PySem.Str} {c : Nat} (hs : Sgns x) (h : Sgn c) : Sgns (x ++ ⟨#[c]⟩) := hs.app (.one h)
theorem len_push {x : PySem.Str} {c n : Nat} (h : x.length ≤ n) : (x ++ (⟨#[c]⟩ : PySem.Str)).length ≤ n + 1 := by rw [len_app, len_one]; omega
def sgIx (c : Nat) : Nat := if c < 37 then c - 32 else c - 33
theorem sg_occ : ∀ c, c < 127 → Sgn c → Builtin.Str.occurrences sg ⟨#[c]⟩ 0 sg.length 1 = [sgIx c] := by decide +kernel
theorem sg_index {c : Nat} (h : Sgn c) : Builtin.Str.occurrences sg ⟨#[c]⟩ 0 sg.length 1 = sgIx c :: [] := sg_occ c (by have := h.2.1; omega) h
theorem sgIx_lt {c d : Nat} (h : Sgn c) (k : Sgn d) : sgIx c < sgIx d ↔ c < d := by
  obtain ⟨a1, a2, a3⟩ := h
  obtain ⟨b1, b2, b3⟩ := k
  unfold sgIx
  split <;> split <;> omega
/-! ### slices of texts -/
theorem cut_lo (z : PySem.Str) (k : Nat) (h : k ≤ z.length) : (cutS z none (some (k : Int))).cps.toList = z.cps.toList.take k := by
  unfold cutS
  rw [show HT.sIx z.length z.length (some (k : Int)) = min k z.length from HT.sIx_nat _ _ _, HT.sIx_none, Nat.min_eq_left h]
  simp
theorem cut_hi (z : PySem.Str) (k : Nat) : (cutS z (some (k : Int)) none).cps.toList = z.cps.toList.drop (min k z.length) := by
  unfold cutS
  rw [show HT.sIx z.length 0 (some (k : Int)) = min k z.length from HT.sIx_nat _ _ _, HT.sIx_none]
  show (List.take _ _).toArray.toList = _
  rw [List.take_of_length_le]
  rw [List.length_drop, codes_len]
  exact Nat.le_refl _
theorem cut_sgns {z : PySem.Str} {lo hi : Option Int} (h : Sgns z) : Sgns (cutS z lo hi) := fun c m => by
  unfold cutS at m
  exact h c (List.mem_of_mem_drop (List.mem_of_mem_take (by simpa using m)))
theorem cut_len_hi (z : PySem.Str) (k : Nat) : (cutS z none (some (k : Int))).length ≤ k := by
  rw [codes_len]
  unfold cutS
  rw [show HT.sIx z.length z.length (some (k : Int)) = min k z.length from HT.sIx_nat _ _ _, HT.sIx_none]
  show (List.take _ _).toArray.toList.length ≤ _
  rw [List.length_take]
  omega
/-! ### values: whole numbers and texts -/
def ValOk : V → Prop
  | .int _ => True
  | .str x => TxtOk x
  | _ => False
def kindB : V → Bool
  | .str _ => true
  | _ => false
theorem dec_ii {i j : Int} : decide (V.int i = V.int j) = decide (i = j) := by
  by_cases e : i = j
  · subst e; simp
  · simp [e]
def vLt : V → V → Bool
  | .int i, .int j => decide (i < j)
  | .int _, .str _ => true
  | .str x, .str y => decide (x.cps.toList < y.cps.toList)
  | _, _ => false
theorem ValOk.cases {v : V} (h : ValOk v) : (∃ i, v = .int i) ∨ ∃ x, v = .str x ∧ TxtOk x := by
  cases v with
  | int i => exact .inl ⟨i, rfl⟩
  | str x => exact .inr ⟨x, rfl, h⟩
  | _ => exact h.elim
def spText : Sp := fun vs H Q _ => ∃ (t : Tp), vs = [.ref t.a] ∧ TapeAt H t ∧ ∀ H' x, Fz t.a H H' → TapeAt H' t → TxtOk x → Q (.str x) H'
def spAny : Sp := fun vs H Q _ => ∃ (t : Tp), vs = [.ref t.a] ∧ TapeAt H t ∧ ∀ H' v, Fz t.a H H' → TapeAt H' t → ValOk v → Q v H'
def spNear : Sp := fun vs H Q _ => ∃ (t : Tp) (x : V), vs = [.ref t.a, x] ∧ ValOk x ∧ TapeAt H t ∧ ∀ H' v, Fz t.a H H' → TapeAt H' t → ValOk v → Q v H'
def spSigns : Sp := fun vs H Q _ => vs = [] ∧ Q (.str sg) H
def spBefore : Sp := fun vs H Q _ => ∃ x y, vs = [x, y] ∧ ValOk x ∧ ValOk y ∧ ∀ H', Same H H' → Q (.bl (vLt x y)) H'
def spIs : Sp := fun vs H Q _ => ∃ x y : Int, vs = [.int x, .int y] ∧ Q (.bl (decide (x = y))) H
def spKey : Sp := fun vs H Q _ => ∃ x, vs = [x] ∧ ValOk x ∧ ∀ p, H p = none → Q (.ref p) (upd H p (.tup [.bl (kindB x), x]))
def spCmp : Sp := fun vs H Q _ => ∃ x y, vs = [x, y] ∧ ValOk x ∧ ValOk y ∧ ∀ H', Same H H' → Q (.int (if vLt x y then -1 else if vLt y x then 1 else 0)) H'
def spLaw (K : PySem.W.Frag) : Sp := fun vs H Q _ => ∃ (a : Addr) (ns : List Int), vs = [.ref a] ∧ SqL K H a (ns.map V.int) ∧ ns.length ≤ 63 ∧ ∀ H', Q (.bl true) H'
end Ind

set_option Elab.async false
set_option linter.all false
set_option maxRecDepth 100000
set_option maxHeartbeats 4000000
namespace IndCmp
open PySem PySem.SeqAt Ob
open PySem.AutoSeq1 (wpAny_loadPart')
open PySem.MeetsSeq PySem.MeetsSeq2 PySem.MeetsSeq3

theorem ltAt (l b : Addr) (xs ys : Array Value) (n n2 : Nat) (dd dd2 : Option Addr) (sl sl2 : Array (Option Value)) (e r : Nat → Bool) :
    Meets (Builtin.«tuple.__lt__» ⟨[.ref l, .ref b], []⟩) (fun A R s =>
      (s.heap.get? l = some { cls := .type "tuple", dict := dd, data := .seq xs n, slots := sl }) ∧
      (s.heap.get? b = some { cls := .type "tuple", dict := dd2, data := .seq ys n2, slots := sl2 }) ∧
      (∀ j (h1 : j < xs.size) (h2 : j < ys.size), EqAt A.in1 s xs[j] ys[j] (e j)) ∧
      (∀ j (h1 : j < xs.size) (h2 : j < ys.size), (∀ k, k < j → e k = true) → e j = false → RcOp .Lt A.in1 s xs[j] ys[j] (r j)) ∧
      R (.ok (.ret (.bool (lexAt e r (decide (xs.size < ys.size)) 0 (min xs.size ys.size))))) s) :=
  .of_wp fun prog w A R s hh => by
    obtain ⟨hp, g, d, tk, os⟩ := s
    obtain ⟨a1, a2, qe, qr, hh⟩ := hh
    have sb := AutoSeq1.sub_tuple_tuple
    have zz : (xs.toList.zip ys.toList).length = min xs.size ys.size := by simp
    wp_walk using wpAny_loadPart' a1, wpAny_loadPart' a2, wpAny_forIn_list _ (fun rest b s' =>
      b.1 = none ∧ s' = ⟨hp, g, d, tk, os⟩ ∧ ∃ i, rest = (xs.toList.zip ys.toList).drop i ∧ (∀ k, k < i → e k = true) ∧
      R (.ok (.ret (.bool (lexAt e r (decide (xs.size < ys.size)) i (min xs.size ys.size - i))))) ⟨hp, g, d, tk, os⟩) _
    case turn =>
      rintro ⟨y, x⟩ rest b s' ⟨nb, rfl, i, hz, before, goal⟩
      have il : i < (xs.toList.zip ys.toList).length := by
        by_cases c : i < (xs.toList.zip ys.toList).length
        · exact c
        · rw [List.drop_of_length_le (by omega)] at hz
          cases hz
      have im : i < min xs.size ys.size := by omega
      have i1 : i < xs.size := by omega
      have i2 : i < ys.size := by omega
      rw [List.drop_eq_getElem_cons il] at hz
      injection hz with pr tl
      have ey : y = xs[i] := by have t1 := congrArg Prod.fst pr; simpa using t1
      have ex : x = ys[i] := by have t1 := congrArg Prod.snd pr; simpa using t1
      subst ey ex
      have step : min xs.size ys.size - i = (min xs.size ys.size - (i + 1)) + 1 := by omega
      rw [step, lexAt_succ] at goal
      refine wpAny_bind (qe i i1 i2 prog w _ _ ?_)
      cases c : e i with
      | true =>
        rw [c, if_pos rfl] at goal
        wp_walk
        refine ⟨rfl, rfl, i + 1, tl, fun k hk => ?_, goal⟩
        by_cases ki : k = i
        · rw [ki]; exact c
        · exact before k (by omega)
      | false =>
        rw [c, if_neg Bool.false_ne_true] at goal
        have now := qr i i1 i2 before c prog w
        wp_walk using now
        exact ⟨_, rfl, by simpa using goal⟩
    case fin =>
      rintro ⟨b1, b2⟩ s' ⟨nb, rfl, i, hz, before, goal⟩
      simp only at nb
      subst nb
      have le : min xs.size ys.size ≤ i := by
        by_cases c : i < (xs.toList.zip ys.toList).length
        · rw [List.drop_eq_getElem_cons c] at hz
          cases hz
        · omega
      rw [Nat.sub_eq_zero_of_le le, lexAt_zero] at goal
      wp_walk
      exact ⟨_, rfl, by simpa [Builtin.Tuple.tupleCompareSizes] using goal⟩
    case h =>
      exact ⟨rfl, rfl, 0, rfl, fun k hk => absurd hk (Nat.not_lt_zero _), by simpa using hh⟩
theorem rc_lt {A : Around} {s : Shared} {l b : Addr} {xs ys : Array Value} {e r : Nat → Bool} (hl : s.heap.IsTuple l xs) (hb : s.heap.IsTuple b ys) (room : A.units < cLine)
    (qe : ∀ j (h1 : j < xs.size) (h2 : j < ys.size), EqAt A.in1 s xs[j] ys[j] (e j))
    (qr : ∀ j (h1 : j < xs.size) (h2 : j < ys.size), (∀ k, k < j → e k = true) → e j = false → RcOp .Lt A.in1 s xs[j] ys[j] (r j)) :
    RcOp .Lt A s (.ref l) (.ref b) (lexAt e r (decide (xs.size < ys.size)) 0 (min xs.size ys.size)) := fun prog w E Q hq => by
  obtain ⟨⟨c1, dd, da, sl⟩, o1, hc, n, hd⟩ := id hl
  obtain ⟨⟨c2, dd2, da2, sl2⟩, o2, hc2, n2, hd2⟩ := id hb
  simp only at hc hd hc2 hd2
  subst hc hd hc2 hd2
  refine richCompare_meets_room (op := .Lt) ⟨_, o1, rfl⟩ ⟨_, o2, rfl⟩ F.slot_tuple_lt F.entry_tuple_lt
    (F.args_tuple_lt_2 _ _) (ltAt l b xs ys n n2 dd dd2 sl sl2 e r) ⟨o1, o2, qe, qr, ?_⟩ room
  exact ⟨(fun x => nomatch x), hq⟩

theorem gtAt (l b : Addr) (xs ys : Array Value) (n n2 : Nat) (dd dd2 : Option Addr) (sl sl2 : Array (Option Value)) (e r : Nat → Bool) :
    Meets (Builtin.«tuple.__gt__» ⟨[.ref l, .ref b], []⟩) (fun A R s =>
      (s.heap.get? l = some { cls := .type "tuple", dict := dd, data := .seq xs n, slots := sl }) ∧
      (s.heap.get? b = some { cls := .type "tuple", dict := dd2, data := .seq ys n2, slots := sl2 }) ∧
      (∀ j (h1 : j < xs.size) (h2 : j < ys.size), EqAt A.in1 s xs[j] ys[j] (e j)) ∧
      (∀ j (h1 : j < xs.size) (h2 : j < ys.size), (∀ k, k < j → e k = true) → e j = false → RcOp .Gt A.in1 s xs[j] ys[j] (r j)) ∧
      R (.ok (.ret (.bool (lexAt e r (decide (xs.size > ys.size)) 0 (min xs.size ys.size))))) s) :=
  .of_wp fun prog w A R s hh => by
    obtain ⟨hp, g, d, tk, os⟩ := s
    obtain ⟨a1, a2, qe, qr, hh⟩ := hh
    have sb := AutoSeq1.sub_tuple_tuple
    have zz : (xs.toList.zip ys.toList).length = min xs.size ys.size := by simp
    wp_walk using wpAny_loadPart' a1, wpAny_loadPart' a2, wpAny_forIn_list _ (fun rest b s' =>
      b.1 = none ∧ s' = ⟨hp, g, d, tk, os⟩ ∧ ∃ i, rest = (xs.toList.zip ys.toList).drop i ∧ (∀ k, k < i → e k = true) ∧
      R (.ok (.ret (.bool (lexAt e r (decide (xs.size > ys.size)) i (min xs.size ys.size - i))))) ⟨hp, g, d, tk, os⟩) _
    case turn =>
      rintro ⟨y, x⟩ rest b s' ⟨nb, rfl, i, hz, before, goal⟩
      have il : i < (xs.toList.zip ys.toList).length := by
        by_cases c : i < (xs.toList.zip ys.toList).length
        · exact c
        · rw [List.drop_of_length_le (by omega)] at hz
          cases hz
      have im : i < min xs.size ys.size := by omega
      have i1 : i < xs.size := by omega
      have i2 : i < ys.size := by omega
      rw [List.drop_eq_getElem_cons il] at hz
      injection hz with pr tl
      have ey : y = xs[i] := by have t1 := congrArg Prod.fst pr; simpa using t1
      have ex : x = ys[i] := by have t1 := congrArg Prod.snd pr; simpa using t1
      subst ey ex
      have step : min xs.size ys.size - i = (min xs.size ys.size - (i + 1)) + 1 := by omega
      rw [step, lexAt_succ] at goal
      refine wpAny_bind (qe i i1 i2 prog w _ _ ?_)
      cases c : e i with
      | true =>
        rw [c, if_pos rfl] at goal
        wp_walk
        refine ⟨rfl, rfl, i + 1, tl, fun k hk => ?_, goal⟩
        by_cases ki : k = i
        · rw [ki]; exact c
        · exact before k (by omega)
      | false =>
        rw [c, if_neg Bool.false_ne_true] at goal
        have now := qr i i1 i2 before c prog w
        wp_walk using now
        exact ⟨_, rfl, by simpa using goal⟩
    case fin =>
      rintro ⟨b1, b2⟩ s' ⟨nb, rfl, i, hz, before, goal⟩
      simp only at nb
      subst nb
      have le : min xs.size ys.size ≤ i := by
        by_cases c : i < (xs.toList.zip ys.toList).length
        · rw [List.drop_eq_getElem_cons c] at hz
          cases hz
        · omega
      rw [Nat.sub_eq_zero_of_le le, lexAt_zero] at goal
      wp_walk
      exact ⟨_, rfl, by simpa [Builtin.Tuple.tupleCompareSizes] using goal⟩
    case h =>
      exact ⟨rfl, rfl, 0, rfl, fun k hk => absurd hk (Nat.not_lt_zero _), by simpa using hh⟩
theorem rc_gt {A : Around} {s : Shared} {l b : Addr} {xs ys : Array Value} {e r : Nat → Bool} (hl : s.heap.IsTuple l xs) (hb : s.heap.IsTuple b ys) (room : A.units < cLine)
    (qe : ∀ j (h1 : j < xs.size) (h2 : j < ys.size), EqAt A.in1 s xs[j] ys[j] (e j))
    (qr : ∀ j (h1 : j < xs.size) (h2 : j < ys.size), (∀ k, k < j → e k = true) → e j = false → RcOp .Gt A.in1 s xs[j] ys[j] (r j)) :
    RcOp .Gt A s (.ref l) (.ref b) (lexAt e r (decide (xs.size > ys.size)) 0 (min xs.size ys.size)) := fun prog w E Q hq => by
  obtain ⟨⟨c1, dd, da, sl⟩, o1, hc, n, hd⟩ := id hl
  obtain ⟨⟨c2, dd2, da2, sl2⟩, o2, hc2, n2, hd2⟩ := id hb
  simp only at hc hd hc2 hd2
  subst hc hd hc2 hd2
  refine richCompare_meets_room (op := .Gt) ⟨_, o1, rfl⟩ ⟨_, o2, rfl⟩ F.slot_tuple_gt F.entry_tuple_gt
    (F.args_tuple_gt_2 _ _) (gtAt l b xs ys n n2 dd dd2 sl sl2 e r) ⟨o1, o2, qe, qr, ?_⟩ room
  exact ⟨(fun x => nomatch x), hq⟩

end IndCmp

set_option Elab.async false
set_option linter.all false
set_option maxRecDepth 100000
set_option maxHeartbeats 4000000
namespace Ind
open PySem PySem.Spec PyProof.Rows L2
theorem lex_irr (l : List Nat) : ¬ l < l := List.lt_irrefl l
theorem vLt_irr (v : V) : vLt v v = false := by
  cases v with
  | int i => simp [vLt]
  | str x => simp [vLt]
  | _ => rfl
/-- == of such values -/
theorem eqAt_val {A : Around} {s : Shared} {u v : V} {a b : Value} (hu : ValOk u) (hv : ValOk v) (ra : RelV u a) (rb : RelV v b) : SeqAt.EqAt A s a b (decide (u = v)) := by
  rcases hu.cases with ⟨i, rfl⟩ | ⟨x, rfl, _⟩ <;> rcases hv.cases with ⟨j, rfl⟩ | ⟨y, rfl, _⟩
  · obtain ⟨t, rfl⟩ := ra
    obtain ⟨t', rfl⟩ := rb
    rw [dec_int]
    exact SeqAt.EqAt.int_int _ _ _ _
  · obtain ⟨t, rfl⟩ := ra
    obtain ⟨t', rfl⟩ := rb
    rw [decide_eq_false (fun z => nomatch z)]
    exact fun prog w E Q h => SeqAt.EqAt.int_str i t y t' _ _ _ _ h
  · obtain ⟨t, rfl⟩ := ra
    obtain ⟨t', rfl⟩ := rb
    rw [decide_eq_false (fun z => nomatch z)]
    exact fun prog w E Q h => SeqAt.EqAt.str_int x t j t' _ _ _ _ h
  · obtain ⟨t, rfl⟩ := ra
    obtain ⟨t', rfl⟩ := rb
    rw [dec_str]
    exact SeqAt.EqAt.str_str _ _ _ _
theorem rc_lt_val {A : Around} {s : Shared} {u v : V} {a b : Value} (hu : ValOk u) (hv : ValOk v) (ra : RelV u a) (rb : RelV v b) (k : kindB u = kindB v) : Ob.RcOp .Lt A s a b (vLt u v) := by
  rcases hu.cases with ⟨i, rfl⟩ | ⟨x, rfl, _⟩ <;> rcases hv.cases with ⟨j, rfl⟩ | ⟨y, rfl, _⟩
  · obtain ⟨t, rfl⟩ := ra
    obtain ⟨t', rfl⟩ := rb
    exact .lt_int _ _ _ _
  · cases k
  · cases k
  · obtain ⟨t, rfl⟩ := ra
    obtain ⟨t', rfl⟩ := rb
    exact fun _ _ _ _ h => PyProof.Rows.lt_str h
theorem rc_gt_val {A : Around} {s : Shared} {u v : V} {a b : Value} (hu : ValOk u) (hv : ValOk v) (ra : RelV u a) (rb : RelV v b) (k : kindB u = kindB v) : Ob.RcOp .Gt A s a b (vLt v u) := by
  rcases hu.cases with ⟨i, rfl⟩ | ⟨x, rfl, _⟩ <;> rcases hv.cases with ⟨j, rfl⟩ | ⟨y, rfl, _⟩
  · obtain ⟨t, rfl⟩ := ra
    obtain ⟨t', rfl⟩ := rb
    exact .gt_int _ _ _ _
  · cases k
  · cases k
  · obtain ⟨t, rfl⟩ := ra
    obtain ⟨t', rfl⟩ := rb
    exact fun _ _ _ _ h => PySem.P.gt_str h
theorem pair_lex {u v : V} (hu : ValOk u) (hv : ValOk v) (r1 : Bool) (h : kindB u = kindB v → r1 = vLt u v) :
    Ob.lexAt (fun j => if j = 0 then kindB u == kindB v else decide (u = v)) (fun j => if j = 0 then decide (b2i (kindB u) < b2i (kindB v)) else r1) (decide (2 < 2)) 0 (min 2 2) = vLt u v := by
  rcases hu.cases with ⟨i, rfl⟩ | ⟨x, rfl, _⟩ <;> rcases hv.cases with ⟨j, rfl⟩ | ⟨y, rfl, _⟩
  · rw [h rfl]
    by_cases e : i = j
    · subst e; simp [Ob.lexAt, vLt]
    · simp [Ob.lexAt, vLt, kindB, e]
  · simp [Ob.lexAt, vLt, kindB, b2i]
  · simp [Ob.lexAt, vLt, kindB, b2i]
  · rw [h rfl]
    by_cases e : x = y
    · subst e; simp [Ob.lexAt, vLt]
    · simp [Ob.lexAt, vLt, kindB, e]
theorem pair_lex2 {u v : V} (hu : ValOk u) (hv : ValOk v) (r1 : Bool) (h : kindB u = kindB v → r1 = vLt v u) :
    Ob.lexAt (fun j => if j = 0 then kindB u == kindB v else decide (u = v)) (fun j => if j = 0 then decide (b2i (kindB u) > b2i (kindB v)) else r1) (decide (2 > 2)) 0 (min 2 2) = vLt v u := by
  rcases hu.cases with ⟨i, rfl⟩ | ⟨x, rfl, _⟩ <;> rcases hv.cases with ⟨j, rfl⟩ | ⟨y, rfl, _⟩
  · rw [h rfl]
    by_cases e : i = j
    · subst e; simp [Ob.lexAt, vLt]
    · simp [Ob.lexAt, vLt, kindB, e]
  · simp [Ob.lexAt, vLt, kindB, b2i]
  · simp [Ob.lexAt, vLt, kindB, b2i]
  · rw [h rfl]
    by_cases e : x = y
    · subst e; simp [Ob.lexAt, vLt]
    · simp [Ob.lexAt, vLt, kindB, e]
theorem pair_of {k : Bool} {u : V} {its : List Value} (r : Vals [V.bl k, u] its) : ∃ a, its = [Value.bool k, a] ∧ RelV u a := by
  obtain ⟨a, b, rfl, r1, r2⟩ := vals2 r
  cases (show a = Value.bool k from r1)
  exact ⟨b, rfl, r2⟩
def rKeyL (K : PySem.W.Frag) : R2 := fun x y H Q => ∃ a b u v, x = .ref a ∧ y = .ref b ∧ ValOk u ∧ ValOk v ∧ H a = some (.tup [.bl (kindB u), u]) ∧ H b = some (.tup [.bl (kindB v), v]) ∧ Q (.bl (vLt u v)) H
def rKeyG (K : PySem.W.Frag) : R2 := fun x y H Q => ∃ a b u v, x = .ref a ∧ y = .ref b ∧ ValOk u ∧ ValOk v ∧ H a = some (.tup [.bl (kindB u), u]) ∧ H b = some (.tup [.bl (kindB v), v]) ∧ Q (.bl (vLt v u)) H
section
variable {X : Cx}
theorem op_lt_key (hu : X.A.units < cLine) : OpR X (compareOp .Lt) (rKeyL X.K) := by
  intro pins s σ H x y v u Q I rx ry h
  obtain ⟨a, b, p, q, rfl, rfl, hp, hq, ha, hb, fin⟩ := h
  cases rx
  cases ry
  obtain ⟨its, r1, p1, _⟩ := I.tuple (SqT.of ha)
  obtain ⟨its2, r2, p2, _⟩ := I.tuple (SqT.of hb)
  obtain ⟨va, rfl, ra⟩ := pair_of r1
  obtain ⟨vb, rfl, rb⟩ := pair_of r2
  have R := IndCmp.rc_lt (A := X.A) (s := s) (e := fun j => if j = 0 then kindB p == kindB q else decide (p = q)) (r := fun j => if j = 0 then decide (b2i (kindB p) < b2i (kindB q)) else vLt p q) p1 p2 hu
    (fun j h1 h2 => match j, h1, h2 with
      | 0, _, _ => SeqAt.EqAt.bool_bool _ _
      | 1, _, _ => eqAt_val hp hq ra rb)
    (fun j h1 h2 bef ne => match j, h1, h2, bef, ne with
      | 0, _, _, _, _ => fun _ _ _ _ h => PyProof.Rows.lt_bool h
      | 1, _, _, bef, _ => rc_lt_val hp hq ra rb (by have := bef 0 (by decide); simpa using this))
  rw [show ([Value.bool (kindB p), va].toArray.size) = 2 from rfl, show ([Value.bool (kindB q), vb].toArray.size) = 2 from rfl, pair_lex hp hq (vLt p q) (fun _ => rfl)] at R
  have z : wpAny (model X.prog X.w) X.A (compareOp .Lt (.ref a) (.ref b)) (EP X pins σ Q) X.xe s := R X.prog X.w X.xe (EP X pins σ Q) ⟨.bl _, H, I, rfl, fin⟩
  exact z
theorem op_gt_key (hu : X.A.units < cLine) : OpR X (compareOp .Gt) (rKeyG X.K) := by
  intro pins s σ H x y v u Q I rx ry h
  obtain ⟨a, b, p, q, rfl, rfl, hp, hq, ha, hb, fin⟩ := h
  cases rx
  cases ry
  obtain ⟨its, r1, p1, _⟩ := I.tuple (SqT.of ha)
  obtain ⟨its2, r2, p2, _⟩ := I.tuple (SqT.of hb)
  obtain ⟨va, rfl, ra⟩ := pair_of r1
  obtain ⟨vb, rfl, rb⟩ := pair_of r2
  have R := IndCmp.rc_gt (A := X.A) (s := s) (e := fun j => if j = 0 then kindB p == kindB q else decide (p = q)) (r := fun j => if j = 0 then decide (b2i (kindB p) > b2i (kindB q)) else vLt q p) p1 p2 hu
    (fun j h1 h2 => match j, h1, h2 with
      | 0, _, _ => SeqAt.EqAt.bool_bool _ _
      | 1, _, _ => eqAt_val hp hq ra rb)
    (fun j h1 h2 bef ne => match j, h1, h2, bef, ne with
      | 0, _, _, _, _ => fun _ _ _ _ h => PyProof.Rows.gt_bool h
      | 1, _, _, bef, _ => rc_gt_val hp hq ra rb (by have := bef 0 (by decide); simpa using this))
  rw [show ([Value.bool (kindB p), va].toArray.size) = 2 from rfl, show ([Value.bool (kindB q), vb].toArray.size) = 2 from rfl, pair_lex2 hp hq (vLt q p) (fun _ => rfl)] at R
  have z : wpAny (model X.prog X.w) X.A (compareOp .Gt (.ref a) (.ref b)) (EP X pins σ Q) X.xe s := R X.prog X.w X.xe (EP X pins σ Q) ⟨.bl _, H, I, rfl, fin⟩
  exact z
end
end Ind

set_option Elab.async false
set_option linter.all false
set_option maxRecDepth 100000
set_option maxHeartbeats 4000000
namespace Ind
open PySem PySem.Spec PyProof.Rows L2
theorem k_int_int : kitB "int" "int" = some true := by decide +kernel
theorem k_int_str : kitB "int" "str" = some false := by decide +kernel
theorem k_str_str : kitB "str" "str" = some true := by decide +kernel
theorem k_str_int : kitB "str" "int" = some false := by decide +kernel
theorem k_int_bool : kitB "int" "bool" = some false := by decide +kernel
theorem k_bool_int : kitB "bool" "int" = some true := by decide +kernel
theorem k_bool_bool : kitB "bool" "bool" = some true := by decide +kernel
theorem k_tup_tup : kitB "tuple" "tuple" = some true := by decide +kernel
/-! ### the order of texts, sign by sign -/
theorem lt_at : ∀ (a b : List Nat) (i : Nat) (c d : Nat), a.take i = b.take i → a[i]? = some c → b[i]? = some d → c ≠ d → (a < b ↔ c < d)
  | [], _, i, c, d, _, h, _, _ => by simp at h
  | _ :: _, [], i, c, d, _, _, h, _ => by simp at h
  | x :: a, y :: b, 0, c, d, _, h, k, ne => by
    have e1 : x = c := by simpa using h
    have e2 : y = d := by simpa using k
    subst e1 e2
    rw [List.cons_lt_cons_iff]
    constructor
    · rintro (q | ⟨q, _⟩)
      · exact q
      · exact absurd q ne
    · exact fun q => .inl q
  | x :: a, y :: b, i + 1, c, d, t, h, k, ne => by
    have t' : x = y ∧ a.take i = b.take i := by simpa using t
    have ih := lt_at a b i c d t'.2 (by simpa using h) (by simpa using k) ne
    rw [List.cons_lt_cons_iff, ← ih]
    constructor
    · rintro (q | ⟨_, q⟩)
      · exact absurd (t'.1 ▸ q) (Nat.lt_irrefl _)
      · exact q
    · exact fun q => .inr ⟨t'.1, q⟩
theorem lt_end : ∀ (a b : List Nat), a.take (min a.length b.length) = b.take (min a.length b.length) → (a < b ↔ a.length < b.length)
  | [], [], _ => by simp
  | [], y :: b, _ => by simp
  | x :: a, [], _ => by simp
  | x :: a, y :: b, t => by
    have t' : x = y ∧ a.take (min a.length b.length) = b.take (min a.length b.length) := by
      have e : min (x :: a).length (y :: b).length = min a.length b.length + 1 := by simp
      rw [e] at t
      simpa using t
    have ih := lt_end a b t'.2
    rw [List.cons_lt_cons_iff, List.length_cons, List.length_cons]
    constructor
    · rintro (q | ⟨_, q⟩)
      · exact absurd (t'.1 ▸ q) (Nat.lt_irrefl _)
      · exact Nat.succ_lt_succ (ih.mp q)
    · exact fun q => .inr ⟨t'.1, ih.mpr (Nat.lt_of_succ_lt_succ q)⟩
theorem take_next {a b : List Nat} {i c : Nat} (t : a.take i = b.take i) (h : a[i]? = some c) (k : b[i]? = some c) : a.take (i + 1) = b.take (i + 1) := by
  rw [List.take_add_one, List.take_add_one, t, h, k]
theorem vLt_tri {u v : V} (hu : ValOk u) (hv : ValOk v) : (if vLt u v then (-1 : Int) else if vLt v u then 1 else 0) = -(if vLt v u then (-1 : Int) else if vLt u v then 1 else 0) := by
  by_cases a : vLt u v = true <;> by_cases b : vLt v u = true
  · exfalso
    rcases hu.cases with ⟨i, rfl⟩ | ⟨x, rfl, _⟩ <;> rcases hv.cases with ⟨j, rfl⟩ | ⟨y, rfl, _⟩
    · simp [vLt] at a b; omega
    · simp [vLt] at a b
    · simp [vLt] at a b
    · simp [vLt] at a b
      exact absurd (List.lt_trans a b) (List.lt_irrefl _)
  all_goals simp [a, b]
theorem vLt_not_both {u v : V} (hu : ValOk u) (hv : ValOk v) (a : vLt u v = true) (b : vLt v u = true) : False := by
  rcases hu.cases with ⟨i, rfl⟩ | ⟨x, rfl, _⟩ <;> rcases hv.cases with ⟨j, rfl⟩ | ⟨y, rfl, _⟩
  · simp [vLt] at a b; omega
  · simp [vLt] at a b
  · simp [vLt] at a b
  · simp [vLt] at a b
    exact absurd (List.lt_trans a b) (List.lt_irrefl _)
theorem one_txt {c d : Nat} : decide (V.str ⟨#[c]⟩ = V.str ⟨#[d]⟩) = decide (c = d) := by
  by_cases e : c = d
  · subst e; simp
  · rw [decide_eq_false e, decide_eq_false]
    intro z
    injection z with z
    injection z with z
    exact e (by simpa using z)
theorem qb {Q : VK} {b : Bool} {H : Hp} (e : b = true) (q : ∀ H', Q (.bl true) H') : Q (.bl b) H := by rw [e]; exact q H
end Ind

set_option Elab.async false
set_option linter.all false
set_option maxRecDepth 100000
set_option maxHeartbeats 4000000
namespace Ind
open PySem PySem.Spec PyProof.Rows L2
/-! ### data of tuples and plain values: what stands stays -/
mutual
def tuplesOnly : PyData → Bool
  | .none => true
  | .bool _ => true
  | .int _ => true
  | .str _ => true
  | .tuple xs => tuplesOnlyAll xs
  | _ => false
def tuplesOnlyAll : List PyData → Bool
  | [] => true
  | x :: xs => tuplesOnly x && tuplesOnlyAll xs
end
/-- tuples stay where they stand -/
structure Kp (H H' : Hp) : Prop where
  tup : ∀ b xs, H b = some (.tup xs) → H' b = some (.tup xs)
  frz : ∀ b o xs, H b = some (.frz o (.tup xs)) → H' b = some (.frz o (.tup xs))
theorem Kp.refl (H : Hp) : Kp H H := ⟨fun _ _ h => h, fun _ _ _ h => h⟩
theorem Kp.trans {H H1 H2 : Hp} (a : Kp H H1) (b : Kp H1 H2) : Kp H H2 := ⟨fun c x h => b.tup c x (a.tup c x h), fun c o x h => b.frz c o x (a.frz c o x h)⟩
theorem Same.kp {H H' : Hp} (s : Same H H') : Kp H H' := ⟨fun c x h => s _ _ h, fun c o x h => s _ _ h⟩
theorem Fz.kp {t : Tp} {H H' : Hp} (s : Fz t.a H H') (T : TapeAt H t) : Kp H H' := by
  obtain ⟨ns, p, n, z, h1, _⟩ := T
  refine ⟨fun c x h => s _ _ ?_ h, fun c o x h => s _ _ ?_ h⟩ <;> (intro e; rw [e, h1] at h; cases h)
theorem Kp.upd {H : Hp} {l : Addr} {xs : List V} {o : HO} (h : H l = some (.lst xs)) : Kp H (upd H l o) := by
  refine ⟨fun c x e => ?_, fun c u x e => ?_⟩ <;> (rw [upd_ne (ne_of e h (by intro z; cases z))]; exact e)
theorem Kp.new {H : Hp} {l : Addr} {o : HO} (h : H l = none) : Kp H (L2.upd H l o) := Same.kp (same_upd h)
theorem Kp.sqT {K : PySem.W.Frag} {H H' : Hp} {a : Addr} {xs : List V} (k : Kp H H') (h : SqT K H a xs) : SqT K H' a xs := by
  rcases h with (h | ⟨o, h⟩) | h
  · exact .inl (.inl (k.tup _ _ h))
  · exact .inl (.inr ⟨o, k.frz _ _ _ h⟩)
  · exact .inr h
mutual
theorem Dp.kp {K : PySem.W.Frag} {H H' : Hp} (k : Kp H H') : ∀ (d : PyData) (v : V), tuplesOnly d = true → Dp K H v d → Dp K H' v d
  | .none, _, _, h => by cases h; exact .non
  | .bool _, _, _, h => by cases h; exact .bl _
  | .int _, _, _, h => by cases h; exact .int _
  | .str _, _, _, h => by cases h; exact .str _
  | .list _, _, t, _ => by simp [tuplesOnly] at t
  | .dict _, _, t, _ => by simp [tuplesOnly] at t
  | .tuple ds, _, t, h => by
    cases h with
    | tup hs ha => exact .tup (k.sqT hs) (DpAll.kp k ds _ (by simpa [tuplesOnly] using t) ha)
theorem DpAll.kp {K : PySem.W.Frag} {H H' : Hp} (k : Kp H H') : ∀ (ds : List PyData) (vs : List V), tuplesOnlyAll ds = true → DpAll K H vs ds → DpAll K H' vs ds
  | [], _, _, h => by cases h; exact .nil
  | d :: ds, _, t, h => by
    cases h with
    | cons h1 h2 =>
      have t' : tuplesOnly d = true ∧ tuplesOnlyAll ds = true := by simpa [tuplesOnlyAll] using t
      exact .cons (Dp.kp k d _ t'.1 h1) (DpAll.kp k ds _ t'.2 h2)
end
end Ind
namespace L2
open PySem PySem.Spec PyProof.Rows
theorem DpAll.len {K : PySem.W.Frag} {H : Hp} : ∀ {ds : List PyData} {vs : List V}, DpAll K H vs ds → vs.length = ds.length
  | [], _, h => by cases h; rfl
  | d :: ds, _, h => by
    cases h with
    | cons _ h2 => rw [List.length_cons, List.length_cons, DpAll.len h2]
theorem DpAll.get {K : PySem.W.Frag} {H : Hp} : ∀ {ds : List PyData} {vs : List V} {i : Nat} {d : PyData}, DpAll K H vs ds → ds[i]? = some d → ∃ v, vs[i]? = some v ∧ Dp K H v d
  | [], _, _, _, _, e => by simp at e
  | d :: ds, _, 0, _, h, e => by
    cases h with
    | cons h1 _ =>
      simp only [List.getElem?_cons_zero, Option.some.injEq] at e
      subst e
      exact ⟨_, rfl, h1⟩
  | d :: ds, _, i + 1, _, h, e => by
    cases h with
    | cons _ h2 =>
      obtain ⟨v, q, r⟩ := DpAll.get h2 (show ds[i]? = some _ by simpa using e)
      exact ⟨v, by simpa using q, r⟩
theorem DpAll.app {K : PySem.W.Frag} {H : Hp} : ∀ {ds es : List PyData} {vs ws : List V}, DpAll K H vs ds → DpAll K H ws es → DpAll K H (vs ++ ws) (ds ++ es)
  | [], _, _, _, h, g => by cases h; exact g
  | d :: ds, _, _, _, h, g => by
    cases h with
    | cons h1 h2 => exact .cons h1 (DpAll.app h2 g)
theorem Dp.tup_inv {K : PySem.W.Frag} {H : Hp} {v : V} {ds : List PyData} (h : Dp K H v (.tuple ds)) : ∃ a xs, v = .ref a ∧ SqT K H a xs ∧ DpAll K H xs ds := by
  cases h with
  | tup hs ha => exact ⟨_, _, rfl, hs, ha⟩
theorem Dp.str_inv {K : PySem.W.Frag} {H : Hp} {v : V} {x : PySem.Str} (h : Dp K H v (.str x)) : v = .str x := by cases h; rfl
theorem Dp.int_inv {K : PySem.W.Frag} {H : Hp} {v : V} {x : Int} (h : Dp K H v (.int x)) : v = .int x := by cases h; rfl
end L2
namespace Ind
open PySem PySem.Spec PyProof.Rows L2
/-! ### repr of data, where no repr is under way -/
def rReprD (K : PySem.W.Frag) : List V → Hp → VK → Prop := fun xs H Q => ∃ x d, xs = [x] ∧ Dp K H x d ∧ d.showable = true ∧ d.hasDict = false ∧ d.depth ≤ 60 ∧ d.shown.length ≤ sizeLine ∧ Q (.str d.shown) H
section
variable {X : Cx}
theorem call_reprD (hg : X.A.guards = some []) (hu : X.A.units + 64 < cLine) : CallR X (.builtin "repr") (rReprD X.K) := by
  intro pins s σ H xs us Q I r h
  obtain ⟨x, d, rfl, hd, hs, nd, dep, len, q⟩ := h
  obtain ⟨u, rfl, ru⟩ := vals1 r
  cases x with
  | ref a =>
    obtain ⟨as, rd⟩ := Dp.reads I d _ u hd ru
    cases (show u = Value.ref a from ru)
    refine repr_of_reads' rd hs (fun e => by rw [nd] at e; cases e) hg (by omega) (fun _ _ e => e) (fun h' u' tk keep => ?_) len
    exact ⟨.str d.shown, H, I.kept keep, ⟨_, rfl⟩, q⟩
  | int i =>
    cases hd
    obtain ⟨t, rfl⟩ := (show ∃ t, u = Value.int i t from ru)
    exact PySem.P.repr_of_int (by simpa [PyData.showable] using hs) ⟨.str (toString i), H, I.tok _, ⟨_, rfl⟩, q⟩
  | str z =>
    cases hd
    obtain ⟨t, rfl⟩ := (show ∃ t, u = Value.str z t from ru)
    exact PySem.P.repr_of_str ⟨.str (reprText z), H, I.tok _, ⟨_, rfl⟩, q⟩ len
  | bl b =>
    cases hd
    cases (show u = Value.bool b from ru)
    exact PySem.P.repr_of_bool ⟨.str (if b then "True" else "False"), H, I.tok _, ⟨_, rfl⟩, q⟩
  | non =>
    cases hd
    cases (show u = Value.none from ru)
    exact PySem.P.repr_of_none ⟨.str "None", H, I.tok _, ⟨_, rfl⟩, q⟩
  | _ => cases hd
/-- tuple(xs): the new object is known to have no dict -/
theorem call_tupleZ : CallR X (.type "tuple") (fun xs H Q => ∃ p ys, xs = [.ref p] ∧ SqL X.K H p ys ∧ ∀ l o, H l = none → o.dict = none → Q (.ref l) (upd H l (.frz o (.tup ys)))) := by
  intro pins s σ H xs us Q I r h
  obtain ⟨p, ys, rfl, hq, q⟩ := h
  obtain ⟨u, rfl, rx⟩ := vals1 r
  cases rx
  obtain ⟨its, rv, pl, small⟩ := I.list hq
  have same := rv.length
  apply call_tuple_list pl.isList
  · intro h' kp
    have I1 : Inv X pins σ H { s with heap := h' } := I.kept (t' := s.toks) kp
    let o : Obj := { cls := .type "tuple", data := .seq its.toArray }
    have at_ : (h'.push o).get? h'.objs.size = some o := Heap.get?_push_size _ rfl
    have I2 : Inv X pins σ (upd H h'.objs.size (.frz o (.tup ys))) { s with heap := h'.push o } := by
      apply I1.laid (t' := s.toks) (fun b ob e => Heap.get?_push_of_some _ e) (Nat.le_refl _)
      exact ⟨at_, small, its, rv, IsTup.new _ _⟩
    exact ⟨.ref h'.objs.size, _, I2, rfl, q _ o (I1.hok.fresh (Nat.le_refl _)) rfl⟩
/-- dict(t), t such a tuple of pairs -/
def rDictT (K : PySem.W.Frag) : List V → Hp → VK → Prop := fun xs H Q => ∃ (a : Addr) (o : Obj) (ps : List Addr) (kvs : List (Key × V)), xs = [.ref a] ∧ H a = some (.frz o (.tup (ps.map V.ref))) ∧ o.dict = none ∧
  Paired (fun p kv => SqT K H p [kV kv.1, kv.2]) ps kvs ∧ ∀ p, H p = none → Q (.ref p) (upd H p (.dK (mergeK [] kvs)))
theorem call_dictT (calm : X.calm = true) : CallR X (.type "dict") (rDictT X.K) := by
  intro pins s σ H xs us Q I r h
  obtain ⟨a, o, ps, kvs, rfl, ha, nod, hp, q⟩ := h
  obtain ⟨u, rfl, ru⟩ := vals1 r
  cases (show u = Value.ref a from ru)
  obtain ⟨ho, small, its, rv, o', ho', hc, n, hdat⟩ := I.hok a _ ha
  rw [ho] at ho'
  cases ho'
  have ei := refs_at rv
  subst ei
  obtain ⟨prs, rel, hl, hpr⟩ := pairs_of I hp
  rw [List.length_map] at small
  -- the pairs as values
  have vals : ∃ vps : List (Value × Value), vps.length = ps.length ∧ PairItems s.heap (ps.map Value.ref).toArray (fun j => ps.getD j 0) vps ∧ ∀ (j : Nat) (k v : Value), vps[j]? = some (k, v) → ∃ kk, prs[j]? = some (kk, v) ∧ keyIs kk k = true := by
    have aux : ∀ j, j < ps.length → ∃ kv : Value × Value, (∃ kk, prs[j]? = some (kk, kv.2) ∧ keyIs kk kv.1 = true) ∧ IsTup s.heap (ps.getD j 0) #[kv.1, kv.2] := by
      intro j hj
      obtain ⟨qv, eq⟩ : ∃ qv, prs[j]? = some qv := ⟨prs[j], List.getElem?_eq_getElem (by omega)⟩
      obtain ⟨b, u, e1, e2, e3⟩ := hpr j qv eq
      have eb : ps.getD j 0 = b := by rw [List.getD_eq_getElem?_getD, e1]; rfl
      exact ⟨(u, qv.2), ⟨qv.1, eq, e3⟩, by rw [eb]; exact e2⟩
    refine ⟨(List.range ps.length).map (fun j => if hj : j < ps.length then Classical.choose (aux j hj) else (.none, .none)), by simp, ⟨by simp, ?_⟩, ?_⟩
    · intro j k v e
      rw [List.getElem?_map] at e
      cases er : (List.range ps.length)[j]? with
      | none => rw [er] at e; cases e
      | some i =>
        obtain ⟨hi, ei⟩ := List.getElem?_eq_some_iff.mp er
        rw [List.getElem_range] at ei
        subst ei
        have hj : j < ps.length := by simpa using hi
        rw [er] at e
        simp only [Option.map_some, hj, dif_pos, Option.some.injEq] at e
        have sp := Classical.choose_spec (aux j hj)
        rw [e] at sp
        refine ⟨?_, .inl sp.2⟩
        simp [hj, List.getD_eq_getElem?_getD]
    · intro j k v e
      rw [List.getElem?_map] at e
      cases er : (List.range ps.length)[j]? with
      | none => rw [er] at e; cases e
      | some i =>
        obtain ⟨hi, ei⟩ := List.getElem?_eq_some_iff.mp er
        rw [List.getElem_range] at ei
        subst ei
        have hj : j < ps.length := by simpa using hi
        rw [er] at e
        simp only [Option.map_some, hj, dif_pos, Option.some.injEq] at e
        have sp := Classical.choose_spec (aux j hj)
        rw [e] at sp
        exact sp.1
  obtain ⟨vps, vl, vi, vk⟩ := vals
  refine PySem.call_dict_pairs (knd := mixKind X.prog X.w) (kvs := prs) (PairArg.tuple a _ _ vps) (I.ok.hd calm) ⟨⟨o, n, ho, hc, nod, hdat⟩, vi⟩ ⟨by rw [hl, vl], fun i key v e => ?_⟩ (by rw [vl]; exact small) fun h' tk hd' keep => ?_
  · obtain ⟨kk, e1, e2⟩ := vk i key v e
    exact ⟨kk, e1, e2⟩
  · have hm : (s.heap.objs.size == sysModules) = false := beq_eq_false_iff_ne.mpr (Nat.ne_of_gt I.big)
    have hlen : (mergeK [] kvs).length ≤ sizeLine := by
      have l1 := length_mergeK kvs []
      have l2 := rel.length
      rw [List.length_nil, Nat.zero_add] at l1
      omega
    have keep' : ∀ b ob, s.heap.get? b = some ob → h'.get? b = some ob := fun b ob e => keep b ob (by simp) e
    refine ⟨.ref s.heap.objs.size, upd H s.heap.objs.size (.dK (mergeK [] kvs)), ?_, rfl, q _ (I.hok.fresh (Nat.le_refl _))⟩
    exact I.laid (t' := tk) keep' (Nat.le_refl _) (show ObjOk X.prog X.w _ _ _ (.dK (mergeK [] kvs)) from ⟨hlen, hm, merged [] prs, KV.merge rel .nil, hd'⟩)
/-- t.index(x) of texts -/
def rTIndex (K : PySem.W.Frag) : V → List V → Hp → VK → Prop := fun x xs H Q => ∃ (a : Addr) (ys : List PySem.Str) (y : PySem.Str), x = .ref a ∧ xs = [.str y] ∧ SqT K H a (ys.map V.str) ∧ y ∈ ys ∧ Q (.int (ys.idxOf y : Nat)) H
theorem mt_tindex : MtR X "tuple.index" (rTIndex X.K) := by
  intro pins s σ H x xs v us Q I rx rxs h
  obtain ⟨a, ys, y, rfl, rfl, hs, hy, q⟩ := h
  cases rx
  obtain ⟨u, rfl, ru⟩ := vals1 rxs
  obtain ⟨t, rfl⟩ := (show ∃ t, u = Value.str y t from ru)
  obtain ⟨its, rv, pl, _⟩ := I.tuple hs
  have sa := Vals.strs rv
  exact SeqAt.call_tuple_index pl (SeqAt.ItemsEq.strs sa) hy ⟨.int _, H, I.tok _, ⟨_, rfl⟩, q⟩
end
end Ind

set_option Elab.async false
set_option linter.all false
set_option maxRecDepth 100000
set_option maxHeartbeats 4000000
namespace IndEnd
open PySem PySem.Spec PyProof.Rows L2
/-- a def called where the caller stands: its body's reading is asked at this Around alone -/
theorem fun_at {P : Program} {w : World} {K : PySem.W.Frag} {mg : Str → Option Value} {base : Heap} {x qual : Str} {st : Stmt} {f : Addr} {fd : FuncData} {N ps : List Str} {k : Nat} {A : Around} {outer : List Env} {s : Shared} {H : Hp} {us : List Value} {vs : List V} {Q : VK}
    (F : Fun K x qual st f fd) (S : FnScope N ps (defScope st)) (room : Room (k + 1) A) (e0 : Env0 P w K mg base A outer s H) (bt : BindsTo s fd ⟨us, []⟩ (ps.zip us)) (rv : Vals vs us) (len : vs.length = ps.length)
    (body : ∀ cdv : Value, Room k (A.deeper (envOfC qual (defScope st) s.heap.objs.size f cdv)) →
      ∃ t, PSs (cxOf CX0 P w K mg base N qual (defScope st) f cdv A outer s H E0).nox (defBody st) t ∧ t { nx := fun _ H' => Q .non H', rt := Q } (start N vs) H) :
    codeAny (model P w) A (.call (.ref f) ⟨us, []⟩) (CR CX0 outer P w H s Q E0) s := by
  obtain ⟨oc, od, kV, doc, pm, an, cdv, ct, osl, rfl, lk, cin⟩ := F.ex
  have keep : ∀ b o, base.get? b = some o → s.heap.get? b = some o := fun b o e => (e0.bs b o e).1
  have KX : K.In s.heap := e0.mod.kin.keeps keep
  have kinds : ∀ y ∈ ps.zip us, (defScope st).names.lookup y.1 = some .local ∨ ((defScope st).names.lookup y.1 = some .cell ∧ ((cellsFrom (s.heap.objs.size + 1) (defScope st).names []).lookup y.1).isSome = true) := by
    rintro ⟨n, v⟩ hy
    have hn : n ∈ ps := (List.of_mem_zip hy).1
    cases S.par n hn with
    | inl q => exact .inl q
    | inr q => exact .inr ⟨q, PySem.W.cellsFrom_some _ _ _ (.inl q)⟩
  apply codeAny_call_function room.depth (KX _ _ lk) rfl S.co S.gen rfl (PySem.W.codeRec_of KX cin)
  apply bt
  apply wpAny_newFunctionEnv_cells S.kind kinds
  intro env he s1 ic
  subst he
  have lim := (e0.mod.nolimit.keeps keep).keeps ic.toInCall.keep
  refine ⟨lim, codeAny_func ?_⟩
  obtain ⟨t, ht, hq⟩ := body cdv (room.deeper _)
  have I := inv_start (CX := CX0) (E := E0) S room.hd e0 len rv ic
  refine wpAny_mono (ht.nox.run [] s1 _ H _ I hq) ?_ (fun _ _ z => z)
  intro fl s' hs
  cases fl with
  | ret u => obtain ⟨v, σ', H', J, r, q⟩ := hs; exact ⟨v, H', J.os, J.bare, J.base, J.hok, r, q⟩
  | next => obtain ⟨σ', H', J, q⟩ := hs; exact ⟨V.non, H', J.os, J.bare, J.base, J.hok, rfl, q⟩
  | brk => obtain ⟨_, _, _, q⟩ := hs; exact q.elim
  | cont => obtain ⟨_, _, _, q⟩ := hs; exact q.elim

/-- what is tracked ahead of the law: the script, frozen, or nothing (it is an object of the written part) -/
def start0 (K : PySem.W.Frag) (a : Addr) (o : Obj) (ns : List Int) : Hp := fun b =>
  if b = a ∧ K.lookup a = none then some (.frz o (.lst (ns.map V.int))) else none
theorem start0_some {K : PySem.W.Frag} {a b : Addr} {o : Obj} {ns : List Int} {u : HO} (h : start0 K a o ns b = some u) : b = a ∧ K.lookup a = none ∧ u = .frz o (.lst (ns.map V.int)) := by
  unfold start0 at h
  split at h
  · rename_i c; cases h; exact ⟨c.1, c.2, rfl⟩
  · cases h
theorem law_go {P : Program} {w : World} {K : PySem.W.Frag} {mg mb : Str → Option Value} {fa a : Addr} {s₁ : Shared} {vs : List Value} {ns : List Int}
    (KX : K.In s₁.heap) (hns : s₁.heap.Ns mainGlobals mg) (hb : s₁.heap.Ns builtinsNs mb) (hbb : ∀ x : Str, x ≠ "__name__" → mb x = bootBuiltins x) (hlim : s₁.heap.NoLimit) (hg : s₁.gens = #[])
    (ha : s₁.heap.get? a = some { cls := .type "list", data := .seq vs.toArray }) (hi : IntsAre vs ns) (hl : ns.length ≤ sizeLine)
    (F : ∀ base : Heap, K.In base → base.Ns mainGlobals mg → ∀ H : Hp, Env0 P w K mg base callerA [] s₁ H → SqL K H a (ns.map V.int) →
      codeAny (model P w) callerA (.call (.ref fa) ⟨[.ref a], []⟩) (CR CX0 [] P w H s₁ (fun v _ => v = .bl true) E0) s₁) :
    codeAny (model P w) callerA (.call (.ref fa) ⟨[.ref a], []⟩) (fun r s' => r = .ok (.ret (.bool true)) ∧ OldK s₁.heap s'.heap ∧ s'.os = s₁.os ∧ AllBare s'.gens) s₁ := by
  have rv := vals_ints hi
  have hlen := hi.length
  let o : Obj := { cls := .type "list", data := .seq vs.toArray }
  let H := start0 K a o ns
  have SQ : SqL K H a (ns.map V.int) := by
    cases hk : K.lookup a with
    | none => exact .inl (.inr ⟨o, by show start0 K a o ns a = _; unfold start0; rw [if_pos ⟨rfl, hk⟩]⟩)
    | some o' =>
      have e := KX a o' hk
      rw [ha] at e
      cases e
      refine .inr ⟨_, vs.toArray, _, hk, rfl, rfl, rfl, ?_, ?_⟩
      · rw [List.size_toArray, hlen]; exact hl
      · simpa using rv
  have OK : HOk P w H s₁.heap := fun b u e => by
    obtain ⟨rfl, _, rfl⟩ := start0_some e
    exact ⟨ha, by rw [List.length_map]; exact hl, vs, _, rv, ha⟩
  have under : ∀ {b : Addr} {ob : Obj}, s₁.heap.get? b = some ob → H b = none → (hidT s₁.heap H).get? b = some ob := fun e n => hidT_get e n
  have nsp : ∀ {b : Addr} {m : Str → Option Value}, s₁.heap.Ns b m → (hidT s₁.heap H).Ns b m := by
    rintro b m ⟨ob, es, ep, e, d, r⟩
    refine ⟨ob, es, ep, under e ?_, d, r⟩
    cases q : H b with
    | none => rfl
    | some u =>
      obtain ⟨rfl, _, _⟩ := start0_some q
      rw [ha] at e
      cases e
      cases d
  have KB : K.In (hidT s₁.heap H) := fun b ob e => under (KX b ob e) (by
    cases q : H b with
    | none => rfl
    | some u =>
      obtain ⟨rfl, n, _⟩ := start0_some q
      rw [n] at e
      cases e)
  have lim2 : (hidT s₁.heap H).NoLimit := by
    obtain ⟨mc, h1, h2⟩ := hlim
    exact ⟨mc, nsp h1, h2⟩
  have e0 : Env0 P w K mg (hidT s₁.heap H) callerA [] s₁ H := by
    refine ⟨rfl, ⟨KB, nsp hns, ⟨mb, nsp hb, hbb⟩, lim2⟩, fun b ob e => of_hidT e, Nat.le_of_eq (hidT_size _ _), trivial, fun b z => ?_, OK, .of_eq hg⟩
    exact absurd (show b ∈ ([] : List Addr) from z) (by simp)
  refine codeAny_mono (F _ KB (nsp hns) H e0 SQ) fun r s' h => ?_
  match r, h with
  | .error e, h => exact h.elim
  | .ok (.next), h => exact False.elim h
  | .ok (.brk), h => exact False.elim h
  | .ok (.cont), h => exact False.elim h
  | .ok (.ret u), h =>
    obtain ⟨v, H', os, bare, un, ok', rel, q⟩ := h
    have q1 : v = .bl true := q
    subst q1
    have q2 : u = Value.bool true := rel
    subst q2
    refine ⟨rfl, OldK.of_keep fun b ob e => ?_, os, bare⟩
    cases q : H b with
    | none => exact un.keep b ob e q (fun z => absurd (show b ∈ ([] : List Addr) from z) (by simp)) (by simp)
    | some u =>
      obtain ⟨rfl, _, rfl⟩ := start0_some q
      obtain ⟨z, _⟩ := ok' b _ (un.frzs b _ _ q)
      rw [ha] at e
      cases e
      exact z
/-- the goal that k_head leaves -/
theorem walk_at_caller {l : PySem.W.OpenLaw} {n : Nat} {q : Program} {loose : List Str} {XP : (Str → Option Value) → Heap → Prop} {YP : World → Heap → Prop} {d : DefRec} {K : Params → PySem.W.Frag}
    (hn : l.most = some n) (hn2 : n ≤ sizeLine) (hdf : d.params.defaults = []) (hY : ∀ (w : World) (h : Heap), YP w h → (K w.params).In h)
    (F : ∀ (w : World) (mg : Str → Option Value) (fa : Addr) (h : Heap), (K w.params).In h → h.Ns mainGlobals mg → mg d.name = some (.ref fa) →
      ∀ (base : Heap) (s : Shared) (H : Hp) (a : Addr) (ns : List Int), (K w.params).In base → base.Ns mainGlobals mg → Env0 l.prog w (K w.params) mg base callerA [] s H → ns.length ≤ n → SqL (K w.params) H a (ns.map V.int) →
        codeAny (model l.prog w) callerA (.call (.ref fa) ⟨[.ref a], []⟩) (CR CX0 [] l.prog w H s (fun v _ => v = .bl true) E0) s) :
    PySem.W.WalkO q loose XP YP l.row.toRowW d [] (fun f vs => PySem.call f vs) := by
  apply Att.attach_call hn hdf
  intro w s₀ s₁ mg mb fa o pm cd doc a vs ns G Y ho hd hcd hmg hobj hints hlen hg
  have KX := hY w _ Y
  exact law_go KX G.T.g G.T.b G.T.builtins G.T.nolimit hg hobj hints (Nat.le_trans hlen hn2) fun base hk hb H e0 hS => F w mg fa _ KX G.T.g hmg base s₁ H a ns hk hb e0 hlen hS
end IndEnd

set_option Elab.async false
set_option linter.all false
set_option maxRecDepth 100000
set_option maxHeartbeats 4000000
namespace Ind
open PySem PySem.Spec PyProof.Rows L2
abbrev S := PySem.Str
/-! ### the data of expressions -/
inductive Op where
  | col (n : S)
  | num (i : Int)
  | txt (x : S)
def Op.d : Op → PyData
  | .col n => .tuple [.str "column", .str n]
  | .num i => .tuple [.str "integer", .int i]
  | .txt x => .tuple [.str "string", .str x]
abbrev Kd := Option Int
def kdD : Kd → PyData
  | none => .tuple [.str "string"]
  | some b => .tuple [.str "integer", .int b]
abbrev Col := S × Kd
def colD (c : Col) : PyData := .tuple [.str c.1, kdD c.2]
structure Tm where
  plus : Bool
  op : Op
def sgS : Bool → S
  | true => "+"
  | false => "-"
def Tm.d (t : Tm) : PyData := .tuple [.str (sgS t.plus), t.op.d]
def exD (ts : List Tm) : PyData := .tuple (ts.map Tm.d)
theorem tO_op (o : Op) : tuplesOnly o.d = true := by cases o <;> rfl
theorem tO_kd (k : Kd) : tuplesOnly (kdD k) = true := by cases k <;> rfl
theorem tO_col (c : Col) : tuplesOnly (colD c) = true := by
  show (true && (tuplesOnly (kdD c.2) && true)) = true
  rw [tO_kd]; rfl
theorem tO_tm (t : Tm) : tuplesOnly t.d = true := by
  show (true && (tuplesOnly t.op.d && true)) = true
  rw [tO_op]; rfl
theorem tO_all {α : Type} (f : α → PyData) (h : ∀ a, tuplesOnly (f a) = true) : ∀ l : List α, tuplesOnlyAll (l.map f) = true
  | [] => rfl
  | a :: l => by
    show (tuplesOnly (f a) && tuplesOnlyAll (l.map f)) = true
    rw [h, tO_all f h l]; rfl
theorem tO_ex (ts : List Tm) : tuplesOnly (exD ts) = true := tO_all _ tO_tm ts
def KdOk : Kd → Prop
  | none => True
  | some b => 0 ≤ b ∧ b ≤ 1000000000000
structure ColsOk (cs : List Col) : Prop where
  nd : (cs.map (·.1)).Nodup
  kd : ∀ c ∈ cs, KdOk c.2
  len : cs.length ≤ 10
  nm : ∀ c ∈ cs, TxtOk c.1
/-- the columns as they stand -/
def ColsAt (K : PySem.W.Frag) (H : Hp) (v : V) (cs : List Col) : Prop := ∃ (a : Addr) (o : Obj) (ps : List Addr), v = .ref a ∧ H a = some (.frz o (.tup (ps.map V.ref))) ∧ o.dict = none ∧ DpAll K H (ps.map V.ref) (cs.map colD)
theorem ColsAt.kp {K : PySem.W.Frag} {H H' : Hp} {v : V} {cs : List Col} (k : Kp H H') (h : ColsAt K H v cs) : ColsAt K H' v cs := by
  obtain ⟨a, o, ps, e, h1, h2, h3⟩ := h
  exact ⟨a, o, ps, e, k.frz _ _ _ h1, h2, DpAll.kp k _ _ (tO_all _ tO_col cs) h3⟩
/-- the bound of an operand as the law reckons it -/
def opBound (cs : List Col) : Op → Int
  | .num i => if i < 0 then -i else i
  | .txt _ => 0
  | .col n => match cs.find? (fun c => decide (c.1 = n) && c.2.isSome) with
    | some (_, some b) => b
    | _ => 0
def OpInt (cs : List Col) : Op → Prop
  | .num i => -1000000 ≤ i ∧ i ≤ 1000000
  | .txt _ => False
  | .col n => ∃ b, (n, some b) ∈ cs
def OpTxt (cs : List Col) : Op → Prop
  | .num _ => False
  | .txt x => TxtOk x
  | .col n => (n, none) ∈ cs
def OpOk (cs : List Col) (word : Bool) (o : Op) : Prop := if word then OpTxt cs o else OpInt cs o
def wordS : Bool → S
  | true => "string"
  | false => "integer"
/-- an expression of the law's making -/
structure ExOk (cs : List Col) (word : Bool) (ts : List Tm) : Prop where
  ne : ts ≠ []
  first : ∀ t, ts.head? = some t → t.plus = true
  ops : ∀ t ∈ ts, OpOk cs word t.op
  one : word = true → ts.length = 1
  sum : (ts.map fun t => opBound cs t.op).sum ≤ 1000000000000
  len : ts.length ≤ 20
/-- the values of a row -/
def ValIn : Kd → V → Prop
  | none, .str x => TxtOk x
  | some b, .int i => -b ≤ i ∧ i ≤ b
  | _, _ => False
inductive RowIn : List Col → List V → Prop
  | nil : RowIn [] []
  | cons {c : Col} {v : V} {cs : List Col} {vs : List V} : ValIn c.2 v → RowIn cs vs → RowIn (c :: cs) (v :: vs)
theorem RowIn.len {cs : List Col} {vs : List V} (h : RowIn cs vs) : vs.length = cs.length := by induction h <;> simp_all
theorem RowIn.get : ∀ {cs : List Col} {vs : List V} {i : Nat} {c : Col}, RowIn cs vs → cs[i]? = some c → ∃ v, vs[i]? = some v ∧ ValIn c.2 v
  | _, _, _, _, .nil, e => by simp at e
  | _, _, 0, _, .cons h _, e => by
    simp only [List.getElem?_cons_zero, Option.some.injEq] at e
    subst e
    exact ⟨_, rfl, h⟩
  | _, _, i + 1, _, .cons _ t, e => by
    obtain ⟨v, q, r⟩ := RowIn.get t (show _ = some _ by simpa using e)
    exact ⟨v, by simpa using q, r⟩
theorem RowIn.snoc : ∀ {cs : List Col} {vs : List V} {c : Col} {v : V}, RowIn cs vs → ValIn c.2 v → RowIn (cs ++ [c]) (vs ++ [v])
  | _, _, _, _, .nil, h => .cons h .nil
  | _, _, _, _, .cons a t, h => .cons a (RowIn.snoc t h)
/-- an operand's value -/
def opVal (cs : List Col) (vs : List V) : Op → V
  | .num i => .int i
  | .txt x => .str x
  | .col n => vs.getD ((cs.map (·.1)).idxOf n) .non
def iOf : V → Int
  | .int i => i
  | _ => 0
def tmVal (cs : List Col) (vs : List V) (t : Tm) : Int := if t.plus then iOf (opVal cs vs t.op) else -iOf (opVal cs vs t.op)
/-- the value of an expression -/
def exVal (cs : List Col) (vs : List V) : List Tm → V
  | [t] => opVal cs vs t.op
  | ts => .int (ts.map (tmVal cs vs)).sum
def exKd (cs : List Col) (word : Bool) (ts : List Tm) : Kd := if word then none else some (ts.map fun t => opBound cs t.op).sum
/-! ### promises -/
def spName : Sp := fun vs H Q _ => ∃ (t : Tp), vs = [.ref t.a] ∧ TapeAt H t ∧ ∀ H' x, Fz t.a H H' → TapeAt H' t → TxtOk x → Q (.str x) H'
def spNames : Sp := fun vs H Q _ => ∃ (t : Tp) (m : Int), vs = [.ref t.a, .int m] ∧ TapeAt H t ∧ (0 ≤ m ∧ m ≤ 10) ∧ ∀ H' p (ns : List S), Fz t.a H H' → TapeAt H' t → H p = none → H' p = some (.lst (ns.map V.str)) → ns.Nodup → ns.length ≤ m.toNat → (∀ n ∈ ns, TxtOk n) → Q (.ref p) H'
def spNumber : Sp := fun vs H Q _ => ∃ (t : Tp), vs = [.ref t.a] ∧ TapeAt H t ∧ ∀ H' i, Fz t.a H H' → TapeAt H' t → (-1000000 ≤ i ∧ i ≤ 1000000) → Q (.int i) H'
def spKind (K : PySem.W.Frag) : Sp := fun vs H Q _ => ∃ (t : Tp), vs = [.ref t.a] ∧ TapeAt H t ∧ ∀ H' v k, Fz t.a H H' → TapeAt H' t → Dp K H' v (kdD k) → KdOk k → Q v H'
def spValue (K : PySem.W.Frag) : Sp := fun vs H Q _ => ∃ (t : Tp) (v : V) (k : Kd), vs = [.ref t.a, v] ∧ TapeAt H t ∧ Dp K H v (kdD k) ∧ KdOk k ∧ ∀ H' u, Fz t.a H H' → TapeAt H' t → ValIn k u → Q u H'
def spColumns (K : PySem.W.Frag) : Sp := fun vs H Q _ => ∃ (t : Tp) (m : Int), vs = [.ref t.a, .int m] ∧ TapeAt H t ∧ (0 ≤ m ∧ m ≤ 10) ∧ ∀ H' v cs, Fz t.a H H' → TapeAt H' t → ColsAt K H' v cs → ColsOk cs → Q v H'
def spBound (K : PySem.W.Frag) : Sp := fun vs H Q _ => ∃ (v c : V) (o : Op) (cs : List Col) (b : Bool), vs = [v, c] ∧ Dp K H v o.d ∧ ColsAt K H c cs ∧ ColsOk cs ∧ OpOk cs b o ∧ ∀ H', Same H H' → Q (.int (opBound cs o)) H'
def spOperand (K : PySem.W.Frag) : Sp := fun vs H Q _ => ∃ (t : Tp) (c : V) (cs : List Col) (b : Bool), vs = [.ref t.a, c, .str (wordS b)] ∧ TapeAt H t ∧ ColsAt K H c cs ∧ ColsOk cs ∧ ∀ H' v o, Fz t.a H H' → TapeAt H' t → Dp K H' v o.d → OpOk cs b o → Q v H'
def spExpression (K : PySem.W.Frag) : Sp := fun vs H Q _ => ∃ (t : Tp) (c : V) (cs : List Col) (b : Bool), vs = [.ref t.a, c, .str (wordS b), .int 11] ∧ TapeAt H t ∧ ColsAt K H c cs ∧ ColsOk cs ∧ ∀ H' v ts, Fz t.a H H' → TapeAt H' t → Dp K H' v (exD ts) → ExOk cs b ts → Q v H'
def spSum (K : PySem.W.Frag) : Sp := fun vs H Q _ => ∃ (v c : V) (ts : List Tm) (cs : List Col) (b : Bool), vs = [v, c] ∧ Dp K H v (exD ts) ∧ ts.length ≤ 20 ∧ ColsAt K H c cs ∧ ColsOk cs ∧ (∀ t ∈ ts, OpOk cs b t.op) ∧ ∀ H', Same H H' → Q (.int (ts.map fun t => opBound cs t.op).sum) H'
/-- names and a row as they stand -/
def NamesAt (K : PySem.W.Frag) (H : Hp) (v : V) (cs : List Col) : Prop := ∃ (a : Addr) (o : Obj), v = .ref a ∧ H a = some (.frz o (.tup (cs.map fun c => V.str c.1))) ∧ o.dict = none
def RowAt (K : PySem.W.Frag) (H : Hp) (v : V) (vs : List V) : Prop := ∃ a, v = .ref a ∧ SqT K H a vs
def spDue (K : PySem.W.Frag) : Sp := fun xs H Q _ => ∃ (e n r : V) (ts : List Tm) (cs : List Col) (vs : List V) (b : Bool), xs = [e, n, r] ∧ Dp K H e (exD ts) ∧ ExOk cs b ts ∧ ColsOk cs ∧ NamesAt K H n cs ∧ RowAt K H r vs ∧ RowIn cs vs ∧ ∀ H', Same H H' → Q (exVal cs vs ts) H'
/-- each column at most once, each constant with the sign of its term -/
structure Straight (cs : List Col) (ts : List Tm) : Prop where
  nd : (ts.filterMap fun t => match t.op with | .col n => some n | _ => none).Nodup
  signs : ∀ t ∈ ts, ∀ i, t.op = .num i → if t.plus then 0 ≤ i else i ≤ 0
def spStraight (K : PySem.W.Frag) : Sp := fun vs H Q _ => ∃ (t : Tp) (c : V) (cs : List Col), vs = [.ref t.a, c] ∧ TapeAt H t ∧ ColsAt K H c cs ∧ ColsOk cs ∧ ∀ H' v ts, Fz t.a H H' → TapeAt H' t → Dp K H' v (exD ts) → ExOk cs false ts → Straight cs ts → Q v H'
/-- the row that brings the expression to its bound -/
def farVal (ts : List Tm) (c : Col) (v : V) : V := ts.foldl (fun v t => match t.op, c.2 with | .col n, some b => if n = c.1 then (if t.plus then .int b else .int (-b)) else v | _, _ => v) v
def spFarthest (K : PySem.W.Frag) : Sp := fun xs H Q _ => ∃ (t : Tp) (c e : V) (cs : List Col) (ts : List Tm), xs = [.ref t.a, c, e] ∧ TapeAt H t ∧ ColsAt K H c cs ∧ ColsOk cs ∧ Dp K H e (exD ts) ∧ ExOk cs false ts ∧ ts.length ≤ 20 ∧
  ∀ H' r vs us, Fz t.a H H' → TapeAt H' t → RowAt K H' r vs → RowIn cs us → vs = (cs.zip us).map (fun p => farVal ts p.1 p.2) → Q r H'
end Ind

set_option Elab.async false
set_option linter.all false
set_option maxRecDepth 100000
set_option maxHeartbeats 4000000
namespace Ind
open PySem PySem.Spec PyProof.Rows L2
theorem pickT {ss : List S} {i : Int} (h0 : 0 ≤ i) (h1 : i < (ss.length : Int)) : ∃ x, atI (ss.map V.str) i = some (.str x) ∧ x ∈ ss := by
  have hlt : i.toNat < ss.length := by omega
  refine ⟨ss[i.toNat], at_of (show i = (i.toNat : Int) by omega) ?_, List.getElem_mem hlt⟩
  rw [List.getElem?_map, List.getElem?_eq_getElem hlt]
  rfl
abbrev nmSigns : S := "abcdefghijklmnopqrstuvwxyz0123456789_"
theorem nmSigns_len : nmSigns.length = 37 := by decide +kernel
theorem nm_all : ∀ c ∈ nmSigns.cps.toList, Sgn c := by decide +kernel
theorem nm_pick {i : Int} (h0 : 0 ≤ i) (h1 : i < 37) : ∃ c, atI nmSigns.cps.toList i = some c ∧ Sgn c := by
  obtain ⟨c, e, m⟩ := pickS (l := nmSigns.cps.toList) h0 (by rw [← codes_len, nmSigns_len]; omega)
  exact ⟨c, e, nm_all c m⟩
theorem flat_strs (ns : List S) : (ns.map V.str).all flatV = true := by
  rw [List.all_eq_true]
  intro v h
  obtain ⟨x, _, rfl⟩ := List.mem_map.mp h
  rfl
theorem inV_strs (x : S) (ns : List S) : inV (.str x) (ns.map V.str) = decide (x ∈ ns) := by
  unfold inV
  rw [List.any_map]
  by_cases h : x ∈ ns
  · rw [decide_eq_true h, List.any_eq_true]
    exact ⟨x, h, by simp [eqV]⟩
  · rw [decide_eq_false h, List.any_eq_false]
    intro y hy
    simp only [Function.comp, eqV]
    intro e
    exact h (by rw [← (beq_iff_eq.mp e : y = x)]; exact hy)
theorem txt_strOk {x : S} (h : TxtOk x) : PyData.strOk x = true := by
  unfold PyData.strOk
  rw [Array.all_eq_true']
  intro c hc
  have := (h.2 c (by simpa using hc)).2.1
  exact decide_eq_true (by omega)
end Ind

set_option Elab.async false
set_option linter.all false
set_option maxRecDepth 100000
set_option maxHeartbeats 4000000
namespace Ind
open PySem PySem.Spec PyProof.Rows L2
variable {K : PySem.W.Frag} {H : Hp}
theorem dp_one {v : V} {x : PyData} (h : Dp K H v (.tuple [x])) : ∃ a u, v = .ref a ∧ SqT K H a [u] ∧ Dp K H u x := by
  obtain ⟨a, xs, rfl, hs, hx⟩ := h.tup_inv
  cases hx with
  | cons h1 h2 => cases h2; exact ⟨a, _, rfl, hs, h1⟩
theorem dp_two {v : V} {x y : PyData} (h : Dp K H v (.tuple [x, y])) : ∃ a u1 u2, v = .ref a ∧ SqT K H a [u1, u2] ∧ Dp K H u1 x ∧ Dp K H u2 y := by
  obtain ⟨a, xs, rfl, hs, hx⟩ := h.tup_inv
  cases hx with
  | cons h1 h2 => cases h2 with
    | cons h2 h3 => cases h3; exact ⟨a, _, _, rfl, hs, h1, h2⟩
def wk : Kd → S
  | none => "string"
  | some _ => "integer"
theorem kd_at {v : V} {k : Kd} (h : Dp K H v (kdD k)) : ∃ a xs, v = .ref a ∧ SqT K H a (.str (wk k) :: xs) ∧ ∀ b, k = some b → xs = [.int b] := by
  cases k with
  | none =>
    obtain ⟨a, u, rfl, hs, h1⟩ := dp_one h
    cases h1.str_inv
    exact ⟨a, [], rfl, hs, fun b e => by cases e⟩
  | some b =>
    obtain ⟨a, u1, u2, rfl, hs, h1, h2⟩ := dp_two h
    cases h1.str_inv
    cases h2.int_inv
    exact ⟨a, _, rfl, hs, fun b e => by cases e; rfl⟩
def Op.word : Op → S
  | .col _ => "column"
  | .num _ => "integer"
  | .txt _ => "string"
def Op.cont : Op → V
  | .col n => .str n
  | .num i => .int i
  | .txt x => .str x
theorem op_at {v : V} {o : Op} (h : Dp K H v o.d) : ∃ a, v = .ref a ∧ SqT K H a [.str o.word, o.cont] := by
  cases o with
  | _ =>
    obtain ⟨a, u1, u2, rfl, hs, h1, h2⟩ := dp_two h
    cases h1.str_inv
    first | cases h2.str_inv | cases h2.int_inv
    exact ⟨a, rfl, hs⟩
theorem op_dp {a : Addr} {o : Op} (h : SqT K H a [.str o.word, o.cont]) : Dp K H (.ref a) o.d := by
  cases o with
  | col n => exact .tup h (.cons (.str _) (.cons (.str _) .nil))
  | num n => exact .tup h (.cons (.str _) (.cons (.int _) .nil))
  | txt n => exact .tup h (.cons (.str _) (.cons (.str _) .nil))
theorem tm_at {v : V} {t : Tm} (h : Dp K H v t.d) : ∃ a u, v = .ref a ∧ SqT K H a [.str (sgS t.plus), u] ∧ Dp K H u t.op.d := by
  obtain ⟨a, u1, u2, rfl, hs, h1, h2⟩ := dp_two h
  cases h1.str_inv
  exact ⟨a, u2, rfl, hs, h2⟩
theorem col_at {v : V} {c : Col} (h : Dp K H v (colD c)) : ∃ a u, v = .ref a ∧ SqT K H a [.str c.1, u] ∧ Dp K H u (kdD c.2) := by
  obtain ⟨a, u1, u2, rfl, hs, h1, h2⟩ := dp_two h
  cases h1.str_inv
  exact ⟨a, u2, rfl, hs, h2⟩
theorem map_get {α β : Type} {f : α → β} {l : List α} {i : Nat} {x : β} (h : (l.map f)[i]? = some x) : ∃ a, l[i]? = some a ∧ x = f a := by
  rw [List.getElem?_map] at h
  cases e : l[i]? with
  | none => rw [e] at h; cases h
  | some a => rw [e] at h; exact ⟨a, rfl, by cases h; rfl⟩
theorem take_more {α : Type} {l : List α} {i : Nat} {a : α} (h : l[i]? = some a) : l.take (i + 1) = l.take i ++ [a] := by
  rw [List.take_add_one, h]; rfl
theorem dps_get {vs : List V} {α : Type} {f : α → PyData} {l : List α} {i : Nat} {v : V} (h : DpAll K H vs (l.map f)) (e : vs[i]? = some v) : ∃ a, l[i]? = some a ∧ Dp K H v (f a) := by
  have hl : i < l.length := by
    have := h.len
    rw [List.length_map] at this
    rw [← this]
    exact (List.getElem?_eq_some_iff.mp e).1
  have el : (l.map f)[i]? = some (f l[i]) := by rw [List.getElem?_map, List.getElem?_eq_getElem hl]; rfl
  obtain ⟨v', e', d⟩ := h.get el
  rw [e] at e'
  cases e'
  exact ⟨l[i], List.getElem?_eq_getElem hl, d⟩
theorem ColsAt.tup {c : V} {cs : List Col} (h : ColsAt K H c cs) : ∃ (a : Addr) (ps : List Addr), c = .ref a ∧ SqT K H a (ps.map V.ref) ∧ DpAll K H (ps.map V.ref) (cs.map colD) := by
  obtain ⟨a, o, ps, e, h1, h2, h3⟩ := h
  exact ⟨a, ps, e, .inl (.inr ⟨o, h1⟩), h3⟩
theorem tO_cols (cs : List Col) : tuplesOnlyAll (cs.map colD) = true := tO_all _ tO_col cs
theorem tO_tms (ts : List Tm) : tuplesOnlyAll (ts.map Tm.d) = true := tO_all _ tO_tm ts
theorem opBound_find (cs : List Col) (n : S) (c : Col) (h : cs.find? (fun c => decide (c.1 = n) && c.2.isSome) = some c) (b : Int) (e : c.2 = some b) : opBound cs (.col n) = b := by
  obtain ⟨m, k⟩ := c
  cases e
  show (match cs.find? (fun c => decide (c.1 = n) && c.2.isSome) with | some (_, some b) => b | _ => 0) = b
  rw [h]
theorem word_int {o : Op} (h : o.word = "integer") : ∃ i, o = .num i := by
  cases o with
  | col n => exact absurd (show ("column" : S) = "integer" from h) (by decide)
  | num i => exact ⟨i, rfl⟩
  | txt x => exact absurd (show ("string" : S) = "integer" from h) (by decide)
theorem word_col {o : Op} (h : o.word = "column") : ∃ n, o = .col n := by
  cases o with
  | col n => exact ⟨n, rfl⟩
  | num i => exact absurd (show ("integer" : S) = "column" from h) (by decide)
  | txt x => exact absurd (show ("string" : S) = "column" from h) (by decide)
theorem word_txt {o : Op} (h : o.word = "string") : ∃ n, o = .txt n := by
  cases o with
  | col n => exact absurd (show ("column" : S) = "string" from h) (by decide)
  | num i => exact absurd (show ("integer" : S) = "string" from h) (by decide)
  | txt x => exact ⟨x, rfl⟩
theorem dstr {x y : S} (e : decide (V.str x = V.str y) = true) : x = y := by
  have e := of_decide_eq_true e
  injection e
theorem dstrN {x y : S} (e : decide (V.str x = V.str y) = false) : x ≠ y := by
  have e := of_decide_eq_false e
  exact fun z => e (by rw [z])
theorem wk_int {k : Kd} (h : wk k = "integer") : ∃ b, k = some b := by
  cases k with
  | none => exact absurd (show ("string" : S) = "integer" from h) (by decide)
  | some b => exact ⟨b, rfl⟩
theorem wk_txt {k : Kd} (h : wk k = "string") : k = none := by
  cases k with
  | none => rfl
  | some b => exact absurd (show ("integer" : S) = "string" from h) (by decide)
theorem wk_wordS {k : Kd} {b : Bool} (h : wk k = wordS b) : k.isSome = !b := by
  cases b with
  | false => obtain ⟨x, rfl⟩ := wk_int h; rfl
  | true => cases wk_txt h; rfl
theorem op_eqv (o : Op) (n : S) : o.d.eqv (Op.col n).d = true ↔ o = .col n := by
  cases o with
  | col m =>
    show ((("column" : S) == "column") && ((m == n) && true)) = true ↔ _
    simp
  | num m =>
    show ((("integer" : S) == "column") && (false && true)) = true ↔ _
    simp
  | txt m =>
    show ((("string" : S) == "column") && ((m == n) && true)) = true ↔ _
    rw [show (("string" : S) == "column") = false by decide]
    simp
theorem OpOk.str {cs : List Col} {b : Bool} {o : Op} (ok : ColsOk cs) (h : OpOk cs b o) : (∃ i, o = .num i) ∨ ∃ x, TxtOk x ∧ (o = .txt x ∨ o = .col x) := by
  cases o with
  | num i => exact .inl ⟨i, rfl⟩
  | txt x =>
    cases b with
    | true => exact .inr ⟨x, h, .inl rfl⟩
    | false => exact h.elim
  | col x =>
    refine .inr ⟨x, ?_, .inr rfl⟩
    cases b with
    | true => exact ok.nm _ (show (x, none) ∈ cs from h)
    | false =>
      obtain ⟨k, hk⟩ := (show ∃ k, (x, some k) ∈ cs from h)
      exact ok.nm _ hk
theorem shape_col {x : S} (h : TxtOk x) : SeqAt.shaped (Op.col x).d = true := by
  simp [Op.d, SeqAt.shaped]
  simp [PyData.canLay0, PyData.canLayAll0, PyData.depth, PyData.depthAll, txt_strOk h]
  decide +kernel
theorem op_shaped {cs : List Col} {b : Bool} {o : Op} (ok : ColsOk cs) (h : OpOk cs b o) : SeqAt.shaped o.d = true := by
  rcases h.str ok with ⟨i, rfl⟩ | ⟨x, hx, rfl | rfl⟩
  · simp [Op.d, SeqAt.shaped]
    simp [PyData.canLay0, PyData.canLayAll0, PyData.depth, PyData.depthAll]
    decide +kernel
  · simp [Op.d, SeqAt.shaped]
    simp [PyData.canLay0, PyData.canLayAll0, PyData.depth, PyData.depthAll, txt_strOk hx]
    decide +kernel
  · exact shape_col hx
theorem kd_shaped (o : Kd) : SeqAt.shaped (kdD o) = true := by
  cases o <;> simp [kdD, SeqAt.shaped] <;> simp [PyData.canLay0, PyData.canLayAll0, PyData.depth, PyData.depthAll] <;> decide +kernel
/-- the row of columns before the one that counts -/
theorem opBound_at {cs : List Col} {n : S} {k : Int} {i : Nat} (e : cs[i]? = some (n, some k)) (no : ∀ c ∈ cs.take i, ¬ (Op.col n = .col c.1 ∧ c.2.isSome = true)) : opBound cs (.col n) = k := by
  refine opBound_find cs n (n, some k) ?_ k rfl
  rw [List.find?_eq_some_iff_getElem]
  obtain ⟨hi, ei⟩ := List.getElem?_eq_some_iff.mp e
  refine ⟨by simp, i, hi, ei, fun j hj => ?_⟩
  have hm : cs[j]'(by omega) ∈ cs.take i := by
    rw [List.mem_take_iff_getElem]
    exact ⟨j, by omega, rfl⟩
  have := no _ hm
  cases hs : (cs[j]'(by omega)).2.isSome
  · simp [hs]
  · simp only [hs, Bool.and_true, Bool.not_eq_true', decide_eq_false_iff_not]
    intro ee
    exact this ⟨by rw [ee], hs⟩
theorem opBound_no {cs : List Col} {o : Op} (ni : ∀ i, o ≠ .num i) (no : ∀ c ∈ cs, ¬ (o = .col c.1 ∧ c.2.isSome = true)) : opBound cs o = 0 := by
  cases o with
  | num i => exact absurd rfl (ni i)
  | txt x => rfl
  | col n =>
    have : cs.find? (fun c => decide (c.1 = n) && c.2.isSome) = none := by
      rw [List.find?_eq_none]
      intro c hc
      have := no c hc
      cases hs : c.2.isSome
      · simp
      · simp only [Bool.and_true, decide_eq_true_eq]
        intro ee
        exact this ⟨by rw [ee], hs⟩
    show (match cs.find? (fun c => decide (c.1 = n) && c.2.isSome) with | some (_, some b) => b | _ => 0) = 0
    rw [this]
/-- the rules in a comprehension's own scope -/
theorem ixT {X : Cx} {K : PySem.W.Frag} (h : X.K = K) : IxR X (rIxT K) := h ▸ ix_tup
theorem ixL {X : Cx} {K : PySem.W.Frag} (h : X.K = K) : IxR X (rIxL K) := h ▸ ix_list
theorem Same.upd' {p : Addr} {H H' : Hp} {o : HO} (a : Same H H') (n : H p = none) : Same H (L2.upd H' p o) := fun b u h => by
  rw [upd_ne (ne_of_none h n)]; exact a b u h
theorem Fz.none {t b : Addr} {H H' : Hp} (f : Fz t H H') (n : b ≠ t) (e : H' b = Option.none) : H b = Option.none := by
  cases h : H b with
  | none => rfl
  | some o => rw [f b o n h] at e; cases e
theorem OpOk.mem {cs : List Col} {b : Bool} {n : S} (h : OpOk cs b (.col n)) : n ∈ cs.map (·.1) := by
  cases b with
  | true => exact List.mem_map.mpr ⟨_, (show (n, none) ∈ cs from h), rfl⟩
  | false =>
    obtain ⟨k, hk⟩ := (show ∃ k, (n, some k) ∈ cs from h)
    exact List.mem_map.mpr ⟨_, hk, rfl⟩
theorem row_at {cs : List Col} {vs : List V} {n : S} (r : RowIn cs vs) (h : n ∈ cs.map (·.1)) : vs[(cs.map (·.1)).idxOf n]? = some (opVal cs vs (.col n)) := by
  have hl := List.idxOf_lt_length_of_mem h
  rw [List.length_map, ← r.len] at hl
  show _ = some (vs.getD ((cs.map (·.1)).idxOf n) .non)
  rw [List.getElem?_eq_getElem hl, List.getD_eq_getElem?_getD, List.getElem?_eq_getElem hl]
  rfl
theorem op_cont {cs : List Col} {vs : List V} {o : Op} (h : ∀ n, o ≠ .col n) : o.cont = opVal cs vs o := by
  cases o with
  | col n => exact absurd rfl (h n)
  | num i => rfl
  | txt x => rfl
end Ind

set_option Elab.async false
set_option linter.all false
set_option maxRecDepth 100000
set_option maxHeartbeats 4000000
namespace Ind
open PySem PySem.Spec PyProof.Rows L2
/-! ### methods of a tuple that `tuple(..)` made -/
def tyZ (x : V) (H : Hp) : Prop := ∃ (p : Addr) (o : Obj) (xs : List V), x = .ref p ∧ H p = some (.frz o (.tup xs)) ∧ o.dict = none
def tBMZ (r : V → List V → Hp → VK → Prop) (to : TE) (t : TA) : TE := fun σ H Q =>
  to σ H fun x H1 => tyZ x H1 ∧ t σ H1 fun xs H2 => r x xs H2 Q
section
variable {X : Cx} {σ : L2.St} {H : Hp}
theorem tyZ_is {pins : List (Addr × Obj)} {s : Shared} {x : V} {v : Value} (I : Inv X pins σ H s) (r : RelV x v) (z : tyZ x H) :
    s.TypeIs v "tuple" ∧ ∀ a, v = .ref a → ∃ ob, s.heap.get? a = some ob ∧ ob.dict = none := by
  obtain ⟨p, o, xs, rfl, hp, nd⟩ := z
  cases r
  obtain ⟨h1, h2, its, rv, o', h3, hc, n, hd⟩ := I.hok p _ hp
  rw [h1] at h3
  cases h3
  exact ⟨⟨o, h1, hc⟩, fun a e => by cases e; exact ⟨o, h1, nd⟩⟩
variable {o e : Expr} {name : Str} {apos cpos : Pos} {id : String} {to : TE} {t : TA} {r : V → List V → Hp → VK → Prop}
theorem pe_bmZ (slot : Slot "tuple" name id) (hty : typeOf (.builtin id) = pure (.type "method_descriptor")) (hm : MtR X id r) (ho : PE X o to) (ha : PA X [e] t)
    (h1 : attributeBase o name X.env (eval o X.env) = eval o X.env := by rfl)
    (h2 : ((backTo cpos (starEach [e] X.env)).all (fun x => !x.1) && (backToKw cpos (keywordEach [] X.env)).all (fun x => x.1.isSome) && decide ([e].length + ([] : List Keyword).length + (if ([] : List Keyword).isEmpty then 0 else 1) < 30)) = true := by rfl)
    (h3 : (apos.endLine == cpos.line) = true := by rfl)
    (h4 : starEach [e] X.env = (false, eval e X.env) :: starEach [] X.env := by rfl)
    (h5 : (backTo cpos (starEach [] X.env)).any (·.1) = false := by rfl) : PE X (.Call (.Attribute o name apos) [e] [] cpos) (tBMZ r to t) := by
  constructor
  intro pins s σ H Q I h
  refine wpAny_Call_method_late h1 h2 h3 rfl ?_
  refine thn (ho.run pins s σ H _ I h) fun v s1 ⟨x, H1, I1, r1, ty, q1⟩ => ?_
  have tz := tyZ_is I1 r1 ty
  refine ⟨"tuple", id, PySem.F.plainAttrs_tuple, slot, hty, tz.1, tz.2, ?_⟩
  have run := ha.run cpos pins s1 σ H1 _ I1 q1
  rw [h4] at run ⊢
  refine Calls.callWith_builtin ?_ (Calls.evalArgs_plain (thn run fun us s2 ⟨vs, H2, I2, r2, q2⟩ => hm pins s2 σ H2 x vs v us Q I2 r1 r2 q2))
  show (false || (backTo cpos (starEach [] X.env)).any (·.1)) = false
  rw [h5] <;> rfl
end
end Ind

set_option Elab.async false
set_option linter.all false
set_option maxRecDepth 100000
set_option maxHeartbeats 4000000
namespace Ind
open PySem PySem.Spec PyProof.Rows L2
theorem idx_nodup {α : Type} [BEq α] [LawfulBEq α] : ∀ {l : List α}, l.Nodup → ∀ (j : Nat) (h : j < l.length), l.idxOf l[j] = j
  | a :: l, nd, 0, _ => by simp
  | a :: l, nd, j + 1, h => by
    rw [List.nodup_cons] at nd
    have h' : j < l.length := by simpa using h
    have ih := idx_nodup nd.2 j h'
    have ne : (a == l[j]) = false := by
      rw [beq_eq_false_iff_ne]
      intro e
      exact nd.1 (e ▸ List.getElem_mem h')
    show List.idxOf l[j] (a :: l) = j + 1
    rw [List.idxOf_cons, ne, cond_false, ih]
theorem col_ix {cs : List Col} (nd : (cs.map (·.1)).Nodup) {n : S} {k : Kd} (h : (n, k) ∈ cs) : ∃ j, cs[j]? = some (n, k) ∧ (cs.map (·.1)).idxOf n = j := by
  obtain ⟨j, hj, ej⟩ := List.getElem_of_mem h
  refine ⟨j, by rw [List.getElem?_eq_getElem hj, ej], ?_⟩
  have e1 : (cs.map (·.1))[j]'(by simpa using hj) = n := by rw [List.getElem_map, ej]
  have := idx_nodup nd j (by simpa using hj)
  rw [e1] at this
  exact this
theorem opBound_mem {cs : List Col} (nd : (cs.map (·.1)).Nodup) {n : S} {b : Int} (h : (n, some b) ∈ cs) : opBound cs (.col n) = b := by
  obtain ⟨j, ej, ij⟩ := col_ix nd h
  refine opBound_at ej ?_
  intro c hc z
  obtain ⟨i, hi, ei⟩ := List.getElem_of_mem hc
  have hi2 : i < j ∧ i < cs.length := by
    rw [List.length_take] at hi
    omega
  rw [List.getElem_take] at ei
  have z1 := z.1
  injection z1 with z1
  have e2 : (cs.map (·.1)).idxOf n = i := by
    have := idx_nodup nd i (by simpa using hi2.2)
    rw [List.getElem_map, ei, ← z1] at this
    exact this
  omega
theorem col_val {cs : List Col} {vs : List V} (ok : ColsOk cs) (ri : RowIn cs vs) {n : S} {k : Kd} (h : (n, k) ∈ cs) : ValIn k (opVal cs vs (.col n)) := by
  obtain ⟨j, ej, ij⟩ := col_ix ok.nd h
  have r := row_at ri (List.mem_map.mpr ⟨_, h, rfl⟩)
  obtain ⟨v, ev, hv⟩ := ri.get ej
  rw [ij, ev] at r
  cases r
  exact hv
theorem op_int {cs : List Col} {vs : List V} (ok : ColsOk cs) (ri : RowIn cs vs) {o : Op} (h : OpOk cs false o) : ∃ i, opVal cs vs o = .int i ∧ -opBound cs o ≤ i ∧ i ≤ opBound cs o := by
  cases o with
  | txt x => exact h.elim
  | num i =>
    refine ⟨i, rfl, ?_⟩
    show -(if i < 0 then -i else i) ≤ i ∧ i ≤ (if i < 0 then -i else i)
    split <;> omega
  | col n =>
    obtain ⟨b, hb⟩ := (show ∃ b, (n, some b) ∈ cs from h)
    have hv := col_val ok ri hb
    rw [opBound_mem ok.nd hb]
    cases e : opVal cs vs (.col n) with
    | int i => rw [e] at hv; exact ⟨i, rfl, hv⟩
    | _ => rw [e] at hv; exact hv.elim
theorem op_txt {cs : List Col} {vs : List V} (ok : ColsOk cs) (ri : RowIn cs vs) {o : Op} (h : OpOk cs true o) : ∃ x, opVal cs vs o = .str x ∧ TxtOk x := by
  cases o with
  | num i => exact h.elim
  | txt x => exact ⟨x, rfl, h⟩
  | col n =>
    have hv := col_val ok ri (show (n, none) ∈ cs from h)
    cases e : opVal cs vs (.col n) with
    | str x => rw [e] at hv; exact ⟨x, rfl, hv⟩
    | _ => rw [e] at hv; exact hv.elim
theorem exVal_many {cs : List Col} {vs : List V} {ts : List Tm} (h : ts.length ≠ 1) : exVal cs vs ts = .int (ts.map (tmVal cs vs)).sum := by
  match ts, h with
  | [], _ => rfl
  | [a], h => exact absurd rfl h
  | a :: b :: r, _ => rfl
theorem exVal_one {cs : List Col} {vs : List V} {ts : List Tm} (h : ts.length = 1) : ∃ t, ts = [t] ∧ exVal cs vs ts = opVal cs vs t.op := by
  match ts, h with
  | [a], _ => exact ⟨a, rfl, rfl⟩
/-- the terms with one sign -/
def sided (cs : List Col) (vs : List V) (p : Bool) (ts : List Tm) : List Int := (ts.filter (fun t => t.plus == p)).map fun t => iOf (opVal cs vs t.op)
theorem sided_sum (cs : List Col) (vs : List V) (ts : List Tm) : (sided cs vs true ts).sum - (sided cs vs false ts).sum = (ts.map (tmVal cs vs)).sum := by
  induction ts with
  | nil => rfl
  | cons t r ih =>
    obtain ⟨p, o⟩ := t
    cases p with
    | true =>
      have e1 : sided cs vs true (⟨true, o⟩ :: r) = iOf (opVal cs vs o) :: sided cs vs true r := rfl
      have e2 : sided cs vs false (⟨true, o⟩ :: r) = sided cs vs false r := rfl
      have e3 : tmVal cs vs ⟨true, o⟩ = iOf (opVal cs vs o) := rfl
      rw [e1, e2, List.map_cons, List.sum_cons, List.sum_cons, e3]
      omega
    | false =>
      have e1 : sided cs vs false (⟨false, o⟩ :: r) = iOf (opVal cs vs o) :: sided cs vs false r := rfl
      have e2 : sided cs vs true (⟨false, o⟩ :: r) = sided cs vs true r := rfl
      have e3 : tmVal cs vs ⟨false, o⟩ = -iOf (opVal cs vs o) := rfl
      rw [e1, e2, List.map_cons, List.sum_cons, List.sum_cons, e3]
      omega
theorem sided_more {cs : List Col} {vs : List V} {p : Bool} {ts : List Tm} {i : Nat} {t : Tm} (e : ts[i]? = some t) : sided cs vs p (ts.take (i + 1)) = sided cs vs p (ts.take i) ++ (if t.plus = p then [iOf (opVal cs vs t.op)] else []) := by
  unfold sided
  rw [take_more e, List.filter_append, List.map_append]
  congr 1
  rw [List.filter_cons]
  by_cases h : t.plus = p
  · rw [if_pos h, if_pos (by simpa using h)]; rfl
  · rw [if_neg h, if_neg (by simpa using h)]; rfl
theorem sided_len {cs : List Col} {vs : List V} {p : Bool} {ts : List Tm} : (sided cs vs p ts).length ≤ ts.length := by
  unfold sided
  rw [List.length_map]
  exact List.length_filter_le _ _
theorem Same.none {b : Addr} {H H' : Hp} (f : Same H H') (e : H' b = Option.none) : H b = Option.none := by
  cases h : H b with
  | none => rfl
  | some o => rw [f b o h] at e; cases e
theorem opBound_le {cs : List Col} {b : Bool} {o : Op} (ok : ColsOk cs) (h : OpOk cs b o) : 0 ≤ opBound cs o ∧ opBound cs o ≤ 1000000000000 := by
  cases o with
  | txt x => exact ⟨(by decide : (0 : Int) ≤ 0), (by decide : (0 : Int) ≤ 1000000000000)⟩
  | num i =>
    cases b with
    | true => exact h.elim
    | false =>
      have := (show -1000000 ≤ i ∧ i ≤ 1000000 from h)
      show 0 ≤ (if i < 0 then -i else i) ∧ (if i < 0 then -i else i) ≤ 1000000000000
      split <;> omega
  | col n =>
    show 0 ≤ (match cs.find? (fun c => decide (c.1 = n) && c.2.isSome) with | some (_, some b) => b | _ => 0) ∧ (match cs.find? (fun c => decide (c.1 = n) && c.2.isSome) with | some (_, some b) => b | _ => 0) ≤ 1000000000000
    split
    · rename_i m k e
      exact ok.kd _ (List.mem_of_find?_eq_some e)
    · exact ⟨by decide, by decide⟩
end Ind

set_option Elab.async false
set_option linter.all false
set_option maxRecDepth 100000
set_option maxHeartbeats 4000000
namespace Ind
open PySem PySem.Spec PyProof.Rows L2
/-! ### two ways that meet -/
theorem meet {c : Prop} [Decidable c] {tb : TS} {D : Ends} {σ0 : L2.St} {H0 : Hp} (G : L2.St → Hp → Prop) (rest : ∀ σ H, G σ H → D.nx σ H)
    (h1 : (∀ σ H, G σ H → D.nx σ H) → c → tb D σ0 H0) (h2 : ¬ c → G σ0 H0) : if c then tb D σ0 H0 else tNext D σ0 H0 := by
  by_cases h : c
  · rw [if_pos h]; exact h1 rest h
  · rw [if_neg h]; exact rest _ _ (h2 h)
theorem leave {D : Ends} {σ : L2.St} {H : Hp} (h : D.nx σ H) : tNext D σ H := h
theorem if_not {A B : Prop} (h : B) : if false = true then A else B := by rw [if_neg (by decide)]; exact h
/-- straight expressions under way -/
def colN (t : Tm) : Option S := match t.op with
  | .col n => some n
  | _ => none
structure StI (cs : List Col) (ts : List Tm) (fs : List S) (n : Int) (i : Nat) : Prop where
  ne : 0 < i → ts ≠ []
  first : ∀ t, ts.head? = some t → t.plus = true
  ops : ∀ t ∈ ts, OpOk cs false t.op
  sum : (ts.map fun t => opBound cs t.op).sum = n
  low : n ≤ 1000000000000
  len : ts.length ≤ i
  nd : (ts.filterMap colN).Nodup
  signs : ∀ t ∈ ts, ∀ j, t.op = .num j → if t.plus then 0 ≤ j else j ≤ 0
  left : ∀ f ∈ fs, ∃ b, (f, some b) ∈ cs
  fnd : fs.Nodup
  apart : ∀ f ∈ fs, f ∉ ts.filterMap colN
  few : fs.length ≤ 10
/-- an operand that may come next -/
structure Nxt (cs : List Col) (ts : List Tm) (fs : List S) (pl : Bool) (o : Op) : Prop where
  ok : OpOk cs false o
  sign : ∀ j, o = .num j → if pl then 0 ≤ j else j ≤ 0
  apart : ∀ n, o = .col n → n ∉ fs ∧ n ∉ ts.filterMap colN
theorem StI.same {cs : List Col} {ts : List Tm} {fs : List S} {n : Int} {i : Nat} (h : StI cs ts fs n i) (ne : ts ≠ []) : StI cs ts fs n (i + 1) :=
  ⟨fun _ => ne, h.first, h.ops, h.sum, h.low, Nat.le_succ_of_le h.len, h.nd, h.signs, h.left, h.fnd, h.apart, h.few⟩
theorem StI.less {cs : List Col} {ts : List Tm} {fs : List S} {n : Int} {i : Nat} (h : StI cs ts fs n i) (k : Nat) : StI cs ts (fs.eraseIdx k) n i :=
  ⟨h.ne, h.first, h.ops, h.sum, h.low, h.len, h.nd, h.signs, fun f m => h.left f (List.mem_of_mem_eraseIdx m), h.fnd.sublist (List.eraseIdx_sublist _ _), fun f m => h.apart f (List.mem_of_mem_eraseIdx m), Nat.le_trans (List.length_eraseIdx_le _ _) h.few⟩
theorem erase_out {fs : List S} (nd : fs.Nodup) : ∀ {k : Nat} {f : S}, fs[k]? = some f → f ∉ fs.eraseIdx k := by
  induction fs with
  | nil => intro k f e; simp at e
  | cons a r ih =>
    intro k f e
    rw [List.nodup_cons] at nd
    cases k with
    | zero =>
      simp only [List.getElem?_cons_zero, Option.some.injEq] at e
      subst e
      exact nd.1
    | succ k =>
      rw [List.getElem?_cons_succ] at e
      rw [List.eraseIdx_cons_succ, List.mem_cons, not_or]
      exact ⟨fun z => nd.1 (z ▸ List.mem_of_getElem? e), ih nd.2 e⟩
theorem StI.add {cs : List Col} {ts : List Tm} {fs : List S} {n : Int} {i : Nat} {pl : Bool} {o : Op} (h : StI cs ts fs n i) (x : Nxt cs ts fs pl o) (hp : i = 0 → pl = true) (l : n + opBound cs o ≤ 1000000000000) : StI cs (ts ++ [⟨pl, o⟩]) fs (n + opBound cs o) (i + 1) := by
  refine ⟨fun _ => by simp, ?_, ?_, ?_, l, ?_, ?_, ?_, h.left, h.fnd, ?_, h.few⟩
  · intro t ht
    cases ts with
    | nil =>
      have hi : i = 0 ∨ 0 < i := by omega
      rcases hi with hi | hi
      · cases ht; exact hp hi
      · exact absurd rfl (h.ne hi)
    | cons a r => exact h.first t ht
  · intro t ht
    rcases List.mem_append.mp ht with m | m
    · exact h.ops t m
    · cases List.mem_singleton.mp m; exact x.ok
  · rw [List.map_append, List.sum_append, h.sum]; simp
  · have := h.len
    simp; omega
  · rw [List.filterMap_append, List.nodup_append]
    refine ⟨h.nd, ?_, ?_⟩
    · cases o with
      | col m => exact (by show [m].Nodup; simp)
      | num j => exact (show ([] : List S).Nodup from List.nodup_nil)
      | txt y => exact (show ([] : List S).Nodup from List.nodup_nil)
    · intro a ha b hb e
      subst e
      cases o with
      | col m =>
        have : a = m := by simpa [colN] using hb
        subst this
        exact (x.apart a rfl).2 ha
      | num j => simp [colN] at hb
      | txt y => simp [colN] at hb
  · intro t ht j ej
    rcases List.mem_append.mp ht with m | m
    · exact h.signs t m j ej
    · cases List.mem_singleton.mp m; exact x.sign j ej
  · intro f hf
    rw [List.filterMap_append, List.mem_append, not_or]
    refine ⟨h.apart f hf, ?_⟩
    cases o with
    | col m =>
      intro hb
      have : f = m := by simpa [colN] using hb
      subst this
      exact (x.apart f rfl).1 hf
    | num j => simp [colN]
    | txt y => simp [colN]
theorem StI.out {cs : List Col} {ts : List Tm} {fs : List S} {n : Int} {i : Nat} (h : StI cs ts fs n i) (hi : 0 < i ∧ i ≤ 20) : ExOk cs false ts ∧ Straight cs ts :=
  ⟨⟨h.ne hi.1, h.first, h.ops, (fun e => by cases e), by rw [h.sum]; exact h.low, Nat.le_trans h.len hi.2⟩, ⟨h.nd, h.signs⟩⟩
theorem pick_ix {i : Int} {n : Nat} (h0 : 0 ≤ i) (h1 : i < (n : Int)) : seqIndex? i n = some i.toNat := PySem.StrLaws.seqIndex_nonneg h0 h1
theorem map_erase {α β : Type} (f : α → β) : ∀ (l : List α) (k : Nat), (l.map f).eraseIdx k = (l.eraseIdx k).map f
  | [], _ => rfl
  | a :: l, 0 => rfl
  | a :: l, k + 1 => by
    show f a :: (l.map f).eraseIdx k = f a :: (l.eraseIdx k).map f
    rw [map_erase f l k]
end Ind

set_option Elab.async false
set_option linter.all false
set_option maxRecDepth 100000
set_option maxHeartbeats 4000000
namespace Ind
open PySem PySem.Spec PyProof.Rows L2
theorem col_uniq {cs : List Col} (nd : (cs.map (·.1)).Nodup) {n : S} {k k' : Kd} (h : (n, k) ∈ cs) (h' : (n, k') ∈ cs) : k = k' := by
  obtain ⟨j, ej, ij⟩ := col_ix nd h
  obtain ⟨j', ej', ij'⟩ := col_ix nd h'
  have e : j = j' := by omega
  subst e
  rw [ej] at ej'
  cases ej'
  rfl
/-- one term's word on the value of a column -/
def farStep (c : Col) (v : V) (t : Tm) : V := match t.op, c.2 with
  | .col n, some b => if n = c.1 then (if t.plus then .int b else .int (-b)) else v
  | _, _ => v
theorem far_fold (ts : List Tm) (c : Col) (v : V) : farVal ts c v = ts.foldl (farStep c) v := rfl
theorem far_more {ts : List Tm} {i : Nat} {t : Tm} (e : ts[i]? = some t) (c : Col) (v : V) : farVal (ts.take (i + 1)) c v = farStep c (farVal (ts.take i) c v) t := by
  rw [far_fold, take_more e, List.foldl_append]
  rfl
theorem far_hit {c : Col} {v : V} {t : Tm} {b : Int} (e : t.op = .col c.1) (k : c.2 = some b) : farStep c v t = .int (if t.plus then b else -b) := by
  unfold farStep
  rw [e, k]
  simp
  split <;> rfl
theorem far_miss {c : Col} {v : V} {t : Tm} (e : t.op ≠ .col c.1) : farStep c v t = v := by
  unfold farStep
  split
  · rename_i n b e1 e2
    rw [if_neg (fun z => e (by rw [e1, z]))]
  · rfl
end Ind

set_option Elab.async false
set_option linter.all false
set_option maxRecDepth 100000
set_option maxHeartbeats 4000000
namespace Ind
open PySem PySem.Spec PyProof.Rows L2
/-! ### the dict of the kinds -/
inductive KvOf (K : PySem.W.Frag) (H : Hp) : List Col → List (Key × V) → Prop
  | nil : KvOf K H [] []
  | cons {c : Col} {u : V} {cs : List Col} {kvs : List (Key × V)} : Dp K H u (kdD c.2) → KvOf K H cs kvs → KvOf K H (c :: cs) ((.inr c.1, u) :: kvs)
variable {K : PySem.W.Frag} {H H' : Hp}
theorem KvOf.keys {cs : List Col} {kvs : List (Key × V)} (h : KvOf K H cs kvs) : kvs.map (·.1) = cs.map (fun c => (.inr c.1 : Key)) := by
  induction h with
  | nil => rfl
  | cons _ _ ih => rw [List.map_cons, List.map_cons, ih]
theorem KvOf.kp {cs : List Col} {kvs : List (Key × V)} (k : Kp H H') (h : KvOf K H cs kvs) : KvOf K H' cs kvs := by
  induction h with
  | nil => exact .nil
  | cons d _ ih => exact .cons (Dp.kp k _ _ (tO_kd _) d) ih
theorem KvOf.get {cs : List Col} {kvs : List (Key × V)} (h : KvOf K H cs kvs) (nd : (cs.map (·.1)).Nodup) {n : S} {k : Kd} (m : (n, k) ∈ cs) : ∃ u, valV kvs (.inr n) = some u ∧ Dp K H u (kdD k) := by
  induction h with
  | nil => cases m
  | cons d r ih =>
    rename_i c u cs kvs
    rw [List.map_cons, List.nodup_cons] at nd
    rcases List.mem_cons.mp m with e | m'
    · subst e
      exact ⟨u, valV_pos rfl, d⟩
    · obtain ⟨u', e1, d1⟩ := ih nd.2 m'
      have ne : ¬ ((.inr c.1 : Key)) = .inr n := fun e => by
        injection e with e
        exact nd.1 (e ▸ List.mem_map.mpr ⟨_, m', rfl⟩)
      refine ⟨u', ?_, d1⟩
      rw [valV_neg (p := ((.inr c.1 : Key), u)) ne]
      exact e1
theorem merge_new : ∀ (more acc : List (Key × V)), ((acc ++ more).map (·.1)).Nodup → mergeK acc more = acc ++ more
  | [], acc, _ => by rw [List.append_nil]; rfl
  | p :: r, acc, nd => by
    have e0 : acc ++ p :: r = (acc ++ [p]) ++ r := by simp
    have ih := merge_new r (acc ++ [p]) (by rw [← e0]; exact nd)
    have hp : putK acc p.1 p.2 = acc ++ [p] := by
      unfold putK
      rw [if_neg]
      intro e
      rw [List.any_eq_true] at e
      obtain ⟨x, hx, ex⟩ := e
      rw [List.map_append, List.nodup_append] at nd
      exact nd.2.2 x.1 (List.mem_map.mpr ⟨x, hx, rfl⟩) p.1 (by simp) (of_decide_eq_true ex)
    show mergeK (putK acc p.1 p.2) r = _
    rw [hp, ih, e0]
theorem cols_kvs : ∀ (cs : List Col) (ps : List Addr), DpAll K H (ps.map V.ref) (cs.map colD) → ∃ kvs : List (Key × V), Paired (fun p kv => SqT K H p [kV kv.1, kv.2]) ps kvs ∧ KvOf K H cs kvs
  | [], [], _ => ⟨[], .nil, .nil⟩
  | [], p :: ps, h => by cases h
  | c :: cs, [], h => by cases h
  | c :: cs, p :: ps, h => by
    cases h with
    | cons h1 h2 =>
      obtain ⟨a, u, e, hs, du⟩ := col_at h1
      cases e
      obtain ⟨kvs, hp, hk⟩ := cols_kvs cs ps h2
      exact ⟨(.inr c.1, u) :: kvs, .cons hs hp, .cons du hk⟩
def DictAt (K : PySem.W.Frag) (H : Hp) (d : Addr) (cs : List Col) : Prop := ∃ kvs, H d = some (.dK kvs) ∧ KvOf K H cs kvs
theorem DictAt.same {d : Addr} {cs : List Col} (h : DictAt K H d cs) (s : Same H H') : DictAt K H' d cs := by
  obtain ⟨kvs, h1, h2⟩ := h
  exact ⟨kvs, s _ _ h1, h2.kp (Same.kp s)⟩
def opKd (cs : List Col) (b : Bool) (o : Op) : Kd := if b then none else some (opBound cs o)
/-! ### promises of the program -/
def spOpKind (K : PySem.W.Frag) : Sp := fun vs H Q _ => ∃ (v : V) (d : Addr) (o : Op) (cs : List Col) (b : Bool), vs = [v, .ref d] ∧ Dp K H v o.d ∧ DictAt K H d cs ∧ ColsOk cs ∧ OpOk cs b o ∧
  ∀ H' u, Same H H' → Dp K H' u (kdD (opKd cs b o)) → Q u H'
def spKindOf (K : PySem.W.Frag) : Sp := fun vs H Q _ => ∃ (e c : V) (ts : List Tm) (cs : List Col) (b : Bool), vs = [e, c] ∧ Dp K H e (exD ts) ∧ ColsAt K H c cs ∧ ColsOk cs ∧ ExOk cs b ts ∧
  ∀ H' u, Same H H' → Dp K H' u (kdD (exKd cs b ts)) → Q u H'
def spOpValue (K : PySem.W.Frag) : Sp := fun xs H Q _ => ∃ (v n r : V) (o : Op) (cs : List Col) (vs : List V) (b : Bool), xs = [v, n, r] ∧ Dp K H v o.d ∧ OpOk cs b o ∧ ColsOk cs ∧ NamesAt K H n cs ∧ RowAt K H r vs ∧ RowIn cs vs ∧ Q (opVal cs vs o) H
def spEval (K : PySem.W.Frag) : Sp := fun xs H Q _ => ∃ (e n r : V) (ts : List Tm) (cs : List Col) (vs : List V) (b : Bool), xs = [e, n, r] ∧ Dp K H e (exD ts) ∧ ExOk cs b ts ∧ ColsOk cs ∧ NamesAt K H n cs ∧ RowAt K H r vs ∧ RowIn cs vs ∧ Q (exVal cs vs ts) H
theorem kd_ne (b : Int) : (kdD (some b)).eqv (kdD none) = false := by
  show ((("integer" : S) == "string") && false) = false
  exact Bool.and_false _
end Ind

set_option Elab.async false
set_option linter.all false
set_option maxRecDepth 100000
set_option maxHeartbeats 4000000
namespace Ind
open PySem PySem.Spec PyProof.Rows L2
/-! ### how long data are when they are shown -/
theorem int_show {i : Int} (h : -1000000000000 ≤ i ∧ i ≤ 1000000000000) : (PyData.int i).shown.length ≤ 20 := by
  show (Str.ofString (toString i)).length ≤ 20
  rw [PySem.ofString_length]
  have := int_text_length_le10 (a := i) (k := 13) (by decide) (by omega)
  omega
theorem txt_show {x : S} (h : TxtOk x) : (PyData.str x).shown.length ≤ 202 := by
  show (reprText x).length ≤ 202
  have := PySem.StrLaws.reprText_len x (fun c hc => by have := (h.2 c hc).2.1; omega)
  have := h.1
  omega
theorem int_word : (PyData.str "integer").shown.length ≤ 9 := by decide +kernel
theorem str_word : (PyData.str "string").shown.length ≤ 8 := by decide +kernel
theorem kd_show {k : Kd} (h : ∀ b, k = some b → -1000000000000 ≤ b ∧ b ≤ 1000000000000) : (kdD k).shown.length ≤ 1000 := by
  cases k with
  | none =>
    show (tupleText [(PyData.str "string").shown]).length ≤ 1000
    have := tupleText_len_le [(PyData.str "string").shown]
    have := str_word
    simp only [List.map_cons, List.map_nil, List.sum_cons, List.sum_nil, List.length_cons, List.length_nil] at *
    omega
  | some b =>
    show (tupleText [(PyData.str "integer").shown, (PyData.int b).shown]).length ≤ 1000
    have := tupleText_len_le [(PyData.str "integer").shown, (PyData.int b).shown]
    have := int_word
    have := int_show (h b rfl)
    simp only [List.map_cons, List.map_nil, List.sum_cons, List.sum_nil, List.length_cons, List.length_nil] at *
    omega
theorem log_low {i : Int} (h : -1000000000000 ≤ i ∧ i ≤ 1000000000000) : i.natAbs.log2 < 1920 := by
  by_cases z : i.natAbs = 0
  · rw [z]; decide
  · refine Nat.lt_of_lt_of_le ((Nat.log2_lt z).mpr (show i.natAbs < 2 ^ 40 from ?_)) (by decide)
    have e : (2 : Nat) ^ 40 = 1099511627776 := by decide +kernel
    rw [e]
    omega
theorem kd_able {k : Kd} (h : ∀ b, k = some b → -1000000000000 ≤ b ∧ b ≤ 1000000000000) : (kdD k).showable = true := by
  cases k with
  | none => simp [kdD, PyData.showable, PyData.showableAll]
  | some b =>
    have := h b rfl
    simp [kdD, PyData.showable, PyData.showableAll]
    exact log_low this
theorem kd_dict (k : Kd) : (kdD k).hasDict = false := by
  cases k <;> simp [kdD, PyData.hasDict, PyData.hasDictAll]
theorem kd_depth (k : Kd) : (kdD k).depth ≤ 60 := by
  cases k <;> simp [kdD, PyData.depth, PyData.depthAll]
theorem int_able {i : Int} (h : -1000000000000 ≤ i ∧ i ≤ 1000000000000) : (PyData.int i).showable = true := by
  simp [PyData.showable]
  exact log_low h
end Ind

set_option Elab.async false
set_option linter.all false
set_option maxRecDepth 100000
set_option maxHeartbeats 4000000
namespace Ind
open PySem PySem.Spec PyProof.Rows L2
/-! ### bounds of values, and the row that reaches them -/
theorem sum_low {cs : List Col} {vs : List V} (ok : ColsOk cs) (ri : RowIn cs vs) : ∀ (ts : List Tm), (∀ t ∈ ts, OpOk cs false t.op) →
    -(ts.map fun t => opBound cs t.op).sum ≤ (ts.map (tmVal cs vs)).sum ∧ (ts.map (tmVal cs vs)).sum ≤ (ts.map fun t => opBound cs t.op).sum
  | [], _ => ⟨(by decide : -(0 : Int) ≤ 0), (by decide : (0 : Int) ≤ 0)⟩
  | t :: r, h => by
    have ih := sum_low ok ri r (fun u hu => h u (List.mem_cons_of_mem _ hu))
    obtain ⟨z, ez, z1, z2⟩ := op_int ok ri (h t (List.mem_cons_self ..))
    have tv : -opBound cs t.op ≤ tmVal cs vs t ∧ tmVal cs vs t ≤ opBound cs t.op := by
      unfold tmVal
      rw [ez]
      show -opBound cs t.op ≤ (if t.plus = true then z else -z) ∧ (if t.plus = true then z else -z) ≤ opBound cs t.op
      split <;> omega
    simp only [List.map_cons, List.sum_cons]
    omega
theorem ex_int {cs : List Col} {vs : List V} {ts : List Tm} (ok : ColsOk cs) (ri : RowIn cs vs) (ex : ExOk cs false ts) : ∃ z, exVal cs vs ts = .int z ∧ -(ts.map fun t => opBound cs t.op).sum ≤ z ∧ z ≤ (ts.map fun t => opBound cs t.op).sum := by
  by_cases l : ts.length = 1
  · obtain ⟨t, rfl, e⟩ := exVal_one (cs := cs) (vs := vs) l
    obtain ⟨z, ez, z1, z2⟩ := op_int ok ri (ex.ops t (by simp))
    refine ⟨z, by rw [e, ez], ?_⟩
    simp only [List.map_cons, List.map_nil, List.sum_cons, List.sum_nil]
    omega
  · exact ⟨_, exVal_many l, sum_low ok ri ts ex.ops⟩
theorem ex_txt {cs : List Col} {vs : List V} {ts : List Tm} (ok : ColsOk cs) (ri : RowIn cs vs) (ex : ExOk cs true ts) : ∃ x, exVal cs vs ts = .str x ∧ TxtOk x := by
  obtain ⟨t, rfl, e⟩ := exVal_one (cs := cs) (vs := vs) (ex.one rfl)
  obtain ⟨x, exx, tx⟩ := op_txt ok ri (ex.ops t (by simp))
  exact ⟨x, by rw [e, exx], tx⟩
theorem far_step_in {c : Col} {v : V} {t : Tm} (k : KdOk c.2) (h : ValIn c.2 v) : ValIn c.2 (farStep c v t) := by
  by_cases e : t.op = .col c.1
  · cases kk : c.2 with
    | none =>
      have : farStep c v t = v := by
        unfold farStep
        rw [e, kk]
      rw [this, ← kk]; exact h
    | some b =>
      rw [far_hit e kk]
      rw [kk] at k
      have : 0 ≤ b := k.1
      show -b ≤ _ ∧ _ ≤ b
      split <;> omega
  · rw [far_miss e]; exact h
theorem far_in {c : Col} (k : KdOk c.2) : ∀ (ts : List Tm) (v : V), ValIn c.2 v → ValIn c.2 (farVal ts c v)
  | [], _, h => h
  | t :: r, v, h => far_in k r _ (far_step_in k h)
theorem far_row (ts : List Tm) : ∀ {cs : List Col} {us : List V}, (∀ c ∈ cs, KdOk c.2) → RowIn cs us → RowIn cs ((cs.zip us).map fun p => farVal ts p.1 p.2) := by
  intro cs us k r
  induction r with
  | nil => exact .nil
  | cons h r ih => exact .cons (far_in (k _ (List.mem_cons_self ..)) ts _ h) (ih (fun d hd => k d (List.mem_cons_of_mem _ hd)))
theorem far_none {c : Col} : ∀ (ts : List Tm) (v : V), c.1 ∉ ts.filterMap colN → farVal ts c v = v
  | [], _, _ => rfl
  | t :: r, v, h => by
    have ne : t.op ≠ .col c.1 := by
      intro e
      apply h
      rw [List.mem_filterMap]
      exact ⟨t, List.mem_cons_self .., by unfold colN; rw [e]⟩
    show farVal r c (farStep c v t) = v
    rw [far_miss ne]
    refine far_none r v ?_
    intro m
    apply h
    rw [List.mem_filterMap] at m ⊢
    obtain ⟨u, hu, eu⟩ := m
    exact ⟨u, List.mem_cons_of_mem _ hu, eu⟩
theorem far_val {c : Col} {b : Int} (kk : c.2 = some b) : ∀ (ts : List Tm) (v : V) (t : Tm), (ts.filterMap colN).Nodup → t ∈ ts → t.op = .col c.1 → farVal ts c v = .int (if t.plus then b else -b)
  | [], _, _, _, m, _ => by cases m
  | u :: r, v, t, nd, m, e => by
    show farVal r c (farStep c v u) = _
    rcases List.mem_cons.mp m with h | h
    · subst h
      rw [far_hit e kk]
      refine far_none r _ ?_
      have : (t :: r).filterMap colN = c.1 :: r.filterMap colN := by
        rw [List.filterMap_cons]
        unfold colN
        rw [e]
      rw [this, List.nodup_cons] at nd
      exact nd.1
    · refine far_val kk r _ t ?_ h e
      rw [List.filterMap_cons] at nd
      split at nd
      · exact nd
      · rw [List.nodup_cons] at nd; exact nd.2
theorem zip_at {α β γ : Type} (f : α × β → γ) : ∀ (as : List α) (bs : List β) (j : Nat) (a : α) (b : β), as[j]? = some a → bs[j]? = some b → ((as.zip bs).map f)[j]? = some (f (a, b))
  | a :: as, b :: bs, 0, _, _, e1, e2 => by
    simp only [List.getElem?_cons_zero, Option.some.injEq] at e1 e2
    subst e1; subst e2
    rfl
  | a :: as, b :: bs, j + 1, x, y, e1, e2 => by
    rw [List.getElem?_cons_succ] at e1 e2
    exact zip_at f as bs j x y e1 e2
  | [], _, _, _, _, e1, _ => by simp at e1
  | _ :: _, [], _, _, _, _, e2 => by simp at e2
theorem far_tm {cs : List Col} {us : List V} {ts : List Tm} (ok : ColsOk cs) (ri : RowIn cs us) (st : Straight cs ts) {t : Tm} (m : t ∈ ts) (oo : OpOk cs false t.op) :
    tmVal cs ((cs.zip us).map fun p => farVal ts p.1 p.2) t = opBound cs t.op := by
  unfold tmVal
  cases e : t.op with
  | txt x => rw [e] at oo; exact oo.elim
  | num i =>
    have sg := st.signs t m i e
    show (if t.plus = true then i else -i) = (if i < 0 then -i else i)
    cases hp : t.plus
    · rw [hp] at sg
      have : i ≤ 0 := sg
      rw [if_neg (by decide)]
      split <;> omega
    · rw [hp] at sg
      have : 0 ≤ i := sg
      rw [if_pos rfl]
      split <;> omega
  | col n =>
    rw [e] at oo
    obtain ⟨b, hb⟩ := (show ∃ b, (n, some b) ∈ cs from oo)
    obtain ⟨j, ej, ij⟩ := col_ix ok.nd hb
    obtain ⟨u, eu, _⟩ := ri.get ej
    have r := row_at (far_row ts ok.kd ri) (List.mem_map.mpr ⟨_, hb, rfl⟩)
    rw [ij, zip_at _ cs us j _ _ ej eu] at r
    injection r with r
    rw [← r, far_val (c := (n, some b)) rfl ts u t st.nd m e, opBound_mem ok.nd hb]
    cases hp : t.plus
    · show (if false = true then -b else - -b) = b
      rw [if_neg (by decide)]
      omega
    · rfl
theorem far_ex {cs : List Col} {us : List V} {ts : List Tm} (ok : ColsOk cs) (ri : RowIn cs us) (ex : ExOk cs false ts) (st : Straight cs ts) :
    exVal cs ((cs.zip us).map fun p => farVal ts p.1 p.2) ts = .int (ts.map fun t => opBound cs t.op).sum := by
  have all : ts.map (tmVal cs ((cs.zip us).map fun p => farVal ts p.1 p.2)) = ts.map fun t => opBound cs t.op :=
    List.map_congr_left fun t m => far_tm ok ri st m (ex.ops t m)
  by_cases l : ts.length = 1
  · obtain ⟨t, rfl, e⟩ := exVal_one (cs := cs) (vs := (cs.zip us).map fun p => farVal ts p.1 p.2) l
    have pl := ex.first t rfl
    have ft := far_tm ok ri st (t := t) (by simp) (ex.ops t (by simp))
    obtain ⟨z, ez, _⟩ := op_int ok (far_row [t] ok.kd ri) (ex.ops t (by simp))
    rw [e, ez]
    unfold tmVal at ft
    rw [if_pos pl, ez] at ft
    have : z = opBound cs t.op := ft
    rw [this]
    simp
  · rw [exVal_many l, all]
theorem sum_pos {cs : List Col} {b : Bool} (ok : ColsOk cs) : ∀ (ts : List Tm), (∀ t ∈ ts, OpOk cs b t.op) → 0 ≤ (ts.map fun t => opBound cs t.op).sum
  | [], _ => (by decide : (0 : Int) ≤ 0)
  | t :: r, h => by
    have ih := sum_pos ok r (fun u hu => h u (List.mem_cons_of_mem _ hu))
    have := opBound_le ok (h t (List.mem_cons_self ..))
    simp only [List.map_cons, List.sum_cons]
    omega
theorem exKd_low {cs : List Col} {b : Bool} {ts : List Tm} (ok : ColsOk cs) (ex : ExOk cs b ts) : ∀ x, exKd cs b ts = some x → -1000000000000 ≤ x ∧ x ≤ 1000000000000 := by
  intro x e
  unfold exKd at e
  split at e
  · cases e
  · injection e with e
    have := sum_pos ok ts ex.ops
    have := ex.sum
    omega
theorem fits {n : Nat} (h : n ≤ 1000) : n ≤ sizeLine := Nat.le_trans h (by decide)
/-- what stands through the law -/
structure Lw (K : PySem.W.Frag) (H : Hp) (t : Tp) (ca na : Addr) (cs : List Col) : Prop where
  tp : TapeAt H t
  cols : ColsAt K H (.ref ca) cs
  nm : NamesAt K H (.ref na) cs
theorem Lw.kp {K : PySem.W.Frag} {H H' : Hp} {t : Tp} {ca na : Addr} {cs : List Col} (h : Lw K H t ca na cs) (k : Kp H H') (T : TapeAt H' t) : Lw K H' t ca na cs := by
  obtain ⟨a, o, e, h1, h2⟩ := h.nm
  exact ⟨T, h.cols.kp k, ⟨a, o, e, k.frz _ _ _ h1, h2⟩⟩
/-- a value that is shown -/
structure Shw (K : PySem.W.Frag) (v : V) (d : PyData) : Prop where
  dp : ∀ H, Dp K H v d
  able : d.showable = true
  nod : d.hasDict = false
  dep : d.depth ≤ 60
  len : d.shown.length ≤ sizeLine
theorem shw_int {K : PySem.W.Frag} {i : Int} (h : -1000000000000 ≤ i ∧ i ≤ 1000000000000) : Shw K (.int i) (.int i) := ⟨fun _ => .int _, int_able h, rfl, by simp [PyData.depth], fits (Nat.le_trans (int_show h) (by decide))⟩
theorem shw_txt {K : PySem.W.Frag} {x : S} (h : TxtOk x) : Shw K (.str x) (.str x) := ⟨fun _ => .str _, by simp [PyData.showable], rfl, by simp [PyData.depth], fits (Nat.le_trans (txt_show h) (by decide))⟩
theorem ex_shw {K : PySem.W.Frag} {cs : List Col} {vs : List V} {ts : List Tm} {b : Bool} (ok : ColsOk cs) (ri : RowIn cs vs) (ex : ExOk cs b ts) : ∃ d, Shw K (exVal cs vs ts) d := by
  cases b with
  | true =>
    obtain ⟨x, e, hx⟩ := ex_txt ok ri ex
    rw [e]; exact ⟨_, shw_txt hx⟩
  | false =>
    obtain ⟨z, e, h1, h2⟩ := ex_int ok ri ex
    have := ex.sum
    rw [e]; exact ⟨_, shw_int ⟨by omega, by omega⟩⟩
end Ind

set_option Elab.async false
set_option linter.all false
set_option maxRecDepth 100000
set_option maxHeartbeats 4000000
namespace Va
open PySem PySem.Spec PyProof.Rows L2 Ind
abbrev Tx := PySem.Str
/-! ### plain values -/
inductive D where
  | non
  | bl (b : Bool)
  | int (i : Int)
  | str (x : Tx)
  | tup (xs : List D)
  | ptp (xs : List D)
  | lst (xs : List D)
  | dk (kvs : List (Key × D))
  | tape
  | ty (n : String)
/-- what stands locked, or is written -/
def FzL (_ : PySem.W.Frag) (H : Hp) (a : Addr) (xs : List V) : Prop := ∃ o, H a = some (.frz o (.lst xs))
theorem FzL.sq {K : PySem.W.Frag} {H : Hp} {a : Addr} {xs : List V} (h : FzL K H a xs) : SqL K H a xs := by
  obtain ⟨o, h⟩ := h
  exact .inl (.inr ⟨o, h⟩)
mutual
inductive Rp (K : PySem.W.Frag) (tp : Option Tp) (H : Hp) : V → D → Prop
  | non : Rp K tp H .non .non
  | bl (b : Bool) : Rp K tp H (.bl b) (.bl b)
  | int (i : Int) : Rp K tp H (.int i) (.int i)
  | str (x : Tx) : Rp K tp H (.str x) (.str x)
  | tup {a : Addr} {xs : List V} {ds : List D} : SqT K H a xs → RpL K tp H xs ds → Rp K tp H (.ref a) (.tup ds)
  | ptp {a : Addr} {o : Obj} {xs : List V} {ds : List D} : H a = some (.frz o (.tup xs)) → o.dict = none → RpL K tp H xs ds → Rp K tp H (.ref a) (.ptp ds)
  | lst {a : Addr} {xs : List V} {ds : List D} : FzL K H a xs → RpL K tp H xs ds → Rp K tp H (.ref a) (.lst ds)
  | dk {a : Addr} {o : Obj} {kv : List (Key × V)} {ds : List (Key × D)} : H a = some (.frz o (.dK kv)) → RpK K tp H kv ds → Rp K tp H (.ref a) (.dk ds)
  | tape {t : Tp} : tp = some t → Rp K tp H (.ref t.a) .tape
  | ty (n : String) : Rp K tp H (.ty n) (.ty n)
inductive RpL (K : PySem.W.Frag) (tp : Option Tp) (H : Hp) : List V → List D → Prop
  | nil : RpL K tp H [] []
  | cons {v : V} {vs : List V} {d : D} {ds : List D} : Rp K tp H v d → RpL K tp H vs ds → RpL K tp H (v :: vs) (d :: ds)
inductive RpK (K : PySem.W.Frag) (tp : Option Tp) (H : Hp) : List (Key × V) → List (Key × D) → Prop
  | nil : RpK K tp H [] []
  | cons {k : Key} {v : V} {vs : List (Key × V)} {d : D} {ds : List (Key × D)} : Rp K tp H v d → RpK K tp H vs ds → RpK K tp H ((k, v) :: vs) ((k, d) :: ds)
end
/-- what never changes stands -/
structure Kq (H H' : Hp) : Prop where
  tup : ∀ b xs, H b = some (.tup xs) → H' b = some (.tup xs)
  frz : ∀ b o u, H b = some (.frz o u) → H' b = some (.frz o u)
theorem Kq.refl (H : Hp) : Kq H H := ⟨fun _ _ h => h, fun _ _ _ h => h⟩
theorem Kq.trans {H H1 H2 : Hp} (a : Kq H H1) (b : Kq H1 H2) : Kq H H2 := ⟨fun c x h => b.tup c x (a.tup c x h), fun c o x h => b.frz c o x (a.frz c o x h)⟩
theorem Kq.same {H H' : Hp} (s : Same H H') : Kq H H' := ⟨fun c x h => s _ _ h, fun c o x h => s _ _ h⟩
theorem Kq.sqT {K : PySem.W.Frag} {H H' : Hp} {a : Addr} {xs : List V} (k : Kq H H') (h : SqT K H a xs) : SqT K H' a xs := by
  rcases h with (h | ⟨o, h⟩) | h
  · exact .inl (.inl (k.tup _ _ h))
  · exact .inl (.inr ⟨o, k.frz _ _ _ h⟩)
  · exact .inr h
theorem Kq.fzL {K : PySem.W.Frag} {H H' : Hp} {a : Addr} {xs : List V} (k : Kq H H') (h : FzL K H a xs) : FzL K H' a xs := by
  obtain ⟨o, h⟩ := h
  exact ⟨o, k.frz _ _ _ h⟩
/-- writing what may be written -/
theorem Kq.upd {H : Hp} {l : Addr} {u o : HO} (h : H l = some u) (mu : Mut (some u)) : Kq H (upd H l o) := by
  refine ⟨fun c x e => ?_, fun c q x e => ?_⟩ <;> (rw [upd_ne (ne_of e h (by intro z; subst z; exact mu))]; exact e)
theorem Kq.new {H : Hp} {l : Addr} {o : HO} (h : H l = none) : Kq H (L2.upd H l o) := Kq.same (same_upd h)
section
variable {K : PySem.W.Frag} {tp : Option Tp} {H H' : Hp}
mutual
theorem Rp.kq (k : Kq H H') : ∀ (d : D) (v : V), Rp K tp H v d → Rp K tp H' v d
  | .non, _, h => by cases h; exact .non
  | .bl _, _, h => by cases h; exact .bl _
  | .int _, _, h => by cases h; exact .int _
  | .str _, _, h => by cases h; exact .str _
  | .tup ds, _, h => by
    cases h with
    | tup hs ha => exact .tup (k.sqT hs) (RpL.kq k ds _ ha)
  | .ptp ds, _, h => by
    cases h with
    | ptp hs nd ha => exact .ptp (k.frz _ _ _ hs) nd (RpL.kq k ds _ ha)
  | .lst ds, _, h => by
    cases h with
    | lst hs ha => exact .lst (k.fzL hs) (RpL.kq k ds _ ha)
  | .dk ds, _, h => by
    cases h with
    | dk hs ha => exact .dk (k.frz _ _ _ hs) (RpK.kq k ds _ ha)
  | .tape, _, h => by
    cases h with
    | tape e => exact .tape e
  | .ty _, _, h => by cases h; exact .ty _
theorem RpL.kq (k : Kq H H') : ∀ (ds : List D) (vs : List V), RpL K tp H vs ds → RpL K tp H' vs ds
  | [], _, h => by cases h; exact .nil
  | d :: ds, _, h => by
    cases h with
    | cons h1 h2 => exact .cons (Rp.kq k d _ h1) (RpL.kq k ds _ h2)
theorem RpK.kq (k : Kq H H') : ∀ (ds : List (Key × D)) (vs : List (Key × V)), RpK K tp H vs ds → RpK K tp H' vs ds
  | [], _, h => by cases h; exact .nil
  | (x, d) :: ds, _, h => by
    cases h with
    | cons h1 h2 => exact .cons (Rp.kq k d _ h1) (RpK.kq k ds _ h2)
end
theorem RpL.len : ∀ {ds : List D} {vs : List V}, RpL K tp H vs ds → vs.length = ds.length
  | [], _, h => by cases h; rfl
  | d :: ds, _, h => by
    cases h with
    | cons _ h2 => rw [List.length_cons, List.length_cons, RpL.len h2]
theorem RpL.get : ∀ {ds : List D} {vs : List V} {i : Nat} {d : D}, RpL K tp H vs ds → ds[i]? = some d → ∃ v, vs[i]? = some v ∧ Rp K tp H v d
  | [], _, _, _, _, e => by simp at e
  | d :: ds, _, 0, _, h, e => by
    cases h with
    | cons h1 _ =>
      simp only [List.getElem?_cons_zero, Option.some.injEq] at e
      subst e
      exact ⟨_, rfl, h1⟩
  | d :: ds, _, i + 1, _, h, e => by
    cases h with
    | cons _ h2 =>
      obtain ⟨v, q, r⟩ := RpL.get h2 (show ds[i]? = some _ by simpa using e)
      exact ⟨v, by simpa using q, r⟩
theorem RpL.getV {ds : List D} {vs : List V} {i : Nat} {v : V} (h : RpL K tp H vs ds) (e : vs[i]? = some v) : ∃ d, ds[i]? = some d ∧ Rp K tp H v d := by
  have hl : i < ds.length := by rw [← h.len]; exact (List.getElem?_eq_some_iff.mp e).1
  obtain ⟨v', e', r⟩ := h.get (List.getElem?_eq_getElem hl)
  rw [e] at e'
  cases e'
  exact ⟨_, List.getElem?_eq_getElem hl, r⟩
theorem RpL.app : ∀ {ds es : List D} {vs ws : List V}, RpL K tp H vs ds → RpL K tp H ws es → RpL K tp H (vs ++ ws) (ds ++ es)
  | [], _, _, _, h, g => by cases h; exact g
  | d :: ds, _, _, _, h, g => by
    cases h with
    | cons h1 h2 => exact .cons h1 (RpL.app h2 g)
theorem RpL.drop : ∀ {vs : List V} {ds : List D} (k : Nat), RpL K tp H vs ds → RpL K tp H (vs.drop k) (ds.drop k)
  | _, _, 0, h => h
  | _, _, _ + 1, .nil => .nil
  | _, _, k + 1, .cons _ t => RpL.drop k t
theorem RpL.take : ∀ {vs : List V} {ds : List D} (k : Nat), RpL K tp H vs ds → RpL K tp H (vs.take k) (ds.take k)
  | _, _, 0, _ => .nil
  | _, _, _ + 1, .nil => .nil
  | _, _, k + 1, .cons h t => .cons h (RpL.take k t)
theorem RpL.set {v : V} {d : D} (r : Rp K tp H v d) : ∀ {vs : List V} {ds : List D} (k : Nat), RpL K tp H vs ds → RpL K tp H (vs.set k v) (ds.set k d)
  | _, _, _, .nil => .nil
  | _, _, 0, .cons _ t => .cons r t
  | _, _, k + 1, .cons h t => .cons h (RpL.set r k t)
theorem RpL.erase : ∀ {vs : List V} {ds : List D} (k : Nat), RpL K tp H vs ds → RpL K tp H (vs.eraseIdx k) (ds.eraseIdx k)
  | _, _, _, .nil => .nil
  | _, _, 0, .cons _ t => t
  | _, _, k + 1, .cons h t => .cons h (RpL.erase k t)
theorem RpL.rev {vs : List V} {ds : List D} (h : RpL K tp H vs ds) : RpL K tp H vs.reverse ds.reverse := by
  induction ds generalizing vs with
  | nil => cases h; exact .nil
  | cons d ds ih =>
    cases h with
    | cons h1 h2 =>
      rw [List.reverse_cons, List.reverse_cons]
      exact (ih h2).app (.cons h1 .nil)
theorem Rp.tup_inv {v : V} {ds : List D} (h : Rp K tp H v (.tup ds)) : ∃ a xs, v = .ref a ∧ SqT K H a xs ∧ RpL K tp H xs ds := by
  cases h with
  | tup hs ha => exact ⟨_, _, rfl, hs, ha⟩
theorem Rp.ptp_inv {v : V} {ds : List D} (h : Rp K tp H v (.ptp ds)) : ∃ a o xs, v = .ref a ∧ H a = some (.frz o (.tup xs)) ∧ o.dict = none ∧ RpL K tp H xs ds := by
  cases h with
  | ptp hs nd ha => exact ⟨_, _, _, rfl, hs, nd, ha⟩
/-- a tuple that is known plain is a tuple -/
def D.un : D → D
  | .ptp ds => .tup ds
  | d => d
theorem Rp.un {v : V} {d : D} (h : Rp K tp H v d) : Rp K tp H v d.un := by
  cases h with
  | ptp hs nd ha => exact .tup (.inl (.inr ⟨_, hs⟩)) ha
  | non => exact .non
  | bl b => exact .bl b
  | int i => exact .int i
  | str x => exact .str x
  | tup hs ha => exact .tup hs ha
  | lst hs ha => exact .lst hs ha
  | dk hs ha => exact .dk hs ha
  | tape e => exact .tape e
  | ty n => exact .ty n
theorem Rp.lst_inv {v : V} {ds : List D} (h : Rp K tp H v (.lst ds)) : ∃ a xs, v = .ref a ∧ FzL K H a xs ∧ RpL K tp H xs ds := by
  cases h with
  | lst hs ha => exact ⟨_, _, rfl, hs, ha⟩
theorem Rp.dk_inv {v : V} {ds : List (Key × D)} (h : Rp K tp H v (.dk ds)) : ∃ a o kv, v = .ref a ∧ H a = some (.frz o (.dK kv)) ∧ RpK K tp H kv ds := by
  cases h with
  | dk hs ha => exact ⟨_, _, _, rfl, hs, ha⟩
theorem Rp.int_inv {v : V} {i : Int} (h : Rp K tp H v (.int i)) : v = .int i := by cases h; rfl
theorem Rp.str_inv {v : V} {x : Tx} (h : Rp K tp H v (.str x)) : v = .str x := by cases h; rfl
theorem Rp.bl_inv {v : V} {b : Bool} (h : Rp K tp H v (.bl b)) : v = .bl b := by cases h; rfl
theorem Rp.tape_inv {v : V} (h : Rp K tp H v .tape) : ∃ t, tp = some t ∧ v = .ref t.a := by
  cases h with
  | tape e => exact ⟨_, e, rfl⟩
theorem RpK.val : ∀ {ds : List (Key × D)} {vs : List (Key × V)} {k : Key}, RpK K tp H vs ds → match (ds.find? fun p => decide (p.1 = k)) with
    | some p => ∃ v, valV vs k = some v ∧ Rp K tp H v p.2
    | none => valV vs k = none
  | [], _, _, h => by cases h; rfl
  | (x, d) :: ds, _, k, h => by
    cases h with
    | @cons _ v vs _ _ h1 h2 =>
      by_cases e : x = k
      · rw [List.find?_cons_of_pos (by simp [e])]
        exact ⟨v, valV_pos e, h1⟩
      · rw [List.find?_cons_of_neg (by simp [e])]
        have ih := RpK.val (k := k) h2
        rw [valV_neg (p := (x, v)) (show ¬ (x, v).1 = k from e)]
        exact ih
theorem RpK.keys : ∀ {ds : List (Key × D)} {vs : List (Key × V)}, RpK K tp H vs ds → vs.map (·.1) = ds.map (·.1)
  | [], _, h => by cases h; rfl
  | (x, d) :: ds, _, h => by
    cases h with
    | cons h1 h2 => simp [RpK.keys h2]
theorem RpK.app : ∀ {ds es : List (Key × D)} {vs ws : List (Key × V)}, RpK K tp H vs ds → RpK K tp H ws es → RpK K tp H (vs ++ ws) (ds ++ es)
  | [], _, _, _, h, g => by cases h; exact g
  | (x, d) :: ds, _, _, _, h, g => by
    cases h with
    | cons h1 h2 => exact .cons h1 (RpK.app h2 g)
end
/-! ### the state of a body, by values -/
/-- a slot: nothing known, a value, a list of one's own, a dict of one's own -/
inductive SV where
  | no
  | v (d : D)
  | ol (ds : List D)
  | od (io : Bool) (kvs : List (Key × D))
  | ex (a : Addr) (pl : Option (Addr × Tx × D))
/-- the slots, and how many draws there may still be -/
structure En where
  l : List SV
  c : Nat
def En.set (E : En) (i : Nat) (s : SV) : En := ⟨E.l.set i s, E.c⟩
/-- the tape's list and the draws still to come stay within bounds -/
def Few (tp : Option Tp) (c : Nat) (H : Hp) : Prop := ∀ t xs, tp = some t → H t.l = some (.lst xs) → xs.length + c ≤ 1000000
def SV.own : SV → Bool
  | .ol _ => true
  | .od _ _ => true
  | _ => false
/-- the tape; b: its place never runs ahead of its list -/
def TapeV (b : Bool) (H : Hp) (t : Tp) : Prop := ∃ (ns : List Int) (p n s : Int), H t.a = some (.lst [.ref t.l, .int p, .int n, .int s]) ∧ H t.l = some (.lst (ns.map V.int)) ∧ (b = true → p ≤ (ns.length : Int)) ∧ 0 ≤ p ∧ 0 ≤ n ∧ 0 ≤ s ∧ s < 2147483647
theorem TapeV.same {b : Bool} {H H' : Hp} {t : Tp} (h : TapeV b H t) (e : Same H H') : TapeV b H' t := by
  obtain ⟨ns, p, n, s, h1, h2, h3⟩ := h
  exact ⟨ns, p, n, s, e _ _ h1, e _ _ h2, h3⟩
theorem TapeV.upd {b : Bool} {H : Hp} {t : Tp} {p : Addr} {o : HO} (h : TapeV b H t) (e : Off t p) : TapeV b (L2.upd H p o) t := by
  obtain ⟨ns, q, n, s, h1, h2, h3⟩ := h
  exact ⟨ns, q, n, s, by rw [upd_ne e.a.symm]; exact h1, by rw [upd_ne e.l.symm]; exact h2, h3⟩
structure Gm where
  K : PySem.W.Frag
  b : Bool
  tp : Option Tp
  tabs : List Addr
  io : List Addr
  H0 : Hp
/-- addresses that calls may change -/
def Gm.sp (Γ : Gm) (b : Addr) : Prop := (∃ t, Γ.tp = some t ∧ (b = t.a ∨ b = t.l)) ∨ b ∈ Γ.tabs
structure Base (Γ : Gm) (H : Hp) : Prop where
  ext : ∀ b o, ¬ Γ.sp b → b ∉ Γ.io → Γ.H0 b = some o → H b = some o
  kq : Kq Γ.H0 H
  tape : ∀ t, Γ.tp = some t → TapeV Γ.b H t
  tabs : ∀ P ∈ Γ.tabs, GxR.TabG H P
structure Free (Γ : Gm) (a : Addr) : Prop where
  young : Γ.H0 a = none ∨ a ∈ Γ.io
  nsp : ¬ Γ.sp a
abbrev Gm.Rp (Γ : Gm) (H : Hp) (v : V) (d : D) : Prop := Va.Rp Γ.K Γ.tp H v d
abbrev Gm.RpL (Γ : Gm) (H : Hp) (v : List V) (d : List D) : Prop := Va.RpL Γ.K Γ.tp H v d
def RepS (Γ : Gm) (H : Hp) (o : Option V) : SV → Prop
  | .no => True
  | .v d => ∃ v, o = some v ∧ Γ.Rp H v d
  | .ol ds => ∃ a xs, o = some (.ref a) ∧ H a = some (.lst xs) ∧ Γ.RpL H xs ds ∧ Free Γ a
  | .od b kvs => ∃ a kv, o = some (.ref a) ∧ H a = some (.dK kv) ∧ RpK Γ.K Γ.tp H kv kvs ∧ Free Γ a ∧ (b = true → a ∈ Γ.io)
  | .ex a pl => o = some (.ref a) ∧ ∀ p, pl = some p → ∃ ob v, H p.1 = some (.frz ob (.xd [(p.2.1, v)])) ∧ Γ.Rp H v p.2.2
structure Rep (Γ : Gm) (E : En) (σ : L2.St) (H : Hp) : Prop where
  base : Base Γ H
  len : E.l.length = σ.length
  few : Few Γ.tp E.c H
  sl : ∀ (i : Nat) (s : SV), E.l[i]? = some s → ∃ o, σ[i]? = some o ∧ RepS Γ H o s
  dis : ∀ (i j : Nat) (s t : SV) (a : Addr), E.l[i]? = some s → E.l[j]? = some t → s.own = true → t.own = true → σ[i]? = some (some (.ref a)) → σ[j]? = some (some (.ref a)) → i = j
/-- an address that no slot owns -/
def Lone (E : En) (σ : L2.St) (a : Addr) : Prop := ∀ (j : Nat) (s : SV), E.l[j]? = some s → s.own = true → σ[j]? ≠ some (some (.ref a))
section
variable {Γ : Gm} {E : En} {σ : L2.St} {H H' : Hp}
theorem RepS.own_at {o : Option V} {s : SV} (h : RepS Γ H o s) (e : s.own = true) : ∃ a u, o = some (.ref a) ∧ H a = some u ∧ Mut (some u) ∧ Free Γ a := by
  cases s with
  | no => cases e
  | v d => cases e
  | ol ds =>
    obtain ⟨a, xs, h1, h2, _, h3⟩ := h
    exact ⟨a, _, h1, h2, trivial, h3⟩
  | od b ds =>
    obtain ⟨a, xs, h1, h2, _, h3, _⟩ := h
    exact ⟨a, _, h1, h2, trivial, h3⟩
  | ex a pl => cases e
/-- what a slot says stands where all but the special addresses, and the never changing, stand -/
theorem RepS.stay {o : Option V} {s : SV} (h : RepS Γ H o s) (k : Kq H H') (ow : ∀ a u, s.own = true → o = some (.ref a) → H a = some u → H' a = some u) : RepS Γ H' o s := by
  cases s with
  | no => trivial
  | v d =>
    obtain ⟨v, h1, h2⟩ := h
    exact ⟨v, h1, Rp.kq k _ _ h2⟩
  | ol ds =>
    obtain ⟨a, xs, h1, h2, h3, h4⟩ := h
    exact ⟨a, xs, h1, ow a _ rfl h1 h2, RpL.kq k _ _ h3, h4⟩
  | od b ds =>
    obtain ⟨a, xs, h1, h2, h3, h4⟩ := h
    exact ⟨a, xs, h1, ow a _ rfl h1 h2, RpK.kq k _ _ h3, h4⟩
  | ex a pl =>
    obtain ⟨h1, h2⟩ := h
    exact ⟨h1, fun p hp => by
      obtain ⟨ob, v, h3, h4⟩ := h2 p hp
      exact ⟨ob, v, k.frz _ _ _ h3, Rp.kq k _ _ h4⟩⟩
theorem Base.same (b : Base Γ H) (s : Same H H') : Base Γ H' :=
  ⟨fun c o n1 n2 h => s _ _ (b.ext c o n1 n2 h), b.kq.trans (.same s), fun t e => (b.tape t e).same s, fun P hP => by
    obtain ⟨ps, h, k⟩ := b.tabs P hP
    exact ⟨ps, s _ _ h, k⟩⟩
theorem few_same {b : Bool} {tp : Option Tp} {c : Nat} (f : Few tp c H) (tape : ∀ t, tp = some t → TapeV b H t) (s : ∀ t, tp = some t → ∀ o, H t.l = some o → H' t.l = some o) : Few tp c H' := fun t xs e h => by
  obtain ⟨ns, p, n, z, h1, h2, _⟩ := tape t e
  have := s t e _ h2
  rw [h] at this
  cases this
  exact f t _ e h2
theorem Rep.same (r : Rep Γ E σ H) (s : Same H H') : Rep Γ E σ H' :=
  ⟨r.base.same s, r.len, few_same r.few r.base.tape fun t _ o h => s _ _ h, fun i x e => by
    obtain ⟨o, h1, h2⟩ := r.sl i x e
    exact ⟨o, h1, h2.stay (.same s) fun a u _ _ h => s _ _ h⟩, r.dis⟩
/-- behind a call -/
structure Ext (Γ : Gm) (c : Nat) (H H' : Hp) : Prop where
  ext : ∀ b o, ¬ Γ.sp b → H b = some o → H' b = some o
  tape : ∀ t, Γ.tp = some t → TapeV Γ.b H' t
  few : Few Γ.tp c H'
  tabs : ∀ P ∈ Γ.tabs, GxR.TabG H' P
theorem Base.sp_lst (b : Base Γ H) {a : Addr} (h : Γ.sp a) : (∃ xs, H a = some (.lst xs)) ∨ ∃ ps, H a = some (.tbl ps) := by
  rcases h with ⟨t, e, h⟩ | h
  · obtain ⟨ns, p, n, s, h1, h2, _⟩ := b.tape t e
    rcases h with rfl | rfl
    · exact .inl ⟨_, h1⟩
    · exact .inl ⟨_, h2⟩
  · obtain ⟨ps, h1, _⟩ := b.tabs a h
    exact .inr ⟨ps, h1⟩
theorem Ext.kq {c : Nat} (b : Base Γ H) (x : Ext Γ c H H') : Kq H H' := by
  refine ⟨fun c u h => x.ext _ _ ?_ h, fun c o u h => x.ext _ _ ?_ h⟩ <;>
  · intro z
    rcases b.sp_lst z with ⟨_, e⟩ | ⟨_, e⟩ <;> (rw [e] at h; cases h)
theorem Rep.call {c : Nat} (r : Rep Γ E σ H) (x : Ext Γ c H H') : Rep Γ ⟨E.l, c⟩ σ H' := by
  have k := x.kq r.base
  refine ⟨⟨fun c o n1 n2 h => x.ext _ _ n1 (r.base.ext c o n1 n2 h), r.base.kq.trans k, x.tape, x.tabs⟩, r.len, x.few, fun i s e => ?_, r.dis⟩
  obtain ⟨o, h1, h2⟩ := r.sl i s e
  refine ⟨o, h1, h2.stay k fun a u ow eo h => ?_⟩
  obtain ⟨b, _, e1, _, _, fr⟩ := h2.own_at ow
  rw [e1] at eo
  cases eo
  exact x.ext _ _ fr.nsp h
theorem Rep.fresh (r : Rep Γ E σ H) {p : Addr} (n : H p = none) : Free Γ p ∧ Lone E σ p := by
  refine ⟨⟨?_, fun z => ?_⟩, fun j s e ow eo => ?_⟩
  · cases h : Γ.H0 p with
    | none => exact .inl rfl
    | some o =>
      by_cases hio : p ∈ Γ.io
      · exact .inr hio
      · refine absurd (r.base.ext p o (fun z => ?_) hio h) (by rw [n]; intro z; cases z)
        rcases r.base.sp_lst z with ⟨_, e⟩ | ⟨_, e⟩ <;> (rw [n] at e; cases e)
  · rcases r.base.sp_lst z with ⟨_, e⟩ | ⟨_, e⟩ <;> (rw [n] at e; cases e)
  · obtain ⟨o, h1, h2⟩ := r.sl j s e
    obtain ⟨b, u, e1, e2, _⟩ := h2.own_at ow
    rw [h1, e1] at eo
    cases eo
    rw [n] at e2
    cases e2
theorem get_set {α : Type} {l : List α} {i j : Nat} {x y : α} (h : (l.set i x)[j]? = some y) : (i = j ∧ x = y ∧ i < l.length) ∨ (i ≠ j ∧ l[j]? = some y) := by
  by_cases e : i = j
  · subst e
    by_cases hi : i < l.length
    · rw [List.getElem?_set_self hi] at h
      cases h
      exact .inl ⟨rfl, rfl, hi⟩
    · rw [List.getElem?_eq_none (by simpa using hi)] at h
      cases h
  · rw [List.getElem?_set_ne e] at h
    exact .inr ⟨e, h⟩
/-- a slot gets a value -/
theorem Rep.set (r : Rep Γ E σ H) (i : Nat) {v : V} {d : D} (h : Γ.Rp H v d) : Rep Γ (E.set i (.v d)) (σ.set i (some v)) H := by
  refine ⟨r.base, by simp [En.set, r.len], r.few, fun j s e => ?_, fun j k s t a e1 e2 o1 o2 h1 h2 => ?_⟩
  · rcases get_set e with ⟨rfl, rfl, hi⟩ | ⟨ne, e⟩
    · exact ⟨some v, List.getElem?_set_self (by rw [← r.len]; exact hi), v, rfl, h⟩
    · rw [List.getElem?_set_ne ne]
      exact r.sl j s e
  · rcases get_set e1 with ⟨_, rfl, _⟩ | ⟨n1, e1⟩
    · cases o1
    · rcases get_set e2 with ⟨_, rfl, _⟩ | ⟨n2, e2⟩
      · cases o2
      · rw [List.getElem?_set_ne n1] at h1
        rw [List.getElem?_set_ne n2] at h2
        exact r.dis j k s t a e1 e2 o1 o2 h1 h2
/-- a slot gets a thing of its own -/
theorem Rep.setO (r : Rep Γ E σ H) (i : Nat) {p : Addr} {s : SV} (h : RepS Γ H (some (.ref p)) s) (lo : Lone E σ p) : Rep Γ (E.set i s) (σ.set i (some (.ref p))) H := by
  refine ⟨r.base, by simp [En.set, r.len], r.few, fun j s' e => ?_, fun j k s' t a e1 e2 o1 o2 h1 h2 => ?_⟩
  · rcases get_set e with ⟨rfl, rfl, hi⟩ | ⟨ne, e⟩
    · exact ⟨_, List.getElem?_set_self (by rw [← r.len]; exact hi), h⟩
    · rw [List.getElem?_set_ne ne]
      exact r.sl j s' e
  · rcases get_set e1 with ⟨rfl, rfl, hi⟩ | ⟨n1, e1⟩
    · rcases get_set e2 with ⟨rfl, _, _⟩ | ⟨n2, e2⟩
      · rfl
      · rw [List.getElem?_set_self (by rw [← r.len]; exact hi)] at h1
        rw [List.getElem?_set_ne n2] at h2
        cases h1
        exact absurd h2 (lo k t e2 o2)
    · rcases get_set e2 with ⟨rfl, rfl, hi⟩ | ⟨n2, e2⟩
      · rw [List.getElem?_set_self (by rw [← r.len]; exact hi)] at h2
        rw [List.getElem?_set_ne n1] at h1
        cases h2
        exact absurd h1 (lo j s' e1 o1)
      · rw [List.getElem?_set_ne n1] at h1
        rw [List.getElem?_set_ne n2] at h2
        exact r.dis j k s' t a e1 e2 o1 o2 h1 h2
/-- a slot's own thing is written (or locked) -/
theorem Rep.wr (r : Rep Γ E σ H) {i : Nat} {s s' : SV} {p : Addr} {u u' : HO} (e : E.l[i]? = some s) (ow : s.own = true) (eo : σ[i]? = some (some (.ref p))) (hp : H p = some u) (mu : Mut (some u))
    (h : RepS Γ (upd H p u') (some (.ref p)) s') : Rep Γ (E.set i s') σ (upd H p u') := by
  obtain ⟨o, h1, h2⟩ := r.sl i s e
  obtain ⟨b, u0, e1, e2, m0, fr⟩ := h2.own_at ow
  rw [h1] at eo
  cases eo
  cases e1
  rw [hp] at e2
  cases e2
  have hi := (List.getElem?_eq_some_iff.mp e).1
  have nsp : ∀ c, Γ.sp c → c ≠ p := fun c z q => fr.nsp (q ▸ z)
  refine ⟨⟨fun c o n1 n2 hc => ?_, r.base.kq.trans (Kq.upd hp mu), fun t et => ?_, fun P hP => ?_⟩, by simp [En.set, r.len], few_same r.few r.base.tape (fun t et o h => by rw [upd_ne (nsp t.l (.inl ⟨t, et, .inr rfl⟩))]; exact h), fun j s2 ej => ?_, fun j k s2 t a e1 e2 o1 o2 h3 h4 => ?_⟩
  · rw [upd_ne ?_]
    · exact r.base.ext c o n1 n2 hc
    · rintro rfl
      rcases fr.young with z | z
      · rw [z] at hc; cases hc
      · exact n2 z
  · have := r.base.tape t et
    refine this.upd ⟨?_, ?_⟩
    · exact fun q => nsp t.a (.inl ⟨t, et, .inl rfl⟩) q.symm
    · exact fun q => nsp t.l (.inl ⟨t, et, .inr rfl⟩) q.symm
  · obtain ⟨ps, h3, k⟩ := r.base.tabs P hP
    exact ⟨ps, by rw [upd_ne (nsp P (.inr hP))]; exact h3, k⟩
  · rcases get_set ej with ⟨rfl, rfl, _⟩ | ⟨ne, ej⟩
    · exact ⟨_, h1, h⟩
    · obtain ⟨o3, h3, h4⟩ := r.sl j s2 ej
      refine ⟨o3, h3, h4.stay (Kq.upd hp mu) fun a w ow2 eo2 ha => ?_⟩
      rw [upd_ne ?_]
      · exact ha
      · rintro rfl
        rw [eo2] at h3
        exact ne (r.dis i j s s2 _ e ej ow ow2 h1 h3)
  · have own : ∀ (j : Nat) (s3 : SV), (E.set i s').l[j]? = some s3 → s3.own = true → ∃ s4, E.l[j]? = some s4 ∧ s4.own = true := fun j s3 e3 o3 => by
      rcases get_set e3 with ⟨rfl, rfl, _⟩ | ⟨ne, e3⟩
      · exact ⟨s, e, ow⟩
      · exact ⟨s3, e3, o3⟩
    obtain ⟨s5, e5, o5⟩ := own j s2 e1 o1
    obtain ⟨s6, e6, o6⟩ := own k t e2 o2
    exact r.dis j k s5 s6 a e5 e6 o5 o6 h3 h4
end
end Va

set_option Elab.async false
set_option linter.all false
set_option maxRecDepth 100000
set_option maxHeartbeats 4000000
namespace Va
open PySem PySem.Spec PyProof.Rows L2 Ind
/-! ### readings by values -/
structure Sg where
  K : PySem.W.Frag
  b : Bool
  tabs : List Addr
structure Gm.Ok (Γ : Gm) (S : Sg) : Prop where
  k : Γ.K = S.K
  b : Γ.b = S.b
  t : Γ.tabs = S.tabs
/-- a value, or a new list or dict that nobody holds yet -/
inductive RV where
  | v (d : D)
  | fl (ds : List D)
  | fd (kvs : List (Key × D))
def RV.d : RV → D
  | .v d => d
  | .fl ds => .lst ds
  | .fd kvs => .dk kvs
def RV.sv : RV → SV
  | .v d => .v d
  | .fl ds => .ol ds
  | .fd kvs => .od false kvs
def RepR (Γ : Gm) (E : En) (σ : L2.St) (H : Hp) (v : V) : RV → Prop
  | .v d => Γ.Rp H v d
  | .fl ds => ∃ a, v = .ref a ∧ RepS Γ H (some (.ref a)) (.ol ds) ∧ Lone E σ a
  | .fd kvs => ∃ a, v = .ref a ∧ RepS Γ H (some (.ref a)) (.od false kvs) ∧ Lone E σ a
abbrev VT := En → (D → En → Prop) → Prop
abbrev FT := En → (RV → En → Prop) → Prop
abbrev VTT := En → (Bool → En → Prop) → Prop
abbrev VTA := En → (List D → En → Prop) → Prop
/-- a value that may still be a slot's own thing (read at once) -/
inductive RpW (Γ : Gm) (H : Hp) : V → D → Prop
  | v {v : V} {d : D} : Γ.Rp H v d → RpW Γ H v d
  | l {a : Addr} {xs : List V} {ds : List D} : H a = some (.lst xs) → Γ.RpL H xs ds → RpW Γ H (.ref a) (.lst ds)
  | k {a : Addr} {kv : List (Key × V)} {ds : List (Key × D)} : H a = some (.dK kv) → RpK Γ.K Γ.tp H kv ds → RpW Γ H (.ref a) (.dk ds)
def liftV (S : Sg) (t : VT) : TE := fun σ H Q => ∃ (Γ : Gm) (E : En) (Q0 : D → En → Prop), Γ.Ok S ∧ Rep Γ E σ H ∧ t E Q0 ∧ ∀ d E', Q0 d E' → ∀ v H', Kq H H' → Rep Γ E' σ H' → Γ.Rp H' v d → Q v H'
def liftB (S : Sg) (t : VT) : TE := fun σ H Q => ∃ (Γ : Gm) (E : En) (Q0 : D → En → Prop), Γ.Ok S ∧ Rep Γ E σ H ∧ t E Q0 ∧ ∀ d E', Q0 d E' → ∀ v H', Kq H H' → Rep Γ E' σ H' → RpW Γ H' v d → Q v H'
def liftF (S : Sg) (t : FT) : TE := fun σ H Q => ∃ (Γ : Gm) (E : En) (Q0 : RV → En → Prop), Γ.Ok S ∧ Rep Γ E σ H ∧ t E Q0 ∧ ∀ r E', Q0 r E' → ∀ v H', Kq H H' → Rep Γ E' σ H' → RepR Γ E' σ H' v r → Q v H'
def liftT (S : Sg) (t : VTT) : TT := fun σ H Q => ∃ (Γ : Gm) (E : En) (Q0 : Bool → En → Prop), Γ.Ok S ∧ Rep Γ E σ H ∧ t E Q0 ∧ ∀ b E', Q0 b E' → ∀ H', Kq H H' → Rep Γ E' σ H' → Q b H'
def liftA (S : Sg) (t : VTA) : TA := fun σ H Q => ∃ (Γ : Gm) (E : En) (Q0 : List D → En → Prop), Γ.Ok S ∧ Rep Γ E σ H ∧ t E Q0 ∧ ∀ ds E', Q0 ds E' → ∀ vs H', Kq H H' → Rep Γ E' σ H' → Γ.RpL H' vs ds → Q vs H'
abbrev VE (S : Sg) (X : Cx) (e : Expr) (t : VT) : Prop := PE X e (liftV S t)
abbrev BE (S : Sg) (X : Cx) (e : Expr) (t : VT) : Prop := PE X e (liftB S t)
abbrev FE (S : Sg) (X : Cx) (e : Expr) (t : FT) : Prop := PE X e (liftF S t)
abbrev VB (S : Sg) (X : Cx) (e : Expr) (t : VTT) : Prop := PT X e (liftT S t)
abbrev VA (S : Sg) (X : Cx) (es : List Expr) (t : VTA) : Prop := PA X es (liftA S t)
section
variable {X : Cx} {S : Sg} {e a b : Expr}
theorem pe_weak {t t' : TE} (h : PE X e t) (w : ∀ σ H Q, t' σ H Q → t σ H Q) : PE X e t' := ⟨fun pins s σ H Q I q => h.run pins s σ H Q I (w _ _ _ q)⟩
theorem pt_weak {t t' : TT} (h : PT X e t) (w : ∀ σ H Q, t' σ H Q → t σ H Q) : PT X e t' := ⟨fun pins s σ H Q I q => h.run pins s σ H Q I (w _ _ _ q)⟩
theorem pa_weak {es : List Expr} {t t' : TA} (h : PA X es t) (w : ∀ σ H Q, t' σ H Q → t σ H Q) : PA X es t' := ⟨fun pos pins s σ H Q I q => h.run pos pins s σ H Q I (w _ _ _ q)⟩
theorem ps_weak {st : Stmt} {t t' : TS} (h : PS X st t) (w : ∀ D σ H, t' D σ H → t D σ H) : PS X st t' := ⟨fun pins s σ H D I q => h.run pins s σ H D I (w _ _ _ q)⟩
theorem pss_weak {st : List Stmt} {t t' : TS} (h : PSs X st t) (w : ∀ D σ H, t' D σ H → t D σ H) : PSs X st t' := ⟨fun pins s σ H D I q => h.run pins s σ H D I (w _ _ _ q)⟩
/-- what comes may be locked -/
theorem pe_frz {t : TE} (h : PE X e t) : PE X e (fun σ H Q => t σ H fun v H' => Q v H' ∨ ∃ a u, v = .ref a ∧ H' a = some u ∧ Mut (some u) ∧ ∀ o, Q v (upd H' a (.frz o u))) := by
  refine ⟨fun pins s σ H Q I q => ?_⟩
  refine thn (h.run pins s σ H _ I q) fun v s1 ⟨x, H1, I1, r1, q1⟩ => ?_
  rcases q1 with q1 | ⟨a, u, rfl, hu, mu, q1⟩
  · exact ⟨x, H1, I1, r1, q1⟩
  · obtain ⟨o, I2⟩ := I1.lock hu mu
    exact ⟨_, _, I2, r1, q1 o⟩
/-- a thing that a slot owns may be locked ahead -/
theorem pe_lockS {t : TE} (i : Nat) (h : PE X e t) : PE X e (fun σ H Q => t σ H Q ∨ ∃ a u, σ[i]? = some (some (.ref a)) ∧ H a = some u ∧ Mut (some u) ∧ ∀ o, t σ (upd H a (.frz o u)) Q) := by
  refine ⟨fun pins s σ H Q I q => ?_⟩
  rcases q with q | ⟨a, u, _, hu, mu, q⟩
  · exact h.run pins s σ H Q I q
  · obtain ⟨o, I2⟩ := I.lock hu mu
    exact h.run pins s σ _ Q I2 (q o)
end
section
variable {Γ : Gm} {E : En} {σ : L2.St} {H H' : Hp}
/-- a lone thing is written (or locked) -/
theorem Rep.lone (r : Rep Γ E σ H) {p : Addr} {u u' : HO} (hp : H p = some u) (mu : Mut (some u)) (fr : Free Γ p) (lo : Lone E σ p) : Rep Γ E σ (upd H p u') := by
  have nsp : ∀ c, Γ.sp c → c ≠ p := fun c z q => fr.nsp (q ▸ z)
  refine ⟨⟨fun c o n1 n2 hc => ?_, r.base.kq.trans (Kq.upd hp mu), fun t et => ?_, fun P hP => ?_⟩, r.len, few_same r.few r.base.tape (fun t et o h => by rw [upd_ne (nsp t.l (.inl ⟨t, et, .inr rfl⟩))]; exact h), fun j s2 ej => ?_, r.dis⟩
  · rw [upd_ne ?_]
    · exact r.base.ext c o n1 n2 hc
    · rintro rfl
      rcases fr.young with z | z
      · rw [z] at hc; cases hc
      · exact n2 z
  · exact (r.base.tape t et).upd ⟨fun q => nsp t.a (.inl ⟨t, et, .inl rfl⟩) q.symm, fun q => nsp t.l (.inl ⟨t, et, .inr rfl⟩) q.symm⟩
  · obtain ⟨ps, h3, k⟩ := r.base.tabs P hP
    exact ⟨ps, by rw [upd_ne (nsp P (.inr hP))]; exact h3, k⟩
  · obtain ⟨o3, h3, h4⟩ := r.sl j s2 ej
    refine ⟨o3, h3, h4.stay (Kq.upd hp mu) fun a w ow2 eo2 ha => ?_⟩
    rw [upd_ne ?_]
    · exact ha
    · rintro rfl
      rw [eo2] at h3
      exact lo j s2 ej ow2 h3
/-- a slot's own thing is locked -/
def SV.fz : SV → SV
  | .ol ds => .v (.lst ds)
  | .od _ kvs => .v (.dk kvs)
  | s => s
theorem Rep.lock (r : Rep Γ E σ H) {i : Nat} {s : SV} {p : Addr} {u : HO} {o : Obj} (e : E.l[i]? = some s) (ow : s.own = true) (eo : σ[i]? = some (some (.ref p))) (hp : H p = some u) (mu : Mut (some u)) :
    Rep Γ (E.set i s.fz) σ (upd H p (.frz o u)) ∧ ∃ d, s.fz = .v d ∧ Γ.Rp (upd H p (.frz o u)) (.ref p) d := by
  obtain ⟨o1, h1, h2⟩ := r.sl i s e
  rw [eo] at h1
  cases h1
  have kq : Kq H (upd H p (.frz o u)) := Kq.upd hp mu
  have key : ∃ d, s.fz = .v d ∧ Γ.Rp (upd H p (.frz o u)) (.ref p) d := by
    cases s with
    | no => cases ow
    | v d => cases ow
    | ol ds =>
      obtain ⟨a, xs, h3, h4, h5, h6⟩ := h2
      cases h3
      rw [hp] at h4
      cases h4
      exact ⟨_, rfl, .lst ⟨o, upd_same⟩ (RpL.kq kq _ _ h5)⟩
    | od b ds =>
      obtain ⟨a, xs, h3, h4, h5, h6⟩ := h2
      cases h3
      rw [hp] at h4
      cases h4
      exact ⟨_, rfl, .dk (o := o) upd_same (RpK.kq kq _ _ h5)⟩
    | ex b pl => cases ow
  refine ⟨r.wr e ow eo hp mu ?_, key⟩
  obtain ⟨d, e1, e2⟩ := key
  rw [e1]
  exact ⟨_, rfl, e2⟩
theorem RepR.lock {v : V} {x : RV} (r : Rep Γ E σ H) (h : RepR Γ E σ H v x) : (Γ.Rp H v x.d) ∨ ∃ a u, v = .ref a ∧ H a = some u ∧ Mut (some u) ∧ ∀ o, Rep Γ E σ (upd H a (.frz o u)) ∧ Kq H (upd H a (.frz o u)) ∧ Γ.Rp (upd H a (.frz o u)) v x.d := by
  cases x with
  | v d => exact .inl h
  | fl ds =>
    obtain ⟨a, rfl, ⟨a', xs, h3, h4, h5, h6⟩, lo⟩ := h
    cases h3
    have kq : ∀ o, Kq H (upd H a (.frz o (.lst xs))) := fun o => Kq.upd h4 trivial
    exact .inr ⟨a, _, rfl, h4, trivial, fun o => ⟨r.lone h4 trivial h6 lo, kq o, .lst ⟨o, upd_same⟩ (RpL.kq (kq o) _ _ h5)⟩⟩
  | fd ds =>
    obtain ⟨a, rfl, ⟨a', xs, h3, h4, h5, h6, _⟩, lo⟩ := h
    cases h3
    have kq : ∀ o, Kq H (upd H a (.frz o (.dK xs))) := fun o => Kq.upd h4 trivial
    exact .inr ⟨a, _, rfl, h4, trivial, fun o => ⟨r.lone h4 trivial h6 lo, kq o, .dk (o := o) upd_same (RpK.kq (kq o) _ _ h5)⟩⟩
theorem RepS.rpW {o : Option V} {s : SV} {d : D} (h : RepS Γ H o s) (e : s = .v d ∨ (s.own = true ∧ s.fz = .v d)) : ∃ v, o = some v ∧ RpW Γ H v d := by
  rcases e with rfl | ⟨ow, e⟩
  · obtain ⟨v, rfl, h⟩ := h
    exact ⟨v, rfl, .v h⟩
  · cases s with
    | no => cases ow
    | v d => cases ow
    | ol ds =>
      cases e
      obtain ⟨a, xs, rfl, h4, h5, h6⟩ := h
      exact ⟨_, rfl, .l h4 h5⟩
    | od b ds =>
      cases e
      obtain ⟨a, xs, rfl, h4, h5, h6⟩ := h
      exact ⟨_, rfl, .k h4 h5⟩
    | ex b pl => cases ow
end
section
variable {X : Cx} {S : Sg} {e a b : Expr}
/-! ### names, constants -/
def pkD : SV → Option D
  | .no => none
  | .v d => some d
  | .ol ds => some (.lst ds)
  | .od _ kvs => some (.dk kvs)
  | .ex _ _ => none
def peek (E : En) (i : Nat) : Option D := (E.l[i]?).bind pkD
def withD (o : Option D) (Q : D → Prop) : Prop := match o with
  | some d => Q d
  | none => False
def withP (o : Option D) (Q : D → Prop) : Prop := match o with
  | some d => Q d
  | none => False
/-- a name: its value (its own thing is locked from now on) -/
def vName (i : Nat) : VT := fun E Q => match E.l[i]? with
  | some (.v d) => Q d E
  | some (.ol ds) => Q (.lst ds) (E.set i (.v (.lst ds)))
  | some (.od _ kvs) => Q (.dk kvs) (E.set i (.v (.dk kvs)))
  | _ => False
/-- a name, read at once -/
def bName (i : Nat) : VT := fun E Q => withP (peek E i) fun d => Q d E
theorem peek_at {Γ : Gm} {E : En} {σ : L2.St} {H : Hp} {i : Nat} {d : D} (r : Rep Γ E σ H) (e : peek E i = some d) : ∃ v, σ[i]? = some (some v) ∧ RpW Γ H v d := by
  unfold peek at e
  cases h : E.l[i]? with
  | none => rw [h] at e; cases e
  | some s =>
    rw [h] at e
    obtain ⟨o, h1, h2⟩ := r.sl i s h
    obtain ⟨v, rfl, w⟩ := h2.rpW (d := d) (by
      cases s with
      | no => cases e
      | v d => cases e; exact .inl rfl
      | ol ds => cases e; exact .inr ⟨rfl, rfl⟩
      | od b ds => cases e; exact .inr ⟨rfl, rfl⟩
      | ex b pl => cases e)
    exact ⟨v, h1, w⟩
theorem be_name {i : Nat} (h : PE X e (tVar i)) : BE S X e (bName i) := by
  refine pe_weak h ?_
  rintro σ H Q ⟨Γ, E, Q0, ok, r, ht, k⟩
  unfold bName withP at ht
  cases hp : peek E i with
  | none => rw [hp] at ht; exact ht.elim
  | some d =>
    rw [hp] at ht
    obtain ⟨v, h1, w⟩ := peek_at r hp
    exact ⟨v, h1, k d E ht v H (Kq.refl _) r w⟩
theorem ve_name {i : Nat} (h : PE X e (tVar i)) : VE S X e (vName i) := by
  refine pe_weak (pe_frz h) ?_
  rintro σ H Q ⟨Γ, E, Q0, ok, r, ht, k⟩
  unfold vName at ht
  cases hE : E.l[i]? with
  | none => rw [hE] at ht; exact ht.elim
  | some s =>
    rw [hE] at ht
    obtain ⟨o, h1, h2⟩ := r.sl i s hE
    have own : s.own = true → Q0 (match s.fz with | .v d => d | _ => .non) (E.set i s.fz) → tVar i σ H fun v H' => Q v H' ∨ ∃ a u, v = .ref a ∧ H' a = some u ∧ Mut (some u) ∧ ∀ o, Q v (upd H' a (.frz o u)) := by
      intro ow hq
      obtain ⟨p, u, rfl, hu, mu, fr⟩ := h2.own_at ow
      refine ⟨_, h1, .inr ⟨p, u, rfl, hu, mu, fun o => ?_⟩⟩
      obtain ⟨r2, d, e1, e2⟩ := r.lock (o := o) hE ow h1 hu mu
      rw [e1] at hq r2
      exact k d _ hq _ _ (Kq.upd hu mu) r2 e2
    cases s with
    | no => exact ht.elim
    | v d =>
      obtain ⟨v, rfl, hv⟩ := h2
      exact ⟨v, h1, .inl (k d E ht v H (Kq.refl _) r hv)⟩
    | ol ds => exact own rfl ht
    | od b kvs => exact own rfl ht
    | ex b pl => exact ht.elim
def vC (d : D) : VT := fun E Q => Q d E
theorem ve_c {v : V} {d : D} (h : PE X e (tC v)) (r : ∀ Γ H, Gm.Rp Γ H v d) : VE S X e (vC d) := by
  refine pe_weak h ?_
  rintro σ H Q ⟨Γ, E, Q0, ok, rp, ht, k⟩
  exact k d E ht v H (Kq.refl _) rp (r Γ H)
theorem ve_int {i j pos} : VE S X (.Constant (.int i) j pos) (vC (.int i)) := ve_c pe_int fun _ _ => .int i
theorem ve_bl {b j pos} : VE S X (.Constant (.bool b) j pos) (vC (.bl b)) := ve_c pe_bl fun _ _ => .bl b
theorem ve_non {j pos} : VE S X (.Constant .none j pos) (vC .non) := ve_c pe_non fun _ _ => .non
theorem ve_str {x j pos} : VE S X (.Constant (.str x) j pos) (vC (.str x)) := ve_c pe_str fun _ _ => .str x
/-! ### from one judgement to another -/
/-- what is new is locked -/
def fz (t : FT) : VT := fun E Q => t E fun r E' => Q r.d E'
def ff (t : VT) : FT := fun E Q => t E fun d E' => Q (.v d) E'
theorem ve_of {t : FT} (h : FE S X e t) : VE S X e (fz t) := by
  refine pe_weak (pe_frz h) ?_
  rintro σ H Q ⟨Γ, E, Q0, ok, r, ht, k⟩
  refine ⟨Γ, E, _, ok, r, ht, fun x E' hq v H' kq r' hv => ?_⟩
  rcases hv.lock r' with h1 | ⟨p, u, rfl, hu, mu, h1⟩
  · exact .inl (k _ _ hq _ _ kq r' h1)
  · exact .inr ⟨p, u, rfl, hu, mu, fun o => k _ _ hq _ _ (kq.trans (h1 o).2.1) (h1 o).1 (h1 o).2.2⟩
theorem fe_of {t : VT} (h : VE S X e t) : FE S X e (ff t) := by
  refine pe_weak h ?_
  rintro σ H Q ⟨Γ, E, Q0, ok, r, ht, k⟩
  exact ⟨Γ, E, _, ok, r, ht, fun d E' hq v H' kq r' hv => k _ _ hq v H' kq r' hv⟩
theorem be_of {t : VT} (h : VE S X e t) : BE S X e t := by
  refine pe_weak h ?_
  rintro σ H Q ⟨Γ, E, Q0, ok, r, ht, k⟩
  exact ⟨Γ, E, _, ok, r, ht, fun d E' hq v H' kq r' hv => k _ _ hq v H' kq r' (.v hv)⟩
/-! ### operators -/
abbrev VO := D → D → (RV → Prop) → Prop
/-- new things -/
def RpN (Γ : Gm) (H H' : Hp) (v : V) : RV → Prop
  | .v d => Γ.Rp H' v d
  | .fl ds => ∃ a xs, v = .ref a ∧ H a = none ∧ H' a = some (.lst xs) ∧ Γ.RpL H' xs ds
  | .fd kvs => ∃ a kv, v = .ref a ∧ H a = none ∧ H' a = some (.dK kv) ∧ RpK Γ.K Γ.tp H' kv kvs
theorem RpN.rep {Γ : Gm} {E : En} {σ : L2.St} {H H' : Hp} {v : V} {x : RV} (r : Rep Γ E σ H) (s : Same H H') (h : RpN Γ H H' v x) : RepR Γ E σ H' v x := by
  cases x with
  | v d => exact h
  | fl ds =>
    obtain ⟨p, xs, rfl, n, h1, h2⟩ := h
    obtain ⟨f, l⟩ := r.fresh n
    exact ⟨p, rfl, ⟨p, xs, rfl, h1, h2, f⟩, l⟩
  | fd ds =>
    obtain ⟨p, xs, rfl, n, h1, h2⟩ := h
    obtain ⟨f, l⟩ := r.fresh n
    exact ⟨p, rfl, ⟨p, xs, rfl, h1, h2, f, fun z => by cases z⟩, l⟩
/-- the second operand may be read at once -/
structure OpV (S : Sg) (X : Cx) (f : Value → Value → Sem Value) (g : VO) : Prop where
  ex : ∃ r : R2, OpR X f r ∧ ∀ (Γ : Gm) (H : Hp) (x y : V) (d e : D) (Q : VK) (Q0 : RV → Prop), Γ.K = S.K → RpW Γ H x d → RpW Γ H y e → g d e Q0 → (∀ z, Q0 z → ∀ v H', Same H H' → RpN Γ H H' v z → Q v H') → r x y H Q
def vOp (g : VO) (ta tb : VT) : FT := fun E Q => ta E fun d E1 => tb E1 fun e E2 => g d e fun z => Q z E2
theorem fe_op {op : Operator} {g : VO} {ta tb : VT} {pos : Pos} (ho : OpV S X (binaryOp op) g) (ha : VE S X a ta) (hb : BE S X b tb) : FE S X (.BinOp a op b pos) (vOp g ta tb) := by
  obtain ⟨r, h1, h2⟩ := ho.ex
  refine pe_weak (pe_op h1 ha hb) ?_
  rintro σ H Q ⟨Γ, E, Q0, ok, rp, ht, k⟩
  refine ⟨Γ, E, _, ok, rp, ht, fun d E1 hq x H1 kq1 rp1 hx => ?_⟩
  refine ⟨Γ, E1, _, ok, rp1, hq, fun e E2 hq2 y H2 kq2 rp2 hy => ?_⟩
  refine h2 Γ H2 x y d e _ _ ok.k (.v (Rp.kq kq2 _ _ hx)) hy hq2 fun z hz v H' sm hn => ?_
  exact k _ _ hz v H' ((kq1.trans kq2).trans (Kq.same sm)) (rp2.same sm) (hn.rep rp2 sm)
def vCmp (g : VO) (ta tb : VT) : VT := fun E Q => ta E fun d E1 => tb E1 fun e E2 => g d e fun z => Q z.d E2
theorem fe_cmp {op : CmpOp} {g : VO} {ta tb : VT} {pos : Pos} (ho : OpV S X (compareOp op) g) (ha : VE S X a ta) (hb : BE S X b tb) (hm : behindInMarks op b = false) : FE S X (.Compare a [op] [b] pos) (vOp g ta tb) := by
  obtain ⟨r, h1, h2⟩ := ho.ex
  refine pe_weak (pe_cmpR h1 ha hb hm) ?_
  rintro σ H Q ⟨Γ, E, Q0, ok, rp, ht, k⟩
  refine ⟨Γ, E, _, ok, rp, ht, fun d E1 hq x H1 kq1 rp1 hx => ?_⟩
  refine ⟨Γ, E1, _, ok, rp1, hq, fun e E2 hq2 y H2 kq2 rp2 hy => ?_⟩
  refine h2 Γ H2 x y d e _ _ ok.k (.v (Rp.kq kq2 _ _ hx)) hy hq2 fun z hz v H' sm hn => ?_
  exact k _ _ hz v H' ((kq1.trans kq2).trans (Kq.same sm)) (rp2.same sm) (hn.rep rp2 sm)
/-! ### tests -/
def asB (d : D) (Q : Bool → Prop) : Prop := match d with
  | .bl b => Q b
  | _ => False
def vTest (t : VT) : VTT := fun E Q => t E fun d E' => asB d fun b => Q b E'
theorem asB_inv {d : D} {Q : Bool → Prop} (h : asB d Q) : ∃ b, d = .bl b ∧ Q b := by
  cases d with
  | bl b => exact ⟨b, rfl, h⟩
  | _ => exact h.elim
theorem vb_val {t : VT} (h : VE S X e t) (he : ∀ whole, isTrue e X.env whole = (do let v ← whole; standAt e.pos; holding [v] (truthy v)) := by intro _; rfl) : VB S X e (vTest t) := by
  refine pt_weak (pt_val h he) ?_
  rintro σ H Q ⟨Γ, E, Q0, ok, rp, ht, k⟩
  refine ⟨Γ, E, _, ok, rp, ht, fun d E1 hq x H1 kq1 rp1 hx => ?_⟩
  obtain ⟨b, rfl, hb⟩ := asB_inv hq
  cases hx
  exact ⟨b, rfl, k _ _ hb _ kq1 rp1⟩
theorem vb_cmp {op : CmpOp} {g : VO} {ta tb : VT} {pos : Pos} (ho : OpV S X (compareOp op) g) (ha : VE S X a ta) (hb : BE S X b tb) (hm : behindInMarks op b = false) : VB S X (.Compare a [op] [b] pos) (vTest (fz (vOp g ta tb))) := by
  obtain ⟨r, h1, h2⟩ := ho.ex
  refine pt_weak (pt_cmpR h1 ha hb hm) ?_
  rintro σ H Q ⟨Γ, E, Q0, ok, rp, ht, k⟩
  refine ⟨Γ, E, _, ok, rp, ht, fun d E1 hq x H1 kq1 rp1 hx => ?_⟩
  refine ⟨Γ, E1, _, ok, rp1, hq, fun e E2 hq2 y H2 kq2 rp2 hy => ?_⟩
  refine h2 Γ H2 x y d e _ _ ok.k (.v (Rp.kq kq2 _ _ hx)) hy hq2 fun z hz v H' sm hn => ?_
  obtain ⟨b, e1, hb⟩ := asB_inv hz
  cases z with
  | v d =>
    cases e1
    cases hn
    exact ⟨b, rfl, k _ _ hb _ ((kq1.trans kq2).trans (Kq.same sm)) (rp2.same sm)⟩
  | fl ds => cases e1
  | fd ds => cases e1
/-- truth of any value -/
def truD : D → Option Bool
  | .non => some false
  | .bl b => some b
  | .int i => some (i != 0)
  | .str x => if x.length ≤ sizeLine then some ((x.length : Int) != 0) else none
  | .tup xs => some (!xs.isEmpty)
  | .ptp _ => none
  | .lst xs => some (!xs.isEmpty)
  | .dk _ => none
  | .tape => none
  | .ty _ => none
def withB (o : Option Bool) (Q : Bool → Prop) : Prop := match o with
  | some d => Q d
  | none => False
def vTru (t : VT) : VTT := fun E Q => t E fun d E' => withB (truD d) fun b => Q b E'
theorem empty_len {α β : Type} {xs : List α} {ys : List β} (h : xs.length = ys.length) : xs.isEmpty = ys.isEmpty := by
  cases xs <;> cases ys <;> first | rfl | (simp at h)
theorem RpK.len {K : PySem.W.Frag} {tp : Option Tp} {H : Hp} {kv : List (Key × V)} {ds : List (Key × D)} (h : RpK K tp H kv ds) : kv.length = ds.length := by
  have := congrArg List.length h.keys
  simpa using this
theorem tru_of {Γ : Gm} {H : Hp} {v : V} {d : D} {b : Bool} (ok : Γ.K = X.K) (h : RpW Γ H v d) (e : truD d = some b) : TruV X.K v H b := by
  cases h with
  | l h1 h2 =>
    cases e
    exact .inl ⟨_, .of h1, by rw [empty_len h2.len]⟩
  | k h1 h2 => cases e
  | v h =>
    cases d with
    | non => cases h; cases e; exact rfl
    | bl b => cases h; cases e; exact rfl
    | int i => cases h; cases e; exact rfl
    | str x =>
      cases h
      have e : (if x.length ≤ sizeLine then some ((x.length : Int) != 0) else none) = some b := e
      by_cases hl : x.length ≤ sizeLine
      · rw [if_pos hl] at e; cases e; exact ⟨hl, rfl⟩
      · rw [if_neg hl] at e; cases e
    | tup ds =>
      obtain ⟨p, xs, rfl, h1, h2⟩ := h.tup_inv
      cases e
      exact .inr (.inl ⟨_, by rw [← ok]; exact h1, by rw [empty_len h2.len]⟩)
    | lst ds =>
      obtain ⟨p, xs, rfl, h1, h2⟩ := h.lst_inv
      cases e
      exact .inl ⟨_, by rw [← ok]; exact h1.sq, by rw [empty_len h2.len]⟩
    | dk ds =>
      cases e
    | ptp ds => cases e
    | tape => cases e
    | ty n => cases e
theorem withB_inv {d : Option Bool} {Q : Bool → Prop} (h : withB d Q) : ∃ b, d = some b ∧ Q b := by
  cases d with
  | none => exact h.elim
  | some b => exact ⟨b, rfl, h⟩
theorem vb_tru {t : VT} (hK : S.K = X.K) (h : BE S X e t) (he : ∀ whole, isTrue e X.env whole = (do let v ← whole; standAt e.pos; holding [v] (truthy v)) := by intro _; rfl) : VB S X e (vTru t) := by
  refine pt_weak (pt_truth h he) ?_
  rintro σ H Q ⟨Γ, E, Q0, ok, rp, ht, k⟩
  refine ⟨Γ, E, _, ok, rp, ht, fun d E1 hq x H1 kq1 rp1 hx => ?_⟩
  obtain ⟨b, e1, hb⟩ := withB_inv hq
  exact ⟨b, tru_of (ok.k.trans hK) hx e1, k _ _ hb _ kq1 rp1⟩
def vAnd (t u : VTT) : VTT := fun E Q => t E fun c E1 => (c = true → u E1 Q) ∧ (c = false → Q false E1)
def vOr (t u : VTT) : VTT := fun E Q => t E fun c E1 => (c = true → Q true E1) ∧ (c = false → u E1 Q)
def vNot (t : VTT) : VTT := fun E Q => t E fun c E1 => Q (!c) E1
abbrev VW (S : Sg) (X : Cx) (e : Expr) (t : VTT) : Prop := PW X e (liftT S t)
theorem pw_weak {t t' : TT} (h : PW X e t) (w : ∀ σ H Q, t' σ H Q → t σ H Q) : PW X e t' := ⟨fun wh pins s σ H Q I q => h.run wh pins s σ H Q I (w _ _ _ q)⟩
variable {rest : List Expr} {pos : Pos}
theorem vw_and1 {t : VTT} (ha : VB S X a t) : VW S X (.BoolOp .And [a] pos) t := pw_and1 ha
theorem vw_or1 {t : VTT} (ha : VB S X a t) : VW S X (.BoolOp .Or [a] pos) t := pw_or1 ha
theorem vw_and {t u : VTT} (ha : VB S X a t) (hb : VW S X (.BoolOp .And (b :: rest) pos) u) : VW S X (.BoolOp .And (a :: b :: rest) pos) (vAnd t u) := by
  refine pw_weak (pw_and ha hb) ?_
  rintro σ H Q ⟨Γ, E, Q0, ok, rp, ht, k⟩
  refine ⟨Γ, E, _, ok, rp, ht, fun c E1 hq H1 kq1 rp1 => ?_⟩
  cases c with
  | true =>
    refine iteT ?_
    exact ⟨Γ, E1, _, ok, rp1, hq.1 rfl, fun c E2 hq2 H2 kq2 rp2 => k _ _ hq2 _ (kq1.trans kq2) rp2⟩
  | false =>
    refine iteF ?_
    exact k _ _ (hq.2 rfl) _ kq1 rp1
theorem vw_or {t u : VTT} (ha : VB S X a t) (hb : VW S X (.BoolOp .Or (b :: rest) pos) u) : VW S X (.BoolOp .Or (a :: b :: rest) pos) (vOr t u) := by
  refine pw_weak (pw_or ha hb) ?_
  rintro σ H Q ⟨Γ, E, Q0, ok, rp, ht, k⟩
  refine ⟨Γ, E, _, ok, rp, ht, fun c E1 hq H1 kq1 rp1 => ?_⟩
  cases c with
  | true =>
    refine iteT ?_
    exact k _ _ (hq.1 rfl) _ kq1 rp1
  | false =>
    refine iteF ?_
    exact ⟨Γ, E1, _, ok, rp1, hq.2 rfl, fun c E2 hq2 H2 kq2 rp2 => k _ _ hq2 _ (kq1.trans kq2) rp2⟩
theorem vb_w {t : VTT} (h : VW S X e t) : VB S X e t := h.pt
theorem vb_not {t : VTT} (ha : VB S X a t) : VB S X (.UnaryOp .Not a pos) (vNot t) := by
  refine pt_weak (pt_not ha) ?_
  rintro σ H Q ⟨Γ, E, Q0, ok, rp, ht, k⟩
  exact ⟨Γ, E, _, ok, rp, ht, fun c E1 hq H1 kq1 rp1 => k _ _ hq _ kq1 rp1⟩
/-- and, or, not as values (all but the last are truths) -/
def vAndV (t u : VT) : VT := fun E Q => t E fun d E1 => asB d fun c => (c = true → u E1 Q) ∧ (c = false → Q (.bl false) E1)
def vOrV (t u : VT) : VT := fun E Q => t E fun d E1 => asB d fun c => (c = true → Q (.bl true) E1) ∧ (c = false → u E1 Q)
def vNotV (t : VT) : VT := fun E Q => t E fun d E1 => asB d fun c => Q (.bl (!c)) E1
theorem ve_one {op} {t : VT} (h : VE S X a t) : VE S X (.BoolOp op [a] pos) t := pe_one h
theorem ve_and {t u : VT} (ha : VE S X a t) (hb : VE S X (.BoolOp .And (b :: rest) pos) u) : VE S X (.BoolOp .And (a :: b :: rest) pos) (vAndV t u) := by
  refine pe_weak (pe_and ha hb) ?_
  rintro σ H Q ⟨Γ, E, Q0, ok, rp, ht, k⟩
  refine ⟨Γ, E, _, ok, rp, ht, fun d E1 hq v H1 kq1 rp1 hv => ?_⟩
  obtain ⟨c, rfl, hc⟩ := asB_inv hq
  cases hv
  refine ⟨c, rfl, ?_⟩
  cases c with
  | true => exact iteT ⟨Γ, E1, _, ok, rp1, hc.1 rfl, fun c E2 hq2 v2 H2 kq2 rp2 hv2 => k _ _ hq2 _ _ (kq1.trans kq2) rp2 hv2⟩
  | false => exact iteF (k _ _ (hc.2 rfl) _ _ kq1 rp1 (.bl false))
theorem ve_or {t u : VT} (ha : VE S X a t) (hb : VE S X (.BoolOp .Or (b :: rest) pos) u) : VE S X (.BoolOp .Or (a :: b :: rest) pos) (vOrV t u) := by
  refine pe_weak (pe_or ha hb) ?_
  rintro σ H Q ⟨Γ, E, Q0, ok, rp, ht, k⟩
  refine ⟨Γ, E, _, ok, rp, ht, fun d E1 hq v H1 kq1 rp1 hv => ?_⟩
  obtain ⟨c, rfl, hc⟩ := asB_inv hq
  cases hv
  refine ⟨c, rfl, ?_⟩
  cases c with
  | false => exact iteF ⟨Γ, E1, _, ok, rp1, hc.2 rfl, fun c E2 hq2 v2 H2 kq2 rp2 hv2 => k _ _ hq2 _ _ (kq1.trans kq2) rp2 hv2⟩
  | true => exact iteT (k _ _ (hc.1 rfl) _ _ kq1 rp1 (.bl true))
theorem ve_not {t : VT} (ha : VE S X a t) : VE S X (.UnaryOp .Not a pos) (vNotV t) := by
  refine pe_weak (pe_not ha) ?_
  rintro σ H Q ⟨Γ, E, Q0, ok, rp, ht, k⟩
  refine ⟨Γ, E, _, ok, rp, ht, fun d E1 hq v H1 kq1 rp1 hv => ?_⟩
  obtain ⟨c, rfl, hc⟩ := asB_inv hq
  cases hv
  exact ⟨c, rfl, k _ _ hc _ _ kq1 rp1 (.bl _)⟩
/-- an expression by a test -/
def vIfE (c : VTT) (t u : VT) : VT := fun E Q => c E fun b E1 => (b = true → t E1 Q) ∧ (b = false → u E1 Q)
theorem ve_if {c : Expr} {tc : VTT} {t u : VT} (hc : VB S X c tc) (ha : VE S X a t) (hb : VE S X b u) : VE S X (.IfExp c a b pos) (vIfE tc t u) := by
  refine pe_weak (pe_ifExp hc ha hb) ?_
  rintro σ H Q ⟨Γ, E, Q0, ok, rp, ht, k⟩
  refine ⟨Γ, E, _, ok, rp, ht, fun c E1 hq H1 kq1 rp1 => ?_⟩
  cases c with
  | true => exact iteT ⟨Γ, E1, _, ok, rp1, hq.1 rfl, fun d E2 hq2 v2 H2 kq2 rp2 hv2 => k _ _ hq2 _ _ (kq1.trans kq2) rp2 hv2⟩
  | false => exact iteF ⟨Γ, E1, _, ok, rp1, hq.2 rfl, fun d E2 hq2 v2 H2 kq2 rp2 hv2 => k _ _ hq2 _ _ (kq1.trans kq2) rp2 hv2⟩
/-! ### arguments, displays -/
def aNil : VTA := fun E Q => Q [] E
def aCons (t : VT) (u : VTA) : VTA := fun E Q => t E fun d E1 => u E1 fun ds E2 => Q (d :: ds) E2
variable {es : List Expr}
theorem va_nil : VA S X [] aNil := by
  refine pa_weak pa_nil ?_
  rintro σ H Q ⟨Γ, E, Q0, ok, rp, ht, k⟩
  exact k _ _ ht _ _ (Kq.refl _) rp .nil
theorem va_cons {t : VT} {u : VTA} (ha : VE S X e t) (hr : VA S X es u) (hs : starEach (e :: es) X.env = (false, eval e X.env) :: starEach es X.env := by rfl) : VA S X (e :: es) (aCons t u) := by
  refine pa_weak (pa_cons ha hr hs) ?_
  rintro σ H Q ⟨Γ, E, Q0, ok, rp, ht, k⟩
  refine ⟨Γ, E, _, ok, rp, ht, fun d E1 hq v H1 kq1 rp1 hv => ?_⟩
  refine ⟨Γ, E1, _, ok, rp1, hq, fun ds E2 hq2 vs H2 kq2 rp2 hvs => ?_⟩
  exact k _ _ hq2 _ _ (kq1.trans kq2) rp2 (.cons (Rp.kq kq2 _ _ hv) hvs)
def vTup (t : VTA) : VT := fun E Q => t E fun ds E1 => ds.length ≤ 1000 ∧ Q (.tup ds) E1
def vLst (t : VTA) : FT := fun E Q => t E fun ds E1 => ds.length ≤ 1000 ∧ Q (.fl ds) E1
theorem ve_tup {x1} {t : VTA} (h : VA S X es t) : VE S X (.Tuple es x1 pos) (vTup t) := by
  refine pe_weak (pe_tup h) ?_
  rintro σ H Q ⟨Γ, E, Q0, ok, rp, ht, k⟩
  refine ⟨Γ, E, _, ok, rp, ht, fun ds E1 hq vs H1 kq1 rp1 hvs => ⟨line (by rw [hvs.len]; exact hq.1), fun p np => ?_⟩⟩
  have sm := same_upd (o := .tup vs) np
  exact k _ _ hq.2 _ _ (kq1.trans (Kq.same sm)) (rp1.same sm) (.tup (.of upd_same) (RpL.kq (Kq.same sm) _ _ hvs))
theorem fe_lst {t : VTA} (h : VA S X es t) : FE S X (.List es pos) (vLst t) := by
  refine pe_weak (pe_lst h) ?_
  rintro σ H Q ⟨Γ, E, Q0, ok, rp, ht, k⟩
  refine ⟨Γ, E, _, ok, rp, ht, fun ds E1 hq vs H1 kq1 rp1 hvs => ⟨line (by rw [hvs.len]; exact hq.1), fun p np => ?_⟩⟩
  have sm := same_upd (o := .lst vs) np
  refine k _ _ hq.2 _ _ (kq1.trans (Kq.same sm)) (rp1.same sm) (RpN.rep (x := .fl ds) rp1 sm ⟨p, vs, rfl, np, upd_same, RpL.kq (Kq.same sm) _ _ hvs⟩)
end
end Va

set_option Elab.async false
set_option linter.all false
set_option maxRecDepth 100000
set_option maxHeartbeats 4000000
namespace Ind
open PySem PySem.Spec PyProof.Rows L2 IndG
/-- a tuple of targets in another scope -/
theorem pg_tupK {X : Cx} {K : PySem.W.Frag} {es : List Expr} {t : TGs} {k : Nat} {pos : Pos} (n : Nat) (hK : X.K = K) (hc : X.calm = true) (h : PGs X es t) (hn : (assignEach es X.env).length = n) (hst : (assignEach es X.env).findIdx? (·.1) = none) : PG X (.Tuple es k pos) (gTup K n t) := by
  subst hK
  exact pg_tup hc h hn hst
/-- repr of a truth -/
theorem call_reprB {X : Cx} : CallR X (.builtin "repr") (fun xs H Q => ∃ b : Bool, xs = [.bl b] ∧ Q (.str (if b then "True" else "False")) H) := by
  intro pins s σ H xs us Q I r h
  obtain ⟨b, rfl, q⟩ := h
  obtain ⟨u, rfl, ru⟩ := vals1 r
  cases (show u = Value.bool b from ru)
  exact PySem.P.repr_of_bool ⟨.str (if b then "True" else "False"), H, I.tok _, ⟨_, rfl⟩, q⟩
theorem boot_all : bootBuiltins "all" = some (.builtin "all") := by first | rfl | decide | exact PyProof.Rows.Boot.«all»
/-- a def whose code object is known -/
structure FunC (K : PySem.W.Frag) (x qual : Str) (st : Stmt) (f : Addr) (fd : FuncData) (c : Addr) : Prop where
  ex : ∃ (oc : Value) (od : Option Addr) (kV doc pm : Value) (an : Option Addr) (ct : Value) (osl : Array (Option Value)),
    fd = PySem.W.fnOf x qual (defArgs st) (defBody st) (defScope st) .none kV doc pm an (.ref c) ct ∧ K.lookup f = some ⟨oc, od, .func fd, osl⟩ ∧ PySem.W.codeIn K (.ref c) qual = true
theorem FunC.okC {P : Program} {w : World} {K : PySem.W.Frag} {mg : Str → Option Value} {base : Heap} {x qual : Str} {st : Stmt} {f c : Addr} {fd : FuncData} {N ps : List Str} {k : Nat} {sp : Sp} (F : FunC K x qual st f fd c) (S : FnScope N ps (defScope st))
    (len : ∀ vs H Q E, sp vs H Q E → vs.length = ps.length)
    (body : ∀ (A : Around) (outer : List Env) (s : Shared) (H : Hp) (vs : List V) (Q : VK) (E : XK), Room k (A.deeper (envOfC qual (defScope st) s.heap.objs.size f (.ref c))) → sp vs H Q E →
      ∃ t, PSs (cxOf CX0 P w K mg base N qual (defScope st) f (.ref c) A outer s H E).nox (defBody st) t ∧ t { nx := fun _ H' => Q .non H', rt := Q } (start N vs) H) : FnOk P w K mg base CX0 (k + 1) f fd ps sp := by
  obtain ⟨oc, od, kV, doc, pm, an, ct, osl, rfl, lk, hcd⟩ := F.ex
  refine fn_of lk hcd S len fun A outer s H vs Q E hr h => ?_
  obtain ⟨t, ht, q⟩ := body A outer s H vs Q E hr h
  exact ⟨t, ht.nox, q⟩
/-! ### tables and rows -/
structure Tb where
  name : S
  cols : List (S × Bool)
  key : PyData
  limit : Int
def cwD (c : S × Bool) : PyData := .tuple [.str c.1, .str (wordS c.2)]
def tbD (t : Tb) : PyData := .tuple [.str t.name, .tuple (t.cols.map cwD), t.key, .int t.limit, .tuple [], .tuple []]
def scD (ts : List Tb) : PyData := .tuple [.tuple (ts.map tbD), .tuple [], .tuple []]
def TbOk (t : Tb) : Prop := tuplesOnly t.key = true
theorem tO_cw (c : S × Bool) : tuplesOnly (cwD c) = true := rfl
theorem tO_cws (cs : List (S × Bool)) : tuplesOnlyAll (cs.map cwD) = true := tO_all _ tO_cw cs
theorem tO_tb {t : Tb} (h : TbOk t) : tuplesOnly (tbD t) = true := by
  show (true && (tuplesOnlyAll (t.cols.map cwD) && (tuplesOnly t.key && (true && (true && (true && true)))))) = true
  rw [tO_cws, show tuplesOnly t.key = true from h]
  rfl
theorem tO_tbs : ∀ {ts : List Tb}, (∀ t ∈ ts, TbOk t) → tuplesOnlyAll (ts.map tbD) = true
  | [], _ => rfl
  | t :: r, h => by
    show (tuplesOnly (tbD t) && tuplesOnlyAll (r.map tbD)) = true
    rw [tO_tb (h t (List.mem_cons_self ..)), tO_tbs (fun u hu => h u (List.mem_cons_of_mem _ hu))]
    rfl
theorem tO_sc {ts : List Tb} (h : ∀ t ∈ ts, TbOk t) : tuplesOnly (scD ts) = true := by
  show (tuplesOnlyAll (ts.map tbD) && (true && (true && true))) = true
  rw [tO_tbs h]
  rfl
/-- a value that may stand in a row -/
def Pv : V → Prop
  | .int _ => True
  | .str _ => True
  | _ => False
def fitsB (v : V) (b : Bool) : Bool := match v with
  | .int i => !b && (decide (-1000000 ≤ i) && decide (i ≤ 1000000))
  | .str _ => b
  | _ => false
def rowFits (vs : List V) (cs : List (S × Bool)) : Bool := decide (vs.length = cs.length) && (vs.zip cs).all fun p => fitsB p.1 p.2.2
def spFits : Sp := fun vs H Q _ => ∃ (v : V) (b : Bool), vs = [v, .str (wordS b)] ∧ Pv v ∧ Q (.bl (fitsB v b)) H
def spFind (K : PySem.W.Frag) : Sp := fun vs H Q _ => ∃ (v : V) (ts : List Tb) (t : Tb), vs = [v, .str t.name] ∧ Dp K H v (scD ts) ∧ (ts.map (·.name)).Nodup ∧ t ∈ ts ∧ ∀ u, Dp K H u (tbD t) → Q u H
/-- all but the tape and the table of can_store stands -/
structure Mv (P : Addr) (H H' : Hp) : Prop where
  st : ∀ b o, b ≠ P → H b = some o → H' b = some o
  tab : GxR.TabG H' P
def spCan (K : PySem.W.Frag) (P : Addr) : Sp := fun xs H Q _ => ∃ (v r : V) (ts : List Tb) (t : Tb) (vs : List V), xs = [v, .str t.name, r] ∧ Dp K H v (scD ts) ∧ (∀ t ∈ ts, TbOk t) ∧ (ts.map (·.name)).Nodup ∧ t ∈ ts ∧ RowAt K H r vs ∧ (∀ v ∈ vs, Pv v) ∧ GxR.TabG H P ∧ vs.length ≤ 1000 ∧
  ∀ H', Mv P H H' → Q (.bl (rowFits vs t.cols)) H'
theorem Mv.kp {P : Addr} {H H' : Hp} (t : GxR.TabG H P) (m : Mv P H H') : Kp H H' := by
  obtain ⟨ps, hp, _⟩ := t
  refine ⟨fun c x h => m.st _ _ ?_ h, fun c o x h => m.st _ _ ?_ h⟩ <;> (intro e; rw [e, hp] at h; cases h)
theorem Mv.of {P : Addr} {H H' : Hp} (t : GxR.Tabbed P H H') : Mv P H H' := ⟨fun b o n h => by rw [t.2 b n]; exact h, t.1⟩
theorem Mv.refl {P : Addr} {H : Hp} (t : GxR.TabG H P) : Mv P H H := ⟨fun _ _ _ h => h, t⟩
theorem Mv.trans {P : Addr} {H H1 H2 : Hp} (a : Mv P H H1) (b : Mv P H1 H2) : Mv P H H2 := ⟨fun c o n h => b.st c o n (a.st c o n h), b.tab⟩
theorem Mv.new {P a : Addr} {H H' : Hp} {o : HO} (m : Mv P H H') (n : H' a = none) : Mv P H (L2.upd H' a o) := by
  refine ⟨fun b u nb h => ?_, ?_⟩
  · have e := m.st b u nb h
    rw [upd_ne (ne_of_none e n)]; exact e
  · obtain ⟨ps, hp, t⟩ := m.tab
    exact ⟨ps, by rw [upd_ne (ne_of_none hp n)]; exact hp, t⟩
def fitAt (vs : List V) (cs : List (S × Bool)) (j : Nat) : Bool := match (vs.zip cs)[j]? with
  | some p => fitsB p.1 p.2.2
  | none => true
theorem fit_all (vs : List V) (cs : List (S × Bool)) (h : vs.length = cs.length) : (List.range vs.length).all (fitAt vs cs) = rowFits vs cs := by
  unfold rowFits
  rw [decide_eq_true h, Bool.true_and]
  have lz : (vs.zip cs).length = vs.length := by rw [List.length_zip, ← h, Nat.min_self]
  rw [Bool.eq_iff_iff, List.all_eq_true, List.all_eq_true]
  constructor
  · intro a p hp
    obtain ⟨j, hj, e⟩ := List.getElem_of_mem hp
    have := a j (List.mem_range.mpr (by omega))
    unfold fitAt at this
    rw [List.getElem?_eq_getElem hj, e] at this
    exact this
  · intro a j hj
    have hj := List.mem_range.mp hj
    unfold fitAt
    rw [List.getElem?_eq_getElem (show j < (vs.zip cs).length by omega)]
    exact a _ (List.getElem_mem _)
theorem fit_at {vs : List V} {cs : List (S × Bool)} {j : Nat} {v : V} {c : S × Bool} (h1 : vs[j]? = some v) (h2 : cs[j]? = some c) : fitAt vs cs j = fitsB v c.2 := by
  unfold fitAt
  rw [show (vs.zip cs)[j]? = some (v, c) from List.getElem?_zip_eq_some.mpr ⟨h1, h2⟩]
def spNamesN : Sp := fun vs H Q _ => ∃ (t : Tp) (m : Int), vs = [.ref t.a, .int m] ∧ TapeAt H t ∧ (0 ≤ m ∧ m ≤ 10) ∧ ∀ H' p (ns : List S), Fz t.a H H' → TapeAt H' t → H p = none → H' p = some (.lst (ns.map V.str)) → ns.Nodup → ns.length ≤ m.toNat → (∀ n ∈ ns, TxtOk n) → (0 < m → ns ≠ []) → Q (.ref p) H'
def cwK (c : S × Bool) : Col := (c.1, if c.2 then none else some 1000000)
def spKinds (K : PySem.W.Frag) : Sp := fun vs H Q _ => ∃ (v : V) (cs : List (S × Bool)), vs = [v] ∧ Dp K H v (.tuple (cs.map cwD)) ∧ cs.length ≤ 10 ∧ ∀ H' u, Same H H' → Dp K H' u (.tuple (cs.map fun c => colD (cwK c))) → Q u H'
def spRow (K : PySem.W.Frag) : Sp := fun vs H Q _ => ∃ (t : Tp) (v : V) (cs : List (S × Bool)), vs = [.ref t.a, v] ∧ TapeAt H t ∧ Dp K H v (.tuple (cs.map fun c => colD (cwK c))) ∧ cs.length ≤ 10 ∧ ∀ H' u us, Fz t.a H H' → TapeAt H' t → RowAt K H' u us → (∀ x ∈ us, Pv x) → us.length = cs.length → Q u H'
def spSome (K : PySem.W.Frag) : Sp := fun vs H Q _ => ∃ (t : Tp) (p : Addr) (ps : List Addr) (cs : List (S × Bool)), vs = [.ref t.a, .ref p] ∧ TapeAt H t ∧ p ≠ t.a ∧ H p = some (.lst (ps.map V.ref)) ∧ DpAll K H (ps.map V.ref) (cs.map cwD) ∧ cs ≠ [] ∧ cs.length ≤ 10 ∧
  ∀ H' u (ds : List (S × Bool)), Fz t.a H H' → TapeAt H' t → Dp K H' u (.tuple (ds.map cwD)) → ds.length ≤ 10 → Q u H'
def spTables (K : PySem.W.Frag) : Sp := fun vs H Q _ => ∃ (t : Tp) (p : Addr) (ns : List S), vs = [.ref t.a, .ref p] ∧ TapeAt H t ∧ p ≠ t.a ∧ H p = some (.lst (ns.map V.str)) ∧ ns.length ≤ 10 ∧
  ∀ H' u (ts : List Tb), Fz t.a H H' → TapeAt H' t → Dp K H' u (.tuple (ts.map tbD)) → ts.map (·.name) = ns → (∀ t ∈ ts, TbOk t ∧ t.cols.length ≤ 10) → Q u H'
def spOdd : Sp := fun vs H Q _ => ∃ (t : Tp), vs = [.ref t.a] ∧ TapeAt H t ∧ ∀ H' v, Fz t.a H H' → TapeAt H' t → Pv v → Q v H'
/-! ### slices and sums of tuples: whole or new -/
theorem cut_whole {xs : List V} {lo hi : Option Int} (h : HT.sIx xs.length 0 lo = 0 ∧ HT.sIx xs.length xs.length hi = xs.length) : cutV xs lo hi = xs := by
  unfold cutV
  rw [h.1, h.2, List.drop_zero, Nat.sub_zero, List.take_of_length_le (Nat.le_refl _)]
theorem cutA {K : PySem.W.Frag} {H : Hp} {a : Addr} {xs : List V} {lo hi : Option Int} {Q : VK} (h : SqT K H a xs) (q : ∀ u H', Same H H' → RowAt K H' u (cutV xs lo hi) → Q u H') : rSlA K (.ref a) lo hi H Q := by
  refine ⟨a, xs, rfl, h, fun w => q _ _ (fun _ _ e => e) ⟨a, rfl, ?_⟩, fun _ p np => q _ _ (same_upd np) ⟨p, rfl, .of upd_same⟩⟩
  rw [cut_whole w]
  exact h
theorem catA {K : PySem.W.Frag} {H : Hp} {a b : Addr} {xs ys : List V} {Q : VK} (ha : SqT K H a xs) (hb : SqT K H b ys) (sz : xs.length + ys.length ≤ sizeLine) (q : ∀ u H', Same H H' → RowAt K H' u (xs ++ ys) → Q u H') : rCatA K (.ref a) (.ref b) H Q := by
  refine ⟨a, b, xs, ys, rfl, rfl, ha, hb, sz, fun e => ?_, fun _ e => ?_, fun _ _ p np => q _ _ (same_upd np) ⟨p, rfl, .of upd_same⟩⟩
  · refine q _ _ (fun _ _ z => z) ⟨b, rfl, ?_⟩
    rw [e]; exact hb
  · refine q _ _ (fun _ _ z => z) ⟨a, rfl, ?_⟩
    rw [e, List.append_nil]; exact ha
theorem dp_drop {K : PySem.W.Frag} {H : Hp} : ∀ {vs : List V} {ds : List PyData} (k : Nat), DpAll K H vs ds → DpAll K H (vs.drop k) (ds.drop k)
  | _, _, 0, h => h
  | _, _, _ + 1, .nil => .nil
  | _, _, k + 1, .cons _ t => dp_drop k t
theorem dp_take {K : PySem.W.Frag} {H : Hp} : ∀ {vs : List V} {ds : List PyData} (k : Nat), DpAll K H vs ds → DpAll K H (vs.take k) (ds.take k)
  | _, _, 0, _ => .nil
  | _, _, _ + 1, .nil => .nil
  | _, _, k + 1, .cons h t => .cons h (dp_take k t)
theorem cut_pv {xs : List V} {lo hi : Option Int} (h : ∀ x ∈ xs, Pv x) : ∀ x ∈ cutV xs lo hi, Pv x := by
  intro x hx
  unfold cutV at hx
  exact h x (List.mem_of_mem_drop (List.mem_of_mem_take hx))
end Ind

set_option Elab.async false
set_option linter.all false
set_option maxRecDepth 100000
set_option maxHeartbeats 4000000
namespace Va
open PySem PySem.Spec PyProof.Rows L2 Ind
/-! ### statements -/
structure Ve where
  nx : En → Prop
  rt : D → En → Prop
  bk : En → Prop := fun _ => False
  ct : En → Prop := fun _ => False
abbrev VS := Ve → En → Prop
/-- what the ends by values make of the ends -/
structure EndsOk (Γ : Gm) (V : Ve) (D : Ends) (H : Hp) : Prop where
  nx : ∀ E, V.nx E → ∀ σ' H', Kq H H' → Rep Γ E σ' H' → D.nx σ' H'
  rt : ∀ d E, V.rt d E → ∀ v σ' H', Kq H H' → Rep Γ E σ' H' → Γ.Rp H' v d → D.rt v H'
  bk : ∀ E, V.bk E → ∀ σ' H', Kq H H' → Rep Γ E σ' H' → D.bk σ' H'
  ct : ∀ E, V.ct E → ∀ σ' H', Kq H H' → Rep Γ E σ' H' → D.ct σ' H'
theorem EndsOk.kq {Γ : Gm} {V : Ve} {D : Ends} {H H' : Hp} (k : EndsOk Γ V D H) (q : Kq H H') : EndsOk Γ V D H' :=
  ⟨fun E h σ H2 q2 r => k.nx E h σ H2 (q.trans q2) r, fun d E h v σ H2 q2 r rv => k.rt d E h v σ H2 (q.trans q2) r rv, fun E h σ H2 q2 r => k.bk E h σ H2 (q.trans q2) r, fun E h σ H2 q2 r => k.ct E h σ H2 (q.trans q2) r⟩
def liftS (S : Sg) (t : VS) : TS := fun D σ H => ∃ (Γ : Gm) (E : En) (V : Ve), Γ.Ok S ∧ Rep Γ E σ H ∧ t V E ∧ EndsOk Γ V D H
abbrev VSt (S : Sg) (X : Cx) (st : Stmt) (t : VS) : Prop := PS X st (liftS S t)
abbrev VSs (S : Sg) (X : Cx) (st : List Stmt) (t : VS) : Prop := PSs X st (liftS S t)
def sNx : VS := fun V E => V.nx E
def sSeq (t u : VS) : VS := fun V E => t { V with nx := u V } E
section
variable {X : Cx} {S : Sg} {e : Expr} {st : Stmt} {rest : List Stmt} {pos : Pos}
theorem vss_nil : VSs S X [] sNx := by
  refine pss_weak pss_nil ?_
  rintro D σ H ⟨Γ, E, V, ok, r, h, k⟩
  exact k.nx E h σ H (Kq.refl _) r
theorem vss_one {t : VS} (h : VSt S X st t) : VSs S X [st] t := pss_one h
theorem vss_cons {t u : VS} (h : VSt S X st t) (g : VSs S X rest u) : VSs S X (st :: rest) (sSeq t u) := by
  refine pss_weak (pss_cons h g) ?_
  rintro D σ H ⟨Γ, E, V, ok, r, h, k⟩
  exact ⟨Γ, E, _, ok, r, h, fun E1 h1 σ1 H1 q1 r1 => ⟨Γ, E1, V, ok, r1, h1, k.kq q1⟩, k.rt, k.bk, k.ct⟩
def sNever : VS := fun _ _ => False
theorem vs_never : VSt S X st sNever := by
  refine ps_weak ps_never ?_
  rintro D σ H ⟨Γ, E, V, ok, r, h, k⟩
  exact h
theorem vs_pass : VSt S X (.Pass pos) sNx := by
  refine ps_weak ps_pass ?_
  rintro D σ H ⟨Γ, E, V, ok, r, h, k⟩
  exact k.nx E h σ H (Kq.refl _) r
def sBk : VS := fun V E => V.bk E
def sCt : VS := fun V E => V.ct E
theorem vs_break : VSt S X (.Break pos) sBk := by
  refine ps_weak ps_break ?_
  rintro D σ H ⟨Γ, E, V, ok, r, h, k⟩
  exact k.bk E h σ H (Kq.refl _) r
theorem vs_continue : VSt S X (.Continue pos) sCt := by
  refine ps_weak ps_continue ?_
  rintro D σ H ⟨Γ, E, V, ok, r, h, k⟩
  exact k.ct E h σ H (Kq.refl _) r
def sEx (t : VT) : VS := fun V E => t E fun _ E1 => V.nx E1
theorem vs_expr {t : VT} (he : VE S X e t) (hs : swapsWith e none pos.line X.env = pure false := by rfl) : VSt S X (.Expr e pos) (sEx t) := by
  refine ps_weak (ps_expr he hs) ?_
  rintro D σ H ⟨Γ, E, V, ok, r, h, k⟩
  exact ⟨Γ, E, _, ok, r, h, fun d E1 h1 v H1 q1 r1 _ => k.nx E1 h1 σ H1 q1 r1⟩
def sRt (t : VT) : VS := fun V E => t E fun d E1 => V.rt d E1
theorem vs_ret {t : VT} (he : VE S X e t) : VSt S X (.Return (some e) pos) (sRt t) := by
  refine ps_weak (ps_ret he) ?_
  rintro D σ H ⟨Γ, E, V, ok, r, h, k⟩
  exact ⟨Γ, E, _, ok, r, h, fun d E1 h1 v H1 q1 r1 hv => k.rt d E1 h1 v σ H1 q1 r1 hv⟩
def sRtN : VS := fun V E => V.rt .non E
theorem vs_retN : VSt S X (.Return none pos) sRtN := by
  refine ps_weak ps_retN ?_
  rintro D σ H ⟨Γ, E, V, ok, r, h, k⟩
  exact k.rt .non E h .non σ H (Kq.refl _) r .non
def sIf (c : VTT) (t u : VS) : VS := fun V E => c E fun b E1 => (b = true → t V E1) ∧ (b = false → u V E1)
theorem vs_if {c : Expr} {a b : List Stmt} {tc : VTT} {t u : VS} (hc : VB S X c tc) (ha : VSs S X a t) (hb : VSs S X b u) : VSt S X (.If c a b pos) (sIf tc t u) := by
  refine ps_weak (ps_if hc ha hb) ?_
  rintro D σ H ⟨Γ, E, V, ok, r, h, k⟩
  refine ⟨Γ, E, _, ok, r, h, fun b E1 h1 H1 q1 r1 => ?_⟩
  cases b with
  | true => exact iteT ⟨Γ, E1, V, ok, r1, h1.1 rfl, k.kq q1⟩
  | false => exact iteF ⟨Γ, E1, V, ok, r1, h1.2 rfl, k.kq q1⟩
/-- a name is set: to a value, or to a thing of its own -/
def sSet (i : Nat) (t : FT) : VS := fun V E => t E fun r E1 => V.nx (E1.set i r.sv)
theorem RepR.set {Γ : Gm} {E : En} {σ : L2.St} {H : Hp} {v : V} {x : RV} (r : Rep Γ E σ H) (h : RepR Γ E σ H v x) (i : Nat) : Rep Γ (E.set i x.sv) (σ.set i (some v)) H := by
  cases x with
  | v d => exact r.set i h
  | fl ds =>
    obtain ⟨p, rfl, h1, h2⟩ := h
    exact r.setO i h1 h2
  | fd ds =>
    obtain ⟨p, rfl, h1, h2⟩ := h
    exact r.setO i h1 h2
theorem vs_set {i : Nat} {x : PySem.Str} {t : FT} {pos' : Pos} (hN : X.N.Nodup) (hi : X.N[i]? = some x) (hx : Loc X.env.scope x) (he : FE S X e t) (hs : swapsWith e (some (.Name x pos')) pos.line X.env = pure false := by rfl) (hf : X.fn x = true ∨ X.env.scope.names.lookup x = some .local := by first | exact .inl rfl | exact .inr rfl | assumption) :
    VSt S X (.Assign [.Name x pos'] e pos) (sSet i t) := by
  refine ps_weak (ps_set hN hi hx he hs hf) ?_
  rintro D σ H ⟨Γ, E, V, ok, r, h, k⟩
  exact ⟨Γ, E, _, ok, r, h, fun d E1 h1 v H1 q1 r1 hv => k.nx _ h1 _ H1 q1 (hv.set r1 i)⟩
/-! ### targets -/
abbrev VG := D → En → (En → Prop) → Prop
abbrev VGs := List D → En → (En → Prop) → Prop
/-- all but the slots is stay as they are -/
structure Only (is : List Nat) (σ σ' : L2.St) : Prop where
  len : σ'.length = σ.length
  at_ : ∀ j, j ∉ is → σ'[j]? = σ[j]?
theorem Only.refl {is : List Nat} {σ : L2.St} : Only is σ σ := ⟨rfl, fun _ _ => rfl⟩
theorem Only.trans {is : List Nat} {σ σ1 σ2 : L2.St} (a : Only is σ σ1) (b : Only is σ1 σ2) : Only is σ σ2 := ⟨b.len.trans a.len, fun j h => (b.at_ j h).trans (a.at_ j h)⟩
theorem Only.mono {is js : List Nat} {σ σ' : L2.St} (a : Only is σ σ') (h : ∀ i ∈ is, i ∈ js) : Only js σ σ' := ⟨a.len, fun j hj => a.at_ j fun z => hj (h j z)⟩
def liftG (S : Sg) (is : List Nat) (g : VG) : TG := fun v σ H Q => ∃ (Γ : Gm) (E : En) (d : D) (Q0 : En → Prop), Γ.Ok S ∧ Rep Γ E σ H ∧ Γ.Rp H v d ∧ g d E Q0 ∧ ∀ E', Q0 E' → ∀ σ', Rep Γ E' σ' H → Only is σ σ' → Q σ' H
def liftGs (S : Sg) (is : List Nat) (g : VGs) : TGs := fun vs σ H Q => ∃ (Γ : Gm) (E : En) (ds : List D) (Q0 : En → Prop), Γ.Ok S ∧ Rep Γ E σ H ∧ Γ.RpL H vs ds ∧ g ds E Q0 ∧ ∀ E', Q0 E' → ∀ σ', Rep Γ E' σ' H → Only is σ σ' → Q σ' H
theorem pg_weak {t t' : TG} (h : PG X e t) (w : ∀ v σ H Q, t' v σ H Q → t v σ H Q) : PG X e t' := ⟨fun pins s σ H v u Q I r q => h.run pins s σ H v u Q I r (w _ _ _ _ q)⟩
theorem pgs_weak {es : List Expr} {t t' : TGs} (h : PGs X es t) (w : ∀ v σ H Q, t' v σ H Q → t v σ H Q) : PGs X es t' := ⟨fun pins s σ H v u Q I r q => h.run pins s σ H v u Q I r (w _ _ _ _ q)⟩
def gN (i : Nat) : VG := fun d E Q => Q (E.set i (.v d))
theorem vg_name {i : Nat} {x : PySem.Str} (is : List Nat) (hm : i ∈ is) (hN : X.N.Nodup) (hi : X.N[i]? = some x) (hx : Loc X.env.scope x) (hf : X.fn x = true ∨ X.env.scope.names.lookup x = some .local := by first | exact .inl rfl | exact .inr rfl | assumption) : PG X (.Name x pos) (liftG S is (gN i)) := by
  refine pg_weak (pg_name hN hi hx hf) ?_
  rintro v σ H Q ⟨Γ, E, d, Q0, ok, r, hv, hg, k⟩
  refine k _ hg _ (r.set i hv) ⟨by simp, fun j hj => ?_⟩
  rw [List.getElem?_set_ne]
  rintro rfl
  exact hj hm
def gsNil : VGs := fun ds E Q => match ds with
  | [] => Q E
  | _ => False
def gsCons (g : VG) (u : VGs) : VGs := fun ds E Q => match ds with
  | d :: r => g d E fun E1 => u r E1 Q
  | [] => False
theorem vgs_nil (is : List Nat) : PGs X [] (liftGs S is gsNil) := by
  refine pgs_weak pgs_nil ?_
  rintro v σ H Q ⟨Γ, E, ds, Q0, ok, r, hv, hg, k⟩
  cases ds with
  | nil => cases hv; exact ⟨rfl, k _ hg _ r .refl⟩
  | cons d ds => exact hg.elim
theorem vgs_cons {is : List Nat} {es : List Expr} {g : VG} {u : VGs} (h1 : PG X e (liftG S is g)) (h2 : PGs X es (liftGs S is u))
    (hs : (assignEach (e :: es) X.env).map (·.2) = assign e X.env :: (assignEach es X.env).map (·.2) := by rfl) : PGs X (e :: es) (liftGs S is (gsCons g u)) := by
  refine pgs_weak (pgs_cons h1 h2 hs) ?_
  rintro v σ H Q ⟨Γ, E, ds, Q0, ok, r, hv, hg, k⟩
  cases ds with
  | nil => exact hg.elim
  | cons d ds =>
    cases hv with
    | cons hv1 hv2 =>
      exact ⟨_, _, rfl, Γ, E, d, _, ok, r, hv1, hg, fun E1 q1 σ1 r1 o1 => ⟨Γ, E1, ds, _, ok, r1, hv2, q1, fun E2 q2 σ2 r2 o2 => k _ q2 _ r2 (o1.trans o2)⟩⟩
def gT (n : Nat) (u : VGs) : VG := fun d E Q => match d with
  | .tup ds => ds.length = n ∧ u ds E Q
  | _ => False
theorem vg_tup {is : List Nat} {es : List Expr} {k : Nat} {u : VGs} (n : Nat) (hK : S.K = X.K) (hc : X.calm = true) (h : PGs X es (liftGs S is u)) (hn : (assignEach es X.env).length = n) (hst : (assignEach es X.env).findIdx? (·.1) = none) : PG X (.Tuple es k pos) (liftG S is (gT n u)) := by
  refine pg_weak (pg_tup hc h hn hst) ?_
  rintro v σ H Q ⟨Γ, E, d, Q0, ok, r, hv, hg, k⟩
  cases d with
  | tup ds =>
    obtain ⟨a, xs, rfl, h1, h2⟩ := hv.tup_inv
    exact ⟨a, xs, rfl, by rw [← hK, ← ok.k]; exact h1, h2.len.trans hg.1, Γ, E, ds, _, ok, r, h2, hg.2, k⟩
  | _ => exact hg.elim
def sAsg (t : VT) (g : VG) : VS := fun V E => t E fun d E1 => g d E1 V.nx
theorem vs_asg {is : List Nat} {tg : Expr} {t : VT} {g : VG} (he : VE S X e t) (hg : PG X tg (liftG S is g)) (hs : swapsWithSole [tg] e pos.line X.env = pure false := by rfl) (hw : swappedStores [tg] e X.env = pure none := by rfl) (h1 : (assignEach [tg] X.env).map (·.2) = [assign tg X.env] := by rfl) : VSt S X (.Assign [tg] e pos) (sAsg t g) := by
  refine ps_weak (ps_asg he hg hs hw h1) ?_
  rintro D σ H ⟨Γ, E, V, ok, r, h, k⟩
  exact ⟨Γ, E, _, ok, r, h, fun d E1 h1 v H1 q1 r1 hv => ⟨Γ, E1, d, _, ok, r1, hv, h1, fun E2 q2 σ2 r2 _ => k.nx _ q2 _ H1 q1 r2⟩⟩
/-! ### what is walked -/
abbrev VI := En → (List D → En → Prop) → Prop
structure ItOk (Γ : Gm) (J : It) (ds : List D) (Hb : Hp) : Prop where
  go : ∀ i H, i < ds.length → Kq Hb H → J.go i H
  yld : ∀ i H x H', i < ds.length → Kq Hb H → J.yld i H x H' → ∃ d, ds[i]? = some d ∧ Γ.Rp H' x d ∧ Same H H'
  stop : ∀ H, Kq Hb H → J.stop ds.length H
def liftI (S : Sg) (t : VI) : TI := fun σ H R => ∃ (Γ : Gm) (E : En) (Q0 : List D → En → Prop), Γ.Ok S ∧ Rep Γ E σ H ∧ t E Q0 ∧ ∀ ds E', Q0 ds E' → ∀ J H', Kq H H' → Rep Γ E' σ H' → ItOk Γ J ds H' → R J H'
abbrev VIt (S : Sg) (X : Cx) (tg e : Expr) (t : VI) : Prop := PI X tg e (liftI S t)
theorem pi_weak {tg : Expr} {t t' : TI} (h : PI X tg e t) (w : ∀ σ H Q, t' σ H Q → t σ H Q) : PI X tg e t' := ⟨fun pins s σ H Q I q => h.run pins s σ H Q I (w _ _ _ q)⟩
theorem it_tup {Γ : Gm} {H : Hp} {a : Addr} {xs : List V} {ds : List D} (h : SqT Γ.K H a xs) (r : Γ.RpL H xs ds) : ItOk Γ (Itt Γ.K a) ds H := by
  refine ⟨fun i H1 hi q => ?_, fun i H1 x H2 hi q y => ?_, fun H1 q => ⟨xs, q.sqT h, by rw [r.len]; exact Nat.le_refl _⟩⟩
  · obtain ⟨v, e, _⟩ := r.get (List.getElem?_eq_getElem hi)
    exact ⟨xs, v, q.sqT h, e⟩
  · obtain ⟨rfl, y⟩ := y
    obtain ⟨v, e, rv⟩ := r.get (List.getElem?_eq_getElem hi)
    have := y xs (q.sqT h)
    rw [e] at this
    cases this
    exact ⟨_, List.getElem?_eq_getElem hi, Rp.kq q _ _ rv, fun _ _ z => z⟩
theorem it_lst {Γ : Gm} {H : Hp} {a : Addr} {xs : List V} {ds : List D} (h : FzL Γ.K H a xs) (r : Γ.RpL H xs ds) : ItOk Γ (Itl Γ.K a) ds H := by
  refine ⟨fun i H1 hi q => ?_, fun i H1 x H2 hi q y => ?_, fun H1 q => ⟨xs, (q.fzL h).sq, by rw [r.len]; exact Nat.le_refl _⟩⟩
  · obtain ⟨v, e, _⟩ := r.get (List.getElem?_eq_getElem hi)
    exact ⟨xs, v, (q.fzL h).sq, e⟩
  · obtain ⟨rfl, y⟩ := y
    obtain ⟨v, e, rv⟩ := r.get (List.getElem?_eq_getElem hi)
    have := y xs (q.fzL h).sq
    rw [e] at this
    cases this
    exact ⟨_, List.getElem?_eq_getElem hi, Rp.kq q _ _ rv, fun _ _ z => z⟩
def one (c : Nat) : D := .str ⟨#[c]⟩
def signs (x : Tx) : List D := x.cps.toList.map one
theorem it_str {Γ : Gm} {H : Hp} (x : Tx) : ItOk Γ (Its x) (signs x) H := by
  have sz : (signs x).length = x.cps.size := by unfold signs; rw [List.length_map, Array.length_toList]
  refine ⟨fun i H1 hi q => by rw [sz] at hi; exact hi, fun i H1 v H2 hi q y => ?_, fun H1 q => by rw [sz]; exact Nat.le_refl _⟩
  obtain ⟨rfl, c, ec, rfl⟩ := y
  refine ⟨one c, ?_, .str _, fun _ _ z => z⟩
  unfold signs
  rw [List.getElem?_map, Array.getElem?_toList, ec]
  rfl
def key : Key → D
  | .inl i => .int i
  | .inr x => .str x
theorem key_rp {Γ : Gm} {H : Hp} (k : Key) : Γ.Rp H (kV k) (key k) := by
  cases k with
  | inl i => exact .int i
  | inr x => exact .str x
theorem it_dk {Γ : Gm} {H : Hp} {a : Addr} {o : Obj} {kv : List (Key × V)} {ds : List (Key × D)} (h : H a = some (.frz o (.dK kv))) (r : RpK Γ.K Γ.tp H kv ds) : ItOk Γ (Itk a o kv) (ds.map fun p => key p.1) H := by
  have len : (ds.map fun p => key p.1).length = kv.length := by rw [List.length_map, r.len]
  refine ⟨fun i H1 hi q => ⟨q.frz _ _ _ h, by rw [← len]; exact hi⟩, fun i H1 x H2 hi q y => ?_, fun H1 q => ⟨q.frz _ _ _ h, by rw [len]; exact Nat.le_refl _⟩⟩
  obtain ⟨rfl, k, v, ek, rfl⟩ := y
  have e2 : (kv.map (·.1))[i]? = some k := by rw [List.getElem?_map, ek]; rfl
  rw [r.keys, List.getElem?_map] at e2
  refine ⟨key k, ?_, key_rp k, fun _ _ z => z⟩
  rw [List.getElem?_map]
  cases ed : ds[i]? with
  | none => rw [ed] at e2; cases e2
  | some p => rw [ed] at e2; cases e2; rfl
/-- a list, a tuple, a text, a dict, whichever comes -/
theorem pi_any {tg : Expr} {te : TE} (hl : PE X e te) : PI X tg e (fun σ H R => te σ H fun x H1 => (∃ a xs, x = .ref a ∧ SqL X.K H1 a xs ∧ R (Itl X.K a) H1) ∨ (∃ a xs, x = .ref a ∧ SqT X.K H1 a xs ∧ R (Itt X.K a) H1) ∨ (∃ z, x = .str z ∧ R (Its z) H1) ∨
    ∃ d o kvs, x = .ref d ∧ H1 d = some (.frz o (.dK kvs)) ∧ R (Itk d o kvs) H1) := by
  constructor
  intro pins s σ H R I h
  refine thn (hl.run pins s σ H _ I h) ?_
  rintro v s1 ⟨x, H1, I1, r1, ⟨p, xs, rfl, hq, q⟩ | ⟨p, xs, rfl, hq, q⟩ | ⟨z, rfl, q⟩ | ⟨p, o, kvs, rfl, hd, q⟩⟩
  · cases r1
    obtain ⟨its, rv, pl, hz⟩ := I1.list hq
    exact wpAny_pyIter_list pl.isList (pi_one (tk := s1.toks) I1 _ (turn_list p _) ⟨_, Heap.get?_push_size _ rfl, rfl, rfl⟩ q)
  · cases r1
    obtain ⟨its, rv, pl, hz⟩ := I1.tuple hq
    exact wpAny_pyIter_tuple (show s1.heap.IsTuple p its.toArray from pl) (pi_one (tk := s1.toks) I1 _ (turn_tuple p _) ⟨_, Heap.get?_push_size _ rfl, rfl, rfl⟩ q)
  · obtain ⟨t, rfl⟩ := r1
    by_cases ha : z.cps.all (· < 128) = true
    · exact wpAny_pyIter_ascii ha (pi_one (tk := s1.toks) I1 _ (turn_str _ z t "str_ascii_iterator" (.inl rfl)) ⟨_, Heap.get?_push_size _ rfl, rfl, rfl⟩ q)
    · exact wpAny_pyIter_wide (by simpa using ha) (pi_one (tk := s1.toks) I1 _ (turn_str _ z t "str_iterator" (.inr rfl)) ⟨_, Heap.get?_push_size _ rfl, rfl, rfl⟩ q)
  · cases (show v = Value.ref p from r1)
    obtain ⟨z1, z2, z3, es, ep, vs, hdt, hsz, kv, hm⟩ := I1.frzK hd
    refine iter_keys z1 z2 z3 hdt (pi_one (tk := s1.toks) I1 _ (turn_keys _ hdt) ⟨_, Heap.get?_push_size _ rfl, rfl, ?_⟩ q)
    rw [hsz] <;> rfl
def itD (d : D) (Q : List D → Prop) : Prop := match d with
  | .lst ds => Q ds
  | .tup ds => Q ds
  | .ptp ds => Q ds
  | .str x => Q (signs x)
  | .dk kvs => Q (kvs.map fun p => key p.1)
  | _ => False
def vIt (t : VT) : VI := fun E Q => t E fun d E1 => itD d fun ds => Q ds E1
theorem vi_any {tg : Expr} {t : VT} (hK : S.K = X.K) (h : VE S X e t) : VIt S X tg e (vIt t) := by
  refine pi_weak (pi_any h) ?_
  rintro σ H Q ⟨Γ, E, Q0, ok, rp, ht, k⟩
  refine ⟨Γ, E, _, ok, rp, ht, fun d E1 hq x H1 kq1 rp1 hx => ?_⟩
  have eK : X.K = Γ.K := (ok.k.trans hK).symm
  cases d with
  | lst ds =>
    obtain ⟨p, xs, rfl, h1, h2⟩ := hx.lst_inv
    exact .inl ⟨p, xs, rfl, by rw [eK]; exact h1.sq, k _ _ hq _ _ kq1 rp1 (by rw [eK]; exact it_lst h1 h2)⟩
  | tup ds =>
    obtain ⟨p, xs, rfl, h1, h2⟩ := hx.tup_inv
    exact .inr (.inl ⟨p, xs, rfl, by rw [eK]; exact h1, k _ _ hq _ _ kq1 rp1 (by rw [eK]; exact it_tup h1 h2)⟩)
  | ptp ds =>
    obtain ⟨p, o, xs, rfl, h1, _, h2⟩ := hx.ptp_inv
    have h1 : SqT Γ.K H1 p xs := .inl (.inr ⟨o, h1⟩)
    exact .inr (.inl ⟨p, xs, rfl, by rw [eK]; exact h1, k _ _ hq _ _ kq1 rp1 (by rw [eK]; exact it_tup h1 h2)⟩)
  | str z =>
    cases hx
    exact .inr (.inr (.inl ⟨z, rfl, k _ _ hq _ _ kq1 rp1 (it_str z)⟩))
  | dk ds =>
    obtain ⟨p, o, kv, rfl, h1, h2⟩ := hx.dk_inv
    exact .inr (.inr (.inr ⟨p, o, kv, rfl, h1, k _ _ hq _ _ kq1 rp1 (it_dk h1 h2)⟩))
  | _ => exact hq.elim
/-- range(..) -/
def rng (lo : Int) (n : Nat) : List D := (List.range n).map fun i => .int (lo + (i : Nat))
theorem it_rng {Γ : Gm} {H : Hp} (lo : Int) (n : Nat) : ItOk Γ (Itr lo n) (rng lo n) H := by
  have sz : (rng lo n).length = n := by simp [rng]
  refine ⟨fun i H1 hi q => by rw [sz] at hi; exact hi, fun i H1 v H2 hi q y => ?_, fun H1 q => by rw [sz]; exact Nat.le_refl _⟩
  obtain ⟨rfl, rfl⟩ := y
  rw [sz] at hi
  exact ⟨.int (lo + i), by simp [rng, hi], .int _, fun _ _ z => z⟩
def vR1 (t : VTA) : VI := fun E Q => t E fun ds E1 => match ds with
  | [.int j] => (-(2 ^ 62) ≤ j ∧ j < 2 ^ 62) ∧ Q (rng 0 j.toNat) E1
  | _ => False
def vR2 (t : VTA) : VI := fun E Q => t E fun ds E1 => match ds with
  | [.int i, .int j] => (-(2 ^ 62) ≤ i ∧ i < 2 ^ 62 ∧ -(2 ^ 62) ≤ j ∧ j < 2 ^ 62) ∧ Q (rng i (j - i).toNat) E1
  | _ => False
variable {a b : Expr} {p : Pos}
theorem vi_range1 {tg : Expr} {t : VTA} (hg : Gl X "range") (hm : X.mg "range" = none) (ha : VA S X [a] t) (hs : starEach [a] X.env = [(false, eval a X.env)] := by rfl) : VIt S X tg (.Call (.Name "range" p) [a] [] pos) (vR1 t) := by
  refine pi_weak (pi_range1 hg hm ha hs) ?_
  rintro σ H Q ⟨Γ, E, Q0, ok, rp, ht, k⟩
  refine ⟨Γ, E, _, ok, rp, ht, fun ds E1 hq vs H1 kq1 rp1 hvs => ?_⟩
  match ds, hq, hvs with
  | [.int j], hq, .cons h1 .nil =>
    cases h1
    exact ⟨j, rfl, hq.1.1, hq.1.2, k _ _ hq.2 _ _ kq1 rp1 (it_rng 0 _)⟩
theorem vi_range2 {tg : Expr} {t : VTA} (hg : Gl X "range") (hm : X.mg "range" = none) (ha : VA S X [a, b] t) (hs : starEach [a, b] X.env = [(false, eval a X.env), (false, eval b X.env)] := by rfl) (hs2 : starEach [b] X.env = [(false, eval b X.env)] := by rfl) : VIt S X tg (.Call (.Name "range" p) [a, b] [] pos) (vR2 t) := by
  refine pi_weak (pi_range2 hg hm ha hs hs2) ?_
  rintro σ H Q ⟨Γ, E, Q0, ok, rp, ht, k⟩
  refine ⟨Γ, E, _, ok, rp, ht, fun ds E1 hq vs H1 kq1 rp1 hvs => ?_⟩
  match ds, hq, hvs with
  | [.int i, .int j], hq, .cons h1 (.cons h2 .nil) =>
    cases h1
    cases h2
    exact ⟨i, j, rfl, hq.1, k _ _ hq.2 _ _ kq1 rp1 (it_rng i _)⟩
/-! ### loops -/
def sFor (vi : VI) (g : VG) (tb : VS) : VS := fun V E => vi E fun ds E1 => ∃ P : Nat → En → Prop, P 0 E1 ∧ (∀ i d E, ds[i]? = some d → P i E → g d E fun E2 => tb { V with nx := P (i + 1), ct := P (i + 1), bk := V.nx } E2) ∧ ∀ E, P ds.length E → V.nx E
theorem vs_for {is : List Nat} {tg iter : Expr} {body : List Stmt} {vi : VI} {g : VG} {tb : VS} (hp : PassesOwn (model X.prog X.w) X.A X.env X.xe) (hc : X.calm = true) (hi : VIt S X tg iter vi) (hg : PG X tg (liftG S is g)) (hb : VSs S X body tb) (hs : ∀ x, foldedSetIterable iter X.env x = pure x := by intro _; rfl) : VSt S X (.For tg iter body [] pos) (sFor vi g tb) := by
  refine ps_weak (ps_for hp hc hi hg hb hs) ?_
  rintro D σ H ⟨Γ, E, V, ok, rp, ht, k⟩
  refine ⟨Γ, E, _, ok, rp, ht, fun ds E1 ⟨P, p0, ps, pn⟩ J H1 kq1 rp1 it => ?_⟩
  refine ⟨fun i m σ' H' => m = ds.length - i ∧ i ≤ ds.length ∧ ∃ E', P i E' ∧ Rep Γ E' σ' H' ∧ Kq H1 H', ⟨_, rfl, Nat.zero_le _, E1, p0, rp1, Kq.refl _⟩, ?_⟩
  rintro i m σ' H' ⟨rfl, hi, E', pi, rp', kq'⟩
  by_cases hlt : i < ds.length
  · refine .inr ⟨it.go i H' hlt kq', fun σ2 H2 => i + 1 ≤ ds.length ∧ ∃ E2, P (i + 1) E2 ∧ Rep Γ E2 σ2 H2 ∧ Kq H1 H2, fun σ2 H2 h => ⟨_, by omega, rfl, h⟩, fun x H2 y => ?_⟩
    obtain ⟨d, ed, rd, sm⟩ := it.yld i H' x H2 hlt kq' y
    have kq2 := kq'.trans (Kq.same sm)
    refine ⟨Γ, E', d, _, ok, rp'.same sm, rd, ps i d E' ed pi, fun E3 q3 σ3 r3 _ => ?_⟩
    refine ⟨Γ, E3, _, ok, r3, q3, fun E4 h4 σ4 H4 q4 r4 => ⟨hlt, E4, h4, r4, kq2.trans q4⟩, fun d4 E4 h4 v4 σ4 H4 q4 r4 rv4 => k.rt d4 E4 h4 v4 σ4 H4 ((kq1.trans kq2).trans q4) r4 rv4, fun E4 h4 σ4 H4 q4 r4 => k.nx E4 h4 σ4 H4 ((kq1.trans kq2).trans q4) r4, fun E4 h4 σ4 H4 q4 r4 => ⟨hlt, E4, h4, r4, kq2.trans q4⟩⟩
  · have e : i = ds.length := by omega
    subst e
    exact .inl ⟨it.stop H' kq', k.nx E' (pn E' pi) σ' H' (kq1.trans kq') rp'⟩
def sWhile (c : VTT) (tb : VS) : VS := fun V E => ∃ W : Nat → En → Prop, (∃ m, W m E) ∧ ∀ m E, W m E → c E fun b E1 => (b = true → tb { V with nx := fun E2 => ∃ m', m' < m ∧ W m' E2, ct := fun E2 => ∃ m', m' < m ∧ W m' E2, bk := V.nx } E1) ∧ (b = false → V.nx E1)
theorem vs_while {c : Expr} {body : List Stmt} {tc : VTT} {tb : VS} (hp : PassesOwn (model X.prog X.w) X.A X.env X.xe) (hc : VB S X c tc) (hb : VSs S X body tb) : VSt S X (.While c body [] pos) (sWhile tc tb) := by
  refine ps_weak (ps_while hp hc hb) ?_
  rintro D σ H ⟨Γ, E, V, ok, rp, ⟨W, ⟨m0, w0⟩, turn⟩, k⟩
  refine ⟨fun m σ' H' => ∃ E', W m E' ∧ Rep Γ E' σ' H' ∧ Kq H H', ⟨m0, E, w0, rp, Kq.refl _⟩, ?_⟩
  rintro m σ' H' ⟨E', w, rp', kq'⟩
  refine ⟨Γ, E', _, ok, rp', turn m E' w, fun b E1 h1 H1 q1 r1 => ?_⟩
  have kq2 := kq'.trans q1
  cases b with
  | true =>
    refine iteT ⟨fun σ2 H2 => ∃ m', m' < m ∧ ∃ E', W m' E' ∧ Rep Γ E' σ2 H2 ∧ Kq H H2, fun σ2 H2 h => h, ?_⟩
    refine ⟨Γ, E1, _, ok, r1, h1.1 rfl, fun E4 h4 σ4 H4 q4 r4 => ?_, fun d4 E4 h4 v4 σ4 H4 q4 r4 rv4 => k.rt d4 E4 h4 v4 σ4 H4 (kq2.trans q4) r4 rv4, fun E4 h4 σ4 H4 q4 r4 => k.nx E4 h4 σ4 H4 (kq2.trans q4) r4, fun E4 h4 σ4 H4 q4 r4 => ?_⟩
    · obtain ⟨m', lt, w'⟩ := h4
      exact ⟨m', lt, E4, w', r4, kq2.trans q4⟩
    · obtain ⟨m', lt, w'⟩ := h4
      exact ⟨m', lt, E4, w', r4, kq2.trans q4⟩
  | false => exact iteF (k.nx E1 (h1.2 rfl) σ' H1 kq2 r1)
/-! ### calls of defs -/
abbrev VM := List D → Nat → (D → Nat → Prop) → Prop
def spV (S : Sg) (m : VM) : Sp := fun vs H Q _ => ∃ (tp : Option Tp) (ds : List D) (c : Nat) (Q0 : D → Nat → Prop), RpL S.K tp H vs ds ∧ (∀ t, tp = some t → TapeV S.b H t) ∧ Few tp c H ∧ (∀ P ∈ S.tabs, GxR.TabG H P) ∧ m ds c Q0 ∧ ∀ d c', Q0 d c' → ∀ v H', Ext ⟨S.K, S.b, tp, S.tabs, [], H⟩ c' H H' → Rp S.K tp H' v d → Q v H'
def vCall (m : VM) (t : VTA) : VT := fun E Q => t E fun ds E1 => m ds E1.c fun d c => Q d ⟨E1.l, c⟩
theorem spV_of {Γ : Gm} {E : En} {σ : L2.St} {H : Hp} {m : VM} {vs : List V} {ds : List D} {Q : VK} {Ex : XK} {Q0 : D → Nat → Prop} (ok : Γ.Ok S) (r : Rep Γ E σ H) (hv : Γ.RpL H vs ds) (h : m ds E.c Q0) (k : ∀ d c, Q0 d c → ∀ v H', Kq H H' → Rep Γ ⟨E.l, c⟩ σ H' → Γ.Rp H' v d → Q v H') : spV S m vs H Q Ex := by
  obtain ⟨eK, eB, eT⟩ := ok
  refine ⟨Γ.tp, ds, E.c, Q0, by rw [← eK]; exact hv, by rw [← eB]; exact r.base.tape, r.few, by rw [← eT]; exact r.base.tabs, h, fun d c hd v H' x rv => ?_⟩
  have x' : Ext Γ c H H' := ⟨fun b o n => x.ext b o fun z => n (by
    rcases z with z | z
    · exact .inl z
    · exact .inr (by rw [eT]; exact z)), by rw [eB]; exact x.tape, x.few, by rw [eT]; exact x.tabs⟩
  exact k d c hd v H' (x'.kq r.base) (r.call x') (by rw [← eK] at rv; exact rv)
variable {k : Nat} {f : Addr} {fd : FuncData} {ps : List PySem.Str} {m : VM} {x : PySem.Str} {es : List Expr}
theorem ve_call {t : VTA} (F : FnOk X.prog X.w X.K X.mg X.base CX0 k f fd ps (spV S m)) (hr : Room k X.A) (hg : Gl X x) (hm : X.mg x = some (.ref f)) (hk : PySem.W.keepIn X.K (.ref f) = true) (hb : Binds X.K fd ps [])
    (ha : VA S X (e :: es) t) (hdb : (x == ("__debug__" : PySem.Str)) = false := by decide) (he : starEach (e :: es) X.env = (false, eval e X.env) :: starEach es X.env := by rfl) (hpl : (backTo pos (starEach es X.env)).any (·.1) = false := by rfl) :
    VE S X (.Call (.Name x p) (e :: es) [] pos) (vCall m t) := by
  refine pe_weak (pe_call F hr hg hm hk hb .nil pass0 ha hdb he hpl) ?_
  rintro σ H Q ⟨Γ, E, Q0, ok, rp, ht, k⟩
  refine ⟨Γ, E, _, ok, rp, ht, fun ds E1 hq vs H1 kq1 rp1 hvs => ?_⟩
  show spV S m (vs ++ []) H1 Q E0
  rw [List.append_nil]
  exact spV_of ok rp1 hvs hq fun d c hd v H' q' r' rv => k _ _ hd _ _ (kq1.trans q') r' rv
theorem ve_call0 (F : FnOk X.prog X.w X.K X.mg X.base CX0 k f fd ps (spV S m)) (hr : Room k X.A) (hg : Gl X x) (hm : X.mg x = some (.ref f)) (hk : PySem.W.keepIn X.K (.ref f) = true) (hb : Binds X.K fd ps [])
    (hdb : (x == ("__debug__" : PySem.Str)) = false := by decide) : VE S X (.Call (.Name x p) [] [] pos) (vCall m aNil) := by
  refine pe_weak (pe_call0 F hr hg hm hk hb .nil pass0 hdb) ?_
  rintro σ H Q ⟨Γ, E, Q0, ok, rp, ht, k⟩
  exact spV_of (Ex := E0) ok rp .nil ht fun d c hd v H' q' r' rv => k _ _ hd _ _ q' r' rv
end
/-! ### a def, by values -/
def startL (N : List PySem.Str) (ds : List D) : List SV := ds.map .v ++ List.replicate (N.length - ds.length) .no
def startV (N : List PySem.Str) (ds : List D) (c : Nat) : En := ⟨startL N ds, c⟩
def endV (Q : D → Nat → Prop) : Ve := { nx := fun E => Q .non E.c, rt := fun d E => Q d E.c }
theorem rep_start {K : PySem.W.Frag} {tp : Option Tp} {tabs : List Addr} {N : List PySem.Str} {vs : List V} {ds : List D} {H : Hp} {b : Bool} {c : Nat} (h : RpL K tp H vs ds) (ht : ∀ t, tp = some t → TapeV b H t) (hf : Few tp c H) (hp : ∀ P ∈ tabs, GxR.TabG H P) : Rep ⟨K, b, tp, tabs, [], H⟩ (startV N ds c) (L2.start N vs) H := by
  have len : vs.length = ds.length := h.len
  have notown : ∀ (j : Nat) (s : SV), (startL N ds)[j]? = some s → s.own = false := by
    intro j s e
    unfold startL at e
    rcases Nat.lt_or_ge j ds.length with hj | hj
    · rw [List.getElem?_append_left (by simpa using hj), List.getElem?_map, List.getElem?_eq_getElem hj] at e
      cases e
      rfl
    · rw [List.getElem?_append_right (by simpa using hj), List.getElem?_replicate] at e
      split at e
      · cases e; rfl
      · cases e
  refine ⟨⟨fun _ _ _ _ z => z, Kq.refl _, ht, hp⟩, by simp [startV, startL, L2.start, len], hf, fun i s e => ?_, fun i j s t a e1 e2 o1 _ _ _ => ?_⟩
  · have e : (startL N ds)[i]? = some s := e
    unfold startL at e
    rcases Nat.lt_or_ge i ds.length with hj | hj
    · rw [List.getElem?_append_left (by simpa using hj), List.getElem?_map, List.getElem?_eq_getElem hj] at e
      cases e
      obtain ⟨v, ev, rv⟩ := h.get (List.getElem?_eq_getElem hj)
      refine ⟨some v, ?_, v, rfl, rv⟩
      unfold L2.start
      rw [List.getElem?_append_left (by rw [List.length_map, len]; exact hj), List.getElem?_map, ev]
      rfl
    · rw [List.getElem?_append_right (by simpa using hj), List.getElem?_replicate] at e
      split at e
      · rename_i hl
        cases e
        refine ⟨none, ?_, trivial⟩
        unfold L2.start
        rw [List.getElem?_append_right (by rw [List.length_map, len]; exact hj), List.getElem?_replicate, if_pos (by rw [List.length_map, len]; rw [List.length_map] at hl; exact hl)]
      · cases e
  · rw [notown i s e1] at o1; cases o1
section
variable {P : Program} {w : World} {K : PySem.W.Frag} {mg : PySem.Str → Option Value} {base : Heap} {S : Sg} {x qual : PySem.Str} {st : Stmt} {f : Addr} {fd : FuncData} {N ps : List PySem.Str} {k : Nat} {m : VM} {T : VS}
theorem body_v (hK : S.K = K) {X : Cx} {body : List Stmt} {vs : List V} {H : Hp} {Q : VK} {E : XK} (hb : VSs S X body T) (h : ∀ ds c Q, m ds c Q → T (endV Q) (startV N ds c)) (sp : spV S m vs H Q E) :
    ∃ t, PSs X body t ∧ t { nx := fun _ H' => Q .non H', rt := Q } (L2.start N vs) H := by
  obtain ⟨tp, ds, c, Q0, hv, ht, hf, hp, hm, k⟩ := sp
  refine ⟨_, hb, ⟨S.K, S.b, tp, S.tabs, [], H⟩, startV N ds c, _, ⟨rfl, rfl, rfl⟩, rep_start hv ht hf hp, h ds c Q0 hm, fun E1 h1 σ1 H1 q1 r1 => ?_, fun d E1 h1 v σ1 H1 q1 r1 rv => ?_, fun _ z => z.elim, fun _ z => z.elim⟩
  · exact k _ _ h1 _ _ ⟨fun b o n e => r1.base.ext b o n (by simp) e, r1.base.tape, r1.few, r1.base.tabs⟩ .non
  · exact k _ _ h1 _ _ ⟨fun b o n e => r1.base.ext b o n (by simp) e, r1.base.tape, r1.few, r1.base.tabs⟩ rv
theorem def_v (F : Fun K x qual st f fd) (sc : FnScope N ps (defScope st)) (hK : S.K = K) (len : ∀ ds c Q, m ds c Q → ds.length = ps.length)
    (hb : ∀ (cdv : Value) (A : Around) (outer : List Env) (s : Shared) (H : Hp) (E : XK), Room k (A.deeper (envOfC qual (defScope st) s.heap.objs.size f cdv)) → VSs S (cxOf CX0 P w K mg base N qual (defScope st) f cdv A outer s H E).nox (defBody st) T)
    (h : ∀ ds c Q, m ds c Q → T (endV Q) (startV N ds c)) : FnOk P w K mg base CX0 (k + 1) f fd ps (spV S m) := by
  refine F.ok sc (fun vs H Q E sp => ?_) (fun cdv A outer s H vs Q E hr sp => body_v hK (hb cdv A outer s H E hr) h sp)
  obtain ⟨tp, ds, c, Q0, hv, _, _, _, hm, _⟩ := sp
  rw [hv.len]
  exact len ds c Q0 hm
theorem def_vC {c : Addr} (F : FunC K x qual st f fd c) (sc : FnScope N ps (defScope st)) (hK : S.K = K) (len : ∀ ds c Q, m ds c Q → ds.length = ps.length)
    (hb : ∀ (A : Around) (outer : List Env) (s : Shared) (H : Hp) (E : XK), Room k (A.deeper (envOfC qual (defScope st) s.heap.objs.size f (.ref c))) → VSs S (cxOf CX0 P w K mg base N qual (defScope st) f (.ref c) A outer s H E).nox (defBody st) T)
    (h : ∀ ds c Q, m ds c Q → T (endV Q) (startV N ds c)) : FnOk P w K mg base CX0 (k + 1) f fd ps (spV S m) := by
  refine F.okC sc (fun vs H Q E sp => ?_) (fun A outer s H vs Q E hr sp => body_v hK (hb A outer s H E hr) h sp)
  obtain ⟨tp, ds, c, Q0, hv, _, _, _, hm, _⟩ := sp
  rw [hv.len]
  exact len ds c Q0 hm
end
end Va

set_option Elab.async false
set_option linter.all false
set_option maxRecDepth 100000
set_option maxHeartbeats 4000000
namespace Va
open PySem PySem.Spec PyProof.Rows L2 Ind
/-! ### data for == -/
mutual
def D.pd : D → PyData
  | .non => .none
  | .bl b => .bool b
  | .int i => .int i
  | .str x => .str x
  | .tup xs => .tuple (pdL xs)
  | .ptp xs => .tuple (pdL xs)
  | .lst xs => .list (pdL xs)
  | .dk _ => .dict []
  | .tape => .dict []
  | .ty _ => .dict []
def pdL : List D → List PyData
  | [] => []
  | x :: xs => x.pd :: pdL xs
end
theorem pdL_map : ∀ xs : List D, pdL xs = xs.map D.pd
  | [] => rfl
  | x :: xs => by show x.pd :: pdL xs = x.pd :: xs.map D.pd; rw [pdL_map xs]
section
variable {K : PySem.W.Frag} {tp : Option Tp} {H : Hp}
mutual
theorem Rp.dp : ∀ (d : D) (v : V), d.pd.canLay0 = true → Rp K tp H v d → Dp K H v d.pd
  | .non, _, _, h => by cases h; exact .non
  | .bl _, _, _, h => by cases h; exact .bl _
  | .int _, _, _, h => by cases h; exact .int _
  | .str _, _, _, h => by cases h; exact .str _
  | .tup ds, _, c, h => by
    cases h with
    | tup hs ha => exact .tup hs (RpL.dp ds _ (by simpa [D.pd, PyData.canLay0] using c) ha)
  | .ptp ds, _, c, h => by
    cases h with
    | ptp hs _ ha => exact .tup (.inl (.inr ⟨_, hs⟩)) (RpL.dp ds _ (by simpa [D.pd, PyData.canLay0] using c) ha)
  | .lst ds, _, c, h => by
    cases h with
    | lst hs ha => exact .lst hs.sq (RpL.dp ds _ (by simpa [D.pd, PyData.canLay0] using c) ha)
  | .dk ds, _, c, _ => by simp [D.pd, PyData.canLay0] at c
  | .tape, _, c, _ => by simp [D.pd, PyData.canLay0] at c
  | .ty _, _, c, _ => by simp [D.pd, PyData.canLay0] at c
theorem RpL.dp : ∀ (ds : List D) (vs : List V), PyData.canLayAll0 (pdL ds) = true → RpL K tp H vs ds → DpAll K H vs (pdL ds)
  | [], _, _, h => by cases h; exact .nil
  | d :: ds, _, c, h => by
    cases h with
    | cons h1 h2 =>
      have c' : d.pd.canLay0 = true ∧ PyData.canLayAll0 (pdL ds) = true := by simpa [pdL, PyData.canLayAll0] using c
      exact .cons (Rp.dp d _ c'.1 h1) (RpL.dp ds _ c'.2 h2)
end
end
theorem RpW.dp {Γ : Gm} {H : Hp} {v : V} {d : D} (c : SeqAt.shaped d.pd = true) (h : RpW Γ H v d) : Dp Γ.K H v d.pd := by
  have c0 := SeqAt.canLay_of_shaped c
  cases h with
  | v h => exact Rp.dp d v c0 h
  | l h1 h2 => exact .lst (.of h1) (RpL.dp _ _ (by simpa [D.pd, PyData.canLay0] using c0) h2)
  | k h1 h2 => simp [D.pd, PyData.canLay0] at c0
theorem RpW.seq {Γ : Gm} {H : Hp} {v : V} {ds : List D} (h : RpW Γ H v (.lst ds)) : ∃ a xs, v = .ref a ∧ SqL Γ.K H a xs ∧ Γ.RpL H xs ds := by
  cases h with
  | v h =>
    obtain ⟨a, xs, rfl, h1, h2⟩ := h.lst_inv
    exact ⟨a, xs, rfl, h1.sq, h2⟩
  | l h1 h2 => exact ⟨_, _, rfl, .of h1, h2⟩
theorem RpW.rd {Γ : Gm} {H : Hp} {v : V} {ds : List D} (h : RpW Γ H v (.lst ds)) : ∃ a xs, v = .ref a ∧ Rd H a (.lst xs) ∧ Γ.RpL H xs ds := by
  cases h with
  | v h =>
    obtain ⟨a, xs, rfl, ⟨o, h1⟩, h2⟩ := h.lst_inv
    exact ⟨a, xs, rfl, .inr ⟨o, h1⟩, h2⟩
  | l h1 h2 => exact ⟨_, _, rfl, .inl h1, h2⟩
theorem RpW.dk {Γ : Gm} {H : Hp} {v : V} {ds : List (Key × D)} (h : RpW Γ H v (.dk ds)) : ∃ a kv, v = .ref a ∧ Rd H a (.dK kv) ∧ RpK Γ.K Γ.tp H kv ds := by
  cases h with
  | v h =>
    obtain ⟨a, o, xs, rfl, h1, h2⟩ := h.dk_inv
    exact ⟨a, xs, rfl, .inr ⟨o, h1⟩, h2⟩
  | k h1 h2 => exact ⟨_, _, rfl, .inl h1, h2⟩
theorem RpW.tup {Γ : Gm} {H : Hp} {v : V} {ds : List D} (h : RpW Γ H v (.tup ds)) : ∃ a xs, v = .ref a ∧ SqT Γ.K H a xs ∧ Γ.RpL H xs ds := by
  cases h with
  | v h => exact h.tup_inv
theorem RpW.int {Γ : Gm} {H : Hp} {v : V} {i : Int} (h : RpW Γ H v (.int i)) : v = .int i := by
  cases h with
  | v h => exact h.int_inv
theorem RpW.str {Γ : Gm} {H : Hp} {v : V} {i : Tx} (h : RpW Γ H v (.str i)) : v = .str i := by
  cases h with
  | v h => exact h.str_inv
theorem RpW.bl {Γ : Gm} {H : Hp} {v : V} {i : Bool} (h : RpW Γ H v (.bl i)) : v = .bl i := by
  cases h with
  | v h => exact h.bl_inv
theorem RpW.non {Γ : Gm} {H : Hp} {v : V} (h : RpW Γ H v .non) : v = .non := by
  cases h with
  | v h => cases h; rfl
theorem million {n : Nat} (h : n ≤ 1000000) : n ≤ sizeLine := Nat.le_trans h (by decide)
theorem millionL {n : Nat} (h : n < 1000000) : n < sizeLine := Nat.lt_of_lt_of_le h (by decide)
section
variable {X : Cx} {S : Sg}
/-! ### + -/
def addG : VO := fun d e Q => match d, e with
  | .int i, .int j => Q (.v (.int (i + j)))
  | .str x, .str y => x.length + y.length ≤ 1000000 ∧ Q (.v (.str (x ++ y)))
  | .lst xs, .lst ys => xs.length + ys.length ≤ 1000000 ∧ Q (.fl (xs ++ ys))
  | .tup xs, .tup ys => xs.length + ys.length ≤ 1000000 ∧ Q (.v (.tup (xs ++ ys)))
  | _, _ => False
/-- list + list, either may be locked -/
theorem op_catL : OpR X (binaryOp .Add) (fun x y H Q => ∃ l b xs zs, x = .ref l ∧ y = .ref b ∧ Rd H l (.lst xs) ∧ Rd H b (.lst zs) ∧ xs.length + zs.length ≤ sizeLine ∧ ∀ p, H p = none → Q (.ref p) (upd H p (.lst (xs ++ zs)))) := by
  rintro pins s σ H x y v u Q I rx ry ⟨l, b, xs, zs, rfl, rfl, hl, hb, hz, q⟩
  cases (show v = Value.ref l from rx)
  cases (show u = Value.ref b from ry)
  obtain ⟨_, its, n, r, e1⟩ := hl.ok I.hok
  obtain ⟨_, its2, n2, r2, e2⟩ := hb.ok I.hok
  have k1 := r.length
  have k2 := r2.length
  refine PySem.P.add_list e1 e2 ?_ (by simp only [List.size_toArray]; omega)
  rw [show its.toArray ++ its2.toArray = (its ++ its2).toArray by simp]
  exact ⟨.ref _, _, I.lnew (t' := s.toks) (r.append r2) (by simp; omega), rfl, q _ I.fresh⟩
theorem o_add (hK : S.K = X.K) : OpV S X (binaryOp .Add) addG := by
  refine ⟨_, ((op_add.or op_add_str).or (op_catL.or op_catA)), ?_⟩
  intro Γ H x y d e Q Q0 eK hx hy hg k
  have eK' : X.K = Γ.K := (eK.trans hK).symm
  unfold addG at hg
  split at hg
  · exact .inl (.inl ⟨_, _, hx.int, hy.int, k _ hg _ _ (Same.refl _) (.int _)⟩)
  · exact .inl (.inr ⟨_, _, hx.str, hy.str, million hg.1, k _ hg.2 _ _ (Same.refl _) (.str _)⟩)
  · obtain ⟨a, xs, rfl, h1, h2⟩ := hx.rd
    obtain ⟨b, ys, rfl, h3, h4⟩ := hy.rd
    refine .inr (.inl ⟨a, b, xs, ys, rfl, rfl, h1, h3, million (by rw [h2.len, h4.len]; exact hg.1), fun p np => ?_⟩)
    have sm := same_upd (o := .lst (xs ++ ys)) np
    exact k _ hg.2 _ _ sm ⟨p, _, rfl, np, upd_same, RpL.kq (.same sm) _ _ (h2.app h4)⟩
  · obtain ⟨a, xs, rfl, h1, h2⟩ := hx.tup
    obtain ⟨b, ys, rfl, h3, h4⟩ := hy.tup
    rw [eK']
    refine .inr (.inr ⟨a, b, xs, ys, rfl, rfl, h1, h3, million (by rw [h2.len, h4.len]; exact hg.1), fun e => ?_, fun _ e => ?_, fun _ _ p np => ?_⟩)
    · subst e
      cases h2
      exact k _ hg.2 _ _ (Same.refl _) (.tup h3 h4)
    · subst e
      cases h4
      refine k _ hg.2 _ _ (Same.refl _) ?_
      rw [List.append_nil]
      exact .tup h1 h2
    · have sm := same_upd (o := .tup (xs ++ ys)) np
      exact k _ hg.2 _ _ sm (.tup (.of upd_same) (RpL.kq (.same sm) _ _ (h2.app h4)))
  · exact hg.elim
/-! ### ints -/
def int2 (C : Int → Int → Prop) (f : Int → Int → D) : VO := fun d e Q => match d, e with
  | .int i, .int j => C i j ∧ Q (.v (f i j))
  | _, _ => False
def int0 (f : Int → Int → D) : VO := fun d e Q => match d, e with
  | .int i, .int j => Q (.v (f i j))
  | _, _ => False
theorem o_int {f : Value → Value → Sem Value} {C : Int → Int → Prop} {g : Int → Int → Int} (h : OpR X f (rI C fun i j => .int (g i j))) : OpV S X f (int2 C fun i j => .int (g i j)) := by
  refine ⟨_, h, ?_⟩
  intro Γ H x y d e Q Q0 eK hx hy hg k
  unfold int2 at hg
  split at hg
  · exact ⟨_, _, hx.int, hy.int, hg.1, k _ hg.2 _ _ (Same.refl _) (.int _)⟩
  · exact hg.elim
theorem o_int0 {f : Value → Value → Sem Value} {g : Int → Int → Int} (h : OpR X f (rI0 fun i j => .int (g i j))) : OpV S X f (int0 fun i j => .int (g i j)) := by
  refine ⟨_, h, ?_⟩
  intro Γ H x y d e Q Q0 eK hx hy hg k
  unfold int0 at hg
  split at hg
  · exact ⟨_, _, hx.int, hy.int, k _ hg _ _ (Same.refl _) (.int _)⟩
  · exact hg.elim
theorem o_sub : OpV S X (binaryOp .Sub) (int0 fun i j => .int (i - j)) := o_int0 op_sub
theorem o_mul : OpV S X (binaryOp .Mult) (int2 CMul fun i j => .int (i * j)) := o_int op_mul
theorem o_fdiv : OpV S X (binaryOp .FloorDiv) (int2 CDivW fun i j => .int (i / j)) := o_int op_fdivW
theorem o_mod : OpV S X (binaryOp .Mod) (int2 (fun _ j => 0 < j) fun i j => .int (i % j)) := o_int op_mod
theorem o_pow : OpV S X (binaryOp .Pow) (int2 CPow fun i j => .int (i ^ j.toNat)) := o_int op_pow
/-! ### comparisons -/
theorem dS {x y : Tx} : decide (V.str x = V.str y) = decide (x = y) := decide_eq_decide.mpr ⟨fun e => by injection e, fun e => by rw [e]⟩
theorem dI {x y : Int} : decide (V.int x = V.int y) = decide (x = y) := decide_eq_decide.mpr ⟨fun e => by injection e, fun e => by rw [e]⟩
theorem dB {x y : Bool} : decide (V.bl x = V.bl y) = decide (x = y) := decide_eq_decide.mpr ⟨fun e => by injection e, fun e => by rw [e]⟩
def eqD (d e : D) (f : Bool → RV) (Q : RV → Prop) : Prop := match d, e with
  | .str x, .str y => Q (f (decide (x = y)))
  | .int i, .int j => Q (f (decide (i = j)))
  | .bl a, .bl b => Q (f (decide (a = b)))
  | .non, .non => Q (f true)
  | .str _, .int _ => Q (f false)
  | .int _, .str _ => Q (f false)
  | .str _, .bl _ => Q (f false)
  | .bl _, .str _ => Q (f false)
  | .non, .str _ => Q (f false)
  | .str _, .non => Q (f false)
  | .non, .int _ => Q (f false)
  | .int _, .non => Q (f false)
  | d, e => SeqAt.shaped d.pd = true ∧ SeqAt.shaped e.pd = true ∧ Q (f (PyData.eqv d.pd e.pd))
def eqG : VO := fun d e Q => eqD d e (fun b => .v (.bl b)) Q
def neG : VO := fun d e Q => eqD d e (fun b => .v (.bl (!b))) Q
theorem o_eq (hK : S.K = X.K) (hu : X.A.units + 64 < cLine) : OpV S X (compareOp .Eq) eqG := by
  refine ⟨_, op_eq.or (op_eqD hu), ?_⟩
  intro Γ H x y d e Q Q0 eK hx hy hg k
  have eK' : X.K = Γ.K := (eK.trans hK).symm
  unfold eqG eqD at hg
  split at hg
  · rw [hx.str, hy.str]
    refine .inl ⟨rfl, ?_⟩
    rw [dS]
    exact k _ hg _ _ (Same.refl _) (.bl _)
  · rw [hx.int, hy.int]
    refine .inl ⟨rfl, ?_⟩
    rw [dI]
    exact k _ hg _ _ (Same.refl _) (.bl _)
  · rw [hx.bl, hy.bl]
    refine .inl ⟨rfl, ?_⟩
    rw [dB]
    exact k _ hg _ _ (Same.refl _) (.bl _)
  · rw [hx.non, hy.non]
    exact .inl ⟨rfl, k _ hg _ _ (Same.refl _) (.bl _)⟩
  · rw [hx.str, hy.int]; exact .inl ⟨rfl, k _ hg _ _ (Same.refl _) (.bl _)⟩
  · rw [hx.int, hy.str]; exact .inl ⟨rfl, k _ hg _ _ (Same.refl _) (.bl _)⟩
  · rw [hx.str, hy.bl]; exact .inl ⟨rfl, k _ hg _ _ (Same.refl _) (.bl _)⟩
  · rw [hx.bl, hy.str]; exact .inl ⟨rfl, k _ hg _ _ (Same.refl _) (.bl _)⟩
  · rw [hx.non, hy.str]; exact .inl ⟨rfl, k _ hg _ _ (Same.refl _) (.bl _)⟩
  · rw [hx.str, hy.non]; exact .inl ⟨rfl, k _ hg _ _ (Same.refl _) (.bl _)⟩
  · rw [hx.non, hy.int]; exact .inl ⟨rfl, k _ hg _ _ (Same.refl _) (.bl _)⟩
  · rw [hx.int, hy.non]; exact .inl ⟨rfl, k _ hg _ _ (Same.refl _) (.bl _)⟩
  · rw [eK']
    exact .inr ⟨_, _, hx.dp hg.1, hy.dp hg.2.1, hg.1, hg.2.1, k _ hg.2.2 _ _ (Same.refl _) (.bl _)⟩
theorem o_ne (hK : S.K = X.K) (hu : X.A.units + 64 < cLine) : OpV S X (compareOp .NotEq) neG := by
  refine ⟨_, op_ne.or (op_neD hu), ?_⟩
  intro Γ H x y d e Q Q0 eK hx hy hg k
  have eK' : X.K = Γ.K := (eK.trans hK).symm
  unfold neG eqD at hg
  split at hg
  · rw [hx.str, hy.str]
    refine .inl ⟨rfl, ?_⟩
    rw [dS]
    exact k _ hg _ _ (Same.refl _) (.bl _)
  · rw [hx.int, hy.int]
    refine .inl ⟨rfl, ?_⟩
    rw [dI]
    exact k _ hg _ _ (Same.refl _) (.bl _)
  · rw [hx.bl, hy.bl]
    refine .inl ⟨rfl, ?_⟩
    rw [dB]
    exact k _ hg _ _ (Same.refl _) (.bl _)
  · rw [hx.non, hy.non]
    exact .inl ⟨rfl, k _ hg _ _ (Same.refl _) (.bl _)⟩
  · rw [hx.str, hy.int]; exact .inl ⟨rfl, k _ hg _ _ (Same.refl _) (.bl _)⟩
  · rw [hx.int, hy.str]; exact .inl ⟨rfl, k _ hg _ _ (Same.refl _) (.bl _)⟩
  · rw [hx.str, hy.bl]; exact .inl ⟨rfl, k _ hg _ _ (Same.refl _) (.bl _)⟩
  · rw [hx.bl, hy.str]; exact .inl ⟨rfl, k _ hg _ _ (Same.refl _) (.bl _)⟩
  · rw [hx.non, hy.str]; exact .inl ⟨rfl, k _ hg _ _ (Same.refl _) (.bl _)⟩
  · rw [hx.str, hy.non]; exact .inl ⟨rfl, k _ hg _ _ (Same.refl _) (.bl _)⟩
  · rw [hx.non, hy.int]; exact .inl ⟨rfl, k _ hg _ _ (Same.refl _) (.bl _)⟩
  · rw [hx.int, hy.non]; exact .inl ⟨rfl, k _ hg _ _ (Same.refl _) (.bl _)⟩
  · rw [eK']
    exact .inr ⟨_, _, hx.dp hg.1, hy.dp hg.2.1, hg.1, hg.2.1, k _ hg.2.2 _ _ (Same.refl _) (.bl _)⟩
def ordG (p : Int → Int → Bool) (q : List Nat → List Nat → Bool) : VO := fun d e Q => match d, e with
  | .int i, .int j => Q (.v (.bl (p i j)))
  | .str x, .str y => Q (.v (.bl (q x.cps.toList y.cps.toList)))
  | _, _ => False
theorem o_ord {f : Value → Value → Sem Value} {p : Int → Int → Bool} {q : List Nat → List Nat → Bool} (h : OpR X f (rI0 fun i j => .bl (p i j))) (h2 : OpR X f (fun x y H Q => ∃ i j, x = .str i ∧ y = .str j ∧ Q (.bl (q i.cps.toList j.cps.toList)) H)) : OpV S X f (ordG p q) := by
  refine ⟨_, h.or h2, ?_⟩
  intro Γ H x y d e Q Q0 eK hx hy hg k
  unfold ordG at hg
  split at hg
  · exact .inl ⟨_, _, hx.int, hy.int, k _ hg _ _ (Same.refl _) (.bl _)⟩
  · exact .inr ⟨_, _, hx.str, hy.str, k _ hg _ _ (Same.refl _) (.bl _)⟩
  · exact hg.elim
abbrev ltG : VO := ordG (fun i j => decide (i < j)) fun x y => decide (x < y)
abbrev leG : VO := ordG (fun i j => decide (i ≤ j)) fun x y => !decide (y < x)
abbrev gtG : VO := ordG (fun i j => decide (j < i)) fun x y => decide (y < x)
abbrev geG : VO := ordG (fun i j => decide (j ≤ i)) fun x y => !decide (x < y)
theorem o_lt : OpV S X (compareOp .Lt) ltG := o_ord op_lt op_lt_str
theorem o_le : OpV S X (compareOp .LtE) leG := o_ord op_le op_le_str
theorem o_gt : OpV S X (compareOp .Gt) gtG := o_ord op_gt op_gt_str
theorem o_ge : OpV S X (compareOp .GtE) geG := o_ord op_ge op_ge_str
def isNon : D → Bool
  | .non => true
  | _ => false
def isNG (f : Bool → Bool) : VO := fun d e Q => match e with
  | .non => Q (.v (.bl (f (isNon d))))
  | _ => False
theorem RpW.none_iff {Γ : Gm} {H : Hp} {v : V} {d : D} (h : RpW Γ H v d) : decide (v = .non) = isNon d := by
  cases h with
  | v h => cases h <;> rfl
  | l _ _ => rfl
  | k _ _ => rfl
theorem o_isN : OpV S X (compareOp .Is) (isNG id) := by
  refine ⟨_, op_isN, ?_⟩
  intro Γ H x y d e Q Q0 eK hx hy hg k
  unfold isNG at hg
  split at hg
  · refine ⟨hy.non, ?_⟩
    rw [hx.none_iff]
    exact k _ hg _ _ (Same.refl _) (.bl _)
  · exact hg.elim
theorem o_notN : OpV S X (compareOp .IsNot) (isNG (!·)) := by
  refine ⟨_, op_notN, ?_⟩
  intro Γ H x y d e Q Q0 eK hx hy hg k
  unfold isNG at hg
  split at hg
  · refine ⟨hy.non, ?_⟩
    rw [hx.none_iff]
    exact k _ hg _ _ (Same.refl _) (.bl _)
  · exact hg.elim
/-! ### in -/
def D.flat : D → Bool
  | .non => true
  | .bl _ => true
  | .int _ => true
  | .str _ => true
  | _ => false
/-- == of flat values -/
def D.eqf : D → D → Bool
  | .non, .non => true
  | .bl a, .bl b => a == b
  | .bl a, .int b => (if a then 1 else 0) == b
  | .int a, .bl b => a == (if b then 1 else 0)
  | .int a, .int b => a == b
  | .str a, .str b => a == b
  | _, _ => false
def keyOf : D → Option Key
  | .int i => some (.inl i)
  | .str x => some (.inr x)
  | _ => none
def look (kvs : List (Key × D)) (k : Key) : Option D := (kvs.find? fun p => decide (p.1 = k)).map (·.2)
def inSeq (d : D) (ys : List D) (f : Bool → RV) (Q : RV → Prop) : Prop := match d with
  | .tup _ => SeqAt.shaped d.pd = true ∧ SeqAt.shaped (.list (pdL ys)) = true ∧ Q (f (ys.any fun y => PyData.eqv y.pd d.pd))
  | _ => d.flat = true ∧ ys.all D.flat = true ∧ Q (f (ys.any fun y => D.eqf y d))
def inD (d e : D) (f : Bool → RV) (Q : RV → Prop) : Prop := match e with
  | .lst ys => inSeq d ys f Q
  | .tup ys => inSeq d ys f Q
  | .str z => ∃ c, d = one c ∧ Q (f (decide (c ∈ z.cps.toList)))
  | .dk kvs => ∃ k, keyOf d = some k ∧ Q (f (look kvs k).isSome)
  | _ => False
def inG : VO := fun d e Q => inD d e (fun b => .v (.bl b)) Q
def ninG : VO := fun d e Q => inD d e (fun b => .v (.bl (!b))) Q
theorem Rp.flatV {K : PySem.W.Frag} {tp : Option Tp} {H : Hp} {v : V} {d : D} (h : Rp K tp H v d) (f : d.flat = true) : flatV v = true := by
  cases h <;> first | rfl | cases f
theorem Rp.eqV {K : PySem.W.Frag} {tp : Option Tp} {H : Hp} {v u : V} {d e : D} (h : Rp K tp H v d) (h' : Rp K tp H u e) (f : d.flat = true) (f' : e.flat = true) : eqV v u = d.eqf e := by
  cases h <;> first | (cases f; done) | (cases h' <;> first | rfl | cases f')
theorem RpL.flatV {K : PySem.W.Frag} {tp : Option Tp} {H : Hp} : ∀ {vs : List V} {ds : List D}, RpL K tp H vs ds → ds.all D.flat = true → vs.all flatV = true
  | _, _, .nil, _ => rfl
  | _, _, .cons h t, f => by
    simp only [List.all_cons, Bool.and_eq_true] at f ⊢
    exact ⟨h.flatV f.1, RpL.flatV t f.2⟩
theorem RpL.inV {K : PySem.W.Frag} {tp : Option Tp} {H : Hp} {x : V} {d : D} (h : Rp K tp H x d) (f : d.flat = true) : ∀ {vs : List V} {ds : List D}, RpL K tp H vs ds → ds.all D.flat = true → inV x vs = ds.any fun y => y.eqf d
  | _, _, .nil, _ => rfl
  | _, _, .cons (v := v) (vs := vs) (d := e) (ds := ds) h1 t, g => by
    simp only [List.all_cons, Bool.and_eq_true] at g
    show (L2.eqV v x || L2.inV x vs) = (e.eqf d || ds.any fun y => y.eqf d)
    rw [h1.eqV h g.1 f, RpL.inV h f t g.2]
theorem RpW.flat {Γ : Gm} {H : Hp} {v : V} {d : D} (h : RpW Γ H v d) (f : d.flat = true) : Γ.Rp H v d := by
  cases h with
  | v h => exact h
  | l _ _ => cases f
  | k _ _ => cases f
theorem look_val {K : PySem.W.Frag} {tp : Option Tp} {H : Hp} {kv : List (Key × V)} {ds : List (Key × D)} (r : RpK K tp H kv ds) (k : Key) : match look ds k with
    | some d => ∃ v, valV kv k = some v ∧ Rp K tp H v d
    | none => valV kv k = none := by
  have := r.val (k := k)
  unfold look
  cases h : ds.find? fun p => decide (p.1 = k) with
  | none => rw [h] at this; exact this
  | some p => rw [h] at this; exact this
theorem look_some {K : PySem.W.Frag} {tp : Option Tp} {H : Hp} {kv : List (Key × V)} {ds : List (Key × D)} (r : RpK K tp H kv ds) (k : Key) : (valV kv k).isSome = (look ds k).isSome := by
  have := look_val r k
  cases h : look ds k with
  | none => rw [h] at this; rw [show valV kv k = none from this]; rfl
  | some d => rw [h] at this; obtain ⟨v, e, _⟩ := this; rw [e]; rfl
theorem keyOf_rp {Γ : Gm} {H : Hp} {v : V} {d : D} {k : Key} (h : RpW Γ H v d) (e : keyOf d = some k) : v = kV k := by
  cases d with
  | int i => cases e; exact h.int
  | str x => cases e; exact h.str
  | _ => cases e
def rInAny (K : PySem.W.Frag) (neg : Bool) : R2 := fun x y H Q => ∃ d ds, Dp K H x d ∧ (Dp K H y (.list ds) ∨ Dp K H y (.tuple ds)) ∧ SeqAt.shaped d = true ∧ SeqAt.shaped (.list ds) = true ∧ Q (.bl (if neg then !ds.any fun z => PyData.eqv z d else ds.any fun z => PyData.eqv z d)) H
theorem op_inAny (hu : X.A.units + 65 < cLine) : OpR X (compareOp .In) (rInAny X.K false) := by
  rintro pins s σ H x y v u Q I rx ry ⟨d, ds, hd, he, sd, se, q⟩
  obtain ⟨as, r1⟩ := Dp.reads I d x v hd rx
  rcases he with he | he
  · obtain ⟨bs, r2⟩ := Dp.reads I _ y u he ry
    exact SeqAt.in_list_reads r2 r1 (SeqAt.canLay_of_shaped se) (SeqAt.canLay_of_shaped sd) (room_in_shaped sd hu) ⟨.bl _, H, I, rfl, q⟩
  · obtain ⟨bs, r2⟩ := Dp.reads I _ y u he ry
    exact SeqAt.in_tuple_reads r2 r1 (SeqAt.canLay_of_shaped se) (SeqAt.canLay_of_shaped sd) (room_in_shaped sd hu) ⟨.bl _, H, I, rfl, q⟩
theorem op_ninAny (hu : X.A.units + 65 < cLine) : OpR X (compareOp .NotIn) (rInAny X.K true) := by
  rintro pins s σ H x y v u Q I rx ry ⟨d, ds, hd, he, sd, se, q⟩
  obtain ⟨as, r1⟩ := Dp.reads I d x v hd rx
  rcases he with he | he
  · obtain ⟨bs, r2⟩ := Dp.reads I _ y u he ry
    exact SeqAt.notIn_list_reads r2 r1 (SeqAt.canLay_of_shaped se) (SeqAt.canLay_of_shaped sd) (room_in_shaped sd hu) ⟨.bl _, H, I, rfl, q⟩
  · obtain ⟨bs, r2⟩ := Dp.reads I _ y u he ry
    exact SeqAt.notIn_tuple_reads r2 r1 (SeqAt.canLay_of_shaped se) (SeqAt.canLay_of_shaped sd) (room_in_shaped sd hu) ⟨.bl _, H, I, rfl, q⟩
theorem op_inD' (hu : X.A.units + 1 < cLine) : OpR X (compareOp .In) (fun x y H Q => ∃ a o, y = .ref a ∧ DGet H a x o ∧ Q (.bl o.isSome) H) := by
  rintro pins s σ H x y v u Q I rx ry ⟨a, o, rfl, g, q⟩
  cases (show u = Value.ref a from ry)
  exact d_in hu I g rx fun s3 I3 => ⟨.bl _, H, I3, rfl, q⟩
theorem op_ninD' (hu : X.A.units + 1 < cLine) : OpR X (compareOp .NotIn) (fun x y H Q => ∃ a o, y = .ref a ∧ DGet H a x o ∧ Q (.bl (!o.isSome)) H) := by
  rintro pins s σ H x y v u Q I rx ry ⟨a, o, rfl, g, q⟩
  cases (show u = Value.ref a from ry)
  exact d_notIn hu I g rx fun s3 I3 => ⟨.bl _, H, I3, rfl, q⟩
theorem rd_get {Γ : Gm} {H : Hp} {a : Addr} {kv : List (Key × V)} {k : Key} (h : Rd H a (.dK kv)) : DGet H a (kV k) (valV kv k) := .inl ⟨kv, k, h, rfl, rfl⟩
theorem pdL_any (ys : List D) (z : PyData) : ((pdL ys).any fun y => PyData.eqv y z) = ys.any fun y => PyData.eqv y.pd z := by
  rw [pdL_map, List.any_map]; rfl
theorem in_core (hK : S.K = X.K) {neg : Bool} {f : Value → Value → Sem Value} {r1 r2 r3 r4 : R2} {Γ : Gm} {H : Hp} {x y : V} {d e : D} {Q : VK} {Q0 : RV → Prop} (eK : Γ.K = S.K) (hx : RpW Γ H x d) (hy : RpW Γ H y e)
    (hg : inD d e (fun b => .v (.bl (if neg then !b else b))) Q0) (k : ∀ z, Q0 z → ∀ v H', Same H H' → RpN Γ H H' v z → Q v H') :
    (rIn X.K neg x y H Q ∨ rInAny X.K neg x y H Q) ∨ (∃ (c : Nat) (z : Tx), x = .str ⟨#[c]⟩ ∧ y = .str z ∧ Q (.bl (if neg then !decide (c ∈ z.cps.toList) else decide (c ∈ z.cps.toList))) H) ∨ ∃ a o, y = .ref a ∧ DGet H a x o ∧ Q (.bl (if neg then !o.isSome else o.isSome)) H := by
  have eK' : X.K = Γ.K := (eK.trans hK).symm
  have seq : ∀ (ys : List D) (p : Addr) (xs : List V), y = .ref p → (SqL Γ.K H p xs ∨ SqT Γ.K H p xs) → Γ.RpL H xs ys → (∀ c : PyData.canLayAll0 (pdL ys) = true, Dp Γ.K H y (.list (pdL ys)) ∨ Dp Γ.K H y (.tuple (pdL ys))) →
      inSeq d ys (fun b => .v (.bl (if neg then !b else b))) Q0 → rIn X.K neg x y H Q ∨ rInAny X.K neg x y H Q := by
    intro ys p xs ey hs hr hd h
    have deep : SeqAt.shaped d.pd = true ∧ SeqAt.shaped (.list (pdL ys)) = true ∧ Q0 (.v (.bl (if neg then !(ys.any fun y => PyData.eqv y.pd d.pd) else (ys.any fun y => PyData.eqv y.pd d.pd)))) → rInAny X.K neg x y H Q := by
      intro h
      refine ⟨d.pd, pdL ys, by rw [eK']; exact hx.dp h.1, by rw [eK']; exact hd (SeqAt.canLay_of_shaped h.2.1), h.1, h.2.1, ?_⟩
      rw [pdL_any]
      exact k _ h.2.2 _ _ (Same.refl _) (.bl _)
    have flat : d.flat = true ∧ ys.all D.flat = true ∧ Q0 (.v (.bl (if neg then !(ys.any fun y => D.eqf y d) else (ys.any fun y => D.eqf y d)))) → rIn X.K neg x y H Q := by
      intro h
      refine ⟨p, xs, ey, by rw [eK']; exact hs, (hx.flat h.1).flatV h.1, hr.flatV h.2.1, ?_⟩
      rw [RpL.inV (hx.flat h.1) h.1 hr h.2.1]
      exact k _ h.2.2 _ _ (Same.refl _) (.bl _)
    cases d with
    | tup ds => exact .inr (deep h)
    | _ => exact .inl (flat h)
  cases e with
  | lst ys =>
    obtain ⟨p, xs, rfl, h1, h2⟩ := hy.seq
    exact .inl (seq ys p xs rfl (.inl h1) h2 (fun c => .inl (.lst h1 (RpL.dp _ _ c h2))) hg)
  | tup ys =>
    obtain ⟨p, xs, rfl, h1, h2⟩ := hy.tup
    exact .inl (seq ys p xs rfl (.inr h1) h2 (fun c => .inr (.tup h1 (RpL.dp _ _ c h2))) hg)
  | str z =>
    obtain ⟨c, rfl, hq⟩ := hg
    exact .inr (.inl ⟨c, z, hx.str, hy.str, k _ hq _ _ (Same.refl _) (.bl _)⟩)
  | dk kvs =>
    obtain ⟨kk, ek, hq⟩ := hg
    obtain ⟨a, kv, rfl, h1, h2⟩ := hy.dk
    refine .inr (.inr ⟨a, _, rfl, by rw [keyOf_rp hx ek]; exact rd_get (Γ := Γ) h1, ?_⟩)
    rw [look_some h2]
    exact k _ hq _ _ (Same.refl _) (.bl _)
  | _ => exact hg.elim
theorem o_in (hK : S.K = X.K) (hu : X.A.units + 65 < cLine) : OpV S X (compareOp .In) inG := by
  refine ⟨_, (op_in_seq.or (op_inAny hu)).or (op_in_sign.or (op_inD' (by omega))), ?_⟩
  intro Γ H x y d e Q Q0 eK hx hy hg k
  exact in_core (neg := false) hK (f := compareOp .In) (r1 := rEq) (r2 := rEq) (r3 := rEq) (r4 := rEq) eK hx hy hg k
theorem o_nin (hK : S.K = X.K) (hu : X.A.units + 65 < cLine) : OpV S X (compareOp .NotIn) ninG := by
  refine ⟨_, (op_notIn_seq.or (op_ninAny hu)).or (op_notIn_sign.or (op_ninD' (by omega))), ?_⟩
  intro Γ H x y d e Q Q0 eK hx hy hg k
  exact in_core (neg := true) hK (f := compareOp .NotIn) (r1 := rEq) (r2 := rEq) (r3 := rEq) (r4 := rEq) eK hx hy hg k
/-! ### subscripts -/
structure IxV (S : Sg) (X : Cx) (g : VO) : Prop where
  ex : ∃ r : R2, IxR X r ∧ ∀ (Γ : Gm) (H : Hp) (x y : V) (d e : D) (Q : VK) (Q0 : RV → Prop), Γ.K = S.K → RpW Γ H x d → RpW Γ H y e → g d e Q0 → (∀ z, Q0 z → ∀ v H', Same H H' → RpN Γ H H' v z → Q v H') → r x y H Q
def ixG : VO := fun d e Q => match d with
  | .lst xs => match e with
    | .int i => withD (atI xs i) fun z => Q (.v z)
    | _ => False
  | .tup xs => match e with
    | .int i => withD (atI xs i) fun z => Q (.v z)
    | _ => False
  | .str x => match e with
    | .int i => x.length ≤ 1000000 ∧ ∃ c, atI x.cps.toList i = some c ∧ Q (.v (one c))
    | _ => False
  | .dk kvs => ∃ k, keyOf e = some k ∧ withD (look kvs k) fun z => Q (.v z)
  | _ => False
theorem withD_inv {d : Option D} {Q : D → Prop} (h : withD d Q) : ∃ b, d = some b ∧ Q b := by
  cases d with
  | none => exact h.elim
  | some b => exact ⟨b, rfl, h⟩
theorem withD_of {o : Option D} {d : D} {Q : D → Prop} (e : o = some d) (h : Q d) : withD o Q := by rw [e]; exact h
theorem ix_dict (hu : X.A.units + 1 < cLine) : IxR X (fun x y H Q => ∃ a v, x = .ref a ∧ DGet H a y (some v) ∧ Q v H) := by
  rintro value slice pins s σ H x y v u Q I rx ry ⟨a, z, rfl, g, q⟩ hs
  cases (show v = Value.ref a from rx)
  exact tail_any (dict_typeIs I g) PySem.F.slot_dict_getitem.lookup (d_getItem hu I g ry fun w' s3 I3 rw' => ⟨z, H, I3, rw', q⟩) hs
theorem RpL.atI {K : PySem.W.Frag} {tp : Option Tp} {H : Hp} {vs : List V} {ds : List D} {i : Int} {d : D} (r : RpL K tp H vs ds) (e : atI ds i = some d) : ∃ v, L2.atI vs i = some v ∧ Rp K tp H v d := by
  unfold L2.atI at e ⊢
  rw [r.len]
  cases h : ixN ds.length i with
  | none => rw [h] at e; cases e
  | some j =>
    rw [h] at e
    exact r.get e
theorem i_ix (hK : S.K = X.K) (hu : X.A.units + 1 < cLine) : IxV S X ixG := by
  refine ⟨_, ix_seq.or (ix_dict hu), ?_⟩
  intro Γ H x y d e Q Q0 eK hx hy hg k
  have eK' : X.K = Γ.K := (eK.trans hK).symm
  cases d with
  | lst xs =>
    cases e with
    | int i =>
      obtain ⟨z, ez, hq⟩ := withD_inv hg
      obtain ⟨a, vs, rfl, h1, h2⟩ := hx.seq
      obtain ⟨v, ev, rv⟩ := h2.atI ez
      exact .inl (.inl ⟨a, vs, i, v, rfl, hy.int, by rw [eK']; exact h1, ev, k _ hq _ _ (Same.refl _) rv⟩)
    | _ => exact hg.elim
  | tup xs =>
    cases e with
    | int i =>
      obtain ⟨z, ez, hq⟩ := withD_inv hg
      obtain ⟨a, vs, rfl, h1, h2⟩ := hx.tup
      obtain ⟨v, ev, rv⟩ := h2.atI ez
      exact .inl (.inr (.inl ⟨a, vs, i, v, rfl, hy.int, by rw [eK']; exact h1, ev, k _ hq _ _ (Same.refl _) rv⟩))
    | _ => exact hg.elim
  | str z =>
    cases e with
    | int i =>
      obtain ⟨hl, c, ec, hq⟩ := hg
      exact .inl (.inr (.inr ⟨z, i, c, hx.str, hy.int, million hl, ec, k _ hq _ _ (Same.refl _) (.str _)⟩))
    | _ => exact hg.elim
  | dk kvs =>
    obtain ⟨kk, ek, hg⟩ := hg
    obtain ⟨z, ez, hq⟩ := withD_inv hg
    obtain ⟨a, kv, rfl, h1, h2⟩ := hx.dk
    have := look_val h2 kk
    rw [ez] at this
    obtain ⟨v, ev, rv⟩ := this
    refine .inr ⟨a, v, rfl, ?_, k _ hq _ _ (Same.refl _) rv⟩
    rw [keyOf_rp hy ek, ← ev]
    exact rd_get (Γ := Γ) h1
  | _ => exact hg.elim
variable {a b : Expr} {pos : Pos}
theorem fe_ix {g : VO} {ta tb : VT} (ho : IxV S X g) (ha : VE S X a ta) (hb : BE S X b tb) (hs : PlainIx b) : FE S X (.Subscript a b pos) (vOp g ta tb) := by
  obtain ⟨r, h1, h2⟩ := ho.ex
  refine pe_weak (pe_ix h1 ha hb hs) ?_
  rintro σ H Q ⟨Γ, E, Q0, ok, rp, ht, k⟩
  refine ⟨Γ, E, _, ok, rp, ht, fun d E1 hq x H1 kq1 rp1 hx => ?_⟩
  refine ⟨Γ, E1, _, ok, rp1, hq, fun e E2 hq2 y H2 kq2 rp2 hy => ?_⟩
  refine h2 Γ H2 x y d e _ _ ok.k (.v (Rp.kq kq2 _ _ hx)) hy hq2 fun z hz v H' sm hn => ?_
  exact k _ _ hz v H' ((kq1.trans kq2).trans (Kq.same sm)) (rp2.same sm) (hn.rep rp2 sm)
/-- name[b]: the name is read behind b -/
theorem withP_inv {d : Option D} {Q : D → Prop} (h : withP d Q) : ∃ b, d = some b ∧ Q b := by
  cases d with
  | none => exact h.elim
  | some b => exact ⟨b, rfl, h⟩
def vIxN (g : VO) (i : Nat) (tb : VT) : FT := fun E Q => withP (peek E i) fun _ => tb E fun e E2 => withP (peek E2 i) fun d => g d e fun z => Q z E2
theorem fe_ixN {g : VO} {i : Nat} {tb : VT} (ho : IxV S X g) (ha : PE X a (tVar i)) (hb : BE S X b tb) (hs : PlainIx b) : FE S X (.Subscript a b pos) (vIxN g i tb) := by
  obtain ⟨r, h1, h2⟩ := ho.ex
  refine pe_weak (pe_ix h1 ha hb hs) ?_
  rintro σ H Q ⟨Γ, E, Q0, ok, rp, ht, k⟩
  obtain ⟨d0, e0, ht⟩ := withP_inv ht
  obtain ⟨v, hv, _⟩ := peek_at rp e0
  refine ⟨v, hv, ?_⟩
  refine ⟨Γ, E, _, ok, rp, ht, fun e E2 hq2 y H2 kq2 rp2 hy => ?_⟩
  obtain ⟨d, ed, hq2⟩ := withP_inv hq2
  obtain ⟨v', hv', hx⟩ := peek_at rp2 ed
  rw [hv] at hv'
  cases hv'
  refine h2 Γ H2 v y d e _ _ ok.k hx hy hq2 fun z hz v H' sm hn => ?_
  exact k _ _ hz v H' (kq2.trans (Kq.same sm)) (rp2.same sm) (hn.rep rp2 sm)
end
end Va

set_option Elab.async false
set_option linter.all false
set_option maxRecDepth 100000
set_option maxHeartbeats 4000000
namespace Va
open PySem PySem.Spec PyProof.Rows L2 Ind
section
variable {X : Cx} {S : Sg} {e a b : Expr} {es : List Expr} {pos p : Pos}
/-! ### slices -/
abbrev VOp := En → (Option Int → En → Prop) → Prop
def liftO (S : Sg) (t : VOp) : TO := fun σ H Q => ∃ (Γ : Gm) (E : En) (Q0 : Option Int → En → Prop), Γ.Ok S ∧ Rep Γ E σ H ∧ t E Q0 ∧ ∀ o E', Q0 o E' → ∀ H', Kq H H' → Rep Γ E' σ H' → Q o H'
theorem po_weak {x : Option Expr} {t t' : TO} (h : PO X x t) (w : ∀ σ H Q, t' σ H Q → t σ H Q) : PO X x t' := ⟨fun pins s σ H Q I q => h.run pins s σ H Q I (w _ _ _ q)⟩
def oNo : VOp := fun E Q => Q none E
def oSo (t : VT) : VOp := fun E Q => t E fun d E1 => match d with
  | .int i => Q (some i) E1
  | _ => False
theorem vo_none : PO X none (liftO S oNo) := by
  refine po_weak po_none ?_
  rintro σ H Q ⟨Γ, E, Q0, ok, rp, ht, k⟩
  exact k _ _ ht _ (Kq.refl _) rp
theorem vo_some {t : VT} (h : VE S X e t) : PO X (some e) (liftO S (oSo t)) := by
  refine po_weak (po_some h) ?_
  rintro σ H Q ⟨Γ, E, Q0, ok, rp, ht, k⟩
  refine ⟨Γ, E, _, ok, rp, ht, fun d E1 hq v H1 kq1 rp1 hv => ?_⟩
  cases d with
  | int i => cases hv; exact ⟨i, rfl, k _ _ hq _ kq1 rp1⟩
  | _ => exact hq.elim
def cutD {α : Type} (xs : List α) (lo hi : Option Int) : List α := (xs.drop (HT.sIx xs.length 0 lo)).take (HT.sIx xs.length xs.length hi - HT.sIx xs.length 0 lo)
def slG (d : D) (lo hi : Option Int) (Q : RV → Prop) : Prop := match d with
  | .lst xs => Q (.fl (cutD xs lo hi))
  | .tup xs => Q (.v (.tup (cutD xs lo hi)))
  | .str x => x.length ≤ 1000000 ∧ Q (.v (.str (cutS x lo hi)))
  | _ => False
theorem RpL.cut {K : PySem.W.Frag} {tp : Option Tp} {H : Hp} {vs : List V} {ds : List D} (h : RpL K tp H vs ds) (lo hi : Option Int) : RpL K tp H (cutV vs lo hi) (cutD ds lo hi) := by
  unfold cutV cutD
  rw [h.len]
  exact (h.drop _).take _
def vSl (t : VT) (l u : VOp) : FT := fun E Q => t E fun d E1 => l E1 fun lo E2 => u E2 fun hi E3 => slG d lo hi fun z => Q z E3
theorem fe_slice {lo hi : Option Expr} {t : VT} {l u : VOp} {p2 : Pos} (hK : S.K = X.K) (he : VE S X e t) (hl : PO X lo (liftO S l)) (hu : PO X hi (liftO S u)) : FE S X (.Subscript e (.Slice lo hi none p2) pos) (vSl t l u) := by
  refine pe_weak (pe_slice (sl_list.or (sl_tupA.or sl_str)) he hl hu) ?_
  rintro σ H Q ⟨Γ, E, Q0, ok, rp, ht, k⟩
  have eK : X.K = Γ.K := (ok.k.trans hK).symm
  refine ⟨Γ, E, _, ok, rp, ht, fun d E1 hq v H1 kq1 rp1 hv => ?_⟩
  refine ⟨Γ, E1, _, ok, rp1, hq, fun lo E2 hq2 H2 kq2 rp2 => ?_⟩
  refine ⟨Γ, E2, _, ok, rp2, hq2, fun hi E3 hq3 H3 kq3 rp3 => ?_⟩
  have hv3 := Rp.kq (kq2.trans kq3) _ _ hv
  have kq := (kq1.trans kq2).trans kq3
  unfold slG at hq3
  split at hq3
  · obtain ⟨p, xs, rfl, h1, h2⟩ := hv3.lst_inv
    refine .inl ⟨p, xs, rfl, by rw [eK]; exact h1.sq, fun q nq => ?_⟩
    have sm := same_upd (o := .lst (cutV xs lo hi)) nq
    exact k _ _ hq3 _ _ (kq.trans (.same sm)) (rp3.same sm) (RpN.rep (x := .fl _) rp3 sm ⟨q, _, rfl, nq, upd_same, RpL.kq (.same sm) _ _ (h2.cut lo hi)⟩)
  · obtain ⟨p, xs, rfl, h1, h2⟩ := hv3.tup_inv
    refine .inr (.inl ⟨p, xs, rfl, by rw [eK]; exact h1, fun w => ?_, fun _ q nq => ?_⟩)
    · refine k _ _ hq3 _ _ kq rp3 ?_
      have e2 : cutV xs lo hi = xs := cut_whole w
      have := h2.cut lo hi
      rw [e2] at this
      exact .tup h1 this
    · have sm := same_upd (o := .tup (cutV xs lo hi)) nq
      exact k _ _ hq3 _ _ (kq.trans (.same sm)) (rp3.same sm) (.tup (.of upd_same) (RpL.kq (.same sm) _ _ (h2.cut lo hi)))
  · cases hv3
    exact .inr (.inr ⟨_, rfl, million hq3.1, k _ _ hq3.2 _ _ kq rp3 (.str _)⟩)
  · exact hq3.elim
/-! ### calls of built-ins -/
abbrev VC := List D → (RV → Prop) → Prop
inductive RpWL (Γ : Gm) (H : Hp) : List V → List D → Prop
  | nil : RpWL Γ H [] []
  | cons {v : V} {d : D} {vs : List V} {ds : List D} : RpW Γ H v d → RpWL Γ H vs ds → RpWL Γ H (v :: vs) (d :: ds)
theorem RpWL.of {Γ : Gm} {H : Hp} : ∀ {vs : List V} {ds : List D}, Γ.RpL H vs ds → RpWL Γ H vs ds
  | _, _, .nil => .nil
  | _, _, .cons h t => .cons (.v h) (RpWL.of t)
structure CallV (S : Sg) (X : Cx) (f : Value) (g : VC) : Prop where
  ex : ∃ r : List V → Hp → VK → Prop, CallR X f r ∧ ∀ (Γ : Gm) (H : Hp) (xs : List V) (ds : List D) (Q : VK) (Q0 : RV → Prop), Γ.K = S.K → RpWL Γ H xs ds → g ds Q0 → (∀ z, Q0 z → ∀ v H', Same H H' → RpN Γ H H' v z → Q v H') → r xs H Q
def vCB (g : VC) (t : VTA) : FT := fun E Q => t E fun ds E1 => g ds fun z => Q z E1
/-- one argument, read at once -/
def vCB1 (g : VC) (t : VT) : FT := fun E Q => t E fun d E1 => g [d] fun z => Q z E1
theorem pe_CB {f : Value} {g : VC} {t : VTA} (hc : CallV S X f g) (mk : ∀ {r : List V → Hp → VK → Prop} {t : TA}, CallR X f r → PA X es t → PE X e (tCB r t)) (ha : VA S X es t) : FE S X e (vCB g t) := by
  obtain ⟨r, h1, h2⟩ := hc.ex
  refine pe_weak (mk h1 ha) ?_
  rintro σ H Q ⟨Γ, E, Q0, ok, rp, ht, k⟩
  refine ⟨Γ, E, _, ok, rp, ht, fun ds E1 hq vs H1 kq1 rp1 hvs => ?_⟩
  exact h2 Γ H1 vs ds _ _ ok.k (.of hvs) hq fun z hz v H' sm hn => k _ _ hz v H' (kq1.trans (.same sm)) (rp1.same sm) (hn.rep rp1 sm)
def liftBA (S : Sg) (t : VT) : TA := fun σ H Q => ∃ (Γ : Gm) (E : En) (Q0 : D → En → Prop), Γ.Ok S ∧ Rep Γ E σ H ∧ t E Q0 ∧ ∀ d E', Q0 d E' → ∀ v H', Kq H H' → Rep Γ E' σ H' → RpW Γ H' v d → Q [v] H'
theorem ba_one {t : VT} (h : BE S X a t) (hs : starEach [a] X.env = (false, eval a X.env) :: starEach [] X.env := by rfl) : PA X [a] (liftBA S t) := by
  refine pa_weak (pa_cons h pa_nil hs) ?_
  rintro σ H Q ⟨Γ, E, Q0, ok, rp, ht, k⟩
  exact ⟨Γ, E, _, ok, rp, ht, fun d E1 hq v H1 kq1 rp1 hv => k _ _ hq v H1 kq1 rp1 hv⟩
theorem pe_CB1 {f : Value} {g : VC} {t : VT} (hc : CallV S X f g) (mk : ∀ {r : List V → Hp → VK → Prop} {t : TA}, CallR X f r → PA X [a] t → PE X e (tCB r t)) (ha : BE S X a t) (hs : starEach [a] X.env = (false, eval a X.env) :: starEach [] X.env := by rfl) : FE S X e (vCB1 g t) := by
  obtain ⟨r, h1, h2⟩ := hc.ex
  refine pe_weak (mk h1 (ba_one ha hs)) ?_
  rintro σ H Q ⟨Γ, E, Q0, ok, rp, ht, k⟩
  refine ⟨Γ, E, _, ok, rp, ht, fun d E1 hq v H1 kq1 rp1 hv => ?_⟩
  exact h2 Γ H1 [v] [d] _ _ ok.k (.cons hv .nil) hq fun z hz v H' sm hn => k _ _ hz v H' (kq1.trans (.same sm)) (rp1.same sm) (hn.rep rp1 sm)
/-- len -/
def lenG : VC := fun ds Q => match ds with
  | [.lst xs] => Q (.v (.int xs.length))
  | [.tup xs] => Q (.v (.int xs.length))
  | [.str x] => x.length ≤ 1000000 ∧ Q (.v (.int x.length))
  | _ => False
theorem c_len (hK : S.K = X.K) : CallV S X (.builtin "len") lenG := by
  refine ⟨_, call_len_seq.or call_len_str, ?_⟩
  intro Γ H xs ds Q Q0 eK hx hg k
  have eK' : X.K = Γ.K := (eK.trans hK).symm
  unfold lenG at hg
  split at hg
  · match hx with
    | .cons h .nil =>
      obtain ⟨p, ys, rfl, h1, h2⟩ := h.seq
      refine .inl ⟨p, ys, rfl, .inl (by rw [eK']; exact h1), ?_⟩
      rw [h2.len]
      exact k _ hg _ _ (Same.refl _) (.int _)
  · match hx with
    | .cons h .nil =>
      obtain ⟨p, ys, rfl, h1, h2⟩ := h.tup
      refine .inl ⟨p, ys, rfl, .inr (by rw [eK']; exact h1), ?_⟩
      rw [h2.len]
      exact k _ hg _ _ (Same.refl _) (.int _)
  · match hx with
    | .cons h .nil =>
      cases h.str
      exact .inr ⟨_, rfl, million hg.1, k _ hg.2 _ _ (Same.refl _) (.int _)⟩
  · exact hg.elim
def absG : VC := fun ds Q => match ds with
  | [.int i] => Q (.v (.int (if i < 0 then -i else i)))
  | _ => False
theorem c_abs : CallV S X (.builtin "abs") absG := by
  refine ⟨_, call_abs, ?_⟩
  intro Γ H xs ds Q Q0 eK hx hg k
  unfold absG at hg
  split at hg
  · match hx with
    | .cons h .nil => cases h.int; exact ⟨_, rfl, k _ hg _ _ (Same.refl _) (.int _)⟩
  · exact hg.elim
def intG : VC := fun ds Q => match ds with
  | [.int i] => Q (.v (.int i))
  | [.bl b] => Q (.v (.int (if b then 1 else 0)))
  | _ => False
theorem c_int : CallV S X (.type "int") intG := by
  refine ⟨_, call_int1, ?_⟩
  intro Γ H xs ds Q Q0 eK hx hg k
  unfold intG at hg
  split at hg
  · match hx with
    | .cons h .nil => cases h.int; exact .inl ⟨_, rfl, k _ hg _ _ (Same.refl _) (.int _)⟩
  · match hx with
    | .cons h .nil => cases h.bl; exact .inr ⟨_, rfl, k _ hg _ _ (Same.refl _) (.int _)⟩
  · exact hg.elim
def maxG : VC := fun ds Q => match ds with
  | [.int i, .int j] => Q (.v (.int (if j > i then j else i)))
  | _ => False
theorem c_max (hc : X.calm = true) : CallV S X (.builtin "max") maxG := by
  refine ⟨_, call_max2 hc, ?_⟩
  intro Γ H xs ds Q Q0 eK hx hg k
  unfold maxG at hg
  split at hg
  · match hx with
    | .cons h (.cons h' .nil) => cases h.int; cases h'.int; exact ⟨_, _, rfl, k _ hg _ _ (Same.refl _) (.int _)⟩
  · exact hg.elim
def minG : VC := fun ds Q => match ds with
  | [.int i, .int j] => Q (.v (.int (if j < i then j else i)))
  | _ => False
theorem c_min (hc : X.calm = true) : CallV S X (.builtin "min") minG := by
  refine ⟨_, call_min2 hc, ?_⟩
  intro Γ H xs ds Q Q0 eK hx hg k
  unfold minG at hg
  split at hg
  · match hx with
    | .cons h (.cons h' .nil) => cases h.int; cases h'.int; exact ⟨_, _, rfl, k _ hg _ _ (Same.refl _) (.int _)⟩
  · exact hg.elim
def strG : VC := fun ds Q => match ds with
  | [.int i] => i.natAbs.log2 < 1920 ∧ Q (.v (.str (toString i)))
  | _ => False
theorem c_str : CallV S X (.type "str") strG := by
  refine ⟨_, call_str_int, ?_⟩
  intro Γ H xs ds Q Q0 eK hx hg k
  unfold strG at hg
  split at hg
  · match hx with
    | .cons h .nil => cases h.int; exact ⟨_, rfl, hg.1, k _ hg.2 _ _ (Same.refl _) (.str _)⟩
  · exact hg.elim
/-- list(..) -/
def listG : VC := fun ds Q => match ds with
  | [.lst xs] => Q (.fl xs)
  | [.tup xs] => Q (.fl xs)
  | _ => False
theorem c_list (hK : S.K = X.K) : CallV S X (.type "list") listG := by
  refine ⟨_, call_list_of, ?_⟩
  intro Γ H xs ds Q Q0 eK hx hg k
  have eK' : X.K = Γ.K := (eK.trans hK).symm
  have fin : ∀ (ys : List V) (zs : List D), Γ.RpL H ys zs → Q0 (.fl zs) → ∀ l, H l = none → Q (.ref l) (upd H l (.lst ys)) := fun ys zs h2 hq l nl => by
    have sm := same_upd (o := .lst ys) nl
    exact k _ hq _ _ sm ⟨l, _, rfl, nl, upd_same, RpL.kq (.same sm) _ _ h2⟩
  unfold listG at hg
  split at hg
  · match hx with
    | .cons h .nil =>
      obtain ⟨p, ys, rfl, h1, h2⟩ := h.seq
      exact ⟨p, ys, rfl, .inl (by rw [eK']; exact h1), fin _ _ h2 hg⟩
  · match hx with
    | .cons h .nil =>
      obtain ⟨p, ys, rfl, h1, h2⟩ := h.tup
      exact ⟨p, ys, rfl, .inr (by rw [eK']; exact h1), fin _ _ h2 hg⟩
  · exact hg.elim
def tupleG : VC := fun ds Q => match ds with
  | [.lst xs] => Q (.v (.tup xs))
  | [.tup xs] => Q (.v (.tup xs))
  | _ => False
theorem c_tuple (hK : S.K = X.K) : CallV S X (.type "tuple") tupleG := by
  refine ⟨_, call_tuple_of, ?_⟩
  intro Γ H xs ds Q Q0 eK hx hg k
  have eK' : X.K = Γ.K := (eK.trans hK).symm
  unfold tupleG at hg
  split at hg
  · match hx with
    | .cons h .nil =>
      obtain ⟨p, ys, rfl, h1, h2⟩ := h.seq
      refine ⟨p, ys, rfl, .inl ⟨by rw [eK']; exact h1, fun l nl => ?_⟩⟩
      have sm := same_upd (o := .tup ys) nl
      exact k _ hg _ _ sm (.tup (.of upd_same) (RpL.kq (.same sm) _ _ h2))
  · match hx with
    | .cons h .nil =>
      obtain ⟨p, ys, rfl, h1, h2⟩ := h.tup
      exact ⟨p, ys, rfl, .inr ⟨by rw [eK']; exact h1, k _ hg _ _ (Same.refl _) (.tup h1 h2)⟩⟩
  · exact hg.elim
def sumG : VC := fun ds Q => match ds with
  | [.lst xs] => ∃ ns : List Int, xs = ns.map .int ∧ Q (.v (.int ns.sum))
  | _ => False
theorem RpL.ints {K : PySem.W.Frag} {tp : Option Tp} {H : Hp} : ∀ {ns : List Int} {vs : List V}, RpL K tp H vs (ns.map .int) → vs = ns.map V.int
  | [], _, h => by cases h; rfl
  | n :: ns, _, h => by
    cases h with
    | cons h1 h2 => cases h1; rw [RpL.ints h2]; rfl
theorem c_sum (hK : S.K = X.K) (hc : X.calm = true) : CallV S X (.builtin "sum") sumG := by
  refine ⟨_, cr_sum hc, ?_⟩
  intro Γ H xs ds Q Q0 eK hx hg k
  have eK' : X.K = Γ.K := (eK.trans hK).symm
  unfold sumG at hg
  split at hg
  · obtain ⟨ns, rfl, hq⟩ := hg
    match hx with
    | .cons h .nil =>
      obtain ⟨p, ys, rfl, h1, h2⟩ := h.seq
      cases h2.ints
      exact ⟨p, ns, rfl, by rw [eK']; exact h1, k _ hq _ _ (Same.refl _) (.int _)⟩
  · exact hg.elim
/-! ### isinstance -/
def D.tyS : D → String
  | .non => "NoneType"
  | .bl _ => "bool"
  | .int _ => "int"
  | .str _ => "str"
  | .tup _ => "tuple"
  | .ptp _ => "tuple"
  | .lst _ => "list"
  | .dk _ => "dict"
  | .tape => "list"
  | .ty _ => "type"
def D.typed : D → Bool
  | .tape => false
  | .ty _ => false
  | _ => true
def tyNames : List D → Option (List String)
  | [] => some []
  | .ty n :: r => (tyNames r).map (n :: ·)
  | _ => none
def kitAll (t : String) : List String → Option Bool
  | [] => some false
  | n :: r => match kitB t n with
    | some true => some true
    | some false => kitAll t r
    | none => none
def isiG : VC := fun ds Q => match ds with
  | [d, .ty n] => d.typed = true ∧ withB (kitAll d.tyS [n]) fun b => Q (.v (.bl b))
  | [d, .tup ts] => d.typed = true ∧ ∃ ns, tyNames ts = some ns ∧ withB (kitAll d.tyS ns) fun b => Q (.v (.bl b))
  | _ => False
theorem RpW.tyX {Γ : Gm} {H : Hp} {v : V} {d : D} (eK : Γ.K = X.K) (h : RpW Γ H v d) (t : d.typed = true) : TyX X.K H v (.type d.tyS) := by
  cases h with
  | l h1 _ => exact .base (.lst h1)
  | k h1 _ => exact .base (.dK h1)
  | v h =>
    cases h with
    | non => exact .base .non
    | bl b => exact .base (.bl b)
    | int i => exact .base (.int i)
    | str x => exact .base (.str x)
    | tup hs ha =>
      rcases hs with (hs | ⟨o, hs⟩) | ⟨o, its, n, hk, hc, _⟩
      · exact .base (.tup hs)
      · exact .fTuple hs
      · exact .kTuple (by rw [← eK]; exact hk) hc
    | ptp hs _ ha => exact .fTuple hs
    | lst hs ha =>
      obtain ⟨o, hs⟩ := hs
      exact .base (.frz hs)
    | dk hs ha => exact .fDict hs
    | tape _ => cases t
    | ty _ => cases t
theorem kitAll_any {K : PySem.W.Frag} {t : String} : ∀ {ns : List String} {b : Bool}, kitAll t ns = some b → PySem.W.kitAny K (.type t) (ns.map Value.type) = some b
  | [], b, h => by cases h; exact kitAny_nil
  | n :: r, b, h => by
    unfold kitAll at h
    cases e : kitB t n with
    | none => rw [e] at h; cases h
    | some c =>
      rw [e] at h
      cases c with
      | true => cases h; exact kitAny_cons (kit_ty e) (fun z => by cases z) (fun _ => rfl)
      | false => exact kitAny_cons (kit_ty e) (fun _ => kitAll_any h) (fun z => by cases z)
theorem kitAll_one {K : PySem.W.Frag} {t n : String} {b : Bool} (h : kitAll t [n] = some b) : PySem.W.kitOne K (.type t) (.type n) = some b := by
  unfold kitAll at h
  cases e : kitB t n with
  | none => rw [e] at h; cases h
  | some c =>
    rw [e] at h
    cases c with
    | true => cases h; exact kit_ty e
    | false => cases h; exact kit_ty e
theorem tyNames_vals {Γ : Gm} {H : Hp} : ∀ {ts : List D} {ns : List String} {vs : List V}, tyNames ts = some ns → Γ.RpL H vs ts → ∀ {us : List Value}, Vals vs us → us = ns.map Value.type
  | [], _, _, e, h, us, r => by cases e; cases h; cases r; rfl
  | .ty n :: ts, ns, _, e, h, us, r => by
    cases h with
    | cons h1 h2 =>
      cases h1
      cases r with
      | cons r1 r2 =>
        unfold tyNames at e
        cases e2 : tyNames ts with
        | none => rw [e2] at e; cases e
        | some ms =>
          rw [e2] at e
          cases e
          rw [show _ = Value.type n from r1, tyNames_vals e2 h2 r2]
          rfl
  | .non :: _, _, _, e, _, _, _ => by cases e
  | .bl _ :: _, _, _, e, _, _, _ => by cases e
  | .int _ :: _, _, _, e, _, _, _ => by cases e
  | .str _ :: _, _, _, e, _, _, _ => by cases e
  | .tup _ :: _, _, _, e, _, _, _ => by cases e
  | .ptp _ :: _, _, _, e, _, _, _ => by cases e
  | .lst _ :: _, _, _, e, _, _, _ => by cases e
  | .dk _ :: _, _, _, e, _, _, _ => by cases e
  | .tape :: _, _, _, e, _, _, _ => by cases e
theorem call_isiS : CallR X (.builtin "isinstance") (fun xs H Q => ∃ (x : V) (tp : Addr) (cs : List V) (t : Value) (b : Bool), xs = [x, .ref tp] ∧ SqT X.K H tp cs ∧ TyX X.K H x t ∧ (∀ us, Vals cs us → PySem.W.kitAny X.K t us = some b) ∧ Q (.bl b) H) := by
  rintro pins s σ H xs us Q I r ⟨x, tp, cs, t, b, rfl, hT, ty, hk, q⟩
  obtain ⟨u1, u2, rfl, r1, r2⟩ := vals2 r
  cases (show u2 = Value.ref tp from r2)
  obtain ⟨P, Z, pz, hx⟩ := kit_of I r1 ty
  obtain ⟨its, rv, ⟨⟨oc, od, dt, sl⟩, h1, h2, n, h3⟩, hz⟩ := I.tuple hT
  simp only at h2 h3
  subst h2 h3
  exact PySem.W.kia_tup Z I.kIn pz h1 (by simpa using hk its rv) hx fun tk => ⟨.bl b, H, I.tok tk, rfl, q⟩
theorem c_isi (hK : S.K = X.K) : CallV S X (.builtin "isinstance") isiG := by
  refine ⟨_, call_isi.or call_isiS, ?_⟩
  intro Γ H xs ds Q Q0 eK hx hg k
  have eK' : Γ.K = X.K := eK.trans hK
  unfold isiG at hg
  split at hg
  · match hx with
    | .cons h (.cons h' .nil) =>
      cases h' with
      | v h' =>
        cases h'
        obtain ⟨b, e, hq⟩ := withB_inv hg.2
        exact .inl ⟨_, _, _, _, b, rfl, .ty _, h.tyX eK' hg.1, kitAll_one e, k _ hq _ _ (Same.refl _) (.bl _)⟩
  · match hx with
    | .cons h (.cons h' .nil) =>
      obtain ⟨p, ys, rfl, h1, h2⟩ := h'.tup
      obtain ⟨ns, en, hg2⟩ := hg.2
      obtain ⟨b, e, hq⟩ := withB_inv hg2
      refine .inr ⟨_, p, ys, _, b, rfl, by rw [← eK']; exact h1, h.tyX eK' hg.1, fun us hv => ?_, k _ hq _ _ (Same.refl _) (.bl _)⟩
      rw [tyNames_vals en h2 hv]
      exact kitAll_any e
  · exact hg.elim
theorem ve_ty {n : String} {x : PySem.Str} (h : PE X e (tC (.ty n))) : VE S X e (vC (.ty n)) := ve_c h fun _ _ => .ty n
/-! ### a list of one's own grows; a dict of one's own -/
/-- name.append(e) -/
def onL (s : Option SV) (Q : List D → Prop) : Prop := match s with
  | some (.ol ds) => Q ds
  | _ => False
def onD (s : Option SV) (Q : Bool → List (Key × D) → Prop) : Prop := match s with
  | some (.od b ds) => Q b ds
  | _ => False
theorem onL_inv {s : Option SV} {Q : List D → Prop} (h : onL s Q) : ∃ ds, s = some (.ol ds) ∧ Q ds := by
  unfold onL at h
  split at h
  · exact ⟨_, rfl, h⟩
  · exact h.elim
theorem onD_inv {s : Option SV} {Q : Bool → List (Key × D) → Prop} (h : onD s Q) : ∃ b ds, s = some (.od b ds) ∧ Q b ds := by
  unfold onD at h
  split at h
  · exact ⟨_, _, rfl, h⟩
  · exact h.elim
def sApp (i : Nat) (t : VT) : VS := fun V E => onL E.l[i]? fun _ => t E fun d E1 => onL E1.l[i]? fun ds => ds.length < 1000000 ∧ V.nx (E1.set i (.ol (ds ++ [d])))
theorem own_list {Γ : Gm} {E : En} {σ : L2.St} {H : Hp} {i : Nat} {ds : List D} (r : Rep Γ E σ H) (e : E.l[i]? = some (.ol ds)) : ∃ a xs, σ[i]? = some (some (.ref a)) ∧ H a = some (.lst xs) ∧ Γ.RpL H xs ds ∧ Free Γ a := by
  obtain ⟨o, h1, a, xs, rfl, h2, h3, h4⟩ := r.sl i _ e
  exact ⟨a, xs, h1, h2, h3, h4⟩
theorem own_dict {Γ : Gm} {E : En} {σ : L2.St} {H : Hp} {i : Nat} {b : Bool} {ds : List (Key × D)} (r : Rep Γ E σ H) (e : E.l[i]? = some (.od b ds)) : ∃ a kv, σ[i]? = some (some (.ref a)) ∧ H a = some (.dK kv) ∧ RpK Γ.K Γ.tp H kv ds ∧ Free Γ a ∧ (b = true → a ∈ Γ.io) := by
  obtain ⟨o, h1, a, xs, rfl, h2, h3, h4⟩ := r.sl i _ e
  exact ⟨a, xs, h1, h2, h3, h4⟩
theorem Rep.wrL {Γ : Gm} {E : En} {σ : L2.St} {H : Hp} {i : Nat} {ds ds' : List D} {a : Addr} {xs xs' : List V} (r : Rep Γ E σ H) (e : E.l[i]? = some (.ol ds)) (eo : σ[i]? = some (some (.ref a))) (h : H a = some (.lst xs)) (fr : Free Γ a) (h' : Γ.RpL H xs' ds') :
    Kq H (upd H a (.lst xs')) ∧ Rep Γ (E.set i (.ol ds')) σ (upd H a (.lst xs')) := by
  have kq : Kq H (upd H a (.lst xs')) := Kq.upd h trivial
  exact ⟨kq, r.wr e rfl eo h trivial ⟨a, xs', rfl, upd_same, RpL.kq kq _ _ h', fr⟩⟩
theorem Rep.wrD {Γ : Gm} {E : En} {σ : L2.St} {H : Hp} {i : Nat} {b : Bool} {ds ds' : List (Key × D)} {a : Addr} {xs xs' : List (Key × V)} (r : Rep Γ E σ H) (e : E.l[i]? = some (.od b ds)) (eo : σ[i]? = some (some (.ref a))) (h : H a = some (.dK xs)) (fr : Free Γ a ∧ (b = true → a ∈ Γ.io)) (h' : RpK Γ.K Γ.tp H xs' ds') :
    Kq H (upd H a (.dK xs')) ∧ Rep Γ (E.set i (.od b ds')) σ (upd H a (.dK xs')) := by
  have kq : Kq H (upd H a (.dK xs')) := Kq.upd h trivial
  exact ⟨kq, r.wr e rfl eo h trivial ⟨a, xs', rfl, upd_same, RpK.kq kq _ _ h', fr⟩⟩
theorem vs_append {i : Nat} {o : Expr} {t : VT} {apos cpos : Pos} (hK : S.K = X.K) (ho : PE X o (tVar i)) (he : VE S X e t) (hw : swapsWith (.Call (.Attribute o "append" apos) [e] [] cpos) none pos.line X.env = pure false := by rfl)
    (hbase : attributeBase o "append" X.env (eval o X.env) = eval o X.env := by rfl)
    (hfew : ((backTo cpos (starEach [e] X.env)).all (fun x => !x.1) && (backToKw cpos (keywordEach [] X.env)).all (fun x => x.1.isSome)
      && decide (([e] : List Expr).length + ([] : List Keyword).length + (if ([] : List Keyword).isEmpty then 0 else 1) < 30)) = true := by rfl)
    (hline : (apos.endLine == cpos.line) = true := by rfl) (hs : starEach [e] X.env = (false, eval e X.env) :: starEach [] X.env := by rfl) (hplain : (backTo cpos (starEach [] X.env)).any (·.1) = false := by rfl) :
    VSt S X (.Expr (.Call (.Attribute o "append" apos) [e] [] cpos) pos) (sApp i t) := by
  refine ps_weak (ps_expr (pe_bm PySem.F.plainAttrs_list PySem.F.slot_list_append PySem.F.type_list_append mt_append ho (va_cons (S := S) he va_nil hs) hbase hfew hline hs hplain) hw) ?_
  rintro D0 σ H ⟨Γ, E, V, ok, rp, ht, k⟩
  obtain ⟨ds0, e0, ht⟩ := onL_inv ht
  obtain ⟨p, xs0, hv, hl0, _, _⟩ := own_list rp e0
  refine ⟨_, hv, .inl ⟨rfl, xs0, .of hl0⟩, ?_⟩
  refine ⟨Γ, E, fun ds E1 => match ds with
    | [d] => onL E1.l[i]? fun ds => ds.length < 1000000 ∧ V.nx (E1.set i (.ol (ds ++ [d])))
    | _ => False, ok, rp, ht, fun ds E1 hq vs H1 kq1 rp1 hvs => ?_⟩
  · match ds, hq, vs, hvs with
    | [d], hq, [u], .cons hu .nil =>
      obtain ⟨ds1, e1, hsz, hq⟩ := onL_inv hq
      obtain ⟨p1, xs1, hv1, hl1, hr1, fr1⟩ := own_list rp1 e1
      rw [hv] at hv1
      cases hv1
      obtain ⟨kq2, rp2⟩ := rp1.wrL e1 hv hl1 fr1 (hr1.app (.cons hu .nil))
      refine ⟨p, xs1, u, rfl, rfl, hl1, millionL (by rw [hr1.len]; exact hsz), ?_⟩
      exact k.nx _ hq σ _ (kq1.trans kq2) rp2
end
end Va

set_option Elab.async false
set_option linter.all false
set_option maxRecDepth 100000
set_option maxHeartbeats 4000000
namespace Va
open PySem PySem.Spec PyProof.Rows L2 Ind GenW
/-! ### blocks: comprehensions, generator expressions -/
def SV.shut (s : SV) : SV := if s.own then .no else s
def wipeE (E : En) : List Nat → En
  | [] => E
  | v :: vs => (wipeE E vs).set v .no
/-- the slots of a block: what is owned is out of reach, the block's own names are fresh -/
def shutE (E : En) : En := ⟨E.l.map SV.shut, E.c⟩
def blkE (E : En) (vs : List Nat) : En := wipeE (shutE E) vs
/-- a slot's own thing locked -/
def fzE (E : En) (i : Nat) : En := match E.l[i]? with
  | some s => E.set i s.fz
  | none => E
section
variable {Γ : Gm} {E : En} {σ : L2.St} {H H' : Hp}
theorem Rep.setNo (r : Rep Γ E σ H) (i : Nat) (o : Option V) : Rep Γ (E.set i .no) (σ.set i o) H := by
  refine ⟨r.base, by simp [En.set, r.len], r.few, fun j s e => ?_, fun j k s t a e1 e2 o1 o2 h1 h2 => ?_⟩
  · rcases get_set e with ⟨rfl, rfl, hi⟩ | ⟨ne, e⟩
    · exact ⟨o, List.getElem?_set_self (by rw [← r.len]; exact hi), trivial⟩
    · rw [List.getElem?_set_ne ne]
      exact r.sl j s e
  · rcases get_set e1 with ⟨_, rfl, _⟩ | ⟨n1, e1⟩
    · cases o1
    · rcases get_set e2 with ⟨_, rfl, _⟩ | ⟨n2, e2⟩
      · cases o2
      · rw [List.getElem?_set_ne n1] at h1
        rw [List.getElem?_set_ne n2] at h2
        exact r.dis j k s t a e1 e2 o1 o2 h1 h2
theorem Rep.wipe (r : Rep Γ E σ H) : ∀ vs : List Nat, Rep Γ (wipeE E vs) (L2.wipe σ vs) H
  | [] => r
  | v :: vs => (Rep.wipe r vs).setNo v none
abbrev Gm.blk (Γ : Gm) (H : Hp) : Gm := { Γ with io := [], H0 := H }
theorem shut_own {s : SV} : s.shut.own = false := by
  cases s <;> rfl
theorem Rep.enter (r : Rep Γ E σ H) : Rep (Γ.blk H) (shutE E) σ H := by
  refine ⟨⟨fun _ _ _ _ z => z, Kq.refl _, r.base.tape, r.base.tabs⟩, by simp [shutE, r.len], r.few, fun i s e => ?_, fun i j s t a e1 _ o1 _ _ _ => ?_⟩
  · have e : (E.l.map SV.shut)[i]? = some s := e
    rw [List.getElem?_map] at e
    cases h : E.l[i]? with
    | none => rw [h] at e; cases e
    | some s0 =>
      rw [h] at e
      cases e
      obtain ⟨o, h1, h2⟩ := r.sl i s0 h
      refine ⟨o, h1, ?_⟩
      cases s0 with
      | no => trivial
      | v d => exact h2
      | ol ds => trivial
      | od b ds => trivial
      | ex b pl => exact h2
  · have e1 : (E.l.map SV.shut)[i]? = some s := e1
    rw [List.getElem?_map] at e1
    cases h : E.l[i]? with
    | none => rw [h] at e1; cases e1
    | some s0 =>
      rw [h] at e1
      cases e1
      rw [shut_own] at o1
      cases o1
theorem Rep.leave {c : Nat} (r : Rep Γ E σ H) (b : Base (Γ.blk H) H') (f : Few Γ.tp c H') : Rep Γ ⟨E.l, c⟩ σ H' := by
  refine ⟨⟨fun c o n1 n2 h => b.ext c o n1 (by simp) (r.base.ext c o n1 n2 h), r.base.kq.trans b.kq, b.tape, b.tabs⟩, r.len, f, fun i s e => ?_, r.dis⟩
  obtain ⟨o, h1, h2⟩ := r.sl i s e
  refine ⟨o, h1, h2.stay b.kq fun a u ow eo h => ?_⟩
  obtain ⟨c, _, e1, _, _, fr⟩ := h2.own_at ow
  rw [e1] at eo
  cases eo
  exact b.ext _ _ fr.nsp (by simp) h
theorem wipe_in : ∀ {vs : List Nat} {σ : L2.St} {j : Nat}, j ∈ vs → j < σ.length → (L2.wipe σ vs)[j]? = some none
  | v :: vs, σ, j, hj, hl => by
    show ((L2.wipe σ vs).set v none)[j]? = some none
    by_cases e : v = j
    · subst e
      rw [List.getElem?_set_self (by rw [wipe_length]; exact hl)]
    · rw [List.getElem?_set_ne e]
      rcases List.mem_cons.mp hj with h | h
      · exact absurd h.symm e
      · exact wipe_in h hl
theorem wipe_only {vs : List Nat} {σ σ' : L2.St} (o : Only vs (L2.wipe σ vs) σ') : L2.wipe σ' vs = L2.wipe σ vs := by
  have len : σ'.length = σ.length := by rw [o.len, wipe_length]
  apply List.ext_getElem?
  intro j
  by_cases hj : j ∈ vs
  · by_cases hl : j < σ.length
    · rw [wipe_in hj hl, wipe_in hj (by rw [len]; exact hl)]
    · rw [List.getElem?_eq_none (by rw [wipe_length]; omega), List.getElem?_eq_none (by rw [wipe_length]; omega)]
  · rw [wipe_out hj, o.at_ j hj]
end
section
variable {X : Cx} {S : Sg}
def cYes : VTT := fun E Q => Q true E
abbrev VTs (S : Sg) (X : Cx) (ifs : List Expr) (t : VTT) : Prop := PTs X ifs (liftT S t)
theorem vts_nil : VTs S X [] cYes := by
  refine ⟨fun pins s σ H Q I h => ?_⟩
  obtain ⟨Γ, E, Q0, ok, rp, ht, k⟩ := h
  exact (pts_nil (X := X)).run pins s σ H Q I (k true E ht H (Kq.refl _) rp)
theorem vts_one {c : Expr} {t : VTT} (h : VB S X c t) : VTs S X [c] t := pts_one h
def vLc (vi : VI) (g : VG) (c : VTT) (el : VT) (vs : List Nat) : FT := fun E Q => vi E fun ds E1 => ds.length < 1000000 ∧ ∃ P : Nat → List D → Nat → Prop, P 0 [] E1.c ∧
  (∀ i d acc k, ds[i]? = some d → P i acc k → acc.length ≤ i → g d (blkE ⟨E1.l, k⟩ vs) fun E2 => c E2 fun b E3 => (b = true → el E3 fun x E4 => P (i + 1) (acc ++ [x]) E4.c) ∧ (b = false → P (i + 1) acc E3.c)) ∧
  ∀ acc k, P ds.length acc k → acc.length ≤ ds.length → Q (.fl acc) ⟨E1.l, k⟩
theorem lc_lift {vi : VI} {g : VG} {c : VTT} {el : VT} {vs : List Nat} {σ : L2.St} {H : Hp} {Q : VK} (h : liftF S (vLc vi g c el vs) σ H Q) : tLc (liftI S vi) (liftG S vs g) (liftT S c) (liftV S el) vs σ H Q := by
  obtain ⟨Γ, E, Q0, ok, rp, ht, k⟩ := h
  refine ⟨Γ, E, _, ok, rp, ht, fun ds E1 ⟨hsz, P, p0, ps, pn⟩ J H1 kq1 rp1 it A nA => ?_⟩
  obtain ⟨frA, loA⟩ := rp1.fresh nA
  have sm0 := same_upd (o := .lst []) nA
  refine ⟨fun i m H' => m = ds.length - i ∧ i ≤ ds.length ∧ ∃ acc xs q, P i acc q ∧ acc.length ≤ i ∧ H' A = some (.lst xs) ∧ Γ.RpL H' xs acc ∧ Kq H1 H' ∧ Rep Γ ⟨E1.l, q⟩ σ H', ⟨_, rfl, Nat.zero_le _, [], [], E1.c, p0, Nat.le_refl _, upd_same, .nil, Kq.same sm0, rp1.same sm0⟩, ?_⟩
  rintro i m H' ⟨rfl, hi, acc, xs, q0, pi, la, hA, hx, kq', rp'⟩
  by_cases hlt : i < ds.length
  · refine .inr ⟨it.go i H' hlt kq', fun H2 => i + 1 ≤ ds.length ∧ ∃ acc xs q, P (i + 1) acc q ∧ acc.length ≤ i + 1 ∧ H2 A = some (.lst xs) ∧ Γ.RpL H2 xs acc ∧ Kq H1 H2 ∧ Rep Γ ⟨E1.l, q⟩ σ H2, fun H2 h => ⟨_, by omega, rfl, h⟩, fun x H2 y => ?_⟩
    obtain ⟨d, ed, rd, sm⟩ := it.yld i H' x H2 hlt kq' y
    have rp2 := rp'.same sm
    have okb : (Γ.blk H2).Ok S := ⟨ok.k, ok.b, ok.t⟩
    refine ⟨Γ.blk H2, blkE ⟨E1.l, q0⟩ vs, d, _, okb, rp2.enter.wipe vs, rd, ps i d acc q0 ed pi la, fun E2 q2 σ2 r2 o2 => ⟨wipe_only o2, ?_⟩⟩
    refine ⟨Γ.blk H2, E2, _, okb, r2, q2, fun b E3 q3 H3 kq3 r3 => ?_⟩
    have kq2 := kq'.trans (Kq.same sm)
    cases b with
    | true =>
      refine iteT ⟨Γ.blk H2, E3, _, okb, r3, q3.1 rfl, fun z E4 q4 v H4 kq4 r4 hv => ?_⟩
      have hA4 : H4 A = some (.lst xs) := r4.base.ext A _ frA.nsp (by simp) (sm _ _ hA)
      have rpl := rp2.leave r4.base r4.few
      have kqu : Kq H4 (upd H4 A (.lst (xs ++ [v]))) := Kq.upd hA4 trivial
      have kq4' := (kq3.trans kq4)
      have hx4 : Γ.RpL H4 xs acc := RpL.kq ((Kq.same sm).trans kq4') _ _ hx
      refine ⟨xs, hA4, millionL (by rw [hx4.len]; omega), hlt, acc ++ [z], xs ++ [v], E4.c, q4, by simp; omega, upd_same, RpL.kq kqu _ _ (hx4.app (.cons hv .nil)), (kq2.trans kq4').trans kqu, rpl.lone hA4 trivial frA loA⟩
    | false =>
      refine iteF ⟨hlt, acc, xs, E3.c, q3.2 rfl, by omega, r3.base.ext A _ frA.nsp (by simp) (sm _ _ hA), RpL.kq ((Kq.same sm).trans kq3) _ _ hx, kq2.trans kq3, rp2.leave r3.base r3.few⟩
  · have e : i = ds.length := by omega
    subst e
    exact .inl ⟨it.stop H' kq', k _ _ (pn acc q0 pi la) _ _ (kq1.trans kq') rp' ⟨A, rfl, ⟨A, xs, rfl, hA, hx, frA⟩, loA⟩⟩
variable {elt tg iter : Expr} {ifs : List Expr} {scope : Scope} {own : List (PySem.Str × Nat)} {pos spos py : Pos} {vi : VI} {g : VG} {c : VTT} {el : VT}
theorem fe_lc (hc : X.calm = true) (hN : X.N.Nodup) (hi : VIt S X tg iter vi) (ok : BlkOk X.N X.env.scope scope own)
    (hg : ∀ (s : Shared) (H : Hp) (C : Addr) (cl : List (PySem.Str × Addr)) (fp : List Addr), PG (X.blk s H scope (compEnvC scope cl C X.env) fp) tg (liftG S (own.map (·.2)) g))
    (ht : ∀ (s : Shared) (H : Hp) (C : Addr) (cl : List (PySem.Str × Addr)) (fp : List Addr), VTs S (X.blk s H scope (compEnvC scope cl C X.env) fp) ifs c)
    (he : ∀ (s : Shared) (H : Hp) (C : Addr) (cl : List (PySem.Str × Addr)) (fp : List Addr), VE S (X.blk s H scope (compEnvC scope cl C X.env) fp) elt el) (hs : ∀ x, foldedSetIterable iter X.env x = pure x := by intro _; rfl) :
    FE S X (.ListComp elt [⟨tg, iter, ifs, 0⟩] scope pos) (vLc vi g c el (own.map (·.2))) := pe_weak (pe_lc hc hN hi ok hg ht he hs) fun _ _ _ h => lc_lift h
theorem vs_setLc {i : Nat} {y : PySem.Str} (hc : X.calm = true) (hN : X.N.Nodup) (hy : X.N[i]? = some y) (hyl : X.env.scope.names.lookup y = some .local)
    (hsw : swapsWith (.ListComp elt [⟨tg, iter, ifs, 0⟩] scope pos) (some (.Name y py)) spos.line X.env = pure true) (hi : VIt S X tg iter vi) (ok : BlkOk X.N X.env.scope scope own)
    (hg : ∀ (s : Shared) (H : Hp) (C : Addr) (cl : List (PySem.Str × Addr)) (fp : List Addr), PG (X.blk s H scope (compEnvC scope cl C X.env) fp) tg (liftG S (own.map (·.2)) g))
    (ht : ∀ (s : Shared) (H : Hp) (C : Addr) (cl : List (PySem.Str × Addr)) (fp : List Addr), VTs S (X.blk s H scope (compEnvC scope cl C X.env) fp) ifs c)
    (he : ∀ (s : Shared) (H : Hp) (C : Addr) (cl : List (PySem.Str × Addr)) (fp : List Addr), VE S (X.blk s H scope (compEnvC scope cl C X.env) fp) elt el) (hs : ∀ x, foldedSetIterable iter X.env x = pure x := by intro _; rfl) :
    VSt S X (.Assign [.Name y py] (.ListComp elt [⟨tg, iter, ifs, 0⟩] scope pos) spos) (sSet i (vLc vi g c el (own.map (·.2)))) := by
  refine ps_weak (ps_setLc hc hN hy hyl hsw hi ok hg ht he hs) ?_
  rintro D σ H ⟨Γ, E, V, ok, r, h, k⟩
  refine lc_lift ⟨Γ, E, _, ok, r, h, fun d E1 h1 v H1 q1 r1 hv => ?_⟩
  exact k.nx _ h1 _ H1 q1 (hv.set r1 i)
/-! ### locking ahead -/
theorem fz_any {Γ : Gm} {E : En} {σ : L2.St} {H : Hp} (r : Rep Γ E σ H) (i : Nat) : (Rep Γ (fzE E i) σ H) ∨ ∃ a u, σ[i]? = some (some (.ref a)) ∧ H a = some u ∧ Mut (some u) ∧ ∀ o, Rep Γ (fzE E i) σ (upd H a (.frz o u)) := by
  unfold fzE
  cases h : E.l[i]? with
  | none => exact .inl r
  | some s =>
    obtain ⟨o, h1, h2⟩ := r.sl i s h
    have hi := (List.getElem?_eq_some_iff.mp h)
    have same : E.set i s = E := by
      show (⟨E.l.set i s, E.c⟩ : En) = E
      rw [show E.l.set i s = E.l from ?_]
      apply List.ext_getElem?
      intro j
      by_cases e : i = j
      · subst e
        rw [List.getElem?_set_self hi.1, h]
      · rw [List.getElem?_set_ne e]
    cases s with
    | no => exact .inl (by show Rep Γ (E.set i .no) σ H; rw [same]; exact r)
    | v d => exact .inl (by show Rep Γ (E.set i (.v d)) σ H; rw [same]; exact r)
    | ex b pl => exact .inl (by show Rep Γ (E.set i (.ex b pl)) σ H; rw [same]; exact r)
    | ol ds =>
      obtain ⟨p, u, rfl, hu, mu, fr⟩ := h2.own_at rfl
      exact .inr ⟨p, u, h1, hu, mu, fun o => (r.lock h rfl h1 hu mu).1⟩
    | od b ds =>
      obtain ⟨p, u, rfl, hu, mu, fr⟩ := h2.own_at rfl
      exact .inr ⟨p, u, h1, hu, mu, fun o => (r.lock h rfl h1 hu mu).1⟩
def vFz (i : Nat) (t : FT) : FT := fun E Q => t (fzE E i) Q
theorem fe_fz {e : Expr} {t : FT} (i : Nat) (h : FE S X e t) : FE S X e (vFz i t) := by
  refine pe_weak (pe_lockS i h) ?_
  rintro σ H Q ⟨Γ, E, Q0, ok, rp, ht, k⟩
  rcases fz_any rp i with r | ⟨p, u, h1, h2, h3, h4⟩
  · exact .inl ⟨Γ, _, Q0, ok, r, ht, k⟩
  · exact .inr ⟨p, u, h1, h2, h3, fun o => ⟨Γ, _, Q0, ok, h4 o, ht, fun r E' q v H' kq => k r E' q v H' ((Kq.upd h2 h3).trans kq)⟩⟩
def vFzV (i : Nat) (t : VT) : VT := fun E Q => t (fzE E i) Q
theorem ve_fz {e : Expr} {t : VT} (i : Nat) (h : VE S X e t) : VE S X e (vFzV i t) := by
  refine pe_weak (pe_lockS i h) ?_
  rintro σ H Q ⟨Γ, E, Q0, ok, rp, ht, k⟩
  rcases fz_any rp i with r | ⟨p, u, h1, h2, h3, h4⟩
  · exact .inl ⟨Γ, _, Q0, ok, r, ht, k⟩
  · exact .inr ⟨p, u, h1, h2, h3, fun o => ⟨Γ, _, Q0, ok, h4 o, ht, fun r E' q v H' kq => k r E' q v H' ((Kq.upd h2 h3).trans kq)⟩⟩
theorem ps_lockS {st : Stmt} {t : TS} (i : Nat) (h : PS X st t) : PS X st (fun D σ H => t D σ H ∨ ∃ a u, σ[i]? = some (some (.ref a)) ∧ H a = some u ∧ Mut (some u) ∧ ∀ o, t D σ (upd H a (.frz o u))) := by
  refine ⟨fun pins s σ H D I q => ?_⟩
  rcases q with q | ⟨a, u, _, hu, mu, q⟩
  · exact h.run pins s σ H D I q
  · obtain ⟨o, I2⟩ := I.lock hu mu
    exact h.run pins s σ _ D I2 (q o)
def sFz (i : Nat) (t : VS) : VS := fun V E => t V (fzE E i)
theorem vs_fz {st : Stmt} {t : VS} (i : Nat) (h : VSt S X st t) : VSt S X st (sFz i t) := by
  refine ps_weak (ps_lockS i h) ?_
  rintro D σ H ⟨Γ, E, V, ok, rp, ht, k⟩
  rcases fz_any rp i with r | ⟨p, u, h1, h2, h3, h4⟩
  · exact .inl ⟨Γ, _, V, ok, r, ht, k⟩
  · exact .inr ⟨p, u, h1, h2, h3, fun o => ⟨Γ, _, V, ok, h4 o, ht, k.kq (Kq.upd h2 h3)⟩⟩
/-! ### all, any of a generator expression -/
def vGen (vi : VI) (g : VG) (el : VT) (vs : List Nat) (ans : List Nat → (Nat → Bool) → Bool) : VT := fun E Q => vi E fun ds E1 => ∃ f : Nat → Bool, (∀ i d, ds[i]? = some d → g d (blkE E1 vs) fun E2 => el E2 fun x E3 => x = .bl (f i) ∧ E3.c = E1.c) ∧ Q (.bl (ans (List.range ds.length) f)) E1
theorem gen_lift {P : Addr} {vs : List Nat} {ans : List Nat → (Nat → Bool) → Bool} (hP : P ∈ S.tabs) {σ : L2.St} {H : Hp} {Q : VK} (h : liftV S (vGen vi g el vs ans) σ H Q) : IndG.genR P (liftI S vi) (liftG S vs g) (liftV S el) vs ans σ H Q := by
  obtain ⟨Γ, E, Q0, ok, rp, ht, k⟩ := h
  refine ⟨Γ, E, _, ok, rp, ht, fun ds E1 ⟨f, hf, hq⟩ J H1 kq1 rp1 it => ⟨rp1.base.tabs P (by rw [ok.t]; exact hP), fun H2 tb => ?_⟩⟩
  have hPg : P ∈ Γ.tabs := by rw [ok.t]; exact hP
  have x2 : Ext Γ E1.c H1 H2 := by
    have ne : ∀ b, ¬ Γ.sp b → b ≠ P := fun b n e => n (.inr (e ▸ hPg))
    obtain ⟨ps0, hp0, _⟩ := rp1.base.tabs P hPg
    refine ⟨fun b o n h => by rw [tb.2 b (ne b n)]; exact h, fun t e => ?_, few_same rp1.few rp1.base.tape fun t e o h => by
      obtain ⟨ns, p, n, s, h1, h2, h3⟩ := rp1.base.tape t e
      rw [tb.2 t.l (ne_of h2 hp0 (fun z => nomatch z))]; exact h, fun P' hP' => ?_⟩
    · obtain ⟨ns, p, n, s, h1, h2, h3⟩ := rp1.base.tape t e
      refine ⟨ns, p, n, s, by rw [tb.2 t.a (ne_of h1 hp0 (fun z => nomatch z))]; exact h1, by rw [tb.2 t.l (ne_of h2 hp0 (fun z => nomatch z))]; exact h2, h3⟩
    · by_cases e : P' = P
      · subst e; exact tb.1
      · obtain ⟨ps, h1, h2⟩ := rp1.base.tabs P' hP'
        exact ⟨ps, by rw [tb.2 P' e]; exact h1, h2⟩
  have kq2 := x2.kq rp1.base
  refine ⟨ds.length, f, fun j H3 => Kq H1 H3 ∧ Rep Γ E1 σ H3, ⟨kq2, rp1.call x2⟩, fun j H3 hj ⟨kq3, rp3⟩ => ⟨it.go j H3 hj kq3, fun x H4 y => ?_⟩, fun H3 ⟨kq3, rp3⟩ => it.stop H3 kq3, fun j H3 ⟨kq3, rp3⟩ => k _ _ hq _ _ (kq1.trans kq3) rp3 (.bl _)⟩
  obtain ⟨d, ed, rd, sm⟩ := it.yld j H3 x H4 hj kq3 y
  have rp4 := rp3.same sm
  have okb : (Γ.blk H4).Ok S := ⟨ok.k, ok.b, ok.t⟩
  refine ⟨Γ.blk H4, blkE E1 vs, d, _, okb, rp4.enter.wipe vs, rd, hf j d ed, fun E2 q2 σ2 r2 o2 => ⟨wipe_only o2, ?_⟩⟩
  refine ⟨Γ.blk H4, E2, _, okb, r2, q2, fun z E3 q3 v H5 kq5 r5 hv => ?_⟩
  obtain ⟨rfl, q3⟩ := q3
  cases hv
  have := rp4.leave r5.base r5.few
  rw [q3] at this
  exact ⟨rfl, (kq3.trans (Kq.same sm)).trans kq5, this⟩
variable {cc P : Addr} {k : Nat} {p gpos : Pos}
theorem ve_all (hP : P ∈ S.tabs) (hc : X.calm = true) (hN : X.N.Nodup) (hr : Room k X.A) (TB : GxR.TabB X.base X.mg cc P) (hcode : X.env.code = .ref cc) (hg : Gl X "all") (hm : X.mg "all" = none) (hb : bootBuiltins "all" = some (.builtin "all")) (ok : BlkOk X.N X.env.scope scope own)
    (nocell : ∀ y ∈ scope.names, y.2 ≠ .cell) (dot : scope.names.lookup (".0" : PySem.Str) = some NameKind.local) (hco : scope.isCoroutine = false) (hi : VIt S X tg iter vi) (hs : ∀ v, genFold iter X.env v = pure v)
    (pg : ∀ (s : Shared) (H : Hp) (C : Addr) (cl : List (PySem.Str × Addr)) (code : Value) (fp : List Addr), PG (IndG.genC X (genEnv scope cl C code builtinsNs X.env) s H fp) tg (liftG S (own.map (·.2)) g))
    (pe : ∀ (s : Shared) (H : Hp) (C : Addr) (cl : List (PySem.Str × Addr)) (code : Value) (fp : List Addr), VE S (IndG.genC X (genEnv scope cl C code builtinsNs X.env) s H fp) elt el)
    (he : starEach [IndG.gx elt tg iter scope gpos] X.env = (false, eval (IndG.gx elt tg iter scope gpos) X.env) :: starEach [] X.env := by rfl) :
    VE S X (.Call (.Name "all" p) [IndG.gx elt tg iter scope gpos] [] pos) (vGen vi g el (own.map (·.2)) List.all) := pe_weak (IndG.pe_allG hc hN hr TB hcode hg hm hb ok nocell dot hco hi hs pg pe he) fun _ _ _ h => gen_lift hP h
theorem ve_any (hP : P ∈ S.tabs) (hc : X.calm = true) (hN : X.N.Nodup) (hr : Room k X.A) (TB : GxR.TabB X.base X.mg cc P) (hcode : X.env.code = .ref cc) (hg : Gl X "any") (hm : X.mg "any" = none) (hb : bootBuiltins "any" = some (.builtin "any")) (ok : BlkOk X.N X.env.scope scope own)
    (nocell : ∀ y ∈ scope.names, y.2 ≠ .cell) (dot : scope.names.lookup (".0" : PySem.Str) = some NameKind.local) (hco : scope.isCoroutine = false) (hi : VIt S X tg iter vi) (hs : ∀ v, genFold iter X.env v = pure v)
    (pg : ∀ (s : Shared) (H : Hp) (C : Addr) (cl : List (PySem.Str × Addr)) (code : Value) (fp : List Addr), PG (IndG.genC X (genEnv scope cl C code builtinsNs X.env) s H fp) tg (liftG S (own.map (·.2)) g))
    (pe : ∀ (s : Shared) (H : Hp) (C : Addr) (cl : List (PySem.Str × Addr)) (code : Value) (fp : List Addr), VE S (IndG.genC X (genEnv scope cl C code builtinsNs X.env) s H fp) elt el)
    (he : starEach [IndG.gx elt tg iter scope gpos] X.env = (false, eval (IndG.gx elt tg iter scope gpos) X.env) :: starEach [] X.env := by rfl) :
    VE S X (.Call (.Name "any" p) [IndG.gx elt tg iter scope gpos] [] pos) (vGen vi g el (own.map (·.2)) List.any) := pe_weak (IndG.pe_anyG hc hN hr TB hcode hg hm hb ok nocell dot hco hi hs pg pe he) fun _ _ _ h => gen_lift hP h
end
end Va

set_option Elab.async false
set_option linter.all false
set_option maxRecDepth 100000
set_option maxHeartbeats 4000000
namespace Va
open PySem PySem.Spec PyProof.Rows L2 Ind
/-! ### errors by values -/
/-- an error: its class; a field, and what it holds -/
inductive Er where
  | own (C : Addr)
  | fld (C : Addr) (f : Tx) (d : D)
def Er.cls : Er → Addr
  | .own C => C
  | .fld C _ _ => C
def XRep (K : PySem.W.Frag) (tp : Option Tp) (H : Hp) (cls : Value) (d : Option Addr) : Er → Prop
  | .own C => cls = .ref C ∧ d = none
  | .fld C f x => cls = .ref C ∧ ∃ dd ob v, d = some dd ∧ H dd = some (.frz ob (.xd [(f, v)])) ∧ Rp K tp H v x
abbrev XQ := Er → En → Prop
def XOk (Γ : Gm) (W : WX) (Xq : XQ) (H : Hp) : Prop := ∀ e E, Xq e E → ∀ cls d σ' H', Kq H H' → Rep Γ E σ' H' → XRep Γ.K Γ.tp H' cls d e → W cls d σ' H'
theorem XOk.kq {Γ : Gm} {W : WX} {Xq : XQ} {H H' : Hp} (k : XOk Γ W Xq H) (q : Kq H H') : XOk Γ W Xq H' := fun e E h cls d σ2 H2 q2 r x => k e E h cls d σ2 H2 (q.trans q2) r x
abbrev VSX := Ve → XQ → En → Prop
def liftSX (S : Sg) (W : WX) (t : VSX) : TS := fun D σ H => ∃ (Γ : Gm) (E : En) (V : Ve) (Xq : XQ), Γ.Ok S ∧ Rep Γ E σ H ∧ t V Xq E ∧ EndsOk Γ V D H ∧ XOk Γ W Xq H
abbrev VXt (S : Sg) (W : WX) (X : Cx) (st : Stmt) (t : VSX) : Prop := PS X st (liftSX S W t)
abbrev VXs (S : Sg) (W : WX) (X : Cx) (st : List Stmt) (t : VSX) : Prop := PSs X st (liftSX S W t)
section
variable {X : Cx} {S : Sg} {W : WX} {e : Expr} {st : Stmt} {rest : List Stmt} {pos : Pos}
theorem ps_nox {t : TS} (h : PS X.nox st t) : PS X st t := ⟨fun pins s σ H D I hw =>
  wpAny_mono (h.run pins s σ H D (I.wish _) hw) (fun _ _ q => q.unwish) fun _ _ z => False.elim z⟩
theorem pa_nox {es : List Expr} {t : TA} (h : PA X.nox es t) : PA X es t := ⟨fun pos pins s σ H Q I hw =>
  wpAny_mono (h.run pos pins s σ H Q (I.wish _) hw) (fun _ _ ⟨v, H', I', r, q⟩ => ⟨v, H', I'.unwish, r, q⟩) fun _ _ z => False.elim z⟩
def xNox (t : VS) : VSX := fun V _ E => t V E
theorem vxs_nox {t : VS} (h : VSs S X.nox rest t) : VXs S W X rest (xNox t) := by
  refine pss_weak h.nox ?_
  rintro D σ H ⟨Γ, E, V, Xq, ok, r, h, k, _⟩
  exact ⟨Γ, E, V, ok, r, h, k⟩
theorem vx_nox {t : VS} (h : VSt S X.nox st t) : VXt S W X st (xNox t) := by
  refine ps_weak (ps_nox h) ?_
  rintro D σ H ⟨Γ, E, V, Xq, ok, r, h, k, _⟩
  exact ⟨Γ, E, V, ok, r, h, k⟩
def xSeq (t u : VSX) : VSX := fun V Xq E => t { V with nx := u V Xq } Xq E
theorem vxs_cons {t u : VSX} (h : VXt S W X st t) (g : VXs S W X rest u) : VXs S W X (st :: rest) (xSeq t u) := by
  refine pss_weak (pss_cons h g) ?_
  rintro D σ H ⟨Γ, E, V, Xq, ok, r, h, k, kx⟩
  exact ⟨Γ, E, _, Xq, ok, r, h, ⟨fun E1 h1 σ1 H1 q1 r1 => ⟨Γ, E1, V, Xq, ok, r1, h1, k.kq q1, kx.kq q1⟩, k.rt, k.bk, k.ct⟩, kx⟩
theorem vxs_one {t : VSX} (h : VXt S W X st t) : VXs S W X [st] t := pss_one h
def xNx : VSX := fun V _ E => V.nx E
theorem vxs_nil : VXs S W X [] xNx := by
  refine pss_weak pss_nil ?_
  rintro D σ H ⟨Γ, E, V, Xq, ok, r, h, k, kx⟩
  exact k.nx E h σ H (Kq.refl _) r
def xIf (c : VTT) (t u : VSX) : VSX := fun V Xq E => c E fun b E1 => (b = true → t V Xq E1) ∧ (b = false → u V Xq E1)
theorem vx_if {c : Expr} {a b : List Stmt} {tc : VTT} {t u : VSX} (hc : VB S X.nox c tc) (ha : VXs S W X a t) (hb : VXs S W X b u) : VXt S W X (.If c a b pos) (xIf tc t u) := by
  refine ps_weak (ps_if (PT.nox hc) ha hb) ?_
  rintro D σ H ⟨Γ, E, V, Xq, ok, r, h, k, kx⟩
  refine ⟨Γ, E, _, ok, r, h, fun b E1 h1 H1 q1 r1 => ?_⟩
  cases b with
  | true => exact iteT ⟨Γ, E1, V, Xq, ok, r1, h1.1 rfl, k.kq q1, kx.kq q1⟩
  | false => exact iteF ⟨Γ, E1, V, Xq, ok, r1, h1.2 rfl, k.kq q1, kx.kq q1⟩
def xRaise (e : Er) : VSX := fun _ Xq E => Xq e E
theorem vx_raise {C : Addr} {bmB : List Value} {B newId initId : String} {x m : PySem.Str} {j : Nat} {p p2 pos2 : Pos} (hc : X.calm = true) (tk : Takes X W) (F : ExcBaseFacts B newId initId bmB) (q : PySem.W.excIn X.K C bmB newId = true) (gC : X.mg x = some (.ref C)) (kC : PySem.W.keepIn X.K (.ref C) = true) (r : Raises X (.ref C)) (hg : Gl X x)
    (hdb : (x == ("__debug__" : PySem.Str)) = false := by decide) : VXt S W X (.Raise (some (.Call (.Name x p) [.Constant (.str m) j p2] [] pos)) none pos2) (xRaise (.own C)) := by
  refine ps_weak (ps_raise hc tk (pmk_own F q gC kC r hg hdb)) ?_
  rintro D σ H ⟨Γ, E, V, Xq, ok, r, h, k, kx⟩
  exact kx _ E h _ _ σ H (Kq.refl _) r ⟨rfl, rfl⟩
/-! ### expressions that may raise -/
abbrev VTX := En → (D → En → Prop) → XQ → Prop
abbrev VTAX := En → (List D → En → Prop) → XQ → Prop
def liftVX (S : Sg) (W : WX) (t : VTX) : TE := fun σ H Q => ∃ (Γ : Gm) (E : En) (Q0 : D → En → Prop) (Xq : XQ), Γ.Ok S ∧ Rep Γ E σ H ∧ t E Q0 Xq ∧ (∀ d E', Q0 d E' → ∀ v H', Kq H H' → Rep Γ E' σ H' → Γ.Rp H' v d → Q v H') ∧ XOk Γ W Xq H
def liftAX (S : Sg) (W : WX) (t : VTAX) : TA := fun σ H Q => ∃ (Γ : Gm) (E : En) (Q0 : List D → En → Prop) (Xq : XQ), Γ.Ok S ∧ Rep Γ E σ H ∧ t E Q0 Xq ∧ (∀ d E', Q0 d E' → ∀ v H', Kq H H' → Rep Γ E' σ H' → Γ.RpL H' v d → Q v H') ∧ XOk Γ W Xq H
abbrev VEX (S : Sg) (W : WX) (X : Cx) (e : Expr) (t : VTX) : Prop := PE X e (liftVX S W t)
abbrev VAX (S : Sg) (W : WX) (X : Cx) (es : List Expr) (t : VTAX) : Prop := PA X es (liftAX S W t)
def xV (t : VT) : VTX := fun E Q _ => t E Q
theorem vex_nox {t : VT} (h : VE S X.nox e t) : VEX S W X e (xV t) := by
  refine pe_weak (PE.nox h) ?_
  rintro σ H Q ⟨Γ, E, Q0, Xq, ok, rp, ht, k, kx⟩
  exact ⟨Γ, E, Q0, ok, rp, ht, k⟩
def xaNil : VTAX := fun E Q _ => Q [] E
def xaCons (t : VTX) (u : VTAX) : VTAX := fun E Q Xq => t E (fun d E1 => u E1 (fun ds E2 => Q (d :: ds) E2) Xq) Xq
variable {es : List Expr}
theorem vax_nil : VAX S W X [] xaNil := by
  refine pa_weak pa_nil ?_
  rintro σ H Q ⟨Γ, E, Q0, Xq, ok, rp, ht, k, kx⟩
  exact k _ _ ht _ _ (Kq.refl _) rp .nil
theorem vax_cons {t : VTX} {u : VTAX} (ha : VEX S W X e t) (hr : VAX S W X es u) (hs : starEach (e :: es) X.env = (false, eval e X.env) :: starEach es X.env := by rfl) : VAX S W X (e :: es) (xaCons t u) := by
  refine pa_weak (pa_cons ha hr hs) ?_
  rintro σ H Q ⟨Γ, E, Q0, Xq, ok, rp, ht, k, kx⟩
  refine ⟨Γ, E, _, Xq, ok, rp, ht, fun d E1 hq v H1 kq1 rp1 hv => ?_, kx⟩
  refine ⟨Γ, E1, _, Xq, ok, rp1, hq, fun ds E2 hq2 vs H2 kq2 rp2 hvs => ?_, kx.kq kq1⟩
  exact k _ _ hq2 _ _ (kq1.trans kq2) rp2 (.cons (Rp.kq kq2 _ _ hv) hvs)
def xTup (t : VTAX) : VTX := fun E Q Xq => t E (fun ds E1 => ds.length ≤ 1000 ∧ Q (.tup ds) E1) Xq
theorem vex_tup {x1} {t : VTAX} (h : VAX S W X es t) : VEX S W X (.Tuple es x1 pos) (xTup t) := by
  refine pe_weak (pe_tup h) ?_
  rintro σ H Q ⟨Γ, E, Q0, Xq, ok, rp, ht, k, kx⟩
  refine ⟨Γ, E, _, Xq, ok, rp, ht, fun ds E1 hq vs H1 kq1 rp1 hvs => ⟨line (by rw [hvs.len]; exact hq.1), fun p np => ?_⟩, kx⟩
  have sm := same_upd (o := .tup vs) np
  exact k _ _ hq.2 _ _ (kq1.trans (Kq.same sm)) (rp1.same sm) (.tup (.of upd_same) (RpL.kq (Kq.same sm) _ _ hvs))
def xRt (t : VTX) : VSX := fun V Xq E => t E (fun d E1 => V.rt d E1) Xq
theorem vx_ret {t : VTX} (he : VEX S W X e t) : VXt S W X (.Return (some e) pos) (xRt t) := by
  refine ps_weak (ps_ret he) ?_
  rintro D σ H ⟨Γ, E, V, Xq, ok, r, h, k, kx⟩
  exact ⟨Γ, E, _, Xq, ok, r, h, fun d E1 h1 v H1 q1 r1 hv => k.rt d E1 h1 v σ H1 q1 r1 hv, kx⟩
def xSet (i : Nat) (t : VTX) : VSX := fun V Xq E => t E (fun d E1 => V.nx (E1.set i (.v d))) Xq
theorem vx_set {i : Nat} {x : PySem.Str} {t : VTX} {pos' : Pos} (hN : X.N.Nodup) (hi : X.N[i]? = some x) (hx : Loc X.env.scope x) (he : VEX S W X e t) (hs : swapsWith e (some (.Name x pos')) pos.line X.env = pure false := by rfl) (hf : X.fn x = true ∨ X.env.scope.names.lookup x = some .local := by first | exact .inl rfl | exact .inr rfl | assumption) :
    VXt S W X (.Assign [.Name x pos'] e pos) (xSet i t) := by
  refine ps_weak (ps_set hN hi hx he hs hf) ?_
  rintro D σ H ⟨Γ, E, V, Xq, ok, r, h, k, kx⟩
  exact ⟨Γ, E, _, Xq, ok, r, h, fun d E1 h1 v H1 q1 r1 hv => k.nx _ h1 _ H1 q1 (r1.set i hv), kx⟩
def xEx (t : VTX) : VSX := fun V Xq E => t E (fun _ E1 => V.nx E1) Xq
theorem vx_expr {t : VTX} (he : VEX S W X e t) (hs : swapsWith e none pos.line X.env = pure false := by rfl) : VXt S W X (.Expr e pos) (xEx t) := by
  refine ps_weak (ps_expr he hs) ?_
  rintro D σ H ⟨Γ, E, V, Xq, ok, r, h, k, kx⟩
  exact ⟨Γ, E, _, Xq, ok, r, h, fun d E1 h1 v H1 q1 r1 _ => k.nx E1 h1 σ H1 q1 r1, kx⟩
/-! ### calls of defs that may raise -/
abbrev VMX := List D → Nat → (D → Nat → Prop) → (Er → Nat → Prop) → Prop
def spVX (S : Sg) (m : VMX) : Sp := fun vs H Q Ew => ∃ (tp : Option Tp) (ds : List D) (c : Nat) (Q0 : D → Nat → Prop) (X0 : Er → Nat → Prop), RpL S.K tp H vs ds ∧ (∀ t, tp = some t → TapeV S.b H t) ∧ Few tp c H ∧ (∀ P ∈ S.tabs, GxR.TabG H P) ∧ m ds c Q0 X0 ∧
  (∀ d c', Q0 d c' → ∀ v H', Ext ⟨S.K, S.b, tp, S.tabs, [], H⟩ c' H H' → Rp S.K tp H' v d → Q v H') ∧ (∀ e c', X0 e c' → ∀ cls d H', Ext ⟨S.K, S.b, tp, S.tabs, [], H⟩ c' H H' → XRep S.K tp H' cls d e → Ew cls d H')
def xCall (m : VMX) (t : VTA) : VTX := fun E Q Xq => t E fun ds E1 => m ds E1.c (fun d c => Q d ⟨E1.l, c⟩) (fun e c => Xq e ⟨E1.l, c⟩)
theorem spVX_of {Γ : Gm} {E : En} {σ : L2.St} {H : Hp} {m : VMX} {vs : List V} {ds : List D} {Q : VK} {Ew : XK} {Q0 : D → Nat → Prop} {X0 : Er → Nat → Prop} (ok : Γ.Ok S) (r : Rep Γ E σ H) (hv : Γ.RpL H vs ds) (h : m ds E.c Q0 X0) (k : ∀ d c, Q0 d c → ∀ v H', Kq H H' → Rep Γ ⟨E.l, c⟩ σ H' → Γ.Rp H' v d → Q v H')
    (kx : ∀ e c, X0 e c → ∀ cls d H', Kq H H' → Rep Γ ⟨E.l, c⟩ σ H' → XRep Γ.K Γ.tp H' cls d e → Ew cls d H') : spVX S m vs H Q Ew := by
  obtain ⟨eK, eB, eT⟩ := ok
  have cv : ∀ c H', Ext ⟨S.K, S.b, Γ.tp, S.tabs, [], H⟩ c H H' → Ext Γ c H H' := fun c H' x => ⟨fun b o n => x.ext b o fun z => n (by
    rcases z with z | z
    · exact .inl z
    · exact .inr (by rw [eT]; exact z)), by rw [eB]; exact x.tape, x.few, by rw [eT]; exact x.tabs⟩
  refine ⟨Γ.tp, ds, E.c, Q0, X0, by rw [← eK]; exact hv, by rw [← eB]; exact r.base.tape, r.few, by rw [← eT]; exact r.base.tabs, h, fun d c hd v H' x rv => ?_, fun e c he cls d H' x xr => ?_⟩
  · have x' := cv c H' x
    exact k d c hd v H' (x'.kq r.base) (r.call x') (by rw [← eK] at rv; exact rv)
  · have x' := cv c H' x
    exact kx e c he cls d H' (x'.kq r.base) (r.call x') (by rw [← eK] at xr; exact xr)
theorem vex_call {k : Nat} {f : Addr} {fd : FuncData} {ps : List PySem.Str} {m : VMX} {x : PySem.Str} {p : Pos} {t : VTA} (F : FnOk X.prog X.w X.K X.mg X.base (L2.CX X.prog X.w) k f fd ps (spVX S m)) (hr : Room k X.A) (tk : Takes X W) (hg : Gl X x) (hm : X.mg x = some (.ref f)) (hk : PySem.W.keepIn X.K (.ref f) = true) (hb : Binds X.K fd ps [])
    (ha : VA S X.nox (e :: es) t) (hdb : (x == ("__debug__" : PySem.Str)) = false := by decide) (he : starEach (e :: es) X.env = (false, eval e X.env) :: starEach es X.env := by rfl) (hpl : (backTo pos (starEach es X.env)).any (·.1) = false := by rfl) :
    VEX S W X (.Call (.Name x p) (e :: es) [] pos) (xCall m t) := by
  refine pe_weak (pe_callS F hr hg hm hk hb (fun σ => passAt tk σ) (pa_nox ha) hdb he hpl) ?_
  rintro σ H Q ⟨Γ, E, Q0, Xq, ok, rp, ht, k, kx⟩
  refine ⟨Γ, E, _, ok, rp, ht, fun ds E1 hq vs H1 kq1 rp1 hvs => ?_⟩
  show spVX S m vs H1 Q (WE W σ)
  exact spVX_of ok rp1 hvs hq (fun d c hd v H' q' r' rv => k _ _ hd _ _ (kq1.trans q') r' rv) fun e c he cls d H' q' r' xr => kx _ _ he cls d σ H' (kq1.trans q') r' xr
end
/-! ### a def that may raise -/
section
variable {P : Program} {w : World} {K : PySem.W.Frag} {mg : PySem.Str → Option Value} {base : Heap} {S : Sg} {x qual : PySem.Str} {st : Stmt} {f : Addr} {fd : FuncData} {N ps : List PySem.Str} {k : Nat} {m : VMX} {T : VSX}
theorem def_vx (F : Fun K x qual st f fd) (sc : FnScope N ps (defScope st)) (hK : S.K = K) (len : ∀ ds c Q Xq, m ds c Q Xq → ds.length = ps.length)
    (hb : ∀ (cdv : Value) (A : Around) (outer : List Env) (s : Shared) (H : Hp) (E : XK), Room k (A.deeper (envOfC qual (defScope st) s.heap.objs.size f cdv)) → VXs S (fun cls d _ H => E cls d H) (cxOf (L2.CX P w) P w K mg base N qual (defScope st) f cdv A outer s H E) (defBody st) T)
    (h : ∀ ds c Q Xq, m ds c Q Xq → T (endV Q) (fun e E => Xq e E.c) (startV N ds c)) : FnOk P w K mg base (L2.CX P w) (k + 1) f fd ps (spVX S m) := by
  refine F.okX sc (fun vs H Q E sp => ?_) (fun cdv A outer s H vs Q E hr sp => ⟨_, hb cdv A outer s H E hr, ?_⟩)
  · obtain ⟨tp, ds, c, Q0, X0, hv, _, _, _, hm, _⟩ := sp
    rw [hv.len]
    exact len ds c Q0 X0 hm
  · obtain ⟨tp, ds, c, Q0, X0, hv, ht, hf, hp, hm, k, kx⟩ := sp
    refine ⟨⟨S.K, S.b, tp, S.tabs, [], H⟩, startV N ds c, _, _, ⟨rfl, rfl, rfl⟩, rep_start hv ht hf hp, h ds c Q0 X0 hm, ⟨fun E1 h1 σ1 H1 q1 r1 => ?_, fun d E1 h1 v σ1 H1 q1 r1 rv => ?_, fun _ z => z.elim, fun _ z => z.elim⟩, fun e E1 h1 cls d σ1 H1 q1 r1 xr => ?_⟩
    · exact k _ _ h1 _ _ ⟨fun b o n e => r1.base.ext b o n (by simp) e, r1.base.tape, r1.few, r1.base.tabs⟩ .non
    · exact k _ _ h1 _ _ ⟨fun b o n e => r1.base.ext b o n (by simp) e, r1.base.tape, r1.few, r1.base.tabs⟩ rv
    · exact kx _ _ h1 _ _ _ ⟨fun b o n e => r1.base.ext b o n (by simp) e, r1.base.tape, r1.few, r1.base.tabs⟩ xr
end
/-! ### try: .. except C as n: .. -/
section
variable {X : Cx} {S : Sg} {x n : PySem.Str} {c : Value} {i : Nat} {body suite : List Stmt} {b₀ : Stmt} {np pos pos' : Pos}
/-- what an except suite knows of its error -/
def Held (oe : Obj) (C : Addr) : Prop := oe.cls = .ref C ∧ (∃ vs, oe.data = .fields vs) ∧ oe.dict = none
/-- the body raises C alone -/
def sTry (i : Nat) (C : Addr) (tb : VSX) (ts : Addr → VS) : VS := fun V E => tb V (fun e E1 => e = .own C ∧ ∀ a, ts a { nx := fun E2 => V.nx (E2.set i .no), rt := V.rt, bk := fun E2 => V.bk (E2.set i .no), ct := fun E2 => V.ct (E2.set i .no) } (E1.set i (.ex a none))) E
theorem vs_try_as {tb : VSX} {ts : Addr → VS} {C : Addr} (hs : X.stack = X.env :: X.outer) (hf : X.env.frame = some X.env.locals) (hN : X.N.Nodup) (hi : X.N[i]? = some n) (hln : X.env.kindOf n = some .local) (hc : Names X x c)
    (hx : PySem.W.exmOne X.K (.ref C) c = some true)
    (hb : ∀ (W : WX) (pn : List (Addr × Obj)) (xe : Value → Shared → Prop), Takes (X.tr pn xe) W → PassesOwn (model X.prog X.w) X.A X.env xe → VXs S W (X.tr pn xe) body tb)
    (hsu : ∀ (a : Addr) (oe : Obj) (pn : List (Addr × Obj)), Held oe C → VSs S (X.suite a ((a, oe) :: pn)) (b₀ :: suite) (ts a)) :
    VSt S X (.Try body [.ExceptHandler (some (.Name x np)) (some n) (b₀ :: suite) pos'] [] [] pos) (sTry i C tb ts) := by
  refine ps_weak (ps_try_as (i := i) (ts := fun a cls d D σ H => cls = .ref C ∧ d = none ∧ liftS S (ts a) D σ H) hs hf hN hi hln hc takes0 (fun W pn xe tk po => hb W pn xe tk po) (fun a oe cls d pn hz hfl => ?_)) ?_
  · refine ⟨fun pins s σ H D I h => ?_⟩
    obtain ⟨ec, ed, h⟩ := h
    exact (hsu a oe pn ⟨hz.1.trans ec, hfl, hz.2.trans ed⟩).run pins s σ H D I h
  · rintro D σ H ⟨Γ, E, V, ok, r, h, k⟩
    refine ⟨Γ, E, V, _, ok, r, h, k, fun e E1 h1 cls d σ1 H1 q1 r1 xr => ?_⟩
    obtain ⟨rfl, hs⟩ := h1
    obtain ⟨rfl, rfl⟩ := xr
    refine ⟨true, hx, fun _ a na => ⟨rfl, rfl, Γ, _, _, ok, ?_, hs a, ?_⟩, fun z => Bool.noConfusion z⟩
    · refine ⟨r1.base, by simp [En.set, r1.len], r1.few, fun j s e => ?_, fun j k s t b e1 e2 o1 o2 h1 h2 => ?_⟩
      · rcases get_set e with ⟨rfl, rfl, hi⟩ | ⟨ne, e⟩
        · exact ⟨_, List.getElem?_set_self (by rw [← r1.len]; exact hi), rfl, fun p hp => by cases hp⟩
        · rw [List.getElem?_set_ne ne]
          exact r1.sl j s e
      · rcases get_set e1 with ⟨_, rfl, _⟩ | ⟨n1, e1⟩
        · cases o1
        · rcases get_set e2 with ⟨_, rfl, _⟩ | ⟨n2, e2⟩
          · cases o2
          · rw [List.getElem?_set_ne n1] at h1
            rw [List.getElem?_set_ne n2] at h2
            exact r1.dis j k s t b e1 e2 o1 o2 h1 h2
    · exact ⟨fun E2 h2 σ2 H2 q2 r2 => k.nx _ h2 _ H2 (q1.trans q2) (r2.setNo i none), fun d E2 h2 v σ2 H2 q2 r2 rv => k.rt d E2 h2 v σ2 H2 (q1.trans q2) r2 rv, fun E2 h2 σ2 H2 q2 r2 => k.bk _ h2 _ H2 (q1.trans q2) (r2.setNo i none), fun E2 h2 σ2 H2 q2 r2 => k.ct _ h2 _ H2 (q1.trans q2) (r2.setNo i none)⟩
end
/-! ### isinstance(e, C) of the error that the suite holds -/
section
variable {X : Cx} {S : Sg}
def vIsE (i : Nat) (a : Addr) (b : Bool) : VT := fun E Q => (∃ pl, E.l[i]? = some (.ex a pl)) ∧ Q (.bl b) E
theorem ve_isE {i : Nat} {x y : PySem.Str} {a C : Addr} {oe : Obj} {pn : List (Addr × Obj)} {cv : Value} {c : V} {b : Bool} {p p2 p3 pos : Pos} (hd : Held oe C) (eC : ExcC X.K C) (hb : PySem.W.kitOne X.K (.ref C) cv = some b)
    (hv : PE (X.suite a ((a, oe) :: pn)) (.Name x p) (tVar i)) (hc : PE (X.suite a ((a, oe) :: pn)) (.Name y p2) (tC c)) (hcv : ∀ u, RelV c u → u = cv)
    (hg : Gl (X.suite a ((a, oe) :: pn)) "isinstance") (hm : X.mg "isinstance" = none) (hbt : bootBuiltins "isinstance" = some (.builtin "isinstance")) : VE S (X.suite a ((a, oe) :: pn)) (.Call (.Name "isinstance" p3) [.Name x p, .Name y p2] [] pos) (vIsE i a b) := by
  refine pe_weak (pe_callB (call_isE eC (show Zc (.ref C) none oe from ⟨hd.1, hd.2.2⟩) hd.2.1) hg hm hbt (pa_cons hv (pa_cons hc pa_nil))) ?_
  rintro σ H Q ⟨Γ, E, Q0, ok, rp, ht, k⟩
  obtain ⟨⟨pl, hE⟩, hq⟩ := ht
  obtain ⟨o, h1, h2, _⟩ := rp.sl i _ hE
  subst h2
  exact ⟨_, h1, c, cv, b, rfl, hcv, hb, k _ _ hq _ _ (Kq.refl _) rp (.bl b)⟩
end
end Va

set_option Elab.async false
set_option linter.all false
set_option maxRecDepth 100000
set_option maxHeartbeats 4000000
namespace Va
open PySem PySem.Spec PyProof.Rows L2 Ind
section
variable {prog : Program} {w : World} {A : Around} {E : Value → Shared → Prop} {s : Shared} {T : String} {r d : Addr} {n : Nat} {P : Nat → Value → Prop} {OK : Heap → Prop}
/-- what a source of items gives, collected -/
theorem collect_src {Q : List Value → Shared → Prop} (K : PySem.W.KdlSrc prog w T r d n P OK) (hh : A.handled = none) (hok : OK s.heap) (hn : n ≤ sizeLine)
    (hQ : ∀ (h' : Heap) (tk : Nat) (acc : Array Value), (∀ b o, s.heap.get? b = some o → h'.get? b = some o) → ItemsOf P acc n → Q acc.toList { s with heap := h', toks := tk }) : wpAny (model prog w) A (collect (.ref r)) Q E s := by
  unfold collect; refine wpAny_bind (wpAny_runValue (codeAny_builtin F.entry_proto_collect ?_)); rw [Around.under_plainId F.plain_proto_collect _]
  show wpAny _ A.in1 (newList [] >>= fun l => again (.builtin "list.__iadd__" ⟨[l, .ref r], []⟩)) (_) _ s
  refine wpAny_bind (wpAny_newObj_type ?_)
  refine wpAny_pure ⟨plainId_quiet F.plain_list_iadd _, codeAny_builtin F.entry_list_iadd ?_⟩; rw [Around.under_plainId F.plain_list_iadd _]
  show wpAny _ A.in1 (Builtin.List.listExtendWith (.ref s.heap.objs.size) (.ref r) (.ref s.heap.objs.size)) (_) (_) _
  have hS : (s.heap.push { cls := .type "list", data := .seq ([] : List Value).toArray }).get? s.heap.objs.size = some { cls := .type "list", data := .seq #[] 0 } := by exact Heap.get?_push_size _ rfl
  have there := K.there _ hok
  have ok2 : OK (s.heap.push { cls := .type "list", data := .seq ([] : List Value).toArray }) := K.keep _ _ hok fun b _ o e => Heap.get?_push_of_some _ e
  refine wpAny_mono (PySem.W.kdl_extend (A := A) (s := { s with heap := s.heap.push { cls := .type "list", data := .seq ([] : List Value).toArray } }) (R := fun rr s' => rr = .ok (.ret (.ref s.heap.objs.size)) ∧ ∃ (h' : Heap) (tk : Nat) (acc : Array Value) (c' : Nat), s' = { s with heap := h', toks := tk } ∧
    (∀ b o, s.heap.get? b = some o → h'.get? b = some o) ∧ h'.get? s.heap.objs.size = some { cls := .type "list", dict := none, data := .seq acc c', slots := #[] } ∧ ItemsOf P acc n) K hh ok2 s.heap.objs.size (Nat.ne_of_gt there.1) (Nat.ne_of_gt there.2) (.ref s.heap.objs.size) 0 hS
    (fun h' tk acc c' hk e hi => ⟨rfl, h', tk, acc, c', rfl, fun b o q => hk b o (Nat.ne_of_lt (Heap.lt_size q)) (Heap.get?_push_of_some _ q), e, hi⟩) hn) (fun fin s' h => ?_) (fun e s' h => absurd h.1 (by simp))
  cases fin with
  | done f =>
    obtain ⟨e, h', tk, acc, c', rfl, hk, hS', hi⟩ := h
    cases e; show wpAny _ A (load s.heap.objs.size >>= _) _ _ _
    exact wpAny_bind (wpAny_load hS' (wpAny_pure (hQ h' tk acc hk hi)))
  | again c' =>
    refine ⟨h.1, codeAny_mono h.2 ?_⟩
    rintro rr s'' ⟨rfl, h', tk, acc, c', rfl, hk, hS', hi⟩
    show wpAny _ A (load s.heap.objs.size >>= _) _ _ _; exact wpAny_bind (wpAny_load hS' (wpAny_pure (hQ h' tk acc hk hi)))
theorem call_tuple_src {Q : Value → Shared → Prop} (K : PySem.W.KdlSrc prog w T r d n P OK) (hh : A.handled = none) (hok : OK s.heap) (hn : n ≤ sizeLine) (hty : s.TypeIs (.ref r) T)
    (cod : ∀ (A : Around) (Q₁ : Value → Shared → Prop), A.handled = none → (∀ (h' : Heap) (tk : Nat) (acc : Array Value), (∀ b o, s.heap.get? b = some o → h'.get? b = some o) → ItemsOf P acc n → Q₁ (.ref h'.objs.size) { s with heap := h'.push { cls := .type "tuple", data := .seq acc }, toks := tk }) →
      codeAny (model prog w) A (.call (.builtin "tuple.__new__") ⟨[.type "tuple", .ref r], []⟩) (wants Q₁ E) s)
    (hQ : ∀ (h' : Heap) (tk : Nat) (acc : Array Value), (∀ b o, s.heap.get? b = some o → h'.get? b = some o) → ItemsOf P acc n → Q (.ref h'.objs.size) { s with heap := h'.push { cls := .type "tuple", data := .seq acc }, toks := tk }) :
    wpAny (model prog w) A (call (.type "tuple") [.ref r]) Q E s := by
  refine callType_codes (Q₁ := fun obj s1 => s1.TypeIs obj "tuple" ∧ Q obj s1) F.called_tuple (F.typeCall_tuple_1 _) F.entry_object_init (cod A.in1 _ hh fun h' tk acc hk hacc => ⟨⟨_, Heap.get?_push_size _ rfl, rfl⟩, hQ h' tk acc hk hacc⟩) ?_
  intro obj s1 h1
  exact ⟨h1.1, F.args_object_init_2 obj _, object_init_meets F.called_tuple.init.lookup F.called_tuple.made (by decide) prog w A.in1 _ s1 ⟨h1.1, rfl, h1.2⟩⟩
theorem code_tuple_dict {Q₁ : Value → Shared → Prop} (K : PySem.W.KdlSrc prog w "dict" r d n P OK) (hh : A.handled = none) (hok : OK s.heap) (hn : n ≤ sizeLine)
    (h : ∀ (h' : Heap) (tk : Nat) (acc : Array Value), (∀ b o, s.heap.get? b = some o → h'.get? b = some o) → ItemsOf P acc n → Q₁ (.ref h'.objs.size) { s with heap := h'.push { cls := .type "tuple", data := .seq acc }, toks := tk }) :
    codeAny (model prog w) A (.call (.builtin "tuple.__new__") ⟨[.type "tuple", .ref r], []⟩) (wants Q₁ E) s := by
  refine codeAny_of_tree ?_
  show wpAny _ A.in1 (do checkBuiltinCall "tuple.__new__" ⟨[.type "tuple", .ref r], []⟩; again (.builtin "tuple.__new__" ⟨[.type "tuple", .ref r], []⟩)) (_) (_) s
  refine wpAny_bind (wpAny_of_eq (F.newCall_tuple_1 _) ?_)
  refine wpAny_pure ⟨plainId_quiet F.plain_tuple_new _, codeAny_builtin F.entry_tuple_new ?_⟩; rw [Around.under_plainId F.plain_tuple_new _]
  have z1 := sub_tuple_self; have z2 := init_tuple_lookup; have z3 := madeHere_tuple
  have hTI : s.TypeIs (.ref r) "dict" := K.type _ hok
  have hh1 : A.in1.handled = none := hh
  wp_walk using wpAny_typeOf hTI, collect_src (A := A.in1) K hh1 hok hn
  intro h' tk acc hk hacc
  show wpAny _ _ (Builtin.Tuple.tupleExact acc.toList.toArray >>= fun v => ret v) (_) _ _
  unfold Builtin.Tuple.tupleExact; refine wpAny_bind (wpAny_newObj_type ?_ (by show acc.toList.toArray.size ≤ sizeLine; simp only [Array.toArray_toList]; rw [hacc.1]; exact hn)); refine wpAny_pure ?_
  rw [show acc.toList.toArray = acc by simp]
  exact h h' tk acc hk hacc
end
section
variable {X : Cx} {S : Sg}
/-- tuple(d): the keys -/
theorem call_tuple_dK (hc : X.calm = true) : CallR X (.type "tuple") (fun xs H Q => ∃ p kvs, xs = [.ref p] ∧ Rd H p (.dK kvs) ∧ ∀ q, H q = none → Q (.ref q) (upd H q (.tup (kvs.map fun kv => kV kv.1)))) := by
  rintro pins s σ H xs us Q I r ⟨p, kvs, rfl, hk, q⟩
  obtain ⟨u, rfl, rx⟩ := vals1 r
  cases (show u = Value.ref p from rx)
  obtain ⟨z, lo, vs, rk, hd⟩ := hk.ok I.hok
  obtain ⟨ep, hat⟩ := hd.dictAt
  have hl : kvs.length = vs.length := Paired.length rk
  have src := PySem.W.kdl_dict (prog := X.prog) (w := X.w) (knd := mixKind X.prog X.w) (kvs := vs) (ep := ep) lo
  have hz : vs.length ≤ sizeLine := by rw [← hl]; exact z
  refine call_tuple_src src (I.ok.hd hc) hat hz (src.type _ hat) (fun A Q1 hh h => code_tuple_dict src hh hat hz h) fun h' tk acc hkeep hacc => ?_
  have I2 : Inv X pins σ H { s with heap := h', toks := tk } := I.kept (t' := tk) hkeep
  refine ⟨.ref h'.objs.size, upd H h'.objs.size (.tup (kvs.map fun kv => kV kv.1)), I2.laid (t' := tk) (fun c o e => Heap.get?_push_of_some _ e) (Nat.le_refl _) (show ObjOk X.prog X.w _ _ _ (.tup (kvs.map fun kv => kV kv.1)) from ⟨by rw [List.length_map]; exact z, acc.toList, ?_, ?_⟩), rfl, q _ (I2.hok.fresh (Nat.le_refl _))⟩
  · have el : acc.toList.length = acc.size := by simp
    refine vals_of_at (by rw [List.length_map, el, hacc.1, hl]) fun j x v h1 h2 => ?_
    obtain ⟨k, y, hky, hi⟩ := hacc.2 j v (by rw [← Array.getElem?_toList]; exact h2)
    have e1 : (kvs.map (·.1))[j]? = some k := by
      rw [KV.keys rk, List.getElem?_map, hky]; rfl
    have e2 : (kvs.map fun kv => kV kv.1) = (kvs.map (·.1)).map kV := by simp
    rw [e2, List.getElem?_map, e1] at h1
    cases h1
    exact keyIs_rel hi
  · rw [Array.toArray_toList]
    exact IsTup.new _ _
def tupleDG : VC := fun ds Q => match ds with
  | [.lst xs] => Q (.v (.tup xs))
  | [.tup xs] => Q (.v (.tup xs))
  | [.dk kvs] => Q (.v (.tup (kvs.map fun p => key p.1)))
  | _ => False
theorem keys_rp {Γ : Gm} {H : Hp} : ∀ {kv : List (Key × V)} {ds : List (Key × D)}, RpK Γ.K Γ.tp H kv ds → ∀ {H' : Hp}, Γ.RpL H' (kv.map fun p => kV p.1) (ds.map fun p => key p.1)
  | _, [], h, _ => by cases h; exact .nil
  | _, (k, d) :: ds, h, _ => by
    cases h with
    | cons h1 h2 => exact .cons (key_rp k) (keys_rp h2)
theorem c_tupleD (hK : S.K = X.K) (hc : X.calm = true) : CallV S X (.type "tuple") tupleDG := by
  refine ⟨_, call_tuple_of.or (call_tuple_dK hc), ?_⟩
  intro Γ H xs ds Q Q0 eK hx hg k
  have eK' : X.K = Γ.K := (eK.trans hK).symm
  unfold tupleDG at hg
  split at hg
  · match hx with
    | .cons h .nil =>
      obtain ⟨p, ys, rfl, h1, h2⟩ := h.seq
      refine .inl ⟨p, ys, rfl, .inl ⟨by rw [eK']; exact h1, fun l nl => ?_⟩⟩
      have sm := same_upd (o := .tup ys) nl
      exact k _ hg _ _ sm (.tup (.of upd_same) (RpL.kq (.same sm) _ _ h2))
  · match hx with
    | .cons h .nil =>
      obtain ⟨p, ys, rfl, h1, h2⟩ := h.tup
      exact .inl ⟨p, ys, rfl, .inr ⟨by rw [eK']; exact h1, k _ hg _ _ (Same.refl _) (.tup h1 h2)⟩⟩
  · match hx with
    | .cons h .nil =>
      obtain ⟨p, kv, rfl, h1, h2⟩ := h.dk
      refine .inr ⟨p, kv, rfl, h1, fun l nl => ?_⟩
      have sm := same_upd (o := .tup (kv.map fun p => kV p.1)) nl
      exact k _ hg _ _ sm (.tup (.of upd_same) (keys_rp h2))
  · exact hg.elim
end
end Va

set_option Elab.async false
set_option linter.all false
set_option maxRecDepth 100000
set_option maxHeartbeats 4000000
namespace Va
open PySem PySem.Spec PyProof.Rows L2 Ind GenW
section
variable {X : Cx} {S : Sg} {e a b o i value : Expr} {es : List Expr} {pos pos' p : Pos}
/-! ### dicts of one's own -/
def vDn : FT := fun E Q => Q (.fd []) E
theorem fe_dnew : FE S X (.Dict [] [] pos) vDn := by
  refine pe_weak pe_dnewK ?_
  rintro σ H Q ⟨Γ, E, Q0, ok, rp, ht, k⟩
  intro d nd
  have sm := same_upd (o := .dK []) nd
  exact k _ _ ht _ _ (.same sm) (rp.same sm) (RpN.rep (x := .fd []) rp sm ⟨d, [], rfl, nd, upd_same, .nil⟩)
def putD (kvs : List (Key × D)) (k : Key) (v : D) : List (Key × D) := if (kvs.any fun kv => decide (kv.1 = k)) = true then kvs.map fun kv => if kv.1 = k then (kv.1, v) else kv else kvs ++ [(k, v)]
theorem RpK.put {K : PySem.W.Frag} {tp : Option Tp} {H : Hp} {k : Key} {v : V} {d : D} (r : Rp K tp H v d) {kv : List (Key × V)} {ds : List (Key × D)} (h : RpK K tp H kv ds) : RpK K tp H (putK kv k v) (putD ds k d) := by
  have any : (kv.any fun x => decide (x.1 = k)) = ds.any fun x => decide (x.1 = k) := by
    have e1 : (kv.any fun x => decide (x.1 = k)) = (kv.map (·.1)).any fun x => decide (x = k) := by rw [List.any_map]; rfl
    have e2 : (ds.any fun x => decide (x.1 = k)) = (ds.map (·.1)).any fun x => decide (x = k) := by rw [List.any_map]; rfl
    rw [e1, e2, h.keys]
  have mp : ∀ {kv : List (Key × V)} {ds : List (Key × D)}, RpK K tp H kv ds → RpK K tp H (kv.map fun x => if x.1 = k then (x.1, v) else x) (ds.map fun x => if x.1 = k then (x.1, d) else x) := by
    intro kv ds h
    induction ds generalizing kv with
    | nil => cases h; exact .nil
    | cons q ds ih =>
      obtain ⟨j, e⟩ := q
      cases h with
      | cons h1 h2 =>
        rw [List.map_cons, List.map_cons]
        by_cases hj : j = k
        · rw [if_pos (show (j, _).1 = k from hj), if_pos (show (j, e).1 = k from hj)]
          exact .cons r (ih h2)
        · rw [if_neg (show ¬ (j, _).1 = k from hj), if_neg (show ¬ (j, e).1 = k from hj)]
          exact .cons h1 (ih h2)
  unfold putK putD
  rw [any]
  split
  · exact mp h
  · exact h.app (.cons r .nil)
/-- name[k] = v, the dict one's own -/
def sPut (i : Nat) (tk tv : VT) : VS := fun V E => tv E fun v E1 => onD E1.l[i]? fun _ _ => tk E1 fun kd E2 => onD E2.l[i]? fun b kvs => ∃ k, keyOf kd = some k ∧ kvs.length < 1000000 ∧ V.nx (E2.set i (.od b (putD kvs k v)))
theorem vs_dput {j : Nat} {tk tv : VT} (hu : X.A.units + 1 < cLine) (ho : PE X o (tVar j)) (hi : VE S X i tk) (hv : VE S X value tv) (hs : swapsWith value (some (.Subscript o i pos')) pos.line X.env = pure false := by rfl) :
    VSt S X (.Assign [.Subscript o i pos'] value pos) (sPut j tk tv) := by
  refine ps_weak (ps_dput hu ho hi hv hs) ?_
  rintro D0 σ H ⟨Γ, E, V, ok, rp, ht, k⟩
  refine ⟨Γ, E, _, ok, rp, ht, fun d E1 hq v H1 kq1 rp1 hv1 => ?_⟩
  obtain ⟨b1, ds1, e1, hq⟩ := onD_inv hq
  obtain ⟨p1, kv1, hs1, hd1, _, _⟩ := own_dict rp1 e1
  refine ⟨_, hs1, ?_⟩
  refine ⟨Γ, E1, _, ok, rp1, hq, fun kd E2 hq2 y H2 kq2 rp2 hy => ?_⟩
  obtain ⟨b2, ds2, e2, kk, ek, hsz, hq3⟩ := onD_inv hq2
  obtain ⟨p2, kv2, hs2, hd2, hr2, fr2⟩ := own_dict rp2 e2
  rw [hs1] at hs2
  cases hs2
  have ey := keyOf_rp (.v hy) ek
  subst ey
  obtain ⟨kq3, rp3⟩ := rp2.wrD e2 hs1 hd2 fr2 (RpK.put (k := kk) (Rp.kq kq2 _ _ hv1) hr2)
  exact ⟨p1, _, rfl, DPut.k hd2 (millionL (by rw [hr2.len]; exact hsz)), k.nx _ hq3 σ _ ((kq1.trans kq2).trans kq3) rp3⟩
/-! ### a def that fills a dict of the caller's -/
abbrev VMd := D → List (Key × D) → (List (Key × D) → Prop) → Prop
def spD (S : Sg) (m : VMd) : Sp := fun vs H Q _ => ∃ (tp : Option Tp) (c : Nat) (v : V) (a : Addr) (d : D) (kv : List (Key × V)) (ds : List (Key × D)) (Q0 : List (Key × D) → Prop), vs = [v, .ref a] ∧ Rp S.K tp H v d ∧ H a = some (.dK kv) ∧ RpK S.K tp H kv ds ∧
  ¬ (Gm.mk S.K S.b tp S.tabs [a] H).sp a ∧ (∀ t, tp = some t → TapeV S.b H t) ∧ Few tp c H ∧ (∀ P ∈ S.tabs, GxR.TabG H P) ∧ m d ds Q0 ∧
  ∀ ds', Q0 ds' → ∀ H', (∀ b o, ¬ (Gm.mk S.K S.b tp S.tabs [a] H).sp b → b ≠ a → H b = some o → H' b = some o) → (∀ t, tp = some t → TapeV S.b H' t) → Few tp c H' → (∀ P ∈ S.tabs, GxR.TabG H' P) → (∃ kv', H' a = some (.dK kv') ∧ RpK S.K tp H' kv' ds') → Q .non H'
def sCallD (m : VMd) (t : VT) (i : Nat) : VS := fun V E => t E fun d E1 => onD E1.l[i]? fun b kvs => m d kvs fun kvs' => V.nx (E1.set i (.od b kvs'))
variable {k : Nat} {f : Addr} {fd : FuncData} {ps : List PySem.Str} {m : VMd} {x : PySem.Str}
theorem vs_callD {t : VT} {j : Nat} {cpos : Pos} (F : FnOk X.prog X.w X.K X.mg X.base CX0 k f fd ps (spD S m)) (hr : Room k X.A) (hg : Gl X x) (hm : X.mg x = some (.ref f)) (hk : PySem.W.keepIn X.K (.ref f) = true) (hb : Binds X.K fd ps [])
    (ha : VE S X e t) (ho : PE X o (tVar j)) (hsw : swapsWith (.Call (.Name x p) [e, o] [] cpos) none pos.line X.env = pure false := by rfl) (hdb : (x == ("__debug__" : PySem.Str)) = false := by decide)
    (he : starEach [e, o] X.env = (false, eval e X.env) :: starEach [o] X.env := by rfl) (he2 : starEach [o] X.env = (false, eval o X.env) :: starEach [] X.env := by rfl) (hpl : (backTo cpos (starEach [o] X.env)).any (·.1) = false := by rfl) :
    VSt S X (.Expr (.Call (.Name x p) [e, o] [] cpos) pos) (sCallD m t j) := by
  refine ps_weak (ps_expr (pe_call (E := E0) F hr hg hm hk hb .nil pass0 (pa_cons ha (pa_cons ho pa_nil he2) he) hdb he hpl) hsw) ?_
  rintro D0 σ H ⟨Γ, E, V, ok, rp, ht, kk⟩
  refine ⟨Γ, E, _, ok, rp, ht, fun d E1 hq v H1 kq1 rp1 hv => ?_⟩
  obtain ⟨bb, ds, e1, hq⟩ := onD_inv hq
  obtain ⟨a, kv, hs, hd, hrr, fr, fio⟩ := own_dict rp1 e1
  refine ⟨_, hs, ?_⟩
  obtain ⟨eK, eB, eT⟩ := ok
  have spe : ∀ b (io : List Addr) (H : Hp), (Gm.mk S.K S.b Γ.tp S.tabs io H).sp b ↔ Γ.sp b := fun b io H => by
    show ((∃ t, Γ.tp = some t ∧ (b = t.a ∨ b = t.l)) ∨ b ∈ S.tabs) ↔ ((∃ t, Γ.tp = some t ∧ (b = t.a ∨ b = t.l)) ∨ b ∈ Γ.tabs)
    rw [eT]
  refine ⟨Γ.tp, E1.c, v, a, d, kv, ds, _, rfl, by rw [← eK]; exact hv, hd, by rw [← eK]; exact hrr, fun z => fr.nsp ((spe _ _ _).mp z), by rw [← eB]; exact rp1.base.tape, rp1.few, by rw [← eT]; exact rp1.base.tabs, hq, ?_⟩
  rintro ds' hq' H' ext tape few tabs ⟨kv', hd', hr'⟩
  have ne : ∀ b o, H1 b = some o → (∀ q, o ≠ .dK q) → b ≠ a := fun b o h n e => by
    rw [e, hd] at h
    cases h
    exact n _ rfl
  have kq : Kq H1 H' := by
    refine ⟨fun c u h => ext c _ (fun z => ?_) (ne _ _ h (fun _ z => nomatch z)) h, fun c q u h => ext c _ (fun z => ?_) (ne _ _ h (fun _ z => nomatch z)) h⟩ <;>
    · rcases rp1.base.sp_lst ((spe _ _ _).mp z) with ⟨_, e⟩ | ⟨_, e⟩ <;> (rw [e] at h; cases h)
  have nsp : ∀ b, ¬ Γ.sp b → ¬ (Gm.mk S.K S.b Γ.tp S.tabs [a] H1).sp b := fun b n z => n ((spe _ _ _).mp z)
  have rp2 : Rep Γ (E1.set j (.od bb ds')) σ H' := by
    refine ⟨⟨fun c o n1 n2 h => ?_, rp1.base.kq.trans kq, by rw [eB]; exact tape, by rw [eT]; exact tabs⟩, by simp [En.set, rp1.len], few, fun i s es => ?_, fun i1 i2 s t c g1 g2 o1 o2 h1 h2 => ?_⟩
    · refine ext c o (nsp c n1) ?_ (rp1.base.ext c o n1 n2 h)
      rintro rfl
      rcases fr.young with z | z
      · rw [z] at h; cases h
      · exact n2 z
    · rcases get_set es with ⟨rfl, rfl, _⟩ | ⟨nei, es⟩
      · exact ⟨_, hs, a, kv', rfl, hd', by rw [eK]; exact hr', fr, fio⟩
      · obtain ⟨o3, h3, h4⟩ := rp1.sl i s es
        refine ⟨o3, h3, h4.stay kq fun c w ow eo hc => ?_⟩
        obtain ⟨c2, _, ec2, _, _, frc⟩ := h4.own_at ow
        rw [ec2] at eo
        cases eo
        refine ext c w (nsp c frc.nsp) ?_ hc
        rintro rfl
        rw [ec2] at h3
        exact nei (rp1.dis j i _ s _ e1 es rfl ow hs h3)
    · have own : ∀ (i : Nat) (s3 : SV), (E1.set j (.od bb ds')).l[i]? = some s3 → s3.own = true → ∃ s4, E1.l[i]? = some s4 ∧ s4.own = true := fun i s3 e3 o3 => by
        rcases get_set e3 with ⟨rfl, rfl, _⟩ | ⟨_, e3⟩
        · exact ⟨_, e1, rfl⟩
        · exact ⟨s3, e3, o3⟩
      obtain ⟨s5, e5, o5⟩ := own i1 s g1 o1
      obtain ⟨s6, e6, o6⟩ := own i2 t g2 o2
      exact rp1.dis i1 i2 s5 s6 c e5 e6 o5 o6 h1 h2
  exact kk.nx _ hq' σ H' (kq1.trans kq) rp2
end
/-- the ends of such a def -/
def endD (c : Nat) (Q : List (Key × D) → Prop) : Ve := { nx := fun E => E.c = c ∧ onD E.l[1]? fun b kvs => b = true ∧ Q kvs, rt := fun d E => d = .non ∧ E.c = c ∧ onD E.l[1]? fun b kvs => b = true ∧ Q kvs }
section
variable {P : Program} {w : World} {K : PySem.W.Frag} {mg : PySem.Str → Option Value} {base : Heap} {S : Sg} {x qual : PySem.Str} {st : Stmt} {f : Addr} {fd : FuncData} {N ps : List PySem.Str} {k : Nat} {m : VMd} {T : VS}
theorem def_d (F : Fun K x qual st f fd) (sc : FnScope N ps (defScope st)) (hK : S.K = K) (hp : ps.length = 2) (hNl : 2 ≤ N.length)
    (hb : ∀ (cdv : Value) (A : Around) (outer : List Env) (s : Shared) (H : Hp) (E : XK), Room k (A.deeper (envOfC qual (defScope st) s.heap.objs.size f cdv)) → VSs S (cxOf CX0 P w K mg base N qual (defScope st) f cdv A outer s H E).nox (defBody st) T)
    (h : ∀ d kvs c Q, m d kvs Q → T (endD c Q) ⟨.v d :: .od true kvs :: List.replicate (N.length - 2) .no, c⟩) : FnOk P w K mg base CX0 (k + 1) f fd ps (spD S m) := by
  refine F.ok sc (fun vs H Q E sp => ?_) (fun cdv A outer s H vs Q E hr sp => ?_)
  · obtain ⟨tp, c, v, a, d, kv, ds, Q0, rfl, _⟩ := sp
    rw [hp]; rfl
  · obtain ⟨tp, c, v, a, d, kv, ds, Q0, rfl, hv, hd, hrr, nsp, ht, hf, htb, hm, kk⟩ := sp
    refine ⟨_, hb cdv A outer s H E hr, ⟨S.K, S.b, tp, S.tabs, [a], H⟩, _, _, ⟨rfl, rfl, rfl⟩, ?_, h d ds c Q0 hm, ?_⟩
    · refine ⟨⟨fun _ _ _ _ z => z, Kq.refl _, ht, htb⟩, by simp [L2.start], hf, fun i s e => ?_, fun i j s t c e1 e2 o1 o2 h1 h2 => ?_⟩
      · match i with
        | 0 => cases e; exact ⟨some v, rfl, v, rfl, hv⟩
        | 1 => cases e; exact ⟨some (.ref a), rfl, a, kv, rfl, hd, hrr, ⟨.inr (by simp), nsp⟩, fun _ => by simp⟩
        | i + 2 =>
          have e : (List.replicate (N.length - 2) SV.no)[i]? = some s := e
          rw [List.getElem?_replicate] at e
          split at e
          · rename_i hl
            cases e
            refine ⟨none, ?_, trivial⟩
            show (List.replicate (N.length - 2) none)[i]? = some none
            rw [List.getElem?_replicate, if_pos hl]
          · cases e
      · have one : ∀ (i : Nat) (s : SV), (SV.v d :: SV.od true ds :: List.replicate (N.length - 2) .no)[i]? = some s → s.own = true → i = 1 := fun i s e o => by
          match i with
          | 0 => cases e; cases o
          | 1 => rfl
          | i + 2 =>
            have e : (List.replicate (N.length - 2) SV.no)[i]? = some s := e
            rw [List.getElem?_replicate] at e
            split at e
            · cases e; cases o
            · cases e
        rw [one i s e1 o1, one j t e2 o2]
    · have fin : ∀ E1, (E1.c = c ∧ onD E1.l[1]? fun b kvs => b = true ∧ Q0 kvs) → ∀ σ1 H1, Rep ⟨S.K, S.b, tp, S.tabs, [a], H⟩ E1 σ1 H1 → Q .non H1 := fun E1 h1 σ1 H1 r1 => by
        obtain ⟨ec, h1⟩ := h1
        obtain ⟨b, ds', e1, rfl, hq⟩ := onD_inv h1
        obtain ⟨a', kv', hs', hd', hr', fr', io⟩ := own_dict r1 e1
        have ea : a' = a := by simpa using io rfl
        subst ea
        exact kk ds' hq H1 (fun b o n1 n2 hb => r1.base.ext b o n1 (by simpa using n2) hb) r1.base.tape (by rw [← ec]; exact r1.few) r1.base.tabs ⟨kv', hd', hr'⟩
      refine ⟨fun E1 h1 σ1 H1 _ r1 => fin E1 h1 σ1 H1 r1, fun d1 E1 h1 v1 σ1 H1 _ r1 rv => ?_, fun _ z => z.elim, fun _ z => z.elim⟩
      obtain ⟨rfl, h1⟩ := h1
      cases rv
      exact fin E1 h1 σ1 H1 r1
end
end Va

set_option Elab.async false
set_option linter.all false
set_option maxRecDepth 100000
set_option maxHeartbeats 4000000
namespace Va
open PySem PySem.Spec PyProof.Rows L2 Ind
/-! ### the tape and its draws -/
def spTapeV (K : PySem.W.Frag) (b : Bool) : Sp := fun vs H Q _ => ∃ (a : Addr) (ns : List Int), vs = [.ref a] ∧ SqL K H a (ns.map V.int) ∧ ns.length ≤ 63 ∧
  ∀ H' (t : Tp) (ns' : List Int), Same H H' → H t.a = none → H t.l = none → TapeV b H' t → H' t.l = some (.lst (ns'.map V.int)) → ns'.length ≤ 63 → Q (.ref t.a) H'
def Fz2 (t : Tp) (H H' : Hp) : Prop := ∀ b o, b ≠ t.a → b ≠ t.l → H b = some o → H' b = some o
def nb (b : Bool) : Nat := if b then 1 else 0
def spDrawV (b : Bool) : Sp := fun vs H Q _ => ∃ (t : Tp) (m : Int) (ns : List Int), vs = [.ref t.a, .int m] ∧ TapeV b H t ∧ H t.l = some (.lst (ns.map V.int)) ∧ (b = true → ns.length < 1000000) ∧ Dm m ∧
  ∀ H' (r : Int) (ns' : List Int), Fz2 t H H' → TapeV b H' t → H' t.l = some (.lst (ns'.map V.int)) → ns'.length ≤ ns.length + nb b → 0 ≤ r → (r < m ∨ r < 1) → Q (.int r) H'
def drawM (b : Bool) : VM := fun ds c Q => ∃ m : Int, ds = [.tape, .int m] ∧ nb b ≤ c ∧ Dm m ∧ ∀ r : Nat, ((r : Int) < m ∨ r = 0) → Q (.int r) (c - nb b)
section
variable {P : Program} {w : World} {K : PySem.W.Frag} {mg : PySem.Str → Option Value} {base : Heap} {S : Sg} {f : Addr} {fd : FuncData} {ps : List PySem.Str} {k : Nat}
theorem draw_v {CX : CXT} (F : FnOk P w K mg base CX k f fd ps (spDrawV S.b)) : FnOk P w K mg base CX k f fd ps (spV S (drawM S.b)) := by
  refine F.imp fun vs H Q E h => ?_
  obtain ⟨tp, ds, c, Q0, hv, ht, hf, hp, ⟨m, rfl, hc, hm, hq⟩, kk⟩ := h
  match vs, hv with
  | [_, _], .cons h1 (.cons h2 .nil) =>
    cases h2
    obtain ⟨t, rfl, rfl⟩ := h1.tape_inv
    have tv := ht t rfl
    obtain ⟨ns, p, n, z, a1, a2, a3⟩ := id tv
    have few := hf t _ rfl a2
    rw [List.length_map] at few
    refine ⟨t, m, ns, rfl, tv, a2, fun e => ?_, hm, fun H' r ns' fz tv' l' len r0 r1 => ?_⟩
    · rw [e] at hc
      have : 1 ≤ c := hc
      omega
    · obtain ⟨r, rfl⟩ := Int.eq_ofNat_of_zero_le r0
      refine kk _ _ (hq r (by omega)) _ _ ⟨fun b o nsp hb => fz b o (fun e => nsp (.inl ⟨t, rfl, .inl e⟩)) (fun e => nsp (.inl ⟨t, rfl, .inr e⟩)) hb, fun t' e => by cases e; exact tv', fun t' xs e hx => ?_, fun P hP => ?_⟩ (.int _)
      · cases e
        rw [l'] at hx
        cases hx
        rw [List.length_map]
        omega
      · obtain ⟨q, b1, b2⟩ := hp P hP
        exact ⟨q, fz _ _ (ne_of b1 a1 (fun z => nomatch z)) (ne_of b1 a2 (fun z => nomatch z)) b1, b2⟩
/-! ### the law itself -/
def spLawT (K : PySem.W.Frag) (tabs : List Addr) : Sp := fun vs H Q _ => ∃ (a : Addr) (ns : List Int), vs = [.ref a] ∧ SqL K H a (ns.map V.int) ∧ ns.length ≤ 63 ∧ (∀ P ∈ tabs, GxR.TabG H P) ∧ ∀ H', Q (.bl true) H'
def endL : Ve := { nx := fun _ => False, rt := fun d _ => d = .bl true }
/-- the law's slots behind its first row -/
def lawE (N : List PySem.Str) : En := ⟨.no :: .v .tape :: List.replicate (N.length - 2) .no, 999000⟩
theorem law_rest {X : Cx} {rest : List Stmt} {T : VS} {N : List PySem.Str} {vs : List V} {H : Hp} {Q : VK} {E : XK} {first : Stmt} {i0 : Nat} (hK : S.K = X.K) (hN2 : 2 ≤ N.length)
    (h1 : PS X first (tAsg (tCall (spTapeV X.K S.b) [] E0 (tCons (tVar 0) tNil)) (gName 1))) (h2 : VSs S X rest T) (h : T endL (lawE N)) (sp : spLawT S.K S.tabs vs H Q E) :
    ∃ t, PSs X (first :: rest) t ∧ t { nx := fun _ H' => Q .non H', rt := Q } (L2.start N vs) H := by
  obtain ⟨a, ns, rfl, hS, hl, htb, hq⟩ := sp
  refine ⟨_, pss_cons h1 h2, ?_⟩
  have e0 : (L2.start N [V.ref a])[0]? = some (some (.ref a)) := rfl
  refine ⟨_, e0, a, ns, rfl, by rw [← hK]; exact hS, hl, fun H' t ns' sm n1 n2 tv l' len => ?_⟩
  refine ⟨⟨S.K, S.b, some t, S.tabs, [], H'⟩, lawE N, endL, ⟨rfl, rfl, rfl⟩, ?_, h, fun E1 z => z.elim, fun d E1 e v σ1 H1 q1 r1 rv => ?_, fun _ z => z.elim, fun _ z => z.elim⟩
  · refine ⟨⟨fun _ _ _ _ z => z, Kq.refl _, fun t' e => by cases e; exact tv, fun P hP => ?_⟩, ?_, fun t' xs e hx => ?_, fun i s e => ?_, fun i j s t' c e1 e2 o1 _ _ _ => ?_⟩
    · obtain ⟨q, b1, b2⟩ := htb P hP
      exact ⟨q, sm _ _ b1, b2⟩
    · simp [lawE, L2.start]
      omega
    · cases e
      rw [l'] at hx
      cases hx
      rw [List.length_map]
      show ns'.length + 999000 ≤ 1000000
      omega
    · match i with
      | 0 => cases e; exact ⟨some (.ref a), rfl, trivial⟩
      | 1 =>
        cases e
        refine ⟨some (.ref t.a), ?_, .ref t.a, rfl, .tape rfl⟩
        show ((L2.start N [V.ref a]).set 1 _)[1]? = _
        rw [List.getElem?_set_self]
        simp [L2.start]
        omega
      | i + 2 =>
        have e : (List.replicate (N.length - 2) SV.no)[i]? = some s := e
        rw [List.getElem?_replicate] at e
        split at e
        · rename_i hl2
          cases e
          refine ⟨none, ?_, trivial⟩
          show ((L2.start N [V.ref a]).set 1 _)[i + 2]? = _
          rw [List.getElem?_set_ne (by omega)]
          show (List.replicate (N.length - 1) none)[i + 1]? = some none
          rw [List.getElem?_replicate, if_pos (by omega)]
        · cases e
    · have nown : ∀ (i : Nat) (s : SV), (lawE N).l[i]? = some s → s.own = false := fun i s e => by
        match i with
        | 0 => cases e; rfl
        | 1 => cases e; rfl
        | i + 2 =>
          have e : (List.replicate (N.length - 2) SV.no)[i]? = some s := e
          rw [List.getElem?_replicate] at e
          split at e
          · cases e; rfl
          · cases e
      rw [nown i s e1] at o1
      cases o1
  · have e : d = .bl true := e
    subst e
    cases rv
    exact hq _
end
end Va

set_option Elab.async false
set_option linter.all false
set_option maxRecDepth 100000
set_option maxHeartbeats 4000000
namespace Va
open PySem PySem.Spec PyProof.Rows L2 Ind
section
variable {X : Cx} {S : Sg} {e a b o : Expr} {pos p : Pos}
theorem vss_never {sts : List Stmt} : VSs S X sts sNever := by
  refine pss_weak pss_never ?_
  rintro D σ H ⟨Γ, E, V, ok, r, h, k⟩
  exact h
def vNeg (t : VT) : VT := fun E Q => t E fun d E1 => match d with
  | .int i => Q (.int (-i)) E1
  | _ => False
theorem ve_neg {t : VT} (h : VE S X a t) : VE S X (.UnaryOp .USub a pos) (vNeg t) := by
  refine pe_weak (pe_un un_neg h) ?_
  rintro σ H Q ⟨Γ, E, Q0, ok, rp, ht, k⟩
  refine ⟨Γ, E, _, ok, rp, ht, fun d E1 hq v H1 kq1 rp1 hv => ?_⟩
  cases d with
  | int i => cases hv; exact ⟨i, rfl, k _ _ hq _ _ kq1 rp1 (.int _)⟩
  | _ => exact hq.elim
/-- s.split() -/
def vWords (t : VT) : FT := fun E Q => t E fun d E1 => match d with
  | .str x => x.length ≤ 900000 ∧ Q (.fl ((Txt.words x).map .str)) E1
  | _ => False
theorem strs_rp {Γ : Gm} {H : Hp} : ∀ xs : List Tx, Γ.RpL H (xs.map V.str) (xs.map D.str)
  | [] => .nil
  | x :: xs => .cons (.str x) (strs_rp xs)
theorem fe_words {t : VT} {apos : Pos} (h : VE S X o t) (hbase : attributeBase o "split" X.env (eval o X.env) = eval o X.env := by rfl) (hline : (apos.endLine == pos.line) = true := by rfl) : FE S X (.Call (.Attribute o "split" apos) [] [] pos) (vWords t) := by
  refine pe_weak (pe_words h hbase hline) ?_
  rintro σ H Q ⟨Γ, E, Q0, ok, rp, ht, k⟩
  refine ⟨Γ, E, _, ok, rp, ht, fun d E1 hq v H1 kq1 rp1 hv => ?_⟩
  cases d with
  | str x =>
    cases hv
    refine ⟨⟨x, rfl⟩, x, rfl, rfl, million (by omega), fun q nq => ?_⟩
    have sm := same_upd (o := .lst ((Txt.words x).map V.str)) nq
    exact k _ _ hq.2 _ _ (kq1.trans (.same sm)) (rp1.same sm) (RpN.rep (x := .fl _) rp1 sm ⟨q, _, rfl, nq, upd_same, strs_rp _⟩)
  | _ => exact hq.elim
theorem hu65 {A : Around} {k : Nat} (r : Room k A) : A.units + 65 < cLine := by have := r.un; omega
/-! ### answers -/
theorem pick_at {α : Type} {l : List α} {i : Nat} (h : i < l.length) : ∃ x, atI l (i : Int) = some x ∧ l[i]? = some x := ⟨l[i], atI_nat (List.getElem?_eq_getElem h), List.getElem?_eq_getElem h⟩
end
end Va

set_option Elab.async false
set_option linter.all false
set_option maxRecDepth 100000
set_option maxHeartbeats 4000000
namespace Va
open PySem PySem.Spec PyProof.Rows L2 Ind
theorem flat_strsD : ∀ xs : List Tx, (xs.map D.str).all D.flat = true
  | [] => rfl
  | _ :: xs => by show (true && (xs.map D.str).all D.flat) = true; rw [flat_strsD xs]; rfl
theorem in_strsD (x : Tx) : ∀ xs : List Tx, ((xs.map D.str).any fun y => D.eqf y (.str x)) = decide (x ∈ xs)
  | [] => rfl
  | y :: xs => by
    show (D.eqf (.str y) (.str x) || (xs.map D.str).any fun y => D.eqf y (.str x)) = _
    rw [in_strsD x xs]
    show ((y == x) || decide (x ∈ xs)) = _
    by_cases h : y = x
    · subst h
      simp
    · have h1 : (y == x) = false := beq_eq_false_iff_ne.mpr h
      rw [h1, Bool.false_or]
      exact decide_eq_decide.mpr ⟨fun m => List.mem_cons_of_mem _ m, fun m => (List.mem_cons.mp m).elim (fun e => absurd e.symm h) id⟩
/-- a choice, one way after the other -/
theorem both {p : Bool} {A B : Prop} (h1 : p = true → A) (h2 : p = false → B) : (p = true → A) ∧ (p = false → B) := ⟨h1, h2⟩
theorem dT {p : Prop} [Decidable p] (h : decide p = true) : p := of_decide_eq_true h
theorem dF {p : Prop} [Decidable p] (h : decide p = false) : ¬ p := of_decide_eq_false h
theorem nT {b : Bool} (h : (!b) = true) : b = false := by cases b <;> simp_all
theorem nF {b : Bool} (h : (!b) = false) : b = true := by cases b <;> simp_all
/-- names, each once, in order -/
def once : List Tx → List Tx → List Tx
  | acc, [] => acc
  | acc, x :: r => if x ∈ acc then once acc r else once (acc ++ [x]) r
theorem once_app : ∀ (l acc : List Tx) (x : Tx), once acc (l ++ [x]) = if x ∈ once acc l then once acc l else once acc l ++ [x]
  | [], acc, x => by
    show once acc [x] = _
    unfold once
    rfl
  | y :: r, acc, x => by
    rw [List.cons_append]
    show (if y ∈ acc then once acc (r ++ [x]) else once (acc ++ [y]) (r ++ [x])) = _
    show _ = if x ∈ (if y ∈ acc then once acc r else once (acc ++ [y]) r) then (if y ∈ acc then once acc r else once (acc ++ [y]) r) else (if y ∈ acc then once acc r else once (acc ++ [y]) r) ++ [x]
    split
    · exact once_app r acc x
    · exact once_app r (acc ++ [y]) x
theorem once_more {ns : List Tx} {i : Nat} {x : Tx} (e : ns[i]? = some x) : once [] (ns.take (i + 1)) = if x ∈ once [] (ns.take i) then once [] (ns.take i) else once [] (ns.take i) ++ [x] := by
  rw [take_more e, once_app]
end Va
namespace Va
open PySem PySem.Spec PyProof.Rows L2 Ind
theorem pickD {l : List D} {i : Nat} (h : i < l.length) : ∃ x, atI l (i : Int) = some x ∧ x ∈ l := ⟨l[i], atI_nat (List.getElem?_eq_getElem h), List.getElem_mem h⟩
theorem pickI {α : Type} {l : List α} {i : Int} (h0 : 0 ≤ i) (h : i < (l.length : Int)) : ∃ x, atI l i = some x ∧ x ∈ l := by
  obtain ⟨n, rfl⟩ := Int.eq_ofNat_of_zero_le h0
  exact ⟨l[n]'(by omega), atI_nat (List.getElem?_eq_getElem (by omega)), List.getElem_mem _⟩
/-- a sign of a text -/
theorem sign_at {x : Tx} {i : Int} (h0 : 0 ≤ i) (h : i < (x.length : Int)) : ∃ c, atI x.cps.toList i = some c := by
  obtain ⟨c, e, _⟩ := pickI (l := x.cps.toList) h0 (by rw [← codes_len]; exact h)
  exact ⟨c, e⟩
theorem cutS_le (z : Tx) (lo hi : Option Int) : (cutS z lo hi).length ≤ z.length := by
  rw [codes_len, codes_len]
  unfold cutS
  show (List.take _ _).toArray.toList.length ≤ _
  rw [List.length_take, List.length_drop]
  omega
theorem one_len (c : Nat) : (⟨#[c]⟩ : Tx).length = 1 := rfl
theorem str_mem {P : Tx → Prop} {x : D} {l : List D} (m : x ∈ l) (h : ∀ y ∈ l, ∃ s, y = .str s ∧ P s) : ∃ s, x = .str s ∧ P s := h x m
theorem int_mem {P : Int → Prop} {x : D} {l : List D} (m : x ∈ l) (h : ∀ y ∈ l, ∃ s, y = .int s ∧ P s) : ∃ s, x = .int s ∧ P s := h x m
end Va
namespace Va
open PySem PySem.Spec PyProof.Rows L2 Ind
section
variable {p A B : Prop} [Decidable p]
theorem skipT (h : ¬ p) (b : B) : (decide p = true → A) ∧ (decide p = false → B) := ⟨fun e => absurd (of_decide_eq_true e) h, fun _ => b⟩
theorem skipF (h : p) (a : A) : (decide p = true → A) ∧ (decide p = false → B) := ⟨fun _ => a, fun e => absurd h (of_decide_eq_false e)⟩
theorem bothD (h1 : p → A) (h2 : ¬ p → B) : (decide p = true → A) ∧ (decide p = false → B) := ⟨fun e => h1 (of_decide_eq_true e), fun e => h2 (of_decide_eq_false e)⟩
theorem bothN (h1 : ¬ p → A) (h2 : p → B) : ((!decide p) = true → A) ∧ ((!decide p) = false → B) := ⟨fun e => h1 (of_decide_eq_false (nT e)), fun e => h2 (of_decide_eq_true (nF e))⟩
theorem wayT {A B : Prop} (a : A) : (true = true → A) ∧ (true = false → B) := ⟨fun _ => a, fun z => (by cases z)⟩
theorem wayF {A B : Prop} (b : B) : (false = true → A) ∧ (false = false → B) := ⟨fun z => (by cases z), fun _ => b⟩
end
end Va

set_option Elab.async false
set_option linter.all false
set_option maxRecDepth 100000
set_option maxHeartbeats 4000000
namespace Va
open PySem PySem.Spec PyProof.Rows L2 Ind
/-! ### facts -/
inductive Fc where
  | com (n : Tx)
  | one (ns : List Tx)
  | neg (f : Fc)
  | all (fs : List Fc)
  | any (fs : List Fc)
  | imp (a b : Fc)
  | tt
  | ff
mutual
def Fc.d : Fc → D
  | .com n => .tup [.str "commits", .str n]
  | .one ns => .tup [.str "one of", .tup (ns.map .str)]
  | .neg f => .tup [.str "not", f.d]
  | .all fs => .tup [.str "and", .tup (Fc.dL fs)]
  | .any fs => .tup [.str "or", .tup (Fc.dL fs)]
  | .imp a b => .tup [.str "implies", a.d, b.d]
  | .tt => .tup [.str "true"]
  | .ff => .tup [.str "false"]
def Fc.dL : List Fc → List D
  | [] => []
  | f :: fs => f.d :: Fc.dL fs
end
theorem Fc.dL_map : ∀ fs : List Fc, Fc.dL fs = fs.map Fc.d
  | [] => rfl
  | f :: fs => by show f.d :: Fc.dL fs = f.d :: fs.map Fc.d; rw [Fc.dL_map fs]
mutual
def Fc.dep : Fc → Nat
  | .com _ => 0
  | .one _ => 0
  | .neg f => f.dep + 1
  | .all fs => Fc.depL fs + 1
  | .any fs => Fc.depL fs + 1
  | .imp a b => max a.dep b.dep + 1
  | .tt => 0
  | .ff => 0
def Fc.depL : List Fc → Nat
  | [] => 0
  | f :: fs => max f.dep (Fc.depL fs)
end
theorem Fc.depL_le {n : Nat} : ∀ {fs : List Fc}, (∀ f ∈ fs, f.dep ≤ n) → Fc.depL fs ≤ n
  | [], _ => Nat.zero_le _
  | f :: fs, h => Nat.max_le.mpr ⟨h f (List.mem_cons_self ..), Fc.depL_le fun g hg => h g (List.mem_cons_of_mem _ hg)⟩
theorem Fc.dep_mem : ∀ {fs : List Fc} {f : Fc}, f ∈ fs → f.dep ≤ Fc.depL fs
  | g :: fs, f, h => by
    show f.dep ≤ max g.dep (Fc.depL fs)
    rcases List.mem_cons.mp h with rfl | h
    · exact Nat.le_max_left _ _
    · exact Nat.le_trans (Fc.dep_mem h) (Nat.le_max_right _ _)
mutual
/-- the names in a fact, in order, as often as they stand there -/
def Fc.names : Fc → List Tx
  | .com n => [n]
  | .one ns => ns
  | .neg f => f.names
  | .all fs => Fc.namesL fs
  | .any fs => Fc.namesL fs
  | .imp a b => a.names ++ b.names
  | .tt => []
  | .ff => []
def Fc.namesL : List Fc → List Tx
  | [] => []
  | f :: fs => f.names ++ Fc.namesL fs
end
theorem Fc.namesL_app : ∀ (fs gs : List Fc), Fc.namesL (fs ++ gs) = Fc.namesL fs ++ Fc.namesL gs
  | [], _ => rfl
  | f :: fs, gs => by
    show f.names ++ Fc.namesL (fs ++ gs) = (f.names ++ Fc.namesL fs) ++ Fc.namesL gs
    rw [Fc.namesL_app fs gs, List.append_assoc]
theorem Fc.namesL_more {fs : List Fc} {i : Nat} {f : Fc} (e : fs[i]? = some f) : Fc.namesL (fs.take (i + 1)) = Fc.namesL (fs.take i) ++ f.names := by
  rw [take_more e, Fc.namesL_app]
  show _ ++ (f.names ++ []) = _
  rw [List.append_nil]
theorem Fc.namesL_len {b : Nat} : ∀ {fs : List Fc}, (∀ f ∈ fs, f.names.length ≤ b) → (Fc.namesL fs).length ≤ fs.length * b
  | [], _ => by simp [Fc.namesL]
  | f :: fs, h => by
    have h1 := h f (List.mem_cons_self ..)
    have h2 := Fc.namesL_len (b := b) (fs := fs) fun g hg => h g (List.mem_cons_of_mem _ hg)
    show (f.names ++ Fc.namesL fs).length ≤ (fs.length + 1) * b
    rw [List.length_append, Nat.add_mul, Nat.one_mul]
    omega
theorem Fc.namesL_mem {P : Tx → Prop} : ∀ {fs : List Fc}, (∀ f ∈ fs, ∀ x ∈ f.names, P x) → ∀ x ∈ Fc.namesL fs, P x
  | [], _, x, hx => by cases hx
  | f :: fs, h, x, hx => by
    have hx : x ∈ f.names ++ Fc.namesL fs := hx
    rcases List.mem_append.mp hx with z | z
    · exact h f (List.mem_cons_self ..) x z
    · exact Fc.namesL_mem (fun g hg => h g (List.mem_cons_of_mem _ hg)) x z
theorem Fc.namesL_sub {fs : List Fc} {f : Fc} : f ∈ fs → f.names.length ≤ (Fc.namesL fs).length := by
  intro h
  induction fs with
  | nil => cases h
  | cons g fs ih =>
    show _ ≤ (g.names ++ Fc.namesL fs).length
    rw [List.length_append]
    rcases List.mem_cons.mp h with rfl | h
    · omega
    · have := ih h; omega
/-- no promise, no burden -/
theorem fn_vac {P : Program} {w : World} {K : PySem.W.Frag} {mg : PySem.Str → Option Value} {base : Heap} {CX : CXT} {k : Nat} {f : Addr} {fd : FuncData} {ps : List PySem.Str} {S : Sg} {m : VM} (h : ∀ ds c Q, ¬ m ds c Q) : FnOk P w K mg base CX k f fd ps (spV S m) :=
  ⟨fun vs H Q E ⟨_, ds, c, Q0, _, _, _, _, hm, _⟩ => absurd hm (h ds c Q0), fun _ _ _ _ _ _ _ _ _ _ _ _ _ ⟨_, ds, c, Q0, _, _, _, _, hm, _⟩ => absurd hm (h ds c Q0)⟩
theorem fn_weak {P : Program} {w : World} {K : PySem.W.Frag} {mg : PySem.Str → Option Value} {base : Heap} {CX : CXT} {k : Nat} {f : Addr} {fd : FuncData} {ps : List PySem.Str} {S : Sg} {m m' : VM} (F : FnOk P w K mg base CX k f fd ps (spV S m)) (h : ∀ ds c Q, m' ds c Q → m ds c Q) : FnOk P w K mg base CX k f fd ps (spV S m') :=
  F.imp fun vs H Q E ⟨tp, ds, c, Q0, h1, h2, h3, h4, hm, hk⟩ => ⟨tp, ds, c, Q0, h1, h2, h3, h4, h _ _ _ hm, hk⟩
end Va
namespace Va
open PySem PySem.Spec PyProof.Rows L2 Ind
theorem fn_vacD {P : Program} {w : World} {K : PySem.W.Frag} {mg : PySem.Str → Option Value} {base : Heap} {CX : CXT} {k : Nat} {f : Addr} {fd : FuncData} {ps : List PySem.Str} {S : Sg} {m : VMd} (h : ∀ d kvs Q, ¬ m d kvs Q) : FnOk P w K mg base CX k f fd ps (spD S m) :=
  ⟨fun vs H Q E ⟨_, _, _, _, d, _, ds, Q0, _, _, _, _, _, _, _, _, hm, _⟩ => absurd hm (h d ds Q0), fun _ _ _ _ _ _ _ _ _ _ _ _ _ ⟨_, _, _, _, d, _, ds, Q0, _, _, _, _, _, _, _, _, hm, _⟩ => absurd hm (h d ds Q0)⟩
end Va

set_option Elab.async false
set_option linter.all false
set_option maxRecDepth 100000
set_option maxHeartbeats 4000000
namespace Va
open PySem PySem.Spec PyProof.Rows L2 Ind RT
section
variable {prog : Program} {w : World} {A : Around} {E : Value → Shared → Prop} {s : Shared} {I l : Addr} {xs : Array Value}
/-- what is left of a walk backwards, put behind a list that is empty -/
theorem ext_back {R : Result → Shared → Prop} (hh : A.handled = none) (hI : s.heap.IsRevIter I l ((xs.size : Int) - 1)) (hl : s.heap.IsList l xs) (nI : l ≠ I) (big : xs.size ≤ sizeLine) (Z : Addr) (n1 : Z ≠ I) (n2 : Z ≠ l) (res : Value) (c0 : Nat)
    (hZ : s.heap.get? Z = some { cls := .type "list", data := .seq #[] c0 })
    (fin : ∀ h' tk acc c', (∀ b o, b ≠ Z → b ≠ I → s.heap.get? b = some o → h'.get? b = some o) → h'.get? Z = some { cls := .type "list", dict := none, data := .seq acc c', slots := #[] } →
      ItemsOf (fun i v => xs[xs.size - 1 - i]? = some v) acc xs.size → R (.ok (.ret res)) { s with heap := h', toks := tk }) :
    wpAny (model prog w) A.in1 (Builtin.List.listExtendWith (.ref Z) (.ref I) res)
      (fun f s' => match f with | .done g => R (.ok g) s' | .again c => c.quiet = true ∧ codeAny (model prog w) A c R s') (fun e s' => R (.error e) s') s := by
  have wk := (Walks.listRev (prog := prog) (w := w) (A := A.in1) hh I l nI xs).toS
  have nin : Z ∉ [I, l] := by
    intro m
    rcases List.mem_cons.mp m with e | m
    · exact n1 e
    · exact n2 (List.mem_singleton.mp m)
  have ty : s.TypeIs (.ref I) "list_reverseiterator" := hI.typeIs
  have dif : Builtin.List.listSameRef (.ref Z) (.ref I) = false := by simp [Builtin.List.listSameRef, n1]
  unfold Builtin.List.listExtendWith
  refine wpAny_bind (wpAny_typeOf ty ?_)
  rw [if_neg (by rw [dif]; decide)]
  refine wpAny_bind (wpAny_pyIter_revIter (s := s) hI ?_)
  refine wpAny_bind (wpAny_holding ?_)
  unfold Builtin.List.listLengthHint
  refine wpAny_bind (wpAny_specialOf ty nolen_lri ?_)
  show wpAny _ A.in1 (specialOf (Value.ref I) (Str.ofString "__length_hint__") >>= _) _ _ _
  refine wpAny_bind (wpAny_specialOf ty hint_lri ?_)
  generalize hid : ("list_reverseiterator.__length_hint__" : String) = nm
  wp_delta
  rw [show splitId nm = some ("list_reverseiterator", "__length_hint__") from by subst hid; decide +kernel]
  subst hid
  refine wpAny_bind (wpAny_isInstance (b := true) ty (by rw [isSubtype_type]; kernel_rfl) ?_)
  refine wpAny_pure ?_
  rw [if_neg (by decide)]
  have z0 : (xs.size : Int) - 1 - ((0 : Nat) : Int) = (xs.size : Int) - 1 := by omega
  refine wpAny_pure ⟨plainId_quiet F.plain_extend_loop _, codeAny_extend_loopS wk big _ nin _ xs.size 0 _ _ _ rfl (Nat.zero_le _) ⟨Nat.zero_le _, by rw [z0]; exact hI, hl⟩ hZ (ItemsOf.nil _) fun s' acc c' mv z' it => ?_⟩
  rw [Moved.eq_with mv]
  refine fin s'.heap s'.toks acc c' (fun b o k1 k2 e => mv.heap b o (fun m => ?_) e) z' it
  rcases List.mem_cons.mp m with q | m
  · exact k1 q
  · exact k2 (List.mem_singleton.mp m)
theorem init_back {R : Result → Shared → Prop} (hh : A.handled = none) (hI : s.heap.IsRevIter I l ((xs.size : Int) - 1)) (hl : s.heap.IsList l xs) (nI : l ≠ I) (big : xs.size ≤ sizeLine) (Z : Addr) (n1 : Z ≠ I) (n2 : Z ≠ l)
    (hZ : s.heap.get? Z = some { cls := .type "list", data := .seq #[] })
    (fin : ∀ h' tk acc c', (∀ b o, b ≠ Z → b ≠ I → s.heap.get? b = some o → h'.get? b = some o) → h'.get? Z = some { cls := .type "list", dict := none, data := .seq acc c', slots := #[] } →
      ItemsOf (fun i v => xs[xs.size - 1 - i]? = some v) acc xs.size → R (.ok (.ret .none)) { s with heap := h', toks := tk }) :
    wpAny (model prog w) A.in1 (Builtin.«list.__init__» ⟨[.ref Z, .ref I], []⟩)
      (fun f s' => match f with | .done g => R (.ok g) s' | .again c => c.quiet = true ∧ codeAny (model prog w) A c R s') (fun e s' => R (.error e) s') s := by
  show wpAny _ _ (do
    let was ← Builtin.List.listItems (.ref Z)
    Builtin.List.listUpdate (.ref Z) (fun _ => #[])
    letGo was.toList.reverse
    Builtin.List.listExtendWith (.ref Z) (.ref I) .none) _ _ s
  refine wpAny_bind ?_
  unfold Builtin.List.listItems
  refine wpAny_bind (wpAny_seqItems hZ rfl (wpAny_pure ?_))
  show wpAny _ _ (updateSeq Z (fun _ => #[]) >>= fun _ =>
    letGo (#[] : Array Value).toList.reverse >>= fun _ => Builtin.List.listExtendWith (.ref Z) (.ref I) .none) _ _ s
  refine wpAny_bind (wpAny_updateSeq hZ rfl ?_)
  have z2 := Heap.get?_update_self (Obj.mapSeq (fun _ => (#[] : Array Value))) hZ rfl
  have other : ∀ b o, b ≠ Z → s.heap.get? b = some o → (s.heap.update Z (Obj.mapSeq (fun _ => (#[] : Array Value)))).get? b = some o := fun b o k e =>
    (Heap.get?_update_other _ _ (Ne.symm k)).trans e
  refine wpAny_bind (wpAny_letGo ?_)
  obtain ⟨oi, hoi, di, ci⟩ := id hI
  obtain ⟨ol, hol, dl, cl⟩ := id hl
  refine ext_back hh ⟨oi, other I oi (Ne.symm n1) hoi, di, ci⟩ ⟨ol, other l ol (Ne.symm n2) hol, dl, cl⟩ nI big Z n1 n2 .none _ z2 fun h' tk acc c' kp z' it => ?_
  exact fin h' tk acc c' (fun b o k1 k2 e => kp b o k1 k2 (other b o k1 e)) z' it
/-- list(reversed(a list)) -/
theorem call_listBack {Q : Value → Shared → Prop} (hh : A.handled = none) (hI : s.heap.IsRevIter I l ((xs.size : Int) - 1)) (hl : s.heap.IsList l xs) (nI : l ≠ I) (big : xs.size ≤ sizeLine)
    (fin : ∀ h' tk acc c', (∀ b o, b ≠ I → s.heap.get? b = some o → h'.get? b = some o) → h'.get? s.heap.objs.size = some { cls := .type "list", dict := none, data := .seq acc c', slots := #[] } →
      ItemsOf (fun i v => xs[xs.size - 1 - i]? = some v) acc xs.size → Q (.ref s.heap.objs.size) { s with heap := h', toks := tk }) :
    wpAny (model prog w) A (call (.type "list") [.ref I]) Q E s := by
  refine callType_codes (Q₁ := fun z s1 => z = .ref s.heap.objs.size ∧ s1 = { s with heap := s.heap.push { cls := .type "list", data := .seq #[] } }) PySem.F.called_list (PySem.F.typeCall_list_1 _)
    PySem.F.entry_list_init (code_list_new _ ⟨rfl, rfl⟩) fun z s1 h1 => ?_
  obtain ⟨rfl, rfl⟩ := h1
  have hZ : (s.heap.push { cls := .type "list", data := .seq #[] }).get? s.heap.objs.size = some { cls := .type "list", data := .seq #[] } :=
    Heap.get?_push_size _ rfl
  obtain ⟨oi, hoi, di, ci⟩ := id hI
  obtain ⟨ol, hol, dl, cl⟩ := id hl
  have mono : ∀ b o, s.heap.get? b = some o → (s.heap.push { cls := .type "list", data := .seq #[] }).get? b = some o :=
    fun b o e => Heap.get?_push_of_some _ e
  refine ⟨⟨_, hZ, rfl⟩, PySem.F.args_list_init_2 _ _, init_back (A := A.in1) hh ⟨oi, mono _ _ hoi, di, ci⟩ ⟨ol, mono _ _ hol, dl, cl⟩ nI big _ (Nat.ne_of_gt (Heap.lt_size hoi)) (Nat.ne_of_gt (Heap.lt_size hol)) hZ fun h' tk acc c' kp z' it => ?_⟩
  exact ⟨rfl, fin h' tk acc c' (fun b o k e => kp b o (Nat.ne_of_lt (Heap.lt_size e)) k (mono b o e)) z' it⟩
end
section
variable {X : Cx} {pins : List (Addr × Obj)} {σ : L2.St} {H : Hp} {s : Shared} {h' : Heap}
/-- a record of ours has turned, and a new object stands behind all others -/
theorem inv_laidT {tk : Nat} {it a : Addr} {o : HO} (I : Inv X pins σ H s) (k : ∀ b u, b ≠ it → s.heap.get? b = some u → h'.get? b = some u) (n0 : H it = none) (nL : it ≠ X.env.locals) (m1 : it ∈ X.ex ∨ X.s_0.heap.objs.size ≤ it)
    (m2 : ∀ x c, X.env.cells.lookup x = some c → c ≠ it) (m3 : ∀ p ∈ X.pn ++ pins, p.1 ≠ it) (hp : s.heap.objs.size ≤ a) (new : ObjOk X.prog X.w (upd H a o) h' a o) :
    Inv X pins σ (upd H a o) { s with heap := h', toks := tk } := by
  have fr : H a = none := I.hok.fresh hp
  have na : ∀ b u, H b = some u → b ≠ a := fun b u e z => by rw [z, fr] at e; cases e
  have up : ∀ b u, H b = some u → upd H a o b = some u := fun b u e => by rw [upd_ne (na b u e)]; exact e
  have lt : ∀ b u, s.heap.get? b = some u → b ≠ a := fun b u e z => absurd (Heap.lt_size e) (Nat.not_lt.mpr (by rw [z]; exact hp))
  refine I.step (g' := s.gens) (d' := s.drawn) (ch := [it]) (fun b hb => ?_) (fun b u _ _ c e _ => k b u (fun z => c (by simp [z])) e) (fun b u _ _ c e _ => ⟨u.slots, k b u (fun z => c (by simp [z])) e⟩)
    (fun b u _ e n => by rw [upd_ne (lt b u e)]; exact n) (fun b u c e => ⟨u, k b u (fun z => c (by simp [z])) e⟩) (fun b xs e => up b _ e) (fun b u v e => up b _ e) (fun b ps e => ⟨#[], by rw [up b _ e]; simp⟩) (fun m hm => ?_) (fun b u e => ?_) I.bare
  · cases List.mem_singleton.mp hb
    exact ⟨m1, nL, m2, m3⟩
  · obtain ⟨u, es, ep, ho, r⟩ := hm
    exact ⟨u, es, ep, k _ u (Ne.symm nL) ho, r⟩
  · by_cases z : b = a
    · subst z
      rw [upd_same] at e
      cases e
      exact new
    · rw [upd_ne z] at e
      refine (I.hok b u e).stay (fun c v hc q => k c v ?_ q) (fun _ q => up _ _ q) fun _ _ q => up _ _ q
      rcases hc with y | y
      · rw [y]
        intro y2
        rw [y2, n0] at e
        cases e
      · intro y2
        rw [y2, n0] at y
        cases y
end
section
variable {X : Cx} {e : Expr} {te : TE} {p p2 pos pos2 : Pos}
def tListRev (K : PySem.W.Frag) (te : TE) : TE := fun σ H Q => te σ H fun v H1 => ∃ (a : Addr) (xs : List V), v = .ref a ∧ SqL K H1 a xs ∧ ∀ q, H1 q = none → Q (.ref q) (upd H1 q (.lst xs.reverse))
theorem pe_listRev (hc : X.calm = true) (hg : Gl X "list") (hm : X.mg "list" = none) (hg2 : Gl X "reversed") (hm2 : X.mg "reversed" = none) (he : PE X e te)
    (s1 : starEach [e] X.env = (false, eval e X.env) :: starEach [] X.env := by rfl)
    (s2 : starEach [.Call (.Name "reversed" p2) [e] [] pos2] X.env = (false, eval (.Call (.Name "reversed" p2) [e] [] pos2) X.env) :: starEach [] X.env := by rfl) :
    PE X (.Call (.Name "list" p) [.Call (.Name "reversed" p2) [e] [] pos2] [] pos) (tListRev X.K te) := by
  refine ⟨fun pins s σ H Q I h => ?_⟩
  refine Call_ (ld_blt I hg hm boot_list (PyProof.Rows.callWith_type1 (args_cons (Call_ (ld_blt I hg2 hm2 PyProof.Rows.boot_reversed (PyProof.Rows.callWith_type1
    (args_cons (thn (he.run pins s σ H _ I h) fun u t ⟨v, H1, I1, r1, q1⟩ => args_nil ?_) s1) s1 rfl))) s2) s2 rfl))
  obtain ⟨a, ys, ev, sq, q⟩ := q1
  subst ev
  cases (show u = Value.ref a from r1)
  obtain ⟨its, rv, pl, z⟩ := I1.list sq
  refine call_reversed_list pl.isList (args_nil ?_)
  have keep0 : ∀ b o, t.heap.get? b = some o → (t.heap.push (revObj a ((its.toArray.size : Int) - 1))).get? b = some o := fun _ _ e => Heap.get?_push_of_some _ e
  have I2 : Inv X pins σ H1 { t with heap := t.heap.push (revObj a ((its.toArray.size : Int) - 1)) } := I1.kept (t' := t.toks) keep0
  obtain ⟨g0, g1, g2, g3, g4, g5⟩ := I1.fpOk (H' := H1) (b := t.heap.objs.size) (Nat.le_refl _) (I1.hok.fresh (Nat.le_refl _))
  have isl := pl.isList
  obtain ⟨ol, hol, _⟩ := id isl
  have ne : a ≠ t.heap.objs.size := Nat.ne_of_lt (Heap.lt_size hol)
  have big : its.toArray.size ≤ sizeLine := by rw [List.size_toArray, ← rv.length]; exact z
  refine call_listBack (s := { t with heap := t.heap.push (revObj a ((its.toArray.size : Int) - 1)) }) (I1.ok.hd hc) ⟨_, Heap.get?_push_size _ rfl, rfl, rfl⟩ (isl.push _) ne big fun h' tk acc c' kp z' it => ?_
  have nb2 : t.heap.objs.size ≤ (t.heap.push (revObj a ((its.toArray.size : Int) - 1))).objs.size := by simp [Heap.push]
  refine ⟨.ref _, upd H1 _ (.lst ys.reverse), inv_laidT (tk := tk) I2 kp g0 g1 g3 g4 g5 (Nat.le_refl _) (show ObjOk X.prog X.w _ h' _ (.lst ys.reverse) from ⟨by rw [List.length_reverse]; exact z, acc.toList, c', vals_rev rv it, ?_⟩), rfl, q _ (I2.hok.fresh (Nat.le_refl _))⟩
  rw [Array.toArray_toList]
  exact z'
end
section
variable {X : Cx} {S : Sg} {e tg : Expr} {t : VT} {p p2 pos pos2 : Pos}
theorem it_rev {Γ : Gm} {H : Hp} {a : Addr} {xs : List V} {ds : List D} (h : FzL Γ.K H a xs) (r : Γ.RpL H xs ds) : ItOk Γ (Itv Γ.K a xs.length) ds.reverse H := by
  have el : xs.length = ds.length := r.len
  have at_ : ∀ i, i < ds.length → ∃ v d, xs[xs.length - 1 - i]? = some v ∧ ds.reverse[i]? = some d ∧ Γ.Rp H v d := fun i hi => by
    have hj : ds.length - 1 - i < ds.length := by omega
    obtain ⟨v, e, rv⟩ := r.get (List.getElem?_eq_getElem hj)
    exact ⟨v, _, by rw [el]; exact e, by rw [List.getElem?_reverse hi]; exact List.getElem?_eq_getElem hj, rv⟩
  refine ⟨fun i H1 hi q => ?_, fun i H1 x H2 hi q y => ?_, fun H1 q => ?_⟩
  · rw [List.length_reverse] at hi
    obtain ⟨v, d, e1, _, _⟩ := at_ i hi
    exact ⟨by rw [el]; exact hi, xs, v, (q.fzL h).sq, e1⟩
  · rw [List.length_reverse] at hi
    obtain ⟨rfl, y⟩ := y
    obtain ⟨v, d, e1, e2, rv⟩ := at_ i hi
    have := y xs (q.fzL h).sq
    rw [e1] at this
    cases this
    exact ⟨d, e2, Rp.kq q _ _ rv, fun _ _ z => z⟩
  · rw [List.length_reverse]
    show xs.length ≤ ds.length
    omega
theorem it_revT {Γ : Gm} {H : Hp} {a : Addr} {xs : List V} {ds : List D} (h : SqT Γ.K H a xs) (r : Γ.RpL H xs ds) : ItOk Γ (RT.ItvT Γ.K a xs.length) ds.reverse H := by
  have el : xs.length = ds.length := r.len
  have at_ : ∀ i, i < ds.length → ∃ v d, xs[xs.length - 1 - i]? = some v ∧ ds.reverse[i]? = some d ∧ Γ.Rp H v d := fun i hi => by
    have hj : ds.length - 1 - i < ds.length := by omega
    obtain ⟨v, e, rv⟩ := r.get (List.getElem?_eq_getElem hj)
    exact ⟨v, _, by rw [el]; exact e, by rw [List.getElem?_reverse hi]; exact List.getElem?_eq_getElem hj, rv⟩
  refine ⟨fun i H1 hi q => ?_, fun i H1 x H2 hi q y => ?_, fun H1 q => ?_⟩
  · rw [List.length_reverse] at hi
    obtain ⟨v, d, e1, _, _⟩ := at_ i hi
    exact ⟨by rw [el]; exact hi, xs, v, q.sqT h, e1⟩
  · rw [List.length_reverse] at hi
    obtain ⟨rfl, y⟩ := y
    obtain ⟨v, d, e1, e2, rv⟩ := at_ i hi
    have := y xs (q.sqT h)
    rw [e1] at this
    cases this
    exact ⟨d, e2, Rp.kq q _ _ rv, fun _ _ z => z⟩
  · rw [List.length_reverse]
    show xs.length ≤ ds.length
    omega
def revD (d : D) (Q : List D → Prop) : Prop := match d with
  | .lst ds => Q ds.reverse
  | .tup ds => Q ds.reverse
  | _ => False
def vRev (t : VT) : VI := fun E Q => t E fun d E1 => revD d fun ds => Q ds E1
theorem vi_rev (hK : S.K = X.K) (hg : Gl X "reversed") (hm : X.mg "reversed" = none) (he : VE S X e t) (hs : starEach [e] X.env = (false, eval e X.env) :: starEach [] X.env := by rfl) : VIt S X tg (.Call (.Name "reversed" p) [e] [] pos) (vRev t) := by
  refine pi_weak (RT.pi_revA hg hm he hs) ?_
  rintro σ H Q ⟨Γ, E, Q0, ok, rp, ht, k⟩
  refine ⟨Γ, E, _, ok, rp, ht, fun d E1 hq x H1 kq1 rp1 hx => ?_⟩
  have eK : X.K = Γ.K := (ok.k.trans hK).symm
  cases d with
  | lst ds =>
    obtain ⟨q, xs, rfl, h1, h2⟩ := hx.lst_inv
    exact ⟨q, xs, rfl, .inl ⟨by rw [eK]; exact h1.sq, k _ _ hq _ _ kq1 rp1 (by rw [eK]; exact it_rev h1 h2)⟩⟩
  | tup ds =>
    obtain ⟨q, xs, rfl, h1, h2⟩ := hx.tup_inv
    exact ⟨q, xs, rfl, .inr ⟨by rw [eK]; exact h1, k _ _ hq _ _ kq1 rp1 (by rw [eK]; exact it_revT h1 h2)⟩⟩
  | _ => exact hq.elim
def lstD (d : D) (Q : List D → Prop) : Prop := match d with
  | .lst ds => Q ds
  | _ => False
def vLrev (t : VT) : FT := fun E Q => t E fun d E1 => lstD d fun ds => Q (.fl ds.reverse) E1
def vTrev (t : VT) : FT := fun E Q => t E fun d E1 => lstD d fun ds => Q (.v (.tup ds.reverse)) E1
theorem fe_listRev (hK : S.K = X.K) (hc : X.calm = true) (hg : Gl X "list") (hm : X.mg "list" = none) (hg2 : Gl X "reversed") (hm2 : X.mg "reversed" = none) (he : VE S X e t)
    (s1 : starEach [e] X.env = (false, eval e X.env) :: starEach [] X.env := by rfl)
    (s2 : starEach [.Call (.Name "reversed" p2) [e] [] pos2] X.env = (false, eval (.Call (.Name "reversed" p2) [e] [] pos2) X.env) :: starEach [] X.env := by rfl) :
    FE S X (.Call (.Name "list" p) [.Call (.Name "reversed" p2) [e] [] pos2] [] pos) (vLrev t) := by
  refine pe_weak (pe_listRev hc hg hm hg2 hm2 he s1 s2) ?_
  rintro σ H Q ⟨Γ, E, Q0, ok, rp, ht, k⟩
  refine ⟨Γ, E, _, ok, rp, ht, fun d E1 hq x H1 kq1 rp1 hx => ?_⟩
  have eK : X.K = Γ.K := (ok.k.trans hK).symm
  cases d with
  | lst ds =>
    obtain ⟨q, xs, rfl, h1, h2⟩ := hx.lst_inv
    refine ⟨q, xs, rfl, by rw [eK]; exact h1.sq, fun q nq => ?_⟩
    have sm := same_upd (o := .lst xs.reverse) nq
    exact k _ _ hq _ _ (kq1.trans (.same sm)) (rp1.same sm) (RpN.rep (x := .fl _) rp1 sm ⟨q, _, rfl, nq, upd_same, RpL.kq (.same sm) _ _ h2.rev⟩)
  | _ => exact hq.elim
theorem fe_tupleRev (hK : S.K = X.K) (hc : X.calm = true) (hg : Gl X "tuple") (hm : X.mg "tuple" = none) (hg2 : Gl X "reversed") (hm2 : X.mg "reversed" = none) (he : VE S X e t)
    (s1 : starEach [e] X.env = (false, eval e X.env) :: starEach [] X.env := by rfl)
    (s2 : starEach [.Call (.Name "reversed" p2) [e] [] pos2] X.env = (false, eval (.Call (.Name "reversed" p2) [e] [] pos2) X.env) :: starEach [] X.env := by rfl) :
    FE S X (.Call (.Name "tuple" p) [.Call (.Name "reversed" p2) [e] [] pos2] [] pos) (vTrev t) := by
  refine pe_weak (RT.pe_tupRev hc hg hm hg2 hm2 he s1 s2) ?_
  rintro σ H Q ⟨Γ, E, Q0, ok, rp, ht, k⟩
  refine ⟨Γ, E, _, ok, rp, ht, fun d E1 hq x H1 kq1 rp1 hx => ?_⟩
  have eK : X.K = Γ.K := (ok.k.trans hK).symm
  cases d with
  | lst ds =>
    obtain ⟨q, xs, rfl, h1, h2⟩ := hx.lst_inv
    refine ⟨q, xs, rfl, by rw [eK]; exact h1.sq, fun q nq => ?_⟩
    have sm := same_upd (o := .tup xs.reverse) nq
    exact k _ _ hq _ _ (kq1.trans (.same sm)) (rp1.same sm) (.tup (.of upd_same) (RpL.kq (.same sm) _ _ h2.rev))
  | _ => exact hq.elim
end
end Va

set_option Elab.async false
set_option linter.all false
set_option maxRecDepth 100000
set_option maxHeartbeats 4000000
namespace Va
open PySem PySem.Spec PyProof.Rows L2 Ind
/-! ### facts: how wide they are, when they are true -/
mutual
def Fc.wid : Fc → Nat
  | .com _ => 0
  | .one ns => ns.length
  | .neg f => f.wid
  | .all fs => max fs.length (Fc.widL fs)
  | .any fs => max fs.length (Fc.widL fs)
  | .imp a b => max a.wid b.wid
  | .tt => 0
  | .ff => 0
def Fc.widL : List Fc → Nat
  | [] => 0
  | f :: fs => max f.wid (Fc.widL fs)
end
theorem Fc.widL_le {n : Nat} : ∀ {fs : List Fc}, (∀ f ∈ fs, f.wid ≤ n) → Fc.widL fs ≤ n
  | [], _ => Nat.zero_le _
  | f :: fs, h => Nat.max_le.mpr ⟨h f (List.mem_cons_self ..), Fc.widL_le fun g hg => h g (List.mem_cons_of_mem _ hg)⟩
theorem Fc.wid_mem : ∀ {fs : List Fc} {f : Fc}, f ∈ fs → f.wid ≤ Fc.widL fs
  | g :: fs, f, h => by
    show f.wid ≤ max g.wid (Fc.widL fs)
    rcases List.mem_cons.mp h with rfl | h
    · exact Nat.le_max_left _ _
    · exact Nat.le_trans (Fc.wid_mem h) (Nat.le_max_right _ _)
mutual
/-- true, where p tells who commits -/
def Fc.tr (p : Tx → Bool) : Fc → Bool
  | .com n => p n
  | .one ns => decide ((ns.filter p).length = 1)
  | .neg f => !f.tr p
  | .all fs => Fc.trA p fs
  | .any fs => Fc.trO p fs
  | .imp a b => !a.tr p || b.tr p
  | .tt => true
  | .ff => false
def Fc.trA (p : Tx → Bool) : List Fc → Bool
  | [] => true
  | f :: fs => f.tr p && Fc.trA p fs
def Fc.trO (p : Tx → Bool) : List Fc → Bool
  | [] => false
  | f :: fs => f.tr p || Fc.trO p fs
end
theorem Fc.trA_all (p : Tx → Bool) : ∀ fs : List Fc, Fc.trA p fs = fs.all (Fc.tr p)
  | [] => rfl
  | f :: fs => by show (f.tr p && Fc.trA p fs) = (f.tr p && fs.all (Fc.tr p)); rw [Fc.trA_all p fs]
theorem Fc.trO_any (p : Tx → Bool) : ∀ fs : List Fc, Fc.trO p fs = fs.any (Fc.tr p)
  | [] => rfl
  | f :: fs => by show (f.tr p || Fc.trO p fs) = (f.tr p || fs.any (Fc.tr p)); rw [Fc.trO_any p fs]
/-! ### lists -/
def atB {α : Type} (g : α → Bool) (l : List α) (i : Nat) : Bool := match l[i]? with
  | some x => g x
  | none => false
theorem atB_of {α : Type} {g : α → Bool} {l : List α} {i : Nat} {x : α} (e : l[i]? = some x) : atB g l i = g x := by unfold atB; rw [e]
theorem all_range {α : Type} (g : α → Bool) (l : List α) : (List.range l.length).all (atB g l) = l.all g := by
  rw [Bool.eq_iff_iff, List.all_eq_true, List.all_eq_true]
  constructor
  · intro h x hx
    obtain ⟨i, e⟩ := List.getElem?_of_mem hx
    have := h i (List.mem_range.mpr (List.getElem?_eq_some_iff.mp e).1)
    rwa [atB_of e] at this
  · intro h i hi
    have hi := List.mem_range.mp hi
    rw [atB_of (List.getElem?_eq_getElem hi)]
    exact h _ (List.getElem_mem _)
theorem any_range {α : Type} (g : α → Bool) (l : List α) : (List.range l.length).any (atB g l) = l.any g := by
  rw [Bool.eq_iff_iff, List.any_eq_true, List.any_eq_true]
  constructor
  · rintro ⟨i, hi, h⟩
    have hi := List.mem_range.mp hi
    rw [atB_of (List.getElem?_eq_getElem hi)] at h
    exact ⟨_, List.getElem_mem _, h⟩
  · rintro ⟨x, hx, h⟩
    obtain ⟨i, e⟩ := List.getElem?_of_mem hx
    exact ⟨i, List.mem_range.mpr (List.getElem?_eq_some_iff.mp e).1, by rw [atB_of e]; exact h⟩
theorem filter_more {α : Type} (g : α → Bool) {l : List α} {i : Nat} {x : α} (e : l[i]? = some x) : (l.take (i + 1)).filter g = if g x = true then (l.take i).filter g ++ [x] else (l.take i).filter g := by
  rw [take_more e, List.filter_append]
  by_cases h : g x = true
  · rw [if_pos h, List.filter_cons_of_pos h]; rfl
  · rw [if_neg h, List.filter_cons_of_neg h, List.filter_nil, List.append_nil]
theorem nil_filter {α : Type} (g : α → Bool) (l : List α) : decide (((l.filter fun x => !g x).length : Int) = 0) = l.all g := by
  rw [Bool.eq_iff_iff, decide_eq_true_iff, List.all_eq_true]
  constructor
  · intro h x hx
    have h0 : l.filter (fun x => !g x) = [] := List.eq_nil_of_length_eq_zero (by omega)
    by_cases hg : g x = true
    · exact hg
    · have : x ∈ l.filter (fun x => !g x) := List.mem_filter.mpr ⟨hx, by simpa using hg⟩
      rw [h0] at this
      cases this
  · intro h
    have h0 : l.filter (fun x => !g x) = [] := List.filter_eq_nil_iff.mpr fun x hx => by simpa using h x hx
    rw [h0]; rfl
theorem some_filter {α : Type} (g : α → Bool) (l : List α) : decide ((0 : Int) < ((l.filter g).length : Int)) = l.any g := by
  rw [Bool.eq_iff_iff, decide_eq_true_iff, List.any_eq_true]
  constructor
  · intro h
    have h0 : 0 < (l.filter g).length := by omega
    have m := List.getElem_mem h0
    exact ⟨_, (List.mem_filter.mp m).1, (List.mem_filter.mp m).2⟩
  · rintro ⟨x, hx, h⟩
    have m := List.length_pos_of_mem (List.mem_filter.mpr ⟨hx, h⟩)
    omega
theorem rng_at {lo : Int} {n i : Nat} {d : D} (e : (rng lo n)[i]? = some d) : d = .int (lo + i) ∧ i < n := by
  have hi := (List.getElem?_eq_some_iff.mp e).1
  simp only [rng, List.length_map, List.length_range] at hi
  refine ⟨?_, hi⟩
  unfold rng at e
  rw [List.getElem?_map, List.getElem?_range hi] at e
  exact (Option.some.inj e).symm
theorem cut1 {α : Type} (x : α) (l : List α) : cutD (x :: l) (some 1) none = l := by
  unfold cutD HT.sIx
  simp
theorem cut_take {α : Type} (l : List α) (k : Nat) : cutD l none (some (k : Int)) = l.take k := by
  unfold cutD
  rw [HT.sIx_none, HT.sIx_nat, List.drop_zero, Nat.sub_zero]
  by_cases h : k ≤ l.length
  · rw [Nat.min_eq_left h]
  · rw [Nat.min_eq_right (by omega), List.take_length, List.take_of_length_le (by omega)]
theorem cut_take1 {α : Type} (l : List α) (k : Nat) : cutD l none (some (1 + (k : Int))) = l.take (1 + k) := by
  have := cut_take l (1 + k)
  rwa [Int.natCast_add] at this
end Va

set_option Elab.async false
set_option linter.all false
set_option maxRecDepth 100000
set_option maxHeartbeats 4000000
namespace Va
open PySem PySem.Spec PyProof.Rows L2 Ind
section
variable {X : Cx} {S : Sg} {e : Expr} {t : VT}
/-! ### tuples that are known plain -/
def vUn (t : VT) : VT := fun E Q => t E fun d E1 => Q d.un E1
theorem RpW.un {Γ : Gm} {H : Hp} {v : V} {d : D} (h : RpW Γ H v d) : RpW Γ H v d.un := by
  cases h with
  | v h => exact .v (Rp.un h)
  | l h1 h2 => exact .l h1 h2
  | k h1 h2 => exact .k h1 h2
theorem ve_un (h : VE S X e t) : VE S X e (vUn t) := by
  refine pe_weak h ?_
  rintro σ H Q ⟨Γ, E, Q0, ok, rp, ht, k⟩
  exact ⟨Γ, E, _, ok, rp, ht, fun d E1 hq v H1 kq rp1 hv => k _ _ hq _ _ kq rp1 (Rp.un hv)⟩
theorem be_un (h : BE S X e t) : BE S X e (vUn t) := by
  refine pe_weak h ?_
  rintro σ H Q ⟨Γ, E, Q0, ok, rp, ht, k⟩
  exact ⟨Γ, E, _, ok, rp, ht, fun d E1 hq v H1 kq rp1 hv => k _ _ hq _ _ kq rp1 hv.un⟩
/-- tuple(a list): plain -/
def tuplePG : VC := fun ds Q => match ds with
  | [.lst xs] => Q (.v (.ptp xs))
  | _ => False
theorem c_tupleP (hK : S.K = X.K) : CallV S X (.type "tuple") tuplePG := by
  refine ⟨_, call_tupleZ, ?_⟩
  intro Γ H xs ds Q Q0 eK hx hg k
  have eK' : X.K = Γ.K := (eK.trans hK).symm
  unfold tuplePG at hg
  split at hg
  · match hx with
    | .cons h .nil =>
      obtain ⟨p, ys, rfl, h1, h2⟩ := h.seq
      refine ⟨p, ys, rfl, by rw [eK']; exact h1, fun l o nl nd => ?_⟩
      have sm := same_upd (o := .frz o (.tup ys)) nl
      exact k _ hg _ _ sm (.ptp upd_same nd (RpL.kq (.same sm) _ _ h2))
  · exact hg.elim
theorem strs_back {K : PySem.W.Frag} {tp : Option Tp} {H : Hp} : ∀ {ys : List Tx} {vs : List V}, RpL K tp H vs (ys.map .str) → vs = ys.map V.str
  | [], _, h => by cases h; rfl
  | y :: ys, _, h => by
    cases h with
    | cons h1 h2 => cases h1; rw [strs_back h2]; rfl
/-- t.index(x), t a plain tuple of texts -/
def vTix (t : VT) (a : VTA) : FT := fun E Q => t E fun d E1 => (∃ xs, d = .ptp xs) ∧ a E1 fun es E2 => ∃ (ys : List Tx) (y : Tx), d = .ptp (ys.map .str) ∧ es = [.str y] ∧ y ∈ ys ∧ Q (.v (.int (ys.idxOf y : Nat))) E2
theorem fe_tindex {o a : Expr} {apos cpos : Pos} {ta : VTA} (hK : S.K = X.K) (ho : VE S X o t) (ha : VA S X [a] ta)
    (h1 : attributeBase o "index" X.env (eval o X.env) = eval o X.env := by rfl)
    (h2 : ((backTo cpos (starEach [a] X.env)).all (fun x => !x.1) && (backToKw cpos (keywordEach [] X.env)).all (fun x => x.1.isSome) && decide ([a].length + ([] : List Keyword).length + (if ([] : List Keyword).isEmpty then 0 else 1) < 30)) = true := by rfl)
    (h3 : (apos.endLine == cpos.line) = true := by rfl) (h4 : starEach [a] X.env = (false, eval a X.env) :: starEach [] X.env := by rfl) (h5 : (backTo cpos (starEach [] X.env)).any (·.1) = false := by rfl) :
    FE S X (.Call (.Attribute o "index" apos) [a] [] cpos) (vTix t ta) := by
  refine pe_weak (pe_bmZ PySem.F.slot_tuple_index PySem.F.type_tuple_index mt_tindex ho ha h1 h2 h3 h4 h5) ?_
  rintro σ H Q ⟨Γ, E, Q0, ok, rp, ht, k⟩
  have eK : X.K = Γ.K := (ok.k.trans hK).symm
  refine ⟨Γ, E, _, ok, rp, ht, fun d E1 hq x H1 kq1 rp1 hx => ?_⟩
  · obtain ⟨⟨xs, rfl⟩, hq⟩ := hq
    obtain ⟨p, ob, vs, rfl, hf, nd, hr⟩ := hx.ptp_inv
    refine ⟨⟨p, ob, vs, rfl, hf, nd⟩, Γ, E1, _, ok, rp1, hq, fun es E2 hq2 us H2 kq2 rp2 hus => ?_⟩
    obtain ⟨ys, y, ed, rfl, my, hq3⟩ := hq2
    injection ed with ed
    subst ed
    have := strs_back hr
    subst this
    match us, hus with
    | [_], .cons h1 .nil =>
      cases h1
      refine ⟨p, ys, y, rfl, rfl, .inl (.inr ⟨ob, kq2.frz _ _ _ hf⟩), my, ?_⟩
      exact k _ _ hq3 _ _ (kq1.trans kq2) rp2 (.int _)
/-! ### the order of pairs of a truth value and a whole number or a text -/
def VV (v : V) : Prop := (∃ i, v = .int i) ∨ ∃ x, v = .str x
/-- == of such values -/
theorem vv_eqAt_val {A : Around} {s : Shared} {u v : V} {a b : Value} (hu : VV u) (hv : VV v) (ra : RelV u a) (rb : RelV v b) : SeqAt.EqAt A s a b (decide (u = v)) := by
  rcases hu with ⟨i, rfl⟩ | ⟨x, rfl⟩ <;> rcases hv with ⟨j, rfl⟩ | ⟨y, rfl⟩
  · obtain ⟨t, rfl⟩ := ra
    obtain ⟨t', rfl⟩ := rb
    rw [dec_int]
    exact SeqAt.EqAt.int_int _ _ _ _
  · obtain ⟨t, rfl⟩ := ra
    obtain ⟨t', rfl⟩ := rb
    rw [decide_eq_false (fun z => nomatch z)]
    exact fun prog w E Q h => SeqAt.EqAt.int_str i t y t' _ _ _ _ h
  · obtain ⟨t, rfl⟩ := ra
    obtain ⟨t', rfl⟩ := rb
    rw [decide_eq_false (fun z => nomatch z)]
    exact fun prog w E Q h => SeqAt.EqAt.str_int x t j t' _ _ _ _ h
  · obtain ⟨t, rfl⟩ := ra
    obtain ⟨t', rfl⟩ := rb
    rw [dec_str]
    exact SeqAt.EqAt.str_str _ _ _ _
theorem vv_rc_lt_val {A : Around} {s : Shared} {u v : V} {a b : Value} (hu : VV u) (hv : VV v) (ra : RelV u a) (rb : RelV v b) (k : kindB u = kindB v) : Ob.RcOp .Lt A s a b (vLt u v) := by
  rcases hu with ⟨i, rfl⟩ | ⟨x, rfl⟩ <;> rcases hv with ⟨j, rfl⟩ | ⟨y, rfl⟩
  · obtain ⟨t, rfl⟩ := ra
    obtain ⟨t', rfl⟩ := rb
    exact .lt_int _ _ _ _
  · cases k
  · cases k
  · obtain ⟨t, rfl⟩ := ra
    obtain ⟨t', rfl⟩ := rb
    exact fun _ _ _ _ h => PyProof.Rows.lt_str h
theorem vv_rc_gt_val {A : Around} {s : Shared} {u v : V} {a b : Value} (hu : VV u) (hv : VV v) (ra : RelV u a) (rb : RelV v b) (k : kindB u = kindB v) : Ob.RcOp .Gt A s a b (vLt v u) := by
  rcases hu with ⟨i, rfl⟩ | ⟨x, rfl⟩ <;> rcases hv with ⟨j, rfl⟩ | ⟨y, rfl⟩
  · obtain ⟨t, rfl⟩ := ra
    obtain ⟨t', rfl⟩ := rb
    exact .gt_int _ _ _ _
  · cases k
  · cases k
  · obtain ⟨t, rfl⟩ := ra
    obtain ⟨t', rfl⟩ := rb
    exact fun _ _ _ _ h => PySem.P.gt_str h
theorem vv_pair_lex {u v : V} (hu : VV u) (hv : VV v) (r1 : Bool) (h : kindB u = kindB v → r1 = vLt u v) :
    Ob.lexAt (fun j => if j = 0 then kindB u == kindB v else decide (u = v)) (fun j => if j = 0 then decide (b2i (kindB u) < b2i (kindB v)) else r1) (decide (2 < 2)) 0 (min 2 2) = vLt u v := by
  rcases hu with ⟨i, rfl⟩ | ⟨x, rfl⟩ <;> rcases hv with ⟨j, rfl⟩ | ⟨y, rfl⟩
  · rw [h rfl]
    by_cases e : i = j
    · subst e; simp [Ob.lexAt, vLt]
    · simp [Ob.lexAt, vLt, kindB, e]
  · simp [Ob.lexAt, vLt, kindB, b2i]
  · simp [Ob.lexAt, vLt, kindB, b2i]
  · rw [h rfl]
    by_cases e : x = y
    · subst e; simp [Ob.lexAt, vLt]
    · simp [Ob.lexAt, vLt, kindB, e]
theorem vv_pair_lex2 {u v : V} (hu : VV u) (hv : VV v) (r1 : Bool) (h : kindB u = kindB v → r1 = vLt v u) :
    Ob.lexAt (fun j => if j = 0 then kindB u == kindB v else decide (u = v)) (fun j => if j = 0 then decide (b2i (kindB u) > b2i (kindB v)) else r1) (decide (2 > 2)) 0 (min 2 2) = vLt v u := by
  rcases hu with ⟨i, rfl⟩ | ⟨x, rfl⟩ <;> rcases hv with ⟨j, rfl⟩ | ⟨y, rfl⟩
  · rw [h rfl]
    by_cases e : i = j
    · subst e; simp [Ob.lexAt, vLt]
    · simp [Ob.lexAt, vLt, kindB, e]
  · simp [Ob.lexAt, vLt, kindB, b2i]
  · simp [Ob.lexAt, vLt, kindB, b2i]
  · rw [h rfl]
    by_cases e : x = y
    · subst e; simp [Ob.lexAt, vLt]
    · simp [Ob.lexAt, vLt, kindB, e]
def rKeyLV (K : PySem.W.Frag) : R2 := fun x y H Q => ∃ a b u v, x = .ref a ∧ y = .ref b ∧ VV u ∧ VV v ∧ SqT K H a [.bl (kindB u), u] ∧ SqT K H b [.bl (kindB v), v] ∧ Q (.bl (vLt u v)) H
def rKeyGV (K : PySem.W.Frag) : R2 := fun x y H Q => ∃ a b u v, x = .ref a ∧ y = .ref b ∧ VV u ∧ VV v ∧ SqT K H a [.bl (kindB u), u] ∧ SqT K H b [.bl (kindB v), v] ∧ Q (.bl (vLt v u)) H
theorem op_lt_keyV (hu : X.A.units < cLine) : OpR X (compareOp .Lt) (rKeyLV X.K) := by
  intro pins s σ H x y v u Q I rx ry h
  obtain ⟨a, b, p, q, rfl, rfl, hp, hq, ha, hb, fin⟩ := h
  cases rx
  cases ry
  obtain ⟨its, r1, p1, _⟩ := I.tuple ha
  obtain ⟨its2, r2, p2, _⟩ := I.tuple hb
  obtain ⟨va, rfl, ra⟩ := pair_of r1
  obtain ⟨vb, rfl, rb⟩ := pair_of r2
  have R := IndCmp.rc_lt (A := X.A) (s := s) (e := fun j => if j = 0 then kindB p == kindB q else decide (p = q)) (r := fun j => if j = 0 then decide (b2i (kindB p) < b2i (kindB q)) else vLt p q) p1 p2 hu
    (fun j h1 h2 => match j, h1, h2 with
      | 0, _, _ => SeqAt.EqAt.bool_bool _ _
      | 1, _, _ => vv_eqAt_val hp hq ra rb)
    (fun j h1 h2 bef ne => match j, h1, h2, bef, ne with
      | 0, _, _, _, _ => fun _ _ _ _ h => PyProof.Rows.lt_bool h
      | 1, _, _, bef, _ => vv_rc_lt_val hp hq ra rb (by have := bef 0 (by decide); simpa using this))
  rw [show ([Value.bool (kindB p), va].toArray.size) = 2 from rfl, show ([Value.bool (kindB q), vb].toArray.size) = 2 from rfl, vv_pair_lex hp hq (vLt p q) (fun _ => rfl)] at R
  have z : wpAny (model X.prog X.w) X.A (compareOp .Lt (.ref a) (.ref b)) (EP X pins σ Q) X.xe s := R X.prog X.w X.xe (EP X pins σ Q) ⟨.bl _, H, I, rfl, fin⟩
  exact z
theorem op_gt_keyV (hu : X.A.units < cLine) : OpR X (compareOp .Gt) (rKeyGV X.K) := by
  intro pins s σ H x y v u Q I rx ry h
  obtain ⟨a, b, p, q, rfl, rfl, hp, hq, ha, hb, fin⟩ := h
  cases rx
  cases ry
  obtain ⟨its, r1, p1, _⟩ := I.tuple ha
  obtain ⟨its2, r2, p2, _⟩ := I.tuple hb
  obtain ⟨va, rfl, ra⟩ := pair_of r1
  obtain ⟨vb, rfl, rb⟩ := pair_of r2
  have R := IndCmp.rc_gt (A := X.A) (s := s) (e := fun j => if j = 0 then kindB p == kindB q else decide (p = q)) (r := fun j => if j = 0 then decide (b2i (kindB p) > b2i (kindB q)) else vLt q p) p1 p2 hu
    (fun j h1 h2 => match j, h1, h2 with
      | 0, _, _ => SeqAt.EqAt.bool_bool _ _
      | 1, _, _ => vv_eqAt_val hp hq ra rb)
    (fun j h1 h2 bef ne => match j, h1, h2, bef, ne with
      | 0, _, _, _, _ => fun _ _ _ _ h => PyProof.Rows.gt_bool h
      | 1, _, _, bef, _ => vv_rc_gt_val hp hq ra rb (by have := bef 0 (by decide); simpa using this))
  rw [show ([Value.bool (kindB p), va].toArray.size) = 2 from rfl, show ([Value.bool (kindB q), vb].toArray.size) = 2 from rfl, vv_pair_lex2 hp hq (vLt q p) (fun _ => rfl)] at R
  have z : wpAny (model X.prog X.w) X.A (compareOp .Gt (.ref a) (.ref b)) (EP X pins σ Q) X.xe s := R X.prog X.w X.xe (EP X pins σ Q) ⟨.bl _, H, I, rfl, fin⟩
  exact z
def okD : D → Prop
  | .int _ => True
  | .str _ => True
  | _ => False
def kindD : D → Bool
  | .str _ => true
  | _ => false
def dLt : D → D → Bool
  | .int i, .int j => decide (i < j)
  | .int _, .str _ => true
  | .str x, .str y => decide (x.cps.toList < y.cps.toList)
  | _, _ => false
def ltK : VO := fun d e Q => match d, e with
  | .tup [.bl a, x], .tup [.bl b, y] => okD x ∧ okD y ∧ a = kindD x ∧ b = kindD y ∧ Q (.v (.bl (dLt x y)))
  | _, _ => False
def gtK : VO := fun d e Q => match d, e with
  | .tup [.bl a, x], .tup [.bl b, y] => okD x ∧ okD y ∧ a = kindD x ∧ b = kindD y ∧ Q (.v (.bl (dLt y x)))
  | _, _ => False
theorem okD_v {K : PySem.W.Frag} {tp : Option Tp} {H : Hp} {v : V} {d : D} (o : okD d) (h : Rp K tp H v d) : VV v ∧ kindB v = kindD d := by
  cases d with
  | int i => cases h; exact ⟨.inl ⟨i, rfl⟩, rfl⟩
  | str x => cases h; exact ⟨.inr ⟨x, rfl⟩, rfl⟩
  | _ => exact o.elim
theorem dLt_v {K : PySem.W.Frag} {tp : Option Tp} {H : Hp} {v w : V} {d e : D} (o : okD d) (o2 : okD e) (h : Rp K tp H v d) (h2 : Rp K tp H w e) : vLt v w = dLt d e := by
  cases d with
  | int i =>
    cases h
    cases e with
    | int j => cases h2; rfl
    | str y => cases h2; rfl
    | _ => exact o2.elim
  | str x =>
    cases h
    cases e with
    | int j => cases h2; rfl
    | str y => cases h2; rfl
    | _ => exact o2.elim
  | _ => exact o.elim
theorem pair_rp {Γ : Gm} {H : Hp} {v : V} {a : Bool} {x : D} (h : RpW Γ H v (.tup [.bl a, x])) : ∃ p w, v = .ref p ∧ SqT Γ.K H p [.bl a, w] ∧ Γ.Rp H w x := by
  obtain ⟨p, xs, rfl, h1, h2⟩ := h.tup
  cases h2 with
  | cons g1 g2 =>
    cases g1
    cases g2 with
    | cons g3 g4 =>
      cases g4
      exact ⟨p, _, rfl, h1, g3⟩
theorem o_ltK (hK : S.K = X.K) (hu : X.A.units < cLine) : OpV S X (compareOp .Lt) ltK := by
  refine ⟨_, op_lt_keyV hu, ?_⟩
  intro Γ H x y d e Q Q0 eK hx hy hg k
  have eK' : X.K = Γ.K := (eK.trans hK).symm
  unfold ltK at hg
  split at hg
  · obtain ⟨o1, o2, rfl, rfl, hq⟩ := hg
    obtain ⟨p, u, rfl, h1, h2⟩ := pair_rp hx
    obtain ⟨q, v, rfl, h3, h4⟩ := pair_rp hy
    have e1 := okD_v o1 h2
    have e2 := okD_v o2 h4
    refine ⟨p, q, u, v, rfl, rfl, e1.1, e2.1, by rw [eK', e1.2]; exact h1, by rw [eK', e2.2]; exact h3, ?_⟩
    rw [dLt_v o1 o2 h2 h4]
    exact k _ hq _ _ (Same.refl _) (.bl _)
  · exact hg.elim
theorem o_gtK (hK : S.K = X.K) (hu : X.A.units < cLine) : OpV S X (compareOp .Gt) gtK := by
  refine ⟨_, op_gt_keyV hu, ?_⟩
  intro Γ H x y d e Q Q0 eK hx hy hg k
  have eK' : X.K = Γ.K := (eK.trans hK).symm
  unfold gtK at hg
  split at hg
  · obtain ⟨o1, o2, rfl, rfl, hq⟩ := hg
    obtain ⟨p, u, rfl, h1, h2⟩ := pair_rp hx
    obtain ⟨q, v, rfl, h3, h4⟩ := pair_rp hy
    have e1 := okD_v o1 h2
    have e2 := okD_v o2 h4
    refine ⟨p, q, u, v, rfl, rfl, e1.1, e2.1, by rw [eK', e1.2]; exact h1, by rw [eK', e2.2]; exact h3, ?_⟩
    rw [dLt_v o2 o1 h4 h2]
    exact k _ hq _ _ (Same.refl _) (.bl _)
  · exact hg.elim
end
end Va

set_option Elab.async false
set_option linter.all false
set_option maxRecDepth 100000
set_option maxHeartbeats 4000000
namespace Va
open PySem PySem.Spec PyProof.Rows L2 Ind
/-! ### columns, expressions, formulas -/
inductive Cd where
  | s
  | n (b : Int)
def Cd.d : Cd → D
  | .s => .tup [.str "string"]
  | .n b => .tup [.str "integer", .int b]
def Cd.w : Cd → Tx
  | .s => "string"
  | .n _ => "integer"
def Cd.ok : Cd → Prop
  | .s => True
  | .n b => 0 ≤ b ∧ b ≤ 1000000000000
abbrev Col := Tx × Cd
def colD (p : Col) : D := .tup [.str p.1, p.2.d]
def colsD (cs : List Col) : D := .tup (cs.map colD)
def valOk : Cd → D → Prop
  | .s, v => ∃ x, v = .str x
  | .n _, v => ∃ i, v = .int i
inductive Op where
  | col (n : Tx)
  | num (i : Int)
  | txt (x : Tx)
def Op.d : Op → D
  | .col n => .tup [.str "column", .str n]
  | .num i => .tup [.str "integer", .int i]
  | .txt x => .tup [.str "string", .str x]
def sgnD : Bool → Tx
  | true => "+"
  | false => "-"
abbrev Ex := List (Bool × Op)
def termD (t : Bool × Op) : D := .tup [.str (sgnD t.1), t.2.d]
def exD (e : Ex) : D := .tup (e.map termD)
def fits (cs : List Col) (w : Tx) : Op → Prop
  | .col n => ∃ k : Cd, (n, k) ∈ cs ∧ k.w = w
  | .num _ => w = "integer"
  | .txt _ => w = "string"
structure ExOk (cs : List Col) (w : Tx) (e : Ex) : Prop where
  ne : e ≠ []
  fit : ∀ t ∈ e, fits cs w t.2
  one : w = "string" → e.length = 1
  len : e.length ≤ 20
  word : w = "string" ∨ w = "integer"
inductive Fm where
  | cmp (sg : Tx) (l r : Ex)
  | neg (f : Fm)
  | all (fs : List Fm)
  | any (fs : List Fm)
  | imp (a b : Fm)
  | tt
  | ff
mutual
def Fm.d : Fm → D
  | .cmp sg l r => .tup [.str "compare", .str sg, exD l, exD r]
  | .neg f => .tup [.str "not", f.d]
  | .all fs => .tup [.str "and", .tup (Fm.dL fs)]
  | .any fs => .tup [.str "or", .tup (Fm.dL fs)]
  | .imp a b => .tup [.str "implies", a.d, b.d]
  | .tt => .tup [.str "true"]
  | .ff => .tup [.str "false"]
def Fm.dL : List Fm → List D
  | [] => []
  | f :: fs => f.d :: Fm.dL fs
end
theorem Fm.dL_map : ∀ fs : List Fm, Fm.dL fs = fs.map Fm.d
  | [] => rfl
  | f :: fs => by show f.d :: Fm.dL fs = f.d :: fs.map Fm.d; rw [Fm.dL_map fs]
mutual
def Fm.dep : Fm → Nat
  | .cmp _ _ _ => 0
  | .neg f => f.dep + 1
  | .all fs => Fm.depL fs + 1
  | .any fs => Fm.depL fs + 1
  | .imp a b => max a.dep b.dep + 1
  | .tt => 0
  | .ff => 0
def Fm.depL : List Fm → Nat
  | [] => 0
  | f :: fs => max f.dep (Fm.depL fs)
end
theorem Fm.depL_le {n : Nat} : ∀ {fs : List Fm}, (∀ f ∈ fs, f.dep ≤ n) → Fm.depL fs ≤ n
  | [], _ => Nat.zero_le _
  | f :: fs, h => Nat.max_le.mpr ⟨h f (List.mem_cons_self ..), Fm.depL_le fun g hg => h g (List.mem_cons_of_mem _ hg)⟩
theorem Fm.dep_mem : ∀ {fs : List Fm} {f : Fm}, f ∈ fs → f.dep ≤ Fm.depL fs
  | g :: fs, f, h => by
    show f.dep ≤ max g.dep (Fm.depL fs)
    rcases List.mem_cons.mp h with rfl | h
    · exact Nat.le_max_left _ _
    · exact Nat.le_trans (Fm.dep_mem h) (Nat.le_max_right _ _)
def ops : List Tx := ["=", "!=", "<", "<=", ">", ">="]
mutual
/-- fits the columns; no more than 50 parts -/
def Fm.ok (cs : List Col) : Fm → Prop
  | .cmp sg l r => sg ∈ ops ∧ ∃ w, ExOk cs w l ∧ ExOk cs w r
  | .neg f => f.ok cs
  | .all fs => fs.length ≤ 50 ∧ Fm.okL cs fs
  | .any fs => fs.length ≤ 50 ∧ Fm.okL cs fs
  | .imp a b => a.ok cs ∧ b.ok cs
  | .tt => True
  | .ff => True
def Fm.okL (cs : List Col) : List Fm → Prop
  | [] => True
  | f :: fs => f.ok cs ∧ Fm.okL cs fs
end
theorem Fm.okL_of {cs : List Col} : ∀ {fs : List Fm}, (∀ f ∈ fs, f.ok cs) → Fm.okL cs fs
  | [], _ => trivial
  | f :: fs, h => ⟨h f (List.mem_cons_self ..), Fm.okL_of fun g hg => h g (List.mem_cons_of_mem _ hg)⟩
theorem Fm.ok_mem {cs : List Col} : ∀ {fs : List Fm} {f : Fm}, Fm.okL cs fs → f ∈ fs → f.ok cs
  | g :: fs, f, h, m => by
    rcases List.mem_cons.mp m with rfl | m
    · exact h.1
    · exact Fm.ok_mem h.2 m
/-! ### their values -/
def intOf : D → Int
  | .int i => i
  | _ => 0
def ev (nm : List Tx) (row : List D) : Op → D
  | .col n => (row[nm.idxOf n]?).getD .non
  | .num i => .int i
  | .txt x => .str x
def sg1 (b : Bool) (i : Int) : Int := if b then i else -i
def sumV (nm : List Tx) (row : List D) : Ex → Int
  | [] => 0
  | t :: e => sg1 t.1 (intOf (ev nm row t.2)) + sumV nm row e
theorem sumV_app (nm : List Tx) (row : List D) : ∀ (e f : Ex), sumV nm row (e ++ f) = sumV nm row e + sumV nm row f
  | [], f => by show _ = 0 + _; rw [Int.zero_add]; rfl
  | t :: e, f => by
    show sg1 t.1 (intOf (ev nm row t.2)) + sumV nm row (e ++ f) = (sg1 t.1 (intOf (ev nm row t.2)) + sumV nm row e) + _
    rw [sumV_app nm row e f, Int.add_assoc]
def exV (nm : List Tx) (row : List D) (e : Ex) : D := match e with
  | [t] => ev nm row t.2
  | e => .int (sumV nm row e)
def cmpI (l r : D) : Int := if dLt l r = true then -1 else if dLt r l = true then 1 else 0
def fitB (sg : Tx) (o : Int) : Bool :=
  if sg = "=" then decide (o = 0) else if sg = "!=" then decide (¬ o = 0) else if sg = "<" then decide (o < 0) else if sg = "<=" then decide (o ≤ 0) else if sg = ">" then decide (0 < o) else decide (0 ≤ o)
mutual
def Fm.tr (nm : List Tx) (row : List D) : Fm → Bool
  | .cmp sg l r => fitB sg (cmpI (exV nm row l) (exV nm row r))
  | .neg f => !f.tr nm row
  | .all fs => Fm.trA nm row fs
  | .any fs => Fm.trO nm row fs
  | .imp a b => !a.tr nm row || b.tr nm row
  | .tt => true
  | .ff => false
def Fm.trA (nm : List Tx) (row : List D) : List Fm → Bool
  | [] => true
  | f :: fs => f.tr nm row && Fm.trA nm row fs
def Fm.trO (nm : List Tx) (row : List D) : List Fm → Bool
  | [] => false
  | f :: fs => f.tr nm row || Fm.trO nm row fs
end
theorem Fm.trA_all (nm : List Tx) (row : List D) : ∀ fs : List Fm, Fm.trA nm row fs = fs.all (Fm.tr nm row)
  | [] => rfl
  | f :: fs => by show (f.tr nm row && Fm.trA nm row fs) = (f.tr nm row && fs.all (Fm.tr nm row)); rw [Fm.trA_all nm row fs]
theorem Fm.trO_any (nm : List Tx) (row : List D) : ∀ fs : List Fm, Fm.trO nm row fs = fs.any (Fm.tr nm row)
  | [] => rfl
  | f :: fs => by show (f.tr nm row || Fm.trO nm row fs) = (f.tr nm row || fs.any (Fm.tr nm row)); rw [Fm.trO_any nm row fs]
structure RowOk (cs : List Col) (row : List D) : Prop where
  nd : (cs.map (·.1)).Nodup
  len : row.length = cs.length
  val : ∀ (i : Nat) (p : Col) (v : D), cs[i]? = some p → row[i]? = some v → valOk p.2 v
theorem idx_col {n : Tx} {k : Cd} : ∀ {cs : List Col}, (cs.map (·.1)).Nodup → (n, k) ∈ cs → n ∈ cs.map (·.1) ∧ cs[(cs.map (·.1)).idxOf n]? = some (n, k)
  | p :: cs, nd, m => by
    have mem : n ∈ (p :: cs).map (·.1) := List.mem_map.mpr ⟨_, m, rfl⟩
    refine ⟨mem, ?_⟩
    rw [List.map_cons] at nd ⊢
    rw [List.nodup_cons] at nd
    rw [List.idxOf_cons]
    rcases List.mem_cons.mp m with e | m
    · rw [← e]
      show ((n, k) :: cs)[bif n == n then 0 else _]? = _
      rw [beq_self_eq_true]
      rfl
    · have ne : p.1 ≠ n := fun e => nd.1 (by rw [e]; exact List.mem_map.mpr ⟨_, m, rfl⟩)
      rw [beq_eq_false_iff_ne.mpr ne]
      show (p :: cs)[(cs.map (·.1)).idxOf n + 1]? = _
      rw [List.getElem?_cons_succ]
      exact (idx_col nd.2 m).2
theorem ev_col {cs : List Col} {row : List D} (ro : RowOk cs row) {n : Tx} {k : Cd} (m : (n, k) ∈ cs) : n ∈ cs.map (·.1) ∧ ∃ v, row[(cs.map (·.1)).idxOf n]? = some v ∧ ev (cs.map (·.1)) row (.col n) = v ∧ valOk k v := by
  obtain ⟨h1, h2⟩ := idx_col ro.nd m
  have hl := (List.getElem?_eq_some_iff.mp h2).1
  have hl2 : (cs.map (·.1)).idxOf n < row.length := by rw [ro.len]; exact hl
  refine ⟨h1, _, List.getElem?_eq_getElem hl2, ?_, ro.val _ _ _ h2 (List.getElem?_eq_getElem hl2)⟩
  show (row[(cs.map (·.1)).idxOf n]?).getD .non = _
  rw [List.getElem?_eq_getElem hl2]; rfl
def wordOk (w : Tx) (v : D) : Prop := (w = "string" ∧ ∃ x, v = .str x) ∨ (w = "integer" ∧ ∃ i, v = .int i)
theorem ev_ok {cs : List Col} {row : List D} (ro : RowOk cs row) {w : Tx} {o : Op} (h : fits cs w o) : wordOk w (ev (cs.map (·.1)) row o) := by
  cases o with
  | col n =>
    obtain ⟨k, m, rfl⟩ := h
    obtain ⟨_, v, _, e, hv⟩ := ev_col ro m
    rw [e]
    cases k with
    | s => exact .inl ⟨rfl, hv⟩
    | n b => exact .inr ⟨rfl, hv⟩
  | num i => cases h; exact .inr ⟨rfl, i, rfl⟩
  | txt x => cases h; exact .inl ⟨rfl, x, rfl⟩
theorem ev_int {cs : List Col} {row : List D} (ro : RowOk cs row) {o : Op} (h : fits cs "integer" o) : ev (cs.map (·.1)) row o = .int (intOf (ev (cs.map (·.1)) row o)) := by
  rcases ev_ok ro h with ⟨e, _⟩ | ⟨_, i, e⟩
  · exact absurd e (by decide)
  · rw [e]; rfl
theorem exV_ok {cs : List Col} {row : List D} (ro : RowOk cs row) {w : Tx} {e : Ex} (h : ExOk cs w e) : wordOk w (exV (cs.map (·.1)) row e) := by
  match e, h with
  | [], h => exact absurd rfl h.ne
  | [t], h => exact ev_ok ro (h.fit t (List.mem_singleton.mpr rfl))
  | a :: b :: r, h =>
    rcases h.word with rfl | rfl
    · have := h.one rfl
      simp at this
    · exact .inr ⟨rfl, _, rfl⟩
end Va
namespace Va
open PySem PySem.Spec PyProof.Rows L2 Ind
/-- signs that there are -/
def tOk (x : Tx) : Prop := ∀ c ∈ x.cps.toList, c < 0x110000
theorem tOk.ok {x : Tx} (h : tOk x) : PyData.strOk x = true := by
  unfold PyData.strOk
  rw [Array.all_eq_true']
  intro c hc
  exact decide_eq_true (h c (by simpa using hc))
theorem tOk_app {x y : Tx} (h : tOk x) (h2 : tOk y) : tOk (x ++ y) := fun c hc => by
  have hc : c ∈ (x.cps ++ y.cps).toList := hc
  rw [Array.toList_append] at hc
  rcases List.mem_append.mp hc with z | z
  · exact h c z
  · exact h2 c z
theorem atI_mem {α : Type} {l : List α} {i : Int} {x : α} (e : atI l i = some x) : x ∈ l := by
  unfold L2.atI at e
  cases h : ixN l.length i with
  | none => rw [h] at e; cases e
  | some j => rw [h] at e; exact List.mem_of_getElem? e
theorem tOk_one {x : Tx} {i : Int} {c : Nat} (h : tOk x) (e : atI x.cps.toList i = some c) : tOk ⟨#[c]⟩ := fun d hd => by
  have hd : d ∈ [c] := hd
  cases List.mem_singleton.mp hd
  exact h c (atI_mem e)
theorem tOk_of {x : Tx} (h : (x.cps.toList.all fun c => decide (c < 0x110000)) = true) : tOk x := fun c hc => of_decide_eq_true (List.all_eq_true.mp h c hc)
def Op.tok : Op → Prop
  | .col n => tOk n
  | .num _ => True
  | .txt x => tOk x
theorem shp2 {x y : Tx} (h : tOk x) (h2 : tOk y) : SeqAt.shaped (D.tup [.str x, .str y]).pd = true := by
  simp [D.pd, pdL, SeqAt.shaped]
  simp [PyData.canLay0, PyData.canLayAll0, PyData.depth, PyData.depthAll, h.ok, h2.ok]
end Va
namespace Va
open PySem PySem.Spec PyProof.Rows L2 Ind
/-! ### the order of values -/
theorem lex_tri : ∀ {a b : List Nat}, ¬ a < b → ¬ b < a → a = b
  | [], [], _, _ => rfl
  | [], b :: l, h, _ => absurd (List.nil_lt_cons b l) h
  | a :: l, [], _, h => absurd (List.nil_lt_cons a l) h
  | a :: l, b :: m, h, h2 => by
    rw [List.cons_lt_cons_iff] at h h2
    have e : a = b := by omega
    subst e
    rw [lex_tri (fun z => h (.inr ⟨rfl, z⟩)) (fun z => h2 (.inr ⟨rfl, z⟩))]
theorem lex_no {a b : List Nat} (h : a < b) (h2 : b < a) : False := List.lt_irrefl a (List.lt_trans h h2)
theorem tx_ext {x y : Tx} (h : x.cps.toList = y.cps.toList) : x = y := by
  obtain ⟨a⟩ := x
  obtain ⟨b⟩ := y
  exact congrArg PySem.Str.mk (Array.toList_inj.mp h)
/-- what the three ways of an order say -/
theorem cmp_ways {w : Tx} {l r : D} (hl : wordOk w l) (hr : wordOk w r) : (dLt l r = true ∧ dLt r l = false ∧ l ≠ r ∧ cmpI l r = -1) ∨ (dLt l r = false ∧ dLt r l = true ∧ l ≠ r ∧ cmpI l r = 1) ∨ (dLt l r = false ∧ dLt r l = false ∧ l = r ∧ cmpI l r = 0) := by
  rcases hl with ⟨e1, x, rfl⟩ | ⟨e1, i, rfl⟩ <;> rcases hr with ⟨e2, y, rfl⟩ | ⟨e2, j, rfl⟩
  · have d1 : dLt (.str x) (.str y) = decide (x.cps.toList < y.cps.toList) := rfl
    have d2 : dLt (.str y) (.str x) = decide (y.cps.toList < x.cps.toList) := rfl
    unfold cmpI
    rw [d1, d2]
    by_cases h : x.cps.toList < y.cps.toList
    · have n : ¬ y.cps.toList < x.cps.toList := fun z => lex_no h z
      refine .inl ⟨decide_eq_true h, decide_eq_false n, fun e => ?_, by rw [if_pos (decide_eq_true h)]⟩
      cases e
      exact lex_no h h
    · by_cases h2 : y.cps.toList < x.cps.toList
      · refine .inr (.inl ⟨decide_eq_false h, decide_eq_true h2, fun e => ?_, by rw [if_neg (by simpa using h), if_pos (decide_eq_true h2)]⟩)
        cases e
        exact h h2
      · exact .inr (.inr ⟨decide_eq_false h, decide_eq_false h2, by rw [tx_ext (lex_tri h h2)], by rw [if_neg (by simpa using h), if_neg (by simpa using h2)]⟩)
  · rw [e1] at e2; exact absurd e2 (by decide)
  · rw [e1] at e2; exact absurd e2 (by decide)
  · have d1 : dLt (.int i) (.int j) = decide (i < j) := rfl
    have d2 : dLt (.int j) (.int i) = decide (j < i) := rfl
    unfold cmpI
    rw [d1, d2]
    by_cases h : i < j
    · refine .inl ⟨decide_eq_true h, decide_eq_false (by omega), fun e => ?_, by rw [if_pos (decide_eq_true h)]⟩
      injection e with e
      omega
    · by_cases h2 : j < i
      · refine .inr (.inl ⟨decide_eq_false h, decide_eq_true h2, fun e => ?_, by rw [if_neg (by simpa using h), if_pos (decide_eq_true h2)]⟩)
        injection e with e
        omega
      · have : i = j := by omega
        subst this
        exact .inr (.inr ⟨decide_eq_false h, decide_eq_false h2, rfl, by rw [if_neg (by simpa using h), if_neg (by simpa using h2)]⟩)
theorem wordOk.okD {w : Tx} {v : D} (h : wordOk w v) : okD v := by
  rcases h with ⟨_, x, rfl⟩ | ⟨_, i, rfl⟩ <;> trivial
end Va
namespace Va
open PySem PySem.Spec PyProof.Rows L2 Ind
theorem eq_cmp_s (x y : Tx) : decide (x = y) = decide (cmpI (.str x) (.str y) = 0) := by
  rcases cmp_ways (w := "string") (.inl ⟨rfl, x, rfl⟩) (.inl ⟨rfl, y, rfl⟩) with ⟨_, _, n, e⟩ | ⟨_, _, n, e⟩ | ⟨_, _, n, e⟩ <;> rw [e]
  · rw [decide_eq_false fun z => n (by rw [z])]; rfl
  · rw [decide_eq_false fun z => n (by rw [z])]; rfl
  · injection n with n
    rw [decide_eq_true n]; rfl
theorem eq_cmp_i (x y : Int) : decide (x = y) = decide (cmpI (.int x) (.int y) = 0) := by
  rcases cmp_ways (w := "integer") (.inr ⟨rfl, x, rfl⟩) (.inr ⟨rfl, y, rfl⟩) with ⟨_, _, n, e⟩ | ⟨_, _, n, e⟩ | ⟨_, _, n, e⟩ <;> rw [e]
  · rw [decide_eq_false fun z => n (by rw [z])]; rfl
  · rw [decide_eq_false fun z => n (by rw [z])]; rfl
  · injection n with n
    rw [decide_eq_true n]; rfl
end Va

set_option Elab.async false
set_option linter.all false
set_option maxRecDepth 100000
set_option maxHeartbeats 4000000
namespace Va
open PySem PySem.Spec PyProof.Rows L2 Ind
section
variable {X : Cx} {S : Sg} {e o a : Expr} {p p2 pos pos2 apos cpos : Pos}
/-! ### list(d), dict(d), list(d.values()) -/
theorem call_list_dR (hc : X.calm = true) : CallR X (.type "list") (fun xs H Q => ∃ p kvs, xs = [.ref p] ∧ Rd H p (.dK kvs) ∧ ∀ q, H q = none → Q (.ref q) (upd H q (.lst (kvs.map fun kv => kV kv.1)))) := by
  intro pins s σ H xs us Q I r h
  obtain ⟨p, kvs, ee, hk, q⟩ := h
  subst ee
  obtain ⟨u, eu, rx⟩ := vals1 r
  subst eu
  obtain rfl : u = Value.ref p := rx
  obtain ⟨z, lo, vs, rk, hd⟩ := hk.ok I.hok
  obtain ⟨ep, hat⟩ := hd.dictAt
  have hl : kvs.length = vs.length := Paired.length rk
  refine PySem.W.kdl_call (PySem.W.kdl_dict (knd := mixKind X.prog X.w) (kvs := vs) (ep := ep) lo) (I.ok.hd hc) hat (by rw [← hl]; exact z) fun h' tk acc' c' hkeep hS hacc => ?_
  refine ⟨.ref s.heap.objs.size, upd H s.heap.objs.size (.lst (kvs.map fun kv => kV kv.1)), I.laid hkeep (Nat.le_refl _) (show ObjOk X.prog X.w _ _ _ (.lst (kvs.map fun kv => kV kv.1)) from ⟨?_, acc'.toList, c', ?_, ?_⟩), rfl, q _ (I.hok.fresh (Nat.le_refl _))⟩
  · rw [List.length_map]; exact z
  · have el : acc'.toList.length = acc'.size := by simp
    refine vals_of_at (by rw [List.length_map, el, hacc.1, hl]) fun j x w h1 h2 => ?_
    obtain ⟨k, y, hky, hi⟩ := hacc.2 j w (by rw [← Array.getElem?_toList]; exact h2)
    have e1 : (kvs.map (·.1))[j]? = some k := by
      rw [KV.keys rk, List.getElem?_map, hky] <;> rfl
    have e2 : (kvs.map fun kv => kV kv.1)[j]? = some (kV k) := by
      have e3 : (kvs.map fun kv => kV kv.1) = (kvs.map (·.1)).map kV := by rw [List.map_map] <;> rfl
      rw [e3, List.getElem?_map, e1] <;> rfl
    rw [e2] at h1
    cases h1
    exact keyIs_rel hi
  · rw [Array.toArray_toList]; exact hS
theorem kv_at : ∀ {kvs : List (Key × V)} {vs : List (Key × Value)} {i : Nat} {y : Key × V} {k : Key} {w : Value}, KV kvs vs → kvs[i]? = some y → vs[i]? = some (k, w) → RelV y.2 w
  | _, _, _, _, _, _, .nil, h, _ => by simp at h
  | _, _, 0, _, _, _, .cons r _, h1, h2 => by
    simp only [List.getElem?_cons_zero, Option.some.injEq] at h1 h2
    subst h1; subst h2
    exact r.2
  | _, _, i + 1, _, _, _, .cons _ t, h1, h2 => kv_at (i := i) t (by simpa using h1) (by simpa using h2)
/-- list(e.values()) -/
def tListVals (te : TE) : TE := fun σ H Q => te σ H fun x H1 => ∃ d kvs, x = .ref d ∧ Rd H1 d (.dK kvs) ∧ ∀ q, H1 q = none → Q (.ref q) (upd H1 q (.lst (kvs.map fun kv => kv.2)))
theorem pe_listVals {te : TE} (hc : X.calm = true) (he : PE X e te) (hg : Gl X "list") (hm : X.mg "list" = none) (hv : bootBuiltins "list" = some (.type "list")) (hbase : attributeBase e "values" X.env (eval e X.env) = eval e X.env := by rfl) (hline : (apos.endLine == cpos.line) = true := by rfl)
    (hs : starEach [.Call (.Attribute e "values" apos) [] [] cpos] X.env = (false, eval (.Call (.Attribute e "values" apos) [] [] cpos) X.env) :: starEach [] X.env := by rfl) :
    PE X (.Call (.Name "list" p) [.Call (.Attribute e "values" apos) [] [] cpos] [] pos) (tListVals te) := by
  refine ⟨fun pins s σ H Q I hq => ?_⟩
  refine wpAny_Call_Name_kw (ld_blt I hg hm hv ?_)
  refine PyProof.Rows.callWith_type1 ?_ hs rfl
  rw [hs]
  show wpAny _ _ (spliced ((false, eval (.Call (.Attribute e "values" apos) [] [] cpos) X.env) :: backTo pos (starEach [] X.env))) _ _ s
  refine Calls.spliced_cons ?_
  refine wpAny_Call_method (T := "dict") (id := "dict.values") hbase rfl hline F.plainAttrs_dict F.slot_dict_values F.type_dict_values (thn (he.run pins s σ H _ I hq) fun u s1 ⟨x, H1, I1, rx, d, kvs, ex, hd, q⟩ => ?_)
  subst ex
  obtain rfl : u = Value.ref d := rx
  obtain ⟨hz, hs0, vs, kv, hdo⟩ := hd.ok I1.hok
  obtain ⟨ep, hat⟩ := hdo.dictAt
  have lk : kvs.length = vs.length := Paired.length kv
  have I2 : Inv X pins σ H1 { s1 with heap := s1.heap.push { cls := .type "dict_values", data := .fields #[.ref d] } } := I1.kept (t' := s1.toks) fun b ob q => Heap.get?_push_of_some _ q
  refine ⟨hdo.typeIs, hdo.mapOf.noDict, ?_⟩
  show wpAny _ _ (callWith cpos (.builtin "dict.values") [.ref d] [] []) _ X.xe s1
  refine method_meetsIn F.slot_dict_values F.entry_dict_values rfl (PySem.evalArgs_none ⟨rfl, hdo.typeIs, F.args_dict_values_1 _, _, meets_dict_values (mixKind X.prog X.w) d hs0, ⟨vs, hdo⟩, ?_⟩)
  refine Calls.spliced_nil ?_
  refine PySem.W.kdl_call (PySem.W.kdl_values (knd := mixKind X.prog X.w) (r := s1.heap.objs.size) (d := d) (kvs := vs) (ep := ep)) (I1.ok.hd hc) ⟨⟨_, Heap.get?_push_size _ rfl, rfl, rfl⟩, hat.push _⟩ (by rw [← lk]; exact hz) fun h' tk acc' c' hkeep hS hacc => ?_
  refine ⟨.ref _, upd H1 (s1.heap.push { cls := .type "dict_values", data := .fields #[.ref d] }).objs.size (.lst (kvs.map fun kv => kv.2)), I2.laid hkeep (Nat.le_refl _) (show ObjOk X.prog X.w _ _ _ (.lst (kvs.map fun kv => kv.2)) from ⟨?_, acc'.toList, c', ?_, ?_⟩), rfl, q _ (I2.hok.fresh (Nat.le_refl _))⟩
  · rw [List.length_map]; exact hz
  · have el : acc'.toList.length = acc'.size := by simp
    refine vals_of_at (by rw [List.length_map, el, hacc.1, lk]) fun j x w h1 h2 => ?_
    obtain ⟨k, hky⟩ := hacc.2 j w (by rw [← Array.getElem?_toList]; exact h2)
    rw [List.getElem?_map] at h1
    obtain ⟨y, hy, rfl⟩ := Option.map_eq_some_iff.mp h1
    exact kv_at kv hy hky
  · rw [Array.toArray_toList]; exact hS
def listDG : VC := fun ds Q => match ds with
  | [.lst xs] => Q (.fl xs)
  | [.tup xs] => Q (.fl xs)
  | [.dk kvs] => Q (.fl (kvs.map fun p => key p.1))
  | _ => False
theorem c_listD (hK : S.K = X.K) (hc : X.calm = true) : CallV S X (.type "list") listDG := by
  refine ⟨_, call_list_of.or (call_list_dR hc), ?_⟩
  intro Γ H xs ds Q Q0 eK hx hg k
  have eK' : X.K = Γ.K := (eK.trans hK).symm
  have fin : ∀ (ys : List V) (zs : List D), Γ.RpL H ys zs → Q0 (.fl zs) → ∀ l, H l = none → Q (.ref l) (upd H l (.lst ys)) := fun ys zs h2 hq l nl => by
    have sm := same_upd (o := .lst ys) nl
    exact k _ hq _ _ sm ⟨l, _, rfl, nl, upd_same, RpL.kq (.same sm) _ _ h2⟩
  unfold listDG at hg
  split at hg
  · match hx with
    | .cons h .nil =>
      obtain ⟨p, ys, rfl, h1, h2⟩ := h.seq
      exact .inl ⟨p, ys, rfl, .inl (by rw [eK']; exact h1), fin _ _ h2 hg⟩
  · match hx with
    | .cons h .nil =>
      obtain ⟨p, ys, rfl, h1, h2⟩ := h.tup
      exact .inl ⟨p, ys, rfl, .inr (by rw [eK']; exact h1), fin _ _ h2 hg⟩
  · match hx with
    | .cons h .nil =>
      obtain ⟨p, kv, rfl, h1, h2⟩ := h.dk
      exact .inr ⟨p, kv, rfl, h1, fin _ _ (keys_rp h2) hg⟩
  · exact hg.elim
def dictG : VC := fun ds Q => match ds with
  | [.dk kvs] => Q (.fd kvs)
  | _ => False
theorem c_dict : CallV S X (.type "dict") dictG := by
  refine ⟨_, call_dictD, ?_⟩
  intro Γ H xs ds Q Q0 eK hx hg k
  unfold dictG at hg
  split at hg
  · match hx with
    | .cons h .nil =>
      obtain ⟨p, kv, rfl, h1, h2⟩ := h.dk
      refine ⟨p, kv, rfl, h1, fun l nl => ?_⟩
      have sm := same_upd (o := .dK kv) nl
      exact k _ hg _ _ sm ⟨l, _, rfl, nl, upd_same, RpK.kq (.same sm) _ _ h2⟩
  · exact hg.elim
def dkD (d : D) (Q : List (Key × D) → Prop) : Prop := match d with
  | .dk kvs => Q kvs
  | _ => False
theorem vals_rp {Γ : Gm} {H : Hp} : ∀ {kv : List (Key × V)} {ds : List (Key × D)}, RpK Γ.K Γ.tp H kv ds → Γ.RpL H (kv.map fun p => p.2) (ds.map fun p => p.2)
  | _, [], h => by cases h; exact .nil
  | _, (k, d) :: ds, h => by
    cases h with
    | cons h1 h2 => exact .cons h1 (vals_rp h2)
def vLvals (t : VT) : FT := fun E Q => t E fun d E1 => dkD d fun kvs => Q (.fl (kvs.map fun p => p.2)) E1
theorem fe_listVals {t : VT} (hc : X.calm = true) (hg : Gl X "list") (hm : X.mg "list" = none) (he : VE S X e t) (hv : bootBuiltins "list" = some (.type "list") := by rfl)
    (hbase : attributeBase e "values" X.env (eval e X.env) = eval e X.env := by rfl) (hline : (apos.endLine == cpos.line) = true := by rfl)
    (hs : starEach [.Call (.Attribute e "values" apos) [] [] cpos] X.env = (false, eval (.Call (.Attribute e "values" apos) [] [] cpos) X.env) :: starEach [] X.env := by rfl) :
    FE S X (.Call (.Name "list" p) [.Call (.Attribute e "values" apos) [] [] cpos] [] pos) (vLvals t) := by
  refine pe_weak (pe_listVals hc he hg hm hv hbase hline hs) ?_
  rintro σ H Q ⟨Γ, E, Q0, ok, rp, ht, k⟩
  refine ⟨Γ, E, _, ok, rp, ht, fun d E1 hq x H1 kq1 rp1 hx => ?_⟩
  cases d with
  | dk ds =>
    obtain ⟨a, o, kv, rfl, h1, h2⟩ := hx.dk_inv
    refine ⟨a, kv, rfl, .inr ⟨o, h1⟩, fun q nq => ?_⟩
    have sm := same_upd (o := .lst (kv.map fun p => p.2)) nq
    exact k _ _ hq _ _ (kq1.trans (.same sm)) (rp1.same sm) (RpN.rep (x := .fl _) rp1 sm ⟨q, _, rfl, nq, upd_same, RpL.kq (.same sm) _ _ (vals_rp h2)⟩)
  | _ => exact hq.elim
end
end Va

set_option Elab.async false
set_option linter.all false
set_option maxRecDepth 100000
set_option maxHeartbeats 4000000
namespace Va
open PySem PySem.Spec PyProof.Rows L2 Ind
/-! ### the same data; rows of names; reading a dict -/
/-- data that may be compared by the laws' own comparison, in so many levels -/
def D.sm : Nat → D → Prop
  | 0, _ => False
  | n + 1, d => match d with
    | .tup xs => xs.length < 1000000 ∧ ∀ x ∈ xs, D.sm n x
    | .lst xs => xs.length < 1000000 ∧ ∀ x ∈ xs, D.sm n x
    | .dk kvs => D.sm n (.lst (kvs.map fun p => key p.1)) ∧ D.sm n (.lst (kvs.map fun p => p.2))
    | .non => True
    | .bl _ => True
    | .int _ => True
    | .str _ => True
    | _ => False
theorem rng_len (lo : Int) (n : Nat) : (rng lo n).length = n := by simp [rng]
def strD (r : List Tx) : D := .tup (r.map .str)
def allR : List Tx → List (List Tx)
  | [] => [[]]
  | x :: xs => (allR xs).map (fun r => x :: r) ++ allR xs
theorem allR_len : ∀ ns : List Tx, (allR ns).length = 2 ^ ns.length
  | [] => rfl
  | x :: xs => by
    show ((allR xs).map (fun r => x :: r) ++ allR xs).length = 2 ^ (xs.length + 1)
    rw [List.length_append, List.length_map, allR_len xs, Nat.pow_succ]; omega
theorem allR_sub : ∀ {ns : List Tx} {r : List Tx}, r ∈ allR ns → r.Sublist ns
  | [], r, h => by cases List.mem_singleton.mp h; exact .slnil
  | x :: xs, r, h => by
    rcases List.mem_append.mp h with h | h
    · obtain ⟨r', h', rfl⟩ := List.mem_map.mp h
      exact .cons₂ _ (allR_sub h')
    · exact .cons _ (allR_sub h)
def cD (f : Tx → Int) (ns : List Tx) : List (Key × D) := ns.map fun x => (.inr x, .int (f x))
theorem look_cD (f : Tx → Int) {x : Tx} : ∀ {ns : List Tx}, x ∈ ns → look (cD f ns) (.inr x) = some (.int (f x))
  | y :: ns, h => by
    unfold look cD
    rw [List.map_cons, List.find?_cons]
    by_cases e : y = x
    · subst e
      simp
    · have e2 : ¬ ((Sum.inr y : Key) = Sum.inr x) := fun z => e (Sum.inr.inj z)
      simp only [decide_eq_false e2]
      rcases List.mem_cons.mp h with rfl | h
      · exact absurd rfl e
      · exact look_cD f h
theorem any_cD (f : Tx → Int) (x : Tx) : ∀ ns : List Tx, ((cD f ns).any fun kv => decide (kv.1 = Sum.inr x)) = decide (x ∈ ns)
  | [] => rfl
  | y :: xs => by
    show (decide ((Sum.inr y : Key) = Sum.inr x) || (cD f xs).any fun kv => decide (kv.1 = Sum.inr x)) = _
    rw [any_cD f x xs]
    by_cases h : y = x
    · subst h; simp
    · have : ¬ ((Sum.inr y : Key) = Sum.inr x) := fun e => h (Sum.inr.inj e)
      simp only [decide_eq_false this, Bool.false_or]
      exact decide_eq_decide.mpr ⟨fun m => List.mem_cons_of_mem _ m, fun m => (List.mem_cons.mp m).elim (fun e => absurd e.symm h) id⟩
theorem put_cD (f : Tx → Int) {x : Tx} {v : Int} {ns : List Tx} (h : x ∉ ns) : putD (cD f ns) (.inr x) (.int v) = cD (fun y => if y = x then v else f y) (ns ++ [x]) := by
  unfold putD
  rw [any_cD, if_neg (by simpa using h)]
  unfold cD
  rw [List.map_append]
  congr 1
  · refine List.map_congr_left fun y hy => ?_
    show _ = ((Sum.inr y : Key), D.int (if y = x then v else f y))
    rw [if_neg (fun e => h (by rw [← e]; exact hy))]
  · simp
theorem sm_strs {n : Nat} {xs : List Tx} (h : xs.length < 1000000) : D.sm (n + 2) (.lst (xs.map .str)) := ⟨by rw [List.length_map]; exact h, fun x hx => by obtain ⟨y, _, rfl⟩ := List.mem_map.mp hx; exact trivial⟩
theorem sm_strT {n : Nat} {xs : List Tx} (h : xs.length < 1000000) : D.sm (n + 2) (strD xs) := ⟨by rw [List.length_map]; exact h, fun x hx => by obtain ⟨y, _, rfl⟩ := List.mem_map.mp hx; exact trivial⟩
theorem sm_cD {n : Nat} {f : Tx → Int} {ns : List Tx} (h : ns.length < 1000000) : D.sm (n + 3) (.dk (cD f ns)) := by
  refine ⟨⟨by rw [List.length_map, cD, List.length_map]; exact h, fun x hx => ?_⟩, ⟨by rw [List.length_map, cD, List.length_map]; exact h, fun x hx => ?_⟩⟩
  · obtain ⟨p, hp, rfl⟩ := List.mem_map.mp hx
    obtain ⟨y, _, rfl⟩ := List.mem_map.mp hp
    exact trivial
  · obtain ⟨p, hp, rfl⟩ := List.mem_map.mp hx
    obtain ⟨y, _, rfl⟩ := List.mem_map.mp hp
    exact trivial
theorem not_before {α : Type} {ns : List α} {i : Nat} {x : α} (nd : ns.Nodup) (e : ns[i]? = some x) : x ∉ ns.take i := by
  intro h
  have n2 : (ns.take (i + 1)).Nodup := nd.sublist (List.take_sublist _ _)
  rw [take_more e] at n2
  exact (List.nodup_append.mp n2).2.2 x h x (by simp) rfl
end Va

set_option Elab.async false
set_option linter.all false
set_option maxRecDepth 100000
set_option maxHeartbeats 4000000
namespace Va
open PySem PySem.Spec PyProof.Rows L2 Ind
section
variable {X : Cx} {S : Sg} {e o a b i value : Expr} {p p2 pos pos2 pos' apos cpos : Pos}
/-! ### is True, is False -/
theorem op_isB2 : OpR X (compareOp .Is) (fun x y H Q => ∃ b : Bool, y = .bl b ∧ ((x = .non ∧ Q (.bl false) H) ∨ ∃ a, x = .bl a ∧ Q (.bl (decide (a = b))) H)) := by
  intro pins s σ H x y v u Q I rx ry h
  obtain ⟨b, rfl, h⟩ := h
  rcases h with ⟨rfl, q⟩ | ⟨a, rfl, q⟩
  · cases (show u = Value.bool b from ry)
    cases (show v = Value.none from rx)
    exact wpAny_is_other rfl (fun z => by cases z) ⟨.bl false, H, I, rfl, q⟩
  · exact op_isBl pins s σ H _ _ v u Q I rx ry ⟨a, b, rfl, rfl, q⟩
def isBG : VO := fun d e Q => match d, e with
  | .non, .bl _ => Q (.v (.bl false))
  | .bl a, .bl b => Q (.v (.bl (decide (a = b))))
  | _, _ => False
theorem o_isB : OpV S X (compareOp .Is) isBG := by
  refine ⟨_, op_isB2, ?_⟩
  intro Γ H x y d e Q Q0 eK hx hy hg k
  unfold isBG at hg
  split at hg
  · refine ⟨_, hy.bl, .inl ⟨hx.non, k _ hg _ _ (Same.refl _) (.bl _)⟩⟩
  · exact ⟨_, hy.bl, .inr ⟨_, hx.bl, k _ hg _ _ (Same.refl _) (.bl _)⟩⟩
  · exact hg.elim
/-! ### sorted(names) -/
def sortedG : VC := fun ds Q => match ds with
  | [.lst xs] => ∃ ns : List Tx, xs = ns.map .str ∧ ns.length < 64 ∧ ∀ ms : List Tx, ms.Perm ns → sortedS ms = true → Q (.fl (ms.map .str))
  | _ => False
theorem strs_rp2 {K : PySem.W.Frag} {tp : Option Tp} {H : Hp} : ∀ ys : List Tx, RpL K tp H (ys.map V.str) (ys.map .str)
  | [] => .nil
  | y :: ys => .cons (.str y) (strs_rp2 ys)
theorem c_sortedS (hK : S.K = X.K) : CallV S X (.builtin "sorted") sortedG := by
  refine ⟨_, cr_sortedS, ?_⟩
  intro Γ H xs ds Q Q0 eK hx hg k
  have eK' : X.K = Γ.K := (eK.trans hK).symm
  unfold sortedG at hg
  split at hg
  · obtain ⟨ns, rfl, hl, hg⟩ := hg
    match hx with
    | .cons h .nil =>
      obtain ⟨q, ys, rfl, h1, h2⟩ := h.seq
      have ey := strs_back h2
      subst ey
      refine ⟨q, ns, rfl, by rw [eK']; exact h1, hl, fun ms l pm sm nl => ?_⟩
      exact k _ (hg ms pm sm) _ _ (same_upd nl) ⟨l, _, rfl, nl, upd_same, strs_rp2 ms⟩
  · exact hg.elim
/-! ### dict(pairs), d.get(k) -/
def prD (kvs : List (Tx × D)) : List D := kvs.map fun p => .tup [.str p.1, p.2]
def prK (kvs : List (Tx × D)) : List (Key × D) := kvs.map fun p => (.inr p.1, p.2)
def dictPG : VC := fun ds Q => match ds with
  | [.dk kvs] => Q (.fd kvs)
  | [.ptp xs] => ∃ kvs : List (Tx × D), xs = prD kvs ∧ (kvs.map (·.1)).Nodup ∧ Q (.fd (prK kvs))
  | _ => False
theorem merge_new : ∀ (more kvs : List (Key × V)), (∀ p ∈ more, valV kvs p.1 = none) → (more.map (·.1)).Nodup → mergeK kvs more = kvs ++ more
  | [], kvs, _, _ => by simp [mergeK]
  | p :: more, kvs, h, nd => by
    have nd' := List.nodup_cons.mp nd
    show mergeK (putK kvs p.1 p.2) more = _
    rw [putK_new _ (h p (by simp)), merge_new more _ (fun r hr => ?_) nd'.2]
    · simp
    · rw [valV_snoc _ _ _ _ (h p (by simp)), if_neg (fun e => nd'.1 (by show p.1 ∈ _; rw [← e]; exact List.mem_map_of_mem hr))]
      exact h r (by simp [hr])
theorem pairs_rp {K : PySem.W.Frag} {tp : Option Tp} {H : Hp} {kvs : List (Tx × D)} {vs : List V} (h : RpL K tp H vs (prD kvs)) : ∃ (ps : List Addr) (kv : List (Key × V)), vs = ps.map V.ref ∧ Paired (fun p kv => SqT K H p [kV kv.1, kv.2]) ps kv ∧ RpK K tp H kv (prK kvs) := by
  induction kvs generalizing vs with
  | nil => cases h; exact ⟨[], [], rfl, .nil, .nil⟩
  | cons q kvs ih =>
    cases h with
    | cons h1 h2 =>
      obtain ⟨ps, kv, rfl, h3, h4⟩ := ih h2
      obtain ⟨a, xs, rfl, h5, h6⟩ := h1.tup_inv
      cases h6 with
      | cons hk h6 =>
        cases h6 with
        | cons hv h6 =>
          cases h6
          have hk := hk.str_inv
          subst hk
          exact ⟨a :: ps, (.inr q.1, _) :: kv, rfl, .cons h5 h3, .cons hv h4⟩
theorem c_dictP (hK : S.K = X.K) (calm : X.calm = true) : CallV S X (.type "dict") dictPG := by
  refine ⟨_, call_dictD.or (call_dictT calm), ?_⟩
  intro Γ H xs ds Q Q0 eK hx hg k
  have eK' : X.K = Γ.K := (eK.trans hK).symm
  unfold dictPG at hg
  split at hg
  · match hx with
    | .cons h .nil =>
      obtain ⟨p, kv, rfl, h1, h2⟩ := h.dk
      refine .inl ⟨p, kv, rfl, h1, fun l nl => ?_⟩
      have sm := same_upd (o := .dK kv) nl
      exact k _ hg _ _ sm ⟨l, _, rfl, nl, upd_same, RpK.kq (.same sm) _ _ h2⟩
  · obtain ⟨kvs, rfl, nd, hg⟩ := hg
    match hx with
    | .cons (.v h) .nil =>
      obtain ⟨a, o, ys, rfl, h1, h2, h3⟩ := h.ptp_inv
      obtain ⟨ps, kv, rfl, h4, h5⟩ := pairs_rp h3
      refine .inr ⟨a, o, ps, kv, rfl, h1, h2, by rw [eK']; exact h4, fun l nl => ?_⟩
      have ek := h5.keys
      have nk : (kv.map (·.1)).Nodup := by
        rw [ek]
        have e2 : (prK kvs).map (·.1) = (kvs.map (·.1)).map Sum.inr := by simp [prK]
        rw [e2]
        exact nd.map _ fun _ _ z e => z (Sum.inr.inj e)
      have em : mergeK [] kv = kv := by rw [merge_new kv [] (fun _ _ => rfl) nk]; rfl
      rw [em]
      have sm := same_upd (o := .dK kv) nl
      exact k _ hg _ _ sm ⟨l, _, rfl, nl, upd_same, RpK.kq (.same sm) _ _ h5⟩
  · exact hg.elim
def vGet (t u : VT) : FT := fun E Q => t E fun d E1 => dkD d fun kvs => u E1 fun kd E2 => ∃ k, keyOf kd = some k ∧ Q (.v ((look kvs k).getD .non)) E2
theorem fe_get {t u : VT} (hu : X.A.units + 1 < cLine) (ho : VE S X o t) (he : VE S X e u) (m : M1 X o "get" apos e cpos := by exact ⟨rfl, rfl, rfl, rfl⟩) : FE S X (.Call (.Attribute o "get" apos) [e] [] cpos) (vGet t u) := by
  refine pe_weak (pe_dget1 hu ho he m) ?_
  rintro σ H Q ⟨Γ, E, Q0, ok, rp, ht, k⟩
  refine ⟨Γ, E, _, ok, rp, ht, fun d E1 hq x H1 kq1 rp1 hx => ?_⟩
  cases d with
  | dk ds =>
    obtain ⟨p, o, kv, rfl, h1, h2⟩ := hx.dk_inv
    refine ⟨p, rfl, .inl ⟨kv, .inr ⟨o, h1⟩⟩, ?_⟩
    refine ⟨Γ, E1, _, ok, rp1, hq, fun kd E2 hq2 y H2 kq2 rp2 hy => ?_⟩
    obtain ⟨kk, ek, hq2⟩ := hq2
    have ey := keyOf_rp (.v hy) ek
    subst ey
    have hs := RpK.val (k := kk) (RpK.kq kq2 _ _ h2)
    refine ⟨valV kv kk, .inl ⟨kv, kk, .inr ⟨o, kq2.frz _ _ _ h1⟩, rfl, rfl⟩, ?_⟩
    unfold look at hq2
    cases hf : ds.find? fun p => decide (p.1 = kk) with
    | none =>
      rw [hf] at hs hq2
      rw [hs]
      exact k _ _ hq2 _ _ (kq1.trans kq2) rp2 .non
    | some pr =>
      rw [hf] at hs hq2
      obtain ⟨v, ev, rv⟩ := hs
      rw [ev]
      exact k _ _ hq2 _ _ (kq1.trans kq2) rp2 rv
  | _ => exact hq.elim
/-! ### xs[i] = v, xs a list of one's own -/
def sLput (j : Nat) (ti tv : VT) : VS := fun V E => tv E fun v E1 => onL E1.l[j]? fun _ => ti E1 fun kd E2 => onL E2.l[j]? fun ds => ∃ (i : Int) (n : Nat), kd = .int i ∧ ixN ds.length i = some n ∧ V.nx (E2.set j (.ol (ds.set n v)))
theorem vs_lput {j : Nat} {ti tv : VT} (ho : PE X o (tVar j)) (hi : VE S X i ti) (hv : VE S X value tv) (hs : swapsWithSole [.Subscript o i pos'] value pos.line X.env = pure false := by rfl) (hw : swappedStores [.Subscript o i pos'] value X.env = pure none := by rfl)
    (h1 : (assignEach [.Subscript o i pos'] X.env).map (·.2) = [assign (.Subscript o i pos') X.env] := by rfl)
    (ha : ∀ v, assign (.Subscript o i pos') X.env v = (do
      let ov ← holding [v] (eval o X.env)
      let iv ← holding [v, ov] (eval i X.env)
      standAt pos'
      holding [v, ov, iv] (setItem ov iv v)
      release [v, ov, iv] []) := by intro _; rfl) :
    VSt S X (.Assign [.Subscript o i pos'] value pos) (sLput j ti tv) := by
  refine ps_weak (ps_asg hv (pg_sub ho hi set_list ha) hs hw h1) ?_
  rintro D0 σ H ⟨Γ, E, V, ok, rp, ht, k⟩
  refine ⟨Γ, E, _, ok, rp, ht, fun d E1 hq v H1 kq1 rp1 hv1 => ?_⟩
  obtain ⟨ds1, e1, hq⟩ := onL_inv hq
  obtain ⟨p1, xs1, hs1, hd1, _, _⟩ := own_list rp1 e1
  refine ⟨_, hs1, ?_⟩
  refine ⟨Γ, E1, _, ok, rp1, hq, fun kd E2 hq2 y H2 kq2 rp2 hy => ?_⟩
  obtain ⟨ds2, e2, i2, n2, rfl, en, hq3⟩ := onL_inv hq2
  obtain ⟨p2, xs2, hs2, hd2, hr2, fr2⟩ := own_list rp2 e2
  rw [hs1] at hs2
  cases hs2
  have ey := hy.int_inv
  subst ey
  obtain ⟨kq3, rp3⟩ := rp2.wrL e2 hs1 hd2 fr2 (RpL.set (Rp.kq kq2 _ _ hv1) n2 hr2)
  exact ⟨p1, xs2, _, _, rfl, rfl, hd2, by rw [hr2.len]; exact en, k.nx _ hq3 σ _ ((kq1.trans kq2).trans kq3) rp3⟩
end
end Va

set_option Elab.async false
set_option linter.all false
set_option maxRecDepth 100000
set_option maxHeartbeats 4000000
/-! sorted(pairs of a text and a bool), the texts different -/
namespace SrtB
open PySem PyProof.Rows Srt SrtO
section
variable {prog : Program} {w : World} {A : Around} {E : Value → Shared → Prop} {s : Shared}
def IsSB (h : Heap) (v : Value) (p : Str × Bool) : Prop := ∃ a o t n, v = .ref a ∧ h.get? a = some o ∧ o.cls = .type "tuple" ∧ o.data = .seq #[.str p.1 t, .bool p.2] n
theorem IsSB.keeps {h h' : Heap} {v : Value} {x : Str × Bool} (p : IsSB h v x) (k : ∀ b o, h.get? b = some o → o.cls = .type "tuple" → h'.get? b = some o) : IsSB h' v x := by
  obtain ⟨a, o, t, n, e, ho, hc, hd⟩ := p
  exact ⟨a, o, t, n, e, k _ _ ho hc, hc, hd⟩
theorem IsSB.inj {h : Heap} {v : Value} {p q : Str × Bool} (x : IsSB h v p) (y : IsSB h v q) : p = q := by
  obtain ⟨a, o, t, n, e, ho, hc, hd⟩ := x
  obtain ⟨a', o', t', n', e', ho', hc', hd'⟩ := y
  have ea : a = a' := Value.ref.inj (e.symm.trans e')
  subst ea
  have eo : o = o' := Option.some.inj (ho.symm.trans ho')
  subst eo
  have ed := (Data.seq.inj (hd.symm.trans hd')).1
  have el := congrArg Array.toList ed
  have e1 := (List.cons.inj el).1
  have e2 := (List.cons.inj (List.cons.inj el).2).1
  exact Prod.ext (Value.str.inj e1).1 (Value.bool.inj e2)
theorem kS_ex (h : Heap) : ∃ f : Value → Str × Bool, ∀ v p, IsSB h v p → f v = p := by
  classical
  refine ⟨fun v => if x : ∃ p, IsSB h v p then Classical.choose x else (⟨#[]⟩, false), fun v p x => ?_⟩
  have y : ∃ p, IsSB h v p := ⟨p, x⟩
  show (if x : ∃ p, IsSB h v p then Classical.choose x else (⟨#[]⟩, false)) = p
  rw [dif_pos y]
  exact (Classical.choose_spec y).inj x
theorem firsts_sb {h : Heap} : ∀ {vs : List Value}, (∀ v ∈ vs, ∃ x, IsSB h v x) → ∃ fs : List Value, PySem.W.KatTups h vs fs ∧ fs.length = vs.length ∧ ∀ f ∈ fs, ∃ x t, f = Value.str x t
  | [], _ => ⟨[], PySem.W.KatTups.nil, rfl, fun _ hm => by simp at hm⟩
  | v :: vs, hp => by
    obtain ⟨fs, h1, h2, h3⟩ := firsts_sb (vs := vs) fun v' hm => hp v' (List.mem_cons_of_mem _ hm)
    obtain ⟨x, a, o, t, n, e, ho, hc, hd⟩ := hp v (List.mem_cons_self ..)
    subst e
    refine ⟨.str x.1 t :: fs, PySem.W.KatTups.cons ho hc hd rfl h1, by rw [List.length_cons, List.length_cons, h2], fun f hm => ?_⟩
    rcases List.mem_cons.mp hm with rfl | hm
    · exact ⟨_, t, rfl⟩
    · exact h3 f hm
def ltS (a b : Str) : Bool := decide (a.cps.toList < b.cps.toList)
theorem swo_s {α : Type} (k : α → Str) : Swo fun v u => ltS (k v) (k u) := by
  refine ⟨fun x y h => ?_, fun x y z h1 h2 => ?_⟩
  · have a := of_decide_eq_true h
    exact decide_eq_false (fun b => List.lt_asymm a b)
  · have a := of_decide_eq_false h1
    have b := of_decide_eq_false h2
    refine decide_eq_false fun c => ?_
    have a' := List.not_lt.mp a
    have b' := List.not_lt.mp b
    exact List.not_lt.mpr (List.le_trans a' b') c
theorem sb_cmp {vs : List Value} {k : Value → Str × Bool} (hp : ∀ v ∈ vs, IsSB s.heap v (k v)) (one : ∀ v ∈ vs, ∀ u ∈ vs, (k v).1 = (k u).1 → (k v).2 = (k u).2) : Cmp prog w A s (tuples' true) (fun p => p.1 ∈ vs) (lt2 fun v u => ltS (k v).1 (k u).1) := by
  intro p q hm hm'
  have h1 := hp _ hm
  have h2 := hp _ hm'
  have h3 := one _ hm _ hm'
  show wpAny (model prog w) A (keyLt' (tuples' true) p.1 q.1) (fun r s' => s' = s ∧ r = ltS (k p.1).1 (k q.1).1) (fun _ _ => False) s
  generalize (k p.1) = x at h1 h3 ⊢
  generalize (k q.1) = x' at h2 h3 ⊢
  obtain ⟨a, o, t, n, e, ho, hc, hd⟩ := h1
  obtain ⟨a', o', t', n', e', ho', hc', hd'⟩ := h2
  rw [e, e']
  refine PySem.W.kat_lt ho hd ho' hd' ?_
  show PySem.W.KatLex prog w A true (decide (2 < 2)) _ [(.str x.1 t, .str x'.1 t'), (.bool x.2, .bool x'.2)] 0 s
  refine PySem.W.kat_cons (SeqAt.EqAt.str_str x.1 t x'.1 t' prog w _ _ ?_)
  refine PySem.W.kat_go (fun e1 => ?_) (fun e1 => ?_)
  · have ex : x.1 = x'.1 := by simpa using e1
    refine PySem.W.kat_yes (PySem.W.kat_cons (SeqAt.EqAt.bool_bool x.2 x'.2 prog w _ _ ?_))
    refine PySem.W.kat_go (fun e2 => ?_) (fun e2 => ?_)
    · refine PySem.W.kat_yes (PySem.W.kat_nil ⟨rfl, ?_⟩)
      rw [ex]
      exact (decide_eq_false (List.lt_irrefl _)).symm
    · rw [h3 ex] at e2
      simp at e2
  · exact PySem.W.kat_no (oneLt_str ⟨rfl, rfl⟩)
theorem sb_sortable {a : Addr} {vs : List Value} {k : Value → Str × Bool} (h0 : 0 < vs.length) (hp : ∀ v ∈ vs, IsSB s.heap v (k v)) (one : ∀ v ∈ vs, ∀ u ∈ vs, (k v).1 = (k u).1 → (k v).2 = (k u).2) (ha : ∀ o, s.heap.get? a = some o → o.cls ≠ .type "tuple") : SortableO prog w A s a vs fun v u => ltS (k v).1 (k u).1 := by
  intro h' keep
  have hp' : ∀ v ∈ vs, IsSB h' v (k v) := fun v hm => (hp v hm).keeps fun b o e c => keep b o (fun z => by subst z; exact ha o e c) e
  obtain ⟨fs, h1, h2, h3⟩ := firsts_sb fun v hm => ⟨_, hp' v hm⟩
  refine ⟨tuples' true, fun Q E hq => ?_, sb_cmp hp' one⟩
  refine PySem.W.kat_kind (T := .type "str") h1 (by omega) (fun f hm => ?_) (by rfl) ?_
  · obtain ⟨x, t, rfl⟩ := h3 f hm
    exact PySem.W.Looks.now
  · have e : (Value.type "str" != Value.type "tuple") = true := by first | decide +kernel | rfl | decide
    rw [e]
    exact hq
theorem sorted_sb {l : Addr} {vs : List Value} {k : Value → Str × Bool} {Q : Value → Shared → Prop} (hl : s.heap.IsList l vs.toArray) (hz : vs.length ≤ sizeLine) (hp : ∀ v ∈ vs, IsSB s.heap v (k v)) (one : ∀ v ∈ vs, ∀ u ∈ vs, (k v).1 = (k u).1 → (k v).2 = (k u).2)
    (h : ∀ (h' : Heap) (d : Addr) (out : List Value), Srtd (fun v u => ltS (k v).1 (k u).1) out → Stb (fun v u => ltS (k v).1 (k u).1) out vs → (∀ b o, s.heap.get? b = some o → h'.get? b = some o) → s.heap.objs.size ≤ d → (∃ n, h'.get? d = some (seqObj "list" out.toArray n)) → Q (.ref d) { s with heap := h' }) :
    wpAny (model prog w) A (call (.builtin "sorted") [.ref l]) Q E s := by
  refine sorted_ord (swo_s fun v => (k v).1) hl hz (fun h2 h₁ a ha kk => ?_) fun out hs hb => ?_
  · refine sb_sortable (s := { s with heap := h₁ }) (by omega) (fun v hm => (hp v hm).keeps fun b o e _ => (kk b o e).2) one fun o e => ?_
    have e' : some o = some (seqObj "list" vs.toArray 0) := e.symm.trans ha
    cases e'
    intro c
    exact absurd (Value.type.inj c) (by decide)
  · exact h _ _ out hs hb (fun b o e => sortedAll_old e) (Nat.le_succ _) (sortedAll_at s.heap vs out.toArray)
end
end SrtB
namespace L2
open PySem PySem.Spec PyProof.Rows SrtB
abbrev PrSB (K : PySem.W.Frag) (H : Hp) (v : V) (p : Str × Bool) : Prop := ∃ t, v = V.ref t ∧ SqT K H t [.str p.1, .bl p.2]
def rSortedSB (K : PySem.W.Frag) : List V → Hp → VK → Prop := fun vs H Q => ∃ (a : Addr) (xs : List V) (prs : List (Str × Bool)), vs = [V.ref a] ∧ SqL K H a xs ∧ Paired (PrSB K H) xs prs ∧ (prs.map (·.1)).Nodup ∧
  ∀ ys qs p, Paired (PrSB K H) ys qs → qs.Perm prs → (qs.map (·.1)).Pairwise (fun x y => ltS y x = false) → H p = none → Q (.ref p) (upd H p (.lst ys))
theorem paired_mem {α β : Type} {R : α → β → Prop} : ∀ {xs : List α} {ys : List β}, Paired R xs ys → ∀ x ∈ xs, ∃ y ∈ ys, R x y
  | _, _, .nil, x, h => by simp at h
  | _, _, .cons r t, x, h => by
    rcases List.mem_cons.mp h with rfl | h
    · exact ⟨_, List.mem_cons_self, r⟩
    · obtain ⟨y, hy, q⟩ := paired_mem t x h
      exact ⟨y, List.mem_cons_of_mem _ hy, q⟩
theorem paired_map {α β : Type} {R : α → β → Prop} {f : α → β} : ∀ {xs : List α}, (∀ x ∈ xs, R x (f x)) → Paired R xs (xs.map f)
  | [], _ => .nil
  | x :: xs, h => .cons (h x List.mem_cons_self) (paired_map fun y hy => h y (List.mem_cons_of_mem _ hy))
theorem paired_map_eq {α β γ : Type} {R : α → β → Prop} {S : α → γ → Prop} {f : γ → β} : ∀ {xs : List α} {ys : List β} {us : List γ}, Paired R xs ys → Paired S xs us → (∀ x y u, R x y → S x u → f u = y) → us.map f = ys
  | _, _, _, .nil, .nil, _ => rfl
  | _, _, _, .cons r t, .cons r' t', h => by
    rw [List.map_cons, h _ _ _ r r', paired_map_eq t t' h]
section
variable {X : Cx}
theorem Inv.sb {pins : List (Addr × Obj)} {σ : St} {H : Hp} {s : Shared} (I : Inv X pins σ H s) {v : V} {u : Value} {p : Str × Bool} (h : PrSB X.K H v p) (r : RelV v u) : IsSB s.heap u p := by
  obtain ⟨t, rfl, hs⟩ := h
  obtain ⟨its, rv, ⟨o, e, hc, n, hd⟩, _⟩ := I.tuple hs
  obtain rfl : u = Value.ref t := r
  obtain ⟨u1, u2, rfl, r1, r2⟩ := vals2 rv
  obtain ⟨t1, rfl⟩ := r1
  obtain rfl : u2 = Value.bool p.2 := r2
  exact ⟨t, o, t1, n, rfl, e, hc, hd⟩
theorem cr_sortedSB : CallR X (.builtin "sorted") (rSortedSB X.K) := by
  intro pins s σ H vs us Q I r h
  obtain ⟨a, xs, prs, rfl, hs, hx, nd, q⟩ := h
  obtain ⟨its, rv, hl, hz⟩ := I.list hs
  obtain ⟨u, rfl, ru⟩ := vals1 r
  obtain rfl : u = Value.ref a := ru
  obtain ⟨e1, e2⟩ := refs_back rv fun x m => by
    obtain ⟨y, _, t, e, _⟩ := paired_mem hx x m
    exact ⟨t, e⟩
  obtain ⟨f, hf⟩ := kS_ex s.heap
  have ek : its.map f = prs := paired_map_eq (S := fun v u => RelV v u) hx rv fun x y u h1 h2 => hf _ _ (I.sb h1 h2)
  have hv : ∀ u ∈ its, PrSB X.K H (backV u) (f u) := fun u hu => by
    have m : backV u ∈ xs := by rw [e1]; exact List.mem_map.mpr ⟨u, hu, rfl⟩
    obtain ⟨y, _, h⟩ := paired_mem hx _ m
    obtain ⟨t, rfl⟩ := e2 u hu
    rw [hf _ _ (I.sb h (show RelV (backV (.ref t)) (.ref t) from rfl))]
    exact h
  have nd' : (its.map fun u => (f u).1).Nodup := by
    have : its.map (fun u => (f u).1) = prs.map (·.1) := by rw [← ek, List.map_map]; rfl
    rw [this]
    exact nd
  have inj : ∀ v ∈ its, ∀ u ∈ its, (f v).1 = (f u).1 → v = u := fun v hv u hu e => by
    obtain ⟨i, hi, rfl⟩ := List.getElem_of_mem hv
    obtain ⟨j, hj, rfl⟩ := List.getElem_of_mem hu
    have e' : (its.map fun u => (f u).1)[i]'(by simpa using hi) = (its.map fun u => (f u).1)[j]'(by simpa using hj) := by
      simpa using e
    have pw := List.pairwise_iff_getElem.mp nd'
    rcases Nat.lt_trichotomy i j with z | z | z
    · exact absurd e' (pw i j _ _ z)
    · subst z
      rfl
    · exact absurd e'.symm (pw j i _ _ z)
  refine sorted_sb (k := f) hl.isList (by rw [← rv.length]; exact hz) (fun v hm => ?_) (fun v hv u hu e => by rw [inj v hv u hu e]) fun h' d out h1 h2 kp hd hn => ?_
  · obtain ⟨t, rfl⟩ := e2 v hm
    exact I.sb (hv _ hm) rfl
  · have h3 : ∀ u ∈ out, ∃ a, u = Value.ref a := fun u hu => e2 u (h2.perm.mem_iff.mp hu)
    obtain ⟨n, hn⟩ := hn
    refine ⟨.ref d, upd H d (.lst (out.map backV)), I.laid (t' := s.toks) kp hd ⟨?_, out, n, vals_back h3, hn⟩, rfl, q _ (out.map (f)) d ?_ ?_ ?_ (I.hok.fresh hd)⟩
    · rw [List.length_map, h2.perm.length_eq, ← rv.length]
      exact hz
    · have : ∀ l : List Value, (∀ u ∈ l, PrSB X.K H (backV u) (f u)) → Paired (PrSB X.K H) (l.map backV) (l.map (f)) := by
        intro l
        induction l with
        | nil => intro _; exact .nil
        | cons u l ih => intro h; exact .cons (h u List.mem_cons_self) (ih fun v hv => h v (List.mem_cons_of_mem _ hv))
      exact this out fun u hu => hv u (h2.perm.mem_iff.mp hu)
    · rw [← ek]
      exact h2.perm.map _
    · rw [List.map_map]
      exact List.pairwise_map.mpr h1
end
end L2
namespace Va
open PySem PySem.Spec PyProof.Rows L2 Ind SrtB
section
variable {X : Cx} {S : Sg} {e o a b c i value : Expr} {p p2 pos pos2 : Pos}
/-! the scope of a comprehension that stands alone in a statement -/
def lcScope : Expr → Scope
  | .ListComp _ _ sc _ => sc
  | _ => { kind := .function, names := [], isGenerator := false, isCoroutine := false, more := [] }
def stVal : Stmt → Expr
  | .Assign _ e _ => e
  | .Return (some e) _ => e
  | _ => .Constant .none 0 ⟨0, 0, 0, 0⟩
/-- pairs of a name and a bool -/
def sbD (prs : List (Tx × Bool)) : List D := prs.map fun p => .tup [.str p.1, .bl p.2]
def sortedBG : VC := fun ds Q => match ds with
  | [.lst xs] => ∃ prs : List (Tx × Bool), xs = sbD prs ∧ (prs.map (·.1)).Nodup ∧ ∀ qs : List (Tx × Bool), qs.Perm prs → (qs.map (·.1)).Pairwise (fun x y => ltS y x = false) → Q (.fl (sbD qs))
  | _ => False
theorem sb_rp {K : PySem.W.Frag} {tp : Option Tp} {H : Hp} {prs : List (Tx × Bool)} {vs : List V} (h : RpL K tp H vs (sbD prs)) : Paired (PrSB K H) vs prs := by
  induction prs generalizing vs with
  | nil => cases h; exact .nil
  | cons q prs ih =>
    cases h with
    | cons h1 h2 =>
      obtain ⟨a, xs, rfl, h5, h6⟩ := h1.tup_inv
      cases h6 with
      | cons k1 h6 =>
        cases h6 with
        | cons k2 h6 =>
          cases h6
          cases k1
          cases k2
          exact .cons ⟨a, rfl, h5⟩ (ih h2)
theorem rp_sb {K : PySem.W.Frag} {tp : Option Tp} {H : Hp} {vs : List V} {prs : List (Tx × Bool)} (h : Paired (PrSB K H) vs prs) : RpL K tp H vs (sbD prs) := by
  induction h with
  | nil => exact .nil
  | cons r _ ih =>
    obtain ⟨t, rfl, h⟩ := r
    exact .cons (.tup h (.cons (.str _) (.cons (.bl _) .nil))) ih
theorem c_sortedB (hK : S.K = X.K) : CallV S X (.builtin "sorted") sortedBG := by
  refine ⟨_, cr_sortedSB, ?_⟩
  intro Γ H xs ds Q Q0 eK hx hg k
  have eK' : X.K = Γ.K := (eK.trans hK).symm
  unfold sortedBG at hg
  split at hg
  · obtain ⟨prs, rfl, nd, hg⟩ := hg
    match hx with
    | .cons h .nil =>
      obtain ⟨q, ys, rfl, h1, h2⟩ := h.seq
      refine ⟨q, ys, prs, rfl, by rw [eK']; exact h1, by rw [eK']; exact sb_rp h2, nd, fun vs qs l hp pm sm nl => ?_⟩
      rw [eK'] at hp
      exact k _ (hg qs pm sm) _ _ (same_upd nl) ⟨l, _, rfl, nl, upd_same, RpL.kq (Kq.same (same_upd nl)) _ _ (rp_sb hp)⟩
  · exact hg.elim
/-! ### all(bools), any(bools) of a list that stands -/
def blsG (f : List Bool → Bool) : VC := fun ds Q => match ds with
  | [.lst xs] => ∃ bs : List Bool, xs = bs.map .bl ∧ Q (.v (.bl (f bs)))
  | _ => False
theorem bls_back {K : PySem.W.Frag} {tp : Option Tp} {H : Hp} : ∀ {bs : List Bool} {vs : List V}, RpL K tp H vs (bs.map .bl) → vs = bs.map V.bl
  | [], _, h => by cases h; rfl
  | b :: bs, _, h => by
    cases h with
    | cons h1 h2 => cases h1; rw [bls_back h2]; rfl
theorem c_anyL (hK : S.K = X.K) (hc : X.calm = true) : CallV S X (.builtin "any") (blsG fun bs => bs.any id) := by
  refine ⟨_, cr_any hc, ?_⟩
  intro Γ H xs ds Q Q0 eK hx hg k
  have eK' : X.K = Γ.K := (eK.trans hK).symm
  unfold blsG at hg
  split at hg
  · obtain ⟨bs, rfl, hg⟩ := hg
    match hx with
    | .cons h .nil =>
      obtain ⟨q, ys, rfl, h1, h2⟩ := h.seq
      have e := bls_back h2
      subst e
      exact ⟨q, bs, rfl, by rw [eK']; exact h1, k _ hg _ _ (Same.refl _) (.bl _)⟩
  · exact hg.elim
theorem c_allL (hK : S.K = X.K) (hc : X.calm = true) : CallV S X (.builtin "all") (blsG fun bs => bs.all id) := by
  refine ⟨_, cr_all hc, ?_⟩
  intro Γ H xs ds Q Q0 eK hx hg k
  have eK' : X.K = Γ.K := (eK.trans hK).symm
  unfold blsG at hg
  split at hg
  · obtain ⟨bs, rfl, hg⟩ := hg
    match hx with
    | .cons h .nil =>
      obtain ⟨q, ys, rfl, h1, h2⟩ := h.seq
      have e := bls_back h2
      subst e
      exact ⟨q, bs, rfl, by rw [eK']; exact h1, k _ hg _ _ (Same.refl _) (.bl _)⟩
  · exact hg.elim
/-! ### a < b < c as a test -/
def vChain (g g' : VO) (ta tb tc : VT) : VTT := fun E Q => ta E fun d E1 => tb E1 fun e E2 => g d e fun z => asB z.d fun k => (k = true → tc E2 fun c E3 => g' e c fun z => asB z.d fun k => Q k E3) ∧ (k = false → Q false E2)
theorem vb_chain {op op' : CmpOp} {g g' : VO} {ta tb tc : VT} (ho : OpV S X (compareOp op) g) (ho' : OpV S X (compareOp op') g') (ha : VE S X a ta) (hb : VE S X b tb) (hc : VE S X c tc) (hm : lastMarks [op, op'] [b, c] = false := by rfl) : VB S X (.Compare a [op, op'] [b, c] pos) (vChain g g' ta tb tc) := by
  obtain ⟨r, h1, h2⟩ := ho.ex
  obtain ⟨r', h1', h2'⟩ := ho'.ex
  refine pt_weak (pt_chain h1 h1' ha hb hc (hm := hm)) ?_
  rintro σ H Q ⟨Γ, E, Q0, ok, rp, ht, k⟩
  refine ⟨Γ, E, _, ok, rp, ht, fun d E1 hq x H1 kq1 rp1 hx => ?_⟩
  refine ⟨Γ, E1, _, ok, rp1, hq, fun e E2 hq2 y H2 kq2 rp2 hy => ?_⟩
  refine h2 Γ H2 x y d e _ _ ok.k (.v (Rp.kq kq2 _ _ hx)) (.v hy) hq2 fun z hz v H' sm hn => ?_
  obtain ⟨b, e1, hb⟩ := asB_inv hz
  cases z with
  | v d =>
    cases e1
    cases hn
    refine ⟨b, rfl, ?_⟩
    have q3 := (kq1.trans kq2).trans (Kq.same sm)
    cases b with
    | false => exact iteF ⟨false, rfl, k _ _ (hb.2 rfl) _ q3 (rp2.same sm)⟩
    | true =>
      refine iteT ⟨Γ, E2, _, ok, rp2.same sm, hb.1 rfl, fun c E3 hq3 w H4 kq4 rp4 hw => ?_⟩
      refine h2' Γ H4 y w e c _ _ ok.k (.v (Rp.kq ((Kq.same sm).trans kq4) _ _ hy)) (.v hw) hq3 fun z hz v H' sm' hn => ?_
      obtain ⟨b, e1, hb⟩ := asB_inv hz
      cases z with
      | v d =>
        cases e1
        cases hn
        exact ⟨b, rfl, k _ _ hb _ ((q3.trans kq4).trans (Kq.same sm')) (rp4.same sm')⟩
      | fl ds => cases e1
      | fd ds => cases e1
  | fl ds => cases e1
  | fd ds => cases e1
end
end Va

set_option Elab.async false
set_option linter.all false
set_option maxRecDepth 100000
set_option maxHeartbeats 4000000
/-! an own error whose __init__ says super().__init__(f'..'), then stores its one thing -/
namespace SupE
open PySem PySem.W PySem.Calls PyProof.Rows PySem.HandSPX
abbrev tailV : List Value := [.type "ValueError", .type "Exception", .type "BaseException", .type "object"]
def parm (f : Str) (p1 p2 : Pos) : Arguments := { posonlyargs := [], args := [⟨"self", none, p1⟩, ⟨f, none, p2⟩], vararg := none, kwonlyargs := [], kw_defaults := [], kwarg := none, defaults := [] }
structure Ps where
  a : Pos
  b : Pos
  c : Pos
  d : Pos
  e : Pos
  g : Pos
  q1 : Pos
  q2 : Pos
  q3 : Pos
  q4 : Pos
def bodyI (f : Str) (vs : List Expr) (p : Ps) : List Stmt := [.Expr (.Call (.Attribute (.Call (.Name "super" p.a) [] [] p.b) "__init__" p.c) [.JoinedStr vs p.d] [] p.e) p.g, .Assign [.Attribute (.Name "self" p.q1) f p.q2] (.Name f p.q3) p.q4]
def scI (f : Str) : Scope := { kind := .function, names := [("self", .local), (f, .local), ("__class__", .free), ("super", .globalImplicit)], isGenerator := false, isCoroutine := false, more := [] }
/-- what the parts of the text give: some text, nothing else changed -/
def Says (prog : Program) (w : World) (f : Str) (vs : List Expr) (p3 : Pos) (v : Value) : Prop :=
  ∀ (A : Around) (E : Value → Shared → Prop) (s : Shared) (env : Env) (m : Str → Option Value) (Q : Value → Shared → Prop), s.heap.Ns env.locals m → m f = some v → env.scope.kind = .function → env.kindOf f = some .local →
    (∀ r tk, Q r { s with toks := tk }) → wpAny (model prog w) A (eval (.JoinedStr vs p3) env) Q E s
/-- what the written part says of the class -/
structure Cl (prog : Program) (K : Frag) (C fI : Addr) (f : Str) (vs : List Expr) (p : Ps) : Prop where
  cls : ∃ nm q N bs bm sn sub ab col dd k0 k1 k2 k3 k5, K.lookup C = some (excClassObj nm q C N bs bm true sn sub ab col dd k0 k1 k2 k3 k5 "ValueError.__new__") ∧ refsVE bm = true
  sa : findIn K (.ref C) "__setattr__" = some (some (.builtin "object.__setattr__"))
  ga : findIn K (.ref C) "__getattribute__" = some (some (.builtin "BaseException.__getattribute__"))
  gg : findIn K (.ref C) "__getattr__" = some none
  no : findIn K (.ref C) f = some none
  iC : findIn K (.ref C) "__init__" = some (some (.ref fI))
  tI : typeIn K (.ref fI) = some (.type "function")
  kC : keepIn K (.ref C) = true
  bC : subIn K (.ref C) (.type "BaseException") = some true
  tC : typeIn K (.ref C) = some (.type "type")
  hd : hasDictIn K C = true
  su : ks_superIn K C C "__init__" = some (some (.builtin "ValueError.__init__"))
  ve : subIn K (.ref C) (.type "ValueError") = some true
  qi : excInitIn K C tailV "ValueError.__new__" = true
  mm : mroIn K C (.ref C) = some true
  th : nsIn K cStatics "thirdparty.any" = some none
  call : ∀ env : Env, ∃ pl : Sem Bool, eval (.Call (.Attribute (.Call (.Name "super" p.a) [] [] p.b) "__init__" p.c) [.JoinedStr vs p.d] [] p.e) env = (do
    let ov ← attributeBase (.Call (.Name "super" p.a) [] [] p.b) "__init__" env (eval (.Call (.Name "super" p.a) [] [] p.b) env)
    standAt p.c.atName
    let (g, first) ← holding [ov] (getMethod ov "__init__" pl)
    callWith p.e g first (backTo p.e (starEach [.JoinedStr vs p.d] env)) [])
  top : (prog.main.scope.names.lookup ("super" : Str)).isSome = false
  fn : ∃ (oc : Value) (od : Option Addr) (qual : Str) (p1 p2 : Pos) (doc pm : Value) (an : Option Addr) (cda : Addr) (ct : Value) (cc : Addr) (osl : Array (Option Value)) (ccl : Value) (cdd : Option Addr) (fv : Array Value) (ccs : Array (Option Value)) (file : Str) (tf : Tok) (cl : Value) (cld : Option Addr) (csl : Array (Option Value)),
    K.lookup fI = some ⟨oc, od, .func (ksFn "__init__" qual (parm f p1 p2) (bodyI f vs p) (scI f) .none .none doc pm an (.ref cda) ct cc), osl⟩ ∧ codeIn K (.ref cda) qual = true ∧ K.lookup cda = some ⟨ccl, cdd, .fields fv, ccs⟩ ∧ fv[2]? = some (.str file tf) ∧ ((prog.main.file : Str) == file) = true ∧ K.lookup cc = some ⟨cl, cld, .cell (some (.ref C)), csl⟩
/-- what it leaves of a new error at x: its dict is new -/
structure Left (h h' : Heap) (x C dx : Addr) (f : Str) (v : Value) : Prop where
  keep : ∀ b o, b ≠ x → h.get? b = some o → h'.get? b = some o
  obj : ∃ t1, h'.get? x = some { cls := .ref C, dict := some dx, data := .fields #[.ref t1, .none, .none, .none, .bool false, .none] }
  big : h.objs.size ≤ dx
  ne : dx ≠ x
  ns : h'.Ns1 dx (fun y => if y = f then some v else none)
section
variable {prog : Program} {w : World} {A : Around} {E : Value → Shared → Prop} {R : Result → Shared → Prop} {s : Shared} {K : Frag} {mg : Str → Option Value} {C fI : Addr} {f : Str} {vs : List Expr} {p : Ps}
theorem in_hide {h : Heap} {x : Addr} (X : K.In h) (hx : K.lookup x = none) : K.In (hideAll h [x]) := fun a o e => hideAll_get _ (X a o e) fun hm => by
  cases List.mem_singleton.mp hm
  rw [hx] at e
  cases e
theorem sup_init (T : Cl prog K C fI "name" vs p) {x t0 : Addr} {v : Value} (X : K.In s.heap) (hlim : s.heap.NoLimit) (hg : s.heap.Ns mainGlobals mg) (hsu : mg "super" = none) (hb : ∃ mb, s.heap.Ns builtinsNs mb ∧ mb "super" = some (.type "super"))
    (hx : s.heap.get? x = some (excO C t0)) (hnx : K.lookup x = none) (hr : A.depth < recursionLimit) (hS : Says prog w "name" vs p.d v)
    (hq : ∀ h' tk dx, Left s.heap h' x C dx "name" v → R (.ok (.ret .none)) { s with heap := h', toks := tk }) : codeAny (model prog w) A (.call (.ref fI) ⟨[.ref x, v], []⟩) R s := by
  obtain ⟨oc, od, qual, p1, p2, doc, pm, an, cda, ct, cc, osl, ccl, cdd, fv, ccs, file, tf, cl, cld, csl, ho, hcd, hcode, hfv, hfile, hcell⟩ := T.fn
  obtain ⟨nm, q, N, bs, bm, sn, sub, ab, col, dd, k0, k1, k2, k3, k5, hC, hbm⟩ := T.cls
  have hcl : clsIn K C = some { name := nm, bases := bs, mro := .ref C :: bm, ns := N, qualname := q, hasDict := true, slotNames := sn, subclasses := sub, abstract := ab, collection := col, hasDel := false } := by
    unfold clsIn
    rw [hC]
  refine ks_codeAny_call_defAt (fd := ksFn "__init__" qual (parm "name" p1 p2) (bodyI "name" vs p) (scI "name") .none .none doc pm an (.ref cda) ct cc) (body := bodyI "name" vs p) (binds := [("self", .ref x), ("name", v)]) hr (X _ _ ho) rfl hlim (codeRec_of X hcd) rfl (BindsTo.of_eq (by first | rfl | with_unfolding_all rfl)) (show ∀ y ∈ (scI "name").names, y.2 ≠ .cell by decide +kernel) (fun y hy => ?_) (fun h₁ hn hk => ?_)
  · simp only [List.mem_cons, List.not_mem_nil, or_false] at hy
    rcases hy with rfl | rfl <;> rfl
  have X₀ : K.In (hideAll s.heap [x]) := in_hide X hnx
  have F : Fr (hideAll s.heap [x]) s.heap.objs.size h₁ (fun y => ([("name", v), ("self", Value.ref x)] : List (Str × Value)).lookup y) := ⟨hn, fun b o e => hk b o (of_hideAll _ e), Nat.le_of_eq (hideAll_size _ _)⟩
  have N1 : News (hideAll s.heap [x]) s.heap.objs.size h₁ [(x, excO C t0)] := fun p hp => by
    cases List.mem_singleton.mp hp
    exact ⟨hk _ _ hx, Nat.ne_of_lt (Heap.lt_size hx), hideAll_none _ (List.mem_singleton.mpr rfl)⟩
  have X₁ : K.In h₁ := X.keeps hk
  obtain ⟨mb, hbn, hbs⟩ := hb
  have fx : ∀ {h : Heap} {m : Str → Option Value}, Fr (hideAll s.heap [x]) s.heap.objs.size h m → ∀ b o, b ≠ x → s.heap.get? b = some o → h.get? b = some o := fun F b o hb e => F.keep b o (hideAll_get _ e (fun hm => hb (List.mem_singleton.mp hm)))
  have vx : x ≠ C := fun e => by
    have h1 := X _ _ hC
    rw [← e, hx] at h1
    injection h1 with h1
    injection h1 with h1
    cases h1
  -- super()
  obtain ⟨pl, hcall⟩ := T.call (callEnv (ksFn "__init__" qual (parm "name" p1 p2) (bodyI "name" vs p) (scI "name") .none .none doc pm an (.ref cda) ct cc) s.heap.objs.size fI)
  refine ks_wpAt_execs_cons (ks_wpAt_Expr_any (ks_wpAt_MethodCall (pl := pl) ?_ hcall))
  refine ks_wpAt_super_base rfl rfl (by decide +kernel) rfl (X₁ _ _ ho) rfl rfl rfl (X₁ _ _ hcode) rfl hfv hfile T.top ?_
  refine ks_loadName_global rfl rfl (loadGlobal_builtin (mg := mg) (mb := mb) (hg.keeps hk) hsu (hbn.keeps hk) hbs ⟨rfl, ?_⟩)
  refine wpAny_loadName_free rfl rfl rfl ⟨_, X₁ _ _ hcell, rfl⟩ ?_
  refine wpAny_loadName_local (v := .ref x) rfl rfl hn rfl ?_
  refine ks_wpAny_isType_cls (X₁ _ _ hC) rfl ⟨rfl, ?_⟩
  refine ks_wpAny_call_super (X₁ _ _ hC) rfl (hk _ _ hx) rfl (fun _ z => nomatch z) (looks_mroIn X₁ T.mm) (fun h2 e2 k2 => ?_)
  obtain ⟨F2, N2, l2⟩ := ks_newsPush (s := { s with heap := h₁, toks := s.toks + 2 }) F N1 rfl e2 k2
  have lt2 : x < s.heap.objs.size := Heap.lt_size hx
  refine kxs_method kxs_ValueError F2 X₀ N2 List.mem_cons_self (⟨k2 _ _ (hk _ _ hx), rfl, rfl, trivial⟩ : InstAt h2 x (excO C t0) C none) T.th T.su T.ve (by decide +kernel) (fun u h3 F3 N3 l3 => ?_)
  have hux : u ≠ x := fun e => Nat.lt_irrefl _ (e ▸ l3 (x, excO C t0) (by simp))
  have hsx : h₁.objs.size ≠ x := fun e => Nat.lt_irrefl _ (e ▸ l2 (x, excO C t0) (by simp))
  refine kxs_callWith1 N3 List.mem_cons_self ?_ rfl rfl
  refine Calls.spliced_cons (hS _ _ _ _ _ _ F3.ns rfl rfl rfl (fun r tk => ?_))
  refine Calls.spliced_nil ⟨kxs_at N3 List.mem_cons_self, ?_⟩
  have hz : [r].length ≤ sizeLine := by
    rw [sizeLine_eq]
    exact (by decide : 1 ≤ 16777216)
  refine kxs_call (s := { s with heap := h3, toks := tk }) F3 X₀ N3 PySem.F.excBase_ValueError T.qi List.mem_cons_self (.tail hux (.tail hsx (.head (fun _ h => nomatch h)))) hz (fun t' h4 F4 N4 l4 => ?_)
  have X₄ : K.In h4 := X₀.keeps F4.keep
  have x4 : h4.get? x = some (excObj C t' none .none) := (N4 (x, excObj C t' none .none) (by simp)).1
  refine ks_wpAt_execs_cons (ks_wpAt_Assign_Attr (wpAt_of_wpAny (wpAny_Name (wpAny_loadName_local (v := v) rfl rfl F4.ns rfl (wpAny_Name (wpAny_loadName_local (v := .ref x) rfl rfl F4.ns rfl ?_))))))
  refine set_plain (od := none) X₄ (⟨x4, rfl, rfl, trivial⟩ : InstAt h4 x (excObj C t' none .none) C none) T.sa (exc_osa X₄ x4 hcl (show refsVE (.ref C :: bm) = true from hbm) rfl T.no (fun h5 tk5 dx k5 dn dne x5 n5 => ?_))
  refine wpAt_of_wpAny (wpAny_execs_nil ?_)
  have z : s.heap.objs.size < h4.objs.size := F4.ns.lt
  exact hq h5 tk5 dx ⟨fun b o hb e => k5 b o hb (fx F4 b o hb e), ⟨t', x5⟩, Nat.le_of_lt (Nat.lt_of_lt_of_le z dn), dne, n5⟩
/-- a made error -/
structure Made (h h' : Heap) (e C d : Addr) (f : Str) (v : Value) : Prop where
  keep : ∀ b o, h.get? b = some o → h'.get? b = some o
  new : h.objs.size ≤ e
  obj : ∃ oe vs, h'.get? e = some oe ∧ oe.cls = .ref C ∧ oe.dict = some d ∧ oe.data = .fields vs ∧ vs[1]? = some .none
  big : h.objs.size ≤ d
  ne : d ≠ e
  ns : h'.Ns1 d (fun y => if y = f then some v else none)
theorem sup_made (T : Cl prog K C fI "name" vs p) {v : Value} (X : K.In s.heap) (hlim : s.heap.NoLimit) (hg : s.heap.Ns mainGlobals mg) (hsu : mg "super" = none) (hb : ∃ mb, s.heap.Ns builtinsNs mb ∧ mb "super" = some (.type "super"))
    (hr : A.depth + 1 < recursionLimit) (hS : Says prog w "name" vs p.d v)
    (hq : ∀ h' tk e d, Made s.heap h' e C d "name" v → R (.ok (.ret (.ref e))) { s with heap := h', toks := tk }) : codeAny (model prog w) A (.call (.ref C) ⟨[v], []⟩) R s := by
  obtain ⟨nm, q, N, bs, bm, sn, sub, ab, col, dd, k0, k1, k2, k3, k5, hC, hbm⟩ := T.cls
  obtain ⟨hp, g, dr, tk, os⟩ := s
  have up : ∀ b o, hp.get? b = some o → ((hp.push (kdv_tup [v])).push (excO C hp.objs.size)).get? b = some o := fun b o e => Heap.get?_push_of_some _ (Heap.get?_push_of_some _ e)
  have atE : ((hp.push (kdv_tup [v])).push (excO C hp.objs.size)).get? (hp.objs.size + 1) = some (excO C hp.objs.size) := by heap_get
  have out : K.lookup (hp.objs.size + 1) = none := by
    cases e : K.lookup (hp.objs.size + 1) with
    | none => rfl
    | some o => exact absurd (Nat.lt_of_succ_lt (Heap.lt_size (show hp.get? (hp.objs.size + 1) = some o from X _ _ e))) (Nat.lt_irrefl _)
  have hz : [v].length ≤ sizeLine := by
    rw [sizeLine_eq]
    exact (by decide : 1 ≤ 16777216)
  refine call_own F.excBase_ValueError (fun Y => refsVE_contains Y bm hbm) (X _ _ hC) (looks_findIn X T.iC) (fun self => bind_fn X self T.tI) hz ?_
  refine sup_init (s := ⟨(hp.push (kdv_tup [v])).push (excO C hp.objs.size), g, dr, tk, os⟩) (mg := mg) T (X.keeps up) (hlim.keeps up) (hg.keeps up) hsu (by obtain ⟨mb, h1, h2⟩ := hb; exact ⟨mb, h1.keeps up, h2⟩) atE out ?_ hS fun h' tk' dx L => ?_
  · show A.depth + 1 < recursionLimit
    exact hr
  · have old : ∀ b o, hp.get? b = some o → h'.get? b = some o := fun b o e => L.keep b o (Nat.ne_of_lt (Nat.lt_succ_of_lt (Heap.lt_size e))) (up b o e)
    obtain ⟨t1, ho⟩ := L.obj
    have z : hp.objs.size + 1 + 1 ≤ dx := by
      have q := L.big
      first
        | exact q
        | (rw [Heap.size_push, Heap.size_push] at q; exact q)
    exact ⟨rfl, hq h' tk' (hp.objs.size + 1) dx ⟨old, Nat.le_succ _, ⟨_, _, ho, rfl, rfl, rfl, rfl⟩, (show hp.objs.size ≤ dx by omega), L.ne, L.ns⟩⟩
/-! the texts -/
theorem says_behind {f pre : Str} {j : Nat} {pa pb pc p3 : Pos} {x : Str} {tk : Tok} (hd : (f == ("__debug__" : Str)) = false) (h1 : pre.length ≤ 1000) (h2 : x.length ≤ 1000) : Says prog w f [.Constant (.str pre) j pa, .FormattedValue (.Name f pb) (-1) none pc] p3 (.str x tk) := by
  intro A E s env m Q hn hm hk hl hq
  have ex : Str.empty ++ pre = pre := by
    show (⟨#[] ++ pre.cps⟩ : Str) = pre
    simp
  have l1 : (Str.empty ++ pre).length ≤ sizeLine := by
    rw [ex, sizeLine_eq]
    omega
  have l2 : (Str.empty ++ pre ++ x).length ≤ sizeLine := by
    rw [ex, sizeLine_eq]
    show (pre.cps ++ x.cps).size ≤ _
    rw [Array.size_append]
    have : pre.cps.size ≤ 1000 := h1
    have : x.cps.size ≤ 1000 := h2
    omega
  refine wpAny_JoinedStr ?_
  show Joins _ _ _ [eval _ env, eval _ env] _ _ _
  refine Calls.Constant_str ⟨pre, _, rfl, l1, ?_⟩
  refine wpAny_FormattedValue_plain (wpAny_Name (wpAny_loadName_local hk hl (by exact hn) hm ?_) hd)
  refine wpAny_formatField_str ⟨x, _, rfl, l2, l2, hq _ _⟩ ⟨x, _, rfl, l2, l2, hq _ _⟩ ?_
  rw [sizeLine_eq]
  omega
end
end SupE
namespace L2
open PySem PySem.Spec PyProof.Rows SupE
theorem relO_one {k : Str} {v : V} {v' : Value} (r : RelV v v') (g : Str) : RelO (List.lookup g [(k, v)]) (if g = k then some v' else none) := by
  by_cases e : g = k
  · subst e
    rw [if_pos rfl, show List.lookup g [(g, v)] = some v by simp [List.lookup]]
    exact r
  · rw [if_neg e, show List.lookup g [(k, v)] = none by simp [List.lookup, show (g == k) = false by simpa using e]]
    trivial
section
variable {X : Cx} {C fI : Addr} {vs : List Expr} {ps : Ps}
/-- C(e): a new error that holds e -/
def tMkS (C : Addr) (k : Str) (ok : V → Prop) (ta : TA) : St → Hp → XK → Prop := fun σ H Q => ta σ H fun us H1 => ∃ v, us = [v] ∧ ok v ∧ ∀ d ob, H1 d = none → Q (.ref C) (some d) (upd H1 d (.frz ob (.xd [(k, v)])))
theorem pmk_sup {c : Str} {ok : V → Prop} {a : Expr} {ta : TA} {p pos : Pos} {k : Nat} (T : Cl X.prog X.K C fI "name" vs ps) (gC : X.mg c = some (.ref C)) (gs : X.mg "super" = none) (hS : ∀ v v', ok v → RelV v v' → Says X.prog X.w "name" vs ps.d v') (hr : Room k X.A) (ha : PA X [a] ta) (hg : Gl X c) (hdb : (c == ("__debug__" : Str)) = false := by decide)
    (he : starEach (a :: []) X.env = (false, eval a X.env) :: starEach [] X.env := by rfl) (hpl : (backTo pos (starEach [] X.env)).any (·.1) = false := by rfl) :
    PMk X (.Call (.Name c p) [a] [] pos) (tMkS C "name" ok ta) := by
  intro pins s σ H Q I h
  refine wpAny_Call_Name_kw (ld_glob I hg gC ?_ hdb)
  refine PySem.W.callWith_K (h₀ := X.base) I.ok.mod.kin T.kC (thn (ha.run pos pins s σ H _ I h) fun us s1 hh => ?_) he hpl
  obtain ⟨ws, H1, I1, r1, v, rfl, okv, q1⟩ := hh
  refine ⟨I1.kIn, ?_⟩
  cases r1 with
  | @cons _ v' _ _ rv rn =>
    cases rn
    have hlim := I1.nolimit
    obtain ⟨mb, hbn, hbs⟩ := I.ok.mod.blt
    have hb2 : ∃ mb, s1.heap.Ns builtinsNs mb ∧ mb "super" = some (.type "super") := ⟨mb, hbn.keeps I1.bk, (hbs _ (by decide +kernel)).trans (by first | rfl | decide +kernel | kernel_rfl)⟩
    have hg2 : s1.heap.Ns mainGlobals X.mg := I.ok.mod.glob.keeps I1.bk
    have K1 := I1.kIn
    obtain ⟨hp, g, dr, tk, os⟩ := s1
    refine wpAny_call (sup_made (mg := X.mg) T K1 hlim hg2 gs hb2 (by have := hr.dp; omega) (hS v v' okv rv) fun h' tk' e d M => ?_)
    show MkP X pins σ Q (.ref e) ⟨h', g, dr, tk', os⟩
    obtain ⟨oe, fv, hoe, hc, hd, hdat, h1⟩ := M.obj
    obtain ⟨G, g1, g2⟩ := restrict h' fun b => decide (b ≠ e)
    have gk : ∀ b, b ≠ e → G.get? b = h'.get? b := fun b hb => g1 b (decide_eq_true hb)
    have ge : G.get? e = none := g2 e (by simp)
    have old : ∀ b o, hp.get? b = some o → G.get? b = some o := fun b o q => (gk b (Nat.ne_of_lt (Nat.lt_of_lt_of_le (Heap.lt_size q) M.new))).trans (M.keep b o q)
    have raw : ∀ H' : Hp, ObjOk X.prog X.w H' G d (.xd [(("name" : Str), v)]) := fun H' => ⟨_, M.ns.at (fun o q => (gk d M.ne).trans q), fun y => relO_one rv y⟩
    obtain ⟨od, hod⟩ := objOk_get (raw H1)
    have J : Inv X pins σ (upd H1 d (.frz od (.xd [(("name" : Str), v)]))) ⟨G, g, dr, tk', os⟩ := I1.laid (t' := tk') old M.big ⟨hod, raw _⟩
    refine ⟨e, oe, fv, ⟨G, g, dr, tk', os⟩, _, .ref C, some d, rfl, J, fun b o q => ?_, ge, hoe, ⟨hc, hd⟩, hdat, h1, ?_, rfl, I1.bare, raises_own T.bC T.tC, q1 d od (I1.hok.fresh M.big)⟩
    · by_cases hb : b = e
      · rw [hb] at q
        exact absurd (ge.symm.trans q) (by simp)
      · exact (gk b hb).symm.trans q
    · rw [upd_ne (Ne.symm M.ne)]
      exact I1.hok.fresh M.new
end
end L2

set_option Elab.async false
set_option linter.all false
set_option maxRecDepth 100000
set_option maxHeartbeats 4000000
namespace Va
open PySem PySem.Spec PyProof.Rows L2 Ind
/-! ### errors that hold something -/
section
variable {X : Cx} {S : Sg} {W : WX} {e : Expr} {es : List Expr} {pos : Pos}
/-- raise C(e): the error holds the value -/
def xRaiseF (C : Addr) (f : Tx) (ok : D → Prop) (t : VT) : VSX := fun _ Xq E => t E fun d E1 => ok d ∧ Xq (.fld C f d) E1
def okStr : D → Prop
  | .str x => x.length ≤ 1000
  | _ => False
def okStrV : V → Prop
  | .str x => x.length ≤ 1000
  | _ => False
theorem vx_raiseF {C fI : Addr} {vs : List Expr} {ps : SupE.Ps} {c : PySem.Str} {a : Expr} {t : VT} {p pos2 : Pos} {k : Nat} (hc : X.calm = true) (tk : Takes X W) (T : SupE.Cl X.prog X.K C fI "name" vs ps) (gC : X.mg c = some (.ref C)) (gs : X.mg "super" = none)
    (hS : ∀ v v', okStrV v → RelV v v' → SupE.Says X.prog X.w "name" vs ps.d v') (hr : Room k X.A) (ha : VE S X.nox a t) (hg : Gl X c) (hdb : (c == ("__debug__" : PySem.Str)) = false := by decide)
    (he : starEach (a :: []) X.env = (false, eval a X.env) :: starEach [] X.env := by rfl) (hpl : (backTo pos (starEach [] X.env)).any (·.1) = false := by rfl) :
    VXt S W X (.Raise (some (.Call (.Name c p) [a] [] pos)) none pos2) (xRaiseF C "name" okStr t) := by
  refine ps_weak (ps_raise hc tk (pmk_sup T gC gs hS hr (pa_cons (PE.nox ha) pa_nil he) hg hdb he hpl)) ?_
  rintro D σ H ⟨Γ, E, Vv, Xq, ok, r, h, k, kx⟩
  refine ⟨Γ, E, _, ok, r, h, fun d E1 h1 v H1 q1 r1 hv => ?_⟩
  obtain ⟨ho, hx⟩ := h1
  cases d with
  | str x =>
    cases hv
    refine ⟨.str x, rfl, ho, fun dd ob nd => ?_⟩
    have sm := same_upd (o := .frz ob (.xd [(("name" : PySem.Str), V.str x)])) nd
    exact kx _ E1 hx _ _ σ _ (q1.trans (Kq.same sm)) (r1.same sm) ⟨rfl, dd, ob, _, rfl, upd_same, .str x⟩
  | _ => exact ho.elim
/-- what an except suite knows of its error -/
structure HeldX (K : PySem.W.Frag) (oe : Obj) (C : Addr) (d : Option Addr) : Prop where
  cls : oe.cls = .ref C
  fv : ∃ vs, oe.data = .fields vs
  dict : oe.dict = d
  ex : ExcC K C
def plOf (d : Option Addr) : Er → Option (Addr × Tx × D)
  | .own _ => none
  | .fld _ f x => d.map fun dd => (dd, f, x)
/-- isinstance(e, c) -/
def rIsX (K : PySem.W.Frag) (C a : Addr) (d : Option Addr) : List V → Hp → VK → Prop := fun xs H Q => ∃ (c : V) (cv : Value) (b : Bool), xs = [.ref a, c] ∧ (∀ u, RelV c u → u = cv) ∧ PySem.W.kitOne K (.ref C) cv = some b ∧ (∀ dd, d = some dd → ∃ ob u, H dd = some (.frz ob u)) ∧ Q (.bl b) H
theorem call_isX {a C : Addr} {oe : Obj} {d : Option Addr} {pn : List (Addr × Obj)} (hd : HeldX X.K oe C d) : CallR (X.suite a ((a, oe) :: pn)) (.builtin "isinstance") (rIsX X.K C a d) := by
  intro pins s σ H xs us Q I r h
  obtain ⟨c, cv, b, rfl, hcv, e, hdd, q⟩ := h
  cases r with
  | cons rx rr =>
    cases rr with
    | cons rt rr =>
      cases rr
      cases rx
      cases hcv _ rt
      obtain ⟨hget, _⟩ := I.pin (a, oe) (List.mem_append.mpr (.inl List.mem_cons_self))
      obtain ⟨vs, hv⟩ := hd.fv
      have C' := hd.ex
      have key : ∃ od, PySem.W.InstAt s.heap a oe C od := by
        obtain ⟨oc, odd, oda, osl⟩ := oe
        have h1 : oc = .ref C := hd.cls
        have h2 : odd = d := hd.dict
        have h3 : oda = .fields vs := hv
        subst h1 h2 h3
        cases odd with
        | none => exact ⟨none, hget, rfl, rfl, trivial⟩
        | some dd =>
          obtain ⟨ob, u, hf⟩ := hdd dd rfl
          exact ⟨some ob, hget, rfl, rfl, (I.hok dd _ hf).1⟩
      obtain ⟨od, J⟩ := key
      have hcl : (PySem.W.clsIn X.K C).isSome = true := by
        obtain ⟨cd, hc, _⟩ := PySem.W.any_some C'.hd
        rw [hc]
        rfl
      exact PySem.W.kia_one (PySem.W.kitx_exc hcl C'.hg C'.hk C'.hs C'.ha C'.hn C'.ht C'.hm) I.kIn J e (fun z => nomatch z) fun tk => ⟨.bl b, H, I.kept (t' := tk) fun _ _ z => z, rfl, q⟩
def vIsX (K : PySem.W.Frag) (i : Nat) (a C : Addr) (d : Option Addr) (cv : Value) : VT := fun E Q => (∃ pl, E.l[i]? = some (.ex a pl) ∧ ∀ dd, d = some dd → ∃ f x, pl = some (dd, f, x)) ∧ ∃ b, PySem.W.kitOne K (.ref C) cv = some b ∧ Q (.bl b) E
theorem ve_isX {i : Nat} {x y : PySem.Str} {a C : Addr} {oe : Obj} {d : Option Addr} {pn : List (Addr × Obj)} {cv : Value} {c : V} {p p2 p3 pos : Pos} (hd : HeldX X.K oe C d) (hK : S.K = X.K)
    (hv : PE (X.suite a ((a, oe) :: pn)) (.Name x p) (tVar i)) (hc : PE (X.suite a ((a, oe) :: pn)) (.Name y p2) (tC c)) (hcv : ∀ u, RelV c u → u = cv)
    (hg : Gl (X.suite a ((a, oe) :: pn)) "isinstance") (hm : X.mg "isinstance" = none) (hbt : bootBuiltins "isinstance" = some (.builtin "isinstance")) : VE S (X.suite a ((a, oe) :: pn)) (.Call (.Name "isinstance" p3) [.Name x p, .Name y p2] [] pos) (vIsX S.K i a C d cv) := by
  refine pe_weak (pe_callB (call_isX hd) hg hm hbt (pa_cons hv (pa_cons hc pa_nil))) ?_
  rintro σ H Q ⟨Γ, E, Q0, ok, rp, ht, k⟩
  obtain ⟨⟨pl, hE, hpl⟩, b, hb, hq⟩ := ht
  rw [hK] at hb
  obtain ⟨o, h1, h2, h3⟩ := rp.sl i _ hE
  subst h2
  refine ⟨_, h1, c, cv, b, rfl, hcv, hb, fun dd e => ?_, k _ _ hq _ _ (Kq.refl _) rp (.bl b)⟩
  obtain ⟨f, y, e2⟩ := hpl dd e
  obtain ⟨ob, v, h4, _⟩ := h3 _ e2
  exact ⟨ob, _, h4⟩
/-- e.f of the error that the suite holds -/
def vFld (i : Nat) (a C C0 : Addr) (d : Option Addr) (f : Tx) : VT := fun E Q => C = C0 ∧ ∃ dd x, d = some dd ∧ E.l[i]? = some (.ex a (some (dd, f, x))) ∧ Q x E
theorem ve_fld {i : Nat} {x n : PySem.Str} {a C C0 : Addr} {oe : Obj} {d : Option Addr} {pn : List (Addr × Obj)} {p pos : Pos} (hd : HeldX X.K oe C d) (hno : PySem.W.findIn X.K (.ref C0) n = some none)
    (hv : PE (X.suite a ((a, oe) :: pn)) (.Name x p) (tVar i)) (hb : attributeBase (.Name x p) n X.env (eval (.Name x p) X.env) = eval (.Name x p) X.env := by rfl) : VE S (X.suite a ((a, oe) :: pn)) (.Attribute (.Name x p) n pos) (vFld i a C C0 d n) := by
  refine ⟨fun pins s σ H Q I h => ?_⟩
  obtain ⟨Γ, E, Q0, ok, rp, ht, k⟩ := h
  obtain ⟨rfl, dd, z, rfl, hE, hq⟩ := ht
  obtain ⟨o, h1, h2, h3⟩ := rp.sl i _ hE
  subst h2
  obtain ⟨ob, v, h4, h5⟩ := h3 _ rfl
  refine attr_of hb (thn (hv.run pins s σ H (fun v1 H1 => v1 = .ref a ∧ H1 = H) I ⟨_, h1, rfl, rfl⟩) fun u s1 hh => ?_)
  obtain ⟨v1, H1, I1, rx, rfl, rfl⟩ := hh
  obtain rfl : u = Value.ref a := rx
  obtain ⟨ha, _⟩ := I1.pin (a, oe) (List.mem_append_left _ List.mem_cons_self)
  obtain ⟨vs, hfd⟩ := hd.fv
  obtain ⟨hob, mA, hns, hr⟩ := I1.hok dd _ h4
  obtain ⟨od, ho, hl⟩ := lookIn_ns hns
  have l : List.lookup n [(n, v)] = some v := by simp [List.lookup]
  obtain ⟨u, hu, ru⟩ := RelO.some_of (v := v) (o := mA n) (by rw [← l]; exact hr n)
  have J : PySem.W.InstAt s1.heap a oe C (some od) := ⟨ha, hd.cls, by unfold PySem.W.notCls; rw [hfd], by rw [hd.dict]; exact ho⟩
  exact HandSPX.exc_get I1.kIn J hd.ex.hg hd.ex.hk hd.ex.hs (PySem.W.findObj_own hd.ex.hd hno rfl (by rw [hl, hu])) (handed_of ru) ⟨v, H1, I1.tok _, ru, k _ _ hq _ _ (Kq.refl _) rp h5⟩
end
end Va
namespace Va
open PySem PySem.Spec PyProof.Rows L2 Ind
/-! ### try: .. except C as n: .., whatever errors the body raises -/
section
variable {X : Cx} {S : Sg} {x n : PySem.Str} {c : Value} {i : Nat} {body suite : List Stmt} {b₀ : Stmt} {np pos pos' : Pos}
def dOk : Er → Option Addr → Prop
  | .own _, d => d = none
  | .fld _ _ _, d => ∃ dd, d = some dd
def sTryX (i : Nat) (okE : Er → Prop) (tb : VSX) (ts : Addr → Option Addr → Er → VS) : VS := fun V E => tb V (fun e E1 => okE e ∧ ∀ a d, dOk e d → ts a d e { nx := fun E2 => V.nx (E2.set i .no), rt := V.rt, bk := fun E2 => V.bk (E2.set i .no), ct := fun E2 => V.ct (E2.set i .no) } (E1.set i (.ex a (plOf d e)))) E
theorem vs_tryX {tb : VSX} {ts : Addr → Option Addr → Er → VS} (okE : Er → Prop) (hs : X.stack = X.env :: X.outer) (hf : X.env.frame = some X.env.locals) (hN : X.N.Nodup) (hi : X.N[i]? = some n) (hln : X.env.kindOf n = some .local) (hc : Names X x c)
    (hx : ∀ e, okE e → PySem.W.exmOne X.K (.ref e.cls) c = some true) (hE : ∀ e, okE e → ExcC X.K e.cls)
    (hb : ∀ (W : WX) (pn : List (Addr × Obj)) (xe : Value → Shared → Prop), Takes (X.tr pn xe) W → PassesOwn (model X.prog X.w) X.A X.env xe → VXs S W (X.tr pn xe) body tb)
    (hsu : ∀ (e : Er) (a : Addr) (d : Option Addr) (oe : Obj) (pn : List (Addr × Obj)), HeldX X.K oe e.cls d → VSs S (X.suite a ((a, oe) :: pn)) (b₀ :: suite) (ts a d e)) :
    VSt S X (.Try body [.ExceptHandler (some (.Name x np)) (some n) (b₀ :: suite) pos'] [] [] pos) (sTryX i okE tb ts) := by
  refine ps_weak (ps_try_as (i := i) (ts := fun a cls d D σ H => ∃ e : Er, okE e ∧ cls = .ref e.cls ∧ liftS S (ts a d e) D σ H) hs hf hN hi hln hc takes0 (fun W pn xe tk po => hb W pn xe tk po) (fun a oe cls d pn hz hfl => ?_)) ?_
  · refine ⟨fun pins s σ H D I h => ?_⟩
    obtain ⟨e, oke, ec, h⟩ := h
    exact (hsu e a d oe pn ⟨hz.1.trans ec, hfl, hz.2, hE e oke⟩).run pins s σ H D I h
  · rintro D σ H ⟨Γ, E, V, ok, r, h, k⟩
    refine ⟨Γ, E, V, _, ok, r, h, k, fun e E1 h1 cls d σ1 H1 q1 r1 xr => ?_⟩
    obtain ⟨oke, hs⟩ := h1
    have both : cls = .ref e.cls ∧ dOk e d ∧ ∀ p, plOf d e = some p → ∃ ob v, H1 p.1 = some (.frz ob (.xd [(p.2.1, v)])) ∧ Γ.Rp H1 v p.2.2 := by
      cases e with
      | own C =>
        obtain ⟨h1, h2⟩ := xr
        exact ⟨h1, h2, fun p hp => by cases hp⟩
      | fld C f y =>
        obtain ⟨h1, dd, ob, v, rfl, h3, h4⟩ := xr
        exact ⟨h1, ⟨dd, rfl⟩, fun p hp => by cases hp; exact ⟨ob, v, h3, h4⟩⟩
    obtain ⟨rfl, hd, hp⟩ := both
    refine ⟨true, hx e oke, fun _ a na => ⟨e, oke, rfl, Γ, _, _, ok, ?_, hs a d hd, ?_⟩, fun z => Bool.noConfusion z⟩
    · refine ⟨r1.base, by simp [En.set, r1.len], r1.few, fun j s e => ?_, fun j k s t b e1 e2 o1 o2 h1 h2 => ?_⟩
      · rcases get_set e with ⟨rfl, rfl, hi⟩ | ⟨ne, e⟩
        · exact ⟨_, List.getElem?_set_self (by rw [← r1.len]; exact hi), rfl, hp⟩
        · rw [List.getElem?_set_ne ne]
          exact r1.sl j s e
      · rcases get_set e1 with ⟨_, rfl, _⟩ | ⟨n1, e1⟩
        · cases o1
        · rcases get_set e2 with ⟨_, rfl, _⟩ | ⟨n2, e2⟩
          · cases o2
          · rw [List.getElem?_set_ne n1] at h1
            rw [List.getElem?_set_ne n2] at h2
            exact r1.dis j k s t b e1 e2 o1 o2 h1 h2
    · exact ⟨fun E2 h2 σ2 H2 q2 r2 => k.nx _ h2 _ H2 (q1.trans q2) (r2.setNo i none), fun d E2 h2 v σ2 H2 q2 r2 rv => k.rt d E2 h2 v σ2 H2 (q1.trans q2) r2 rv, fun E2 h2 σ2 H2 q2 r2 => k.bk _ h2 _ H2 (q1.trans q2) (r2.setNo i none), fun E2 h2 σ2 H2 q2 r2 => k.ct _ h2 _ H2 (q1.trans q2) (r2.setNo i none)⟩
end
/-! ### loops whose body may raise -/
section
variable {X : Cx} {S : Sg} {W : WX} {pos : Pos}
def xFor (vi : VI) (g : VG) (tb : VSX) : VSX := fun V Xq E => vi E fun ds E1 => ∃ P : Nat → En → Prop, P 0 E1 ∧ (∀ i d E, ds[i]? = some d → P i E → g d E fun E2 => tb { V with nx := P (i + 1), ct := P (i + 1), bk := V.nx } Xq E2) ∧ ∀ E, P ds.length E → V.nx E
theorem vx_for {is : List Nat} {tg iter : Expr} {body : List Stmt} {vi : VI} {g : VG} {tb : VSX} (hp : PassesOwn (model X.prog X.w) X.A X.env X.xe) (hc : X.calm = true) (hi : VIt S X tg iter vi) (hg : PG X tg (liftG S is g)) (hb : VXs S W X body tb) (hs : ∀ x, foldedSetIterable iter X.env x = pure x := by intro _; rfl) : VXt S W X (.For tg iter body [] pos) (xFor vi g tb) := by
  refine ps_weak (ps_for hp hc hi hg hb hs) ?_
  rintro D σ H ⟨Γ, E, V, Xq, ok, rp, ht, k, kx⟩
  refine ⟨Γ, E, _, ok, rp, ht, fun ds E1 ⟨P, p0, ps, pn⟩ J H1 kq1 rp1 it => ?_⟩
  refine ⟨fun i m σ' H' => m = ds.length - i ∧ i ≤ ds.length ∧ ∃ E', P i E' ∧ Rep Γ E' σ' H' ∧ Kq H1 H', ⟨_, rfl, Nat.zero_le _, E1, p0, rp1, Kq.refl _⟩, ?_⟩
  rintro i m σ' H' ⟨rfl, hi, E', pi, rp', kq'⟩
  by_cases hlt : i < ds.length
  · refine .inr ⟨it.go i H' hlt kq', fun σ2 H2 => i + 1 ≤ ds.length ∧ ∃ E2, P (i + 1) E2 ∧ Rep Γ E2 σ2 H2 ∧ Kq H1 H2, fun σ2 H2 h => ⟨_, by omega, rfl, h⟩, fun x H2 y => ?_⟩
    obtain ⟨d, ed, rd, sm⟩ := it.yld i H' x H2 hlt kq' y
    have kq2 := kq'.trans (Kq.same sm)
    refine ⟨Γ, E', d, _, ok, rp'.same sm, rd, ps i d E' ed pi, fun E3 q3 σ3 r3 _ => ?_⟩
    refine ⟨Γ, E3, _, Xq, ok, r3, q3, ⟨fun E4 h4 σ4 H4 q4 r4 => ⟨hlt, E4, h4, r4, kq2.trans q4⟩, fun d4 E4 h4 v4 σ4 H4 q4 r4 rv4 => k.rt d4 E4 h4 v4 σ4 H4 ((kq1.trans kq2).trans q4) r4 rv4, fun E4 h4 σ4 H4 q4 r4 => k.nx E4 h4 σ4 H4 ((kq1.trans kq2).trans q4) r4, fun E4 h4 σ4 H4 q4 r4 => ⟨hlt, E4, h4, r4, kq2.trans q4⟩⟩, kx.kq (kq1.trans kq2)⟩
  · have e : i = ds.length := by omega
    subst e
    exact .inl ⟨it.stop H' kq', k.nx E' (pn E' pi) σ' H' (kq1.trans kq') rp'⟩
end
end Va

set_option Elab.async false
set_option linter.all false
set_option maxRecDepth 100000
set_option maxHeartbeats 4000000
namespace Va
open PySem PySem.Spec PyProof.Rows L2 Ind
/-! ### x += int; a tuple that is written as a constant -/
section
variable {X : Cx} {S : Sg} {e : Expr} {pos : Pos}
def asI (d : D) (Q : Int → Prop) : Prop := match d with
  | .int i => Q i
  | _ => False
theorem asI_inv {d : D} {Q : Int → Prop} (h : asI d Q) : ∃ i, d = .int i ∧ Q i := by
  cases d with
  | int i => exact ⟨i, rfl, h⟩
  | _ => exact h.elim
def sAug (i : Nat) (t : VT) : VS := fun V E => withD (match E.l[i]? with | some (.v d) => some d | _ => none) fun d => asI d fun a => t E fun d2 E1 => asI d2 fun b => V.nx (E1.set i (.v (.int (a + b))))
theorem vs_aug {i : Nat} {x : PySem.Str} {t : VT} {pos' : Pos} (hN : X.N.Nodup) (hi : X.N[i]? = some x) (hx : Loc X.env.scope x) (he : VE S X e t) (hf : X.fn x = true ∨ X.env.scope.names.lookup x = some .local := by first | exact .inl rfl | exact .inr rfl | assumption) : VSt S X (.AugAssign (.Name x pos') .Add e pos) (sAug i t) := by
  refine ps_weak (ps_aug hN hi hx he ip_add hf) ?_
  rintro D σ H ⟨Γ, E, Vv, ok, r, h, k⟩
  unfold sAug at h
  cases hE : E.l[i]? with
  | none => rw [hE] at h; exact h.elim
  | some s =>
    rw [hE] at h
    cases s with
    | v d =>
      obtain ⟨a, rfl, h⟩ := asI_inv h
      obtain ⟨o, h1, v, h2, hv⟩ := r.sl i _ hE
      subst h2
      cases hv
      refine ⟨_, h1, Γ, E, _, ok, r, h, fun d2 E1 hq v H1 q1 r1 hv => ?_⟩
      obtain ⟨b, rfl, hq⟩ := asI_inv hq
      cases hv
      exact ⟨a, b, rfl, rfl, k.nx _ hq _ _ q1 (r1.set i (.int _))⟩
    | _ => exact h.elim
theorem ve_ct {a : Addr} {vs : List V} {ds : List D} (h : PE X e (tC (.ref a))) (hK : S.K = X.K) (q : ∀ H, SqT X.K H a vs) (r : ∀ (K : PySem.W.Frag) (tp : Option Tp) (H : Hp), RpL K tp H vs ds) : VE S X e (vC (.tup ds)) := by
  refine pe_weak h ?_
  rintro σ H Q ⟨Γ, E, Q0, ok, rp, ht, k⟩
  have eK : X.K = Γ.K := (ok.k.trans hK).symm
  exact k _ _ ht _ _ (Kq.refl _) rp (.tup (by rw [← eK]; exact q H) (r _ _ _))
end
/-! the text of a class's first def -/
def clsInit : Stmt → Stmt
  | .ClassDef (body := st :: _) .. => st
  | st => st
end Va

set_option Elab.async false
set_option linter.all false
set_option maxRecDepth 100000
set_option maxHeartbeats 4000000
namespace IndEnd
open PySem PySem.Spec PyProof.Rows L2
/-- what is tracked ahead of the law: the tables, and the script where it is no object of the written part -/
def startT (K : PySem.W.Frag) (a : Addr) (o : Obj) (ns : List Int) (ts : List Addr) : Hp := fun b =>
  if b ∈ ts then some (.tbl #[]) else start0 K a o ns b
theorem startT_in {K : PySem.W.Frag} {a b : Addr} {o : Obj} {ns : List Int} {ts : List Addr} (h : b ∈ ts) : startT K a o ns ts b = some (.tbl #[]) := if_pos h
theorem startT_out {K : PySem.W.Frag} {a b : Addr} {o : Obj} {ns : List Int} {ts : List Addr} (h : b ∉ ts) : startT K a o ns ts b = start0 K a o ns b := if_neg h
theorem startT_some {K : PySem.W.Frag} {a b : Addr} {o : Obj} {ns : List Int} {ts : List Addr} {u : HO} (h : startT K a o ns ts b = some u) : (b ∈ ts ∧ u = .tbl #[]) ∨ (b ∉ ts ∧ b = a ∧ K.lookup a = none ∧ u = .frz o (.lst (ns.map V.int))) := by
  by_cases c : b ∈ ts
  · rw [startT_in c] at h
    exact .inl ⟨c, (Option.some.inj h).symm⟩
  · rw [startT_out c] at h
    exact .inr ⟨c, start0_some h⟩
theorem law_goT {P : Program} {w : World} {K : PySem.W.Frag} {mg mb : Str → Option Value} {fa a : Addr} {s₁ : Shared} {vs : List Value} {ns : List Int} {cs : List (Addr × Addr)}
    (KX : K.In s₁.heap) (hns : s₁.heap.Ns mainGlobals mg) (hb : s₁.heap.Ns builtinsNs mb) (hbb : ∀ x : Str, x ≠ "__name__" → mb x = bootBuiltins x) (hlim : s₁.heap.NoLimit) (hg : s₁.gens = #[])
    (tT : ∀ q ∈ cs, s₁.heap.get? q.2 = some { cls := .none, data := .fields #[] }) (tK : ∀ q ∈ cs, K.lookup q.2 = none) (tC : ∀ q ∈ cs, PySem.W.CodeHd s₁.heap q.1 q.2)
    (tM : ∃ (m : Addr) (om : Obj), mg "__builtins__" = some (.ref m) ∧ m ≠ builtinsNs ∧ s₁.heap.get? m = some om ∧ om.cls = .type "module" ∧ om.dict = some builtinsNs ∧ om.data = .plain)
    (ha : s₁.heap.get? a = some { cls := .type "list", data := .seq vs.toArray }) (hi : IntsAre vs ns) (hl : ns.length ≤ sizeLine)
    (F : ∀ base : Heap, K.In base → base.Ns mainGlobals mg → (∀ q ∈ cs, GxR.TabB base mg q.1 q.2) → ∀ H : Hp, Env0 P w K mg base callerA [] s₁ H → SqL K H a (ns.map V.int) → (∀ q ∈ cs, H q.2 = some (.tbl #[])) →
      codeAny (model P w) callerA (.call (.ref fa) ⟨[.ref a], []⟩) (CR CX0 [] P w H s₁ (fun v _ => v = .bl true) E0) s₁) :
    codeAny (model P w) callerA (.call (.ref fa) ⟨[.ref a], []⟩) (fun r s' => r = .ok (.ret (.bool true)) ∧ OldK s₁.heap s'.heap ∧ s'.os = s₁.os ∧ AllBare s'.gens) s₁ := by
  have rv := vals_ints hi
  have hlen := hi.length
  let o : Obj := { cls := .type "list", data := .seq vs.toArray }
  let ts : List Addr := cs.map (·.2)
  have tin : ∀ {b : Addr}, b ∈ ts → s₁.heap.get? b = some { cls := .none, data := .fields #[] } := fun {b} h => by
    obtain ⟨q, hq, rfl⟩ := List.mem_map.mp h
    exact tT q hq
  have ato : a ∉ ts := fun z => by
    have e := tin z
    rw [ha] at e
    have e2 := congrArg Obj.data (Option.some.inj e)
    cases e2
  let H := startT K a o ns ts
  have SQ : SqL K H a (ns.map V.int) := by
    cases hk : K.lookup a with
    | none => exact .inl (.inr ⟨o, by show startT K a o ns ts a = _; rw [startT_out ato]; unfold start0; rw [if_pos ⟨rfl, hk⟩]⟩)
    | some o' =>
      have e := KX a o' hk
      rw [ha] at e
      cases e
      exact .inr ⟨_, vs.toArray, _, hk, rfl, rfl, rfl, by rw [List.size_toArray, hlen]; exact hl, by simpa using rv⟩
  have OK : HOk P w H s₁.heap := fun b u e => by
    rcases startT_some e with ⟨h1, rfl⟩ | ⟨_, rfl, _, rfl⟩
    · exact tin h1
    · exact ⟨ha, by rw [List.length_map]; exact hl, vs, _, rv, ha⟩
  have under : ∀ {b : Addr} {ob : Obj}, s₁.heap.get? b = some ob → H b = none → (hidT s₁.heap H).get? b = some ob := fun e n => hidT_get e n
  have free : ∀ {b : Addr} {ob : Obj}, s₁.heap.get? b = some ob → (∀ xs n, ob.data ≠ .seq xs n) → ob.data ≠ .fields #[] → H b = none := fun {b ob} e n1 n2 => by
    cases q : H b with
    | none => rfl
    | some u =>
      rcases startT_some q with ⟨h1, _⟩ | ⟨_, rfl, _, _⟩
      · rw [tin h1] at e
        cases e
        exact (n2 rfl).elim
      · rw [ha] at e
        cases e
        exact (n1 _ _ rfl).elim
  have nsp : ∀ {b : Addr} {m : Str → Option Value}, s₁.heap.Ns b m → (hidT s₁.heap H).Ns b m := by
    rintro b m ⟨ob, es, ep, e, d, r⟩
    exact ⟨ob, es, ep, under e (free e (fun _ _ z => by rw [d] at z; cases z) fun z => by rw [d] at z; cases z), d, r⟩
  have KB : K.In (hidT s₁.heap H) := fun b ob e => under (KX b ob e) (by
    cases q : H b with
    | none => rfl
    | some u =>
      rcases startT_some q with ⟨h1, _⟩ | ⟨_, rfl, n, _⟩
      · obtain ⟨p, hp, rfl⟩ := List.mem_map.mp h1
        rw [tK p hp] at e
        cases e
      · rw [n] at e
        cases e)
  have lim2 : (hidT s₁.heap H).NoLimit := by
    obtain ⟨mc, h1, h2⟩ := hlim
    exact ⟨mc, nsp h1, h2⟩
  have e0 : Env0 P w K mg (hidT s₁.heap H) callerA [] s₁ H := by
    refine ⟨rfl, ⟨KB, nsp hns, ⟨mb, nsp hb, hbb⟩, lim2⟩, fun b ob e => of_hidT e, Nat.le_of_eq (hidT_size _ _), trivial, fun b z => ?_, OK, .of_eq hg⟩
    exact absurd (show b ∈ ([] : List Addr) from z) (by simp)
  have TB : ∀ q ∈ cs, GxR.TabB (hidT s₁.heap H) mg q.1 q.2 := by
    intro q hq
    have hTq := tT q hq
    constructor
    · obtain ⟨oc, us, file, tf, flags, tg, inF, text, tt, c1, c2, c3, c4, c5, c6, c7, c8, c9, c10⟩ := tC q hq
      exact ⟨oc, us, file, tf, flags, tg, inF, text, tt, under c1 (free c1 (fun xs n z => by rw [c3] at z; cases z) fun z => by rw [c3] at z; cases z; simp at c4), c2, c3, c4, c5, c6, c7, c8, c9, c10⟩
    · obtain ⟨m, om, b1, b2, b3, b4, b5, b6⟩ := tM
      have nG : m ≠ mainGlobals := by
        rintro rfl
        obtain ⟨og, es, ep, e, d, _⟩ := hns
        rw [e] at b3
        cases b3
        rw [d] at b6
        cases b6
      have nP : m ≠ q.2 := by
        rintro rfl
        rw [hTq] at b3
        cases b3
        cases b6
      exact ⟨m, om, b1, b2, nG, nP, under b3 (free b3 (fun xs n z => by rw [b6] at z; cases z) fun z => by rw [b6] at z; cases z), b4, b5, b6⟩
    · intro z
      obtain ⟨og, es, ep, e, d, _⟩ := hns
      rw [z, hTq] at e
      cases e
      cases d
  refine codeAny_mono (F _ KB (nsp hns) TB H e0 SQ fun q hq => startT_in (List.mem_map.mpr ⟨q, hq, rfl⟩)) fun r s' h => ?_
  match r, h with
  | .error e, h => exact h.elim
  | .ok (.next), h => exact False.elim h
  | .ok (.brk), h => exact False.elim h
  | .ok (.cont), h => exact False.elim h
  | .ok (.ret u), h =>
    obtain ⟨v, H', os, bare, un, ok', rel, q⟩ := h
    have q1 : v = .bl true := q
    subst q1
    have q2 : u = Value.bool true := rel
    subst q2
    have same : ∀ b ob, b ∉ ts → s₁.heap.get? b = some ob → s'.heap.get? b = some ob := by
      intro b ob nb e
      cases q : H b with
      | none => exact un.keep b ob e q (fun z => absurd (show b ∈ ([] : List Addr) from z) (by simp)) (by simp)
      | some u =>
        rcases startT_some q with ⟨h1, _⟩ | ⟨_, rfl, _, rfl⟩
        · exact absurd h1 nb
        · obtain ⟨z, _⟩ := ok' b _ (un.frzs b _ _ q)
          rw [ha] at e
          cases e
          exact z
    have more : ∀ p ∈ cs, ∃ xs : Array Value, s'.heap.get? p.2 = some { cls := .none, data := .fields xs } := by
      intro p hp
      obtain ⟨xs, z⟩ := un.tbls p.2 #[] (startT_in (List.mem_map.mpr ⟨p, hp, rfl⟩))
      exact ⟨_, ok' p.2 _ z⟩
    refine ⟨rfl, ⟨fun b ob e => ?_, fun b ob e => ?_⟩, os, bare⟩
    · by_cases c : b ∈ ts
      · obtain ⟨p, hp, rfl⟩ := List.mem_map.mp c
        obtain ⟨xs, hx⟩ := more p hp
        have e : s₁.heap.get? p.2 = some ob := e
        rw [tT p hp] at e
        cases e
        exact .inr (.inl ⟨((tC p hp).tab (tT p hp)).isCodeTable, rfl, #[], xs, rfl, by rw [Array.empty_append]; exact hx⟩)
      · exact .inl (same b ob c e)
    · by_cases c : b ∈ ts
      · obtain ⟨p, hp, rfl⟩ := List.mem_map.mp c
        obtain ⟨xs, hx⟩ := more p hp
        exact ⟨_, hx⟩
      · exact ⟨ob, same b ob c e⟩
/-- the goal that k_head leaves: the law's def is read at the caller, with the tables -/
theorem walk_at_tabs {l : PySem.W.OpenLaw} {n : Nat} {q : Program} {loose : List Str} {XP : (Str → Option Value) → Heap → Prop} {YP : World → Heap → Prop} {d : DefRec} {K : Params → PySem.W.Frag}
    (hn : l.most = some n) (hn2 : n ≤ sizeLine) (hdf : d.params.defaults = []) (hY : ∀ (w : World) (h : Heap), YP w h → (K w.params).In h)
    (F : ∀ (w : World) (mg : Str → Option Value) (fa : Addr) (h : Heap), (K w.params).In h → h.Ns mainGlobals mg → mg d.name = some (.ref fa) →
      (∀ (y : Str) (e : DefRec) (c P : Addr), (recsOf q).find? (fun r => r.name == y) = some e → PySem.W.tabIn (K w.params) y = some (c, P) → PySem.W.CodeHd h c P ∧ h.get? P = some { cls := .none, data := .fields #[] }) →
      ∃ cs : List (Addr × Addr), (∀ p ∈ cs, h.get? p.2 = some { cls := .none, data := .fields #[] }) ∧ (∀ p ∈ cs, (K w.params).lookup p.2 = none) ∧ (∀ p ∈ cs, PySem.W.CodeHd h p.1 p.2) ∧
        ∀ (base : Heap) (s : Shared) (H : Hp) (a : Addr) (ns : List Int), (K w.params).In base → base.Ns mainGlobals mg → (∀ p ∈ cs, GxR.TabB base mg p.1 p.2) → Env0 l.prog w (K w.params) mg base callerA [] s H → ns.length ≤ n → SqL (K w.params) H a (ns.map V.int) → (∀ p ∈ cs, H p.2 = some (.tbl #[])) →
        codeAny (model l.prog w) callerA (.call (.ref fa) ⟨[.ref a], []⟩) (CR CX0 [] l.prog w H s (fun v _ => v = .bl true) E0) s) :
    PySem.W.WalkO q loose XP YP l.row.toRowW d [] (fun f vs => PySem.call f vs) := by
  apply Att.attach_callB hn hdf
  intro w s₀ s₁ mg mb fa o pm cd doc a vs ns G Y ho hd hcd hmg hobj hints hlen hbits hg
  have KX := hY w _ Y
  obtain ⟨cs, t1, t2, t3, go⟩ := F w mg fa _ KX G.T.g hmg fun y e c P h1 h2 => PySem.W.tab_of G.T KX h1 h2
  exact law_goT KX G.T.g G.T.b G.T.builtins G.T.nolimit hg t1 t2 t3 G.T.bmain hobj hints (Nat.le_trans hlen hn2) fun base hk hb htb H e0 hS hH => go base s₁ H a ns hk hb htb e0 hlen hS hH
end IndEnd

set_option Elab.async false
set_option linter.all false
set_option maxRecDepth 100000
set_option maxHeartbeats 4000000
namespace Va
open PySem PySem.Spec PyProof.Rows L2 Ind
section
variable {X : Cx} {S : Sg} {e o a b i value : Expr} {p p2 pos pos2 pos' apos cpos : Pos}
/-! ### repr, where no repr is under way -/
def reprG : VC := fun ds Q => match ds with
  | [d] => SeqAt.shaped d.pd = true ∧ d.pd.showable = true ∧ d.pd.hasDict = false ∧ d.pd.depth ≤ 60 ∧ d.pd.shown.length ≤ 1000000 ∧ Q (.v (.str d.pd.shown))
  | _ => False
theorem c_repr (hK : S.K = X.K) (hg : X.A.guards = some []) (hu : X.A.units + 64 < cLine) : CallV S X (.builtin "repr") reprG := by
  refine ⟨_, call_reprD hg hu, ?_⟩
  intro Γ H xs ds Q Q0 eK hx hg k
  have eK' : X.K = Γ.K := (eK.trans hK).symm
  unfold reprG at hg
  split at hg
  · obtain ⟨h1, h2, h3, h4, h5, hg⟩ := hg
    match hx with
    | .cons h .nil => exact ⟨_, _, rfl, by rw [eK']; exact h.dp h1, h2, h3, h4, million h5, k _ hg _ _ (Same.refl _) (.str _)⟩
  · exact hg.elim
/-! ### xs.extend(ys), xs a list of one's own -/
def rExtR : V → List V → Hp → VK → Prop := fun x vs H Q => ∃ l b xs zs, x = .ref l ∧ vs = [.ref b] ∧ H l = some (.lst xs) ∧ Rd H b (.lst zs) ∧ xs.length + zs.length ≤ sizeLine ∧ Q .non (upd H l (.lst (xs ++ zs)))
theorem mt_extendR : MtM X "list.extend" rExtR := by
  intro pins s σ H x vs v us Q I rx rv h
  obtain ⟨l, b, xs, zs, rfl, rfl, hH, hB, small, q⟩ := h
  cases rx
  obtain ⟨u, rfl, ru⟩ := rv.one
  cases ru
  obtain ⟨z, its, n, r, hl, el⟩ := I.lstM hH
  obtain ⟨_, more, m, r2, eb⟩ := hB.ok I.hok
  have hl2 := r2.length
  have sz : its.toArray.size + more.toArray.size ≤ sizeLine := by
    simp only [List.size_toArray]
    omega
  have fits : ¬ (!its.toArray.isEmpty && Builtin.List.listTooLong (its.toArray.size + more.toArray.size)) = true := by
    rw [notLongL sz]
    simp
  refine call_meets F.slot_list_extend ⟨_, el, rfl⟩ F.entry_list_extend (F.args_list_extend_2 _ _) (AutoSeq1.list_extend_list_list_0 l its.toArray n b more.toArray m fits (by simp only [List.size_toArray]; omega) (by omega)) ⟨el, eb, ?_⟩
  exact ⟨.non, _, I.lset (its' := its ++ more) hH el (by simp) (r.append r2) (by rw [List.length_append]; omega), rfl, q⟩
def sExt (i : Nat) (t : VT) : VS := fun V E => onL E.l[i]? fun _ => t E fun d E1 => lstD d fun es => onL E1.l[i]? fun ds => ds.length + es.length ≤ 1000000 ∧ V.nx (E1.set i (.ol (ds ++ es)))
theorem vs_extend {i : Nat} {o : Expr} {t : VT} {apos cpos : Pos} (hK : S.K = X.K) (ho : PE X o (tVar i)) (he : VE S X e t) (hw : swapsWith (.Call (.Attribute o "extend" apos) [e] [] cpos) none pos.line X.env = pure false := by rfl)
    (hbase : attributeBase o "extend" X.env (eval o X.env) = eval o X.env := by rfl)
    (hfew : ((backTo cpos (starEach [e] X.env)).all (fun x => !x.1) && (backToKw cpos (keywordEach [] X.env)).all (fun x => x.1.isSome)
      && decide (([e] : List Expr).length + ([] : List Keyword).length + (if ([] : List Keyword).isEmpty then 0 else 1) < 30)) = true := by rfl)
    (hline : (apos.endLine == cpos.line) = true := by rfl) (hs : starEach [e] X.env = (false, eval e X.env) :: starEach [] X.env := by rfl) (hplain : (backTo cpos (starEach [] X.env)).any (·.1) = false := by rfl) :
    VSt S X (.Expr (.Call (.Attribute o "extend" apos) [e] [] cpos) pos) (sExt i t) := by
  refine ps_weak (ps_expr (pe_bm PySem.F.plainAttrs_list PySem.F.slot_list_extend PySem.F.type_list_extend mt_extendR ho (va_cons (S := S) he va_nil hs) hbase hfew hline hs hplain) hw) ?_
  rintro D0 σ H ⟨Γ, E, V, ok, rp, ht, k⟩
  obtain ⟨ds0, e0, ht⟩ := onL_inv ht
  obtain ⟨p, xs0, hv, hl0, _, _⟩ := own_list rp e0
  refine ⟨_, hv, .inl ⟨rfl, xs0, .of hl0⟩, ?_⟩
  refine ⟨Γ, E, fun ds E1 => match ds with
    | [d] => lstD d fun es => onL E1.l[i]? fun ds => ds.length + es.length ≤ 1000000 ∧ V.nx (E1.set i (.ol (ds ++ es)))
    | _ => False, ok, rp, ht, fun ds E1 hq vs H1 kq1 rp1 hvs => ?_⟩
  match ds, hq, vs, hvs with
  | [d], hq, [u], .cons hu .nil =>
    cases d with
    | lst es =>
      obtain ⟨ds1, e1, hsz, hq⟩ := onL_inv hq
      obtain ⟨p1, xs1, hv1, hl1, hr1, fr1⟩ := own_list rp1 e1
      rw [hv] at hv1
      cases hv1
      obtain ⟨b, zs, rfl, ⟨ob, hb⟩, hz⟩ := hu.lst_inv
      obtain ⟨kq2, rp2⟩ := rp1.wrL e1 hv hl1 fr1 (hr1.app hz)
      exact ⟨p, b, xs1, zs, rfl, rfl, hl1, .inr ⟨ob, hb⟩, million (by rw [hr1.len, hz.len]; exact hsz), k.nx _ hq σ _ (kq1.trans kq2) rp2⟩
    | _ => exact hq.elim
end
end Va

set_option Elab.async false
set_option linter.all false
set_option maxRecDepth 100000
set_option maxHeartbeats 4000000
namespace Va
open PySem PySem.Spec PyProof.Rows L2 Ind
/-! ### formulas: their comparisons and columns -/
abbrev Cm := Tx × Ex × Ex
def Cm.d (p : Cm) : D := (Fm.cmp p.1 p.2.1 p.2.2).d
mutual
def Fm.cms : Fm → List Cm
  | .cmp sg l r => [(sg, l, r)]
  | .neg f => f.cms
  | .all fs => Fm.cmsL fs
  | .any fs => Fm.cmsL fs
  | .imp a b => a.cms ++ b.cms
  | .tt => []
  | .ff => []
def Fm.cmsL : List Fm → List Cm
  | [] => []
  | f :: fs => f.cms ++ Fm.cmsL fs
end
theorem Fm.cmsL_app : ∀ fs gs : List Fm, Fm.cmsL (fs ++ gs) = Fm.cmsL fs ++ Fm.cmsL gs
  | [], gs => rfl
  | f :: fs, gs => by show f.cms ++ Fm.cmsL (fs ++ gs) = (f.cms ++ Fm.cmsL fs) ++ Fm.cmsL gs; rw [Fm.cmsL_app fs gs, List.append_assoc]
theorem Fm.cmsL_more {fs : List Fm} {i : Nat} {f : Fm} (e : fs[i]? = some f) : Fm.cmsL (fs.take (i + 1)) = Fm.cmsL (fs.take i) ++ f.cms := by
  rw [take_more e, Fm.cmsL_app]
  show _ ++ (f.cms ++ []) = _
  rw [List.append_nil]
theorem Fm.cmsL_len {n : Nat} : ∀ {fs : List Fm}, (∀ f ∈ fs, f.cms.length ≤ n) → (Fm.cmsL fs).length ≤ fs.length * n
  | [], _ => Nat.zero_le _
  | f :: fs, h => by
    have h1 := h f (List.mem_cons_self ..)
    have h2 := Fm.cmsL_len (fs := fs) fun g hg => h g (List.mem_cons_of_mem _ hg)
    show (f.cms ++ Fm.cmsL fs).length ≤ (fs.length + 1) * n
    rw [List.length_append, Nat.add_mul]
    omega
def exCols (e : Ex) : List Tx := e.filterMap fun t => match t.2 with
  | .col n => some n
  | _ => none
def cmCols (p : Cm) : List Tx := exCols (p.2.1 ++ p.2.2)
def cmsCols (l : List Cm) : List Tx := l.flatMap cmCols
theorem cmsCols_app (l m : List Cm) : cmsCols (l ++ m) = cmsCols l ++ cmsCols m := by unfold cmsCols; rw [List.flatMap_append]
def Fm.cols (f : Fm) : List Tx := cmsCols f.cms
theorem exCols_len (e : Ex) : (exCols e).length ≤ e.length := List.length_filterMap_le _ _
theorem cmsCols_len {n : Nat} : ∀ {l : List Cm}, (∀ p ∈ l, (cmCols p).length ≤ n) → (cmsCols l).length ≤ l.length * n
  | [], _ => Nat.zero_le _
  | p :: l, h => by
    have h1 := h p (List.mem_cons_self ..)
    have h2 := cmsCols_len (l := l) fun g hg => h g (List.mem_cons_of_mem _ hg)
    show (cmCols p ++ cmsCols l).length ≤ (l.length + 1) * n
    rw [List.length_append, Nat.add_mul]
    omega
end Va

set_option Elab.async false
set_option linter.all false
set_option maxRecDepth 100000
set_option maxHeartbeats 4000000
namespace Va
open PySem PySem.Spec PyProof.Rows L2 Ind
def ksD (xs : List Tx) : List (Key × D) := xs.map fun x => (.inr x, .bl true)
theorem any_ks (x : Tx) : ∀ xs : List Tx, ((ksD xs).any fun kv => decide (kv.1 = Sum.inr x)) = decide (x ∈ xs)
  | [] => rfl
  | y :: xs => by
    show (decide ((Sum.inr y : Key) = Sum.inr x) || (ksD xs).any fun kv => decide (kv.1 = Sum.inr x)) = _
    rw [any_ks x xs]
    by_cases h : y = x
    · subst h; simp
    · have : ¬ ((Sum.inr y : Key) = Sum.inr x) := fun e => h (Sum.inr.inj e)
      simp only [decide_eq_false this, Bool.false_or]
      exact decide_eq_decide.mpr ⟨fun m => List.mem_cons_of_mem _ m, fun m => (List.mem_cons.mp m).elim (fun e => absurd e.symm h) id⟩
theorem map_ks (x : Tx) (xs : List Tx) : ((ksD xs).map fun kv => if kv.1 = Sum.inr x then (kv.1, D.bl true) else kv) = ksD xs := by
  unfold ksD
  rw [List.map_map]
  refine List.map_congr_left fun y _ => ?_
  show (if (Sum.inr y : Key) = Sum.inr x then ((Sum.inr y : Key), D.bl true) else (Sum.inr y, D.bl true)) = _
  split <;> rfl
theorem put_ks (x : Tx) (xs : List Tx) : putD (ksD xs) (.inr x) (.bl true) = ksD (if x ∈ xs then xs else xs ++ [x]) := by
  unfold putD
  rw [any_ks]
  by_cases h : x ∈ xs
  · rw [if_pos (by simpa using h), if_pos h, map_ks]
  · rw [if_neg (by simpa using h), if_neg h]
    show _ = List.map _ (xs ++ [x])
    rw [List.map_append]; rfl
theorem once_app2 : ∀ (l r acc : List Tx), once acc (l ++ r) = once (once acc l) r
  | [], r, acc => rfl
  | x :: l, r, acc => by
    show (if x ∈ acc then once acc (l ++ r) else once (acc ++ [x]) (l ++ r)) = once (if x ∈ acc then once acc l else once (acc ++ [x]) l) r
    split
    · exact once_app2 l r acc
    · exact once_app2 l r (acc ++ [x])
theorem once_len : ∀ (l acc : List Tx), (once acc l).length ≤ acc.length + l.length
  | [], acc => Nat.le_refl _
  | x :: l, acc => by
    show (if x ∈ acc then once acc l else once (acc ++ [x]) l).length ≤ acc.length + (l.length + 1)
    split
    · have := once_len l acc; omega
    · have := once_len l (acc ++ [x]); rw [List.length_append] at this; simp at this; omega
theorem ks_len (xs : List Tx) : (ksD xs).length = xs.length := List.length_map ..
theorem exCols_more {e : Ex} {i : Nat} {t : Bool × Op} (h : e[i]? = some t) : exCols (e.take (i + 1)) = exCols (e.take i) ++ exCols [t] := by
  rw [take_more h]
  unfold exCols
  rw [List.filterMap_append]
theorem cmsCols_more {l : List Cm} {i : Nat} {p : Cm} (h : l[i]? = some p) : cmsCols (l.take (i + 1)) = cmsCols (l.take i) ++ cmCols p := by
  rw [take_more h, cmsCols_app]
  show _ ++ (cmCols p ++ []) = _
  rw [List.append_nil]
def Fm.parts : Fm → List Fm
  | .neg f => [f]
  | .all fs => fs
  | .any fs => fs
  | .imp a b => [a, b]
  | _ => []
def Fm.isC : Fm → Bool
  | .cmp _ _ _ => true
  | _ => false
theorem Fm.parts_cms : ∀ F : Fm, F.isC = false → F.cms = Fm.cmsL F.parts
  | .cmp _ _ _, h => by cases h
  | .neg f, _ => by show f.cms = f.cms ++ []; rw [List.append_nil]
  | .all _, _ => rfl
  | .any _, _ => rfl
  | .imp a b, _ => by show a.cms ++ b.cms = a.cms ++ (b.cms ++ []); rw [List.append_nil]
  | .tt, _ => rfl
  | .ff, _ => rfl
theorem Fm.parts_dep : ∀ (F : Fm), ∀ g ∈ F.parts, g.dep + 1 ≤ F.dep
  | .cmp _ _ _, g, h => (nomatch h)
  | .neg f, g, h => by cases List.mem_singleton.mp h; exact Nat.le_refl _
  | .all fs, g, h => Nat.succ_le_succ (Fm.dep_mem h)
  | .any fs, g, h => Nat.succ_le_succ (Fm.dep_mem h)
  | .imp a b, g, h => by
    show g.dep + 1 ≤ max a.dep b.dep + 1
    rcases List.mem_cons.mp h with rfl | h
    · omega
    · cases List.mem_singleton.mp h; omega
  | .tt, g, h => (nomatch h)
  | .ff, g, h => (nomatch h)
theorem Fm.cmsL_sub {fs : List Fm} {f : Fm} (h : f ∈ fs) : f.cms.length ≤ (Fm.cmsL fs).length := by
  induction fs with
  | nil => cases h
  | cons g fs ih =>
    show _ ≤ (g.cms ++ Fm.cmsL fs).length
    rw [List.length_append]
    rcases List.mem_cons.mp h with rfl | h
    · omega
    · have := ih h; omega
theorem Fm.cmsL_take (fs : List Fm) (i : Nat) : (Fm.cmsL (fs.take i)).length ≤ (Fm.cmsL fs).length := by
  have e : Fm.cmsL fs = Fm.cmsL (fs.take i) ++ Fm.cmsL (fs.drop i) := by rw [← Fm.cmsL_app, List.take_append_drop]
  rw [e, List.length_append]
  omega
/-- each comparison has few terms -/
def fewC (l : List Cm) : Prop := ∀ p ∈ l, p.2.1.length + p.2.2.length ≤ 40
theorem fewC_len {l : List Cm} (h : fewC l) : (cmsCols l).length ≤ l.length * 40 := cmsCols_len fun p hp => Nat.le_trans (exCols_len _) (by rw [List.length_append]; exact h p hp)
mutual
theorem Fm.ok_few {cs : List Col} : ∀ {F : Fm}, F.ok cs → fewC F.cms
  | .cmp sg l r, h => fun p hp => by
    cases List.mem_singleton.mp hp
    obtain ⟨_, w, h1, h2⟩ := h
    have := h1.len
    have := h2.len
    show l.length + r.length ≤ 40
    omega
  | .neg f, h => Fm.ok_few (F := f) h
  | .all fs, h => Fm.okL_few (fs := fs) h.2
  | .any fs, h => Fm.okL_few (fs := fs) h.2
  | .imp a b, h => fun p hp => (List.mem_append.mp hp).elim (Fm.ok_few (F := a) h.1 p) (Fm.ok_few (F := b) h.2 p)
  | .tt, _ => fun p hp => (nomatch hp)
  | .ff, _ => fun p hp => (nomatch hp)
theorem Fm.okL_few {cs : List Col} : ∀ {fs : List Fm}, Fm.okL cs fs → fewC (Fm.cmsL fs)
  | [], _ => fun p hp => (nomatch hp)
  | f :: fs, h => fun p hp => (List.mem_append.mp hp).elim (Fm.ok_few (F := f) h.1 p) (Fm.okL_few (fs := fs) h.2 p)
end
end Va

set_option Elab.async false
set_option linter.all false
set_option maxRecDepth 100000
set_option maxHeartbeats 4000000
namespace Va
open PySem PySem.Spec PyProof.Rows L2 Ind
/-! ### tuples of short names may be shown -/
theorem shaped_names {xs : List Tx} (h : ∀ x ∈ xs, tOk x) : SeqAt.shaped (D.tup (xs.map .str)).pd = true := by
  have e : (D.tup (xs.map .str)).pd = .tuple (xs.map PyData.str) := by
    show PyData.tuple (pdL (xs.map D.str)) = _
    rw [pdL_map, List.map_map]; rfl
  rw [e]
  have l : ∀ ys : List Tx, (∀ y ∈ ys, tOk y) → PyData.canLayAll0 (ys.map PyData.str) = true := fun ys hy => by
    induction ys with
    | nil => simp [PyData.canLayAll0]
    | cons y ys ih => simp [PyData.canLayAll0, PyData.canLay0, ih fun z hz => hy z (List.mem_cons_of_mem _ hz), (hy y (List.mem_cons_self ..)).ok]
  have d : ∀ ys : List Tx, PyData.depthAll (ys.map PyData.str) ≤ 1 := fun ys => by
    induction ys with
    | nil => simp [PyData.depthAll]
    | cons y ys ih => simp [PyData.depthAll, PyData.depth] at *; omega
  have := d xs
  simp [SeqAt.shaped, PyData.canLay0, PyData.depth, l xs h]
  omega
theorem shown_names {xs : List Tx} (h : ∀ x ∈ xs, tOk x) (hn : ∀ x ∈ xs, x.length ≤ 20) (hl : xs.length ≤ 20) : (D.tup (xs.map .str)).pd.showable = true ∧ (D.tup (xs.map .str)).pd.hasDict = false ∧ (D.tup (xs.map .str)).pd.depth ≤ 60 ∧ (D.tup (xs.map .str)).pd.shown.length ≤ 1000000 := by
  have e : (D.tup (xs.map .str)).pd = .tuple (xs.map PyData.str) := by
    show PyData.tuple (pdL (xs.map D.str)) = _
    rw [pdL_map, List.map_map]; rfl
  rw [e]
  refine ⟨?_, ?_, ?_, ?_⟩
  · have : ∀ ys : List Tx, PyData.showableAll (ys.map PyData.str) = true := fun ys => by
      induction ys with
      | nil => simp [PyData.showableAll]
      | cons y ys ih => simp [PyData.showableAll, PyData.showable, ih]
    simpa [PyData.showable] using this xs
  · have : ∀ ys : List Tx, PyData.hasDictAll (ys.map PyData.str) = false := fun ys => by
      induction ys with
      | nil => simp [PyData.hasDictAll]
      | cons y ys ih => simp [PyData.hasDictAll, PyData.hasDict, ih]
    simpa [PyData.hasDict] using this xs
  · have : ∀ ys : List Tx, PyData.depthAll (ys.map PyData.str) ≤ 1 := fun ys => by
      induction ys with
      | nil => simp [PyData.depthAll]
      | cons y ys ih => simp [PyData.depthAll, PyData.depth] at *; omega
    have := this xs
    simp [PyData.depth]
    omega
  · have b := PyData.shown_le_bulk 20 (by decide) (.tuple (xs.map PyData.str)) (by
      have : ∀ ys : List Tx, (∀ y ∈ ys, tOk y) → PyData.leavesShortAll 20 (ys.map PyData.str) = true := fun ys hy => by
        induction ys with
        | nil => simp [PyData.leavesShortAll]
        | cons y ys ih =>
          have i := ih fun z hz => hy z (List.mem_cons_of_mem _ hz)
          have hc := hy y (List.mem_cons_self ..)
          simp only [List.map_cons, PyData.leavesShortAll, PyData.leavesShort, i, Bool.and_true, List.all_eq_true, decide_eq_true_eq]
          intro c hc2
          have := hc c hc2
          omega
      simpa [PyData.leavesShort] using this xs h)
    have c : ∀ ys : List Tx, (∀ y ∈ ys, y.length ≤ 20) → PyData.bulkAll (ys.map PyData.str) ≤ 25 * ys.length := fun ys hy => by
      induction ys with
      | nil => simp [PyData.bulkAll]
      | cons y ys ih =>
        have i := ih fun z hz => hy z (List.mem_cons_of_mem _ hz)
        have h1 : y.cps.size ≤ 20 := hy y (List.mem_cons_self ..)
        simp only [List.map_cons, PyData.bulkAll, PyData.bulk, List.length_cons]
        omega
    have d := c xs hn
    have e2 : (PyData.tuple (xs.map PyData.str)).bulk = PyData.bulkAll (xs.map PyData.str) ∨ (PyData.tuple (xs.map PyData.str)).bulk ≤ PyData.bulkAll (xs.map PyData.str) + 10 := by simp [PyData.bulk]
    rcases e2 with e2 | e2 <;> omega
end Va

set_option Elab.async false
set_option linter.all false
set_option maxRecDepth 100000
set_option maxHeartbeats 4000000
namespace Va
open PySem PySem.Spec PyProof.Rows L2 Ind
/-! ### facts: well made, and true in part -/
mutual
def Fc.gd : Fc → Prop
  | .com _ => True
  | .one ns => ns.length ≤ 6
  | .neg f => f.gd
  | .all fs => fs ≠ [] ∧ fs.length ≤ 6 ∧ Fc.gdL fs
  | .any fs => fs ≠ [] ∧ fs.length ≤ 6 ∧ Fc.gdL fs
  | .imp a b => a.gd ∧ b.gd
  | .tt => True
  | .ff => True
def Fc.gdL : List Fc → Prop
  | [] => True
  | f :: fs => f.gd ∧ Fc.gdL fs
end
theorem Fc.gdL_of : ∀ {fs : List Fc}, (∀ f ∈ fs, f.gd) → Fc.gdL fs
  | [], _ => trivial
  | f :: fs, h => ⟨h f (List.mem_cons_self ..), Fc.gdL_of fun g hg => h g (List.mem_cons_of_mem _ hg)⟩
theorem Fc.gdL_mem : ∀ {fs : List Fc}, Fc.gdL fs → ∀ f ∈ fs, f.gd
  | g :: fs, h, f, hf => by
    rcases List.mem_cons.mp hf with rfl | hf
    · exact h.1
    · exact Fc.gdL_mem h.2 f hf
mutual
theorem Fc.gd_wid : ∀ {f : Fc}, f.gd → f.wid ≤ 6
  | .com _, _ => Nat.zero_le _
  | .one _, h => h
  | .neg f, h => Fc.gd_wid (f := f) h
  | .all fs, h => Nat.max_le.mpr ⟨h.2.1, Fc.gdL_wid (fs := fs) h.2.2⟩
  | .any fs, h => Nat.max_le.mpr ⟨h.2.1, Fc.gdL_wid (fs := fs) h.2.2⟩
  | .imp a b, h => Nat.max_le.mpr ⟨Fc.gd_wid (f := a) h.1, Fc.gd_wid (f := b) h.2⟩
  | .tt, _ => Nat.zero_le _
  | .ff, _ => Nat.zero_le _
theorem Fc.gdL_wid : ∀ {fs : List Fc}, Fc.gdL fs → Fc.widL fs ≤ 6
  | [], _ => Nat.zero_le _
  | f :: fs, h => Nat.max_le.mpr ⟨Fc.gd_wid (f := f) h.1, Fc.gdL_wid (fs := fs) h.2⟩
end
abbrev B3 := Option Bool
def not3 (a : B3) : B3 := a.map (!·)
def allB (l : List B3) : B3 := if some false ∈ l then some false else if none ∈ l then none else some true
def anyB (l : List B3) : B3 := if some true ∈ l then some true else if none ∈ l then none else some false
mutual
def Fc.op (p : Tx → B3) : Fc → B3
  | .com n => p n
  | .one ns => if 1 < ((ns.map p).filter (· = some true)).length then some false else if none ∈ ns.map p then none else some (decide (some true ∈ ns.map p))
  | .neg f => not3 (f.op p)
  | .all fs => allB (Fc.opL p fs)
  | .any fs => anyB (Fc.opL p fs)
  | .imp a b => anyB [not3 (a.op p), b.op p]
  | .tt => some true
  | .ff => some false
def Fc.opL (p : Tx → B3) : List Fc → List B3
  | [] => []
  | f :: fs => f.op p :: Fc.opL p fs
end
theorem Fc.opL_map (p : Tx → B3) : ∀ fs : List Fc, Fc.opL p fs = fs.map (Fc.op p)
  | [] => rfl
  | f :: fs => by show f.op p :: Fc.opL p fs = _; rw [Fc.opL_map p fs]; rfl
theorem not3_all (l : List B3) : not3 (allB (l.map not3)) = anyB l := by
  have h1 : some false ∈ l.map not3 ↔ some true ∈ l := by
    rw [List.mem_map]
    constructor
    · rintro ⟨a, ha, e⟩
      cases a with
      | none => cases e
      | some b => cases b with
        | true => exact ha
        | false => cases e
    · intro h
      exact ⟨_, h, rfl⟩
  have h2 : none ∈ l.map not3 ↔ none ∈ l := by
    rw [List.mem_map]
    constructor
    · rintro ⟨a, ha, e⟩
      cases a with
      | none => exact ha
      | some b => cases e
    · intro h
      exact ⟨_, h, rfl⟩
  unfold allB anyB
  by_cases a : some true ∈ l
  · rw [if_pos (h1.mpr a), if_pos a]; rfl
  · rw [if_neg (fun z => a (h1.mp z)), if_neg a]
    by_cases b : none ∈ l
    · rw [if_pos (h2.mpr b), if_pos b]; rfl
    · rw [if_neg (fun z => b (h2.mp z)), if_neg b]; rfl
mutual
def Fc.mu : Fc → Nat
  | .com _ => 0
  | .one _ => 0
  | .neg f => f.mu + 1
  | .all fs => Fc.muL fs + 1
  | .any fs => Fc.muL fs + 2
  | .imp a b => max (a.mu + 1) b.mu + 3
  | .tt => 0
  | .ff => 0
def Fc.muL : List Fc → Nat
  | [] => 0
  | f :: fs => max f.mu (Fc.muL fs)
end
theorem Fc.mu_mem : ∀ {fs : List Fc} {f : Fc}, f ∈ fs → f.mu ≤ Fc.muL fs
  | g :: fs, f, h => by
    show f.mu ≤ max g.mu (Fc.muL fs)
    rcases List.mem_cons.mp h with rfl | h
    · exact Nat.le_max_left _ _
    · exact Nat.le_trans (Fc.mu_mem h) (Nat.le_max_right _ _)
mutual
theorem Fc.mu_le : ∀ f : Fc, f.mu ≤ 4 * f.dep
  | .com _ => Nat.zero_le _
  | .one _ => Nat.zero_le _
  | .neg f => by have := Fc.mu_le f; show f.mu + 1 ≤ 4 * (f.dep + 1); omega
  | .all fs => by have := Fc.muL_le fs; show Fc.muL fs + 1 ≤ 4 * (Fc.depL fs + 1); omega
  | .any fs => by have := Fc.muL_le fs; show Fc.muL fs + 2 ≤ 4 * (Fc.depL fs + 1); omega
  | .imp a b => by have := Fc.mu_le a; have := Fc.mu_le b; show max (a.mu + 1) b.mu + 3 ≤ 4 * (max a.dep b.dep + 1); omega
  | .tt => Nat.zero_le _
  | .ff => Nat.zero_le _
theorem Fc.muL_le : ∀ fs : List Fc, Fc.muL fs ≤ 4 * Fc.depL fs
  | [] => Nat.zero_le _
  | f :: fs => by have := Fc.mu_le f; have := Fc.muL_le fs; show max f.mu (Fc.muL fs) ≤ 4 * max f.dep (Fc.depL fs); omega
end
/-! what is open, and then decided, agrees with every completion -/
def Ext3 (p : Tx → B3) (q : Tx → Bool) : Prop := ∀ x b, p x = some b → q x = b
theorem filt_le (p : Tx → B3) (q : Tx → Bool) (h : Ext3 p q) : ∀ ns : List Tx, ((ns.map p).filter (· = some true)).length ≤ (ns.filter q).length
  | [] => Nat.le_refl _
  | x :: ns => by
    have ih := filt_le p q h ns
    rw [List.map_cons, List.filter_cons, List.filter_cons]
    by_cases e : p x = some true
    · rw [if_pos (by simpa using e), if_pos (by simpa using h x true e)]
      simpa using ih
    · rw [if_neg (by simpa using e)]
      split
      · simp; omega
      · exact ih
theorem filt_eq (p : Tx → B3) (q : Tx → Bool) (h : Ext3 p q) : ∀ ns : List Tx, none ∉ ns.map p → ((ns.map p).filter (· = some true)).length = (ns.filter q).length
  | [], _ => rfl
  | x :: ns, hn => by
    rw [List.map_cons, List.mem_cons, not_or] at hn
    have ih := filt_eq p q h ns hn.2
    rw [List.map_cons, List.filter_cons, List.filter_cons]
    cases e : p x with
    | none => exact absurd e.symm hn.1
    | some b =>
      have := h x b e
      rw [this]
      cases b with
      | true => simp; simpa using ih
      | false => simp; simpa using ih
mutual
theorem Fc.op_tr (p : Tx → B3) (q : Tx → Bool) (h : Ext3 p q) : ∀ (f : Fc) (b : Bool), f.op p = some b → f.tr q = b
  | .com x, b, e => h x b e
  | .one ns, b, e => by
    have e : (if 1 < ((ns.map p).filter (· = some true)).length then some false else if none ∈ ns.map p then none else some (decide (some true ∈ ns.map p))) = some b := e
    show decide ((ns.filter q).length = 1) = b
    have l1 := filt_le p q h ns
    split at e
    · cases e
      exact decide_eq_false (by omega)
    · rename_i h1
      split at e
      · cases e
      · rename_i h2
        cases e
        rw [← filt_eq p q h ns h2]
        refine decide_eq_decide.mpr ?_
        constructor
        · intro h3
          obtain ⟨z, hz⟩ := List.exists_mem_of_length_pos (l := (ns.map p).filter (· = some true)) (by omega)
          have := List.mem_filter.mp hz
          have e2 : z = some true := by simpa using this.2
          rw [← e2]; exact this.1
        · intro h3
          have : 0 < ((ns.map p).filter (· = some true)).length := List.length_pos_of_mem (List.mem_filter.mpr ⟨h3, by simp⟩)
          omega
  | .neg f, b, e => by
    have e : not3 (f.op p) = some b := e
    cases ef : f.op p with
    | none => rw [ef] at e; cases e
    | some c =>
      rw [ef] at e
      cases e
      show (!f.tr q) = !c
      rw [Fc.op_tr p q h f c ef]
  | .all fs, b, e => by
    have e : allB (Fc.opL p fs) = some b := e
    obtain ⟨h1, h2⟩ := Fc.opL_tr p q h fs
    show Fc.trA q fs = b
    unfold allB at e
    split at e
    · rename_i h3; cases e; exact h1 h3
    · rename_i h3
      split at e
      · cases e
      · rename_i h4; cases e; exact (h2.1 h3 h4)
  | .any fs, b, e => by
    have e : anyB (Fc.opL p fs) = some b := e
    obtain ⟨h1, h2⟩ := Fc.opL_tr p q h fs
    show Fc.trO q fs = b
    unfold anyB at e
    split at e
    · rename_i h3; cases e; exact h2.2.1 h3
    · rename_i h3
      split at e
      · cases e
      · rename_i h4; cases e; exact (h2.2.2 h3 h4)
  | .imp f g, b, e => by
    have e : anyB [not3 (f.op p), g.op p] = some b := e
    show (!f.tr q || g.tr q) = b
    have hf := Fc.op_tr p q h f
    have hg := Fc.op_tr p q h g
    cases ef : f.op p with
    | none =>
      cases eg : g.op p with
      | none => rw [ef, eg] at e; exact absurd e (by cases b <;> decide)
      | some c =>
        rw [ef, eg] at e
        cases c with
        | true =>
          have : some true = some b := e
          cases this
          rw [hg true eg]; simp
        | false => exact absurd e (by cases b <;> decide)
    | some a =>
      cases eg : g.op p with
      | none =>
        rw [ef, eg] at e
        cases a with
        | false =>
          have : some true = some b := e
          cases this
          rw [hf false ef]; simp
        | true => exact absurd e (by cases b <;> decide)
      | some c =>
        rw [ef, eg] at e
        rw [hf a ef, hg c eg]
        revert e
        cases a <;> cases c <;> cases b <;> decide
  | .tt, b, e => by cases e; rfl
  | .ff, b, e => by cases e; rfl
theorem Fc.opL_tr (p : Tx → B3) (q : Tx → Bool) (h : Ext3 p q) : ∀ fs : List Fc, (some false ∈ Fc.opL p fs → Fc.trA q fs = false) ∧ (some false ∉ Fc.opL p fs → none ∉ Fc.opL p fs → Fc.trA q fs = true) ∧ (some true ∈ Fc.opL p fs → Fc.trO q fs = true) ∧ (some true ∉ Fc.opL p fs → none ∉ Fc.opL p fs → Fc.trO q fs = false)
  | [] => ⟨fun z => (nomatch z), fun _ _ => rfl, fun z => (nomatch z), fun _ _ => rfl⟩
  | f :: fs => by
    obtain ⟨i1, i2, i3, i4⟩ := Fc.opL_tr p q h fs
    have hf := Fc.op_tr p q h f
    refine ⟨fun z => ?_, fun z y => ?_, fun z => ?_, fun z y => ?_⟩
    · show (f.tr q && Fc.trA q fs) = false
      rcases List.mem_cons.mp z with z | z
      · rw [hf false z.symm]; rfl
      · rw [i1 z]; simp
    · have z : ¬ (some false ∈ f.op p :: Fc.opL p fs) := z
      have y : ¬ (none ∈ f.op p :: Fc.opL p fs) := y
      rw [List.mem_cons, not_or] at z y
      show (f.tr q && Fc.trA q fs) = true
      rw [i2 z.2 y.2]
      cases e : f.op p with
      | none => exact absurd e.symm y.1
      | some b => cases b with
        | false => exact absurd e.symm z.1
        | true => rw [hf true e]; rfl
    · show (f.tr q || Fc.trO q fs) = true
      rcases List.mem_cons.mp z with z | z
      · rw [hf true z.symm]; rfl
      · rw [i3 z]; simp
    · have z : ¬ (some true ∈ f.op p :: Fc.opL p fs) := z
      have y : ¬ (none ∈ f.op p :: Fc.opL p fs) := y
      rw [List.mem_cons, not_or] at z y
      show (f.tr q || Fc.trO q fs) = false
      rw [i4 z.2 y.2]
      cases e : f.op p with
      | none => exact absurd e.symm y.1
      | some b => cases b with
        | true => exact absurd e.symm z.1
        | false => rw [hf false e]; rfl
end
end Va

set_option Elab.async false
set_option linter.all false
set_option maxRecDepth 100000
set_option maxHeartbeats 4000000
namespace Va
open PySem PySem.Spec PyProof.Rows L2 Ind
/-! ### assignments -/
def pa (as : List (Tx × Bool)) (x : Tx) : B3 := (as.find? fun p => decide (p.1 = x)).map (·.2)
def oD : B3 → D
  | none => .non
  | some b => .bl b
def asD (as : List (Tx × Bool)) : List D := as.map fun p => .tup [.str p.1, .bl p.2]
def asK (as : List (Tx × Bool)) : List (Key × D) := as.map fun p => (.inr p.1, .bl p.2)
theorem asD_pr (as : List (Tx × Bool)) : asD as = prD (as.map fun p => (p.1, .bl p.2)) := by simp [asD, prD]
theorem asK_pr (as : List (Tx × Bool)) : prK (as.map fun p => (p.1, .bl p.2)) = asK as := by simp [asK, prK]
theorem look_asK (x : Tx) : ∀ as : List (Tx × Bool), (look (asK as) (.inr x)).getD .non = oD (pa as x)
  | [] => rfl
  | p :: as => by
    have ih := look_asK x as
    unfold look pa asK at *
    rw [List.map_cons, List.find?_cons, List.find?_cons]
    by_cases e : p.1 = x
    · have e2 : (Sum.inr p.1 : Key) = Sum.inr x := by rw [e]
      simp only [decide_eq_true e, decide_eq_true e2]
      rfl
    · have e2 : ¬ ((Sum.inr p.1 : Key) = Sum.inr x) := fun z => e (Sum.inr.inj z)
      simp only [decide_eq_false e, decide_eq_false e2]
      exact ih
theorem flat_oD : ∀ l : List B3, (l.map oD).all D.flat = true
  | [] => rfl
  | none :: l => flat_oD l
  | some _ :: l => flat_oD l
theorem none_in (l : List B3) : ((l.map oD).any fun y => D.eqf y .non) = decide (none ∈ l) := by
  induction l with
  | nil => rfl
  | cons a l ih =>
    rw [List.map_cons, List.any_cons, ih]
    cases a with
    | none => simp [oD, D.eqf]
    | some b =>
      have : ¬ (none : B3) = some b := fun z => by cases z
      simp [oD, D.eqf]
theorem true_in (l : List B3) : ((l.map oD).any fun y => D.eqf y (.bl true)) = decide (some true ∈ l) := by
  induction l with
  | nil => rfl
  | cons a l ih =>
    rw [List.map_cons, List.any_cons, ih]
    cases a with
    | none => simp [oD, D.eqf]
    | some b => cases b <;> simp [oD, D.eqf]
theorem asB_oD (a : B3) : truD (oD a) = some (decide (a = some true)) := by
  cases a with
  | none => rfl
  | some b => cases b <;> rfl
theorem isNon_oD (a : B3) : isNon (oD a) = decide (a = none) := by
  cases a with
  | none => rfl
  | some b => rfl
theorem isB_oD (a : B3) (Q : RV → Prop) (h : Q (.v (.bl (decide (a = some false))))) : isBG (oD a) (.bl false) Q := by
  cases a with
  | none => exact h
  | some b => cases b <;> exact h
theorem allB_more {l : List B3} {i : Nat} {a : B3} (e : l[i]? = some a) (h : some false ∉ l.take i) (ha : ¬ a = some false) : some false ∉ l.take (i + 1) := by
  rw [take_more e, List.mem_append, not_or]
  exact ⟨h, fun z => ha (List.mem_singleton.mp z).symm⟩
theorem atE {t : En → Prop} {E E' : En} (h : E = E') (q : t E') : t E := h ▸ q
theorem andSame {c : Bool} {A B : Prop} (f : B → A) (b : B) : (c = true → A) ∧ (c = false → B) := ⟨fun _ => f b, fun _ => b⟩
def yesL (as : List (Tx × Bool)) : List Tx := (as.filter (·.2)).map (·.1)
def noL (as : List (Tx × Bool)) : List Tx := (as.filter (fun p => !p.2)).map (·.1)
theorem pa_mem {as : List (Tx × Bool)} {x : Tx} {b : Bool} (h : pa as x = some b) : (x, b) ∈ as := by
  unfold pa at h
  obtain ⟨p, hp, rfl⟩ := Option.map_eq_some_iff.mp h
  have h1 := List.find?_some hp
  have h2 := List.mem_of_find?_eq_some hp
  have h3 : p.1 = x := by simpa using h1
  rw [← h3]; exact h2
theorem mem_pa {x : Tx} {b : Bool} : ∀ {as : List (Tx × Bool)}, (as.map (·.1)).Nodup → (x, b) ∈ as → pa as x = some b
  | p :: as, nd, h => by
    rw [List.map_cons, List.nodup_cons] at nd
    unfold pa
    rw [List.find?_cons]
    by_cases e : p.1 = x
    · rw [decide_eq_true e]
      rcases List.mem_cons.mp h with rfl | h
      · rfl
      · exact absurd (List.mem_map_of_mem (f := (·.1)) h) (by rw [← e] at *; exact nd.1)
    · rw [decide_eq_false e]
      rcases List.mem_cons.mp h with rfl | h
      · exact absurd rfl e
      · exact mem_pa nd.2 h
theorem yes_iff {as : List (Tx × Bool)} (nd : (as.map (·.1)).Nodup) (x : Tx) : x ∈ yesL as ↔ pa as x = some true := by
  constructor
  · intro h
    obtain ⟨p, hp, rfl⟩ := List.mem_map.mp h
    obtain ⟨h1, h2⟩ := List.mem_filter.mp hp
    exact mem_pa nd (by rw [← h2]; exact h1)
  · intro h
    exact List.mem_map.mpr ⟨_, List.mem_filter.mpr ⟨pa_mem h, rfl⟩, rfl⟩
theorem no_iff {as : List (Tx × Bool)} (nd : (as.map (·.1)).Nodup) (x : Tx) : x ∈ noL as ↔ pa as x = some false := by
  constructor
  · intro h
    obtain ⟨p, hp, rfl⟩ := List.mem_map.mp h
    obtain ⟨h1, h2⟩ := List.mem_filter.mp hp
    exact mem_pa nd (by have : p.2 = false := by simpa using h2
                        rw [← this]; exact h1)
  · intro h
    exact List.mem_map.mpr ⟨_, List.mem_filter.mpr ⟨pa_mem h, rfl⟩, rfl⟩
theorem yes_more {as : List (Tx × Bool)} {i : Nat} {p : Tx × Bool} (e : as[i]? = some p) : yesL (as.take (i + 1)) = if p.2 = true then yesL (as.take i) ++ [p.1] else yesL (as.take i) := by
  unfold yesL
  rw [filter_more _ e]
  split
  · rw [List.map_append]; rfl
  · rfl
theorem no_more {as : List (Tx × Bool)} {i : Nat} {p : Tx × Bool} (e : as[i]? = some p) : noL (as.take (i + 1)) = if (!p.2) = true then noL (as.take i) ++ [p.1] else noL (as.take i) := by
  unfold noL
  rw [filter_more _ e]
  split
  · rw [List.map_append]; rfl
  · rfl
theorem one3 (p : Tx → B3) (ps : List Tx) : ((ps.filter (fun y => decide (p y = some true))).length < 2 → 0 < (ps.filter (fun y => decide (p y = none))).length → (Fc.one ps).op p = none) ∧
    (¬ ((ps.filter (fun y => decide (p y = some true))).length < 2 ∧ 0 < (ps.filter (fun y => decide (p y = none))).length) → (Fc.one ps).op p = some (decide ((ps.filter (fun y => decide (p y = some true))).length = 1))) := by
  have e1 : ((ps.map p).filter (· = some true)).length = (ps.filter (fun y => decide (p y = some true))).length := by
    rw [List.filter_map, List.length_map]
    rfl
  have e2 : none ∈ ps.map p ↔ 0 < (ps.filter (fun y => decide (p y = none))).length := by
    rw [List.length_pos_iff_exists_mem, List.mem_map]
    constructor
    · rintro ⟨y, hy, e⟩
      exact ⟨y, List.mem_filter.mpr ⟨hy, by simpa using e⟩⟩
    · rintro ⟨y, hy⟩
      obtain ⟨h1, h2⟩ := List.mem_filter.mp hy
      exact ⟨y, h1, by simpa using h2⟩
  have e3 : some true ∈ ps.map p ↔ 0 < (ps.filter (fun y => decide (p y = some true))).length := by
    rw [List.length_pos_iff_exists_mem, List.mem_map]
    constructor
    · rintro ⟨y, hy, e⟩
      exact ⟨y, List.mem_filter.mpr ⟨hy, by simpa using e⟩⟩
    · rintro ⟨y, hy⟩
      obtain ⟨h1, h2⟩ := List.mem_filter.mp hy
      exact ⟨y, h1, by simpa using h2⟩
  have e0 : (Fc.one ps).op p = if 1 < ((ps.map p).filter (· = some true)).length then some false else if none ∈ ps.map p then none else some (decide (some true ∈ ps.map p)) := rfl
  rw [e0, e1]
  constructor
  · intro h1 h2
    rw [if_neg (by omega), if_pos (e2.mpr h2)]
  · intro h
    by_cases h1 : 1 < (ps.filter (fun y => decide (p y = some true))).length
    · rw [if_pos h1, decide_eq_false (by omega)]
    · rw [if_neg h1, if_neg (fun z => h ⟨by omega, e2.mp z⟩)]
      exact congrArg some (decide_eq_decide.mpr (by rw [e3]; omega))
theorem one3_com (p : Tx → B3) (x : Tx) : (Fc.one [x]).op p = p x := by
  have e0 : (Fc.one [x]).op p = if 1 < (([x].map p).filter (· = some true)).length then some false else if none ∈ [x].map p then none else some (decide (some true ∈ [x].map p)) := rfl
  rw [e0]
  cases h : p x with
  | none => simp [h]
  | some b => cases b <;> simp [h]
theorem filt_pos {L : List B3} {a : B3} : 0 < (L.filter (· = a)).length ↔ a ∈ L := by
  rw [List.length_pos_iff_exists_mem]
  constructor
  · rintro ⟨y, hy⟩
    obtain ⟨h1, h2⟩ := List.mem_filter.mp hy
    have : y = a := by simpa using h2
    rw [← this]; exact h1
  · intro h
    exact ⟨a, List.mem_filter.mpr ⟨h, by simp⟩⟩
end Va

set_option Elab.async false
set_option linter.all false
set_option maxRecDepth 100000
set_option maxHeartbeats 4000000
namespace Va
open PySem PySem.Spec PyProof.Rows L2 Ind
def top (i : Nat) : Stmt := PySem.Challenge.pw_indoubt_k04_first_error_of_a_formula.main.body.getD i (.Pass ⟨0, 0, 0, 0⟩)
abbrev s_kind_of : Stmt := top 9
abbrev N_kind_of : List Str := ["expression", "columns", "kinds", "bound", "_", "operand", "kind"]
theorem sc_kind_of : FnScope N_kind_of ["expression", "columns"] (defScope s_kind_of) := ⟨rfl, rfl, rfl, by decide +kernel, rfl, by decide +kernel, by decide +kernel⟩
abbrev s_check_formula : Stmt := top 10
abbrev N_check_formula : List Str := ["formula", "columns", "comparison", "left", "right"]
theorem sc_check_formula : FnScope N_check_formula ["formula", "columns"] (defScope s_check_formula) := ⟨rfl, rfl, rfl, by decide +kernel, rfl, by decide +kernel, by decide +kernel⟩
abbrev s_are_alike : Stmt := top 11
abbrev N_are_alike : List Str := ["left", "right"]
theorem sc_are_alike : FnScope N_are_alike ["left", "right"] (defScope s_are_alike) := ⟨rfl, rfl, rfl, by decide +kernel, rfl, by decide +kernel, by decide +kernel⟩
abbrev s__operand_kind : Stmt := top 12
abbrev N__operand_kind : List Str := ["operand", "kinds", "word", "content"]
theorem sc__operand_kind : FnScope N__operand_kind ["operand", "kinds"] (defScope s__operand_kind) := ⟨rfl, rfl, rfl, by decide +kernel, rfl, by decide +kernel, by decide +kernel⟩
abbrev s__comparisons_in : Stmt := top 13
abbrev N__comparisons_in : List Str := ["formula", "found", "part"]
theorem sc__comparisons_in : FnScope N__comparisons_in ["formula"] (defScope s__comparisons_in) := ⟨rfl, rfl, rfl, by decide +kernel, rfl, by decide +kernel, by decide +kernel⟩
abbrev s__parts_of : Stmt := top 14
abbrev N__parts_of : List Str := ["formula"]
theorem sc__parts_of : FnScope N__parts_of ["formula"] (defScope s__parts_of) := ⟨rfl, rfl, rfl, by decide +kernel, rfl, by decide +kernel, by decide +kernel⟩
abbrev s__law_tape : Stmt := top 16
abbrev N__law_tape : List Str := ["script", "total", "cell"]
theorem sc__law_tape : FnScope N__law_tape ["script"] (defScope s__law_tape) := ⟨rfl, rfl, rfl, by decide +kernel, rfl, by decide +kernel, by decide +kernel⟩
abbrev s__law_draw : Stmt := top 17
abbrev N__law_draw : List Str := ["tape", "many", "place", "number"]
theorem sc__law_draw : FnScope N__law_draw ["tape", "many"] (defScope s__law_draw) := ⟨rfl, rfl, rfl, by decide +kernel, rfl, by decide +kernel, by decide +kernel⟩
abbrev s__law_name : Stmt := top 18
abbrev N__law_name : List Str := ["tape", "signs", "number", "name", "k"]
theorem sc__law_name : FnScope N__law_name ["tape"] (defScope s__law_name) := ⟨rfl, rfl, rfl, by decide +kernel, rfl, by decide +kernel, by decide +kernel⟩
abbrev s__law_names : Stmt := top 19
abbrev N__law_names : List Str := ["tape", "many", "names", "k", "name"]
theorem sc__law_names : FnScope N__law_names ["tape", "many"] (defScope s__law_names) := ⟨rfl, rfl, rfl, by decide +kernel, rfl, by decide +kernel, by decide +kernel⟩
abbrev s__law_signs : Stmt := top 20
abbrev N__law_signs : List Str := ["signs"]
theorem sc__law_signs : FnScope N__law_signs [] (defScope s__law_signs) := ⟨rfl, rfl, rfl, by decide +kernel, rfl, by decide +kernel, by decide +kernel⟩
abbrev s__law_text : Stmt := top 21
abbrev N__law_text : List Str := ["tape", "number", "share", "text", "k"]
theorem sc__law_text : FnScope N__law_text ["tape"] (defScope s__law_text) := ⟨rfl, rfl, rfl, by decide +kernel, rfl, by decide +kernel, by decide +kernel⟩
abbrev s__law_number : Stmt := top 22
abbrev N__law_number : List Str := ["tape", "number", "share"]
theorem sc__law_number : FnScope N__law_number ["tape"] (defScope s__law_number) := ⟨rfl, rfl, rfl, by decide +kernel, rfl, by decide +kernel, by decide +kernel⟩
abbrev s__law_kind : Stmt := top 23
abbrev N__law_kind : List Str := ["tape", "number"]
theorem sc__law_kind : FnScope N__law_kind ["tape"] (defScope s__law_kind) := ⟨rfl, rfl, rfl, by decide +kernel, rfl, by decide +kernel, by decide +kernel⟩
abbrev s__law_columns : Stmt := top 24
abbrev N__law_columns : List Str := ["tape", "many", "name"]
theorem sc__law_columns : FnScope N__law_columns ["tape", "many"] (defScope s__law_columns) := ⟨rfl, rfl, rfl, by decide +kernel, rfl, by decide +kernel, by decide +kernel⟩
abbrev s__law_operand : Stmt := top 25
abbrev N__law_operand : List Str := ["tape", "columns", "word", "fitting", "number", "column"]
theorem sc__law_operand : FnScope N__law_operand ["tape", "columns", "word"] (defScope s__law_operand) := ⟨rfl, rfl, rfl, by decide +kernel, rfl, by decide +kernel, by decide +kernel⟩
abbrev s__law_stranger : Stmt := top 26
abbrev N__law_stranger : List Str := ["tape", "names", "base", "start", "k", "name"]
theorem sc__law_stranger : FnScope N__law_stranger ["tape", "names"] (defScope s__law_stranger) := ⟨rfl, rfl, rfl, by decide +kernel, rfl, by decide +kernel, by decide +kernel⟩
abbrev s__law_loose_operand : Stmt := top 27
abbrev N__law_loose_operand : List Str := ["tape", "columns", "word", "share", "column"]
theorem sc__law_loose_operand : FnScope N__law_loose_operand ["tape", "columns", "word"] (defScope s__law_loose_operand) := ⟨rfl, rfl, rfl, by decide +kernel, rfl, by decide +kernel, by decide +kernel⟩
abbrev s__law_loose_expression : Stmt := top 28
abbrev N__law_loose_expression : List Str := ["tape", "columns", "word", "many", "terms", "k"]
theorem sc__law_loose_expression : FnScope N__law_loose_expression ["tape", "columns", "word"] (defScope s__law_loose_expression) := ⟨rfl, rfl, rfl, by decide +kernel, rfl, by decide +kernel, by decide +kernel⟩
abbrev s__law_loose_formula : Stmt := top 29
abbrev N__law_loose_formula : List Str := ["tape", "columns", "depth", "choice", "left", "parts", "word", "sign", "k"]
theorem sc__law_loose_formula : FnScope N__law_loose_formula ["tape", "columns", "depth"] (defScope s__law_loose_formula) := ⟨rfl, rfl, rfl, by decide +kernel, rfl, by decide +kernel, by decide +kernel⟩
abbrev s__law_kind_of : Stmt := top 30
abbrev N__law_kind_of : List Str := ["expression", "columns", "bound", "term", "operand", "kind", "found", "column"]
theorem sc__law_kind_of : FnScope N__law_kind_of ["expression", "columns"] (defScope s__law_kind_of) := ⟨rfl, rfl, rfl, by decide +kernel, rfl, by decide +kernel, by decide +kernel⟩
abbrev s__law_formula_error : Stmt := top 31
abbrev N__law_formula_error : List Str := ["formula", "columns", "word", "left", "right", "parts", "part", "error"]
theorem sc__law_formula_error : FnScope N__law_formula_error ["formula", "columns"] (defScope s__law_formula_error) := ⟨rfl, rfl, rfl, by decide +kernel, rfl, by decide +kernel, by decide +kernel⟩
abbrev s__law_deep : Stmt := top 32
abbrev N__law_deep : List Str := ["tape", "formula", "choice", "k"]
theorem sc__law_deep : FnScope N__law_deep ["tape", "formula"] (defScope s__law_deep) := ⟨rfl, rfl, rfl, by decide +kernel, rfl, by decide +kernel, by decide +kernel⟩
abbrev s__law_told : Stmt := top 33
abbrev N__law_told : List Str := ["formula", "columns", "e", "name", "classes"]
theorem sc__law_told : FnScope N__law_told ["formula", "columns"] (defScope s__law_told) := ⟨rfl, rfl, rfl, by decide +kernel, rfl, by decide +kernel, by decide +kernel⟩
abbrev s__law_due : Stmt := top 34
abbrev N__law_due : List Str := ["formula", "columns", "due", "classes"]
theorem sc__law_due : FnScope N__law_due ["formula", "columns"] (defScope s__law_due) := ⟨rfl, rfl, rfl, by decide +kernel, rfl, by decide +kernel, by decide +kernel⟩
abbrev s_law : Stmt := top 35
abbrev N_law : List Str := ["script", "tape", "columns", "formula", "parts", "k"]
theorem sc_law : FnScope N_law ["script"] (defScope s_law) := ⟨rfl, rfl, rfl, by decide +kernel, rfl, by decide +kernel, by decide +kernel⟩
abbrev s_cls_UnknownColumn : Stmt := clsInit (top 5)
structure Txt (P : Program) (K : PySem.W.Frag) (mg : Str → Option Value) where
  a_kind_of : Addr
  d_kind_of : FuncData
  F_kind_of : Fun K "kind_of" "kind_of" s_kind_of a_kind_of d_kind_of
  b_kind_of : Binds K d_kind_of ["expression", "columns"] []
  g_kind_of : mg "kind_of" = some (.ref a_kind_of)
  a_check_formula : Addr
  d_check_formula : FuncData
  F_check_formula : Fun K "check_formula" "check_formula" s_check_formula a_check_formula d_check_formula
  b_check_formula : Binds K d_check_formula ["formula", "columns"] []
  g_check_formula : mg "check_formula" = some (.ref a_check_formula)
  a_are_alike : Addr
  d_are_alike : FuncData
  F_are_alike : Fun K "are_alike" "are_alike" s_are_alike a_are_alike d_are_alike
  b_are_alike : Binds K d_are_alike ["left", "right"] []
  g_are_alike : mg "are_alike" = some (.ref a_are_alike)
  a__operand_kind : Addr
  d__operand_kind : FuncData
  F__operand_kind : Fun K "_operand_kind" "_operand_kind" s__operand_kind a__operand_kind d__operand_kind
  b__operand_kind : Binds K d__operand_kind ["operand", "kinds"] []
  g__operand_kind : mg "_operand_kind" = some (.ref a__operand_kind)
  a__comparisons_in : Addr
  d__comparisons_in : FuncData
  F__comparisons_in : Fun K "_comparisons_in" "_comparisons_in" s__comparisons_in a__comparisons_in d__comparisons_in
  b__comparisons_in : Binds K d__comparisons_in ["formula"] []
  g__comparisons_in : mg "_comparisons_in" = some (.ref a__comparisons_in)
  a__parts_of : Addr
  d__parts_of : FuncData
  F__parts_of : Fun K "_parts_of" "_parts_of" s__parts_of a__parts_of d__parts_of
  b__parts_of : Binds K d__parts_of ["formula"] []
  g__parts_of : mg "_parts_of" = some (.ref a__parts_of)
  a__law_tape : Addr
  d__law_tape : FuncData
  F__law_tape : Fun K "_law_tape" "_law_tape" s__law_tape a__law_tape d__law_tape
  b__law_tape : Binds K d__law_tape ["script"] []
  g__law_tape : mg "_law_tape" = some (.ref a__law_tape)
  a__law_draw : Addr
  d__law_draw : FuncData
  F__law_draw : Fun K "_law_draw" "_law_draw" s__law_draw a__law_draw d__law_draw
  b__law_draw : Binds K d__law_draw ["tape", "many"] []
  g__law_draw : mg "_law_draw" = some (.ref a__law_draw)
  a__law_name : Addr
  d__law_name : FuncData
  F__law_name : Fun K "_law_name" "_law_name" s__law_name a__law_name d__law_name
  b__law_name : Binds K d__law_name ["tape"] []
  g__law_name : mg "_law_name" = some (.ref a__law_name)
  a__law_names : Addr
  d__law_names : FuncData
  F__law_names : Fun K "_law_names" "_law_names" s__law_names a__law_names d__law_names
  b__law_names : Binds K d__law_names ["tape", "many"] []
  g__law_names : mg "_law_names" = some (.ref a__law_names)
  a__law_signs : Addr
  d__law_signs : FuncData
  F__law_signs : Fun K "_law_signs" "_law_signs" s__law_signs a__law_signs d__law_signs
  b__law_signs : Binds K d__law_signs [] []
  g__law_signs : mg "_law_signs" = some (.ref a__law_signs)
  a__law_text : Addr
  d__law_text : FuncData
  F__law_text : Fun K "_law_text" "_law_text" s__law_text a__law_text d__law_text
  b__law_text : Binds K d__law_text ["tape"] []
  g__law_text : mg "_law_text" = some (.ref a__law_text)
  a__law_number : Addr
  d__law_number : FuncData
  F__law_number : Fun K "_law_number" "_law_number" s__law_number a__law_number d__law_number
  b__law_number : Binds K d__law_number ["tape"] []
  g__law_number : mg "_law_number" = some (.ref a__law_number)
  a__law_kind : Addr
  d__law_kind : FuncData
  F__law_kind : Fun K "_law_kind" "_law_kind" s__law_kind a__law_kind d__law_kind
  b__law_kind : Binds K d__law_kind ["tape"] []
  g__law_kind : mg "_law_kind" = some (.ref a__law_kind)
  a__law_columns : Addr
  d__law_columns : FuncData
  F__law_columns : Fun K "_law_columns" "_law_columns" s__law_columns a__law_columns d__law_columns
  b__law_columns : Binds K d__law_columns ["tape", "many"] []
  g__law_columns : mg "_law_columns" = some (.ref a__law_columns)
  a__law_operand : Addr
  d__law_operand : FuncData
  F__law_operand : Fun K "_law_operand" "_law_operand" s__law_operand a__law_operand d__law_operand
  b__law_operand : Binds K d__law_operand ["tape", "columns", "word"] []
  g__law_operand : mg "_law_operand" = some (.ref a__law_operand)
  a__law_stranger : Addr
  d__law_stranger : FuncData
  F__law_stranger : Fun K "_law_stranger" "_law_stranger" s__law_stranger a__law_stranger d__law_stranger
  b__law_stranger : Binds K d__law_stranger ["tape", "names"] []
  g__law_stranger : mg "_law_stranger" = some (.ref a__law_stranger)
  a__law_loose_operand : Addr
  d__law_loose_operand : FuncData
  F__law_loose_operand : Fun K "_law_loose_operand" "_law_loose_operand" s__law_loose_operand a__law_loose_operand d__law_loose_operand
  b__law_loose_operand : Binds K d__law_loose_operand ["tape", "columns", "word"] []
  g__law_loose_operand : mg "_law_loose_operand" = some (.ref a__law_loose_operand)
  a__law_loose_expression : Addr
  d__law_loose_expression : FuncData
  F__law_loose_expression : Fun K "_law_loose_expression" "_law_loose_expression" s__law_loose_expression a__law_loose_expression d__law_loose_expression
  b__law_loose_expression : Binds K d__law_loose_expression ["tape", "columns", "word"] []
  g__law_loose_expression : mg "_law_loose_expression" = some (.ref a__law_loose_expression)
  a__law_loose_formula : Addr
  d__law_loose_formula : FuncData
  F__law_loose_formula : Fun K "_law_loose_formula" "_law_loose_formula" s__law_loose_formula a__law_loose_formula d__law_loose_formula
  b__law_loose_formula : Binds K d__law_loose_formula ["tape", "columns", "depth"] []
  g__law_loose_formula : mg "_law_loose_formula" = some (.ref a__law_loose_formula)
  a__law_kind_of : Addr
  d__law_kind_of : FuncData
  F__law_kind_of : Fun K "_law_kind_of" "_law_kind_of" s__law_kind_of a__law_kind_of d__law_kind_of
  b__law_kind_of : Binds K d__law_kind_of ["expression", "columns"] []
  g__law_kind_of : mg "_law_kind_of" = some (.ref a__law_kind_of)
  a__law_formula_error : Addr
  d__law_formula_error : FuncData
  F__law_formula_error : Fun K "_law_formula_error" "_law_formula_error" s__law_formula_error a__law_formula_error d__law_formula_error
  b__law_formula_error : Binds K d__law_formula_error ["formula", "columns"] []
  g__law_formula_error : mg "_law_formula_error" = some (.ref a__law_formula_error)
  a__law_deep : Addr
  d__law_deep : FuncData
  F__law_deep : Fun K "_law_deep" "_law_deep" s__law_deep a__law_deep d__law_deep
  b__law_deep : Binds K d__law_deep ["tape", "formula"] []
  g__law_deep : mg "_law_deep" = some (.ref a__law_deep)
  a__law_told : Addr
  d__law_told : FuncData
  F__law_told : Fun K "_law_told" "_law_told" s__law_told a__law_told d__law_told
  b__law_told : Binds K d__law_told ["formula", "columns"] []
  g__law_told : mg "_law_told" = some (.ref a__law_told)
  a__law_due : Addr
  d__law_due : FuncData
  F__law_due : Fun K "_law_due" "_law_due" s__law_due a__law_due d__law_due
  b__law_due : Binds K d__law_due ["formula", "columns"] []
  g__law_due : mg "_law_due" = some (.ref a__law_due)
  a_law : Addr
  d_law : FuncData
  F_law : Fun K "law" "law" s_law a_law d_law
  b_law : Binds K d_law ["script"] []
  g_law : mg "law" = some (.ref a_law)
  a_STRING : Addr
  c_STRING : mg "STRING" = some (.ref a_STRING)
  q_STRING : ∀ H, SqT K H a_STRING [.str "string"]
  t_LARGEST_BOUND : Tok
  c_LARGEST_BOUND : mg "LARGEST_BOUND" = some (.int 1000000000000 t_LARGEST_BOUND)
  z_ValueError : mg "ValueError" = none
  z_abs : mg "abs" = none
  z_dict : mg "dict" = none
  z_int : mg "int" = none
  z_isinstance : mg "isinstance" = none
  z_len : mg "len" = none
  z_list : mg "list" = none
  z_max : mg "max" = none
  z_range : mg "range" = none
  z_repr : mg "repr" = none
  z_super : mg "super" = none
  z_tuple : mg "tuple" = none
  k_ValueTooLarge : Addr
  gk_ValueTooLarge : mg "ValueTooLarge" = some (.ref k_ValueTooLarge)
  k_StringArithmetic : Addr
  gk_StringArithmetic : mg "StringArithmetic" = some (.ref k_StringArithmetic)
  k_MixedComparison : Addr
  gk_MixedComparison : mg "MixedComparison" = some (.ref k_MixedComparison)
  k_UnknownColumn : Addr
  gk_UnknownColumn : mg "UnknownColumn" = some (.ref k_UnknownColumn)
  k_IndoubtError : Addr
  gk_IndoubtError : mg "IndoubtError" = some (.ref k_IndoubtError)
  xk_ValueTooLarge : PySem.W.excIn K k_ValueTooLarge [.type "ValueError", .type "Exception", .type "BaseException", .type "object"] "ValueError.__new__" = true
  kk_ValueTooLarge : PySem.W.keepIn K (.ref k_ValueTooLarge) = true
  bk_ValueTooLarge : PySem.W.subIn K (.ref k_ValueTooLarge) (.type "BaseException") = some true
  tk_ValueTooLarge : PySem.W.typeIn K (.ref k_ValueTooLarge) = some (.type "type")
  ek_ValueTooLarge : ExcC K k_ValueTooLarge
  xk_StringArithmetic : PySem.W.excIn K k_StringArithmetic [.type "ValueError", .type "Exception", .type "BaseException", .type "object"] "ValueError.__new__" = true
  kk_StringArithmetic : PySem.W.keepIn K (.ref k_StringArithmetic) = true
  bk_StringArithmetic : PySem.W.subIn K (.ref k_StringArithmetic) (.type "BaseException") = some true
  tk_StringArithmetic : PySem.W.typeIn K (.ref k_StringArithmetic) = some (.type "type")
  ek_StringArithmetic : ExcC K k_StringArithmetic
  xk_MixedComparison : PySem.W.excIn K k_MixedComparison [.type "ValueError", .type "Exception", .type "BaseException", .type "object"] "ValueError.__new__" = true
  kk_MixedComparison : PySem.W.keepIn K (.ref k_MixedComparison) = true
  bk_MixedComparison : PySem.W.subIn K (.ref k_MixedComparison) (.type "BaseException") = some true
  tk_MixedComparison : PySem.W.typeIn K (.ref k_MixedComparison) = some (.type "type")
  ek_MixedComparison : ExcC K k_MixedComparison
  fi_UnknownColumn : Addr
  ek_UnknownColumn : ExcC K k_UnknownColumn
  cl_UnknownColumn : SupE.Cl P K k_UnknownColumn fi_UnknownColumn "name" [.Constant (.str "there is no column ") 0 ⟨13, 27, 13, 46⟩, .FormattedValue (.Name "name" ⟨13, 47, 13, 51⟩) (-1) none ⟨13, 46, 13, 52⟩] ⟨⟨13, 8, 13, 13⟩, ⟨13, 8, 13, 15⟩, ⟨13, 8, 13, 24⟩, ⟨13, 25, 13, 53⟩, ⟨13, 8, 13, 54⟩, ⟨13, 8, 13, 54⟩, ⟨14, 8, 14, 12⟩, ⟨14, 8, 14, 17⟩, ⟨14, 20, 14, 24⟩, ⟨14, 8, 14, 24⟩⟩
  em_StringArithmetic_IndoubtError : PySem.W.exmOne K (.ref k_StringArithmetic) (.ref k_IndoubtError) = some true
  em_ValueTooLarge_IndoubtError : PySem.W.exmOne K (.ref k_ValueTooLarge) (.ref k_IndoubtError) = some true
  em_MixedComparison_IndoubtError : PySem.W.exmOne K (.ref k_MixedComparison) (.ref k_IndoubtError) = some true
  em_UnknownColumn_IndoubtError : PySem.W.exmOne K (.ref k_UnknownColumn) (.ref k_IndoubtError) = some true
  ki_StringArithmetic_UnknownColumn : PySem.W.kitOne K (.ref k_StringArithmetic) (.ref k_UnknownColumn) = some false
  ki_ValueTooLarge_UnknownColumn : PySem.W.kitOne K (.ref k_ValueTooLarge) (.ref k_UnknownColumn) = some false
  ki_MixedComparison_UnknownColumn : PySem.W.kitOne K (.ref k_MixedComparison) (.ref k_UnknownColumn) = some false
  ki_UnknownColumn_UnknownColumn : PySem.W.kitOne K (.ref k_UnknownColumn) (.ref k_UnknownColumn) = some true
  ki_StringArithmetic_MixedComparison : PySem.W.kitOne K (.ref k_StringArithmetic) (.ref k_MixedComparison) = some false
  ki_ValueTooLarge_MixedComparison : PySem.W.kitOne K (.ref k_ValueTooLarge) (.ref k_MixedComparison) = some false
  ki_MixedComparison_MixedComparison : PySem.W.kitOne K (.ref k_MixedComparison) (.ref k_MixedComparison) = some true
  ki_UnknownColumn_MixedComparison : PySem.W.kitOne K (.ref k_UnknownColumn) (.ref k_MixedComparison) = some false
  ki_StringArithmetic_ValueTooLarge : PySem.W.kitOne K (.ref k_StringArithmetic) (.ref k_ValueTooLarge) = some false
  ki_ValueTooLarge_ValueTooLarge : PySem.W.kitOne K (.ref k_ValueTooLarge) (.ref k_ValueTooLarge) = some true
  ki_MixedComparison_ValueTooLarge : PySem.W.kitOne K (.ref k_MixedComparison) (.ref k_ValueTooLarge) = some false
  ki_UnknownColumn_ValueTooLarge : PySem.W.kitOne K (.ref k_UnknownColumn) (.ref k_ValueTooLarge) = some false
  ki_StringArithmetic_StringArithmetic : PySem.W.kitOne K (.ref k_StringArithmetic) (.ref k_StringArithmetic) = some true
  ki_ValueTooLarge_StringArithmetic : PySem.W.kitOne K (.ref k_ValueTooLarge) (.ref k_StringArithmetic) = some false
  ki_MixedComparison_StringArithmetic : PySem.W.kitOne K (.ref k_MixedComparison) (.ref k_StringArithmetic) = some false
  ki_UnknownColumn_StringArithmetic : PySem.W.kitOne K (.ref k_UnknownColumn) (.ref k_StringArithmetic) = some false
  ki_StringArithmetic_ValueError : PySem.W.kitOne K (.ref k_StringArithmetic) (.type "ValueError") = some true
  ki_ValueTooLarge_ValueError : PySem.W.kitOne K (.ref k_ValueTooLarge) (.type "ValueError") = some true
  ki_MixedComparison_ValueError : PySem.W.kitOne K (.ref k_MixedComparison) (.type "ValueError") = some true
  ki_UnknownColumn_ValueError : PySem.W.kitOne K (.ref k_UnknownColumn) (.type "ValueError") = some true
abbrev Sx {P : Program} {K : PySem.W.Frag} {mg : PySem.Str → Option Value} (T : Txt P K mg) : Sg := ⟨K, false, []⟩
end Va

set_option Elab.async false
set_option linter.all false
set_option maxRecDepth 100000
set_option maxHeartbeats 4000000
namespace Va
open PySem PySem.Spec PyProof.Rows L2 Ind
local macro_rules | `(tactic| walk_at "cn") => `(tactic| first
  | assumption
  | omega
  | exact dm (by omega)
  | exact line (by simp)
  | exact line (by omega)
  | exact line (by simp only [len_app, len_one]; omega)
  | exact small_div (by omega) (by omega)
  | solve_by_elim
  | exact Or.inr ⟨by omega, by omega⟩
  | exact Or.inl ⟨by omega, by omega⟩
  | exact ⟨by omega, by omega⟩
  | decide)
local macro_rules | `(tactic| walk_at "st") => `(tactic| repeat (first
  | refine ⟨_, rfl, ?_⟩
  | refine ⟨_, _, rfl, rfl, ?_⟩
  | refine ⟨_, _, rfl, ?_⟩
  | refine .inl ⟨_, rfl, ?_⟩
  | refine And.intro rfl ?_
  | refine And.intro (by walk_at "cn") ?_))
local macro_rules | `(tactic| walk_at "fz") => `(tactic| repeat (first | exact Fz.refl | apply Fz.upd))
local macro_rules | `(tactic| walk_at "hl") => `(tactic| ((repeat rw [upd_ne (by assumption)]); assumption))
local macro_rules | `(tactic| walk_at "fy") => `(tactic| (intro b o n1 h; (repeat rw [upd_ne n1]); exact h))
local macro_rules | `(tactic| walk_at "wh") => `(tactic| (conv => whnf))
local macro_rules | `(tactic| walk_at "cv") => `(tactic| first
  | rfl
  | assumption
  | omega
  | exact dm (by omega)
  | exact small_div (by omega) (by omega)
  | (simp only [len_app, one_len, len_one, List.length_append, List.length_map, List.length_cons, List.length_nil]; omega)
  | exact Or.inr ⟨by omega, by omega⟩
  | exact Or.inl ⟨by omega, by omega⟩
  | exact ⟨by omega, by omega⟩
  | decide)
local macro_rules | `(tactic| walk_at "vv") => `(tactic| repeat (refine And.intro (by walk_at "cv") ?_))
local macro_rules | `(tactic| walk_at "sk") => `(tactic| repeat (first
  | refine wayT ?_
  | refine wayF ?_
  | refine skipT (by omega) ?_
  | refine skipF (by omega) ?_
  | refine skipT (by decide) ?_
  | refine skipF (by decide) ?_
  | refine ⟨_, (show tyNames _ = some _ from rfl), ?_⟩
  | refine And.intro (by walk_at "cv") ?_))
local macro_rules | `(tactic| walk_at "s0") => `(tactic| first
  | refine wayT ?_
  | refine wayF ?_
  | refine skipT (by omega) ?_
  | refine skipF (by omega) ?_
  | refine skipT (by decide) ?_
  | refine skipF (by decide) ?_
  | refine ⟨_, (show tyNames _ = some _ from rfl), ?_⟩
  | refine And.intro (by walk_at "cv") ?_)
local macro_rules | `(tactic| walk_at "s1") => `(tactic| try (walk_at "s0"; walk_at "wh"))
local macro_rules | `(tactic| walk_at "go") => `(tactic| (walk_at "wh"; walk_at "s1"; walk_at "s1"; walk_at "s1"; walk_at "s1"; walk_at "s1"; walk_at "s1"; walk_at "s1"; walk_at "s1"; walk_at "s1"; walk_at "s1"; walk_at "s1"; walk_at "s1"; walk_at "s1"; walk_at "s1"; walk_at "s1"; walk_at "s1"; walk_at "s1"; walk_at "s1"; walk_at "s1"; walk_at "s1"; walk_at "s1"; walk_at "s1"; walk_at "s1"; walk_at "s1"))

section
variable {P : Program} {w : World} {K : PySem.W.Frag} {mg : PySem.Str → Option Value} {base : Heap}
theorem ok__law_tape (T : Txt P K mg) : FnOk P w K mg base CX0 1 T.a__law_tape T.d__law_tape ["script"] (spTapeV K false) := by
  refine T.F__law_tape.ok sc__law_tape (fun vs H Q E h => ?_) (fun cdv A outer s H vs Q E hr h => ?_)
  · obtain ⟨a, ns, rfl, _⟩ := h
    rfl
  · obtain ⟨a, ns, rfl, hS, hl, q⟩ := h
    refine ⟨_, (pss_cons (ps_set (i := 1) sc__law_tape.nd rfl (.inl rfl) pe_int)
      (pss_cons (ps_for PassesOwn.never rfl (pi_list (pv 0)) (pg_name (i := 2) sc__law_tape.nd rfl (.inl rfl))
      (pss_one (ps_set (i := 1) sc__law_tape.nd rfl (.inl rfl) (pe_op op_mod (pe_callTy call_int1 (by rfl) T.z_int boot_int (pa_cons (pe_op op_add (pe_op op_mul (pv 1) pe_int) (pe_callB call_abs (by rfl) T.z_abs boot_abs (pa_cons (pe_callTy call_int1 (by rfl) T.z_int boot_int (pa_cons (pv 2) pa_nil)) pa_nil))) pa_nil)) pe_int))))
      (pss_one (ps_ret (pe_lst (pa_cons (pe_callTy call_list_of (by rfl) T.z_list boot_list (pa_cons (pv 0) pa_nil)) (pa_cons pe_int (pa_cons pe_int (pa_cons (pv 1) pa_nil))))))))), ?_⟩
    refine ⟨_, rfl, a, rfl, ⟨_, hS⟩, for_list (K := K) (a := a) (xs := ns.map V.int) (fun i σ H' => ∃ z y, σ = [some (.ref a), some (.int z), y] ∧ H' = H ∧ 0 ≤ z ∧ z < 2147483647)
      ⟨7, none, rfl, rfl, by decide, by decide⟩ (fun i σ H' _ ⟨_, _, _, e, _⟩ => by rw [e]; exact hS) ?_ ?_⟩
    · rintro i x σ H' hi ⟨z, y, rfl, rfl, h0, h1⟩
      obtain ⟨u, rfl⟩ : ∃ u, x = V.int u := by
        rw [List.getElem?_map] at hi
        cases e : ns[i]? with
        | none => rw [e] at hi; cases hi
        | some u => rw [e] at hi; exact ⟨u, (Option.some.inj hi).symm⟩
      walk_at "st"
      omega
    · rintro σ H' ⟨z, y, rfl, rfl, h0, h1⟩
      refine ⟨_, rfl, _, _, rfl, .inl hS, fun l nl => ⟨_, rfl, line (by simp), fun t nt => ?_⟩⟩
      have nlt : l ≠ t := fun e => by rw [← e, upd_same] at nt; cases nt
      have ntH : H' t = none := by rw [upd_ne nlt.symm] at nt; exact nt
      have hl2 : upd (upd H' l (.lst (ns.map V.int))) t (.lst [.ref l, .int 0, .int 0, .int z]) l = some (.lst (ns.map V.int)) := by rw [upd_ne nlt, upd_same]
      exact q _ ⟨t, l⟩ ns ((same_upd nl).trans (same_upd nt)) ntH nl ⟨ns, 0, 0, z, upd_same, hl2, fun _ => by omega, by decide, by decide, h0, h1⟩ hl2 hl
theorem ok__law_draw (T : Txt P K mg) : FnOk P w K mg base CX0 1 T.a__law_draw T.d__law_draw ["tape", "many"] (spDrawV false) := by
  refine T.F__law_draw.ok sc__law_draw (fun vs H Q E h => ?_) (fun cdv A outer s H vs Q E hr h => ?_)
  · obtain ⟨a, m, ns, rfl, _⟩ := h
    rfl
  · obtain ⟨⟨t, l⟩, m, ns', rfl, ⟨ns, p, n, z, ht, hL, _, hp, hn, hz, hz2⟩, hL', _, hm, q⟩ := h
    refine ⟨_, (pss_cons (ps_if (pt_cmpR op_eq (pe_ix ix_list (pv 0) pe_int (fun _ _ => rfl)) pe_int (nomark _)) (pss_cons (ps_set (i := 2) sc__law_draw.nd rfl (.inl rfl) (pe_ix ix_list (pv 0) pe_int (fun _ _ => rfl)))
      (pss_cons (ps_set (i := 3) sc__law_draw.nd rfl (.inl rfl) pe_int)
      (pss_cons (ps_if (pt_cmpR op_lt (pv 2) (pe_callB call_len_seq (by rfl) T.z_len boot_len (pa_cons (pe_ix ix_list (pv 0) pe_int (fun _ _ => rfl)) pa_nil)) (nomark _)) (pss_one (ps_set (i := 3) sc__law_draw.nd rfl (.inl rfl) (pe_callB call_abs (by rfl) T.z_abs boot_abs (pa_cons (pe_callTy call_int1 (by rfl) T.z_int boot_int (pa_cons (pe_ix ix_list (pe_ix ix_list (pv 0) pe_int (fun _ _ => rfl)) (pv 2) (fun _ _ => rfl)) pa_nil)) pa_nil)))) (pss_cons (ps_asg (pe_op op_mod (pe_callTy call_int1 (by rfl) T.z_int boot_int (pa_cons (pe_op op_add (pe_op op_add (pe_op op_mul (pe_ix ix_list (pv 0) pe_int (fun _ _ => rfl)) pe_int) (pv 2)) pe_int) pa_nil)) pe_int) (pg_sub (pv 0) pe_int set_list))
      (pss_one (ps_set (i := 3) sc__law_draw.nd rfl (.inl rfl) (pe_ix ix_list (pv 0) pe_int (fun _ _ => rfl))))))
      (pss_cons (ps_asg (pe_op op_add (pv 2) pe_int) (pg_sub (pv 0) pe_int set_list))
      (pss_cons (ps_if (pt_cmpR op_lt (pv 3) (pe_op op_pow pe_int pe_int) (nomark _)) (pss_cons (ps_set (i := 3) sc__law_draw.nd rfl (.inl rfl) (pe_op op_mod (pe_callTy call_int1 (by rfl) T.z_int boot_int (pa_cons (pe_op op_add (pe_op op_add (pe_op op_mul (pv 3) pe_int) (pe_op op_mul (pv 2) pe_int)) pe_int) pa_nil)) pe_int))
      (pss_cons (ps_set (i := 3) sc__law_draw.nd rfl (.inl rfl) (pe_op op_mod (pe_callTy call_int1 (by rfl) T.z_int boot_int (pa_cons (pe_op op_mul (pv 3) pe_int) pa_nil)) pe_int))
      (pss_one (ps_ret (pe_op op_mod (pe_callTy call_int1 (by rfl) T.z_int boot_int (pa_cons (pv 3) pa_nil)) (pe_callB (call_max2 rfl) (by rfl) T.z_max boot_max (pa_cons (pv 1) (pa_cons pe_int pa_nil)))))))) pss_nil)
      (pss_one (ps_asg (pv 3) (pg_sub (pv 0) pe_int set_list)))))))) pss_nil)
      (pss_cons (ps_set (i := 3) sc__law_draw.nd rfl (.inl rfl) (pe_ix ix_list (pv 0) pe_int (fun _ _ => rfl)))
      (pss_cons (ps_asg (pe_op op_fdivW (pv 3) (pe_callB (call_max2 rfl) (by rfl) T.z_max boot_max (pa_cons (pv 1) (pa_cons pe_int pa_nil)))) (pg_sub (pv 0) pe_int set_list))
      (pss_one (ps_ret (pe_op op_mod (pe_callTy call_int1 (by rfl) T.z_int boot_int (pa_cons (pv 3) pa_nil)) (pe_callB (call_max2 rfl) (by rfl) T.z_max boot_max (pa_cons (pv 1) (pa_cons pe_int pa_nil))))))))), ?_⟩
    have ht : H t = some (.lst [.ref l, .int p, .int n, .int z]) := ht
    have hL : H l = some (.lst (ns.map V.int)) := hL
    have ens : ns'.length = ns.length := by
      have hL' : H l = some (.lst (ns'.map V.int)) := hL'
      rw [hL] at hL'
      injection hL' with hL'
      injection hL' with hL'
      have := congrArg List.length hL'
      simpa using this.symm
    have nlt : l ≠ t := Tape.ne ht hL
    have many1 : 0 < if (1 : Int) > m then 1 else m := by split <;> omega
    have many2 : ∀ x : Int, CDivW x (if (2 : Int) > m then 2 else m) := hm
    have lt1 : ∀ x : Int, (x % if (1 : Int) > m then 1 else m) < m ∨ (x % if (1 : Int) > m then 1 else m) < 1 := fun x => by
      have q1 := Int.emod_lt_of_pos x many1
      revert q1
      split <;> intro q1 <;> omega
    have fin : ∀ {H' : Hp} {r : Int} {p' n' z' : Int}, (∀ b o, b ≠ t → H b = some o → H' b = some o) → H' t = some (.lst [.ref l, .int p', .int n', .int z']) → 0 ≤ p' → 0 ≤ n' → 0 ≤ z' → z' < 2147483647 → 0 ≤ r → (r < m ∨ r < 1) → Q (.int r) H' := by
      intro H' r p' n' z' st h1 h2 h3 h4 h5 h6 h7
      have hl' := st l _ nlt hL
      exact q H' r ns (fun b o n1 _ h => st b o n1 h) ⟨ns, p', n', z', h1, hl', (fun z => by cases z), h2, h3, h4, h5⟩ hl' (by omega) h6 h7
    walk_at "st"
    refine ⟨_, _, _, _, rfl, rfl, .of ht, atI_nat (j := 2) rfl, ?_⟩
    walk_at "st"
    refine ite2 (fun e => ?_) (fun e => ?_)
    · walk_at "st"
      refine ⟨_, _, _, _, rfl, rfl, .of ht, atI_nat (j := 1) rfl, ?_⟩
      walk_at "st"
      refine ⟨_, _, _, _, rfl, rfl, .of ht, atI_nat (j := 0) rfl, ?_⟩
      refine ⟨l, _, rfl, .inl (.of hL), ?_⟩
      walk_at "st"
      refine ite2 (fun e2 => ?a1) (fun e2 => ?a2)
      case' a1 =>
        have hlt : p.toNat < ns.length := by
          have := of_decide_eq_true e2
          rw [List.length_map] at this
          omega
        walk_at "st"
        refine ⟨_, _, _, _, rfl, rfl, .of ht, atI_nat (j := 0) rfl, ?_⟩
        walk_at "st"
        refine ⟨_, _, _, _, rfl, rfl, .of hL, at_of (show p = (p.toNat : Int) by omega) (show (ns.map V.int)[p.toNat]? = some (.int ns[p.toNat]) by rw [List.getElem?_map, List.getElem?_eq_getElem hlt]; rfl), ?_⟩
        have hnum : 0 ≤ (if ns[p.toNat] < 0 then -ns[p.toNat] else ns[p.toNat]) := by split <;> omega
      case' a2 =>
        walk_at "st"
        refine ⟨_, _, _, _, rfl, rfl, .of ht, atI_nat (j := 3) rfl, ?_⟩
        walk_at "st"
        refine ⟨_, _, _, 3, rfl, rfl, ht, rfl, ?_⟩
        walk_at "st"
        refine ⟨_, _, _, _, rfl, rfl, .of upd_same, atI_nat (j := 3) rfl, ?_⟩
        have hnum : 0 ≤ (z * 48271 + p + 1) % 2147483647 := by omega
        have hnum2 : (z * 48271 + p + 1) % 2147483647 < 2147483647 := by omega
      all_goals
        walk_at "st"
      case' a1 => refine ⟨_, _, _, 1, rfl, rfl, ht, rfl, ?_⟩
      case' a2 => refine ⟨_, _, _, 1, rfl, rfl, upd_same, rfl, ?_⟩
      all_goals
        walk_at "st"
        refine ite2 (fun e3 => ?_) (fun e3 => ?_)
        · walk_at "st"
          refine fin (by walk_at "fy") upd_same (by omega) hn ?_ ?_ (Int.emod_nonneg _ (by omega)) (lt1 _) <;> assumption
        · walk_at "st"
          refine ⟨_, _, _, 2, rfl, rfl, upd_same, rfl, ?_⟩
          walk_at "st"
          refine ⟨_, _, _, _, rfl, rfl, .of upd_same, atI_nat (j := 2) rfl, ?_⟩
          walk_at "st"
          refine ⟨_, _, _, 2, rfl, rfl, upd_same, rfl, ?_⟩
          walk_at "st"
          refine fin (by walk_at "fy") upd_same (by omega) (Int.ediv_nonneg hnum ?_) ?_ ?_ (Int.emod_nonneg _ (by omega)) (lt1 _) <;> first | assumption | (split <;> omega)
    · walk_at "st"
      refine ⟨_, _, _, _, rfl, rfl, .of ht, atI_nat (j := 2) rfl, ?_⟩
      walk_at "st"
      refine ⟨_, _, _, 2, rfl, rfl, ht, rfl, ?_⟩
      walk_at "st"
      refine fin (by walk_at "fy") upd_same hp ?_ hz hz2 (Int.emod_nonneg _ (by omega)) (lt1 _)
      refine Int.ediv_nonneg hn ?_
      split <;> omega
end
end Va

set_option Elab.async false
set_option linter.all false
set_option maxRecDepth 100000
set_option maxHeartbeats 4000000
namespace Va
open PySem PySem.Spec PyProof.Rows L2 Ind
local macro_rules | `(tactic| walk_at "cn") => `(tactic| first
  | assumption
  | omega
  | exact dm (by omega)
  | exact line (by simp)
  | exact line (by omega)
  | exact line (by simp only [len_app, len_one]; omega)
  | exact small_div (by omega) (by omega)
  | solve_by_elim
  | exact Or.inr ⟨by omega, by omega⟩
  | exact Or.inl ⟨by omega, by omega⟩
  | exact ⟨by omega, by omega⟩
  | decide)
local macro_rules | `(tactic| walk_at "st") => `(tactic| repeat (first
  | refine ⟨_, rfl, ?_⟩
  | refine ⟨_, _, rfl, rfl, ?_⟩
  | refine ⟨_, _, rfl, ?_⟩
  | refine .inl ⟨_, rfl, ?_⟩
  | refine And.intro rfl ?_
  | refine And.intro (by walk_at "cn") ?_))
local macro_rules | `(tactic| walk_at "fz") => `(tactic| repeat (first | exact Fz.refl | apply Fz.upd))
local macro_rules | `(tactic| walk_at "hl") => `(tactic| ((repeat rw [upd_ne (by assumption)]); assumption))
local macro_rules | `(tactic| walk_at "fy") => `(tactic| (intro b o n1 h; (repeat rw [upd_ne n1]); exact h))
local macro_rules | `(tactic| walk_at "wh") => `(tactic| (conv => whnf))
local macro_rules | `(tactic| walk_at "cv") => `(tactic| first
  | rfl
  | assumption
  | omega
  | exact dm (by omega)
  | exact small_div (by omega) (by omega)
  | (simp only [len_app, one_len, len_one, List.length_append, List.length_map, List.length_cons, List.length_nil]; omega)
  | exact Or.inr ⟨by omega, by omega⟩
  | exact Or.inl ⟨by omega, by omega⟩
  | exact ⟨by omega, by omega⟩
  | decide)
local macro_rules | `(tactic| walk_at "vv") => `(tactic| repeat (refine And.intro (by walk_at "cv") ?_))
local macro_rules | `(tactic| walk_at "sk") => `(tactic| repeat (first
  | refine wayT ?_
  | refine wayF ?_
  | refine skipT (by omega) ?_
  | refine skipF (by omega) ?_
  | refine skipT (by decide) ?_
  | refine skipF (by decide) ?_
  | refine ⟨_, (show tyNames _ = some _ from rfl), ?_⟩
  | refine And.intro (by walk_at "cv") ?_))
local macro_rules | `(tactic| walk_at "s0") => `(tactic| first
  | refine wayT ?_
  | refine wayF ?_
  | refine skipT (by omega) ?_
  | refine skipF (by omega) ?_
  | refine skipT (by decide) ?_
  | refine skipF (by decide) ?_
  | refine ⟨_, (show tyNames _ = some _ from rfl), ?_⟩
  | refine And.intro (by walk_at "cv") ?_)
local macro_rules | `(tactic| walk_at "s1") => `(tactic| try (walk_at "s0"; walk_at "wh"))
local macro_rules | `(tactic| walk_at "go") => `(tactic| (walk_at "wh"; walk_at "s1"; walk_at "s1"; walk_at "s1"; walk_at "s1"; walk_at "s1"; walk_at "s1"; walk_at "s1"; walk_at "s1"; walk_at "s1"; walk_at "s1"; walk_at "s1"; walk_at "s1"; walk_at "s1"; walk_at "s1"; walk_at "s1"; walk_at "s1"; walk_at "s1"; walk_at "s1"; walk_at "s1"; walk_at "s1"; walk_at "s1"; walk_at "s1"; walk_at "s1"; walk_at "s1"))

abbrev wT : Tx := "wwwwwwwwwwwwwwww"
def sml (x : Tx) : Prop := x.length ≤ 20 ∧ x ≠ wT
theorem res_ne (a : Tx) : ("reservation_x" : Tx) ++ a ≠ wT := fun e => by
  have h := congrArg (fun s : Tx => s.cps.toList.head?) e
  have h1 : ("reservation_x" : Tx).cps.toList.head? = some 114 := by decide
  have h2 : wT.cps.toList.head? = some 119 := by decide
  have h3 : (("reservation_x" : Tx) ++ a).cps.toList.head? = some 114 := by
    show (("reservation_x" : Tx).cps ++ a.cps).toList.head? = some 114
    rw [Array.toList_append, List.head?_append, h1]
    rfl
  have h : (("reservation_x" : Tx) ++ a).cps.toList.head? = wT.cps.toList.head? := h
  rw [h3, h2] at h
  exact absurd h (by decide)
theorem short_ne {x : Tx} (h : x.length ≤ 10) : x ≠ wT := fun e => by
  have l : wT.length = 16 := by decide
  rw [e, l] at h
  omega
theorem app_app (a b c : Tx) : a ++ b ++ c = a ++ (b ++ c) := by
  show (⟨a.cps ++ b.cps ++ c.cps⟩ : Tx) = ⟨a.cps ++ (b.cps ++ c.cps)⟩
  rw [Array.append_assoc]
def mName : VM := fun ds c Q => ds = [.tape] ∧ ∀ x : Tx, sml x → tOk x → Q (.str x) c
def mNms : VM := fun ds c Q => ∃ m : Nat, ds = [.tape, .int m] ∧ m ≤ 9 ∧ ∀ ns : List Tx, ns.length ≤ m → (0 < m → ns ≠ []) → ns.Nodup → (∀ x ∈ ns, tOk x) → (∀ x ∈ ns, sml x) → Q (.lst (ns.map .str)) c
def mText : VM := fun ds c Q => ds = [.tape] ∧ ∀ x : Tx, x.length ≤ 21 → tOk x → Q (.str x) c
def mSigns : VM := fun ds c Q => ds = [] ∧ ∀ x : Tx, 94 ≤ x.length → x.length ≤ 100 → tOk x → Q (.str x) c
def mNum : VM := fun ds c Q => ds = [.tape] ∧ ∀ i : Int, -1000000 ≤ i → i ≤ 1000000 → Q (.int i) c
section
variable {P : Program} {w : World} {K : PySem.W.Frag} {mg : PySem.Str → Option Value} {base : Heap}
theorem ok__law_name (T : Txt P K mg) : FnOk P w K mg base CX0 2 T.a__law_name T.d__law_name ["tape"] (spV (Sx T) mName) := by
  have G__law_draw := draw_v (S := Sx T) (ok__law_draw (P := P) (w := w) (base := base) T)
  refine def_v (S := Sx T) (N := N__law_name) T.F__law_name sc__law_name rfl (fun ds c Q h => by obtain ⟨rfl, _⟩ := h; first | rfl | assumption) (fun cdv A outer s H E hr => (vss_cons (vs_set (i := 1) sc__law_name.nd rfl (.inl rfl) (fe_of ve_str))
      (vss_cons (vs_set (i := 2) sc__law_name.nd rfl (.inl rfl) (fe_of (ve_call G__law_draw hr (by rfl) T.g__law_draw T.F__law_draw.kp T.b__law_draw (va_cons (ve_name (pv 0)) (va_cons ve_int va_nil)))))
      (vss_cons (vs_set (i := 3) sc__law_name.nd rfl (.inl rfl) (fe_op (o_add rfl) (ve_of (fe_ix (i_ix rfl (hu_of hr)) (ve_of (fe_lst (va_cons ve_str (va_cons ve_str (va_cons ve_str (va_cons ve_str va_nil)))))) (be_of (ve_of (fe_op o_mod (ve_of (pe_CB1 c_int (fun hc ha => pe_callTy hc (by rfl) T.z_int boot_int ha) (be_name (pv 2)))) (be_of ve_int)))) (fun _ _ => rfl))) (be_of (ve_of (fe_ixN (i_ix rfl (hu_of hr)) (pv 1) (be_of (ve_of (fe_op o_mod (ve_of (pe_CB1 c_int (fun hc ha => pe_callTy hc (by rfl) T.z_int boot_int ha) (be_of (ve_of (fe_op o_fdiv (ve_name (pv 2)) (be_of ve_int)))))) (be_of ve_int)))) (fun _ _ => rfl))))))
      (vss_cons (vs_for PassesOwn.never rfl (vi_range1 (by rfl) T.z_range (va_cons (ve_of (fe_ix (i_ix rfl (hu_of hr)) (ve_of (fe_lst (va_cons ve_int (va_cons ve_int (va_cons ve_int (va_cons ve_int va_nil)))))) (be_of (ve_of (fe_op o_mod (ve_of (pe_CB1 c_int (fun hc ha => pe_callTy hc (by rfl) T.z_int boot_int ha) (be_of (ve_of (fe_op o_fdiv (ve_name (pv 2)) (be_of ve_int)))))) (be_of ve_int)))) (fun _ _ => rfl))) va_nil)) (vg_name (i := 4) [4] (by decide) sc__law_name.nd rfl (.inl rfl))
      (vss_one (vs_set (i := 3) sc__law_name.nd rfl (.inl rfl) (fe_op (o_add rfl) (ve_name (pv 3)) (be_of (ve_of (fe_ixN (i_ix rfl (hu_of hr)) (pv 1) (be_of (ve_of (fe_op o_mod (ve_of (pe_CB1 c_int (fun hc ha => pe_callTy hc (by rfl) T.z_int boot_int ha) (be_of (ve_of (fe_op o_fdiv (ve_name (pv 2)) (be_of (ve_of (fe_ix (i_ix rfl (hu_of hr)) (ve_of (fe_lst (va_cons ve_int (va_cons ve_int va_nil)))) (be_name (pv 4)) (fun _ _ => rfl))))))))) (be_of ve_int)))) (fun _ _ => rfl))))))))
      (vss_cons (vs_if (vb_cmp (o_in rfl (hu65 hr)) (ve_name (pv 3)) (be_of (ve_of (fe_lst (va_cons ve_str (va_cons ve_str (va_cons ve_str (va_cons ve_str (va_cons ve_str (va_cons ve_str (va_cons ve_str (va_cons ve_str (va_cons ve_str (va_cons ve_str va_nil))))))))))))) (by rfl)) (vss_one (vs_ret (ve_of (fe_op (o_add rfl) (ve_name (pv 3)) (be_of ve_str))))) vss_nil)
      (vss_one (vs_ret (ve_name (pv 3)))))))))) ?_
  rintro ds c Q ⟨rfl, q⟩
  refine ⟨569504, rfl, Nat.zero_le _, dm (by decide), fun r hr => ?_⟩
  have hr : r < 569504 := by omega
  have sl : ("abcdefghijklmnopqrstuvwxyz0123456789_" : Tx).length = 37 := by decide
  have lr : ("reservation_x" : Tx).length = 13 := by decide
  have l0 : ("" : Tx).length = 0 := by decide
  have so : tOk "abcdefghijklmnopqrstuvwxyz0123456789_" := tOk_of (by decide)
  have t0 : tOk "" := tOk_of (by decide)
  have t1 : tOk "reservation_x" := tOk_of (by decide)
  walk_at "vv"
  obtain ⟨d4, ed4, md4⟩ := pickI (l := [D.str "", .str "", .str "", .str "reservation_x"]) (i := (r : Int) % 4) (by omega) (by simp; omega)
  obtain ⟨z4, rfl, hz4, hp4⟩ := str_mem (P := fun s => (s.length ≤ 13 ∧ tOk s) ∧ (s = "" ∨ s = "reservation_x")) md4 (fun d hd => by
    simp only [List.mem_cons, List.not_mem_nil, or_false] at hd
    rcases hd with rfl | rfl | rfl | rfl
    · exact ⟨_, rfl, ⟨by omega, t0⟩, .inl rfl⟩
    · exact ⟨_, rfl, ⟨by omega, t0⟩, .inl rfl⟩
    · exact ⟨_, rfl, ⟨by omega, t0⟩, .inl rfl⟩
    · exact ⟨_, rfl, ⟨by omega, t1⟩, .inr rfl⟩)
  refine withD_of ed4 ?_
  walk_at "vv"
  obtain ⟨k1, hk1⟩ := sign_at (x := "abcdefghijklmnopqrstuvwxyz0123456789_") (i := (r : Int) / 16 % 26) (by omega) (by rw [sl]; omega)
  refine ⟨k1, hk1, ?_⟩
  walk_at "vv"
  obtain ⟨d5, ed5, md5⟩ := pickI (l := [D.int 0, .int 0, .int 1, .int 2]) (i := (r : Int) / 4 % 4) (by omega) (by simp; omega)
  obtain ⟨z5, rfl, hz5⟩ := int_mem (P := fun i => 0 ≤ i ∧ i ≤ 2) md5 (by simp)
  walk_at "vv"
  refine withD_of ed5 ?_
  walk_at "wh"
  refine ⟨⟨by omega, by omega⟩, ?_⟩
  refine ⟨fun i E => Iv (∃ (x : Tx) (y : SV), E = ⟨[.v .tape, .v (.str "abcdefghijklmnopqrstuvwxyz0123456789_"), .v (.int r), .v (.str x), y], c⟩ ∧ x.length ≤ 14 + i ∧ tOk x ∧ (x.length ≤ 1 + i ∨ ∃ a : Tx, x = "reservation_x" ++ a)), .a ⟨_, _, rfl, by rw [len_app, one_len]; omega, tOk_app hz4.2 (tOk_one so hk1), hp4.elim (fun e => .inl (by rw [e, len_app, one_len, l0]; omega)) (fun e => .inr ⟨_, by rw [e]⟩)⟩, ?_, ?_⟩
  · intro i d E ed iv
    obtain ⟨x, y, rfl, hx, hx2, hx3⟩ := iv.out
    obtain ⟨rfl, hi⟩ := rng_at ed
    have hi : i < 2 := by omega
    obtain ⟨d6, ed6, md6⟩ := pickI (l := [D.int 416, .int 15392]) (i := 0 + (i : Int)) (by omega) (by simp; omega)
    obtain ⟨z6, rfl, hz6⟩ := int_mem (P := fun i => i = 416 ∨ i = 15392) md6 (by simp)
    walk_at "vv"
    refine withD_of ed6 ?_
    have hz7 : 0 ≤ (r : Int) / z6 := by rcases hz6 with rfl | rfl <;> omega
    have dv : CDivW (r : Int) z6 := by rcases hz6 with rfl | rfl <;> exact small_div (by omega) (by omega)
    walk_at "vv"
    obtain ⟨k2, hk2⟩ := sign_at (x := "abcdefghijklmnopqrstuvwxyz0123456789_") (i := (r : Int) / z6 % 37) (by omega) (by rw [sl]; omega)
    refine ⟨k2, hk2, ?_⟩
    refine ⟨by rw [one_len]; omega, ?_⟩
    refine .a ⟨_, _, rfl, by rw [len_app, one_len]; omega, tOk_app hx2 (tOk_one so hk2), ?_⟩
    rcases hx3 with z | ⟨a, rfl⟩
    · exact .inl (by rw [len_app, one_len]; omega)
    · exact .inr ⟨_, app_app _ _ _⟩
  · intro E iv
    obtain ⟨x, y, rfl, hx, hx2, hx3⟩ := iv.out
    have e : (rng 0 z5.toNat).length ≤ 2 := by simp only [rng, List.length_map, List.length_range]; omega
    have l1 : ("_" : Tx).length = 1 := by decide
    walk_at "vv"
    walk_at "wh"
    refine both (fun _ => ?_) (fun _ => ?_)
    · walk_at "vv"
      refine q _ ⟨by rw [len_app]; omega, ?_⟩ (tOk_app hx2 (tOk_of (by decide)))
      rcases hx3 with z | ⟨a, rfl⟩
      · exact short_ne (by rw [len_app]; omega)
      · rw [app_app]; exact res_ne _
    · refine q _ ⟨by omega, ?_⟩ hx2
      rcases hx3 with z | ⟨a, rfl⟩
      · exact short_ne (by omega)
      · exact res_ne _
theorem ok__law_names (T : Txt P K mg) : FnOk P w K mg base CX0 3 T.a__law_names T.d__law_names ["tape", "many"] (spV (Sx T) mNms) := by
  have G__law_name := ok__law_name (P := P) (w := w) (base := base) T
  refine def_v (S := Sx T) (N := N__law_names) T.F__law_names sc__law_names rfl (fun ds c Q h => by obtain ⟨m, rfl, _⟩ := h; first | rfl | assumption) (fun cdv A outer s H E hr => (vss_cons (vs_set (i := 2) sc__law_names.nd rfl (.inl rfl) (fe_lst va_nil))
      (vss_cons (vs_for PassesOwn.never rfl (vi_range1 (by rfl) T.z_range (va_cons (ve_name (pv 1)) va_nil)) (vg_name (i := 3) [3] (by decide) sc__law_names.nd rfl (.inl rfl))
      (vss_cons (vs_set (i := 4) sc__law_names.nd rfl (.inl rfl) (fe_of (ve_call G__law_name hr (by rfl) T.g__law_name T.F__law_name.kp T.b__law_name (va_cons (ve_name (pv 0)) va_nil))))
      (vss_one (vs_if (vb_cmp (o_nin rfl (hu65 hr)) (ve_name (pv 4)) (be_name (pv 2)) (by rfl)) (vss_one (vs_append rfl (pv 2) (ve_name (pv 4)))) vss_nil))))
      (vss_one (vs_ret (ve_name (pv 2))))))) ?_
  rintro ds c Q ⟨m, rfl, hm, q⟩
  refine ⟨by decide, ?_⟩
  refine ⟨⟨by omega, by omega⟩, ?_⟩
  refine ⟨fun i E => Iv (∃ (ns : List Tx) (y z : SV), E = ⟨[.v .tape, .v (.int m), .ol (ns.map .str), y, z], c⟩ ∧ ns.length ≤ i ∧ (0 < i → ns ≠ []) ∧ ns.Nodup ∧ (∀ x ∈ ns, tOk x) ∧ ∀ x ∈ ns, sml x), .a ⟨[], _, _, rfl, Nat.le_refl _, fun z => absurd z (Nat.lt_irrefl _), List.nodup_nil, fun x hx => (nomatch hx), fun x hx => (nomatch hx)⟩, ?_, ?_⟩
  · intro i d E ed iv
    obtain ⟨ns, y, z, rfl, hl, h0, hnd, hto, htl⟩ := iv.out
    obtain ⟨rfl, hi⟩ := rng_at ed
    refine ⟨rfl, fun x hx hxt => ?_⟩
    refine ⟨rfl, flat_strsD _, ?_⟩
    rw [in_strsD]
    walk_at "wh"
    refine both (fun e => ?_) (fun e => ?_)
    · have nx := dF (nT e)
      refine ⟨by rw [List.length_map]; omega, ?_⟩
      refine .a ⟨ns ++ [x], _, _, by rw [List.map_append]; rfl, by rw [List.length_append]; simp; omega, fun _ => by simp, ?_, fun a ha => ?_, fun a ha => ?_⟩
      · exact List.nodup_append.mpr ⟨hnd, by simp, fun a ha b hb eq => by simp at hb; subst hb; subst eq; exact nx ha⟩
      · rcases List.mem_append.mp ha with h | h
        · exact hto a h
        · cases List.mem_singleton.mp h; exact hxt
      · rcases List.mem_append.mp ha with h | h
        · exact htl a h
        · cases List.mem_singleton.mp h; exact hx
    · have nx := dT (nF e)
      exact .a ⟨ns, _, _, rfl, by omega, fun _ z => (by rw [z] at nx; cases nx), hnd, hto, htl⟩
  · intro E iv
    obtain ⟨ns, y, z, rfl, hl, h0, hnd, hto, htl⟩ := iv.out
    have e : (rng 0 (m : Int).toNat).length = m := by simp only [rng, List.length_map, List.length_range]; omega
    rw [e] at hl h0
    exact q ns hl h0 hnd hto htl
theorem ok__law_signs (T : Txt P K mg) : FnOk P w K mg base CX0 1 T.a__law_signs T.d__law_signs [] (spV (Sx T) mSigns) := by
  refine def_v (S := Sx T) (N := N__law_signs) T.F__law_signs sc__law_signs rfl (fun ds c Q h => by obtain ⟨rfl, _⟩ := h; first | rfl | assumption) (fun cdv A outer s H E hr => (vss_cons (vs_set (i := 0) sc__law_signs.nd rfl (.inl rfl) (fe_of ve_str))
      (vss_one (vs_ret (ve_of (fe_op (o_add rfl) (ve_name (pv 0)) (be_of ve_str))))))) ?_
  rintro ds c Q ⟨rfl, q⟩
  walk_at "wh"
  refine ⟨by decide, ?_⟩
  exact q _ (by rw [len_app]; decide) (by rw [len_app]; decide) (tOk_app (tOk_of (by decide)) (tOk_of (by decide)))
theorem ok__law_text (T : Txt P K mg) : FnOk P w K mg base CX0 2 T.a__law_text T.d__law_text ["tape"] (spV (Sx T) mText) := by
  have G__law_draw := draw_v (S := Sx T) (ok__law_draw (P := P) (w := w) (base := base) T)
  have G__law_signs := ok__law_signs (P := P) (w := w) (base := base) T
  refine def_v (S := Sx T) (N := N__law_text) T.F__law_text sc__law_text rfl (fun ds c Q h => by obtain ⟨rfl, _⟩ := h; first | rfl | assumption) (fun cdv A outer s H E hr => (vss_cons (vs_set (i := 1) sc__law_text.nd rfl (.inl rfl) (fe_of (ve_call G__law_draw hr (by rfl) T.g__law_draw T.F__law_draw.kp T.b__law_draw (va_cons (ve_name (pv 0)) (va_cons ve_int va_nil)))))
      (vss_cons (vs_set (i := 2) sc__law_text.nd rfl (.inl rfl) (fe_op o_mod (ve_of (pe_CB1 c_int (fun hc ha => pe_callTy hc (by rfl) T.z_int boot_int ha) (be_name (pv 1)))) (be_of ve_int)))
      (vss_cons (vs_set (i := 3) sc__law_text.nd rfl (.inl rfl) (fe_of ve_str))
      (vss_cons (vs_if (vb_cmp o_lt (ve_name (pv 2)) (be_of ve_int) (nomark _)) (vss_cons (vs_for PassesOwn.never rfl (vi_range1 (by rfl) T.z_range (va_cons (ve_of (fe_ix (i_ix rfl (hu_of hr)) (ve_of (fe_lst (va_cons ve_int (va_cons ve_int (va_cons ve_int (va_cons ve_int (va_cons ve_int (va_cons ve_int va_nil)))))))) (be_name (pv 2)) (fun _ _ => rfl))) va_nil)) (vg_name (i := 4) [4] (by decide) sc__law_text.nd rfl (.inl rfl))
      (vss_one (vs_set (i := 3) sc__law_text.nd rfl (.inl rfl) (fe_op (o_add rfl) (ve_name (pv 3)) (be_of (ve_of (fe_ix (i_ix rfl (hu_of hr)) ve_str (be_of (ve_of (fe_op o_mod (ve_of (pe_CB1 c_int (fun hc ha => pe_callTy hc (by rfl) T.z_int boot_int ha) (be_of (ve_of (fe_op o_fdiv (ve_name (pv 1)) (be_of (ve_of (fe_ix (i_ix rfl (hu_of hr)) (ve_of (fe_lst (va_cons ve_int (va_cons ve_int (va_cons ve_int va_nil))))) (be_name (pv 4)) (fun _ _ => rfl))))))))) (be_of ve_int)))) (fun _ _ => rfl))))))))
      (vss_one (vs_ret (ve_name (pv 3))))) vss_nil)
      (vss_cons (vs_for PassesOwn.never rfl (vi_range1 (by rfl) T.z_range (va_cons (ve_of (fe_ix (i_ix rfl (hu_of hr)) (ve_of (fe_lst (va_cons ve_int (va_cons (ve_of (fe_op o_fdiv (ve_name (pv 1)) (be_of ve_int))) va_nil)))) (be_of (ve_of (fe_op o_sub (ve_name (pv 2)) (be_of ve_int)))) (fun _ _ => rfl))) va_nil)) (vg_name (i := 4) [4] (by decide) sc__law_text.nd rfl (.inl rfl))
      (vss_one (vs_set (i := 3) sc__law_text.nd rfl (.inl rfl) (fe_op (o_add rfl) (ve_name (pv 3)) (be_of (ve_of (fe_ix (i_ix rfl (hu_of hr)) (ve_call0 G__law_signs hr (by rfl) T.g__law_signs T.F__law_signs.kp T.b__law_signs) (be_of (ve_call G__law_draw hr (by rfl) T.g__law_draw T.F__law_draw.kp T.b__law_draw (va_cons (ve_name (pv 0)) (va_cons ve_int va_nil)))) (fun _ _ => rfl))))))))
      (vss_one (vs_ret (ve_name (pv 3)))))))))) ?_
  rintro ds c Q ⟨rfl, q⟩
  refine ⟨21000, rfl, Nat.zero_le _, dm (by decide), fun r hr => ?_⟩
  have hr : r < 21000 := by omega
  have sl : ("abB' " : Tx).length = 5 := by decide
  have l0 : ("" : Tx).length = 0 := by decide
  have so : tOk "abB' " := tOk_of (by decide)
  have t0 : tOk "" := tOk_of (by decide)
  walk_at "vv"
  walk_at "wh"
  refine bothD (fun e => ?_) (fun e => ?_)
  · obtain ⟨d5, ed5, md5⟩ := pickI (l := [D.int 0, .int 1, .int 1, .int 1, .int 2, .int 3]) (i := (r : Int) % 8) (by omega) (by simp; omega)
    obtain ⟨z5, rfl, hz5⟩ := int_mem (P := fun i => 0 ≤ i ∧ i ≤ 3) md5 (by simp)
    walk_at "vv"
    refine withD_of ed5 ?_
    walk_at "wh"
    refine ⟨⟨by omega, by omega⟩, ?_⟩
    refine ⟨fun i E => Iv (∃ (x : Tx) (y : SV), E = ⟨[.v .tape, .v (.int r), .v (.int ((r : Int) % 8)), .v (.str x), y], c⟩ ∧ x.length ≤ i ∧ tOk x), .a ⟨_, _, rfl, Nat.le_refl _, t0⟩, ?_, ?_⟩
    · intro i d E ed iv
      obtain ⟨x, y, rfl, hx, hx2⟩ := iv.out
      obtain ⟨rfl, hi⟩ := rng_at ed
      have hi : i < 3 := by omega
      obtain ⟨d6, ed6, md6⟩ := pickI (l := [D.int 8, .int 40, .int 200]) (i := 0 + (i : Int)) (by omega) (by simp; omega)
      obtain ⟨z6, rfl, hz6⟩ := int_mem (P := fun i => i = 8 ∨ i = 40 ∨ i = 200) md6 (by simp)
      walk_at "vv"
      refine withD_of ed6 ?_
      have hz7 : 0 ≤ (r : Int) / z6 := by rcases hz6 with rfl | rfl | rfl <;> omega
      have dv : CDivW (r : Int) z6 := by rcases hz6 with rfl | rfl | rfl <;> exact small_div (by omega) (by omega)
      walk_at "vv"
      obtain ⟨k2, hk2⟩ := sign_at (x := "abB' ") (i := (r : Int) / z6 % 5) (by omega) (by rw [sl]; omega)
      refine ⟨k2, hk2, ?_⟩
      refine ⟨by rw [one_len]; omega, ?_⟩
      exact .a ⟨_, _, rfl, by rw [len_app, one_len]; omega, tOk_app hx2 (tOk_one so hk2)⟩
    · intro E iv
      obtain ⟨x, y, rfl, hx, hx2⟩ := iv.out
      have e : (rng 0 z5.toNat).length ≤ 3 := by simp only [rng, List.length_map, List.length_range]; omega
      exact q _ (by omega) hx2
  · walk_at "vv"
    obtain ⟨d5, ed5, md5⟩ := pickI (l := [D.int 20, .int ((r : Int) / 1000)]) (i := (r : Int) % 8 - 6) (by omega) (by simp; omega)
    obtain ⟨z5, rfl, hz5⟩ := int_mem (P := fun i => 0 ≤ i ∧ i ≤ 21) md5 (by simp; omega)
    walk_at "vv"
    refine withD_of ed5 ?_
    walk_at "wh"
    refine ⟨⟨by omega, by omega⟩, ?_⟩
    refine ⟨fun i E => Iv (∃ (x : Tx) (y : SV), E = ⟨[.v .tape, .v (.int r), .v (.int ((r : Int) % 8)), .v (.str x), y], c⟩ ∧ x.length ≤ i ∧ tOk x), .a ⟨_, _, rfl, Nat.le_refl _, t0⟩, ?_, ?_⟩
    · intro i d E ed iv
      obtain ⟨x, y, rfl, hx, hx2⟩ := iv.out
      obtain ⟨rfl, hi⟩ := rng_at ed
      refine ⟨rfl, fun sg h1 h2 sgo => ?_⟩
      refine ⟨94, rfl, Nat.zero_le _, dm (by decide), fun r2 hr2 => ?_⟩
      obtain ⟨k2, hk2⟩ := sign_at (x := sg) (i := (r2 : Int)) (by omega) (by omega)
      walk_at "vv"
      refine ⟨k2, hk2, ?_⟩
      refine ⟨by rw [one_len]; omega, ?_⟩
      exact .a ⟨_, _, rfl, by rw [len_app, one_len]; omega, tOk_app hx2 (tOk_one sgo hk2)⟩
    · intro E iv
      obtain ⟨x, y, rfl, hx, hx2⟩ := iv.out
      have e : (rng 0 z5.toNat).length ≤ 21 := by simp only [rng, List.length_map, List.length_range]; omega
      exact q _ (by omega) hx2
theorem ok__law_number (T : Txt P K mg) : FnOk P w K mg base CX0 2 T.a__law_number T.d__law_number ["tape"] (spV (Sx T) mNum) := by
  have G__law_draw := draw_v (S := Sx T) (ok__law_draw (P := P) (w := w) (base := base) T)
  refine def_v (S := Sx T) (N := N__law_number) T.F__law_number sc__law_number rfl (fun ds c Q h => by obtain ⟨rfl, _⟩ := h; first | rfl | assumption) (fun cdv A outer s H E hr => (vss_cons (vs_set (i := 1) sc__law_number.nd rfl (.inl rfl) (fe_of (ve_call G__law_draw hr (by rfl) T.g__law_draw T.F__law_draw.kp T.b__law_draw (va_cons (ve_name (pv 0)) (va_cons ve_int va_nil)))))
      (vss_cons (vs_set (i := 2) sc__law_number.nd rfl (.inl rfl) (fe_op o_mod (ve_of (pe_CB1 c_int (fun hc ha => pe_callTy hc (by rfl) T.z_int boot_int ha) (be_name (pv 1)))) (be_of ve_int)))
      (vss_cons (vs_if (vb_cmp o_lt (ve_name (pv 2)) (be_of ve_int) (nomark _)) (vss_one (vs_ret (ve_of (fe_op o_sub (ve_of (fe_op o_mod (ve_of (pe_CB1 c_int (fun hc ha => pe_callTy hc (by rfl) T.z_int boot_int ha) (be_of (ve_of (fe_op o_fdiv (ve_name (pv 1)) (be_of ve_int)))))) (be_of ve_int))) (be_of ve_int))))) vss_nil)
      (vss_cons (vs_if (vb_cmp (o_eq rfl hr.units) (ve_name (pv 2)) (be_of ve_int) (nomark _)) (vss_one (vs_ret (ve_of (fe_ix (i_ix rfl (hu_of hr)) (ve_of (fe_lst (va_cons ve_int (va_cons (ve_neg ve_int) (va_cons ve_int (va_cons (ve_neg ve_int) va_nil)))))) (be_of (ve_of (fe_op o_mod (ve_of (pe_CB1 c_int (fun hc ha => pe_callTy hc (by rfl) T.z_int boot_int ha) (be_of (ve_of (fe_op o_fdiv (ve_name (pv 1)) (be_of ve_int)))))) (be_of ve_int)))) (fun _ _ => rfl))))) vss_nil)
      (vss_one (vs_ret (ve_of (fe_op o_sub (ve_of (fe_op o_fdiv (ve_name (pv 1)) (be_of ve_int))) (be_of ve_int)))))))))) ?_
  rintro ds c Q ⟨rfl, q⟩
  refine ⟨16000008, rfl, Nat.zero_le _, dm (by decide), fun r hr => ?_⟩
  have hr : r < 16000008 := by omega
  walk_at "vv"
  walk_at "wh"
  refine bothD (fun e => ?_) (fun e => ?_)
  · walk_at "vv"
    exact q _ (by omega) (by omega)
  · walk_at "wh"
    refine bothD (fun e2 => ?_) (fun e2 => ?_)
    · obtain ⟨d5, ed5, md5⟩ := pickI (l := [D.int 1000000, .int (-1000000), .int 999999, .int (-999999)]) (i := (r : Int) / 8 % 4) (by omega) (by simp; omega)
      obtain ⟨z5, rfl, hz5⟩ := int_mem (P := fun i => -1000000 ≤ i ∧ i ≤ 1000000) md5 (by simp)
      walk_at "vv"
      refine withD_of ed5 ?_
      exact q _ hz5.1 hz5.2
    · walk_at "vv"
      exact q _ (by omega) (by omega)
end
end Va

set_option Elab.async false
set_option linter.all false
set_option maxRecDepth 100000
set_option maxHeartbeats 4000000
namespace Va
open PySem PySem.Spec PyProof.Rows L2 Ind
local macro_rules | `(tactic| walk_at "cn") => `(tactic| first
  | assumption
  | omega
  | exact dm (by omega)
  | exact line (by simp)
  | exact line (by omega)
  | exact line (by simp only [len_app, len_one]; omega)
  | exact small_div (by omega) (by omega)
  | solve_by_elim
  | exact Or.inr ⟨by omega, by omega⟩
  | exact Or.inl ⟨by omega, by omega⟩
  | exact ⟨by omega, by omega⟩
  | decide)
local macro_rules | `(tactic| walk_at "st") => `(tactic| repeat (first
  | refine ⟨_, rfl, ?_⟩
  | refine ⟨_, _, rfl, rfl, ?_⟩
  | refine ⟨_, _, rfl, ?_⟩
  | refine .inl ⟨_, rfl, ?_⟩
  | refine And.intro rfl ?_
  | refine And.intro (by walk_at "cn") ?_))
local macro_rules | `(tactic| walk_at "fz") => `(tactic| repeat (first | exact Fz.refl | apply Fz.upd))
local macro_rules | `(tactic| walk_at "hl") => `(tactic| ((repeat rw [upd_ne (by assumption)]); assumption))
local macro_rules | `(tactic| walk_at "fy") => `(tactic| (intro b o n1 h; (repeat rw [upd_ne n1]); exact h))
local macro_rules | `(tactic| walk_at "wh") => `(tactic| (conv => whnf))
local macro_rules | `(tactic| walk_at "cv") => `(tactic| first
  | rfl
  | assumption
  | omega
  | exact dm (by omega)
  | exact small_div (by omega) (by omega)
  | (simp only [len_app, one_len, len_one, List.length_append, List.length_map, List.length_cons, List.length_nil]; omega)
  | exact Or.inr ⟨by omega, by omega⟩
  | exact Or.inl ⟨by omega, by omega⟩
  | exact ⟨by omega, by omega⟩
  | decide)
local macro_rules | `(tactic| walk_at "vv") => `(tactic| repeat (refine And.intro (by walk_at "cv") ?_))
local macro_rules | `(tactic| walk_at "sk") => `(tactic| repeat (first
  | refine wayT ?_
  | refine wayF ?_
  | refine skipT (by omega) ?_
  | refine skipF (by omega) ?_
  | refine skipT (by decide) ?_
  | refine skipF (by decide) ?_
  | refine ⟨_, (show tyNames _ = some _ from rfl), ?_⟩
  | refine And.intro (by walk_at "cv") ?_))
local macro_rules | `(tactic| walk_at "s0") => `(tactic| first
  | refine wayT ?_
  | refine wayF ?_
  | refine skipT (by omega) ?_
  | refine skipF (by omega) ?_
  | refine skipT (by decide) ?_
  | refine skipF (by decide) ?_
  | refine ⟨_, (show tyNames _ = some _ from rfl), ?_⟩
  | refine And.intro (by walk_at "cv") ?_)
local macro_rules | `(tactic| walk_at "s1") => `(tactic| try (walk_at "s0"; walk_at "wh"))
local macro_rules | `(tactic| walk_at "go") => `(tactic| (walk_at "wh"; walk_at "s1"; walk_at "s1"; walk_at "s1"; walk_at "s1"; walk_at "s1"; walk_at "s1"; walk_at "s1"; walk_at "s1"; walk_at "s1"; walk_at "s1"; walk_at "s1"; walk_at "s1"; walk_at "s1"; walk_at "s1"; walk_at "s1"; walk_at "s1"; walk_at "s1"; walk_at "s1"; walk_at "s1"; walk_at "s1"; walk_at "s1"; walk_at "s1"; walk_at "s1"; walk_at "s1"))

def colsP (cs : List Col) : D := .ptp (cs.map colD)
def mKind : VM := fun ds c Q => ds = [.tape] ∧ ∀ k : Cd, k.ok → Q k.d c
def mCols : VM := fun ds c Q => ∃ m : Nat, ds = [.tape, .int m] ∧ m ≤ 9 ∧ ∀ cs : List Col, cs.length ≤ m → (0 < m → cs ≠ []) → (cs.map (·.1)).Nodup → (∀ p ∈ cs, p.2.ok) → (∀ p ∈ cs, tOk p.1) → (∀ p ∈ cs, sml p.1) → Q (colsP cs) c
section
variable {P : Program} {w : World} {K : PySem.W.Frag} {mg : PySem.Str → Option Value} {base : Heap}
theorem ok__law_kind (T : Txt P K mg) : FnOk P w K mg base CX0 2 T.a__law_kind T.d__law_kind ["tape"] (spV (Sx T) mKind) := by
  have G__law_draw := draw_v (S := Sx T) (ok__law_draw (P := P) (w := w) (base := base) T)
  refine def_v (S := Sx T) (N := N__law_kind) T.F__law_kind sc__law_kind rfl (fun ds c Q h => by obtain ⟨rfl, _⟩ := h; first | rfl | assumption) (fun cdv A outer s H E hr => (vss_cons (vs_set (i := 1) sc__law_kind.nd rfl (.inl rfl) (fe_of (ve_call G__law_draw hr (by rfl) T.g__law_draw T.F__law_draw.kp T.b__law_draw (va_cons (ve_name (pv 0)) (va_cons ve_int va_nil)))))
      (vss_cons (vs_if (vb_cmp o_lt (ve_of (fe_op o_mod (ve_of (pe_CB1 c_int (fun hc ha => pe_callTy hc (by rfl) T.z_int boot_int ha) (be_name (pv 1)))) (be_of ve_int))) (be_of ve_int) (nomark _)) (vss_one (vs_ret (ve_tup (va_cons ve_str va_nil)))) vss_nil)
      (vss_cons (vs_if (vb_cmp o_lt (ve_of (fe_op o_mod (ve_of (pe_CB1 c_int (fun hc ha => pe_callTy hc (by rfl) T.z_int boot_int ha) (be_name (pv 1)))) (be_of ve_int))) (be_of ve_int) (nomark _)) (vss_one (vs_ret (ve_tup (va_cons ve_str (va_cons ve_int va_nil))))) vss_nil)
      (vss_one (vs_ret (ve_tup (va_cons ve_str (va_cons (ve_of (fe_ix (i_ix rfl (hu_of hr)) (ve_of (fe_lst (va_cons ve_int (va_cons ve_int (va_cons ve_int (va_cons ve_int (va_cons ve_int (va_cons ve_int (va_cons ve_int (va_cons ve_int (va_cons ve_int (va_cons (ve_of (fe_op o_pow ve_int (be_of ve_int))) va_nil)))))))))))) (be_of (ve_of (fe_op o_fdiv (ve_name (pv 1)) (be_of ve_int)))) (fun _ _ => rfl))) va_nil))))))))) ?_
  rintro ds c Q ⟨rfl, q⟩
  refine ⟨80, rfl, Nat.zero_le _, dm (by decide), fun r hr => ?_⟩
  have hr : r < 80 := by omega
  walk_at "vv"
  walk_at "wh"
  refine bothD (fun e => ?_) (fun e => ?_)
  · walk_at "vv"
    exact q .s trivial
  · walk_at "vv"
    walk_at "wh"
    refine bothD (fun e2 => ?_) (fun e2 => ?_)
    · walk_at "vv"
      exact q (.n 1000000) ⟨by decide, by decide⟩
    · obtain ⟨d5, ed5, md5⟩ := pickI (l := [D.int 0, .int 1, .int 7, .int 60, .int 3000, .int 500000000000, .int 500000000001, .int 999999000000, .int 999999999999, .int (10 ^ 12)]) (i := (r : Int) / 8) (by omega) (by simp; omega)
      obtain ⟨z5, rfl, hz⟩ := int_mem (P := fun i => 0 ≤ i ∧ i ≤ 1000000000000) md5 (by simp)
      walk_at "vv"
      refine withD_of ed5 ?_
      walk_at "vv"
      exact q (.n z5) hz
theorem ok__law_columns (T : Txt P K mg) : FnOk P w K mg base CX0 4 T.a__law_columns T.d__law_columns ["tape", "many"] (spV (Sx T) mCols) := by
  have G__law_kind := ok__law_kind (P := P) (w := w) (base := base) T
  have G__law_names := ok__law_names (P := P) (w := w) (base := base) T
  refine def_v (S := Sx T) (N := N__law_columns) T.F__law_columns sc__law_columns rfl (fun ds c Q h => by obtain ⟨m, rfl, _⟩ := h; first | rfl | assumption) (fun cdv A outer s H E hr => (vss_one (vs_ret (ve_of (pe_CB1 (c_tupleP rfl) (fun hc ha => pe_callTy hc (by rfl) T.z_tuple boot_tuple ha) (be_of (ve_of (fe_fz 0 (fe_lc (own := [("name", 2)]) rfl sc__law_columns.nd (vi_any rfl (ve_call G__law_names hr (by rfl) T.g__law_names T.F__law_names.kp T.b__law_names (va_cons (ve_name (pv 0)) (va_cons (ve_name (pv 1)) va_nil)))) (blkOk_by (own := [("name", 2)]) (N := N__law_columns) (sc := defScope s__law_columns) (by decide +kernel)) (fun _ _ _ _ _ => (vg_name (i := 2) [2] (by decide) sc__law_columns.nd rfl (.inl rfl))) (fun _ _ _ _ _ => vts_nil) (fun _ _ _ _ _ => (ve_tup (va_cons (ve_name (pv 2)) (va_cons (ve_call G__law_kind (hr.mono (by omega)) (by rfl) T.g__law_kind T.F__law_kind.kp T.b__law_kind (va_cons (ve_name (pv 0)) va_nil)) va_nil))))))))))))) ?_
  rintro ds c Q ⟨m, rfl, hm, q⟩
  refine ⟨m, rfl, hm, fun ns h1 h2 h3 h4 h5 => ?_⟩
  walk_at "wh"
  refine ⟨by rw [List.length_map]; omega, fun i acc k => Iv (∃ cs : List Col, acc = cs.map colD ∧ cs.map (·.1) = ns.take i ∧ (∀ p ∈ cs, p.2.ok) ∧ k = c), .a ⟨[], rfl, rfl, fun p hp => (nomatch hp), rfl⟩, ?_, ?_⟩
  · intro i d acc k ed iv la
    obtain ⟨cs, rfl, e1, e2, rfl⟩ := iv.out
    obtain ⟨x, ex, rfl⟩ := map_get ed
    refine wayT ?_
    refine ⟨rfl, fun kd hk => ?_⟩
    refine ⟨by show 2 ≤ 1000; decide, ?_⟩
    refine .a ⟨cs ++ [(x, kd)], by rw [List.map_append]; rfl, by rw [List.map_append, e1, take_more ex]; rfl, fun p hp => ?_, rfl⟩
    rcases List.mem_append.mp hp with h | h
    · exact e2 p h
    · cases List.mem_singleton.mp h; exact hk
  · intro acc k iv la
    obtain ⟨cs, rfl, e1, e2, rfl⟩ := iv.out
    rw [List.length_map, List.take_length] at e1
    have el : cs.length = ns.length := by rw [← e1, List.length_map]
    exact q cs (by omega) (fun z => fun e => h2 z (by rw [← e1, e]; rfl)) (by rw [e1]; exact h3) e2 (fun p hp => h4 _ (by rw [← e1]; exact List.mem_map.mpr ⟨p, hp, rfl⟩)) (fun p hp => h5 _ (by rw [← e1]; exact List.mem_map.mpr ⟨p, hp, rfl⟩))
end
end Va

set_option Elab.async false
set_option linter.all false
set_option maxRecDepth 100000
set_option maxHeartbeats 4000000
namespace Va
open PySem PySem.Spec PyProof.Rows L2 Ind
local macro_rules | `(tactic| walk_at "cn") => `(tactic| first
  | assumption
  | omega
  | exact dm (by omega)
  | exact line (by simp)
  | exact line (by omega)
  | exact line (by simp only [len_app, len_one]; omega)
  | exact small_div (by omega) (by omega)
  | solve_by_elim
  | exact Or.inr ⟨by omega, by omega⟩
  | exact Or.inl ⟨by omega, by omega⟩
  | exact ⟨by omega, by omega⟩
  | decide)
local macro_rules | `(tactic| walk_at "st") => `(tactic| repeat (first
  | refine ⟨_, rfl, ?_⟩
  | refine ⟨_, _, rfl, rfl, ?_⟩
  | refine ⟨_, _, rfl, ?_⟩
  | refine .inl ⟨_, rfl, ?_⟩
  | refine And.intro rfl ?_
  | refine And.intro (by walk_at "cn") ?_))
local macro_rules | `(tactic| walk_at "fz") => `(tactic| repeat (first | exact Fz.refl | apply Fz.upd))
local macro_rules | `(tactic| walk_at "hl") => `(tactic| ((repeat rw [upd_ne (by assumption)]); assumption))
local macro_rules | `(tactic| walk_at "fy") => `(tactic| (intro b o n1 h; (repeat rw [upd_ne n1]); exact h))
local macro_rules | `(tactic| walk_at "wh") => `(tactic| (conv => whnf))
local macro_rules | `(tactic| walk_at "cv") => `(tactic| first
  | rfl
  | assumption
  | omega
  | exact dm (by omega)
  | exact small_div (by omega) (by omega)
  | (simp only [len_app, one_len, len_one, List.length_append, List.length_map, List.length_cons, List.length_nil]; omega)
  | exact Or.inr ⟨by omega, by omega⟩
  | exact Or.inl ⟨by omega, by omega⟩
  | exact ⟨by omega, by omega⟩
  | decide)
local macro_rules | `(tactic| walk_at "vv") => `(tactic| repeat (refine And.intro (by walk_at "cv") ?_))
local macro_rules | `(tactic| walk_at "sk") => `(tactic| repeat (first
  | refine wayT ?_
  | refine wayF ?_
  | refine skipT (by omega) ?_
  | refine skipF (by omega) ?_
  | refine skipT (by decide) ?_
  | refine skipF (by decide) ?_
  | refine ⟨_, (show tyNames _ = some _ from rfl), ?_⟩
  | refine And.intro (by walk_at "cv") ?_))
local macro_rules | `(tactic| walk_at "s0") => `(tactic| first
  | refine wayT ?_
  | refine wayF ?_
  | refine skipT (by omega) ?_
  | refine skipF (by omega) ?_
  | refine skipT (by decide) ?_
  | refine skipF (by decide) ?_
  | refine ⟨_, (show tyNames _ = some _ from rfl), ?_⟩
  | refine And.intro (by walk_at "cv") ?_)
local macro_rules | `(tactic| walk_at "s1") => `(tactic| try (walk_at "s0"; walk_at "wh"))
local macro_rules | `(tactic| walk_at "go") => `(tactic| (walk_at "wh"; walk_at "s1"; walk_at "s1"; walk_at "s1"; walk_at "s1"; walk_at "s1"; walk_at "s1"; walk_at "s1"; walk_at "s1"; walk_at "s1"; walk_at "s1"; walk_at "s1"; walk_at "s1"; walk_at "s1"; walk_at "s1"; walk_at "s1"; walk_at "s1"; walk_at "s1"; walk_at "s1"; walk_at "s1"; walk_at "s1"; walk_at "s1"; walk_at "s1"; walk_at "s1"; walk_at "s1"))

def Op.lo : Op → Prop
  | .num i => -1000000 ≤ i ∧ i ≤ 1000000
  | _ => True
def mOper : VM := fun ds c Q => ∃ (cs : List Col) (w : Tx), ds = [.tape, colsP cs, .str w] ∧ (w = "string" ∨ w = "integer") ∧ cs.length ≤ 9 ∧ (∀ p ∈ cs, tOk p.1) ∧ ∀ o : Op, fits cs w o → o.tok → o.lo → Q o.d c
section
variable {P : Program} {w : World} {K : PySem.W.Frag} {mg : PySem.Str → Option Value} {base : Heap}
theorem ok__law_operand (T : Txt P K mg) : FnOk P w K mg base CX0 3 T.a__law_operand T.d__law_operand ["tape", "columns", "word"] (spV (Sx T) mOper) := by
  have G__law_draw := draw_v (S := Sx T) (ok__law_draw (P := P) (w := w) (base := base) T)
  have G__law_number := ok__law_number (P := P) (w := w) (base := base) T
  have G__law_text := ok__law_text (P := P) (w := w) (base := base) T
  refine def_v (S := Sx T) (N := N__law_operand) T.F__law_operand sc__law_operand rfl (fun ds c Q h => by obtain ⟨cs, w, rfl, _⟩ := h; first | rfl | assumption) (fun cdv A outer s H E hr => (vss_cons (vs_fz 2 (vs_setLc (i := 3) (own := [("column", 5)]) rfl sc__law_operand.nd rfl rfl (sw_true rfl rfl rfl (by decide +kernel)) (vi_any rfl (ve_name (pv 1))) (blkOk_by (own := [("column", 5)]) (N := N__law_operand) (sc := defScope s__law_operand) (by decide +kernel)) (fun _ _ _ _ _ => (vg_name (i := 5) [5] (by decide) sc__law_operand.nd rfl (.inl rfl))) (fun _ _ _ _ _ => (vts_one (vb_cmp (o_eq rfl hr.units) (ve_of (fe_ix (i_ix rfl (hu_of hr)) (ve_of (fe_ixN (i_ix rfl (hu_of hr)) (pv 5) (be_of ve_int) (fun _ _ => rfl))) (be_of ve_int) (fun _ _ => rfl))) (be_name (pv 2)) (nomark _)))) (fun _ _ _ _ _ => (ve_of (fe_ixN (i_ix rfl (hu_of hr)) (pv 5) (be_of ve_int) (fun _ _ => rfl))))))
      (vss_cons (vs_set (i := 4) sc__law_operand.nd rfl (.inl rfl) (fe_of (ve_call G__law_draw (hr.mono (by omega)) (by rfl) T.g__law_draw T.F__law_draw.kp T.b__law_draw (va_cons (ve_name (pv 0)) (va_cons ve_int va_nil)))))
      (vss_cons (vs_if (vb_w (vw_and (vb_tru rfl (be_name (pv 3))) (vw_and1 (vb_cmp o_gt (ve_of (fe_op o_mod (ve_of (pe_CB1 c_int (fun hc ha => pe_callTy hc (by rfl) T.z_int boot_int ha) (be_name (pv 4)))) (be_of ve_int))) (be_of ve_int) (nomark _))))) (vss_one (vs_ret (ve_tup (va_cons ve_str (va_cons (ve_of (fe_ixN (i_ix rfl (hu_of hr)) (pv 3) (be_of (ve_of (fe_op o_mod (ve_of (pe_CB1 c_int (fun hc ha => pe_callTy hc (by rfl) T.z_int boot_int ha) (be_of (ve_of (fe_op o_fdiv (ve_name (pv 4)) (be_of ve_int)))))) (be_of (ve_of (pe_CB1 (c_len rfl) (fun hc ha => pe_callB hc (by rfl) T.z_len boot_len ha) (be_name (pv 3)))))))) (fun _ _ => rfl))) va_nil))))) vss_nil)
      (vss_cons (vs_if (vb_cmp (o_eq rfl hr.units) (ve_name (pv 2)) (be_of ve_str) (nomark _)) (vss_one (vs_ret (ve_tup (va_cons ve_str (va_cons (ve_call G__law_text hr (by rfl) T.g__law_text T.F__law_text.kp T.b__law_text (va_cons (ve_name (pv 0)) va_nil)) va_nil))))) vss_nil)
      (vss_one (vs_ret (ve_tup (va_cons ve_str (va_cons (ve_call G__law_number hr (by rfl) T.g__law_number T.F__law_number.kp T.b__law_number (va_cons (ve_name (pv 0)) va_nil)) va_nil)))))))))) ?_
  rintro ds c Q ⟨cs, w, rfl, hw, hl, ct, q⟩
  refine ⟨by rw [List.length_map]; omega, fun i acc k => Iv (∃ fs : List Tx, acc = fs.map D.str ∧ (∀ x ∈ fs, ∃ k : Cd, (x, k) ∈ cs ∧ k.w = w) ∧ fs.length ≤ i ∧ k = c), .a ⟨[], rfl, fun x hx => (nomatch hx), Nat.le_refl _, rfl⟩, ?_, ?_⟩
  · intro i d acc k ed iv la
    obtain ⟨fs, rfl, h1, h2, rfl⟩ := iv.out
    obtain ⟨⟨nm, kd⟩, ep, rfl⟩ := map_get ed
    have mp := List.mem_of_getElem? ep
    have go : ∀ (A B : Prop), ((kd.w = w → A) → (¬ kd.w = w → B) → (decide (kd.w = w) = true → A) ∧ (decide (kd.w = w) = false → B)) := fun A B h1 h2 => bothD h1 h2
    have yes : kd.w = w → ∃ fs2 : List Tx, fs.map D.str ++ [.str nm] = fs2.map D.str ∧ (∀ x ∈ fs2, ∃ k : Cd, (x, k) ∈ cs ∧ k.w = w) ∧ fs2.length ≤ i + 1 ∧ k = k := fun e => by
      refine ⟨fs ++ [nm], by rw [List.map_append]; rfl, fun x hx => ?_, by rw [List.length_append]; simp; omega, rfl⟩
      rcases List.mem_append.mp hx with h | h
      · exact h1 x h
      · cases List.mem_singleton.mp h; exact ⟨kd, mp, e⟩
    cases kd with
    | s =>
      walk_at "wh"
      exact bothD (fun e => .a (yes e)) (fun e => .a ⟨fs, rfl, h1, by omega, rfl⟩)
    | n b =>
      walk_at "wh"
      exact bothD (fun e => .a (yes e)) (fun e => .a ⟨fs, rfl, h1, by omega, rfl⟩)
  · intro acc k iv la
    obtain ⟨fs, rfl, h1, h2, rfl⟩ := iv.out
    have hlm : (fs.map D.str).length = fs.length := List.length_map ..
    refine ⟨360, rfl, Nat.zero_le _, dm (by decide), fun r hr => ?_⟩
    have hr : r < 360 := by omega
    walk_at "wh"
    refine both (fun e => ?_) (fun e => ?_)
    · have nz : 0 < fs.length := by
        cases fs with
        | nil => cases e
        | cons a b => simp
      walk_at "vv"
      walk_at "wh"
      refine bothD (fun e2 => ?_) (fun e2 => ?_)
      · obtain ⟨x, ex, mx⟩ := pickI (l := fs.map D.str) (i := (r : Int) / 3 % (((fs.map D.str).length : Nat) : Int)) (Int.emod_nonneg _ (by omega)) (Int.emod_lt_of_pos _ (by omega))
        obtain ⟨y, my, rfl⟩ := List.mem_map.mp mx
        obtain ⟨kd, m1, m2⟩ := h1 y my
        walk_at "vv"
        refine withD_of ex ?_
        refine ⟨by show 2 ≤ 1000; decide, ?_⟩
        exact q (.col y) ⟨kd, m1, m2⟩ (ct _ m1) trivial
      · walk_at "wh"
        refine bothD (fun e3 => ?_) (fun e3 => ?_)
        · refine ⟨rfl, fun x hx ht => ?_⟩
          refine ⟨by show 2 ≤ 1000; decide, ?_⟩
          exact q (.txt x) e3 ht trivial
        · refine ⟨rfl, fun x hx1 hx2 => ?_⟩
          refine ⟨by show 2 ≤ 1000; decide, ?_⟩
          exact q (.num x) (hw.resolve_left e3) trivial ⟨hx1, hx2⟩
    · walk_at "wh"
      refine wayF ?_
      walk_at "wh"
      refine bothD (fun e3 => ?_) (fun e3 => ?_)
      · refine ⟨rfl, fun x hx ht => ?_⟩
        refine ⟨by show 2 ≤ 1000; decide, ?_⟩
        exact q (.txt x) e3 ht trivial
      · refine ⟨rfl, fun x hx1 hx2 => ?_⟩
        refine ⟨by show 2 ≤ 1000; decide, ?_⟩
        exact q (.num x) (hw.resolve_left e3) trivial ⟨hx1, hx2⟩
end
end Va

set_option Elab.async false
set_option linter.all false
set_option maxRecDepth 100000
set_option maxHeartbeats 4000000
namespace Va
open PySem PySem.Spec PyProof.Rows L2 Ind
local macro_rules | `(tactic| walk_at "cn") => `(tactic| first
  | assumption
  | omega
  | exact dm (by omega)
  | exact line (by simp)
  | exact line (by omega)
  | exact line (by simp only [len_app, len_one]; omega)
  | exact small_div (by omega) (by omega)
  | solve_by_elim
  | exact Or.inr ⟨by omega, by omega⟩
  | exact Or.inl ⟨by omega, by omega⟩
  | exact ⟨by omega, by omega⟩
  | decide)
local macro_rules | `(tactic| walk_at "st") => `(tactic| repeat (first
  | refine ⟨_, rfl, ?_⟩
  | refine ⟨_, _, rfl, rfl, ?_⟩
  | refine ⟨_, _, rfl, ?_⟩
  | refine .inl ⟨_, rfl, ?_⟩
  | refine And.intro rfl ?_
  | refine And.intro (by walk_at "cn") ?_))
local macro_rules | `(tactic| walk_at "fz") => `(tactic| repeat (first | exact Fz.refl | apply Fz.upd))
local macro_rules | `(tactic| walk_at "hl") => `(tactic| ((repeat rw [upd_ne (by assumption)]); assumption))
local macro_rules | `(tactic| walk_at "fy") => `(tactic| (intro b o n1 h; (repeat rw [upd_ne n1]); exact h))
local macro_rules | `(tactic| walk_at "wh") => `(tactic| (conv => whnf))
local macro_rules | `(tactic| walk_at "cv") => `(tactic| first
  | rfl
  | assumption
  | omega
  | exact dm (by omega)
  | exact small_div (by omega) (by omega)
  | (simp only [len_app, one_len, len_one, List.length_append, List.length_map, List.length_cons, List.length_nil]; omega)
  | exact Or.inr ⟨by omega, by omega⟩
  | exact Or.inl ⟨by omega, by omega⟩
  | exact ⟨by omega, by omega⟩
  | decide)
local macro_rules | `(tactic| walk_at "vv") => `(tactic| repeat (refine And.intro (by walk_at "cv") ?_))
local macro_rules | `(tactic| walk_at "sk") => `(tactic| repeat (first
  | refine wayT ?_
  | refine wayF ?_
  | refine skipT (by omega) ?_
  | refine skipF (by omega) ?_
  | refine skipT (by decide) ?_
  | refine skipF (by decide) ?_
  | refine ⟨_, (show tyNames _ = some _ from rfl), ?_⟩
  | refine And.intro (by walk_at "cv") ?_))
local macro_rules | `(tactic| walk_at "s0") => `(tactic| first
  | refine wayT ?_
  | refine wayF ?_
  | refine skipT (by omega) ?_
  | refine skipF (by omega) ?_
  | refine skipT (by decide) ?_
  | refine skipF (by decide) ?_
  | refine ⟨_, (show tyNames _ = some _ from rfl), ?_⟩
  | refine And.intro (by walk_at "cv") ?_)
local macro_rules | `(tactic| walk_at "s1") => `(tactic| try (walk_at "s0"; walk_at "wh"))
local macro_rules | `(tactic| walk_at "go") => `(tactic| (walk_at "wh"; walk_at "s1"; walk_at "s1"; walk_at "s1"; walk_at "s1"; walk_at "s1"; walk_at "s1"; walk_at "s1"; walk_at "s1"; walk_at "s1"; walk_at "s1"; walk_at "s1"; walk_at "s1"; walk_at "s1"; walk_at "s1"; walk_at "s1"; walk_at "s1"; walk_at "s1"; walk_at "s1"; walk_at "s1"; walk_at "s1"; walk_at "s1"; walk_at "s1"; walk_at "s1"; walk_at "s1"))

def Op.sm : Op → Prop
  | .col n => n.length ≤ 25
  | .num i => -1000000 ≤ i ∧ i ≤ 1000000
  | _ => True
theorem tOk_cutS {z : Tx} {lo hi : Option Int} (h : tOk z) : tOk (cutS z lo hi) := by
  intro c hc
  unfold cutS at hc
  have hc := List.mem_of_mem_take hc
  exact h c (List.mem_of_mem_drop hc)
def mStr : VM := fun ds c Q => ∃ ns : List Tx, ds = [.tape, .lst (ns.map .str)] ∧ ns ≠ [] ∧ ns.length ≤ 9 ∧ (∀ n ∈ ns, tOk n) ∧ (∀ n ∈ ns, n.length ≤ 20) ∧ ∀ x : Tx, x.length ≤ 25 → tOk x → Q (.str x) c
def mLop : VM := fun ds c Q => ∃ (cs : List Col) (w : Tx), ds = [.tape, colsP cs, .str w] ∧ (w = "string" ∨ w = "integer") ∧ cs ≠ [] ∧ cs.length ≤ 9 ∧ (∀ p ∈ cs, tOk p.1) ∧ (∀ p ∈ cs, p.1.length ≤ 20) ∧ ∀ o : Op, o.sm → o.tok → Q o.d c
def mLex : VM := fun ds c Q => ∃ (cs : List Col) (w : Tx), ds = [.tape, colsP cs, .str w] ∧ (w = "string" ∨ w = "integer") ∧ cs ≠ [] ∧ cs.length ≤ 9 ∧ (∀ p ∈ cs, tOk p.1) ∧ (∀ p ∈ cs, p.1.length ≤ 20) ∧ ∀ e : Ex, e ≠ [] → e.length ≤ 5 → (∀ t ∈ e, t.2.sm ∧ t.2.tok) → Q (exD e) c
section
variable {P : Program} {w : World} {K : PySem.W.Frag} {mg : PySem.Str → Option Value} {base : Heap}
theorem ok__law_stranger (T : Txt P K mg) : FnOk P w K mg base CX0 2 T.a__law_stranger T.d__law_stranger ["tape", "names"] (spV (Sx T) mStr) := by
  have G__law_draw := draw_v (S := Sx T) (ok__law_draw (P := P) (w := w) (base := base) T)
  refine def_v (S := Sx T) (N := N__law_stranger) T.F__law_stranger sc__law_stranger rfl (fun ds c Q h => by obtain ⟨ns, rfl, _⟩ := h; first | rfl | assumption) (fun cdv A outer s H E hr => (vss_cons (vs_set (i := 2) sc__law_stranger.nd rfl (.inl rfl) (fe_slice rfl (ve_of (fe_ixN (i_ix rfl (hu_of hr)) (pv 1) (be_of (ve_call G__law_draw hr (by rfl) T.g__law_draw T.F__law_draw.kp T.b__law_draw (va_cons (ve_name (pv 0)) (va_cons (ve_of (pe_CB1 (c_len rfl) (fun hc ha => pe_callB hc (by rfl) T.z_len boot_len ha) (be_name (pv 1)))) va_nil)))) (fun _ _ => rfl))) vo_none (vo_some ve_int)))
      (vss_cons (vs_set (i := 3) sc__law_stranger.nd rfl (.inl rfl) (fe_of (ve_call G__law_draw hr (by rfl) T.g__law_draw T.F__law_draw.kp T.b__law_draw (va_cons (ve_name (pv 0)) (va_cons ve_int va_nil)))))
      (vss_cons (vs_for PassesOwn.never rfl (vi_range1 (by rfl) T.z_range (va_cons ve_int va_nil)) (vg_name (i := 4) [4] (by decide) sc__law_stranger.nd rfl (.inl rfl))
      (vss_cons (vs_set (i := 5) sc__law_stranger.nd rfl (.inl rfl) (fe_op (o_add rfl) (ve_name (pv 2)) (be_of (ve_of (fe_ix (i_ix rfl (hu_of hr)) ve_str (be_of (ve_of (fe_op o_mod (ve_of (pe_CB1 c_int (fun hc ha => pe_callTy hc (by rfl) T.z_int boot_int ha) (be_of (ve_of (fe_op (o_add rfl) (ve_name (pv 3)) (be_name (pv 4))))))) (be_of ve_int)))) (fun _ _ => rfl))))))
      (vss_one (vs_if (vb_cmp (o_nin rfl (hu65 hr)) (ve_name (pv 5)) (be_name (pv 1)) (by rfl)) (vss_one (vs_ret (ve_name (pv 5)))) vss_nil))))
      (vss_one (vs_ret (ve_name (pv 2)))))))) ?_
  rintro ds c Q ⟨ns, rfl, hne, hl, ht, hn, q⟩
  have hlen : 0 < ns.length := List.length_pos_iff.mpr hne
  walk_at "wh"
  refine ⟨(ns.map D.str).length, rfl, Nat.zero_le _, dm (by rw [List.length_map]; omega), fun r hr => ?_⟩
  rw [List.length_map] at hr
  obtain ⟨z, ez, mz⟩ := pickD (l := ns.map D.str) (i := r) (by rw [List.length_map]; omega)
  obtain ⟨b, mb, rfl⟩ := List.mem_map.mp mz
  have hb := hn b mb
  have tb := ht b mb
  walk_at "wh"
  refine withD_of ez ?_
  walk_at "wh"
  refine ⟨by omega, ?_⟩
  have lc := cutS_le b none (some 15)
  have tc := tOk_cutS (lo := none) (hi := some 15) tb
  generalize cutS b none (some 15) = bs at lc tc ⊢
  walk_at "wh"
  refine ⟨11, rfl, Nat.zero_le _, dm (by decide), fun r2 hr2 => ?_⟩
  have hr2 : r2 < 11 := by omega
  have so : tOk "0123456789_" := tOk_of (by decide)
  have sl : ("0123456789_" : Tx).length = 11 := by decide
  walk_at "vv"
  walk_at "wh"
  refine ⟨fun i E => Iv (∃ y4 y5, E = ⟨[.v .tape, .v (.lst (ns.map .str)), .v (.str bs), .v (.int r2), y4, y5], c⟩), .a ⟨_, _, rfl⟩, ?_, ?_⟩
  · intro i d E ed iv
    obtain ⟨y4, y5, rfl⟩ := iv.out
    obtain ⟨rfl, hi⟩ := rng_at ed
    have hi : i < 11 := hi
    obtain ⟨k1, hk1⟩ := sign_at (x := "0123456789_") (i := ((r2 : Int) + (0 + (i : Int))) % 11) (by omega) (by rw [sl]; omega)
    walk_at "vv"
    walk_at "wh"
    refine ⟨k1, hk1, ?_⟩
    have l1 : (⟨#[k1]⟩ : Tx).length = 1 := rfl
    have ty : tOk (bs ++ ⟨#[k1]⟩) := tOk_app tc (tOk_one so hk1)
    have ly : (bs ++ ⟨#[k1]⟩ : Tx).length ≤ 25 := by rw [len_app]; omega
    walk_at "wh"
    refine ⟨by rw [l1]; omega, ?_⟩
    walk_at "wh"
    refine ⟨rfl, flat_strsD _, ?_⟩
    rw [in_strsD]
    refine bothN (fun _ => ?_) (fun _ => ?_)
    · exact q _ ly ty
    · exact .a ⟨_, _, rfl⟩
  · intro E iv
    obtain ⟨y4, y5, rfl⟩ := iv.out
    exact q bs (by omega) tc
theorem ok__law_loose_operand (T : Txt P K mg) : FnOk P w K mg base CX0 4 T.a__law_loose_operand T.d__law_loose_operand ["tape", "columns", "word"] (spV (Sx T) mLop) := by
  have G__law_draw := draw_v (S := Sx T) (ok__law_draw (P := P) (w := w) (base := base) T)
  have G__law_operand := ok__law_operand (P := P) (w := w) (base := base) T
  have G__law_stranger := ok__law_stranger (P := P) (w := w) (base := base) T
  refine def_v (S := Sx T) (N := N__law_loose_operand) T.F__law_loose_operand sc__law_loose_operand rfl (fun ds c Q h => by obtain ⟨cs, w, rfl, _⟩ := h; first | rfl | assumption) (fun cdv A outer s H E hr => (vss_cons (vs_set (i := 3) sc__law_loose_operand.nd rfl (.inl rfl) (fe_of (ve_call G__law_draw (hr.mono (by omega)) (by rfl) T.g__law_draw T.F__law_draw.kp T.b__law_draw (va_cons (ve_name (pv 0)) (va_cons ve_int va_nil)))))
      (vss_cons (vs_if (vb_cmp (o_eq rfl hr.units) (ve_name (pv 3)) (be_of ve_int) (nomark _)) (vss_one (vs_ret (ve_tup (va_cons ve_str (va_cons (ve_call G__law_stranger (hr.mono (by omega)) (by rfl) T.g__law_stranger T.F__law_stranger.kp T.b__law_stranger (va_cons (ve_name (pv 0)) (va_cons (ve_of (fe_lc (own := [("column", 4)]) rfl sc__law_loose_operand.nd (vi_any rfl (ve_name (pv 1))) (blkOk_by (own := [("column", 4)]) (N := N__law_loose_operand) (sc := defScope s__law_loose_operand) (by decide +kernel)) (fun _ _ _ _ _ => (vg_name (i := 4) [4] (by decide) sc__law_loose_operand.nd rfl (.inl rfl))) (fun _ _ _ _ _ => vts_nil) (fun _ _ _ _ _ => (ve_of (fe_ixN (i_ix rfl (hu_of hr)) (pv 4) (be_of ve_int) (fun _ _ => rfl)))))) va_nil))) va_nil))))) vss_nil)
      (vss_cons (vs_if (vb_cmp (o_eq rfl hr.units) (ve_name (pv 3)) (be_of ve_int) (nomark _)) (vss_one (vs_ret (ve_call G__law_operand hr (by rfl) T.g__law_operand T.F__law_operand.kp T.b__law_operand (va_cons (ve_name (pv 0)) (va_cons (ve_name (pv 1)) (va_cons (ve_of (fe_ix (i_ix rfl (hu_of hr)) (ve_of (fe_lst (va_cons ve_str (va_cons ve_str va_nil)))) (be_of (ve_of (pe_CB1 c_int (fun hc ha => pe_callTy hc (by rfl) T.z_int boot_int ha) (be_of (ve_of (fe_cmp (o_eq rfl hr.units) (ve_name (pv 2)) (be_of ve_str) (nomark _))))))) (fun _ _ => rfl))) va_nil)))))) vss_nil)
      (vss_one (vs_ret (ve_call G__law_operand hr (by rfl) T.g__law_operand T.F__law_operand.kp T.b__law_operand (va_cons (ve_name (pv 0)) (va_cons (ve_name (pv 1)) (va_cons (ve_name (pv 2)) va_nil)))))))))) ?_
  rintro ds c Q ⟨cs, w, rfl, hw, hne, hl, ct, cl, q⟩
  refine ⟨24, rfl, Nat.zero_le _, dm (by decide), fun r hr => ?_⟩
  have sub : ∀ w2 : Tx, ∀ o : Op, fits cs w2 o → o.lo → o.sm := fun w2 o fo lo => by
    cases o with
    | col n =>
      obtain ⟨k, hk, _⟩ := fo
      have : n.length ≤ 20 := cl _ hk
      show n.length ≤ 25
      omega
    | num _ => exact lo
    | txt _ => exact trivial
  walk_at "wh"
  refine bothD (fun e => ?_) (fun e => ?_)
  · walk_at "wh"
    refine ⟨by rw [List.length_map]; omega, fun i acc k => Iv (acc = ((cs.take i).map (·.1)).map D.str ∧ k = c), .a ⟨rfl, rfl⟩, ?_, ?_⟩
    · intro i d acc k ed iv la
      obtain ⟨rfl, ek⟩ := iv.out
      subst k
      obtain ⟨p, ep, rfl⟩ := map_get ed
      refine wayT ?_
      refine .a ⟨?_, rfl⟩
      rw [take_more ep, List.map_append, List.map_append]
      rfl
    intro acc k iv la
    obtain ⟨rfl, ek⟩ := iv.out
    subst k
    rw [List.length_map, List.take_length]
    walk_at "wh"
    refine ⟨cs.map (·.1), rfl, fun z => hne (List.map_eq_nil_iff.mp z), by rw [List.length_map]; omega, fun n h => ?_, fun n h => ?_, fun x hx tx => ⟨by show 2 ≤ 1000; decide, q (.col x) hx tx⟩⟩
    · obtain ⟨p, hp, rfl⟩ := List.mem_map.mp h
      exact ct p hp
    · obtain ⟨p, hp, rfl⟩ := List.mem_map.mp h
      exact cl p hp
  · walk_at "wh"
    refine bothD (fun e2 => ?_) (fun e2 => ?_)
    · rcases hw with rfl | rfl
      · walk_at "wh"
        refine ⟨by show 2 ≤ 1000; decide, ?_⟩
        walk_at "wh"
        exact ⟨cs, "integer", rfl, .inr rfl, hl, ct, fun o fo to lo => q o (sub _ o fo lo) to⟩
      · walk_at "wh"
        refine ⟨by show 2 ≤ 1000; decide, ?_⟩
        walk_at "wh"
        exact ⟨cs, "string", rfl, .inl rfl, hl, ct, fun o fo to lo => q o (sub _ o fo lo) to⟩
    · walk_at "wh"
      exact ⟨cs, w, rfl, hw, hl, ct, fun o fo to lo => q o (sub w o fo lo) to⟩
theorem ok__law_loose_expression (T : Txt P K mg) : FnOk P w K mg base CX0 5 T.a__law_loose_expression T.d__law_loose_expression ["tape", "columns", "word"] (spV (Sx T) mLex) := by
  have G__law_draw := draw_v (S := Sx T) (ok__law_draw (P := P) (w := w) (base := base) T)
  have G__law_loose_operand := ok__law_loose_operand (P := P) (w := w) (base := base) T
  refine def_v (S := Sx T) (N := N__law_loose_expression) T.F__law_loose_expression sc__law_loose_expression rfl (fun ds c Q h => by obtain ⟨cs, w, rfl, _⟩ := h; first | rfl | assumption) (fun cdv A outer s H E hr => (vss_cons (vs_set (i := 3) sc__law_loose_expression.nd rfl (.inl rfl) (fe_ix (i_ix rfl (hu_of hr)) (ve_of (fe_lst (va_cons ve_int (va_cons ve_int (va_cons ve_int (va_cons ve_int (va_cons ve_int (va_cons ve_int va_nil)))))))) (be_of (ve_call G__law_draw (hr.mono (by omega)) (by rfl) T.g__law_draw T.F__law_draw.kp T.b__law_draw (va_cons (ve_name (pv 0)) (va_cons ve_int va_nil)))) (fun _ _ => rfl)))
      (vss_cons (vs_if (vb_cmp (o_eq rfl hr.units) (ve_name (pv 2)) (be_of ve_str) (nomark _)) (vss_one (vs_set (i := 3) sc__law_loose_expression.nd rfl (.inl rfl) (fe_ix (i_ix rfl (hu_of hr)) (ve_of (fe_lst (va_cons ve_int (va_cons ve_int (va_cons ve_int (va_cons ve_int (va_cons ve_int (va_cons ve_int va_nil)))))))) (be_of (ve_call G__law_draw (hr.mono (by omega)) (by rfl) T.g__law_draw T.F__law_draw.kp T.b__law_draw (va_cons (ve_name (pv 0)) (va_cons ve_int va_nil)))) (fun _ _ => rfl)))) vss_nil)
      (vss_cons (vs_set (i := 4) sc__law_loose_expression.nd rfl (.inl rfl) (fe_lst (va_cons (ve_tup (va_cons ve_str (va_cons (ve_call G__law_loose_operand hr (by rfl) T.g__law_loose_operand T.F__law_loose_operand.kp T.b__law_loose_operand (va_cons (ve_name (pv 0)) (va_cons (ve_name (pv 1)) (va_cons (ve_name (pv 2)) va_nil)))) va_nil))) va_nil)))
      (vss_cons (vs_for PassesOwn.never rfl (vi_range1 (by rfl) T.z_range (va_cons (ve_of (fe_op o_sub (ve_name (pv 3)) (be_of ve_int))) va_nil)) (vg_name (i := 5) [5] (by decide) sc__law_loose_expression.nd rfl (.inl rfl))
      (vss_one (vs_append rfl (pv 4) (ve_tup (va_cons (ve_of (fe_ix (i_ix rfl (hu_of hr)) (ve_of (fe_lst (va_cons ve_str (va_cons ve_str va_nil)))) (be_of (ve_call G__law_draw (hr.mono (by omega)) (by rfl) T.g__law_draw T.F__law_draw.kp T.b__law_draw (va_cons (ve_name (pv 0)) (va_cons ve_int va_nil)))) (fun _ _ => rfl))) (va_cons (ve_call G__law_loose_operand hr (by rfl) T.g__law_loose_operand T.F__law_loose_operand.kp T.b__law_loose_operand (va_cons (ve_name (pv 0)) (va_cons (ve_name (pv 1)) (va_cons (ve_name (pv 2)) va_nil)))) va_nil))))))
      (vss_one (vs_ret (ve_of (pe_CB1 (c_tupleD rfl rfl) (fun hc ha => pe_callTy hc (by rfl) T.z_tuple boot_tuple ha) (be_name (pv 4))))))))))) ?_
  rintro ds c Q ⟨cs, w, rfl, hw, hne, hl, ct, cl, q⟩
  walk_at "wh"
  refine ⟨by show 6 ≤ 1000; decide, ?_⟩
  refine ⟨6, rfl, Nat.zero_le _, dm (by decide), fun r hr => ?_⟩
  obtain ⟨z, ez, mz⟩ := pickD (l := [D.int 1, .int 1, .int 1, .int 2, .int 3, .int 5]) (i := r) (by simp; omega)
  obtain ⟨m, rfl, hm⟩ := int_mem (P := fun i => 1 ≤ i ∧ i ≤ 5) mz (by simp)
  walk_at "wh"
  refine withD_of ez ?_
  rcases hw with rfl | rfl
  · have hw : ("string" : Tx) = "string" ∨ ("string" : Tx) = "integer" := .inl rfl
    walk_at "wh"
    refine wayT ?_
    walk_at "wh"
    refine ⟨by show 6 ≤ 1000; decide, ?_⟩
    refine ⟨6, rfl, Nat.zero_le _, dm (by decide), fun r3 hr3 => ?_⟩
    obtain ⟨z3, ez3, mz3⟩ := pickD (l := [D.int 1, .int 1, .int 1, .int 1, .int 1, .int 2]) (i := r3) (by simp; omega)
    obtain ⟨m3, rfl, hm3⟩ := int_mem (P := fun i => 1 ≤ i ∧ i ≤ 5) mz3 (by simp)
    walk_at "wh"
    refine withD_of ez3 ?_
    walk_at "wh"
    refine ⟨cs, _, rfl, hw, hne, hl, ct, cl, fun o so to => ?_⟩
    refine ⟨by show 2 ≤ 1000; decide, by show 1 ≤ 1000; decide, ?_⟩
    walk_at "wh"
    refine ⟨⟨by omega, by omega⟩, fun i E => Iv (∃ (e : Ex) (y5 : SV), E = ⟨[.v .tape, .v (colsP cs), .v (.str "string"), .v (.int m3), .ol (e.map termD), y5], c⟩ ∧ e.length = i + 1 ∧ ∀ t ∈ e, t.2.sm ∧ t.2.tok), .a ⟨[(true, o)], .no, rfl, rfl, fun t ht => by cases List.mem_singleton.mp ht; exact ⟨so, to⟩⟩, ?_, ?_⟩
    · intro i d E ed iv
      obtain ⟨e, y5, rfl, e1, e2⟩ := iv.out
      obtain ⟨rfl, hi⟩ := rng_at ed
      walk_at "wh"
      refine ⟨by show 2 ≤ 1000; decide, ?_⟩
      refine ⟨2, rfl, Nat.zero_le _, dm (by decide), fun r2 hr2 => ?_⟩
      obtain ⟨x, ex, mx⟩ := pickD (l := [D.str "+", .str "-"]) (i := r2) (by simp; omega)
      obtain ⟨sg, esg⟩ : ∃ sg : Bool, x = .str (sgnD sg) := by
        simp only [List.mem_cons, List.not_mem_nil, or_false] at mx
        rcases mx with rfl | rfl
        · exact ⟨true, rfl⟩
        · exact ⟨false, rfl⟩
      subst esg
      walk_at "wh"
      refine withD_of ex ?_
      refine ⟨cs, _, rfl, hw, hne, hl, ct, cl, fun o2 so2 to2 => ?_⟩
      refine ⟨by show 2 ≤ 1000; decide, ?_⟩
      refine ⟨by rw [List.length_map]; omega, ?_⟩
      refine .a ⟨e ++ [(sg, o2)], _, by rw [List.map_append]; rfl, by rw [List.length_append, e1]; rfl, fun t ht => ?_⟩
      rcases List.mem_append.mp ht with h | h
      · exact e2 t h
      · cases List.mem_singleton.mp h; exact ⟨so2, to2⟩
    · intro E iv
      obtain ⟨e, y5, rfl, e1, e2⟩ := iv.out
      have hi : (rng 0 (((m3 : Int) - 1)).toNat).length = (m3 - 1).toNat := by simp only [rng, List.length_map, List.length_range]
      rw [hi] at e1
      exact q e (fun z => by rw [z] at e1; cases e1) (by omega) e2
  · have hw : ("integer" : Tx) = "string" ∨ ("integer" : Tx) = "integer" := .inr rfl
    walk_at "wh"
    refine wayF ?_
    walk_at "wh"
    refine ⟨cs, _, rfl, hw, hne, hl, ct, cl, fun o so to => ?_⟩
    refine ⟨by show 2 ≤ 1000; decide, by show 1 ≤ 1000; decide, ?_⟩
    walk_at "wh"
    refine ⟨⟨by omega, by omega⟩, fun i E => Iv (∃ (e : Ex) (y5 : SV), E = ⟨[.v .tape, .v (colsP cs), .v (.str "integer"), .v (.int m), .ol (e.map termD), y5], c⟩ ∧ e.length = i + 1 ∧ ∀ t ∈ e, t.2.sm ∧ t.2.tok), .a ⟨[(true, o)], .no, rfl, rfl, fun t ht => by cases List.mem_singleton.mp ht; exact ⟨so, to⟩⟩, ?_, ?_⟩
    · intro i d E ed iv
      obtain ⟨e, y5, rfl, e1, e2⟩ := iv.out
      obtain ⟨rfl, hi⟩ := rng_at ed
      walk_at "wh"
      refine ⟨by show 2 ≤ 1000; decide, ?_⟩
      refine ⟨2, rfl, Nat.zero_le _, dm (by decide), fun r2 hr2 => ?_⟩
      obtain ⟨x, ex, mx⟩ := pickD (l := [D.str "+", .str "-"]) (i := r2) (by simp; omega)
      obtain ⟨sg, esg⟩ : ∃ sg : Bool, x = .str (sgnD sg) := by
        simp only [List.mem_cons, List.not_mem_nil, or_false] at mx
        rcases mx with rfl | rfl
        · exact ⟨true, rfl⟩
        · exact ⟨false, rfl⟩
      subst esg
      walk_at "wh"
      refine withD_of ex ?_
      refine ⟨cs, _, rfl, hw, hne, hl, ct, cl, fun o2 so2 to2 => ?_⟩
      refine ⟨by show 2 ≤ 1000; decide, ?_⟩
      refine ⟨by rw [List.length_map]; omega, ?_⟩
      refine .a ⟨e ++ [(sg, o2)], _, by rw [List.map_append]; rfl, by rw [List.length_append, e1]; rfl, fun t ht => ?_⟩
      rcases List.mem_append.mp ht with h | h
      · exact e2 t h
      · cases List.mem_singleton.mp h; exact ⟨so2, to2⟩
    · intro E iv
      obtain ⟨e, y5, rfl, e1, e2⟩ := iv.out
      have hi : (rng 0 (((m : Int) - 1)).toNat).length = (m - 1).toNat := by simp only [rng, List.length_map, List.length_range]
      rw [hi] at e1
      exact q e (fun z => by rw [z] at e1; cases e1) (by omega) e2
end
end Va

set_option Elab.async false
set_option linter.all false
set_option maxRecDepth 100000
set_option maxHeartbeats 4000000
namespace Va
open PySem PySem.Spec PyProof.Rows L2 Ind
local macro_rules | `(tactic| walk_at "cn") => `(tactic| first
  | assumption
  | omega
  | exact dm (by omega)
  | exact line (by simp)
  | exact line (by omega)
  | exact line (by simp only [len_app, len_one]; omega)
  | exact small_div (by omega) (by omega)
  | solve_by_elim
  | exact Or.inr ⟨by omega, by omega⟩
  | exact Or.inl ⟨by omega, by omega⟩
  | exact ⟨by omega, by omega⟩
  | decide)
local macro_rules | `(tactic| walk_at "st") => `(tactic| repeat (first
  | refine ⟨_, rfl, ?_⟩
  | refine ⟨_, _, rfl, rfl, ?_⟩
  | refine ⟨_, _, rfl, ?_⟩
  | refine .inl ⟨_, rfl, ?_⟩
  | refine And.intro rfl ?_
  | refine And.intro (by walk_at "cn") ?_))
local macro_rules | `(tactic| walk_at "fz") => `(tactic| repeat (first | exact Fz.refl | apply Fz.upd))
local macro_rules | `(tactic| walk_at "hl") => `(tactic| ((repeat rw [upd_ne (by assumption)]); assumption))
local macro_rules | `(tactic| walk_at "fy") => `(tactic| (intro b o n1 h; (repeat rw [upd_ne n1]); exact h))
local macro_rules | `(tactic| walk_at "wh") => `(tactic| (conv => whnf))
local macro_rules | `(tactic| walk_at "cv") => `(tactic| first
  | rfl
  | assumption
  | omega
  | exact dm (by omega)
  | exact small_div (by omega) (by omega)
  | (simp only [len_app, one_len, len_one, List.length_append, List.length_map, List.length_cons, List.length_nil]; omega)
  | exact Or.inr ⟨by omega, by omega⟩
  | exact Or.inl ⟨by omega, by omega⟩
  | exact ⟨by omega, by omega⟩
  | decide)
local macro_rules | `(tactic| walk_at "vv") => `(tactic| repeat (refine And.intro (by walk_at "cv") ?_))
local macro_rules | `(tactic| walk_at "sk") => `(tactic| repeat (first
  | refine wayT ?_
  | refine wayF ?_
  | refine skipT (by omega) ?_
  | refine skipF (by omega) ?_
  | refine skipT (by decide) ?_
  | refine skipF (by decide) ?_
  | refine ⟨_, (show tyNames _ = some _ from rfl), ?_⟩
  | refine And.intro (by walk_at "cv") ?_))
local macro_rules | `(tactic| walk_at "s0") => `(tactic| first
  | refine wayT ?_
  | refine wayF ?_
  | refine skipT (by omega) ?_
  | refine skipF (by omega) ?_
  | refine skipT (by decide) ?_
  | refine skipF (by decide) ?_
  | refine ⟨_, (show tyNames _ = some _ from rfl), ?_⟩
  | refine And.intro (by walk_at "cv") ?_)
local macro_rules | `(tactic| walk_at "s1") => `(tactic| try (walk_at "s0"; walk_at "wh"))
local macro_rules | `(tactic| walk_at "go") => `(tactic| (walk_at "wh"; walk_at "s1"; walk_at "s1"; walk_at "s1"; walk_at "s1"; walk_at "s1"; walk_at "s1"; walk_at "s1"; walk_at "s1"; walk_at "s1"; walk_at "s1"; walk_at "s1"; walk_at "s1"; walk_at "s1"; walk_at "s1"; walk_at "s1"; walk_at "s1"; walk_at "s1"; walk_at "s1"; walk_at "s1"; walk_at "s1"; walk_at "s1"; walk_at "s1"; walk_at "s1"; walk_at "s1"))

/-! ### the kind of an expression, or its first error -/
inductive KR where
  | ok (k : Cd)
  | unk (n : Tx)
  | sa
  | vtl
def kvs (cs : List Col) : List (Tx × D) := cs.map fun p => (p.1, p.2.d)
theorem colsP_pr (cs : List Col) : cs.map colD = prD (kvs cs) := by
  unfold prD kvs
  rw [List.map_map]
  rfl
def lk (cs : List Col) (n : Tx) : Option Cd := (cs.find? fun p => decide (p.1 = n)).map (·.2)
theorem look_cs (n : Tx) : ∀ cs : List Col, look (prK (kvs cs)) (.inr n) = (lk cs n).map Cd.d
  | [] => rfl
  | p :: cs => by
    have ih := look_cs n cs
    unfold look lk prK kvs at ih ⊢
    rw [List.map_cons, List.map_cons, List.find?_cons, List.find?_cons]
    by_cases h : p.1 = n
    · rw [decide_eq_true (show (Sum.inr p.1 : Key) = Sum.inr n by rw [h]), decide_eq_true h]
      rfl
    · rw [decide_eq_false (show ¬ (Sum.inr p.1 : Key) = Sum.inr n from fun z => h (Sum.inr.inj z)), decide_eq_false h]
      exact ih
def absI (i : Int) : Int := if i < 0 then -i else i
def opK (cs : List Col) : Op → KR
  | .num i => .ok (.n (absI i))
  | .txt _ => .ok .s
  | .col n => match lk cs n with
    | some k => .ok k
    | none => .unk n
/-- the rest of a sum behind the bound so far -/
def goK (cs : List Col) : List (Bool × Op) → Int → KR
  | [], b => if b > 1000000000000 then .vtl else .ok (.n b)
  | t :: r, b => match opK cs t.2 with
    | .ok (.n i) => goK cs r (b + i)
    | .ok .s => .sa
    | x => x
def kindK (cs : List Col) (e : Ex) : KR := match e with
  | [t] => opK cs t.2
  | _ => goK cs e 0
def KR.run (SA VT UC : Addr) (r : KR) (Q : D → Nat → Prop) (Xq : Er → Nat → Prop) (c : Nat) : Prop := match r with
  | .ok k => Q k.d c
  | .unk n => Xq (.fld UC "name" (.str n)) c
  | .sa => Xq (.own SA) c
  | .vtl => Xq (.own VT) c
def mOpK (SA VT UC : Addr) : VMX := fun ds c Q Xq => ∃ (o : Op) (cs : List Col), ds = [o.d, .dk (prK (kvs cs))] ∧ o.sm ∧ (opK cs o).run SA VT UC Q Xq c
def mKd (SA VT UC : Addr) : VMX := fun ds c Q Xq => ∃ (e : Ex) (cs : List Col), ds = [exD e, colsP cs] ∧ e ≠ [] ∧ e.length ≤ 20 ∧ cs.length ≤ 20 ∧ (cs.map (·.1)).Nodup ∧ (∀ t ∈ e, t.2.sm) ∧ (kindK cs e).run SA VT UC Q Xq c
theorem shS : SeqAt.shaped (D.tup [.str "string"]).pd = true := shaped_names (xs := ["string"]) (by intro x hx; cases List.mem_singleton.mp hx; exact tOk_of (by decide))
theorem shN (j : Int) : SeqAt.shaped (D.tup [.str "integer", .int j]).pd = true := by
  have h : PyData.strOk "integer" = true := (tOk_of (by decide) : tOk "integer").ok
  simp [D.pd, pdL, SeqAt.shaped, PyData.canLay0, PyData.canLayAll0, PyData.depth, PyData.depthAll, h]
theorem eqSS : PyData.eqv (D.tup [.str "string"]).pd (D.tup [.str "string"]).pd = true := by
  simp [D.pd, pdL, PyData.eqv, PyData.eqvAll]
theorem eqNS (j : Int) : PyData.eqv (D.tup [.str "integer", .int j]).pd (D.tup [.str "string"]).pd = false := by
  have h : (("integer" : Tx) == "string") = false := by decide
  simp [D.pd, pdL, PyData.eqv, PyData.eqvAll, h]
section
variable {P : Program} {w : World} {K : PySem.W.Frag} {mg : PySem.Str → Option Value} {base : Heap}
theorem ok__operand_kind (T : Txt P K mg) : FnOk P w K mg base (L2.CX P w) 1 T.a__operand_kind T.d__operand_kind ["operand", "kinds"] (spVX (Sx T) (mOpK T.k_StringArithmetic T.k_ValueTooLarge T.k_UnknownColumn)) := by
  refine def_vx (S := Sx T) (N := N__operand_kind) T.F__operand_kind sc__operand_kind rfl (fun ds c Q Xq h => by obtain ⟨o, cs, rfl, _⟩ := h; first | rfl | assumption) (fun cdv A outer s H E hr => (vxs_cons (vx_nox (vs_asg (ve_name (pv 0)) (vg_tup 2 rfl rfl (vgs_cons (vg_name (i := 2) [2, 3] (by decide) sc__operand_kind.nd rfl (.inl rfl)) (vgs_cons (vg_name (i := 3) [2, 3] (by decide) sc__operand_kind.nd rfl (.inl rfl)) (vgs_nil [2, 3]))) (by rfl) (by rfl))))
      (vxs_cons (vx_nox (vs_if (vb_cmp (o_eq rfl hr.units) (ve_name (pv 2)) (be_of ve_str) (nomark _)) (vss_one (vs_ret (ve_tup (va_cons ve_str (va_cons (ve_of (pe_CB1 c_abs (fun hc ha => pe_callB hc (by rfl) T.z_abs boot_abs ha) (be_name (pv 3)))) va_nil))))) vss_nil))
      (vxs_cons (vx_nox (vs_if (vb_cmp (o_eq rfl hr.units) (ve_name (pv 2)) (be_of ve_str) (nomark _)) (vss_one (vs_ret (ve_ct (pe_glob (v := .ref T.a_STRING) (by rfl) T.c_STRING rfl) rfl T.q_STRING (fun _ _ _ => .cons (.str _) (.nil))))) vss_nil))
      (vxs_cons (vx_if (vb_cmp (o_nin rfl (hu65 hr)) (ve_name (pv 3)) (be_name (pv 1)) (by rfl)) (vxs_one (vx_raiseF rfl (takes_of rfl rfl rfl rfl) T.cl_UnknownColumn T.gk_UnknownColumn T.z_super (fun v v' ok r => by cases v <;> first | exact ok.elim | (obtain ⟨tk, rfl⟩ := r; exact SupE.says_behind (by decide) (by decide) ok)) hr (ve_name (pv 3)) (by rfl))) vxs_nil)
      (vxs_nox (vss_one (vs_ret (ve_of (fe_ixN (i_ix rfl (hu_of hr)) (pv 1) (be_name (pv 3)) (fun _ _ => rfl))))))))))) ?_
  rintro ds c Q Xq ⟨o, cs, rfl, so, q⟩
  cases o with
  | num i =>
    walk_at "wh"
    refine ⟨rfl, ?_⟩
    walk_at "wh"
    refine skipF rfl ?_
    walk_at "wh"
    exact ⟨by show 2 ≤ 1000; decide, q⟩
  | txt x =>
    walk_at "wh"
    refine ⟨rfl, ?_⟩
    walk_at "wh"
    refine skipT (by decide) ?_
    walk_at "wh"
    refine skipF rfl ?_
    exact q
  | col n =>
    walk_at "wh"
    refine ⟨rfl, ?_⟩
    walk_at "wh"
    refine skipT (by decide) ?_
    walk_at "wh"
    refine skipT (by decide) ?_
    walk_at "wh"
    refine ⟨_, rfl, ?_⟩
    rw [look_cs]
    have q : (match lk cs n with | some k => KR.ok k | none => KR.unk n).run T.k_StringArithmetic T.k_ValueTooLarge T.k_UnknownColumn Q Xq c := q
    cases h : lk cs n with
    | none =>
      rw [h] at q
      walk_at "wh"
      refine wayT ?_
      exact ⟨by have : n.length ≤ 25 := so; show n.length ≤ 1000; omega, q⟩
    | some k =>
      rw [h] at q
      walk_at "wh"
      refine wayF ?_
      walk_at "wh"
      refine ⟨_, rfl, ?_⟩
      rw [look_cs, h]
      exact q
theorem ok_kind_of (T : Txt P K mg) : FnOk P w K mg base (L2.CX P w) 2 T.a_kind_of T.d_kind_of ["expression", "columns"] (spVX (Sx T) (mKd T.k_StringArithmetic T.k_ValueTooLarge T.k_UnknownColumn)) := by
  have G__operand_kind := ok__operand_kind (P := P) (w := w) (base := base) T
  refine def_vx (S := Sx T) (N := N_kind_of) T.F_kind_of sc_kind_of rfl (fun ds c Q Xq h => by obtain ⟨e, cs, rfl, _⟩ := h; first | rfl | assumption) (fun cdv A outer s H E hr => (vxs_cons (vx_nox (vs_set (i := 2) sc_kind_of.nd rfl (.inl rfl) (pe_CB1 (c_dictP rfl rfl) (fun hc ha => pe_callTy hc (by rfl) T.z_dict boot_dict ha) (be_name (pv 1)))))
      (vxs_cons (vx_if (vb_cmp (o_eq rfl hr.units) (ve_of (pe_CB1 (c_len rfl) (fun hc ha => pe_callB hc (by rfl) T.z_len boot_len ha) (be_name (pv 0)))) (be_of ve_int) (nomark _)) (vxs_one (vx_ret (vex_call G__operand_kind hr (takes_of rfl rfl rfl rfl) (by rfl) T.g__operand_kind T.F__operand_kind.kp T.b__operand_kind (va_cons (ve_of (fe_ix (i_ix rfl (hu_of hr)) (ve_of (fe_ixN (i_ix rfl (hu_of hr)) (pv 0) (be_of ve_int) (fun _ _ => rfl))) (be_of ve_int) (fun _ _ => rfl))) (va_cons (ve_name (pv 2)) va_nil))))) vxs_nil)
      (vxs_cons (vx_nox (vs_set (i := 3) sc_kind_of.nd rfl (.inl rfl) (fe_of ve_int)))
      (vxs_cons (vx_for (passes_of rfl) rfl (vi_any rfl (ve_name (pv 0))) (vg_tup 2 rfl rfl (vgs_cons (vg_name (i := 4) [4, 5] (by decide) sc_kind_of.nd rfl (.inl rfl)) (vgs_cons (vg_name (i := 5) [4, 5] (by decide) sc_kind_of.nd rfl (.inl rfl)) (vgs_nil [4, 5]))) (by rfl) (by rfl))
      (vxs_cons (vx_set (i := 6) sc_kind_of.nd rfl (.inl rfl) (vex_call G__operand_kind hr (takes_of rfl rfl rfl rfl) (by rfl) T.g__operand_kind T.F__operand_kind.kp T.b__operand_kind (va_cons (ve_name (pv 5)) (va_cons (ve_name (pv 2)) va_nil))))
      (vxs_cons (vx_if (vb_cmp (o_eq rfl hr.units) (ve_name (pv 6)) (be_of (ve_ct (pe_glob (v := .ref T.a_STRING) (by rfl) T.c_STRING rfl) rfl T.q_STRING (fun _ _ _ => .cons (.str _) (.nil)))) (nomark _)) (vxs_one (vx_raise rfl (takes_of rfl rfl rfl rfl) PySem.F.excBase_ValueError T.xk_StringArithmetic T.gk_StringArithmetic T.kk_StringArithmetic (raises_own T.bk_StringArithmetic T.tk_StringArithmetic) (by rfl))) vxs_nil)
      (vxs_nox (vss_one (vs_aug (i := 3) sc_kind_of.nd rfl (.inl rfl) (ve_of (fe_ixN (i_ix rfl (hu_of hr)) (pv 6) (be_of ve_int) (fun _ _ => rfl)))))))))
      (vxs_cons (vx_if (vb_cmp o_gt (ve_name (pv 3)) (be_of (ve_c (pe_glob (v := .int 1000000000000) (by rfl) T.c_LARGEST_BOUND ⟨_, rfl⟩) (fun _ _ => .int _))) (nomark _)) (vxs_one (vx_raise rfl (takes_of rfl rfl rfl rfl) PySem.F.excBase_ValueError T.xk_ValueTooLarge T.gk_ValueTooLarge T.kk_ValueTooLarge (raises_own T.bk_ValueTooLarge T.tk_ValueTooLarge) (by rfl))) vxs_nil)
      (vxs_nox (vss_one (vs_ret (ve_tup (va_cons ve_str (va_cons (ve_name (pv 3)) va_nil)))))))))))) ?_
  rintro ds c Q Xq ⟨e, cs, rfl, hne, hl, hc, nd, sm, q⟩
  walk_at "wh"
  refine ⟨kvs cs, colsP_pr cs, by unfold kvs; rw [List.map_map]; exact nd, ?_⟩
  match e, hne, hl, sm, q with
  | [t], _, _, sm, q =>
    walk_at "wh"
    refine skipF rfl ?_
    walk_at "wh"
    exact ⟨t.2, cs, rfl, (sm t List.mem_cons_self), q⟩
  | t1 :: t2 :: r, _, hl, sm, q =>
    walk_at "wh"
    refine skipT ?_ ?_
    · rw [List.length_map]
      show ¬ ((((t1 :: t2 :: r).length : Nat) : Int) = 1)
      rw [List.length_cons, List.length_cons]
      omega
    have q : (goK cs (t1 :: t2 :: r) 0).run T.k_StringArithmetic T.k_ValueTooLarge T.k_UnknownColumn Q Xq c := q
    generalize t1 :: t2 :: r = es at hl sm q ⊢
    walk_at "wh"
    refine ⟨fun i E => Iv (∃ (b : Int) (y2 y4 y5 y6 : SV), E = ⟨[.v (exD es), .v (colsP cs), y2, .v (.int b), y4, y5, y6], c⟩ ∧ (y2 = .od false (prK (kvs cs)) ∨ y2 = .v (.dk (prK (kvs cs)))) ∧ (goK cs (es.drop i) b).run T.k_StringArithmetic T.k_ValueTooLarge T.k_UnknownColumn Q Xq c), .a ⟨0, _, _, _, _, rfl, .inl rfl, q⟩, ?_, ?_⟩
    · intro i d E ed iv
      obtain ⟨b, y2, y4, y5, y6, rfl, hy, q⟩ := iv.out
      obtain ⟨t, et, rfl⟩ := map_get ed
      have hdr : es.drop i = t :: es.drop (i + 1) := by
        obtain ⟨hi, e⟩ := List.getElem?_eq_some_iff.mp et
        rw [← e]
        exact List.drop_eq_getElem_cons hi
      rw [hdr] at q
      have st := sm t (List.mem_of_getElem? et)
      rcases hy with rfl | rfl
      all_goals
        refine ⟨rfl, ?_⟩
        walk_at "wh"
        refine ⟨t.2, cs, rfl, st, ?_⟩
        unfold goK at q
        cases h : opK cs t.2 with
        | unk n => rw [h] at q; exact q
        | sa => rw [h] at q; exact q
        | vtl => rw [h] at q; exact q
        | ok k =>
          cases k with
          | s =>
            rw [h] at q
            walk_at "wh"
            refine ⟨shS, shS, ?_⟩
            exact both (fun _ => q) (fun z => Bool.noConfusion (eqSS.symm.trans z))
          | n j =>
            rw [h] at q
            walk_at "wh"
            refine ⟨shN j, shS, ?_⟩
            refine both (fun z => Bool.noConfusion ((eqNS j).symm.trans z)) (fun z => ?_)
            · walk_at "wh"
              exact .a ⟨b + j, _, _, _, _, rfl, .inr rfl, q⟩
    · intro E iv
      obtain ⟨b, y2, y4, y5, y6, rfl, hy, q⟩ := iv.out
      rw [List.length_map, List.drop_length] at q
      walk_at "wh"
      refine both (fun e1 => ?_) (fun e1 => ?_)
      · have e1 : b > 1000000000000 := of_decide_eq_true e1
        unfold goK at q
        rw [if_pos e1] at q
        exact q
      · have e1 : ¬ b > 1000000000000 := of_decide_eq_false e1
        unfold goK at q
        rw [if_neg e1] at q
        walk_at "wh"
        exact ⟨by show 2 ≤ 1000; decide, q⟩
end
end Va

set_option Elab.async false
set_option linter.all false
set_option maxRecDepth 100000
set_option maxHeartbeats 4000000
namespace Va
open PySem PySem.Spec PyProof.Rows L2 Ind
local macro_rules | `(tactic| walk_at "cn") => `(tactic| first
  | assumption
  | omega
  | exact dm (by omega)
  | exact line (by simp)
  | exact line (by omega)
  | exact line (by simp only [len_app, len_one]; omega)
  | exact small_div (by omega) (by omega)
  | solve_by_elim
  | exact Or.inr ⟨by omega, by omega⟩
  | exact Or.inl ⟨by omega, by omega⟩
  | exact ⟨by omega, by omega⟩
  | decide)
local macro_rules | `(tactic| walk_at "st") => `(tactic| repeat (first
  | refine ⟨_, rfl, ?_⟩
  | refine ⟨_, _, rfl, rfl, ?_⟩
  | refine ⟨_, _, rfl, ?_⟩
  | refine .inl ⟨_, rfl, ?_⟩
  | refine And.intro rfl ?_
  | refine And.intro (by walk_at "cn") ?_))
local macro_rules | `(tactic| walk_at "fz") => `(tactic| repeat (first | exact Fz.refl | apply Fz.upd))
local macro_rules | `(tactic| walk_at "hl") => `(tactic| ((repeat rw [upd_ne (by assumption)]); assumption))
local macro_rules | `(tactic| walk_at "fy") => `(tactic| (intro b o n1 h; (repeat rw [upd_ne n1]); exact h))
local macro_rules | `(tactic| walk_at "wh") => `(tactic| (conv => whnf))
local macro_rules | `(tactic| walk_at "cv") => `(tactic| first
  | rfl
  | assumption
  | omega
  | exact dm (by omega)
  | exact small_div (by omega) (by omega)
  | (simp only [len_app, one_len, len_one, List.length_append, List.length_map, List.length_cons, List.length_nil]; omega)
  | exact Or.inr ⟨by omega, by omega⟩
  | exact Or.inl ⟨by omega, by omega⟩
  | exact ⟨by omega, by omega⟩
  | decide)
local macro_rules | `(tactic| walk_at "vv") => `(tactic| repeat (refine And.intro (by walk_at "cv") ?_))
local macro_rules | `(tactic| walk_at "sk") => `(tactic| repeat (first
  | refine wayT ?_
  | refine wayF ?_
  | refine skipT (by omega) ?_
  | refine skipF (by omega) ?_
  | refine skipT (by decide) ?_
  | refine skipF (by decide) ?_
  | refine ⟨_, (show tyNames _ = some _ from rfl), ?_⟩
  | refine And.intro (by walk_at "cv") ?_))
local macro_rules | `(tactic| walk_at "s0") => `(tactic| first
  | refine wayT ?_
  | refine wayF ?_
  | refine skipT (by omega) ?_
  | refine skipF (by omega) ?_
  | refine skipT (by decide) ?_
  | refine skipF (by decide) ?_
  | refine ⟨_, (show tyNames _ = some _ from rfl), ?_⟩
  | refine And.intro (by walk_at "cv") ?_)
local macro_rules | `(tactic| walk_at "s1") => `(tactic| try (walk_at "s0"; walk_at "wh"))
local macro_rules | `(tactic| walk_at "go") => `(tactic| (walk_at "wh"; walk_at "s1"; walk_at "s1"; walk_at "s1"; walk_at "s1"; walk_at "s1"; walk_at "s1"; walk_at "s1"; walk_at "s1"; walk_at "s1"; walk_at "s1"; walk_at "s1"; walk_at "s1"; walk_at "s1"; walk_at "s1"; walk_at "s1"; walk_at "s1"; walk_at "s1"; walk_at "s1"; walk_at "s1"; walk_at "s1"; walk_at "s1"; walk_at "s1"; walk_at "s1"; walk_at "s1"))

def resD : KR → D
  | .ok k => .tup [.non, k.d]
  | .unk n => .tup [.tup [.str "UnknownColumn", .str n], .non]
  | .sa => .tup [.tup [.str "StringArithmetic", .non], .non]
  | .vtl => .tup [.tup [.str "ValueTooLarge", .non], .non]
def mRes : VM := fun ds c Q => ∃ (e : Ex) (cs : List Col), ds = [exD e, colsP cs] ∧ e ≠ [] ∧ e.length ≤ 20 ∧ cs.length ≤ 20 ∧ (∀ t ∈ e, t.2.tok) ∧ Q (resD (kindK cs e)) c
theorem fl_T {α : Type} {l : List α} {i : Nat} {x : α} {p : α → Bool} (e : l[i]? = some x) (h : p x = true) : (l.take (i + 1)).filter p = (l.take i).filter p ++ [x] := by
  rw [take_more e, List.filter_append, List.filter_cons_of_pos h, List.filter_nil]
theorem fl_F {α : Type} {l : List α} {i : Nat} {x : α} {p : α → Bool} (e : l[i]? = some x) (h : p x = false) : (l.take (i + 1)).filter p = (l.take i).filter p := by
  rw [take_more e, List.filter_append, List.filter_cons_of_neg (by rw [h]; exact Bool.false_ne_true), List.filter_nil, List.append_nil]
theorem lk_filter (cs : List Col) (n : Tx) : lk cs n = match cs.filter (fun p => decide (p.1 = n)) with | [] => none | p :: _ => some p.2 := by
  unfold lk
  rw [← List.head?_filter]
  cases cs.filter (fun p => decide (p.1 = n)) <;> rfl
section
variable {P : Program} {w : World} {K : PySem.W.Frag} {mg : PySem.Str → Option Value} {base : Heap}
theorem ok__law_kind_of (T : Txt P K mg) : FnOk P w K mg base CX0 1 T.a__law_kind_of T.d__law_kind_of ["expression", "columns"] (spV (Sx T) mRes) := by
  refine def_v (S := Sx T) (N := N__law_kind_of) T.F__law_kind_of sc__law_kind_of rfl (fun ds c Q h => by obtain ⟨e, cs, rfl, _⟩ := h; first | rfl | assumption) (fun cdv A outer s H E hr => (vss_cons (vs_set (i := 2) sc__law_kind_of.nd rfl (.inl rfl) (fe_of ve_int))
      (vss_cons (vs_for PassesOwn.never rfl (vi_any rfl (ve_name (pv 0))) (vg_name (i := 3) [3] (by decide) sc__law_kind_of.nd rfl (.inl rfl))
      (vss_cons (vs_set (i := 4) sc__law_kind_of.nd rfl (.inr rfl) (fe_ixN (i_ix rfl (hu_of hr)) (pv 3) (be_of ve_int) (fun _ _ => rfl)))
      (vss_cons (vs_set (i := 5) sc__law_kind_of.nd rfl (.inl rfl) (fe_of (ve_tup (va_cons ve_str va_nil))))
      (vss_cons (vs_if (vb_cmp (o_eq rfl hr.units) (ve_of (fe_ixN (i_ix rfl (hu_of hr)) (pv 4) (be_of ve_int) (fun _ _ => rfl))) (be_of ve_str) (nomark _)) (vss_one (vs_set (i := 5) sc__law_kind_of.nd rfl (.inl rfl) (fe_of (ve_tup (va_cons ve_str (va_cons (ve_of (pe_CB1 c_abs (fun hc ha => pe_callB hc (by rfl) T.z_abs boot_abs ha) (be_of (ve_of (fe_ixN (i_ix rfl (hu_of hr)) (pv 4) (be_of ve_int) (fun _ _ => rfl)))))) va_nil)))))) vss_nil)
      (vss_cons (vs_if (vb_cmp (o_eq rfl hr.units) (ve_of (fe_ixN (i_ix rfl (hu_of hr)) (pv 4) (be_of ve_int) (fun _ _ => rfl))) (be_of ve_str) (nomark _)) (vss_cons (vs_fz 4 (vs_setLc (i := 6) (own := [("column", 7)]) rfl sc__law_kind_of.nd rfl rfl (sw_true rfl rfl rfl (by decide +kernel)) (vi_any rfl (ve_name (pv 1))) (blkOk_by (own := [("column", 7)]) (N := N__law_kind_of) (sc := defScope s__law_kind_of) (by decide +kernel)) (fun _ _ _ _ _ => (vg_name (i := 7) [7] (by decide) sc__law_kind_of.nd rfl (.inl rfl))) (fun _ _ _ _ _ => (vts_one (vb_cmp (o_eq rfl hr.units) (ve_of (fe_ixN (i_ix rfl (hu_of hr)) (pv 7) (be_of ve_int) (fun _ _ => rfl))) (be_of (ve_of (fe_ixN (i_ix rfl (hu_of hr)) (pv 4) (be_of ve_int) (fun _ _ => rfl)))) (nomark _)))) (fun _ _ _ _ _ => (ve_of (fe_ixN (i_ix rfl (hu_of hr)) (pv 7) (be_of ve_int) (fun _ _ => rfl))))))
      (vss_cons (vs_if (vb_not (vb_tru rfl (be_name (pv 6)))) (vss_one (vs_ret (ve_tup (va_cons (ve_tup (va_cons ve_str (va_cons (ve_of (fe_ixN (i_ix rfl (hu_of hr)) (pv 4) (be_of ve_int) (fun _ _ => rfl))) va_nil))) (va_cons ve_non va_nil))))) vss_nil)
      (vss_one (vs_set (i := 5) sc__law_kind_of.nd rfl (.inl rfl) (fe_ixN (i_ix rfl (hu_of hr)) (pv 6) (be_of ve_int) (fun _ _ => rfl)))))) vss_nil)
      (vss_cons (vs_if (vb_cmp (o_eq rfl hr.units) (ve_of (pe_CB1 (c_len rfl) (fun hc ha => pe_callB hc (by rfl) T.z_len boot_len ha) (be_name (pv 0)))) (be_of ve_int) (nomark _)) (vss_one (vs_ret (ve_tup (va_cons ve_non (va_cons (ve_name (pv 5)) va_nil))))) vss_nil)
      (vss_cons (vs_if (vb_cmp (o_eq rfl hr.units) (ve_of (fe_ixN (i_ix rfl (hu_of hr)) (pv 5) (be_of ve_int) (fun _ _ => rfl))) (be_of ve_str) (nomark _)) (vss_one (vs_ret (ve_tup (va_cons (ve_tup (va_cons ve_str (va_cons ve_non va_nil))) (va_cons ve_non va_nil))))) vss_nil)
      (vss_one (vs_set (i := 2) sc__law_kind_of.nd rfl (.inl rfl) (fe_op (o_add rfl) (ve_name (pv 2)) (be_of (ve_of (fe_ixN (i_ix rfl (hu_of hr)) (pv 5) (be_of ve_int) (fun _ _ => rfl))))))))))))))
      (vss_cons (vs_if (vb_cmp o_gt (ve_name (pv 2)) (be_of (ve_of (fe_op o_pow ve_int (be_of ve_int)))) (nomark _)) (vss_one (vs_ret (ve_tup (va_cons (ve_tup (va_cons ve_str (va_cons ve_non va_nil))) (va_cons ve_non va_nil))))) vss_nil)
      (vss_one (vs_ret (ve_tup (va_cons ve_non (va_cons (ve_tup (va_cons ve_str (va_cons (ve_name (pv 2)) va_nil))) va_nil))))))))) ?_
  rintro ds c Q ⟨e, cs, rfl, hne, hl, hc, ht, q⟩
  have q2 : e.length ≠ 1 → Q (resD (goK cs e 0)) c := by
    intro n
    match e, hne, n, q with
    | [t], _, n, _ => exact absurd rfl n
    | t1 :: t2 :: r, _, _, q => exact q
  have len1 : (((e.map termD).length : Nat) : Int) = 1 → e.length = 1 := fun z => by rw [List.length_map] at z; omega
  have lenN : ¬ (((e.map termD).length : Nat) : Int) = 1 → e.length ≠ 1 := fun z => by rw [List.length_map] at z; omega
  walk_at "wh"
  refine ⟨fun i E => Iv (∃ (b : Int) (y3 y4 y5 y6 y7 : SV), E = ⟨[.v (exD e), .v (colsP cs), .v (.int b), y3, y4, y5, y6, y7], c⟩ ∧ (e.length = 1 → i = 0) ∧ (e.length ≠ 1 → Q (resD (goK cs (e.drop i) b)) c)), .a ⟨0, _, _, _, _, _, rfl, fun _ => rfl, q2⟩, ?_, ?_⟩
  · intro i d E ed iv
    obtain ⟨b, y3, y4, y5, y6, y7, rfl, hi1, hi2⟩ := iv.out
    obtain ⟨t, et, rfl⟩ := map_get ed
    have hdr : e.drop i = t :: e.drop (i + 1) := by
      obtain ⟨hi, e⟩ := List.getElem?_eq_some_iff.mp et
      rw [← e]
      exact List.drop_eq_getElem_cons hi
    have to := ht t (List.mem_of_getElem? et)
    have hx : ∀ r, opK cs t.2 = r → (e.length = 1 → Q (resD r) c) ∧ (e.length ≠ 1 → Q (resD (match r with | .ok (.n j) => goK cs (e.drop (i + 1)) (b + j) | .ok .s => .sa | x => x)) c) := by
      intro r hr
      refine ⟨fun h1 => ?_, fun h1 => ?_⟩
      · have h0 := hi1 h1
        subst h0
        clear hdr hi2 hi1 q2 ht len1 lenN hl hne
        cases e with
        | nil => exact absurd h1 (by decide)
        | cons y ys =>
          cases ys with
          | nil =>
            cases (show some y = some t from et)
            have q : Q (resD (opK cs t.2)) c := q
            rw [hr] at q
            exact q
          | cons z zs => exact absurd h1 (by rw [List.length_cons, List.length_cons]; omega)
      · have z := hi2 h1
        rw [hdr] at z
        unfold goK at z
        rw [hr] at z
        exact z
    clear hi1 hi2 q q2
    obtain ⟨sg, o⟩ := t
    cases o with
    | num j =>
      have h : opK cs (sg, Op.num j).2 = .ok (.n (absI j)) := rfl
      walk_at "wh"
      refine ⟨by show 1 ≤ 1000; decide, ?_⟩
      walk_at "wh"
      refine skipF rfl ?_
      walk_at "wh"
      refine ⟨by show 2 ≤ 1000; decide, ?_⟩
      walk_at "wh"
      refine skipT (by decide) ?_
      walk_at "wh"
      refine bothD (fun e1 => ?_) (fun e1 => ?_)
      · have e1 := len1 e1
        have z := (hx _ h).1 e1
        walk_at "wh"
        exact ⟨by show 2 ≤ 1000; decide, z⟩
      · have e1 := lenN e1
        have z := (hx _ h).2 e1
        walk_at "wh"
        refine skipT (by decide) ?_
        walk_at "wh"
        exact .a ⟨_, _, _, _, _, _, rfl, fun z => absurd z e1, fun _ => z⟩
    | txt x =>
      have h : opK cs (sg, Op.txt x).2 = .ok .s := rfl
      walk_at "wh"
      refine ⟨by show 1 ≤ 1000; decide, ?_⟩
      walk_at "wh"
      refine skipT (by decide) ?_
      walk_at "wh"
      refine skipT (by decide) ?_
      walk_at "wh"
      refine bothD (fun e1 => ?_) (fun e1 => ?_)
      · have e1 := len1 e1
        have z := (hx _ h).1 e1
        walk_at "wh"
        exact ⟨by show 2 ≤ 1000; decide, z⟩
      · have e1 := lenN e1
        have z := (hx _ h).2 e1
        walk_at "wh"
        refine skipF rfl ?_
        walk_at "wh"
        exact ⟨by show 2 ≤ 1000; decide, by show 2 ≤ 1000; decide, z⟩
    | col n =>
      walk_at "wh"
      refine ⟨by show 1 ≤ 1000; decide, ?_⟩
      walk_at "wh"
      refine skipT (by decide) ?_
      walk_at "wh"
      refine skipF rfl ?_
      walk_at "wh"
      refine ⟨by rw [List.length_map]; omega, fun j acc k => Iv (acc = ((cs.take j).filter fun p => decide (p.1 = n)).map (·.2.d) ∧ k = c), .a ⟨rfl, rfl⟩, ?_, ?_⟩
      · intro j d acc k ed iv la
        obtain ⟨rfl, ek⟩ := iv.out
        subst k
        obtain ⟨p, ep, rfl⟩ := map_get ed
        walk_at "wh"
        refine both (fun e => .a ⟨?_, rfl⟩) (fun e => .a ⟨?_, rfl⟩)
        · rw [fl_T (p := fun p : Col => decide (p.1 = n)) ep e, List.map_append]; rfl
        · rw [fl_F (p := fun p : Col => decide (p.1 = n)) ep e]
      intro acc k iv la
      obtain ⟨rfl, ek⟩ := iv.out
      subst k
      rw [List.length_map, List.take_length]
      have hlk := lk_filter cs n
      walk_at "wh"
      cases hf : cs.filter (fun p => decide (p.1 = n)) with
      | nil =>
        rw [hf] at hlk
        have h : opK cs (sg, Op.col n).2 = .unk n := by
          show (match lk cs n with | some k => KR.ok k | none => KR.unk n) = _
          rw [hlk]
        refine wayT ?_
        walk_at "wh"
        refine ⟨by show 2 ≤ 1000; decide, by show 2 ≤ 1000; decide, ?_⟩
        by_cases e1 : e.length = 1
        · exact (hx _ h).1 e1
        · exact (hx _ h).2 e1
      | cons p ps =>
        rw [hf] at hlk
        refine wayF ?_
        obtain ⟨pn, pk⟩ := p
        have h : opK cs (sg, Op.col n).2 = .ok pk := by
          show (match lk cs n with | some k => KR.ok k | none => KR.unk n) = _
          rw [hlk]
        rw [List.map_cons]
        refine withD_of (d := pk.d) (atI_nat (j := 0) rfl) ?_
        cases pk with
        | s =>
          walk_at "wh"
          refine bothD (fun e1 => ?_) (fun e1 => ?_)
          · have e1 := len1 e1
            have z := (hx _ h).1 e1
            walk_at "wh"
            exact ⟨by show 2 ≤ 1000; decide, z⟩
          · have e1 := lenN e1
            have z := (hx _ h).2 e1
            walk_at "wh"
            refine skipF rfl ?_
            walk_at "wh"
            exact ⟨by show 2 ≤ 1000; decide, by show 2 ≤ 1000; decide, z⟩
        | n j =>
          walk_at "wh"
          refine bothD (fun e1 => ?_) (fun e1 => ?_)
          · have e1 := len1 e1
            have z := (hx _ h).1 e1
            walk_at "wh"
            exact ⟨by show 2 ≤ 1000; decide, z⟩
          · have e1 := lenN e1
            have z := (hx _ h).2 e1
            walk_at "wh"
            refine skipT (by decide) ?_
            walk_at "wh"
            exact .a ⟨_, _, _, _, _, _, rfl, fun z => absurd z e1, fun _ => z⟩
  · intro E iv
    obtain ⟨b, y3, y4, y5, y6, y7, rfl, hi1, hi2⟩ := iv.out
    have e1 : e.length ≠ 1 := fun z => by have := hi1 z; rw [List.length_map] at this; omega
    have z := hi2 e1
    rw [List.length_map, List.drop_length] at z
    clear q q2
    walk_at "wh"
    refine ⟨by unfold CPow; exact ⟨by decide, by decide, by decide⟩, ?_⟩
    walk_at "wh"
    refine both (fun e1 => ?_) (fun e1 => ?_)
    · have e1 : b > 1000000000000 := of_decide_eq_true e1
      unfold goK at z
      rw [if_pos e1] at z
      walk_at "wh"
      exact ⟨by show 2 ≤ 1000; decide, by show 2 ≤ 1000; decide, z⟩
    · have e1 : ¬ b > 1000000000000 := of_decide_eq_false e1
      unfold goK at z
      rw [if_neg e1] at z
      walk_at "wh"
      exact ⟨by show 2 ≤ 1000; decide, by show 2 ≤ 1000; decide, z⟩
end
end Va

set_option Elab.async false
set_option linter.all false
set_option maxRecDepth 100000
set_option maxHeartbeats 4000000
namespace Va
open PySem PySem.Spec PyProof.Rows L2 Ind
local macro_rules | `(tactic| walk_at "cn") => `(tactic| first
  | assumption
  | omega
  | exact dm (by omega)
  | exact line (by simp)
  | exact line (by omega)
  | exact line (by simp only [len_app, len_one]; omega)
  | exact small_div (by omega) (by omega)
  | solve_by_elim
  | exact Or.inr ⟨by omega, by omega⟩
  | exact Or.inl ⟨by omega, by omega⟩
  | exact ⟨by omega, by omega⟩
  | decide)
local macro_rules | `(tactic| walk_at "st") => `(tactic| repeat (first
  | refine ⟨_, rfl, ?_⟩
  | refine ⟨_, _, rfl, rfl, ?_⟩
  | refine ⟨_, _, rfl, ?_⟩
  | refine .inl ⟨_, rfl, ?_⟩
  | refine And.intro rfl ?_
  | refine And.intro (by walk_at "cn") ?_))
local macro_rules | `(tactic| walk_at "fz") => `(tactic| repeat (first | exact Fz.refl | apply Fz.upd))
local macro_rules | `(tactic| walk_at "hl") => `(tactic| ((repeat rw [upd_ne (by assumption)]); assumption))
local macro_rules | `(tactic| walk_at "fy") => `(tactic| (intro b o n1 h; (repeat rw [upd_ne n1]); exact h))
local macro_rules | `(tactic| walk_at "wh") => `(tactic| (conv => whnf))
local macro_rules | `(tactic| walk_at "cv") => `(tactic| first
  | rfl
  | assumption
  | omega
  | exact dm (by omega)
  | exact small_div (by omega) (by omega)
  | (simp only [len_app, one_len, len_one, List.length_append, List.length_map, List.length_cons, List.length_nil]; omega)
  | exact Or.inr ⟨by omega, by omega⟩
  | exact Or.inl ⟨by omega, by omega⟩
  | exact ⟨by omega, by omega⟩
  | decide)
local macro_rules | `(tactic| walk_at "vv") => `(tactic| repeat (refine And.intro (by walk_at "cv") ?_))
local macro_rules | `(tactic| walk_at "sk") => `(tactic| repeat (first
  | refine wayT ?_
  | refine wayF ?_
  | refine skipT (by omega) ?_
  | refine skipF (by omega) ?_
  | refine skipT (by decide) ?_
  | refine skipF (by decide) ?_
  | refine ⟨_, (show tyNames _ = some _ from rfl), ?_⟩
  | refine And.intro (by walk_at "cv") ?_))
local macro_rules | `(tactic| walk_at "s0") => `(tactic| first
  | refine wayT ?_
  | refine wayF ?_
  | refine skipT (by omega) ?_
  | refine skipF (by omega) ?_
  | refine skipT (by decide) ?_
  | refine skipF (by decide) ?_
  | refine ⟨_, (show tyNames _ = some _ from rfl), ?_⟩
  | refine And.intro (by walk_at "cv") ?_)
local macro_rules | `(tactic| walk_at "s1") => `(tactic| try (walk_at "s0"; walk_at "wh"))
local macro_rules | `(tactic| walk_at "go") => `(tactic| (walk_at "wh"; walk_at "s1"; walk_at "s1"; walk_at "s1"; walk_at "s1"; walk_at "s1"; walk_at "s1"; walk_at "s1"; walk_at "s1"; walk_at "s1"; walk_at "s1"; walk_at "s1"; walk_at "s1"; walk_at "s1"; walk_at "s1"; walk_at "s1"; walk_at "s1"; walk_at "s1"; walk_at "s1"; walk_at "s1"; walk_at "s1"; walk_at "s1"; walk_at "s1"; walk_at "s1"; walk_at "s1"))

def mParts : VM := fun ds c Q => ∃ F : Fm, ds = [F.d] ∧ F.isC = false ∧ Q (.tup (F.parts.map Fm.d)) c
def mCms (n : Nat) : VM := fun ds c Q => ∃ F : Fm, ds = [F.d] ∧ F.dep + 1 ≤ n ∧ F.cms.length ≤ 1000 ∧ Q (.lst (F.cms.map Cm.d)) c
def mColsOf : VM := fun ds c Q => ∃ e : Ex, ds = [exD e] ∧ e.length ≤ 100 ∧ Q (.lst ((exCols e).map .str)) c
def mColsIn : VM := fun ds c Q => ∃ (F : Fm) (cs : List Col), ds = [F.d] ∧ F.dep ≤ 20 ∧ F.ok cs ∧ F.cms.length ≤ 1000 ∧ Q (.tup ((once [] F.cols).map .str)) c
def mLst (n : Nat) : VM := fun ds c Q => ∃ (F : Fm) (cs : List Col), ds = [F.d] ∧ F.dep + 1 ≤ n ∧ F.ok cs ∧ F.cms.length ≤ 1000 ∧ Q (.lst (F.cols.map .str)) c
section
variable {P : Program} {w : World} {K : PySem.W.Frag} {mg : PySem.Str → Option Value} {base : Heap}
theorem ok__parts_of (T : Txt P K mg) : FnOk P w K mg base CX0 1 T.a__parts_of T.d__parts_of ["formula"] (spV (Sx T) mParts) := by
  refine def_v (S := Sx T) (N := N__parts_of) T.F__parts_of sc__parts_of rfl (fun ds c Q h => by obtain ⟨F, rfl, _⟩ := h; first | rfl | assumption) (fun cdv A outer s H E hr => (vss_cons (vs_if (vb_w (vw_or (vb_cmp (o_eq rfl hr.units) (ve_of (fe_ixN (i_ix rfl (hu_of hr)) (pv 0) (be_of ve_int) (fun _ _ => rfl))) (be_of ve_str) (nomark _)) (vw_or1 (vb_cmp (o_eq rfl hr.units) (ve_of (fe_ixN (i_ix rfl (hu_of hr)) (pv 0) (be_of ve_int) (fun _ _ => rfl))) (be_of ve_str) (nomark _))))) (vss_one (vs_ret (ve_of (fe_ixN (i_ix rfl (hu_of hr)) (pv 0) (be_of ve_int) (fun _ _ => rfl))))) vss_nil)
      (vss_cons (vs_if (vb_w (vw_or (vb_cmp (o_eq rfl hr.units) (ve_of (fe_ixN (i_ix rfl (hu_of hr)) (pv 0) (be_of ve_int) (fun _ _ => rfl))) (be_of ve_str) (nomark _)) (vw_or1 (vb_cmp (o_eq rfl hr.units) (ve_of (fe_ixN (i_ix rfl (hu_of hr)) (pv 0) (be_of ve_int) (fun _ _ => rfl))) (be_of ve_str) (nomark _))))) (vss_one (vs_ret (ve_of (fe_slice rfl (ve_name (pv 0)) (vo_some ve_int) vo_none)))) vss_nil)
      (vss_one (vs_ret (ve_tup va_nil)))))) ?_
  rintro ds c Q ⟨F, rfl, h, q⟩
  cases F with
  | cmp sg l r => cases h
  | neg f =>
    walk_at "go"
    rw [cut1]
    exact q
  | imp a b =>
    walk_at "go"
    rw [cut1]
    exact q
  | all fs =>
    walk_at "go"
    rw [Fm.dL_map]
    exact q
  | any fs =>
    walk_at "go"
    rw [Fm.dL_map]
    exact q
  | tt => walk_at "go"; exact q
  | ff => walk_at "go"; exact q
theorem rec__comparisons_in (T : Txt P K mg) : ∀ n : Nat, FnOk P w K mg base CX0 (n + 2) T.a__comparisons_in T.d__comparisons_in ["formula"] (spV (Sx T) (mCms n))
  | 0 => fn_vac fun ds c Q ⟨F, _, h, _⟩ => by omega
  | n + 1 => by
    have G__comparisons_in := rec__comparisons_in T n
    have G__parts_of := ok__parts_of (P := P) (w := w) (base := base) T
    refine def_v (S := Sx T) (N := N__comparisons_in) T.F__comparisons_in sc__comparisons_in rfl (fun ds c Q h => by obtain ⟨F, rfl, _⟩ := h; first | rfl | assumption) (fun cdv A outer s H E hr => (vss_cons (vs_if (vb_cmp (o_eq rfl hr.units) (ve_of (fe_ixN (i_ix rfl (hu_of hr)) (pv 0) (be_of ve_int) (fun _ _ => rfl))) (be_of ve_str) (nomark _)) (vss_one (vs_ret (ve_of (fe_lst (va_cons (ve_name (pv 0)) va_nil))))) vss_nil)
      (vss_cons (vs_set (i := 1) sc__comparisons_in.nd rfl (.inl rfl) (fe_lst va_nil))
      (vss_cons (vs_for PassesOwn.never rfl (vi_any rfl (ve_call G__parts_of (hr.mono (by omega)) (by rfl) T.g__parts_of T.F__parts_of.kp T.b__parts_of (va_cons (ve_name (pv 0)) va_nil))) (vg_name (i := 2) [2] (by decide) sc__comparisons_in.nd rfl (.inl rfl))
      (vss_one (vs_extend rfl (pv 1) (ve_call G__comparisons_in (hr.mono (by omega)) (by rfl) T.g__comparisons_in T.F__comparisons_in.kp T.b__comparisons_in (va_cons (ve_name (pv 2)) va_nil)))))
      (vss_one (vs_ret (ve_name (pv 1)))))))) ?_
    rintro ds c Q ⟨F, rfl, hd, hl, q⟩
    cases hc : F.isC with
    | true =>
      cases F with
      | cmp sg l r =>
        walk_at "go"
        exact q
      | _ => cases hc
    | false =>
      have e := Fm.parts_cms F hc
      rw [e] at q hl
      have hp := Fm.parts_dep F
      have w0 : ∃ W : Tx, ∃ rest, F.d = .tup (.str W :: rest) ∧ W ≠ "compare" := by
        cases F with
        | cmp sg l r => cases hc
        | neg f => exact ⟨_, _, rfl, by decide⟩
        | all fs => exact ⟨_, _, rfl, by decide⟩
        | any fs => exact ⟨_, _, rfl, by decide⟩
        | imp a b => exact ⟨_, _, rfl, by decide⟩
        | tt => exact ⟨_, _, rfl, by decide⟩
        | ff => exact ⟨_, _, rfl, by decide⟩
      obtain ⟨W, rest, eF, hW⟩ := w0
      have key : ∀ z : D, z = F.d → (sSeq (sSet 1 (vLst aNil)) (sSeq (sFor (vIt (vCall mParts (aCons (vName 0) aNil))) (gN 2) (sExt 1 (vCall (mCms n) (aCons (vName 2) aNil)))) (sRt (vName 1)))) (endV Q) (startV N__comparisons_in [z] c) := by
        rintro z rfl
        walk_at "go"
        refine ⟨F, rfl, hc, ?_⟩
        walk_at "wh"
        refine ⟨fun i E => Iv (∃ y, E = ⟨[.v F.d, .ol ((Fm.cmsL (F.parts.take i)).map Cm.d), y], c⟩), .a ⟨_, rfl⟩, ?_, ?_⟩
        · intro i d E ed iv
          obtain ⟨y, rfl⟩ := iv.out
          obtain ⟨f, ef, rfl⟩ := map_get ed
          have mf := List.mem_of_getElem? ef
          have h1 := hp f mf
          have h2 := Fm.cmsL_sub mf
          refine ⟨f, rfl, by omega, by omega, ?_⟩
          walk_at "wh"
          refine ⟨?_, .a ⟨.v f.d, ?_⟩⟩
          · rw [List.length_map, List.length_map]
            have := Fm.cmsL_take F.parts i
            omega
          · rw [Fm.cmsL_more ef, List.map_append]
            rfl
        · intro E iv
          obtain ⟨y, rfl⟩ := iv.out
          rw [List.length_map, List.take_length]
          exact q
      rw [eF]
      walk_at "wh"
      refine withD_of (show atI (D.str W :: rest) 0 = some (.str W) from atI_nat (j := 0) rfl) ?_
      walk_at "wh"
      refine skipT hW ?_
      rw [← eF]
      exact key _ rfl
theorem ok__comparisons_in (T : Txt P K mg) : FnOk P w K mg base CX0 25 T.a__comparisons_in T.d__comparisons_in ["formula"] (spV (Sx T) (mCms 23)) := rec__comparisons_in T 23
end
end Va

set_option Elab.async false
set_option linter.all false
set_option maxRecDepth 100000
set_option maxHeartbeats 4000000
namespace Va
open PySem PySem.Spec PyProof.Rows L2 Ind
local macro_rules | `(tactic| walk_at "cn") => `(tactic| first
  | assumption
  | omega
  | exact dm (by omega)
  | exact line (by simp)
  | exact line (by omega)
  | exact line (by simp only [len_app, len_one]; omega)
  | exact small_div (by omega) (by omega)
  | solve_by_elim
  | exact Or.inr ⟨by omega, by omega⟩
  | exact Or.inl ⟨by omega, by omega⟩
  | exact ⟨by omega, by omega⟩
  | decide)
local macro_rules | `(tactic| walk_at "st") => `(tactic| repeat (first
  | refine ⟨_, rfl, ?_⟩
  | refine ⟨_, _, rfl, rfl, ?_⟩
  | refine ⟨_, _, rfl, ?_⟩
  | refine .inl ⟨_, rfl, ?_⟩
  | refine And.intro rfl ?_
  | refine And.intro (by walk_at "cn") ?_))
local macro_rules | `(tactic| walk_at "fz") => `(tactic| repeat (first | exact Fz.refl | apply Fz.upd))
local macro_rules | `(tactic| walk_at "hl") => `(tactic| ((repeat rw [upd_ne (by assumption)]); assumption))
local macro_rules | `(tactic| walk_at "fy") => `(tactic| (intro b o n1 h; (repeat rw [upd_ne n1]); exact h))
local macro_rules | `(tactic| walk_at "wh") => `(tactic| (conv => whnf))
local macro_rules | `(tactic| walk_at "cv") => `(tactic| first
  | rfl
  | assumption
  | omega
  | exact dm (by omega)
  | exact small_div (by omega) (by omega)
  | (simp only [len_app, one_len, len_one, List.length_append, List.length_map, List.length_cons, List.length_nil]; omega)
  | exact Or.inr ⟨by omega, by omega⟩
  | exact Or.inl ⟨by omega, by omega⟩
  | exact ⟨by omega, by omega⟩
  | decide)
local macro_rules | `(tactic| walk_at "vv") => `(tactic| repeat (refine And.intro (by walk_at "cv") ?_))
local macro_rules | `(tactic| walk_at "sk") => `(tactic| repeat (first
  | refine wayT ?_
  | refine wayF ?_
  | refine skipT (by omega) ?_
  | refine skipF (by omega) ?_
  | refine skipT (by decide) ?_
  | refine skipF (by decide) ?_
  | refine ⟨_, (show tyNames _ = some _ from rfl), ?_⟩
  | refine And.intro (by walk_at "cv") ?_))
local macro_rules | `(tactic| walk_at "s0") => `(tactic| first
  | refine wayT ?_
  | refine wayF ?_
  | refine skipT (by omega) ?_
  | refine skipF (by omega) ?_
  | refine skipT (by decide) ?_
  | refine skipF (by decide) ?_
  | refine ⟨_, (show tyNames _ = some _ from rfl), ?_⟩
  | refine And.intro (by walk_at "cv") ?_)
local macro_rules | `(tactic| walk_at "s1") => `(tactic| try (walk_at "s0"; walk_at "wh"))
local macro_rules | `(tactic| walk_at "go") => `(tactic| (walk_at "wh"; walk_at "s1"; walk_at "s1"; walk_at "s1"; walk_at "s1"; walk_at "s1"; walk_at "s1"; walk_at "s1"; walk_at "s1"; walk_at "s1"; walk_at "s1"; walk_at "s1"; walk_at "s1"; walk_at "s1"; walk_at "s1"; walk_at "s1"; walk_at "s1"; walk_at "s1"; walk_at "s1"; walk_at "s1"; walk_at "s1"; walk_at "s1"; walk_at "s1"; walk_at "s1"; walk_at "s1"))

/-! ### the first error of a formula -/
inductive FEr where
  | unk (n : Tx)
  | sa
  | vtl
  | mix
def KR.er : KR → Option FEr
  | .ok _ => none
  | .unk n => some (.unk n)
  | .sa => some .sa
  | .vtl => some .vtl
def cmE (cs : List Col) (l r : Ex) : Option FEr := match kindK cs l with
  | .ok a => match kindK cs r with
    | .ok b => if a.w = b.w then none else some .mix
    | x => x.er
  | x => x.er
def chE (cs : List Col) : List Cm → Option FEr
  | [] => none
  | m :: ms => match cmE cs m.2.1 m.2.2 with
    | none => chE cs ms
    | some x => some x
def FEr.run (SA VT UC MC : Addr) (r : FEr) (Xq : Er → Nat → Prop) (c : Nat) : Prop := match r with
  | .unk n => Xq (.fld UC "name" (.str n)) c
  | .sa => Xq (.own SA) c
  | .vtl => Xq (.own VT) c
  | .mix => Xq (.own MC) c
def chR (SA VT UC MC : Addr) (r : Option FEr) (Q : D → Nat → Prop) (Xq : Er → Nat → Prop) (c : Nat) : Prop := match r with
  | none => Q .non c
  | some x => x.run SA VT UC MC Xq c
def cmOk (m : Cm) : Prop := (m.2.1 ≠ [] ∧ m.2.1.length ≤ 20 ∧ ∀ t ∈ m.2.1, t.2.sm) ∧ m.2.2 ≠ [] ∧ m.2.2.length ≤ 20 ∧ ∀ t ∈ m.2.2, t.2.sm
def mAlike : VM := fun ds c Q => ∃ a b : Cd, ds = [a.d, b.d] ∧ Q (.bl (decide (a.w = b.w))) c
def mChk (SA VT UC MC : Addr) : VMX := fun ds c Q Xq => ∃ (F : Fm) (cs : List Col), ds = [F.d, colsP cs] ∧ F.dep ≤ 22 ∧ F.cms.length ≤ 1000 ∧ cs.length ≤ 20 ∧ (cs.map (·.1)).Nodup ∧ (∀ m ∈ F.cms, cmOk m) ∧ chR SA VT UC MC (chE cs F.cms) Q Xq c
section
variable {P : Program} {w : World} {K : PySem.W.Frag} {mg : PySem.Str → Option Value} {base : Heap}
theorem ok_are_alike (T : Txt P K mg) : FnOk P w K mg base CX0 1 T.a_are_alike T.d_are_alike ["left", "right"] (spV (Sx T) mAlike) := by
  refine def_v (S := Sx T) (N := N_are_alike) T.F_are_alike sc_are_alike rfl (fun ds c Q h => by obtain ⟨a, b, rfl, _⟩ := h; first | rfl | assumption) (fun cdv A outer s H E hr => (vss_one (vs_ret (ve_of (fe_cmp (o_eq rfl hr.units) (ve_of (fe_ixN (i_ix rfl (hu_of hr)) (pv 0) (be_of ve_int) (fun _ _ => rfl))) (be_of (ve_of (fe_ixN (i_ix rfl (hu_of hr)) (pv 1) (be_of ve_int) (fun _ _ => rfl)))) (nomark _)))))) ?_
  rintro ds c Q ⟨a, b, rfl, q⟩
  cases a <;> cases b <;> (walk_at "wh"; exact q)
theorem ok_check_formula (T : Txt P K mg) : FnOk P w K mg base (L2.CX P w) 26 T.a_check_formula T.d_check_formula ["formula", "columns"] (spVX (Sx T) (mChk T.k_StringArithmetic T.k_ValueTooLarge T.k_UnknownColumn T.k_MixedComparison)) := by
  have G__comparisons_in := ok__comparisons_in (P := P) (w := w) (base := base) T
  have G_kind_of := ok_kind_of (P := P) (w := w) (base := base) T
  have G_are_alike := ok_are_alike (P := P) (w := w) (base := base) T
  refine def_vx (S := Sx T) (N := N_check_formula) T.F_check_formula sc_check_formula rfl (fun ds c Q Xq h => by obtain ⟨F, cs, rfl, _⟩ := h; first | rfl | assumption) (fun cdv A outer s H E hr => (vxs_one (vx_for (passes_of rfl) rfl (vi_any rfl (ve_call G__comparisons_in hr (by rfl) T.g__comparisons_in T.F__comparisons_in.kp T.b__comparisons_in (va_cons (ve_name (pv 0)) va_nil))) (vg_name (i := 2) [2] (by decide) sc_check_formula.nd rfl (.inl rfl))
      (vxs_cons (vx_set (i := 3) sc_check_formula.nd rfl (.inl rfl) (vex_call G_kind_of (hr.mono (by omega)) (takes_of rfl rfl rfl rfl) (by rfl) T.g_kind_of T.F_kind_of.kp T.b_kind_of (va_cons (ve_of (fe_ixN (i_ix rfl (hu_of hr)) (pv 2) (be_of ve_int) (fun _ _ => rfl))) (va_cons (ve_name (pv 1)) va_nil))))
      (vxs_cons (vx_set (i := 4) sc_check_formula.nd rfl (.inl rfl) (vex_call G_kind_of (hr.mono (by omega)) (takes_of rfl rfl rfl rfl) (by rfl) T.g_kind_of T.F_kind_of.kp T.b_kind_of (va_cons (ve_of (fe_ixN (i_ix rfl (hu_of hr)) (pv 2) (be_of ve_int) (fun _ _ => rfl))) (va_cons (ve_name (pv 1)) va_nil))))
      (vxs_one (vx_if (vb_not (vb_tru rfl (be_of (ve_call G_are_alike (hr.mono (by omega)) (by rfl) T.g_are_alike T.F_are_alike.kp T.b_are_alike (va_cons (ve_name (pv 3)) (va_cons (ve_name (pv 4)) va_nil)))))) (vxs_one (vx_raise rfl (takes_of rfl rfl rfl rfl) PySem.F.excBase_ValueError T.xk_MixedComparison T.gk_MixedComparison T.kk_MixedComparison (raises_own T.bk_MixedComparison T.tk_MixedComparison) (by rfl))) vxs_nil))))))) ?_
  rintro ds c Q Xq ⟨F, cs, rfl, hd, hl, hc, nd, hm, q⟩
  walk_at "wh"
  refine ⟨F, rfl, by omega, by omega, ?_⟩
  walk_at "wh"
  refine ⟨fun i E => Iv (∃ y2 y3 y4 : SV, E = ⟨[.v F.d, .v (colsP cs), y2, y3, y4], c⟩ ∧ chR T.k_StringArithmetic T.k_ValueTooLarge T.k_UnknownColumn T.k_MixedComparison (chE cs (F.cms.drop i)) Q Xq c), .a ⟨_, _, _, rfl, q⟩, ?_, ?_⟩
  · intro i d E ed iv
    obtain ⟨y2, y3, y4, rfl, q⟩ := iv.out
    obtain ⟨m, em, rfl⟩ := map_get ed
    have hdr : F.cms.drop i = m :: F.cms.drop (i + 1) := by
      obtain ⟨hi, e⟩ := List.getElem?_eq_some_iff.mp em
      rw [← e]
      exact List.drop_eq_getElem_cons hi
    rw [hdr] at q
    obtain ⟨⟨l1, l2, l3⟩, r1, r2, r3⟩ := hm m (List.mem_of_getElem? em)
    obtain ⟨sg, l, r⟩ := m
    have q : chR T.k_StringArithmetic T.k_ValueTooLarge T.k_UnknownColumn T.k_MixedComparison (match cmE cs l r with | none => chE cs (F.cms.drop (i + 1)) | some x => some x) Q Xq c := q
    unfold cmE at q
    walk_at "wh"
    refine ⟨l, cs, rfl, l1, l2, hc, nd, l3, ?_⟩
    cases hk : kindK cs l with
    | unk n => rw [hk] at q; exact q
    | sa => rw [hk] at q; exact q
    | vtl => rw [hk] at q; exact q
    | ok a =>
      rw [hk] at q
      walk_at "wh"
      refine ⟨r, cs, rfl, r1, r2, hc, nd, r3, ?_⟩
      cases hk2 : kindK cs r with
      | unk n => rw [hk2] at q; exact q
      | sa => rw [hk2] at q; exact q
      | vtl => rw [hk2] at q; exact q
      | ok b =>
        rw [hk2] at q
        walk_at "wh"
        refine ⟨a, b, rfl, ?_⟩
        walk_at "wh"
        refine bothN (fun e => ?_) (fun e => ?_)
        · have q : chR T.k_StringArithmetic T.k_ValueTooLarge T.k_UnknownColumn T.k_MixedComparison (match (if a.w = b.w then none else some FEr.mix) with | none => chE cs (F.cms.drop (i + 1)) | some x => some x) Q Xq c := q
          rw [if_neg e] at q
          exact q
        · have q : chR T.k_StringArithmetic T.k_ValueTooLarge T.k_UnknownColumn T.k_MixedComparison (match (if a.w = b.w then none else some FEr.mix) with | none => chE cs (F.cms.drop (i + 1)) | some x => some x) Q Xq c := q
          rw [if_pos e] at q
          exact .a ⟨_, _, _, rfl, q⟩
  · intro E iv
    obtain ⟨y2, y3, y4, rfl, q⟩ := iv.out
    rw [List.length_map, List.drop_length] at q
    exact q
end
end Va

set_option Elab.async false
set_option linter.all false
set_option maxRecDepth 100000
set_option maxHeartbeats 4000000
namespace Va
open PySem PySem.Spec PyProof.Rows L2 Ind
local macro_rules | `(tactic| walk_at "cn") => `(tactic| first
  | assumption
  | omega
  | exact dm (by omega)
  | exact line (by simp)
  | exact line (by omega)
  | exact line (by simp only [len_app, len_one]; omega)
  | exact small_div (by omega) (by omega)
  | solve_by_elim
  | exact Or.inr ⟨by omega, by omega⟩
  | exact Or.inl ⟨by omega, by omega⟩
  | exact ⟨by omega, by omega⟩
  | decide)
local macro_rules | `(tactic| walk_at "st") => `(tactic| repeat (first
  | refine ⟨_, rfl, ?_⟩
  | refine ⟨_, _, rfl, rfl, ?_⟩
  | refine ⟨_, _, rfl, ?_⟩
  | refine .inl ⟨_, rfl, ?_⟩
  | refine And.intro rfl ?_
  | refine And.intro (by walk_at "cn") ?_))
local macro_rules | `(tactic| walk_at "fz") => `(tactic| repeat (first | exact Fz.refl | apply Fz.upd))
local macro_rules | `(tactic| walk_at "hl") => `(tactic| ((repeat rw [upd_ne (by assumption)]); assumption))
local macro_rules | `(tactic| walk_at "fy") => `(tactic| (intro b o n1 h; (repeat rw [upd_ne n1]); exact h))
local macro_rules | `(tactic| walk_at "wh") => `(tactic| (conv => whnf))
local macro_rules | `(tactic| walk_at "cv") => `(tactic| first
  | rfl
  | assumption
  | omega
  | exact dm (by omega)
  | exact small_div (by omega) (by omega)
  | (simp only [len_app, one_len, len_one, List.length_append, List.length_map, List.length_cons, List.length_nil]; omega)
  | exact Or.inr ⟨by omega, by omega⟩
  | exact Or.inl ⟨by omega, by omega⟩
  | exact ⟨by omega, by omega⟩
  | decide)
local macro_rules | `(tactic| walk_at "vv") => `(tactic| repeat (refine And.intro (by walk_at "cv") ?_))
local macro_rules | `(tactic| walk_at "sk") => `(tactic| repeat (first
  | refine wayT ?_
  | refine wayF ?_
  | refine skipT (by omega) ?_
  | refine skipF (by omega) ?_
  | refine skipT (by decide) ?_
  | refine skipF (by decide) ?_
  | refine ⟨_, (show tyNames _ = some _ from rfl), ?_⟩
  | refine And.intro (by walk_at "cv") ?_))
local macro_rules | `(tactic| walk_at "s0") => `(tactic| first
  | refine wayT ?_
  | refine wayF ?_
  | refine skipT (by omega) ?_
  | refine skipF (by omega) ?_
  | refine skipT (by decide) ?_
  | refine skipF (by decide) ?_
  | refine ⟨_, (show tyNames _ = some _ from rfl), ?_⟩
  | refine And.intro (by walk_at "cv") ?_)
local macro_rules | `(tactic| walk_at "s1") => `(tactic| try (walk_at "s0"; walk_at "wh"))
local macro_rules | `(tactic| walk_at "go") => `(tactic| (walk_at "wh"; walk_at "s1"; walk_at "s1"; walk_at "s1"; walk_at "s1"; walk_at "s1"; walk_at "s1"; walk_at "s1"; walk_at "s1"; walk_at "s1"; walk_at "s1"; walk_at "s1"; walk_at "s1"; walk_at "s1"; walk_at "s1"; walk_at "s1"; walk_at "s1"; walk_at "s1"; walk_at "s1"; walk_at "s1"; walk_at "s1"; walk_at "s1"; walk_at "s1"; walk_at "s1"; walk_at "s1"))

def toldF : Option FEr → D
  | none => .tup [.str "checked", .non]
  | some (.unk n) => .tup [.str "error", .str n, .lst [.bl false, .bl false, .bl false], .bl true]
  | some .sa => .tup [.str "error", .non, .lst [.bl true, .bl false, .bl false], .bl true]
  | some .vtl => .tup [.str "error", .non, .lst [.bl false, .bl true, .bl false], .bl true]
  | some .mix => .tup [.str "error", .non, .lst [.bl false, .bl false, .bl true], .bl true]
def mTold : VM := fun ds c Q => ∃ (F : Fm) (cs : List Col), ds = [F.d, colsP cs] ∧ F.dep ≤ 22 ∧ F.cms.length ≤ 1000 ∧ cs.length ≤ 20 ∧ (cs.map (·.1)).Nodup ∧ (∀ m ∈ F.cms, cmOk m) ∧ Q (toldF (chE cs F.cms)) c
section
variable {P : Program} {w : World} {K : PySem.W.Frag} {mg : PySem.Str → Option Value} {base : Heap}
theorem ok__law_told (T : Txt P K mg) : FnOk P w K mg base CX0 27 T.a__law_told T.d__law_told ["formula", "columns"] (spV (Sx T) mTold) := by
  have G_check_formula := ok_check_formula (P := P) (w := w) (base := base) T
  refine def_v (S := Sx T) (N := N__law_told) T.F__law_told sc__law_told rfl (fun ds c Q h => by obtain ⟨F, cs, rfl, _⟩ := h; first | rfl | assumption) (fun cdv A outer s H E hr => (vss_one (vs_tryX (i := 2) (fun e => e = .own T.k_StringArithmetic ∨ e = .own T.k_ValueTooLarge ∨ e = .own T.k_MixedComparison ∨ (∃ x, e = .fld T.k_UnknownColumn "name" (.str x))) rfl rfl sc__law_told.nd rfl rfl ⟨by rfl, by decide, .inl T.gk_IndoubtError⟩ (fun e h => by rcases h with rfl | rfl | rfl | ⟨x, rfl⟩ <;> first | exact T.em_StringArithmetic_IndoubtError | exact T.em_ValueTooLarge_IndoubtError | exact T.em_MixedComparison_IndoubtError | exact T.em_UnknownColumn_IndoubtError) (fun e h => by rcases h with rfl | rfl | rfl | ⟨x, rfl⟩ <;> first | exact T.ek_StringArithmetic | exact T.ek_ValueTooLarge | exact T.ek_MixedComparison | exact T.ek_UnknownColumn) (fun W pn xe tk po => (vxs_one (vx_ret (vex_tup (vax_cons (vex_nox ve_str) (vax_cons (vex_call G_check_formula hr tk (by rfl) T.g_check_formula T.F_check_formula.kp T.b_check_formula (va_cons (ve_name (pv 0)) (va_cons (ve_name (pv 1)) va_nil))) vax_nil))))))
      (fun e a d oe pn hd => (vss_cons (vs_set (i := 3) sc__law_told.nd rfl (.inl rfl) (fe_of ve_non))
      (vss_cons (vs_if (vb_tru rfl (be_of (ve_isX hd rfl (pv 2) (pe_glob (v := .ref T.k_UnknownColumn) (by rfl) T.gk_UnknownColumn rfl) (fun _ r => r) (by rfl) T.z_isinstance boot_isinstance))) (vss_one (vs_set (i := 3) sc__law_told.nd rfl (.inl rfl) (fe_of (ve_fld (C0 := T.k_UnknownColumn) hd T.cl_UnknownColumn.no (pv 2))))) vss_nil)
      (vss_cons (vs_set (i := 4) sc__law_told.nd rfl (.inl rfl) (fe_lst (va_cons (ve_isX hd rfl (pv 2) (pe_glob (v := .ref T.k_StringArithmetic) (by rfl) T.gk_StringArithmetic rfl) (fun _ r => r) (by rfl) T.z_isinstance boot_isinstance) (va_cons (ve_isX hd rfl (pv 2) (pe_glob (v := .ref T.k_ValueTooLarge) (by rfl) T.gk_ValueTooLarge rfl) (fun _ r => r) (by rfl) T.z_isinstance boot_isinstance) (va_cons (ve_isX hd rfl (pv 2) (pe_glob (v := .ref T.k_MixedComparison) (by rfl) T.gk_MixedComparison rfl) (fun _ r => r) (by rfl) T.z_isinstance boot_isinstance) va_nil)))))
      (vss_one (vs_ret (ve_tup (va_cons ve_str (va_cons (ve_name (pv 3)) (va_cons (ve_name (pv 4)) (va_cons (ve_isX hd rfl (pv 2) (pe_bltn (v := .ty "ValueError") (by rfl) T.z_ValueError (by first | rfl | decide +kernel | kernel_rfl) rfl) (fun _ r => r) (by rfl) T.z_isinstance boot_isinstance) va_nil)))))))))))))) ?_
  rintro ds c Q ⟨F, cs, rfl, hd, hl, hc, nd, hm, q⟩
  walk_at "wh"
  refine ⟨F, cs, rfl, hd, hl, hc, nd, hm, ?_⟩
  cases h : chE cs F.cms with
  | none =>
    rw [h] at q
    exact ⟨by show 2 ≤ 1000; decide, q⟩
  | some x =>
   cases x with
   | unk n =>
     rw [h] at q
     refine ⟨.inr (.inr (.inr ⟨n, rfl⟩)), fun a d hd => ?_⟩
     obtain ⟨dd, rfl⟩ := hd
     walk_at "wh"
     refine ⟨⟨_, rfl, fun d2 e2 => by cases e2; exact ⟨_, _, rfl⟩⟩, _, T.ki_UnknownColumn_UnknownColumn, ?_⟩
     walk_at "wh"
     refine wayT ?_
     walk_at "wh"
     refine ⟨rfl, dd, _, rfl, rfl, ?_⟩
     walk_at "wh"
     refine ⟨⟨_, rfl, fun d2 e2 => by cases e2; exact ⟨_, _, rfl⟩⟩, _, T.ki_UnknownColumn_StringArithmetic, ?_⟩
     refine ⟨⟨_, rfl, fun d2 e2 => by cases e2; exact ⟨_, _, rfl⟩⟩, _, T.ki_UnknownColumn_ValueTooLarge, ?_⟩
     refine ⟨⟨_, rfl, fun d2 e2 => by cases e2; exact ⟨_, _, rfl⟩⟩, _, T.ki_UnknownColumn_MixedComparison, ?_⟩
     refine ⟨by show 3 ≤ 1000; decide, ?_⟩
     walk_at "wh"
     refine ⟨⟨_, rfl, fun d2 e2 => by cases e2; exact ⟨_, _, rfl⟩⟩, _, T.ki_UnknownColumn_ValueError, ?_⟩
     exact ⟨by show 4 ≤ 1000; decide, q⟩
   | sa =>
     rw [h] at q
     refine ⟨.inl rfl, fun a d hd => ?_⟩
     cases (show d = none from hd)
     walk_at "wh"
     refine ⟨⟨_, rfl, fun d2 e2 => nomatch e2⟩, _, T.ki_StringArithmetic_UnknownColumn, ?_⟩
     walk_at "wh"
     refine wayF ?_
     walk_at "wh"
     refine ⟨⟨_, rfl, fun d2 e2 => nomatch e2⟩, _, T.ki_StringArithmetic_StringArithmetic, ?_⟩
     refine ⟨⟨_, rfl, fun d2 e2 => nomatch e2⟩, _, T.ki_StringArithmetic_ValueTooLarge, ?_⟩
     refine ⟨⟨_, rfl, fun d2 e2 => nomatch e2⟩, _, T.ki_StringArithmetic_MixedComparison, ?_⟩
     refine ⟨by show 3 ≤ 1000; decide, ?_⟩
     walk_at "wh"
     refine ⟨⟨_, rfl, fun d2 e2 => nomatch e2⟩, _, T.ki_StringArithmetic_ValueError, ?_⟩
     exact ⟨by show 4 ≤ 1000; decide, q⟩
   | vtl =>
     rw [h] at q
     refine ⟨.inr (.inl rfl), fun a d hd => ?_⟩
     cases (show d = none from hd)
     walk_at "wh"
     refine ⟨⟨_, rfl, fun d2 e2 => nomatch e2⟩, _, T.ki_ValueTooLarge_UnknownColumn, ?_⟩
     walk_at "wh"
     refine wayF ?_
     walk_at "wh"
     refine ⟨⟨_, rfl, fun d2 e2 => nomatch e2⟩, _, T.ki_ValueTooLarge_StringArithmetic, ?_⟩
     refine ⟨⟨_, rfl, fun d2 e2 => nomatch e2⟩, _, T.ki_ValueTooLarge_ValueTooLarge, ?_⟩
     refine ⟨⟨_, rfl, fun d2 e2 => nomatch e2⟩, _, T.ki_ValueTooLarge_MixedComparison, ?_⟩
     refine ⟨by show 3 ≤ 1000; decide, ?_⟩
     walk_at "wh"
     refine ⟨⟨_, rfl, fun d2 e2 => nomatch e2⟩, _, T.ki_ValueTooLarge_ValueError, ?_⟩
     exact ⟨by show 4 ≤ 1000; decide, q⟩
   | mix =>
     rw [h] at q
     refine ⟨.inr (.inr (.inl rfl)), fun a d hd => ?_⟩
     cases (show d = none from hd)
     walk_at "wh"
     refine ⟨⟨_, rfl, fun d2 e2 => nomatch e2⟩, _, T.ki_MixedComparison_UnknownColumn, ?_⟩
     walk_at "wh"
     refine wayF ?_
     walk_at "wh"
     refine ⟨⟨_, rfl, fun d2 e2 => nomatch e2⟩, _, T.ki_MixedComparison_StringArithmetic, ?_⟩
     refine ⟨⟨_, rfl, fun d2 e2 => nomatch e2⟩, _, T.ki_MixedComparison_ValueTooLarge, ?_⟩
     refine ⟨⟨_, rfl, fun d2 e2 => nomatch e2⟩, _, T.ki_MixedComparison_MixedComparison, ?_⟩
     refine ⟨by show 3 ≤ 1000; decide, ?_⟩
     walk_at "wh"
     refine ⟨⟨_, rfl, fun d2 e2 => nomatch e2⟩, _, T.ki_MixedComparison_ValueError, ?_⟩
     exact ⟨by show 4 ≤ 1000; decide, q⟩
end
end Va

set_option Elab.async false
set_option linter.all false
set_option maxRecDepth 100000
set_option maxHeartbeats 4000000
namespace Va
open PySem PySem.Spec PyProof.Rows L2 Ind
local macro_rules | `(tactic| walk_at "cn") => `(tactic| first
  | assumption
  | omega
  | exact dm (by omega)
  | exact line (by simp)
  | exact line (by omega)
  | exact line (by simp only [len_app, len_one]; omega)
  | exact small_div (by omega) (by omega)
  | solve_by_elim
  | exact Or.inr ⟨by omega, by omega⟩
  | exact Or.inl ⟨by omega, by omega⟩
  | exact ⟨by omega, by omega⟩
  | decide)
local macro_rules | `(tactic| walk_at "st") => `(tactic| repeat (first
  | refine ⟨_, rfl, ?_⟩
  | refine ⟨_, _, rfl, rfl, ?_⟩
  | refine ⟨_, _, rfl, ?_⟩
  | refine .inl ⟨_, rfl, ?_⟩
  | refine And.intro rfl ?_
  | refine And.intro (by walk_at "cn") ?_))
local macro_rules | `(tactic| walk_at "fz") => `(tactic| repeat (first | exact Fz.refl | apply Fz.upd))
local macro_rules | `(tactic| walk_at "hl") => `(tactic| ((repeat rw [upd_ne (by assumption)]); assumption))
local macro_rules | `(tactic| walk_at "fy") => `(tactic| (intro b o n1 h; (repeat rw [upd_ne n1]); exact h))
local macro_rules | `(tactic| walk_at "wh") => `(tactic| (conv => whnf))
local macro_rules | `(tactic| walk_at "cv") => `(tactic| first
  | rfl
  | assumption
  | omega
  | exact dm (by omega)
  | exact small_div (by omega) (by omega)
  | (simp only [len_app, one_len, len_one, List.length_append, List.length_map, List.length_cons, List.length_nil]; omega)
  | exact Or.inr ⟨by omega, by omega⟩
  | exact Or.inl ⟨by omega, by omega⟩
  | exact ⟨by omega, by omega⟩
  | decide)
local macro_rules | `(tactic| walk_at "vv") => `(tactic| repeat (refine And.intro (by walk_at "cv") ?_))
local macro_rules | `(tactic| walk_at "sk") => `(tactic| repeat (first
  | refine wayT ?_
  | refine wayF ?_
  | refine skipT (by omega) ?_
  | refine skipF (by omega) ?_
  | refine skipT (by decide) ?_
  | refine skipF (by decide) ?_
  | refine ⟨_, (show tyNames _ = some _ from rfl), ?_⟩
  | refine And.intro (by walk_at "cv") ?_))
local macro_rules | `(tactic| walk_at "s0") => `(tactic| first
  | refine wayT ?_
  | refine wayF ?_
  | refine skipT (by omega) ?_
  | refine skipF (by omega) ?_
  | refine skipT (by decide) ?_
  | refine skipF (by decide) ?_
  | refine ⟨_, (show tyNames _ = some _ from rfl), ?_⟩
  | refine And.intro (by walk_at "cv") ?_)
local macro_rules | `(tactic| walk_at "s1") => `(tactic| try (walk_at "s0"; walk_at "wh"))
local macro_rules | `(tactic| walk_at "go") => `(tactic| (walk_at "wh"; walk_at "s1"; walk_at "s1"; walk_at "s1"; walk_at "s1"; walk_at "s1"; walk_at "s1"; walk_at "s1"; walk_at "s1"; walk_at "s1"; walk_at "s1"; walk_at "s1"; walk_at "s1"; walk_at "s1"; walk_at "s1"; walk_at "s1"; walk_at "s1"; walk_at "s1"; walk_at "s1"; walk_at "s1"; walk_at "s1"; walk_at "s1"; walk_at "s1"; walk_at "s1"; walk_at "s1"))

def erD : Option FEr → D
  | none => .non
  | some (.unk n) => .tup [.str "UnknownColumn", .str n]
  | some .sa => .tup [.str "StringArithmetic", .non]
  | some .vtl => .tup [.str "ValueTooLarge", .non]
  | some .mix => .tup [.str "MixedComparison", .non]
def cmT (m : Cm) : Prop := (m.2.1 ≠ [] ∧ m.2.1.length ≤ 20 ∧ ∀ t ∈ m.2.1, t.2.tok) ∧ m.2.2 ≠ [] ∧ m.2.2.length ≤ 20 ∧ ∀ t ∈ m.2.2, t.2.tok
def mFe (n : Nat) : VM := fun ds c Q => ∃ (F : Fm) (cs : List Col), ds = [F.d, colsP cs] ∧ F.dep + 1 ≤ n ∧ cs.length ≤ 20 ∧ (∀ m ∈ F.cms, cmT m) ∧ Q (erD (chE cs F.cms)) c
theorem chE_app (cs : List Col) : ∀ a b : List Cm, chE cs (a ++ b) = match chE cs a with | none => chE cs b | some x => some x
  | [], b => rfl
  | m :: a, b => by
    show (match cmE cs m.2.1 m.2.2 with | none => chE cs (a ++ b) | some x => some x) = match (match cmE cs m.2.1 m.2.2 with | none => chE cs a | some x => some x) with | none => chE cs b | some x => some x
    cases cmE cs m.2.1 m.2.2 with
    | none => exact chE_app cs a b
    | some x => rfl
theorem cmsL_mem : ∀ {fs : List Fm} {f : Fm} {m : Cm}, f ∈ fs → m ∈ f.cms → m ∈ Fm.cmsL fs
  | g :: fs, f, m, h, hm => by
    show m ∈ g.cms ++ Fm.cmsL fs
    rcases List.mem_cons.mp h with rfl | h
    · exact List.mem_append.mpr (.inl hm)
    · exact List.mem_append.mpr (.inr (cmsL_mem h hm))
section
variable {P : Program} {w : World} {K : PySem.W.Frag} {mg : PySem.Str → Option Value} {base : Heap}
theorem rec__law_formula_error (T : Txt P K mg) : ∀ n : Nat, FnOk P w K mg base CX0 (n + 2) T.a__law_formula_error T.d__law_formula_error ["formula", "columns"] (spV (Sx T) (mFe n))
  | 0 => fn_vac fun ds c Q ⟨F, cs, _, h, _⟩ => by omega
  | n + 1 => by
    have G__law_formula_error := rec__law_formula_error T n
    have G__law_kind_of := ok__law_kind_of (P := P) (w := w) (base := base) T
    refine def_v (S := Sx T) (N := N__law_formula_error) T.F__law_formula_error sc__law_formula_error rfl (fun ds c Q h => by obtain ⟨F, cs, rfl, _⟩ := h; first | rfl | assumption) (fun cdv A outer s H E hr => (vss_cons (vs_set (i := 2) sc__law_formula_error.nd rfl (.inl rfl) (fe_ixN (i_ix rfl (hu_of hr)) (pv 0) (be_of ve_int) (fun _ _ => rfl)))
      (vss_cons (vs_if (vb_cmp (o_eq rfl hr.units) (ve_name (pv 2)) (be_of ve_str) (nomark _)) (vss_cons (vs_set (i := 3) sc__law_formula_error.nd rfl (.inl rfl) (fe_of (ve_call G__law_kind_of (hr.mono (by omega)) (by rfl) T.g__law_kind_of T.F__law_kind_of.kp T.b__law_kind_of (va_cons (ve_of (fe_ixN (i_ix rfl (hu_of hr)) (pv 0) (be_of ve_int) (fun _ _ => rfl))) (va_cons (ve_name (pv 1)) va_nil)))))
      (vss_cons (vs_if (vb_cmp o_notN (ve_of (fe_ixN (i_ix rfl (hu_of hr)) (pv 3) (be_of ve_int) (fun _ _ => rfl))) (be_of ve_non) (nomark _)) (vss_one (vs_ret (ve_of (fe_ixN (i_ix rfl (hu_of hr)) (pv 3) (be_of ve_int) (fun _ _ => rfl))))) vss_nil)
      (vss_cons (vs_set (i := 4) sc__law_formula_error.nd rfl (.inl rfl) (fe_of (ve_call G__law_kind_of (hr.mono (by omega)) (by rfl) T.g__law_kind_of T.F__law_kind_of.kp T.b__law_kind_of (va_cons (ve_of (fe_ixN (i_ix rfl (hu_of hr)) (pv 0) (be_of ve_int) (fun _ _ => rfl))) (va_cons (ve_name (pv 1)) va_nil)))))
      (vss_cons (vs_if (vb_w (vw_and (vb_cmp o_isN (ve_of (fe_ixN (i_ix rfl (hu_of hr)) (pv 4) (be_of ve_int) (fun _ _ => rfl))) (be_of ve_non) (nomark _)) (vw_and1 (vb_cmp (o_ne rfl hr.units) (ve_of (fe_ix (i_ix rfl (hu_of hr)) (ve_of (fe_ixN (i_ix rfl (hu_of hr)) (pv 3) (be_of ve_int) (fun _ _ => rfl))) (be_of ve_int) (fun _ _ => rfl))) (be_of (ve_of (fe_ix (i_ix rfl (hu_of hr)) (ve_of (fe_ixN (i_ix rfl (hu_of hr)) (pv 4) (be_of ve_int) (fun _ _ => rfl))) (be_of ve_int) (fun _ _ => rfl)))) (nomark _))))) (vss_one (vs_ret (ve_tup (va_cons ve_str (va_cons ve_non va_nil))))) vss_nil)
      (vss_one (vs_ret (ve_of (fe_ixN (i_ix rfl (hu_of hr)) (pv 4) (be_of ve_int) (fun _ _ => rfl))))))))) vss_nil)
      (vss_cons (vs_set (i := 5) sc__law_formula_error.nd rfl (.inl rfl) (fe_slice rfl (ve_name (pv 0)) (vo_some ve_int) vo_none))
      (vss_cons (vs_if (vb_w (vw_or (vb_cmp (o_eq rfl hr.units) (ve_name (pv 2)) (be_of ve_str) (nomark _)) (vw_or1 (vb_cmp (o_eq rfl hr.units) (ve_name (pv 2)) (be_of ve_str) (nomark _))))) (vss_one (vs_set (i := 5) sc__law_formula_error.nd rfl (.inl rfl) (fe_ixN (i_ix rfl (hu_of hr)) (pv 0) (be_of ve_int) (fun _ _ => rfl)))) vss_nil)
      (vss_cons (vs_for PassesOwn.never rfl (vi_any rfl (ve_name (pv 5))) (vg_name (i := 6) [6] (by decide) sc__law_formula_error.nd rfl (.inl rfl))
      (vss_cons (vs_set (i := 7) sc__law_formula_error.nd rfl (.inl rfl) (fe_of (ve_call G__law_formula_error (hr.mono (by omega)) (by rfl) T.g__law_formula_error T.F__law_formula_error.kp T.b__law_formula_error (va_cons (ve_name (pv 6)) (va_cons (ve_name (pv 1)) va_nil)))))
      (vss_one (vs_if (vb_cmp o_notN (ve_name (pv 7)) (be_of ve_non) (nomark _)) (vss_one (vs_ret (ve_name (pv 7)))) vss_nil))))
      (vss_one (vs_ret ve_non)))))))) ?_
    rintro ds c Q ⟨F, cs, rfl, hd, hc, hm, q⟩
    have hp := Fm.parts_dep F
    have hpc := Fm.parts_cms F
    have key : F.isC = false → ∀ (W : Tx) (ps : List D), ps = F.parts.map Fm.d → ∃ Pq : Nat → En → Prop, Pq 0 ⟨[.v F.d, .v (colsP cs), .v (.str W), .no, .no, .v (.tup ps), .no, .no], c⟩ ∧
        (∀ (i : Nat) (d : D) (E : En), ps[i]? = some d → Pq i E → gN 6 d E fun E2 => sSeq (sSet 7 (ff (vCall (mFe n) (aCons (vName 6) (aCons (vName 1) aNil))))) (sIf (vTest (fz (vOp (isNG fun x => !x) (vName 7) (vC D.non)))) (sRt (vName 7)) sNx)
          { nx := Pq (i + 1), rt := { nx := sRt (vC D.non) (endV Q), rt := (endV Q).rt, bk := (endV Q).bk, ct := (endV Q).ct : Ve }.rt, bk := sRt (vC D.non) (endV Q), ct := Pq (i + 1) } E2) ∧
        ∀ (E : En), Pq ps.length E → sRt (vC D.non) (endV Q) E := by
      intro hC W ps e
      subst e
      rw [hpc hC] at q hm
      refine ⟨fun i E => Iv (∃ y6 y7 : SV, E = ⟨[.v F.d, .v (colsP cs), .v (.str W), .no, .no, .v (.tup (F.parts.map Fm.d)), y6, y7], c⟩ ∧ Q (erD (chE cs (Fm.cmsL (F.parts.drop i)))) c), .a ⟨_, _, rfl, q⟩, ?_, ?_⟩
      · intro i d E ed iv
        obtain ⟨y6, y7, rfl, q⟩ := iv.out
        obtain ⟨f, ef, rfl⟩ := map_get ed
        have mf := List.mem_of_getElem? ef
        have hdr : F.parts.drop i = f :: F.parts.drop (i + 1) := by
          obtain ⟨hi, e⟩ := List.getElem?_eq_some_iff.mp ef
          rw [← e]
          exact List.drop_eq_getElem_cons hi
        have q : Q (erD (chE cs (f.cms ++ Fm.cmsL (F.parts.drop (i + 1))))) c := by rw [hdr] at q; exact q
        rw [chE_app] at q
        walk_at "wh"
        refine ⟨f, cs, rfl, by have := hp f mf; omega, hc, fun m hmm => hm m (cmsL_mem mf hmm), ?_⟩
        cases hx : chE cs f.cms with
        | none =>
          rw [hx] at q
          walk_at "wh"
          refine wayF ?_
          exact .a ⟨_, _, rfl, q⟩
        | some x =>
          rw [hx] at q
          cases x <;> (walk_at "wh"; refine wayT ?_; exact q)
      · intro E iv
        obtain ⟨y6, y7, rfl, q⟩ := iv.out
        rw [List.length_map, List.drop_length] at q
        exact q
    cases F with
    | cmp sg l r =>
      obtain ⟨⟨l1, l2, l3⟩, r1, r2, r3⟩ := hm (sg, l, r) List.mem_cons_self
      have q : Q (erD (match cmE cs l r with | none => none | some x => some x)) c := q
      unfold cmE at q
      walk_at "go"
      refine ⟨l, cs, rfl, l1, l2, hc, l3, ?_⟩
      cases hk : kindK cs l with
      | unk n => rw [hk] at q; walk_at "wh"; refine wayT ?_; exact q
      | sa => rw [hk] at q; walk_at "wh"; refine wayT ?_; exact q
      | vtl => rw [hk] at q; walk_at "wh"; refine wayT ?_; exact q
      | ok a =>
        rw [hk] at q
        walk_at "wh"
        refine wayF ?_
        walk_at "wh"
        refine ⟨r, cs, rfl, r1, r2, hc, r3, ?_⟩
        cases hk2 : kindK cs r with
        | unk n => rw [hk2] at q; walk_at "wh"; refine wayF ?_; walk_at "wh"; refine wayF ?_; exact q
        | sa => rw [hk2] at q; walk_at "wh"; refine wayF ?_; walk_at "wh"; refine wayF ?_; exact q
        | vtl => rw [hk2] at q; walk_at "wh"; refine wayF ?_; walk_at "wh"; refine wayF ?_; exact q
        | ok b =>
          rw [hk2] at q
          have q : Q (erD (match (if a.w = b.w then none else some FEr.mix) with | none => none | some x => some x)) c := q
          have n1 : ¬ ("string" : Tx) = "integer" := by decide
          have n2 : ¬ ("integer" : Tx) = "string" := by decide
          by_cases hw : a.w = b.w
          · rw [if_pos hw] at q
            cases a <;> cases b
            · walk_at "wh"; refine wayT ?_; walk_at "wh"; refine bothN (fun e => absurd rfl e) (fun _ => ?_); exact q
            · exact absurd hw n1
            · exact absurd hw n2
            · walk_at "wh"; refine wayT ?_; walk_at "wh"; refine bothN (fun e => absurd rfl e) (fun _ => ?_); exact q
          · rw [if_neg hw] at q
            cases a <;> cases b
            · exact absurd rfl hw
            · walk_at "wh"; refine wayT ?_; walk_at "wh"; refine bothN (fun _ => ?_) (fun e => absurd e n1); exact ⟨by show 2 ≤ 1000; decide, q⟩
            · walk_at "wh"; refine wayT ?_; walk_at "wh"; refine bothN (fun _ => ?_) (fun e => absurd e n2); exact ⟨by show 2 ≤ 1000; decide, q⟩
            · exact absurd rfl hw
    | neg f =>
      walk_at "go"
      exact key rfl _ _ (cut1 _ _)
    | imp a b =>
      walk_at "go"
      exact key rfl _ _ (cut1 _ _)
    | all fs =>
      walk_at "go"
      exact key rfl _ _ (Fm.dL_map fs)
    | any fs =>
      walk_at "go"
      exact key rfl _ _ (Fm.dL_map fs)
    | tt => walk_at "go"; exact key rfl _ _ rfl
    | ff => walk_at "go"; exact key rfl _ _ rfl
theorem ok__law_formula_error (T : Txt P K mg) : FnOk P w K mg base CX0 25 T.a__law_formula_error T.d__law_formula_error ["formula", "columns"] (spV (Sx T) (mFe 23)) := rec__law_formula_error T 23
end
end Va

set_option Elab.async false
set_option linter.all false
set_option maxRecDepth 100000
set_option maxHeartbeats 4000000
namespace Va
open PySem PySem.Spec PyProof.Rows L2 Ind
local macro_rules | `(tactic| walk_at "cn") => `(tactic| first
  | assumption
  | omega
  | exact dm (by omega)
  | exact line (by simp)
  | exact line (by omega)
  | exact line (by simp only [len_app, len_one]; omega)
  | exact small_div (by omega) (by omega)
  | solve_by_elim
  | exact Or.inr ⟨by omega, by omega⟩
  | exact Or.inl ⟨by omega, by omega⟩
  | exact ⟨by omega, by omega⟩
  | decide)
local macro_rules | `(tactic| walk_at "st") => `(tactic| repeat (first
  | refine ⟨_, rfl, ?_⟩
  | refine ⟨_, _, rfl, rfl, ?_⟩
  | refine ⟨_, _, rfl, ?_⟩
  | refine .inl ⟨_, rfl, ?_⟩
  | refine And.intro rfl ?_
  | refine And.intro (by walk_at "cn") ?_))
local macro_rules | `(tactic| walk_at "fz") => `(tactic| repeat (first | exact Fz.refl | apply Fz.upd))
local macro_rules | `(tactic| walk_at "hl") => `(tactic| ((repeat rw [upd_ne (by assumption)]); assumption))
local macro_rules | `(tactic| walk_at "fy") => `(tactic| (intro b o n1 h; (repeat rw [upd_ne n1]); exact h))
local macro_rules | `(tactic| walk_at "wh") => `(tactic| (conv => whnf))
local macro_rules | `(tactic| walk_at "cv") => `(tactic| first
  | rfl
  | assumption
  | omega
  | exact dm (by omega)
  | exact small_div (by omega) (by omega)
  | (simp only [len_app, one_len, len_one, List.length_append, List.length_map, List.length_cons, List.length_nil]; omega)
  | exact Or.inr ⟨by omega, by omega⟩
  | exact Or.inl ⟨by omega, by omega⟩
  | exact ⟨by omega, by omega⟩
  | decide)
local macro_rules | `(tactic| walk_at "vv") => `(tactic| repeat (refine And.intro (by walk_at "cv") ?_))
local macro_rules | `(tactic| walk_at "sk") => `(tactic| repeat (first
  | refine wayT ?_
  | refine wayF ?_
  | refine skipT (by omega) ?_
  | refine skipF (by omega) ?_
  | refine skipT (by decide) ?_
  | refine skipF (by decide) ?_
  | refine ⟨_, (show tyNames _ = some _ from rfl), ?_⟩
  | refine And.intro (by walk_at "cv") ?_))
local macro_rules | `(tactic| walk_at "s0") => `(tactic| first
  | refine wayT ?_
  | refine wayF ?_
  | refine skipT (by omega) ?_
  | refine skipF (by omega) ?_
  | refine skipT (by decide) ?_
  | refine skipF (by decide) ?_
  | refine ⟨_, (show tyNames _ = some _ from rfl), ?_⟩
  | refine And.intro (by walk_at "cv") ?_)
local macro_rules | `(tactic| walk_at "s1") => `(tactic| try (walk_at "s0"; walk_at "wh"))
local macro_rules | `(tactic| walk_at "go") => `(tactic| (walk_at "wh"; walk_at "s1"; walk_at "s1"; walk_at "s1"; walk_at "s1"; walk_at "s1"; walk_at "s1"; walk_at "s1"; walk_at "s1"; walk_at "s1"; walk_at "s1"; walk_at "s1"; walk_at "s1"; walk_at "s1"; walk_at "s1"; walk_at "s1"; walk_at "s1"; walk_at "s1"; walk_at "s1"; walk_at "s1"; walk_at "s1"; walk_at "s1"; walk_at "s1"; walk_at "s1"; walk_at "s1"))

def mDue : VM := fun ds c Q => ∃ (F : Fm) (cs : List Col), ds = [F.d, colsP cs] ∧ F.dep ≤ 22 ∧ cs.length ≤ 20 ∧ (∀ m ∈ F.cms, cmT m) ∧ Q (toldF (chE cs F.cms)) c
section
variable {P : Program} {w : World} {K : PySem.W.Frag} {mg : PySem.Str → Option Value} {base : Heap}
theorem ok__law_due (T : Txt P K mg) : FnOk P w K mg base CX0 26 T.a__law_due T.d__law_due ["formula", "columns"] (spV (Sx T) mDue) := by
  have G__law_formula_error := ok__law_formula_error (P := P) (w := w) (base := base) T
  refine def_v (S := Sx T) (N := N__law_due) T.F__law_due sc__law_due rfl (fun ds c Q h => by obtain ⟨F, cs, rfl, _⟩ := h; first | rfl | assumption) (fun cdv A outer s H E hr => (vss_cons (vs_set (i := 2) sc__law_due.nd rfl (.inl rfl) (fe_of (ve_call G__law_formula_error hr (by rfl) T.g__law_formula_error T.F__law_formula_error.kp T.b__law_formula_error (va_cons (ve_name (pv 0)) (va_cons (ve_name (pv 1)) va_nil)))))
      (vss_cons (vs_if (vb_cmp o_isN (ve_name (pv 2)) (be_of ve_non) (nomark _)) (vss_one (vs_ret (ve_tup (va_cons ve_str (va_cons ve_non va_nil))))) vss_nil)
      (vss_cons (vs_set (i := 3) sc__law_due.nd rfl (.inl rfl) (fe_lst (va_cons (ve_of (fe_cmp (o_eq rfl hr.units) (ve_of (fe_ixN (i_ix rfl (hu_of hr)) (pv 2) (be_of ve_int) (fun _ _ => rfl))) (be_of ve_str) (nomark _))) (va_cons (ve_of (fe_cmp (o_eq rfl hr.units) (ve_of (fe_ixN (i_ix rfl (hu_of hr)) (pv 2) (be_of ve_int) (fun _ _ => rfl))) (be_of ve_str) (nomark _))) (va_cons (ve_of (fe_cmp (o_eq rfl hr.units) (ve_of (fe_ixN (i_ix rfl (hu_of hr)) (pv 2) (be_of ve_int) (fun _ _ => rfl))) (be_of ve_str) (nomark _))) va_nil)))))
      (vss_one (vs_ret (ve_tup (va_cons ve_str (va_cons (ve_of (fe_ixN (i_ix rfl (hu_of hr)) (pv 2) (be_of ve_int) (fun _ _ => rfl))) (va_cons (ve_name (pv 3)) (va_cons ve_bl va_nil))))))))))) ?_
  rintro ds c Q ⟨F, cs, rfl, hd, hc, hm, q⟩
  walk_at "wh"
  refine ⟨F, cs, rfl, by omega, hc, hm, ?_⟩
  cases h : chE cs F.cms with
  | none =>
    rw [h] at q
    walk_at "wh"
    refine wayT ?_
    walk_at "wh"
    exact ⟨by show 2 ≤ 1000; decide, q⟩
  | some x =>
    rw [h] at q
    have z1 : decide (("UnknownColumn" : Tx) = "StringArithmetic") = false := by decide
    have z2 : decide (("UnknownColumn" : Tx) = "ValueTooLarge") = false := by decide
    have z3 : decide (("UnknownColumn" : Tx) = "MixedComparison") = false := by decide
    have z4 : decide (("StringArithmetic" : Tx) = "StringArithmetic") = true := by decide
    have z5 : decide (("StringArithmetic" : Tx) = "ValueTooLarge") = false := by decide
    have z6 : decide (("StringArithmetic" : Tx) = "MixedComparison") = false := by decide
    have z7 : decide (("ValueTooLarge" : Tx) = "StringArithmetic") = false := by decide
    have z8 : decide (("ValueTooLarge" : Tx) = "ValueTooLarge") = true := by decide
    have z9 : decide (("ValueTooLarge" : Tx) = "MixedComparison") = false := by decide
    have y1 : decide (("MixedComparison" : Tx) = "StringArithmetic") = false := by decide
    have y2 : decide (("MixedComparison" : Tx) = "ValueTooLarge") = false := by decide
    have y3 : decide (("MixedComparison" : Tx) = "MixedComparison") = true := by decide
    cases x with
    | unk n =>
      walk_at "wh"
      refine wayF ?_
      walk_at "wh"
      refine ⟨by show 3 ≤ 1000; decide, ?_⟩
      walk_at "wh"
      refine ⟨by show 4 ≤ 1000; decide, ?_⟩
      show Q (.tup [.str "error", .str n, .lst [.bl (decide (("UnknownColumn" : Tx) = "StringArithmetic")), .bl (decide (("UnknownColumn" : Tx) = "ValueTooLarge")), .bl (decide (("UnknownColumn" : Tx) = "MixedComparison"))], .bl true]) c
      rw [z1, z2, z3]
      exact q
    | sa =>
      walk_at "wh"
      refine wayF ?_
      walk_at "wh"
      refine ⟨by show 3 ≤ 1000; decide, ?_⟩
      walk_at "wh"
      refine ⟨by show 4 ≤ 1000; decide, ?_⟩
      show Q (.tup [.str "error", .non, .lst [.bl (decide (("StringArithmetic" : Tx) = "StringArithmetic")), .bl (decide (("StringArithmetic" : Tx) = "ValueTooLarge")), .bl (decide (("StringArithmetic" : Tx) = "MixedComparison"))], .bl true]) c
      rw [z4, z5, z6]
      exact q
    | vtl =>
      walk_at "wh"
      refine wayF ?_
      walk_at "wh"
      refine ⟨by show 3 ≤ 1000; decide, ?_⟩
      walk_at "wh"
      refine ⟨by show 4 ≤ 1000; decide, ?_⟩
      show Q (.tup [.str "error", .non, .lst [.bl (decide (("ValueTooLarge" : Tx) = "StringArithmetic")), .bl (decide (("ValueTooLarge" : Tx) = "ValueTooLarge")), .bl (decide (("ValueTooLarge" : Tx) = "MixedComparison"))], .bl true]) c
      rw [z7, z8, z9]
      exact q
    | mix =>
      walk_at "wh"
      refine wayF ?_
      walk_at "wh"
      refine ⟨by show 3 ≤ 1000; decide, ?_⟩
      walk_at "wh"
      refine ⟨by show 4 ≤ 1000; decide, ?_⟩
      show Q (.tup [.str "error", .non, .lst [.bl (decide (("MixedComparison" : Tx) = "StringArithmetic")), .bl (decide (("MixedComparison" : Tx) = "ValueTooLarge")), .bl (decide (("MixedComparison" : Tx) = "MixedComparison"))], .bl true]) c
      rw [y1, y2, y3]
      exact q
end
end Va

set_option Elab.async false
set_option linter.all false
set_option maxRecDepth 100000
set_option maxHeartbeats 4000000
namespace Va
open PySem PySem.Spec PyProof.Rows L2 Ind
local macro_rules | `(tactic| walk_at "cn") => `(tactic| first
  | assumption
  | omega
  | exact dm (by omega)
  | exact line (by simp)
  | exact line (by omega)
  | exact line (by simp only [len_app, len_one]; omega)
  | exact small_div (by omega) (by omega)
  | solve_by_elim
  | exact Or.inr ⟨by omega, by omega⟩
  | exact Or.inl ⟨by omega, by omega⟩
  | exact ⟨by omega, by omega⟩
  | decide)
local macro_rules | `(tactic| walk_at "st") => `(tactic| repeat (first
  | refine ⟨_, rfl, ?_⟩
  | refine ⟨_, _, rfl, rfl, ?_⟩
  | refine ⟨_, _, rfl, ?_⟩
  | refine .inl ⟨_, rfl, ?_⟩
  | refine And.intro rfl ?_
  | refine And.intro (by walk_at "cn") ?_))
local macro_rules | `(tactic| walk_at "fz") => `(tactic| repeat (first | exact Fz.refl | apply Fz.upd))
local macro_rules | `(tactic| walk_at "hl") => `(tactic| ((repeat rw [upd_ne (by assumption)]); assumption))
local macro_rules | `(tactic| walk_at "fy") => `(tactic| (intro b o n1 h; (repeat rw [upd_ne n1]); exact h))
local macro_rules | `(tactic| walk_at "wh") => `(tactic| (conv => whnf))
local macro_rules | `(tactic| walk_at "cv") => `(tactic| first
  | rfl
  | assumption
  | omega
  | exact dm (by omega)
  | exact small_div (by omega) (by omega)
  | (simp only [len_app, one_len, len_one, List.length_append, List.length_map, List.length_cons, List.length_nil]; omega)
  | exact Or.inr ⟨by omega, by omega⟩
  | exact Or.inl ⟨by omega, by omega⟩
  | exact ⟨by omega, by omega⟩
  | decide)
local macro_rules | `(tactic| walk_at "vv") => `(tactic| repeat (refine And.intro (by walk_at "cv") ?_))
local macro_rules | `(tactic| walk_at "sk") => `(tactic| repeat (first
  | refine wayT ?_
  | refine wayF ?_
  | refine skipT (by omega) ?_
  | refine skipF (by omega) ?_
  | refine skipT (by decide) ?_
  | refine skipF (by decide) ?_
  | refine ⟨_, (show tyNames _ = some _ from rfl), ?_⟩
  | refine And.intro (by walk_at "cv") ?_))
local macro_rules | `(tactic| walk_at "s0") => `(tactic| first
  | refine wayT ?_
  | refine wayF ?_
  | refine skipT (by omega) ?_
  | refine skipF (by omega) ?_
  | refine skipT (by decide) ?_
  | refine skipF (by decide) ?_
  | refine ⟨_, (show tyNames _ = some _ from rfl), ?_⟩
  | refine And.intro (by walk_at "cv") ?_)
local macro_rules | `(tactic| walk_at "s1") => `(tactic| try (walk_at "s0"; walk_at "wh"))
local macro_rules | `(tactic| walk_at "go") => `(tactic| (walk_at "wh"; walk_at "s1"; walk_at "s1"; walk_at "s1"; walk_at "s1"; walk_at "s1"; walk_at "s1"; walk_at "s1"; walk_at "s1"; walk_at "s1"; walk_at "s1"; walk_at "s1"; walk_at "s1"; walk_at "s1"; walk_at "s1"; walk_at "s1"; walk_at "s1"; walk_at "s1"; walk_at "s1"; walk_at "s1"; walk_at "s1"; walk_at "s1"; walk_at "s1"; walk_at "s1"; walk_at "s1"))

def cmB (m : Cm) : Prop := (m.2.1 ≠ [] ∧ m.2.1.length ≤ 5 ∧ ∀ t ∈ m.2.1, t.2.sm ∧ t.2.tok) ∧ m.2.2 ≠ [] ∧ m.2.2.length ≤ 5 ∧ ∀ t ∈ m.2.2, t.2.sm ∧ t.2.tok
def gdF (F : Fm) : Prop := ∀ m ∈ F.cms, cmB m
theorem gd_L {fs : List Fm} : (∀ f ∈ fs, gdF f) → ∀ m ∈ Fm.cmsL fs, cmB m := by
  induction fs with
  | nil => intro h m hm; cases hm
  | cons f fs ih =>
    intro h m hm
    have hm : m ∈ f.cms ++ Fm.cmsL fs := hm
    rcases List.mem_append.mp hm with z | z
    · exact h f List.mem_cons_self m z
    · exact ih (fun g hg => h g (List.mem_cons_of_mem _ hg)) m z
theorem gd_i {F G : Fm} (f : gdF F) (g : gdF G) : gdF (.imp F G) := fun m hm => by
  have hm : m ∈ F.cms ++ G.cms := hm
  rcases List.mem_append.mp hm with z | z
  · exact f m z
  · exact g m z
def mLf (n : Nat) : VM := fun ds c Q => ∃ (cs : List Col) (d : Nat), ds = [.tape, colsP cs, .int d] ∧ d + 1 ≤ n ∧ cs.length ≤ 9 ∧ (cs ≠ [] ∧ (∀ p ∈ cs, tOk p.1) ∧ ∀ p ∈ cs, p.1.length ≤ 20) ∧ ∀ F : Fm, gdF F → F.dep ≤ d → F.cms.length ≤ 3 ^ d → Q F.d c
def mDeep : VM := fun ds c Q => ∃ (F : Fm), ds = [.tape, F.d] ∧ gdF F ∧ F.dep = 0 ∧ F.cms.length ≤ 1 ∧ ∀ G : Fm, gdF G → G.dep ≤ 20 → G.cms.length ≤ 1 → Q G.d c
section
variable {P : Program} {w : World} {K : PySem.W.Frag} {mg : PySem.Str → Option Value} {base : Heap}
theorem rec__law_loose_formula (T : Txt P K mg) : ∀ n : Nat, FnOk P w K mg base CX0 (n + 6) T.a__law_loose_formula T.d__law_loose_formula ["tape", "columns", "depth"] (spV (Sx T) (mLf n))
  | 0 => fn_vac fun ds c Q ⟨cs, d, _, h, _⟩ => by omega
  | n + 1 => by
    have G__law_loose_formula := rec__law_loose_formula T n
    have G__law_draw := draw_v (S := Sx T) (ok__law_draw (P := P) (w := w) (base := base) T)
    have G__law_loose_expression := ok__law_loose_expression (P := P) (w := w) (base := base) T
    refine def_v (S := Sx T) (N := N__law_loose_formula) T.F__law_loose_formula sc__law_loose_formula rfl (fun ds c Q h => by obtain ⟨cs, d, rfl, _⟩ := h; first | rfl | assumption) (fun cdv A outer s H E hr => (vss_cons (vs_set (i := 3) sc__law_loose_formula.nd rfl (.inl rfl) (fe_of (ve_call G__law_draw (hr.mono (by omega)) (by rfl) T.g__law_draw T.F__law_draw.kp T.b__law_draw (va_cons (ve_name (pv 0)) (va_cons ve_int va_nil)))))
      (vss_cons (vs_if (vb_w (vw_and (vb_cmp o_gt (ve_name (pv 2)) (be_of ve_int) (nomark _)) (vw_and1 (vb_cmp (o_eq rfl hr.units) (ve_name (pv 3)) (be_of ve_int) (nomark _))))) (vss_one (vs_ret (ve_tup (va_cons ve_str (va_cons (ve_call G__law_loose_formula (hr.mono (by omega)) (by rfl) T.g__law_loose_formula T.F__law_loose_formula.kp T.b__law_loose_formula (va_cons (ve_name (pv 0)) (va_cons (ve_name (pv 1)) (va_cons (ve_of (fe_op o_sub (ve_name (pv 2)) (be_of ve_int))) va_nil)))) va_nil))))) vss_nil)
      (vss_cons (vs_if (vb_w (vw_and (vb_cmp o_gt (ve_name (pv 2)) (be_of ve_int) (nomark _)) (vw_and1 (vb_cmp (o_eq rfl hr.units) (ve_name (pv 3)) (be_of ve_int) (nomark _))))) (vss_cons (vs_set (i := 4) sc__law_loose_formula.nd rfl (.inl rfl) (fe_of (ve_call G__law_loose_formula (hr.mono (by omega)) (by rfl) T.g__law_loose_formula T.F__law_loose_formula.kp T.b__law_loose_formula (va_cons (ve_name (pv 0)) (va_cons (ve_name (pv 1)) (va_cons (ve_of (fe_op o_sub (ve_name (pv 2)) (be_of ve_int))) va_nil))))))
      (vss_one (vs_ret (ve_tup (va_cons ve_str (va_cons (ve_name (pv 4)) (va_cons (ve_call G__law_loose_formula (hr.mono (by omega)) (by rfl) T.g__law_loose_formula T.F__law_loose_formula.kp T.b__law_loose_formula (va_cons (ve_name (pv 0)) (va_cons (ve_name (pv 1)) (va_cons (ve_of (fe_op o_sub (ve_name (pv 2)) (be_of ve_int))) va_nil)))) va_nil))))))) vss_nil)
      (vss_cons (vs_if (vb_w (vw_and (vb_cmp o_gt (ve_name (pv 2)) (be_of ve_int) (nomark _)) (vw_and1 (vb_cmp o_lt (ve_name (pv 3)) (be_of ve_int) (nomark _))))) (vss_cons (vs_fz 2 (vs_fz 1 (vs_fz 0 (vs_setLc (i := 5) (own := [("k", 8)]) rfl sc__law_loose_formula.nd rfl rfl (sw_true rfl rfl rfl (by decide +kernel)) (vi_range1 (by rfl) T.z_range (va_cons (ve_of (fe_ix (i_ix rfl (hu_of hr)) (ve_of (fe_lst (va_cons ve_int (va_cons ve_int (va_cons ve_int va_nil))))) (be_of (ve_call G__law_draw (hr.mono (by omega)) (by rfl) T.g__law_draw T.F__law_draw.kp T.b__law_draw (va_cons (ve_name (pv 0)) (va_cons ve_int va_nil)))) (fun _ _ => rfl))) va_nil)) (blkOk_by (own := [("k", 8)]) (N := N__law_loose_formula) (sc := defScope s__law_loose_formula) (by decide +kernel)) (fun _ _ _ _ _ => (vg_name (i := 8) [8] (by decide) sc__law_loose_formula.nd rfl (.inl rfl))) (fun _ _ _ _ _ => vts_nil) (fun _ _ _ _ _ => (ve_call G__law_loose_formula (hr.mono (by omega)) (by rfl) T.g__law_loose_formula T.F__law_loose_formula.kp T.b__law_loose_formula (va_cons (ve_name (pv 0)) (va_cons (ve_name (pv 1)) (va_cons (ve_of (fe_op o_sub (ve_name (pv 2)) (be_of ve_int))) va_nil)))))))))
      (vss_one (vs_ret (ve_tup (va_cons (ve_of (fe_ix (i_ix rfl (hu_of hr)) (ve_of (fe_lst (va_cons ve_str (va_cons ve_str (va_cons ve_str va_nil))))) (be_of (ve_of (fe_op o_sub (ve_name (pv 3)) (be_of ve_int)))) (fun _ _ => rfl))) (va_cons (ve_of (pe_CB1 (c_tupleD rfl rfl) (fun hc ha => pe_callTy hc (by rfl) T.z_tuple boot_tuple ha) (be_name (pv 5)))) va_nil)))))) vss_nil)
      (vss_cons (vs_if (vb_cmp (o_eq rfl hr.units) (ve_name (pv 3)) (be_of ve_int) (nomark _)) (vss_one (vs_ret (ve_of (fe_ix (i_ix rfl (hu_of hr)) (ve_of (fe_lst (va_cons (ve_tup (va_cons ve_str va_nil)) (va_cons (ve_tup (va_cons ve_str va_nil)) va_nil)))) (be_of (ve_call G__law_draw (hr.mono (by omega)) (by rfl) T.g__law_draw T.F__law_draw.kp T.b__law_draw (va_cons (ve_name (pv 0)) (va_cons ve_int va_nil)))) (fun _ _ => rfl))))) vss_nil)
      (vss_cons (vs_set (i := 6) sc__law_loose_formula.nd rfl (.inl rfl) (fe_ix (i_ix rfl (hu_of hr)) (ve_of (fe_lst (va_cons ve_str (va_cons ve_str (va_cons ve_str va_nil))))) (be_of (ve_call G__law_draw (hr.mono (by omega)) (by rfl) T.g__law_draw T.F__law_draw.kp T.b__law_draw (va_cons (ve_name (pv 0)) (va_cons ve_int va_nil)))) (fun _ _ => rfl)))
      (vss_cons (vs_set (i := 7) sc__law_loose_formula.nd rfl (.inl rfl) (fe_ix (i_ix rfl (hu_of hr)) (ve_of (fe_lst (va_cons ve_str (va_cons ve_str (va_cons ve_str (va_cons ve_str (va_cons ve_str (va_cons ve_str va_nil)))))))) (be_of (ve_call G__law_draw (hr.mono (by omega)) (by rfl) T.g__law_draw T.F__law_draw.kp T.b__law_draw (va_cons (ve_name (pv 0)) (va_cons ve_int va_nil)))) (fun _ _ => rfl)))
      (vss_cons (vs_set (i := 4) sc__law_loose_formula.nd rfl (.inl rfl) (fe_of (ve_call G__law_loose_expression (hr.mono (by omega)) (by rfl) T.g__law_loose_expression T.F__law_loose_expression.kp T.b__law_loose_expression (va_cons (ve_name (pv 0)) (va_cons (ve_name (pv 1)) (va_cons (ve_name (pv 6)) va_nil))))))
      (vss_cons (vs_if (vb_cmp (o_eq rfl hr.units) (ve_call G__law_draw (hr.mono (by omega)) (by rfl) T.g__law_draw T.F__law_draw.kp T.b__law_draw (va_cons (ve_name (pv 0)) (va_cons ve_int va_nil))) (be_of ve_int) (nomark _)) (vss_one (vs_set (i := 6) sc__law_loose_formula.nd rfl (.inl rfl) (fe_ix (i_ix rfl (hu_of hr)) (ve_of (fe_lst (va_cons ve_str (va_cons ve_str va_nil)))) (be_of (ve_of (pe_CB1 c_int (fun hc ha => pe_callTy hc (by rfl) T.z_int boot_int ha) (be_of (ve_of (fe_cmp (o_eq rfl hr.units) (ve_name (pv 6)) (be_of ve_str) (nomark _))))))) (fun _ _ => rfl)))) vss_nil)
      (vss_one (vs_ret (ve_tup (va_cons ve_str (va_cons (ve_name (pv 7)) (va_cons (ve_name (pv 4)) (va_cons (ve_call G__law_loose_expression (hr.mono (by omega)) (by rfl) T.g__law_loose_expression T.F__law_loose_expression.kp T.b__law_loose_expression (va_cons (ve_name (pv 0)) (va_cons (ve_name (pv 1)) (va_cons (ve_name (pv 6)) va_nil)))) va_nil))))))))))))))))) ?_
    rintro ds c Q ⟨cs, d, rfl, hd, hl, ct, q⟩
    refine ⟨10, rfl, Nat.zero_le _, dm (by decide), fun r hr => ?_⟩
    have hr : r < 10 := by omega
    cases d with
    | zero =>
      walk_at "sk"
      refine bothD (fun e5 => ?_) (fun e5 => ?_)
      · walk_at "sk"
        refine ⟨2, rfl, Nat.zero_le _, dm (by decide), fun r2 hr2 => ?_⟩
        obtain ⟨x, ex, mx⟩ := pickD (l := [D.tup [.str "true"], .tup [.str "false"]]) (i := r2) (by simp; omega)
        walk_at "wh"
        refine withD_of ex ?_
        simp only [List.mem_cons, List.not_mem_nil, or_false] at mx
        rcases mx with rfl | rfl
        · exact q .tt (fun m hm => nomatch hm) (Nat.zero_le _) (Nat.zero_le _)
        · exact q .ff (fun m hm => nomatch hm) (Nat.zero_le _) (Nat.zero_le _)
      · walk_at "wh"
        refine ⟨by decide, ?_⟩
        refine ⟨3, rfl, Nat.zero_le _, dm (by decide), fun r2 hr2 => ?_⟩
        obtain ⟨x, ex, mx⟩ := pickD (l := [D.str "integer", .str "integer", .str "string"]) (i := r2) (by simp; omega)
        obtain ⟨w, rfl, hw⟩ := str_mem (P := fun w => w = "string" ∨ w = "integer") mx (by simp)
        walk_at "wh"
        refine withD_of ex ?_
        walk_at "wh"
        refine ⟨by decide, ?_⟩
        refine ⟨6, rfl, Nat.zero_le _, dm (by decide), fun r3 hr3 => ?_⟩
        obtain ⟨x, ex, mx⟩ := pickD (l := ops.map D.str) (i := r3) (by show r3 < 6; omega)
        obtain ⟨sg, ms, rfl⟩ := List.mem_map.mp mx
        walk_at "wh"
        refine withD_of ex ?_
        refine ⟨cs, w, rfl, hw, ct.1, hl, ct.2.1, ct.2.2, fun el l1 l2 l3 => ?_⟩
        walk_at "wh"
        refine ⟨16, rfl, Nat.zero_le _, dm (by decide), fun r4 hr4 => ?_⟩
        have fin : ∀ er : Ex, er ≠ [] → er.length ≤ 5 → (∀ t ∈ er, t.2.sm ∧ t.2.tok) → Q (Fm.cmp sg el er).d c := fun er r1 r2 r3 =>
          q (.cmp sg el er) (fun m hm => by cases List.mem_singleton.mp hm; exact ⟨⟨l1, l2, l3⟩, r1, r2, r3⟩) (Nat.zero_le _) (Nat.one_le_pow _ _ (by decide))
        walk_at "wh"
        refine bothD (fun e7 => ?_) (fun e7 => ?_)
        · rcases hw with rfl | rfl
          · walk_at "wh"
            refine ⟨by show 2 ≤ 1000; decide, ?_⟩
            walk_at "wh"
            refine ⟨cs, "integer", rfl, .inr rfl, ct.1, hl, ct.2.1, ct.2.2, fun er r1 r2 r3 => ?_⟩
            refine ⟨by show 4 ≤ 1000; decide, ?_⟩
            exact fin er r1 r2 r3
          · walk_at "wh"
            refine ⟨by show 2 ≤ 1000; decide, ?_⟩
            walk_at "wh"
            refine ⟨cs, "string", rfl, .inl rfl, ct.1, hl, ct.2.1, ct.2.2, fun er r1 r2 r3 => ?_⟩
            refine ⟨by show 4 ≤ 1000; decide, ?_⟩
            exact fin er r1 r2 r3
        · walk_at "wh"
          refine ⟨cs, w, rfl, hw, ct.1, hl, ct.2.1, ct.2.2, fun er r1 r2 r3 => ?_⟩
          refine ⟨by show 4 ≤ 1000; decide, ?_⟩
          exact fin er r1 r2 r3
    | succ d =>
      have hd1 : ((d + 1 : Nat) : Int) - 1 = (d : Nat) := by omega
      walk_at "sk"
      walk_at "wh"
      refine bothD (fun r0 => ?_) (fun r0 => ?_)
      · walk_at "wh"
        refine ⟨cs, d, congrArg (fun z => [D.tape, colsP cs, D.int z]) hd1, by omega, hl, ct, fun F f1 f2 f3 => ?_⟩
        refine ⟨by show 2 ≤ 1000; decide, ?_⟩
        exact q (.neg F) f1 (Nat.succ_le_succ f2) (by show F.cms.length ≤ _; rw [Nat.pow_succ]; omega)
      · walk_at "sk"
        walk_at "wh"
        refine bothD (fun r1 => ?_) (fun r1 => ?_)
        · walk_at "wh"
          refine ⟨cs, d, congrArg (fun z => [D.tape, colsP cs, D.int z]) hd1, by omega, hl, ct, fun F f1 f2 f3 => ?_⟩
          walk_at "wh"
          refine ⟨cs, d, congrArg (fun z => [D.tape, colsP cs, D.int z]) hd1, by omega, hl, ct, fun G g1 g2 g3 => ?_⟩
          refine ⟨by show 3 ≤ 1000; decide, ?_⟩
          exact q (.imp F G) (gd_i f1 g1) (Nat.succ_le_succ (Nat.max_le.mpr ⟨f2, g2⟩)) (by show (F.cms ++ G.cms).length ≤ _; rw [List.length_append, Nat.pow_succ]; omega)
        · walk_at "sk"
          walk_at "wh"
          refine bothD (fun r5 => ?_) (fun r5 => ?_)
          · walk_at "wh"
            refine ⟨by decide, 3, rfl, Nat.zero_le _, dm (by decide), fun r2 hr2 => ?_⟩
            obtain ⟨z, ez, mz⟩ := pickD (l := [D.int 2, .int 2, .int 3]) (i := r2) (by simp; omega)
            obtain ⟨m, rfl, hm⟩ := int_mem (P := fun i => 2 ≤ i ∧ i ≤ 3) mz (by simp)
            walk_at "wh"
            refine withD_of ez ?_
            walk_at "wh"
            refine ⟨⟨by omega, by omega⟩, by simp only [rng, List.length_map, List.length_range]; omega, fun i acc k => Iv (∃ fs : List Fm, acc = fs.map Fm.d ∧ fs.length = i ∧ (∀ f ∈ fs, f.dep ≤ d) ∧ (∀ f ∈ fs, gdF f) ∧ (∀ f ∈ fs, f.cms.length ≤ 3 ^ d) ∧ k = c), .a ⟨[], rfl, rfl, by simp, by simp, by simp, rfl⟩, ?_, ?_⟩
            · intro i e acc k ed iv la
              obtain ⟨fs, rfl, rfl, h1, h2, h3, rfl⟩ := iv.out
              refine wayT ?_
              refine ⟨cs, d, congrArg (fun z => [D.tape, colsP cs, D.int z]) hd1, by omega, hl, ct, fun F f1 f2 f3 => ?_⟩
              exact .a ⟨fs ++ [F], by rw [List.map_append]; rfl, by simp, fun g hg => by rcases List.mem_append.mp hg with h | h; exact h1 g h; cases List.mem_singleton.mp h; exact f2, fun g hg => by rcases List.mem_append.mp hg with h | h; exact h2 g h; cases List.mem_singleton.mp h; exact f1, fun g hg => by rcases List.mem_append.mp hg with h | h; exact h3 g h; cases List.mem_singleton.mp h; exact f3, rfl⟩
            · intro acc k iv la
              obtain ⟨fs, rfl, hl', h1, h2, h3, rfl⟩ := iv.out
              simp only [rng, List.length_map, List.length_range] at hl'
              have hD := Fm.depL_le h1
              have hO := gd_L h2
              have hC := Fm.cmsL_len h3
              have hM : fs.length * 3 ^ d ≤ 3 * 3 ^ d := Nat.mul_le_mul_right _ (by omega)
              have hP : (Fm.cmsL fs).length ≤ 3 ^ (d + 1) := by rw [Nat.pow_succ]; omega
              obtain ⟨x, ex, mx⟩ := pickI (l := [D.str "and", .str "or", .str "and"]) (i := (r : Int) - 2) (by omega) (by simp; omega)
              walk_at "vv"
              refine withD_of ex ?_
              refine ⟨by show 2 ≤ 1000; decide, ?_⟩
              simp only [List.mem_cons, List.not_mem_nil, or_false] at mx
              have qa : Q (.tup [.str "and", .tup (fs.map Fm.d)]) k := by
                rw [← Fm.dL_map]
                exact q (.all fs) hO (Nat.succ_le_succ hD) hP
              rcases mx with rfl | rfl | rfl
              · exact qa
              · show Q (.tup [.str "or", .tup (fs.map Fm.d)]) k
                rw [← Fm.dL_map]
                exact q (.any fs) hO (Nat.succ_le_succ hD) hP
              · exact qa
          · walk_at "sk"
            walk_at "wh"
            refine bothD (fun e5 => ?_) (fun e5 => ?_)
            · walk_at "sk"
              refine ⟨2, rfl, Nat.zero_le _, dm (by decide), fun r2 hr2 => ?_⟩
              obtain ⟨x, ex, mx⟩ := pickD (l := [D.tup [.str "true"], .tup [.str "false"]]) (i := r2) (by simp; omega)
              walk_at "wh"
              refine withD_of ex ?_
              simp only [List.mem_cons, List.not_mem_nil, or_false] at mx
              rcases mx with rfl | rfl
              · exact q .tt (fun m hm => nomatch hm) (Nat.zero_le _) (Nat.zero_le _)
              · exact q .ff (fun m hm => nomatch hm) (Nat.zero_le _) (Nat.zero_le _)
            · walk_at "wh"
              refine ⟨by decide, ?_⟩
              refine ⟨3, rfl, Nat.zero_le _, dm (by decide), fun r2 hr2 => ?_⟩
              obtain ⟨x, ex, mx⟩ := pickD (l := [D.str "integer", .str "integer", .str "string"]) (i := r2) (by simp; omega)
              obtain ⟨w, rfl, hw⟩ := str_mem (P := fun w => w = "string" ∨ w = "integer") mx (by simp)
              walk_at "wh"
              refine withD_of ex ?_
              walk_at "wh"
              refine ⟨by decide, ?_⟩
              refine ⟨6, rfl, Nat.zero_le _, dm (by decide), fun r3 hr3 => ?_⟩
              obtain ⟨x, ex, mx⟩ := pickD (l := ops.map D.str) (i := r3) (by show r3 < 6; omega)
              obtain ⟨sg, ms, rfl⟩ := List.mem_map.mp mx
              walk_at "wh"
              refine withD_of ex ?_
              refine ⟨cs, w, rfl, hw, ct.1, hl, ct.2.1, ct.2.2, fun el l1 l2 l3 => ?_⟩
              walk_at "wh"
              refine ⟨16, rfl, Nat.zero_le _, dm (by decide), fun r4 hr4 => ?_⟩
              have fin : ∀ er : Ex, er ≠ [] → er.length ≤ 5 → (∀ t ∈ er, t.2.sm ∧ t.2.tok) → Q (Fm.cmp sg el er).d c := fun er r1 r2 r3 =>
                q (.cmp sg el er) (fun m hm => by cases List.mem_singleton.mp hm; exact ⟨⟨l1, l2, l3⟩, r1, r2, r3⟩) (Nat.zero_le _) (Nat.one_le_pow _ _ (by decide))
              walk_at "wh"
              refine bothD (fun e7 => ?_) (fun e7 => ?_)
              · rcases hw with rfl | rfl
                · walk_at "wh"
                  refine ⟨by show 2 ≤ 1000; decide, ?_⟩
                  walk_at "wh"
                  refine ⟨cs, "integer", rfl, .inr rfl, ct.1, hl, ct.2.1, ct.2.2, fun er r1 r2 r3 => ?_⟩
                  refine ⟨by show 4 ≤ 1000; decide, ?_⟩
                  exact fin er r1 r2 r3
                · walk_at "wh"
                  refine ⟨by show 2 ≤ 1000; decide, ?_⟩
                  walk_at "wh"
                  refine ⟨cs, "string", rfl, .inl rfl, ct.1, hl, ct.2.1, ct.2.2, fun er r1 r2 r3 => ?_⟩
                  refine ⟨by show 4 ≤ 1000; decide, ?_⟩
                  exact fin er r1 r2 r3
              · walk_at "wh"
                refine ⟨cs, w, rfl, hw, ct.1, hl, ct.2.1, ct.2.2, fun er r1 r2 r3 => ?_⟩
                refine ⟨by show 4 ≤ 1000; decide, ?_⟩
                exact fin er r1 r2 r3
theorem ok__law_loose_formula (T : Txt P K mg) : FnOk P w K mg base CX0 10 T.a__law_loose_formula T.d__law_loose_formula ["tape", "columns", "depth"] (spV (Sx T) (mLf 4)) := rec__law_loose_formula T 4
theorem ok__law_deep (T : Txt P K mg) : FnOk P w K mg base CX0 2 T.a__law_deep T.d__law_deep ["tape", "formula"] (spV (Sx T) mDeep) := by
  have G__law_draw := draw_v (S := Sx T) (ok__law_draw (P := P) (w := w) (base := base) T)
  refine def_v (S := Sx T) (N := N__law_deep) T.F__law_deep sc__law_deep rfl (fun ds c Q h => by obtain ⟨F, rfl, _⟩ := h; first | rfl | assumption) (fun cdv A outer s H E hr => (vss_cons (vs_set (i := 2) sc__law_deep.nd rfl (.inl rfl) (fe_of (ve_call G__law_draw hr (by rfl) T.g__law_draw T.F__law_draw.kp T.b__law_draw (va_cons (ve_name (pv 0)) (va_cons ve_int va_nil)))))
      (vss_cons (vs_for PassesOwn.never rfl (vi_range1 (by rfl) T.z_range (va_cons ve_int va_nil)) (vg_name (i := 3) [3] (by decide) sc__law_deep.nd rfl (.inl rfl))
      (vss_one (vs_set (i := 1) sc__law_deep.nd rfl (.inl rfl) (fe_ix (i_ix rfl (hu_of hr)) (ve_of (fe_lst (va_cons (ve_tup (va_cons ve_str (va_cons (ve_name (pv 1)) va_nil))) (va_cons (ve_tup (va_cons ve_str (va_cons (ve_tup (va_cons ve_str va_nil)) (va_cons (ve_name (pv 1)) va_nil)))) (va_cons (ve_tup (va_cons ve_str (va_cons (ve_name (pv 1)) (va_cons (ve_tup (va_cons ve_str va_nil)) va_nil)))) va_nil))))) (be_name (pv 2)) (fun _ _ => rfl)))))
      (vss_one (vs_ret (ve_name (pv 1))))))) ?_
  rintro ds c Q ⟨F0, rfl, h0, h1, hs, q⟩
  refine ⟨3, rfl, Nat.zero_le _, dm (by decide), fun r hr => ?_⟩
  have hr : r < 3 := by omega
  walk_at "vv"
  refine ⟨fun i E => Iv (∃ (F : Fm) (y : SV), E = ⟨[.v .tape, .v F.d, .v (.int r), y], c⟩ ∧ gdF F ∧ F.dep ≤ i ∧ F.cms.length ≤ 1), .a ⟨F0, _, rfl, h0, by omega, hs⟩, ?_, ?_⟩
  · intro i d E ed iv
    obtain ⟨F, y, rfl, f1, f2, f3⟩ := iv.out
    obtain ⟨x, ex, mx⟩ := pickD (l := [(Fm.neg F).d, (Fm.imp .tt F).d, (Fm.imp F .ff).d]) (i := r) (by simp; omega)
    walk_at "vv"
    refine withD_of ex ?_
    simp only [List.mem_cons, List.not_mem_nil, or_false] at mx
    rcases mx with rfl | rfl | rfl
    · exact .a ⟨.neg F, _, rfl, f1, Nat.succ_le_succ f2, f3⟩
    · exact .a ⟨.imp .tt F, _, rfl, gd_i (fun m hm => nomatch hm) f1, Nat.succ_le_succ (Nat.max_le.mpr ⟨Nat.zero_le _, f2⟩), f3⟩
    · exact .a ⟨.imp F .ff, _, rfl, gd_i f1 (fun m hm => nomatch hm), Nat.succ_le_succ (Nat.max_le.mpr ⟨f2, Nat.zero_le _⟩), by show (F.cms ++ []).length ≤ 1; rw [List.append_nil]; exact f3⟩
  · intro E iv
    obtain ⟨F, y, rfl, f1, f2, f3⟩ := iv.out
    exact q F f1 f2 (by omega)
end
end Va

set_option Elab.async false
set_option linter.all false
set_option maxRecDepth 100000
set_option maxHeartbeats 4000000
namespace Va
open PySem PySem.Spec PyProof.Rows L2 Ind
/-! ### a plain tuple + a tuple: a plain tuple -/
section
variable {X : Cx} {S : Sg}
theorem op_catP : OpR X (binaryOp .Add) (fun x y H Q => ∃ a b xs ys, x = .ref a ∧ y = .ref b ∧ SqT X.K H a xs ∧ SqT X.K H b ys ∧ xs ≠ [] ∧ ys ≠ [] ∧ xs.length + ys.length ≤ sizeLine ∧ ∀ l o, H l = none → o.dict = none → Q (.ref l) (upd H l (.frz o (.tup (xs ++ ys))))) := by
  intro pins s σ H x y v u Q I rx ry h
  obtain ⟨a, b, xs, ys, rfl, rfl, ha, hb, hx, hy, hz, q⟩ := h
  cases rx
  cases ry
  obtain ⟨its, r1, p1, _⟩ := I.tuple ha
  obtain ⟨its2, r2, p2, _⟩ := I.tuple hb
  refine HT.cat_tup p1 p2 (fun z => hx (r1.nil_iff.mp z)) (fun z => absurd (r2.nil_iff.mp z) hy) (fun z => ?_) (by rw [← r1.length, ← r2.length]; exact hz)
  let o : Obj := { cls := .type "tuple", data := .seq (its ++ its2).toArray }
  have at_ : (s.heap.push o).get? s.heap.objs.size = some o := Heap.get?_push_size _ rfl
  refine ⟨.ref s.heap.objs.size, _, I.laid (t' := s.toks) (o := .frz o (.tup (xs ++ ys))) (fun b ob q => Heap.get?_push_of_some _ q) (Nat.le_refl _) ?_, rfl, q _ o (I.hok.fresh (Nat.le_refl _)) rfl⟩
  exact ⟨at_, by rw [List.length_append]; exact hz, _, r1.append r2, IsTup.new _ _⟩
def addP : VO := fun d e Q => match d, e with
  | .ptp xs, .tup ys => xs ≠ [] ∧ ys ≠ [] ∧ xs.length + ys.length ≤ 1000000 ∧ Q (.v (.ptp (xs ++ ys)))
  | d, e => addG d e Q
theorem o_addP (hK : S.K = X.K) : OpV S X (binaryOp .Add) addP := by
  obtain ⟨R, hR, h⟩ := o_add (X := X) (S := S) hK
  refine ⟨_, hR.or op_catP, ?_⟩
  intro Γ H x y d e Q Q0 eK hx hy hg k
  have eK' : X.K = Γ.K := (eK.trans hK).symm
  unfold addP at hg
  split at hg
  · obtain ⟨a, o1, xs, rfl, h1, _, h2⟩ := (show Rp Γ.K Γ.tp H x (.ptp _) by cases hx with | v h => exact h).ptp_inv
    obtain ⟨b, ys, rfl, h3, h4⟩ := hy.tup
    obtain ⟨n1, n2, hz, hg⟩ := hg
    refine .inr ⟨a, b, xs, ys, rfl, rfl, ?_, by rw [eK']; exact h3, ?_, ?_, million (by rw [h2.len, h4.len]; exact hz), fun l o nl nd => ?_⟩
    · exact .inl (.inr ⟨_, h1⟩)
    · intro z; subst z; cases h2; exact n1 rfl
    · intro z; subst z; cases h4; exact n2 rfl
    · have sm := same_upd (o := .frz o (.tup (xs ++ ys))) nl
      exact k _ hg _ _ sm (.ptp upd_same nd (RpL.kq (.same sm) _ _ (h2.app h4)))
  · exact .inl (h _ _ _ _ _ _ _ _ eK hx hy hg k)
/-! ### text * int -/
def repT (x : Tx) (n : Nat) : Tx := ⟨(List.replicate n x.cps).foldl (· ++ ·) #[]⟩
theorem op_mulS : OpR X (binaryOp .Mult) (fun x y H Q => ∃ i n, x = .str i ∧ y = .int n ∧ 2 ≤ n ∧ n ≤ 1000 ∧ 1 ≤ i.length ∧ i.length ≤ 1000 ∧ (repT i n.toNat).length ≤ 1000000 ∧ Q (.str (repT i n.toNat)) H) := by
  intro pins s σ H x y v u Q I rx ry h
  obtain ⟨i, n, rfl, rfl, h1, h2, h3, h4, h5, q⟩ := h
  obtain ⟨t, rfl⟩ := rx
  obtain ⟨t', rfl⟩ := ry
  have c1 : ¬ n < 1 := by omega
  have c2 : (n == 1 || i.length == 0) = false := by
    rw [Bool.or_eq_false_iff]
    exact ⟨by rw [beq_eq_false_iff_ne]; omega, by rw [beq_eq_false_iff_ne]; omega⟩
  refine PySem.P.mul_str (by rw [decide_eq_false (by omega), decide_eq_false (by omega)]; rfl) (fun _ _ z => ?_) (fun _ _ => ?_) ?_
  · have : (1000 : Int) ≤ (2 ^ 63 - 1) / n := Int.le_ediv_of_mul_le (by omega) (by omega)
    omega
  · have : i.length * n.toNat ≤ 1000 * 1000 := Nat.mul_le_mul h4 (by omega)
    exact decide_eq_false (Nat.not_lt.mpr (million (by omega)))
  · rw [if_neg c1, if_neg (by rw [c2]; exact Bool.false_ne_true)]
    exact ⟨million h5, .str (repT i n.toNat), H, I.tok _, ⟨_, rfl⟩, q⟩
def mulS : VO := fun d e Q => match d, e with
  | .str x, .int n => 2 ≤ n ∧ n ≤ 1000 ∧ 1 ≤ x.length ∧ x.length ≤ 1000 ∧ (repT x n.toNat).length ≤ 1000000 ∧ Q (.v (.str (repT x n.toNat)))
  | _, _ => False
theorem o_mulS : OpV S X (binaryOp .Mult) mulS := by
  refine ⟨_, op_mulS, ?_⟩
  intro Γ H x y d e Q Q0 eK hx hy hg k
  unfold mulS at hg
  split at hg
  · exact ⟨_, _, hx.str, hy.int, hg.1, hg.2.1, hg.2.2.1, hg.2.2.2.1, hg.2.2.2.2.1, k _ hg.2.2.2.2.2 _ _ (Same.refl _) (.str _)⟩
  · exact hg.elim
end
end Va

set_option Elab.async false
set_option linter.all false
set_option maxRecDepth 100000
set_option maxHeartbeats 4000000
namespace Va
open PySem PySem.Spec PyProof.Rows L2 Ind
section
variable {X : Cx} {S : Sg} {e : Expr} {p p2 pos pos2 : Pos}
/-- tuple(reversed(x)): the new object is known to have no dict -/
def tTupRevZ (K : PySem.W.Frag) (te : TE) : TE := fun σ H Q => te σ H fun v H1 => ∃ (a : Addr) (xs : List V), v = .ref a ∧ SqL K H1 a xs ∧ ∀ q o, H1 q = none → o.dict = none → Q (.ref q) (upd H1 q (.frz o (.tup xs.reverse)))
theorem pe_tupRevZ {te : TE} (hc : X.calm = true) (hg : Gl X "tuple") (hm : X.mg "tuple" = none) (hg2 : Gl X "reversed") (hm2 : X.mg "reversed" = none) (he : PE X e te)
    (u1 : starEach [e] X.env = (false, eval e X.env) :: starEach [] X.env := by rfl) (u2 : starEach [.Call (.Name "reversed" p2) [e] [] pos2] X.env = (false, eval (.Call (.Name "reversed" p2) [e] [] pos2) X.env) :: starEach [] X.env := by rfl) :
    PE X (.Call (.Name "tuple" p) [.Call (.Name "reversed" p2) [e] [] pos2] [] pos) (tTupRevZ X.K te) := by
  constructor
  intro pins s σ H Q I h
  refine Call_ (ld_blt I hg hm boot_tuple (PyProof.Rows.callWith_type1 (args_cons (Call_ (ld_blt I hg2 hm2 PyProof.Rows.boot_reversed (PyProof.Rows.callWith_type1 (args_cons (thn (he.run pins s σ H _ I h) fun u s1 got => args_nil ?_) u1) u1 rfl))) u2) u2 rfl))
  obtain ⟨v, H1, I1, rv1, a, xs, rfl, hq, q⟩ := got
  cases (show u = Value.ref a from rv1)
  obtain ⟨its, rv, pl, small⟩ := I1.list hq
  have isl := pl.isList
  refine call_reversed_list isl (args_nil ?_)
  let rob : Obj := revObj a ((its.toArray.size : Int) - 1)
  have I2 : Inv X pins σ H1 { s1 with heap := s1.heap.push rob } := I1.kept (t' := s1.toks) fun b o z => Heap.get?_push_of_some _ z
  obtain ⟨g0, g1, g2, g3, g4, g5⟩ := I1.fpOk (H' := H1) (b := s1.heap.objs.size) (Nat.le_refl _) (I1.hok.fresh (Nat.le_refl _))
  obtain ⟨ol, hol, _⟩ := id isl
  have few : its.toArray.size ≤ sizeLine := by rw [List.size_toArray, ← rv.length]; exact small
  refine RT.call_tuple_rev (s := { s1 with heap := s1.heap.push rob }) (I1.ok.hd hc) ⟨_, Heap.get?_push_size _ rfl, rfl, rfl⟩ (isl.push _) (Nat.ne_of_lt (Heap.lt_size hol)) few fun h' tk acc hk hi => ?_
  have I3 : Inv X pins σ H1 { s1 with heap := h', toks := tk } := I2.turned (t' := tk) (fun b o hb z => hk b o hb z) g0 g1 g3 g4 g5
  let o : Obj := { cls := .type "tuple", data := .seq acc }
  have at_ : (h'.push o).get? h'.objs.size = some o := Heap.get?_push_size _ rfl
  have I4 : Inv X pins σ (upd H1 h'.objs.size (.frz o (.tup xs.reverse))) { s1 with heap := h'.push o, toks := tk } := by
    apply I3.laid (t' := tk) (fun b ob z => Heap.get?_push_of_some _ z) (Nat.le_refl _)
    refine ⟨at_, by rw [List.length_reverse]; exact small, acc.toList, RT.vals_rev rv hi, ?_⟩
    rw [Array.toArray_toList]
    exact IsTup.new _ _
  exact ⟨.ref h'.objs.size, _, I4, rfl, q _ o (I3.hok.fresh (Nat.le_refl _)) rfl⟩
def vTrevP (t : VT) : FT := fun E Q => t E fun d E1 => lstD d fun ds => Q (.v (.ptp ds.reverse)) E1
theorem fe_tupleRevP {t : VT} (hK : S.K = X.K) (hc : X.calm = true) (hg : Gl X "tuple") (hm : X.mg "tuple" = none) (hg2 : Gl X "reversed") (hm2 : X.mg "reversed" = none) (he : VE S X e t)
    (s1 : starEach [e] X.env = (false, eval e X.env) :: starEach [] X.env := by rfl)
    (s2 : starEach [.Call (.Name "reversed" p2) [e] [] pos2] X.env = (false, eval (.Call (.Name "reversed" p2) [e] [] pos2) X.env) :: starEach [] X.env := by rfl) :
    FE S X (.Call (.Name "tuple" p) [.Call (.Name "reversed" p2) [e] [] pos2] [] pos) (vTrevP t) := by
  refine pe_weak (pe_tupRevZ hc hg hm hg2 hm2 he s1 s2) ?_
  rintro σ H Q ⟨Γ, E, Q0, ok, rp, ht, k⟩
  refine ⟨Γ, E, _, ok, rp, ht, fun d E1 hq x H1 kq1 rp1 hx => ?_⟩
  have eK : X.K = Γ.K := (ok.k.trans hK).symm
  cases d with
  | lst ds =>
    obtain ⟨q, xs, rfl, h1, h2⟩ := hx.lst_inv
    refine ⟨q, xs, rfl, by rw [eK]; exact h1.sq, fun q o nq nd => ?_⟩
    have sm := same_upd (o := .frz o (.tup xs.reverse)) nq
    exact k _ _ hq _ _ (kq1.trans (.same sm)) (rp1.same sm) (.ptp upd_same nd (RpL.kq (.same sm) _ _ h2.rev))
  | _ => exact hq.elim
end
end Va

set_option Elab.async false
set_option linter.all false
set_option maxRecDepth 100000
set_option maxHeartbeats 4000000
namespace Va
open PySem PySem.Spec PyProof.Rows L2 Ind
/-! ### only the columns that occur matter -/
def Agr (cols : List Tx) (nm nm' : List Tx) (row row' : List D) : Prop := ∀ n ∈ cols, ev nm row (.col n) = ev nm' row' (.col n)
theorem mem_exCols {e : Ex} {t : Bool × Op} {n : Tx} (h : t ∈ e) (ht : t.2 = .col n) : n ∈ exCols e := by
  unfold exCols
  exact List.mem_filterMap.mpr ⟨t, h, by rw [ht]⟩
theorem op_agr {e : Ex} {nm nm' : List Tx} {row row' : List D} (h : Agr (exCols e) nm nm' row row') : ∀ t ∈ e, ev nm row t.2 = ev nm' row' t.2 := by
  intro t ht
  cases ho : t.2 with
  | col n => exact h n (mem_exCols ht ho)
  | num i => rfl
  | txt x => rfl
theorem sum_agr {nm nm' : List Tx} {row row' : List D} : ∀ {e : Ex}, (∀ t ∈ e, ev nm row t.2 = ev nm' row' t.2) → sumV nm row e = sumV nm' row' e
  | [], _ => rfl
  | t :: e, h => by
    show sg1 t.1 (intOf (ev nm row t.2)) + sumV nm row e = sg1 t.1 (intOf (ev nm' row' t.2)) + sumV nm' row' e
    rw [h t (List.mem_cons_self ..), sum_agr fun u hu => h u (List.mem_cons_of_mem _ hu)]
theorem ex_agr {e : Ex} {nm nm' : List Tx} {row row' : List D} (h : Agr (exCols e) nm nm' row row') : exV nm row e = exV nm' row' e := by
  have o := op_agr h
  match e, o with
  | [], _ => rfl
  | [t], o => exact o t (List.mem_singleton.mpr rfl)
  | t :: u :: e, o =>
    show D.int (sumV nm row (t :: u :: e)) = D.int (sumV nm' row' (t :: u :: e))
    rw [sum_agr o]
theorem exCols_app (a b : Ex) : exCols (a ++ b) = exCols a ++ exCols b := by unfold exCols; rw [List.filterMap_append]
mutual
theorem Fm.tr_agr {nm nm' : List Tx} {row row' : List D} : ∀ F : Fm, Agr F.cols nm nm' row row' → F.tr nm row = F.tr nm' row'
  | .cmp sg l r, h => by
    have h : Agr (exCols (l ++ r) ++ []) nm nm' row row' := h
    rw [List.append_nil, exCols_app] at h
    show fitB sg (cmpI (exV nm row l) (exV nm row r)) = fitB sg (cmpI (exV nm' row' l) (exV nm' row' r))
    rw [ex_agr (e := l) fun n hn => h n (List.mem_append.mpr (.inl hn)), ex_agr (e := r) fun n hn => h n (List.mem_append.mpr (.inr hn))]
  | .neg f, h => by
    show (!f.tr nm row) = !f.tr nm' row'
    rw [Fm.tr_agr f h]
  | .all fs, h => by
    show Fm.trA nm row fs = Fm.trA nm' row' fs
    exact (Fm.trL_agr fs h).1
  | .any fs, h => by
    show Fm.trO nm row fs = Fm.trO nm' row' fs
    exact (Fm.trL_agr fs h).2
  | .imp a b, h => by
    have h : Agr (cmsCols (a.cms ++ b.cms)) nm nm' row row' := h
    rw [cmsCols_app] at h
    show (!a.tr nm row || b.tr nm row) = (!a.tr nm' row' || b.tr nm' row')
    rw [Fm.tr_agr a fun n hn => h n (List.mem_append.mpr (.inl hn)), Fm.tr_agr b fun n hn => h n (List.mem_append.mpr (.inr hn))]
  | .tt, _ => rfl
  | .ff, _ => rfl
theorem Fm.trL_agr {nm nm' : List Tx} {row row' : List D} : ∀ fs : List Fm, Agr (cmsCols (Fm.cmsL fs)) nm nm' row row' → Fm.trA nm row fs = Fm.trA nm' row' fs ∧ Fm.trO nm row fs = Fm.trO nm' row' fs
  | [], _ => ⟨rfl, rfl⟩
  | f :: fs, h => by
    have h : Agr (cmsCols (f.cms ++ Fm.cmsL fs)) nm nm' row row' := h
    rw [cmsCols_app] at h
    have h1 := Fm.tr_agr f fun n hn => h n (List.mem_append.mpr (.inl hn))
    obtain ⟨h2, h3⟩ := Fm.trL_agr fs fun n hn => h n (List.mem_append.mpr (.inr hn))
    constructor
    · show (f.tr nm row && Fm.trA nm row fs) = (f.tr nm' row' && Fm.trA nm' row' fs)
      rw [h1, h2]
    · show (f.tr nm row || Fm.trO nm row fs) = (f.tr nm' row' || Fm.trO nm' row' fs)
      rw [h1, h3]
end
/-- the columns in the opposite order -/
theorem agr_rev (cols : List Tx) {nm : List Tx} {row : List D} (nd : nm.Nodup) (hl : row.length = nm.length) : Agr cols nm nm.reverse row row.reverse := by
  intro n _
  show (row[nm.idxOf n]?).getD .non = (row.reverse[nm.reverse.idxOf n]?).getD .non
  by_cases h : n ∈ nm
  · have hi := List.idxOf_lt_length_of_mem h
    have e1 : nm[nm.idxOf n]? = some n := by rw [List.getElem?_eq_getElem hi, List.getElem_idxOf hi]
    have e2 : nm.reverse[nm.length - 1 - nm.idxOf n]? = some n := by
      rw [List.getElem?_reverse (by omega)]
      rw [show nm.length - 1 - (nm.length - 1 - nm.idxOf n) = nm.idxOf n by omega]
      exact e1
    have hj : nm.length - 1 - nm.idxOf n < nm.reverse.length := by rw [List.length_reverse]; omega
    have e3 : nm.reverse.idxOf n = nm.length - 1 - nm.idxOf n := by
      have := List.Nodup.idxOf_getElem (show nm.reverse.Nodup from List.pairwise_reverse.mpr (nd.imp Ne.symm)) _ hj
      rw [List.getElem?_eq_getElem hj] at e2
      rw [Option.some.inj e2] at this
      exact this
    rw [e3, List.getElem?_reverse (by omega)]
    rw [show row.length - 1 - (nm.length - 1 - nm.idxOf n) = nm.idxOf n by omega]
  · have h1 : nm.idxOf n = nm.length := List.idxOf_eq_length h
    have h2 : nm.reverse.idxOf n = nm.reverse.length := List.idxOf_eq_length (by simpa using h)
    rw [h1, h2, List.getElem?_eq_none (by omega), List.getElem?_eq_none (by simp; omega)]
end Va

set_option Elab.async false
set_option linter.all false
set_option maxRecDepth 100000
set_option maxHeartbeats 4000000
namespace Va
open PySem PySem.Spec PyProof.Rows L2 Ind
theorem nodup_len {l m : List Tx} (nd : l.Nodup) (h : ∀ x ∈ l, x ∈ m) : l.length ≤ m.length := by
  induction l generalizing m with
  | nil => exact Nat.zero_le _
  | cons x l ih =>
    have nd' := List.nodup_cons.mp nd
    have hx := h x (List.mem_cons_self ..)
    have := ih (m := m.erase x) nd'.2 fun y hy => (List.mem_erase_of_ne (fun e => nd'.1 (by rw [← e]; exact hy))).mpr (h y (List.mem_cons_of_mem _ hy))
    rw [List.length_erase_of_mem hx] at this
    have := List.length_pos_of_mem hx
    rw [List.length_cons]
    omega
theorem once_mem : ∀ (l acc : List Tx) (x : Tx), x ∈ once acc l → x ∈ acc ∨ x ∈ l
  | [], acc, x, h => .inl h
  | y :: l, acc, x, h => by
    have h : x ∈ (if y ∈ acc then once acc l else once (acc ++ [y]) l) := h
    split at h
    · rcases once_mem l acc x h with h | h
      · exact .inl h
      · exact .inr (List.mem_cons_of_mem _ h)
    · rcases once_mem l _ x h with h | h
      · rcases List.mem_append.mp h with h | h
        · exact .inl h
        · exact .inr (by rw [List.mem_singleton.mp h]; exact List.mem_cons_self ..)
      · exact .inr (List.mem_cons_of_mem _ h)
theorem once_nodup : ∀ (l acc : List Tx), acc.Nodup → (once acc l).Nodup
  | [], acc, h => h
  | y :: l, acc, h => by
    show (if y ∈ acc then once acc l else once (acc ++ [y]) l).Nodup
    split
    · exact once_nodup l acc h
    · rename_i hn
      refine once_nodup l _ (List.nodup_append.mpr ⟨h, by simp, fun a ha b hb e => hn ?_⟩)
      rw [← List.mem_singleton.mp hb, ← e]; exact ha
theorem ext_row {as : List (Tx × Bool)} {r : List Tx} (nd : (as.map (·.1)).Nodup) (hr : ∀ x ∈ r, x ∉ as.map (·.1)) : Ext3 (pa as) (fun x => decide (x ∈ yesL as ++ r)) := by
  intro x b h
  cases b with
  | true => exact decide_eq_true (List.mem_append.mpr (.inl ((yes_iff nd x).mpr h)))
  | false =>
    refine decide_eq_false fun z => ?_
    rcases List.mem_append.mp z with z | z
    · have := (yes_iff nd x).mp z
      rw [h] at this
      cases this
    · exact hr x z (List.mem_map_of_mem (f := (·.1)) (pa_mem h))
/-! a def's body apart from what is shown of it -/
def BodyOk (P : Program) (w : World) (K : PySem.W.Frag) (mg : PySem.Str → Option Value) (base : Heap) (S : Sg) (N : List PySem.Str) (qual : PySem.Str) (st : Stmt) (f : Addr) (k : Nat) (T : VS) : Prop :=
  ∀ (cdv : Value) (A : Around) (outer : List Env) (s : Shared) (H : Hp) (E : XK), Room k (A.deeper (envOfC qual (defScope st) s.heap.objs.size f cdv)) → VSs S (cxOf CX0 P w K mg base N qual (defScope st) f cdv A outer s H E).nox (defBody st) T
theorem def_vB {P : Program} {w : World} {K : PySem.W.Frag} {mg : PySem.Str → Option Value} {base : Heap} {S : Sg} {x qual : PySem.Str} {st : Stmt} {f : Addr} {fd : FuncData} {N ps : List PySem.Str} {k : Nat} {m : VM} {T : VS}
    (F : Fun K x qual st f fd) (sc : FnScope N ps (defScope st)) (hK : S.K = K) (len : ∀ ds c Q, m ds c Q → ds.length = ps.length) (hb : BodyOk P w K mg base S N qual st f k T)
    (h : ∀ ds c Q, m ds c Q → T (endV Q) (startV N ds c)) : FnOk P w K mg base CX0 (k + 1) f fd ps (spV S m) := def_v F sc hK len hb h
end Va

set_option Elab.async false
set_option linter.all false
set_option maxRecDepth 100000
set_option maxHeartbeats 4000000
namespace Va
open PySem PySem.Spec PyProof.Rows L2 Ind
/-! ### formulas that fit columns -/
mutual
theorem Fm.ok_cms {cs : List Col} : ∀ {F : Fm}, F.ok cs → ∀ p ∈ F.cms, ∃ w, ExOk cs w p.2.1 ∧ ExOk cs w p.2.2
  | .cmp sg l r, h => fun p hp => by
    cases List.mem_singleton.mp hp
    exact h.2
  | .neg f, h => Fm.ok_cms (F := f) h
  | .all fs, h => Fm.okL_cms (fs := fs) h.2
  | .any fs, h => Fm.okL_cms (fs := fs) h.2
  | .imp a b, h => fun p hp => (List.mem_append.mp hp).elim (Fm.ok_cms (F := a) h.1 p) (Fm.ok_cms (F := b) h.2 p)
  | .tt, _ => fun p hp => (nomatch hp)
  | .ff, _ => fun p hp => (nomatch hp)
theorem Fm.okL_cms {cs : List Col} : ∀ {fs : List Fm}, Fm.okL cs fs → ∀ p ∈ Fm.cmsL fs, ∃ w, ExOk cs w p.2.1 ∧ ExOk cs w p.2.2
  | [], _ => fun p hp => (nomatch hp)
  | f :: fs, h => fun p hp => (List.mem_append.mp hp).elim (Fm.ok_cms (F := f) h.1 p) (Fm.okL_cms (fs := fs) h.2 p)
end
theorem ex_cols_in {cs : List Col} {w : Tx} {e : Ex} (h : ExOk cs w e) {n : Tx} (hn : n ∈ exCols e) : n ∈ cs.map (·.1) := by
  unfold exCols at hn
  obtain ⟨t, ht, e1⟩ := List.mem_filterMap.mp hn
  have f := h.fit t ht
  cases ho : t.2 with
  | col m =>
    rw [ho] at e1 f
    cases e1
    obtain ⟨k, hk, _⟩ := f
    exact List.mem_map.mpr ⟨_, hk, rfl⟩
  | num i => rw [ho] at e1; cases e1
  | txt x => rw [ho] at e1; cases e1
theorem cols_in {cs : List Col} {F : Fm} (h : F.ok cs) {n : Tx} (hn : n ∈ F.cols) : n ∈ cs.map (·.1) := by
  obtain ⟨p, hp, hn⟩ := List.mem_flatMap.mp (show n ∈ F.cms.flatMap cmCols from hn)
  obtain ⟨w, h1, h2⟩ := Fm.ok_cms h p hp
  have hn : n ∈ exCols (p.2.1 ++ p.2.2) := hn
  rw [exCols_app] at hn
  rcases List.mem_append.mp hn with hn | hn
  · exact ex_cols_in h1 hn
  · exact ex_cols_in h2 hn
theorem fits_sub {cs cs' : List Col} (s : ∀ p ∈ cs, p ∈ cs') {w : Tx} : ∀ {o : Op}, fits cs w o → fits cs' w o
  | .col _, ⟨k, hk, e⟩ => ⟨k, s _ hk, e⟩
  | .num _, h => h
  | .txt _, h => h
theorem ExOk.sub {cs cs' : List Col} (s : ∀ p ∈ cs, p ∈ cs') {w : Tx} {e : Ex} (h : ExOk cs w e) : ExOk cs' w e := ⟨h.ne, fun t ht => fits_sub s (h.fit t ht), h.one, h.len, h.word⟩
mutual
theorem Fm.ok_sub {cs cs' : List Col} (s : ∀ p ∈ cs, p ∈ cs') : ∀ {F : Fm}, F.ok cs → F.ok cs'
  | .cmp _ _ _, ⟨a, w, h1, h2⟩ => ⟨a, w, h1.sub s, h2.sub s⟩
  | .neg f, h => Fm.ok_sub s (F := f) h
  | .all fs, h => ⟨h.1, Fm.okL_sub s (fs := fs) h.2⟩
  | .any fs, h => ⟨h.1, Fm.okL_sub s (fs := fs) h.2⟩
  | .imp a b, h => ⟨Fm.ok_sub s (F := a) h.1, Fm.ok_sub s (F := b) h.2⟩
  | .tt, _ => trivial
  | .ff, _ => trivial
theorem Fm.okL_sub {cs cs' : List Col} (s : ∀ p ∈ cs, p ∈ cs') : ∀ {fs : List Fm}, Fm.okL cs fs → Fm.okL cs' fs
  | [], _ => trivial
  | f :: fs, h => ⟨Fm.ok_sub s (F := f) h.1, Fm.okL_sub s (fs := fs) h.2⟩
end
theorem RowOk.rev {cs : List Col} {row : List D} (h : RowOk cs row) : RowOk cs.reverse row.reverse := by
  refine ⟨?_, by rw [List.length_reverse, List.length_reverse]; exact h.len, fun i p v e1 e2 => ?_⟩
  · rw [List.map_reverse]
    exact List.pairwise_reverse.mpr (h.nd.imp Ne.symm)
  · have hi := (List.getElem?_eq_some_iff.mp e1).1
    rw [List.length_reverse] at hi
    have hl := h.len
    rw [List.getElem?_reverse hi] at e1
    rw [List.getElem?_reverse (by omega), hl] at e2
    exact h.val _ p v e1 e2
/-- a bool may be shown -/
theorem shown_bl (b : Bool) : SeqAt.shaped (D.bl b).pd = true ∧ (D.bl b).pd.showable = true ∧ (D.bl b).pd.hasDict = false ∧ (D.bl b).pd.depth ≤ 60 ∧ (D.bl b).pd.shown.length ≤ 1000000 := by
  cases b <;> refine ⟨?_, ?_, ?_, ?_, ?_⟩ <;> decide
end Va

set_option Elab.async false
set_option linter.all false
set_option maxRecDepth 100000
set_option maxHeartbeats 4000000
namespace Va
open PySem PySem.Spec PyProof.Rows L2 Ind
local macro_rules | `(tactic| walk_at "cn") => `(tactic| first
  | assumption
  | omega
  | exact dm (by omega)
  | exact line (by simp)
  | exact line (by omega)
  | exact line (by simp only [len_app, len_one]; omega)
  | exact small_div (by omega) (by omega)
  | solve_by_elim
  | exact Or.inr ⟨by omega, by omega⟩
  | exact Or.inl ⟨by omega, by omega⟩
  | exact ⟨by omega, by omega⟩
  | decide)
local macro_rules | `(tactic| walk_at "st") => `(tactic| repeat (first
  | refine ⟨_, rfl, ?_⟩
  | refine ⟨_, _, rfl, rfl, ?_⟩
  | refine ⟨_, _, rfl, ?_⟩
  | refine .inl ⟨_, rfl, ?_⟩
  | refine And.intro rfl ?_
  | refine And.intro (by walk_at "cn") ?_))
local macro_rules | `(tactic| walk_at "fz") => `(tactic| repeat (first | exact Fz.refl | apply Fz.upd))
local macro_rules | `(tactic| walk_at "hl") => `(tactic| ((repeat rw [upd_ne (by assumption)]); assumption))
local macro_rules | `(tactic| walk_at "fy") => `(tactic| (intro b o n1 h; (repeat rw [upd_ne n1]); exact h))
local macro_rules | `(tactic| walk_at "wh") => `(tactic| (conv => whnf))
local macro_rules | `(tactic| walk_at "cv") => `(tactic| first
  | rfl
  | assumption
  | omega
  | exact dm (by omega)
  | exact small_div (by omega) (by omega)
  | (simp only [len_app, one_len, len_one, List.length_append, List.length_map, List.length_cons, List.length_nil]; omega)
  | exact Or.inr ⟨by omega, by omega⟩
  | exact Or.inl ⟨by omega, by omega⟩
  | exact ⟨by omega, by omega⟩
  | decide)
local macro_rules | `(tactic| walk_at "vv") => `(tactic| repeat (refine And.intro (by walk_at "cv") ?_))
local macro_rules | `(tactic| walk_at "sk") => `(tactic| repeat (first
  | refine wayT ?_
  | refine wayF ?_
  | refine skipT (by omega) ?_
  | refine skipF (by omega) ?_
  | refine skipT (by decide) ?_
  | refine skipF (by decide) ?_
  | refine ⟨_, (show tyNames _ = some _ from rfl), ?_⟩
  | refine And.intro (by walk_at "cv") ?_))
local macro_rules | `(tactic| walk_at "s0") => `(tactic| first
  | refine wayT ?_
  | refine wayF ?_
  | refine skipT (by omega) ?_
  | refine skipF (by omega) ?_
  | refine skipT (by decide) ?_
  | refine skipF (by decide) ?_
  | refine ⟨_, (show tyNames _ = some _ from rfl), ?_⟩
  | refine And.intro (by walk_at "cv") ?_)
local macro_rules | `(tactic| walk_at "s1") => `(tactic| try (walk_at "s0"; walk_at "wh"))
local macro_rules | `(tactic| walk_at "go") => `(tactic| (walk_at "wh"; walk_at "s1"; walk_at "s1"; walk_at "s1"; walk_at "s1"; walk_at "s1"; walk_at "s1"; walk_at "s1"; walk_at "s1"; walk_at "s1"; walk_at "s1"; walk_at "s1"; walk_at "s1"; walk_at "s1"; walk_at "s1"; walk_at "s1"; walk_at "s1"; walk_at "s1"; walk_at "s1"; walk_at "s1"; walk_at "s1"; walk_at "s1"; walk_at "s1"; walk_at "s1"; walk_at "s1"))

theorem short_leaf {x : Tx} (h : tOk x) : PyData.leavesShort 20 (.str x) = true := by
  simp only [PyData.leavesShort, List.all_eq_true, decide_eq_true_eq]
  intro c hc
  have := h c hc
  omega
def shows (d : D) : Prop := SeqAt.shaped d.pd = true ∧ d.pd.showable = true ∧ d.pd.hasDict = false ∧ d.pd.depth ≤ 60 ∧ d.pd.shown.length ≤ 1000000
def FEr.good : Option FEr → Prop
  | some (.unk n) => n.length ≤ 25 ∧ tOk n
  | _ => True
theorem opK_unk {cs : List Col} {o : Op} {n : Tx} (h1 : o.sm) (h2 : o.tok) (h : opK cs o = .unk n) : n.length ≤ 25 ∧ tOk n := by
  cases o with
  | num i => cases h
  | txt x => cases h
  | col m =>
    have h : (match lk cs m with | some k => KR.ok k | none => KR.unk m) = .unk n := h
    cases hl : lk cs m with
    | none => rw [hl] at h; cases h; exact ⟨h1, h2⟩
    | some k => rw [hl] at h; cases h
theorem goK_unk {cs : List Col} {n : Tx} : ∀ (e : Ex) (b : Int), (∀ t ∈ e, t.2.sm ∧ t.2.tok) → goK cs e b = .unk n → n.length ≤ 25 ∧ tOk n := by
  intro e
  induction e with
  | nil =>
    intro b _ h
    unfold goK at h
    split at h <;> cases h
  | cons t r ih =>
    intro b he h
    unfold goK at h
    cases ho : opK cs t.2 with
    | unk m =>
      rw [ho] at h
      cases h
      exact opK_unk (he t List.mem_cons_self).1 (he t List.mem_cons_self).2 ho
    | sa => rw [ho] at h; cases h
    | vtl => rw [ho] at h; cases h
    | ok k =>
      rw [ho] at h
      cases k with
      | s => cases h
      | n j => exact ih _ (fun t ht => he t (List.mem_cons_of_mem _ ht)) h
theorem kindK_unk {cs : List Col} {n : Tx} {e : Ex} (he : ∀ t ∈ e, t.2.sm ∧ t.2.tok) (h : kindK cs e = .unk n) : n.length ≤ 25 ∧ tOk n := by
  unfold kindK at h
  split at h
  · exact opK_unk (he _ List.mem_cons_self).1 (he _ List.mem_cons_self).2 h
  · exact goK_unk e 0 he h
theorem cmE_good {cs : List Col} {l r : Ex} (hl : ∀ t ∈ l, t.2.sm ∧ t.2.tok) (hr : ∀ t ∈ r, t.2.sm ∧ t.2.tok) : FEr.good (cmE cs l r) := by
  unfold cmE
  cases h : kindK cs l with
  | unk n => exact kindK_unk hl h
  | sa => exact trivial
  | vtl => exact trivial
  | ok a =>
    cases h2 : kindK cs r with
    | unk n => exact kindK_unk hr h2
    | sa => exact trivial
    | vtl => exact trivial
    | ok b =>
      show FEr.good (if a.w = b.w then none else some FEr.mix)
      split <;> exact trivial
theorem chE_good {cs : List Col} : ∀ {ms : List Cm}, (∀ m ∈ ms, cmB m) → FEr.good (chE cs ms) := by
  intro ms
  induction ms with
  | nil => intro _; exact trivial
  | cons m ms ih =>
    intro h
    show FEr.good (match cmE cs m.2.1 m.2.2 with | none => chE cs ms | some x => some x)
    have g := cmE_good (cs := cs) (h m List.mem_cons_self).1.2.2 (h m List.mem_cons_self).2.2.2
    cases he : cmE cs m.2.1 m.2.2 with
    | none => exact ih fun m hm => h m (List.mem_cons_of_mem _ hm)
    | some x => rw [he] at g; exact g
theorem toldF_shows {r : Option FEr} (g : FEr.good r) : shows (toldF r) := by
  have errW : tOk "error" := tOk_of (by decide)
  have chkW : tOk "checked" := tOk_of (by decide)
  have k1 := chkW.ok
  have k2 := errW.ok
  have l1 := short_leaf chkW
  have l2 := short_leaf errW
  have z1 : ("checked" : Tx).cps.size = 7 := by decide
  have z2 : ("error" : Tx).cps.size = 5 := by decide
  have fin : ∀ d : PyData, d.leavesShort 20 = true → d.bulk ≤ 1000 → d.shown.length ≤ 1000000 := fun d h1 h2 => by
    have := PyData.shown_le_bulk 20 (by decide) d h1
    omega
  cases r with
  | none =>
    refine ⟨?_, ?_, ?_, ?_, fin _ ?_ ?_⟩
    · simp [toldF, D.pd, pdL, SeqAt.shaped, PyData.canLay0, PyData.canLayAll0, PyData.depth, PyData.depthAll, k1]
    · simp [toldF, D.pd, pdL, PyData.showable, PyData.showableAll]
    · simp [toldF, D.pd, pdL, PyData.hasDict, PyData.hasDictAll]
    · simp [toldF, D.pd, pdL, PyData.depth, PyData.depthAll]
    · simp only [toldF, D.pd, pdL, PyData.leavesShortAll, PyData.leavesShort] at *
      simp only [l1, Bool.and_true]
    · simp [toldF, D.pd, pdL, PyData.bulk, PyData.bulkAll]
      omega
  | some x =>
    cases x with
    | unk n =>
      obtain ⟨g1, g2⟩ := g
      have n1 := g2.ok
      have n2 := short_leaf g2
      have n3 : n.cps.size ≤ 25 := g1
      refine ⟨?_, ?_, ?_, ?_, fin _ ?_ ?_⟩
      · simp [toldF, D.pd, pdL, SeqAt.shaped, PyData.canLay0, PyData.canLayAll0, PyData.depth, PyData.depthAll, k2, n1]
      · simp [toldF, D.pd, pdL, PyData.showable, PyData.showableAll]
      · simp [toldF, D.pd, pdL, PyData.hasDict, PyData.hasDictAll]
      · simp [toldF, D.pd, pdL, PyData.depth, PyData.depthAll]
      · simp only [toldF, D.pd, pdL, PyData.leavesShortAll, l2, n2, Bool.and_true, PyData.leavesShort] at *
        simp only [l2, n2, Bool.and_true]
      · simp [toldF, D.pd, pdL, PyData.bulk, PyData.bulkAll]
        omega
    | _ =>
      refine ⟨?_, ?_, ?_, ?_, fin _ ?_ ?_⟩
      · simp [toldF, D.pd, pdL, SeqAt.shaped, PyData.canLay0, PyData.canLayAll0, PyData.depth, PyData.depthAll, k2]
      · simp [toldF, D.pd, pdL, PyData.showable, PyData.showableAll]
      · simp [toldF, D.pd, pdL, PyData.hasDict, PyData.hasDictAll]
      · simp [toldF, D.pd, pdL, PyData.depth, PyData.depthAll]
      · simp only [toldF, D.pd, pdL, PyData.leavesShortAll, PyData.leavesShort] at *
        simp only [l2, Bool.and_true]
      · simp [toldF, D.pd, pdL, PyData.bulk, PyData.bulkAll]
        omega
theorem cmB_ok {m : Cm} (h : cmB m) : cmOk m := ⟨⟨h.1.1, by have := h.1.2.1; omega, fun t ht => (h.1.2.2 t ht).1⟩, h.2.1, by have := h.2.2.1; omega, fun t ht => (h.2.2.2 t ht).1⟩
theorem cmB_T {m : Cm} (h : cmB m) : cmT m := ⟨⟨h.1.1, by have := h.1.2.1; omega, fun t ht => (h.1.2.2 t ht).2⟩, h.2.1, by have := h.2.2.1; omega, fun t ht => (h.2.2.2 t ht).2⟩
section
variable {P : Program} {w : World} {K : PySem.W.Frag} {mg : PySem.Str → Option Value} {base : Heap}
theorem law_body (T : Txt P K mg) {a : Addr} {ns : List Int} {s : Shared} {H : Hp} (hS : SqL K H a (ns.map V.int)) (hl : ns.length ≤ 63) (hT : ∀ P ∈ ([] : List Addr), GxR.TabG H P) (cdv : Value) (hr : Room 27 (callerA.deeper (envOfC "law" (defScope s_law) s.heap.objs.size T.a_law cdv))) :
    ∃ t, PSs (cxOf CX0 P w K mg base N_law "law" (defScope s_law) T.a_law cdv callerA [] s H E0).nox (defBody s_law) t ∧ t { nx := fun _ H' => (fun (v : V) (_ : Hp) => v = V.bl true) .non H', rt := fun v _ => v = .bl true } (L2.start N_law [V.ref a]) H := by
  have G__law_tape := ok__law_tape (P := P) (w := w) (base := base) T
  have G__law_columns := ok__law_columns (P := P) (w := w) (base := base) T
  have G__law_loose_formula := ok__law_loose_formula (P := P) (w := w) (base := base) T
  have G__law_draw := draw_v (S := Sx T) (ok__law_draw (P := P) (w := w) (base := base) T)
  have G__law_deep := ok__law_deep (P := P) (w := w) (base := base) T
  have G__law_told := ok__law_told (P := P) (w := w) (base := base) T
  have G__law_due := ok__law_due (P := P) (w := w) (base := base) T
  have h : spLawT K [] [.ref a] H (fun v _ => v = .bl true) E0 := ⟨a, ns, rfl, hS, hl, hT, fun _ => rfl⟩
  refine law_rest (S := Sx T) (N := N_law) (i0 := 0) rfl (by decide) (ps_set (i := 1) sc_law.nd rfl (.inr rfl) (pe_call G__law_tape (hr.mono (by decide)) (by rfl) T.g__law_tape T.F__law_tape.kp T.b__law_tape .nil pass0 (pa_cons (pv 0) pa_nil)))
    (vss_cons (vs_set (i := 2) sc_law.nd rfl (.inr rfl) (fe_of (ve_call G__law_columns (hr.mono (by omega)) (by rfl) T.g__law_columns T.F__law_columns.kp T.b__law_columns (va_cons (ve_name (pv 1)) (va_cons ve_int va_nil)))))
      (vss_cons (vs_set (i := 3) sc_law.nd rfl (.inl rfl) (fe_of (ve_call G__law_loose_formula (hr.mono (by omega)) (by rfl) T.g__law_loose_formula T.F__law_loose_formula.kp T.b__law_loose_formula (va_cons (ve_name (pv 1)) (va_cons (ve_name (pv 2)) (va_cons (ve_call G__law_draw (hr.mono (by omega)) (by rfl) T.g__law_draw T.F__law_draw.kp T.b__law_draw (va_cons (ve_name (pv 1)) (va_cons ve_int va_nil))) va_nil))))))
      (vss_cons (vs_if (vb_cmp (o_eq rfl hr.units) (ve_call G__law_draw (hr.mono (by omega)) (by rfl) T.g__law_draw T.F__law_draw.kp T.b__law_draw (va_cons (ve_name (pv 1)) (va_cons ve_int va_nil))) (be_of ve_int) (nomark _)) (vss_cons (vs_fz 2 (vs_fz 1 (vs_setLc (i := 4) (own := [("k", 5)]) rfl sc_law.nd rfl rfl (sw_true rfl rfl rfl (by decide +kernel)) (vi_range1 (by rfl) T.z_range (va_cons (ve_of (fe_op (o_add rfl) ve_int (be_of (ve_call G__law_draw (hr.mono (by omega)) (by rfl) T.g__law_draw T.F__law_draw.kp T.b__law_draw (va_cons (ve_name (pv 1)) (va_cons ve_int va_nil)))))) va_nil)) (blkOk_by (own := [("k", 5)]) (N := N_law) (sc := defScope s_law) (by decide +kernel)) (fun _ _ _ _ _ => (vg_name (i := 5) [5] (by decide) sc_law.nd rfl (.inl rfl))) (fun _ _ _ _ _ => vts_nil) (fun _ _ _ _ _ => (ve_call G__law_loose_formula (hr.mono (by omega)) (by rfl) T.g__law_loose_formula T.F__law_loose_formula.kp T.b__law_loose_formula (va_cons (ve_name (pv 1)) (va_cons (ve_name (pv 2)) (va_cons ve_int va_nil))))))))
      (vss_one (vs_set (i := 3) sc_law.nd rfl (.inl rfl) (fe_of (ve_tup (va_cons (ve_of (fe_ix (i_ix rfl (hu_of hr)) (ve_of (fe_lst (va_cons ve_str (va_cons ve_str va_nil)))) (be_of (ve_call G__law_draw (hr.mono (by omega)) (by rfl) T.g__law_draw T.F__law_draw.kp T.b__law_draw (va_cons (ve_name (pv 1)) (va_cons ve_int va_nil)))) (fun _ _ => rfl))) (va_cons (ve_of (pe_CB1 (c_tupleD rfl rfl) (fun hc ha => pe_callTy hc (by rfl) T.z_tuple boot_tuple ha) (be_name (pv 4)))) va_nil))))))) vss_nil)
      (vss_cons (vs_if (vb_cmp (o_eq rfl hr.units) (ve_call G__law_draw (hr.mono (by omega)) (by rfl) T.g__law_draw T.F__law_draw.kp T.b__law_draw (va_cons (ve_name (pv 1)) (va_cons ve_int va_nil))) (be_of ve_int) (nomark _)) (vss_one (vs_set (i := 3) sc_law.nd rfl (.inl rfl) (fe_of (ve_call G__law_deep (hr.mono (by omega)) (by rfl) T.g__law_deep T.F__law_deep.kp T.b__law_deep (va_cons (ve_name (pv 1)) (va_cons (ve_call G__law_loose_formula (hr.mono (by omega)) (by rfl) T.g__law_loose_formula T.F__law_loose_formula.kp T.b__law_loose_formula (va_cons (ve_name (pv 1)) (va_cons (ve_name (pv 2)) (va_cons ve_int va_nil)))) va_nil)))))) vss_nil)
      (vss_one (vs_ret (ve_of (fe_cmp (o_eq rfl hr.units) (ve_of (pe_CB1 (c_repr rfl (by rfl) hr.units) (fun hc ha => pe_callB hc (by rfl) T.z_repr boot_repr ha) (be_of (ve_call G__law_told hr (by rfl) T.g__law_told T.F__law_told.kp T.b__law_told (va_cons (ve_name (pv 3)) (va_cons (ve_name (pv 2)) va_nil)))))) (be_of (ve_of (pe_CB1 (c_repr rfl (by rfl) hr.units) (fun hc ha => pe_callB hc (by rfl) T.z_repr boot_repr ha) (be_of (ve_call G__law_due (hr.mono (by omega)) (by rfl) T.g__law_due T.F__law_due.kp T.b__law_due (va_cons (ve_name (pv 3)) (va_cons (ve_name (pv 2)) va_nil))))))) (nomark _))))))))) ?_ h
  refine ⟨5, rfl, by decide, fun cs c1 c2 nd cok ctok csml => ?_⟩
  have hne : cs ≠ [] := c2 (by decide)
  have hcl : ∀ p ∈ cs, p.1.length ≤ 20 := fun p hp => (csml p hp).1
  walk_at "wh"
  refine ⟨4, rfl, Nat.zero_le _, dm (by decide), fun r hr => ?_⟩
  refine ⟨cs, r, rfl, by omega, by omega, ⟨hne, ctok, hcl⟩, fun F fo fd fc => ?_⟩
  have p3 : 3 ^ r ≤ 3 ^ 3 := Nat.pow_le_pow_right (by decide) (by omega)
  have fd : F.dep ≤ 20 := by omega
  have fc : F.cms.length ≤ 1000 := by omega
  clear p3
  walk_at "wh"
  refine ⟨8, rfl, Nat.zero_le _, dm (by decide), fun r2 hr2 => ?_⟩
  walk_at "wh"
  refine bothD (fun e2 => ?b1) (fun e2 => ?b2)
  case' b1 =>
    walk_at "wh"
    refine ⟨39, rfl, Nat.zero_le _, dm (by decide), fun r3 hr3 => ?_⟩
    have hr3 : r3 < 39 := by omega
    walk_at "wh"
    refine ⟨⟨by omega, by omega⟩, by simp only [rng, List.length_map, List.length_range]; omega, fun i acc k => Iv (∃ fs : List Fm, acc = fs.map Fm.d ∧ fs.length = i ∧ (∀ f ∈ fs, f.dep ≤ 0) ∧ (∀ f ∈ fs, gdF f) ∧ (∀ f ∈ fs, f.cms.length ≤ 1) ∧ k = 999000), .a ⟨[], rfl, rfl, by simp, by simp, by simp, rfl⟩, ?stp, ?ext⟩
    case stp =>
      intro i e acc k ed iv la
      obtain ⟨fs, rfl, rfl, h1, h2, h3, rfl⟩ := iv.out
      refine wayT ?_
      refine ⟨cs, 0, rfl, by decide, by omega, ⟨hne, ctok, hcl⟩, fun G g1 g2 g3 => ?_⟩
      exact .a ⟨fs ++ [G], by rw [List.map_append]; rfl, by simp, fun g hg => by rcases List.mem_append.mp hg with h | h; exact h1 g h; cases List.mem_singleton.mp h; exact g2, fun g hg => by rcases List.mem_append.mp hg with h | h; exact h2 g h; cases List.mem_singleton.mp h; exact g1, fun g hg => by rcases List.mem_append.mp hg with h | h; exact h3 g h; cases List.mem_singleton.mp h; exact g3, rfl⟩
    intro acc k iv la
    obtain ⟨fs, rfl, hl', h1, h2, h3, rfl⟩ := iv.out
    simp only [rng, List.length_map, List.length_range] at hl'
    have hD := Fm.depL_le h1
    have hO := gd_L h2
    have hC := Fm.cmsL_len h3
    rw [← Fm.dL_map]
    walk_at "wh"
    refine ⟨by decide, ?_⟩
    refine ⟨2, rfl, Nat.zero_le _, dm (by decide), fun r5 hr5 => ?_⟩
    obtain ⟨x, ex, mx⟩ := pickD (l := [D.str "and", .str "or"]) (i := r5) (by simp; omega)
    walk_at "wh"
    refine withD_of ex ?_
    walk_at "wh"
    refine ⟨by show 2 ≤ 1000; decide, ?_⟩
    simp only [List.mem_cons, List.not_mem_nil, or_false] at mx
    have fA : gdF (Fm.all fs) := hO
    have fO : gdF (Fm.any fs) := hO
    have dA : (Fm.all fs).dep ≤ 20 := by show Fm.depL fs + 1 ≤ 20; omega
    have dO : (Fm.any fs).dep ≤ 20 := by show Fm.depL fs + 1 ≤ 20; omega
    have cA : (Fm.all fs).cms.length ≤ 1000 := by show (Fm.cmsL fs).length ≤ 1000; omega
    have cO : (Fm.any fs).cms.length ≤ 1000 := by show (Fm.cmsL fs).length ≤ 1000; omega
    rcases mx with rfl | rfl
    · walk_at "wh"
      refine ⟨32, rfl, Nat.zero_le _, dm (by decide), fun r9 hr9 => ?_⟩
      walk_at "wh"
      refine bothD (fun e9 => ?_) (fun e9 => ?_)
      · walk_at "wh"
        refine ⟨cs, 0, rfl, by omega, by omega, ⟨hne, ctok, hcl⟩, fun F2 g1 g2 g3 => ?_⟩
        walk_at "wh"
        refine ⟨F2, rfl, g1, Nat.le_zero.mp g2, g3, fun G q1 q2 q3 => ?_⟩
        obtain ⟨b1, b2, b3, b4, b5⟩ := toldF_shows (chE_good (cs := cs) q1)
        walk_at "wh"
        refine ⟨G, cs, rfl, by omega, by omega, by omega, nd, fun m hm => cmB_ok (q1 m hm), ?_⟩
        walk_at "wh"
        refine ⟨b1, b2, b3, b4, b5, ?_⟩
        walk_at "wh"
        refine ⟨G, cs, rfl, by omega, by omega, fun m hm => cmB_T (q1 m hm), ?_⟩
        walk_at "wh"
        refine ⟨b1, b2, b3, b4, b5, ?_⟩
        walk_at "wh"
        exact congrArg D.bl (decide_eq_true rfl)
      · obtain ⟨b1, b2, b3, b4, b5⟩ := toldF_shows (chE_good (cs := cs) fA)
        walk_at "wh"
        refine ⟨Fm.all fs, cs, rfl, by omega, by omega, by omega, nd, fun m hm => cmB_ok (fA m hm), ?_⟩
        walk_at "wh"
        refine ⟨b1, b2, b3, b4, b5, ?_⟩
        walk_at "wh"
        refine ⟨Fm.all fs, cs, rfl, by omega, by omega, fun m hm => cmB_T (fA m hm), ?_⟩
        walk_at "wh"
        refine ⟨b1, b2, b3, b4, b5, ?_⟩
        walk_at "wh"
        exact congrArg D.bl (decide_eq_true rfl)
    · walk_at "wh"
      refine ⟨32, rfl, Nat.zero_le _, dm (by decide), fun r9 hr9 => ?_⟩
      walk_at "wh"
      refine bothD (fun e9 => ?_) (fun e9 => ?_)
      · walk_at "wh"
        refine ⟨cs, 0, rfl, by omega, by omega, ⟨hne, ctok, hcl⟩, fun F2 g1 g2 g3 => ?_⟩
        walk_at "wh"
        refine ⟨F2, rfl, g1, Nat.le_zero.mp g2, g3, fun G q1 q2 q3 => ?_⟩
        obtain ⟨b1, b2, b3, b4, b5⟩ := toldF_shows (chE_good (cs := cs) q1)
        walk_at "wh"
        refine ⟨G, cs, rfl, by omega, by omega, by omega, nd, fun m hm => cmB_ok (q1 m hm), ?_⟩
        walk_at "wh"
        refine ⟨b1, b2, b3, b4, b5, ?_⟩
        walk_at "wh"
        refine ⟨G, cs, rfl, by omega, by omega, fun m hm => cmB_T (q1 m hm), ?_⟩
        walk_at "wh"
        refine ⟨b1, b2, b3, b4, b5, ?_⟩
        walk_at "wh"
        exact congrArg D.bl (decide_eq_true rfl)
      · obtain ⟨b1, b2, b3, b4, b5⟩ := toldF_shows (chE_good (cs := cs) fO)
        walk_at "wh"
        refine ⟨Fm.any fs, cs, rfl, by omega, by omega, by omega, nd, fun m hm => cmB_ok (fO m hm), ?_⟩
        walk_at "wh"
        refine ⟨b1, b2, b3, b4, b5, ?_⟩
        walk_at "wh"
        refine ⟨Fm.any fs, cs, rfl, by omega, by omega, fun m hm => cmB_T (fO m hm), ?_⟩
        walk_at "wh"
        refine ⟨b1, b2, b3, b4, b5, ?_⟩
        walk_at "wh"
        exact congrArg D.bl (decide_eq_true rfl)
  case' b2 =>
    walk_at "wh"
    refine ⟨32, rfl, Nat.zero_le _, dm (by decide), fun r9 hr9 => ?_⟩
    walk_at "wh"
    refine bothD (fun e9 => ?_) (fun e9 => ?_)
    · walk_at "wh"
      refine ⟨cs, 0, rfl, by omega, by omega, ⟨hne, ctok, hcl⟩, fun F2 g1 g2 g3 => ?_⟩
      walk_at "wh"
      refine ⟨F2, rfl, g1, Nat.le_zero.mp g2, g3, fun G q1 q2 q3 => ?_⟩
      obtain ⟨b1, b2, b3, b4, b5⟩ := toldF_shows (chE_good (cs := cs) q1)
      walk_at "wh"
      refine ⟨G, cs, rfl, by omega, by omega, by omega, nd, fun m hm => cmB_ok (q1 m hm), ?_⟩
      walk_at "wh"
      refine ⟨b1, b2, b3, b4, b5, ?_⟩
      walk_at "wh"
      refine ⟨G, cs, rfl, by omega, by omega, fun m hm => cmB_T (q1 m hm), ?_⟩
      walk_at "wh"
      refine ⟨b1, b2, b3, b4, b5, ?_⟩
      walk_at "wh"
      exact congrArg D.bl (decide_eq_true rfl)
    · obtain ⟨b1, b2, b3, b4, b5⟩ := toldF_shows (chE_good (cs := cs) fo)
      walk_at "wh"
      refine ⟨F, cs, rfl, by omega, by omega, by omega, nd, fun m hm => cmB_ok (fo m hm), ?_⟩
      walk_at "wh"
      refine ⟨b1, b2, b3, b4, b5, ?_⟩
      walk_at "wh"
      refine ⟨F, cs, rfl, by omega, by omega, fun m hm => cmB_T (fo m hm), ?_⟩
      walk_at "wh"
      refine ⟨b1, b2, b3, b4, b5, ?_⟩
      walk_at "wh"
      exact congrArg D.bl (decide_eq_true rfl)
theorem all_mk {l : PySem.W.OpenLaw} {w : World} {K : PySem.W.Frag} {h : Heap} {mg : Str → Option Value} {fa : Addr} (X : K.In h) (G : h.Ns mainGlobals mg) (hfa : mg "law" = some (.ref fa))
    {f0 : Addr} {od0 an0 : Option Addr} {sl0 : Array (Option Value)} {oc0 kV0 dc0 pm0 cd0 ct0 : Value}
    {f1 : Addr} {od1 an1 : Option Addr} {sl1 : Array (Option Value)} {oc1 kV1 dc1 pm1 cd1 ct1 : Value}
    {f2 : Addr} {od2 an2 : Option Addr} {sl2 : Array (Option Value)} {oc2 kV2 dc2 pm2 cd2 ct2 : Value}
    {f3 : Addr} {od3 an3 : Option Addr} {sl3 : Array (Option Value)} {oc3 kV3 dc3 pm3 cd3 ct3 : Value}
    {f4 : Addr} {od4 an4 : Option Addr} {sl4 : Array (Option Value)} {oc4 kV4 dc4 pm4 cd4 ct4 : Value}
    {f5 : Addr} {od5 an5 : Option Addr} {sl5 : Array (Option Value)} {oc5 kV5 dc5 pm5 cd5 ct5 : Value}
    {f6 : Addr} {od6 an6 : Option Addr} {sl6 : Array (Option Value)} {oc6 kV6 dc6 pm6 cd6 ct6 : Value}
    {f7 : Addr} {od7 an7 : Option Addr} {sl7 : Array (Option Value)} {oc7 kV7 dc7 pm7 cd7 ct7 : Value}
    {f8 : Addr} {od8 an8 : Option Addr} {sl8 : Array (Option Value)} {oc8 kV8 dc8 pm8 cd8 ct8 : Value}
    {f9 : Addr} {od9 an9 : Option Addr} {sl9 : Array (Option Value)} {oc9 kV9 dc9 pm9 cd9 ct9 : Value}
    {f10 : Addr} {od10 an10 : Option Addr} {sl10 : Array (Option Value)} {oc10 kV10 dc10 pm10 cd10 ct10 : Value}
    {f11 : Addr} {od11 an11 : Option Addr} {sl11 : Array (Option Value)} {oc11 kV11 dc11 pm11 cd11 ct11 : Value}
    {f12 : Addr} {od12 an12 : Option Addr} {sl12 : Array (Option Value)} {oc12 kV12 dc12 pm12 cd12 ct12 : Value}
    {f13 : Addr} {od13 an13 : Option Addr} {sl13 : Array (Option Value)} {oc13 kV13 dc13 pm13 cd13 ct13 : Value}
    {f14 : Addr} {od14 an14 : Option Addr} {sl14 : Array (Option Value)} {oc14 kV14 dc14 pm14 cd14 ct14 : Value}
    {f15 : Addr} {od15 an15 : Option Addr} {sl15 : Array (Option Value)} {oc15 kV15 dc15 pm15 cd15 ct15 : Value}
    {f16 : Addr} {od16 an16 : Option Addr} {sl16 : Array (Option Value)} {oc16 kV16 dc16 pm16 cd16 ct16 : Value}
    {f17 : Addr} {od17 an17 : Option Addr} {sl17 : Array (Option Value)} {oc17 kV17 dc17 pm17 cd17 ct17 : Value}
    {f18 : Addr} {od18 an18 : Option Addr} {sl18 : Array (Option Value)} {oc18 kV18 dc18 pm18 cd18 ct18 : Value}
    {f19 : Addr} {od19 an19 : Option Addr} {sl19 : Array (Option Value)} {oc19 kV19 dc19 pm19 cd19 ct19 : Value}
    {f20 : Addr} {od20 an20 : Option Addr} {sl20 : Array (Option Value)} {oc20 kV20 dc20 pm20 cd20 ct20 : Value}
    {f21 : Addr} {od21 an21 : Option Addr} {sl21 : Array (Option Value)} {oc21 kV21 dc21 pm21 cd21 ct21 : Value}
    {f22 : Addr} {od22 an22 : Option Addr} {sl22 : Array (Option Value)} {oc22 kV22 dc22 pm22 cd22 ct22 : Value}
    {f23 : Addr} {od23 an23 : Option Addr} {sl23 : Array (Option Value)} {oc23 kV23 dc23 pm23 cd23 ct23 : Value}
    {f24 : Addr} {od24 an24 : Option Addr} {sl24 : Array (Option Value)} {oc24 kV24 dc24 pm24 cd24 ct24 : Value}
    {f25 : Addr} {od25 an25 : Option Addr} {sl25 : Array (Option Value)} {oc25 kV25 dc25 pm25 cd25 ct25 : Value}
    (a0 : PySem.W.nsIn K mainGlobals "kind_of" = some (some (.ref f0))) (l0 : K.lookup f0 = some ⟨oc0, od0, .func (PySem.W.fnOf "kind_of" "kind_of" (defArgs s_kind_of) (defBody s_kind_of) (defScope s_kind_of) .none kV0 dc0 pm0 an0 cd0 ct0), sl0⟩) (c0 : PySem.W.codeIn K cd0 "kind_of" = true) (k0 : PySem.W.keepIn K (.ref f0) = true)
    (a1 : PySem.W.nsIn K mainGlobals "check_formula" = some (some (.ref f1))) (l1 : K.lookup f1 = some ⟨oc1, od1, .func (PySem.W.fnOf "check_formula" "check_formula" (defArgs s_check_formula) (defBody s_check_formula) (defScope s_check_formula) .none kV1 dc1 pm1 an1 cd1 ct1), sl1⟩) (c1 : PySem.W.codeIn K cd1 "check_formula" = true) (k1 : PySem.W.keepIn K (.ref f1) = true)
    (a2 : PySem.W.nsIn K mainGlobals "are_alike" = some (some (.ref f2))) (l2 : K.lookup f2 = some ⟨oc2, od2, .func (PySem.W.fnOf "are_alike" "are_alike" (defArgs s_are_alike) (defBody s_are_alike) (defScope s_are_alike) .none kV2 dc2 pm2 an2 cd2 ct2), sl2⟩) (c2 : PySem.W.codeIn K cd2 "are_alike" = true) (k2 : PySem.W.keepIn K (.ref f2) = true)
    (a3 : PySem.W.nsIn K mainGlobals "_operand_kind" = some (some (.ref f3))) (l3 : K.lookup f3 = some ⟨oc3, od3, .func (PySem.W.fnOf "_operand_kind" "_operand_kind" (defArgs s__operand_kind) (defBody s__operand_kind) (defScope s__operand_kind) .none kV3 dc3 pm3 an3 cd3 ct3), sl3⟩) (c3 : PySem.W.codeIn K cd3 "_operand_kind" = true) (k3 : PySem.W.keepIn K (.ref f3) = true)
    (a4 : PySem.W.nsIn K mainGlobals "_comparisons_in" = some (some (.ref f4))) (l4 : K.lookup f4 = some ⟨oc4, od4, .func (PySem.W.fnOf "_comparisons_in" "_comparisons_in" (defArgs s__comparisons_in) (defBody s__comparisons_in) (defScope s__comparisons_in) .none kV4 dc4 pm4 an4 cd4 ct4), sl4⟩) (c4 : PySem.W.codeIn K cd4 "_comparisons_in" = true) (k4 : PySem.W.keepIn K (.ref f4) = true)
    (a5 : PySem.W.nsIn K mainGlobals "_parts_of" = some (some (.ref f5))) (l5 : K.lookup f5 = some ⟨oc5, od5, .func (PySem.W.fnOf "_parts_of" "_parts_of" (defArgs s__parts_of) (defBody s__parts_of) (defScope s__parts_of) .none kV5 dc5 pm5 an5 cd5 ct5), sl5⟩) (c5 : PySem.W.codeIn K cd5 "_parts_of" = true) (k5 : PySem.W.keepIn K (.ref f5) = true)
    (a6 : PySem.W.nsIn K mainGlobals "_law_tape" = some (some (.ref f6))) (l6 : K.lookup f6 = some ⟨oc6, od6, .func (PySem.W.fnOf "_law_tape" "_law_tape" (defArgs s__law_tape) (defBody s__law_tape) (defScope s__law_tape) .none kV6 dc6 pm6 an6 cd6 ct6), sl6⟩) (c6 : PySem.W.codeIn K cd6 "_law_tape" = true) (k6 : PySem.W.keepIn K (.ref f6) = true)
    (a7 : PySem.W.nsIn K mainGlobals "_law_draw" = some (some (.ref f7))) (l7 : K.lookup f7 = some ⟨oc7, od7, .func (PySem.W.fnOf "_law_draw" "_law_draw" (defArgs s__law_draw) (defBody s__law_draw) (defScope s__law_draw) .none kV7 dc7 pm7 an7 cd7 ct7), sl7⟩) (c7 : PySem.W.codeIn K cd7 "_law_draw" = true) (k7 : PySem.W.keepIn K (.ref f7) = true)
    (a8 : PySem.W.nsIn K mainGlobals "_law_name" = some (some (.ref f8))) (l8 : K.lookup f8 = some ⟨oc8, od8, .func (PySem.W.fnOf "_law_name" "_law_name" (defArgs s__law_name) (defBody s__law_name) (defScope s__law_name) .none kV8 dc8 pm8 an8 cd8 ct8), sl8⟩) (c8 : PySem.W.codeIn K cd8 "_law_name" = true) (k8 : PySem.W.keepIn K (.ref f8) = true)
    (a9 : PySem.W.nsIn K mainGlobals "_law_names" = some (some (.ref f9))) (l9 : K.lookup f9 = some ⟨oc9, od9, .func (PySem.W.fnOf "_law_names" "_law_names" (defArgs s__law_names) (defBody s__law_names) (defScope s__law_names) .none kV9 dc9 pm9 an9 cd9 ct9), sl9⟩) (c9 : PySem.W.codeIn K cd9 "_law_names" = true) (k9 : PySem.W.keepIn K (.ref f9) = true)
    (a10 : PySem.W.nsIn K mainGlobals "_law_signs" = some (some (.ref f10))) (l10 : K.lookup f10 = some ⟨oc10, od10, .func (PySem.W.fnOf "_law_signs" "_law_signs" (defArgs s__law_signs) (defBody s__law_signs) (defScope s__law_signs) .none kV10 dc10 pm10 an10 cd10 ct10), sl10⟩) (c10 : PySem.W.codeIn K cd10 "_law_signs" = true) (k10 : PySem.W.keepIn K (.ref f10) = true)
    (a11 : PySem.W.nsIn K mainGlobals "_law_text" = some (some (.ref f11))) (l11 : K.lookup f11 = some ⟨oc11, od11, .func (PySem.W.fnOf "_law_text" "_law_text" (defArgs s__law_text) (defBody s__law_text) (defScope s__law_text) .none kV11 dc11 pm11 an11 cd11 ct11), sl11⟩) (c11 : PySem.W.codeIn K cd11 "_law_text" = true) (k11 : PySem.W.keepIn K (.ref f11) = true)
    (a12 : PySem.W.nsIn K mainGlobals "_law_number" = some (some (.ref f12))) (l12 : K.lookup f12 = some ⟨oc12, od12, .func (PySem.W.fnOf "_law_number" "_law_number" (defArgs s__law_number) (defBody s__law_number) (defScope s__law_number) .none kV12 dc12 pm12 an12 cd12 ct12), sl12⟩) (c12 : PySem.W.codeIn K cd12 "_law_number" = true) (k12 : PySem.W.keepIn K (.ref f12) = true)
    (a13 : PySem.W.nsIn K mainGlobals "_law_kind" = some (some (.ref f13))) (l13 : K.lookup f13 = some ⟨oc13, od13, .func (PySem.W.fnOf "_law_kind" "_law_kind" (defArgs s__law_kind) (defBody s__law_kind) (defScope s__law_kind) .none kV13 dc13 pm13 an13 cd13 ct13), sl13⟩) (c13 : PySem.W.codeIn K cd13 "_law_kind" = true) (k13 : PySem.W.keepIn K (.ref f13) = true)
    (a14 : PySem.W.nsIn K mainGlobals "_law_columns" = some (some (.ref f14))) (l14 : K.lookup f14 = some ⟨oc14, od14, .func (PySem.W.fnOf "_law_columns" "_law_columns" (defArgs s__law_columns) (defBody s__law_columns) (defScope s__law_columns) .none kV14 dc14 pm14 an14 cd14 ct14), sl14⟩) (c14 : PySem.W.codeIn K cd14 "_law_columns" = true) (k14 : PySem.W.keepIn K (.ref f14) = true)
    (a15 : PySem.W.nsIn K mainGlobals "_law_operand" = some (some (.ref f15))) (l15 : K.lookup f15 = some ⟨oc15, od15, .func (PySem.W.fnOf "_law_operand" "_law_operand" (defArgs s__law_operand) (defBody s__law_operand) (defScope s__law_operand) .none kV15 dc15 pm15 an15 cd15 ct15), sl15⟩) (c15 : PySem.W.codeIn K cd15 "_law_operand" = true) (k15 : PySem.W.keepIn K (.ref f15) = true)
    (a16 : PySem.W.nsIn K mainGlobals "_law_stranger" = some (some (.ref f16))) (l16 : K.lookup f16 = some ⟨oc16, od16, .func (PySem.W.fnOf "_law_stranger" "_law_stranger" (defArgs s__law_stranger) (defBody s__law_stranger) (defScope s__law_stranger) .none kV16 dc16 pm16 an16 cd16 ct16), sl16⟩) (c16 : PySem.W.codeIn K cd16 "_law_stranger" = true) (k16 : PySem.W.keepIn K (.ref f16) = true)
    (a17 : PySem.W.nsIn K mainGlobals "_law_loose_operand" = some (some (.ref f17))) (l17 : K.lookup f17 = some ⟨oc17, od17, .func (PySem.W.fnOf "_law_loose_operand" "_law_loose_operand" (defArgs s__law_loose_operand) (defBody s__law_loose_operand) (defScope s__law_loose_operand) .none kV17 dc17 pm17 an17 cd17 ct17), sl17⟩) (c17 : PySem.W.codeIn K cd17 "_law_loose_operand" = true) (k17 : PySem.W.keepIn K (.ref f17) = true)
    (a18 : PySem.W.nsIn K mainGlobals "_law_loose_expression" = some (some (.ref f18))) (l18 : K.lookup f18 = some ⟨oc18, od18, .func (PySem.W.fnOf "_law_loose_expression" "_law_loose_expression" (defArgs s__law_loose_expression) (defBody s__law_loose_expression) (defScope s__law_loose_expression) .none kV18 dc18 pm18 an18 cd18 ct18), sl18⟩) (c18 : PySem.W.codeIn K cd18 "_law_loose_expression" = true) (k18 : PySem.W.keepIn K (.ref f18) = true)
    (a19 : PySem.W.nsIn K mainGlobals "_law_loose_formula" = some (some (.ref f19))) (l19 : K.lookup f19 = some ⟨oc19, od19, .func (PySem.W.fnOf "_law_loose_formula" "_law_loose_formula" (defArgs s__law_loose_formula) (defBody s__law_loose_formula) (defScope s__law_loose_formula) .none kV19 dc19 pm19 an19 cd19 ct19), sl19⟩) (c19 : PySem.W.codeIn K cd19 "_law_loose_formula" = true) (k19 : PySem.W.keepIn K (.ref f19) = true)
    (a20 : PySem.W.nsIn K mainGlobals "_law_kind_of" = some (some (.ref f20))) (l20 : K.lookup f20 = some ⟨oc20, od20, .func (PySem.W.fnOf "_law_kind_of" "_law_kind_of" (defArgs s__law_kind_of) (defBody s__law_kind_of) (defScope s__law_kind_of) .none kV20 dc20 pm20 an20 cd20 ct20), sl20⟩) (c20 : PySem.W.codeIn K cd20 "_law_kind_of" = true) (k20 : PySem.W.keepIn K (.ref f20) = true)
    (a21 : PySem.W.nsIn K mainGlobals "_law_formula_error" = some (some (.ref f21))) (l21 : K.lookup f21 = some ⟨oc21, od21, .func (PySem.W.fnOf "_law_formula_error" "_law_formula_error" (defArgs s__law_formula_error) (defBody s__law_formula_error) (defScope s__law_formula_error) .none kV21 dc21 pm21 an21 cd21 ct21), sl21⟩) (c21 : PySem.W.codeIn K cd21 "_law_formula_error" = true) (k21 : PySem.W.keepIn K (.ref f21) = true)
    (a22 : PySem.W.nsIn K mainGlobals "_law_deep" = some (some (.ref f22))) (l22 : K.lookup f22 = some ⟨oc22, od22, .func (PySem.W.fnOf "_law_deep" "_law_deep" (defArgs s__law_deep) (defBody s__law_deep) (defScope s__law_deep) .none kV22 dc22 pm22 an22 cd22 ct22), sl22⟩) (c22 : PySem.W.codeIn K cd22 "_law_deep" = true) (k22 : PySem.W.keepIn K (.ref f22) = true)
    (a23 : PySem.W.nsIn K mainGlobals "_law_told" = some (some (.ref f23))) (l23 : K.lookup f23 = some ⟨oc23, od23, .func (PySem.W.fnOf "_law_told" "_law_told" (defArgs s__law_told) (defBody s__law_told) (defScope s__law_told) .none kV23 dc23 pm23 an23 cd23 ct23), sl23⟩) (c23 : PySem.W.codeIn K cd23 "_law_told" = true) (k23 : PySem.W.keepIn K (.ref f23) = true)
    (a24 : PySem.W.nsIn K mainGlobals "_law_due" = some (some (.ref f24))) (l24 : K.lookup f24 = some ⟨oc24, od24, .func (PySem.W.fnOf "_law_due" "_law_due" (defArgs s__law_due) (defBody s__law_due) (defScope s__law_due) .none kV24 dc24 pm24 an24 cd24 ct24), sl24⟩) (c24 : PySem.W.codeIn K cd24 "_law_due" = true) (k24 : PySem.W.keepIn K (.ref f24) = true)
    (a25 : PySem.W.nsIn K mainGlobals "law" = some (some (.ref f25))) (l25 : K.lookup f25 = some ⟨oc25, od25, .func (PySem.W.fnOf "law" "law" (defArgs s_law) (defBody s_law) (defScope s_law) .none kV25 dc25 pm25 an25 cd25 ct25), sl25⟩) (c25 : PySem.W.codeIn K cd25 "law" = true) (k25 : PySem.W.keepIn K (.ref f25) = true)
    {a_STRING : Addr} {od_STRING : Option Addr} {n_STRING : Nat} {sl_STRING : Array (Option Value)} {t0_STRING : Tok} (y_STRING : PySem.W.nsIn K mainGlobals "STRING" = some (some (.ref a_STRING))) (w_STRING : K.lookup a_STRING = some ⟨.type "tuple", od_STRING, .seq #[.str "string" t0_STRING] n_STRING, sl_STRING⟩)
    {t_LARGEST_BOUND : Tok} (y_LARGEST_BOUND : PySem.W.nsIn K mainGlobals "LARGEST_BOUND" = some (some (.int 1000000000000 t_LARGEST_BOUND)))
    (z_ValueError : PySem.W.nsIn K mainGlobals "ValueError" = some none)
    (z_abs : PySem.W.nsIn K mainGlobals "abs" = some none)
    (z_dict : PySem.W.nsIn K mainGlobals "dict" = some none)
    (z_int : PySem.W.nsIn K mainGlobals "int" = some none)
    (z_isinstance : PySem.W.nsIn K mainGlobals "isinstance" = some none)
    (z_len : PySem.W.nsIn K mainGlobals "len" = some none)
    (z_list : PySem.W.nsIn K mainGlobals "list" = some none)
    (z_max : PySem.W.nsIn K mainGlobals "max" = some none)
    (z_range : PySem.W.nsIn K mainGlobals "range" = some none)
    (z_repr : PySem.W.nsIn K mainGlobals "repr" = some none)
    (z_super : PySem.W.nsIn K mainGlobals "super" = some none)
    (z_tuple : PySem.W.nsIn K mainGlobals "tuple" = some none)
    {k_ValueTooLarge : Addr}
    (gk_ValueTooLarge : PySem.W.nsIn K mainGlobals "ValueTooLarge" = some (some (.ref k_ValueTooLarge)))
    {k_StringArithmetic : Addr}
    (gk_StringArithmetic : PySem.W.nsIn K mainGlobals "StringArithmetic" = some (some (.ref k_StringArithmetic)))
    {k_MixedComparison : Addr}
    (gk_MixedComparison : PySem.W.nsIn K mainGlobals "MixedComparison" = some (some (.ref k_MixedComparison)))
    {k_UnknownColumn : Addr}
    (gk_UnknownColumn : PySem.W.nsIn K mainGlobals "UnknownColumn" = some (some (.ref k_UnknownColumn)))
    {k_IndoubtError : Addr}
    (gk_IndoubtError : PySem.W.nsIn K mainGlobals "IndoubtError" = some (some (.ref k_IndoubtError)))
    (xk_ValueTooLarge : PySem.W.excIn K k_ValueTooLarge [.type "ValueError", .type "Exception", .type "BaseException", .type "object"] "ValueError.__new__" = true)
    (kk_ValueTooLarge : PySem.W.keepIn K (.ref k_ValueTooLarge) = true)
    (bk_ValueTooLarge : PySem.W.subIn K (.ref k_ValueTooLarge) (.type "BaseException") = some true)
    (tk_ValueTooLarge : PySem.W.typeIn K (.ref k_ValueTooLarge) = some (.type "type"))
    (ek_ValueTooLarge_hg : PySem.W.findIn K (.ref k_ValueTooLarge) "__getattribute__" = some (some (.builtin "BaseException.__getattribute__")))
    (ek_ValueTooLarge_hk : PySem.W.findIn K (.ref k_ValueTooLarge) "__getattr__" = some none)
    (ek_ValueTooLarge_hs : PySem.W.subIn K (.ref k_ValueTooLarge) (.type "BaseException") = some true)
    (ek_ValueTooLarge_hd : PySem.W.hasDictIn K k_ValueTooLarge = true)
    (ek_ValueTooLarge_ha : PySem.W.findIn K (.ref k_ValueTooLarge) "__class__" = some (some (.builtin "object.__class__")))
    (ek_ValueTooLarge_hn : PySem.W.specialIn K (.builtin "object.__class__") "__get__" = some (some (.builtin "getset_descriptor.__get__")))
    (ek_ValueTooLarge_ht : PySem.W.takesIn K (.builtin "object.__class__") = some true)
    (ek_ValueTooLarge_hm : PySem.W.mroIn K k_ValueTooLarge (.type "object") = some true)
    (xk_StringArithmetic : PySem.W.excIn K k_StringArithmetic [.type "ValueError", .type "Exception", .type "BaseException", .type "object"] "ValueError.__new__" = true)
    (kk_StringArithmetic : PySem.W.keepIn K (.ref k_StringArithmetic) = true)
    (bk_StringArithmetic : PySem.W.subIn K (.ref k_StringArithmetic) (.type "BaseException") = some true)
    (tk_StringArithmetic : PySem.W.typeIn K (.ref k_StringArithmetic) = some (.type "type"))
    (ek_StringArithmetic_hg : PySem.W.findIn K (.ref k_StringArithmetic) "__getattribute__" = some (some (.builtin "BaseException.__getattribute__")))
    (ek_StringArithmetic_hk : PySem.W.findIn K (.ref k_StringArithmetic) "__getattr__" = some none)
    (ek_StringArithmetic_hs : PySem.W.subIn K (.ref k_StringArithmetic) (.type "BaseException") = some true)
    (ek_StringArithmetic_hd : PySem.W.hasDictIn K k_StringArithmetic = true)
    (ek_StringArithmetic_ha : PySem.W.findIn K (.ref k_StringArithmetic) "__class__" = some (some (.builtin "object.__class__")))
    (ek_StringArithmetic_hn : PySem.W.specialIn K (.builtin "object.__class__") "__get__" = some (some (.builtin "getset_descriptor.__get__")))
    (ek_StringArithmetic_ht : PySem.W.takesIn K (.builtin "object.__class__") = some true)
    (ek_StringArithmetic_hm : PySem.W.mroIn K k_StringArithmetic (.type "object") = some true)
    (xk_MixedComparison : PySem.W.excIn K k_MixedComparison [.type "ValueError", .type "Exception", .type "BaseException", .type "object"] "ValueError.__new__" = true)
    (kk_MixedComparison : PySem.W.keepIn K (.ref k_MixedComparison) = true)
    (bk_MixedComparison : PySem.W.subIn K (.ref k_MixedComparison) (.type "BaseException") = some true)
    (tk_MixedComparison : PySem.W.typeIn K (.ref k_MixedComparison) = some (.type "type"))
    (ek_MixedComparison_hg : PySem.W.findIn K (.ref k_MixedComparison) "__getattribute__" = some (some (.builtin "BaseException.__getattribute__")))
    (ek_MixedComparison_hk : PySem.W.findIn K (.ref k_MixedComparison) "__getattr__" = some none)
    (ek_MixedComparison_hs : PySem.W.subIn K (.ref k_MixedComparison) (.type "BaseException") = some true)
    (ek_MixedComparison_hd : PySem.W.hasDictIn K k_MixedComparison = true)
    (ek_MixedComparison_ha : PySem.W.findIn K (.ref k_MixedComparison) "__class__" = some (some (.builtin "object.__class__")))
    (ek_MixedComparison_hn : PySem.W.specialIn K (.builtin "object.__class__") "__get__" = some (some (.builtin "getset_descriptor.__get__")))
    (ek_MixedComparison_ht : PySem.W.takesIn K (.builtin "object.__class__") = some true)
    (ek_MixedComparison_hm : PySem.W.mroIn K k_MixedComparison (.type "object") = some true)
    (ek_UnknownColumn_hg : PySem.W.findIn K (.ref k_UnknownColumn) "__getattribute__" = some (some (.builtin "BaseException.__getattribute__")))
    (ek_UnknownColumn_hk : PySem.W.findIn K (.ref k_UnknownColumn) "__getattr__" = some none)
    (ek_UnknownColumn_hs : PySem.W.subIn K (.ref k_UnknownColumn) (.type "BaseException") = some true)
    (ek_UnknownColumn_hd : PySem.W.hasDictIn K k_UnknownColumn = true)
    (ek_UnknownColumn_ha : PySem.W.findIn K (.ref k_UnknownColumn) "__class__" = some (some (.builtin "object.__class__")))
    (ek_UnknownColumn_hn : PySem.W.specialIn K (.builtin "object.__class__") "__get__" = some (some (.builtin "getset_descriptor.__get__")))
    (ek_UnknownColumn_ht : PySem.W.takesIn K (.builtin "object.__class__") = some true)
    (ek_UnknownColumn_hm : PySem.W.mroIn K k_UnknownColumn (.type "object") = some true)
    {fi_UnknownColumn : Addr}
    {nm_UnknownColumn qn_UnknownColumn : PySem.Str} {N_UnknownColumn : Addr} {bs_UnknownColumn bm_UnknownColumn : List Value} {sn_UnknownColumn : List PySem.Str} {sub_UnknownColumn : List Value} {ab_UnknownColumn : Bool} {col_UnknownColumn : Option Bool} {dd_UnknownColumn : Option Addr} {c0_UnknownColumn c1_UnknownColumn c2_UnknownColumn c3_UnknownColumn c5_UnknownColumn : Option Value} (x1_UnknownColumn : K.lookup k_UnknownColumn = some (excClassObj nm_UnknownColumn qn_UnknownColumn k_UnknownColumn N_UnknownColumn bs_UnknownColumn bm_UnknownColumn true sn_UnknownColumn sub_UnknownColumn ab_UnknownColumn col_UnknownColumn dd_UnknownColumn c0_UnknownColumn c1_UnknownColumn c2_UnknownColumn c3_UnknownColumn c5_UnknownColumn "ValueError.__new__")) (x2_UnknownColumn : PySem.HandSPX.refsVE bm_UnknownColumn = true)
    (su_sa_UnknownColumn : PySem.W.findIn K (.ref k_UnknownColumn) "__setattr__" = some (some (.builtin "object.__setattr__")))
    (su_ga_UnknownColumn : PySem.W.findIn K (.ref k_UnknownColumn) "__getattribute__" = some (some (.builtin "BaseException.__getattribute__")))
    (su_gg_UnknownColumn : PySem.W.findIn K (.ref k_UnknownColumn) "__getattr__" = some none)
    (su_no_UnknownColumn : PySem.W.findIn K (.ref k_UnknownColumn) "name" = some none)
    (su_iC_UnknownColumn : PySem.W.findIn K (.ref k_UnknownColumn) "__init__" = some (some (.ref fi_UnknownColumn)))
    (su_tI_UnknownColumn : PySem.W.typeIn K (.ref fi_UnknownColumn) = some (.type "function"))
    (su_kC_UnknownColumn : PySem.W.keepIn K (.ref k_UnknownColumn) = true)
    (su_bC_UnknownColumn : PySem.W.subIn K (.ref k_UnknownColumn) (.type "BaseException") = some true)
    (su_tC_UnknownColumn : PySem.W.typeIn K (.ref k_UnknownColumn) = some (.type "type"))
    (su_hd_UnknownColumn : PySem.W.hasDictIn K k_UnknownColumn = true)
    (su_su_UnknownColumn : PySem.W.ks_superIn K k_UnknownColumn k_UnknownColumn "__init__" = some (some (.builtin "ValueError.__init__")))
    (su_ve_UnknownColumn : PySem.W.subIn K (.ref k_UnknownColumn) (.type "ValueError") = some true)
    (su_qi_UnknownColumn : PySem.W.excInitIn K k_UnknownColumn SupE.tailV "ValueError.__new__" = true)
    (su_mm_UnknownColumn : PySem.W.mroIn K k_UnknownColumn (.ref k_UnknownColumn) = some true)
    (su_th_UnknownColumn : PySem.W.nsIn K PySem.cStatics "thirdparty.any" = some none)
    (su_top_UnknownColumn : (l.prog.main.scope.names.lookup ("super" : PySem.Str)).isSome = false)
    {oc_UnknownColumn : Value} {od_UnknownColumn : Option Addr} {doc_UnknownColumn pm_UnknownColumn : Value} {an_UnknownColumn : Option Addr} {cda_UnknownColumn : Addr} {ct_UnknownColumn : Value} {cc_UnknownColumn : Addr} {osl_UnknownColumn : Array (Option Value)} {ccl_UnknownColumn : Value} {cdd_UnknownColumn : Option Addr} {fv_UnknownColumn : Array Value} {ccs_UnknownColumn : Array (Option Value)} {file_UnknownColumn : PySem.Str} {tf_UnknownColumn : Tok} {cl_UnknownColumn : Value} {cld_UnknownColumn : Option Addr} {csl_UnknownColumn : Array (Option Value)} (y1_UnknownColumn : K.lookup fi_UnknownColumn = some ⟨oc_UnknownColumn, od_UnknownColumn, .func (PySem.W.ksFn "__init__" "UnknownColumn.__init__" (defArgs s_cls_UnknownColumn) (defBody s_cls_UnknownColumn) (defScope s_cls_UnknownColumn) .none .none doc_UnknownColumn pm_UnknownColumn an_UnknownColumn (.ref cda_UnknownColumn) ct_UnknownColumn cc_UnknownColumn), osl_UnknownColumn⟩) (y2_UnknownColumn : PySem.W.codeIn K (.ref cda_UnknownColumn) "UnknownColumn.__init__" = true) (y3_UnknownColumn : K.lookup cda_UnknownColumn = some ⟨ccl_UnknownColumn, cdd_UnknownColumn, .fields fv_UnknownColumn, ccs_UnknownColumn⟩) (y4_UnknownColumn : (fv_UnknownColumn[2]? : Option Value) = some (.str file_UnknownColumn tf_UnknownColumn)) (y5_UnknownColumn : ((l.prog.main.file : PySem.Str) == file_UnknownColumn) = true) (y6_UnknownColumn : K.lookup cc_UnknownColumn = some ⟨cl_UnknownColumn, cld_UnknownColumn, .cell (some (.ref k_UnknownColumn)), csl_UnknownColumn⟩)
    (em_StringArithmetic_IndoubtError : PySem.W.exmOne K (.ref k_StringArithmetic) (.ref k_IndoubtError) = some true)
    (em_ValueTooLarge_IndoubtError : PySem.W.exmOne K (.ref k_ValueTooLarge) (.ref k_IndoubtError) = some true)
    (em_MixedComparison_IndoubtError : PySem.W.exmOne K (.ref k_MixedComparison) (.ref k_IndoubtError) = some true)
    (em_UnknownColumn_IndoubtError : PySem.W.exmOne K (.ref k_UnknownColumn) (.ref k_IndoubtError) = some true)
    (ki_StringArithmetic_UnknownColumn : PySem.W.kitOne K (.ref k_StringArithmetic) (.ref k_UnknownColumn) = some false)
    (ki_ValueTooLarge_UnknownColumn : PySem.W.kitOne K (.ref k_ValueTooLarge) (.ref k_UnknownColumn) = some false)
    (ki_MixedComparison_UnknownColumn : PySem.W.kitOne K (.ref k_MixedComparison) (.ref k_UnknownColumn) = some false)
    (ki_UnknownColumn_UnknownColumn : PySem.W.kitOne K (.ref k_UnknownColumn) (.ref k_UnknownColumn) = some true)
    (ki_StringArithmetic_MixedComparison : PySem.W.kitOne K (.ref k_StringArithmetic) (.ref k_MixedComparison) = some false)
    (ki_ValueTooLarge_MixedComparison : PySem.W.kitOne K (.ref k_ValueTooLarge) (.ref k_MixedComparison) = some false)
    (ki_MixedComparison_MixedComparison : PySem.W.kitOne K (.ref k_MixedComparison) (.ref k_MixedComparison) = some true)
    (ki_UnknownColumn_MixedComparison : PySem.W.kitOne K (.ref k_UnknownColumn) (.ref k_MixedComparison) = some false)
    (ki_StringArithmetic_ValueTooLarge : PySem.W.kitOne K (.ref k_StringArithmetic) (.ref k_ValueTooLarge) = some false)
    (ki_ValueTooLarge_ValueTooLarge : PySem.W.kitOne K (.ref k_ValueTooLarge) (.ref k_ValueTooLarge) = some true)
    (ki_MixedComparison_ValueTooLarge : PySem.W.kitOne K (.ref k_MixedComparison) (.ref k_ValueTooLarge) = some false)
    (ki_UnknownColumn_ValueTooLarge : PySem.W.kitOne K (.ref k_UnknownColumn) (.ref k_ValueTooLarge) = some false)
    (ki_StringArithmetic_StringArithmetic : PySem.W.kitOne K (.ref k_StringArithmetic) (.ref k_StringArithmetic) = some true)
    (ki_ValueTooLarge_StringArithmetic : PySem.W.kitOne K (.ref k_ValueTooLarge) (.ref k_StringArithmetic) = some false)
    (ki_MixedComparison_StringArithmetic : PySem.W.kitOne K (.ref k_MixedComparison) (.ref k_StringArithmetic) = some false)
    (ki_UnknownColumn_StringArithmetic : PySem.W.kitOne K (.ref k_UnknownColumn) (.ref k_StringArithmetic) = some false)
    (ki_StringArithmetic_ValueError : PySem.W.kitOne K (.ref k_StringArithmetic) (.type "ValueError") = some true)
    (ki_ValueTooLarge_ValueError : PySem.W.kitOne K (.ref k_ValueTooLarge) (.type "ValueError") = some true)
    (ki_MixedComparison_ValueError : PySem.W.kitOne K (.ref k_MixedComparison) (.type "ValueError") = some true)
    (ki_UnknownColumn_ValueError : PySem.W.kitOne K (.ref k_UnknownColumn) (.type "ValueError") = some true) :
  ∀ (base : Heap) (s : Shared) (H : Hp) (a : Addr) (ns : List Int), K.In base → base.Ns mainGlobals mg → Env0 l.prog w K mg base callerA [] s H → ns.length ≤ 63 → SqL K H a (ns.map V.int) →
      codeAny (model l.prog w) callerA (.call (.ref fa) ⟨[.ref a], []⟩) (CR CX0 [] l.prog w H s (fun v _ => v = .bl true) E0) s := by
  have e := hfa.symm.trans (PySem.W.mg_of X G a25)
  cases e
  have F0 := fun_mk (st := s_kind_of) l0 c0 k0
  have b0 := F0.binds (ps := ["expression", "columns"]) fun _ _ _ _ _ _ us hl => match us, hl with | [_, _], _ => rfl
  have F1 := fun_mk (st := s_check_formula) l1 c1 k1
  have b1 := F1.binds (ps := ["formula", "columns"]) fun _ _ _ _ _ _ us hl => match us, hl with | [_, _], _ => rfl
  have F2 := fun_mk (st := s_are_alike) l2 c2 k2
  have b2 := F2.binds (ps := ["left", "right"]) fun _ _ _ _ _ _ us hl => match us, hl with | [_, _], _ => rfl
  have F3 := fun_mk (st := s__operand_kind) l3 c3 k3
  have b3 := F3.binds (ps := ["operand", "kinds"]) fun _ _ _ _ _ _ us hl => match us, hl with | [_, _], _ => rfl
  have F4 := fun_mk (st := s__comparisons_in) l4 c4 k4
  have b4 := F4.binds (ps := ["formula"]) fun _ _ _ _ _ _ us hl => match us, hl with | [_], _ => rfl
  have F5 := fun_mk (st := s__parts_of) l5 c5 k5
  have b5 := F5.binds (ps := ["formula"]) fun _ _ _ _ _ _ us hl => match us, hl with | [_], _ => rfl
  have F6 := fun_mk (st := s__law_tape) l6 c6 k6
  have b6 := F6.binds (ps := ["script"]) fun _ _ _ _ _ _ us hl => match us, hl with | [_], _ => rfl
  have F7 := fun_mk (st := s__law_draw) l7 c7 k7
  have b7 := F7.binds (ps := ["tape", "many"]) fun _ _ _ _ _ _ us hl => match us, hl with | [_, _], _ => rfl
  have F8 := fun_mk (st := s__law_name) l8 c8 k8
  have b8 := F8.binds (ps := ["tape"]) fun _ _ _ _ _ _ us hl => match us, hl with | [_], _ => rfl
  have F9 := fun_mk (st := s__law_names) l9 c9 k9
  have b9 := F9.binds (ps := ["tape", "many"]) fun _ _ _ _ _ _ us hl => match us, hl with | [_, _], _ => rfl
  have F10 := fun_mk (st := s__law_signs) l10 c10 k10
  have b10 := F10.binds (ps := []) fun _ _ _ _ _ _ us hl => match us, hl with | [], _ => rfl
  have F11 := fun_mk (st := s__law_text) l11 c11 k11
  have b11 := F11.binds (ps := ["tape"]) fun _ _ _ _ _ _ us hl => match us, hl with | [_], _ => rfl
  have F12 := fun_mk (st := s__law_number) l12 c12 k12
  have b12 := F12.binds (ps := ["tape"]) fun _ _ _ _ _ _ us hl => match us, hl with | [_], _ => rfl
  have F13 := fun_mk (st := s__law_kind) l13 c13 k13
  have b13 := F13.binds (ps := ["tape"]) fun _ _ _ _ _ _ us hl => match us, hl with | [_], _ => rfl
  have F14 := fun_mk (st := s__law_columns) l14 c14 k14
  have b14 := F14.binds (ps := ["tape", "many"]) fun _ _ _ _ _ _ us hl => match us, hl with | [_, _], _ => rfl
  have F15 := fun_mk (st := s__law_operand) l15 c15 k15
  have b15 := F15.binds (ps := ["tape", "columns", "word"]) fun _ _ _ _ _ _ us hl => match us, hl with | [_, _, _], _ => rfl
  have F16 := fun_mk (st := s__law_stranger) l16 c16 k16
  have b16 := F16.binds (ps := ["tape", "names"]) fun _ _ _ _ _ _ us hl => match us, hl with | [_, _], _ => rfl
  have F17 := fun_mk (st := s__law_loose_operand) l17 c17 k17
  have b17 := F17.binds (ps := ["tape", "columns", "word"]) fun _ _ _ _ _ _ us hl => match us, hl with | [_, _, _], _ => rfl
  have F18 := fun_mk (st := s__law_loose_expression) l18 c18 k18
  have b18 := F18.binds (ps := ["tape", "columns", "word"]) fun _ _ _ _ _ _ us hl => match us, hl with | [_, _, _], _ => rfl
  have F19 := fun_mk (st := s__law_loose_formula) l19 c19 k19
  have b19 := F19.binds (ps := ["tape", "columns", "depth"]) fun _ _ _ _ _ _ us hl => match us, hl with | [_, _, _], _ => rfl
  have F20 := fun_mk (st := s__law_kind_of) l20 c20 k20
  have b20 := F20.binds (ps := ["expression", "columns"]) fun _ _ _ _ _ _ us hl => match us, hl with | [_, _], _ => rfl
  have F21 := fun_mk (st := s__law_formula_error) l21 c21 k21
  have b21 := F21.binds (ps := ["formula", "columns"]) fun _ _ _ _ _ _ us hl => match us, hl with | [_, _], _ => rfl
  have F22 := fun_mk (st := s__law_deep) l22 c22 k22
  have b22 := F22.binds (ps := ["tape", "formula"]) fun _ _ _ _ _ _ us hl => match us, hl with | [_, _], _ => rfl
  have F23 := fun_mk (st := s__law_told) l23 c23 k23
  have b23 := F23.binds (ps := ["formula", "columns"]) fun _ _ _ _ _ _ us hl => match us, hl with | [_, _], _ => rfl
  have F24 := fun_mk (st := s__law_due) l24 c24 k24
  have b24 := F24.binds (ps := ["formula", "columns"]) fun _ _ _ _ _ _ us hl => match us, hl with | [_, _], _ => rfl
  have F25 := fun_mk (st := s_law) l25 c25 k25
  have b25 := F25.binds (ps := ["script"]) fun _ _ _ _ _ _ us hl => match us, hl with | [_], _ => rfl
  intro base s H a ns _ _ e0 hl hS
  let T : Txt l.prog K mg := ⟨f0, _, F0, b0, PySem.W.mg_of X G a0, f1, _, F1, b1, PySem.W.mg_of X G a1, f2, _, F2, b2, PySem.W.mg_of X G a2, f3, _, F3, b3, PySem.W.mg_of X G a3, f4, _, F4, b4, PySem.W.mg_of X G a4, f5, _, F5, b5, PySem.W.mg_of X G a5, f6, _, F6, b6, PySem.W.mg_of X G a6, f7, _, F7, b7, PySem.W.mg_of X G a7, f8, _, F8, b8, PySem.W.mg_of X G a8, f9, _, F9, b9, PySem.W.mg_of X G a9, f10, _, F10, b10, PySem.W.mg_of X G a10, f11, _, F11, b11, PySem.W.mg_of X G a11, f12, _, F12, b12, PySem.W.mg_of X G a12, f13, _, F13, b13, PySem.W.mg_of X G a13, f14, _, F14, b14, PySem.W.mg_of X G a14, f15, _, F15, b15, PySem.W.mg_of X G a15, f16, _, F16, b16, PySem.W.mg_of X G a16, f17, _, F17, b17, PySem.W.mg_of X G a17, f18, _, F18, b18, PySem.W.mg_of X G a18, f19, _, F19, b19, PySem.W.mg_of X G a19, f20, _, F20, b20, PySem.W.mg_of X G a20, f21, _, F21, b21, PySem.W.mg_of X G a21, f22, _, F22, b22, PySem.W.mg_of X G a22, f23, _, F23, b23, PySem.W.mg_of X G a23, f24, _, F24, b24, PySem.W.mg_of X G a24, fa, _, F25, b25, PySem.W.mg_of X G a25, a_STRING, PySem.W.mg_of X G y_STRING, fun H => .inr ⟨_, _, _, w_STRING, rfl, rfl, line (by simp), .cons ⟨_, rfl⟩ (.nil)⟩, _, PySem.W.mg_of X G y_LARGEST_BOUND, PySem.W.mg_none_of X G z_ValueError, PySem.W.mg_none_of X G z_abs, PySem.W.mg_none_of X G z_dict, PySem.W.mg_none_of X G z_int, PySem.W.mg_none_of X G z_isinstance, PySem.W.mg_none_of X G z_len, PySem.W.mg_none_of X G z_list, PySem.W.mg_none_of X G z_max, PySem.W.mg_none_of X G z_range, PySem.W.mg_none_of X G z_repr, PySem.W.mg_none_of X G z_super, PySem.W.mg_none_of X G z_tuple, k_ValueTooLarge, PySem.W.mg_of X G gk_ValueTooLarge, k_StringArithmetic, PySem.W.mg_of X G gk_StringArithmetic, k_MixedComparison, PySem.W.mg_of X G gk_MixedComparison, k_UnknownColumn, PySem.W.mg_of X G gk_UnknownColumn, k_IndoubtError, PySem.W.mg_of X G gk_IndoubtError, xk_ValueTooLarge, kk_ValueTooLarge, bk_ValueTooLarge, tk_ValueTooLarge, ⟨ek_ValueTooLarge_hg, ek_ValueTooLarge_hk, ek_ValueTooLarge_hs, ek_ValueTooLarge_hd, ek_ValueTooLarge_ha, ek_ValueTooLarge_hn, ek_ValueTooLarge_ht, ek_ValueTooLarge_hm⟩, xk_StringArithmetic, kk_StringArithmetic, bk_StringArithmetic, tk_StringArithmetic, ⟨ek_StringArithmetic_hg, ek_StringArithmetic_hk, ek_StringArithmetic_hs, ek_StringArithmetic_hd, ek_StringArithmetic_ha, ek_StringArithmetic_hn, ek_StringArithmetic_ht, ek_StringArithmetic_hm⟩, xk_MixedComparison, kk_MixedComparison, bk_MixedComparison, tk_MixedComparison, ⟨ek_MixedComparison_hg, ek_MixedComparison_hk, ek_MixedComparison_hs, ek_MixedComparison_hd, ek_MixedComparison_ha, ek_MixedComparison_hn, ek_MixedComparison_ht, ek_MixedComparison_hm⟩, fi_UnknownColumn, ⟨ek_UnknownColumn_hg, ek_UnknownColumn_hk, ek_UnknownColumn_hs, ek_UnknownColumn_hd, ek_UnknownColumn_ha, ek_UnknownColumn_hn, ek_UnknownColumn_ht, ek_UnknownColumn_hm⟩, ⟨⟨_, _, _, _, _, _, _, _, _, _, _, _, _, _, _, x1_UnknownColumn, x2_UnknownColumn⟩, su_sa_UnknownColumn, su_ga_UnknownColumn, su_gg_UnknownColumn, su_no_UnknownColumn, su_iC_UnknownColumn, su_tI_UnknownColumn, su_kC_UnknownColumn, su_bC_UnknownColumn, su_tC_UnknownColumn, su_hd_UnknownColumn, su_su_UnknownColumn, su_ve_UnknownColumn, su_qi_UnknownColumn, su_mm_UnknownColumn, su_th_UnknownColumn, (fun _ => ⟨_, rfl⟩), su_top_UnknownColumn, ⟨_, _, _, ⟨12, 17, 12, 21⟩, ⟨12, 23, 12, 27⟩, _, _, _, _, _, _, _, _, _, _, _, _, _, _, _, _, y1_UnknownColumn, y2_UnknownColumn, y3_UnknownColumn, y4_UnknownColumn, y5_UnknownColumn, y6_UnknownColumn⟩⟩, em_StringArithmetic_IndoubtError, em_ValueTooLarge_IndoubtError, em_MixedComparison_IndoubtError, em_UnknownColumn_IndoubtError, ki_StringArithmetic_UnknownColumn, ki_ValueTooLarge_UnknownColumn, ki_MixedComparison_UnknownColumn, ki_UnknownColumn_UnknownColumn, ki_StringArithmetic_MixedComparison, ki_ValueTooLarge_MixedComparison, ki_MixedComparison_MixedComparison, ki_UnknownColumn_MixedComparison, ki_StringArithmetic_ValueTooLarge, ki_ValueTooLarge_ValueTooLarge, ki_MixedComparison_ValueTooLarge, ki_UnknownColumn_ValueTooLarge, ki_StringArithmetic_StringArithmetic, ki_ValueTooLarge_StringArithmetic, ki_MixedComparison_StringArithmetic, ki_UnknownColumn_StringArithmetic, ki_StringArithmetic_ValueError, ki_ValueTooLarge_ValueError, ki_MixedComparison_ValueError, ki_UnknownColumn_ValueError⟩
  exact IndEnd.fun_at (us := [.ref a]) (vs := [.ref a]) F25 sc_law (k := 27) ⟨rfl, by decide, by decide⟩ e0 (.of_eq rfl) (.cons rfl .nil) rfl fun cdv hr => law_body (P := l.prog) (w := w) (base := base) T hS hl (fun _ z => (nomatch z)) cdv hr
end
end Va
open PySem PySem.W PyProof.Rows
set_option maxHeartbeats 0 in
theorem PySem.Challenge.cw_indoubt_k04_first_error_of_a_formula_holds : PySem.Challenge.rw_indoubt_k04_first_error_of_a_formula.Holds := by
  w_on; o_law; k_head; (case hw => w_witness2)
  k_fill
  refine IndEnd.walk_at_caller (l := PySem.Challenge.rw_indoubt_k04_first_error_of_a_formula) (n := 63) rfl (by decide) rfl (fun w h Y => PySem.W.kIn_of Y) ?F
  case F =>
    intro w mg fa h KX G hmg
    refine' Va.all_mk KX G hmg ?a0 ?l0 ?c0 ?k0 ?a1 ?l1 ?c1 ?k1 ?a2 ?l2 ?c2 ?k2 ?a3 ?l3 ?c3 ?k3 ?a4 ?l4 ?c4 ?k4 ?a5 ?l5 ?c5 ?k5 ?a6 ?l6 ?c6 ?k6 ?a7 ?l7 ?c7 ?k7 ?a8 ?l8 ?c8 ?k8 ?a9 ?l9 ?c9 ?k9 ?a10 ?l10 ?c10 ?k10 ?a11 ?l11 ?c11 ?k11 ?a12 ?l12 ?c12 ?k12 ?a13 ?l13 ?c13 ?k13 ?a14 ?l14 ?c14 ?k14 ?a15 ?l15 ?c15 ?k15 ?a16 ?l16 ?c16 ?k16 ?a17 ?l17 ?c17 ?k17 ?a18 ?l18 ?c18 ?k18 ?a19 ?l19 ?c19 ?k19 ?a20 ?l20 ?c20 ?k20 ?a21 ?l21 ?c21 ?k21 ?a22 ?l22 ?c22 ?k22 ?a23 ?l23 ?c23 ?k23 ?a24 ?l24 ?c24 ?k24 ?a25 ?l25 ?c25 ?k25 ?y_STRING ?w_STRING ?y_LARGEST_BOUND ?z_ValueError ?z_abs ?z_dict ?z_int ?z_isinstance ?z_len ?z_list ?z_max ?z_range ?z_repr ?z_super ?z_tuple ?gk_ValueTooLarge ?gk_StringArithmetic ?gk_MixedComparison ?gk_UnknownColumn ?gk_IndoubtError ?xk_ValueTooLarge ?kk_ValueTooLarge ?bk_ValueTooLarge ?tk_ValueTooLarge ?ek_ValueTooLarge_hg ?ek_ValueTooLarge_hk ?ek_ValueTooLarge_hs ?ek_ValueTooLarge_hd ?ek_ValueTooLarge_ha ?ek_ValueTooLarge_hn ?ek_ValueTooLarge_ht ?ek_ValueTooLarge_hm ?xk_StringArithmetic ?kk_StringArithmetic ?bk_StringArithmetic ?tk_StringArithmetic ?ek_StringArithmetic_hg ?ek_StringArithmetic_hk ?ek_StringArithmetic_hs ?ek_StringArithmetic_hd ?ek_StringArithmetic_ha ?ek_StringArithmetic_hn ?ek_StringArithmetic_ht ?ek_StringArithmetic_hm ?xk_MixedComparison ?kk_MixedComparison ?bk_MixedComparison ?tk_MixedComparison ?ek_MixedComparison_hg ?ek_MixedComparison_hk ?ek_MixedComparison_hs ?ek_MixedComparison_hd ?ek_MixedComparison_ha ?ek_MixedComparison_hn ?ek_MixedComparison_ht ?ek_MixedComparison_hm ?ek_UnknownColumn_hg ?ek_UnknownColumn_hk ?ek_UnknownColumn_hs ?ek_UnknownColumn_hd ?ek_UnknownColumn_ha ?ek_UnknownColumn_hn ?ek_UnknownColumn_ht ?ek_UnknownColumn_hm ?x1_UnknownColumn ?x2_UnknownColumn ?su_sa_UnknownColumn ?su_ga_UnknownColumn ?su_gg_UnknownColumn ?su_no_UnknownColumn ?su_iC_UnknownColumn ?su_tI_UnknownColumn ?su_kC_UnknownColumn ?su_bC_UnknownColumn ?su_tC_UnknownColumn ?su_hd_UnknownColumn ?su_su_UnknownColumn ?su_ve_UnknownColumn ?su_qi_UnknownColumn ?su_mm_UnknownColumn ?su_th_UnknownColumn ?su_top_UnknownColumn ?y1_UnknownColumn ?y2_UnknownColumn ?y3_UnknownColumn ?y4_UnknownColumn ?y5_UnknownColumn ?y6_UnknownColumn ?em_StringArithmetic_IndoubtError ?em_ValueTooLarge_IndoubtError ?em_MixedComparison_IndoubtError ?em_UnknownColumn_IndoubtError ?ki_StringArithmetic_UnknownColumn ?ki_ValueTooLarge_UnknownColumn ?ki_MixedComparison_UnknownColumn ?ki_UnknownColumn_UnknownColumn ?ki_StringArithmetic_MixedComparison ?ki_ValueTooLarge_MixedComparison ?ki_MixedComparison_MixedComparison ?ki_UnknownColumn_MixedComparison ?ki_StringArithmetic_ValueTooLarge ?ki_ValueTooLarge_ValueTooLarge ?ki_MixedComparison_ValueTooLarge ?ki_UnknownColumn_ValueTooLarge ?ki_StringArithmetic_StringArithmetic ?ki_ValueTooLarge_StringArithmetic ?ki_MixedComparison_StringArithmetic ?ki_UnknownColumn_StringArithmetic ?ki_StringArithmetic_ValueError ?ki_ValueTooLarge_ValueError ?ki_MixedComparison_ValueError ?ki_UnknownColumn_ValueError
    (case a0 => k_is); (case l0 => k_is); (case c0 => k_is); (case k0 => k_is); (case a1 => k_is); (case l1 => k_is); (case c1 => k_is); (case k1 => k_is); (case a2 => k_is); (case l2 => k_is); (case c2 => k_is); (case k2 => k_is); (case a3 => k_is); (case l3 => k_is); (case c3 => k_is); (case k3 => k_is); (case a4 => k_is); (case l4 => k_is); (case c4 => k_is); (case k4 => k_is); (case a5 => k_is); (case l5 => k_is); (case c5 => k_is); (case k5 => k_is); (case a6 => k_is); (case l6 => k_is); (case c6 => k_is); (case k6 => k_is); (case a7 => k_is); (case l7 => k_is); (case c7 => k_is); (case k7 => k_is); (case a8 => k_is); (case l8 => k_is); (case c8 => k_is); (case k8 => k_is); (case a9 => k_is); (case l9 => k_is); (case c9 => k_is); (case k9 => k_is); (case a10 => k_is); (case l10 => k_is); (case c10 => k_is); (case k10 => k_is); (case a11 => k_is); (case l11 => k_is); (case c11 => k_is); (case k11 => k_is); (case a12 => k_is); (case l12 => k_is); (case c12 => k_is); (case k12 => k_is); (case a13 => k_is); (case l13 => k_is); (case c13 => k_is); (case k13 => k_is); (case a14 => k_is); (case l14 => k_is); (case c14 => k_is); (case k14 => k_is); (case a15 => k_is); (case l15 => k_is); (case c15 => k_is); (case k15 => k_is); (case a16 => k_is); (case l16 => k_is); (case c16 => k_is); (case k16 => k_is); (case a17 => k_is); (case l17 => k_is); (case c17 => k_is); (case k17 => k_is); (case a18 => k_is); (case l18 => k_is); (case c18 => k_is); (case k18 => k_is); (case a19 => k_is); (case l19 => k_is); (case c19 => k_is); (case k19 => k_is); (case a20 => k_is); (case l20 => k_is); (case c20 => k_is); (case k20 => k_is); (case a21 => k_is); (case l21 => k_is); (case c21 => k_is); (case k21 => k_is); (case a22 => k_is); (case l22 => k_is); (case c22 => k_is); (case k22 => k_is); (case a23 => k_is); (case l23 => k_is); (case c23 => k_is); (case k23 => k_is); (case a24 => k_is); (case l24 => k_is); (case c24 => k_is); (case k24 => k_is); (case a25 => k_is); (case l25 => k_is); (case c25 => k_is); (case k25 => k_is); (case y_STRING => k_is); (case w_STRING => k_is); (case y_LARGEST_BOUND => k_is); (case z_ValueError => k_is); (case z_abs => k_is); (case z_dict => k_is); (case z_int => k_is); (case z_isinstance => k_is); (case z_len => k_is); (case z_list => k_is); (case z_max => k_is); (case z_range => k_is); (case z_repr => k_is); (case z_super => k_is); (case z_tuple => k_is); (case gk_ValueTooLarge => first | k_is | k_exc | kernel_rfl | decide +kernel); (case gk_StringArithmetic => first | k_is | k_exc | kernel_rfl | decide +kernel); (case gk_MixedComparison => first | k_is | k_exc | kernel_rfl | decide +kernel); (case gk_UnknownColumn => first | k_is | k_exc | kernel_rfl | decide +kernel); (case gk_IndoubtError => first | k_is | k_exc | kernel_rfl | decide +kernel); (case xk_ValueTooLarge => first | k_is | k_exc | kernel_rfl | decide +kernel); (case kk_ValueTooLarge => first | k_is | k_exc | kernel_rfl | decide +kernel); (case bk_ValueTooLarge => first | k_is | k_exc | kernel_rfl | decide +kernel); (case tk_ValueTooLarge => first | k_is | k_exc | kernel_rfl | decide +kernel); (case ek_ValueTooLarge_hg => first | k_is | kernel_rfl | decide +kernel); (case ek_ValueTooLarge_hk => first | k_is | kernel_rfl | decide +kernel); (case ek_ValueTooLarge_hs => first | k_is | kernel_rfl | decide +kernel); (case ek_ValueTooLarge_hd => first | k_is | kernel_rfl | decide +kernel); (case ek_ValueTooLarge_ha => first | k_is | kernel_rfl | decide +kernel); (case ek_ValueTooLarge_hn => first | k_is | kernel_rfl | decide +kernel); (case ek_ValueTooLarge_ht => first | k_is | kernel_rfl | decide +kernel); (case ek_ValueTooLarge_hm => first | k_is | kernel_rfl | decide +kernel); (case xk_StringArithmetic => first | k_is | k_exc | kernel_rfl | decide +kernel); (case kk_StringArithmetic => first | k_is | k_exc | kernel_rfl | decide +kernel); (case bk_StringArithmetic => first | k_is | k_exc | kernel_rfl | decide +kernel); (case tk_StringArithmetic => first | k_is | k_exc | kernel_rfl | decide +kernel); (case ek_StringArithmetic_hg => first | k_is | kernel_rfl | decide +kernel); (case ek_StringArithmetic_hk => first | k_is | kernel_rfl | decide +kernel); (case ek_StringArithmetic_hs => first | k_is | kernel_rfl | decide +kernel); (case ek_StringArithmetic_hd => first | k_is | kernel_rfl | decide +kernel); (case ek_StringArithmetic_ha => first | k_is | kernel_rfl | decide +kernel); (case ek_StringArithmetic_hn => first | k_is | kernel_rfl | decide +kernel); (case ek_StringArithmetic_ht => first | k_is | kernel_rfl | decide +kernel); (case ek_StringArithmetic_hm => first | k_is | kernel_rfl | decide +kernel); (case xk_MixedComparison => first | k_is | k_exc | kernel_rfl | decide +kernel); (case kk_MixedComparison => first | k_is | k_exc | kernel_rfl | decide +kernel); (case bk_MixedComparison => first | k_is | k_exc | kernel_rfl | decide +kernel); (case tk_MixedComparison => first | k_is | k_exc | kernel_rfl | decide +kernel); (case ek_MixedComparison_hg => first | k_is | kernel_rfl | decide +kernel); (case ek_MixedComparison_hk => first | k_is | kernel_rfl | decide +kernel); (case ek_MixedComparison_hs => first | k_is | kernel_rfl | decide +kernel); (case ek_MixedComparison_hd => first | k_is | kernel_rfl | decide +kernel); (case ek_MixedComparison_ha => first | k_is | kernel_rfl | decide +kernel); (case ek_MixedComparison_hn => first | k_is | kernel_rfl | decide +kernel); (case ek_MixedComparison_ht => first | k_is | kernel_rfl | decide +kernel); (case ek_MixedComparison_hm => first | k_is | kernel_rfl | decide +kernel); (case ek_UnknownColumn_hg => first | k_is | kernel_rfl | decide +kernel); (case ek_UnknownColumn_hk => first | k_is | kernel_rfl | decide +kernel); (case ek_UnknownColumn_hs => first | k_is | kernel_rfl | decide +kernel); (case ek_UnknownColumn_hd => first | k_is | kernel_rfl | decide +kernel); (case ek_UnknownColumn_ha => first | k_is | kernel_rfl | decide +kernel); (case ek_UnknownColumn_hn => first | k_is | kernel_rfl | decide +kernel); (case ek_UnknownColumn_ht => first | k_is | kernel_rfl | decide +kernel); (case ek_UnknownColumn_hm => first | k_is | kernel_rfl | decide +kernel); (case x1_UnknownColumn => first | k_is | k_exc | rfl | kernel_rfl | decide +kernel); (case x2_UnknownColumn => first | k_is | k_exc | rfl | kernel_rfl | decide +kernel); (case su_sa_UnknownColumn => first | k_is | k_exc | rfl | kernel_rfl | decide +kernel); (case su_ga_UnknownColumn => first | k_is | k_exc | rfl | kernel_rfl | decide +kernel); (case su_gg_UnknownColumn => first | k_is | k_exc | rfl | kernel_rfl | decide +kernel); (case su_no_UnknownColumn => first | k_is | k_exc | rfl | kernel_rfl | decide +kernel); (case su_iC_UnknownColumn => first | k_is | k_exc | rfl | kernel_rfl | decide +kernel); (case su_tI_UnknownColumn => first | k_is | k_exc | rfl | kernel_rfl | decide +kernel); (case su_kC_UnknownColumn => first | k_is | k_exc | rfl | kernel_rfl | decide +kernel); (case su_bC_UnknownColumn => first | k_is | k_exc | rfl | kernel_rfl | decide +kernel); (case su_tC_UnknownColumn => first | k_is | k_exc | rfl | kernel_rfl | decide +kernel); (case su_hd_UnknownColumn => first | k_is | k_exc | rfl | kernel_rfl | decide +kernel); (case su_su_UnknownColumn => first | k_is | k_exc | rfl | kernel_rfl | decide +kernel); (case su_ve_UnknownColumn => first | k_is | k_exc | rfl | kernel_rfl | decide +kernel); (case su_qi_UnknownColumn => first | k_is | k_exc | rfl | kernel_rfl | decide +kernel); (case su_mm_UnknownColumn => first | k_is | k_exc | rfl | kernel_rfl | decide +kernel); (case su_th_UnknownColumn => first | k_is | k_exc | rfl | kernel_rfl | decide +kernel); (case su_top_UnknownColumn => first | k_is | k_exc | rfl | kernel_rfl | decide +kernel); (case y1_UnknownColumn => first | k_is | k_exc | rfl | kernel_rfl | decide +kernel); (case y2_UnknownColumn => first | k_is | k_exc | rfl | kernel_rfl | decide +kernel); (case y3_UnknownColumn => first | k_is | k_exc | rfl | kernel_rfl | decide +kernel); (case y4_UnknownColumn => first | k_is | k_exc | rfl | kernel_rfl | decide +kernel); (case y5_UnknownColumn => first | k_is | k_exc | rfl | kernel_rfl | decide +kernel); (case y6_UnknownColumn => first | k_is | k_exc | rfl | kernel_rfl | decide +kernel); (case em_StringArithmetic_IndoubtError => first | k_is | k_exc | kernel_rfl | decide +kernel); (case em_ValueTooLarge_IndoubtError => first | k_is | k_exc | kernel_rfl | decide +kernel); (case em_MixedComparison_IndoubtError => first | k_is | k_exc | kernel_rfl | decide +kernel); (case em_UnknownColumn_IndoubtError => first | k_is | k_exc | kernel_rfl | decide +kernel); (case ki_StringArithmetic_UnknownColumn => first | k_is | k_exc | kernel_rfl | decide +kernel); (case ki_ValueTooLarge_UnknownColumn => first | k_is | k_exc | kernel_rfl | decide +kernel); (case ki_MixedComparison_UnknownColumn => first | k_is | k_exc | kernel_rfl | decide +kernel); (case ki_UnknownColumn_UnknownColumn => first | k_is | k_exc | kernel_rfl | decide +kernel); (case ki_StringArithmetic_MixedComparison => first | k_is | k_exc | kernel_rfl | decide +kernel); (case ki_ValueTooLarge_MixedComparison => first | k_is | k_exc | kernel_rfl | decide +kernel); (case ki_MixedComparison_MixedComparison => first | k_is | k_exc | kernel_rfl | decide +kernel); (case ki_UnknownColumn_MixedComparison => first | k_is | k_exc | kernel_rfl | decide +kernel); (case ki_StringArithmetic_ValueTooLarge => first | k_is | k_exc | kernel_rfl | decide +kernel); (case ki_ValueTooLarge_ValueTooLarge => first | k_is | k_exc | kernel_rfl | decide +kernel); (case ki_MixedComparison_ValueTooLarge => first | k_is | k_exc | kernel_rfl | decide +kernel); (case ki_UnknownColumn_ValueTooLarge => first | k_is | k_exc | kernel_rfl | decide +kernel); (case ki_StringArithmetic_StringArithmetic => first | k_is | k_exc | kernel_rfl | decide +kernel); (case ki_ValueTooLarge_StringArithmetic => first | k_is | k_exc | kernel_rfl | decide +kernel); (case ki_MixedComparison_StringArithmetic => first | k_is | k_exc | kernel_rfl | decide +kernel); (case ki_UnknownColumn_StringArithmetic => first | k_is | k_exc | kernel_rfl | decide +kernel); (case ki_StringArithmetic_ValueError => first | k_is | k_exc | kernel_rfl | decide +kernel); (case ki_ValueTooLarge_ValueError => first | k_is | k_exc | kernel_rfl | decide +kernel); (case ki_MixedComparison_ValueError => first | k_is | k_exc | kernel_rfl | decide +kernel); (case ki_UnknownColumn_ValueError => first | k_is | k_exc | kernel_rfl | decide +kernel)

