import PyProof.Rows.All
import Wide.All
import OpenK.AllK
import Wide.FinOn
import PyProof.GenQ
import HandS.GenOver
import PyProof.ConsumeS
import HandS.Base
import HandS.Call
import HandS.List
import HandS.Ends
import HandS.Words
import HandS.WordsList
import HandS.Text
import HandS.Comp
import HandS.Iter
import HandS.Wide
import HandS.Exc
import HandS.RaiseOp
import HandS.StrMore
import HandS.TupLe
import HandS.Zip0
import HandS.AnyAll
import HandS.Replace
import PyProof.Rows.RuleB_bool
import PyProof.FString5
import HandS.IsInst
import HandS.Dict
import KE.KDictPairs
import KE.KIndexOf
import PyProof.ReprRoads
import PyProof.FitsInt
import PyProof.ReprLen
import PyProof.StrLawsRepr
import HandS.TupAny
import HandS.Zip
import HandS.Rev
import HandS.Deep
import HandS.Conv
import HandS.WordsDict
import PyProof.P3In
import HandS.ExcOwn
import HandS.ExcIs
import HandS.WordsExc
import KE.KDictList
import HandS.RevTup
import HandS.More
import HandS.ListItems
import HandS.Style
import HandS.SortRule
import HandS.EndTab
import KE.KNest
import PyProof.ReprBulk
import PyProof.Rows.StrMeet
import KE.LtSeq
import KE.LtData
import HandS.Keys
import KE.SortCalls
import HandS.SortKw
import KE.KExcSuper
import KE.KExcInit
import HandS.FStr
import HandS.ExcField
import KE.KExcIs
import PyProof.FString
import HandS.TryMany
import HandS.SetTxt0
import HandS.Set
import HandS.SetFor
import HandS.SetBool
import HandS.TupSets
import PyProof.FactsAll.set_2
import HandS.DictComp
import KE.KSortRegAny
import PySem.Challenge.RW_indoubt_k01_rows_in_order
set_option Elab.async false
set_option linter.all false
set_option maxRecDepth 100000
namespace IndG
open PySem PySem.Spec GenW
/-! ### all(..), any(..) of a generator expression whose element is any walk that keeps a stage -/
abbrev MM (prog : Program) (w : World) : Model := model prog w
/-- the stages of a generator: j items are out; the element j is the truth tr j; nothing is raised -/
structure Stage (prog : Program) (w : World) (Ag : Around) (cenv : Env) (target elt : Expr) (I : Addr) (n : Nat) (tr : Nat → Bool) (V : Nat → Shared → Prop) (F : Shared → Prop) : Prop where
  still : ∀ j s g t, V j s → (∀ y ∈ g, y.bare = true) → V j { s with gens := g, toks := t }
  bare : ∀ j s, V j s → ∀ y ∈ s.gens, y.bare = true
  item : ∀ j s E, j < n → V j s → wpAny (MM prog w) Ag (pyNext (.ref I)) (fun r s1 => ∃ v, r = some v ∧
    wpAny (MM prog w) Ag (letOwnedTupleGo target (.ref I) v) (fun _ s2 => wpAny (MM prog w) Ag (assign target cenv v) (fun _ s3 =>
      wpAny (MM prog w) Ag (eval elt cenv) (fun y s4 => y = .bool (tr j) ∧ V (j + 1) s4) E s3) E s2) E s1) E s
  done : ∀ s E, V n s → wpAny (MM prog w) Ag (pyNext (.ref I)) (fun r s1 => r = none ∧ F s1) E s
/-- what goes out and comes back -/
def prot (n : Nat) (tr : Nat → Bool) (V : Nat → Shared → Prop) : Protocol := fun m s₀ v s kap =>
  m < n ∧ v = .bool (tr (n - 1 - m)) ∧ V (n - m) s ∧ s₀.gens.size ≤ s.gens.size ∧ ∀ z, V (n - m) z → kap (.send .none) z
def fin (F : Shared → Prop) : GenEnd := fun m s₀ r s => r = .ok .next ∧ (m = 0 ∧ s₀.gens.size ≤ s.gens.size ∧ F s)
section
variable {prog : Program} {w : World} {A : Around} {target elt iter : Expr} {scope : Scope} {pos : Pos} {I : Addr} {cenv : Env} {n : Nat} {tr : Nat → Bool} {V : Nat → Shared → Prop} {F : Shared → Prop}
abbrev gx (elt target iter : Expr) (scope : Scope) (pos : Pos) : Expr := .GeneratorExp elt [⟨target, iter, [], 0⟩] scope pos
theorem turns (S : Stage prog w (A.over (.compLoop (gx elt target iter scope pos) 0 (.ref I) .none cenv) []) cenv target elt I n tr V F) (hco : cenv.scope.isCoroutine = false) :
    ∀ (k j : Nat) (s₀ s : Shared), n - j = k → j ≤ n → V j s → s₀.gens.size ≤ s.gens.size →
      Seg (MM prog w) A (fin F) (prot n tr V) k s₀ (.compLoop (gx elt target iter scope pos) 0 (.ref I) .none cenv) ((MM prog w).den (.compLoop (gx elt target iter scope pos) 0 (.ref I) .none cenv)) [] s := by
  intro k
  induction k with
  | zero =>
    intro j s₀ s hk hj hV hg
    have e : j = n := by omega
    subst e
    show Seg _ A _ _ _ s₀ _ ((compTurn (gx elt target iter scope pos) 0 (.ref I) .none cenv).onRaise (leaving cenv)) [] s
    rw [compTurn_gen]
    rw [Sem.onRaise_eq_wrap]
    refine seg_bind_wrap (wpAny_standAt ?_)
    refine seg_bind_wrap (wpAny_gsz hg (wpAny_mono (S.done s _ hV) (fun r s1 h1 h2 => ?_) fun _ _ x _ => x))
    obtain ⟨rfl, hF⟩ := h1
    exact seg_end (.ok .next) ⟨rfl, rfl, h2, hF⟩
  | succ k ih =>
    intro j s₀ s hk hj hV hg
    have hlt : j < n := by omega
    show Seg _ A _ _ _ s₀ _ ((compTurn (gx elt target iter scope pos) 0 (.ref I) .none cenv).onRaise (leaving cenv)) [] s
    rw [compTurn_gen]
    rw [Sem.onRaise_eq_wrap]
    refine seg_bind_wrap (wpAny_standAt ?_)
    refine seg_bind_wrap (wpAny_gsz hg (wpAny_mono (S.item j s _ hlt hV) (fun r s1 h1 g1 => ?_) fun _ _ x _ => x))
    obtain ⟨v, rfl, h1⟩ := h1
    refine seg_bind_wrap (wpAny_gsz g1 (wpAny_mono h1 (fun _ s2 h2 g2 => ?_) fun _ _ x _ => x))
    refine seg_bind_wrap (wpAny_gsz g2 (wpAny_mono h2 (fun _ s3 h3 g3 => ?_) fun _ _ x _ => x))
    simp only [List.forIn_nil]
    refine seg_bind_wrap (wpAny_pure ?_)
    simp only [if_true]
    have out : ∀ v, yieldOut cenv v = yieldValue v := by
      intro v
      simp only [yieldOut, hco, Bool.false_eq_true, if_false]
    simp only [out]
    iterate 2 rw [Sem.bind_eq_wrap']
    iterate 2 rw [Sem.wrap_wrap]
    refine seg_wrap (wpAny_gsz g3 (wpAny_mono h3 (fun y s4 h4 g4 => ?_) fun _ _ x _ => x))
    obtain ⟨rfl, hV4⟩ := h4
    have ek : n - k = j + 1 := by omega
    have et : n - 1 - k = j := by omega
    refine seg_at (seg_yield rfl rfl rfl ⟨by omega, by rw [et], by rw [ek]; exact hV4, g4, fun z hz => ?_⟩)
    rw [ek] at hz
    exact seg_again rfl (ih (j + 1) z z (by omega) hlt hz (Nat.le_refl _))
/-- the first waking -/
theorem wakes (S : Stage prog w (A.over (.compLoop (gx elt target iter scope pos) 0 (.ref I) .none cenv) []) cenv target elt I n tr V F) (hco : cenv.scope.isCoroutine = false)
    (same : A.over (.compStart (gx elt target iter scope pos) 0 (.ref I) .none cenv) [] = A.over (.compLoop (gx elt target iter scope pos) 0 (.ref I) .none cenv) [])
    (self : ∀ s Q E, V 0 s → Q (.ref I) s → wpAny (MM prog w) (A.over (.compStart (gx elt target iter scope pos) 0 (.ref I) .none cenv) []) (pyIter (.ref I)) Q E s) :
    ∀ (s₀ s : Shared), V 0 s → s₀.gens.size ≤ s.gens.size →
      Seg (MM prog w) A (fin F) (prot n tr V) n s₀ (.compStart (gx elt target iter scope pos) 0 (.ref I) .none cenv) ((MM prog w).den (.compStart (gx elt target iter scope pos) 0 (.ref I) .none cenv)) [] s := by
  intro s₀ s hV hg
  have go := turns (iter := iter) (scope := scope) (pos := pos) S hco n 0 s₀ s (by omega) (Nat.zero_le _) hV hg
  show Seg _ A _ _ _ s₀ _ ((compStart (gx elt target iter scope pos) 0 (.ref I) .none cenv).onRaise (leaving cenv)) [] s
  unfold compStart
  rw [Sem.onRaise_eq_wrap]
  show Seg _ A _ _ _ s₀ _ (((ask) >>= _).wrap _ _ _ _) [] s
  refine seg_bind_wrap (wpAny_askSetting ?_)
  split
  · exact seg_again rfl go
  · refine seg_bind_wrap (wpAny_rule ?_)
    show Seg _ A _ _ _ s₀ _ (((standAt iter.pos) >>= _).wrap _ _ _ _) [] s
    refine seg_bind_wrap (wpAny_standAt ?_)
    refine seg_bind_wrap (self s _ _ hV ?_)
    exact seg_again rfl go
end
end IndG

set_option Elab.async false
set_option linter.all false
set_option maxRecDepth 100000
namespace IndG
open PySem PySem.Spec GenW
/-- what holds of the generator's object through all stages -/
structure Held (a : Addr) (g : Nat) (V : Nat → Shared → Prop) (F : Shared → Prop) : Prop where
  gen : ∀ j s, V j s → s.heap.IsGen a g ∧ s.heap.NoLimit
  fbare : ∀ s, F s → ∀ y ∈ s.gens, y.bare = true
/-- a generator with j items out, asleep -/
def Asleep (prog : Program) (w : World) (A : Around) (g n : Nat) (tr : Nat → Bool) (V : Nat → Shared → Prop) (F : Shared → Prop) (j : Nat) (s : Shared) : Prop :=
  V j s ∧ ∃ gs, s.gens[g]? = some gs ∧ ∀ z, V j z → gs.Goes (MM prog w) A.in1 (fin F) (prot n tr V) (n - j) (.send .none) z
/-- how it may be left -/
def Left (V : Nat → Shared → Prop) (F : Shared → Prop) (s : Shared) : Prop :=
  (∃ j, V j s) ∨ ∃ s1 g' h', F s1 ∧ s = { s1 with gens := g', heap := h' } ∧ (∀ y ∈ g', y.bare = true) ∧ ∀ b o, s1.heap.get? b = some o → h'.get? b = some o
section
variable {prog : Program} {w : World} {A : Around} {a : Addr} {g n : Nat} {tr : Nat → Bool} {V : Nat → Shared → Prop} {F : Shared → Prop}
theorem setGen_bare {s : Shared} {x : GenState} (h : ∀ y ∈ s.gens, y.bare = true) (hx : x.bare = true) : ∀ y ∈ (s.setGen g x).gens, y.bare = true := by
  intro y hy
  have hy : y ∈ s.gens.setIfInBounds g x := hy
  obtain ⟨i, hi, e⟩ := Array.mem_iff_getElem.mp hy
  have hi2 : i < s.gens.size := by simpa using hi
  rw [Array.getElem_setIfInBounds hi2] at e
  split at e
  · rw [← e]; exact hx
  · rw [← e]
    exact h _ (Array.getElem_mem hi2)
theorem setGen_at {s : Shared} {x : GenState} (h : g < s.gens.size) : (s.setGen g x).gens[g]? = some x := by
  simp [Shared.setGen, h]
theorem step (still : ∀ j s g' t, V j s → (∀ y ∈ g', y.bare = true) → V j { s with gens := g', toks := t }) (bare : ∀ j s, V j s → ∀ y ∈ s.gens, y.bare = true) (K : Held a g V F)
    (hh : A.handled = none) (room : A.depth < recursionLimit) {j : Nat} {s : Shared} (h : Asleep prog w A g n tr V F j s) (hlt : j < n) {Q : Option Value → Shared → Prop} {E : Value → Shared → Prop}
    (hQ : ∀ z, Asleep prog w A g n tr V F (j + 1) z → Q (some (.bool (tr j))) z) : wpAny (MM prog w) A (pyNext (.ref a)) Q E s := by
  obtain ⟨hV, gs, hgs, go⟩ := h
  obtain ⟨hg, hl⟩ := K.gen _ _ hV
  have hsz : g < s.gens.size := (Array.getElem?_eq_some_iff.mp hgs).1
  have hV2 : V j (s.setGen g .running) := still j s _ s.toks hV (setGen_bare (g := g) (bare _ _ hV) rfl)
  refine wpAny_pyNext_genexpQ (n := n - j) (P := fun m s₀ s₁ => m = 0 ∧ s₀.gens.size ≤ s₁.gens.size ∧ F s₁) hh hl room hg hgs (go _ hV2) (fun v s1 gs' hb hy => ?_) (fun s1 hp h' hk => ?_)
  · obtain ⟨m, em⟩ : ∃ m, n - j = m + 1 := ⟨n - j - 1, by omega⟩
    rw [em] at hy
    obtain ⟨y1, y2, y3, y4, y5⟩ := hy
    have e1 : n - 1 - (m + 1 - 1) = j := by omega
    have e2 : n - (m + 1 - 1) = j + 1 := by omega
    rw [e1] at y2
    rw [e2] at y3 y5
    subst y2
    have hsz1 : g < s1.gens.size := by
      have : (s.setGen g .running).gens.size = s.gens.size := by simp [Shared.setGen]
      omega
    refine hQ _ ⟨still _ s1 _ s1.toks y3 (setGen_bare (g := g) (bare _ _ y3) hb), gs', setGen_at hsz1, fun z hz => ?_⟩
    rw [show n - (j + 1) = m by omega]
    exact y5 z hz
  · have := hp.1
    omega
theorem stop (still : ∀ j s g' t, V j s → (∀ y ∈ g', y.bare = true) → V j { s with gens := g', toks := t }) (bare : ∀ j s, V j s → ∀ y ∈ s.gens, y.bare = true) (K : Held a g V F)
    (hh : A.handled = none) (room : A.depth < recursionLimit) {s : Shared} (h : Asleep prog w A g n tr V F n s) {Q : Option Value → Shared → Prop} {E : Value → Shared → Prop}
    (hQ : ∀ z, Left V F z → Q none z) : wpAny (MM prog w) A (pyNext (.ref a)) Q E s := by
  obtain ⟨hV, gs, hgs, go⟩ := h
  obtain ⟨hg, hl⟩ := K.gen _ _ hV
  have hV2 : V n (s.setGen g .running) := still n s _ s.toks hV (setGen_bare (g := g) (bare _ _ hV) rfl)
  refine wpAny_pyNext_genexpQ (n := n - n) (P := fun m s₀ s₁ => m = 0 ∧ s₀.gens.size ≤ s₁.gens.size ∧ F s₁) hh hl room hg hgs (go _ hV2) (fun v s1 gs' hb hy => ?_) (fun s1 hp h' hk => ?_)
  · rw [Nat.sub_self] at hy
    obtain ⟨_, _, y3, _, y5⟩ := hy
    exact (y5 _ y3).elim
  · refine hQ _ (.inr ⟨s1, (s1.setGen g .finished).gens, h', hp.2.2, rfl, setGen_bare (g := g) (K.fbare _ hp.2.2) rfl, hk⟩)
theorem all_turns (still : ∀ j s g' t, V j s → (∀ y ∈ g', y.bare = true) → V j { s with gens := g', toks := t }) (bare : ∀ j s, V j s → ∀ y ∈ s.gens, y.bare = true) (K : Held a g V F)
    (hh : A.handled = none) (room : A.depth < recursionLimit) {R : Result → Shared → Prop} : ∀ (k j : Nat) (s : Shared), n - j = k → j ≤ n → Asleep prog w A.in1 g n tr V F j s →
      (∀ z, Left V F z → R (.ok (.ret (.bool (((List.range n).drop j).all tr)))) z) → codeAny (MM prog w) A (.builtin "all.loop" ⟨[.ref a], []⟩) R s := by
  intro k
  induction k with
  | zero =>
    intro j s hk hj h hR
    have e : j = n := by omega
    subst e
    refine codeAny_builtin PySem.F.entry_all_loop ?_
    rw [Around.under_plainId PySem.F.plain_all_loop _]
    show wpAny _ A.in1 ((pyNext (.ref a)) >>= _) _ _ s
    refine wpAny_bind (stop (A := A.in1) still bare K hh room h fun z hz => ?_)
    refine wpAny_bind (wpAny_rule (wpAny_pure ?_))
    have q := hR z hz
    rw [List.drop_of_length_le (by simp)] at q
    exact q
  | succ k ih =>
    intro j s hk hj h hR
    have hlt : j < n := by omega
    have hd : (List.range n).drop j = j :: (List.range n).drop (j + 1) := by
      rw [List.drop_eq_getElem_cons (by simpa using hlt)]
      simp
    rw [hd] at hR
    refine codeAny_builtin PySem.F.entry_all_loop ?_
    rw [Around.under_plainId PySem.F.plain_all_loop _]
    show wpAny _ A.in1 ((pyNext (.ref a)) >>= _) _ _ s
    refine wpAny_bind (step (A := A.in1) still bare K hh room h hlt fun z hz => ?_)
    refine wpAny_bind (wpAny_holding (wpAny_truthy_bool ?_))
    refine wpAny_bind (wpAny_letGo ?_)
    cases hb : tr j with
    | true =>
      simp only [if_true]
      refine wpAny_pure ⟨plainId_quiet PySem.F.plain_all_loop _, ih (j + 1) z (by omega) hlt hz fun y hy => ?_⟩
      have q := hR y hy
      rw [List.all_cons, hb] at q
      exact q
    | false =>
      simp only [Bool.false_eq_true, if_false]
      refine wpAny_bind (wpAny_rule (wpAny_pure ?_))
      have q := hR z (.inl ⟨_, hz.1⟩)
      rw [List.all_cons, hb] at q
      exact q
theorem any_turns (still : ∀ j s g' t, V j s → (∀ y ∈ g', y.bare = true) → V j { s with gens := g', toks := t }) (bare : ∀ j s, V j s → ∀ y ∈ s.gens, y.bare = true) (K : Held a g V F)
    (hh : A.handled = none) (room : A.depth < recursionLimit) {R : Result → Shared → Prop} : ∀ (k j : Nat) (s : Shared), n - j = k → j ≤ n → Asleep prog w A.in1 g n tr V F j s →
      (∀ z, Left V F z → R (.ok (.ret (.bool (((List.range n).drop j).any tr)))) z) → codeAny (MM prog w) A (.builtin "any.loop" ⟨[.ref a], []⟩) R s := by
  intro k
  induction k with
  | zero =>
    intro j s hk hj h hR
    have e : j = n := by omega
    subst e
    refine codeAny_builtin PySem.F.entry_any_loop ?_
    rw [Around.under_plainId PySem.F.plain_any_loop _]
    show wpAny _ A.in1 ((pyNext (.ref a)) >>= _) _ _ s
    refine wpAny_bind (stop (A := A.in1) still bare K hh room h fun z hz => ?_)
    refine wpAny_bind (wpAny_rule (wpAny_pure ?_))
    have q := hR z hz
    rw [List.drop_of_length_le (by simp)] at q
    exact q
  | succ k ih =>
    intro j s hk hj h hR
    have hlt : j < n := by omega
    have hd : (List.range n).drop j = j :: (List.range n).drop (j + 1) := by
      rw [List.drop_eq_getElem_cons (by simpa using hlt)]
      simp
    rw [hd] at hR
    refine codeAny_builtin PySem.F.entry_any_loop ?_
    rw [Around.under_plainId PySem.F.plain_any_loop _]
    show wpAny _ A.in1 ((pyNext (.ref a)) >>= _) _ _ s
    refine wpAny_bind (step (A := A.in1) still bare K hh room h hlt fun z hz => ?_)
    refine wpAny_bind (wpAny_holding (wpAny_truthy_bool ?_))
    refine wpAny_bind (wpAny_letGo ?_)
    cases hb : tr j with
    | false =>
      simp only [Bool.false_eq_true, if_false]
      refine wpAny_pure ⟨plainId_quiet PySem.F.plain_any_loop _, ih (j + 1) z (by omega) hlt hz fun y hy => ?_⟩
      have q := hR y hy
      rw [List.any_cons, hb] at q
      exact q
    | true =>
      simp only [if_true]
      refine wpAny_bind (wpAny_rule (wpAny_pure ?_))
      have q := hR z (.inl ⟨_, hz.1⟩)
      rw [List.any_cons, hb] at q
      exact q
/-- all(g), g asleep with nothing out -/
theorem call_all (still : ∀ j s g' t, V j s → (∀ y ∈ g', y.bare = true) → V j { s with gens := g', toks := t }) (bare : ∀ j s, V j s → ∀ y ∈ s.gens, y.bare = true) (K : Held a g V F)
    (hh : A.handled = none) (room : A.depth < recursionLimit) {s : Shared} {Q : Value → Shared → Prop} {E : Value → Shared → Prop} (h : Asleep prog w A.in1 g n tr V F 0 s)
    (hQ : ∀ z, Left V F z → Q (.bool ((List.range n).all tr)) z) : wpAny (MM prog w) A (call (.builtin "all") [.ref a]) Q E s := by
  refine call_function_tree PySem.F.kind_all PySem.F.plain_all PySem.F.entry_all (PySem.F.args_all1 _) ?_
  unfold Builtin.«all»
  refine wpAny_bind (m := oneArg "all" _) (wpAny_pure ?_)
  refine wpAny_bind (wpAny_pyIter_gen (K.gen _ _ h.1).1 ?_)
  refine wpAny_pure ⟨plainId_quiet PySem.F.plain_all_loop _, ?_⟩
  refine all_turns (A := A) still bare K hh room n 0 s rfl (Nat.zero_le _) h fun z hz => ?_
  simpa using hQ z hz
theorem call_any (still : ∀ j s g' t, V j s → (∀ y ∈ g', y.bare = true) → V j { s with gens := g', toks := t }) (bare : ∀ j s, V j s → ∀ y ∈ s.gens, y.bare = true) (K : Held a g V F)
    (hh : A.handled = none) (room : A.depth < recursionLimit) {s : Shared} {Q : Value → Shared → Prop} {E : Value → Shared → Prop} (h : Asleep prog w A.in1 g n tr V F 0 s)
    (hQ : ∀ z, Left V F z → Q (.bool ((List.range n).any tr)) z) : wpAny (MM prog w) A (call (.builtin "any") [.ref a]) Q E s := by
  refine call_function_tree PySem.F.kind_any PySem.F.plain_any PySem.F.entry_any (PySem.F.args_any1 _) ?_
  unfold Builtin.«any»
  refine wpAny_bind (m := oneArg "any" _) (wpAny_pure ?_)
  refine wpAny_bind (wpAny_pyIter_gen (K.gen _ _ h.1).1 ?_)
  refine wpAny_pure ⟨plainId_quiet PySem.F.plain_any_loop _, ?_⟩
  refine any_turns (A := A) still bare K hh room n 0 s rfl (Nat.zero_le _) h fun z hz => ?_
  simpa using hQ z hz
end
end IndG

set_option Elab.async false
set_option linter.all false
set_option maxRecDepth 100000
set_option maxHeartbeats 4000000
namespace Ind
open PySem PySem.Spec PyProof.Rows L2
/-! ### heaps: all but the tape stands -/
def Fz (t : Addr) (H H' : Hp) : Prop := ∀ b o, b ≠ t → H b = some o → H' b = some o
theorem Fz.refl {t : Addr} {H : Hp} : Fz t H H := fun _ _ _ h => h
theorem Fz.trans {t : Addr} {H H1 H2 : Hp} (a : Fz t H H1) (b : Fz t H1 H2) : Fz t H H2 := fun c o n h => b c o n (a c o n h)
theorem Fz.of {t : Addr} {H H' : Hp} (a : Same H H') : Fz t H H' := fun b o _ h => a b o h
theorem Fz.upd {t : Addr} {H H' : Hp} {o : HO} (a : Fz t H H') : Fz t H (upd H' t o) := fun b u n h => by rw [upd_ne n]; exact a b u n h
theorem Fz.new {t p : Addr} {H H' : Hp} {o : HO} (a : Fz t H H') (n : H' p = none) : Fz t H (L2.upd H' p o) := fun b u nb h => by
  have e := a b u nb h
  rw [upd_ne (ne_of_none e n)]; exact e
theorem same_upd {H : Hp} {p : Addr} {o : HO} (h : H p = none) : Same H (upd H p o) := fun b x e => by
  rw [upd_ne (ne_of_none e h)]; exact e
theorem Same.new {p : Addr} {H H' : Hp} {o : HO} (a : Same H H') (n : H' p = none) : Same H (L2.upd H' p o) := a.trans (same_upd n)
theorem line {n : Nat} (h : n ≤ 1000) : n ≤ sizeLine := Nat.le_trans h (by decide)
/-- what holds between two turns (kept shut) -/
inductive Iv (p : Prop) : Prop
  | a (h : p) : Iv p
  | b (h : False) : Iv p
theorem Iv.out {p : Prop} (h : Iv p) : p := by cases h with | a h => exact h | b h => exact h.elim
/-! ### the tape: its list, and the list of the script in it -/
structure Tp where
  a : Addr
  l : Addr
def TapeAt (H : Hp) (t : Tp) : Prop := ∃ (ns : List Int) (p n s : Int),
  H t.a = some (.lst [.ref t.l, .int p, .int n, .int s]) ∧ H t.l = some (.lst (ns.map V.int)) ∧ ns.length ≤ 1000 ∧ 0 ≤ p ∧ 0 ≤ n ∧ 0 ≤ s ∧ s < 2147483647
theorem Tape.ne {H : Hp} {t l : Addr} {ns : List Int} {p n s : Int} (h : H t = some (.lst [.ref l, .int p, .int n, .int s])) (h' : H l = some (.lst (ns.map V.int))) : l ≠ t := fun e => by
  rw [e, h] at h'
  injection h' with h'
  injection h' with h'
  cases ns with
  | nil => cases h'
  | cons a r => injection h' with a1 a2; cases a1
theorem TapeAt.same {H H' : Hp} {t : Tp} (h : TapeAt H t) (e : Same H H') : TapeAt H' t := by
  obtain ⟨ns, p, n, s, h1, h2, h3⟩ := h
  exact ⟨ns, p, n, s, e _ _ h1, e _ _ h2, h3⟩
theorem TapeAt.new {H : Hp} {t : Tp} {p : Addr} {o : HO} (h : TapeAt H t) (n : H p = none) : TapeAt (upd H p o) t := h.same (same_upd n)
theorem TapeAt.there {H : Hp} {t : Tp} (h : TapeAt H t) : (∃ o, H t.a = some o) ∧ ∃ o, H t.l = some o := by
  obtain ⟨ns, p, n, s, h1, h2, _⟩ := h
  exact ⟨⟨_, h1⟩, ⟨_, h2⟩⟩
/-- an address that was free beside the tape -/
structure Off (t : Tp) (b : Addr) : Prop where
  a : b ≠ t.a
  l : b ≠ t.l
theorem TapeAt.off {H : Hp} {t : Tp} {b : Addr} (h : TapeAt H t) (e : H b = none) : Off t b := by
  obtain ⟨⟨o, q⟩, ⟨u, r⟩⟩ := h.there
  refine ⟨?_, ?_⟩
  · intro z; rw [z, q] at e; cases e
  · intro z; rw [z, r] at e; cases e
theorem TapeAt.upd {H : Hp} {t : Tp} {b : Addr} {o : HO} (h : TapeAt H t) (e : Off t b) : TapeAt (L2.upd H b o) t := by
  obtain ⟨ns, p, n, s, h1, h2, h3⟩ := h
  exact ⟨ns, p, n, s, by rw [upd_ne e.a.symm]; exact h1, by rw [upd_ne e.l.symm]; exact h2, h3⟩
theorem Fz.upd' {t p : Addr} {H H' : Hp} {o : HO} (a : Fz t H H') (n : H p = none) : Fz t H (L2.upd H' p o) := fun b u nb h => by
  rw [upd_ne (ne_of_none h n)]; exact a b u nb h
theorem rd {K : PySem.W.Frag} {H : Hp} {p : Addr} {xs : List V} {Q : VK} (h : H p = some (.lst xs)) (j : Nat) {v : V} (e : xs[j]? = some v) (q : Q v H) : rIxL K (.ref p) (.int (j : Int)) H Q := ⟨_, _, _, _, rfl, rfl, .of h, atI_nat e, q⟩
theorem rdT {K : PySem.W.Frag} {H : Hp} {p : Addr} {xs : List V} {Q : VK} (h : H p = some (.tup xs)) (j : Nat) {v : V} (e : xs[j]? = some v) (q : Q v H) : rIxT K (.ref p) (.int (j : Int)) H Q := ⟨_, _, _, _, rfl, rfl, .of h, atI_nat e, q⟩
theorem rdI {K : PySem.W.Frag} {H : Hp} {p : Addr} {xs : List V} {Q : VK} (h : H p = some (.lst xs)) {i : Int} (j : Nat) (ej : i = (j : Int)) {v : V} (e : xs[j]? = some v) (q : Q v H) : rIxL K (.ref p) (.int i) H Q := ⟨_, _, _, _, rfl, rfl, .of h, at_of ej e, q⟩
theorem wr {H : Hp} {p : Addr} {xs : List V} {Q : Hp → Prop} {v : V} (h : H p = some (.lst xs)) (j : Nat) (e : ixN xs.length (j : Int) = some j) (q : Q (upd H p (.lst (xs.set j v)))) : rSetL (.ref p) (.int (j : Int)) v H Q := ⟨_, _, _, _, rfl, rfl, h, e, q⟩
/-! ### promises -/
/-- what a draw may be asked for: a bound that can be divided by -/
def Dm (m : Int) : Prop := ∀ x : Int, CDivW x (if (2 : Int) > m then 2 else m)
theorem dm {m : Int} (h : m < 1606938044258990275541962092341162602522202993782792835301376) : Dm m := fun x => by
  refine wide_div (b := 200) ?_ ?_ (by decide) (by decide)
  · split <;> omega
  · have e : (2 : Nat) ^ 200 = 1606938044258990275541962092341162602522202993782792835301376 := by decide +kernel
    rw [e]
    split <;> omega
def spTape (K : PySem.W.Frag) : Sp := fun vs H Q _ => ∃ (a : Addr) (ns : List Int), vs = [.ref a] ∧ SqL K H a (ns.map V.int) ∧ ns.length ≤ 63 ∧
  ∀ H' (t : Tp), Same H H' → H t.a = none → H t.l = none → TapeAt H' t → Q (.ref t.a) H'
def spDraw : Sp := fun vs H Q _ => ∃ (t : Tp) (m : Int), vs = [.ref t.a, .int m] ∧ TapeAt H t ∧ Dm m ∧
  ∀ H' r, Fz t.a H H' → TapeAt H' t → 0 ≤ r → (r < m ∨ r < 1) → Q (.int r) H'
end Ind

set_option Elab.async false
set_option linter.all false
set_option maxRecDepth 100000
set_option maxHeartbeats 4000000
namespace IndG
open PySem PySem.Spec PyProof.Rows L2 GenW
theorem over_gen {A : Around} {elt target iter : Expr} {scope : Scope} {pos : Pos} {it v : Value} {env : Env} : A.over (.compLoop (gx elt target iter scope pos) 0 it v env) [] = A.deeper env := by
  first
    | rfl
    | (obtain ⟨hd, d, fr, gs, u⟩ := A; simp [Around.over, Around.deeper, marksOver, frameCount, unitsOf, envsOf, guardsOf, pushEnvs, pushGuards, Code.envs, Code.env?, Code.isFrame, Code.guards, Code.isGuard, Code.weight, Code.frames, Code.isCreation, Code.isCaller, Code.cUnits])
theorem over_gen0 {A : Around} {elt target iter : Expr} {scope : Scope} {pos : Pos} {it v : Value} {env : Env} : A.over (.compStart (gx elt target iter scope pos) 0 it v env) [] = A.deeper env := by
  first
    | rfl
    | (obtain ⟨hd, d, fr, gs, u⟩ := A; simp [Around.over, Around.deeper, marksOver, frameCount, unitsOf, envsOf, guardsOf, pushEnvs, pushGuards, Code.envs, Code.env?, Code.isFrame, Code.guards, Code.isGuard, Code.weight, Code.frames, Code.isCreation, Code.isCaller, Code.cUnits])
/-- the frame of a generator expression -/
abbrev genC (X : Cx) (env : Env) (s : Shared) (H : Hp) (fp : List Addr) : Cx :=
  { X with A := X.A.in1.in1.deeper env, s_0 := s, H_0 := H, env := env, outer := X.stack, stack := env :: X.stack, ex := fp, fn := fun _ => false, calm := true, pn := [], xe := fun _ _ => False }
theorem room_gen {X : Cx} {env : Env} {k : Nat} (r : Room (k + 1) X.A) : Room k (X.A.in1.in1.deeper env) := by
  refine ⟨r.hd, ?_, ?_⟩
  · have := r.dp
    show X.A.depth + 1 + 3 * k + 5 < _
    omega
  · have := r.un
    show X.A.units + 1 + 1 + 3 + 16 * k + 200 < _
    omega
theorem nodup_inj {α : Type} : ∀ {l : List α} {i j : Nat} {a : α}, l.Nodup → l[i]? = some a → l[j]? = some a → i = j
  | [], i, _, _, _, e, _ => by simp at e
  | x :: l, 0, 0, _, _, _, _ => rfl
  | x :: l, 0, j + 1, a, nd, e1, e2 => by
    simp only [List.getElem?_cons_zero, Option.some.injEq] at e1
    subst e1
    rw [List.getElem?_cons_succ] at e2
    exact absurd (List.mem_of_getElem? e2) (List.nodup_cons.mp nd).1
  | x :: l, i + 1, 0, a, nd, e1, e2 => by
    simp only [List.getElem?_cons_zero, Option.some.injEq] at e2
    subst e2
    rw [List.getElem?_cons_succ] at e1
    exact absurd (List.mem_of_getElem? e1) (List.nodup_cons.mp nd).1
  | x :: l, i + 1, j + 1, a, nd, e1, e2 => by
    rw [List.getElem?_cons_succ] at e1 e2
    rw [nodup_inj (List.nodup_cons.mp nd).2 e1 e2]
section
variable {X : Cx} {pins : List (Addr × Obj)} {σ : L2.St} {H : Hp} {s : Shared}
/-- the cells that a generator expression takes over -/
theorem taken (I : Inv X pins σ H s) {scope : Scope} (free : ∀ y ∈ scope.names, y.2 = .free → ∃ c, X.env.cells.lookup y.1 = some c) {y : Str} {c : Addr} (m : (y, c) ∈ cloFrom X.env.cells scope.names []) :
    (y, NameKind.free) ∈ scope.names ∧ X.env.cells.lookup y = some c ∧ c < s.heap.objs.size := by
  rcases cloFrom_mem m with m | ⟨h1, rfl⟩
  · cases m
  · obtain ⟨c, hc⟩ := free _ h1 rfl
    obtain ⟨v, z⟩ := I.cell _ _ hc
    rw [hc]
    exact ⟨h1, rfl, z.lt⟩
theorem gen_start {scope : Scope} {own : List (Str × Nat)} {fp : List Addr} {env : Env} {code it : Value} {h' : Heap} {go : Obj} {gs : GenState} {tk : Nat} (hc : X.calm = true) (hN : X.N.Nodup)
    (I : Inv X pins σ H s) (ok : BlkOk X.N X.env.scope scope own) (nocell : ∀ y ∈ scope.names, y.2 ≠ .cell) (eEnv : env = genEnv scope (cloFrom X.env.cells scope.names []) s.heap.objs.size code builtinsNs X.env)
    (hfp : ∀ b ∈ fp, FpOk X pins H b ∧ b < s.heap.objs.size) (hn : h'.Ns s.heap.objs.size (fun y => if y = ".0" then some it else none)) (hs : Heap.SameBut s.heap.objs.size (s.heap.push { cls := .type "frame", data := .dict #[] }) h')
    (hg : gs.bare = true) (hgo : ∀ v, go.data ≠ .cell v) (hgf : go.isFreed = false) :
    Inv (genC X env s H fp) [(h'.objs.size, go)] (wipe σ (own.map (·.2))) H { s with gens := s.gens.push gs, toks := tk, heap := h'.push go } := by
  have free : ∀ y ∈ scope.names, y.2 = .free → ∃ c, X.env.cells.lookup y.1 = some c := fun y hy e => (ok.free y hy e).elim (fun k => I.ok.has _ (.inl k)) (fun k => I.ok.has _ (.inr k))
  have eL : env.locals = s.heap.objs.size := by rw [eEnv]; rfl
  have eC : env.cells = cloFrom X.env.cells scope.names [] := by rw [eEnv]; rfl
  have eS : env.scope = scope := by rw [eEnv]; rfl
  have eF : env.frame = some env.locals := by rw [eEnv]; rfl
  have sz : h'.objs.size = s.heap.objs.size + 1 := by rw [hs.1, Heap.size_push]
  have kp : ∀ b o, s.heap.get? b = some o → (h'.push go).get? b = some o := fun b o e =>
    Heap.get?_push_of_some _ (hs.extBut b o (Nat.ne_of_lt (Heap.lt_size e)) (Heap.get?_push_of_some _ e))
  have cm : ∀ {y c}, env.cells.lookup y = some c → (y, NameKind.free) ∈ scope.names ∧ X.env.cells.lookup y = some c ∧ c < s.heap.objs.size := fun {y c} e => by
    rw [eC] at e
    exact taken I free (PySem.mem_of_lookup e)
  have look : ∀ {y}, (y, NameKind.free) ∈ scope.names → ∃ c, env.cells.lookup y = some c ∧ X.env.cells.lookup y = some c := fun {y} m => by
    obtain ⟨c', e'⟩ := mem_lookup (cloFrom_has (cells := X.env.cells) (acc := []) m)
    rw [← eC] at e'
    exact ⟨c', e', (cm e').2.1⟩
  have kinds : ∀ {y k}, env.kindOf y = some k → (y, k) ∈ scope.names := fun {y k} e => by
    unfold Env.kindOf at e
    rw [eS] at e
    exact PySem.mem_of_lookup e
  have okG : (genC X env s H fp).Ok := by
    refine ⟨I.ok.mod, ?_, ?_, ?_, ?_, ?_, ?_, ?_, ?_, ?_, ?_, ?_, I.bs, Nat.le_trans I.ok.bsz I.sz, ?_, ?_, I.stack, I.stkFree⟩
    · show env.scope.kind = _
      rw [eS]; exact ok.kind
    · show env.globals = _
      rw [eEnv]; exact I.ok.glob
    · show env.builtins = _
      rw [eEnv]; rfl
    · show s.heap.objs.size ≤ env.locals
      rw [eL]; exact Nat.le_refl _
    · intro y z c e1 e2
      exact I.ok.inj y z c (cm e1).2.1 (cm e2).2.1
    · intro y hy
      rcases hy with hy | hy
      · exact absurd rfl (nocell _ (kinds hy))
      · obtain ⟨c, e, _⟩ := look (kinds hy)
        exact ⟨c, e⟩
    · intro y c z
      exact absurd (show (false : Bool) = true from z) (by decide)
    · intro _
      exact I.ok.hd hc
    · exact Around.frames_deeper (show X.A.in1.in1.frames = some X.stack from I.ok.frames)
    · exact .inr ⟨rfl, eF⟩
    · intro b hb
      refine ⟨?_, fun y c e z => (hfp b hb).1.2.2.2.2.1 y c (cm e).2.1 z⟩
      show b ≠ env.locals
      rw [eL]
      exact Nat.ne_of_lt (hfp b hb).2
    · intro b o e hb
      rcases (hfp b hb).1.2.2.2.1 with z | z
      · exact I.ok.noex b o e z
      · exact absurd (Nat.lt_of_lt_of_le (Heap.lt_size e) (Nat.le_trans I.ok.bsz z)) (Nat.lt_irrefl _)
    · intro b hb z
      rcases List.mem_cons.mp (I.stkSub b z) with z | z
      · exact (hfp b hb).1.2.1 z
      · exact (hfp b hb).1.2.2.1 z
  refine ⟨okG, rfl, I.bare.push hg, Un.kept kp, ⟨fun y => if y = ".0" then some it else none, ?_, fun i y v e1 e2 e3 => ?_⟩, fun y c e => ?_, ?_, fun y c e => ?_, fun p hp => ?_, I.hok.kept kp, by rw [wipe_length]; exact I.len⟩
  · show (h'.push go).Ns env.locals _
    rw [eL]
    exact hn.push _
  · obtain ⟨e2, hne⟩ := wipe_some e2
    have notown : y ∉ own.map (·.1) := fun z => by
      obtain ⟨p, hp, ep⟩ := List.mem_map.mp z
      have ix := ok.ix p hp
      rw [ep] at ix
      have : p.2 = i := nodup_inj hN ix (show X.N[i]? = some y from e1)
      exact hne (List.mem_map.mpr ⟨p, hp, this⟩)
    have e3 : Vis scope y := by
      have z : Vis env.scope y := e3
      rw [eS] at z
      exact z
    have yN : y ∈ X.N := List.mem_of_getElem? (show X.N[i]? = some y from e1)
    have fr : (y, NameKind.free) ∈ scope.names := by
      rcases e3 with z | z | z
      · exact ((ok.own _ (PySem.mem_of_lookup z) (.inl rfl)).elim (fun q => absurd q notown) (fun q => absurd yN q))
      · exact absurd rfl (nocell _ (PySem.mem_of_lookup z))
      · exact PySem.mem_of_lookup z
    obtain ⟨c, l1, l2⟩ := look fr
    have vis : X.env.scope.names.lookup y = some .cell ∨ X.env.scope.names.lookup y = some .free := ok.free _ fr rfl
    obtain ⟨m, _, lc⟩ := I.loc
    obtain ⟨u, ru, lk⟩ := lc i y v e1 e2 (.inr vis)
    rcases lk with ⟨z, _⟩ | ⟨_, c2, z1, z2⟩
    · have z : X.env.scope.names.lookup y = some .local := z
      rcases vis with q | q <;> (rw [z] at q; cases q)
    · rw [l2] at z1
      cases z1
      refine ⟨u, ru, .inr ⟨.inr ?_, c, l1, z2.keeps kp⟩⟩
      show env.kindOf y = some .free
      unfold Env.kindOf
      rw [eS]
      exact ok.uniq _ fr
  · obtain ⟨v, z⟩ := I.cell y c (cm e).2.1
    exact ⟨v, z.keeps kp⟩
  · show H env.locals = none
    rw [eL]
    exact I.hok.fresh (Nat.le_refl _)
  · exact I.freeC y c (cm e).2.1
  · have hp : p = (h'.objs.size, go) := by simpa using hp
    subst hp
    refine ⟨Heap.get?_push_size _ hgf, I.hok.fresh (by omega), ?_, fun z => ?_, hgo⟩
    · show h'.objs.size ≠ env.locals
      rw [eL]
      omega
    · have z : h'.objs.size ∈ frs X.stack := z
      have big : s.heap.objs.size ≤ h'.objs.size := by omega
      rcases List.mem_cons.mp (I.stkSub _ z) with q | q
      · have := I.lt
        rw [← q] at this
        exact Nat.lt_irrefl _ (Nat.lt_of_lt_of_le this big)
      · exact I.nofs big q
end
end IndG

set_option Elab.async false
set_option linter.all false
set_option maxRecDepth 100000
set_option maxHeartbeats 4000000
namespace IndG
open PySem PySem.Spec PyProof.Rows L2 GenW
section
variable {X : Cx} {pins : List (Addr × Obj)} {σ : L2.St} {H0 : Hp} {s0 : Shared} {env : Env} {fp : List Addr} {a it : Addr} {go : Obj} {own : List (Str × Nat)} {target elt iter : Expr} {scope : Scope} {pos : Pos} {J : It} {tn : Nat → Heap → Prop} {n : Nat} {tr : Nat → Bool} {Pv : Nat → Hp → Prop} {g : TG} {te : TE}
/-- the stage j of a generator's frame -/
def GV (X : Cx) (σ : L2.St) (H0 : Hp) (s0 : Shared) (env : Env) (fp : List Addr) (a : Addr) (go : Obj) (own : List (Str × Nat)) (tn : Nat → Heap → Prop) (Pv : Nat → Hp → Prop) (j : Nat) (s : Shared) : Prop :=
  ∃ H, Inv (genC X env s0 H0 fp) [(a, go)] (wipe σ (own.map (·.2))) H s ∧ tn j s.heap ∧ (∀ b ∈ fp, H b = none) ∧ Pv j H
def GF (X : Cx) (σ : L2.St) (H0 : Hp) (s0 : Shared) (env : Env) (fp : List Addr) (a : Addr) (go : Obj) (own : List (Str × Nat)) (Pv : Nat → Hp → Prop) (n : Nat) (s : Shared) : Prop :=
  ∃ H, Inv (genC X env s0 H0 fp) [(a, go)] (wipe σ (own.map (·.2))) H s ∧ Pv n H
theorem inv_still {Y : Cx} {pins : List (Addr × Obj)} {σ : L2.St} {H : Hp} {s : Shared} {g' : Array GenState} {t : Nat} (I : Inv Y pins σ H s) (b : ∀ y ∈ g', y.bare = true) : Inv Y pins σ H { s with gens := g', toks := t } :=
  ⟨I.ok, I.os, b, I.base, I.loc, I.cell, I.free, I.freeC, I.pin, I.hok, I.len⟩
theorem gen_stage (T : Turn X.prog X.w X.K target J fp it tn) (apart : ∀ b ∈ fp, a ≠ b)
    (hg : PG (genC X env s0 H0 fp) target g) (he : PE (genC X env s0 H0 fp) elt te)
    (turn : ∀ j H, j < n → Pv j H → J.go j H ∧ ∀ x H', J.yld j H x H' → g x (wipe σ (own.map (·.2))) H' fun σ2 H2 => wipe σ2 (own.map (·.2)) = wipe σ (own.map (·.2)) ∧ te σ2 H2 fun y H3 => y = .bl (tr j) ∧ Pv (j + 1) H3)
    (stop : ∀ H, Pv n H → J.stop n H) :
    Stage X.prog X.w (X.A.in1.in1.deeper env) env target elt it n tr (GV X σ H0 s0 env fp a go own tn Pv) (GF X σ H0 s0 env fp a go own Pv n) := by
  have ok : ∀ {σ' : L2.St} {H' : Hp} {s' : Shared}, Inv (genC X env s0 H0 fp) [(a, go)] σ' H' s' → (∀ b ∈ fp, H' b = none) → ∀ b ∈ fp, FpOk (genC X env s0 H0 fp) [(a, go)] H' b := fun {σ' H' s'} I' hn b hb =>
    ⟨hn b hb, (I'.ok.exf b hb).1, I'.ok.exfs b hb, .inl hb, fun x c e => (I'.ok.exf b hb).2 x c e, fun p hp => by
      have hp : p = (a, go) := by simpa using hp
      subst hp
      exact apart b hb⟩
  refine ⟨?_, ?_, ?_, ?_⟩
  · rintro j s g' t ⟨H, I, st, no, pv⟩ b
    exact ⟨H, inv_still I b, st, no, pv⟩
  · rintro j s ⟨H, I, _⟩
    exact I.bare
  · rintro j s E hj ⟨H, I, st, no, pv⟩
    obtain ⟨go', yl⟩ := turn j H hj pv
    refine wpAny_mono (T.item (genC X env s0 H0 fp) rfl rfl rfl rfl j [(a, go)] s _ H E I (ok I no) st go') (fun r s1 h1 => ?_) fun _ _ x => x
    obtain ⟨u, er, h1⟩ := h1
    refine ⟨u, er, wpAny_mono h1 (fun _ s2 h2 => ?_) fun _ _ x => x⟩
    obtain ⟨x, H2, I2, r2, y2, st2, no2⟩ := h2
    have I2p := I2.pinned (ok I2 no2) (T.obj _ _ st2)
    refine thnF (hg.run _ s2 _ H2 x u _ I2p r2 (yl x H2 y2)) fun _ s3 h3 => ?_
    obtain ⟨σ3, H3, I3, w3, q3⟩ := h3
    refine thnF (he.run _ s3 σ3 H3 _ I3 q3) fun y s4 h4 => ?_
    obtain ⟨v, H4, I4, r4, ev, pv4⟩ := h4
    subst ev
    have ey : y = Value.bool (tr j) := r4
    have pin : ∀ b ∈ fp, ∀ o, s2.heap.get? b = some o → s4.heap.get? b = some o ∧ H4 b = none := fun b hb o e => by
      have z := I4.pin (b, o) (List.mem_append_right _ (List.mem_append_right _ (mem_pinsAt hb e)))
      exact ⟨z.1, z.2.1⟩
    have ln : (wipe σ (own.map (·.2))).length = σ3.length := by rw [← w3, wipe_length]
    refine ⟨ey, H4, (I4.unpinned (pins := [(a, go)])).weak ln (fun i v e => ?_), T.keep _ _ _ st2 (fun b hb o e => (pin b hb o e).1), fun b hb => ?_, pv4⟩
    · rw [← w3] at e
      exact (wipe_some e).1
    · obtain ⟨o, e, _⟩ := T.obj _ _ st2 b hb
      exact (pin b hb o e).2
  · rintro s E ⟨H, I, st, no, pv⟩
    refine wpAny_mono (T.done (genC X env s0 H0 fp) rfl rfl rfl rfl n [(a, go)] s _ H E I (ok I no) st (stop H pv)) (fun r s1 h1 => ?_) fun _ _ x => x
    exact ⟨h1.1, H, h1.2, pv⟩
/-- the caller's state again -/
theorem gen_left {σ0 : L2.St} (I0 : Inv X pins σ0 H0 s0) (hfp : ∀ b ∈ fp, FpOk X pins H0 b) {s : Shared} (h : Left (GV X σ H0 s0 env fp a go own tn Pv) (GF X σ H0 s0 env fp a go own Pv n) s) : ∃ j H, Pv j H ∧ Inv X pins σ0 H s := by
  have back : ∀ {H : Hp} {z : Shared}, Inv (genC X env s0 H0 fp) [(a, go)] (wipe σ (own.map (·.2))) H z → Inv X pins σ0 H z := fun {H z} I =>
    I0.call' (ch := fp) I.os I.base I.hok I.bare fun b hb => ⟨(hfp b hb).2.2.2.1, (hfp b hb).2.1, (hfp b hb).2.2.2.2.1, (hfp b hb).2.2.2.2.2⟩
  rcases h with ⟨j, H, I, _, _, pv⟩ | ⟨s1, g', h', ⟨H, I, pv⟩, rfl, b, k⟩
  · exact ⟨j, H, pv, back I⟩
  · refine ⟨n, H, pv, ?_⟩
    have I1 := (back I).kept (t' := s1.toks) k
    exact inv_still (g' := g') (t := s1.toks) I1 b
end
end IndG

set_option Elab.async false
set_option linter.all false
set_option maxRecDepth 100000
set_option maxHeartbeats 4000000
namespace IndG
open PySem PySem.Spec PyProof.Rows L2 GenW GxR
section
variable {X : Cx} {pins : List (Addr × Obj)} {σ : L2.St} {H : Hp} {s : Shared} {own : List (Str × Nat)} {target elt iter : Expr} {scope : Scope} {pos gpos : Pos} {g : TG} {te : TE} {wi : TI} {c P : Addr}
/-- what is asked of a generator expression that all(..) or any(..) reads: r, the answer of n truths -/
def genR (P : Addr) (wi : TI) (g : TG) (te : TE) (vs : List Nat) (ans : List Nat → (Nat → Bool) → Bool) : TE := fun σ H Q => wi σ H fun J H1 => TabG H1 P ∧ ∀ H2, Tabbed P H1 H2 →
  ∃ (n : Nat) (tr : Nat → Bool) (Pv : Nat → Hp → Prop), Pv 0 H2 ∧ (∀ j H3, j < n → Pv j H3 → J.go j H3 ∧ ∀ x H4, J.yld j H3 x H4 → g x (wipe σ vs) H4 fun σ2 H5 => wipe σ2 vs = wipe σ vs ∧ te σ2 H5 fun y H6 => y = .bl (tr j) ∧ Pv (j + 1) H6) ∧
    (∀ H3, Pv n H3 → J.stop n H3) ∧ ∀ j H3, Pv j H3 → Q (.bl (ans (List.range n) tr)) H3
/-- the generator is made and asleep -/
theorem gen_made {k : Nat} {Q' : Value → Shared → Prop} {R : It → Hp → Prop} (hc : X.calm = true) (hN : X.N.Nodup) (hr : Room k X.A) (TB : TabB X.base X.mg c P) (hcode : X.env.code = .ref c) (ok : BlkOk X.N X.env.scope scope own)
    (nocell : ∀ y ∈ scope.names, y.2 ≠ .cell) (dot : scope.names.lookup (".0" : Str) = some NameKind.local) (hco : scope.isCoroutine = false) (hi : PI X target iter wi) (hs : ∀ v, genFold iter X.env v = pure v)
    (I : Inv X pins σ H s) (h : wi σ H fun J H1 => TabG H1 P ∧ ∀ H2, Tabbed P H1 H2 → R J H2)
    (hQ : ∀ (it : Addr) (fp : List Addr) (tn : Nat → Heap → Prop) (J : It) (H2 : Hp) (s4 : Shared) (code : Value) (a : Addr) (go : Obj) (s5 : Shared), R J H2 → Inv X pins σ H2 s4 → Turn X.prog X.w X.K target J fp it tn → (∀ b ∈ fp, FpOk X pins H2 b) → (∀ b ∈ fp, a ≠ b) →
      Inv (genC X (genEnv scope (cloFrom X.env.cells scope.names []) s4.heap.objs.size code builtinsNs X.env) s4 H2 fp) [(a, go)] (wipe σ (own.map (·.2))) H2 s5 → tn 0 s5.heap → (∀ b ∈ fp, H2 b = none) → s5.heap.IsGen a s4.gens.size → s5.gens[s4.gens.size]? = some (.fresh (.compStart (gx elt target iter scope gpos) 0 (.ref it) .none (genEnv scope (cloFrom X.env.cells scope.names []) s4.heap.objs.size code builtinsNs X.env))) →
      (∀ h : Heap, h.get? a = some go → h.IsGen a s4.gens.size) → Q' (.ref a) s5) :
    wpAny (model X.prog X.w) X.A (eval (gx elt target iter scope gpos) X.env) Q' X.xe s := by
  have free : ∀ y ∈ scope.names, y.2 = .free → ∃ c, X.env.cells.lookup y.1 = some c := fun y hy e => (ok.free y hy e).elim (fun k => I.ok.has _ (.inl k)) (fun k => I.ok.has _ (.inr k))
  refine wpAny_GeneratorExp_make hco (closure_ok free) nocell dot ok.kind (by have := hr.dp; omega) ?_ hs
  refine thn (hi.run pins s σ H _ I h) fun xv s1 h1 => thn h1 fun itv s2 h2 => ?_
  obtain ⟨it, fp, tn, J, H1, rfl, I2, T, st, fpk, ⟨ps, hP, ht⟩, q⟩ := h2
  have hPs : s2.heap.get? P = some { cls := .none, data := .fields ps } := I2.hok P _ hP
  have cd : PySem.W.CodeHd s2.heap c P := TB.code.keeps fun b u e => I2.bk b u e
  have nP : ∀ b ∈ fp, b ≠ P := fun b hb z => by
    have := (fpk b hb).1
    rw [z, hP] at this
    cases this
  obtain ⟨bm, ob, e1, e2, e3, e4, e5, e6, e7, e8⟩ := TB.bm
  have hcP : cStatics ≠ P := fun e => by
    obtain ⟨_, hns, _⟩ := I2.nolimit
    obtain ⟨o', es, ep, ho, hd, _⟩ := hns
    rw [e, hPs] at ho
    cases ho
    cases hd
  have cont : ∀ (code : Value) (h3 : Heap) (tk : Nat) (ps' : Array Value), Heap.ExtBut P s2.heap h3 → h3.get? P = some { cls := .none, data := .fields ps' } → (∃ more, ps' = ps ++ more) → TriplesOk ps'.toList →
      wpAny (model X.prog X.w) X.A (builtinsFor X.env.globals X.env.builtins) (fun bi s₄ => ∀ h', h'.Ns s₄.heap.objs.size (fun y => if y = ".0" then some (.ref it) else none) → Heap.SameBut s₄.heap.objs.size (s₄.heap.push { cls := .type "frame", data := .dict #[] }) h' →
        Q' (.ref h'.objs.size) { s₄ with
          gens := s₄.gens.push (.fresh (.compStart (gx elt target iter scope gpos) 0 (.ref it) .none (genEnv scope (cloFrom X.env.cells scope.names []) s₄.heap.objs.size code bi X.env))),
          toks := s₄.toks + 1 + 1 + 1,
          heap := h'.push { cls := .type "generator", data := .fields #[.int s₄.gens.size 0, .str "<genexpr>" (s₄.toks + 1), .str (X.env.qual ++ "<genexpr>") (s₄.toks + 1 + 1)] } }) X.xe { s2 with heap := h3, toks := tk } := by
    intro code h3 tk ps' hx hP3 hmore ht3
    obtain ⟨more, em⟩ := hmore
    have keep3 : ∀ b u, b ≠ P → s2.heap.get? b = some u → h3.get? b = some u := fun b u hb e => hx b u hb e
    refine wpAny_builtinsFor (m := X.mg) (by rw [I2.ok.glob]; exact (I2.mod.glob.keeps I2.bk).extBut hx TB.gP) e1 e2 (keep3 _ _ e4 (I2.bk _ _ e5)) e6 e7 e8 ?_
    intro h' hn' hs'
    have I3 : Inv X pins σ (upd H1 P (.tbl (ps ++ more))) { s2 with heap := h3, toks := tk } := inv_tab (more := more) (g' := s2.gens) (d' := s2.drawn) (t' := tk) I2 hP (fun b o hb e => keep3 b o hb e) (by rw [← em]; exact hP3) I2.bare
    have tabd : Tabbed P H1 (upd H1 P (.tbl (ps ++ more))) := ⟨⟨ps ++ more, upd_same, by rw [← em]; exact ht3⟩, fun b hb => upd_ne hb⟩
    have fpk3 : ∀ b ∈ fp, FpOk X pins (upd H1 P (.tbl (ps ++ more))) b := fun b hb => ⟨by rw [upd_ne (nP b hb)]; exact (fpk b hb).1, (fpk b hb).2⟩
    have st3 : tn 0 h3 := T.keep _ _ _ st fun b hb o e => keep3 b o (nP b hb) e
    have sz3 : ∀ b ∈ fp, b < h3.objs.size := fun b hb => by
      obtain ⟨o, e, _⟩ := T.obj _ _ st3 b hb
      exact Heap.lt_size e
    have szh : h'.objs.size = h3.objs.size + 1 := by rw [hs'.1, Heap.size_push]
    have ext : ∀ (go : Obj) b o, h3.get? b = some o → (h'.push go).get? b = some o := fun go b o e => Heap.get?_push_of_some _ (hs'.extBut b o (Nat.ne_of_lt (Heap.lt_size e)) (Heap.get?_push_of_some _ e))
    refine hQ it fp tn J _ _ code _ _ _ (q _ tabd) I3 T fpk3 (fun b hb z => ?_) (gen_start (code := code) (it := .ref it) hc hN I3 ok nocell rfl (fun b hb => ⟨fpk3 b hb, sz3 b hb⟩) hn' hs' rfl (fun v e => by cases e) rfl)
      (T.keep _ _ _ st3 fun b hb o e => ext _ b o e) (fun b hb => (fpk3 b hb).1) ⟨_, _, _, Heap.get?_push_size _ rfl, rfl, rfl, rfl⟩ (Array.getElem?_push_size ..) (fun hh e => ⟨_, _, _, e, rfl, rfl, rfl⟩)
    have := sz3 b hb
    have z : h'.objs.size = b := z
    have e9 : (h'.objs.size : Nat) = b := z
    rw [szh] at e9
    exact absurd this (by rw [← e9]; exact Nat.not_lt.mpr (Nat.le_succ _))
  refine ⟨I2.nolimit, ?_⟩
  cases hf : codeAmong gpos ps.toList with
  | some cv =>
    refine wpAny_genexprCode_hit hcode (cd.code hPs ht) hf ?_
    exact cont cv s2.heap s2.toks ps (Heap.ExtBut.refl _ _) hPs ⟨#[], by simp⟩ ht
  | none =>
    refine wpAny_genexprCodeX hcode (cd.code hPs ht) (cd.tab hPs) hf fun c' h' tk hx hge hlt isc' _ tab' _ => ?_
    obtain ⟨z1, z2, z3, z4, z5, z6, z7, z8, z9, z10, _, _, _, _, _, _, _, _, _, ztr, _⟩ := isc'
    exact cont _ h' tk _ hx tab'.2 ⟨_, rfl⟩ ztr
end
end IndG

set_option Elab.async false
set_option linter.all false
set_option maxRecDepth 100000
set_option maxHeartbeats 4000000
namespace IndG
open PySem PySem.Spec PyProof.Rows L2 GenW GxR
section
variable {X : Cx} {own : List (Str × Nat)} {target elt iter : Expr} {scope : Scope} {p pos gpos : Pos} {g : TG} {te : TE} {wi : TI} {c P : Addr} {k : Nat}
/-- all(..), any(..): what both share -/
theorem gen_call {b : String} {ans : List Nat → (Nat → Bool) → Bool} {pins : List (Addr × Obj)} {σ : L2.St} {H : Hp} {s : Shared} {Q : VK} (hc : X.calm = true) (hN : X.N.Nodup) (hr : Room k X.A) (TB : TabB X.base X.mg c P) (hcode : X.env.code = .ref c) (ok : BlkOk X.N X.env.scope scope own)
    (nocell : ∀ y ∈ scope.names, y.2 ≠ .cell) (dot : scope.names.lookup (".0" : Str) = some NameKind.local) (hco : scope.isCoroutine = false) (hi : PI X target iter wi) (hs : ∀ v, genFold iter X.env v = pure v)
    (pg : ∀ (s : Shared) (H : Hp) (C : Addr) (cl : List (Str × Addr)) (code : Value) (fp : List Addr), PG (genC X (genEnv scope cl C code builtinsNs X.env) s H fp) target g)
    (pe : ∀ (s : Shared) (H : Hp) (C : Addr) (cl : List (Str × Addr)) (code : Value) (fp : List Addr), PE (genC X (genEnv scope cl C code builtinsNs X.env) s H fp) elt te)
    (I : Inv X pins σ H s) (h : genR P wi g te (own.map (·.2)) ans σ H Q)
    (run : ∀ {a : Addr} {gi n : Nat} {tr : Nat → Bool} {V : Nat → Shared → Prop} {F : Shared → Prop} (still : ∀ j s g' t, V j s → (∀ y ∈ g', y.bare = true) → V j { s with gens := g', toks := t }) (bare : ∀ j s, V j s → ∀ y ∈ s.gens, y.bare = true) (K : Held a gi V F) {s : Shared} {Q : Value → Shared → Prop} {E : Value → Shared → Prop},
      Asleep X.prog X.w X.A.in1 gi n tr V F 0 s → (∀ z, Left V F z → Q (.bool (ans (List.range n) tr)) z) → wpAny (MM X.prog X.w) X.A (call (.builtin b) [.ref a]) Q E s) :
    wpAny (model X.prog X.w) X.A (eval (gx elt target iter scope gpos) X.env) (fun v s1 => wpAny (model X.prog X.w) X.A (call (.builtin b) [v]) (EP X pins σ Q) X.xe s1) X.xe s := by
  refine gen_made (R := fun J H2 => ∃ (n : Nat) (tr : Nat → Bool) (Pv : Nat → Hp → Prop), Pv 0 H2 ∧ (∀ j H3, j < n → Pv j H3 → J.go j H3 ∧ ∀ x H4, J.yld j H3 x H4 → g x (wipe σ (own.map (·.2))) H4 fun σ2 H5 => wipe σ2 (own.map (·.2)) = wipe σ (own.map (·.2)) ∧ te σ2 H5 fun y H6 => y = .bl (tr j) ∧ Pv (j + 1) H6) ∧
    (∀ H3, Pv n H3 → J.stop n H3) ∧ ∀ j H3, Pv j H3 → Q (.bl (ans (List.range n) tr)) H3) hc hN hr TB hcode ok nocell dot hco hi hs I h ?_
  intro it fp tn J H2 s4 code a go s5 hR I4 T fpk apart I5 st5 no5 gen5 gs5 isg
  obtain ⟨n, tr, Pv, pv0, turn, stop, fin'⟩ := hR
  have St := gen_stage (s0 := s4) (H0 := H2) (env := genEnv scope (cloFrom X.env.cells scope.names []) s4.heap.objs.size code builtinsNs X.env) (go := go) (σ := σ) (own := own) (n := n) (tr := tr) (Pv := Pv) T apart (pg _ _ _ _ _ _) (pe _ _ _ _ _ _) turn stop
  have V0 : GV X σ H2 s4 (genEnv scope (cloFrom X.env.cells scope.names []) s4.heap.objs.size code builtinsNs X.env) fp a go own tn Pv 0 s5 := ⟨H2, I5, st5, no5, pv0⟩
  have K : Held a s4.gens.size (GV X σ H2 s4 (genEnv scope (cloFrom X.env.cells scope.names []) s4.heap.objs.size code builtinsNs X.env) fp a go own tn Pv) (GF X σ H2 s4 (genEnv scope (cloFrom X.env.cells scope.names []) s4.heap.objs.size code builtinsNs X.env) fp a go own Pv n) := by
    refine ⟨?_, ?_⟩
    · rintro j z ⟨H3, I3, _⟩
      exact ⟨isg _ (I3.pin (a, go) (by simp)).1, I3.nolimit⟩
    · rintro z ⟨H3, I3, _⟩
      exact I3.bare
  have wk := fun z hz => wakes (prog := X.prog) (w := X.w) (A := X.A.in1.in1) (iter := iter) (scope := scope) (pos := gpos) (by rw [over_gen]; exact St) hco (by rw [over_gen, over_gen0]) (fun s Q E hV hQ => by
    obtain ⟨H3, I3, st3, _⟩ := hV
    exact T.self _ 0 s Q E st3 hQ) z z hz (Nat.le_refl _)
  refine run (n := n) (tr := tr) St.still St.bare K ⟨V0, _, gs5, fun z hz => ⟨rfl, ?_⟩⟩ fun z hz => ?_
  · rw [Nat.sub_zero]
    exact wk z hz
  · obtain ⟨j, H3, pv, I3⟩ := gen_left I4 fpk hz
    exact ⟨.bl _, H3, I3, rfl, fin' j H3 pv⟩
theorem pe_allG (hc : X.calm = true) (hN : X.N.Nodup) (hr : Room k X.A) (TB : TabB X.base X.mg c P) (hcode : X.env.code = .ref c) (hg : Gl X "all") (hm : X.mg "all" = none) (hb : bootBuiltins "all" = some (.builtin "all")) (ok : BlkOk X.N X.env.scope scope own)
    (nocell : ∀ y ∈ scope.names, y.2 ≠ .cell) (dot : scope.names.lookup (".0" : Str) = some NameKind.local) (hco : scope.isCoroutine = false) (hi : PI X target iter wi) (hs : ∀ v, genFold iter X.env v = pure v)
    (pg : ∀ (s : Shared) (H : Hp) (C : Addr) (cl : List (Str × Addr)) (code : Value) (fp : List Addr), PG (genC X (genEnv scope cl C code builtinsNs X.env) s H fp) target g)
    (pe : ∀ (s : Shared) (H : Hp) (C : Addr) (cl : List (Str × Addr)) (code : Value) (fp : List Addr), PE (genC X (genEnv scope cl C code builtinsNs X.env) s H fp) elt te)
    (he : starEach [gx elt target iter scope gpos] X.env = (false, eval (gx elt target iter scope gpos) X.env) :: starEach [] X.env := by rfl) :
    PE X (.Call (.Name "all" p) [gx elt target iter scope gpos] [] pos) (genR P wi g te (own.map (·.2)) List.all) := by
  constructor
  intro pins s σ H Q I h
  refine wpAny_Call_Name_kw (ld_blt I hg hm hb ?_)
  refine PyProof.Rows.callWith_builtin1 ?_ he (by rfl)
  rw [he]
  show wpAny _ _ (spliced ((false, eval (gx elt target iter scope gpos) X.env) :: (backTo pos (starEach [] X.env)))) _ _ s
  refine Calls.spliced_cons (thn (gen_call (b := "all") hc hN hr TB hcode ok nocell dot hco hi hs pg pe I h @fun a gi n tr V F still bare K s Q E h1 h2 => call_all still bare K (I.ok.hd hc) (by have := hr.dp; omega) h1 h2) fun v s1 h1 => ?_)
  exact Calls.spliced_nil h1
theorem pe_anyG (hc : X.calm = true) (hN : X.N.Nodup) (hr : Room k X.A) (TB : TabB X.base X.mg c P) (hcode : X.env.code = .ref c) (hg : Gl X "any") (hm : X.mg "any" = none) (hb : bootBuiltins "any" = some (.builtin "any")) (ok : BlkOk X.N X.env.scope scope own)
    (nocell : ∀ y ∈ scope.names, y.2 ≠ .cell) (dot : scope.names.lookup (".0" : Str) = some NameKind.local) (hco : scope.isCoroutine = false) (hi : PI X target iter wi) (hs : ∀ v, genFold iter X.env v = pure v)
    (pg : ∀ (s : Shared) (H : Hp) (C : Addr) (cl : List (Str × Addr)) (code : Value) (fp : List Addr), PG (genC X (genEnv scope cl C code builtinsNs X.env) s H fp) target g)
    (pe : ∀ (s : Shared) (H : Hp) (C : Addr) (cl : List (Str × Addr)) (code : Value) (fp : List Addr), PE (genC X (genEnv scope cl C code builtinsNs X.env) s H fp) elt te)
    (he : starEach [gx elt target iter scope gpos] X.env = (false, eval (gx elt target iter scope gpos) X.env) :: starEach [] X.env := by rfl) :
    PE X (.Call (.Name "any" p) [gx elt target iter scope gpos] [] pos) (genR P wi g te (own.map (·.2)) List.any) := by
  constructor
  intro pins s σ H Q I h
  refine wpAny_Call_Name_kw (ld_blt I hg hm hb ?_)
  refine PyProof.Rows.callWith_builtin1 ?_ he (by rfl)
  rw [he]
  show wpAny _ _ (spliced ((false, eval (gx elt target iter scope gpos) X.env) :: (backTo pos (starEach [] X.env)))) _ _ s
  refine Calls.spliced_cons (thn (gen_call (b := "any") hc hN hr TB hcode ok nocell dot hco hi hs pg pe I h @fun a gi n tr V F still bare K s Q E h1 h2 => call_any still bare K (I.ok.hd hc) (by have := hr.dp; omega) h1 h2) fun v s1 h1 => ?_)
  exact Calls.spliced_nil h1
end
end IndG

set_option Elab.async false
set_option linter.all false
set_option maxRecDepth 100000
set_option maxHeartbeats 4000000
namespace Ind
open PySem PySem.Spec PyProof.Rows L2
theorem small_div {x j : Int} (h : 0 < j) (h2 : j < 1606938044258990275541962092341162602522202993782792835301376) : CDivW x j := by
  refine wide_div (b := 200) h ?_ (by decide) (by decide)
  have e : (2 : Nat) ^ 200 = 1606938044258990275541962092341162602522202993782792835301376 := by decide +kernel
  rw [e]
  omega
/-! ### texts -/
theorem codes_app (a y : PySem.Str) : (a ++ y).cps.toList = a.cps.toList ++ y.cps.toList := by
  cases a; cases y
  show (_ ++ _ : Array Nat).toList = _
  simp
theorem codes_len (a : PySem.Str) : a.length = a.cps.toList.length := (Array.length_toList).symm
theorem codes_one (c : Nat) : (⟨#[c]⟩ : PySem.Str).cps.toList = [c] := rfl
def Sgn (c : Nat) : Prop := 32 ≤ c ∧ c ≤ 126 ∧ c ≠ 37
instance (c : Nat) : Decidable (Sgn c) := inferInstanceAs (Decidable (32 ≤ c ∧ c ≤ 126 ∧ c ≠ 37))
def Sgns (x : PySem.Str) : Prop := ∀ c ∈ x.cps.toList, Sgn c
def TxtOk (x : PySem.Str) : Prop := x.length ≤ 20 ∧ Sgns x
theorem Sgns.app {x y : PySem.Str} (a : Sgns x) (b : Sgns y) : Sgns (x ++ y) := fun c h => by
  rw [codes_app] at h
  exact (List.mem_append.mp h).elim (a c) (b c)
theorem Sgns.one {c : Nat} (h : Sgn c) : Sgns ⟨#[c]⟩ := fun d hd => by
  have e : d = c := by simpa [codes_one] using hd
  rw [e]; exact h
theorem len_app (x y : PySem.Str) : (x ++ y).length = x.length + y.length := by
  rw [codes_len, codes_len, codes_len, codes_app, List.length_append]
theorem len_one (c : Nat) : (⟨#[c]⟩ : PySem.Str).length = 1 := rfl
abbrev sgA : PySem.Str := " !\"#$&'()*+,-./0123456789:;<=>?@ABCDEFGHIJKLMNOPQRSTUVWXYZ[\\]^_`"
abbrev sgB : PySem.Str := "abcdefghijklmnopqrstuvwxyz{|}~"
def sg : PySem.Str := sgA ++ sgB
theorem sg_codes : sg.cps.toList = (List.range' 32 5) ++ (List.range' 38 89) := by decide +kernel
theorem sg_len : sg.length = 94 := by rw [codes_len, sg_codes]; rfl
theorem sg_all : ∀ c ∈ sg.cps.toList, Sgn c := by rw [sg_codes]; decide +kernel
/-- an item of a written list of whole numbers -/
theorem pick {ns : List Int} {i : Int} (h0 : 0 ≤ i) (h1 : i < (ns.length : Int)) : ∃ x, atI (ns.map V.int) i = some (.int x) ∧ x ∈ ns := by
  have hlt : i.toNat < ns.length := by omega
  refine ⟨ns[i.toNat], at_of (show i = (i.toNat : Int) by omega) ?_, List.getElem_mem hlt⟩
  rw [List.getElem?_map, List.getElem?_eq_getElem hlt]
  rfl
theorem pickS {l : List Nat} {i : Int} (h0 : 0 ≤ i) (h1 : i < (l.length : Int)) : ∃ x, atI l i = some x ∧ x ∈ l := by
  have hlt : i.toNat < l.length := by omega
  have e := atI_nat (xs := l) (j := i.toNat) (v := l[i.toNat]) (List.getElem?_eq_getElem hlt)
  rw [show ((i.toNat : Nat) : Int) = i by omega] at e
  exact ⟨_, e, List.getElem_mem hlt⟩
theorem sg_pick {i : Int} (h0 : 0 ≤ i) (h1 : i < 94) : ∃ c, atI sg.cps.toList i = some c ∧ Sgn c := by
  obtain ⟨c, e, m⟩ := pickS (l := sg.cps.toList) h0 (by rw [← codes_len, sg_len]; omega)
  exact ⟨c, e, sg_all c m⟩
theorem sgns_nil : Sgns ("" : PySem.Str) := fun c h => by cases h
theorem quad_all : ∀ c ∈ ("abB' " : PySem.Str).cps.toList, Sgn c := by decide +kernel
theorem quad_len : ("abB' " : PySem.Str).cps.toList.length = 5 := by decide +kernel
theorem txt_push {x : PySem.Str} {c : Nat} (hs : Sgns x) (h : Sgn c) : Sgns (x ++ ⟨#[c]⟩) := hs.app (.one h)
theorem len_push {x : PySem.Str} {c n : Nat} (h : x.length ≤ n) : (x ++ (⟨#[c]⟩ : PySem.Str)).length ≤ n + 1 := by rw [len_app, len_one]; omega
def sgIx (c : Nat) : Nat := if c < 37 then c - 32 else c - 33
theorem sg_occ : ∀ c, c < 127 → Sgn c → Builtin.Str.occurrences sg ⟨#[c]⟩ 0 sg.length 1 = [sgIx c] := by decide +kernel
theorem sg_index {c : Nat} (h : Sgn c) : Builtin.Str.occurrences sg ⟨#[c]⟩ 0 sg.length 1 = sgIx c :: [] := sg_occ c (by have := h.2.1; omega) h
theorem sgIx_lt {c d : Nat} (h : Sgn c) (k : Sgn d) : sgIx c < sgIx d ↔ c < d := by
  obtain ⟨a1, a2, a3⟩ := h
  obtain ⟨b1, b2, b3⟩ := k
  unfold sgIx
  split <;> split <;> omega
/-! ### slices of texts -/
theorem cut_lo (z : PySem.Str) (k : Nat) (h : k ≤ z.length) : (cutS z none (some (k : Int))).cps.toList = z.cps.toList.take k := by
  unfold cutS
  rw [show HT.sIx z.length z.length (some (k : Int)) = min k z.length from HT.sIx_nat _ _ _, HT.sIx_none, Nat.min_eq_left h]
  simp
theorem cut_hi (z : PySem.Str) (k : Nat) : (cutS z (some (k : Int)) none).cps.toList = z.cps.toList.drop (min k z.length) := by
  unfold cutS
  rw [show HT.sIx z.length 0 (some (k : Int)) = min k z.length from HT.sIx_nat _ _ _, HT.sIx_none]
  show (List.take _ _).toArray.toList = _
  rw [List.take_of_length_le]
  rw [List.length_drop, codes_len]
  exact Nat.le_refl _
theorem cut_sgns {z : PySem.Str} {lo hi : Option Int} (h : Sgns z) : Sgns (cutS z lo hi) := fun c m => by
  unfold cutS at m
  exact h c (List.mem_of_mem_drop (List.mem_of_mem_take (by simpa using m)))
theorem cut_len_hi (z : PySem.Str) (k : Nat) : (cutS z none (some (k : Int))).length ≤ k := by
  rw [codes_len]
  unfold cutS
  rw [show HT.sIx z.length z.length (some (k : Int)) = min k z.length from HT.sIx_nat _ _ _, HT.sIx_none]
  show (List.take _ _).toArray.toList.length ≤ _
  rw [List.length_take]
  omega
/-! ### values: whole numbers and texts -/
def ValOk : V → Prop
  | .int _ => True
  | .str x => TxtOk x
  | _ => False
def kindB : V → Bool
  | .str _ => true
  | _ => false
theorem dec_ii {i j : Int} : decide (V.int i = V.int j) = decide (i = j) := by
  by_cases e : i = j
  · subst e; simp
  · simp [e]
def vLt : V → V → Bool
  | .int i, .int j => decide (i < j)
  | .int _, .str _ => true
  | .str x, .str y => decide (x.cps.toList < y.cps.toList)
  | _, _ => false
theorem ValOk.cases {v : V} (h : ValOk v) : (∃ i, v = .int i) ∨ ∃ x, v = .str x ∧ TxtOk x := by
  cases v with
  | int i => exact .inl ⟨i, rfl⟩
  | str x => exact .inr ⟨x, rfl, h⟩
  | _ => exact h.elim
def spText : Sp := fun vs H Q _ => ∃ (t : Tp), vs = [.ref t.a] ∧ TapeAt H t ∧ ∀ H' x, Fz t.a H H' → TapeAt H' t → TxtOk x → Q (.str x) H'
def spAny : Sp := fun vs H Q _ => ∃ (t : Tp), vs = [.ref t.a] ∧ TapeAt H t ∧ ∀ H' v, Fz t.a H H' → TapeAt H' t → ValOk v → Q v H'
def spNear : Sp := fun vs H Q _ => ∃ (t : Tp) (x : V), vs = [.ref t.a, x] ∧ ValOk x ∧ TapeAt H t ∧ ∀ H' v, Fz t.a H H' → TapeAt H' t → ValOk v → Q v H'
def spSigns : Sp := fun vs H Q _ => vs = [] ∧ Q (.str sg) H
def spBefore : Sp := fun vs H Q _ => ∃ x y, vs = [x, y] ∧ ValOk x ∧ ValOk y ∧ ∀ H', Same H H' → Q (.bl (vLt x y)) H'
def spIs : Sp := fun vs H Q _ => ∃ x y : Int, vs = [.int x, .int y] ∧ Q (.bl (decide (x = y))) H
def spKey : Sp := fun vs H Q _ => ∃ x, vs = [x] ∧ ValOk x ∧ ∀ p, H p = none → Q (.ref p) (upd H p (.tup [.bl (kindB x), x]))
def spCmp : Sp := fun vs H Q _ => ∃ x y, vs = [x, y] ∧ ValOk x ∧ ValOk y ∧ ∀ H', Same H H' → Q (.int (if vLt x y then -1 else if vLt y x then 1 else 0)) H'
def spLaw (K : PySem.W.Frag) : Sp := fun vs H Q _ => ∃ (a : Addr) (ns : List Int), vs = [.ref a] ∧ SqL K H a (ns.map V.int) ∧ ns.length ≤ 63 ∧ ∀ H', Q (.bl true) H'
end Ind

set_option Elab.async false
set_option linter.all false
set_option maxRecDepth 100000
set_option maxHeartbeats 4000000
namespace IndCmp
open PySem PySem.SeqAt Ob
open PySem.AutoSeq1 (wpAny_loadPart')
open PySem.MeetsSeq PySem.MeetsSeq2 PySem.MeetsSeq3

theorem ltAt (l b : Addr) (xs ys : Array Value) (n n2 : Nat) (dd dd2 : Option Addr) (sl sl2 : Array (Option Value)) (e r : Nat → Bool) :
    Meets (Builtin.«tuple.__lt__» ⟨[.ref l, .ref b], []⟩) (fun A R s =>
      (s.heap.get? l = some { cls := .type "tuple", dict := dd, data := .seq xs n, slots := sl }) ∧
      (s.heap.get? b = some { cls := .type "tuple", dict := dd2, data := .seq ys n2, slots := sl2 }) ∧
      (∀ j (h1 : j < xs.size) (h2 : j < ys.size), EqAt A.in1 s xs[j] ys[j] (e j)) ∧
      (∀ j (h1 : j < xs.size) (h2 : j < ys.size), (∀ k, k < j → e k = true) → e j = false → RcOp .Lt A.in1 s xs[j] ys[j] (r j)) ∧
      R (.ok (.ret (.bool (lexAt e r (decide (xs.size < ys.size)) 0 (min xs.size ys.size))))) s) :=
  .of_wp fun prog w A R s hh => by
    obtain ⟨hp, g, d, tk, os⟩ := s
    obtain ⟨a1, a2, qe, qr, hh⟩ := hh
    have sb := AutoSeq1.sub_tuple_tuple
    have zz : (xs.toList.zip ys.toList).length = min xs.size ys.size := by simp
    wp_walk using wpAny_loadPart' a1, wpAny_loadPart' a2, wpAny_forIn_list _ (fun rest b s' =>
      b.1 = none ∧ s' = ⟨hp, g, d, tk, os⟩ ∧ ∃ i, rest = (xs.toList.zip ys.toList).drop i ∧ (∀ k, k < i → e k = true) ∧
      R (.ok (.ret (.bool (lexAt e r (decide (xs.size < ys.size)) i (min xs.size ys.size - i))))) ⟨hp, g, d, tk, os⟩) _
    case turn =>
      rintro ⟨y, x⟩ rest b s' ⟨nb, rfl, i, hz, before, goal⟩
      have il : i < (xs.toList.zip ys.toList).length := by
        by_cases c : i < (xs.toList.zip ys.toList).length
        · exact c
        · rw [List.drop_of_length_le (by omega)] at hz
          cases hz
      have im : i < min xs.size ys.size := by omega
      have i1 : i < xs.size := by omega
      have i2 : i < ys.size := by omega
      rw [List.drop_eq_getElem_cons il] at hz
      injection hz with pr tl
      have ey : y = xs[i] := by have t1 := congrArg Prod.fst pr; simpa using t1
      have ex : x = ys[i] := by have t1 := congrArg Prod.snd pr; simpa using t1
      subst ey ex
      have step : min xs.size ys.size - i = (min xs.size ys.size - (i + 1)) + 1 := by omega
      rw [step, lexAt_succ] at goal
      refine wpAny_bind (qe i i1 i2 prog w _ _ ?_)
      cases c : e i with
      | true =>
        rw [c, if_pos rfl] at goal
        wp_walk
        refine ⟨rfl, rfl, i + 1, tl, fun k hk => ?_, goal⟩
        by_cases ki : k = i
        · rw [ki]; exact c
        · exact before k (by omega)
      | false =>
        rw [c, if_neg Bool.false_ne_true] at goal
        have now := qr i i1 i2 before c prog w
        wp_walk using now
        exact ⟨_, rfl, by simpa using goal⟩
    case fin =>
      rintro ⟨b1, b2⟩ s' ⟨nb, rfl, i, hz, before, goal⟩
      simp only at nb
      subst nb
      have le : min xs.size ys.size ≤ i := by
        by_cases c : i < (xs.toList.zip ys.toList).length
        · rw [List.drop_eq_getElem_cons c] at hz
          cases hz
        · omega
      rw [Nat.sub_eq_zero_of_le le, lexAt_zero] at goal
      wp_walk
      exact ⟨_, rfl, by simpa [Builtin.Tuple.tupleCompareSizes] using goal⟩
    case h =>
      exact ⟨rfl, rfl, 0, rfl, fun k hk => absurd hk (Nat.not_lt_zero _), by simpa using hh⟩
theorem rc_lt {A : Around} {s : Shared} {l b : Addr} {xs ys : Array Value} {e r : Nat → Bool} (hl : s.heap.IsTuple l xs) (hb : s.heap.IsTuple b ys) (room : A.units < cLine)
    (qe : ∀ j (h1 : j < xs.size) (h2 : j < ys.size), EqAt A.in1 s xs[j] ys[j] (e j))
    (qr : ∀ j (h1 : j < xs.size) (h2 : j < ys.size), (∀ k, k < j → e k = true) → e j = false → RcOp .Lt A.in1 s xs[j] ys[j] (r j)) :
    RcOp .Lt A s (.ref l) (.ref b) (lexAt e r (decide (xs.size < ys.size)) 0 (min xs.size ys.size)) := fun prog w E Q hq => by
  obtain ⟨⟨c1, dd, da, sl⟩, o1, hc, n, hd⟩ := id hl
  obtain ⟨⟨c2, dd2, da2, sl2⟩, o2, hc2, n2, hd2⟩ := id hb
  simp only at hc hd hc2 hd2
  subst hc hd hc2 hd2
  refine richCompare_meets_room (op := .Lt) ⟨_, o1, rfl⟩ ⟨_, o2, rfl⟩ F.slot_tuple_lt F.entry_tuple_lt
    (F.args_tuple_lt_2 _ _) (ltAt l b xs ys n n2 dd dd2 sl sl2 e r) ⟨o1, o2, qe, qr, ?_⟩ room
  exact ⟨(fun x => nomatch x), hq⟩

theorem gtAt (l b : Addr) (xs ys : Array Value) (n n2 : Nat) (dd dd2 : Option Addr) (sl sl2 : Array (Option Value)) (e r : Nat → Bool) :
    Meets (Builtin.«tuple.__gt__» ⟨[.ref l, .ref b], []⟩) (fun A R s =>
      (s.heap.get? l = some { cls := .type "tuple", dict := dd, data := .seq xs n, slots := sl }) ∧
      (s.heap.get? b = some { cls := .type "tuple", dict := dd2, data := .seq ys n2, slots := sl2 }) ∧
      (∀ j (h1 : j < xs.size) (h2 : j < ys.size), EqAt A.in1 s xs[j] ys[j] (e j)) ∧
      (∀ j (h1 : j < xs.size) (h2 : j < ys.size), (∀ k, k < j → e k = true) → e j = false → RcOp .Gt A.in1 s xs[j] ys[j] (r j)) ∧
      R (.ok (.ret (.bool (lexAt e r (decide (xs.size > ys.size)) 0 (min xs.size ys.size))))) s) :=
  .of_wp fun prog w A R s hh => by
    obtain ⟨hp, g, d, tk, os⟩ := s
    obtain ⟨a1, a2, qe, qr, hh⟩ := hh
    have sb := AutoSeq1.sub_tuple_tuple
    have zz : (xs.toList.zip ys.toList).length = min xs.size ys.size := by simp
    wp_walk using wpAny_loadPart' a1, wpAny_loadPart' a2, wpAny_forIn_list _ (fun rest b s' =>
      b.1 = none ∧ s' = ⟨hp, g, d, tk, os⟩ ∧ ∃ i, rest = (xs.toList.zip ys.toList).drop i ∧ (∀ k, k < i → e k = true) ∧
      R (.ok (.ret (.bool (lexAt e r (decide (xs.size > ys.size)) i (min xs.size ys.size - i))))) ⟨hp, g, d, tk, os⟩) _
    case turn =>
      rintro ⟨y, x⟩ rest b s' ⟨nb, rfl, i, hz, before, goal⟩
      have il : i < (xs.toList.zip ys.toList).length := by
        by_cases c : i < (xs.toList.zip ys.toList).length
        · exact c
        · rw [List.drop_of_length_le (by omega)] at hz
          cases hz
      have im : i < min xs.size ys.size := by omega
      have i1 : i < xs.size := by omega
      have i2 : i < ys.size := by omega
      rw [List.drop_eq_getElem_cons il] at hz
      injection hz with pr tl
      have ey : y = xs[i] := by have t1 := congrArg Prod.fst pr; simpa using t1
      have ex : x = ys[i] := by have t1 := congrArg Prod.snd pr; simpa using t1
      subst ey ex
      have step : min xs.size ys.size - i = (min xs.size ys.size - (i + 1)) + 1 := by omega
      rw [step, lexAt_succ] at goal
      refine wpAny_bind (qe i i1 i2 prog w _ _ ?_)
      cases c : e i with
      | true =>
        rw [c, if_pos rfl] at goal
        wp_walk
        refine ⟨rfl, rfl, i + 1, tl, fun k hk => ?_, goal⟩
        by_cases ki : k = i
        · rw [ki]; exact c
        · exact before k (by omega)
      | false =>
        rw [c, if_neg Bool.false_ne_true] at goal
        have now := qr i i1 i2 before c prog w
        wp_walk using now
        exact ⟨_, rfl, by simpa using goal⟩
    case fin =>
      rintro ⟨b1, b2⟩ s' ⟨nb, rfl, i, hz, before, goal⟩
      simp only at nb
      subst nb
      have le : min xs.size ys.size ≤ i := by
        by_cases c : i < (xs.toList.zip ys.toList).length
        · rw [List.drop_eq_getElem_cons c] at hz
          cases hz
        · omega
      rw [Nat.sub_eq_zero_of_le le, lexAt_zero] at goal
      wp_walk
      exact ⟨_, rfl, by simpa [Builtin.Tuple.tupleCompareSizes] using goal⟩
    case h =>
      exact ⟨rfl, rfl, 0, rfl, fun k hk => absurd hk (Nat.not_lt_zero _), by simpa using hh⟩
theorem rc_gt {A : Around} {s : Shared} {l b : Addr} {xs ys : Array Value} {e r : Nat → Bool} (hl : s.heap.IsTuple l xs) (hb : s.heap.IsTuple b ys) (room : A.units < cLine)
    (qe : ∀ j (h1 : j < xs.size) (h2 : j < ys.size), EqAt A.in1 s xs[j] ys[j] (e j))
    (qr : ∀ j (h1 : j < xs.size) (h2 : j < ys.size), (∀ k, k < j → e k = true) → e j = false → RcOp .Gt A.in1 s xs[j] ys[j] (r j)) :
    RcOp .Gt A s (.ref l) (.ref b) (lexAt e r (decide (xs.size > ys.size)) 0 (min xs.size ys.size)) := fun prog w E Q hq => by
  obtain ⟨⟨c1, dd, da, sl⟩, o1, hc, n, hd⟩ := id hl
  obtain ⟨⟨c2, dd2, da2, sl2⟩, o2, hc2, n2, hd2⟩ := id hb
  simp only at hc hd hc2 hd2
  subst hc hd hc2 hd2
  refine richCompare_meets_room (op := .Gt) ⟨_, o1, rfl⟩ ⟨_, o2, rfl⟩ F.slot_tuple_gt F.entry_tuple_gt
    (F.args_tuple_gt_2 _ _) (gtAt l b xs ys n n2 dd dd2 sl sl2 e r) ⟨o1, o2, qe, qr, ?_⟩ room
  exact ⟨(fun x => nomatch x), hq⟩

end IndCmp

set_option Elab.async false
set_option linter.all false
set_option maxRecDepth 100000
set_option maxHeartbeats 4000000
namespace Ind
open PySem PySem.Spec PyProof.Rows L2
theorem lex_irr (l : List Nat) : ¬ l < l := List.lt_irrefl l
theorem vLt_irr (v : V) : vLt v v = false := by
  cases v with
  | int i => simp [vLt]
  | str x => simp [vLt]
  | _ => rfl
/-- == of such values -/
theorem eqAt_val {A : Around} {s : Shared} {u v : V} {a b : Value} (hu : ValOk u) (hv : ValOk v) (ra : RelV u a) (rb : RelV v b) : SeqAt.EqAt A s a b (decide (u = v)) := by
  rcases hu.cases with ⟨i, rfl⟩ | ⟨x, rfl, _⟩ <;> rcases hv.cases with ⟨j, rfl⟩ | ⟨y, rfl, _⟩
  · obtain ⟨t, rfl⟩ := ra
    obtain ⟨t', rfl⟩ := rb
    rw [dec_int]
    exact SeqAt.EqAt.int_int _ _ _ _
  · obtain ⟨t, rfl⟩ := ra
    obtain ⟨t', rfl⟩ := rb
    rw [decide_eq_false (fun z => nomatch z)]
    exact fun prog w E Q h => SeqAt.EqAt.int_str i t y t' _ _ _ _ h
  · obtain ⟨t, rfl⟩ := ra
    obtain ⟨t', rfl⟩ := rb
    rw [decide_eq_false (fun z => nomatch z)]
    exact fun prog w E Q h => SeqAt.EqAt.str_int x t j t' _ _ _ _ h
  · obtain ⟨t, rfl⟩ := ra
    obtain ⟨t', rfl⟩ := rb
    rw [dec_str]
    exact SeqAt.EqAt.str_str _ _ _ _
theorem rc_lt_val {A : Around} {s : Shared} {u v : V} {a b : Value} (hu : ValOk u) (hv : ValOk v) (ra : RelV u a) (rb : RelV v b) (k : kindB u = kindB v) : Ob.RcOp .Lt A s a b (vLt u v) := by
  rcases hu.cases with ⟨i, rfl⟩ | ⟨x, rfl, _⟩ <;> rcases hv.cases with ⟨j, rfl⟩ | ⟨y, rfl, _⟩
  · obtain ⟨t, rfl⟩ := ra
    obtain ⟨t', rfl⟩ := rb
    exact .lt_int _ _ _ _
  · cases k
  · cases k
  · obtain ⟨t, rfl⟩ := ra
    obtain ⟨t', rfl⟩ := rb
    exact fun _ _ _ _ h => PyProof.Rows.lt_str h
theorem rc_gt_val {A : Around} {s : Shared} {u v : V} {a b : Value} (hu : ValOk u) (hv : ValOk v) (ra : RelV u a) (rb : RelV v b) (k : kindB u = kindB v) : Ob.RcOp .Gt A s a b (vLt v u) := by
  rcases hu.cases with ⟨i, rfl⟩ | ⟨x, rfl, _⟩ <;> rcases hv.cases with ⟨j, rfl⟩ | ⟨y, rfl, _⟩
  · obtain ⟨t, rfl⟩ := ra
    obtain ⟨t', rfl⟩ := rb
    exact .gt_int _ _ _ _
  · cases k
  · cases k
  · obtain ⟨t, rfl⟩ := ra
    obtain ⟨t', rfl⟩ := rb
    exact fun _ _ _ _ h => PySem.P.gt_str h
theorem pair_lex {u v : V} (hu : ValOk u) (hv : ValOk v) (r1 : Bool) (h : kindB u = kindB v → r1 = vLt u v) :
    Ob.lexAt (fun j => if j = 0 then kindB u == kindB v else decide (u = v)) (fun j => if j = 0 then decide (b2i (kindB u) < b2i (kindB v)) else r1) (decide (2 < 2)) 0 (min 2 2) = vLt u v := by
  rcases hu.cases with ⟨i, rfl⟩ | ⟨x, rfl, _⟩ <;> rcases hv.cases with ⟨j, rfl⟩ | ⟨y, rfl, _⟩
  · rw [h rfl]
    by_cases e : i = j
    · subst e; simp [Ob.lexAt, vLt]
    · simp [Ob.lexAt, vLt, kindB, e]
  · simp [Ob.lexAt, vLt, kindB, b2i]
  · simp [Ob.lexAt, vLt, kindB, b2i]
  · rw [h rfl]
    by_cases e : x = y
    · subst e; simp [Ob.lexAt, vLt]
    · simp [Ob.lexAt, vLt, kindB, e]
theorem pair_lex2 {u v : V} (hu : ValOk u) (hv : ValOk v) (r1 : Bool) (h : kindB u = kindB v → r1 = vLt v u) :
    Ob.lexAt (fun j => if j = 0 then kindB u == kindB v else decide (u = v)) (fun j => if j = 0 then decide (b2i (kindB u) > b2i (kindB v)) else r1) (decide (2 > 2)) 0 (min 2 2) = vLt v u := by
  rcases hu.cases with ⟨i, rfl⟩ | ⟨x, rfl, _⟩ <;> rcases hv.cases with ⟨j, rfl⟩ | ⟨y, rfl, _⟩
  · rw [h rfl]
    by_cases e : i = j
    · subst e; simp [Ob.lexAt, vLt]
    · simp [Ob.lexAt, vLt, kindB, e]
  · simp [Ob.lexAt, vLt, kindB, b2i]
  · simp [Ob.lexAt, vLt, kindB, b2i]
  · rw [h rfl]
    by_cases e : x = y
    · subst e; simp [Ob.lexAt, vLt]
    · simp [Ob.lexAt, vLt, kindB, e]
theorem pair_of {k : Bool} {u : V} {its : List Value} (r : Vals [V.bl k, u] its) : ∃ a, its = [Value.bool k, a] ∧ RelV u a := by
  obtain ⟨a, b, rfl, r1, r2⟩ := vals2 r
  cases (show a = Value.bool k from r1)
  exact ⟨b, rfl, r2⟩
def rKeyL (K : PySem.W.Frag) : R2 := fun x y H Q => ∃ a b u v, x = .ref a ∧ y = .ref b ∧ ValOk u ∧ ValOk v ∧ H a = some (.tup [.bl (kindB u), u]) ∧ H b = some (.tup [.bl (kindB v), v]) ∧ Q (.bl (vLt u v)) H
def rKeyG (K : PySem.W.Frag) : R2 := fun x y H Q => ∃ a b u v, x = .ref a ∧ y = .ref b ∧ ValOk u ∧ ValOk v ∧ H a = some (.tup [.bl (kindB u), u]) ∧ H b = some (.tup [.bl (kindB v), v]) ∧ Q (.bl (vLt v u)) H
section
variable {X : Cx}
theorem op_lt_key (hu : X.A.units < cLine) : OpR X (compareOp .Lt) (rKeyL X.K) := by
  intro pins s σ H x y v u Q I rx ry h
  obtain ⟨a, b, p, q, rfl, rfl, hp, hq, ha, hb, fin⟩ := h
  cases rx
  cases ry
  obtain ⟨its, r1, p1, _⟩ := I.tuple (SqT.of ha)
  obtain ⟨its2, r2, p2, _⟩ := I.tuple (SqT.of hb)
  obtain ⟨va, rfl, ra⟩ := pair_of r1
  obtain ⟨vb, rfl, rb⟩ := pair_of r2
  have R := IndCmp.rc_lt (A := X.A) (s := s) (e := fun j => if j = 0 then kindB p == kindB q else decide (p = q)) (r := fun j => if j = 0 then decide (b2i (kindB p) < b2i (kindB q)) else vLt p q) p1 p2 hu
    (fun j h1 h2 => match j, h1, h2 with
      | 0, _, _ => SeqAt.EqAt.bool_bool _ _
      | 1, _, _ => eqAt_val hp hq ra rb)
    (fun j h1 h2 bef ne => match j, h1, h2, bef, ne with
      | 0, _, _, _, _ => fun _ _ _ _ h => PyProof.Rows.lt_bool h
      | 1, _, _, bef, _ => rc_lt_val hp hq ra rb (by have := bef 0 (by decide); simpa using this))
  rw [show ([Value.bool (kindB p), va].toArray.size) = 2 from rfl, show ([Value.bool (kindB q), vb].toArray.size) = 2 from rfl, pair_lex hp hq (vLt p q) (fun _ => rfl)] at R
  have z : wpAny (model X.prog X.w) X.A (compareOp .Lt (.ref a) (.ref b)) (EP X pins σ Q) X.xe s := R X.prog X.w X.xe (EP X pins σ Q) ⟨.bl _, H, I, rfl, fin⟩
  exact z
theorem op_gt_key (hu : X.A.units < cLine) : OpR X (compareOp .Gt) (rKeyG X.K) := by
  intro pins s σ H x y v u Q I rx ry h
  obtain ⟨a, b, p, q, rfl, rfl, hp, hq, ha, hb, fin⟩ := h
  cases rx
  cases ry
  obtain ⟨its, r1, p1, _⟩ := I.tuple (SqT.of ha)
  obtain ⟨its2, r2, p2, _⟩ := I.tuple (SqT.of hb)
  obtain ⟨va, rfl, ra⟩ := pair_of r1
  obtain ⟨vb, rfl, rb⟩ := pair_of r2
  have R := IndCmp.rc_gt (A := X.A) (s := s) (e := fun j => if j = 0 then kindB p == kindB q else decide (p = q)) (r := fun j => if j = 0 then decide (b2i (kindB p) > b2i (kindB q)) else vLt q p) p1 p2 hu
    (fun j h1 h2 => match j, h1, h2 with
      | 0, _, _ => SeqAt.EqAt.bool_bool _ _
      | 1, _, _ => eqAt_val hp hq ra rb)
    (fun j h1 h2 bef ne => match j, h1, h2, bef, ne with
      | 0, _, _, _, _ => fun _ _ _ _ h => PyProof.Rows.gt_bool h
      | 1, _, _, bef, _ => rc_gt_val hp hq ra rb (by have := bef 0 (by decide); simpa using this))
  rw [show ([Value.bool (kindB p), va].toArray.size) = 2 from rfl, show ([Value.bool (kindB q), vb].toArray.size) = 2 from rfl, pair_lex2 hp hq (vLt q p) (fun _ => rfl)] at R
  have z : wpAny (model X.prog X.w) X.A (compareOp .Gt (.ref a) (.ref b)) (EP X pins σ Q) X.xe s := R X.prog X.w X.xe (EP X pins σ Q) ⟨.bl _, H, I, rfl, fin⟩
  exact z
end
end Ind

set_option Elab.async false
set_option linter.all false
set_option maxRecDepth 100000
set_option maxHeartbeats 4000000
namespace Ind
open PySem PySem.Spec PyProof.Rows L2
theorem k_int_int : kitB "int" "int" = some true := by decide +kernel
theorem k_int_str : kitB "int" "str" = some false := by decide +kernel
theorem k_str_str : kitB "str" "str" = some true := by decide +kernel
theorem k_str_int : kitB "str" "int" = some false := by decide +kernel
theorem k_int_bool : kitB "int" "bool" = some false := by decide +kernel
theorem k_bool_int : kitB "bool" "int" = some true := by decide +kernel
theorem k_bool_bool : kitB "bool" "bool" = some true := by decide +kernel
theorem k_tup_tup : kitB "tuple" "tuple" = some true := by decide +kernel
/-! ### the order of texts, sign by sign -/
theorem lt_at : ∀ (a b : List Nat) (i : Nat) (c d : Nat), a.take i = b.take i → a[i]? = some c → b[i]? = some d → c ≠ d → (a < b ↔ c < d)
  | [], _, i, c, d, _, h, _, _ => by simp at h
  | _ :: _, [], i, c, d, _, _, h, _ => by simp at h
  | x :: a, y :: b, 0, c, d, _, h, k, ne => by
    have e1 : x = c := by simpa using h
    have e2 : y = d := by simpa using k
    subst e1 e2
    rw [List.cons_lt_cons_iff]
    constructor
    · rintro (q | ⟨q, _⟩)
      · exact q
      · exact absurd q ne
    · exact fun q => .inl q
  | x :: a, y :: b, i + 1, c, d, t, h, k, ne => by
    have t' : x = y ∧ a.take i = b.take i := by simpa using t
    have ih := lt_at a b i c d t'.2 (by simpa using h) (by simpa using k) ne
    rw [List.cons_lt_cons_iff, ← ih]
    constructor
    · rintro (q | ⟨_, q⟩)
      · exact absurd (t'.1 ▸ q) (Nat.lt_irrefl _)
      · exact q
    · exact fun q => .inr ⟨t'.1, q⟩
theorem lt_end : ∀ (a b : List Nat), a.take (min a.length b.length) = b.take (min a.length b.length) → (a < b ↔ a.length < b.length)
  | [], [], _ => by simp
  | [], y :: b, _ => by simp
  | x :: a, [], _ => by simp
  | x :: a, y :: b, t => by
    have t' : x = y ∧ a.take (min a.length b.length) = b.take (min a.length b.length) := by
      have e : min (x :: a).length (y :: b).length = min a.length b.length + 1 := by simp
      rw [e] at t
      simpa using t
    have ih := lt_end a b t'.2
    rw [List.cons_lt_cons_iff, List.length_cons, List.length_cons]
    constructor
    · rintro (q | ⟨_, q⟩)
      · exact absurd (t'.1 ▸ q) (Nat.lt_irrefl _)
      · exact Nat.succ_lt_succ (ih.mp q)
    · exact fun q => .inr ⟨t'.1, ih.mpr (Nat.lt_of_succ_lt_succ q)⟩
theorem take_next {a b : List Nat} {i c : Nat} (t : a.take i = b.take i) (h : a[i]? = some c) (k : b[i]? = some c) : a.take (i + 1) = b.take (i + 1) := by
  rw [List.take_add_one, List.take_add_one, t, h, k]
theorem vLt_tri {u v : V} (hu : ValOk u) (hv : ValOk v) : (if vLt u v then (-1 : Int) else if vLt v u then 1 else 0) = -(if vLt v u then (-1 : Int) else if vLt u v then 1 else 0) := by
  by_cases a : vLt u v = true <;> by_cases b : vLt v u = true
  · exfalso
    rcases hu.cases with ⟨i, rfl⟩ | ⟨x, rfl, _⟩ <;> rcases hv.cases with ⟨j, rfl⟩ | ⟨y, rfl, _⟩
    · simp [vLt] at a b; omega
    · simp [vLt] at a b
    · simp [vLt] at a b
    · simp [vLt] at a b
      exact absurd (List.lt_trans a b) (List.lt_irrefl _)
  all_goals simp [a, b]
theorem vLt_not_both {u v : V} (hu : ValOk u) (hv : ValOk v) (a : vLt u v = true) (b : vLt v u = true) : False := by
  rcases hu.cases with ⟨i, rfl⟩ | ⟨x, rfl, _⟩ <;> rcases hv.cases with ⟨j, rfl⟩ | ⟨y, rfl, _⟩
  · simp [vLt] at a b; omega
  · simp [vLt] at a b
  · simp [vLt] at a b
  · simp [vLt] at a b
    exact absurd (List.lt_trans a b) (List.lt_irrefl _)
theorem one_txt {c d : Nat} : decide (V.str ⟨#[c]⟩ = V.str ⟨#[d]⟩) = decide (c = d) := by
  by_cases e : c = d
  · subst e; simp
  · rw [decide_eq_false e, decide_eq_false]
    intro z
    injection z with z
    injection z with z
    exact e (by simpa using z)
theorem qb {Q : VK} {b : Bool} {H : Hp} (e : b = true) (q : ∀ H', Q (.bl true) H') : Q (.bl b) H := by rw [e]; exact q H
end Ind

set_option Elab.async false
set_option linter.all false
set_option maxRecDepth 100000
set_option maxHeartbeats 4000000
namespace Ind
open PySem PySem.Spec PyProof.Rows L2
/-! ### data of tuples and plain values: what stands stays -/
mutual
def tuplesOnly : PyData → Bool
  | .none => true
  | .bool _ => true
  | .int _ => true
  | .str _ => true
  | .tuple xs => tuplesOnlyAll xs
  | _ => false
def tuplesOnlyAll : List PyData → Bool
  | [] => true
  | x :: xs => tuplesOnly x && tuplesOnlyAll xs
end
/-- tuples stay where they stand -/
structure Kp (H H' : Hp) : Prop where
  tup : ∀ b xs, H b = some (.tup xs) → H' b = some (.tup xs)
  frz : ∀ b o xs, H b = some (.frz o (.tup xs)) → H' b = some (.frz o (.tup xs))
theorem Kp.refl (H : Hp) : Kp H H := ⟨fun _ _ h => h, fun _ _ _ h => h⟩
theorem Kp.trans {H H1 H2 : Hp} (a : Kp H H1) (b : Kp H1 H2) : Kp H H2 := ⟨fun c x h => b.tup c x (a.tup c x h), fun c o x h => b.frz c o x (a.frz c o x h)⟩
theorem Same.kp {H H' : Hp} (s : Same H H') : Kp H H' := ⟨fun c x h => s _ _ h, fun c o x h => s _ _ h⟩
theorem Fz.kp {t : Tp} {H H' : Hp} (s : Fz t.a H H') (T : TapeAt H t) : Kp H H' := by
  obtain ⟨ns, p, n, z, h1, _⟩ := T
  refine ⟨fun c x h => s _ _ ?_ h, fun c o x h => s _ _ ?_ h⟩ <;> (intro e; rw [e, h1] at h; cases h)
theorem Kp.upd {H : Hp} {l : Addr} {xs : List V} {o : HO} (h : H l = some (.lst xs)) : Kp H (upd H l o) := by
  refine ⟨fun c x e => ?_, fun c u x e => ?_⟩ <;> (rw [upd_ne (ne_of e h (by intro z; cases z))]; exact e)
theorem Kp.new {H : Hp} {l : Addr} {o : HO} (h : H l = none) : Kp H (L2.upd H l o) := Same.kp (same_upd h)
theorem Kp.sqT {K : PySem.W.Frag} {H H' : Hp} {a : Addr} {xs : List V} (k : Kp H H') (h : SqT K H a xs) : SqT K H' a xs := by
  rcases h with (h | ⟨o, h⟩) | h
  · exact .inl (.inl (k.tup _ _ h))
  · exact .inl (.inr ⟨o, k.frz _ _ _ h⟩)
  · exact .inr h
mutual
theorem Dp.kp {K : PySem.W.Frag} {H H' : Hp} (k : Kp H H') : ∀ (d : PyData) (v : V), tuplesOnly d = true → Dp K H v d → Dp K H' v d
  | .none, _, _, h => by cases h; exact .non
  | .bool _, _, _, h => by cases h; exact .bl _
  | .int _, _, _, h => by cases h; exact .int _
  | .str _, _, _, h => by cases h; exact .str _
  | .list _, _, t, _ => by simp [tuplesOnly] at t
  | .dict _, _, t, _ => by simp [tuplesOnly] at t
  | .tuple ds, _, t, h => by
    cases h with
    | tup hs ha => exact .tup (k.sqT hs) (DpAll.kp k ds _ (by simpa [tuplesOnly] using t) ha)
theorem DpAll.kp {K : PySem.W.Frag} {H H' : Hp} (k : Kp H H') : ∀ (ds : List PyData) (vs : List V), tuplesOnlyAll ds = true → DpAll K H vs ds → DpAll K H' vs ds
  | [], _, _, h => by cases h; exact .nil
  | d :: ds, _, t, h => by
    cases h with
    | cons h1 h2 =>
      have t' : tuplesOnly d = true ∧ tuplesOnlyAll ds = true := by simpa [tuplesOnlyAll] using t
      exact .cons (Dp.kp k d _ t'.1 h1) (DpAll.kp k ds _ t'.2 h2)
end
end Ind
namespace L2
open PySem PySem.Spec PyProof.Rows
theorem DpAll.len {K : PySem.W.Frag} {H : Hp} : ∀ {ds : List PyData} {vs : List V}, DpAll K H vs ds → vs.length = ds.length
  | [], _, h => by cases h; rfl
  | d :: ds, _, h => by
    cases h with
    | cons _ h2 => rw [List.length_cons, List.length_cons, DpAll.len h2]
theorem DpAll.get {K : PySem.W.Frag} {H : Hp} : ∀ {ds : List PyData} {vs : List V} {i : Nat} {d : PyData}, DpAll K H vs ds → ds[i]? = some d → ∃ v, vs[i]? = some v ∧ Dp K H v d
  | [], _, _, _, _, e => by simp at e
  | d :: ds, _, 0, _, h, e => by
    cases h with
    | cons h1 _ =>
      simp only [List.getElem?_cons_zero, Option.some.injEq] at e
      subst e
      exact ⟨_, rfl, h1⟩
  | d :: ds, _, i + 1, _, h, e => by
    cases h with
    | cons _ h2 =>
      obtain ⟨v, q, r⟩ := DpAll.get h2 (show ds[i]? = some _ by simpa using e)
      exact ⟨v, by simpa using q, r⟩
theorem DpAll.app {K : PySem.W.Frag} {H : Hp} : ∀ {ds es : List PyData} {vs ws : List V}, DpAll K H vs ds → DpAll K H ws es → DpAll K H (vs ++ ws) (ds ++ es)
  | [], _, _, _, h, g => by cases h; exact g
  | d :: ds, _, _, _, h, g => by
    cases h with
    | cons h1 h2 => exact .cons h1 (DpAll.app h2 g)
theorem Dp.tup_inv {K : PySem.W.Frag} {H : Hp} {v : V} {ds : List PyData} (h : Dp K H v (.tuple ds)) : ∃ a xs, v = .ref a ∧ SqT K H a xs ∧ DpAll K H xs ds := by
  cases h with
  | tup hs ha => exact ⟨_, _, rfl, hs, ha⟩
theorem Dp.str_inv {K : PySem.W.Frag} {H : Hp} {v : V} {x : PySem.Str} (h : Dp K H v (.str x)) : v = .str x := by cases h; rfl
theorem Dp.int_inv {K : PySem.W.Frag} {H : Hp} {v : V} {x : Int} (h : Dp K H v (.int x)) : v = .int x := by cases h; rfl
end L2
namespace Ind
open PySem PySem.Spec PyProof.Rows L2
/-! ### repr of data, where no repr is under way -/
def rReprD (K : PySem.W.Frag) : List V → Hp → VK → Prop := fun xs H Q => ∃ x d, xs = [x] ∧ Dp K H x d ∧ d.showable = true ∧ d.hasDict = false ∧ d.depth ≤ 60 ∧ d.shown.length ≤ sizeLine ∧ Q (.str d.shown) H
section
variable {X : Cx}
theorem call_reprD (hg : X.A.guards = some []) (hu : X.A.units + 64 < cLine) : CallR X (.builtin "repr") (rReprD X.K) := by
  intro pins s σ H xs us Q I r h
  obtain ⟨x, d, rfl, hd, hs, nd, dep, len, q⟩ := h
  obtain ⟨u, rfl, ru⟩ := vals1 r
  cases x with
  | ref a =>
    obtain ⟨as, rd⟩ := Dp.reads I d _ u hd ru
    cases (show u = Value.ref a from ru)
    refine repr_of_reads' rd hs (fun e => by rw [nd] at e; cases e) hg (by omega) (fun _ _ e => e) (fun h' u' tk keep => ?_) len
    exact ⟨.str d.shown, H, I.kept keep, ⟨_, rfl⟩, q⟩
  | int i =>
    cases hd
    obtain ⟨t, rfl⟩ := (show ∃ t, u = Value.int i t from ru)
    exact PySem.P.repr_of_int (by simpa [PyData.showable] using hs) ⟨.str (toString i), H, I.tok _, ⟨_, rfl⟩, q⟩
  | str z =>
    cases hd
    obtain ⟨t, rfl⟩ := (show ∃ t, u = Value.str z t from ru)
    exact PySem.P.repr_of_str ⟨.str (reprText z), H, I.tok _, ⟨_, rfl⟩, q⟩ len
  | bl b =>
    cases hd
    cases (show u = Value.bool b from ru)
    exact PySem.P.repr_of_bool ⟨.str (if b then "True" else "False"), H, I.tok _, ⟨_, rfl⟩, q⟩
  | non =>
    cases hd
    cases (show u = Value.none from ru)
    exact PySem.P.repr_of_none ⟨.str "None", H, I.tok _, ⟨_, rfl⟩, q⟩
  | _ => cases hd
/-- tuple(xs): the new object is known to have no dict -/
theorem call_tupleZ : CallR X (.type "tuple") (fun xs H Q => ∃ p ys, xs = [.ref p] ∧ SqL X.K H p ys ∧ ∀ l o, H l = none → o.dict = none → Q (.ref l) (upd H l (.frz o (.tup ys)))) := by
  intro pins s σ H xs us Q I r h
  obtain ⟨p, ys, rfl, hq, q⟩ := h
  obtain ⟨u, rfl, rx⟩ := vals1 r
  cases rx
  obtain ⟨its, rv, pl, small⟩ := I.list hq
  have same := rv.length
  apply call_tuple_list pl.isList
  · intro h' kp
    have I1 : Inv X pins σ H { s with heap := h' } := I.kept (t' := s.toks) kp
    let o : Obj := { cls := .type "tuple", data := .seq its.toArray }
    have at_ : (h'.push o).get? h'.objs.size = some o := Heap.get?_push_size _ rfl
    have I2 : Inv X pins σ (upd H h'.objs.size (.frz o (.tup ys))) { s with heap := h'.push o } := by
      apply I1.laid (t' := s.toks) (fun b ob e => Heap.get?_push_of_some _ e) (Nat.le_refl _)
      exact ⟨at_, small, its, rv, IsTup.new _ _⟩
    exact ⟨.ref h'.objs.size, _, I2, rfl, q _ o (I1.hok.fresh (Nat.le_refl _)) rfl⟩
/-- dict(t), t such a tuple of pairs -/
def rDictT (K : PySem.W.Frag) : List V → Hp → VK → Prop := fun xs H Q => ∃ (a : Addr) (o : Obj) (ps : List Addr) (kvs : List (Key × V)), xs = [.ref a] ∧ H a = some (.frz o (.tup (ps.map V.ref))) ∧ o.dict = none ∧
  Paired (fun p kv => SqT K H p [kV kv.1, kv.2]) ps kvs ∧ ∀ p, H p = none → Q (.ref p) (upd H p (.dK (mergeK [] kvs)))
theorem call_dictT (calm : X.calm = true) : CallR X (.type "dict") (rDictT X.K) := by
  intro pins s σ H xs us Q I r h
  obtain ⟨a, o, ps, kvs, rfl, ha, nod, hp, q⟩ := h
  obtain ⟨u, rfl, ru⟩ := vals1 r
  cases (show u = Value.ref a from ru)
  obtain ⟨ho, small, its, rv, o', ho', hc, n, hdat⟩ := I.hok a _ ha
  rw [ho] at ho'
  cases ho'
  have ei := refs_at rv
  subst ei
  obtain ⟨prs, rel, hl, hpr⟩ := pairs_of I hp
  rw [List.length_map] at small
  -- the pairs as values
  have vals : ∃ vps : List (Value × Value), vps.length = ps.length ∧ PairItems s.heap (ps.map Value.ref).toArray (fun j => ps.getD j 0) vps ∧ ∀ (j : Nat) (k v : Value), vps[j]? = some (k, v) → ∃ kk, prs[j]? = some (kk, v) ∧ keyIs kk k = true := by
    have aux : ∀ j, j < ps.length → ∃ kv : Value × Value, (∃ kk, prs[j]? = some (kk, kv.2) ∧ keyIs kk kv.1 = true) ∧ IsTup s.heap (ps.getD j 0) #[kv.1, kv.2] := by
      intro j hj
      obtain ⟨qv, eq⟩ : ∃ qv, prs[j]? = some qv := ⟨prs[j], List.getElem?_eq_getElem (by omega)⟩
      obtain ⟨b, u, e1, e2, e3⟩ := hpr j qv eq
      have eb : ps.getD j 0 = b := by rw [List.getD_eq_getElem?_getD, e1]; rfl
      exact ⟨(u, qv.2), ⟨qv.1, eq, e3⟩, by rw [eb]; exact e2⟩
    refine ⟨(List.range ps.length).map (fun j => if hj : j < ps.length then Classical.choose (aux j hj) else (.none, .none)), by simp, ⟨by simp, ?_⟩, ?_⟩
    · intro j k v e
      rw [List.getElem?_map] at e
      cases er : (List.range ps.length)[j]? with
      | none => rw [er] at e; cases e
      | some i =>
        obtain ⟨hi, ei⟩ := List.getElem?_eq_some_iff.mp er
        rw [List.getElem_range] at ei
        subst ei
        have hj : j < ps.length := by simpa using hi
        rw [er] at e
        simp only [Option.map_some, hj, dif_pos, Option.some.injEq] at e
        have sp := Classical.choose_spec (aux j hj)
        rw [e] at sp
        refine ⟨?_, .inl sp.2⟩
        simp [hj, List.getD_eq_getElem?_getD]
    · intro j k v e
      rw [List.getElem?_map] at e
      cases er : (List.range ps.length)[j]? with
      | none => rw [er] at e; cases e
      | some i =>
        obtain ⟨hi, ei⟩ := List.getElem?_eq_some_iff.mp er
        rw [List.getElem_range] at ei
        subst ei
        have hj : j < ps.length := by simpa using hi
        rw [er] at e
        simp only [Option.map_some, hj, dif_pos, Option.some.injEq] at e
        have sp := Classical.choose_spec (aux j hj)
        rw [e] at sp
        exact sp.1
  obtain ⟨vps, vl, vi, vk⟩ := vals
  refine PySem.call_dict_pairs (knd := mixKind X.prog X.w) (kvs := prs) (PairArg.tuple a _ _ vps) (I.ok.hd calm) ⟨⟨o, n, ho, hc, nod, hdat⟩, vi⟩ ⟨by rw [hl, vl], fun i key v e => ?_⟩ (by rw [vl]; exact small) fun h' tk hd' keep => ?_
  · obtain ⟨kk, e1, e2⟩ := vk i key v e
    exact ⟨kk, e1, e2⟩
  · have hm : (s.heap.objs.size == sysModules) = false := beq_eq_false_iff_ne.mpr (Nat.ne_of_gt I.big)
    have hlen : (mergeK [] kvs).length ≤ sizeLine := by
      have l1 := length_mergeK kvs []
      have l2 := rel.length
      rw [List.length_nil, Nat.zero_add] at l1
      omega
    have keep' : ∀ b ob, s.heap.get? b = some ob → h'.get? b = some ob := fun b ob e => keep b ob (by simp) e
    refine ⟨.ref s.heap.objs.size, upd H s.heap.objs.size (.dK (mergeK [] kvs)), ?_, rfl, q _ (I.hok.fresh (Nat.le_refl _))⟩
    exact I.laid (t' := tk) keep' (Nat.le_refl _) (show ObjOk X.prog X.w _ _ _ (.dK (mergeK [] kvs)) from ⟨hlen, hm, merged [] prs, KV.merge rel .nil, hd'⟩)
/-- t.index(x) of texts -/
def rTIndex (K : PySem.W.Frag) : V → List V → Hp → VK → Prop := fun x xs H Q => ∃ (a : Addr) (ys : List PySem.Str) (y : PySem.Str), x = .ref a ∧ xs = [.str y] ∧ SqT K H a (ys.map V.str) ∧ y ∈ ys ∧ Q (.int (ys.idxOf y : Nat)) H
theorem mt_tindex : MtR X "tuple.index" (rTIndex X.K) := by
  intro pins s σ H x xs v us Q I rx rxs h
  obtain ⟨a, ys, y, rfl, rfl, hs, hy, q⟩ := h
  cases rx
  obtain ⟨u, rfl, ru⟩ := vals1 rxs
  obtain ⟨t, rfl⟩ := (show ∃ t, u = Value.str y t from ru)
  obtain ⟨its, rv, pl, _⟩ := I.tuple hs
  have sa := Vals.strs rv
  exact SeqAt.call_tuple_index pl (SeqAt.ItemsEq.strs sa) hy ⟨.int _, H, I.tok _, ⟨_, rfl⟩, q⟩
end
end Ind

set_option Elab.async false
set_option linter.all false
set_option maxRecDepth 100000
set_option maxHeartbeats 4000000
namespace IndEnd
open PySem PySem.Spec PyProof.Rows L2
/-- a def called where the caller stands: its body's reading is asked at this Around alone -/
theorem fun_at {P : Program} {w : World} {K : PySem.W.Frag} {mg : Str → Option Value} {base : Heap} {x qual : Str} {st : Stmt} {f : Addr} {fd : FuncData} {N ps : List Str} {k : Nat} {A : Around} {outer : List Env} {s : Shared} {H : Hp} {us : List Value} {vs : List V} {Q : VK}
    (F : Fun K x qual st f fd) (S : FnScope N ps (defScope st)) (room : Room (k + 1) A) (e0 : Env0 P w K mg base A outer s H) (bt : BindsTo s fd ⟨us, []⟩ (ps.zip us)) (rv : Vals vs us) (len : vs.length = ps.length)
    (body : ∀ cdv : Value, Room k (A.deeper (envOfC qual (defScope st) s.heap.objs.size f cdv)) →
      ∃ t, PSs (cxOf CX0 P w K mg base N qual (defScope st) f cdv A outer s H E0).nox (defBody st) t ∧ t { nx := fun _ H' => Q .non H', rt := Q } (start N vs) H) :
    codeAny (model P w) A (.call (.ref f) ⟨us, []⟩) (CR CX0 outer P w H s Q E0) s := by
  obtain ⟨oc, od, kV, doc, pm, an, cdv, ct, osl, rfl, lk, cin⟩ := F.ex
  have keep : ∀ b o, base.get? b = some o → s.heap.get? b = some o := fun b o e => (e0.bs b o e).1
  have KX : K.In s.heap := e0.mod.kin.keeps keep
  have kinds : ∀ y ∈ ps.zip us, (defScope st).names.lookup y.1 = some .local ∨ ((defScope st).names.lookup y.1 = some .cell ∧ ((cellsFrom (s.heap.objs.size + 1) (defScope st).names []).lookup y.1).isSome = true) := by
    rintro ⟨n, v⟩ hy
    have hn : n ∈ ps := (List.of_mem_zip hy).1
    cases S.par n hn with
    | inl q => exact .inl q
    | inr q => exact .inr ⟨q, PySem.W.cellsFrom_some _ _ _ (.inl q)⟩
  apply codeAny_call_function room.depth (KX _ _ lk) rfl S.co S.gen rfl (PySem.W.codeRec_of KX cin)
  apply bt
  apply wpAny_newFunctionEnv_cells S.kind kinds
  intro env he s1 ic
  subst he
  have lim := (e0.mod.nolimit.keeps keep).keeps ic.toInCall.keep
  refine ⟨lim, codeAny_func ?_⟩
  obtain ⟨t, ht, hq⟩ := body cdv (room.deeper _)
  have I := inv_start (CX := CX0) (E := E0) S room.hd e0 len rv ic
  refine wpAny_mono (ht.nox.run [] s1 _ H _ I hq) ?_ (fun _ _ z => z)
  intro fl s' hs
  cases fl with
  | ret u => obtain ⟨v, σ', H', J, r, q⟩ := hs; exact ⟨v, H', J.os, J.bare, J.base, J.hok, r, q⟩
  | next => obtain ⟨σ', H', J, q⟩ := hs; exact ⟨V.non, H', J.os, J.bare, J.base, J.hok, rfl, q⟩
  | brk => obtain ⟨_, _, _, q⟩ := hs; exact q.elim
  | cont => obtain ⟨_, _, _, q⟩ := hs; exact q.elim

/-- what is tracked ahead of the law: the script, frozen, or nothing (it is an object of the written part) -/
def start0 (K : PySem.W.Frag) (a : Addr) (o : Obj) (ns : List Int) : Hp := fun b =>
  if b = a ∧ K.lookup a = none then some (.frz o (.lst (ns.map V.int))) else none
theorem start0_some {K : PySem.W.Frag} {a b : Addr} {o : Obj} {ns : List Int} {u : HO} (h : start0 K a o ns b = some u) : b = a ∧ K.lookup a = none ∧ u = .frz o (.lst (ns.map V.int)) := by
  unfold start0 at h
  split at h
  · rename_i c; cases h; exact ⟨c.1, c.2, rfl⟩
  · cases h
theorem law_go {P : Program} {w : World} {K : PySem.W.Frag} {mg mb : Str → Option Value} {fa a : Addr} {s₁ : Shared} {vs : List Value} {ns : List Int}
    (KX : K.In s₁.heap) (hns : s₁.heap.Ns mainGlobals mg) (hb : s₁.heap.Ns builtinsNs mb) (hbb : ∀ x : Str, x ≠ "__name__" → mb x = bootBuiltins x) (hlim : s₁.heap.NoLimit) (hg : s₁.gens = #[])
    (ha : s₁.heap.get? a = some { cls := .type "list", data := .seq vs.toArray }) (hi : IntsAre vs ns) (hl : ns.length ≤ sizeLine)
    (F : ∀ base : Heap, K.In base → base.Ns mainGlobals mg → ∀ H : Hp, Env0 P w K mg base callerA [] s₁ H → SqL K H a (ns.map V.int) →
      codeAny (model P w) callerA (.call (.ref fa) ⟨[.ref a], []⟩) (CR CX0 [] P w H s₁ (fun v _ => v = .bl true) E0) s₁) :
    codeAny (model P w) callerA (.call (.ref fa) ⟨[.ref a], []⟩) (fun r s' => r = .ok (.ret (.bool true)) ∧ OldK s₁.heap s'.heap ∧ s'.os = s₁.os ∧ AllBare s'.gens) s₁ := by
  have rv := vals_ints hi
  have hlen := hi.length
  let o : Obj := { cls := .type "list", data := .seq vs.toArray }
  let H := start0 K a o ns
  have SQ : SqL K H a (ns.map V.int) := by
    cases hk : K.lookup a with
    | none => exact .inl (.inr ⟨o, by show start0 K a o ns a = _; unfold start0; rw [if_pos ⟨rfl, hk⟩]⟩)
    | some o' =>
      have e := KX a o' hk
      rw [ha] at e
      cases e
      refine .inr ⟨_, vs.toArray, _, hk, rfl, rfl, rfl, ?_, ?_⟩
      · rw [List.size_toArray, hlen]; exact hl
      · simpa using rv
  have OK : HOk P w H s₁.heap := fun b u e => by
    obtain ⟨rfl, _, rfl⟩ := start0_some e
    exact ⟨ha, by rw [List.length_map]; exact hl, vs, _, rv, ha⟩
  have under : ∀ {b : Addr} {ob : Obj}, s₁.heap.get? b = some ob → H b = none → (hidT s₁.heap H).get? b = some ob := fun e n => hidT_get e n
  have nsp : ∀ {b : Addr} {m : Str → Option Value}, s₁.heap.Ns b m → (hidT s₁.heap H).Ns b m := by
    rintro b m ⟨ob, es, ep, e, d, r⟩
    refine ⟨ob, es, ep, under e ?_, d, r⟩
    cases q : H b with
    | none => rfl
    | some u =>
      obtain ⟨rfl, _, _⟩ := start0_some q
      rw [ha] at e
      cases e
      cases d
  have KB : K.In (hidT s₁.heap H) := fun b ob e => under (KX b ob e) (by
    cases q : H b with
    | none => rfl
    | some u =>
      obtain ⟨rfl, n, _⟩ := start0_some q
      rw [n] at e
      cases e)
  have lim2 : (hidT s₁.heap H).NoLimit := by
    obtain ⟨mc, h1, h2⟩ := hlim
    exact ⟨mc, nsp h1, h2⟩
  have e0 : Env0 P w K mg (hidT s₁.heap H) callerA [] s₁ H := by
    refine ⟨rfl, ⟨KB, nsp hns, ⟨mb, nsp hb, hbb⟩, lim2⟩, fun b ob e => of_hidT e, Nat.le_of_eq (hidT_size _ _), trivial, fun b z => ?_, OK, .of_eq hg⟩
    exact absurd (show b ∈ ([] : List Addr) from z) (by simp)
  refine codeAny_mono (F _ KB (nsp hns) H e0 SQ) fun r s' h => ?_
  match r, h with
  | .error e, h => exact h.elim
  | .ok (.next), h => exact False.elim h
  | .ok (.brk), h => exact False.elim h
  | .ok (.cont), h => exact False.elim h
  | .ok (.ret u), h =>
    obtain ⟨v, H', os, bare, un, ok', rel, q⟩ := h
    have q1 : v = .bl true := q
    subst q1
    have q2 : u = Value.bool true := rel
    subst q2
    refine ⟨rfl, OldK.of_keep fun b ob e => ?_, os, bare⟩
    cases q : H b with
    | none => exact un.keep b ob e q (fun z => absurd (show b ∈ ([] : List Addr) from z) (by simp)) (by simp)
    | some u =>
      obtain ⟨rfl, _, rfl⟩ := start0_some q
      obtain ⟨z, _⟩ := ok' b _ (un.frzs b _ _ q)
      rw [ha] at e
      cases e
      exact z
/-- the goal that k_head leaves -/
theorem walk_at_caller {l : PySem.W.OpenLaw} {n : Nat} {q : Program} {loose : List Str} {XP : (Str → Option Value) → Heap → Prop} {YP : World → Heap → Prop} {d : DefRec} {K : Params → PySem.W.Frag}
    (hn : l.most = some n) (hn2 : n ≤ sizeLine) (hdf : d.params.defaults = []) (hY : ∀ (w : World) (h : Heap), YP w h → (K w.params).In h)
    (F : ∀ (w : World) (mg : Str → Option Value) (fa : Addr) (h : Heap), (K w.params).In h → h.Ns mainGlobals mg → mg d.name = some (.ref fa) →
      ∀ (base : Heap) (s : Shared) (H : Hp) (a : Addr) (ns : List Int), (K w.params).In base → base.Ns mainGlobals mg → Env0 l.prog w (K w.params) mg base callerA [] s H → ns.length ≤ n → SqL (K w.params) H a (ns.map V.int) →
        codeAny (model l.prog w) callerA (.call (.ref fa) ⟨[.ref a], []⟩) (CR CX0 [] l.prog w H s (fun v _ => v = .bl true) E0) s) :
    PySem.W.WalkO q loose XP YP l.row.toRowW d [] (fun f vs => PySem.call f vs) := by
  apply Att.attach_call hn hdf
  intro w s₀ s₁ mg mb fa o pm cd doc a vs ns G Y ho hd hcd hmg hobj hints hlen hg
  have KX := hY w _ Y
  exact law_go KX G.T.g G.T.b G.T.builtins G.T.nolimit hg hobj hints (Nat.le_trans hlen hn2) fun base hk hb H e0 hS => F w mg fa _ KX G.T.g hmg base s₁ H a ns hk hb e0 hlen hS
end IndEnd

set_option Elab.async false
set_option linter.all false
set_option maxRecDepth 100000
set_option maxHeartbeats 4000000
namespace Ind
open PySem PySem.Spec PyProof.Rows L2
abbrev S := PySem.Str
/-! ### the data of expressions -/
inductive Op where
  | col (n : S)
  | num (i : Int)
  | txt (x : S)
def Op.d : Op → PyData
  | .col n => .tuple [.str "column", .str n]
  | .num i => .tuple [.str "integer", .int i]
  | .txt x => .tuple [.str "string", .str x]
abbrev Kd := Option Int
def kdD : Kd → PyData
  | none => .tuple [.str "string"]
  | some b => .tuple [.str "integer", .int b]
abbrev Col := S × Kd
def colD (c : Col) : PyData := .tuple [.str c.1, kdD c.2]
structure Tm where
  plus : Bool
  op : Op
def sgS : Bool → S
  | true => "+"
  | false => "-"
def Tm.d (t : Tm) : PyData := .tuple [.str (sgS t.plus), t.op.d]
def exD (ts : List Tm) : PyData := .tuple (ts.map Tm.d)
theorem tO_op (o : Op) : tuplesOnly o.d = true := by cases o <;> rfl
theorem tO_kd (k : Kd) : tuplesOnly (kdD k) = true := by cases k <;> rfl
theorem tO_col (c : Col) : tuplesOnly (colD c) = true := by
  show (true && (tuplesOnly (kdD c.2) && true)) = true
  rw [tO_kd]; rfl
theorem tO_tm (t : Tm) : tuplesOnly t.d = true := by
  show (true && (tuplesOnly t.op.d && true)) = true
  rw [tO_op]; rfl
theorem tO_all {α : Type} (f : α → PyData) (h : ∀ a, tuplesOnly (f a) = true) : ∀ l : List α, tuplesOnlyAll (l.map f) = true
  | [] => rfl
  | a :: l => by
    show (tuplesOnly (f a) && tuplesOnlyAll (l.map f)) = true
    rw [h, tO_all f h l]; rfl
theorem tO_ex (ts : List Tm) : tuplesOnly (exD ts) = true := tO_all _ tO_tm ts
def KdOk : Kd → Prop
  | none => True
  | some b => 0 ≤ b ∧ b ≤ 1000000000000
structure ColsOk (cs : List Col) : Prop where
  nd : (cs.map (·.1)).Nodup
  kd : ∀ c ∈ cs, KdOk c.2
  len : cs.length ≤ 10
  nm : ∀ c ∈ cs, TxtOk c.1
/-- the columns as they stand -/
def ColsAt (K : PySem.W.Frag) (H : Hp) (v : V) (cs : List Col) : Prop := ∃ (a : Addr) (o : Obj) (ps : List Addr), v = .ref a ∧ H a = some (.frz o (.tup (ps.map V.ref))) ∧ o.dict = none ∧ DpAll K H (ps.map V.ref) (cs.map colD)
theorem ColsAt.kp {K : PySem.W.Frag} {H H' : Hp} {v : V} {cs : List Col} (k : Kp H H') (h : ColsAt K H v cs) : ColsAt K H' v cs := by
  obtain ⟨a, o, ps, e, h1, h2, h3⟩ := h
  exact ⟨a, o, ps, e, k.frz _ _ _ h1, h2, DpAll.kp k _ _ (tO_all _ tO_col cs) h3⟩
/-- the bound of an operand as the law reckons it -/
def opBound (cs : List Col) : Op → Int
  | .num i => if i < 0 then -i else i
  | .txt _ => 0
  | .col n => match cs.find? (fun c => decide (c.1 = n) && c.2.isSome) with
    | some (_, some b) => b
    | _ => 0
def OpInt (cs : List Col) : Op → Prop
  | .num i => -1000000 ≤ i ∧ i ≤ 1000000
  | .txt _ => False
  | .col n => ∃ b, (n, some b) ∈ cs
def OpTxt (cs : List Col) : Op → Prop
  | .num _ => False
  | .txt x => TxtOk x
  | .col n => (n, none) ∈ cs
def OpOk (cs : List Col) (word : Bool) (o : Op) : Prop := if word then OpTxt cs o else OpInt cs o
def wordS : Bool → S
  | true => "string"
  | false => "integer"
/-- an expression of the law's making -/
structure ExOk (cs : List Col) (word : Bool) (ts : List Tm) : Prop where
  ne : ts ≠ []
  first : ∀ t, ts.head? = some t → t.plus = true
  ops : ∀ t ∈ ts, OpOk cs word t.op
  one : word = true → ts.length = 1
  sum : (ts.map fun t => opBound cs t.op).sum ≤ 1000000000000
  len : ts.length ≤ 20
/-- the values of a row -/
def ValIn : Kd → V → Prop
  | none, .str x => TxtOk x
  | some b, .int i => -b ≤ i ∧ i ≤ b
  | _, _ => False
inductive RowIn : List Col → List V → Prop
  | nil : RowIn [] []
  | cons {c : Col} {v : V} {cs : List Col} {vs : List V} : ValIn c.2 v → RowIn cs vs → RowIn (c :: cs) (v :: vs)
theorem RowIn.len {cs : List Col} {vs : List V} (h : RowIn cs vs) : vs.length = cs.length := by induction h <;> simp_all
theorem RowIn.get : ∀ {cs : List Col} {vs : List V} {i : Nat} {c : Col}, RowIn cs vs → cs[i]? = some c → ∃ v, vs[i]? = some v ∧ ValIn c.2 v
  | _, _, _, _, .nil, e => by simp at e
  | _, _, 0, _, .cons h _, e => by
    simp only [List.getElem?_cons_zero, Option.some.injEq] at e
    subst e
    exact ⟨_, rfl, h⟩
  | _, _, i + 1, _, .cons _ t, e => by
    obtain ⟨v, q, r⟩ := RowIn.get t (show _ = some _ by simpa using e)
    exact ⟨v, by simpa using q, r⟩
theorem RowIn.snoc : ∀ {cs : List Col} {vs : List V} {c : Col} {v : V}, RowIn cs vs → ValIn c.2 v → RowIn (cs ++ [c]) (vs ++ [v])
  | _, _, _, _, .nil, h => .cons h .nil
  | _, _, _, _, .cons a t, h => .cons a (RowIn.snoc t h)
/-- an operand's value -/
def opVal (cs : List Col) (vs : List V) : Op → V
  | .num i => .int i
  | .txt x => .str x
  | .col n => vs.getD ((cs.map (·.1)).idxOf n) .non
def iOf : V → Int
  | .int i => i
  | _ => 0
def tmVal (cs : List Col) (vs : List V) (t : Tm) : Int := if t.plus then iOf (opVal cs vs t.op) else -iOf (opVal cs vs t.op)
/-- the value of an expression -/
def exVal (cs : List Col) (vs : List V) : List Tm → V
  | [t] => opVal cs vs t.op
  | ts => .int (ts.map (tmVal cs vs)).sum
def exKd (cs : List Col) (word : Bool) (ts : List Tm) : Kd := if word then none else some (ts.map fun t => opBound cs t.op).sum
/-! ### promises -/
def spName : Sp := fun vs H Q _ => ∃ (t : Tp), vs = [.ref t.a] ∧ TapeAt H t ∧ ∀ H' x, Fz t.a H H' → TapeAt H' t → TxtOk x → Q (.str x) H'
def spNames : Sp := fun vs H Q _ => ∃ (t : Tp) (m : Int), vs = [.ref t.a, .int m] ∧ TapeAt H t ∧ (0 ≤ m ∧ m ≤ 10) ∧ ∀ H' p (ns : List S), Fz t.a H H' → TapeAt H' t → H p = none → H' p = some (.lst (ns.map V.str)) → ns.Nodup → ns.length ≤ m.toNat → (∀ n ∈ ns, TxtOk n) → Q (.ref p) H'
def spNumber : Sp := fun vs H Q _ => ∃ (t : Tp), vs = [.ref t.a] ∧ TapeAt H t ∧ ∀ H' i, Fz t.a H H' → TapeAt H' t → (-1000000 ≤ i ∧ i ≤ 1000000) → Q (.int i) H'
def spKind (K : PySem.W.Frag) : Sp := fun vs H Q _ => ∃ (t : Tp), vs = [.ref t.a] ∧ TapeAt H t ∧ ∀ H' v k, Fz t.a H H' → TapeAt H' t → Dp K H' v (kdD k) → KdOk k → Q v H'
def spValue (K : PySem.W.Frag) : Sp := fun vs H Q _ => ∃ (t : Tp) (v : V) (k : Kd), vs = [.ref t.a, v] ∧ TapeAt H t ∧ Dp K H v (kdD k) ∧ KdOk k ∧ ∀ H' u, Fz t.a H H' → TapeAt H' t → ValIn k u → Q u H'
def spColumns (K : PySem.W.Frag) : Sp := fun vs H Q _ => ∃ (t : Tp) (m : Int), vs = [.ref t.a, .int m] ∧ TapeAt H t ∧ (0 ≤ m ∧ m ≤ 10) ∧ ∀ H' v cs, Fz t.a H H' → TapeAt H' t → ColsAt K H' v cs → ColsOk cs → Q v H'
def spBound (K : PySem.W.Frag) : Sp := fun vs H Q _ => ∃ (v c : V) (o : Op) (cs : List Col) (b : Bool), vs = [v, c] ∧ Dp K H v o.d ∧ ColsAt K H c cs ∧ ColsOk cs ∧ OpOk cs b o ∧ ∀ H', Same H H' → Q (.int (opBound cs o)) H'
def spOperand (K : PySem.W.Frag) : Sp := fun vs H Q _ => ∃ (t : Tp) (c : V) (cs : List Col) (b : Bool), vs = [.ref t.a, c, .str (wordS b)] ∧ TapeAt H t ∧ ColsAt K H c cs ∧ ColsOk cs ∧ ∀ H' v o, Fz t.a H H' → TapeAt H' t → Dp K H' v o.d → OpOk cs b o → Q v H'
def spExpression (K : PySem.W.Frag) : Sp := fun vs H Q _ => ∃ (t : Tp) (c : V) (cs : List Col) (b : Bool), vs = [.ref t.a, c, .str (wordS b), .int 11] ∧ TapeAt H t ∧ ColsAt K H c cs ∧ ColsOk cs ∧ ∀ H' v ts, Fz t.a H H' → TapeAt H' t → Dp K H' v (exD ts) → ExOk cs b ts → Q v H'
def spSum (K : PySem.W.Frag) : Sp := fun vs H Q _ => ∃ (v c : V) (ts : List Tm) (cs : List Col) (b : Bool), vs = [v, c] ∧ Dp K H v (exD ts) ∧ ts.length ≤ 20 ∧ ColsAt K H c cs ∧ ColsOk cs ∧ (∀ t ∈ ts, OpOk cs b t.op) ∧ ∀ H', Same H H' → Q (.int (ts.map fun t => opBound cs t.op).sum) H'
/-- names and a row as they stand -/
def NamesAt (K : PySem.W.Frag) (H : Hp) (v : V) (cs : List Col) : Prop := ∃ (a : Addr) (o : Obj), v = .ref a ∧ H a = some (.frz o (.tup (cs.map fun c => V.str c.1))) ∧ o.dict = none
def RowAt (K : PySem.W.Frag) (H : Hp) (v : V) (vs : List V) : Prop := ∃ a, v = .ref a ∧ SqT K H a vs
def spDue (K : PySem.W.Frag) : Sp := fun xs H Q _ => ∃ (e n r : V) (ts : List Tm) (cs : List Col) (vs : List V) (b : Bool), xs = [e, n, r] ∧ Dp K H e (exD ts) ∧ ExOk cs b ts ∧ ColsOk cs ∧ NamesAt K H n cs ∧ RowAt K H r vs ∧ RowIn cs vs ∧ ∀ H', Same H H' → Q (exVal cs vs ts) H'
/-- each column at most once, each constant with the sign of its term -/
structure Straight (cs : List Col) (ts : List Tm) : Prop where
  nd : (ts.filterMap fun t => match t.op with | .col n => some n | _ => none).Nodup
  signs : ∀ t ∈ ts, ∀ i, t.op = .num i → if t.plus then 0 ≤ i else i ≤ 0
def spStraight (K : PySem.W.Frag) : Sp := fun vs H Q _ => ∃ (t : Tp) (c : V) (cs : List Col), vs = [.ref t.a, c] ∧ TapeAt H t ∧ ColsAt K H c cs ∧ ColsOk cs ∧ ∀ H' v ts, Fz t.a H H' → TapeAt H' t → Dp K H' v (exD ts) → ExOk cs false ts → Straight cs ts → Q v H'
/-- the row that brings the expression to its bound -/
def farVal (ts : List Tm) (c : Col) (v : V) : V := ts.foldl (fun v t => match t.op, c.2 with | .col n, some b => if n = c.1 then (if t.plus then .int b else .int (-b)) else v | _, _ => v) v
def spFarthest (K : PySem.W.Frag) : Sp := fun xs H Q _ => ∃ (t : Tp) (c e : V) (cs : List Col) (ts : List Tm), xs = [.ref t.a, c, e] ∧ TapeAt H t ∧ ColsAt K H c cs ∧ ColsOk cs ∧ Dp K H e (exD ts) ∧ ExOk cs false ts ∧ ts.length ≤ 20 ∧
  ∀ H' r vs us, Fz t.a H H' → TapeAt H' t → RowAt K H' r vs → RowIn cs us → vs = (cs.zip us).map (fun p => farVal ts p.1 p.2) → Q r H'
end Ind

set_option Elab.async false
set_option linter.all false
set_option maxRecDepth 100000
set_option maxHeartbeats 4000000
namespace Ind
open PySem PySem.Spec PyProof.Rows L2
theorem pickT {ss : List S} {i : Int} (h0 : 0 ≤ i) (h1 : i < (ss.length : Int)) : ∃ x, atI (ss.map V.str) i = some (.str x) ∧ x ∈ ss := by
  have hlt : i.toNat < ss.length := by omega
  refine ⟨ss[i.toNat], at_of (show i = (i.toNat : Int) by omega) ?_, List.getElem_mem hlt⟩
  rw [List.getElem?_map, List.getElem?_eq_getElem hlt]
  rfl
abbrev nmSigns : S := "abcdefghijklmnopqrstuvwxyz0123456789_"
theorem nmSigns_len : nmSigns.length = 37 := by decide +kernel
theorem nm_all : ∀ c ∈ nmSigns.cps.toList, Sgn c := by decide +kernel
theorem nm_pick {i : Int} (h0 : 0 ≤ i) (h1 : i < 37) : ∃ c, atI nmSigns.cps.toList i = some c ∧ Sgn c := by
  obtain ⟨c, e, m⟩ := pickS (l := nmSigns.cps.toList) h0 (by rw [← codes_len, nmSigns_len]; omega)
  exact ⟨c, e, nm_all c m⟩
theorem flat_strs (ns : List S) : (ns.map V.str).all flatV = true := by
  rw [List.all_eq_true]
  intro v h
  obtain ⟨x, _, rfl⟩ := List.mem_map.mp h
  rfl
theorem inV_strs (x : S) (ns : List S) : inV (.str x) (ns.map V.str) = decide (x ∈ ns) := by
  unfold inV
  rw [List.any_map]
  by_cases h : x ∈ ns
  · rw [decide_eq_true h, List.any_eq_true]
    exact ⟨x, h, by simp [eqV]⟩
  · rw [decide_eq_false h, List.any_eq_false]
    intro y hy
    simp only [Function.comp, eqV]
    intro e
    exact h (by rw [← (beq_iff_eq.mp e : y = x)]; exact hy)
theorem txt_strOk {x : S} (h : TxtOk x) : PyData.strOk x = true := by
  unfold PyData.strOk
  rw [Array.all_eq_true']
  intro c hc
  have := (h.2 c (by simpa using hc)).2.1
  exact decide_eq_true (by omega)
end Ind

set_option Elab.async false
set_option linter.all false
set_option maxRecDepth 100000
set_option maxHeartbeats 4000000
namespace Ind
open PySem PySem.Spec PyProof.Rows L2
variable {K : PySem.W.Frag} {H : Hp}
theorem dp_one {v : V} {x : PyData} (h : Dp K H v (.tuple [x])) : ∃ a u, v = .ref a ∧ SqT K H a [u] ∧ Dp K H u x := by
  obtain ⟨a, xs, rfl, hs, hx⟩ := h.tup_inv
  cases hx with
  | cons h1 h2 => cases h2; exact ⟨a, _, rfl, hs, h1⟩
theorem dp_two {v : V} {x y : PyData} (h : Dp K H v (.tuple [x, y])) : ∃ a u1 u2, v = .ref a ∧ SqT K H a [u1, u2] ∧ Dp K H u1 x ∧ Dp K H u2 y := by
  obtain ⟨a, xs, rfl, hs, hx⟩ := h.tup_inv
  cases hx with
  | cons h1 h2 => cases h2 with
    | cons h2 h3 => cases h3; exact ⟨a, _, _, rfl, hs, h1, h2⟩
def wk : Kd → S
  | none => "string"
  | some _ => "integer"
theorem kd_at {v : V} {k : Kd} (h : Dp K H v (kdD k)) : ∃ a xs, v = .ref a ∧ SqT K H a (.str (wk k) :: xs) ∧ ∀ b, k = some b → xs = [.int b] := by
  cases k with
  | none =>
    obtain ⟨a, u, rfl, hs, h1⟩ := dp_one h
    cases h1.str_inv
    exact ⟨a, [], rfl, hs, fun b e => by cases e⟩
  | some b =>
    obtain ⟨a, u1, u2, rfl, hs, h1, h2⟩ := dp_two h
    cases h1.str_inv
    cases h2.int_inv
    exact ⟨a, _, rfl, hs, fun b e => by cases e; rfl⟩
def Op.word : Op → S
  | .col _ => "column"
  | .num _ => "integer"
  | .txt _ => "string"
def Op.cont : Op → V
  | .col n => .str n
  | .num i => .int i
  | .txt x => .str x
theorem op_at {v : V} {o : Op} (h : Dp K H v o.d) : ∃ a, v = .ref a ∧ SqT K H a [.str o.word, o.cont] := by
  cases o with
  | _ =>
    obtain ⟨a, u1, u2, rfl, hs, h1, h2⟩ := dp_two h
    cases h1.str_inv
    first | cases h2.str_inv | cases h2.int_inv
    exact ⟨a, rfl, hs⟩
theorem op_dp {a : Addr} {o : Op} (h : SqT K H a [.str o.word, o.cont]) : Dp K H (.ref a) o.d := by
  cases o with
  | col n => exact .tup h (.cons (.str _) (.cons (.str _) .nil))
  | num n => exact .tup h (.cons (.str _) (.cons (.int _) .nil))
  | txt n => exact .tup h (.cons (.str _) (.cons (.str _) .nil))
theorem tm_at {v : V} {t : Tm} (h : Dp K H v t.d) : ∃ a u, v = .ref a ∧ SqT K H a [.str (sgS t.plus), u] ∧ Dp K H u t.op.d := by
  obtain ⟨a, u1, u2, rfl, hs, h1, h2⟩ := dp_two h
  cases h1.str_inv
  exact ⟨a, u2, rfl, hs, h2⟩
theorem col_at {v : V} {c : Col} (h : Dp K H v (colD c)) : ∃ a u, v = .ref a ∧ SqT K H a [.str c.1, u] ∧ Dp K H u (kdD c.2) := by
  obtain ⟨a, u1, u2, rfl, hs, h1, h2⟩ := dp_two h
  cases h1.str_inv
  exact ⟨a, u2, rfl, hs, h2⟩
theorem map_get {α β : Type} {f : α → β} {l : List α} {i : Nat} {x : β} (h : (l.map f)[i]? = some x) : ∃ a, l[i]? = some a ∧ x = f a := by
  rw [List.getElem?_map] at h
  cases e : l[i]? with
  | none => rw [e] at h; cases h
  | some a => rw [e] at h; exact ⟨a, rfl, by cases h; rfl⟩
theorem take_more {α : Type} {l : List α} {i : Nat} {a : α} (h : l[i]? = some a) : l.take (i + 1) = l.take i ++ [a] := by
  rw [List.take_add_one, h]; rfl
theorem dps_get {vs : List V} {α : Type} {f : α → PyData} {l : List α} {i : Nat} {v : V} (h : DpAll K H vs (l.map f)) (e : vs[i]? = some v) : ∃ a, l[i]? = some a ∧ Dp K H v (f a) := by
  have hl : i < l.length := by
    have := h.len
    rw [List.length_map] at this
    rw [← this]
    exact (List.getElem?_eq_some_iff.mp e).1
  have el : (l.map f)[i]? = some (f l[i]) := by rw [List.getElem?_map, List.getElem?_eq_getElem hl]; rfl
  obtain ⟨v', e', d⟩ := h.get el
  rw [e] at e'
  cases e'
  exact ⟨l[i], List.getElem?_eq_getElem hl, d⟩
theorem ColsAt.tup {c : V} {cs : List Col} (h : ColsAt K H c cs) : ∃ (a : Addr) (ps : List Addr), c = .ref a ∧ SqT K H a (ps.map V.ref) ∧ DpAll K H (ps.map V.ref) (cs.map colD) := by
  obtain ⟨a, o, ps, e, h1, h2, h3⟩ := h
  exact ⟨a, ps, e, .inl (.inr ⟨o, h1⟩), h3⟩
theorem tO_cols (cs : List Col) : tuplesOnlyAll (cs.map colD) = true := tO_all _ tO_col cs
theorem tO_tms (ts : List Tm) : tuplesOnlyAll (ts.map Tm.d) = true := tO_all _ tO_tm ts
theorem opBound_find (cs : List Col) (n : S) (c : Col) (h : cs.find? (fun c => decide (c.1 = n) && c.2.isSome) = some c) (b : Int) (e : c.2 = some b) : opBound cs (.col n) = b := by
  obtain ⟨m, k⟩ := c
  cases e
  show (match cs.find? (fun c => decide (c.1 = n) && c.2.isSome) with | some (_, some b) => b | _ => 0) = b
  rw [h]
theorem word_int {o : Op} (h : o.word = "integer") : ∃ i, o = .num i := by
  cases o with
  | col n => exact absurd (show ("column" : S) = "integer" from h) (by decide)
  | num i => exact ⟨i, rfl⟩
  | txt x => exact absurd (show ("string" : S) = "integer" from h) (by decide)
theorem word_col {o : Op} (h : o.word = "column") : ∃ n, o = .col n := by
  cases o with
  | col n => exact ⟨n, rfl⟩
  | num i => exact absurd (show ("integer" : S) = "column" from h) (by decide)
  | txt x => exact absurd (show ("string" : S) = "column" from h) (by decide)
theorem word_txt {o : Op} (h : o.word = "string") : ∃ n, o = .txt n := by
  cases o with
  | col n => exact absurd (show ("column" : S) = "string" from h) (by decide)
  | num i => exact absurd (show ("integer" : S) = "string" from h) (by decide)
  | txt x => exact ⟨x, rfl⟩
theorem dstr {x y : S} (e : decide (V.str x = V.str y) = true) : x = y := by
  have e := of_decide_eq_true e
  injection e
theorem dstrN {x y : S} (e : decide (V.str x = V.str y) = false) : x ≠ y := by
  have e := of_decide_eq_false e
  exact fun z => e (by rw [z])
theorem wk_int {k : Kd} (h : wk k = "integer") : ∃ b, k = some b := by
  cases k with
  | none => exact absurd (show ("string" : S) = "integer" from h) (by decide)
  | some b => exact ⟨b, rfl⟩
theorem wk_txt {k : Kd} (h : wk k = "string") : k = none := by
  cases k with
  | none => rfl
  | some b => exact absurd (show ("integer" : S) = "string" from h) (by decide)
theorem wk_wordS {k : Kd} {b : Bool} (h : wk k = wordS b) : k.isSome = !b := by
  cases b with
  | false => obtain ⟨x, rfl⟩ := wk_int h; rfl
  | true => cases wk_txt h; rfl
theorem op_eqv (o : Op) (n : S) : o.d.eqv (Op.col n).d = true ↔ o = .col n := by
  cases o with
  | col m =>
    show ((("column" : S) == "column") && ((m == n) && true)) = true ↔ _
    simp
  | num m =>
    show ((("integer" : S) == "column") && (false && true)) = true ↔ _
    simp
  | txt m =>
    show ((("string" : S) == "column") && ((m == n) && true)) = true ↔ _
    rw [show (("string" : S) == "column") = false by decide]
    simp
theorem OpOk.str {cs : List Col} {b : Bool} {o : Op} (ok : ColsOk cs) (h : OpOk cs b o) : (∃ i, o = .num i) ∨ ∃ x, TxtOk x ∧ (o = .txt x ∨ o = .col x) := by
  cases o with
  | num i => exact .inl ⟨i, rfl⟩
  | txt x =>
    cases b with
    | true => exact .inr ⟨x, h, .inl rfl⟩
    | false => exact h.elim
  | col x =>
    refine .inr ⟨x, ?_, .inr rfl⟩
    cases b with
    | true => exact ok.nm _ (show (x, none) ∈ cs from h)
    | false =>
      obtain ⟨k, hk⟩ := (show ∃ k, (x, some k) ∈ cs from h)
      exact ok.nm _ hk
theorem shape_col {x : S} (h : TxtOk x) : SeqAt.shaped (Op.col x).d = true := by
  simp [Op.d, SeqAt.shaped]
  simp [PyData.canLay0, PyData.canLayAll0, PyData.depth, PyData.depthAll, txt_strOk h]
  decide +kernel
theorem op_shaped {cs : List Col} {b : Bool} {o : Op} (ok : ColsOk cs) (h : OpOk cs b o) : SeqAt.shaped o.d = true := by
  rcases h.str ok with ⟨i, rfl⟩ | ⟨x, hx, rfl | rfl⟩
  · simp [Op.d, SeqAt.shaped]
    simp [PyData.canLay0, PyData.canLayAll0, PyData.depth, PyData.depthAll]
    decide +kernel
  · simp [Op.d, SeqAt.shaped]
    simp [PyData.canLay0, PyData.canLayAll0, PyData.depth, PyData.depthAll, txt_strOk hx]
    decide +kernel
  · exact shape_col hx
theorem kd_shaped (o : Kd) : SeqAt.shaped (kdD o) = true := by
  cases o <;> simp [kdD, SeqAt.shaped] <;> simp [PyData.canLay0, PyData.canLayAll0, PyData.depth, PyData.depthAll] <;> decide +kernel
/-- the row of columns before the one that counts -/
theorem opBound_at {cs : List Col} {n : S} {k : Int} {i : Nat} (e : cs[i]? = some (n, some k)) (no : ∀ c ∈ cs.take i, ¬ (Op.col n = .col c.1 ∧ c.2.isSome = true)) : opBound cs (.col n) = k := by
  refine opBound_find cs n (n, some k) ?_ k rfl
  rw [List.find?_eq_some_iff_getElem]
  obtain ⟨hi, ei⟩ := List.getElem?_eq_some_iff.mp e
  refine ⟨by simp, i, hi, ei, fun j hj => ?_⟩
  have hm : cs[j]'(by omega) ∈ cs.take i := by
    rw [List.mem_take_iff_getElem]
    exact ⟨j, by omega, rfl⟩
  have := no _ hm
  cases hs : (cs[j]'(by omega)).2.isSome
  · simp [hs]
  · simp only [hs, Bool.and_true, Bool.not_eq_true', decide_eq_false_iff_not]
    intro ee
    exact this ⟨by rw [ee], hs⟩
theorem opBound_no {cs : List Col} {o : Op} (ni : ∀ i, o ≠ .num i) (no : ∀ c ∈ cs, ¬ (o = .col c.1 ∧ c.2.isSome = true)) : opBound cs o = 0 := by
  cases o with
  | num i => exact absurd rfl (ni i)
  | txt x => rfl
  | col n =>
    have : cs.find? (fun c => decide (c.1 = n) && c.2.isSome) = none := by
      rw [List.find?_eq_none]
      intro c hc
      have := no c hc
      cases hs : c.2.isSome
      · simp
      · simp only [Bool.and_true, decide_eq_true_eq]
        intro ee
        exact this ⟨by rw [ee], hs⟩
    show (match cs.find? (fun c => decide (c.1 = n) && c.2.isSome) with | some (_, some b) => b | _ => 0) = 0
    rw [this]
/-- the rules in a comprehension's own scope -/
theorem ixT {X : Cx} {K : PySem.W.Frag} (h : X.K = K) : IxR X (rIxT K) := h ▸ ix_tup
theorem ixL {X : Cx} {K : PySem.W.Frag} (h : X.K = K) : IxR X (rIxL K) := h ▸ ix_list
theorem Same.upd' {p : Addr} {H H' : Hp} {o : HO} (a : Same H H') (n : H p = none) : Same H (L2.upd H' p o) := fun b u h => by
  rw [upd_ne (ne_of_none h n)]; exact a b u h
theorem Fz.none {t b : Addr} {H H' : Hp} (f : Fz t H H') (n : b ≠ t) (e : H' b = Option.none) : H b = Option.none := by
  cases h : H b with
  | none => rfl
  | some o => rw [f b o n h] at e; cases e
theorem OpOk.mem {cs : List Col} {b : Bool} {n : S} (h : OpOk cs b (.col n)) : n ∈ cs.map (·.1) := by
  cases b with
  | true => exact List.mem_map.mpr ⟨_, (show (n, none) ∈ cs from h), rfl⟩
  | false =>
    obtain ⟨k, hk⟩ := (show ∃ k, (n, some k) ∈ cs from h)
    exact List.mem_map.mpr ⟨_, hk, rfl⟩
theorem row_at {cs : List Col} {vs : List V} {n : S} (r : RowIn cs vs) (h : n ∈ cs.map (·.1)) : vs[(cs.map (·.1)).idxOf n]? = some (opVal cs vs (.col n)) := by
  have hl := List.idxOf_lt_length_of_mem h
  rw [List.length_map, ← r.len] at hl
  show _ = some (vs.getD ((cs.map (·.1)).idxOf n) .non)
  rw [List.getElem?_eq_getElem hl, List.getD_eq_getElem?_getD, List.getElem?_eq_getElem hl]
  rfl
theorem op_cont {cs : List Col} {vs : List V} {o : Op} (h : ∀ n, o ≠ .col n) : o.cont = opVal cs vs o := by
  cases o with
  | col n => exact absurd rfl (h n)
  | num i => rfl
  | txt x => rfl
end Ind

set_option Elab.async false
set_option linter.all false
set_option maxRecDepth 100000
set_option maxHeartbeats 4000000
namespace Ind
open PySem PySem.Spec PyProof.Rows L2
/-! ### methods of a tuple that `tuple(..)` made -/
def tyZ (x : V) (H : Hp) : Prop := ∃ (p : Addr) (o : Obj) (xs : List V), x = .ref p ∧ H p = some (.frz o (.tup xs)) ∧ o.dict = none
def tBMZ (r : V → List V → Hp → VK → Prop) (to : TE) (t : TA) : TE := fun σ H Q =>
  to σ H fun x H1 => tyZ x H1 ∧ t σ H1 fun xs H2 => r x xs H2 Q
section
variable {X : Cx} {σ : L2.St} {H : Hp}
theorem tyZ_is {pins : List (Addr × Obj)} {s : Shared} {x : V} {v : Value} (I : Inv X pins σ H s) (r : RelV x v) (z : tyZ x H) :
    s.TypeIs v "tuple" ∧ ∀ a, v = .ref a → ∃ ob, s.heap.get? a = some ob ∧ ob.dict = none := by
  obtain ⟨p, o, xs, rfl, hp, nd⟩ := z
  cases r
  obtain ⟨h1, h2, its, rv, o', h3, hc, n, hd⟩ := I.hok p _ hp
  rw [h1] at h3
  cases h3
  exact ⟨⟨o, h1, hc⟩, fun a e => by cases e; exact ⟨o, h1, nd⟩⟩
variable {o e : Expr} {name : Str} {apos cpos : Pos} {id : String} {to : TE} {t : TA} {r : V → List V → Hp → VK → Prop}
theorem pe_bmZ (slot : Slot "tuple" name id) (hty : typeOf (.builtin id) = pure (.type "method_descriptor")) (hm : MtR X id r) (ho : PE X o to) (ha : PA X [e] t)
    (h1 : attributeBase o name X.env (eval o X.env) = eval o X.env := by rfl)
    (h2 : ((backTo cpos (starEach [e] X.env)).all (fun x => !x.1) && (backToKw cpos (keywordEach [] X.env)).all (fun x => x.1.isSome) && decide ([e].length + ([] : List Keyword).length + (if ([] : List Keyword).isEmpty then 0 else 1) < 30)) = true := by rfl)
    (h3 : (apos.endLine == cpos.line) = true := by rfl)
    (h4 : starEach [e] X.env = (false, eval e X.env) :: starEach [] X.env := by rfl)
    (h5 : (backTo cpos (starEach [] X.env)).any (·.1) = false := by rfl) : PE X (.Call (.Attribute o name apos) [e] [] cpos) (tBMZ r to t) := by
  constructor
  intro pins s σ H Q I h
  refine wpAny_Call_method_late h1 h2 h3 rfl ?_
  refine thn (ho.run pins s σ H _ I h) fun v s1 ⟨x, H1, I1, r1, ty, q1⟩ => ?_
  have tz := tyZ_is I1 r1 ty
  refine ⟨"tuple", id, PySem.F.plainAttrs_tuple, slot, hty, tz.1, tz.2, ?_⟩
  have run := ha.run cpos pins s1 σ H1 _ I1 q1
  rw [h4] at run ⊢
  refine Calls.callWith_builtin ?_ (Calls.evalArgs_plain (thn run fun us s2 ⟨vs, H2, I2, r2, q2⟩ => hm pins s2 σ H2 x vs v us Q I2 r1 r2 q2))
  show (false || (backTo cpos (starEach [] X.env)).any (·.1)) = false
  rw [h5] <;> rfl
end
end Ind

set_option Elab.async false
set_option linter.all false
set_option maxRecDepth 100000
set_option maxHeartbeats 4000000
namespace Ind
open PySem PySem.Spec PyProof.Rows L2
theorem idx_nodup {α : Type} [BEq α] [LawfulBEq α] : ∀ {l : List α}, l.Nodup → ∀ (j : Nat) (h : j < l.length), l.idxOf l[j] = j
  | a :: l, nd, 0, _ => by simp
  | a :: l, nd, j + 1, h => by
    rw [List.nodup_cons] at nd
    have h' : j < l.length := by simpa using h
    have ih := idx_nodup nd.2 j h'
    have ne : (a == l[j]) = false := by
      rw [beq_eq_false_iff_ne]
      intro e
      exact nd.1 (e ▸ List.getElem_mem h')
    show List.idxOf l[j] (a :: l) = j + 1
    rw [List.idxOf_cons, ne, cond_false, ih]
theorem col_ix {cs : List Col} (nd : (cs.map (·.1)).Nodup) {n : S} {k : Kd} (h : (n, k) ∈ cs) : ∃ j, cs[j]? = some (n, k) ∧ (cs.map (·.1)).idxOf n = j := by
  obtain ⟨j, hj, ej⟩ := List.getElem_of_mem h
  refine ⟨j, by rw [List.getElem?_eq_getElem hj, ej], ?_⟩
  have e1 : (cs.map (·.1))[j]'(by simpa using hj) = n := by rw [List.getElem_map, ej]
  have := idx_nodup nd j (by simpa using hj)
  rw [e1] at this
  exact this
theorem opBound_mem {cs : List Col} (nd : (cs.map (·.1)).Nodup) {n : S} {b : Int} (h : (n, some b) ∈ cs) : opBound cs (.col n) = b := by
  obtain ⟨j, ej, ij⟩ := col_ix nd h
  refine opBound_at ej ?_
  intro c hc z
  obtain ⟨i, hi, ei⟩ := List.getElem_of_mem hc
  have hi2 : i < j ∧ i < cs.length := by
    rw [List.length_take] at hi
    omega
  rw [List.getElem_take] at ei
  have z1 := z.1
  injection z1 with z1
  have e2 : (cs.map (·.1)).idxOf n = i := by
    have := idx_nodup nd i (by simpa using hi2.2)
    rw [List.getElem_map, ei, ← z1] at this
    exact this
  omega
theorem col_val {cs : List Col} {vs : List V} (ok : ColsOk cs) (ri : RowIn cs vs) {n : S} {k : Kd} (h : (n, k) ∈ cs) : ValIn k (opVal cs vs (.col n)) := by
  obtain ⟨j, ej, ij⟩ := col_ix ok.nd h
  have r := row_at ri (List.mem_map.mpr ⟨_, h, rfl⟩)
  obtain ⟨v, ev, hv⟩ := ri.get ej
  rw [ij, ev] at r
  cases r
  exact hv
theorem op_int {cs : List Col} {vs : List V} (ok : ColsOk cs) (ri : RowIn cs vs) {o : Op} (h : OpOk cs false o) : ∃ i, opVal cs vs o = .int i ∧ -opBound cs o ≤ i ∧ i ≤ opBound cs o := by
  cases o with
  | txt x => exact h.elim
  | num i =>
    refine ⟨i, rfl, ?_⟩
    show -(if i < 0 then -i else i) ≤ i ∧ i ≤ (if i < 0 then -i else i)
    split <;> omega
  | col n =>
    obtain ⟨b, hb⟩ := (show ∃ b, (n, some b) ∈ cs from h)
    have hv := col_val ok ri hb
    rw [opBound_mem ok.nd hb]
    cases e : opVal cs vs (.col n) with
    | int i => rw [e] at hv; exact ⟨i, rfl, hv⟩
    | _ => rw [e] at hv; exact hv.elim
theorem op_txt {cs : List Col} {vs : List V} (ok : ColsOk cs) (ri : RowIn cs vs) {o : Op} (h : OpOk cs true o) : ∃ x, opVal cs vs o = .str x ∧ TxtOk x := by
  cases o with
  | num i => exact h.elim
  | txt x => exact ⟨x, rfl, h⟩
  | col n =>
    have hv := col_val ok ri (show (n, none) ∈ cs from h)
    cases e : opVal cs vs (.col n) with
    | str x => rw [e] at hv; exact ⟨x, rfl, hv⟩
    | _ => rw [e] at hv; exact hv.elim
theorem exVal_many {cs : List Col} {vs : List V} {ts : List Tm} (h : ts.length ≠ 1) : exVal cs vs ts = .int (ts.map (tmVal cs vs)).sum := by
  match ts, h with
  | [], _ => rfl
  | [a], h => exact absurd rfl h
  | a :: b :: r, _ => rfl
theorem exVal_one {cs : List Col} {vs : List V} {ts : List Tm} (h : ts.length = 1) : ∃ t, ts = [t] ∧ exVal cs vs ts = opVal cs vs t.op := by
  match ts, h with
  | [a], _ => exact ⟨a, rfl, rfl⟩
/-- the terms with one sign -/
def sided (cs : List Col) (vs : List V) (p : Bool) (ts : List Tm) : List Int := (ts.filter (fun t => t.plus == p)).map fun t => iOf (opVal cs vs t.op)
theorem sided_sum (cs : List Col) (vs : List V) (ts : List Tm) : (sided cs vs true ts).sum - (sided cs vs false ts).sum = (ts.map (tmVal cs vs)).sum := by
  induction ts with
  | nil => rfl
  | cons t r ih =>
    obtain ⟨p, o⟩ := t
    cases p with
    | true =>
      have e1 : sided cs vs true (⟨true, o⟩ :: r) = iOf (opVal cs vs o) :: sided cs vs true r := rfl
      have e2 : sided cs vs false (⟨true, o⟩ :: r) = sided cs vs false r := rfl
      have e3 : tmVal cs vs ⟨true, o⟩ = iOf (opVal cs vs o) := rfl
      rw [e1, e2, List.map_cons, List.sum_cons, List.sum_cons, e3]
      omega
    | false =>
      have e1 : sided cs vs false (⟨false, o⟩ :: r) = iOf (opVal cs vs o) :: sided cs vs false r := rfl
      have e2 : sided cs vs true (⟨false, o⟩ :: r) = sided cs vs true r := rfl
      have e3 : tmVal cs vs ⟨false, o⟩ = -iOf (opVal cs vs o) := rfl
      rw [e1, e2, List.map_cons, List.sum_cons, List.sum_cons, e3]
      omega
theorem sided_more {cs : List Col} {vs : List V} {p : Bool} {ts : List Tm} {i : Nat} {t : Tm} (e : ts[i]? = some t) : sided cs vs p (ts.take (i + 1)) = sided cs vs p (ts.take i) ++ (if t.plus = p then [iOf (opVal cs vs t.op)] else []) := by
  unfold sided
  rw [take_more e, List.filter_append, List.map_append]
  congr 1
  rw [List.filter_cons]
  by_cases h : t.plus = p
  · rw [if_pos h, if_pos (by simpa using h)]; rfl
  · rw [if_neg h, if_neg (by simpa using h)]; rfl
theorem sided_len {cs : List Col} {vs : List V} {p : Bool} {ts : List Tm} : (sided cs vs p ts).length ≤ ts.length := by
  unfold sided
  rw [List.length_map]
  exact List.length_filter_le _ _
theorem Same.none {b : Addr} {H H' : Hp} (f : Same H H') (e : H' b = Option.none) : H b = Option.none := by
  cases h : H b with
  | none => rfl
  | some o => rw [f b o h] at e; cases e
theorem opBound_le {cs : List Col} {b : Bool} {o : Op} (ok : ColsOk cs) (h : OpOk cs b o) : 0 ≤ opBound cs o ∧ opBound cs o ≤ 1000000000000 := by
  cases o with
  | txt x => exact ⟨(by decide : (0 : Int) ≤ 0), (by decide : (0 : Int) ≤ 1000000000000)⟩
  | num i =>
    cases b with
    | true => exact h.elim
    | false =>
      have := (show -1000000 ≤ i ∧ i ≤ 1000000 from h)
      show 0 ≤ (if i < 0 then -i else i) ∧ (if i < 0 then -i else i) ≤ 1000000000000
      split <;> omega
  | col n =>
    show 0 ≤ (match cs.find? (fun c => decide (c.1 = n) && c.2.isSome) with | some (_, some b) => b | _ => 0) ∧ (match cs.find? (fun c => decide (c.1 = n) && c.2.isSome) with | some (_, some b) => b | _ => 0) ≤ 1000000000000
    split
    · rename_i m k e
      exact ok.kd _ (List.mem_of_find?_eq_some e)
    · exact ⟨by decide, by decide⟩
end Ind

set_option Elab.async false
set_option linter.all false
set_option maxRecDepth 100000
set_option maxHeartbeats 4000000
namespace Ind
open PySem PySem.Spec PyProof.Rows L2
/-! ### two ways that meet -/
theorem meet {c : Prop} [Decidable c] {tb : TS} {D : Ends} {σ0 : L2.St} {H0 : Hp} (G : L2.St → Hp → Prop) (rest : ∀ σ H, G σ H → D.nx σ H)
    (h1 : (∀ σ H, G σ H → D.nx σ H) → c → tb D σ0 H0) (h2 : ¬ c → G σ0 H0) : if c then tb D σ0 H0 else tNext D σ0 H0 := by
  by_cases h : c
  · rw [if_pos h]; exact h1 rest h
  · rw [if_neg h]; exact rest _ _ (h2 h)
theorem leave {D : Ends} {σ : L2.St} {H : Hp} (h : D.nx σ H) : tNext D σ H := h
theorem if_not {A B : Prop} (h : B) : if false = true then A else B := by rw [if_neg (by decide)]; exact h
/-- straight expressions under way -/
def colN (t : Tm) : Option S := match t.op with
  | .col n => some n
  | _ => none
structure StI (cs : List Col) (ts : List Tm) (fs : List S) (n : Int) (i : Nat) : Prop where
  ne : 0 < i → ts ≠ []
  first : ∀ t, ts.head? = some t → t.plus = true
  ops : ∀ t ∈ ts, OpOk cs false t.op
  sum : (ts.map fun t => opBound cs t.op).sum = n
  low : n ≤ 1000000000000
  len : ts.length ≤ i
  nd : (ts.filterMap colN).Nodup
  signs : ∀ t ∈ ts, ∀ j, t.op = .num j → if t.plus then 0 ≤ j else j ≤ 0
  left : ∀ f ∈ fs, ∃ b, (f, some b) ∈ cs
  fnd : fs.Nodup
  apart : ∀ f ∈ fs, f ∉ ts.filterMap colN
  few : fs.length ≤ 10
/-- an operand that may come next -/
structure Nxt (cs : List Col) (ts : List Tm) (fs : List S) (pl : Bool) (o : Op) : Prop where
  ok : OpOk cs false o
  sign : ∀ j, o = .num j → if pl then 0 ≤ j else j ≤ 0
  apart : ∀ n, o = .col n → n ∉ fs ∧ n ∉ ts.filterMap colN
theorem StI.same {cs : List Col} {ts : List Tm} {fs : List S} {n : Int} {i : Nat} (h : StI cs ts fs n i) (ne : ts ≠ []) : StI cs ts fs n (i + 1) :=
  ⟨fun _ => ne, h.first, h.ops, h.sum, h.low, Nat.le_succ_of_le h.len, h.nd, h.signs, h.left, h.fnd, h.apart, h.few⟩
theorem StI.less {cs : List Col} {ts : List Tm} {fs : List S} {n : Int} {i : Nat} (h : StI cs ts fs n i) (k : Nat) : StI cs ts (fs.eraseIdx k) n i :=
  ⟨h.ne, h.first, h.ops, h.sum, h.low, h.len, h.nd, h.signs, fun f m => h.left f (List.mem_of_mem_eraseIdx m), h.fnd.sublist (List.eraseIdx_sublist _ _), fun f m => h.apart f (List.mem_of_mem_eraseIdx m), Nat.le_trans (List.length_eraseIdx_le _ _) h.few⟩
theorem erase_out {fs : List S} (nd : fs.Nodup) : ∀ {k : Nat} {f : S}, fs[k]? = some f → f ∉ fs.eraseIdx k := by
  induction fs with
  | nil => intro k f e; simp at e
  | cons a r ih =>
    intro k f e
    rw [List.nodup_cons] at nd
    cases k with
    | zero =>
      simp only [List.getElem?_cons_zero, Option.some.injEq] at e
      subst e
      exact nd.1
    | succ k =>
      rw [List.getElem?_cons_succ] at e
      rw [List.eraseIdx_cons_succ, List.mem_cons, not_or]
      exact ⟨fun z => nd.1 (z ▸ List.mem_of_getElem? e), ih nd.2 e⟩
theorem StI.add {cs : List Col} {ts : List Tm} {fs : List S} {n : Int} {i : Nat} {pl : Bool} {o : Op} (h : StI cs ts fs n i) (x : Nxt cs ts fs pl o) (hp : i = 0 → pl = true) (l : n + opBound cs o ≤ 1000000000000) : StI cs (ts ++ [⟨pl, o⟩]) fs (n + opBound cs o) (i + 1) := by
  refine ⟨fun _ => by simp, ?_, ?_, ?_, l, ?_, ?_, ?_, h.left, h.fnd, ?_, h.few⟩
  · intro t ht
    cases ts with
    | nil =>
      have hi : i = 0 ∨ 0 < i := by omega
      rcases hi with hi | hi
      · cases ht; exact hp hi
      · exact absurd rfl (h.ne hi)
    | cons a r => exact h.first t ht
  · intro t ht
    rcases List.mem_append.mp ht with m | m
    · exact h.ops t m
    · cases List.mem_singleton.mp m; exact x.ok
  · rw [List.map_append, List.sum_append, h.sum]; simp
  · have := h.len
    simp; omega
  · rw [List.filterMap_append, List.nodup_append]
    refine ⟨h.nd, ?_, ?_⟩
    · cases o with
      | col m => exact (by show [m].Nodup; simp)
      | num j => exact (show ([] : List S).Nodup from List.nodup_nil)
      | txt y => exact (show ([] : List S).Nodup from List.nodup_nil)
    · intro a ha b hb e
      subst e
      cases o with
      | col m =>
        have : a = m := by simpa [colN] using hb
        subst this
        exact (x.apart a rfl).2 ha
      | num j => simp [colN] at hb
      | txt y => simp [colN] at hb
  · intro t ht j ej
    rcases List.mem_append.mp ht with m | m
    · exact h.signs t m j ej
    · cases List.mem_singleton.mp m; exact x.sign j ej
  · intro f hf
    rw [List.filterMap_append, List.mem_append, not_or]
    refine ⟨h.apart f hf, ?_⟩
    cases o with
    | col m =>
      intro hb
      have : f = m := by simpa [colN] using hb
      subst this
      exact (x.apart f rfl).1 hf
    | num j => simp [colN]
    | txt y => simp [colN]
theorem StI.out {cs : List Col} {ts : List Tm} {fs : List S} {n : Int} {i : Nat} (h : StI cs ts fs n i) (hi : 0 < i ∧ i ≤ 20) : ExOk cs false ts ∧ Straight cs ts :=
  ⟨⟨h.ne hi.1, h.first, h.ops, (fun e => by cases e), by rw [h.sum]; exact h.low, Nat.le_trans h.len hi.2⟩, ⟨h.nd, h.signs⟩⟩
theorem pick_ix {i : Int} {n : Nat} (h0 : 0 ≤ i) (h1 : i < (n : Int)) : seqIndex? i n = some i.toNat := PySem.StrLaws.seqIndex_nonneg h0 h1
theorem map_erase {α β : Type} (f : α → β) : ∀ (l : List α) (k : Nat), (l.map f).eraseIdx k = (l.eraseIdx k).map f
  | [], _ => rfl
  | a :: l, 0 => rfl
  | a :: l, k + 1 => by
    show f a :: (l.map f).eraseIdx k = f a :: (l.eraseIdx k).map f
    rw [map_erase f l k]
end Ind

set_option Elab.async false
set_option linter.all false
set_option maxRecDepth 100000
set_option maxHeartbeats 4000000
namespace Ind
open PySem PySem.Spec PyProof.Rows L2
theorem col_uniq {cs : List Col} (nd : (cs.map (·.1)).Nodup) {n : S} {k k' : Kd} (h : (n, k) ∈ cs) (h' : (n, k') ∈ cs) : k = k' := by
  obtain ⟨j, ej, ij⟩ := col_ix nd h
  obtain ⟨j', ej', ij'⟩ := col_ix nd h'
  have e : j = j' := by omega
  subst e
  rw [ej] at ej'
  cases ej'
  rfl
/-- one term's word on the value of a column -/
def farStep (c : Col) (v : V) (t : Tm) : V := match t.op, c.2 with
  | .col n, some b => if n = c.1 then (if t.plus then .int b else .int (-b)) else v
  | _, _ => v
theorem far_fold (ts : List Tm) (c : Col) (v : V) : farVal ts c v = ts.foldl (farStep c) v := rfl
theorem far_more {ts : List Tm} {i : Nat} {t : Tm} (e : ts[i]? = some t) (c : Col) (v : V) : farVal (ts.take (i + 1)) c v = farStep c (farVal (ts.take i) c v) t := by
  rw [far_fold, take_more e, List.foldl_append]
  rfl
theorem far_hit {c : Col} {v : V} {t : Tm} {b : Int} (e : t.op = .col c.1) (k : c.2 = some b) : farStep c v t = .int (if t.plus then b else -b) := by
  unfold farStep
  rw [e, k]
  simp
  split <;> rfl
theorem far_miss {c : Col} {v : V} {t : Tm} (e : t.op ≠ .col c.1) : farStep c v t = v := by
  unfold farStep
  split
  · rename_i n b e1 e2
    rw [if_neg (fun z => e (by rw [e1, z]))]
  · rfl
end Ind

set_option Elab.async false
set_option linter.all false
set_option maxRecDepth 100000
set_option maxHeartbeats 4000000
namespace Ind
open PySem PySem.Spec PyProof.Rows L2
/-! ### the dict of the kinds -/
inductive KvOf (K : PySem.W.Frag) (H : Hp) : List Col → List (Key × V) → Prop
  | nil : KvOf K H [] []
  | cons {c : Col} {u : V} {cs : List Col} {kvs : List (Key × V)} : Dp K H u (kdD c.2) → KvOf K H cs kvs → KvOf K H (c :: cs) ((.inr c.1, u) :: kvs)
variable {K : PySem.W.Frag} {H H' : Hp}
theorem KvOf.keys {cs : List Col} {kvs : List (Key × V)} (h : KvOf K H cs kvs) : kvs.map (·.1) = cs.map (fun c => (.inr c.1 : Key)) := by
  induction h with
  | nil => rfl
  | cons _ _ ih => rw [List.map_cons, List.map_cons, ih]
theorem KvOf.kp {cs : List Col} {kvs : List (Key × V)} (k : Kp H H') (h : KvOf K H cs kvs) : KvOf K H' cs kvs := by
  induction h with
  | nil => exact .nil
  | cons d _ ih => exact .cons (Dp.kp k _ _ (tO_kd _) d) ih
theorem KvOf.get {cs : List Col} {kvs : List (Key × V)} (h : KvOf K H cs kvs) (nd : (cs.map (·.1)).Nodup) {n : S} {k : Kd} (m : (n, k) ∈ cs) : ∃ u, valV kvs (.inr n) = some u ∧ Dp K H u (kdD k) := by
  induction h with
  | nil => cases m
  | cons d r ih =>
    rename_i c u cs kvs
    rw [List.map_cons, List.nodup_cons] at nd
    rcases List.mem_cons.mp m with e | m'
    · subst e
      exact ⟨u, valV_pos rfl, d⟩
    · obtain ⟨u', e1, d1⟩ := ih nd.2 m'
      have ne : ¬ ((.inr c.1 : Key)) = .inr n := fun e => by
        injection e with e
        exact nd.1 (e ▸ List.mem_map.mpr ⟨_, m', rfl⟩)
      refine ⟨u', ?_, d1⟩
      rw [valV_neg (p := ((.inr c.1 : Key), u)) ne]
      exact e1
theorem merge_new : ∀ (more acc : List (Key × V)), ((acc ++ more).map (·.1)).Nodup → mergeK acc more = acc ++ more
  | [], acc, _ => by rw [List.append_nil]; rfl
  | p :: r, acc, nd => by
    have e0 : acc ++ p :: r = (acc ++ [p]) ++ r := by simp
    have ih := merge_new r (acc ++ [p]) (by rw [← e0]; exact nd)
    have hp : putK acc p.1 p.2 = acc ++ [p] := by
      unfold putK
      rw [if_neg]
      intro e
      rw [List.any_eq_true] at e
      obtain ⟨x, hx, ex⟩ := e
      rw [List.map_append, List.nodup_append] at nd
      exact nd.2.2 x.1 (List.mem_map.mpr ⟨x, hx, rfl⟩) p.1 (by simp) (of_decide_eq_true ex)
    show mergeK (putK acc p.1 p.2) r = _
    rw [hp, ih, e0]
theorem cols_kvs : ∀ (cs : List Col) (ps : List Addr), DpAll K H (ps.map V.ref) (cs.map colD) → ∃ kvs : List (Key × V), Paired (fun p kv => SqT K H p [kV kv.1, kv.2]) ps kvs ∧ KvOf K H cs kvs
  | [], [], _ => ⟨[], .nil, .nil⟩
  | [], p :: ps, h => by cases h
  | c :: cs, [], h => by cases h
  | c :: cs, p :: ps, h => by
    cases h with
    | cons h1 h2 =>
      obtain ⟨a, u, e, hs, du⟩ := col_at h1
      cases e
      obtain ⟨kvs, hp, hk⟩ := cols_kvs cs ps h2
      exact ⟨(.inr c.1, u) :: kvs, .cons hs hp, .cons du hk⟩
def DictAt (K : PySem.W.Frag) (H : Hp) (d : Addr) (cs : List Col) : Prop := ∃ kvs, H d = some (.dK kvs) ∧ KvOf K H cs kvs
theorem DictAt.same {d : Addr} {cs : List Col} (h : DictAt K H d cs) (s : Same H H') : DictAt K H' d cs := by
  obtain ⟨kvs, h1, h2⟩ := h
  exact ⟨kvs, s _ _ h1, h2.kp (Same.kp s)⟩
def opKd (cs : List Col) (b : Bool) (o : Op) : Kd := if b then none else some (opBound cs o)
/-! ### promises of the program -/
def spOpKind (K : PySem.W.Frag) : Sp := fun vs H Q _ => ∃ (v : V) (d : Addr) (o : Op) (cs : List Col) (b : Bool), vs = [v, .ref d] ∧ Dp K H v o.d ∧ DictAt K H d cs ∧ ColsOk cs ∧ OpOk cs b o ∧
  ∀ H' u, Same H H' → Dp K H' u (kdD (opKd cs b o)) → Q u H'
def spKindOf (K : PySem.W.Frag) : Sp := fun vs H Q _ => ∃ (e c : V) (ts : List Tm) (cs : List Col) (b : Bool), vs = [e, c] ∧ Dp K H e (exD ts) ∧ ColsAt K H c cs ∧ ColsOk cs ∧ ExOk cs b ts ∧
  ∀ H' u, Same H H' → Dp K H' u (kdD (exKd cs b ts)) → Q u H'
def spOpValue (K : PySem.W.Frag) : Sp := fun xs H Q _ => ∃ (v n r : V) (o : Op) (cs : List Col) (vs : List V) (b : Bool), xs = [v, n, r] ∧ Dp K H v o.d ∧ OpOk cs b o ∧ ColsOk cs ∧ NamesAt K H n cs ∧ RowAt K H r vs ∧ RowIn cs vs ∧ Q (opVal cs vs o) H
def spEval (K : PySem.W.Frag) : Sp := fun xs H Q _ => ∃ (e n r : V) (ts : List Tm) (cs : List Col) (vs : List V) (b : Bool), xs = [e, n, r] ∧ Dp K H e (exD ts) ∧ ExOk cs b ts ∧ ColsOk cs ∧ NamesAt K H n cs ∧ RowAt K H r vs ∧ RowIn cs vs ∧ Q (exVal cs vs ts) H
theorem kd_ne (b : Int) : (kdD (some b)).eqv (kdD none) = false := by
  show ((("integer" : S) == "string") && false) = false
  exact Bool.and_false _
end Ind

set_option Elab.async false
set_option linter.all false
set_option maxRecDepth 100000
set_option maxHeartbeats 4000000
namespace Ind
open PySem PySem.Spec PyProof.Rows L2
/-! ### how long data are when they are shown -/
theorem int_show {i : Int} (h : -1000000000000 ≤ i ∧ i ≤ 1000000000000) : (PyData.int i).shown.length ≤ 20 := by
  show (Str.ofString (toString i)).length ≤ 20
  rw [PySem.ofString_length]
  have := int_text_length_le10 (a := i) (k := 13) (by decide) (by omega)
  omega
theorem txt_show {x : S} (h : TxtOk x) : (PyData.str x).shown.length ≤ 202 := by
  show (reprText x).length ≤ 202
  have := PySem.StrLaws.reprText_len x (fun c hc => by have := (h.2 c hc).2.1; omega)
  have := h.1
  omega
theorem int_word : (PyData.str "integer").shown.length ≤ 9 := by decide +kernel
theorem str_word : (PyData.str "string").shown.length ≤ 8 := by decide +kernel
theorem kd_show {k : Kd} (h : ∀ b, k = some b → -1000000000000 ≤ b ∧ b ≤ 1000000000000) : (kdD k).shown.length ≤ 1000 := by
  cases k with
  | none =>
    show (tupleText [(PyData.str "string").shown]).length ≤ 1000
    have := tupleText_len_le [(PyData.str "string").shown]
    have := str_word
    simp only [List.map_cons, List.map_nil, List.sum_cons, List.sum_nil, List.length_cons, List.length_nil] at *
    omega
  | some b =>
    show (tupleText [(PyData.str "integer").shown, (PyData.int b).shown]).length ≤ 1000
    have := tupleText_len_le [(PyData.str "integer").shown, (PyData.int b).shown]
    have := int_word
    have := int_show (h b rfl)
    simp only [List.map_cons, List.map_nil, List.sum_cons, List.sum_nil, List.length_cons, List.length_nil] at *
    omega
theorem log_low {i : Int} (h : -1000000000000 ≤ i ∧ i ≤ 1000000000000) : i.natAbs.log2 < 1920 := by
  by_cases z : i.natAbs = 0
  · rw [z]; decide
  · refine Nat.lt_of_lt_of_le ((Nat.log2_lt z).mpr (show i.natAbs < 2 ^ 40 from ?_)) (by decide)
    have e : (2 : Nat) ^ 40 = 1099511627776 := by decide +kernel
    rw [e]
    omega
theorem kd_able {k : Kd} (h : ∀ b, k = some b → -1000000000000 ≤ b ∧ b ≤ 1000000000000) : (kdD k).showable = true := by
  cases k with
  | none => simp [kdD, PyData.showable, PyData.showableAll]
  | some b =>
    have := h b rfl
    simp [kdD, PyData.showable, PyData.showableAll]
    exact log_low this
theorem kd_dict (k : Kd) : (kdD k).hasDict = false := by
  cases k <;> simp [kdD, PyData.hasDict, PyData.hasDictAll]
theorem kd_depth (k : Kd) : (kdD k).depth ≤ 60 := by
  cases k <;> simp [kdD, PyData.depth, PyData.depthAll]
theorem int_able {i : Int} (h : -1000000000000 ≤ i ∧ i ≤ 1000000000000) : (PyData.int i).showable = true := by
  simp [PyData.showable]
  exact log_low h
end Ind

set_option Elab.async false
set_option linter.all false
set_option maxRecDepth 100000
set_option maxHeartbeats 4000000
namespace Ind
open PySem PySem.Spec PyProof.Rows L2
/-! ### bounds of values, and the row that reaches them -/
theorem sum_low {cs : List Col} {vs : List V} (ok : ColsOk cs) (ri : RowIn cs vs) : ∀ (ts : List Tm), (∀ t ∈ ts, OpOk cs false t.op) →
    -(ts.map fun t => opBound cs t.op).sum ≤ (ts.map (tmVal cs vs)).sum ∧ (ts.map (tmVal cs vs)).sum ≤ (ts.map fun t => opBound cs t.op).sum
  | [], _ => ⟨(by decide : -(0 : Int) ≤ 0), (by decide : (0 : Int) ≤ 0)⟩
  | t :: r, h => by
    have ih := sum_low ok ri r (fun u hu => h u (List.mem_cons_of_mem _ hu))
    obtain ⟨z, ez, z1, z2⟩ := op_int ok ri (h t (List.mem_cons_self ..))
    have tv : -opBound cs t.op ≤ tmVal cs vs t ∧ tmVal cs vs t ≤ opBound cs t.op := by
      unfold tmVal
      rw [ez]
      show -opBound cs t.op ≤ (if t.plus = true then z else -z) ∧ (if t.plus = true then z else -z) ≤ opBound cs t.op
      split <;> omega
    simp only [List.map_cons, List.sum_cons]
    omega
theorem ex_int {cs : List Col} {vs : List V} {ts : List Tm} (ok : ColsOk cs) (ri : RowIn cs vs) (ex : ExOk cs false ts) : ∃ z, exVal cs vs ts = .int z ∧ -(ts.map fun t => opBound cs t.op).sum ≤ z ∧ z ≤ (ts.map fun t => opBound cs t.op).sum := by
  by_cases l : ts.length = 1
  · obtain ⟨t, rfl, e⟩ := exVal_one (cs := cs) (vs := vs) l
    obtain ⟨z, ez, z1, z2⟩ := op_int ok ri (ex.ops t (by simp))
    refine ⟨z, by rw [e, ez], ?_⟩
    simp only [List.map_cons, List.map_nil, List.sum_cons, List.sum_nil]
    omega
  · exact ⟨_, exVal_many l, sum_low ok ri ts ex.ops⟩
theorem ex_txt {cs : List Col} {vs : List V} {ts : List Tm} (ok : ColsOk cs) (ri : RowIn cs vs) (ex : ExOk cs true ts) : ∃ x, exVal cs vs ts = .str x ∧ TxtOk x := by
  obtain ⟨t, rfl, e⟩ := exVal_one (cs := cs) (vs := vs) (ex.one rfl)
  obtain ⟨x, exx, tx⟩ := op_txt ok ri (ex.ops t (by simp))
  exact ⟨x, by rw [e, exx], tx⟩
theorem far_step_in {c : Col} {v : V} {t : Tm} (k : KdOk c.2) (h : ValIn c.2 v) : ValIn c.2 (farStep c v t) := by
  by_cases e : t.op = .col c.1
  · cases kk : c.2 with
    | none =>
      have : farStep c v t = v := by
        unfold farStep
        rw [e, kk]
      rw [this, ← kk]; exact h
    | some b =>
      rw [far_hit e kk]
      rw [kk] at k
      have : 0 ≤ b := k.1
      show -b ≤ _ ∧ _ ≤ b
      split <;> omega
  · rw [far_miss e]; exact h
theorem far_in {c : Col} (k : KdOk c.2) : ∀ (ts : List Tm) (v : V), ValIn c.2 v → ValIn c.2 (farVal ts c v)
  | [], _, h => h
  | t :: r, v, h => far_in k r _ (far_step_in k h)
theorem far_row (ts : List Tm) : ∀ {cs : List Col} {us : List V}, (∀ c ∈ cs, KdOk c.2) → RowIn cs us → RowIn cs ((cs.zip us).map fun p => farVal ts p.1 p.2) := by
  intro cs us k r
  induction r with
  | nil => exact .nil
  | cons h r ih => exact .cons (far_in (k _ (List.mem_cons_self ..)) ts _ h) (ih (fun d hd => k d (List.mem_cons_of_mem _ hd)))
theorem far_none {c : Col} : ∀ (ts : List Tm) (v : V), c.1 ∉ ts.filterMap colN → farVal ts c v = v
  | [], _, _ => rfl
  | t :: r, v, h => by
    have ne : t.op ≠ .col c.1 := by
      intro e
      apply h
      rw [List.mem_filterMap]
      exact ⟨t, List.mem_cons_self .., by unfold colN; rw [e]⟩
    show farVal r c (farStep c v t) = v
    rw [far_miss ne]
    refine far_none r v ?_
    intro m
    apply h
    rw [List.mem_filterMap] at m ⊢
    obtain ⟨u, hu, eu⟩ := m
    exact ⟨u, List.mem_cons_of_mem _ hu, eu⟩
theorem far_val {c : Col} {b : Int} (kk : c.2 = some b) : ∀ (ts : List Tm) (v : V) (t : Tm), (ts.filterMap colN).Nodup → t ∈ ts → t.op = .col c.1 → farVal ts c v = .int (if t.plus then b else -b)
  | [], _, _, _, m, _ => by cases m
  | u :: r, v, t, nd, m, e => by
    show farVal r c (farStep c v u) = _
    rcases List.mem_cons.mp m with h | h
    · subst h
      rw [far_hit e kk]
      refine far_none r _ ?_
      have : (t :: r).filterMap colN = c.1 :: r.filterMap colN := by
        rw [List.filterMap_cons]
        unfold colN
        rw [e]
      rw [this, List.nodup_cons] at nd
      exact nd.1
    · refine far_val kk r _ t ?_ h e
      rw [List.filterMap_cons] at nd
      split at nd
      · exact nd
      · rw [List.nodup_cons] at nd; exact nd.2
theorem zip_at {α β γ : Type} (f : α × β → γ) : ∀ (as : List α) (bs : List β) (j : Nat) (a : α) (b : β), as[j]? = some a → bs[j]? = some b → ((as.zip bs).map f)[j]? = some (f (a, b))
  | a :: as, b :: bs, 0, _, _, e1, e2 => by
    simp only [List.getElem?_cons_zero, Option.some.injEq] at e1 e2
    subst e1; subst e2
    rfl
  | a :: as, b :: bs, j + 1, x, y, e1, e2 => by
    rw [List.getElem?_cons_succ] at e1 e2
    exact zip_at f as bs j x y e1 e2
  | [], _, _, _, _, e1, _ => by simp at e1
  | _ :: _, [], _, _, _, _, e2 => by simp at e2
theorem far_tm {cs : List Col} {us : List V} {ts : List Tm} (ok : ColsOk cs) (ri : RowIn cs us) (st : Straight cs ts) {t : Tm} (m : t ∈ ts) (oo : OpOk cs false t.op) :
    tmVal cs ((cs.zip us).map fun p => farVal ts p.1 p.2) t = opBound cs t.op := by
  unfold tmVal
  cases e : t.op with
  | txt x => rw [e] at oo; exact oo.elim
  | num i =>
    have sg := st.signs t m i e
    show (if t.plus = true then i else -i) = (if i < 0 then -i else i)
    cases hp : t.plus
    · rw [hp] at sg
      have : i ≤ 0 := sg
      rw [if_neg (by decide)]
      split <;> omega
    · rw [hp] at sg
      have : 0 ≤ i := sg
      rw [if_pos rfl]
      split <;> omega
  | col n =>
    rw [e] at oo
    obtain ⟨b, hb⟩ := (show ∃ b, (n, some b) ∈ cs from oo)
    obtain ⟨j, ej, ij⟩ := col_ix ok.nd hb
    obtain ⟨u, eu, _⟩ := ri.get ej
    have r := row_at (far_row ts ok.kd ri) (List.mem_map.mpr ⟨_, hb, rfl⟩)
    rw [ij, zip_at _ cs us j _ _ ej eu] at r
    injection r with r
    rw [← r, far_val (c := (n, some b)) rfl ts u t st.nd m e, opBound_mem ok.nd hb]
    cases hp : t.plus
    · show (if false = true then -b else - -b) = b
      rw [if_neg (by decide)]
      omega
    · rfl
theorem far_ex {cs : List Col} {us : List V} {ts : List Tm} (ok : ColsOk cs) (ri : RowIn cs us) (ex : ExOk cs false ts) (st : Straight cs ts) :
    exVal cs ((cs.zip us).map fun p => farVal ts p.1 p.2) ts = .int (ts.map fun t => opBound cs t.op).sum := by
  have all : ts.map (tmVal cs ((cs.zip us).map fun p => farVal ts p.1 p.2)) = ts.map fun t => opBound cs t.op :=
    List.map_congr_left fun t m => far_tm ok ri st m (ex.ops t m)
  by_cases l : ts.length = 1
  · obtain ⟨t, rfl, e⟩ := exVal_one (cs := cs) (vs := (cs.zip us).map fun p => farVal ts p.1 p.2) l
    have pl := ex.first t rfl
    have ft := far_tm ok ri st (t := t) (by simp) (ex.ops t (by simp))
    obtain ⟨z, ez, _⟩ := op_int ok (far_row [t] ok.kd ri) (ex.ops t (by simp))
    rw [e, ez]
    unfold tmVal at ft
    rw [if_pos pl, ez] at ft
    have : z = opBound cs t.op := ft
    rw [this]
    simp
  · rw [exVal_many l, all]
theorem sum_pos {cs : List Col} {b : Bool} (ok : ColsOk cs) : ∀ (ts : List Tm), (∀ t ∈ ts, OpOk cs b t.op) → 0 ≤ (ts.map fun t => opBound cs t.op).sum
  | [], _ => (by decide : (0 : Int) ≤ 0)
  | t :: r, h => by
    have ih := sum_pos ok r (fun u hu => h u (List.mem_cons_of_mem _ hu))
    have := opBound_le ok (h t (List.mem_cons_self ..))
    simp only [List.map_cons, List.sum_cons]
    omega
theorem exKd_low {cs : List Col} {b : Bool} {ts : List Tm} (ok : ColsOk cs) (ex : ExOk cs b ts) : ∀ x, exKd cs b ts = some x → -1000000000000 ≤ x ∧ x ≤ 1000000000000 := by
  intro x e
  unfold exKd at e
  split at e
  · cases e
  · injection e with e
    have := sum_pos ok ts ex.ops
    have := ex.sum
    omega
theorem fits {n : Nat} (h : n ≤ 1000) : n ≤ sizeLine := Nat.le_trans h (by decide)
/-- what stands through the law -/
structure Lw (K : PySem.W.Frag) (H : Hp) (t : Tp) (ca na : Addr) (cs : List Col) : Prop where
  tp : TapeAt H t
  cols : ColsAt K H (.ref ca) cs
  nm : NamesAt K H (.ref na) cs
theorem Lw.kp {K : PySem.W.Frag} {H H' : Hp} {t : Tp} {ca na : Addr} {cs : List Col} (h : Lw K H t ca na cs) (k : Kp H H') (T : TapeAt H' t) : Lw K H' t ca na cs := by
  obtain ⟨a, o, e, h1, h2⟩ := h.nm
  exact ⟨T, h.cols.kp k, ⟨a, o, e, k.frz _ _ _ h1, h2⟩⟩
/-- a value that is shown -/
structure Shw (K : PySem.W.Frag) (v : V) (d : PyData) : Prop where
  dp : ∀ H, Dp K H v d
  able : d.showable = true
  nod : d.hasDict = false
  dep : d.depth ≤ 60
  len : d.shown.length ≤ sizeLine
theorem shw_int {K : PySem.W.Frag} {i : Int} (h : -1000000000000 ≤ i ∧ i ≤ 1000000000000) : Shw K (.int i) (.int i) := ⟨fun _ => .int _, int_able h, rfl, by simp [PyData.depth], fits (Nat.le_trans (int_show h) (by decide))⟩
theorem shw_txt {K : PySem.W.Frag} {x : S} (h : TxtOk x) : Shw K (.str x) (.str x) := ⟨fun _ => .str _, by simp [PyData.showable], rfl, by simp [PyData.depth], fits (Nat.le_trans (txt_show h) (by decide))⟩
theorem ex_shw {K : PySem.W.Frag} {cs : List Col} {vs : List V} {ts : List Tm} {b : Bool} (ok : ColsOk cs) (ri : RowIn cs vs) (ex : ExOk cs b ts) : ∃ d, Shw K (exVal cs vs ts) d := by
  cases b with
  | true =>
    obtain ⟨x, e, hx⟩ := ex_txt ok ri ex
    rw [e]; exact ⟨_, shw_txt hx⟩
  | false =>
    obtain ⟨z, e, h1, h2⟩ := ex_int ok ri ex
    have := ex.sum
    rw [e]; exact ⟨_, shw_int ⟨by omega, by omega⟩⟩
end Ind

set_option Elab.async false
set_option linter.all false
set_option maxRecDepth 100000
set_option maxHeartbeats 4000000
namespace Va
open PySem PySem.Spec PyProof.Rows L2 Ind
abbrev Tx := PySem.Str
/-! ### plain values -/
inductive D where
  | non
  | bl (b : Bool)
  | int (i : Int)
  | str (x : Tx)
  | tup (xs : List D)
  | ptp (xs : List D)
  | lst (xs : List D)
  | dk (kvs : List (Key × D))
  | tape
  | ty (n : String)
/-- what stands locked, or is written -/
def FzL (_ : PySem.W.Frag) (H : Hp) (a : Addr) (xs : List V) : Prop := ∃ o, H a = some (.frz o (.lst xs))
theorem FzL.sq {K : PySem.W.Frag} {H : Hp} {a : Addr} {xs : List V} (h : FzL K H a xs) : SqL K H a xs := by
  obtain ⟨o, h⟩ := h
  exact .inl (.inr ⟨o, h⟩)
mutual
inductive Rp (K : PySem.W.Frag) (tp : Option Tp) (H : Hp) : V → D → Prop
  | non : Rp K tp H .non .non
  | bl (b : Bool) : Rp K tp H (.bl b) (.bl b)
  | int (i : Int) : Rp K tp H (.int i) (.int i)
  | str (x : Tx) : Rp K tp H (.str x) (.str x)
  | tup {a : Addr} {xs : List V} {ds : List D} : SqT K H a xs → RpL K tp H xs ds → Rp K tp H (.ref a) (.tup ds)
  | ptp {a : Addr} {o : Obj} {xs : List V} {ds : List D} : H a = some (.frz o (.tup xs)) → o.dict = none → RpL K tp H xs ds → Rp K tp H (.ref a) (.ptp ds)
  | lst {a : Addr} {xs : List V} {ds : List D} : FzL K H a xs → RpL K tp H xs ds → Rp K tp H (.ref a) (.lst ds)
  | dk {a : Addr} {o : Obj} {kv : List (Key × V)} {ds : List (Key × D)} : H a = some (.frz o (.dK kv)) → RpK K tp H kv ds → Rp K tp H (.ref a) (.dk ds)
  | tape {t : Tp} : tp = some t → Rp K tp H (.ref t.a) .tape
  | ty (n : String) : Rp K tp H (.ty n) (.ty n)
inductive RpL (K : PySem.W.Frag) (tp : Option Tp) (H : Hp) : List V → List D → Prop
  | nil : RpL K tp H [] []
  | cons {v : V} {vs : List V} {d : D} {ds : List D} : Rp K tp H v d → RpL K tp H vs ds → RpL K tp H (v :: vs) (d :: ds)
inductive RpK (K : PySem.W.Frag) (tp : Option Tp) (H : Hp) : List (Key × V) → List (Key × D) → Prop
  | nil : RpK K tp H [] []
  | cons {k : Key} {v : V} {vs : List (Key × V)} {d : D} {ds : List (Key × D)} : Rp K tp H v d → RpK K tp H vs ds → RpK K tp H ((k, v) :: vs) ((k, d) :: ds)
end
/-- what never changes stands -/
structure Kq (H H' : Hp) : Prop where
  tup : ∀ b xs, H b = some (.tup xs) → H' b = some (.tup xs)
  frz : ∀ b o u, H b = some (.frz o u) → H' b = some (.frz o u)
theorem Kq.refl (H : Hp) : Kq H H := ⟨fun _ _ h => h, fun _ _ _ h => h⟩
theorem Kq.trans {H H1 H2 : Hp} (a : Kq H H1) (b : Kq H1 H2) : Kq H H2 := ⟨fun c x h => b.tup c x (a.tup c x h), fun c o x h => b.frz c o x (a.frz c o x h)⟩
theorem Kq.same {H H' : Hp} (s : Same H H') : Kq H H' := ⟨fun c x h => s _ _ h, fun c o x h => s _ _ h⟩
theorem Kq.sqT {K : PySem.W.Frag} {H H' : Hp} {a : Addr} {xs : List V} (k : Kq H H') (h : SqT K H a xs) : SqT K H' a xs := by
  rcases h with (h | ⟨o, h⟩) | h
  · exact .inl (.inl (k.tup _ _ h))
  · exact .inl (.inr ⟨o, k.frz _ _ _ h⟩)
  · exact .inr h
theorem Kq.fzL {K : PySem.W.Frag} {H H' : Hp} {a : Addr} {xs : List V} (k : Kq H H') (h : FzL K H a xs) : FzL K H' a xs := by
  obtain ⟨o, h⟩ := h
  exact ⟨o, k.frz _ _ _ h⟩
/-- writing what may be written -/
theorem Kq.upd {H : Hp} {l : Addr} {u o : HO} (h : H l = some u) (mu : Mut (some u)) : Kq H (upd H l o) := by
  refine ⟨fun c x e => ?_, fun c q x e => ?_⟩ <;> (rw [upd_ne (ne_of e h (by intro z; subst z; exact mu))]; exact e)
theorem Kq.new {H : Hp} {l : Addr} {o : HO} (h : H l = none) : Kq H (L2.upd H l o) := Kq.same (same_upd h)
section
variable {K : PySem.W.Frag} {tp : Option Tp} {H H' : Hp}
mutual
theorem Rp.kq (k : Kq H H') : ∀ (d : D) (v : V), Rp K tp H v d → Rp K tp H' v d
  | .non, _, h => by cases h; exact .non
  | .bl _, _, h => by cases h; exact .bl _
  | .int _, _, h => by cases h; exact .int _
  | .str _, _, h => by cases h; exact .str _
  | .tup ds, _, h => by
    cases h with
    | tup hs ha => exact .tup (k.sqT hs) (RpL.kq k ds _ ha)
  | .ptp ds, _, h => by
    cases h with
    | ptp hs nd ha => exact .ptp (k.frz _ _ _ hs) nd (RpL.kq k ds _ ha)
  | .lst ds, _, h => by
    cases h with
    | lst hs ha => exact .lst (k.fzL hs) (RpL.kq k ds _ ha)
  | .dk ds, _, h => by
    cases h with
    | dk hs ha => exact .dk (k.frz _ _ _ hs) (RpK.kq k ds _ ha)
  | .tape, _, h => by
    cases h with
    | tape e => exact .tape e
  | .ty _, _, h => by cases h; exact .ty _
theorem RpL.kq (k : Kq H H') : ∀ (ds : List D) (vs : List V), RpL K tp H vs ds → RpL K tp H' vs ds
  | [], _, h => by cases h; exact .nil
  | d :: ds, _, h => by
    cases h with
    | cons h1 h2 => exact .cons (Rp.kq k d _ h1) (RpL.kq k ds _ h2)
theorem RpK.kq (k : Kq H H') : ∀ (ds : List (Key × D)) (vs : List (Key × V)), RpK K tp H vs ds → RpK K tp H' vs ds
  | [], _, h => by cases h; exact .nil
  | (x, d) :: ds, _, h => by
    cases h with
    | cons h1 h2 => exact .cons (Rp.kq k d _ h1) (RpK.kq k ds _ h2)
end
theorem RpL.len : ∀ {ds : List D} {vs : List V}, RpL K tp H vs ds → vs.length = ds.length
  | [], _, h => by cases h; rfl
  | d :: ds, _, h => by
    cases h with
    | cons _ h2 => rw [List.length_cons, List.length_cons, RpL.len h2]
theorem RpL.get : ∀ {ds : List D} {vs : List V} {i : Nat} {d : D}, RpL K tp H vs ds → ds[i]? = some d → ∃ v, vs[i]? = some v ∧ Rp K tp H v d
  | [], _, _, _, _, e => by simp at e
  | d :: ds, _, 0, _, h, e => by
    cases h with
    | cons h1 _ =>
      simp only [List.getElem?_cons_zero, Option.some.injEq] at e
      subst e
      exact ⟨_, rfl, h1⟩
  | d :: ds, _, i + 1, _, h, e => by
    cases h with
    | cons _ h2 =>
      obtain ⟨v, q, r⟩ := RpL.get h2 (show ds[i]? = some _ by simpa using e)
      exact ⟨v, by simpa using q, r⟩
theorem RpL.getV {ds : List D} {vs : List V} {i : Nat} {v : V} (h : RpL K tp H vs ds) (e : vs[i]? = some v) : ∃ d, ds[i]? = some d ∧ Rp K tp H v d := by
  have hl : i < ds.length := by rw [← h.len]; exact (List.getElem?_eq_some_iff.mp e).1
  obtain ⟨v', e', r⟩ := h.get (List.getElem?_eq_getElem hl)
  rw [e] at e'
  cases e'
  exact ⟨_, List.getElem?_eq_getElem hl, r⟩
theorem RpL.app : ∀ {ds es : List D} {vs ws : List V}, RpL K tp H vs ds → RpL K tp H ws es → RpL K tp H (vs ++ ws) (ds ++ es)
  | [], _, _, _, h, g => by cases h; exact g
  | d :: ds, _, _, _, h, g => by
    cases h with
    | cons h1 h2 => exact .cons h1 (RpL.app h2 g)
theorem RpL.drop : ∀ {vs : List V} {ds : List D} (k : Nat), RpL K tp H vs ds → RpL K tp H (vs.drop k) (ds.drop k)
  | _, _, 0, h => h
  | _, _, _ + 1, .nil => .nil
  | _, _, k + 1, .cons _ t => RpL.drop k t
theorem RpL.take : ∀ {vs : List V} {ds : List D} (k : Nat), RpL K tp H vs ds → RpL K tp H (vs.take k) (ds.take k)
  | _, _, 0, _ => .nil
  | _, _, _ + 1, .nil => .nil
  | _, _, k + 1, .cons h t => .cons h (RpL.take k t)
theorem RpL.set {v : V} {d : D} (r : Rp K tp H v d) : ∀ {vs : List V} {ds : List D} (k : Nat), RpL K tp H vs ds → RpL K tp H (vs.set k v) (ds.set k d)
  | _, _, _, .nil => .nil
  | _, _, 0, .cons _ t => .cons r t
  | _, _, k + 1, .cons h t => .cons h (RpL.set r k t)
theorem RpL.erase : ∀ {vs : List V} {ds : List D} (k : Nat), RpL K tp H vs ds → RpL K tp H (vs.eraseIdx k) (ds.eraseIdx k)
  | _, _, _, .nil => .nil
  | _, _, 0, .cons _ t => t
  | _, _, k + 1, .cons h t => .cons h (RpL.erase k t)
theorem RpL.rev {vs : List V} {ds : List D} (h : RpL K tp H vs ds) : RpL K tp H vs.reverse ds.reverse := by
  induction ds generalizing vs with
  | nil => cases h; exact .nil
  | cons d ds ih =>
    cases h with
    | cons h1 h2 =>
      rw [List.reverse_cons, List.reverse_cons]
      exact (ih h2).app (.cons h1 .nil)
theorem Rp.tup_inv {v : V} {ds : List D} (h : Rp K tp H v (.tup ds)) : ∃ a xs, v = .ref a ∧ SqT K H a xs ∧ RpL K tp H xs ds := by
  cases h with
  | tup hs ha => exact ⟨_, _, rfl, hs, ha⟩
theorem Rp.ptp_inv {v : V} {ds : List D} (h : Rp K tp H v (.ptp ds)) : ∃ a o xs, v = .ref a ∧ H a = some (.frz o (.tup xs)) ∧ o.dict = none ∧ RpL K tp H xs ds := by
  cases h with
  | ptp hs nd ha => exact ⟨_, _, _, rfl, hs, nd, ha⟩
/-- a tuple that is known plain is a tuple -/
def D.un : D → D
  | .ptp ds => .tup ds
  | d => d
theorem Rp.un {v : V} {d : D} (h : Rp K tp H v d) : Rp K tp H v d.un := by
  cases h with
  | ptp hs nd ha => exact .tup (.inl (.inr ⟨_, hs⟩)) ha
  | non => exact .non
  | bl b => exact .bl b
  | int i => exact .int i
  | str x => exact .str x
  | tup hs ha => exact .tup hs ha
  | lst hs ha => exact .lst hs ha
  | dk hs ha => exact .dk hs ha
  | tape e => exact .tape e
  | ty n => exact .ty n
theorem Rp.lst_inv {v : V} {ds : List D} (h : Rp K tp H v (.lst ds)) : ∃ a xs, v = .ref a ∧ FzL K H a xs ∧ RpL K tp H xs ds := by
  cases h with
  | lst hs ha => exact ⟨_, _, rfl, hs, ha⟩
theorem Rp.dk_inv {v : V} {ds : List (Key × D)} (h : Rp K tp H v (.dk ds)) : ∃ a o kv, v = .ref a ∧ H a = some (.frz o (.dK kv)) ∧ RpK K tp H kv ds := by
  cases h with
  | dk hs ha => exact ⟨_, _, _, rfl, hs, ha⟩
theorem Rp.int_inv {v : V} {i : Int} (h : Rp K tp H v (.int i)) : v = .int i := by cases h; rfl
theorem Rp.str_inv {v : V} {x : Tx} (h : Rp K tp H v (.str x)) : v = .str x := by cases h; rfl
theorem Rp.bl_inv {v : V} {b : Bool} (h : Rp K tp H v (.bl b)) : v = .bl b := by cases h; rfl
theorem Rp.tape_inv {v : V} (h : Rp K tp H v .tape) : ∃ t, tp = some t ∧ v = .ref t.a := by
  cases h with
  | tape e => exact ⟨_, e, rfl⟩
theorem RpK.val : ∀ {ds : List (Key × D)} {vs : List (Key × V)} {k : Key}, RpK K tp H vs ds → match (ds.find? fun p => decide (p.1 = k)) with
    | some p => ∃ v, valV vs k = some v ∧ Rp K tp H v p.2
    | none => valV vs k = none
  | [], _, _, h => by cases h; rfl
  | (x, d) :: ds, _, k, h => by
    cases h with
    | @cons _ v vs _ _ h1 h2 =>
      by_cases e : x = k
      · rw [List.find?_cons_of_pos (by simp [e])]
        exact ⟨v, valV_pos e, h1⟩
      · rw [List.find?_cons_of_neg (by simp [e])]
        have ih := RpK.val (k := k) h2
        rw [valV_neg (p := (x, v)) (show ¬ (x, v).1 = k from e)]
        exact ih
theorem RpK.keys : ∀ {ds : List (Key × D)} {vs : List (Key × V)}, RpK K tp H vs ds → vs.map (·.1) = ds.map (·.1)
  | [], _, h => by cases h; rfl
  | (x, d) :: ds, _, h => by
    cases h with
    | cons h1 h2 => simp [RpK.keys h2]
theorem RpK.app : ∀ {ds es : List (Key × D)} {vs ws : List (Key × V)}, RpK K tp H vs ds → RpK K tp H ws es → RpK K tp H (vs ++ ws) (ds ++ es)
  | [], _, _, _, h, g => by cases h; exact g
  | (x, d) :: ds, _, _, _, h, g => by
    cases h with
    | cons h1 h2 => exact .cons h1 (RpK.app h2 g)
end
/-! ### the state of a body, by values -/
/-- a slot: nothing known, a value, a list of one's own, a dict of one's own -/
inductive SV where
  | no
  | v (d : D)
  | ol (ds : List D)
  | od (io : Bool) (kvs : List (Key × D))
  | ex (a : Addr) (pl : Option (Addr × Tx × D))
/-- the slots, and how many draws there may still be -/
structure En where
  l : List SV
  c : Nat
def En.set (E : En) (i : Nat) (s : SV) : En := ⟨E.l.set i s, E.c⟩
/-- the tape's list and the draws still to come stay within bounds -/
def Few (tp : Option Tp) (c : Nat) (H : Hp) : Prop := ∀ t xs, tp = some t → H t.l = some (.lst xs) → xs.length + c ≤ 1000000
def SV.own : SV → Bool
  | .ol _ => true
  | .od _ _ => true
  | _ => false
/-- the tape; b: its place never runs ahead of its list -/
def TapeV (b : Bool) (H : Hp) (t : Tp) : Prop := ∃ (ns : List Int) (p n s : Int), H t.a = some (.lst [.ref t.l, .int p, .int n, .int s]) ∧ H t.l = some (.lst (ns.map V.int)) ∧ (b = true → p ≤ (ns.length : Int)) ∧ 0 ≤ p ∧ 0 ≤ n ∧ 0 ≤ s ∧ s < 2147483647
theorem TapeV.same {b : Bool} {H H' : Hp} {t : Tp} (h : TapeV b H t) (e : Same H H') : TapeV b H' t := by
  obtain ⟨ns, p, n, s, h1, h2, h3⟩ := h
  exact ⟨ns, p, n, s, e _ _ h1, e _ _ h2, h3⟩
theorem TapeV.upd {b : Bool} {H : Hp} {t : Tp} {p : Addr} {o : HO} (h : TapeV b H t) (e : Off t p) : TapeV b (L2.upd H p o) t := by
  obtain ⟨ns, q, n, s, h1, h2, h3⟩ := h
  exact ⟨ns, q, n, s, by rw [upd_ne e.a.symm]; exact h1, by rw [upd_ne e.l.symm]; exact h2, h3⟩
structure Gm where
  K : PySem.W.Frag
  b : Bool
  tp : Option Tp
  tabs : List Addr
  io : List Addr
  H0 : Hp
/-- addresses that calls may change -/
def Gm.sp (Γ : Gm) (b : Addr) : Prop := (∃ t, Γ.tp = some t ∧ (b = t.a ∨ b = t.l)) ∨ b ∈ Γ.tabs
structure Base (Γ : Gm) (H : Hp) : Prop where
  ext : ∀ b o, ¬ Γ.sp b → b ∉ Γ.io → Γ.H0 b = some o → H b = some o
  kq : Kq Γ.H0 H
  tape : ∀ t, Γ.tp = some t → TapeV Γ.b H t
  tabs : ∀ P ∈ Γ.tabs, GxR.TabG H P
structure Free (Γ : Gm) (a : Addr) : Prop where
  young : Γ.H0 a = none ∨ a ∈ Γ.io
  nsp : ¬ Γ.sp a
abbrev Gm.Rp (Γ : Gm) (H : Hp) (v : V) (d : D) : Prop := Va.Rp Γ.K Γ.tp H v d
abbrev Gm.RpL (Γ : Gm) (H : Hp) (v : List V) (d : List D) : Prop := Va.RpL Γ.K Γ.tp H v d
def RepS (Γ : Gm) (H : Hp) (o : Option V) : SV → Prop
  | .no => True
  | .v d => ∃ v, o = some v ∧ Γ.Rp H v d
  | .ol ds => ∃ a xs, o = some (.ref a) ∧ H a = some (.lst xs) ∧ Γ.RpL H xs ds ∧ Free Γ a
  | .od b kvs => ∃ a kv, o = some (.ref a) ∧ H a = some (.dK kv) ∧ RpK Γ.K Γ.tp H kv kvs ∧ Free Γ a ∧ (b = true → a ∈ Γ.io)
  | .ex a pl => o = some (.ref a) ∧ ∀ p, pl = some p → ∃ ob v, H p.1 = some (.frz ob (.xd [(p.2.1, v)])) ∧ Γ.Rp H v p.2.2
structure Rep (Γ : Gm) (E : En) (σ : L2.St) (H : Hp) : Prop where
  base : Base Γ H
  len : E.l.length = σ.length
  few : Few Γ.tp E.c H
  sl : ∀ (i : Nat) (s : SV), E.l[i]? = some s → ∃ o, σ[i]? = some o ∧ RepS Γ H o s
  dis : ∀ (i j : Nat) (s t : SV) (a : Addr), E.l[i]? = some s → E.l[j]? = some t → s.own = true → t.own = true → σ[i]? = some (some (.ref a)) → σ[j]? = some (some (.ref a)) → i = j
/-- an address that no slot owns -/
def Lone (E : En) (σ : L2.St) (a : Addr) : Prop := ∀ (j : Nat) (s : SV), E.l[j]? = some s → s.own = true → σ[j]? ≠ some (some (.ref a))
section
variable {Γ : Gm} {E : En} {σ : L2.St} {H H' : Hp}
theorem RepS.own_at {o : Option V} {s : SV} (h : RepS Γ H o s) (e : s.own = true) : ∃ a u, o = some (.ref a) ∧ H a = some u ∧ Mut (some u) ∧ Free Γ a := by
  cases s with
  | no => cases e
  | v d => cases e
  | ol ds =>
    obtain ⟨a, xs, h1, h2, _, h3⟩ := h
    exact ⟨a, _, h1, h2, trivial, h3⟩
  | od b ds =>
    obtain ⟨a, xs, h1, h2, _, h3, _⟩ := h
    exact ⟨a, _, h1, h2, trivial, h3⟩
  | ex a pl => cases e
/-- what a slot says stands where all but the special addresses, and the never changing, stand -/
theorem RepS.stay {o : Option V} {s : SV} (h : RepS Γ H o s) (k : Kq H H') (ow : ∀ a u, s.own = true → o = some (.ref a) → H a = some u → H' a = some u) : RepS Γ H' o s := by
  cases s with
  | no => trivial
  | v d =>
    obtain ⟨v, h1, h2⟩ := h
    exact ⟨v, h1, Rp.kq k _ _ h2⟩
  | ol ds =>
    obtain ⟨a, xs, h1, h2, h3, h4⟩ := h
    exact ⟨a, xs, h1, ow a _ rfl h1 h2, RpL.kq k _ _ h3, h4⟩
  | od b ds =>
    obtain ⟨a, xs, h1, h2, h3, h4⟩ := h
    exact ⟨a, xs, h1, ow a _ rfl h1 h2, RpK.kq k _ _ h3, h4⟩
  | ex a pl =>
    obtain ⟨h1, h2⟩ := h
    exact ⟨h1, fun p hp => by
      obtain ⟨ob, v, h3, h4⟩ := h2 p hp
      exact ⟨ob, v, k.frz _ _ _ h3, Rp.kq k _ _ h4⟩⟩
theorem Base.same (b : Base Γ H) (s : Same H H') : Base Γ H' :=
  ⟨fun c o n1 n2 h => s _ _ (b.ext c o n1 n2 h), b.kq.trans (.same s), fun t e => (b.tape t e).same s, fun P hP => by
    obtain ⟨ps, h, k⟩ := b.tabs P hP
    exact ⟨ps, s _ _ h, k⟩⟩
theorem few_same {b : Bool} {tp : Option Tp} {c : Nat} (f : Few tp c H) (tape : ∀ t, tp = some t → TapeV b H t) (s : ∀ t, tp = some t → ∀ o, H t.l = some o → H' t.l = some o) : Few tp c H' := fun t xs e h => by
  obtain ⟨ns, p, n, z, h1, h2, _⟩ := tape t e
  have := s t e _ h2
  rw [h] at this
  cases this
  exact f t _ e h2
theorem Rep.same (r : Rep Γ E σ H) (s : Same H H') : Rep Γ E σ H' :=
  ⟨r.base.same s, r.len, few_same r.few r.base.tape fun t _ o h => s _ _ h, fun i x e => by
    obtain ⟨o, h1, h2⟩ := r.sl i x e
    exact ⟨o, h1, h2.stay (.same s) fun a u _ _ h => s _ _ h⟩, r.dis⟩
/-- behind a call -/
structure Ext (Γ : Gm) (c : Nat) (H H' : Hp) : Prop where
  ext : ∀ b o, ¬ Γ.sp b → H b = some o → H' b = some o
  tape : ∀ t, Γ.tp = some t → TapeV Γ.b H' t
  few : Few Γ.tp c H'
  tabs : ∀ P ∈ Γ.tabs, GxR.TabG H' P
theorem Base.sp_lst (b : Base Γ H) {a : Addr} (h : Γ.sp a) : (∃ xs, H a = some (.lst xs)) ∨ ∃ ps, H a = some (.tbl ps) := by
  rcases h with ⟨t, e, h⟩ | h
  · obtain ⟨ns, p, n, s, h1, h2, _⟩ := b.tape t e
    rcases h with rfl | rfl
    · exact .inl ⟨_, h1⟩
    · exact .inl ⟨_, h2⟩
  · obtain ⟨ps, h1, _⟩ := b.tabs a h
    exact .inr ⟨ps, h1⟩
theorem Ext.kq {c : Nat} (b : Base Γ H) (x : Ext Γ c H H') : Kq H H' := by
  refine ⟨fun c u h => x.ext _ _ ?_ h, fun c o u h => x.ext _ _ ?_ h⟩ <;>
  · intro z
    rcases b.sp_lst z with ⟨_, e⟩ | ⟨_, e⟩ <;> (rw [e] at h; cases h)
theorem Rep.call {c : Nat} (r : Rep Γ E σ H) (x : Ext Γ c H H') : Rep Γ ⟨E.l, c⟩ σ H' := by
  have k := x.kq r.base
  refine ⟨⟨fun c o n1 n2 h => x.ext _ _ n1 (r.base.ext c o n1 n2 h), r.base.kq.trans k, x.tape, x.tabs⟩, r.len, x.few, fun i s e => ?_, r.dis⟩
  obtain ⟨o, h1, h2⟩ := r.sl i s e
  refine ⟨o, h1, h2.stay k fun a u ow eo h => ?_⟩
  obtain ⟨b, _, e1, _, _, fr⟩ := h2.own_at ow
  rw [e1] at eo
  cases eo
  exact x.ext _ _ fr.nsp h
theorem Rep.fresh (r : Rep Γ E σ H) {p : Addr} (n : H p = none) : Free Γ p ∧ Lone E σ p := by
  refine ⟨⟨?_, fun z => ?_⟩, fun j s e ow eo => ?_⟩
  · cases h : Γ.H0 p with
    | none => exact .inl rfl
    | some o =>
      by_cases hio : p ∈ Γ.io
      · exact .inr hio
      · refine absurd (r.base.ext p o (fun z => ?_) hio h) (by rw [n]; intro z; cases z)
        rcases r.base.sp_lst z with ⟨_, e⟩ | ⟨_, e⟩ <;> (rw [n] at e; cases e)
  · rcases r.base.sp_lst z with ⟨_, e⟩ | ⟨_, e⟩ <;> (rw [n] at e; cases e)
  · obtain ⟨o, h1, h2⟩ := r.sl j s e
    obtain ⟨b, u, e1, e2, _⟩ := h2.own_at ow
    rw [h1, e1] at eo
    cases eo
    rw [n] at e2
    cases e2
theorem get_set {α : Type} {l : List α} {i j : Nat} {x y : α} (h : (l.set i x)[j]? = some y) : (i = j ∧ x = y ∧ i < l.length) ∨ (i ≠ j ∧ l[j]? = some y) := by
  by_cases e : i = j
  · subst e
    by_cases hi : i < l.length
    · rw [List.getElem?_set_self hi] at h
      cases h
      exact .inl ⟨rfl, rfl, hi⟩
    · rw [List.getElem?_eq_none (by simpa using hi)] at h
      cases h
  · rw [List.getElem?_set_ne e] at h
    exact .inr ⟨e, h⟩
/-- a slot gets a value -/
theorem Rep.set (r : Rep Γ E σ H) (i : Nat) {v : V} {d : D} (h : Γ.Rp H v d) : Rep Γ (E.set i (.v d)) (σ.set i (some v)) H := by
  refine ⟨r.base, by simp [En.set, r.len], r.few, fun j s e => ?_, fun j k s t a e1 e2 o1 o2 h1 h2 => ?_⟩
  · rcases get_set e with ⟨rfl, rfl, hi⟩ | ⟨ne, e⟩
    · exact ⟨some v, List.getElem?_set_self (by rw [← r.len]; exact hi), v, rfl, h⟩
    · rw [List.getElem?_set_ne ne]
      exact r.sl j s e
  · rcases get_set e1 with ⟨_, rfl, _⟩ | ⟨n1, e1⟩
    · cases o1
    · rcases get_set e2 with ⟨_, rfl, _⟩ | ⟨n2, e2⟩
      · cases o2
      · rw [List.getElem?_set_ne n1] at h1
        rw [List.getElem?_set_ne n2] at h2
        exact r.dis j k s t a e1 e2 o1 o2 h1 h2
/-- a slot gets a thing of its own -/
theorem Rep.setO (r : Rep Γ E σ H) (i : Nat) {p : Addr} {s : SV} (h : RepS Γ H (some (.ref p)) s) (lo : Lone E σ p) : Rep Γ (E.set i s) (σ.set i (some (.ref p))) H := by
  refine ⟨r.base, by simp [En.set, r.len], r.few, fun j s' e => ?_, fun j k s' t a e1 e2 o1 o2 h1 h2 => ?_⟩
  · rcases get_set e with ⟨rfl, rfl, hi⟩ | ⟨ne, e⟩
    · exact ⟨_, List.getElem?_set_self (by rw [← r.len]; exact hi), h⟩
    · rw [List.getElem?_set_ne ne]
      exact r.sl j s' e
  · rcases get_set e1 with ⟨rfl, rfl, hi⟩ | ⟨n1, e1⟩
    · rcases get_set e2 with ⟨rfl, _, _⟩ | ⟨n2, e2⟩
      · rfl
      · rw [List.getElem?_set_self (by rw [← r.len]; exact hi)] at h1
        rw [List.getElem?_set_ne n2] at h2
        cases h1
        exact absurd h2 (lo k t e2 o2)
    · rcases get_set e2 with ⟨rfl, rfl, hi⟩ | ⟨n2, e2⟩
      · rw [List.getElem?_set_self (by rw [← r.len]; exact hi)] at h2
        rw [List.getElem?_set_ne n1] at h1
        cases h2
        exact absurd h1 (lo j s' e1 o1)
      · rw [List.getElem?_set_ne n1] at h1
        rw [List.getElem?_set_ne n2] at h2
        exact r.dis j k s' t a e1 e2 o1 o2 h1 h2
/-- a slot's own thing is written (or locked) -/
theorem Rep.wr (r : Rep Γ E σ H) {i : Nat} {s s' : SV} {p : Addr} {u u' : HO} (e : E.l[i]? = some s) (ow : s.own = true) (eo : σ[i]? = some (some (.ref p))) (hp : H p = some u) (mu : Mut (some u))
    (h : RepS Γ (upd H p u') (some (.ref p)) s') : Rep Γ (E.set i s') σ (upd H p u') := by
  obtain ⟨o, h1, h2⟩ := r.sl i s e
  obtain ⟨b, u0, e1, e2, m0, fr⟩ := h2.own_at ow
  rw [h1] at eo
  cases eo
  cases e1
  rw [hp] at e2
  cases e2
  have hi := (List.getElem?_eq_some_iff.mp e).1
  have nsp : ∀ c, Γ.sp c → c ≠ p := fun c z q => fr.nsp (q ▸ z)
  refine ⟨⟨fun c o n1 n2 hc => ?_, r.base.kq.trans (Kq.upd hp mu), fun t et => ?_, fun P hP => ?_⟩, by simp [En.set, r.len], few_same r.few r.base.tape (fun t et o h => by rw [upd_ne (nsp t.l (.inl ⟨t, et, .inr rfl⟩))]; exact h), fun j s2 ej => ?_, fun j k s2 t a e1 e2 o1 o2 h3 h4 => ?_⟩
  · rw [upd_ne ?_]
    · exact r.base.ext c o n1 n2 hc
    · rintro rfl
      rcases fr.young with z | z
      · rw [z] at hc; cases hc
      · exact n2 z
  · have := r.base.tape t et
    refine this.upd ⟨?_, ?_⟩
    · exact fun q => nsp t.a (.inl ⟨t, et, .inl rfl⟩) q.symm
    · exact fun q => nsp t.l (.inl ⟨t, et, .inr rfl⟩) q.symm
  · obtain ⟨ps, h3, k⟩ := r.base.tabs P hP
    exact ⟨ps, by rw [upd_ne (nsp P (.inr hP))]; exact h3, k⟩
  · rcases get_set ej with ⟨rfl, rfl, _⟩ | ⟨ne, ej⟩
    · exact ⟨_, h1, h⟩
    · obtain ⟨o3, h3, h4⟩ := r.sl j s2 ej
      refine ⟨o3, h3, h4.stay (Kq.upd hp mu) fun a w ow2 eo2 ha => ?_⟩
      rw [upd_ne ?_]
      · exact ha
      · rintro rfl
        rw [eo2] at h3
        exact ne (r.dis i j s s2 _ e ej ow ow2 h1 h3)
  · have own : ∀ (j : Nat) (s3 : SV), (E.set i s').l[j]? = some s3 → s3.own = true → ∃ s4, E.l[j]? = some s4 ∧ s4.own = true := fun j s3 e3 o3 => by
      rcases get_set e3 with ⟨rfl, rfl, _⟩ | ⟨ne, e3⟩
      · exact ⟨s, e, ow⟩
      · exact ⟨s3, e3, o3⟩
    obtain ⟨s5, e5, o5⟩ := own j s2 e1 o1
    obtain ⟨s6, e6, o6⟩ := own k t e2 o2
    exact r.dis j k s5 s6 a e5 e6 o5 o6 h3 h4
end
end Va

set_option Elab.async false
set_option linter.all false
set_option maxRecDepth 100000
set_option maxHeartbeats 4000000
namespace Va
open PySem PySem.Spec PyProof.Rows L2 Ind
/-! ### readings by values -/
structure Sg where
  K : PySem.W.Frag
  b : Bool
  tabs : List Addr
structure Gm.Ok (Γ : Gm) (S : Sg) : Prop where
  k : Γ.K = S.K
  b : Γ.b = S.b
  t : Γ.tabs = S.tabs
/-- a value, or a new list or dict that nobody holds yet -/
inductive RV where
  | v (d : D)
  | fl (ds : List D)
  | fd (kvs : List (Key × D))
def RV.d : RV → D
  | .v d => d
  | .fl ds => .lst ds
  | .fd kvs => .dk kvs
def RV.sv : RV → SV
  | .v d => .v d
  | .fl ds => .ol ds
  | .fd kvs => .od false kvs
def RepR (Γ : Gm) (E : En) (σ : L2.St) (H : Hp) (v : V) : RV → Prop
  | .v d => Γ.Rp H v d
  | .fl ds => ∃ a, v = .ref a ∧ RepS Γ H (some (.ref a)) (.ol ds) ∧ Lone E σ a
  | .fd kvs => ∃ a, v = .ref a ∧ RepS Γ H (some (.ref a)) (.od false kvs) ∧ Lone E σ a
abbrev VT := En → (D → En → Prop) → Prop
abbrev FT := En → (RV → En → Prop) → Prop
abbrev VTT := En → (Bool → En → Prop) → Prop
abbrev VTA := En → (List D → En → Prop) → Prop
/-- a value that may still be a slot's own thing (read at once) -/
inductive RpW (Γ : Gm) (H : Hp) : V → D → Prop
  | v {v : V} {d : D} : Γ.Rp H v d → RpW Γ H v d
  | l {a : Addr} {xs : List V} {ds : List D} : H a = some (.lst xs) → Γ.RpL H xs ds → RpW Γ H (.ref a) (.lst ds)
  | k {a : Addr} {kv : List (Key × V)} {ds : List (Key × D)} : H a = some (.dK kv) → RpK Γ.K Γ.tp H kv ds → RpW Γ H (.ref a) (.dk ds)
def liftV (S : Sg) (t : VT) : TE := fun σ H Q => ∃ (Γ : Gm) (E : En) (Q0 : D → En → Prop), Γ.Ok S ∧ Rep Γ E σ H ∧ t E Q0 ∧ ∀ d E', Q0 d E' → ∀ v H', Kq H H' → Rep Γ E' σ H' → Γ.Rp H' v d → Q v H'
def liftB (S : Sg) (t : VT) : TE := fun σ H Q => ∃ (Γ : Gm) (E : En) (Q0 : D → En → Prop), Γ.Ok S ∧ Rep Γ E σ H ∧ t E Q0 ∧ ∀ d E', Q0 d E' → ∀ v H', Kq H H' → Rep Γ E' σ H' → RpW Γ H' v d → Q v H'
def liftF (S : Sg) (t : FT) : TE := fun σ H Q => ∃ (Γ : Gm) (E : En) (Q0 : RV → En → Prop), Γ.Ok S ∧ Rep Γ E σ H ∧ t E Q0 ∧ ∀ r E', Q0 r E' → ∀ v H', Kq H H' → Rep Γ E' σ H' → RepR Γ E' σ H' v r → Q v H'
def liftT (S : Sg) (t : VTT) : TT := fun σ H Q => ∃ (Γ : Gm) (E : En) (Q0 : Bool → En → Prop), Γ.Ok S ∧ Rep Γ E σ H ∧ t E Q0 ∧ ∀ b E', Q0 b E' → ∀ H', Kq H H' → Rep Γ E' σ H' → Q b H'
def liftA (S : Sg) (t : VTA) : TA := fun σ H Q => ∃ (Γ : Gm) (E : En) (Q0 : List D → En → Prop), Γ.Ok S ∧ Rep Γ E σ H ∧ t E Q0 ∧ ∀ ds E', Q0 ds E' → ∀ vs H', Kq H H' → Rep Γ E' σ H' → Γ.RpL H' vs ds → Q vs H'
abbrev VE (S : Sg) (X : Cx) (e : Expr) (t : VT) : Prop := PE X e (liftV S t)
abbrev BE (S : Sg) (X : Cx) (e : Expr) (t : VT) : Prop := PE X e (liftB S t)
abbrev FE (S : Sg) (X : Cx) (e : Expr) (t : FT) : Prop := PE X e (liftF S t)
abbrev VB (S : Sg) (X : Cx) (e : Expr) (t : VTT) : Prop := PT X e (liftT S t)
abbrev VA (S : Sg) (X : Cx) (es : List Expr) (t : VTA) : Prop := PA X es (liftA S t)
section
variable {X : Cx} {S : Sg} {e a b : Expr}
theorem pe_weak {t t' : TE} (h : PE X e t) (w : ∀ σ H Q, t' σ H Q → t σ H Q) : PE X e t' := ⟨fun pins s σ H Q I q => h.run pins s σ H Q I (w _ _ _ q)⟩
theorem pt_weak {t t' : TT} (h : PT X e t) (w : ∀ σ H Q, t' σ H Q → t σ H Q) : PT X e t' := ⟨fun pins s σ H Q I q => h.run pins s σ H Q I (w _ _ _ q)⟩
theorem pa_weak {es : List Expr} {t t' : TA} (h : PA X es t) (w : ∀ σ H Q, t' σ H Q → t σ H Q) : PA X es t' := ⟨fun pos pins s σ H Q I q => h.run pos pins s σ H Q I (w _ _ _ q)⟩
theorem ps_weak {st : Stmt} {t t' : TS} (h : PS X st t) (w : ∀ D σ H, t' D σ H → t D σ H) : PS X st t' := ⟨fun pins s σ H D I q => h.run pins s σ H D I (w _ _ _ q)⟩
theorem pss_weak {st : List Stmt} {t t' : TS} (h : PSs X st t) (w : ∀ D σ H, t' D σ H → t D σ H) : PSs X st t' := ⟨fun pins s σ H D I q => h.run pins s σ H D I (w _ _ _ q)⟩
/-- what comes may be locked -/
theorem pe_frz {t : TE} (h : PE X e t) : PE X e (fun σ H Q => t σ H fun v H' => Q v H' ∨ ∃ a u, v = .ref a ∧ H' a = some u ∧ Mut (some u) ∧ ∀ o, Q v (upd H' a (.frz o u))) := by
  refine ⟨fun pins s σ H Q I q => ?_⟩
  refine thn (h.run pins s σ H _ I q) fun v s1 ⟨x, H1, I1, r1, q1⟩ => ?_
  rcases q1 with q1 | ⟨a, u, rfl, hu, mu, q1⟩
  · exact ⟨x, H1, I1, r1, q1⟩
  · obtain ⟨o, I2⟩ := I1.lock hu mu
    exact ⟨_, _, I2, r1, q1 o⟩
/-- a thing that a slot owns may be locked ahead -/
theorem pe_lockS {t : TE} (i : Nat) (h : PE X e t) : PE X e (fun σ H Q => t σ H Q ∨ ∃ a u, σ[i]? = some (some (.ref a)) ∧ H a = some u ∧ Mut (some u) ∧ ∀ o, t σ (upd H a (.frz o u)) Q) := by
  refine ⟨fun pins s σ H Q I q => ?_⟩
  rcases q with q | ⟨a, u, _, hu, mu, q⟩
  · exact h.run pins s σ H Q I q
  · obtain ⟨o, I2⟩ := I.lock hu mu
    exact h.run pins s σ _ Q I2 (q o)
end
section
variable {Γ : Gm} {E : En} {σ : L2.St} {H H' : Hp}
/-- a lone thing is written (or locked) -/
theorem Rep.lone (r : Rep Γ E σ H) {p : Addr} {u u' : HO} (hp : H p = some u) (mu : Mut (some u)) (fr : Free Γ p) (lo : Lone E σ p) : Rep Γ E σ (upd H p u') := by
  have nsp : ∀ c, Γ.sp c → c ≠ p := fun c z q => fr.nsp (q ▸ z)
  refine ⟨⟨fun c o n1 n2 hc => ?_, r.base.kq.trans (Kq.upd hp mu), fun t et => ?_, fun P hP => ?_⟩, r.len, few_same r.few r.base.tape (fun t et o h => by rw [upd_ne (nsp t.l (.inl ⟨t, et, .inr rfl⟩))]; exact h), fun j s2 ej => ?_, r.dis⟩
  · rw [upd_ne ?_]
    · exact r.base.ext c o n1 n2 hc
    · rintro rfl
      rcases fr.young with z | z
      · rw [z] at hc; cases hc
      · exact n2 z
  · exact (r.base.tape t et).upd ⟨fun q => nsp t.a (.inl ⟨t, et, .inl rfl⟩) q.symm, fun q => nsp t.l (.inl ⟨t, et, .inr rfl⟩) q.symm⟩
  · obtain ⟨ps, h3, k⟩ := r.base.tabs P hP
    exact ⟨ps, by rw [upd_ne (nsp P (.inr hP))]; exact h3, k⟩
  · obtain ⟨o3, h3, h4⟩ := r.sl j s2 ej
    refine ⟨o3, h3, h4.stay (Kq.upd hp mu) fun a w ow2 eo2 ha => ?_⟩
    rw [upd_ne ?_]
    · exact ha
    · rintro rfl
      rw [eo2] at h3
      exact lo j s2 ej ow2 h3
/-- a slot's own thing is locked -/
def SV.fz : SV → SV
  | .ol ds => .v (.lst ds)
  | .od _ kvs => .v (.dk kvs)
  | s => s
theorem Rep.lock (r : Rep Γ E σ H) {i : Nat} {s : SV} {p : Addr} {u : HO} {o : Obj} (e : E.l[i]? = some s) (ow : s.own = true) (eo : σ[i]? = some (some (.ref p))) (hp : H p = some u) (mu : Mut (some u)) :
    Rep Γ (E.set i s.fz) σ (upd H p (.frz o u)) ∧ ∃ d, s.fz = .v d ∧ Γ.Rp (upd H p (.frz o u)) (.ref p) d := by
  obtain ⟨o1, h1, h2⟩ := r.sl i s e
  rw [eo] at h1
  cases h1
  have kq : Kq H (upd H p (.frz o u)) := Kq.upd hp mu
  have key : ∃ d, s.fz = .v d ∧ Γ.Rp (upd H p (.frz o u)) (.ref p) d := by
    cases s with
    | no => cases ow
    | v d => cases ow
    | ol ds =>
      obtain ⟨a, xs, h3, h4, h5, h6⟩ := h2
      cases h3
      rw [hp] at h4
      cases h4
      exact ⟨_, rfl, .lst ⟨o, upd_same⟩ (RpL.kq kq _ _ h5)⟩
    | od b ds =>
      obtain ⟨a, xs, h3, h4, h5, h6⟩ := h2
      cases h3
      rw [hp] at h4
      cases h4
      exact ⟨_, rfl, .dk (o := o) upd_same (RpK.kq kq _ _ h5)⟩
    | ex b pl => cases ow
  refine ⟨r.wr e ow eo hp mu ?_, key⟩
  obtain ⟨d, e1, e2⟩ := key
  rw [e1]
  exact ⟨_, rfl, e2⟩
theorem RepR.lock {v : V} {x : RV} (r : Rep Γ E σ H) (h : RepR Γ E σ H v x) : (Γ.Rp H v x.d) ∨ ∃ a u, v = .ref a ∧ H a = some u ∧ Mut (some u) ∧ ∀ o, Rep Γ E σ (upd H a (.frz o u)) ∧ Kq H (upd H a (.frz o u)) ∧ Γ.Rp (upd H a (.frz o u)) v x.d := by
  cases x with
  | v d => exact .inl h
  | fl ds =>
    obtain ⟨a, rfl, ⟨a', xs, h3, h4, h5, h6⟩, lo⟩ := h
    cases h3
    have kq : ∀ o, Kq H (upd H a (.frz o (.lst xs))) := fun o => Kq.upd h4 trivial
    exact .inr ⟨a, _, rfl, h4, trivial, fun o => ⟨r.lone h4 trivial h6 lo, kq o, .lst ⟨o, upd_same⟩ (RpL.kq (kq o) _ _ h5)⟩⟩
  | fd ds =>
    obtain ⟨a, rfl, ⟨a', xs, h3, h4, h5, h6, _⟩, lo⟩ := h
    cases h3
    have kq : ∀ o, Kq H (upd H a (.frz o (.dK xs))) := fun o => Kq.upd h4 trivial
    exact .inr ⟨a, _, rfl, h4, trivial, fun o => ⟨r.lone h4 trivial h6 lo, kq o, .dk (o := o) upd_same (RpK.kq (kq o) _ _ h5)⟩⟩
theorem RepS.rpW {o : Option V} {s : SV} {d : D} (h : RepS Γ H o s) (e : s = .v d ∨ (s.own = true ∧ s.fz = .v d)) : ∃ v, o = some v ∧ RpW Γ H v d := by
  rcases e with rfl | ⟨ow, e⟩
  · obtain ⟨v, rfl, h⟩ := h
    exact ⟨v, rfl, .v h⟩
  · cases s with
    | no => cases ow
    | v d => cases ow
    | ol ds =>
      cases e
      obtain ⟨a, xs, rfl, h4, h5, h6⟩ := h
      exact ⟨_, rfl, .l h4 h5⟩
    | od b ds =>
      cases e
      obtain ⟨a, xs, rfl, h4, h5, h6⟩ := h
      exact ⟨_, rfl, .k h4 h5⟩
    | ex b pl => cases ow
end
section
variable {X : Cx} {S : Sg} {e a b : Expr}
/-! ### names, constants -/
def pkD : SV → Option D
  | .no => none
  | .v d => some d
  | .ol ds => some (.lst ds)
  | .od _ kvs => some (.dk kvs)
  | .ex _ _ => none
def peek (E : En) (i : Nat) : Option D := (E.l[i]?).bind pkD
def withD (o : Option D) (Q : D → Prop) : Prop := match o with
  | some d => Q d
  | none => False
def withP (o : Option D) (Q : D → Prop) : Prop := match o with
  | some d => Q d
  | none => False
/-- a name: its value (its own thing is locked from now on) -/
def vName (i : Nat) : VT := fun E Q => match E.l[i]? with
  | some (.v d) => Q d E
  | some (.ol ds) => Q (.lst ds) (E.set i (.v (.lst ds)))
  | some (.od _ kvs) => Q (.dk kvs) (E.set i (.v (.dk kvs)))
  | _ => False
/-- a name, read at once -/
def bName (i : Nat) : VT := fun E Q => withP (peek E i) fun d => Q d E
theorem peek_at {Γ : Gm} {E : En} {σ : L2.St} {H : Hp} {i : Nat} {d : D} (r : Rep Γ E σ H) (e : peek E i = some d) : ∃ v, σ[i]? = some (some v) ∧ RpW Γ H v d := by
  unfold peek at e
  cases h : E.l[i]? with
  | none => rw [h] at e; cases e
  | some s =>
    rw [h] at e
    obtain ⟨o, h1, h2⟩ := r.sl i s h
    obtain ⟨v, rfl, w⟩ := h2.rpW (d := d) (by
      cases s with
      | no => cases e
      | v d => cases e; exact .inl rfl
      | ol ds => cases e; exact .inr ⟨rfl, rfl⟩
      | od b ds => cases e; exact .inr ⟨rfl, rfl⟩
      | ex b pl => cases e)
    exact ⟨v, h1, w⟩
theorem be_name {i : Nat} (h : PE X e (tVar i)) : BE S X e (bName i) := by
  refine pe_weak h ?_
  rintro σ H Q ⟨Γ, E, Q0, ok, r, ht, k⟩
  unfold bName withP at ht
  cases hp : peek E i with
  | none => rw [hp] at ht; exact ht.elim
  | some d =>
    rw [hp] at ht
    obtain ⟨v, h1, w⟩ := peek_at r hp
    exact ⟨v, h1, k d E ht v H (Kq.refl _) r w⟩
theorem ve_name {i : Nat} (h : PE X e (tVar i)) : VE S X e (vName i) := by
  refine pe_weak (pe_frz h) ?_
  rintro σ H Q ⟨Γ, E, Q0, ok, r, ht, k⟩
  unfold vName at ht
  cases hE : E.l[i]? with
  | none => rw [hE] at ht; exact ht.elim
  | some s =>
    rw [hE] at ht
    obtain ⟨o, h1, h2⟩ := r.sl i s hE
    have own : s.own = true → Q0 (match s.fz with | .v d => d | _ => .non) (E.set i s.fz) → tVar i σ H fun v H' => Q v H' ∨ ∃ a u, v = .ref a ∧ H' a = some u ∧ Mut (some u) ∧ ∀ o, Q v (upd H' a (.frz o u)) := by
      intro ow hq
      obtain ⟨p, u, rfl, hu, mu, fr⟩ := h2.own_at ow
      refine ⟨_, h1, .inr ⟨p, u, rfl, hu, mu, fun o => ?_⟩⟩
      obtain ⟨r2, d, e1, e2⟩ := r.lock (o := o) hE ow h1 hu mu
      rw [e1] at hq r2
      exact k d _ hq _ _ (Kq.upd hu mu) r2 e2
    cases s with
    | no => exact ht.elim
    | v d =>
      obtain ⟨v, rfl, hv⟩ := h2
      exact ⟨v, h1, .inl (k d E ht v H (Kq.refl _) r hv)⟩
    | ol ds => exact own rfl ht
    | od b kvs => exact own rfl ht
    | ex b pl => exact ht.elim
def vC (d : D) : VT := fun E Q => Q d E
theorem ve_c {v : V} {d : D} (h : PE X e (tC v)) (r : ∀ Γ H, Gm.Rp Γ H v d) : VE S X e (vC d) := by
  refine pe_weak h ?_
  rintro σ H Q ⟨Γ, E, Q0, ok, rp, ht, k⟩
  exact k d E ht v H (Kq.refl _) rp (r Γ H)
theorem ve_int {i j pos} : VE S X (.Constant (.int i) j pos) (vC (.int i)) := ve_c pe_int fun _ _ => .int i
theorem ve_bl {b j pos} : VE S X (.Constant (.bool b) j pos) (vC (.bl b)) := ve_c pe_bl fun _ _ => .bl b
theorem ve_non {j pos} : VE S X (.Constant .none j pos) (vC .non) := ve_c pe_non fun _ _ => .non
theorem ve_str {x j pos} : VE S X (.Constant (.str x) j pos) (vC (.str x)) := ve_c pe_str fun _ _ => .str x
/-! ### from one judgement to another -/
/-- what is new is locked -/
def fz (t : FT) : VT := fun E Q => t E fun r E' => Q r.d E'
def ff (t : VT) : FT := fun E Q => t E fun d E' => Q (.v d) E'
theorem ve_of {t : FT} (h : FE S X e t) : VE S X e (fz t) := by
  refine pe_weak (pe_frz h) ?_
  rintro σ H Q ⟨Γ, E, Q0, ok, r, ht, k⟩
  refine ⟨Γ, E, _, ok, r, ht, fun x E' hq v H' kq r' hv => ?_⟩
  rcases hv.lock r' with h1 | ⟨p, u, rfl, hu, mu, h1⟩
  · exact .inl (k _ _ hq _ _ kq r' h1)
  · exact .inr ⟨p, u, rfl, hu, mu, fun o => k _ _ hq _ _ (kq.trans (h1 o).2.1) (h1 o).1 (h1 o).2.2⟩
theorem fe_of {t : VT} (h : VE S X e t) : FE S X e (ff t) := by
  refine pe_weak h ?_
  rintro σ H Q ⟨Γ, E, Q0, ok, r, ht, k⟩
  exact ⟨Γ, E, _, ok, r, ht, fun d E' hq v H' kq r' hv => k _ _ hq v H' kq r' hv⟩
theorem be_of {t : VT} (h : VE S X e t) : BE S X e t := by
  refine pe_weak h ?_
  rintro σ H Q ⟨Γ, E, Q0, ok, r, ht, k⟩
  exact ⟨Γ, E, _, ok, r, ht, fun d E' hq v H' kq r' hv => k _ _ hq v H' kq r' (.v hv)⟩
/-! ### operators -/
abbrev VO := D → D → (RV → Prop) → Prop
/-- new things -/
def RpN (Γ : Gm) (H H' : Hp) (v : V) : RV → Prop
  | .v d => Γ.Rp H' v d
  | .fl ds => ∃ a xs, v = .ref a ∧ H a = none ∧ H' a = some (.lst xs) ∧ Γ.RpL H' xs ds
  | .fd kvs => ∃ a kv, v = .ref a ∧ H a = none ∧ H' a = some (.dK kv) ∧ RpK Γ.K Γ.tp H' kv kvs
theorem RpN.rep {Γ : Gm} {E : En} {σ : L2.St} {H H' : Hp} {v : V} {x : RV} (r : Rep Γ E σ H) (s : Same H H') (h : RpN Γ H H' v x) : RepR Γ E σ H' v x := by
  cases x with
  | v d => exact h
  | fl ds =>
    obtain ⟨p, xs, rfl, n, h1, h2⟩ := h
    obtain ⟨f, l⟩ := r.fresh n
    exact ⟨p, rfl, ⟨p, xs, rfl, h1, h2, f⟩, l⟩
  | fd ds =>
    obtain ⟨p, xs, rfl, n, h1, h2⟩ := h
    obtain ⟨f, l⟩ := r.fresh n
    exact ⟨p, rfl, ⟨p, xs, rfl, h1, h2, f, fun z => by cases z⟩, l⟩
/-- the second operand may be read at once -/
structure OpV (S : Sg) (X : Cx) (f : Value → Value → Sem Value) (g : VO) : Prop where
  ex : ∃ r : R2, OpR X f r ∧ ∀ (Γ : Gm) (H : Hp) (x y : V) (d e : D) (Q : VK) (Q0 : RV → Prop), Γ.K = S.K → RpW Γ H x d → RpW Γ H y e → g d e Q0 → (∀ z, Q0 z → ∀ v H', Same H H' → RpN Γ H H' v z → Q v H') → r x y H Q
def vOp (g : VO) (ta tb : VT) : FT := fun E Q => ta E fun d E1 => tb E1 fun e E2 => g d e fun z => Q z E2
theorem fe_op {op : Operator} {g : VO} {ta tb : VT} {pos : Pos} (ho : OpV S X (binaryOp op) g) (ha : VE S X a ta) (hb : BE S X b tb) : FE S X (.BinOp a op b pos) (vOp g ta tb) := by
  obtain ⟨r, h1, h2⟩ := ho.ex
  refine pe_weak (pe_op h1 ha hb) ?_
  rintro σ H Q ⟨Γ, E, Q0, ok, rp, ht, k⟩
  refine ⟨Γ, E, _, ok, rp, ht, fun d E1 hq x H1 kq1 rp1 hx => ?_⟩
  refine ⟨Γ, E1, _, ok, rp1, hq, fun e E2 hq2 y H2 kq2 rp2 hy => ?_⟩
  refine h2 Γ H2 x y d e _ _ ok.k (.v (Rp.kq kq2 _ _ hx)) hy hq2 fun z hz v H' sm hn => ?_
  exact k _ _ hz v H' ((kq1.trans kq2).trans (Kq.same sm)) (rp2.same sm) (hn.rep rp2 sm)
def vCmp (g : VO) (ta tb : VT) : VT := fun E Q => ta E fun d E1 => tb E1 fun e E2 => g d e fun z => Q z.d E2
theorem fe_cmp {op : CmpOp} {g : VO} {ta tb : VT} {pos : Pos} (ho : OpV S X (compareOp op) g) (ha : VE S X a ta) (hb : BE S X b tb) (hm : behindInMarks op b = false) : FE S X (.Compare a [op] [b] pos) (vOp g ta tb) := by
  obtain ⟨r, h1, h2⟩ := ho.ex
  refine pe_weak (pe_cmpR h1 ha hb hm) ?_
  rintro σ H Q ⟨Γ, E, Q0, ok, rp, ht, k⟩
  refine ⟨Γ, E, _, ok, rp, ht, fun d E1 hq x H1 kq1 rp1 hx => ?_⟩
  refine ⟨Γ, E1, _, ok, rp1, hq, fun e E2 hq2 y H2 kq2 rp2 hy => ?_⟩
  refine h2 Γ H2 x y d e _ _ ok.k (.v (Rp.kq kq2 _ _ hx)) hy hq2 fun z hz v H' sm hn => ?_
  exact k _ _ hz v H' ((kq1.trans kq2).trans (Kq.same sm)) (rp2.same sm) (hn.rep rp2 sm)
/-! ### tests -/
def asB (d : D) (Q : Bool → Prop) : Prop := match d with
  | .bl b => Q b
  | _ => False
def vTest (t : VT) : VTT := fun E Q => t E fun d E' => asB d fun b => Q b E'
theorem asB_inv {d : D} {Q : Bool → Prop} (h : asB d Q) : ∃ b, d = .bl b ∧ Q b := by
  cases d with
  | bl b => exact ⟨b, rfl, h⟩
  | _ => exact h.elim
theorem vb_val {t : VT} (h : VE S X e t) (he : ∀ whole, isTrue e X.env whole = (do let v ← whole; standAt e.pos; holding [v] (truthy v)) := by intro _; rfl) : VB S X e (vTest t) := by
  refine pt_weak (pt_val h he) ?_
  rintro σ H Q ⟨Γ, E, Q0, ok, rp, ht, k⟩
  refine ⟨Γ, E, _, ok, rp, ht, fun d E1 hq x H1 kq1 rp1 hx => ?_⟩
  obtain ⟨b, rfl, hb⟩ := asB_inv hq
  cases hx
  exact ⟨b, rfl, k _ _ hb _ kq1 rp1⟩
theorem vb_cmp {op : CmpOp} {g : VO} {ta tb : VT} {pos : Pos} (ho : OpV S X (compareOp op) g) (ha : VE S X a ta) (hb : BE S X b tb) (hm : behindInMarks op b = false) : VB S X (.Compare a [op] [b] pos) (vTest (fz (vOp g ta tb))) := by
  obtain ⟨r, h1, h2⟩ := ho.ex
  refine pt_weak (pt_cmpR h1 ha hb hm) ?_
  rintro σ H Q ⟨Γ, E, Q0, ok, rp, ht, k⟩
  refine ⟨Γ, E, _, ok, rp, ht, fun d E1 hq x H1 kq1 rp1 hx => ?_⟩
  refine ⟨Γ, E1, _, ok, rp1, hq, fun e E2 hq2 y H2 kq2 rp2 hy => ?_⟩
  refine h2 Γ H2 x y d e _ _ ok.k (.v (Rp.kq kq2 _ _ hx)) hy hq2 fun z hz v H' sm hn => ?_
  obtain ⟨b, e1, hb⟩ := asB_inv hz
  cases z with
  | v d =>
    cases e1
    cases hn
    exact ⟨b, rfl, k _ _ hb _ ((kq1.trans kq2).trans (Kq.same sm)) (rp2.same sm)⟩
  | fl ds => cases e1
  | fd ds => cases e1
/-- truth of any value -/
def truD : D → Option Bool
  | .non => some false
  | .bl b => some b
  | .int i => some (i != 0)
  | .str x => if x.length ≤ sizeLine then some ((x.length : Int) != 0) else none
  | .tup xs => some (!xs.isEmpty)
  | .ptp _ => none
  | .lst xs => some (!xs.isEmpty)
  | .dk _ => none
  | .tape => none
  | .ty _ => none
def withB (o : Option Bool) (Q : Bool → Prop) : Prop := match o with
  | some d => Q d
  | none => False
def vTru (t : VT) : VTT := fun E Q => t E fun d E' => withB (truD d) fun b => Q b E'
theorem empty_len {α β : Type} {xs : List α} {ys : List β} (h : xs.length = ys.length) : xs.isEmpty = ys.isEmpty := by
  cases xs <;> cases ys <;> first | rfl | (simp at h)
theorem RpK.len {K : PySem.W.Frag} {tp : Option Tp} {H : Hp} {kv : List (Key × V)} {ds : List (Key × D)} (h : RpK K tp H kv ds) : kv.length = ds.length := by
  have := congrArg List.length h.keys
  simpa using this
theorem tru_of {Γ : Gm} {H : Hp} {v : V} {d : D} {b : Bool} (ok : Γ.K = X.K) (h : RpW Γ H v d) (e : truD d = some b) : TruV X.K v H b := by
  cases h with
  | l h1 h2 =>
    cases e
    exact .inl ⟨_, .of h1, by rw [empty_len h2.len]⟩
  | k h1 h2 => cases e
  | v h =>
    cases d with
    | non => cases h; cases e; exact rfl
    | bl b => cases h; cases e; exact rfl
    | int i => cases h; cases e; exact rfl
    | str x =>
      cases h
      have e : (if x.length ≤ sizeLine then some ((x.length : Int) != 0) else none) = some b := e
      by_cases hl : x.length ≤ sizeLine
      · rw [if_pos hl] at e; cases e; exact ⟨hl, rfl⟩
      · rw [if_neg hl] at e; cases e
    | tup ds =>
      obtain ⟨p, xs, rfl, h1, h2⟩ := h.tup_inv
      cases e
      exact .inr (.inl ⟨_, by rw [← ok]; exact h1, by rw [empty_len h2.len]⟩)
    | lst ds =>
      obtain ⟨p, xs, rfl, h1, h2⟩ := h.lst_inv
      cases e
      exact .inl ⟨_, by rw [← ok]; exact h1.sq, by rw [empty_len h2.len]⟩
    | dk ds =>
      cases e
    | ptp ds => cases e
    | tape => cases e
    | ty n => cases e
theorem withB_inv {d : Option Bool} {Q : Bool → Prop} (h : withB d Q) : ∃ b, d = some b ∧ Q b := by
  cases d with
  | none => exact h.elim
  | some b => exact ⟨b, rfl, h⟩
theorem vb_tru {t : VT} (hK : S.K = X.K) (h : BE S X e t) (he : ∀ whole, isTrue e X.env whole = (do let v ← whole; standAt e.pos; holding [v] (truthy v)) := by intro _; rfl) : VB S X e (vTru t) := by
  refine pt_weak (pt_truth h he) ?_
  rintro σ H Q ⟨Γ, E, Q0, ok, rp, ht, k⟩
  refine ⟨Γ, E, _, ok, rp, ht, fun d E1 hq x H1 kq1 rp1 hx => ?_⟩
  obtain ⟨b, e1, hb⟩ := withB_inv hq
  exact ⟨b, tru_of (ok.k.trans hK) hx e1, k _ _ hb _ kq1 rp1⟩
def vAnd (t u : VTT) : VTT := fun E Q => t E fun c E1 => (c = true → u E1 Q) ∧ (c = false → Q false E1)
def vOr (t u : VTT) : VTT := fun E Q => t E fun c E1 => (c = true → Q true E1) ∧ (c = false → u E1 Q)
def vNot (t : VTT) : VTT := fun E Q => t E fun c E1 => Q (!c) E1
abbrev VW (S : Sg) (X : Cx) (e : Expr) (t : VTT) : Prop := PW X e (liftT S t)
theorem pw_weak {t t' : TT} (h : PW X e t) (w : ∀ σ H Q, t' σ H Q → t σ H Q) : PW X e t' := ⟨fun wh pins s σ H Q I q => h.run wh pins s σ H Q I (w _ _ _ q)⟩
variable {rest : List Expr} {pos : Pos}
theorem vw_and1 {t : VTT} (ha : VB S X a t) : VW S X (.BoolOp .And [a] pos) t := pw_and1 ha
theorem vw_or1 {t : VTT} (ha : VB S X a t) : VW S X (.BoolOp .Or [a] pos) t := pw_or1 ha
theorem vw_and {t u : VTT} (ha : VB S X a t) (hb : VW S X (.BoolOp .And (b :: rest) pos) u) : VW S X (.BoolOp .And (a :: b :: rest) pos) (vAnd t u) := by
  refine pw_weak (pw_and ha hb) ?_
  rintro σ H Q ⟨Γ, E, Q0, ok, rp, ht, k⟩
  refine ⟨Γ, E, _, ok, rp, ht, fun c E1 hq H1 kq1 rp1 => ?_⟩
  cases c with
  | true =>
    refine iteT ?_
    exact ⟨Γ, E1, _, ok, rp1, hq.1 rfl, fun c E2 hq2 H2 kq2 rp2 => k _ _ hq2 _ (kq1.trans kq2) rp2⟩
  | false =>
    refine iteF ?_
    exact k _ _ (hq.2 rfl) _ kq1 rp1
theorem vw_or {t u : VTT} (ha : VB S X a t) (hb : VW S X (.BoolOp .Or (b :: rest) pos) u) : VW S X (.BoolOp .Or (a :: b :: rest) pos) (vOr t u) := by
  refine pw_weak (pw_or ha hb) ?_
  rintro σ H Q ⟨Γ, E, Q0, ok, rp, ht, k⟩
  refine ⟨Γ, E, _, ok, rp, ht, fun c E1 hq H1 kq1 rp1 => ?_⟩
  cases c with
  | true =>
    refine iteT ?_
    exact k _ _ (hq.1 rfl) _ kq1 rp1
  | false =>
    refine iteF ?_
    exact ⟨Γ, E1, _, ok, rp1, hq.2 rfl, fun c E2 hq2 H2 kq2 rp2 => k _ _ hq2 _ (kq1.trans kq2) rp2⟩
theorem vb_w {t : VTT} (h : VW S X e t) : VB S X e t := h.pt
theorem vb_not {t : VTT} (ha : VB S X a t) : VB S X (.UnaryOp .Not a pos) (vNot t) := by
  refine pt_weak (pt_not ha) ?_
  rintro σ H Q ⟨Γ, E, Q0, ok, rp, ht, k⟩
  exact ⟨Γ, E, _, ok, rp, ht, fun c E1 hq H1 kq1 rp1 => k _ _ hq _ kq1 rp1⟩
/-- and, or, not as values (all but the last are truths) -/
def vAndV (t u : VT) : VT := fun E Q => t E fun d E1 => asB d fun c => (c = true → u E1 Q) ∧ (c = false → Q (.bl false) E1)
def vOrV (t u : VT) : VT := fun E Q => t E fun d E1 => asB d fun c => (c = true → Q (.bl true) E1) ∧ (c = false → u E1 Q)
def vNotV (t : VT) : VT := fun E Q => t E fun d E1 => asB d fun c => Q (.bl (!c)) E1
theorem ve_one {op} {t : VT} (h : VE S X a t) : VE S X (.BoolOp op [a] pos) t := pe_one h
theorem ve_and {t u : VT} (ha : VE S X a t) (hb : VE S X (.BoolOp .And (b :: rest) pos) u) : VE S X (.BoolOp .And (a :: b :: rest) pos) (vAndV t u) := by
  refine pe_weak (pe_and ha hb) ?_
  rintro σ H Q ⟨Γ, E, Q0, ok, rp, ht, k⟩
  refine ⟨Γ, E, _, ok, rp, ht, fun d E1 hq v H1 kq1 rp1 hv => ?_⟩
  obtain ⟨c, rfl, hc⟩ := asB_inv hq
  cases hv
  refine ⟨c, rfl, ?_⟩
  cases c with
  | true => exact iteT ⟨Γ, E1, _, ok, rp1, hc.1 rfl, fun c E2 hq2 v2 H2 kq2 rp2 hv2 => k _ _ hq2 _ _ (kq1.trans kq2) rp2 hv2⟩
  | false => exact iteF (k _ _ (hc.2 rfl) _ _ kq1 rp1 (.bl false))
theorem ve_or {t u : VT} (ha : VE S X a t) (hb : VE S X (.BoolOp .Or (b :: rest) pos) u) : VE S X (.BoolOp .Or (a :: b :: rest) pos) (vOrV t u) := by
  refine pe_weak (pe_or ha hb) ?_
  rintro σ H Q ⟨Γ, E, Q0, ok, rp, ht, k⟩
  refine ⟨Γ, E, _, ok, rp, ht, fun d E1 hq v H1 kq1 rp1 hv => ?_⟩
  obtain ⟨c, rfl, hc⟩ := asB_inv hq
  cases hv
  refine ⟨c, rfl, ?_⟩
  cases c with
  | false => exact iteF ⟨Γ, E1, _, ok, rp1, hc.2 rfl, fun c E2 hq2 v2 H2 kq2 rp2 hv2 => k _ _ hq2 _ _ (kq1.trans kq2) rp2 hv2⟩
  | true => exact iteT (k _ _ (hc.1 rfl) _ _ kq1 rp1 (.bl true))
theorem ve_not {t : VT} (ha : VE S X a t) : VE S X (.UnaryOp .Not a pos) (vNotV t) := by
  refine pe_weak (pe_not ha) ?_
  rintro σ H Q ⟨Γ, E, Q0, ok, rp, ht, k⟩
  refine ⟨Γ, E, _, ok, rp, ht, fun d E1 hq v H1 kq1 rp1 hv => ?_⟩
  obtain ⟨c, rfl, hc⟩ := asB_inv hq
  cases hv
  exact ⟨c, rfl, k _ _ hc _ _ kq1 rp1 (.bl _)⟩
/-- an expression by a test -/
def vIfE (c : VTT) (t u : VT) : VT := fun E Q => c E fun b E1 => (b = true → t E1 Q) ∧ (b = false → u E1 Q)
theorem ve_if {c : Expr} {tc : VTT} {t u : VT} (hc : VB S X c tc) (ha : VE S X a t) (hb : VE S X b u) : VE S X (.IfExp c a b pos) (vIfE tc t u) := by
  refine pe_weak (pe_ifExp hc ha hb) ?_
  rintro σ H Q ⟨Γ, E, Q0, ok, rp, ht, k⟩
  refine ⟨Γ, E, _, ok, rp, ht, fun c E1 hq H1 kq1 rp1 => ?_⟩
  cases c with
  | true => exact iteT ⟨Γ, E1, _, ok, rp1, hq.1 rfl, fun d E2 hq2 v2 H2 kq2 rp2 hv2 => k _ _ hq2 _ _ (kq1.trans kq2) rp2 hv2⟩
  | false => exact iteF ⟨Γ, E1, _, ok, rp1, hq.2 rfl, fun d E2 hq2 v2 H2 kq2 rp2 hv2 => k _ _ hq2 _ _ (kq1.trans kq2) rp2 hv2⟩
/-! ### arguments, displays -/
def aNil : VTA := fun E Q => Q [] E
def aCons (t : VT) (u : VTA) : VTA := fun E Q => t E fun d E1 => u E1 fun ds E2 => Q (d :: ds) E2
variable {es : List Expr}
theorem va_nil : VA S X [] aNil := by
  refine pa_weak pa_nil ?_
  rintro σ H Q ⟨Γ, E, Q0, ok, rp, ht, k⟩
  exact k _ _ ht _ _ (Kq.refl _) rp .nil
theorem va_cons {t : VT} {u : VTA} (ha : VE S X e t) (hr : VA S X es u) (hs : starEach (e :: es) X.env = (false, eval e X.env) :: starEach es X.env := by rfl) : VA S X (e :: es) (aCons t u) := by
  refine pa_weak (pa_cons ha hr hs) ?_
  rintro σ H Q ⟨Γ, E, Q0, ok, rp, ht, k⟩
  refine ⟨Γ, E, _, ok, rp, ht, fun d E1 hq v H1 kq1 rp1 hv => ?_⟩
  refine ⟨Γ, E1, _, ok, rp1, hq, fun ds E2 hq2 vs H2 kq2 rp2 hvs => ?_⟩
  exact k _ _ hq2 _ _ (kq1.trans kq2) rp2 (.cons (Rp.kq kq2 _ _ hv) hvs)
def vTup (t : VTA) : VT := fun E Q => t E fun ds E1 => ds.length ≤ 1000 ∧ Q (.tup ds) E1
def vLst (t : VTA) : FT := fun E Q => t E fun ds E1 => ds.length ≤ 1000 ∧ Q (.fl ds) E1
theorem ve_tup {x1} {t : VTA} (h : VA S X es t) : VE S X (.Tuple es x1 pos) (vTup t) := by
  refine pe_weak (pe_tup h) ?_
  rintro σ H Q ⟨Γ, E, Q0, ok, rp, ht, k⟩
  refine ⟨Γ, E, _, ok, rp, ht, fun ds E1 hq vs H1 kq1 rp1 hvs => ⟨line (by rw [hvs.len]; exact hq.1), fun p np => ?_⟩⟩
  have sm := same_upd (o := .tup vs) np
  exact k _ _ hq.2 _ _ (kq1.trans (Kq.same sm)) (rp1.same sm) (.tup (.of upd_same) (RpL.kq (Kq.same sm) _ _ hvs))
theorem fe_lst {t : VTA} (h : VA S X es t) : FE S X (.List es pos) (vLst t) := by
  refine pe_weak (pe_lst h) ?_
  rintro σ H Q ⟨Γ, E, Q0, ok, rp, ht, k⟩
  refine ⟨Γ, E, _, ok, rp, ht, fun ds E1 hq vs H1 kq1 rp1 hvs => ⟨line (by rw [hvs.len]; exact hq.1), fun p np => ?_⟩⟩
  have sm := same_upd (o := .lst vs) np
  refine k _ _ hq.2 _ _ (kq1.trans (Kq.same sm)) (rp1.same sm) (RpN.rep (x := .fl ds) rp1 sm ⟨p, vs, rfl, np, upd_same, RpL.kq (Kq.same sm) _ _ hvs⟩)
end
end Va

set_option Elab.async false
set_option linter.all false
set_option maxRecDepth 100000
set_option maxHeartbeats 4000000
namespace Ind
open PySem PySem.Spec PyProof.Rows L2 IndG
/-- a tuple of targets in another scope -/
theorem pg_tupK {X : Cx} {K : PySem.W.Frag} {es : List Expr} {t : TGs} {k : Nat} {pos : Pos} (n : Nat) (hK : X.K = K) (hc : X.calm = true) (h : PGs X es t) (hn : (assignEach es X.env).length = n) (hst : (assignEach es X.env).findIdx? (·.1) = none) : PG X (.Tuple es k pos) (gTup K n t) := by
  subst hK
  exact pg_tup hc h hn hst
/-- repr of a truth -/
theorem call_reprB {X : Cx} : CallR X (.builtin "repr") (fun xs H Q => ∃ b : Bool, xs = [.bl b] ∧ Q (.str (if b then "True" else "False")) H) := by
  intro pins s σ H xs us Q I r h
  obtain ⟨b, rfl, q⟩ := h
  obtain ⟨u, rfl, ru⟩ := vals1 r
  cases (show u = Value.bool b from ru)
  exact PySem.P.repr_of_bool ⟨.str (if b then "True" else "False"), H, I.tok _, ⟨_, rfl⟩, q⟩
theorem boot_all : bootBuiltins "all" = some (.builtin "all") := by first | rfl | decide | exact PyProof.Rows.Boot.«all»
/-- a def whose code object is known -/
structure FunC (K : PySem.W.Frag) (x qual : Str) (st : Stmt) (f : Addr) (fd : FuncData) (c : Addr) : Prop where
  ex : ∃ (oc : Value) (od : Option Addr) (kV doc pm : Value) (an : Option Addr) (ct : Value) (osl : Array (Option Value)),
    fd = PySem.W.fnOf x qual (defArgs st) (defBody st) (defScope st) .none kV doc pm an (.ref c) ct ∧ K.lookup f = some ⟨oc, od, .func fd, osl⟩ ∧ PySem.W.codeIn K (.ref c) qual = true
theorem FunC.okC {P : Program} {w : World} {K : PySem.W.Frag} {mg : Str → Option Value} {base : Heap} {x qual : Str} {st : Stmt} {f c : Addr} {fd : FuncData} {N ps : List Str} {k : Nat} {sp : Sp} (F : FunC K x qual st f fd c) (S : FnScope N ps (defScope st))
    (len : ∀ vs H Q E, sp vs H Q E → vs.length = ps.length)
    (body : ∀ (A : Around) (outer : List Env) (s : Shared) (H : Hp) (vs : List V) (Q : VK) (E : XK), Room k (A.deeper (envOfC qual (defScope st) s.heap.objs.size f (.ref c))) → sp vs H Q E →
      ∃ t, PSs (cxOf CX0 P w K mg base N qual (defScope st) f (.ref c) A outer s H E).nox (defBody st) t ∧ t { nx := fun _ H' => Q .non H', rt := Q } (start N vs) H) : FnOk P w K mg base CX0 (k + 1) f fd ps sp := by
  obtain ⟨oc, od, kV, doc, pm, an, ct, osl, rfl, lk, hcd⟩ := F.ex
  refine fn_of lk hcd S len fun A outer s H vs Q E hr h => ?_
  obtain ⟨t, ht, q⟩ := body A outer s H vs Q E hr h
  exact ⟨t, ht.nox, q⟩
/-! ### tables and rows -/
structure Tb where
  name : S
  cols : List (S × Bool)
  key : PyData
  limit : Int
def cwD (c : S × Bool) : PyData := .tuple [.str c.1, .str (wordS c.2)]
def tbD (t : Tb) : PyData := .tuple [.str t.name, .tuple (t.cols.map cwD), t.key, .int t.limit, .tuple [], .tuple []]
def scD (ts : List Tb) : PyData := .tuple [.tuple (ts.map tbD), .tuple [], .tuple []]
def TbOk (t : Tb) : Prop := tuplesOnly t.key = true
theorem tO_cw (c : S × Bool) : tuplesOnly (cwD c) = true := rfl
theorem tO_cws (cs : List (S × Bool)) : tuplesOnlyAll (cs.map cwD) = true := tO_all _ tO_cw cs
theorem tO_tb {t : Tb} (h : TbOk t) : tuplesOnly (tbD t) = true := by
  show (true && (tuplesOnlyAll (t.cols.map cwD) && (tuplesOnly t.key && (true && (true && (true && true)))))) = true
  rw [tO_cws, show tuplesOnly t.key = true from h]
  rfl
theorem tO_tbs : ∀ {ts : List Tb}, (∀ t ∈ ts, TbOk t) → tuplesOnlyAll (ts.map tbD) = true
  | [], _ => rfl
  | t :: r, h => by
    show (tuplesOnly (tbD t) && tuplesOnlyAll (r.map tbD)) = true
    rw [tO_tb (h t (List.mem_cons_self ..)), tO_tbs (fun u hu => h u (List.mem_cons_of_mem _ hu))]
    rfl
theorem tO_sc {ts : List Tb} (h : ∀ t ∈ ts, TbOk t) : tuplesOnly (scD ts) = true := by
  show (tuplesOnlyAll (ts.map tbD) && (true && (true && true))) = true
  rw [tO_tbs h]
  rfl
/-- a value that may stand in a row -/
def Pv : V → Prop
  | .int _ => True
  | .str _ => True
  | _ => False
def fitsB (v : V) (b : Bool) : Bool := match v with
  | .int i => !b && (decide (-1000000 ≤ i) && decide (i ≤ 1000000))
  | .str _ => b
  | _ => false
def rowFits (vs : List V) (cs : List (S × Bool)) : Bool := decide (vs.length = cs.length) && (vs.zip cs).all fun p => fitsB p.1 p.2.2
def spFits : Sp := fun vs H Q _ => ∃ (v : V) (b : Bool), vs = [v, .str (wordS b)] ∧ Pv v ∧ Q (.bl (fitsB v b)) H
def spFind (K : PySem.W.Frag) : Sp := fun vs H Q _ => ∃ (v : V) (ts : List Tb) (t : Tb), vs = [v, .str t.name] ∧ Dp K H v (scD ts) ∧ (ts.map (·.name)).Nodup ∧ t ∈ ts ∧ ∀ u, Dp K H u (tbD t) → Q u H
/-- all but the tape and the table of can_store stands -/
structure Mv (P : Addr) (H H' : Hp) : Prop where
  st : ∀ b o, b ≠ P → H b = some o → H' b = some o
  tab : GxR.TabG H' P
def spCan (K : PySem.W.Frag) (P : Addr) : Sp := fun xs H Q _ => ∃ (v r : V) (ts : List Tb) (t : Tb) (vs : List V), xs = [v, .str t.name, r] ∧ Dp K H v (scD ts) ∧ (∀ t ∈ ts, TbOk t) ∧ (ts.map (·.name)).Nodup ∧ t ∈ ts ∧ RowAt K H r vs ∧ (∀ v ∈ vs, Pv v) ∧ GxR.TabG H P ∧ vs.length ≤ 1000 ∧
  ∀ H', Mv P H H' → Q (.bl (rowFits vs t.cols)) H'
theorem Mv.kp {P : Addr} {H H' : Hp} (t : GxR.TabG H P) (m : Mv P H H') : Kp H H' := by
  obtain ⟨ps, hp, _⟩ := t
  refine ⟨fun c x h => m.st _ _ ?_ h, fun c o x h => m.st _ _ ?_ h⟩ <;> (intro e; rw [e, hp] at h; cases h)
theorem Mv.of {P : Addr} {H H' : Hp} (t : GxR.Tabbed P H H') : Mv P H H' := ⟨fun b o n h => by rw [t.2 b n]; exact h, t.1⟩
theorem Mv.refl {P : Addr} {H : Hp} (t : GxR.TabG H P) : Mv P H H := ⟨fun _ _ _ h => h, t⟩
theorem Mv.trans {P : Addr} {H H1 H2 : Hp} (a : Mv P H H1) (b : Mv P H1 H2) : Mv P H H2 := ⟨fun c o n h => b.st c o n (a.st c o n h), b.tab⟩
theorem Mv.new {P a : Addr} {H H' : Hp} {o : HO} (m : Mv P H H') (n : H' a = none) : Mv P H (L2.upd H' a o) := by
  refine ⟨fun b u nb h => ?_, ?_⟩
  · have e := m.st b u nb h
    rw [upd_ne (ne_of_none e n)]; exact e
  · obtain ⟨ps, hp, t⟩ := m.tab
    exact ⟨ps, by rw [upd_ne (ne_of_none hp n)]; exact hp, t⟩
def fitAt (vs : List V) (cs : List (S × Bool)) (j : Nat) : Bool := match (vs.zip cs)[j]? with
  | some p => fitsB p.1 p.2.2
  | none => true
theorem fit_all (vs : List V) (cs : List (S × Bool)) (h : vs.length = cs.length) : (List.range vs.length).all (fitAt vs cs) = rowFits vs cs := by
  unfold rowFits
  rw [decide_eq_true h, Bool.true_and]
  have lz : (vs.zip cs).length = vs.length := by rw [List.length_zip, ← h, Nat.min_self]
  rw [Bool.eq_iff_iff, List.all_eq_true, List.all_eq_true]
  constructor
  · intro a p hp
    obtain ⟨j, hj, e⟩ := List.getElem_of_mem hp
    have := a j (List.mem_range.mpr (by omega))
    unfold fitAt at this
    rw [List.getElem?_eq_getElem hj, e] at this
    exact this
  · intro a j hj
    have hj := List.mem_range.mp hj
    unfold fitAt
    rw [List.getElem?_eq_getElem (show j < (vs.zip cs).length by omega)]
    exact a _ (List.getElem_mem _)
theorem fit_at {vs : List V} {cs : List (S × Bool)} {j : Nat} {v : V} {c : S × Bool} (h1 : vs[j]? = some v) (h2 : cs[j]? = some c) : fitAt vs cs j = fitsB v c.2 := by
  unfold fitAt
  rw [show (vs.zip cs)[j]? = some (v, c) from List.getElem?_zip_eq_some.mpr ⟨h1, h2⟩]
def spNamesN : Sp := fun vs H Q _ => ∃ (t : Tp) (m : Int), vs = [.ref t.a, .int m] ∧ TapeAt H t ∧ (0 ≤ m ∧ m ≤ 10) ∧ ∀ H' p (ns : List S), Fz t.a H H' → TapeAt H' t → H p = none → H' p = some (.lst (ns.map V.str)) → ns.Nodup → ns.length ≤ m.toNat → (∀ n ∈ ns, TxtOk n) → (0 < m → ns ≠ []) → Q (.ref p) H'
def cwK (c : S × Bool) : Col := (c.1, if c.2 then none else some 1000000)
def spKinds (K : PySem.W.Frag) : Sp := fun vs H Q _ => ∃ (v : V) (cs : List (S × Bool)), vs = [v] ∧ Dp K H v (.tuple (cs.map cwD)) ∧ cs.length ≤ 10 ∧ ∀ H' u, Same H H' → Dp K H' u (.tuple (cs.map fun c => colD (cwK c))) → Q u H'
def spRow (K : PySem.W.Frag) : Sp := fun vs H Q _ => ∃ (t : Tp) (v : V) (cs : List (S × Bool)), vs = [.ref t.a, v] ∧ TapeAt H t ∧ Dp K H v (.tuple (cs.map fun c => colD (cwK c))) ∧ cs.length ≤ 10 ∧ ∀ H' u us, Fz t.a H H' → TapeAt H' t → RowAt K H' u us → (∀ x ∈ us, Pv x) → us.length = cs.length → Q u H'
def spSome (K : PySem.W.Frag) : Sp := fun vs H Q _ => ∃ (t : Tp) (p : Addr) (ps : List Addr) (cs : List (S × Bool)), vs = [.ref t.a, .ref p] ∧ TapeAt H t ∧ p ≠ t.a ∧ H p = some (.lst (ps.map V.ref)) ∧ DpAll K H (ps.map V.ref) (cs.map cwD) ∧ cs ≠ [] ∧ cs.length ≤ 10 ∧
  ∀ H' u (ds : List (S × Bool)), Fz t.a H H' → TapeAt H' t → Dp K H' u (.tuple (ds.map cwD)) → ds.length ≤ 10 → Q u H'
def spTables (K : PySem.W.Frag) : Sp := fun vs H Q _ => ∃ (t : Tp) (p : Addr) (ns : List S), vs = [.ref t.a, .ref p] ∧ TapeAt H t ∧ p ≠ t.a ∧ H p = some (.lst (ns.map V.str)) ∧ ns.length ≤ 10 ∧
  ∀ H' u (ts : List Tb), Fz t.a H H' → TapeAt H' t → Dp K H' u (.tuple (ts.map tbD)) → ts.map (·.name) = ns → (∀ t ∈ ts, TbOk t ∧ t.cols.length ≤ 10) → Q u H'
def spOdd : Sp := fun vs H Q _ => ∃ (t : Tp), vs = [.ref t.a] ∧ TapeAt H t ∧ ∀ H' v, Fz t.a H H' → TapeAt H' t → Pv v → Q v H'
/-! ### slices and sums of tuples: whole or new -/
theorem cut_whole {xs : List V} {lo hi : Option Int} (h : HT.sIx xs.length 0 lo = 0 ∧ HT.sIx xs.length xs.length hi = xs.length) : cutV xs lo hi = xs := by
  unfold cutV
  rw [h.1, h.2, List.drop_zero, Nat.sub_zero, List.take_of_length_le (Nat.le_refl _)]
theorem cutA {K : PySem.W.Frag} {H : Hp} {a : Addr} {xs : List V} {lo hi : Option Int} {Q : VK} (h : SqT K H a xs) (q : ∀ u H', Same H H' → RowAt K H' u (cutV xs lo hi) → Q u H') : rSlA K (.ref a) lo hi H Q := by
  refine ⟨a, xs, rfl, h, fun w => q _ _ (fun _ _ e => e) ⟨a, rfl, ?_⟩, fun _ p np => q _ _ (same_upd np) ⟨p, rfl, .of upd_same⟩⟩
  rw [cut_whole w]
  exact h
theorem catA {K : PySem.W.Frag} {H : Hp} {a b : Addr} {xs ys : List V} {Q : VK} (ha : SqT K H a xs) (hb : SqT K H b ys) (sz : xs.length + ys.length ≤ sizeLine) (q : ∀ u H', Same H H' → RowAt K H' u (xs ++ ys) → Q u H') : rCatA K (.ref a) (.ref b) H Q := by
  refine ⟨a, b, xs, ys, rfl, rfl, ha, hb, sz, fun e => ?_, fun _ e => ?_, fun _ _ p np => q _ _ (same_upd np) ⟨p, rfl, .of upd_same⟩⟩
  · refine q _ _ (fun _ _ z => z) ⟨b, rfl, ?_⟩
    rw [e]; exact hb
  · refine q _ _ (fun _ _ z => z) ⟨a, rfl, ?_⟩
    rw [e, List.append_nil]; exact ha
theorem dp_drop {K : PySem.W.Frag} {H : Hp} : ∀ {vs : List V} {ds : List PyData} (k : Nat), DpAll K H vs ds → DpAll K H (vs.drop k) (ds.drop k)
  | _, _, 0, h => h
  | _, _, _ + 1, .nil => .nil
  | _, _, k + 1, .cons _ t => dp_drop k t
theorem dp_take {K : PySem.W.Frag} {H : Hp} : ∀ {vs : List V} {ds : List PyData} (k : Nat), DpAll K H vs ds → DpAll K H (vs.take k) (ds.take k)
  | _, _, 0, _ => .nil
  | _, _, _ + 1, .nil => .nil
  | _, _, k + 1, .cons h t => .cons h (dp_take k t)
theorem cut_pv {xs : List V} {lo hi : Option Int} (h : ∀ x ∈ xs, Pv x) : ∀ x ∈ cutV xs lo hi, Pv x := by
  intro x hx
  unfold cutV at hx
  exact h x (List.mem_of_mem_drop (List.mem_of_mem_take hx))
end Ind

set_option Elab.async false
set_option linter.all false
set_option maxRecDepth 100000
set_option maxHeartbeats 4000000
namespace Va
open PySem PySem.Spec PyProof.Rows L2 Ind
/-! ### statements -/
structure Ve where
  nx : En → Prop
  rt : D → En → Prop
  bk : En → Prop := fun _ => False
  ct : En → Prop := fun _ => False
abbrev VS := Ve → En → Prop
/-- what the ends by values make of the ends -/
structure EndsOk (Γ : Gm) (V : Ve) (D : Ends) (H : Hp) : Prop where
  nx : ∀ E, V.nx E → ∀ σ' H', Kq H H' → Rep Γ E σ' H' → D.nx σ' H'
  rt : ∀ d E, V.rt d E → ∀ v σ' H', Kq H H' → Rep Γ E σ' H' → Γ.Rp H' v d → D.rt v H'
  bk : ∀ E, V.bk E → ∀ σ' H', Kq H H' → Rep Γ E σ' H' → D.bk σ' H'
  ct : ∀ E, V.ct E → ∀ σ' H', Kq H H' → Rep Γ E σ' H' → D.ct σ' H'
theorem EndsOk.kq {Γ : Gm} {V : Ve} {D : Ends} {H H' : Hp} (k : EndsOk Γ V D H) (q : Kq H H') : EndsOk Γ V D H' :=
  ⟨fun E h σ H2 q2 r => k.nx E h σ H2 (q.trans q2) r, fun d E h v σ H2 q2 r rv => k.rt d E h v σ H2 (q.trans q2) r rv, fun E h σ H2 q2 r => k.bk E h σ H2 (q.trans q2) r, fun E h σ H2 q2 r => k.ct E h σ H2 (q.trans q2) r⟩
def liftS (S : Sg) (t : VS) : TS := fun D σ H => ∃ (Γ : Gm) (E : En) (V : Ve), Γ.Ok S ∧ Rep Γ E σ H ∧ t V E ∧ EndsOk Γ V D H
abbrev VSt (S : Sg) (X : Cx) (st : Stmt) (t : VS) : Prop := PS X st (liftS S t)
abbrev VSs (S : Sg) (X : Cx) (st : List Stmt) (t : VS) : Prop := PSs X st (liftS S t)
def sNx : VS := fun V E => V.nx E
def sSeq (t u : VS) : VS := fun V E => t { V with nx := u V } E
section
variable {X : Cx} {S : Sg} {e : Expr} {st : Stmt} {rest : List Stmt} {pos : Pos}
theorem vss_nil : VSs S X [] sNx := by
  refine pss_weak pss_nil ?_
  rintro D σ H ⟨Γ, E, V, ok, r, h, k⟩
  exact k.nx E h σ H (Kq.refl _) r
theorem vss_one {t : VS} (h : VSt S X st t) : VSs S X [st] t := pss_one h
theorem vss_cons {t u : VS} (h : VSt S X st t) (g : VSs S X rest u) : VSs S X (st :: rest) (sSeq t u) := by
  refine pss_weak (pss_cons h g) ?_
  rintro D σ H ⟨Γ, E, V, ok, r, h, k⟩
  exact ⟨Γ, E, _, ok, r, h, fun E1 h1 σ1 H1 q1 r1 => ⟨Γ, E1, V, ok, r1, h1, k.kq q1⟩, k.rt, k.bk, k.ct⟩
def sNever : VS := fun _ _ => False
theorem vs_never : VSt S X st sNever := by
  refine ps_weak ps_never ?_
  rintro D σ H ⟨Γ, E, V, ok, r, h, k⟩
  exact h
theorem vs_pass : VSt S X (.Pass pos) sNx := by
  refine ps_weak ps_pass ?_
  rintro D σ H ⟨Γ, E, V, ok, r, h, k⟩
  exact k.nx E h σ H (Kq.refl _) r
def sBk : VS := fun V E => V.bk E
def sCt : VS := fun V E => V.ct E
theorem vs_break : VSt S X (.Break pos) sBk := by
  refine ps_weak ps_break ?_
  rintro D σ H ⟨Γ, E, V, ok, r, h, k⟩
  exact k.bk E h σ H (Kq.refl _) r
theorem vs_continue : VSt S X (.Continue pos) sCt := by
  refine ps_weak ps_continue ?_
  rintro D σ H ⟨Γ, E, V, ok, r, h, k⟩
  exact k.ct E h σ H (Kq.refl _) r
def sEx (t : VT) : VS := fun V E => t E fun _ E1 => V.nx E1
theorem vs_expr {t : VT} (he : VE S X e t) (hs : swapsWith e none pos.line X.env = pure false := by rfl) : VSt S X (.Expr e pos) (sEx t) := by
  refine ps_weak (ps_expr he hs) ?_
  rintro D σ H ⟨Γ, E, V, ok, r, h, k⟩
  exact ⟨Γ, E, _, ok, r, h, fun d E1 h1 v H1 q1 r1 _ => k.nx E1 h1 σ H1 q1 r1⟩
def sRt (t : VT) : VS := fun V E => t E fun d E1 => V.rt d E1
theorem vs_ret {t : VT} (he : VE S X e t) : VSt S X (.Return (some e) pos) (sRt t) := by
  refine ps_weak (ps_ret he) ?_
  rintro D σ H ⟨Γ, E, V, ok, r, h, k⟩
  exact ⟨Γ, E, _, ok, r, h, fun d E1 h1 v H1 q1 r1 hv => k.rt d E1 h1 v σ H1 q1 r1 hv⟩
def sRtN : VS := fun V E => V.rt .non E
theorem vs_retN : VSt S X (.Return none pos) sRtN := by
  refine ps_weak ps_retN ?_
  rintro D σ H ⟨Γ, E, V, ok, r, h, k⟩
  exact k.rt .non E h .non σ H (Kq.refl _) r .non
def sIf (c : VTT) (t u : VS) : VS := fun V E => c E fun b E1 => (b = true → t V E1) ∧ (b = false → u V E1)
theorem vs_if {c : Expr} {a b : List Stmt} {tc : VTT} {t u : VS} (hc : VB S X c tc) (ha : VSs S X a t) (hb : VSs S X b u) : VSt S X (.If c a b pos) (sIf tc t u) := by
  refine ps_weak (ps_if hc ha hb) ?_
  rintro D σ H ⟨Γ, E, V, ok, r, h, k⟩
  refine ⟨Γ, E, _, ok, r, h, fun b E1 h1 H1 q1 r1 => ?_⟩
  cases b with
  | true => exact iteT ⟨Γ, E1, V, ok, r1, h1.1 rfl, k.kq q1⟩
  | false => exact iteF ⟨Γ, E1, V, ok, r1, h1.2 rfl, k.kq q1⟩
/-- a name is set: to a value, or to a thing of its own -/
def sSet (i : Nat) (t : FT) : VS := fun V E => t E fun r E1 => V.nx (E1.set i r.sv)
theorem RepR.set {Γ : Gm} {E : En} {σ : L2.St} {H : Hp} {v : V} {x : RV} (r : Rep Γ E σ H) (h : RepR Γ E σ H v x) (i : Nat) : Rep Γ (E.set i x.sv) (σ.set i (some v)) H := by
  cases x with
  | v d => exact r.set i h
  | fl ds =>
    obtain ⟨p, rfl, h1, h2⟩ := h
    exact r.setO i h1 h2
  | fd ds =>
    obtain ⟨p, rfl, h1, h2⟩ := h
    exact r.setO i h1 h2
theorem vs_set {i : Nat} {x : PySem.Str} {t : FT} {pos' : Pos} (hN : X.N.Nodup) (hi : X.N[i]? = some x) (hx : Loc X.env.scope x) (he : FE S X e t) (hs : swapsWith e (some (.Name x pos')) pos.line X.env = pure false := by rfl) (hf : X.fn x = true ∨ X.env.scope.names.lookup x = some .local := by first | exact .inl rfl | exact .inr rfl | assumption) :
    VSt S X (.Assign [.Name x pos'] e pos) (sSet i t) := by
  refine ps_weak (ps_set hN hi hx he hs hf) ?_
  rintro D σ H ⟨Γ, E, V, ok, r, h, k⟩
  exact ⟨Γ, E, _, ok, r, h, fun d E1 h1 v H1 q1 r1 hv => k.nx _ h1 _ H1 q1 (hv.set r1 i)⟩
/-! ### targets -/
abbrev VG := D → En → (En → Prop) → Prop
abbrev VGs := List D → En → (En → Prop) → Prop
/-- all but the slots is stay as they are -/
structure Only (is : List Nat) (σ σ' : L2.St) : Prop where
  len : σ'.length = σ.length
  at_ : ∀ j, j ∉ is → σ'[j]? = σ[j]?
theorem Only.refl {is : List Nat} {σ : L2.St} : Only is σ σ := ⟨rfl, fun _ _ => rfl⟩
theorem Only.trans {is : List Nat} {σ σ1 σ2 : L2.St} (a : Only is σ σ1) (b : Only is σ1 σ2) : Only is σ σ2 := ⟨b.len.trans a.len, fun j h => (b.at_ j h).trans (a.at_ j h)⟩
theorem Only.mono {is js : List Nat} {σ σ' : L2.St} (a : Only is σ σ') (h : ∀ i ∈ is, i ∈ js) : Only js σ σ' := ⟨a.len, fun j hj => a.at_ j fun z => hj (h j z)⟩
def liftG (S : Sg) (is : List Nat) (g : VG) : TG := fun v σ H Q => ∃ (Γ : Gm) (E : En) (d : D) (Q0 : En → Prop), Γ.Ok S ∧ Rep Γ E σ H ∧ Γ.Rp H v d ∧ g d E Q0 ∧ ∀ E', Q0 E' → ∀ σ', Rep Γ E' σ' H → Only is σ σ' → Q σ' H
def liftGs (S : Sg) (is : List Nat) (g : VGs) : TGs := fun vs σ H Q => ∃ (Γ : Gm) (E : En) (ds : List D) (Q0 : En → Prop), Γ.Ok S ∧ Rep Γ E σ H ∧ Γ.RpL H vs ds ∧ g ds E Q0 ∧ ∀ E', Q0 E' → ∀ σ', Rep Γ E' σ' H → Only is σ σ' → Q σ' H
theorem pg_weak {t t' : TG} (h : PG X e t) (w : ∀ v σ H Q, t' v σ H Q → t v σ H Q) : PG X e t' := ⟨fun pins s σ H v u Q I r q => h.run pins s σ H v u Q I r (w _ _ _ _ q)⟩
theorem pgs_weak {es : List Expr} {t t' : TGs} (h : PGs X es t) (w : ∀ v σ H Q, t' v σ H Q → t v σ H Q) : PGs X es t' := ⟨fun pins s σ H v u Q I r q => h.run pins s σ H v u Q I r (w _ _ _ _ q)⟩
def gN (i : Nat) : VG := fun d E Q => Q (E.set i (.v d))
theorem vg_name {i : Nat} {x : PySem.Str} (is : List Nat) (hm : i ∈ is) (hN : X.N.Nodup) (hi : X.N[i]? = some x) (hx : Loc X.env.scope x) (hf : X.fn x = true ∨ X.env.scope.names.lookup x = some .local := by first | exact .inl rfl | exact .inr rfl | assumption) : PG X (.Name x pos) (liftG S is (gN i)) := by
  refine pg_weak (pg_name hN hi hx hf) ?_
  rintro v σ H Q ⟨Γ, E, d, Q0, ok, r, hv, hg, k⟩
  refine k _ hg _ (r.set i hv) ⟨by simp, fun j hj => ?_⟩
  rw [List.getElem?_set_ne]
  rintro rfl
  exact hj hm
def gsNil : VGs := fun ds E Q => match ds with
  | [] => Q E
  | _ => False
def gsCons (g : VG) (u : VGs) : VGs := fun ds E Q => match ds with
  | d :: r => g d E fun E1 => u r E1 Q
  | [] => False
theorem vgs_nil (is : List Nat) : PGs X [] (liftGs S is gsNil) := by
  refine pgs_weak pgs_nil ?_
  rintro v σ H Q ⟨Γ, E, ds, Q0, ok, r, hv, hg, k⟩
  cases ds with
  | nil => cases hv; exact ⟨rfl, k _ hg _ r .refl⟩
  | cons d ds => exact hg.elim
theorem vgs_cons {is : List Nat} {es : List Expr} {g : VG} {u : VGs} (h1 : PG X e (liftG S is g)) (h2 : PGs X es (liftGs S is u))
    (hs : (assignEach (e :: es) X.env).map (·.2) = assign e X.env :: (assignEach es X.env).map (·.2) := by rfl) : PGs X (e :: es) (liftGs S is (gsCons g u)) := by
  refine pgs_weak (pgs_cons h1 h2 hs) ?_
  rintro v σ H Q ⟨Γ, E, ds, Q0, ok, r, hv, hg, k⟩
  cases ds with
  | nil => exact hg.elim
  | cons d ds =>
    cases hv with
    | cons hv1 hv2 =>
      exact ⟨_, _, rfl, Γ, E, d, _, ok, r, hv1, hg, fun E1 q1 σ1 r1 o1 => ⟨Γ, E1, ds, _, ok, r1, hv2, q1, fun E2 q2 σ2 r2 o2 => k _ q2 _ r2 (o1.trans o2)⟩⟩
def gT (n : Nat) (u : VGs) : VG := fun d E Q => match d with
  | .tup ds => ds.length = n ∧ u ds E Q
  | _ => False
theorem vg_tup {is : List Nat} {es : List Expr} {k : Nat} {u : VGs} (n : Nat) (hK : S.K = X.K) (hc : X.calm = true) (h : PGs X es (liftGs S is u)) (hn : (assignEach es X.env).length = n) (hst : (assignEach es X.env).findIdx? (·.1) = none) : PG X (.Tuple es k pos) (liftG S is (gT n u)) := by
  refine pg_weak (pg_tup hc h hn hst) ?_
  rintro v σ H Q ⟨Γ, E, d, Q0, ok, r, hv, hg, k⟩
  cases d with
  | tup ds =>
    obtain ⟨a, xs, rfl, h1, h2⟩ := hv.tup_inv
    exact ⟨a, xs, rfl, by rw [← hK, ← ok.k]; exact h1, h2.len.trans hg.1, Γ, E, ds, _, ok, r, h2, hg.2, k⟩
  | _ => exact hg.elim
def sAsg (t : VT) (g : VG) : VS := fun V E => t E fun d E1 => g d E1 V.nx
theorem vs_asg {is : List Nat} {tg : Expr} {t : VT} {g : VG} (he : VE S X e t) (hg : PG X tg (liftG S is g)) (hs : swapsWithSole [tg] e pos.line X.env = pure false := by rfl) (hw : swappedStores [tg] e X.env = pure none := by rfl) (h1 : (assignEach [tg] X.env).map (·.2) = [assign tg X.env] := by rfl) : VSt S X (.Assign [tg] e pos) (sAsg t g) := by
  refine ps_weak (ps_asg he hg hs hw h1) ?_
  rintro D σ H ⟨Γ, E, V, ok, r, h, k⟩
  exact ⟨Γ, E, _, ok, r, h, fun d E1 h1 v H1 q1 r1 hv => ⟨Γ, E1, d, _, ok, r1, hv, h1, fun E2 q2 σ2 r2 _ => k.nx _ q2 _ H1 q1 r2⟩⟩
/-! ### what is walked -/
abbrev VI := En → (List D → En → Prop) → Prop
structure ItOk (Γ : Gm) (J : It) (ds : List D) (Hb : Hp) : Prop where
  go : ∀ i H, i < ds.length → Kq Hb H → J.go i H
  yld : ∀ i H x H', i < ds.length → Kq Hb H → J.yld i H x H' → ∃ d, ds[i]? = some d ∧ Γ.Rp H' x d ∧ Same H H'
  stop : ∀ H, Kq Hb H → J.stop ds.length H
def liftI (S : Sg) (t : VI) : TI := fun σ H R => ∃ (Γ : Gm) (E : En) (Q0 : List D → En → Prop), Γ.Ok S ∧ Rep Γ E σ H ∧ t E Q0 ∧ ∀ ds E', Q0 ds E' → ∀ J H', Kq H H' → Rep Γ E' σ H' → ItOk Γ J ds H' → R J H'
abbrev VIt (S : Sg) (X : Cx) (tg e : Expr) (t : VI) : Prop := PI X tg e (liftI S t)
theorem pi_weak {tg : Expr} {t t' : TI} (h : PI X tg e t) (w : ∀ σ H Q, t' σ H Q → t σ H Q) : PI X tg e t' := ⟨fun pins s σ H Q I q => h.run pins s σ H Q I (w _ _ _ q)⟩
theorem it_tup {Γ : Gm} {H : Hp} {a : Addr} {xs : List V} {ds : List D} (h : SqT Γ.K H a xs) (r : Γ.RpL H xs ds) : ItOk Γ (Itt Γ.K a) ds H := by
  refine ⟨fun i H1 hi q => ?_, fun i H1 x H2 hi q y => ?_, fun H1 q => ⟨xs, q.sqT h, by rw [r.len]; exact Nat.le_refl _⟩⟩
  · obtain ⟨v, e, _⟩ := r.get (List.getElem?_eq_getElem hi)
    exact ⟨xs, v, q.sqT h, e⟩
  · obtain ⟨rfl, y⟩ := y
    obtain ⟨v, e, rv⟩ := r.get (List.getElem?_eq_getElem hi)
    have := y xs (q.sqT h)
    rw [e] at this
    cases this
    exact ⟨_, List.getElem?_eq_getElem hi, Rp.kq q _ _ rv, fun _ _ z => z⟩
theorem it_lst {Γ : Gm} {H : Hp} {a : Addr} {xs : List V} {ds : List D} (h : FzL Γ.K H a xs) (r : Γ.RpL H xs ds) : ItOk Γ (Itl Γ.K a) ds H := by
  refine ⟨fun i H1 hi q => ?_, fun i H1 x H2 hi q y => ?_, fun H1 q => ⟨xs, (q.fzL h).sq, by rw [r.len]; exact Nat.le_refl _⟩⟩
  · obtain ⟨v, e, _⟩ := r.get (List.getElem?_eq_getElem hi)
    exact ⟨xs, v, (q.fzL h).sq, e⟩
  · obtain ⟨rfl, y⟩ := y
    obtain ⟨v, e, rv⟩ := r.get (List.getElem?_eq_getElem hi)
    have := y xs (q.fzL h).sq
    rw [e] at this
    cases this
    exact ⟨_, List.getElem?_eq_getElem hi, Rp.kq q _ _ rv, fun _ _ z => z⟩
def one (c : Nat) : D := .str ⟨#[c]⟩
def signs (x : Tx) : List D := x.cps.toList.map one
theorem it_str {Γ : Gm} {H : Hp} (x : Tx) : ItOk Γ (Its x) (signs x) H := by
  have sz : (signs x).length = x.cps.size := by unfold signs; rw [List.length_map, Array.length_toList]
  refine ⟨fun i H1 hi q => by rw [sz] at hi; exact hi, fun i H1 v H2 hi q y => ?_, fun H1 q => by rw [sz]; exact Nat.le_refl _⟩
  obtain ⟨rfl, c, ec, rfl⟩ := y
  refine ⟨one c, ?_, .str _, fun _ _ z => z⟩
  unfold signs
  rw [List.getElem?_map, Array.getElem?_toList, ec]
  rfl
def key : Key → D
  | .inl i => .int i
  | .inr x => .str x
theorem key_rp {Γ : Gm} {H : Hp} (k : Key) : Γ.Rp H (kV k) (key k) := by
  cases k with
  | inl i => exact .int i
  | inr x => exact .str x
theorem it_dk {Γ : Gm} {H : Hp} {a : Addr} {o : Obj} {kv : List (Key × V)} {ds : List (Key × D)} (h : H a = some (.frz o (.dK kv))) (r : RpK Γ.K Γ.tp H kv ds) : ItOk Γ (Itk a o kv) (ds.map fun p => key p.1) H := by
  have len : (ds.map fun p => key p.1).length = kv.length := by rw [List.length_map, r.len]
  refine ⟨fun i H1 hi q => ⟨q.frz _ _ _ h, by rw [← len]; exact hi⟩, fun i H1 x H2 hi q y => ?_, fun H1 q => ⟨q.frz _ _ _ h, by rw [len]; exact Nat.le_refl _⟩⟩
  obtain ⟨rfl, k, v, ek, rfl⟩ := y
  have e2 : (kv.map (·.1))[i]? = some k := by rw [List.getElem?_map, ek]; rfl
  rw [r.keys, List.getElem?_map] at e2
  refine ⟨key k, ?_, key_rp k, fun _ _ z => z⟩
  rw [List.getElem?_map]
  cases ed : ds[i]? with
  | none => rw [ed] at e2; cases e2
  | some p => rw [ed] at e2; cases e2; rfl
/-- a list, a tuple, a text, a dict, whichever comes -/
theorem pi_any {tg : Expr} {te : TE} (hl : PE X e te) : PI X tg e (fun σ H R => te σ H fun x H1 => (∃ a xs, x = .ref a ∧ SqL X.K H1 a xs ∧ R (Itl X.K a) H1) ∨ (∃ a xs, x = .ref a ∧ SqT X.K H1 a xs ∧ R (Itt X.K a) H1) ∨ (∃ z, x = .str z ∧ R (Its z) H1) ∨
    ∃ d o kvs, x = .ref d ∧ H1 d = some (.frz o (.dK kvs)) ∧ R (Itk d o kvs) H1) := by
  constructor
  intro pins s σ H R I h
  refine thn (hl.run pins s σ H _ I h) ?_
  rintro v s1 ⟨x, H1, I1, r1, ⟨p, xs, rfl, hq, q⟩ | ⟨p, xs, rfl, hq, q⟩ | ⟨z, rfl, q⟩ | ⟨p, o, kvs, rfl, hd, q⟩⟩
  · cases r1
    obtain ⟨its, rv, pl, hz⟩ := I1.list hq
    exact wpAny_pyIter_list pl.isList (pi_one (tk := s1.toks) I1 _ (turn_list p _) ⟨_, Heap.get?_push_size _ rfl, rfl, rfl⟩ q)
  · cases r1
    obtain ⟨its, rv, pl, hz⟩ := I1.tuple hq
    exact wpAny_pyIter_tuple (show s1.heap.IsTuple p its.toArray from pl) (pi_one (tk := s1.toks) I1 _ (turn_tuple p _) ⟨_, Heap.get?_push_size _ rfl, rfl, rfl⟩ q)
  · obtain ⟨t, rfl⟩ := r1
    by_cases ha : z.cps.all (· < 128) = true
    · exact wpAny_pyIter_ascii ha (pi_one (tk := s1.toks) I1 _ (turn_str _ z t "str_ascii_iterator" (.inl rfl)) ⟨_, Heap.get?_push_size _ rfl, rfl, rfl⟩ q)
    · exact wpAny_pyIter_wide (by simpa using ha) (pi_one (tk := s1.toks) I1 _ (turn_str _ z t "str_iterator" (.inr rfl)) ⟨_, Heap.get?_push_size _ rfl, rfl, rfl⟩ q)
  · cases (show v = Value.ref p from r1)
    obtain ⟨z1, z2, z3, es, ep, vs, hdt, hsz, kv, hm⟩ := I1.frzK hd
    refine iter_keys z1 z2 z3 hdt (pi_one (tk := s1.toks) I1 _ (turn_keys _ hdt) ⟨_, Heap.get?_push_size _ rfl, rfl, ?_⟩ q)
    rw [hsz] <;> rfl
def itD (d : D) (Q : List D → Prop) : Prop := match d with
  | .lst ds => Q ds
  | .tup ds => Q ds
  | .ptp ds => Q ds
  | .str x => Q (signs x)
  | .dk kvs => Q (kvs.map fun p => key p.1)
  | _ => False
def vIt (t : VT) : VI := fun E Q => t E fun d E1 => itD d fun ds => Q ds E1
theorem vi_any {tg : Expr} {t : VT} (hK : S.K = X.K) (h : VE S X e t) : VIt S X tg e (vIt t) := by
  refine pi_weak (pi_any h) ?_
  rintro σ H Q ⟨Γ, E, Q0, ok, rp, ht, k⟩
  refine ⟨Γ, E, _, ok, rp, ht, fun d E1 hq x H1 kq1 rp1 hx => ?_⟩
  have eK : X.K = Γ.K := (ok.k.trans hK).symm
  cases d with
  | lst ds =>
    obtain ⟨p, xs, rfl, h1, h2⟩ := hx.lst_inv
    exact .inl ⟨p, xs, rfl, by rw [eK]; exact h1.sq, k _ _ hq _ _ kq1 rp1 (by rw [eK]; exact it_lst h1 h2)⟩
  | tup ds =>
    obtain ⟨p, xs, rfl, h1, h2⟩ := hx.tup_inv
    exact .inr (.inl ⟨p, xs, rfl, by rw [eK]; exact h1, k _ _ hq _ _ kq1 rp1 (by rw [eK]; exact it_tup h1 h2)⟩)
  | ptp ds =>
    obtain ⟨p, o, xs, rfl, h1, _, h2⟩ := hx.ptp_inv
    have h1 : SqT Γ.K H1 p xs := .inl (.inr ⟨o, h1⟩)
    exact .inr (.inl ⟨p, xs, rfl, by rw [eK]; exact h1, k _ _ hq _ _ kq1 rp1 (by rw [eK]; exact it_tup h1 h2)⟩)
  | str z =>
    cases hx
    exact .inr (.inr (.inl ⟨z, rfl, k _ _ hq _ _ kq1 rp1 (it_str z)⟩))
  | dk ds =>
    obtain ⟨p, o, kv, rfl, h1, h2⟩ := hx.dk_inv
    exact .inr (.inr (.inr ⟨p, o, kv, rfl, h1, k _ _ hq _ _ kq1 rp1 (it_dk h1 h2)⟩))
  | _ => exact hq.elim
/-- range(..) -/
def rng (lo : Int) (n : Nat) : List D := (List.range n).map fun i => .int (lo + (i : Nat))
theorem it_rng {Γ : Gm} {H : Hp} (lo : Int) (n : Nat) : ItOk Γ (Itr lo n) (rng lo n) H := by
  have sz : (rng lo n).length = n := by simp [rng]
  refine ⟨fun i H1 hi q => by rw [sz] at hi; exact hi, fun i H1 v H2 hi q y => ?_, fun H1 q => by rw [sz]; exact Nat.le_refl _⟩
  obtain ⟨rfl, rfl⟩ := y
  rw [sz] at hi
  exact ⟨.int (lo + i), by simp [rng, hi], .int _, fun _ _ z => z⟩
def vR1 (t : VTA) : VI := fun E Q => t E fun ds E1 => match ds with
  | [.int j] => (-(2 ^ 62) ≤ j ∧ j < 2 ^ 62) ∧ Q (rng 0 j.toNat) E1
  | _ => False
def vR2 (t : VTA) : VI := fun E Q => t E fun ds E1 => match ds with
  | [.int i, .int j] => (-(2 ^ 62) ≤ i ∧ i < 2 ^ 62 ∧ -(2 ^ 62) ≤ j ∧ j < 2 ^ 62) ∧ Q (rng i (j - i).toNat) E1
  | _ => False
variable {a b : Expr} {p : Pos}
theorem vi_range1 {tg : Expr} {t : VTA} (hg : Gl X "range") (hm : X.mg "range" = none) (ha : VA S X [a] t) (hs : starEach [a] X.env = [(false, eval a X.env)] := by rfl) : VIt S X tg (.Call (.Name "range" p) [a] [] pos) (vR1 t) := by
  refine pi_weak (pi_range1 hg hm ha hs) ?_
  rintro σ H Q ⟨Γ, E, Q0, ok, rp, ht, k⟩
  refine ⟨Γ, E, _, ok, rp, ht, fun ds E1 hq vs H1 kq1 rp1 hvs => ?_⟩
  match ds, hq, hvs with
  | [.int j], hq, .cons h1 .nil =>
    cases h1
    exact ⟨j, rfl, hq.1.1, hq.1.2, k _ _ hq.2 _ _ kq1 rp1 (it_rng 0 _)⟩
theorem vi_range2 {tg : Expr} {t : VTA} (hg : Gl X "range") (hm : X.mg "range" = none) (ha : VA S X [a, b] t) (hs : starEach [a, b] X.env = [(false, eval a X.env), (false, eval b X.env)] := by rfl) (hs2 : starEach [b] X.env = [(false, eval b X.env)] := by rfl) : VIt S X tg (.Call (.Name "range" p) [a, b] [] pos) (vR2 t) := by
  refine pi_weak (pi_range2 hg hm ha hs hs2) ?_
  rintro σ H Q ⟨Γ, E, Q0, ok, rp, ht, k⟩
  refine ⟨Γ, E, _, ok, rp, ht, fun ds E1 hq vs H1 kq1 rp1 hvs => ?_⟩
  match ds, hq, hvs with
  | [.int i, .int j], hq, .cons h1 (.cons h2 .nil) =>
    cases h1
    cases h2
    exact ⟨i, j, rfl, hq.1, k _ _ hq.2 _ _ kq1 rp1 (it_rng i _)⟩
/-! ### loops -/
def sFor (vi : VI) (g : VG) (tb : VS) : VS := fun V E => vi E fun ds E1 => ∃ P : Nat → En → Prop, P 0 E1 ∧ (∀ i d E, ds[i]? = some d → P i E → g d E fun E2 => tb { V with nx := P (i + 1), ct := P (i + 1), bk := V.nx } E2) ∧ ∀ E, P ds.length E → V.nx E
theorem vs_for {is : List Nat} {tg iter : Expr} {body : List Stmt} {vi : VI} {g : VG} {tb : VS} (hp : PassesOwn (model X.prog X.w) X.A X.env X.xe) (hc : X.calm = true) (hi : VIt S X tg iter vi) (hg : PG X tg (liftG S is g)) (hb : VSs S X body tb) (hs : ∀ x, foldedSetIterable iter X.env x = pure x := by intro _; rfl) : VSt S X (.For tg iter body [] pos) (sFor vi g tb) := by
  refine ps_weak (ps_for hp hc hi hg hb hs) ?_
  rintro D σ H ⟨Γ, E, V, ok, rp, ht, k⟩
  refine ⟨Γ, E, _, ok, rp, ht, fun ds E1 ⟨P, p0, ps, pn⟩ J H1 kq1 rp1 it => ?_⟩
  refine ⟨fun i m σ' H' => m = ds.length - i ∧ i ≤ ds.length ∧ ∃ E', P i E' ∧ Rep Γ E' σ' H' ∧ Kq H1 H', ⟨_, rfl, Nat.zero_le _, E1, p0, rp1, Kq.refl _⟩, ?_⟩
  rintro i m σ' H' ⟨rfl, hi, E', pi, rp', kq'⟩
  by_cases hlt : i < ds.length
  · refine .inr ⟨it.go i H' hlt kq', fun σ2 H2 => i + 1 ≤ ds.length ∧ ∃ E2, P (i + 1) E2 ∧ Rep Γ E2 σ2 H2 ∧ Kq H1 H2, fun σ2 H2 h => ⟨_, by omega, rfl, h⟩, fun x H2 y => ?_⟩
    obtain ⟨d, ed, rd, sm⟩ := it.yld i H' x H2 hlt kq' y
    have kq2 := kq'.trans (Kq.same sm)
    refine ⟨Γ, E', d, _, ok, rp'.same sm, rd, ps i d E' ed pi, fun E3 q3 σ3 r3 _ => ?_⟩
    refine ⟨Γ, E3, _, ok, r3, q3, fun E4 h4 σ4 H4 q4 r4 => ⟨hlt, E4, h4, r4, kq2.trans q4⟩, fun d4 E4 h4 v4 σ4 H4 q4 r4 rv4 => k.rt d4 E4 h4 v4 σ4 H4 ((kq1.trans kq2).trans q4) r4 rv4, fun E4 h4 σ4 H4 q4 r4 => k.nx E4 h4 σ4 H4 ((kq1.trans kq2).trans q4) r4, fun E4 h4 σ4 H4 q4 r4 => ⟨hlt, E4, h4, r4, kq2.trans q4⟩⟩
  · have e : i = ds.length := by omega
    subst e
    exact .inl ⟨it.stop H' kq', k.nx E' (pn E' pi) σ' H' (kq1.trans kq') rp'⟩
def sWhile (c : VTT) (tb : VS) : VS := fun V E => ∃ W : Nat → En → Prop, (∃ m, W m E) ∧ ∀ m E, W m E → c E fun b E1 => (b = true → tb { V with nx := fun E2 => ∃ m', m' < m ∧ W m' E2, ct := fun E2 => ∃ m', m' < m ∧ W m' E2, bk := V.nx } E1) ∧ (b = false → V.nx E1)
theorem vs_while {c : Expr} {body : List Stmt} {tc : VTT} {tb : VS} (hp : PassesOwn (model X.prog X.w) X.A X.env X.xe) (hc : VB S X c tc) (hb : VSs S X body tb) : VSt S X (.While c body [] pos) (sWhile tc tb) := by
  refine ps_weak (ps_while hp hc hb) ?_
  rintro D σ H ⟨Γ, E, V, ok, rp, ⟨W, ⟨m0, w0⟩, turn⟩, k⟩
  refine ⟨fun m σ' H' => ∃ E', W m E' ∧ Rep Γ E' σ' H' ∧ Kq H H', ⟨m0, E, w0, rp, Kq.refl _⟩, ?_⟩
  rintro m σ' H' ⟨E', w, rp', kq'⟩
  refine ⟨Γ, E', _, ok, rp', turn m E' w, fun b E1 h1 H1 q1 r1 => ?_⟩
  have kq2 := kq'.trans q1
  cases b with
  | true =>
    refine iteT ⟨fun σ2 H2 => ∃ m', m' < m ∧ ∃ E', W m' E' ∧ Rep Γ E' σ2 H2 ∧ Kq H H2, fun σ2 H2 h => h, ?_⟩
    refine ⟨Γ, E1, _, ok, r1, h1.1 rfl, fun E4 h4 σ4 H4 q4 r4 => ?_, fun d4 E4 h4 v4 σ4 H4 q4 r4 rv4 => k.rt d4 E4 h4 v4 σ4 H4 (kq2.trans q4) r4 rv4, fun E4 h4 σ4 H4 q4 r4 => k.nx E4 h4 σ4 H4 (kq2.trans q4) r4, fun E4 h4 σ4 H4 q4 r4 => ?_⟩
    · obtain ⟨m', lt, w'⟩ := h4
      exact ⟨m', lt, E4, w', r4, kq2.trans q4⟩
    · obtain ⟨m', lt, w'⟩ := h4
      exact ⟨m', lt, E4, w', r4, kq2.trans q4⟩
  | false => exact iteF (k.nx E1 (h1.2 rfl) σ' H1 kq2 r1)
/-! ### calls of defs -/
abbrev VM := List D → Nat → (D → Nat → Prop) → Prop
def spV (S : Sg) (m : VM) : Sp := fun vs H Q _ => ∃ (tp : Option Tp) (ds : List D) (c : Nat) (Q0 : D → Nat → Prop), RpL S.K tp H vs ds ∧ (∀ t, tp = some t → TapeV S.b H t) ∧ Few tp c H ∧ (∀ P ∈ S.tabs, GxR.TabG H P) ∧ m ds c Q0 ∧ ∀ d c', Q0 d c' → ∀ v H', Ext ⟨S.K, S.b, tp, S.tabs, [], H⟩ c' H H' → Rp S.K tp H' v d → Q v H'
def vCall (m : VM) (t : VTA) : VT := fun E Q => t E fun ds E1 => m ds E1.c fun d c => Q d ⟨E1.l, c⟩
theorem spV_of {Γ : Gm} {E : En} {σ : L2.St} {H : Hp} {m : VM} {vs : List V} {ds : List D} {Q : VK} {Ex : XK} {Q0 : D → Nat → Prop} (ok : Γ.Ok S) (r : Rep Γ E σ H) (hv : Γ.RpL H vs ds) (h : m ds E.c Q0) (k : ∀ d c, Q0 d c → ∀ v H', Kq H H' → Rep Γ ⟨E.l, c⟩ σ H' → Γ.Rp H' v d → Q v H') : spV S m vs H Q Ex := by
  obtain ⟨eK, eB, eT⟩ := ok
  refine ⟨Γ.tp, ds, E.c, Q0, by rw [← eK]; exact hv, by rw [← eB]; exact r.base.tape, r.few, by rw [← eT]; exact r.base.tabs, h, fun d c hd v H' x rv => ?_⟩
  have x' : Ext Γ c H H' := ⟨fun b o n => x.ext b o fun z => n (by
    rcases z with z | z
    · exact .inl z
    · exact .inr (by rw [eT]; exact z)), by rw [eB]; exact x.tape, x.few, by rw [eT]; exact x.tabs⟩
  exact k d c hd v H' (x'.kq r.base) (r.call x') (by rw [← eK] at rv; exact rv)
variable {k : Nat} {f : Addr} {fd : FuncData} {ps : List PySem.Str} {m : VM} {x : PySem.Str} {es : List Expr}
theorem ve_call {t : VTA} (F : FnOk X.prog X.w X.K X.mg X.base CX0 k f fd ps (spV S m)) (hr : Room k X.A) (hg : Gl X x) (hm : X.mg x = some (.ref f)) (hk : PySem.W.keepIn X.K (.ref f) = true) (hb : Binds X.K fd ps [])
    (ha : VA S X (e :: es) t) (hdb : (x == ("__debug__" : PySem.Str)) = false := by decide) (he : starEach (e :: es) X.env = (false, eval e X.env) :: starEach es X.env := by rfl) (hpl : (backTo pos (starEach es X.env)).any (·.1) = false := by rfl) :
    VE S X (.Call (.Name x p) (e :: es) [] pos) (vCall m t) := by
  refine pe_weak (pe_call F hr hg hm hk hb .nil pass0 ha hdb he hpl) ?_
  rintro σ H Q ⟨Γ, E, Q0, ok, rp, ht, k⟩
  refine ⟨Γ, E, _, ok, rp, ht, fun ds E1 hq vs H1 kq1 rp1 hvs => ?_⟩
  show spV S m (vs ++ []) H1 Q E0
  rw [List.append_nil]
  exact spV_of ok rp1 hvs hq fun d c hd v H' q' r' rv => k _ _ hd _ _ (kq1.trans q') r' rv
theorem ve_call0 (F : FnOk X.prog X.w X.K X.mg X.base CX0 k f fd ps (spV S m)) (hr : Room k X.A) (hg : Gl X x) (hm : X.mg x = some (.ref f)) (hk : PySem.W.keepIn X.K (.ref f) = true) (hb : Binds X.K fd ps [])
    (hdb : (x == ("__debug__" : PySem.Str)) = false := by decide) : VE S X (.Call (.Name x p) [] [] pos) (vCall m aNil) := by
  refine pe_weak (pe_call0 F hr hg hm hk hb .nil pass0 hdb) ?_
  rintro σ H Q ⟨Γ, E, Q0, ok, rp, ht, k⟩
  exact spV_of (Ex := E0) ok rp .nil ht fun d c hd v H' q' r' rv => k _ _ hd _ _ q' r' rv
end
/-! ### a def, by values -/
def startL (N : List PySem.Str) (ds : List D) : List SV := ds.map .v ++ List.replicate (N.length - ds.length) .no
def startV (N : List PySem.Str) (ds : List D) (c : Nat) : En := ⟨startL N ds, c⟩
def endV (Q : D → Nat → Prop) : Ve := { nx := fun E => Q .non E.c, rt := fun d E => Q d E.c }
theorem rep_start {K : PySem.W.Frag} {tp : Option Tp} {tabs : List Addr} {N : List PySem.Str} {vs : List V} {ds : List D} {H : Hp} {b : Bool} {c : Nat} (h : RpL K tp H vs ds) (ht : ∀ t, tp = some t → TapeV b H t) (hf : Few tp c H) (hp : ∀ P ∈ tabs, GxR.TabG H P) : Rep ⟨K, b, tp, tabs, [], H⟩ (startV N ds c) (L2.start N vs) H := by
  have len : vs.length = ds.length := h.len
  have notown : ∀ (j : Nat) (s : SV), (startL N ds)[j]? = some s → s.own = false := by
    intro j s e
    unfold startL at e
    rcases Nat.lt_or_ge j ds.length with hj | hj
    · rw [List.getElem?_append_left (by simpa using hj), List.getElem?_map, List.getElem?_eq_getElem hj] at e
      cases e
      rfl
    · rw [List.getElem?_append_right (by simpa using hj), List.getElem?_replicate] at e
      split at e
      · cases e; rfl
      · cases e
  refine ⟨⟨fun _ _ _ _ z => z, Kq.refl _, ht, hp⟩, by simp [startV, startL, L2.start, len], hf, fun i s e => ?_, fun i j s t a e1 e2 o1 _ _ _ => ?_⟩
  · have e : (startL N ds)[i]? = some s := e
    unfold startL at e
    rcases Nat.lt_or_ge i ds.length with hj | hj
    · rw [List.getElem?_append_left (by simpa using hj), List.getElem?_map, List.getElem?_eq_getElem hj] at e
      cases e
      obtain ⟨v, ev, rv⟩ := h.get (List.getElem?_eq_getElem hj)
      refine ⟨some v, ?_, v, rfl, rv⟩
      unfold L2.start
      rw [List.getElem?_append_left (by rw [List.length_map, len]; exact hj), List.getElem?_map, ev]
      rfl
    · rw [List.getElem?_append_right (by simpa using hj), List.getElem?_replicate] at e
      split at e
      · rename_i hl
        cases e
        refine ⟨none, ?_, trivial⟩
        unfold L2.start
        rw [List.getElem?_append_right (by rw [List.length_map, len]; exact hj), List.getElem?_replicate, if_pos (by rw [List.length_map, len]; rw [List.length_map] at hl; exact hl)]
      · cases e
  · rw [notown i s e1] at o1; cases o1
section
variable {P : Program} {w : World} {K : PySem.W.Frag} {mg : PySem.Str → Option Value} {base : Heap} {S : Sg} {x qual : PySem.Str} {st : Stmt} {f : Addr} {fd : FuncData} {N ps : List PySem.Str} {k : Nat} {m : VM} {T : VS}
theorem body_v (hK : S.K = K) {X : Cx} {body : List Stmt} {vs : List V} {H : Hp} {Q : VK} {E : XK} (hb : VSs S X body T) (h : ∀ ds c Q, m ds c Q → T (endV Q) (startV N ds c)) (sp : spV S m vs H Q E) :
    ∃ t, PSs X body t ∧ t { nx := fun _ H' => Q .non H', rt := Q } (L2.start N vs) H := by
  obtain ⟨tp, ds, c, Q0, hv, ht, hf, hp, hm, k⟩ := sp
  refine ⟨_, hb, ⟨S.K, S.b, tp, S.tabs, [], H⟩, startV N ds c, _, ⟨rfl, rfl, rfl⟩, rep_start hv ht hf hp, h ds c Q0 hm, fun E1 h1 σ1 H1 q1 r1 => ?_, fun d E1 h1 v σ1 H1 q1 r1 rv => ?_, fun _ z => z.elim, fun _ z => z.elim⟩
  · exact k _ _ h1 _ _ ⟨fun b o n e => r1.base.ext b o n (by simp) e, r1.base.tape, r1.few, r1.base.tabs⟩ .non
  · exact k _ _ h1 _ _ ⟨fun b o n e => r1.base.ext b o n (by simp) e, r1.base.tape, r1.few, r1.base.tabs⟩ rv
theorem def_v (F : Fun K x qual st f fd) (sc : FnScope N ps (defScope st)) (hK : S.K = K) (len : ∀ ds c Q, m ds c Q → ds.length = ps.length)
    (hb : ∀ (cdv : Value) (A : Around) (outer : List Env) (s : Shared) (H : Hp) (E : XK), Room k (A.deeper (envOfC qual (defScope st) s.heap.objs.size f cdv)) → VSs S (cxOf CX0 P w K mg base N qual (defScope st) f cdv A outer s H E).nox (defBody st) T)
    (h : ∀ ds c Q, m ds c Q → T (endV Q) (startV N ds c)) : FnOk P w K mg base CX0 (k + 1) f fd ps (spV S m) := by
  refine F.ok sc (fun vs H Q E sp => ?_) (fun cdv A outer s H vs Q E hr sp => body_v hK (hb cdv A outer s H E hr) h sp)
  obtain ⟨tp, ds, c, Q0, hv, _, _, _, hm, _⟩ := sp
  rw [hv.len]
  exact len ds c Q0 hm
theorem def_vC {c : Addr} (F : FunC K x qual st f fd c) (sc : FnScope N ps (defScope st)) (hK : S.K = K) (len : ∀ ds c Q, m ds c Q → ds.length = ps.length)
    (hb : ∀ (A : Around) (outer : List Env) (s : Shared) (H : Hp) (E : XK), Room k (A.deeper (envOfC qual (defScope st) s.heap.objs.size f (.ref c))) → VSs S (cxOf CX0 P w K mg base N qual (defScope st) f (.ref c) A outer s H E).nox (defBody st) T)
    (h : ∀ ds c Q, m ds c Q → T (endV Q) (startV N ds c)) : FnOk P w K mg base CX0 (k + 1) f fd ps (spV S m) := by
  refine F.okC sc (fun vs H Q E sp => ?_) (fun A outer s H vs Q E hr sp => body_v hK (hb A outer s H E hr) h sp)
  obtain ⟨tp, ds, c, Q0, hv, _, _, _, hm, _⟩ := sp
  rw [hv.len]
  exact len ds c Q0 hm
end
end Va

set_option Elab.async false
set_option linter.all false
set_option maxRecDepth 100000
set_option maxHeartbeats 4000000
namespace Va
open PySem PySem.Spec PyProof.Rows L2 Ind
/-! ### data for == -/
mutual
def D.pd : D → PyData
  | .non => .none
  | .bl b => .bool b
  | .int i => .int i
  | .str x => .str x
  | .tup xs => .tuple (pdL xs)
  | .ptp xs => .tuple (pdL xs)
  | .lst xs => .list (pdL xs)
  | .dk _ => .dict []
  | .tape => .dict []
  | .ty _ => .dict []
def pdL : List D → List PyData
  | [] => []
  | x :: xs => x.pd :: pdL xs
end
theorem pdL_map : ∀ xs : List D, pdL xs = xs.map D.pd
  | [] => rfl
  | x :: xs => by show x.pd :: pdL xs = x.pd :: xs.map D.pd; rw [pdL_map xs]
section
variable {K : PySem.W.Frag} {tp : Option Tp} {H : Hp}
mutual
theorem Rp.dp : ∀ (d : D) (v : V), d.pd.canLay0 = true → Rp K tp H v d → Dp K H v d.pd
  | .non, _, _, h => by cases h; exact .non
  | .bl _, _, _, h => by cases h; exact .bl _
  | .int _, _, _, h => by cases h; exact .int _
  | .str _, _, _, h => by cases h; exact .str _
  | .tup ds, _, c, h => by
    cases h with
    | tup hs ha => exact .tup hs (RpL.dp ds _ (by simpa [D.pd, PyData.canLay0] using c) ha)
  | .ptp ds, _, c, h => by
    cases h with
    | ptp hs _ ha => exact .tup (.inl (.inr ⟨_, hs⟩)) (RpL.dp ds _ (by simpa [D.pd, PyData.canLay0] using c) ha)
  | .lst ds, _, c, h => by
    cases h with
    | lst hs ha => exact .lst hs.sq (RpL.dp ds _ (by simpa [D.pd, PyData.canLay0] using c) ha)
  | .dk ds, _, c, _ => by simp [D.pd, PyData.canLay0] at c
  | .tape, _, c, _ => by simp [D.pd, PyData.canLay0] at c
  | .ty _, _, c, _ => by simp [D.pd, PyData.canLay0] at c
theorem RpL.dp : ∀ (ds : List D) (vs : List V), PyData.canLayAll0 (pdL ds) = true → RpL K tp H vs ds → DpAll K H vs (pdL ds)
  | [], _, _, h => by cases h; exact .nil
  | d :: ds, _, c, h => by
    cases h with
    | cons h1 h2 =>
      have c' : d.pd.canLay0 = true ∧ PyData.canLayAll0 (pdL ds) = true := by simpa [pdL, PyData.canLayAll0] using c
      exact .cons (Rp.dp d _ c'.1 h1) (RpL.dp ds _ c'.2 h2)
end
end
theorem RpW.dp {Γ : Gm} {H : Hp} {v : V} {d : D} (c : SeqAt.shaped d.pd = true) (h : RpW Γ H v d) : Dp Γ.K H v d.pd := by
  have c0 := SeqAt.canLay_of_shaped c
  cases h with
  | v h => exact Rp.dp d v c0 h
  | l h1 h2 => exact .lst (.of h1) (RpL.dp _ _ (by simpa [D.pd, PyData.canLay0] using c0) h2)
  | k h1 h2 => simp [D.pd, PyData.canLay0] at c0
theorem RpW.seq {Γ : Gm} {H : Hp} {v : V} {ds : List D} (h : RpW Γ H v (.lst ds)) : ∃ a xs, v = .ref a ∧ SqL Γ.K H a xs ∧ Γ.RpL H xs ds := by
  cases h with
  | v h =>
    obtain ⟨a, xs, rfl, h1, h2⟩ := h.lst_inv
    exact ⟨a, xs, rfl, h1.sq, h2⟩
  | l h1 h2 => exact ⟨_, _, rfl, .of h1, h2⟩
theorem RpW.rd {Γ : Gm} {H : Hp} {v : V} {ds : List D} (h : RpW Γ H v (.lst ds)) : ∃ a xs, v = .ref a ∧ Rd H a (.lst xs) ∧ Γ.RpL H xs ds := by
  cases h with
  | v h =>
    obtain ⟨a, xs, rfl, ⟨o, h1⟩, h2⟩ := h.lst_inv
    exact ⟨a, xs, rfl, .inr ⟨o, h1⟩, h2⟩
  | l h1 h2 => exact ⟨_, _, rfl, .inl h1, h2⟩
theorem RpW.dk {Γ : Gm} {H : Hp} {v : V} {ds : List (Key × D)} (h : RpW Γ H v (.dk ds)) : ∃ a kv, v = .ref a ∧ Rd H a (.dK kv) ∧ RpK Γ.K Γ.tp H kv ds := by
  cases h with
  | v h =>
    obtain ⟨a, o, xs, rfl, h1, h2⟩ := h.dk_inv
    exact ⟨a, xs, rfl, .inr ⟨o, h1⟩, h2⟩
  | k h1 h2 => exact ⟨_, _, rfl, .inl h1, h2⟩
theorem RpW.tup {Γ : Gm} {H : Hp} {v : V} {ds : List D} (h : RpW Γ H v (.tup ds)) : ∃ a xs, v = .ref a ∧ SqT Γ.K H a xs ∧ Γ.RpL H xs ds := by
  cases h with
  | v h => exact h.tup_inv
theorem RpW.int {Γ : Gm} {H : Hp} {v : V} {i : Int} (h : RpW Γ H v (.int i)) : v = .int i := by
  cases h with
  | v h => exact h.int_inv
theorem RpW.str {Γ : Gm} {H : Hp} {v : V} {i : Tx} (h : RpW Γ H v (.str i)) : v = .str i := by
  cases h with
  | v h => exact h.str_inv
theorem RpW.bl {Γ : Gm} {H : Hp} {v : V} {i : Bool} (h : RpW Γ H v (.bl i)) : v = .bl i := by
  cases h with
  | v h => exact h.bl_inv
theorem RpW.non {Γ : Gm} {H : Hp} {v : V} (h : RpW Γ H v .non) : v = .non := by
  cases h with
  | v h => cases h; rfl
theorem million {n : Nat} (h : n ≤ 1000000) : n ≤ sizeLine := Nat.le_trans h (by decide)
theorem millionL {n : Nat} (h : n < 1000000) : n < sizeLine := Nat.lt_of_lt_of_le h (by decide)
section
variable {X : Cx} {S : Sg}
/-! ### + -/
def addG : VO := fun d e Q => match d, e with
  | .int i, .int j => Q (.v (.int (i + j)))
  | .str x, .str y => x.length + y.length ≤ 1000000 ∧ Q (.v (.str (x ++ y)))
  | .lst xs, .lst ys => xs.length + ys.length ≤ 1000000 ∧ Q (.fl (xs ++ ys))
  | .tup xs, .tup ys => xs.length + ys.length ≤ 1000000 ∧ Q (.v (.tup (xs ++ ys)))
  | _, _ => False
/-- list + list, either may be locked -/
theorem op_catL : OpR X (binaryOp .Add) (fun x y H Q => ∃ l b xs zs, x = .ref l ∧ y = .ref b ∧ Rd H l (.lst xs) ∧ Rd H b (.lst zs) ∧ xs.length + zs.length ≤ sizeLine ∧ ∀ p, H p = none → Q (.ref p) (upd H p (.lst (xs ++ zs)))) := by
  rintro pins s σ H x y v u Q I rx ry ⟨l, b, xs, zs, rfl, rfl, hl, hb, hz, q⟩
  cases (show v = Value.ref l from rx)
  cases (show u = Value.ref b from ry)
  obtain ⟨_, its, n, r, e1⟩ := hl.ok I.hok
  obtain ⟨_, its2, n2, r2, e2⟩ := hb.ok I.hok
  have k1 := r.length
  have k2 := r2.length
  refine PySem.P.add_list e1 e2 ?_ (by simp only [List.size_toArray]; omega)
  rw [show its.toArray ++ its2.toArray = (its ++ its2).toArray by simp]
  exact ⟨.ref _, _, I.lnew (t' := s.toks) (r.append r2) (by simp; omega), rfl, q _ I.fresh⟩
theorem o_add (hK : S.K = X.K) : OpV S X (binaryOp .Add) addG := by
  refine ⟨_, ((op_add.or op_add_str).or (op_catL.or op_catA)), ?_⟩
  intro Γ H x y d e Q Q0 eK hx hy hg k
  have eK' : X.K = Γ.K := (eK.trans hK).symm
  unfold addG at hg
  split at hg
  · exact .inl (.inl ⟨_, _, hx.int, hy.int, k _ hg _ _ (Same.refl _) (.int _)⟩)
  · exact .inl (.inr ⟨_, _, hx.str, hy.str, million hg.1, k _ hg.2 _ _ (Same.refl _) (.str _)⟩)
  · obtain ⟨a, xs, rfl, h1, h2⟩ := hx.rd
    obtain ⟨b, ys, rfl, h3, h4⟩ := hy.rd
    refine .inr (.inl ⟨a, b, xs, ys, rfl, rfl, h1, h3, million (by rw [h2.len, h4.len]; exact hg.1), fun p np => ?_⟩)
    have sm := same_upd (o := .lst (xs ++ ys)) np
    exact k _ hg.2 _ _ sm ⟨p, _, rfl, np, upd_same, RpL.kq (.same sm) _ _ (h2.app h4)⟩
  · obtain ⟨a, xs, rfl, h1, h2⟩ := hx.tup
    obtain ⟨b, ys, rfl, h3, h4⟩ := hy.tup
    rw [eK']
    refine .inr (.inr ⟨a, b, xs, ys, rfl, rfl, h1, h3, million (by rw [h2.len, h4.len]; exact hg.1), fun e => ?_, fun _ e => ?_, fun _ _ p np => ?_⟩)
    · subst e
      cases h2
      exact k _ hg.2 _ _ (Same.refl _) (.tup h3 h4)
    · subst e
      cases h4
      refine k _ hg.2 _ _ (Same.refl _) ?_
      rw [List.append_nil]
      exact .tup h1 h2
    · have sm := same_upd (o := .tup (xs ++ ys)) np
      exact k _ hg.2 _ _ sm (.tup (.of upd_same) (RpL.kq (.same sm) _ _ (h2.app h4)))
  · exact hg.elim
/-! ### ints -/
def int2 (C : Int → Int → Prop) (f : Int → Int → D) : VO := fun d e Q => match d, e with
  | .int i, .int j => C i j ∧ Q (.v (f i j))
  | _, _ => False
def int0 (f : Int → Int → D) : VO := fun d e Q => match d, e with
  | .int i, .int j => Q (.v (f i j))
  | _, _ => False
theorem o_int {f : Value → Value → Sem Value} {C : Int → Int → Prop} {g : Int → Int → Int} (h : OpR X f (rI C fun i j => .int (g i j))) : OpV S X f (int2 C fun i j => .int (g i j)) := by
  refine ⟨_, h, ?_⟩
  intro Γ H x y d e Q Q0 eK hx hy hg k
  unfold int2 at hg
  split at hg
  · exact ⟨_, _, hx.int, hy.int, hg.1, k _ hg.2 _ _ (Same.refl _) (.int _)⟩
  · exact hg.elim
theorem o_int0 {f : Value → Value → Sem Value} {g : Int → Int → Int} (h : OpR X f (rI0 fun i j => .int (g i j))) : OpV S X f (int0 fun i j => .int (g i j)) := by
  refine ⟨_, h, ?_⟩
  intro Γ H x y d e Q Q0 eK hx hy hg k
  unfold int0 at hg
  split at hg
  · exact ⟨_, _, hx.int, hy.int, k _ hg _ _ (Same.refl _) (.int _)⟩
  · exact hg.elim
theorem o_sub : OpV S X (binaryOp .Sub) (int0 fun i j => .int (i - j)) := o_int0 op_sub
theorem o_mul : OpV S X (binaryOp .Mult) (int2 CMul fun i j => .int (i * j)) := o_int op_mul
theorem o_fdiv : OpV S X (binaryOp .FloorDiv) (int2 CDivW fun i j => .int (i / j)) := o_int op_fdivW
theorem o_mod : OpV S X (binaryOp .Mod) (int2 (fun _ j => 0 < j) fun i j => .int (i % j)) := o_int op_mod
theorem o_pow : OpV S X (binaryOp .Pow) (int2 CPow fun i j => .int (i ^ j.toNat)) := o_int op_pow
/-! ### comparisons -/
theorem dS {x y : Tx} : decide (V.str x = V.str y) = decide (x = y) := decide_eq_decide.mpr ⟨fun e => by injection e, fun e => by rw [e]⟩
theorem dI {x y : Int} : decide (V.int x = V.int y) = decide (x = y) := decide_eq_decide.mpr ⟨fun e => by injection e, fun e => by rw [e]⟩
theorem dB {x y : Bool} : decide (V.bl x = V.bl y) = decide (x = y) := decide_eq_decide.mpr ⟨fun e => by injection e, fun e => by rw [e]⟩
def eqD (d e : D) (f : Bool → RV) (Q : RV → Prop) : Prop := match d, e with
  | .str x, .str y => Q (f (decide (x = y)))
  | .int i, .int j => Q (f (decide (i = j)))
  | .bl a, .bl b => Q (f (decide (a = b)))
  | .non, .non => Q (f true)
  | .str _, .int _ => Q (f false)
  | .int _, .str _ => Q (f false)
  | .str _, .bl _ => Q (f false)
  | .bl _, .str _ => Q (f false)
  | .non, .str _ => Q (f false)
  | .str _, .non => Q (f false)
  | .non, .int _ => Q (f false)
  | .int _, .non => Q (f false)
  | d, e => SeqAt.shaped d.pd = true ∧ SeqAt.shaped e.pd = true ∧ Q (f (PyData.eqv d.pd e.pd))
def eqG : VO := fun d e Q => eqD d e (fun b => .v (.bl b)) Q
def neG : VO := fun d e Q => eqD d e (fun b => .v (.bl (!b))) Q
theorem o_eq (hK : S.K = X.K) (hu : X.A.units + 64 < cLine) : OpV S X (compareOp .Eq) eqG := by
  refine ⟨_, op_eq.or (op_eqD hu), ?_⟩
  intro Γ H x y d e Q Q0 eK hx hy hg k
  have eK' : X.K = Γ.K := (eK.trans hK).symm
  unfold eqG eqD at hg
  split at hg
  · rw [hx.str, hy.str]
    refine .inl ⟨rfl, ?_⟩
    rw [dS]
    exact k _ hg _ _ (Same.refl _) (.bl _)
  · rw [hx.int, hy.int]
    refine .inl ⟨rfl, ?_⟩
    rw [dI]
    exact k _ hg _ _ (Same.refl _) (.bl _)
  · rw [hx.bl, hy.bl]
    refine .inl ⟨rfl, ?_⟩
    rw [dB]
    exact k _ hg _ _ (Same.refl _) (.bl _)
  · rw [hx.non, hy.non]
    exact .inl ⟨rfl, k _ hg _ _ (Same.refl _) (.bl _)⟩
  · rw [hx.str, hy.int]; exact .inl ⟨rfl, k _ hg _ _ (Same.refl _) (.bl _)⟩
  · rw [hx.int, hy.str]; exact .inl ⟨rfl, k _ hg _ _ (Same.refl _) (.bl _)⟩
  · rw [hx.str, hy.bl]; exact .inl ⟨rfl, k _ hg _ _ (Same.refl _) (.bl _)⟩
  · rw [hx.bl, hy.str]; exact .inl ⟨rfl, k _ hg _ _ (Same.refl _) (.bl _)⟩
  · rw [hx.non, hy.str]; exact .inl ⟨rfl, k _ hg _ _ (Same.refl _) (.bl _)⟩
  · rw [hx.str, hy.non]; exact .inl ⟨rfl, k _ hg _ _ (Same.refl _) (.bl _)⟩
  · rw [hx.non, hy.int]; exact .inl ⟨rfl, k _ hg _ _ (Same.refl _) (.bl _)⟩
  · rw [hx.int, hy.non]; exact .inl ⟨rfl, k _ hg _ _ (Same.refl _) (.bl _)⟩
  · rw [eK']
    exact .inr ⟨_, _, hx.dp hg.1, hy.dp hg.2.1, hg.1, hg.2.1, k _ hg.2.2 _ _ (Same.refl _) (.bl _)⟩
theorem o_ne (hK : S.K = X.K) (hu : X.A.units + 64 < cLine) : OpV S X (compareOp .NotEq) neG := by
  refine ⟨_, op_ne.or (op_neD hu), ?_⟩
  intro Γ H x y d e Q Q0 eK hx hy hg k
  have eK' : X.K = Γ.K := (eK.trans hK).symm
  unfold neG eqD at hg
  split at hg
  · rw [hx.str, hy.str]
    refine .inl ⟨rfl, ?_⟩
    rw [dS]
    exact k _ hg _ _ (Same.refl _) (.bl _)
  · rw [hx.int, hy.int]
    refine .inl ⟨rfl, ?_⟩
    rw [dI]
    exact k _ hg _ _ (Same.refl _) (.bl _)
  · rw [hx.bl, hy.bl]
    refine .inl ⟨rfl, ?_⟩
    rw [dB]
    exact k _ hg _ _ (Same.refl _) (.bl _)
  · rw [hx.non, hy.non]
    exact .inl ⟨rfl, k _ hg _ _ (Same.refl _) (.bl _)⟩
  · rw [hx.str, hy.int]; exact .inl ⟨rfl, k _ hg _ _ (Same.refl _) (.bl _)⟩
  · rw [hx.int, hy.str]; exact .inl ⟨rfl, k _ hg _ _ (Same.refl _) (.bl _)⟩
  · rw [hx.str, hy.bl]; exact .inl ⟨rfl, k _ hg _ _ (Same.refl _) (.bl _)⟩
  · rw [hx.bl, hy.str]; exact .inl ⟨rfl, k _ hg _ _ (Same.refl _) (.bl _)⟩
  · rw [hx.non, hy.str]; exact .inl ⟨rfl, k _ hg _ _ (Same.refl _) (.bl _)⟩
  · rw [hx.str, hy.non]; exact .inl ⟨rfl, k _ hg _ _ (Same.refl _) (.bl _)⟩
  · rw [hx.non, hy.int]; exact .inl ⟨rfl, k _ hg _ _ (Same.refl _) (.bl _)⟩
  · rw [hx.int, hy.non]; exact .inl ⟨rfl, k _ hg _ _ (Same.refl _) (.bl _)⟩
  · rw [eK']
    exact .inr ⟨_, _, hx.dp hg.1, hy.dp hg.2.1, hg.1, hg.2.1, k _ hg.2.2 _ _ (Same.refl _) (.bl _)⟩
def ordG (p : Int → Int → Bool) (q : List Nat → List Nat → Bool) : VO := fun d e Q => match d, e with
  | .int i, .int j => Q (.v (.bl (p i j)))
  | .str x, .str y => Q (.v (.bl (q x.cps.toList y.cps.toList)))
  | _, _ => False
theorem o_ord {f : Value → Value → Sem Value} {p : Int → Int → Bool} {q : List Nat → List Nat → Bool} (h : OpR X f (rI0 fun i j => .bl (p i j))) (h2 : OpR X f (fun x y H Q => ∃ i j, x = .str i ∧ y = .str j ∧ Q (.bl (q i.cps.toList j.cps.toList)) H)) : OpV S X f (ordG p q) := by
  refine ⟨_, h.or h2, ?_⟩
  intro Γ H x y d e Q Q0 eK hx hy hg k
  unfold ordG at hg
  split at hg
  · exact .inl ⟨_, _, hx.int, hy.int, k _ hg _ _ (Same.refl _) (.bl _)⟩
  · exact .inr ⟨_, _, hx.str, hy.str, k _ hg _ _ (Same.refl _) (.bl _)⟩
  · exact hg.elim
abbrev ltG : VO := ordG (fun i j => decide (i < j)) fun x y => decide (x < y)
abbrev leG : VO := ordG (fun i j => decide (i ≤ j)) fun x y => !decide (y < x)
abbrev gtG : VO := ordG (fun i j => decide (j < i)) fun x y => decide (y < x)
abbrev geG : VO := ordG (fun i j => decide (j ≤ i)) fun x y => !decide (x < y)
theorem o_lt : OpV S X (compareOp .Lt) ltG := o_ord op_lt op_lt_str
theorem o_le : OpV S X (compareOp .LtE) leG := o_ord op_le op_le_str
theorem o_gt : OpV S X (compareOp .Gt) gtG := o_ord op_gt op_gt_str
theorem o_ge : OpV S X (compareOp .GtE) geG := o_ord op_ge op_ge_str
def isNon : D → Bool
  | .non => true
  | _ => false
def isNG (f : Bool → Bool) : VO := fun d e Q => match e with
  | .non => Q (.v (.bl (f (isNon d))))
  | _ => False
theorem RpW.none_iff {Γ : Gm} {H : Hp} {v : V} {d : D} (h : RpW Γ H v d) : decide (v = .non) = isNon d := by
  cases h with
  | v h => cases h <;> rfl
  | l _ _ => rfl
  | k _ _ => rfl
theorem o_isN : OpV S X (compareOp .Is) (isNG id) := by
  refine ⟨_, op_isN, ?_⟩
  intro Γ H x y d e Q Q0 eK hx hy hg k
  unfold isNG at hg
  split at hg
  · refine ⟨hy.non, ?_⟩
    rw [hx.none_iff]
    exact k _ hg _ _ (Same.refl _) (.bl _)
  · exact hg.elim
theorem o_notN : OpV S X (compareOp .IsNot) (isNG (!·)) := by
  refine ⟨_, op_notN, ?_⟩
  intro Γ H x y d e Q Q0 eK hx hy hg k
  unfold isNG at hg
  split at hg
  · refine ⟨hy.non, ?_⟩
    rw [hx.none_iff]
    exact k _ hg _ _ (Same.refl _) (.bl _)
  · exact hg.elim
/-! ### in -/
def D.flat : D → Bool
  | .non => true
  | .bl _ => true
  | .int _ => true
  | .str _ => true
  | _ => false
/-- == of flat values -/
def D.eqf : D → D → Bool
  | .non, .non => true
  | .bl a, .bl b => a == b
  | .bl a, .int b => (if a then 1 else 0) == b
  | .int a, .bl b => a == (if b then 1 else 0)
  | .int a, .int b => a == b
  | .str a, .str b => a == b
  | _, _ => false
def keyOf : D → Option Key
  | .int i => some (.inl i)
  | .str x => some (.inr x)
  | _ => none
def look (kvs : List (Key × D)) (k : Key) : Option D := (kvs.find? fun p => decide (p.1 = k)).map (·.2)
def inSeq (d : D) (ys : List D) (f : Bool → RV) (Q : RV → Prop) : Prop := match d with
  | .tup _ => SeqAt.shaped d.pd = true ∧ SeqAt.shaped (.list (pdL ys)) = true ∧ Q (f (ys.any fun y => PyData.eqv y.pd d.pd))
  | _ => d.flat = true ∧ ys.all D.flat = true ∧ Q (f (ys.any fun y => D.eqf y d))
def inD (d e : D) (f : Bool → RV) (Q : RV → Prop) : Prop := match e with
  | .lst ys => inSeq d ys f Q
  | .tup ys => inSeq d ys f Q
  | .str z => ∃ c, d = one c ∧ Q (f (decide (c ∈ z.cps.toList)))
  | .dk kvs => ∃ k, keyOf d = some k ∧ Q (f (look kvs k).isSome)
  | _ => False
def inG : VO := fun d e Q => inD d e (fun b => .v (.bl b)) Q
def ninG : VO := fun d e Q => inD d e (fun b => .v (.bl (!b))) Q
theorem Rp.flatV {K : PySem.W.Frag} {tp : Option Tp} {H : Hp} {v : V} {d : D} (h : Rp K tp H v d) (f : d.flat = true) : flatV v = true := by
  cases h <;> first | rfl | cases f
theorem Rp.eqV {K : PySem.W.Frag} {tp : Option Tp} {H : Hp} {v u : V} {d e : D} (h : Rp K tp H v d) (h' : Rp K tp H u e) (f : d.flat = true) (f' : e.flat = true) : eqV v u = d.eqf e := by
  cases h <;> first | (cases f; done) | (cases h' <;> first | rfl | cases f')
theorem RpL.flatV {K : PySem.W.Frag} {tp : Option Tp} {H : Hp} : ∀ {vs : List V} {ds : List D}, RpL K tp H vs ds → ds.all D.flat = true → vs.all flatV = true
  | _, _, .nil, _ => rfl
  | _, _, .cons h t, f => by
    simp only [List.all_cons, Bool.and_eq_true] at f ⊢
    exact ⟨h.flatV f.1, RpL.flatV t f.2⟩
theorem RpL.inV {K : PySem.W.Frag} {tp : Option Tp} {H : Hp} {x : V} {d : D} (h : Rp K tp H x d) (f : d.flat = true) : ∀ {vs : List V} {ds : List D}, RpL K tp H vs ds → ds.all D.flat = true → inV x vs = ds.any fun y => y.eqf d
  | _, _, .nil, _ => rfl
  | _, _, .cons (v := v) (vs := vs) (d := e) (ds := ds) h1 t, g => by
    simp only [List.all_cons, Bool.and_eq_true] at g
    show (L2.eqV v x || L2.inV x vs) = (e.eqf d || ds.any fun y => y.eqf d)
    rw [h1.eqV h g.1 f, RpL.inV h f t g.2]
theorem RpW.flat {Γ : Gm} {H : Hp} {v : V} {d : D} (h : RpW Γ H v d) (f : d.flat = true) : Γ.Rp H v d := by
  cases h with
  | v h => exact h
  | l _ _ => cases f
  | k _ _ => cases f
theorem look_val {K : PySem.W.Frag} {tp : Option Tp} {H : Hp} {kv : List (Key × V)} {ds : List (Key × D)} (r : RpK K tp H kv ds) (k : Key) : match look ds k with
    | some d => ∃ v, valV kv k = some v ∧ Rp K tp H v d
    | none => valV kv k = none := by
  have := r.val (k := k)
  unfold look
  cases h : ds.find? fun p => decide (p.1 = k) with
  | none => rw [h] at this; exact this
  | some p => rw [h] at this; exact this
theorem look_some {K : PySem.W.Frag} {tp : Option Tp} {H : Hp} {kv : List (Key × V)} {ds : List (Key × D)} (r : RpK K tp H kv ds) (k : Key) : (valV kv k).isSome = (look ds k).isSome := by
  have := look_val r k
  cases h : look ds k with
  | none => rw [h] at this; rw [show valV kv k = none from this]; rfl
  | some d => rw [h] at this; obtain ⟨v, e, _⟩ := this; rw [e]; rfl
theorem keyOf_rp {Γ : Gm} {H : Hp} {v : V} {d : D} {k : Key} (h : RpW Γ H v d) (e : keyOf d = some k) : v = kV k := by
  cases d with
  | int i => cases e; exact h.int
  | str x => cases e; exact h.str
  | _ => cases e
def rInAny (K : PySem.W.Frag) (neg : Bool) : R2 := fun x y H Q => ∃ d ds, Dp K H x d ∧ (Dp K H y (.list ds) ∨ Dp K H y (.tuple ds)) ∧ SeqAt.shaped d = true ∧ SeqAt.shaped (.list ds) = true ∧ Q (.bl (if neg then !ds.any fun z => PyData.eqv z d else ds.any fun z => PyData.eqv z d)) H
theorem op_inAny (hu : X.A.units + 65 < cLine) : OpR X (compareOp .In) (rInAny X.K false) := by
  rintro pins s σ H x y v u Q I rx ry ⟨d, ds, hd, he, sd, se, q⟩
  obtain ⟨as, r1⟩ := Dp.reads I d x v hd rx
  rcases he with he | he
  · obtain ⟨bs, r2⟩ := Dp.reads I _ y u he ry
    exact SeqAt.in_list_reads r2 r1 (SeqAt.canLay_of_shaped se) (SeqAt.canLay_of_shaped sd) (room_in_shaped sd hu) ⟨.bl _, H, I, rfl, q⟩
  · obtain ⟨bs, r2⟩ := Dp.reads I _ y u he ry
    exact SeqAt.in_tuple_reads r2 r1 (SeqAt.canLay_of_shaped se) (SeqAt.canLay_of_shaped sd) (room_in_shaped sd hu) ⟨.bl _, H, I, rfl, q⟩
theorem op_ninAny (hu : X.A.units + 65 < cLine) : OpR X (compareOp .NotIn) (rInAny X.K true) := by
  rintro pins s σ H x y v u Q I rx ry ⟨d, ds, hd, he, sd, se, q⟩
  obtain ⟨as, r1⟩ := Dp.reads I d x v hd rx
  rcases he with he | he
  · obtain ⟨bs, r2⟩ := Dp.reads I _ y u he ry
    exact SeqAt.notIn_list_reads r2 r1 (SeqAt.canLay_of_shaped se) (SeqAt.canLay_of_shaped sd) (room_in_shaped sd hu) ⟨.bl _, H, I, rfl, q⟩
  · obtain ⟨bs, r2⟩ := Dp.reads I _ y u he ry
    exact SeqAt.notIn_tuple_reads r2 r1 (SeqAt.canLay_of_shaped se) (SeqAt.canLay_of_shaped sd) (room_in_shaped sd hu) ⟨.bl _, H, I, rfl, q⟩
theorem op_inD' (hu : X.A.units + 1 < cLine) : OpR X (compareOp .In) (fun x y H Q => ∃ a o, y = .ref a ∧ DGet H a x o ∧ Q (.bl o.isSome) H) := by
  rintro pins s σ H x y v u Q I rx ry ⟨a, o, rfl, g, q⟩
  cases (show u = Value.ref a from ry)
  exact d_in hu I g rx fun s3 I3 => ⟨.bl _, H, I3, rfl, q⟩
theorem op_ninD' (hu : X.A.units + 1 < cLine) : OpR X (compareOp .NotIn) (fun x y H Q => ∃ a o, y = .ref a ∧ DGet H a x o ∧ Q (.bl (!o.isSome)) H) := by
  rintro pins s σ H x y v u Q I rx ry ⟨a, o, rfl, g, q⟩
  cases (show u = Value.ref a from ry)
  exact d_notIn hu I g rx fun s3 I3 => ⟨.bl _, H, I3, rfl, q⟩
theorem rd_get {Γ : Gm} {H : Hp} {a : Addr} {kv : List (Key × V)} {k : Key} (h : Rd H a (.dK kv)) : DGet H a (kV k) (valV kv k) := .inl ⟨kv, k, h, rfl, rfl⟩
theorem pdL_any (ys : List D) (z : PyData) : ((pdL ys).any fun y => PyData.eqv y z) = ys.any fun y => PyData.eqv y.pd z := by
  rw [pdL_map, List.any_map]; rfl
theorem in_core (hK : S.K = X.K) {neg : Bool} {f : Value → Value → Sem Value} {r1 r2 r3 r4 : R2} {Γ : Gm} {H : Hp} {x y : V} {d e : D} {Q : VK} {Q0 : RV → Prop} (eK : Γ.K = S.K) (hx : RpW Γ H x d) (hy : RpW Γ H y e)
    (hg : inD d e (fun b => .v (.bl (if neg then !b else b))) Q0) (k : ∀ z, Q0 z → ∀ v H', Same H H' → RpN Γ H H' v z → Q v H') :
    (rIn X.K neg x y H Q ∨ rInAny X.K neg x y H Q) ∨ (∃ (c : Nat) (z : Tx), x = .str ⟨#[c]⟩ ∧ y = .str z ∧ Q (.bl (if neg then !decide (c ∈ z.cps.toList) else decide (c ∈ z.cps.toList))) H) ∨ ∃ a o, y = .ref a ∧ DGet H a x o ∧ Q (.bl (if neg then !o.isSome else o.isSome)) H := by
  have eK' : X.K = Γ.K := (eK.trans hK).symm
  have seq : ∀ (ys : List D) (p : Addr) (xs : List V), y = .ref p → (SqL Γ.K H p xs ∨ SqT Γ.K H p xs) → Γ.RpL H xs ys → (∀ c : PyData.canLayAll0 (pdL ys) = true, Dp Γ.K H y (.list (pdL ys)) ∨ Dp Γ.K H y (.tuple (pdL ys))) →
      inSeq d ys (fun b => .v (.bl (if neg then !b else b))) Q0 → rIn X.K neg x y H Q ∨ rInAny X.K neg x y H Q := by
    intro ys p xs ey hs hr hd h
    have deep : SeqAt.shaped d.pd = true ∧ SeqAt.shaped (.list (pdL ys)) = true ∧ Q0 (.v (.bl (if neg then !(ys.any fun y => PyData.eqv y.pd d.pd) else (ys.any fun y => PyData.eqv y.pd d.pd)))) → rInAny X.K neg x y H Q := by
      intro h
      refine ⟨d.pd, pdL ys, by rw [eK']; exact hx.dp h.1, by rw [eK']; exact hd (SeqAt.canLay_of_shaped h.2.1), h.1, h.2.1, ?_⟩
      rw [pdL_any]
      exact k _ h.2.2 _ _ (Same.refl _) (.bl _)
    have flat : d.flat = true ∧ ys.all D.flat = true ∧ Q0 (.v (.bl (if neg then !(ys.any fun y => D.eqf y d) else (ys.any fun y => D.eqf y d)))) → rIn X.K neg x y H Q := by
      intro h
      refine ⟨p, xs, ey, by rw [eK']; exact hs, (hx.flat h.1).flatV h.1, hr.flatV h.2.1, ?_⟩
      rw [RpL.inV (hx.flat h.1) h.1 hr h.2.1]
      exact k _ h.2.2 _ _ (Same.refl _) (.bl _)
    cases d with
    | tup ds => exact .inr (deep h)
    | _ => exact .inl (flat h)
  cases e with
  | lst ys =>
    obtain ⟨p, xs, rfl, h1, h2⟩ := hy.seq
    exact .inl (seq ys p xs rfl (.inl h1) h2 (fun c => .inl (.lst h1 (RpL.dp _ _ c h2))) hg)
  | tup ys =>
    obtain ⟨p, xs, rfl, h1, h2⟩ := hy.tup
    exact .inl (seq ys p xs rfl (.inr h1) h2 (fun c => .inr (.tup h1 (RpL.dp _ _ c h2))) hg)
  | str z =>
    obtain ⟨c, rfl, hq⟩ := hg
    exact .inr (.inl ⟨c, z, hx.str, hy.str, k _ hq _ _ (Same.refl _) (.bl _)⟩)
  | dk kvs =>
    obtain ⟨kk, ek, hq⟩ := hg
    obtain ⟨a, kv, rfl, h1, h2⟩ := hy.dk
    refine .inr (.inr ⟨a, _, rfl, by rw [keyOf_rp hx ek]; exact rd_get (Γ := Γ) h1, ?_⟩)
    rw [look_some h2]
    exact k _ hq _ _ (Same.refl _) (.bl _)
  | _ => exact hg.elim
theorem o_in (hK : S.K = X.K) (hu : X.A.units + 65 < cLine) : OpV S X (compareOp .In) inG := by
  refine ⟨_, (op_in_seq.or (op_inAny hu)).or (op_in_sign.or (op_inD' (by omega))), ?_⟩
  intro Γ H x y d e Q Q0 eK hx hy hg k
  exact in_core (neg := false) hK (f := compareOp .In) (r1 := rEq) (r2 := rEq) (r3 := rEq) (r4 := rEq) eK hx hy hg k
theorem o_nin (hK : S.K = X.K) (hu : X.A.units + 65 < cLine) : OpV S X (compareOp .NotIn) ninG := by
  refine ⟨_, (op_notIn_seq.or (op_ninAny hu)).or (op_notIn_sign.or (op_ninD' (by omega))), ?_⟩
  intro Γ H x y d e Q Q0 eK hx hy hg k
  exact in_core (neg := true) hK (f := compareOp .NotIn) (r1 := rEq) (r2 := rEq) (r3 := rEq) (r4 := rEq) eK hx hy hg k
/-! ### subscripts -/
structure IxV (S : Sg) (X : Cx) (g : VO) : Prop where
  ex : ∃ r : R2, IxR X r ∧ ∀ (Γ : Gm) (H : Hp) (x y : V) (d e : D) (Q : VK) (Q0 : RV → Prop), Γ.K = S.K → RpW Γ H x d → RpW Γ H y e → g d e Q0 → (∀ z, Q0 z → ∀ v H', Same H H' → RpN Γ H H' v z → Q v H') → r x y H Q
def ixG : VO := fun d e Q => match d with
  | .lst xs => match e with
    | .int i => withD (atI xs i) fun z => Q (.v z)
    | _ => False
  | .tup xs => match e with
    | .int i => withD (atI xs i) fun z => Q (.v z)
    | _ => False
  | .str x => match e with
    | .int i => x.length ≤ 1000000 ∧ ∃ c, atI x.cps.toList i = some c ∧ Q (.v (one c))
    | _ => False
  | .dk kvs => ∃ k, keyOf e = some k ∧ withD (look kvs k) fun z => Q (.v z)
  | _ => False
theorem withD_inv {d : Option D} {Q : D → Prop} (h : withD d Q) : ∃ b, d = some b ∧ Q b := by
  cases d with
  | none => exact h.elim
  | some b => exact ⟨b, rfl, h⟩
theorem withD_of {o : Option D} {d : D} {Q : D → Prop} (e : o = some d) (h : Q d) : withD o Q := by rw [e]; exact h
theorem ix_dict (hu : X.A.units + 1 < cLine) : IxR X (fun x y H Q => ∃ a v, x = .ref a ∧ DGet H a y (some v) ∧ Q v H) := by
  rintro value slice pins s σ H x y v u Q I rx ry ⟨a, z, rfl, g, q⟩ hs
  cases (show v = Value.ref a from rx)
  exact tail_any (dict_typeIs I g) PySem.F.slot_dict_getitem.lookup (d_getItem hu I g ry fun w' s3 I3 rw' => ⟨z, H, I3, rw', q⟩) hs
theorem RpL.atI {K : PySem.W.Frag} {tp : Option Tp} {H : Hp} {vs : List V} {ds : List D} {i : Int} {d : D} (r : RpL K tp H vs ds) (e : atI ds i = some d) : ∃ v, L2.atI vs i = some v ∧ Rp K tp H v d := by
  unfold L2.atI at e ⊢
  rw [r.len]
  cases h : ixN ds.length i with
  | none => rw [h] at e; cases e
  | some j =>
    rw [h] at e
    exact r.get e
theorem i_ix (hK : S.K = X.K) (hu : X.A.units + 1 < cLine) : IxV S X ixG := by
  refine ⟨_, ix_seq.or (ix_dict hu), ?_⟩
  intro Γ H x y d e Q Q0 eK hx hy hg k
  have eK' : X.K = Γ.K := (eK.trans hK).symm
  cases d with
  | lst xs =>
    cases e with
    | int i =>
      obtain ⟨z, ez, hq⟩ := withD_inv hg
      obtain ⟨a, vs, rfl, h1, h2⟩ := hx.seq
      obtain ⟨v, ev, rv⟩ := h2.atI ez
      exact .inl (.inl ⟨a, vs, i, v, rfl, hy.int, by rw [eK']; exact h1, ev, k _ hq _ _ (Same.refl _) rv⟩)
    | _ => exact hg.elim
  | tup xs =>
    cases e with
    | int i =>
      obtain ⟨z, ez, hq⟩ := withD_inv hg
      obtain ⟨a, vs, rfl, h1, h2⟩ := hx.tup
      obtain ⟨v, ev, rv⟩ := h2.atI ez
      exact .inl (.inr (.inl ⟨a, vs, i, v, rfl, hy.int, by rw [eK']; exact h1, ev, k _ hq _ _ (Same.refl _) rv⟩))
    | _ => exact hg.elim
  | str z =>
    cases e with
    | int i =>
      obtain ⟨hl, c, ec, hq⟩ := hg
      exact .inl (.inr (.inr ⟨z, i, c, hx.str, hy.int, million hl, ec, k _ hq _ _ (Same.refl _) (.str _)⟩))
    | _ => exact hg.elim
  | dk kvs =>
    obtain ⟨kk, ek, hg⟩ := hg
    obtain ⟨z, ez, hq⟩ := withD_inv hg
    obtain ⟨a, kv, rfl, h1, h2⟩ := hx.dk
    have := look_val h2 kk
    rw [ez] at this
    obtain ⟨v, ev, rv⟩ := this
    refine .inr ⟨a, v, rfl, ?_, k _ hq _ _ (Same.refl _) rv⟩
    rw [keyOf_rp hy ek, ← ev]
    exact rd_get (Γ := Γ) h1
  | _ => exact hg.elim
variable {a b : Expr} {pos : Pos}
theorem fe_ix {g : VO} {ta tb : VT} (ho : IxV S X g) (ha : VE S X a ta) (hb : BE S X b tb) (hs : PlainIx b) : FE S X (.Subscript a b pos) (vOp g ta tb) := by
  obtain ⟨r, h1, h2⟩ := ho.ex
  refine pe_weak (pe_ix h1 ha hb hs) ?_
  rintro σ H Q ⟨Γ, E, Q0, ok, rp, ht, k⟩
  refine ⟨Γ, E, _, ok, rp, ht, fun d E1 hq x H1 kq1 rp1 hx => ?_⟩
  refine ⟨Γ, E1, _, ok, rp1, hq, fun e E2 hq2 y H2 kq2 rp2 hy => ?_⟩
  refine h2 Γ H2 x y d e _ _ ok.k (.v (Rp.kq kq2 _ _ hx)) hy hq2 fun z hz v H' sm hn => ?_
  exact k _ _ hz v H' ((kq1.trans kq2).trans (Kq.same sm)) (rp2.same sm) (hn.rep rp2 sm)
/-- name[b]: the name is read behind b -/
theorem withP_inv {d : Option D} {Q : D → Prop} (h : withP d Q) : ∃ b, d = some b ∧ Q b := by
  cases d with
  | none => exact h.elim
  | some b => exact ⟨b, rfl, h⟩
def vIxN (g : VO) (i : Nat) (tb : VT) : FT := fun E Q => withP (peek E i) fun _ => tb E fun e E2 => withP (peek E2 i) fun d => g d e fun z => Q z E2
theorem fe_ixN {g : VO} {i : Nat} {tb : VT} (ho : IxV S X g) (ha : PE X a (tVar i)) (hb : BE S X b tb) (hs : PlainIx b) : FE S X (.Subscript a b pos) (vIxN g i tb) := by
  obtain ⟨r, h1, h2⟩ := ho.ex
  refine pe_weak (pe_ix h1 ha hb hs) ?_
  rintro σ H Q ⟨Γ, E, Q0, ok, rp, ht, k⟩
  obtain ⟨d0, e0, ht⟩ := withP_inv ht
  obtain ⟨v, hv, _⟩ := peek_at rp e0
  refine ⟨v, hv, ?_⟩
  refine ⟨Γ, E, _, ok, rp, ht, fun e E2 hq2 y H2 kq2 rp2 hy => ?_⟩
  obtain ⟨d, ed, hq2⟩ := withP_inv hq2
  obtain ⟨v', hv', hx⟩ := peek_at rp2 ed
  rw [hv] at hv'
  cases hv'
  refine h2 Γ H2 v y d e _ _ ok.k hx hy hq2 fun z hz v H' sm hn => ?_
  exact k _ _ hz v H' (kq2.trans (Kq.same sm)) (rp2.same sm) (hn.rep rp2 sm)
end
end Va

set_option Elab.async false
set_option linter.all false
set_option maxRecDepth 100000
set_option maxHeartbeats 4000000
namespace Va
open PySem PySem.Spec PyProof.Rows L2 Ind
section
variable {X : Cx} {S : Sg} {e a b : Expr} {es : List Expr} {pos p : Pos}
/-! ### slices -/
abbrev VOp := En → (Option Int → En → Prop) → Prop
def liftO (S : Sg) (t : VOp) : TO := fun σ H Q => ∃ (Γ : Gm) (E : En) (Q0 : Option Int → En → Prop), Γ.Ok S ∧ Rep Γ E σ H ∧ t E Q0 ∧ ∀ o E', Q0 o E' → ∀ H', Kq H H' → Rep Γ E' σ H' → Q o H'
theorem po_weak {x : Option Expr} {t t' : TO} (h : PO X x t) (w : ∀ σ H Q, t' σ H Q → t σ H Q) : PO X x t' := ⟨fun pins s σ H Q I q => h.run pins s σ H Q I (w _ _ _ q)⟩
def oNo : VOp := fun E Q => Q none E
def oSo (t : VT) : VOp := fun E Q => t E fun d E1 => match d with
  | .int i => Q (some i) E1
  | _ => False
theorem vo_none : PO X none (liftO S oNo) := by
  refine po_weak po_none ?_
  rintro σ H Q ⟨Γ, E, Q0, ok, rp, ht, k⟩
  exact k _ _ ht _ (Kq.refl _) rp
theorem vo_some {t : VT} (h : VE S X e t) : PO X (some e) (liftO S (oSo t)) := by
  refine po_weak (po_some h) ?_
  rintro σ H Q ⟨Γ, E, Q0, ok, rp, ht, k⟩
  refine ⟨Γ, E, _, ok, rp, ht, fun d E1 hq v H1 kq1 rp1 hv => ?_⟩
  cases d with
  | int i => cases hv; exact ⟨i, rfl, k _ _ hq _ kq1 rp1⟩
  | _ => exact hq.elim
def cutD {α : Type} (xs : List α) (lo hi : Option Int) : List α := (xs.drop (HT.sIx xs.length 0 lo)).take (HT.sIx xs.length xs.length hi - HT.sIx xs.length 0 lo)
def slG (d : D) (lo hi : Option Int) (Q : RV → Prop) : Prop := match d with
  | .lst xs => Q (.fl (cutD xs lo hi))
  | .tup xs => Q (.v (.tup (cutD xs lo hi)))
  | .str x => x.length ≤ 1000000 ∧ Q (.v (.str (cutS x lo hi)))
  | _ => False
theorem RpL.cut {K : PySem.W.Frag} {tp : Option Tp} {H : Hp} {vs : List V} {ds : List D} (h : RpL K tp H vs ds) (lo hi : Option Int) : RpL K tp H (cutV vs lo hi) (cutD ds lo hi) := by
  unfold cutV cutD
  rw [h.len]
  exact (h.drop _).take _
def vSl (t : VT) (l u : VOp) : FT := fun E Q => t E fun d E1 => l E1 fun lo E2 => u E2 fun hi E3 => slG d lo hi fun z => Q z E3
theorem fe_slice {lo hi : Option Expr} {t : VT} {l u : VOp} {p2 : Pos} (hK : S.K = X.K) (he : VE S X e t) (hl : PO X lo (liftO S l)) (hu : PO X hi (liftO S u)) : FE S X (.Subscript e (.Slice lo hi none p2) pos) (vSl t l u) := by
  refine pe_weak (pe_slice (sl_list.or (sl_tupA.or sl_str)) he hl hu) ?_
  rintro σ H Q ⟨Γ, E, Q0, ok, rp, ht, k⟩
  have eK : X.K = Γ.K := (ok.k.trans hK).symm
  refine ⟨Γ, E, _, ok, rp, ht, fun d E1 hq v H1 kq1 rp1 hv => ?_⟩
  refine ⟨Γ, E1, _, ok, rp1, hq, fun lo E2 hq2 H2 kq2 rp2 => ?_⟩
  refine ⟨Γ, E2, _, ok, rp2, hq2, fun hi E3 hq3 H3 kq3 rp3 => ?_⟩
  have hv3 := Rp.kq (kq2.trans kq3) _ _ hv
  have kq := (kq1.trans kq2).trans kq3
  unfold slG at hq3
  split at hq3
  · obtain ⟨p, xs, rfl, h1, h2⟩ := hv3.lst_inv
    refine .inl ⟨p, xs, rfl, by rw [eK]; exact h1.sq, fun q nq => ?_⟩
    have sm := same_upd (o := .lst (cutV xs lo hi)) nq
    exact k _ _ hq3 _ _ (kq.trans (.same sm)) (rp3.same sm) (RpN.rep (x := .fl _) rp3 sm ⟨q, _, rfl, nq, upd_same, RpL.kq (.same sm) _ _ (h2.cut lo hi)⟩)
  · obtain ⟨p, xs, rfl, h1, h2⟩ := hv3.tup_inv
    refine .inr (.inl ⟨p, xs, rfl, by rw [eK]; exact h1, fun w => ?_, fun _ q nq => ?_⟩)
    · refine k _ _ hq3 _ _ kq rp3 ?_
      have e2 : cutV xs lo hi = xs := cut_whole w
      have := h2.cut lo hi
      rw [e2] at this
      exact .tup h1 this
    · have sm := same_upd (o := .tup (cutV xs lo hi)) nq
      exact k _ _ hq3 _ _ (kq.trans (.same sm)) (rp3.same sm) (.tup (.of upd_same) (RpL.kq (.same sm) _ _ (h2.cut lo hi)))
  · cases hv3
    exact .inr (.inr ⟨_, rfl, million hq3.1, k _ _ hq3.2 _ _ kq rp3 (.str _)⟩)
  · exact hq3.elim
/-! ### calls of built-ins -/
abbrev VC := List D → (RV → Prop) → Prop
inductive RpWL (Γ : Gm) (H : Hp) : List V → List D → Prop
  | nil : RpWL Γ H [] []
  | cons {v : V} {d : D} {vs : List V} {ds : List D} : RpW Γ H v d → RpWL Γ H vs ds → RpWL Γ H (v :: vs) (d :: ds)
theorem RpWL.of {Γ : Gm} {H : Hp} : ∀ {vs : List V} {ds : List D}, Γ.RpL H vs ds → RpWL Γ H vs ds
  | _, _, .nil => .nil
  | _, _, .cons h t => .cons (.v h) (RpWL.of t)
structure CallV (S : Sg) (X : Cx) (f : Value) (g : VC) : Prop where
  ex : ∃ r : List V → Hp → VK → Prop, CallR X f r ∧ ∀ (Γ : Gm) (H : Hp) (xs : List V) (ds : List D) (Q : VK) (Q0 : RV → Prop), Γ.K = S.K → RpWL Γ H xs ds → g ds Q0 → (∀ z, Q0 z → ∀ v H', Same H H' → RpN Γ H H' v z → Q v H') → r xs H Q
def vCB (g : VC) (t : VTA) : FT := fun E Q => t E fun ds E1 => g ds fun z => Q z E1
/-- one argument, read at once -/
def vCB1 (g : VC) (t : VT) : FT := fun E Q => t E fun d E1 => g [d] fun z => Q z E1
theorem pe_CB {f : Value} {g : VC} {t : VTA} (hc : CallV S X f g) (mk : ∀ {r : List V → Hp → VK → Prop} {t : TA}, CallR X f r → PA X es t → PE X e (tCB r t)) (ha : VA S X es t) : FE S X e (vCB g t) := by
  obtain ⟨r, h1, h2⟩ := hc.ex
  refine pe_weak (mk h1 ha) ?_
  rintro σ H Q ⟨Γ, E, Q0, ok, rp, ht, k⟩
  refine ⟨Γ, E, _, ok, rp, ht, fun ds E1 hq vs H1 kq1 rp1 hvs => ?_⟩
  exact h2 Γ H1 vs ds _ _ ok.k (.of hvs) hq fun z hz v H' sm hn => k _ _ hz v H' (kq1.trans (.same sm)) (rp1.same sm) (hn.rep rp1 sm)
def liftBA (S : Sg) (t : VT) : TA := fun σ H Q => ∃ (Γ : Gm) (E : En) (Q0 : D → En → Prop), Γ.Ok S ∧ Rep Γ E σ H ∧ t E Q0 ∧ ∀ d E', Q0 d E' → ∀ v H', Kq H H' → Rep Γ E' σ H' → RpW Γ H' v d → Q [v] H'
theorem ba_one {t : VT} (h : BE S X a t) (hs : starEach [a] X.env = (false, eval a X.env) :: starEach [] X.env := by rfl) : PA X [a] (liftBA S t) := by
  refine pa_weak (pa_cons h pa_nil hs) ?_
  rintro σ H Q ⟨Γ, E, Q0, ok, rp, ht, k⟩
  exact ⟨Γ, E, _, ok, rp, ht, fun d E1 hq v H1 kq1 rp1 hv => k _ _ hq v H1 kq1 rp1 hv⟩
theorem pe_CB1 {f : Value} {g : VC} {t : VT} (hc : CallV S X f g) (mk : ∀ {r : List V → Hp → VK → Prop} {t : TA}, CallR X f r → PA X [a] t → PE X e (tCB r t)) (ha : BE S X a t) (hs : starEach [a] X.env = (false, eval a X.env) :: starEach [] X.env := by rfl) : FE S X e (vCB1 g t) := by
  obtain ⟨r, h1, h2⟩ := hc.ex
  refine pe_weak (mk h1 (ba_one ha hs)) ?_
  rintro σ H Q ⟨Γ, E, Q0, ok, rp, ht, k⟩
  refine ⟨Γ, E, _, ok, rp, ht, fun d E1 hq v H1 kq1 rp1 hv => ?_⟩
  exact h2 Γ H1 [v] [d] _ _ ok.k (.cons hv .nil) hq fun z hz v H' sm hn => k _ _ hz v H' (kq1.trans (.same sm)) (rp1.same sm) (hn.rep rp1 sm)
/-- len -/
def lenG : VC := fun ds Q => match ds with
  | [.lst xs] => Q (.v (.int xs.length))
  | [.tup xs] => Q (.v (.int xs.length))
  | [.str x] => x.length ≤ 1000000 ∧ Q (.v (.int x.length))
  | _ => False
theorem c_len (hK : S.K = X.K) : CallV S X (.builtin "len") lenG := by
  refine ⟨_, call_len_seq.or call_len_str, ?_⟩
  intro Γ H xs ds Q Q0 eK hx hg k
  have eK' : X.K = Γ.K := (eK.trans hK).symm
  unfold lenG at hg
  split at hg
  · match hx with
    | .cons h .nil =>
      obtain ⟨p, ys, rfl, h1, h2⟩ := h.seq
      refine .inl ⟨p, ys, rfl, .inl (by rw [eK']; exact h1), ?_⟩
      rw [h2.len]
      exact k _ hg _ _ (Same.refl _) (.int _)
  · match hx with
    | .cons h .nil =>
      obtain ⟨p, ys, rfl, h1, h2⟩ := h.tup
      refine .inl ⟨p, ys, rfl, .inr (by rw [eK']; exact h1), ?_⟩
      rw [h2.len]
      exact k _ hg _ _ (Same.refl _) (.int _)
  · match hx with
    | .cons h .nil =>
      cases h.str
      exact .inr ⟨_, rfl, million hg.1, k _ hg.2 _ _ (Same.refl _) (.int _)⟩
  · exact hg.elim
def absG : VC := fun ds Q => match ds with
  | [.int i] => Q (.v (.int (if i < 0 then -i else i)))
  | _ => False
theorem c_abs : CallV S X (.builtin "abs") absG := by
  refine ⟨_, call_abs, ?_⟩
  intro Γ H xs ds Q Q0 eK hx hg k
  unfold absG at hg
  split at hg
  · match hx with
    | .cons h .nil => cases h.int; exact ⟨_, rfl, k _ hg _ _ (Same.refl _) (.int _)⟩
  · exact hg.elim
def intG : VC := fun ds Q => match ds with
  | [.int i] => Q (.v (.int i))
  | [.bl b] => Q (.v (.int (if b then 1 else 0)))
  | _ => False
theorem c_int : CallV S X (.type "int") intG := by
  refine ⟨_, call_int1, ?_⟩
  intro Γ H xs ds Q Q0 eK hx hg k
  unfold intG at hg
  split at hg
  · match hx with
    | .cons h .nil => cases h.int; exact .inl ⟨_, rfl, k _ hg _ _ (Same.refl _) (.int _)⟩
  · match hx with
    | .cons h .nil => cases h.bl; exact .inr ⟨_, rfl, k _ hg _ _ (Same.refl _) (.int _)⟩
  · exact hg.elim
def maxG : VC := fun ds Q => match ds with
  | [.int i, .int j] => Q (.v (.int (if j > i then j else i)))
  | _ => False
theorem c_max (hc : X.calm = true) : CallV S X (.builtin "max") maxG := by
  refine ⟨_, call_max2 hc, ?_⟩
  intro Γ H xs ds Q Q0 eK hx hg k
  unfold maxG at hg
  split at hg
  · match hx with
    | .cons h (.cons h' .nil) => cases h.int; cases h'.int; exact ⟨_, _, rfl, k _ hg _ _ (Same.refl _) (.int _)⟩
  · exact hg.elim
def minG : VC := fun ds Q => match ds with
  | [.int i, .int j] => Q (.v (.int (if j < i then j else i)))
  | _ => False
theorem c_min (hc : X.calm = true) : CallV S X (.builtin "min") minG := by
  refine ⟨_, call_min2 hc, ?_⟩
  intro Γ H xs ds Q Q0 eK hx hg k
  unfold minG at hg
  split at hg
  · match hx with
    | .cons h (.cons h' .nil) => cases h.int; cases h'.int; exact ⟨_, _, rfl, k _ hg _ _ (Same.refl _) (.int _)⟩
  · exact hg.elim
def strG : VC := fun ds Q => match ds with
  | [.int i] => i.natAbs.log2 < 1920 ∧ Q (.v (.str (toString i)))
  | _ => False
theorem c_str : CallV S X (.type "str") strG := by
  refine ⟨_, call_str_int, ?_⟩
  intro Γ H xs ds Q Q0 eK hx hg k
  unfold strG at hg
  split at hg
  · match hx with
    | .cons h .nil => cases h.int; exact ⟨_, rfl, hg.1, k _ hg.2 _ _ (Same.refl _) (.str _)⟩
  · exact hg.elim
/-- list(..) -/
def listG : VC := fun ds Q => match ds with
  | [.lst xs] => Q (.fl xs)
  | [.tup xs] => Q (.fl xs)
  | _ => False
theorem c_list (hK : S.K = X.K) : CallV S X (.type "list") listG := by
  refine ⟨_, call_list_of, ?_⟩
  intro Γ H xs ds Q Q0 eK hx hg k
  have eK' : X.K = Γ.K := (eK.trans hK).symm
  have fin : ∀ (ys : List V) (zs : List D), Γ.RpL H ys zs → Q0 (.fl zs) → ∀ l, H l = none → Q (.ref l) (upd H l (.lst ys)) := fun ys zs h2 hq l nl => by
    have sm := same_upd (o := .lst ys) nl
    exact k _ hq _ _ sm ⟨l, _, rfl, nl, upd_same, RpL.kq (.same sm) _ _ h2⟩
  unfold listG at hg
  split at hg
  · match hx with
    | .cons h .nil =>
      obtain ⟨p, ys, rfl, h1, h2⟩ := h.seq
      exact ⟨p, ys, rfl, .inl (by rw [eK']; exact h1), fin _ _ h2 hg⟩
  · match hx with
    | .cons h .nil =>
      obtain ⟨p, ys, rfl, h1, h2⟩ := h.tup
      exact ⟨p, ys, rfl, .inr (by rw [eK']; exact h1), fin _ _ h2 hg⟩
  · exact hg.elim
def tupleG : VC := fun ds Q => match ds with
  | [.lst xs] => Q (.v (.tup xs))
  | [.tup xs] => Q (.v (.tup xs))
  | _ => False
theorem c_tuple (hK : S.K = X.K) : CallV S X (.type "tuple") tupleG := by
  refine ⟨_, call_tuple_of, ?_⟩
  intro Γ H xs ds Q Q0 eK hx hg k
  have eK' : X.K = Γ.K := (eK.trans hK).symm
  unfold tupleG at hg
  split at hg
  · match hx with
    | .cons h .nil =>
      obtain ⟨p, ys, rfl, h1, h2⟩ := h.seq
      refine ⟨p, ys, rfl, .inl ⟨by rw [eK']; exact h1, fun l nl => ?_⟩⟩
      have sm := same_upd (o := .tup ys) nl
      exact k _ hg _ _ sm (.tup (.of upd_same) (RpL.kq (.same sm) _ _ h2))
  · match hx with
    | .cons h .nil =>
      obtain ⟨p, ys, rfl, h1, h2⟩ := h.tup
      exact ⟨p, ys, rfl, .inr ⟨by rw [eK']; exact h1, k _ hg _ _ (Same.refl _) (.tup h1 h2)⟩⟩
  · exact hg.elim
def sumG : VC := fun ds Q => match ds with
  | [.lst xs] => ∃ ns : List Int, xs = ns.map .int ∧ Q (.v (.int ns.sum))
  | _ => False
theorem RpL.ints {K : PySem.W.Frag} {tp : Option Tp} {H : Hp} : ∀ {ns : List Int} {vs : List V}, RpL K tp H vs (ns.map .int) → vs = ns.map V.int
  | [], _, h => by cases h; rfl
  | n :: ns, _, h => by
    cases h with
    | cons h1 h2 => cases h1; rw [RpL.ints h2]; rfl
theorem c_sum (hK : S.K = X.K) (hc : X.calm = true) : CallV S X (.builtin "sum") sumG := by
  refine ⟨_, cr_sum hc, ?_⟩
  intro Γ H xs ds Q Q0 eK hx hg k
  have eK' : X.K = Γ.K := (eK.trans hK).symm
  unfold sumG at hg
  split at hg
  · obtain ⟨ns, rfl, hq⟩ := hg
    match hx with
    | .cons h .nil =>
      obtain ⟨p, ys, rfl, h1, h2⟩ := h.seq
      cases h2.ints
      exact ⟨p, ns, rfl, by rw [eK']; exact h1, k _ hq _ _ (Same.refl _) (.int _)⟩
  · exact hg.elim
/-! ### isinstance -/
def D.tyS : D → String
  | .non => "NoneType"
  | .bl _ => "bool"
  | .int _ => "int"
  | .str _ => "str"
  | .tup _ => "tuple"
  | .ptp _ => "tuple"
  | .lst _ => "list"
  | .dk _ => "dict"
  | .tape => "list"
  | .ty _ => "type"
def D.typed : D → Bool
  | .tape => false
  | .ty _ => false
  | _ => true
def tyNames : List D → Option (List String)
  | [] => some []
  | .ty n :: r => (tyNames r).map (n :: ·)
  | _ => none
def kitAll (t : String) : List String → Option Bool
  | [] => some false
  | n :: r => match kitB t n with
    | some true => some true
    | some false => kitAll t r
    | none => none
def isiG : VC := fun ds Q => match ds with
  | [d, .ty n] => d.typed = true ∧ withB (kitAll d.tyS [n]) fun b => Q (.v (.bl b))
  | [d, .tup ts] => d.typed = true ∧ ∃ ns, tyNames ts = some ns ∧ withB (kitAll d.tyS ns) fun b => Q (.v (.bl b))
  | _ => False
theorem RpW.tyX {Γ : Gm} {H : Hp} {v : V} {d : D} (eK : Γ.K = X.K) (h : RpW Γ H v d) (t : d.typed = true) : TyX X.K H v (.type d.tyS) := by
  cases h with
  | l h1 _ => exact .base (.lst h1)
  | k h1 _ => exact .base (.dK h1)
  | v h =>
    cases h with
    | non => exact .base .non
    | bl b => exact .base (.bl b)
    | int i => exact .base (.int i)
    | str x => exact .base (.str x)
    | tup hs ha =>
      rcases hs with (hs | ⟨o, hs⟩) | ⟨o, its, n, hk, hc, _⟩
      · exact .base (.tup hs)
      · exact .fTuple hs
      · exact .kTuple (by rw [← eK]; exact hk) hc
    | ptp hs _ ha => exact .fTuple hs
    | lst hs ha =>
      obtain ⟨o, hs⟩ := hs
      exact .base (.frz hs)
    | dk hs ha => exact .fDict hs
    | tape _ => cases t
    | ty _ => cases t
theorem kitAll_any {K : PySem.W.Frag} {t : String} : ∀ {ns : List String} {b : Bool}, kitAll t ns = some b → PySem.W.kitAny K (.type t) (ns.map Value.type) = some b
  | [], b, h => by cases h; exact kitAny_nil
  | n :: r, b, h => by
    unfold kitAll at h
    cases e : kitB t n with
    | none => rw [e] at h; cases h
    | some c =>
      rw [e] at h
      cases c with
      | true => cases h; exact kitAny_cons (kit_ty e) (fun z => by cases z) (fun _ => rfl)
      | false => exact kitAny_cons (kit_ty e) (fun _ => kitAll_any h) (fun z => by cases z)
theorem kitAll_one {K : PySem.W.Frag} {t n : String} {b : Bool} (h : kitAll t [n] = some b) : PySem.W.kitOne K (.type t) (.type n) = some b := by
  unfold kitAll at h
  cases e : kitB t n with
  | none => rw [e] at h; cases h
  | some c =>
    rw [e] at h
    cases c with
    | true => cases h; exact kit_ty e
    | false => cases h; exact kit_ty e
theorem tyNames_vals {Γ : Gm} {H : Hp} : ∀ {ts : List D} {ns : List String} {vs : List V}, tyNames ts = some ns → Γ.RpL H vs ts → ∀ {us : List Value}, Vals vs us → us = ns.map Value.type
  | [], _, _, e, h, us, r => by cases e; cases h; cases r; rfl
  | .ty n :: ts, ns, _, e, h, us, r => by
    cases h with
    | cons h1 h2 =>
      cases h1
      cases r with
      | cons r1 r2 =>
        unfold tyNames at e
        cases e2 : tyNames ts with
        | none => rw [e2] at e; cases e
        | some ms =>
          rw [e2] at e
          cases e
          rw [show _ = Value.type n from r1, tyNames_vals e2 h2 r2]
          rfl
  | .non :: _, _, _, e, _, _, _ => by cases e
  | .bl _ :: _, _, _, e, _, _, _ => by cases e
  | .int _ :: _, _, _, e, _, _, _ => by cases e
  | .str _ :: _, _, _, e, _, _, _ => by cases e
  | .tup _ :: _, _, _, e, _, _, _ => by cases e
  | .ptp _ :: _, _, _, e, _, _, _ => by cases e
  | .lst _ :: _, _, _, e, _, _, _ => by cases e
  | .dk _ :: _, _, _, e, _, _, _ => by cases e
  | .tape :: _, _, _, e, _, _, _ => by cases e
theorem call_isiS : CallR X (.builtin "isinstance") (fun xs H Q => ∃ (x : V) (tp : Addr) (cs : List V) (t : Value) (b : Bool), xs = [x, .ref tp] ∧ SqT X.K H tp cs ∧ TyX X.K H x t ∧ (∀ us, Vals cs us → PySem.W.kitAny X.K t us = some b) ∧ Q (.bl b) H) := by
  rintro pins s σ H xs us Q I r ⟨x, tp, cs, t, b, rfl, hT, ty, hk, q⟩
  obtain ⟨u1, u2, rfl, r1, r2⟩ := vals2 r
  cases (show u2 = Value.ref tp from r2)
  obtain ⟨P, Z, pz, hx⟩ := kit_of I r1 ty
  obtain ⟨its, rv, ⟨⟨oc, od, dt, sl⟩, h1, h2, n, h3⟩, hz⟩ := I.tuple hT
  simp only at h2 h3
  subst h2 h3
  exact PySem.W.kia_tup Z I.kIn pz h1 (by simpa using hk its rv) hx fun tk => ⟨.bl b, H, I.tok tk, rfl, q⟩
theorem c_isi (hK : S.K = X.K) : CallV S X (.builtin "isinstance") isiG := by
  refine ⟨_, call_isi.or call_isiS, ?_⟩
  intro Γ H xs ds Q Q0 eK hx hg k
  have eK' : Γ.K = X.K := eK.trans hK
  unfold isiG at hg
  split at hg
  · match hx with
    | .cons h (.cons h' .nil) =>
      cases h' with
      | v h' =>
        cases h'
        obtain ⟨b, e, hq⟩ := withB_inv hg.2
        exact .inl ⟨_, _, _, _, b, rfl, .ty _, h.tyX eK' hg.1, kitAll_one e, k _ hq _ _ (Same.refl _) (.bl _)⟩
  · match hx with
    | .cons h (.cons h' .nil) =>
      obtain ⟨p, ys, rfl, h1, h2⟩ := h'.tup
      obtain ⟨ns, en, hg2⟩ := hg.2
      obtain ⟨b, e, hq⟩ := withB_inv hg2
      refine .inr ⟨_, p, ys, _, b, rfl, by rw [← eK']; exact h1, h.tyX eK' hg.1, fun us hv => ?_, k _ hq _ _ (Same.refl _) (.bl _)⟩
      rw [tyNames_vals en h2 hv]
      exact kitAll_any e
  · exact hg.elim
theorem ve_ty {n : String} {x : PySem.Str} (h : PE X e (tC (.ty n))) : VE S X e (vC (.ty n)) := ve_c h fun _ _ => .ty n
/-! ### a list of one's own grows; a dict of one's own -/
/-- name.append(e) -/
def onL (s : Option SV) (Q : List D → Prop) : Prop := match s with
  | some (.ol ds) => Q ds
  | _ => False
def onD (s : Option SV) (Q : Bool → List (Key × D) → Prop) : Prop := match s with
  | some (.od b ds) => Q b ds
  | _ => False
theorem onL_inv {s : Option SV} {Q : List D → Prop} (h : onL s Q) : ∃ ds, s = some (.ol ds) ∧ Q ds := by
  unfold onL at h
  split at h
  · exact ⟨_, rfl, h⟩
  · exact h.elim
theorem onD_inv {s : Option SV} {Q : Bool → List (Key × D) → Prop} (h : onD s Q) : ∃ b ds, s = some (.od b ds) ∧ Q b ds := by
  unfold onD at h
  split at h
  · exact ⟨_, _, rfl, h⟩
  · exact h.elim
def sApp (i : Nat) (t : VT) : VS := fun V E => onL E.l[i]? fun _ => t E fun d E1 => onL E1.l[i]? fun ds => ds.length < 1000000 ∧ V.nx (E1.set i (.ol (ds ++ [d])))
theorem own_list {Γ : Gm} {E : En} {σ : L2.St} {H : Hp} {i : Nat} {ds : List D} (r : Rep Γ E σ H) (e : E.l[i]? = some (.ol ds)) : ∃ a xs, σ[i]? = some (some (.ref a)) ∧ H a = some (.lst xs) ∧ Γ.RpL H xs ds ∧ Free Γ a := by
  obtain ⟨o, h1, a, xs, rfl, h2, h3, h4⟩ := r.sl i _ e
  exact ⟨a, xs, h1, h2, h3, h4⟩
theorem own_dict {Γ : Gm} {E : En} {σ : L2.St} {H : Hp} {i : Nat} {b : Bool} {ds : List (Key × D)} (r : Rep Γ E σ H) (e : E.l[i]? = some (.od b ds)) : ∃ a kv, σ[i]? = some (some (.ref a)) ∧ H a = some (.dK kv) ∧ RpK Γ.K Γ.tp H kv ds ∧ Free Γ a ∧ (b = true → a ∈ Γ.io) := by
  obtain ⟨o, h1, a, xs, rfl, h2, h3, h4⟩ := r.sl i _ e
  exact ⟨a, xs, h1, h2, h3, h4⟩
theorem Rep.wrL {Γ : Gm} {E : En} {σ : L2.St} {H : Hp} {i : Nat} {ds ds' : List D} {a : Addr} {xs xs' : List V} (r : Rep Γ E σ H) (e : E.l[i]? = some (.ol ds)) (eo : σ[i]? = some (some (.ref a))) (h : H a = some (.lst xs)) (fr : Free Γ a) (h' : Γ.RpL H xs' ds') :
    Kq H (upd H a (.lst xs')) ∧ Rep Γ (E.set i (.ol ds')) σ (upd H a (.lst xs')) := by
  have kq : Kq H (upd H a (.lst xs')) := Kq.upd h trivial
  exact ⟨kq, r.wr e rfl eo h trivial ⟨a, xs', rfl, upd_same, RpL.kq kq _ _ h', fr⟩⟩
theorem Rep.wrD {Γ : Gm} {E : En} {σ : L2.St} {H : Hp} {i : Nat} {b : Bool} {ds ds' : List (Key × D)} {a : Addr} {xs xs' : List (Key × V)} (r : Rep Γ E σ H) (e : E.l[i]? = some (.od b ds)) (eo : σ[i]? = some (some (.ref a))) (h : H a = some (.dK xs)) (fr : Free Γ a ∧ (b = true → a ∈ Γ.io)) (h' : RpK Γ.K Γ.tp H xs' ds') :
    Kq H (upd H a (.dK xs')) ∧ Rep Γ (E.set i (.od b ds')) σ (upd H a (.dK xs')) := by
  have kq : Kq H (upd H a (.dK xs')) := Kq.upd h trivial
  exact ⟨kq, r.wr e rfl eo h trivial ⟨a, xs', rfl, upd_same, RpK.kq kq _ _ h', fr⟩⟩
theorem vs_append {i : Nat} {o : Expr} {t : VT} {apos cpos : Pos} (hK : S.K = X.K) (ho : PE X o (tVar i)) (he : VE S X e t) (hw : swapsWith (.Call (.Attribute o "append" apos) [e] [] cpos) none pos.line X.env = pure false := by rfl)
    (hbase : attributeBase o "append" X.env (eval o X.env) = eval o X.env := by rfl)
    (hfew : ((backTo cpos (starEach [e] X.env)).all (fun x => !x.1) && (backToKw cpos (keywordEach [] X.env)).all (fun x => x.1.isSome)
      && decide (([e] : List Expr).length + ([] : List Keyword).length + (if ([] : List Keyword).isEmpty then 0 else 1) < 30)) = true := by rfl)
    (hline : (apos.endLine == cpos.line) = true := by rfl) (hs : starEach [e] X.env = (false, eval e X.env) :: starEach [] X.env := by rfl) (hplain : (backTo cpos (starEach [] X.env)).any (·.1) = false := by rfl) :
    VSt S X (.Expr (.Call (.Attribute o "append" apos) [e] [] cpos) pos) (sApp i t) := by
  refine ps_weak (ps_expr (pe_bm PySem.F.plainAttrs_list PySem.F.slot_list_append PySem.F.type_list_append mt_append ho (va_cons (S := S) he va_nil hs) hbase hfew hline hs hplain) hw) ?_
  rintro D0 σ H ⟨Γ, E, V, ok, rp, ht, k⟩
  obtain ⟨ds0, e0, ht⟩ := onL_inv ht
  obtain ⟨p, xs0, hv, hl0, _, _⟩ := own_list rp e0
  refine ⟨_, hv, .inl ⟨rfl, xs0, .of hl0⟩, ?_⟩
  refine ⟨Γ, E, fun ds E1 => match ds with
    | [d] => onL E1.l[i]? fun ds => ds.length < 1000000 ∧ V.nx (E1.set i (.ol (ds ++ [d])))
    | _ => False, ok, rp, ht, fun ds E1 hq vs H1 kq1 rp1 hvs => ?_⟩
  · match ds, hq, vs, hvs with
    | [d], hq, [u], .cons hu .nil =>
      obtain ⟨ds1, e1, hsz, hq⟩ := onL_inv hq
      obtain ⟨p1, xs1, hv1, hl1, hr1, fr1⟩ := own_list rp1 e1
      rw [hv] at hv1
      cases hv1
      obtain ⟨kq2, rp2⟩ := rp1.wrL e1 hv hl1 fr1 (hr1.app (.cons hu .nil))
      refine ⟨p, xs1, u, rfl, rfl, hl1, millionL (by rw [hr1.len]; exact hsz), ?_⟩
      exact k.nx _ hq σ _ (kq1.trans kq2) rp2
end
end Va

set_option Elab.async false
set_option linter.all false
set_option maxRecDepth 100000
set_option maxHeartbeats 4000000
namespace Va
open PySem PySem.Spec PyProof.Rows L2 Ind GenW
/-! ### blocks: comprehensions, generator expressions -/
def SV.shut (s : SV) : SV := if s.own then .no else s
def wipeE (E : En) : List Nat → En
  | [] => E
  | v :: vs => (wipeE E vs).set v .no
/-- the slots of a block: what is owned is out of reach, the block's own names are fresh -/
def shutE (E : En) : En := ⟨E.l.map SV.shut, E.c⟩
def blkE (E : En) (vs : List Nat) : En := wipeE (shutE E) vs
/-- a slot's own thing locked -/
def fzE (E : En) (i : Nat) : En := match E.l[i]? with
  | some s => E.set i s.fz
  | none => E
section
variable {Γ : Gm} {E : En} {σ : L2.St} {H H' : Hp}
theorem Rep.setNo (r : Rep Γ E σ H) (i : Nat) (o : Option V) : Rep Γ (E.set i .no) (σ.set i o) H := by
  refine ⟨r.base, by simp [En.set, r.len], r.few, fun j s e => ?_, fun j k s t a e1 e2 o1 o2 h1 h2 => ?_⟩
  · rcases get_set e with ⟨rfl, rfl, hi⟩ | ⟨ne, e⟩
    · exact ⟨o, List.getElem?_set_self (by rw [← r.len]; exact hi), trivial⟩
    · rw [List.getElem?_set_ne ne]
      exact r.sl j s e
  · rcases get_set e1 with ⟨_, rfl, _⟩ | ⟨n1, e1⟩
    · cases o1
    · rcases get_set e2 with ⟨_, rfl, _⟩ | ⟨n2, e2⟩
      · cases o2
      · rw [List.getElem?_set_ne n1] at h1
        rw [List.getElem?_set_ne n2] at h2
        exact r.dis j k s t a e1 e2 o1 o2 h1 h2
theorem Rep.wipe (r : Rep Γ E σ H) : ∀ vs : List Nat, Rep Γ (wipeE E vs) (L2.wipe σ vs) H
  | [] => r
  | v :: vs => (Rep.wipe r vs).setNo v none
abbrev Gm.blk (Γ : Gm) (H : Hp) : Gm := { Γ with io := [], H0 := H }
theorem shut_own {s : SV} : s.shut.own = false := by
  cases s <;> rfl
theorem Rep.enter (r : Rep Γ E σ H) : Rep (Γ.blk H) (shutE E) σ H := by
  refine ⟨⟨fun _ _ _ _ z => z, Kq.refl _, r.base.tape, r.base.tabs⟩, by simp [shutE, r.len], r.few, fun i s e => ?_, fun i j s t a e1 _ o1 _ _ _ => ?_⟩
  · have e : (E.l.map SV.shut)[i]? = some s := e
    rw [List.getElem?_map] at e
    cases h : E.l[i]? with
    | none => rw [h] at e; cases e
    | some s0 =>
      rw [h] at e
      cases e
      obtain ⟨o, h1, h2⟩ := r.sl i s0 h
      refine ⟨o, h1, ?_⟩
      cases s0 with
      | no => trivial
      | v d => exact h2
      | ol ds => trivial
      | od b ds => trivial
      | ex b pl => exact h2
  · have e1 : (E.l.map SV.shut)[i]? = some s := e1
    rw [List.getElem?_map] at e1
    cases h : E.l[i]? with
    | none => rw [h] at e1; cases e1
    | some s0 =>
      rw [h] at e1
      cases e1
      rw [shut_own] at o1
      cases o1
theorem Rep.leave {c : Nat} (r : Rep Γ E σ H) (b : Base (Γ.blk H) H') (f : Few Γ.tp c H') : Rep Γ ⟨E.l, c⟩ σ H' := by
  refine ⟨⟨fun c o n1 n2 h => b.ext c o n1 (by simp) (r.base.ext c o n1 n2 h), r.base.kq.trans b.kq, b.tape, b.tabs⟩, r.len, f, fun i s e => ?_, r.dis⟩
  obtain ⟨o, h1, h2⟩ := r.sl i s e
  refine ⟨o, h1, h2.stay b.kq fun a u ow eo h => ?_⟩
  obtain ⟨c, _, e1, _, _, fr⟩ := h2.own_at ow
  rw [e1] at eo
  cases eo
  exact b.ext _ _ fr.nsp (by simp) h
theorem wipe_in : ∀ {vs : List Nat} {σ : L2.St} {j : Nat}, j ∈ vs → j < σ.length → (L2.wipe σ vs)[j]? = some none
  | v :: vs, σ, j, hj, hl => by
    show ((L2.wipe σ vs).set v none)[j]? = some none
    by_cases e : v = j
    · subst e
      rw [List.getElem?_set_self (by rw [wipe_length]; exact hl)]
    · rw [List.getElem?_set_ne e]
      rcases List.mem_cons.mp hj with h | h
      · exact absurd h.symm e
      · exact wipe_in h hl
theorem wipe_only {vs : List Nat} {σ σ' : L2.St} (o : Only vs (L2.wipe σ vs) σ') : L2.wipe σ' vs = L2.wipe σ vs := by
  have len : σ'.length = σ.length := by rw [o.len, wipe_length]
  apply List.ext_getElem?
  intro j
  by_cases hj : j ∈ vs
  · by_cases hl : j < σ.length
    · rw [wipe_in hj hl, wipe_in hj (by rw [len]; exact hl)]
    · rw [List.getElem?_eq_none (by rw [wipe_length]; omega), List.getElem?_eq_none (by rw [wipe_length]; omega)]
  · rw [wipe_out hj, o.at_ j hj]
end
section
variable {X : Cx} {S : Sg}
def cYes : VTT := fun E Q => Q true E
abbrev VTs (S : Sg) (X : Cx) (ifs : List Expr) (t : VTT) : Prop := PTs X ifs (liftT S t)
theorem vts_nil : VTs S X [] cYes := by
  refine ⟨fun pins s σ H Q I h => ?_⟩
  obtain ⟨Γ, E, Q0, ok, rp, ht, k⟩ := h
  exact (pts_nil (X := X)).run pins s σ H Q I (k true E ht H (Kq.refl _) rp)
theorem vts_one {c : Expr} {t : VTT} (h : VB S X c t) : VTs S X [c] t := pts_one h
def vLc (vi : VI) (g : VG) (c : VTT) (el : VT) (vs : List Nat) : FT := fun E Q => vi E fun ds E1 => ds.length < 1000000 ∧ ∃ P : Nat → List D → Nat → Prop, P 0 [] E1.c ∧
  (∀ i d acc k, ds[i]? = some d → P i acc k → acc.length ≤ i → g d (blkE ⟨E1.l, k⟩ vs) fun E2 => c E2 fun b E3 => (b = true → el E3 fun x E4 => P (i + 1) (acc ++ [x]) E4.c) ∧ (b = false → P (i + 1) acc E3.c)) ∧
  ∀ acc k, P ds.length acc k → acc.length ≤ ds.length → Q (.fl acc) ⟨E1.l, k⟩
theorem lc_lift {vi : VI} {g : VG} {c : VTT} {el : VT} {vs : List Nat} {σ : L2.St} {H : Hp} {Q : VK} (h : liftF S (vLc vi g c el vs) σ H Q) : tLc (liftI S vi) (liftG S vs g) (liftT S c) (liftV S el) vs σ H Q := by
  obtain ⟨Γ, E, Q0, ok, rp, ht, k⟩ := h
  refine ⟨Γ, E, _, ok, rp, ht, fun ds E1 ⟨hsz, P, p0, ps, pn⟩ J H1 kq1 rp1 it A nA => ?_⟩
  obtain ⟨frA, loA⟩ := rp1.fresh nA
  have sm0 := same_upd (o := .lst []) nA
  refine ⟨fun i m H' => m = ds.length - i ∧ i ≤ ds.length ∧ ∃ acc xs q, P i acc q ∧ acc.length ≤ i ∧ H' A = some (.lst xs) ∧ Γ.RpL H' xs acc ∧ Kq H1 H' ∧ Rep Γ ⟨E1.l, q⟩ σ H', ⟨_, rfl, Nat.zero_le _, [], [], E1.c, p0, Nat.le_refl _, upd_same, .nil, Kq.same sm0, rp1.same sm0⟩, ?_⟩
  rintro i m H' ⟨rfl, hi, acc, xs, q0, pi, la, hA, hx, kq', rp'⟩
  by_cases hlt : i < ds.length
  · refine .inr ⟨it.go i H' hlt kq', fun H2 => i + 1 ≤ ds.length ∧ ∃ acc xs q, P (i + 1) acc q ∧ acc.length ≤ i + 1 ∧ H2 A = some (.lst xs) ∧ Γ.RpL H2 xs acc ∧ Kq H1 H2 ∧ Rep Γ ⟨E1.l, q⟩ σ H2, fun H2 h => ⟨_, by omega, rfl, h⟩, fun x H2 y => ?_⟩
    obtain ⟨d, ed, rd, sm⟩ := it.yld i H' x H2 hlt kq' y
    have rp2 := rp'.same sm
    have okb : (Γ.blk H2).Ok S := ⟨ok.k, ok.b, ok.t⟩
    refine ⟨Γ.blk H2, blkE ⟨E1.l, q0⟩ vs, d, _, okb, rp2.enter.wipe vs, rd, ps i d acc q0 ed pi la, fun E2 q2 σ2 r2 o2 => ⟨wipe_only o2, ?_⟩⟩
    refine ⟨Γ.blk H2, E2, _, okb, r2, q2, fun b E3 q3 H3 kq3 r3 => ?_⟩
    have kq2 := kq'.trans (Kq.same sm)
    cases b with
    | true =>
      refine iteT ⟨Γ.blk H2, E3, _, okb, r3, q3.1 rfl, fun z E4 q4 v H4 kq4 r4 hv => ?_⟩
      have hA4 : H4 A = some (.lst xs) := r4.base.ext A _ frA.nsp (by simp) (sm _ _ hA)
      have rpl := rp2.leave r4.base r4.few
      have kqu : Kq H4 (upd H4 A (.lst (xs ++ [v]))) := Kq.upd hA4 trivial
      have kq4' := (kq3.trans kq4)
      have hx4 : Γ.RpL H4 xs acc := RpL.kq ((Kq.same sm).trans kq4') _ _ hx
      refine ⟨xs, hA4, millionL (by rw [hx4.len]; omega), hlt, acc ++ [z], xs ++ [v], E4.c, q4, by simp; omega, upd_same, RpL.kq kqu _ _ (hx4.app (.cons hv .nil)), (kq2.trans kq4').trans kqu, rpl.lone hA4 trivial frA loA⟩
    | false =>
      refine iteF ⟨hlt, acc, xs, E3.c, q3.2 rfl, by omega, r3.base.ext A _ frA.nsp (by simp) (sm _ _ hA), RpL.kq ((Kq.same sm).trans kq3) _ _ hx, kq2.trans kq3, rp2.leave r3.base r3.few⟩
  · have e : i = ds.length := by omega
    subst e
    exact .inl ⟨it.stop H' kq', k _ _ (pn acc q0 pi la) _ _ (kq1.trans kq') rp' ⟨A, rfl, ⟨A, xs, rfl, hA, hx, frA⟩, loA⟩⟩
variable {elt tg iter : Expr} {ifs : List Expr} {scope : Scope} {own : List (PySem.Str × Nat)} {pos spos py : Pos} {vi : VI} {g : VG} {c : VTT} {el : VT}
theorem fe_lc (hc : X.calm = true) (hN : X.N.Nodup) (hi : VIt S X tg iter vi) (ok : BlkOk X.N X.env.scope scope own)
    (hg : ∀ (s : Shared) (H : Hp) (C : Addr) (cl : List (PySem.Str × Addr)) (fp : List Addr), PG (X.blk s H scope (compEnvC scope cl C X.env) fp) tg (liftG S (own.map (·.2)) g))
    (ht : ∀ (s : Shared) (H : Hp) (C : Addr) (cl : List (PySem.Str × Addr)) (fp : List Addr), VTs S (X.blk s H scope (compEnvC scope cl C X.env) fp) ifs c)
    (he : ∀ (s : Shared) (H : Hp) (C : Addr) (cl : List (PySem.Str × Addr)) (fp : List Addr), VE S (X.blk s H scope (compEnvC scope cl C X.env) fp) elt el) (hs : ∀ x, foldedSetIterable iter X.env x = pure x := by intro _; rfl) :
    FE S X (.ListComp elt [⟨tg, iter, ifs, 0⟩] scope pos) (vLc vi g c el (own.map (·.2))) := pe_weak (pe_lc hc hN hi ok hg ht he hs) fun _ _ _ h => lc_lift h
theorem vs_setLc {i : Nat} {y : PySem.Str} (hc : X.calm = true) (hN : X.N.Nodup) (hy : X.N[i]? = some y) (hyl : X.env.scope.names.lookup y = some .local)
    (hsw : swapsWith (.ListComp elt [⟨tg, iter, ifs, 0⟩] scope pos) (some (.Name y py)) spos.line X.env = pure true) (hi : VIt S X tg iter vi) (ok : BlkOk X.N X.env.scope scope own)
    (hg : ∀ (s : Shared) (H : Hp) (C : Addr) (cl : List (PySem.Str × Addr)) (fp : List Addr), PG (X.blk s H scope (compEnvC scope cl C X.env) fp) tg (liftG S (own.map (·.2)) g))
    (ht : ∀ (s : Shared) (H : Hp) (C : Addr) (cl : List (PySem.Str × Addr)) (fp : List Addr), VTs S (X.blk s H scope (compEnvC scope cl C X.env) fp) ifs c)
    (he : ∀ (s : Shared) (H : Hp) (C : Addr) (cl : List (PySem.Str × Addr)) (fp : List Addr), VE S (X.blk s H scope (compEnvC scope cl C X.env) fp) elt el) (hs : ∀ x, foldedSetIterable iter X.env x = pure x := by intro _; rfl) :
    VSt S X (.Assign [.Name y py] (.ListComp elt [⟨tg, iter, ifs, 0⟩] scope pos) spos) (sSet i (vLc vi g c el (own.map (·.2)))) := by
  refine ps_weak (ps_setLc hc hN hy hyl hsw hi ok hg ht he hs) ?_
  rintro D σ H ⟨Γ, E, V, ok, r, h, k⟩
  refine lc_lift ⟨Γ, E, _, ok, r, h, fun d E1 h1 v H1 q1 r1 hv => ?_⟩
  exact k.nx _ h1 _ H1 q1 (hv.set r1 i)
/-! ### locking ahead -/
theorem fz_any {Γ : Gm} {E : En} {σ : L2.St} {H : Hp} (r : Rep Γ E σ H) (i : Nat) : (Rep Γ (fzE E i) σ H) ∨ ∃ a u, σ[i]? = some (some (.ref a)) ∧ H a = some u ∧ Mut (some u) ∧ ∀ o, Rep Γ (fzE E i) σ (upd H a (.frz o u)) := by
  unfold fzE
  cases h : E.l[i]? with
  | none => exact .inl r
  | some s =>
    obtain ⟨o, h1, h2⟩ := r.sl i s h
    have hi := (List.getElem?_eq_some_iff.mp h)
    have same : E.set i s = E := by
      show (⟨E.l.set i s, E.c⟩ : En) = E
      rw [show E.l.set i s = E.l from ?_]
      apply List.ext_getElem?
      intro j
      by_cases e : i = j
      · subst e
        rw [List.getElem?_set_self hi.1, h]
      · rw [List.getElem?_set_ne e]
    cases s with
    | no => exact .inl (by show Rep Γ (E.set i .no) σ H; rw [same]; exact r)
    | v d => exact .inl (by show Rep Γ (E.set i (.v d)) σ H; rw [same]; exact r)
    | ex b pl => exact .inl (by show Rep Γ (E.set i (.ex b pl)) σ H; rw [same]; exact r)
    | ol ds =>
      obtain ⟨p, u, rfl, hu, mu, fr⟩ := h2.own_at rfl
      exact .inr ⟨p, u, h1, hu, mu, fun o => (r.lock h rfl h1 hu mu).1⟩
    | od b ds =>
      obtain ⟨p, u, rfl, hu, mu, fr⟩ := h2.own_at rfl
      exact .inr ⟨p, u, h1, hu, mu, fun o => (r.lock h rfl h1 hu mu).1⟩
def vFz (i : Nat) (t : FT) : FT := fun E Q => t (fzE E i) Q
theorem fe_fz {e : Expr} {t : FT} (i : Nat) (h : FE S X e t) : FE S X e (vFz i t) := by
  refine pe_weak (pe_lockS i h) ?_
  rintro σ H Q ⟨Γ, E, Q0, ok, rp, ht, k⟩
  rcases fz_any rp i with r | ⟨p, u, h1, h2, h3, h4⟩
  · exact .inl ⟨Γ, _, Q0, ok, r, ht, k⟩
  · exact .inr ⟨p, u, h1, h2, h3, fun o => ⟨Γ, _, Q0, ok, h4 o, ht, fun r E' q v H' kq => k r E' q v H' ((Kq.upd h2 h3).trans kq)⟩⟩
def vFzV (i : Nat) (t : VT) : VT := fun E Q => t (fzE E i) Q
theorem ve_fz {e : Expr} {t : VT} (i : Nat) (h : VE S X e t) : VE S X e (vFzV i t) := by
  refine pe_weak (pe_lockS i h) ?_
  rintro σ H Q ⟨Γ, E, Q0, ok, rp, ht, k⟩
  rcases fz_any rp i with r | ⟨p, u, h1, h2, h3, h4⟩
  · exact .inl ⟨Γ, _, Q0, ok, r, ht, k⟩
  · exact .inr ⟨p, u, h1, h2, h3, fun o => ⟨Γ, _, Q0, ok, h4 o, ht, fun r E' q v H' kq => k r E' q v H' ((Kq.upd h2 h3).trans kq)⟩⟩
theorem ps_lockS {st : Stmt} {t : TS} (i : Nat) (h : PS X st t) : PS X st (fun D σ H => t D σ H ∨ ∃ a u, σ[i]? = some (some (.ref a)) ∧ H a = some u ∧ Mut (some u) ∧ ∀ o, t D σ (upd H a (.frz o u))) := by
  refine ⟨fun pins s σ H D I q => ?_⟩
  rcases q with q | ⟨a, u, _, hu, mu, q⟩
  · exact h.run pins s σ H D I q
  · obtain ⟨o, I2⟩ := I.lock hu mu
    exact h.run pins s σ _ D I2 (q o)
def sFz (i : Nat) (t : VS) : VS := fun V E => t V (fzE E i)
theorem vs_fz {st : Stmt} {t : VS} (i : Nat) (h : VSt S X st t) : VSt S X st (sFz i t) := by
  refine ps_weak (ps_lockS i h) ?_
  rintro D σ H ⟨Γ, E, V, ok, rp, ht, k⟩
  rcases fz_any rp i with r | ⟨p, u, h1, h2, h3, h4⟩
  · exact .inl ⟨Γ, _, V, ok, r, ht, k⟩
  · exact .inr ⟨p, u, h1, h2, h3, fun o => ⟨Γ, _, V, ok, h4 o, ht, k.kq (Kq.upd h2 h3)⟩⟩
/-! ### all, any of a generator expression -/
def vGen (vi : VI) (g : VG) (el : VT) (vs : List Nat) (ans : List Nat → (Nat → Bool) → Bool) : VT := fun E Q => vi E fun ds E1 => ∃ f : Nat → Bool, (∀ i d, ds[i]? = some d → g d (blkE E1 vs) fun E2 => el E2 fun x E3 => x = .bl (f i) ∧ E3.c = E1.c) ∧ Q (.bl (ans (List.range ds.length) f)) E1
theorem gen_lift {P : Addr} {vs : List Nat} {ans : List Nat → (Nat → Bool) → Bool} (hP : P ∈ S.tabs) {σ : L2.St} {H : Hp} {Q : VK} (h : liftV S (vGen vi g el vs ans) σ H Q) : IndG.genR P (liftI S vi) (liftG S vs g) (liftV S el) vs ans σ H Q := by
  obtain ⟨Γ, E, Q0, ok, rp, ht, k⟩ := h
  refine ⟨Γ, E, _, ok, rp, ht, fun ds E1 ⟨f, hf, hq⟩ J H1 kq1 rp1 it => ⟨rp1.base.tabs P (by rw [ok.t]; exact hP), fun H2 tb => ?_⟩⟩
  have hPg : P ∈ Γ.tabs := by rw [ok.t]; exact hP
  have x2 : Ext Γ E1.c H1 H2 := by
    have ne : ∀ b, ¬ Γ.sp b → b ≠ P := fun b n e => n (.inr (e ▸ hPg))
    obtain ⟨ps0, hp0, _⟩ := rp1.base.tabs P hPg
    refine ⟨fun b o n h => by rw [tb.2 b (ne b n)]; exact h, fun t e => ?_, few_same rp1.few rp1.base.tape fun t e o h => by
      obtain ⟨ns, p, n, s, h1, h2, h3⟩ := rp1.base.tape t e
      rw [tb.2 t.l (ne_of h2 hp0 (fun z => nomatch z))]; exact h, fun P' hP' => ?_⟩
    · obtain ⟨ns, p, n, s, h1, h2, h3⟩ := rp1.base.tape t e
      refine ⟨ns, p, n, s, by rw [tb.2 t.a (ne_of h1 hp0 (fun z => nomatch z))]; exact h1, by rw [tb.2 t.l (ne_of h2 hp0 (fun z => nomatch z))]; exact h2, h3⟩
    · by_cases e : P' = P
      · subst e; exact tb.1
      · obtain ⟨ps, h1, h2⟩ := rp1.base.tabs P' hP'
        exact ⟨ps, by rw [tb.2 P' e]; exact h1, h2⟩
  have kq2 := x2.kq rp1.base
  refine ⟨ds.length, f, fun j H3 => Kq H1 H3 ∧ Rep Γ E1 σ H3, ⟨kq2, rp1.call x2⟩, fun j H3 hj ⟨kq3, rp3⟩ => ⟨it.go j H3 hj kq3, fun x H4 y => ?_⟩, fun H3 ⟨kq3, rp3⟩ => it.stop H3 kq3, fun j H3 ⟨kq3, rp3⟩ => k _ _ hq _ _ (kq1.trans kq3) rp3 (.bl _)⟩
  obtain ⟨d, ed, rd, sm⟩ := it.yld j H3 x H4 hj kq3 y
  have rp4 := rp3.same sm
  have okb : (Γ.blk H4).Ok S := ⟨ok.k, ok.b, ok.t⟩
  refine ⟨Γ.blk H4, blkE E1 vs, d, _, okb, rp4.enter.wipe vs, rd, hf j d ed, fun E2 q2 σ2 r2 o2 => ⟨wipe_only o2, ?_⟩⟩
  refine ⟨Γ.blk H4, E2, _, okb, r2, q2, fun z E3 q3 v H5 kq5 r5 hv => ?_⟩
  obtain ⟨rfl, q3⟩ := q3
  cases hv
  have := rp4.leave r5.base r5.few
  rw [q3] at this
  exact ⟨rfl, (kq3.trans (Kq.same sm)).trans kq5, this⟩
variable {cc P : Addr} {k : Nat} {p gpos : Pos}
theorem ve_all (hP : P ∈ S.tabs) (hc : X.calm = true) (hN : X.N.Nodup) (hr : Room k X.A) (TB : GxR.TabB X.base X.mg cc P) (hcode : X.env.code = .ref cc) (hg : Gl X "all") (hm : X.mg "all" = none) (hb : bootBuiltins "all" = some (.builtin "all")) (ok : BlkOk X.N X.env.scope scope own)
    (nocell : ∀ y ∈ scope.names, y.2 ≠ .cell) (dot : scope.names.lookup (".0" : PySem.Str) = some NameKind.local) (hco : scope.isCoroutine = false) (hi : VIt S X tg iter vi) (hs : ∀ v, genFold iter X.env v = pure v)
    (pg : ∀ (s : Shared) (H : Hp) (C : Addr) (cl : List (PySem.Str × Addr)) (code : Value) (fp : List Addr), PG (IndG.genC X (genEnv scope cl C code builtinsNs X.env) s H fp) tg (liftG S (own.map (·.2)) g))
    (pe : ∀ (s : Shared) (H : Hp) (C : Addr) (cl : List (PySem.Str × Addr)) (code : Value) (fp : List Addr), VE S (IndG.genC X (genEnv scope cl C code builtinsNs X.env) s H fp) elt el)
    (he : starEach [IndG.gx elt tg iter scope gpos] X.env = (false, eval (IndG.gx elt tg iter scope gpos) X.env) :: starEach [] X.env := by rfl) :
    VE S X (.Call (.Name "all" p) [IndG.gx elt tg iter scope gpos] [] pos) (vGen vi g el (own.map (·.2)) List.all) := pe_weak (IndG.pe_allG hc hN hr TB hcode hg hm hb ok nocell dot hco hi hs pg pe he) fun _ _ _ h => gen_lift hP h
theorem ve_any (hP : P ∈ S.tabs) (hc : X.calm = true) (hN : X.N.Nodup) (hr : Room k X.A) (TB : GxR.TabB X.base X.mg cc P) (hcode : X.env.code = .ref cc) (hg : Gl X "any") (hm : X.mg "any" = none) (hb : bootBuiltins "any" = some (.builtin "any")) (ok : BlkOk X.N X.env.scope scope own)
    (nocell : ∀ y ∈ scope.names, y.2 ≠ .cell) (dot : scope.names.lookup (".0" : PySem.Str) = some NameKind.local) (hco : scope.isCoroutine = false) (hi : VIt S X tg iter vi) (hs : ∀ v, genFold iter X.env v = pure v)
    (pg : ∀ (s : Shared) (H : Hp) (C : Addr) (cl : List (PySem.Str × Addr)) (code : Value) (fp : List Addr), PG (IndG.genC X (genEnv scope cl C code builtinsNs X.env) s H fp) tg (liftG S (own.map (·.2)) g))
    (pe : ∀ (s : Shared) (H : Hp) (C : Addr) (cl : List (PySem.Str × Addr)) (code : Value) (fp : List Addr), VE S (IndG.genC X (genEnv scope cl C code builtinsNs X.env) s H fp) elt el)
    (he : starEach [IndG.gx elt tg iter scope gpos] X.env = (false, eval (IndG.gx elt tg iter scope gpos) X.env) :: starEach [] X.env := by rfl) :
    VE S X (.Call (.Name "any" p) [IndG.gx elt tg iter scope gpos] [] pos) (vGen vi g el (own.map (·.2)) List.any) := pe_weak (IndG.pe_anyG hc hN hr TB hcode hg hm hb ok nocell dot hco hi hs pg pe he) fun _ _ _ h => gen_lift hP h
end
end Va

set_option Elab.async false
set_option linter.all false
set_option maxRecDepth 100000
set_option maxHeartbeats 4000000
namespace Va
open PySem PySem.Spec PyProof.Rows L2 Ind
/-! ### errors by values -/
/-- an error: its class; a field, and what it holds -/
inductive Er where
  | own (C : Addr)
  | fld (C : Addr) (f : Tx) (d : D)
def Er.cls : Er → Addr
  | .own C => C
  | .fld C _ _ => C
def XRep (K : PySem.W.Frag) (tp : Option Tp) (H : Hp) (cls : Value) (d : Option Addr) : Er → Prop
  | .own C => cls = .ref C ∧ d = none
  | .fld C f x => cls = .ref C ∧ ∃ dd ob v, d = some dd ∧ H dd = some (.frz ob (.xd [(f, v)])) ∧ Rp K tp H v x
abbrev XQ := Er → En → Prop
def XOk (Γ : Gm) (W : WX) (Xq : XQ) (H : Hp) : Prop := ∀ e E, Xq e E → ∀ cls d σ' H', Kq H H' → Rep Γ E σ' H' → XRep Γ.K Γ.tp H' cls d e → W cls d σ' H'
theorem XOk.kq {Γ : Gm} {W : WX} {Xq : XQ} {H H' : Hp} (k : XOk Γ W Xq H) (q : Kq H H') : XOk Γ W Xq H' := fun e E h cls d σ2 H2 q2 r x => k e E h cls d σ2 H2 (q.trans q2) r x
abbrev VSX := Ve → XQ → En → Prop
def liftSX (S : Sg) (W : WX) (t : VSX) : TS := fun D σ H => ∃ (Γ : Gm) (E : En) (V : Ve) (Xq : XQ), Γ.Ok S ∧ Rep Γ E σ H ∧ t V Xq E ∧ EndsOk Γ V D H ∧ XOk Γ W Xq H
abbrev VXt (S : Sg) (W : WX) (X : Cx) (st : Stmt) (t : VSX) : Prop := PS X st (liftSX S W t)
abbrev VXs (S : Sg) (W : WX) (X : Cx) (st : List Stmt) (t : VSX) : Prop := PSs X st (liftSX S W t)
section
variable {X : Cx} {S : Sg} {W : WX} {e : Expr} {st : Stmt} {rest : List Stmt} {pos : Pos}
theorem ps_nox {t : TS} (h : PS X.nox st t) : PS X st t := ⟨fun pins s σ H D I hw =>
  wpAny_mono (h.run pins s σ H D (I.wish _) hw) (fun _ _ q => q.unwish) fun _ _ z => False.elim z⟩
theorem pa_nox {es : List Expr} {t : TA} (h : PA X.nox es t) : PA X es t := ⟨fun pos pins s σ H Q I hw =>
  wpAny_mono (h.run pos pins s σ H Q (I.wish _) hw) (fun _ _ ⟨v, H', I', r, q⟩ => ⟨v, H', I'.unwish, r, q⟩) fun _ _ z => False.elim z⟩
def xNox (t : VS) : VSX := fun V _ E => t V E
theorem vxs_nox {t : VS} (h : VSs S X.nox rest t) : VXs S W X rest (xNox t) := by
  refine pss_weak h.nox ?_
  rintro D σ H ⟨Γ, E, V, Xq, ok, r, h, k, _⟩
  exact ⟨Γ, E, V, ok, r, h, k⟩
theorem vx_nox {t : VS} (h : VSt S X.nox st t) : VXt S W X st (xNox t) := by
  refine ps_weak (ps_nox h) ?_
  rintro D σ H ⟨Γ, E, V, Xq, ok, r, h, k, _⟩
  exact ⟨Γ, E, V, ok, r, h, k⟩
def xSeq (t u : VSX) : VSX := fun V Xq E => t { V with nx := u V Xq } Xq E
theorem vxs_cons {t u : VSX} (h : VXt S W X st t) (g : VXs S W X rest u) : VXs S W X (st :: rest) (xSeq t u) := by
  refine pss_weak (pss_cons h g) ?_
  rintro D σ H ⟨Γ, E, V, Xq, ok, r, h, k, kx⟩
  exact ⟨Γ, E, _, Xq, ok, r, h, ⟨fun E1 h1 σ1 H1 q1 r1 => ⟨Γ, E1, V, Xq, ok, r1, h1, k.kq q1, kx.kq q1⟩, k.rt, k.bk, k.ct⟩, kx⟩
theorem vxs_one {t : VSX} (h : VXt S W X st t) : VXs S W X [st] t := pss_one h
def xNx : VSX := fun V _ E => V.nx E
theorem vxs_nil : VXs S W X [] xNx := by
  refine pss_weak pss_nil ?_
  rintro D σ H ⟨Γ, E, V, Xq, ok, r, h, k, kx⟩
  exact k.nx E h σ H (Kq.refl _) r
def xIf (c : VTT) (t u : VSX) : VSX := fun V Xq E => c E fun b E1 => (b = true → t V Xq E1) ∧ (b = false → u V Xq E1)
theorem vx_if {c : Expr} {a b : List Stmt} {tc : VTT} {t u : VSX} (hc : VB S X.nox c tc) (ha : VXs S W X a t) (hb : VXs S W X b u) : VXt S W X (.If c a b pos) (xIf tc t u) := by
  refine ps_weak (ps_if (PT.nox hc) ha hb) ?_
  rintro D σ H ⟨Γ, E, V, Xq, ok, r, h, k, kx⟩
  refine ⟨Γ, E, _, ok, r, h, fun b E1 h1 H1 q1 r1 => ?_⟩
  cases b with
  | true => exact iteT ⟨Γ, E1, V, Xq, ok, r1, h1.1 rfl, k.kq q1, kx.kq q1⟩
  | false => exact iteF ⟨Γ, E1, V, Xq, ok, r1, h1.2 rfl, k.kq q1, kx.kq q1⟩
def xRaise (e : Er) : VSX := fun _ Xq E => Xq e E
theorem vx_raise {C : Addr} {bmB : List Value} {B newId initId : String} {x m : PySem.Str} {j : Nat} {p p2 pos2 : Pos} (hc : X.calm = true) (tk : Takes X W) (F : ExcBaseFacts B newId initId bmB) (q : PySem.W.excIn X.K C bmB newId = true) (gC : X.mg x = some (.ref C)) (kC : PySem.W.keepIn X.K (.ref C) = true) (r : Raises X (.ref C)) (hg : Gl X x)
    (hdb : (x == ("__debug__" : PySem.Str)) = false := by decide) : VXt S W X (.Raise (some (.Call (.Name x p) [.Constant (.str m) j p2] [] pos)) none pos2) (xRaise (.own C)) := by
  refine ps_weak (ps_raise hc tk (pmk_own F q gC kC r hg hdb)) ?_
  rintro D σ H ⟨Γ, E, V, Xq, ok, r, h, k, kx⟩
  exact kx _ E h _ _ σ H (Kq.refl _) r ⟨rfl, rfl⟩
/-! ### expressions that may raise -/
abbrev VTX := En → (D → En → Prop) → XQ → Prop
abbrev VTAX := En → (List D → En → Prop) → XQ → Prop
def liftVX (S : Sg) (W : WX) (t : VTX) : TE := fun σ H Q => ∃ (Γ : Gm) (E : En) (Q0 : D → En → Prop) (Xq : XQ), Γ.Ok S ∧ Rep Γ E σ H ∧ t E Q0 Xq ∧ (∀ d E', Q0 d E' → ∀ v H', Kq H H' → Rep Γ E' σ H' → Γ.Rp H' v d → Q v H') ∧ XOk Γ W Xq H
def liftAX (S : Sg) (W : WX) (t : VTAX) : TA := fun σ H Q => ∃ (Γ : Gm) (E : En) (Q0 : List D → En → Prop) (Xq : XQ), Γ.Ok S ∧ Rep Γ E σ H ∧ t E Q0 Xq ∧ (∀ d E', Q0 d E' → ∀ v H', Kq H H' → Rep Γ E' σ H' → Γ.RpL H' v d → Q v H') ∧ XOk Γ W Xq H
abbrev VEX (S : Sg) (W : WX) (X : Cx) (e : Expr) (t : VTX) : Prop := PE X e (liftVX S W t)
abbrev VAX (S : Sg) (W : WX) (X : Cx) (es : List Expr) (t : VTAX) : Prop := PA X es (liftAX S W t)
def xV (t : VT) : VTX := fun E Q _ => t E Q
theorem vex_nox {t : VT} (h : VE S X.nox e t) : VEX S W X e (xV t) := by
  refine pe_weak (PE.nox h) ?_
  rintro σ H Q ⟨Γ, E, Q0, Xq, ok, rp, ht, k, kx⟩
  exact ⟨Γ, E, Q0, ok, rp, ht, k⟩
def xaNil : VTAX := fun E Q _ => Q [] E
def xaCons (t : VTX) (u : VTAX) : VTAX := fun E Q Xq => t E (fun d E1 => u E1 (fun ds E2 => Q (d :: ds) E2) Xq) Xq
variable {es : List Expr}
theorem vax_nil : VAX S W X [] xaNil := by
  refine pa_weak pa_nil ?_
  rintro σ H Q ⟨Γ, E, Q0, Xq, ok, rp, ht, k, kx⟩
  exact k _ _ ht _ _ (Kq.refl _) rp .nil
theorem vax_cons {t : VTX} {u : VTAX} (ha : VEX S W X e t) (hr : VAX S W X es u) (hs : starEach (e :: es) X.env = (false, eval e X.env) :: starEach es X.env := by rfl) : VAX S W X (e :: es) (xaCons t u) := by
  refine pa_weak (pa_cons ha hr hs) ?_
  rintro σ H Q ⟨Γ, E, Q0, Xq, ok, rp, ht, k, kx⟩
  refine ⟨Γ, E, _, Xq, ok, rp, ht, fun d E1 hq v H1 kq1 rp1 hv => ?_, kx⟩
  refine ⟨Γ, E1, _, Xq, ok, rp1, hq, fun ds E2 hq2 vs H2 kq2 rp2 hvs => ?_, kx.kq kq1⟩
  exact k _ _ hq2 _ _ (kq1.trans kq2) rp2 (.cons (Rp.kq kq2 _ _ hv) hvs)
def xTup (t : VTAX) : VTX := fun E Q Xq => t E (fun ds E1 => ds.length ≤ 1000 ∧ Q (.tup ds) E1) Xq
theorem vex_tup {x1} {t : VTAX} (h : VAX S W X es t) : VEX S W X (.Tuple es x1 pos) (xTup t) := by
  refine pe_weak (pe_tup h) ?_
  rintro σ H Q ⟨Γ, E, Q0, Xq, ok, rp, ht, k, kx⟩
  refine ⟨Γ, E, _, Xq, ok, rp, ht, fun ds E1 hq vs H1 kq1 rp1 hvs => ⟨line (by rw [hvs.len]; exact hq.1), fun p np => ?_⟩, kx⟩
  have sm := same_upd (o := .tup vs) np
  exact k _ _ hq.2 _ _ (kq1.trans (Kq.same sm)) (rp1.same sm) (.tup (.of upd_same) (RpL.kq (Kq.same sm) _ _ hvs))
def xRt (t : VTX) : VSX := fun V Xq E => t E (fun d E1 => V.rt d E1) Xq
theorem vx_ret {t : VTX} (he : VEX S W X e t) : VXt S W X (.Return (some e) pos) (xRt t) := by
  refine ps_weak (ps_ret he) ?_
  rintro D σ H ⟨Γ, E, V, Xq, ok, r, h, k, kx⟩
  exact ⟨Γ, E, _, Xq, ok, r, h, fun d E1 h1 v H1 q1 r1 hv => k.rt d E1 h1 v σ H1 q1 r1 hv, kx⟩
def xSet (i : Nat) (t : VTX) : VSX := fun V Xq E => t E (fun d E1 => V.nx (E1.set i (.v d))) Xq
theorem vx_set {i : Nat} {x : PySem.Str} {t : VTX} {pos' : Pos} (hN : X.N.Nodup) (hi : X.N[i]? = some x) (hx : Loc X.env.scope x) (he : VEX S W X e t) (hs : swapsWith e (some (.Name x pos')) pos.line X.env = pure false := by rfl) (hf : X.fn x = true ∨ X.env.scope.names.lookup x = some .local := by first | exact .inl rfl | exact .inr rfl | assumption) :
    VXt S W X (.Assign [.Name x pos'] e pos) (xSet i t) := by
  refine ps_weak (ps_set hN hi hx he hs hf) ?_
  rintro D σ H ⟨Γ, E, V, Xq, ok, r, h, k, kx⟩
  exact ⟨Γ, E, _, Xq, ok, r, h, fun d E1 h1 v H1 q1 r1 hv => k.nx _ h1 _ H1 q1 (r1.set i hv), kx⟩
def xEx (t : VTX) : VSX := fun V Xq E => t E (fun _ E1 => V.nx E1) Xq
theorem vx_expr {t : VTX} (he : VEX S W X e t) (hs : swapsWith e none pos.line X.env = pure false := by rfl) : VXt S W X (.Expr e pos) (xEx t) := by
  refine ps_weak (ps_expr he hs) ?_
  rintro D σ H ⟨Γ, E, V, Xq, ok, r, h, k, kx⟩
  exact ⟨Γ, E, _, Xq, ok, r, h, fun d E1 h1 v H1 q1 r1 _ => k.nx E1 h1 σ H1 q1 r1, kx⟩
/-! ### calls of defs that may raise -/
abbrev VMX := List D → Nat → (D → Nat → Prop) → (Er → Nat → Prop) → Prop
def spVX (S : Sg) (m : VMX) : Sp := fun vs H Q Ew => ∃ (tp : Option Tp) (ds : List D) (c : Nat) (Q0 : D → Nat → Prop) (X0 : Er → Nat → Prop), RpL S.K tp H vs ds ∧ (∀ t, tp = some t → TapeV S.b H t) ∧ Few tp c H ∧ (∀ P ∈ S.tabs, GxR.TabG H P) ∧ m ds c Q0 X0 ∧
  (∀ d c', Q0 d c' → ∀ v H', Ext ⟨S.K, S.b, tp, S.tabs, [], H⟩ c' H H' → Rp S.K tp H' v d → Q v H') ∧ (∀ e c', X0 e c' → ∀ cls d H', Ext ⟨S.K, S.b, tp, S.tabs, [], H⟩ c' H H' → XRep S.K tp H' cls d e → Ew cls d H')
def xCall (m : VMX) (t : VTA) : VTX := fun E Q Xq => t E fun ds E1 => m ds E1.c (fun d c => Q d ⟨E1.l, c⟩) (fun e c => Xq e ⟨E1.l, c⟩)
theorem spVX_of {Γ : Gm} {E : En} {σ : L2.St} {H : Hp} {m : VMX} {vs : List V} {ds : List D} {Q : VK} {Ew : XK} {Q0 : D → Nat → Prop} {X0 : Er → Nat → Prop} (ok : Γ.Ok S) (r : Rep Γ E σ H) (hv : Γ.RpL H vs ds) (h : m ds E.c Q0 X0) (k : ∀ d c, Q0 d c → ∀ v H', Kq H H' → Rep Γ ⟨E.l, c⟩ σ H' → Γ.Rp H' v d → Q v H')
    (kx : ∀ e c, X0 e c → ∀ cls d H', Kq H H' → Rep Γ ⟨E.l, c⟩ σ H' → XRep Γ.K Γ.tp H' cls d e → Ew cls d H') : spVX S m vs H Q Ew := by
  obtain ⟨eK, eB, eT⟩ := ok
  have cv : ∀ c H', Ext ⟨S.K, S.b, Γ.tp, S.tabs, [], H⟩ c H H' → Ext Γ c H H' := fun c H' x => ⟨fun b o n => x.ext b o fun z => n (by
    rcases z with z | z
    · exact .inl z
    · exact .inr (by rw [eT]; exact z)), by rw [eB]; exact x.tape, x.few, by rw [eT]; exact x.tabs⟩
  refine ⟨Γ.tp, ds, E.c, Q0, X0, by rw [← eK]; exact hv, by rw [← eB]; exact r.base.tape, r.few, by rw [← eT]; exact r.base.tabs, h, fun d c hd v H' x rv => ?_, fun e c he cls d H' x xr => ?_⟩
  · have x' := cv c H' x
    exact k d c hd v H' (x'.kq r.base) (r.call x') (by rw [← eK] at rv; exact rv)
  · have x' := cv c H' x
    exact kx e c he cls d H' (x'.kq r.base) (r.call x') (by rw [← eK] at xr; exact xr)
theorem vex_call {k : Nat} {f : Addr} {fd : FuncData} {ps : List PySem.Str} {m : VMX} {x : PySem.Str} {p : Pos} {t : VTA} (F : FnOk X.prog X.w X.K X.mg X.base (L2.CX X.prog X.w) k f fd ps (spVX S m)) (hr : Room k X.A) (tk : Takes X W) (hg : Gl X x) (hm : X.mg x = some (.ref f)) (hk : PySem.W.keepIn X.K (.ref f) = true) (hb : Binds X.K fd ps [])
    (ha : VA S X.nox (e :: es) t) (hdb : (x == ("__debug__" : PySem.Str)) = false := by decide) (he : starEach (e :: es) X.env = (false, eval e X.env) :: starEach es X.env := by rfl) (hpl : (backTo pos (starEach es X.env)).any (·.1) = false := by rfl) :
    VEX S W X (.Call (.Name x p) (e :: es) [] pos) (xCall m t) := by
  refine pe_weak (pe_callS F hr hg hm hk hb (fun σ => passAt tk σ) (pa_nox ha) hdb he hpl) ?_
  rintro σ H Q ⟨Γ, E, Q0, Xq, ok, rp, ht, k, kx⟩
  refine ⟨Γ, E, _, ok, rp, ht, fun ds E1 hq vs H1 kq1 rp1 hvs => ?_⟩
  show spVX S m vs H1 Q (WE W σ)
  exact spVX_of ok rp1 hvs hq (fun d c hd v H' q' r' rv => k _ _ hd _ _ (kq1.trans q') r' rv) fun e c he cls d H' q' r' xr => kx _ _ he cls d σ H' (kq1.trans q') r' xr
end
/-! ### a def that may raise -/
section
variable {P : Program} {w : World} {K : PySem.W.Frag} {mg : PySem.Str → Option Value} {base : Heap} {S : Sg} {x qual : PySem.Str} {st : Stmt} {f : Addr} {fd : FuncData} {N ps : List PySem.Str} {k : Nat} {m : VMX} {T : VSX}
theorem def_vx (F : Fun K x qual st f fd) (sc : FnScope N ps (defScope st)) (hK : S.K = K) (len : ∀ ds c Q Xq, m ds c Q Xq → ds.length = ps.length)
    (hb : ∀ (cdv : Value) (A : Around) (outer : List Env) (s : Shared) (H : Hp) (E : XK), Room k (A.deeper (envOfC qual (defScope st) s.heap.objs.size f cdv)) → VXs S (fun cls d _ H => E cls d H) (cxOf (L2.CX P w) P w K mg base N qual (defScope st) f cdv A outer s H E) (defBody st) T)
    (h : ∀ ds c Q Xq, m ds c Q Xq → T (endV Q) (fun e E => Xq e E.c) (startV N ds c)) : FnOk P w K mg base (L2.CX P w) (k + 1) f fd ps (spVX S m) := by
  refine F.okX sc (fun vs H Q E sp => ?_) (fun cdv A outer s H vs Q E hr sp => ⟨_, hb cdv A outer s H E hr, ?_⟩)
  · obtain ⟨tp, ds, c, Q0, X0, hv, _, _, _, hm, _⟩ := sp
    rw [hv.len]
    exact len ds c Q0 X0 hm
  · obtain ⟨tp, ds, c, Q0, X0, hv, ht, hf, hp, hm, k, kx⟩ := sp
    refine ⟨⟨S.K, S.b, tp, S.tabs, [], H⟩, startV N ds c, _, _, ⟨rfl, rfl, rfl⟩, rep_start hv ht hf hp, h ds c Q0 X0 hm, ⟨fun E1 h1 σ1 H1 q1 r1 => ?_, fun d E1 h1 v σ1 H1 q1 r1 rv => ?_, fun _ z => z.elim, fun _ z => z.elim⟩, fun e E1 h1 cls d σ1 H1 q1 r1 xr => ?_⟩
    · exact k _ _ h1 _ _ ⟨fun b o n e => r1.base.ext b o n (by simp) e, r1.base.tape, r1.few, r1.base.tabs⟩ .non
    · exact k _ _ h1 _ _ ⟨fun b o n e => r1.base.ext b o n (by simp) e, r1.base.tape, r1.few, r1.base.tabs⟩ rv
    · exact kx _ _ h1 _ _ _ ⟨fun b o n e => r1.base.ext b o n (by simp) e, r1.base.tape, r1.few, r1.base.tabs⟩ xr
end
/-! ### try: .. except C as n: .. -/
section
variable {X : Cx} {S : Sg} {x n : PySem.Str} {c : Value} {i : Nat} {body suite : List Stmt} {b₀ : Stmt} {np pos pos' : Pos}
/-- what an except suite knows of its error -/
def Held (oe : Obj) (C : Addr) : Prop := oe.cls = .ref C ∧ (∃ vs, oe.data = .fields vs) ∧ oe.dict = none
/-- the body raises C alone -/
def sTry (i : Nat) (C : Addr) (tb : VSX) (ts : Addr → VS) : VS := fun V E => tb V (fun e E1 => e = .own C ∧ ∀ a, ts a { nx := fun E2 => V.nx (E2.set i .no), rt := V.rt, bk := fun E2 => V.bk (E2.set i .no), ct := fun E2 => V.ct (E2.set i .no) } (E1.set i (.ex a none))) E
theorem vs_try_as {tb : VSX} {ts : Addr → VS} {C : Addr} (hs : X.stack = X.env :: X.outer) (hf : X.env.frame = some X.env.locals) (hN : X.N.Nodup) (hi : X.N[i]? = some n) (hln : X.env.kindOf n = some .local) (hc : Names X x c)
    (hx : PySem.W.exmOne X.K (.ref C) c = some true)
    (hb : ∀ (W : WX) (pn : List (Addr × Obj)) (xe : Value → Shared → Prop), Takes (X.tr pn xe) W → PassesOwn (model X.prog X.w) X.A X.env xe → VXs S W (X.tr pn xe) body tb)
    (hsu : ∀ (a : Addr) (oe : Obj) (pn : List (Addr × Obj)), Held oe C → VSs S (X.suite a ((a, oe) :: pn)) (b₀ :: suite) (ts a)) :
    VSt S X (.Try body [.ExceptHandler (some (.Name x np)) (some n) (b₀ :: suite) pos'] [] [] pos) (sTry i C tb ts) := by
  refine ps_weak (ps_try_as (i := i) (ts := fun a cls d D σ H => cls = .ref C ∧ d = none ∧ liftS S (ts a) D σ H) hs hf hN hi hln hc takes0 (fun W pn xe tk po => hb W pn xe tk po) (fun a oe cls d pn hz hfl => ?_)) ?_
  · refine ⟨fun pins s σ H D I h => ?_⟩
    obtain ⟨ec, ed, h⟩ := h
    exact (hsu a oe pn ⟨hz.1.trans ec, hfl, hz.2.trans ed⟩).run pins s σ H D I h
  · rintro D σ H ⟨Γ, E, V, ok, r, h, k⟩
    refine ⟨Γ, E, V, _, ok, r, h, k, fun e E1 h1 cls d σ1 H1 q1 r1 xr => ?_⟩
    obtain ⟨rfl, hs⟩ := h1
    obtain ⟨rfl, rfl⟩ := xr
    refine ⟨true, hx, fun _ a na => ⟨rfl, rfl, Γ, _, _, ok, ?_, hs a, ?_⟩, fun z => Bool.noConfusion z⟩
    · refine ⟨r1.base, by simp [En.set, r1.len], r1.few, fun j s e => ?_, fun j k s t b e1 e2 o1 o2 h1 h2 => ?_⟩
      · rcases get_set e with ⟨rfl, rfl, hi⟩ | ⟨ne, e⟩
        · exact ⟨_, List.getElem?_set_self (by rw [← r1.len]; exact hi), rfl, fun p hp => by cases hp⟩
        · rw [List.getElem?_set_ne ne]
          exact r1.sl j s e
      · rcases get_set e1 with ⟨_, rfl, _⟩ | ⟨n1, e1⟩
        · cases o1
        · rcases get_set e2 with ⟨_, rfl, _⟩ | ⟨n2, e2⟩
          · cases o2
          · rw [List.getElem?_set_ne n1] at h1
            rw [List.getElem?_set_ne n2] at h2
            exact r1.dis j k s t b e1 e2 o1 o2 h1 h2
    · exact ⟨fun E2 h2 σ2 H2 q2 r2 => k.nx _ h2 _ H2 (q1.trans q2) (r2.setNo i none), fun d E2 h2 v σ2 H2 q2 r2 rv => k.rt d E2 h2 v σ2 H2 (q1.trans q2) r2 rv, fun E2 h2 σ2 H2 q2 r2 => k.bk _ h2 _ H2 (q1.trans q2) (r2.setNo i none), fun E2 h2 σ2 H2 q2 r2 => k.ct _ h2 _ H2 (q1.trans q2) (r2.setNo i none)⟩
end
/-! ### isinstance(e, C) of the error that the suite holds -/
section
variable {X : Cx} {S : Sg}
def vIsE (i : Nat) (a : Addr) (b : Bool) : VT := fun E Q => (∃ pl, E.l[i]? = some (.ex a pl)) ∧ Q (.bl b) E
theorem ve_isE {i : Nat} {x y : PySem.Str} {a C : Addr} {oe : Obj} {pn : List (Addr × Obj)} {cv : Value} {c : V} {b : Bool} {p p2 p3 pos : Pos} (hd : Held oe C) (eC : ExcC X.K C) (hb : PySem.W.kitOne X.K (.ref C) cv = some b)
    (hv : PE (X.suite a ((a, oe) :: pn)) (.Name x p) (tVar i)) (hc : PE (X.suite a ((a, oe) :: pn)) (.Name y p2) (tC c)) (hcv : ∀ u, RelV c u → u = cv)
    (hg : Gl (X.suite a ((a, oe) :: pn)) "isinstance") (hm : X.mg "isinstance" = none) (hbt : bootBuiltins "isinstance" = some (.builtin "isinstance")) : VE S (X.suite a ((a, oe) :: pn)) (.Call (.Name "isinstance" p3) [.Name x p, .Name y p2] [] pos) (vIsE i a b) := by
  refine pe_weak (pe_callB (call_isE eC (show Zc (.ref C) none oe from ⟨hd.1, hd.2.2⟩) hd.2.1) hg hm hbt (pa_cons hv (pa_cons hc pa_nil))) ?_
  rintro σ H Q ⟨Γ, E, Q0, ok, rp, ht, k⟩
  obtain ⟨⟨pl, hE⟩, hq⟩ := ht
  obtain ⟨o, h1, h2, _⟩ := rp.sl i _ hE
  subst h2
  exact ⟨_, h1, c, cv, b, rfl, hcv, hb, k _ _ hq _ _ (Kq.refl _) rp (.bl b)⟩
end
end Va

set_option Elab.async false
set_option linter.all false
set_option maxRecDepth 100000
set_option maxHeartbeats 4000000
namespace Va
open PySem PySem.Spec PyProof.Rows L2 Ind
section
variable {prog : Program} {w : World} {A : Around} {E : Value → Shared → Prop} {s : Shared} {T : String} {r d : Addr} {n : Nat} {P : Nat → Value → Prop} {OK : Heap → Prop}
/-- what a source of items gives, collected -/
theorem collect_src {Q : List Value → Shared → Prop} (K : PySem.W.KdlSrc prog w T r d n P OK) (hh : A.handled = none) (hok : OK s.heap) (hn : n ≤ sizeLine)
    (hQ : ∀ (h' : Heap) (tk : Nat) (acc : Array Value), (∀ b o, s.heap.get? b = some o → h'.get? b = some o) → ItemsOf P acc n → Q acc.toList { s with heap := h', toks := tk }) : wpAny (model prog w) A (collect (.ref r)) Q E s := by
  unfold collect; refine wpAny_bind (wpAny_runValue (codeAny_builtin F.entry_proto_collect ?_)); rw [Around.under_plainId F.plain_proto_collect _]
  show wpAny _ A.in1 (newList [] >>= fun l => again (.builtin "list.__iadd__" ⟨[l, .ref r], []⟩)) (_) _ s
  refine wpAny_bind (wpAny_newObj_type ?_)
  refine wpAny_pure ⟨plainId_quiet F.plain_list_iadd _, codeAny_builtin F.entry_list_iadd ?_⟩; rw [Around.under_plainId F.plain_list_iadd _]
  show wpAny _ A.in1 (Builtin.List.listExtendWith (.ref s.heap.objs.size) (.ref r) (.ref s.heap.objs.size)) (_) (_) _
  have hS : (s.heap.push { cls := .type "list", data := .seq ([] : List Value).toArray }).get? s.heap.objs.size = some { cls := .type "list", data := .seq #[] 0 } := by exact Heap.get?_push_size _ rfl
  have there := K.there _ hok
  have ok2 : OK (s.heap.push { cls := .type "list", data := .seq ([] : List Value).toArray }) := K.keep _ _ hok fun b _ o e => Heap.get?_push_of_some _ e
  refine wpAny_mono (PySem.W.kdl_extend (A := A) (s := { s with heap := s.heap.push { cls := .type "list", data := .seq ([] : List Value).toArray } }) (R := fun rr s' => rr = .ok (.ret (.ref s.heap.objs.size)) ∧ ∃ (h' : Heap) (tk : Nat) (acc : Array Value) (c' : Nat), s' = { s with heap := h', toks := tk } ∧
    (∀ b o, s.heap.get? b = some o → h'.get? b = some o) ∧ h'.get? s.heap.objs.size = some { cls := .type "list", dict := none, data := .seq acc c', slots := #[] } ∧ ItemsOf P acc n) K hh ok2 s.heap.objs.size (Nat.ne_of_gt there.1) (Nat.ne_of_gt there.2) (.ref s.heap.objs.size) 0 hS
    (fun h' tk acc c' hk e hi => ⟨rfl, h', tk, acc, c', rfl, fun b o q => hk b o (Nat.ne_of_lt (Heap.lt_size q)) (Heap.get?_push_of_some _ q), e, hi⟩) hn) (fun fin s' h => ?_) (fun e s' h => absurd h.1 (by simp))
  cases fin with
  | done f =>
    obtain ⟨e, h', tk, acc, c', rfl, hk, hS', hi⟩ := h
    cases e; show wpAny _ A (load s.heap.objs.size >>= _) _ _ _
    exact wpAny_bind (wpAny_load hS' (wpAny_pure (hQ h' tk acc hk hi)))
  | again c' =>
    refine ⟨h.1, codeAny_mono h.2 ?_⟩
    rintro rr s'' ⟨rfl, h', tk, acc, c', rfl, hk, hS', hi⟩
    show wpAny _ A (load s.heap.objs.size >>= _) _ _ _; exact wpAny_bind (wpAny_load hS' (wpAny_pure (hQ h' tk acc hk hi)))
theorem call_tuple_src {Q : Value → Shared → Prop} (K : PySem.W.KdlSrc prog w T r d n P OK) (hh : A.handled = none) (hok : OK s.heap) (hn : n ≤ sizeLine) (hty : s.TypeIs (.ref r) T)
    (cod : ∀ (A : Around) (Q₁ : Value → Shared → Prop), A.handled = none → (∀ (h' : Heap) (tk : Nat) (acc : Array Value), (∀ b o, s.heap.get? b = some o → h'.get? b = some o) → ItemsOf P acc n → Q₁ (.ref h'.objs.size) { s with heap := h'.push { cls := .type "tuple", data := .seq acc }, toks := tk }) →
      codeAny (model prog w) A (.call (.builtin "tuple.__new__") ⟨[.type "tuple", .ref r], []⟩) (wants Q₁ E) s)
    (hQ : ∀ (h' : Heap) (tk : Nat) (acc : Array Value), (∀ b o, s.heap.get? b = some o → h'.get? b = some o) → ItemsOf P acc n → Q (.ref h'.objs.size) { s with heap := h'.push { cls := .type "tuple", data := .seq acc }, toks := tk }) :
    wpAny (model prog w) A (call (.type "tuple") [.ref r]) Q E s := by
  refine callType_codes (Q₁ := fun obj s1 => s1.TypeIs obj "tuple" ∧ Q obj s1) F.called_tuple (F.typeCall_tuple_1 _) F.entry_object_init (cod A.in1 _ hh fun h' tk acc hk hacc => ⟨⟨_, Heap.get?_push_size _ rfl, rfl⟩, hQ h' tk acc hk hacc⟩) ?_
  intro obj s1 h1
  exact ⟨h1.1, F.args_object_init_2 obj _, object_init_meets F.called_tuple.init.lookup F.called_tuple.made (by decide) prog w A.in1 _ s1 ⟨h1.1, rfl, h1.2⟩⟩
theorem code_tuple_dict {Q₁ : Value → Shared → Prop} (K : PySem.W.KdlSrc prog w "dict" r d n P OK) (hh : A.handled = none) (hok : OK s.heap) (hn : n ≤ sizeLine)
    (h : ∀ (h' : Heap) (tk : Nat) (acc : Array Value), (∀ b o, s.heap.get? b = some o → h'.get? b = some o) → ItemsOf P acc n → Q₁ (.ref h'.objs.size) { s with heap := h'.push { cls := .type "tuple", data := .seq acc }, toks := tk }) :
    codeAny (model prog w) A (.call (.builtin "tuple.__new__") ⟨[.type "tuple", .ref r], []⟩) (wants Q₁ E) s := by
  refine codeAny_of_tree ?_
  show wpAny _ A.in1 (do checkBuiltinCall "tuple.__new__" ⟨[.type "tuple", .ref r], []⟩; again (.builtin "tuple.__new__" ⟨[.type "tuple", .ref r], []⟩)) (_) (_) s
  refine wpAny_bind (wpAny_of_eq (F.newCall_tuple_1 _) ?_)
  refine wpAny_pure ⟨plainId_quiet F.plain_tuple_new _, codeAny_builtin F.entry_tuple_new ?_⟩; rw [Around.under_plainId F.plain_tuple_new _]
  have z1 := sub_tuple_self; have z2 := init_tuple_lookup; have z3 := madeHere_tuple
  have hTI : s.TypeIs (.ref r) "dict" := K.type _ hok
  have hh1 : A.in1.handled = none := hh
  wp_walk using wpAny_typeOf hTI, collect_src (A := A.in1) K hh1 hok hn
  intro h' tk acc hk hacc
  show wpAny _ _ (Builtin.Tuple.tupleExact acc.toList.toArray >>= fun v => ret v) (_) _ _
  unfold Builtin.Tuple.tupleExact; refine wpAny_bind (wpAny_newObj_type ?_ (by show acc.toList.toArray.size ≤ sizeLine; simp only [Array.toArray_toList]; rw [hacc.1]; exact hn)); refine wpAny_pure ?_
  rw [show acc.toList.toArray = acc by simp]
  exact h h' tk acc hk hacc
end
section
variable {X : Cx} {S : Sg}
/-- tuple(d): the keys -/
theorem call_tuple_dK (hc : X.calm = true) : CallR X (.type "tuple") (fun xs H Q => ∃ p kvs, xs = [.ref p] ∧ Rd H p (.dK kvs) ∧ ∀ q, H q = none → Q (.ref q) (upd H q (.tup (kvs.map fun kv => kV kv.1)))) := by
  rintro pins s σ H xs us Q I r ⟨p, kvs, rfl, hk, q⟩
  obtain ⟨u, rfl, rx⟩ := vals1 r
  cases (show u = Value.ref p from rx)
  obtain ⟨z, lo, vs, rk, hd⟩ := hk.ok I.hok
  obtain ⟨ep, hat⟩ := hd.dictAt
  have hl : kvs.length = vs.length := Paired.length rk
  have src := PySem.W.kdl_dict (prog := X.prog) (w := X.w) (knd := mixKind X.prog X.w) (kvs := vs) (ep := ep) lo
  have hz : vs.length ≤ sizeLine := by rw [← hl]; exact z
  refine call_tuple_src src (I.ok.hd hc) hat hz (src.type _ hat) (fun A Q1 hh h => code_tuple_dict src hh hat hz h) fun h' tk acc hkeep hacc => ?_
  have I2 : Inv X pins σ H { s with heap := h', toks := tk } := I.kept (t' := tk) hkeep
  refine ⟨.ref h'.objs.size, upd H h'.objs.size (.tup (kvs.map fun kv => kV kv.1)), I2.laid (t' := tk) (fun c o e => Heap.get?_push_of_some _ e) (Nat.le_refl _) (show ObjOk X.prog X.w _ _ _ (.tup (kvs.map fun kv => kV kv.1)) from ⟨by rw [List.length_map]; exact z, acc.toList, ?_, ?_⟩), rfl, q _ (I2.hok.fresh (Nat.le_refl _))⟩
  · have el : acc.toList.length = acc.size := by simp
    refine vals_of_at (by rw [List.length_map, el, hacc.1, hl]) fun j x v h1 h2 => ?_
    obtain ⟨k, y, hky, hi⟩ := hacc.2 j v (by rw [← Array.getElem?_toList]; exact h2)
    have e1 : (kvs.map (·.1))[j]? = some k := by
      rw [KV.keys rk, List.getElem?_map, hky]; rfl
    have e2 : (kvs.map fun kv => kV kv.1) = (kvs.map (·.1)).map kV := by simp
    rw [e2, List.getElem?_map, e1] at h1
    cases h1
    exact keyIs_rel hi
  · rw [Array.toArray_toList]
    exact IsTup.new _ _
def tupleDG : VC := fun ds Q => match ds with
  | [.lst xs] => Q (.v (.tup xs))
  | [.tup xs] => Q (.v (.tup xs))
  | [.dk kvs] => Q (.v (.tup (kvs.map fun p => key p.1)))
  | _ => False
theorem keys_rp {Γ : Gm} {H : Hp} : ∀ {kv : List (Key × V)} {ds : List (Key × D)}, RpK Γ.K Γ.tp H kv ds → ∀ {H' : Hp}, Γ.RpL H' (kv.map fun p => kV p.1) (ds.map fun p => key p.1)
  | _, [], h, _ => by cases h; exact .nil
  | _, (k, d) :: ds, h, _ => by
    cases h with
    | cons h1 h2 => exact .cons (key_rp k) (keys_rp h2)
theorem c_tupleD (hK : S.K = X.K) (hc : X.calm = true) : CallV S X (.type "tuple") tupleDG := by
  refine ⟨_, call_tuple_of.or (call_tuple_dK hc), ?_⟩
  intro Γ H xs ds Q Q0 eK hx hg k
  have eK' : X.K = Γ.K := (eK.trans hK).symm
  unfold tupleDG at hg
  split at hg
  · match hx with
    | .cons h .nil =>
      obtain ⟨p, ys, rfl, h1, h2⟩ := h.seq
      refine .inl ⟨p, ys, rfl, .inl ⟨by rw [eK']; exact h1, fun l nl => ?_⟩⟩
      have sm := same_upd (o := .tup ys) nl
      exact k _ hg _ _ sm (.tup (.of upd_same) (RpL.kq (.same sm) _ _ h2))
  · match hx with
    | .cons h .nil =>
      obtain ⟨p, ys, rfl, h1, h2⟩ := h.tup
      exact .inl ⟨p, ys, rfl, .inr ⟨by rw [eK']; exact h1, k _ hg _ _ (Same.refl _) (.tup h1 h2)⟩⟩
  · match hx with
    | .cons h .nil =>
      obtain ⟨p, kv, rfl, h1, h2⟩ := h.dk
      refine .inr ⟨p, kv, rfl, h1, fun l nl => ?_⟩
      have sm := same_upd (o := .tup (kv.map fun p => kV p.1)) nl
      exact k _ hg _ _ sm (.tup (.of upd_same) (keys_rp h2))
  · exact hg.elim
end
end Va

set_option Elab.async false
set_option linter.all false
set_option maxRecDepth 100000
set_option maxHeartbeats 4000000
namespace Va
open PySem PySem.Spec PyProof.Rows L2 Ind GenW
section
variable {X : Cx} {S : Sg} {e a b o i value : Expr} {es : List Expr} {pos pos' p : Pos}
/-! ### dicts of one's own -/
def vDn : FT := fun E Q => Q (.fd []) E
theorem fe_dnew : FE S X (.Dict [] [] pos) vDn := by
  refine pe_weak pe_dnewK ?_
  rintro σ H Q ⟨Γ, E, Q0, ok, rp, ht, k⟩
  intro d nd
  have sm := same_upd (o := .dK []) nd
  exact k _ _ ht _ _ (.same sm) (rp.same sm) (RpN.rep (x := .fd []) rp sm ⟨d, [], rfl, nd, upd_same, .nil⟩)
def putD (kvs : List (Key × D)) (k : Key) (v : D) : List (Key × D) := if (kvs.any fun kv => decide (kv.1 = k)) = true then kvs.map fun kv => if kv.1 = k then (kv.1, v) else kv else kvs ++ [(k, v)]
theorem RpK.put {K : PySem.W.Frag} {tp : Option Tp} {H : Hp} {k : Key} {v : V} {d : D} (r : Rp K tp H v d) {kv : List (Key × V)} {ds : List (Key × D)} (h : RpK K tp H kv ds) : RpK K tp H (putK kv k v) (putD ds k d) := by
  have any : (kv.any fun x => decide (x.1 = k)) = ds.any fun x => decide (x.1 = k) := by
    have e1 : (kv.any fun x => decide (x.1 = k)) = (kv.map (·.1)).any fun x => decide (x = k) := by rw [List.any_map]; rfl
    have e2 : (ds.any fun x => decide (x.1 = k)) = (ds.map (·.1)).any fun x => decide (x = k) := by rw [List.any_map]; rfl
    rw [e1, e2, h.keys]
  have mp : ∀ {kv : List (Key × V)} {ds : List (Key × D)}, RpK K tp H kv ds → RpK K tp H (kv.map fun x => if x.1 = k then (x.1, v) else x) (ds.map fun x => if x.1 = k then (x.1, d) else x) := by
    intro kv ds h
    induction ds generalizing kv with
    | nil => cases h; exact .nil
    | cons q ds ih =>
      obtain ⟨j, e⟩ := q
      cases h with
      | cons h1 h2 =>
        rw [List.map_cons, List.map_cons]
        by_cases hj : j = k
        · rw [if_pos (show (j, _).1 = k from hj), if_pos (show (j, e).1 = k from hj)]
          exact .cons r (ih h2)
        · rw [if_neg (show ¬ (j, _).1 = k from hj), if_neg (show ¬ (j, e).1 = k from hj)]
          exact .cons h1 (ih h2)
  unfold putK putD
  rw [any]
  split
  · exact mp h
  · exact h.app (.cons r .nil)
/-- name[k] = v, the dict one's own -/
def sPut (i : Nat) (tk tv : VT) : VS := fun V E => tv E fun v E1 => onD E1.l[i]? fun _ _ => tk E1 fun kd E2 => onD E2.l[i]? fun b kvs => ∃ k, keyOf kd = some k ∧ kvs.length < 1000000 ∧ V.nx (E2.set i (.od b (putD kvs k v)))
theorem vs_dput {j : Nat} {tk tv : VT} (hu : X.A.units + 1 < cLine) (ho : PE X o (tVar j)) (hi : VE S X i tk) (hv : VE S X value tv) (hs : swapsWith value (some (.Subscript o i pos')) pos.line X.env = pure false := by rfl) :
    VSt S X (.Assign [.Subscript o i pos'] value pos) (sPut j tk tv) := by
  refine ps_weak (ps_dput hu ho hi hv hs) ?_
  rintro D0 σ H ⟨Γ, E, V, ok, rp, ht, k⟩
  refine ⟨Γ, E, _, ok, rp, ht, fun d E1 hq v H1 kq1 rp1 hv1 => ?_⟩
  obtain ⟨b1, ds1, e1, hq⟩ := onD_inv hq
  obtain ⟨p1, kv1, hs1, hd1, _, _⟩ := own_dict rp1 e1
  refine ⟨_, hs1, ?_⟩
  refine ⟨Γ, E1, _, ok, rp1, hq, fun kd E2 hq2 y H2 kq2 rp2 hy => ?_⟩
  obtain ⟨b2, ds2, e2, kk, ek, hsz, hq3⟩ := onD_inv hq2
  obtain ⟨p2, kv2, hs2, hd2, hr2, fr2⟩ := own_dict rp2 e2
  rw [hs1] at hs2
  cases hs2
  have ey := keyOf_rp (.v hy) ek
  subst ey
  obtain ⟨kq3, rp3⟩ := rp2.wrD e2 hs1 hd2 fr2 (RpK.put (k := kk) (Rp.kq kq2 _ _ hv1) hr2)
  exact ⟨p1, _, rfl, DPut.k hd2 (millionL (by rw [hr2.len]; exact hsz)), k.nx _ hq3 σ _ ((kq1.trans kq2).trans kq3) rp3⟩
/-! ### a def that fills a dict of the caller's -/
abbrev VMd := D → List (Key × D) → (List (Key × D) → Prop) → Prop
def spD (S : Sg) (m : VMd) : Sp := fun vs H Q _ => ∃ (tp : Option Tp) (c : Nat) (v : V) (a : Addr) (d : D) (kv : List (Key × V)) (ds : List (Key × D)) (Q0 : List (Key × D) → Prop), vs = [v, .ref a] ∧ Rp S.K tp H v d ∧ H a = some (.dK kv) ∧ RpK S.K tp H kv ds ∧
  ¬ (Gm.mk S.K S.b tp S.tabs [a] H).sp a ∧ (∀ t, tp = some t → TapeV S.b H t) ∧ Few tp c H ∧ (∀ P ∈ S.tabs, GxR.TabG H P) ∧ m d ds Q0 ∧
  ∀ ds', Q0 ds' → ∀ H', (∀ b o, ¬ (Gm.mk S.K S.b tp S.tabs [a] H).sp b → b ≠ a → H b = some o → H' b = some o) → (∀ t, tp = some t → TapeV S.b H' t) → Few tp c H' → (∀ P ∈ S.tabs, GxR.TabG H' P) → (∃ kv', H' a = some (.dK kv') ∧ RpK S.K tp H' kv' ds') → Q .non H'
def sCallD (m : VMd) (t : VT) (i : Nat) : VS := fun V E => t E fun d E1 => onD E1.l[i]? fun b kvs => m d kvs fun kvs' => V.nx (E1.set i (.od b kvs'))
variable {k : Nat} {f : Addr} {fd : FuncData} {ps : List PySem.Str} {m : VMd} {x : PySem.Str}
theorem vs_callD {t : VT} {j : Nat} {cpos : Pos} (F : FnOk X.prog X.w X.K X.mg X.base CX0 k f fd ps (spD S m)) (hr : Room k X.A) (hg : Gl X x) (hm : X.mg x = some (.ref f)) (hk : PySem.W.keepIn X.K (.ref f) = true) (hb : Binds X.K fd ps [])
    (ha : VE S X e t) (ho : PE X o (tVar j)) (hsw : swapsWith (.Call (.Name x p) [e, o] [] cpos) none pos.line X.env = pure false := by rfl) (hdb : (x == ("__debug__" : PySem.Str)) = false := by decide)
    (he : starEach [e, o] X.env = (false, eval e X.env) :: starEach [o] X.env := by rfl) (he2 : starEach [o] X.env = (false, eval o X.env) :: starEach [] X.env := by rfl) (hpl : (backTo cpos (starEach [o] X.env)).any (·.1) = false := by rfl) :
    VSt S X (.Expr (.Call (.Name x p) [e, o] [] cpos) pos) (sCallD m t j) := by
  refine ps_weak (ps_expr (pe_call (E := E0) F hr hg hm hk hb .nil pass0 (pa_cons ha (pa_cons ho pa_nil he2) he) hdb he hpl) hsw) ?_
  rintro D0 σ H ⟨Γ, E, V, ok, rp, ht, kk⟩
  refine ⟨Γ, E, _, ok, rp, ht, fun d E1 hq v H1 kq1 rp1 hv => ?_⟩
  obtain ⟨bb, ds, e1, hq⟩ := onD_inv hq
  obtain ⟨a, kv, hs, hd, hrr, fr, fio⟩ := own_dict rp1 e1
  refine ⟨_, hs, ?_⟩
  obtain ⟨eK, eB, eT⟩ := ok
  have spe : ∀ b (io : List Addr) (H : Hp), (Gm.mk S.K S.b Γ.tp S.tabs io H).sp b ↔ Γ.sp b := fun b io H => by
    show ((∃ t, Γ.tp = some t ∧ (b = t.a ∨ b = t.l)) ∨ b ∈ S.tabs) ↔ ((∃ t, Γ.tp = some t ∧ (b = t.a ∨ b = t.l)) ∨ b ∈ Γ.tabs)
    rw [eT]
  refine ⟨Γ.tp, E1.c, v, a, d, kv, ds, _, rfl, by rw [← eK]; exact hv, hd, by rw [← eK]; exact hrr, fun z => fr.nsp ((spe _ _ _).mp z), by rw [← eB]; exact rp1.base.tape, rp1.few, by rw [← eT]; exact rp1.base.tabs, hq, ?_⟩
  rintro ds' hq' H' ext tape few tabs ⟨kv', hd', hr'⟩
  have ne : ∀ b o, H1 b = some o → (∀ q, o ≠ .dK q) → b ≠ a := fun b o h n e => by
    rw [e, hd] at h
    cases h
    exact n _ rfl
  have kq : Kq H1 H' := by
    refine ⟨fun c u h => ext c _ (fun z => ?_) (ne _ _ h (fun _ z => nomatch z)) h, fun c q u h => ext c _ (fun z => ?_) (ne _ _ h (fun _ z => nomatch z)) h⟩ <;>
    · rcases rp1.base.sp_lst ((spe _ _ _).mp z) with ⟨_, e⟩ | ⟨_, e⟩ <;> (rw [e] at h; cases h)
  have nsp : ∀ b, ¬ Γ.sp b → ¬ (Gm.mk S.K S.b Γ.tp S.tabs [a] H1).sp b := fun b n z => n ((spe _ _ _).mp z)
  have rp2 : Rep Γ (E1.set j (.od bb ds')) σ H' := by
    refine ⟨⟨fun c o n1 n2 h => ?_, rp1.base.kq.trans kq, by rw [eB]; exact tape, by rw [eT]; exact tabs⟩, by simp [En.set, rp1.len], few, fun i s es => ?_, fun i1 i2 s t c g1 g2 o1 o2 h1 h2 => ?_⟩
    · refine ext c o (nsp c n1) ?_ (rp1.base.ext c o n1 n2 h)
      rintro rfl
      rcases fr.young with z | z
      · rw [z] at h; cases h
      · exact n2 z
    · rcases get_set es with ⟨rfl, rfl, _⟩ | ⟨nei, es⟩
      · exact ⟨_, hs, a, kv', rfl, hd', by rw [eK]; exact hr', fr, fio⟩
      · obtain ⟨o3, h3, h4⟩ := rp1.sl i s es
        refine ⟨o3, h3, h4.stay kq fun c w ow eo hc => ?_⟩
        obtain ⟨c2, _, ec2, _, _, frc⟩ := h4.own_at ow
        rw [ec2] at eo
        cases eo
        refine ext c w (nsp c frc.nsp) ?_ hc
        rintro rfl
        rw [ec2] at h3
        exact nei (rp1.dis j i _ s _ e1 es rfl ow hs h3)
    · have own : ∀ (i : Nat) (s3 : SV), (E1.set j (.od bb ds')).l[i]? = some s3 → s3.own = true → ∃ s4, E1.l[i]? = some s4 ∧ s4.own = true := fun i s3 e3 o3 => by
        rcases get_set e3 with ⟨rfl, rfl, _⟩ | ⟨_, e3⟩
        · exact ⟨_, e1, rfl⟩
        · exact ⟨s3, e3, o3⟩
      obtain ⟨s5, e5, o5⟩ := own i1 s g1 o1
      obtain ⟨s6, e6, o6⟩ := own i2 t g2 o2
      exact rp1.dis i1 i2 s5 s6 c e5 e6 o5 o6 h1 h2
  exact kk.nx _ hq' σ H' (kq1.trans kq) rp2
end
/-- the ends of such a def -/
def endD (c : Nat) (Q : List (Key × D) → Prop) : Ve := { nx := fun E => E.c = c ∧ onD E.l[1]? fun b kvs => b = true ∧ Q kvs, rt := fun d E => d = .non ∧ E.c = c ∧ onD E.l[1]? fun b kvs => b = true ∧ Q kvs }
section
variable {P : Program} {w : World} {K : PySem.W.Frag} {mg : PySem.Str → Option Value} {base : Heap} {S : Sg} {x qual : PySem.Str} {st : Stmt} {f : Addr} {fd : FuncData} {N ps : List PySem.Str} {k : Nat} {m : VMd} {T : VS}
theorem def_d (F : Fun K x qual st f fd) (sc : FnScope N ps (defScope st)) (hK : S.K = K) (hp : ps.length = 2) (hNl : 2 ≤ N.length)
    (hb : ∀ (cdv : Value) (A : Around) (outer : List Env) (s : Shared) (H : Hp) (E : XK), Room k (A.deeper (envOfC qual (defScope st) s.heap.objs.size f cdv)) → VSs S (cxOf CX0 P w K mg base N qual (defScope st) f cdv A outer s H E).nox (defBody st) T)
    (h : ∀ d kvs c Q, m d kvs Q → T (endD c Q) ⟨.v d :: .od true kvs :: List.replicate (N.length - 2) .no, c⟩) : FnOk P w K mg base CX0 (k + 1) f fd ps (spD S m) := by
  refine F.ok sc (fun vs H Q E sp => ?_) (fun cdv A outer s H vs Q E hr sp => ?_)
  · obtain ⟨tp, c, v, a, d, kv, ds, Q0, rfl, _⟩ := sp
    rw [hp]; rfl
  · obtain ⟨tp, c, v, a, d, kv, ds, Q0, rfl, hv, hd, hrr, nsp, ht, hf, htb, hm, kk⟩ := sp
    refine ⟨_, hb cdv A outer s H E hr, ⟨S.K, S.b, tp, S.tabs, [a], H⟩, _, _, ⟨rfl, rfl, rfl⟩, ?_, h d ds c Q0 hm, ?_⟩
    · refine ⟨⟨fun _ _ _ _ z => z, Kq.refl _, ht, htb⟩, by simp [L2.start], hf, fun i s e => ?_, fun i j s t c e1 e2 o1 o2 h1 h2 => ?_⟩
      · match i with
        | 0 => cases e; exact ⟨some v, rfl, v, rfl, hv⟩
        | 1 => cases e; exact ⟨some (.ref a), rfl, a, kv, rfl, hd, hrr, ⟨.inr (by simp), nsp⟩, fun _ => by simp⟩
        | i + 2 =>
          have e : (List.replicate (N.length - 2) SV.no)[i]? = some s := e
          rw [List.getElem?_replicate] at e
          split at e
          · rename_i hl
            cases e
            refine ⟨none, ?_, trivial⟩
            show (List.replicate (N.length - 2) none)[i]? = some none
            rw [List.getElem?_replicate, if_pos hl]
          · cases e
      · have one : ∀ (i : Nat) (s : SV), (SV.v d :: SV.od true ds :: List.replicate (N.length - 2) .no)[i]? = some s → s.own = true → i = 1 := fun i s e o => by
          match i with
          | 0 => cases e; cases o
          | 1 => rfl
          | i + 2 =>
            have e : (List.replicate (N.length - 2) SV.no)[i]? = some s := e
            rw [List.getElem?_replicate] at e
            split at e
            · cases e; cases o
            · cases e
        rw [one i s e1 o1, one j t e2 o2]
    · have fin : ∀ E1, (E1.c = c ∧ onD E1.l[1]? fun b kvs => b = true ∧ Q0 kvs) → ∀ σ1 H1, Rep ⟨S.K, S.b, tp, S.tabs, [a], H⟩ E1 σ1 H1 → Q .non H1 := fun E1 h1 σ1 H1 r1 => by
        obtain ⟨ec, h1⟩ := h1
        obtain ⟨b, ds', e1, rfl, hq⟩ := onD_inv h1
        obtain ⟨a', kv', hs', hd', hr', fr', io⟩ := own_dict r1 e1
        have ea : a' = a := by simpa using io rfl
        subst ea
        exact kk ds' hq H1 (fun b o n1 n2 hb => r1.base.ext b o n1 (by simpa using n2) hb) r1.base.tape (by rw [← ec]; exact r1.few) r1.base.tabs ⟨kv', hd', hr'⟩
      refine ⟨fun E1 h1 σ1 H1 _ r1 => fin E1 h1 σ1 H1 r1, fun d1 E1 h1 v1 σ1 H1 _ r1 rv => ?_, fun _ z => z.elim, fun _ z => z.elim⟩
      obtain ⟨rfl, h1⟩ := h1
      cases rv
      exact fin E1 h1 σ1 H1 r1
end
end Va

set_option Elab.async false
set_option linter.all false
set_option maxRecDepth 100000
set_option maxHeartbeats 4000000
namespace Va
open PySem PySem.Spec PyProof.Rows L2 Ind
/-! ### the tape and its draws -/
def spTapeV (K : PySem.W.Frag) (b : Bool) : Sp := fun vs H Q _ => ∃ (a : Addr) (ns : List Int), vs = [.ref a] ∧ SqL K H a (ns.map V.int) ∧ ns.length ≤ 63 ∧
  ∀ H' (t : Tp) (ns' : List Int), Same H H' → H t.a = none → H t.l = none → TapeV b H' t → H' t.l = some (.lst (ns'.map V.int)) → ns'.length ≤ 63 → Q (.ref t.a) H'
def Fz2 (t : Tp) (H H' : Hp) : Prop := ∀ b o, b ≠ t.a → b ≠ t.l → H b = some o → H' b = some o
def nb (b : Bool) : Nat := if b then 1 else 0
def spDrawV (b : Bool) : Sp := fun vs H Q _ => ∃ (t : Tp) (m : Int) (ns : List Int), vs = [.ref t.a, .int m] ∧ TapeV b H t ∧ H t.l = some (.lst (ns.map V.int)) ∧ (b = true → ns.length < 1000000) ∧ Dm m ∧
  ∀ H' (r : Int) (ns' : List Int), Fz2 t H H' → TapeV b H' t → H' t.l = some (.lst (ns'.map V.int)) → ns'.length ≤ ns.length + nb b → 0 ≤ r → (r < m ∨ r < 1) → Q (.int r) H'
def drawM (b : Bool) : VM := fun ds c Q => ∃ m : Int, ds = [.tape, .int m] ∧ nb b ≤ c ∧ Dm m ∧ ∀ r : Nat, ((r : Int) < m ∨ r = 0) → Q (.int r) (c - nb b)
section
variable {P : Program} {w : World} {K : PySem.W.Frag} {mg : PySem.Str → Option Value} {base : Heap} {S : Sg} {f : Addr} {fd : FuncData} {ps : List PySem.Str} {k : Nat}
theorem draw_v {CX : CXT} (F : FnOk P w K mg base CX k f fd ps (spDrawV S.b)) : FnOk P w K mg base CX k f fd ps (spV S (drawM S.b)) := by
  refine F.imp fun vs H Q E h => ?_
  obtain ⟨tp, ds, c, Q0, hv, ht, hf, hp, ⟨m, rfl, hc, hm, hq⟩, kk⟩ := h
  match vs, hv with
  | [_, _], .cons h1 (.cons h2 .nil) =>
    cases h2
    obtain ⟨t, rfl, rfl⟩ := h1.tape_inv
    have tv := ht t rfl
    obtain ⟨ns, p, n, z, a1, a2, a3⟩ := id tv
    have few := hf t _ rfl a2
    rw [List.length_map] at few
    refine ⟨t, m, ns, rfl, tv, a2, fun e => ?_, hm, fun H' r ns' fz tv' l' len r0 r1 => ?_⟩
    · rw [e] at hc
      have : 1 ≤ c := hc
      omega
    · obtain ⟨r, rfl⟩ := Int.eq_ofNat_of_zero_le r0
      refine kk _ _ (hq r (by omega)) _ _ ⟨fun b o nsp hb => fz b o (fun e => nsp (.inl ⟨t, rfl, .inl e⟩)) (fun e => nsp (.inl ⟨t, rfl, .inr e⟩)) hb, fun t' e => by cases e; exact tv', fun t' xs e hx => ?_, fun P hP => ?_⟩ (.int _)
      · cases e
        rw [l'] at hx
        cases hx
        rw [List.length_map]
        omega
      · obtain ⟨q, b1, b2⟩ := hp P hP
        exact ⟨q, fz _ _ (ne_of b1 a1 (fun z => nomatch z)) (ne_of b1 a2 (fun z => nomatch z)) b1, b2⟩
/-! ### the law itself -/
def spLawT (K : PySem.W.Frag) (tabs : List Addr) : Sp := fun vs H Q _ => ∃ (a : Addr) (ns : List Int), vs = [.ref a] ∧ SqL K H a (ns.map V.int) ∧ ns.length ≤ 63 ∧ (∀ P ∈ tabs, GxR.TabG H P) ∧ ∀ H', Q (.bl true) H'
def endL : Ve := { nx := fun _ => False, rt := fun d _ => d = .bl true }
/-- the law's slots behind its first row -/
def lawE (N : List PySem.Str) : En := ⟨.no :: .v .tape :: List.replicate (N.length - 2) .no, 999000⟩
theorem law_rest {X : Cx} {rest : List Stmt} {T : VS} {N : List PySem.Str} {vs : List V} {H : Hp} {Q : VK} {E : XK} {first : Stmt} {i0 : Nat} (hK : S.K = X.K) (hN2 : 2 ≤ N.length)
    (h1 : PS X first (tAsg (tCall (spTapeV X.K S.b) [] E0 (tCons (tVar 0) tNil)) (gName 1))) (h2 : VSs S X rest T) (h : T endL (lawE N)) (sp : spLawT S.K S.tabs vs H Q E) :
    ∃ t, PSs X (first :: rest) t ∧ t { nx := fun _ H' => Q .non H', rt := Q } (L2.start N vs) H := by
  obtain ⟨a, ns, rfl, hS, hl, htb, hq⟩ := sp
  refine ⟨_, pss_cons h1 h2, ?_⟩
  have e0 : (L2.start N [V.ref a])[0]? = some (some (.ref a)) := rfl
  refine ⟨_, e0, a, ns, rfl, by rw [← hK]; exact hS, hl, fun H' t ns' sm n1 n2 tv l' len => ?_⟩
  refine ⟨⟨S.K, S.b, some t, S.tabs, [], H'⟩, lawE N, endL, ⟨rfl, rfl, rfl⟩, ?_, h, fun E1 z => z.elim, fun d E1 e v σ1 H1 q1 r1 rv => ?_, fun _ z => z.elim, fun _ z => z.elim⟩
  · refine ⟨⟨fun _ _ _ _ z => z, Kq.refl _, fun t' e => by cases e; exact tv, fun P hP => ?_⟩, ?_, fun t' xs e hx => ?_, fun i s e => ?_, fun i j s t' c e1 e2 o1 _ _ _ => ?_⟩
    · obtain ⟨q, b1, b2⟩ := htb P hP
      exact ⟨q, sm _ _ b1, b2⟩
    · simp [lawE, L2.start]
      omega
    · cases e
      rw [l'] at hx
      cases hx
      rw [List.length_map]
      show ns'.length + 999000 ≤ 1000000
      omega
    · match i with
      | 0 => cases e; exact ⟨some (.ref a), rfl, trivial⟩
      | 1 =>
        cases e
        refine ⟨some (.ref t.a), ?_, .ref t.a, rfl, .tape rfl⟩
        show ((L2.start N [V.ref a]).set 1 _)[1]? = _
        rw [List.getElem?_set_self]
        simp [L2.start]
        omega
      | i + 2 =>
        have e : (List.replicate (N.length - 2) SV.no)[i]? = some s := e
        rw [List.getElem?_replicate] at e
        split at e
        · rename_i hl2
          cases e
          refine ⟨none, ?_, trivial⟩
          show ((L2.start N [V.ref a]).set 1 _)[i + 2]? = _
          rw [List.getElem?_set_ne (by omega)]
          show (List.replicate (N.length - 1) none)[i + 1]? = some none
          rw [List.getElem?_replicate, if_pos (by omega)]
        · cases e
    · have nown : ∀ (i : Nat) (s : SV), (lawE N).l[i]? = some s → s.own = false := fun i s e => by
        match i with
        | 0 => cases e; rfl
        | 1 => cases e; rfl
        | i + 2 =>
          have e : (List.replicate (N.length - 2) SV.no)[i]? = some s := e
          rw [List.getElem?_replicate] at e
          split at e
          · cases e; rfl
          · cases e
      rw [nown i s e1] at o1
      cases o1
  · have e : d = .bl true := e
    subst e
    cases rv
    exact hq _
end
end Va

set_option Elab.async false
set_option linter.all false
set_option maxRecDepth 100000
set_option maxHeartbeats 4000000
namespace Va
open PySem PySem.Spec PyProof.Rows L2 Ind
section
variable {X : Cx} {S : Sg} {e a b o : Expr} {pos p : Pos}
theorem vss_never {sts : List Stmt} : VSs S X sts sNever := by
  refine pss_weak pss_never ?_
  rintro D σ H ⟨Γ, E, V, ok, r, h, k⟩
  exact h
def vNeg (t : VT) : VT := fun E Q => t E fun d E1 => match d with
  | .int i => Q (.int (-i)) E1
  | _ => False
theorem ve_neg {t : VT} (h : VE S X a t) : VE S X (.UnaryOp .USub a pos) (vNeg t) := by
  refine pe_weak (pe_un un_neg h) ?_
  rintro σ H Q ⟨Γ, E, Q0, ok, rp, ht, k⟩
  refine ⟨Γ, E, _, ok, rp, ht, fun d E1 hq v H1 kq1 rp1 hv => ?_⟩
  cases d with
  | int i => cases hv; exact ⟨i, rfl, k _ _ hq _ _ kq1 rp1 (.int _)⟩
  | _ => exact hq.elim
/-- s.split() -/
def vWords (t : VT) : FT := fun E Q => t E fun d E1 => match d with
  | .str x => x.length ≤ 900000 ∧ Q (.fl ((Txt.words x).map .str)) E1
  | _ => False
theorem strs_rp {Γ : Gm} {H : Hp} : ∀ xs : List Tx, Γ.RpL H (xs.map V.str) (xs.map D.str)
  | [] => .nil
  | x :: xs => .cons (.str x) (strs_rp xs)
theorem fe_words {t : VT} {apos : Pos} (h : VE S X o t) (hbase : attributeBase o "split" X.env (eval o X.env) = eval o X.env := by rfl) (hline : (apos.endLine == pos.line) = true := by rfl) : FE S X (.Call (.Attribute o "split" apos) [] [] pos) (vWords t) := by
  refine pe_weak (pe_words h hbase hline) ?_
  rintro σ H Q ⟨Γ, E, Q0, ok, rp, ht, k⟩
  refine ⟨Γ, E, _, ok, rp, ht, fun d E1 hq v H1 kq1 rp1 hv => ?_⟩
  cases d with
  | str x =>
    cases hv
    refine ⟨⟨x, rfl⟩, x, rfl, rfl, million (by omega), fun q nq => ?_⟩
    have sm := same_upd (o := .lst ((Txt.words x).map V.str)) nq
    exact k _ _ hq.2 _ _ (kq1.trans (.same sm)) (rp1.same sm) (RpN.rep (x := .fl _) rp1 sm ⟨q, _, rfl, nq, upd_same, strs_rp _⟩)
  | _ => exact hq.elim
theorem hu65 {A : Around} {k : Nat} (r : Room k A) : A.units + 65 < cLine := by have := r.un; omega
/-! ### answers -/
theorem pick_at {α : Type} {l : List α} {i : Nat} (h : i < l.length) : ∃ x, atI l (i : Int) = some x ∧ l[i]? = some x := ⟨l[i], atI_nat (List.getElem?_eq_getElem h), List.getElem?_eq_getElem h⟩
end
end Va

set_option Elab.async false
set_option linter.all false
set_option maxRecDepth 100000
set_option maxHeartbeats 4000000
namespace Va
open PySem PySem.Spec PyProof.Rows L2 Ind
theorem flat_strsD : ∀ xs : List Tx, (xs.map D.str).all D.flat = true
  | [] => rfl
  | _ :: xs => by show (true && (xs.map D.str).all D.flat) = true; rw [flat_strsD xs]; rfl
theorem in_strsD (x : Tx) : ∀ xs : List Tx, ((xs.map D.str).any fun y => D.eqf y (.str x)) = decide (x ∈ xs)
  | [] => rfl
  | y :: xs => by
    show (D.eqf (.str y) (.str x) || (xs.map D.str).any fun y => D.eqf y (.str x)) = _
    rw [in_strsD x xs]
    show ((y == x) || decide (x ∈ xs)) = _
    by_cases h : y = x
    · subst h
      simp
    · have h1 : (y == x) = false := beq_eq_false_iff_ne.mpr h
      rw [h1, Bool.false_or]
      exact decide_eq_decide.mpr ⟨fun m => List.mem_cons_of_mem _ m, fun m => (List.mem_cons.mp m).elim (fun e => absurd e.symm h) id⟩
/-- a choice, one way after the other -/
theorem both {p : Bool} {A B : Prop} (h1 : p = true → A) (h2 : p = false → B) : (p = true → A) ∧ (p = false → B) := ⟨h1, h2⟩
theorem dT {p : Prop} [Decidable p] (h : decide p = true) : p := of_decide_eq_true h
theorem dF {p : Prop} [Decidable p] (h : decide p = false) : ¬ p := of_decide_eq_false h
theorem nT {b : Bool} (h : (!b) = true) : b = false := by cases b <;> simp_all
theorem nF {b : Bool} (h : (!b) = false) : b = true := by cases b <;> simp_all
/-- names, each once, in order -/
def once : List Tx → List Tx → List Tx
  | acc, [] => acc
  | acc, x :: r => if x ∈ acc then once acc r else once (acc ++ [x]) r
theorem once_app : ∀ (l acc : List Tx) (x : Tx), once acc (l ++ [x]) = if x ∈ once acc l then once acc l else once acc l ++ [x]
  | [], acc, x => by
    show once acc [x] = _
    unfold once
    rfl
  | y :: r, acc, x => by
    rw [List.cons_append]
    show (if y ∈ acc then once acc (r ++ [x]) else once (acc ++ [y]) (r ++ [x])) = _
    show _ = if x ∈ (if y ∈ acc then once acc r else once (acc ++ [y]) r) then (if y ∈ acc then once acc r else once (acc ++ [y]) r) else (if y ∈ acc then once acc r else once (acc ++ [y]) r) ++ [x]
    split
    · exact once_app r acc x
    · exact once_app r (acc ++ [y]) x
theorem once_more {ns : List Tx} {i : Nat} {x : Tx} (e : ns[i]? = some x) : once [] (ns.take (i + 1)) = if x ∈ once [] (ns.take i) then once [] (ns.take i) else once [] (ns.take i) ++ [x] := by
  rw [take_more e, once_app]
end Va
namespace Va
open PySem PySem.Spec PyProof.Rows L2 Ind
theorem pickD {l : List D} {i : Nat} (h : i < l.length) : ∃ x, atI l (i : Int) = some x ∧ x ∈ l := ⟨l[i], atI_nat (List.getElem?_eq_getElem h), List.getElem_mem h⟩
theorem pickI {α : Type} {l : List α} {i : Int} (h0 : 0 ≤ i) (h : i < (l.length : Int)) : ∃ x, atI l i = some x ∧ x ∈ l := by
  obtain ⟨n, rfl⟩ := Int.eq_ofNat_of_zero_le h0
  exact ⟨l[n]'(by omega), atI_nat (List.getElem?_eq_getElem (by omega)), List.getElem_mem _⟩
/-- a sign of a text -/
theorem sign_at {x : Tx} {i : Int} (h0 : 0 ≤ i) (h : i < (x.length : Int)) : ∃ c, atI x.cps.toList i = some c := by
  obtain ⟨c, e, _⟩ := pickI (l := x.cps.toList) h0 (by rw [← codes_len]; exact h)
  exact ⟨c, e⟩
theorem cutS_le (z : Tx) (lo hi : Option Int) : (cutS z lo hi).length ≤ z.length := by
  rw [codes_len, codes_len]
  unfold cutS
  show (List.take _ _).toArray.toList.length ≤ _
  rw [List.length_take, List.length_drop]
  omega
theorem one_len (c : Nat) : (⟨#[c]⟩ : Tx).length = 1 := rfl
theorem str_mem {P : Tx → Prop} {x : D} {l : List D} (m : x ∈ l) (h : ∀ y ∈ l, ∃ s, y = .str s ∧ P s) : ∃ s, x = .str s ∧ P s := h x m
theorem int_mem {P : Int → Prop} {x : D} {l : List D} (m : x ∈ l) (h : ∀ y ∈ l, ∃ s, y = .int s ∧ P s) : ∃ s, x = .int s ∧ P s := h x m
end Va
namespace Va
open PySem PySem.Spec PyProof.Rows L2 Ind
section
variable {p A B : Prop} [Decidable p]
theorem skipT (h : ¬ p) (b : B) : (decide p = true → A) ∧ (decide p = false → B) := ⟨fun e => absurd (of_decide_eq_true e) h, fun _ => b⟩
theorem skipF (h : p) (a : A) : (decide p = true → A) ∧ (decide p = false → B) := ⟨fun _ => a, fun e => absurd h (of_decide_eq_false e)⟩
theorem bothD (h1 : p → A) (h2 : ¬ p → B) : (decide p = true → A) ∧ (decide p = false → B) := ⟨fun e => h1 (of_decide_eq_true e), fun e => h2 (of_decide_eq_false e)⟩
theorem bothN (h1 : ¬ p → A) (h2 : p → B) : ((!decide p) = true → A) ∧ ((!decide p) = false → B) := ⟨fun e => h1 (of_decide_eq_false (nT e)), fun e => h2 (of_decide_eq_true (nF e))⟩
theorem wayT {A B : Prop} (a : A) : (true = true → A) ∧ (true = false → B) := ⟨fun _ => a, fun z => (by cases z)⟩
theorem wayF {A B : Prop} (b : B) : (false = true → A) ∧ (false = false → B) := ⟨fun z => (by cases z), fun _ => b⟩
end
end Va

set_option Elab.async false
set_option linter.all false
set_option maxRecDepth 100000
set_option maxHeartbeats 4000000
namespace Va
open PySem PySem.Spec PyProof.Rows L2 Ind
/-! ### facts -/
inductive Fc where
  | com (n : Tx)
  | one (ns : List Tx)
  | neg (f : Fc)
  | all (fs : List Fc)
  | any (fs : List Fc)
  | imp (a b : Fc)
  | tt
  | ff
mutual
def Fc.d : Fc → D
  | .com n => .tup [.str "commits", .str n]
  | .one ns => .tup [.str "one of", .tup (ns.map .str)]
  | .neg f => .tup [.str "not", f.d]
  | .all fs => .tup [.str "and", .tup (Fc.dL fs)]
  | .any fs => .tup [.str "or", .tup (Fc.dL fs)]
  | .imp a b => .tup [.str "implies", a.d, b.d]
  | .tt => .tup [.str "true"]
  | .ff => .tup [.str "false"]
def Fc.dL : List Fc → List D
  | [] => []
  | f :: fs => f.d :: Fc.dL fs
end
theorem Fc.dL_map : ∀ fs : List Fc, Fc.dL fs = fs.map Fc.d
  | [] => rfl
  | f :: fs => by show f.d :: Fc.dL fs = f.d :: fs.map Fc.d; rw [Fc.dL_map fs]
mutual
def Fc.dep : Fc → Nat
  | .com _ => 0
  | .one _ => 0
  | .neg f => f.dep + 1
  | .all fs => Fc.depL fs + 1
  | .any fs => Fc.depL fs + 1
  | .imp a b => max a.dep b.dep + 1
  | .tt => 0
  | .ff => 0
def Fc.depL : List Fc → Nat
  | [] => 0
  | f :: fs => max f.dep (Fc.depL fs)
end
theorem Fc.depL_le {n : Nat} : ∀ {fs : List Fc}, (∀ f ∈ fs, f.dep ≤ n) → Fc.depL fs ≤ n
  | [], _ => Nat.zero_le _
  | f :: fs, h => Nat.max_le.mpr ⟨h f (List.mem_cons_self ..), Fc.depL_le fun g hg => h g (List.mem_cons_of_mem _ hg)⟩
theorem Fc.dep_mem : ∀ {fs : List Fc} {f : Fc}, f ∈ fs → f.dep ≤ Fc.depL fs
  | g :: fs, f, h => by
    show f.dep ≤ max g.dep (Fc.depL fs)
    rcases List.mem_cons.mp h with rfl | h
    · exact Nat.le_max_left _ _
    · exact Nat.le_trans (Fc.dep_mem h) (Nat.le_max_right _ _)
mutual
/-- the names in a fact, in order, as often as they stand there -/
def Fc.names : Fc → List Tx
  | .com n => [n]
  | .one ns => ns
  | .neg f => f.names
  | .all fs => Fc.namesL fs
  | .any fs => Fc.namesL fs
  | .imp a b => a.names ++ b.names
  | .tt => []
  | .ff => []
def Fc.namesL : List Fc → List Tx
  | [] => []
  | f :: fs => f.names ++ Fc.namesL fs
end
theorem Fc.namesL_app : ∀ (fs gs : List Fc), Fc.namesL (fs ++ gs) = Fc.namesL fs ++ Fc.namesL gs
  | [], _ => rfl
  | f :: fs, gs => by
    show f.names ++ Fc.namesL (fs ++ gs) = (f.names ++ Fc.namesL fs) ++ Fc.namesL gs
    rw [Fc.namesL_app fs gs, List.append_assoc]
theorem Fc.namesL_more {fs : List Fc} {i : Nat} {f : Fc} (e : fs[i]? = some f) : Fc.namesL (fs.take (i + 1)) = Fc.namesL (fs.take i) ++ f.names := by
  rw [take_more e, Fc.namesL_app]
  show _ ++ (f.names ++ []) = _
  rw [List.append_nil]
theorem Fc.namesL_len {b : Nat} : ∀ {fs : List Fc}, (∀ f ∈ fs, f.names.length ≤ b) → (Fc.namesL fs).length ≤ fs.length * b
  | [], _ => by simp [Fc.namesL]
  | f :: fs, h => by
    have h1 := h f (List.mem_cons_self ..)
    have h2 := Fc.namesL_len (b := b) (fs := fs) fun g hg => h g (List.mem_cons_of_mem _ hg)
    show (f.names ++ Fc.namesL fs).length ≤ (fs.length + 1) * b
    rw [List.length_append, Nat.add_mul, Nat.one_mul]
    omega
theorem Fc.namesL_mem {P : Tx → Prop} : ∀ {fs : List Fc}, (∀ f ∈ fs, ∀ x ∈ f.names, P x) → ∀ x ∈ Fc.namesL fs, P x
  | [], _, x, hx => by cases hx
  | f :: fs, h, x, hx => by
    have hx : x ∈ f.names ++ Fc.namesL fs := hx
    rcases List.mem_append.mp hx with z | z
    · exact h f (List.mem_cons_self ..) x z
    · exact Fc.namesL_mem (fun g hg => h g (List.mem_cons_of_mem _ hg)) x z
theorem Fc.namesL_sub {fs : List Fc} {f : Fc} : f ∈ fs → f.names.length ≤ (Fc.namesL fs).length := by
  intro h
  induction fs with
  | nil => cases h
  | cons g fs ih =>
    show _ ≤ (g.names ++ Fc.namesL fs).length
    rw [List.length_append]
    rcases List.mem_cons.mp h with rfl | h
    · omega
    · have := ih h; omega
/-- no promise, no burden -/
theorem fn_vac {P : Program} {w : World} {K : PySem.W.Frag} {mg : PySem.Str → Option Value} {base : Heap} {CX : CXT} {k : Nat} {f : Addr} {fd : FuncData} {ps : List PySem.Str} {S : Sg} {m : VM} (h : ∀ ds c Q, ¬ m ds c Q) : FnOk P w K mg base CX k f fd ps (spV S m) :=
  ⟨fun vs H Q E ⟨_, ds, c, Q0, _, _, _, _, hm, _⟩ => absurd hm (h ds c Q0), fun _ _ _ _ _ _ _ _ _ _ _ _ _ ⟨_, ds, c, Q0, _, _, _, _, hm, _⟩ => absurd hm (h ds c Q0)⟩
theorem fn_weak {P : Program} {w : World} {K : PySem.W.Frag} {mg : PySem.Str → Option Value} {base : Heap} {CX : CXT} {k : Nat} {f : Addr} {fd : FuncData} {ps : List PySem.Str} {S : Sg} {m m' : VM} (F : FnOk P w K mg base CX k f fd ps (spV S m)) (h : ∀ ds c Q, m' ds c Q → m ds c Q) : FnOk P w K mg base CX k f fd ps (spV S m') :=
  F.imp fun vs H Q E ⟨tp, ds, c, Q0, h1, h2, h3, h4, hm, hk⟩ => ⟨tp, ds, c, Q0, h1, h2, h3, h4, h _ _ _ hm, hk⟩
end Va
namespace Va
open PySem PySem.Spec PyProof.Rows L2 Ind
theorem fn_vacD {P : Program} {w : World} {K : PySem.W.Frag} {mg : PySem.Str → Option Value} {base : Heap} {CX : CXT} {k : Nat} {f : Addr} {fd : FuncData} {ps : List PySem.Str} {S : Sg} {m : VMd} (h : ∀ d kvs Q, ¬ m d kvs Q) : FnOk P w K mg base CX k f fd ps (spD S m) :=
  ⟨fun vs H Q E ⟨_, _, _, _, d, _, ds, Q0, _, _, _, _, _, _, _, _, hm, _⟩ => absurd hm (h d ds Q0), fun _ _ _ _ _ _ _ _ _ _ _ _ _ ⟨_, _, _, _, d, _, ds, Q0, _, _, _, _, _, _, _, _, hm, _⟩ => absurd hm (h d ds Q0)⟩
end Va

set_option Elab.async false
set_option linter.all false
set_option maxRecDepth 100000
set_option maxHeartbeats 4000000
namespace Va
open PySem PySem.Spec PyProof.Rows L2 Ind RT
section
variable {prog : Program} {w : World} {A : Around} {E : Value → Shared → Prop} {s : Shared} {I l : Addr} {xs : Array Value}
/-- what is left of a walk backwards, put behind a list that is empty -/
theorem ext_back {R : Result → Shared → Prop} (hh : A.handled = none) (hI : s.heap.IsRevIter I l ((xs.size : Int) - 1)) (hl : s.heap.IsList l xs) (nI : l ≠ I) (big : xs.size ≤ sizeLine) (Z : Addr) (n1 : Z ≠ I) (n2 : Z ≠ l) (res : Value) (c0 : Nat)
    (hZ : s.heap.get? Z = some { cls := .type "list", data := .seq #[] c0 })
    (fin : ∀ h' tk acc c', (∀ b o, b ≠ Z → b ≠ I → s.heap.get? b = some o → h'.get? b = some o) → h'.get? Z = some { cls := .type "list", dict := none, data := .seq acc c', slots := #[] } →
      ItemsOf (fun i v => xs[xs.size - 1 - i]? = some v) acc xs.size → R (.ok (.ret res)) { s with heap := h', toks := tk }) :
    wpAny (model prog w) A.in1 (Builtin.List.listExtendWith (.ref Z) (.ref I) res)
      (fun f s' => match f with | .done g => R (.ok g) s' | .again c => c.quiet = true ∧ codeAny (model prog w) A c R s') (fun e s' => R (.error e) s') s := by
  have wk := (Walks.listRev (prog := prog) (w := w) (A := A.in1) hh I l nI xs).toS
  have nin : Z ∉ [I, l] := by
    intro m
    rcases List.mem_cons.mp m with e | m
    · exact n1 e
    · exact n2 (List.mem_singleton.mp m)
  have ty : s.TypeIs (.ref I) "list_reverseiterator" := hI.typeIs
  have dif : Builtin.List.listSameRef (.ref Z) (.ref I) = false := by simp [Builtin.List.listSameRef, n1]
  unfold Builtin.List.listExtendWith
  refine wpAny_bind (wpAny_typeOf ty ?_)
  rw [if_neg (by rw [dif]; decide)]
  refine wpAny_bind (wpAny_pyIter_revIter (s := s) hI ?_)
  refine wpAny_bind (wpAny_holding ?_)
  unfold Builtin.List.listLengthHint
  refine wpAny_bind (wpAny_specialOf ty nolen_lri ?_)
  show wpAny _ A.in1 (specialOf (Value.ref I) (Str.ofString "__length_hint__") >>= _) _ _ _
  refine wpAny_bind (wpAny_specialOf ty hint_lri ?_)
  generalize hid : ("list_reverseiterator.__length_hint__" : String) = nm
  wp_delta
  rw [show splitId nm = some ("list_reverseiterator", "__length_hint__") from by subst hid; decide +kernel]
  subst hid
  refine wpAny_bind (wpAny_isInstance (b := true) ty (by rw [isSubtype_type]; kernel_rfl) ?_)
  refine wpAny_pure ?_
  rw [if_neg (by decide)]
  have z0 : (xs.size : Int) - 1 - ((0 : Nat) : Int) = (xs.size : Int) - 1 := by omega
  refine wpAny_pure ⟨plainId_quiet F.plain_extend_loop _, codeAny_extend_loopS wk big _ nin _ xs.size 0 _ _ _ rfl (Nat.zero_le _) ⟨Nat.zero_le _, by rw [z0]; exact hI, hl⟩ hZ (ItemsOf.nil _) fun s' acc c' mv z' it => ?_⟩
  rw [Moved.eq_with mv]
  refine fin s'.heap s'.toks acc c' (fun b o k1 k2 e => mv.heap b o (fun m => ?_) e) z' it
  rcases List.mem_cons.mp m with q | m
  · exact k1 q
  · exact k2 (List.mem_singleton.mp m)
theorem init_back {R : Result → Shared → Prop} (hh : A.handled = none) (hI : s.heap.IsRevIter I l ((xs.size : Int) - 1)) (hl : s.heap.IsList l xs) (nI : l ≠ I) (big : xs.size ≤ sizeLine) (Z : Addr) (n1 : Z ≠ I) (n2 : Z ≠ l)
    (hZ : s.heap.get? Z = some { cls := .type "list", data := .seq #[] })
    (fin : ∀ h' tk acc c', (∀ b o, b ≠ Z → b ≠ I → s.heap.get? b = some o → h'.get? b = some o) → h'.get? Z = some { cls := .type "list", dict := none, data := .seq acc c', slots := #[] } →
      ItemsOf (fun i v => xs[xs.size - 1 - i]? = some v) acc xs.size → R (.ok (.ret .none)) { s with heap := h', toks := tk }) :
    wpAny (model prog w) A.in1 (Builtin.«list.__init__» ⟨[.ref Z, .ref I], []⟩)
      (fun f s' => match f with | .done g => R (.ok g) s' | .again c => c.quiet = true ∧ codeAny (model prog w) A c R s') (fun e s' => R (.error e) s') s := by
  show wpAny _ _ (do
    let was ← Builtin.List.listItems (.ref Z)
    Builtin.List.listUpdate (.ref Z) (fun _ => #[])
    letGo was.toList.reverse
    Builtin.List.listExtendWith (.ref Z) (.ref I) .none) _ _ s
  refine wpAny_bind ?_
  unfold Builtin.List.listItems
  refine wpAny_bind (wpAny_seqItems hZ rfl (wpAny_pure ?_))
  show wpAny _ _ (updateSeq Z (fun _ => #[]) >>= fun _ =>
    letGo (#[] : Array Value).toList.reverse >>= fun _ => Builtin.List.listExtendWith (.ref Z) (.ref I) .none) _ _ s
  refine wpAny_bind (wpAny_updateSeq hZ rfl ?_)
  have z2 := Heap.get?_update_self (Obj.mapSeq (fun _ => (#[] : Array Value))) hZ rfl
  have other : ∀ b o, b ≠ Z → s.heap.get? b = some o → (s.heap.update Z (Obj.mapSeq (fun _ => (#[] : Array Value)))).get? b = some o := fun b o k e =>
    (Heap.get?_update_other _ _ (Ne.symm k)).trans e
  refine wpAny_bind (wpAny_letGo ?_)
  obtain ⟨oi, hoi, di, ci⟩ := id hI
  obtain ⟨ol, hol, dl, cl⟩ := id hl
  refine ext_back hh ⟨oi, other I oi (Ne.symm n1) hoi, di, ci⟩ ⟨ol, other l ol (Ne.symm n2) hol, dl, cl⟩ nI big Z n1 n2 .none _ z2 fun h' tk acc c' kp z' it => ?_
  exact fin h' tk acc c' (fun b o k1 k2 e => kp b o k1 k2 (other b o k1 e)) z' it
/-- list(reversed(a list)) -/
theorem call_listBack {Q : Value → Shared → Prop} (hh : A.handled = none) (hI : s.heap.IsRevIter I l ((xs.size : Int) - 1)) (hl : s.heap.IsList l xs) (nI : l ≠ I) (big : xs.size ≤ sizeLine)
    (fin : ∀ h' tk acc c', (∀ b o, b ≠ I → s.heap.get? b = some o → h'.get? b = some o) → h'.get? s.heap.objs.size = some { cls := .type "list", dict := none, data := .seq acc c', slots := #[] } →
      ItemsOf (fun i v => xs[xs.size - 1 - i]? = some v) acc xs.size → Q (.ref s.heap.objs.size) { s with heap := h', toks := tk }) :
    wpAny (model prog w) A (call (.type "list") [.ref I]) Q E s := by
  refine callType_codes (Q₁ := fun z s1 => z = .ref s.heap.objs.size ∧ s1 = { s with heap := s.heap.push { cls := .type "list", data := .seq #[] } }) PySem.F.called_list (PySem.F.typeCall_list_1 _)
    PySem.F.entry_list_init (code_list_new _ ⟨rfl, rfl⟩) fun z s1 h1 => ?_
  obtain ⟨rfl, rfl⟩ := h1
  have hZ : (s.heap.push { cls := .type "list", data := .seq #[] }).get? s.heap.objs.size = some { cls := .type "list", data := .seq #[] } :=
    Heap.get?_push_size _ rfl
  obtain ⟨oi, hoi, di, ci⟩ := id hI
  obtain ⟨ol, hol, dl, cl⟩ := id hl
  have mono : ∀ b o, s.heap.get? b = some o → (s.heap.push { cls := .type "list", data := .seq #[] }).get? b = some o :=
    fun b o e => Heap.get?_push_of_some _ e
  refine ⟨⟨_, hZ, rfl⟩, PySem.F.args_list_init_2 _ _, init_back (A := A.in1) hh ⟨oi, mono _ _ hoi, di, ci⟩ ⟨ol, mono _ _ hol, dl, cl⟩ nI big _ (Nat.ne_of_gt (Heap.lt_size hoi)) (Nat.ne_of_gt (Heap.lt_size hol)) hZ fun h' tk acc c' kp z' it => ?_⟩
  exact ⟨rfl, fin h' tk acc c' (fun b o k e => kp b o (Nat.ne_of_lt (Heap.lt_size e)) k (mono b o e)) z' it⟩
end
section
variable {X : Cx} {pins : List (Addr × Obj)} {σ : L2.St} {H : Hp} {s : Shared} {h' : Heap}
/-- a record of ours has turned, and a new object stands behind all others -/
theorem inv_laidT {tk : Nat} {it a : Addr} {o : HO} (I : Inv X pins σ H s) (k : ∀ b u, b ≠ it → s.heap.get? b = some u → h'.get? b = some u) (n0 : H it = none) (nL : it ≠ X.env.locals) (m1 : it ∈ X.ex ∨ X.s_0.heap.objs.size ≤ it)
    (m2 : ∀ x c, X.env.cells.lookup x = some c → c ≠ it) (m3 : ∀ p ∈ X.pn ++ pins, p.1 ≠ it) (hp : s.heap.objs.size ≤ a) (new : ObjOk X.prog X.w (upd H a o) h' a o) :
    Inv X pins σ (upd H a o) { s with heap := h', toks := tk } := by
  have fr : H a = none := I.hok.fresh hp
  have na : ∀ b u, H b = some u → b ≠ a := fun b u e z => by rw [z, fr] at e; cases e
  have up : ∀ b u, H b = some u → upd H a o b = some u := fun b u e => by rw [upd_ne (na b u e)]; exact e
  have lt : ∀ b u, s.heap.get? b = some u → b ≠ a := fun b u e z => absurd (Heap.lt_size e) (Nat.not_lt.mpr (by rw [z]; exact hp))
  refine I.step (g' := s.gens) (d' := s.drawn) (ch := [it]) (fun b hb => ?_) (fun b u _ _ c e _ => k b u (fun z => c (by simp [z])) e) (fun b u _ _ c e _ => ⟨u.slots, k b u (fun z => c (by simp [z])) e⟩)
    (fun b u _ e n => by rw [upd_ne (lt b u e)]; exact n) (fun b u c e => ⟨u, k b u (fun z => c (by simp [z])) e⟩) (fun b xs e => up b _ e) (fun b u v e => up b _ e) (fun b ps e => ⟨#[], by rw [up b _ e]; simp⟩) (fun m hm => ?_) (fun b u e => ?_) I.bare
  · cases List.mem_singleton.mp hb
    exact ⟨m1, nL, m2, m3⟩
  · obtain ⟨u, es, ep, ho, r⟩ := hm
    exact ⟨u, es, ep, k _ u (Ne.symm nL) ho, r⟩
  · by_cases z : b = a
    · subst z
      rw [upd_same] at e
      cases e
      exact new
    · rw [upd_ne z] at e
      refine (I.hok b u e).stay (fun c v hc q => k c v ?_ q) (fun _ q => up _ _ q) fun _ _ q => up _ _ q
      rcases hc with y | y
      · rw [y]
        intro y2
        rw [y2, n0] at e
        cases e
      · intro y2
        rw [y2, n0] at y
        cases y
end
section
variable {X : Cx} {e : Expr} {te : TE} {p p2 pos pos2 : Pos}
def tListRev (K : PySem.W.Frag) (te : TE) : TE := fun σ H Q => te σ H fun v H1 => ∃ (a : Addr) (xs : List V), v = .ref a ∧ SqL K H1 a xs ∧ ∀ q, H1 q = none → Q (.ref q) (upd H1 q (.lst xs.reverse))
theorem pe_listRev (hc : X.calm = true) (hg : Gl X "list") (hm : X.mg "list" = none) (hg2 : Gl X "reversed") (hm2 : X.mg "reversed" = none) (he : PE X e te)
    (s1 : starEach [e] X.env = (false, eval e X.env) :: starEach [] X.env := by rfl)
    (s2 : starEach [.Call (.Name "reversed" p2) [e] [] pos2] X.env = (false, eval (.Call (.Name "reversed" p2) [e] [] pos2) X.env) :: starEach [] X.env := by rfl) :
    PE X (.Call (.Name "list" p) [.Call (.Name "reversed" p2) [e] [] pos2] [] pos) (tListRev X.K te) := by
  refine ⟨fun pins s σ H Q I h => ?_⟩
  refine Call_ (ld_blt I hg hm boot_list (PyProof.Rows.callWith_type1 (args_cons (Call_ (ld_blt I hg2 hm2 PyProof.Rows.boot_reversed (PyProof.Rows.callWith_type1
    (args_cons (thn (he.run pins s σ H _ I h) fun u t ⟨v, H1, I1, r1, q1⟩ => args_nil ?_) s1) s1 rfl))) s2) s2 rfl))
  obtain ⟨a, ys, ev, sq, q⟩ := q1
  subst ev
  cases (show u = Value.ref a from r1)
  obtain ⟨its, rv, pl, z⟩ := I1.list sq
  refine call_reversed_list pl.isList (args_nil ?_)
  have keep0 : ∀ b o, t.heap.get? b = some o → (t.heap.push (revObj a ((its.toArray.size : Int) - 1))).get? b = some o := fun _ _ e => Heap.get?_push_of_some _ e
  have I2 : Inv X pins σ H1 { t with heap := t.heap.push (revObj a ((its.toArray.size : Int) - 1)) } := I1.kept (t' := t.toks) keep0
  obtain ⟨g0, g1, g2, g3, g4, g5⟩ := I1.fpOk (H' := H1) (b := t.heap.objs.size) (Nat.le_refl _) (I1.hok.fresh (Nat.le_refl _))
  have isl := pl.isList
  obtain ⟨ol, hol, _⟩ := id isl
  have ne : a ≠ t.heap.objs.size := Nat.ne_of_lt (Heap.lt_size hol)
  have big : its.toArray.size ≤ sizeLine := by rw [List.size_toArray, ← rv.length]; exact z
  refine call_listBack (s := { t with heap := t.heap.push (revObj a ((its.toArray.size : Int) - 1)) }) (I1.ok.hd hc) ⟨_, Heap.get?_push_size _ rfl, rfl, rfl⟩ (isl.push _) ne big fun h' tk acc c' kp z' it => ?_
  have nb2 : t.heap.objs.size ≤ (t.heap.push (revObj a ((its.toArray.size : Int) - 1))).objs.size := by simp [Heap.push]
  refine ⟨.ref _, upd H1 _ (.lst ys.reverse), inv_laidT (tk := tk) I2 kp g0 g1 g3 g4 g5 (Nat.le_refl _) (show ObjOk X.prog X.w _ h' _ (.lst ys.reverse) from ⟨by rw [List.length_reverse]; exact z, acc.toList, c', vals_rev rv it, ?_⟩), rfl, q _ (I2.hok.fresh (Nat.le_refl _))⟩
  rw [Array.toArray_toList]
  exact z'
end
section
variable {X : Cx} {S : Sg} {e tg : Expr} {t : VT} {p p2 pos pos2 : Pos}
theorem it_rev {Γ : Gm} {H : Hp} {a : Addr} {xs : List V} {ds : List D} (h : FzL Γ.K H a xs) (r : Γ.RpL H xs ds) : ItOk Γ (Itv Γ.K a xs.length) ds.reverse H := by
  have el : xs.length = ds.length := r.len
  have at_ : ∀ i, i < ds.length → ∃ v d, xs[xs.length - 1 - i]? = some v ∧ ds.reverse[i]? = some d ∧ Γ.Rp H v d := fun i hi => by
    have hj : ds.length - 1 - i < ds.length := by omega
    obtain ⟨v, e, rv⟩ := r.get (List.getElem?_eq_getElem hj)
    exact ⟨v, _, by rw [el]; exact e, by rw [List.getElem?_reverse hi]; exact List.getElem?_eq_getElem hj, rv⟩
  refine ⟨fun i H1 hi q => ?_, fun i H1 x H2 hi q y => ?_, fun H1 q => ?_⟩
  · rw [List.length_reverse] at hi
    obtain ⟨v, d, e1, _, _⟩ := at_ i hi
    exact ⟨by rw [el]; exact hi, xs, v, (q.fzL h).sq, e1⟩
  · rw [List.length_reverse] at hi
    obtain ⟨rfl, y⟩ := y
    obtain ⟨v, d, e1, e2, rv⟩ := at_ i hi
    have := y xs (q.fzL h).sq
    rw [e1] at this
    cases this
    exact ⟨d, e2, Rp.kq q _ _ rv, fun _ _ z => z⟩
  · rw [List.length_reverse]
    show xs.length ≤ ds.length
    omega
theorem it_revT {Γ : Gm} {H : Hp} {a : Addr} {xs : List V} {ds : List D} (h : SqT Γ.K H a xs) (r : Γ.RpL H xs ds) : ItOk Γ (RT.ItvT Γ.K a xs.length) ds.reverse H := by
  have el : xs.length = ds.length := r.len
  have at_ : ∀ i, i < ds.length → ∃ v d, xs[xs.length - 1 - i]? = some v ∧ ds.reverse[i]? = some d ∧ Γ.Rp H v d := fun i hi => by
    have hj : ds.length - 1 - i < ds.length := by omega
    obtain ⟨v, e, rv⟩ := r.get (List.getElem?_eq_getElem hj)
    exact ⟨v, _, by rw [el]; exact e, by rw [List.getElem?_reverse hi]; exact List.getElem?_eq_getElem hj, rv⟩
  refine ⟨fun i H1 hi q => ?_, fun i H1 x H2 hi q y => ?_, fun H1 q => ?_⟩
  · rw [List.length_reverse] at hi
    obtain ⟨v, d, e1, _, _⟩ := at_ i hi
    exact ⟨by rw [el]; exact hi, xs, v, q.sqT h, e1⟩
  · rw [List.length_reverse] at hi
    obtain ⟨rfl, y⟩ := y
    obtain ⟨v, d, e1, e2, rv⟩ := at_ i hi
    have := y xs (q.sqT h)
    rw [e1] at this
    cases this
    exact ⟨d, e2, Rp.kq q _ _ rv, fun _ _ z => z⟩
  · rw [List.length_reverse]
    show xs.length ≤ ds.length
    omega
def revD (d : D) (Q : List D → Prop) : Prop := match d with
  | .lst ds => Q ds.reverse
  | .tup ds => Q ds.reverse
  | _ => False
def vRev (t : VT) : VI := fun E Q => t E fun d E1 => revD d fun ds => Q ds E1
theorem vi_rev (hK : S.K = X.K) (hg : Gl X "reversed") (hm : X.mg "reversed" = none) (he : VE S X e t) (hs : starEach [e] X.env = (false, eval e X.env) :: starEach [] X.env := by rfl) : VIt S X tg (.Call (.Name "reversed" p) [e] [] pos) (vRev t) := by
  refine pi_weak (RT.pi_revA hg hm he hs) ?_
  rintro σ H Q ⟨Γ, E, Q0, ok, rp, ht, k⟩
  refine ⟨Γ, E, _, ok, rp, ht, fun d E1 hq x H1 kq1 rp1 hx => ?_⟩
  have eK : X.K = Γ.K := (ok.k.trans hK).symm
  cases d with
  | lst ds =>
    obtain ⟨q, xs, rfl, h1, h2⟩ := hx.lst_inv
    exact ⟨q, xs, rfl, .inl ⟨by rw [eK]; exact h1.sq, k _ _ hq _ _ kq1 rp1 (by rw [eK]; exact it_rev h1 h2)⟩⟩
  | tup ds =>
    obtain ⟨q, xs, rfl, h1, h2⟩ := hx.tup_inv
    exact ⟨q, xs, rfl, .inr ⟨by rw [eK]; exact h1, k _ _ hq _ _ kq1 rp1 (by rw [eK]; exact it_revT h1 h2)⟩⟩
  | _ => exact hq.elim
def lstD (d : D) (Q : List D → Prop) : Prop := match d with
  | .lst ds => Q ds
  | _ => False
def vLrev (t : VT) : FT := fun E Q => t E fun d E1 => lstD d fun ds => Q (.fl ds.reverse) E1
def vTrev (t : VT) : FT := fun E Q => t E fun d E1 => lstD d fun ds => Q (.v (.tup ds.reverse)) E1
theorem fe_listRev (hK : S.K = X.K) (hc : X.calm = true) (hg : Gl X "list") (hm : X.mg "list" = none) (hg2 : Gl X "reversed") (hm2 : X.mg "reversed" = none) (he : VE S X e t)
    (s1 : starEach [e] X.env = (false, eval e X.env) :: starEach [] X.env := by rfl)
    (s2 : starEach [.Call (.Name "reversed" p2) [e] [] pos2] X.env = (false, eval (.Call (.Name "reversed" p2) [e] [] pos2) X.env) :: starEach [] X.env := by rfl) :
    FE S X (.Call (.Name "list" p) [.Call (.Name "reversed" p2) [e] [] pos2] [] pos) (vLrev t) := by
  refine pe_weak (pe_listRev hc hg hm hg2 hm2 he s1 s2) ?_
  rintro σ H Q ⟨Γ, E, Q0, ok, rp, ht, k⟩
  refine ⟨Γ, E, _, ok, rp, ht, fun d E1 hq x H1 kq1 rp1 hx => ?_⟩
  have eK : X.K = Γ.K := (ok.k.trans hK).symm
  cases d with
  | lst ds =>
    obtain ⟨q, xs, rfl, h1, h2⟩ := hx.lst_inv
    refine ⟨q, xs, rfl, by rw [eK]; exact h1.sq, fun q nq => ?_⟩
    have sm := same_upd (o := .lst xs.reverse) nq
    exact k _ _ hq _ _ (kq1.trans (.same sm)) (rp1.same sm) (RpN.rep (x := .fl _) rp1 sm ⟨q, _, rfl, nq, upd_same, RpL.kq (.same sm) _ _ h2.rev⟩)
  | _ => exact hq.elim
theorem fe_tupleRev (hK : S.K = X.K) (hc : X.calm = true) (hg : Gl X "tuple") (hm : X.mg "tuple" = none) (hg2 : Gl X "reversed") (hm2 : X.mg "reversed" = none) (he : VE S X e t)
    (s1 : starEach [e] X.env = (false, eval e X.env) :: starEach [] X.env := by rfl)
    (s2 : starEach [.Call (.Name "reversed" p2) [e] [] pos2] X.env = (false, eval (.Call (.Name "reversed" p2) [e] [] pos2) X.env) :: starEach [] X.env := by rfl) :
    FE S X (.Call (.Name "tuple" p) [.Call (.Name "reversed" p2) [e] [] pos2] [] pos) (vTrev t) := by
  refine pe_weak (RT.pe_tupRev hc hg hm hg2 hm2 he s1 s2) ?_
  rintro σ H Q ⟨Γ, E, Q0, ok, rp, ht, k⟩
  refine ⟨Γ, E, _, ok, rp, ht, fun d E1 hq x H1 kq1 rp1 hx => ?_⟩
  have eK : X.K = Γ.K := (ok.k.trans hK).symm
  cases d with
  | lst ds =>
    obtain ⟨q, xs, rfl, h1, h2⟩ := hx.lst_inv
    refine ⟨q, xs, rfl, by rw [eK]; exact h1.sq, fun q nq => ?_⟩
    have sm := same_upd (o := .tup xs.reverse) nq
    exact k _ _ hq _ _ (kq1.trans (.same sm)) (rp1.same sm) (.tup (.of upd_same) (RpL.kq (.same sm) _ _ h2.rev))
  | _ => exact hq.elim
end
end Va

set_option Elab.async false
set_option linter.all false
set_option maxRecDepth 100000
set_option maxHeartbeats 4000000
namespace Va
open PySem PySem.Spec PyProof.Rows L2 Ind
/-! ### facts: how wide they are, when they are true -/
mutual
def Fc.wid : Fc → Nat
  | .com _ => 0
  | .one ns => ns.length
  | .neg f => f.wid
  | .all fs => max fs.length (Fc.widL fs)
  | .any fs => max fs.length (Fc.widL fs)
  | .imp a b => max a.wid b.wid
  | .tt => 0
  | .ff => 0
def Fc.widL : List Fc → Nat
  | [] => 0
  | f :: fs => max f.wid (Fc.widL fs)
end
theorem Fc.widL_le {n : Nat} : ∀ {fs : List Fc}, (∀ f ∈ fs, f.wid ≤ n) → Fc.widL fs ≤ n
  | [], _ => Nat.zero_le _
  | f :: fs, h => Nat.max_le.mpr ⟨h f (List.mem_cons_self ..), Fc.widL_le fun g hg => h g (List.mem_cons_of_mem _ hg)⟩
theorem Fc.wid_mem : ∀ {fs : List Fc} {f : Fc}, f ∈ fs → f.wid ≤ Fc.widL fs
  | g :: fs, f, h => by
    show f.wid ≤ max g.wid (Fc.widL fs)
    rcases List.mem_cons.mp h with rfl | h
    · exact Nat.le_max_left _ _
    · exact Nat.le_trans (Fc.wid_mem h) (Nat.le_max_right _ _)
mutual
/-- true, where p tells who commits -/
def Fc.tr (p : Tx → Bool) : Fc → Bool
  | .com n => p n
  | .one ns => decide ((ns.filter p).length = 1)
  | .neg f => !f.tr p
  | .all fs => Fc.trA p fs
  | .any fs => Fc.trO p fs
  | .imp a b => !a.tr p || b.tr p
  | .tt => true
  | .ff => false
def Fc.trA (p : Tx → Bool) : List Fc → Bool
  | [] => true
  | f :: fs => f.tr p && Fc.trA p fs
def Fc.trO (p : Tx → Bool) : List Fc → Bool
  | [] => false
  | f :: fs => f.tr p || Fc.trO p fs
end
theorem Fc.trA_all (p : Tx → Bool) : ∀ fs : List Fc, Fc.trA p fs = fs.all (Fc.tr p)
  | [] => rfl
  | f :: fs => by show (f.tr p && Fc.trA p fs) = (f.tr p && fs.all (Fc.tr p)); rw [Fc.trA_all p fs]
theorem Fc.trO_any (p : Tx → Bool) : ∀ fs : List Fc, Fc.trO p fs = fs.any (Fc.tr p)
  | [] => rfl
  | f :: fs => by show (f.tr p || Fc.trO p fs) = (f.tr p || fs.any (Fc.tr p)); rw [Fc.trO_any p fs]
/-! ### lists -/
def atB {α : Type} (g : α → Bool) (l : List α) (i : Nat) : Bool := match l[i]? with
  | some x => g x
  | none => false
theorem atB_of {α : Type} {g : α → Bool} {l : List α} {i : Nat} {x : α} (e : l[i]? = some x) : atB g l i = g x := by unfold atB; rw [e]
theorem all_range {α : Type} (g : α → Bool) (l : List α) : (List.range l.length).all (atB g l) = l.all g := by
  rw [Bool.eq_iff_iff, List.all_eq_true, List.all_eq_true]
  constructor
  · intro h x hx
    obtain ⟨i, e⟩ := List.getElem?_of_mem hx
    have := h i (List.mem_range.mpr (List.getElem?_eq_some_iff.mp e).1)
    rwa [atB_of e] at this
  · intro h i hi
    have hi := List.mem_range.mp hi
    rw [atB_of (List.getElem?_eq_getElem hi)]
    exact h _ (List.getElem_mem _)
theorem any_range {α : Type} (g : α → Bool) (l : List α) : (List.range l.length).any (atB g l) = l.any g := by
  rw [Bool.eq_iff_iff, List.any_eq_true, List.any_eq_true]
  constructor
  · rintro ⟨i, hi, h⟩
    have hi := List.mem_range.mp hi
    rw [atB_of (List.getElem?_eq_getElem hi)] at h
    exact ⟨_, List.getElem_mem _, h⟩
  · rintro ⟨x, hx, h⟩
    obtain ⟨i, e⟩ := List.getElem?_of_mem hx
    exact ⟨i, List.mem_range.mpr (List.getElem?_eq_some_iff.mp e).1, by rw [atB_of e]; exact h⟩
theorem filter_more {α : Type} (g : α → Bool) {l : List α} {i : Nat} {x : α} (e : l[i]? = some x) : (l.take (i + 1)).filter g = if g x = true then (l.take i).filter g ++ [x] else (l.take i).filter g := by
  rw [take_more e, List.filter_append]
  by_cases h : g x = true
  · rw [if_pos h, List.filter_cons_of_pos h]; rfl
  · rw [if_neg h, List.filter_cons_of_neg h, List.filter_nil, List.append_nil]
theorem nil_filter {α : Type} (g : α → Bool) (l : List α) : decide (((l.filter fun x => !g x).length : Int) = 0) = l.all g := by
  rw [Bool.eq_iff_iff, decide_eq_true_iff, List.all_eq_true]
  constructor
  · intro h x hx
    have h0 : l.filter (fun x => !g x) = [] := List.eq_nil_of_length_eq_zero (by omega)
    by_cases hg : g x = true
    · exact hg
    · have : x ∈ l.filter (fun x => !g x) := List.mem_filter.mpr ⟨hx, by simpa using hg⟩
      rw [h0] at this
      cases this
  · intro h
    have h0 : l.filter (fun x => !g x) = [] := List.filter_eq_nil_iff.mpr fun x hx => by simpa using h x hx
    rw [h0]; rfl
theorem some_filter {α : Type} (g : α → Bool) (l : List α) : decide ((0 : Int) < ((l.filter g).length : Int)) = l.any g := by
  rw [Bool.eq_iff_iff, decide_eq_true_iff, List.any_eq_true]
  constructor
  · intro h
    have h0 : 0 < (l.filter g).length := by omega
    have m := List.getElem_mem h0
    exact ⟨_, (List.mem_filter.mp m).1, (List.mem_filter.mp m).2⟩
  · rintro ⟨x, hx, h⟩
    have m := List.length_pos_of_mem (List.mem_filter.mpr ⟨hx, h⟩)
    omega
theorem rng_at {lo : Int} {n i : Nat} {d : D} (e : (rng lo n)[i]? = some d) : d = .int (lo + i) ∧ i < n := by
  have hi := (List.getElem?_eq_some_iff.mp e).1
  simp only [rng, List.length_map, List.length_range] at hi
  refine ⟨?_, hi⟩
  unfold rng at e
  rw [List.getElem?_map, List.getElem?_range hi] at e
  exact (Option.some.inj e).symm
theorem cut1 {α : Type} (x : α) (l : List α) : cutD (x :: l) (some 1) none = l := by
  unfold cutD HT.sIx
  simp
theorem cut_take {α : Type} (l : List α) (k : Nat) : cutD l none (some (k : Int)) = l.take k := by
  unfold cutD
  rw [HT.sIx_none, HT.sIx_nat, List.drop_zero, Nat.sub_zero]
  by_cases h : k ≤ l.length
  · rw [Nat.min_eq_left h]
  · rw [Nat.min_eq_right (by omega), List.take_length, List.take_of_length_le (by omega)]
theorem cut_take1 {α : Type} (l : List α) (k : Nat) : cutD l none (some (1 + (k : Int))) = l.take (1 + k) := by
  have := cut_take l (1 + k)
  rwa [Int.natCast_add] at this
end Va

set_option Elab.async false
set_option linter.all false
set_option maxRecDepth 100000
set_option maxHeartbeats 4000000
namespace Va
open PySem PySem.Spec PyProof.Rows L2 Ind
section
variable {X : Cx} {S : Sg} {e : Expr} {t : VT}
/-! ### tuples that are known plain -/
def vUn (t : VT) : VT := fun E Q => t E fun d E1 => Q d.un E1
theorem RpW.un {Γ : Gm} {H : Hp} {v : V} {d : D} (h : RpW Γ H v d) : RpW Γ H v d.un := by
  cases h with
  | v h => exact .v (Rp.un h)
  | l h1 h2 => exact .l h1 h2
  | k h1 h2 => exact .k h1 h2
theorem ve_un (h : VE S X e t) : VE S X e (vUn t) := by
  refine pe_weak h ?_
  rintro σ H Q ⟨Γ, E, Q0, ok, rp, ht, k⟩
  exact ⟨Γ, E, _, ok, rp, ht, fun d E1 hq v H1 kq rp1 hv => k _ _ hq _ _ kq rp1 (Rp.un hv)⟩
theorem be_un (h : BE S X e t) : BE S X e (vUn t) := by
  refine pe_weak h ?_
  rintro σ H Q ⟨Γ, E, Q0, ok, rp, ht, k⟩
  exact ⟨Γ, E, _, ok, rp, ht, fun d E1 hq v H1 kq rp1 hv => k _ _ hq _ _ kq rp1 hv.un⟩
/-- tuple(a list): plain -/
def tuplePG : VC := fun ds Q => match ds with
  | [.lst xs] => Q (.v (.ptp xs))
  | _ => False
theorem c_tupleP (hK : S.K = X.K) : CallV S X (.type "tuple") tuplePG := by
  refine ⟨_, call_tupleZ, ?_⟩
  intro Γ H xs ds Q Q0 eK hx hg k
  have eK' : X.K = Γ.K := (eK.trans hK).symm
  unfold tuplePG at hg
  split at hg
  · match hx with
    | .cons h .nil =>
      obtain ⟨p, ys, rfl, h1, h2⟩ := h.seq
      refine ⟨p, ys, rfl, by rw [eK']; exact h1, fun l o nl nd => ?_⟩
      have sm := same_upd (o := .frz o (.tup ys)) nl
      exact k _ hg _ _ sm (.ptp upd_same nd (RpL.kq (.same sm) _ _ h2))
  · exact hg.elim
theorem strs_back {K : PySem.W.Frag} {tp : Option Tp} {H : Hp} : ∀ {ys : List Tx} {vs : List V}, RpL K tp H vs (ys.map .str) → vs = ys.map V.str
  | [], _, h => by cases h; rfl
  | y :: ys, _, h => by
    cases h with
    | cons h1 h2 => cases h1; rw [strs_back h2]; rfl
/-- t.index(x), t a plain tuple of texts -/
def vTix (t : VT) (a : VTA) : FT := fun E Q => t E fun d E1 => (∃ xs, d = .ptp xs) ∧ a E1 fun es E2 => ∃ (ys : List Tx) (y : Tx), d = .ptp (ys.map .str) ∧ es = [.str y] ∧ y ∈ ys ∧ Q (.v (.int (ys.idxOf y : Nat))) E2
theorem fe_tindex {o a : Expr} {apos cpos : Pos} {ta : VTA} (hK : S.K = X.K) (ho : VE S X o t) (ha : VA S X [a] ta)
    (h1 : attributeBase o "index" X.env (eval o X.env) = eval o X.env := by rfl)
    (h2 : ((backTo cpos (starEach [a] X.env)).all (fun x => !x.1) && (backToKw cpos (keywordEach [] X.env)).all (fun x => x.1.isSome) && decide ([a].length + ([] : List Keyword).length + (if ([] : List Keyword).isEmpty then 0 else 1) < 30)) = true := by rfl)
    (h3 : (apos.endLine == cpos.line) = true := by rfl) (h4 : starEach [a] X.env = (false, eval a X.env) :: starEach [] X.env := by rfl) (h5 : (backTo cpos (starEach [] X.env)).any (·.1) = false := by rfl) :
    FE S X (.Call (.Attribute o "index" apos) [a] [] cpos) (vTix t ta) := by
  refine pe_weak (pe_bmZ PySem.F.slot_tuple_index PySem.F.type_tuple_index mt_tindex ho ha h1 h2 h3 h4 h5) ?_
  rintro σ H Q ⟨Γ, E, Q0, ok, rp, ht, k⟩
  have eK : X.K = Γ.K := (ok.k.trans hK).symm
  refine ⟨Γ, E, _, ok, rp, ht, fun d E1 hq x H1 kq1 rp1 hx => ?_⟩
  · obtain ⟨⟨xs, rfl⟩, hq⟩ := hq
    obtain ⟨p, ob, vs, rfl, hf, nd, hr⟩ := hx.ptp_inv
    refine ⟨⟨p, ob, vs, rfl, hf, nd⟩, Γ, E1, _, ok, rp1, hq, fun es E2 hq2 us H2 kq2 rp2 hus => ?_⟩
    obtain ⟨ys, y, ed, rfl, my, hq3⟩ := hq2
    injection ed with ed
    subst ed
    have := strs_back hr
    subst this
    match us, hus with
    | [_], .cons h1 .nil =>
      cases h1
      refine ⟨p, ys, y, rfl, rfl, .inl (.inr ⟨ob, kq2.frz _ _ _ hf⟩), my, ?_⟩
      exact k _ _ hq3 _ _ (kq1.trans kq2) rp2 (.int _)
/-! ### the order of pairs of a truth value and a whole number or a text -/
def VV (v : V) : Prop := (∃ i, v = .int i) ∨ ∃ x, v = .str x
/-- == of such values -/
theorem vv_eqAt_val {A : Around} {s : Shared} {u v : V} {a b : Value} (hu : VV u) (hv : VV v) (ra : RelV u a) (rb : RelV v b) : SeqAt.EqAt A s a b (decide (u = v)) := by
  rcases hu with ⟨i, rfl⟩ | ⟨x, rfl⟩ <;> rcases hv with ⟨j, rfl⟩ | ⟨y, rfl⟩
  · obtain ⟨t, rfl⟩ := ra
    obtain ⟨t', rfl⟩ := rb
    rw [dec_int]
    exact SeqAt.EqAt.int_int _ _ _ _
  · obtain ⟨t, rfl⟩ := ra
    obtain ⟨t', rfl⟩ := rb
    rw [decide_eq_false (fun z => nomatch z)]
    exact fun prog w E Q h => SeqAt.EqAt.int_str i t y t' _ _ _ _ h
  · obtain ⟨t, rfl⟩ := ra
    obtain ⟨t', rfl⟩ := rb
    rw [decide_eq_false (fun z => nomatch z)]
    exact fun prog w E Q h => SeqAt.EqAt.str_int x t j t' _ _ _ _ h
  · obtain ⟨t, rfl⟩ := ra
    obtain ⟨t', rfl⟩ := rb
    rw [dec_str]
    exact SeqAt.EqAt.str_str _ _ _ _
theorem vv_rc_lt_val {A : Around} {s : Shared} {u v : V} {a b : Value} (hu : VV u) (hv : VV v) (ra : RelV u a) (rb : RelV v b) (k : kindB u = kindB v) : Ob.RcOp .Lt A s a b (vLt u v) := by
  rcases hu with ⟨i, rfl⟩ | ⟨x, rfl⟩ <;> rcases hv with ⟨j, rfl⟩ | ⟨y, rfl⟩
  · obtain ⟨t, rfl⟩ := ra
    obtain ⟨t', rfl⟩ := rb
    exact .lt_int _ _ _ _
  · cases k
  · cases k
  · obtain ⟨t, rfl⟩ := ra
    obtain ⟨t', rfl⟩ := rb
    exact fun _ _ _ _ h => PyProof.Rows.lt_str h
theorem vv_rc_gt_val {A : Around} {s : Shared} {u v : V} {a b : Value} (hu : VV u) (hv : VV v) (ra : RelV u a) (rb : RelV v b) (k : kindB u = kindB v) : Ob.RcOp .Gt A s a b (vLt v u) := by
  rcases hu with ⟨i, rfl⟩ | ⟨x, rfl⟩ <;> rcases hv with ⟨j, rfl⟩ | ⟨y, rfl⟩
  · obtain ⟨t, rfl⟩ := ra
    obtain ⟨t', rfl⟩ := rb
    exact .gt_int _ _ _ _
  · cases k
  · cases k
  · obtain ⟨t, rfl⟩ := ra
    obtain ⟨t', rfl⟩ := rb
    exact fun _ _ _ _ h => PySem.P.gt_str h
theorem vv_pair_lex {u v : V} (hu : VV u) (hv : VV v) (r1 : Bool) (h : kindB u = kindB v → r1 = vLt u v) :
    Ob.lexAt (fun j => if j = 0 then kindB u == kindB v else decide (u = v)) (fun j => if j = 0 then decide (b2i (kindB u) < b2i (kindB v)) else r1) (decide (2 < 2)) 0 (min 2 2) = vLt u v := by
  rcases hu with ⟨i, rfl⟩ | ⟨x, rfl⟩ <;> rcases hv with ⟨j, rfl⟩ | ⟨y, rfl⟩
  · rw [h rfl]
    by_cases e : i = j
    · subst e; simp [Ob.lexAt, vLt]
    · simp [Ob.lexAt, vLt, kindB, e]
  · simp [Ob.lexAt, vLt, kindB, b2i]
  · simp [Ob.lexAt, vLt, kindB, b2i]
  · rw [h rfl]
    by_cases e : x = y
    · subst e; simp [Ob.lexAt, vLt]
    · simp [Ob.lexAt, vLt, kindB, e]
theorem vv_pair_lex2 {u v : V} (hu : VV u) (hv : VV v) (r1 : Bool) (h : kindB u = kindB v → r1 = vLt v u) :
    Ob.lexAt (fun j => if j = 0 then kindB u == kindB v else decide (u = v)) (fun j => if j = 0 then decide (b2i (kindB u) > b2i (kindB v)) else r1) (decide (2 > 2)) 0 (min 2 2) = vLt v u := by
  rcases hu with ⟨i, rfl⟩ | ⟨x, rfl⟩ <;> rcases hv with ⟨j, rfl⟩ | ⟨y, rfl⟩
  · rw [h rfl]
    by_cases e : i = j
    · subst e; simp [Ob.lexAt, vLt]
    · simp [Ob.lexAt, vLt, kindB, e]
  · simp [Ob.lexAt, vLt, kindB, b2i]
  · simp [Ob.lexAt, vLt, kindB, b2i]
  · rw [h rfl]
    by_cases e : x = y
    · subst e; simp [Ob.lexAt, vLt]
    · simp [Ob.lexAt, vLt, kindB, e]
def rKeyLV (K : PySem.W.Frag) : R2 := fun x y H Q => ∃ a b u v, x = .ref a ∧ y = .ref b ∧ VV u ∧ VV v ∧ SqT K H a [.bl (kindB u), u] ∧ SqT K H b [.bl (kindB v), v] ∧ Q (.bl (vLt u v)) H
def rKeyGV (K : PySem.W.Frag) : R2 := fun x y H Q => ∃ a b u v, x = .ref a ∧ y = .ref b ∧ VV u ∧ VV v ∧ SqT K H a [.bl (kindB u), u] ∧ SqT K H b [.bl (kindB v), v] ∧ Q (.bl (vLt v u)) H
theorem op_lt_keyV (hu : X.A.units < cLine) : OpR X (compareOp .Lt) (rKeyLV X.K) := by
  intro pins s σ H x y v u Q I rx ry h
  obtain ⟨a, b, p, q, rfl, rfl, hp, hq, ha, hb, fin⟩ := h
  cases rx
  cases ry
  obtain ⟨its, r1, p1, _⟩ := I.tuple ha
  obtain ⟨its2, r2, p2, _⟩ := I.tuple hb
  obtain ⟨va, rfl, ra⟩ := pair_of r1
  obtain ⟨vb, rfl, rb⟩ := pair_of r2
  have R := IndCmp.rc_lt (A := X.A) (s := s) (e := fun j => if j = 0 then kindB p == kindB q else decide (p = q)) (r := fun j => if j = 0 then decide (b2i (kindB p) < b2i (kindB q)) else vLt p q) p1 p2 hu
    (fun j h1 h2 => match j, h1, h2 with
      | 0, _, _ => SeqAt.EqAt.bool_bool _ _
      | 1, _, _ => vv_eqAt_val hp hq ra rb)
    (fun j h1 h2 bef ne => match j, h1, h2, bef, ne with
      | 0, _, _, _, _ => fun _ _ _ _ h => PyProof.Rows.lt_bool h
      | 1, _, _, bef, _ => vv_rc_lt_val hp hq ra rb (by have := bef 0 (by decide); simpa using this))
  rw [show ([Value.bool (kindB p), va].toArray.size) = 2 from rfl, show ([Value.bool (kindB q), vb].toArray.size) = 2 from rfl, vv_pair_lex hp hq (vLt p q) (fun _ => rfl)] at R
  have z : wpAny (model X.prog X.w) X.A (compareOp .Lt (.ref a) (.ref b)) (EP X pins σ Q) X.xe s := R X.prog X.w X.xe (EP X pins σ Q) ⟨.bl _, H, I, rfl, fin⟩
  exact z
theorem op_gt_keyV (hu : X.A.units < cLine) : OpR X (compareOp .Gt) (rKeyGV X.K) := by
  intro pins s σ H x y v u Q I rx ry h
  obtain ⟨a, b, p, q, rfl, rfl, hp, hq, ha, hb, fin⟩ := h
  cases rx
  cases ry
  obtain ⟨its, r1, p1, _⟩ := I.tuple ha
  obtain ⟨its2, r2, p2, _⟩ := I.tuple hb
  obtain ⟨va, rfl, ra⟩ := pair_of r1
  obtain ⟨vb, rfl, rb⟩ := pair_of r2
  have R := IndCmp.rc_gt (A := X.A) (s := s) (e := fun j => if j = 0 then kindB p == kindB q else decide (p = q)) (r := fun j => if j = 0 then decide (b2i (kindB p) > b2i (kindB q)) else vLt q p) p1 p2 hu
    (fun j h1 h2 => match j, h1, h2 with
      | 0, _, _ => SeqAt.EqAt.bool_bool _ _
      | 1, _, _ => vv_eqAt_val hp hq ra rb)
    (fun j h1 h2 bef ne => match j, h1, h2, bef, ne with
      | 0, _, _, _, _ => fun _ _ _ _ h => PyProof.Rows.gt_bool h
      | 1, _, _, bef, _ => vv_rc_gt_val hp hq ra rb (by have := bef 0 (by decide); simpa using this))
  rw [show ([Value.bool (kindB p), va].toArray.size) = 2 from rfl, show ([Value.bool (kindB q), vb].toArray.size) = 2 from rfl, vv_pair_lex2 hp hq (vLt q p) (fun _ => rfl)] at R
  have z : wpAny (model X.prog X.w) X.A (compareOp .Gt (.ref a) (.ref b)) (EP X pins σ Q) X.xe s := R X.prog X.w X.xe (EP X pins σ Q) ⟨.bl _, H, I, rfl, fin⟩
  exact z
def okD : D → Prop
  | .int _ => True
  | .str _ => True
  | _ => False
def kindD : D → Bool
  | .str _ => true
  | _ => false
def dLt : D → D → Bool
  | .int i, .int j => decide (i < j)
  | .int _, .str _ => true
  | .str x, .str y => decide (x.cps.toList < y.cps.toList)
  | _, _ => false
def ltK : VO := fun d e Q => match d, e with
  | .tup [.bl a, x], .tup [.bl b, y] => okD x ∧ okD y ∧ a = kindD x ∧ b = kindD y ∧ Q (.v (.bl (dLt x y)))
  | _, _ => False
def gtK : VO := fun d e Q => match d, e with
  | .tup [.bl a, x], .tup [.bl b, y] => okD x ∧ okD y ∧ a = kindD x ∧ b = kindD y ∧ Q (.v (.bl (dLt y x)))
  | _, _ => False
theorem okD_v {K : PySem.W.Frag} {tp : Option Tp} {H : Hp} {v : V} {d : D} (o : okD d) (h : Rp K tp H v d) : VV v ∧ kindB v = kindD d := by
  cases d with
  | int i => cases h; exact ⟨.inl ⟨i, rfl⟩, rfl⟩
  | str x => cases h; exact ⟨.inr ⟨x, rfl⟩, rfl⟩
  | _ => exact o.elim
theorem dLt_v {K : PySem.W.Frag} {tp : Option Tp} {H : Hp} {v w : V} {d e : D} (o : okD d) (o2 : okD e) (h : Rp K tp H v d) (h2 : Rp K tp H w e) : vLt v w = dLt d e := by
  cases d with
  | int i =>
    cases h
    cases e with
    | int j => cases h2; rfl
    | str y => cases h2; rfl
    | _ => exact o2.elim
  | str x =>
    cases h
    cases e with
    | int j => cases h2; rfl
    | str y => cases h2; rfl
    | _ => exact o2.elim
  | _ => exact o.elim
theorem pair_rp {Γ : Gm} {H : Hp} {v : V} {a : Bool} {x : D} (h : RpW Γ H v (.tup [.bl a, x])) : ∃ p w, v = .ref p ∧ SqT Γ.K H p [.bl a, w] ∧ Γ.Rp H w x := by
  obtain ⟨p, xs, rfl, h1, h2⟩ := h.tup
  cases h2 with
  | cons g1 g2 =>
    cases g1
    cases g2 with
    | cons g3 g4 =>
      cases g4
      exact ⟨p, _, rfl, h1, g3⟩
theorem o_ltK (hK : S.K = X.K) (hu : X.A.units < cLine) : OpV S X (compareOp .Lt) ltK := by
  refine ⟨_, op_lt_keyV hu, ?_⟩
  intro Γ H x y d e Q Q0 eK hx hy hg k
  have eK' : X.K = Γ.K := (eK.trans hK).symm
  unfold ltK at hg
  split at hg
  · obtain ⟨o1, o2, rfl, rfl, hq⟩ := hg
    obtain ⟨p, u, rfl, h1, h2⟩ := pair_rp hx
    obtain ⟨q, v, rfl, h3, h4⟩ := pair_rp hy
    have e1 := okD_v o1 h2
    have e2 := okD_v o2 h4
    refine ⟨p, q, u, v, rfl, rfl, e1.1, e2.1, by rw [eK', e1.2]; exact h1, by rw [eK', e2.2]; exact h3, ?_⟩
    rw [dLt_v o1 o2 h2 h4]
    exact k _ hq _ _ (Same.refl _) (.bl _)
  · exact hg.elim
theorem o_gtK (hK : S.K = X.K) (hu : X.A.units < cLine) : OpV S X (compareOp .Gt) gtK := by
  refine ⟨_, op_gt_keyV hu, ?_⟩
  intro Γ H x y d e Q Q0 eK hx hy hg k
  have eK' : X.K = Γ.K := (eK.trans hK).symm
  unfold gtK at hg
  split at hg
  · obtain ⟨o1, o2, rfl, rfl, hq⟩ := hg
    obtain ⟨p, u, rfl, h1, h2⟩ := pair_rp hx
    obtain ⟨q, v, rfl, h3, h4⟩ := pair_rp hy
    have e1 := okD_v o1 h2
    have e2 := okD_v o2 h4
    refine ⟨p, q, u, v, rfl, rfl, e1.1, e2.1, by rw [eK', e1.2]; exact h1, by rw [eK', e2.2]; exact h3, ?_⟩
    rw [dLt_v o2 o1 h4 h2]
    exact k _ hq _ _ (Same.refl _) (.bl _)
  · exact hg.elim
end
end Va

set_option Elab.async false
set_option linter.all false
set_option maxRecDepth 100000
set_option maxHeartbeats 4000000
namespace Va
open PySem PySem.Spec PyProof.Rows L2 Ind
/-! ### columns, expressions, formulas -/
inductive Cd where
  | s
  | n (b : Int)
def Cd.d : Cd → D
  | .s => .tup [.str "string"]
  | .n b => .tup [.str "integer", .int b]
def Cd.w : Cd → Tx
  | .s => "string"
  | .n _ => "integer"
def Cd.ok : Cd → Prop
  | .s => True
  | .n b => 0 ≤ b ∧ b ≤ 1000000000000
abbrev Col := Tx × Cd
def colD (p : Col) : D := .tup [.str p.1, p.2.d]
def colsD (cs : List Col) : D := .tup (cs.map colD)
def valOk : Cd → D → Prop
  | .s, v => ∃ x, v = .str x
  | .n _, v => ∃ i, v = .int i
inductive Op where
  | col (n : Tx)
  | num (i : Int)
  | txt (x : Tx)
def Op.d : Op → D
  | .col n => .tup [.str "column", .str n]
  | .num i => .tup [.str "integer", .int i]
  | .txt x => .tup [.str "string", .str x]
def sgnD : Bool → Tx
  | true => "+"
  | false => "-"
abbrev Ex := List (Bool × Op)
def termD (t : Bool × Op) : D := .tup [.str (sgnD t.1), t.2.d]
def exD (e : Ex) : D := .tup (e.map termD)
def fits (cs : List Col) (w : Tx) : Op → Prop
  | .col n => ∃ k : Cd, (n, k) ∈ cs ∧ k.w = w
  | .num _ => w = "integer"
  | .txt _ => w = "string"
structure ExOk (cs : List Col) (w : Tx) (e : Ex) : Prop where
  ne : e ≠ []
  fit : ∀ t ∈ e, fits cs w t.2
  one : w = "string" → e.length = 1
  len : e.length ≤ 20
  word : w = "string" ∨ w = "integer"
inductive Fm where
  | cmp (sg : Tx) (l r : Ex)
  | neg (f : Fm)
  | all (fs : List Fm)
  | any (fs : List Fm)
  | imp (a b : Fm)
  | tt
  | ff
mutual
def Fm.d : Fm → D
  | .cmp sg l r => .tup [.str "compare", .str sg, exD l, exD r]
  | .neg f => .tup [.str "not", f.d]
  | .all fs => .tup [.str "and", .tup (Fm.dL fs)]
  | .any fs => .tup [.str "or", .tup (Fm.dL fs)]
  | .imp a b => .tup [.str "implies", a.d, b.d]
  | .tt => .tup [.str "true"]
  | .ff => .tup [.str "false"]
def Fm.dL : List Fm → List D
  | [] => []
  | f :: fs => f.d :: Fm.dL fs
end
theorem Fm.dL_map : ∀ fs : List Fm, Fm.dL fs = fs.map Fm.d
  | [] => rfl
  | f :: fs => by show f.d :: Fm.dL fs = f.d :: fs.map Fm.d; rw [Fm.dL_map fs]
mutual
def Fm.dep : Fm → Nat
  | .cmp _ _ _ => 0
  | .neg f => f.dep + 1
  | .all fs => Fm.depL fs + 1
  | .any fs => Fm.depL fs + 1
  | .imp a b => max a.dep b.dep + 1
  | .tt => 0
  | .ff => 0
def Fm.depL : List Fm → Nat
  | [] => 0
  | f :: fs => max f.dep (Fm.depL fs)
end
theorem Fm.depL_le {n : Nat} : ∀ {fs : List Fm}, (∀ f ∈ fs, f.dep ≤ n) → Fm.depL fs ≤ n
  | [], _ => Nat.zero_le _
  | f :: fs, h => Nat.max_le.mpr ⟨h f (List.mem_cons_self ..), Fm.depL_le fun g hg => h g (List.mem_cons_of_mem _ hg)⟩
theorem Fm.dep_mem : ∀ {fs : List Fm} {f : Fm}, f ∈ fs → f.dep ≤ Fm.depL fs
  | g :: fs, f, h => by
    show f.dep ≤ max g.dep (Fm.depL fs)
    rcases List.mem_cons.mp h with rfl | h
    · exact Nat.le_max_left _ _
    · exact Nat.le_trans (Fm.dep_mem h) (Nat.le_max_right _ _)
def ops : List Tx := ["=", "!=", "<", "<=", ">", ">="]
mutual
/-- fits the columns; no more than 50 parts -/
def Fm.ok (cs : List Col) : Fm → Prop
  | .cmp sg l r => sg ∈ ops ∧ ∃ w, ExOk cs w l ∧ ExOk cs w r
  | .neg f => f.ok cs
  | .all fs => fs.length ≤ 50 ∧ Fm.okL cs fs
  | .any fs => fs.length ≤ 50 ∧ Fm.okL cs fs
  | .imp a b => a.ok cs ∧ b.ok cs
  | .tt => True
  | .ff => True
def Fm.okL (cs : List Col) : List Fm → Prop
  | [] => True
  | f :: fs => f.ok cs ∧ Fm.okL cs fs
end
theorem Fm.okL_of {cs : List Col} : ∀ {fs : List Fm}, (∀ f ∈ fs, f.ok cs) → Fm.okL cs fs
  | [], _ => trivial
  | f :: fs, h => ⟨h f (List.mem_cons_self ..), Fm.okL_of fun g hg => h g (List.mem_cons_of_mem _ hg)⟩
theorem Fm.ok_mem {cs : List Col} : ∀ {fs : List Fm} {f : Fm}, Fm.okL cs fs → f ∈ fs → f.ok cs
  | g :: fs, f, h, m => by
    rcases List.mem_cons.mp m with rfl | m
    · exact h.1
    · exact Fm.ok_mem h.2 m
/-! ### their values -/
def intOf : D → Int
  | .int i => i
  | _ => 0
def ev (nm : List Tx) (row : List D) : Op → D
  | .col n => (row[nm.idxOf n]?).getD .non
  | .num i => .int i
  | .txt x => .str x
def sg1 (b : Bool) (i : Int) : Int := if b then i else -i
def sumV (nm : List Tx) (row : List D) : Ex → Int
  | [] => 0
  | t :: e => sg1 t.1 (intOf (ev nm row t.2)) + sumV nm row e
theorem sumV_app (nm : List Tx) (row : List D) : ∀ (e f : Ex), sumV nm row (e ++ f) = sumV nm row e + sumV nm row f
  | [], f => by show _ = 0 + _; rw [Int.zero_add]; rfl
  | t :: e, f => by
    show sg1 t.1 (intOf (ev nm row t.2)) + sumV nm row (e ++ f) = (sg1 t.1 (intOf (ev nm row t.2)) + sumV nm row e) + _
    rw [sumV_app nm row e f, Int.add_assoc]
def exV (nm : List Tx) (row : List D) (e : Ex) : D := match e with
  | [t] => ev nm row t.2
  | e => .int (sumV nm row e)
def cmpI (l r : D) : Int := if dLt l r = true then -1 else if dLt r l = true then 1 else 0
def fitB (sg : Tx) (o : Int) : Bool :=
  if sg = "=" then decide (o = 0) else if sg = "!=" then decide (¬ o = 0) else if sg = "<" then decide (o < 0) else if sg = "<=" then decide (o ≤ 0) else if sg = ">" then decide (0 < o) else decide (0 ≤ o)
mutual
def Fm.tr (nm : List Tx) (row : List D) : Fm → Bool
  | .cmp sg l r => fitB sg (cmpI (exV nm row l) (exV nm row r))
  | .neg f => !f.tr nm row
  | .all fs => Fm.trA nm row fs
  | .any fs => Fm.trO nm row fs
  | .imp a b => !a.tr nm row || b.tr nm row
  | .tt => true
  | .ff => false
def Fm.trA (nm : List Tx) (row : List D) : List Fm → Bool
  | [] => true
  | f :: fs => f.tr nm row && Fm.trA nm row fs
def Fm.trO (nm : List Tx) (row : List D) : List Fm → Bool
  | [] => false
  | f :: fs => f.tr nm row || Fm.trO nm row fs
end
theorem Fm.trA_all (nm : List Tx) (row : List D) : ∀ fs : List Fm, Fm.trA nm row fs = fs.all (Fm.tr nm row)
  | [] => rfl
  | f :: fs => by show (f.tr nm row && Fm.trA nm row fs) = (f.tr nm row && fs.all (Fm.tr nm row)); rw [Fm.trA_all nm row fs]
theorem Fm.trO_any (nm : List Tx) (row : List D) : ∀ fs : List Fm, Fm.trO nm row fs = fs.any (Fm.tr nm row)
  | [] => rfl
  | f :: fs => by show (f.tr nm row || Fm.trO nm row fs) = (f.tr nm row || fs.any (Fm.tr nm row)); rw [Fm.trO_any nm row fs]
structure RowOk (cs : List Col) (row : List D) : Prop where
  nd : (cs.map (·.1)).Nodup
  len : row.length = cs.length
  val : ∀ (i : Nat) (p : Col) (v : D), cs[i]? = some p → row[i]? = some v → valOk p.2 v
theorem idx_col {n : Tx} {k : Cd} : ∀ {cs : List Col}, (cs.map (·.1)).Nodup → (n, k) ∈ cs → n ∈ cs.map (·.1) ∧ cs[(cs.map (·.1)).idxOf n]? = some (n, k)
  | p :: cs, nd, m => by
    have mem : n ∈ (p :: cs).map (·.1) := List.mem_map.mpr ⟨_, m, rfl⟩
    refine ⟨mem, ?_⟩
    rw [List.map_cons] at nd ⊢
    rw [List.nodup_cons] at nd
    rw [List.idxOf_cons]
    rcases List.mem_cons.mp m with e | m
    · rw [← e]
      show ((n, k) :: cs)[bif n == n then 0 else _]? = _
      rw [beq_self_eq_true]
      rfl
    · have ne : p.1 ≠ n := fun e => nd.1 (by rw [e]; exact List.mem_map.mpr ⟨_, m, rfl⟩)
      rw [beq_eq_false_iff_ne.mpr ne]
      show (p :: cs)[(cs.map (·.1)).idxOf n + 1]? = _
      rw [List.getElem?_cons_succ]
      exact (idx_col nd.2 m).2
theorem ev_col {cs : List Col} {row : List D} (ro : RowOk cs row) {n : Tx} {k : Cd} (m : (n, k) ∈ cs) : n ∈ cs.map (·.1) ∧ ∃ v, row[(cs.map (·.1)).idxOf n]? = some v ∧ ev (cs.map (·.1)) row (.col n) = v ∧ valOk k v := by
  obtain ⟨h1, h2⟩ := idx_col ro.nd m
  have hl := (List.getElem?_eq_some_iff.mp h2).1
  have hl2 : (cs.map (·.1)).idxOf n < row.length := by rw [ro.len]; exact hl
  refine ⟨h1, _, List.getElem?_eq_getElem hl2, ?_, ro.val _ _ _ h2 (List.getElem?_eq_getElem hl2)⟩
  show (row[(cs.map (·.1)).idxOf n]?).getD .non = _
  rw [List.getElem?_eq_getElem hl2]; rfl
def wordOk (w : Tx) (v : D) : Prop := (w = "string" ∧ ∃ x, v = .str x) ∨ (w = "integer" ∧ ∃ i, v = .int i)
theorem ev_ok {cs : List Col} {row : List D} (ro : RowOk cs row) {w : Tx} {o : Op} (h : fits cs w o) : wordOk w (ev (cs.map (·.1)) row o) := by
  cases o with
  | col n =>
    obtain ⟨k, m, rfl⟩ := h
    obtain ⟨_, v, _, e, hv⟩ := ev_col ro m
    rw [e]
    cases k with
    | s => exact .inl ⟨rfl, hv⟩
    | n b => exact .inr ⟨rfl, hv⟩
  | num i => cases h; exact .inr ⟨rfl, i, rfl⟩
  | txt x => cases h; exact .inl ⟨rfl, x, rfl⟩
theorem ev_int {cs : List Col} {row : List D} (ro : RowOk cs row) {o : Op} (h : fits cs "integer" o) : ev (cs.map (·.1)) row o = .int (intOf (ev (cs.map (·.1)) row o)) := by
  rcases ev_ok ro h with ⟨e, _⟩ | ⟨_, i, e⟩
  · exact absurd e (by decide)
  · rw [e]; rfl
theorem exV_ok {cs : List Col} {row : List D} (ro : RowOk cs row) {w : Tx} {e : Ex} (h : ExOk cs w e) : wordOk w (exV (cs.map (·.1)) row e) := by
  match e, h with
  | [], h => exact absurd rfl h.ne
  | [t], h => exact ev_ok ro (h.fit t (List.mem_singleton.mpr rfl))
  | a :: b :: r, h =>
    rcases h.word with rfl | rfl
    · have := h.one rfl
      simp at this
    · exact .inr ⟨rfl, _, rfl⟩
end Va
namespace Va
open PySem PySem.Spec PyProof.Rows L2 Ind
/-- signs that there are -/
def tOk (x : Tx) : Prop := ∀ c ∈ x.cps.toList, c < 0x110000
theorem tOk.ok {x : Tx} (h : tOk x) : PyData.strOk x = true := by
  unfold PyData.strOk
  rw [Array.all_eq_true']
  intro c hc
  exact decide_eq_true (h c (by simpa using hc))
theorem tOk_app {x y : Tx} (h : tOk x) (h2 : tOk y) : tOk (x ++ y) := fun c hc => by
  have hc : c ∈ (x.cps ++ y.cps).toList := hc
  rw [Array.toList_append] at hc
  rcases List.mem_append.mp hc with z | z
  · exact h c z
  · exact h2 c z
theorem atI_mem {α : Type} {l : List α} {i : Int} {x : α} (e : atI l i = some x) : x ∈ l := by
  unfold L2.atI at e
  cases h : ixN l.length i with
  | none => rw [h] at e; cases e
  | some j => rw [h] at e; exact List.mem_of_getElem? e
theorem tOk_one {x : Tx} {i : Int} {c : Nat} (h : tOk x) (e : atI x.cps.toList i = some c) : tOk ⟨#[c]⟩ := fun d hd => by
  have hd : d ∈ [c] := hd
  cases List.mem_singleton.mp hd
  exact h c (atI_mem e)
theorem tOk_of {x : Tx} (h : (x.cps.toList.all fun c => decide (c < 0x110000)) = true) : tOk x := fun c hc => of_decide_eq_true (List.all_eq_true.mp h c hc)
def Op.tok : Op → Prop
  | .col n => tOk n
  | .num _ => True
  | .txt x => tOk x
theorem shp2 {x y : Tx} (h : tOk x) (h2 : tOk y) : SeqAt.shaped (D.tup [.str x, .str y]).pd = true := by
  simp [D.pd, pdL, SeqAt.shaped]
  simp [PyData.canLay0, PyData.canLayAll0, PyData.depth, PyData.depthAll, h.ok, h2.ok]
end Va
namespace Va
open PySem PySem.Spec PyProof.Rows L2 Ind
/-! ### the order of values -/
theorem lex_tri : ∀ {a b : List Nat}, ¬ a < b → ¬ b < a → a = b
  | [], [], _, _ => rfl
  | [], b :: l, h, _ => absurd (List.nil_lt_cons b l) h
  | a :: l, [], _, h => absurd (List.nil_lt_cons a l) h
  | a :: l, b :: m, h, h2 => by
    rw [List.cons_lt_cons_iff] at h h2
    have e : a = b := by omega
    subst e
    rw [lex_tri (fun z => h (.inr ⟨rfl, z⟩)) (fun z => h2 (.inr ⟨rfl, z⟩))]
theorem lex_no {a b : List Nat} (h : a < b) (h2 : b < a) : False := List.lt_irrefl a (List.lt_trans h h2)
theorem tx_ext {x y : Tx} (h : x.cps.toList = y.cps.toList) : x = y := by
  obtain ⟨a⟩ := x
  obtain ⟨b⟩ := y
  exact congrArg PySem.Str.mk (Array.toList_inj.mp h)
/-- what the three ways of an order say -/
theorem cmp_ways {w : Tx} {l r : D} (hl : wordOk w l) (hr : wordOk w r) : (dLt l r = true ∧ dLt r l = false ∧ l ≠ r ∧ cmpI l r = -1) ∨ (dLt l r = false ∧ dLt r l = true ∧ l ≠ r ∧ cmpI l r = 1) ∨ (dLt l r = false ∧ dLt r l = false ∧ l = r ∧ cmpI l r = 0) := by
  rcases hl with ⟨e1, x, rfl⟩ | ⟨e1, i, rfl⟩ <;> rcases hr with ⟨e2, y, rfl⟩ | ⟨e2, j, rfl⟩
  · have d1 : dLt (.str x) (.str y) = decide (x.cps.toList < y.cps.toList) := rfl
    have d2 : dLt (.str y) (.str x) = decide (y.cps.toList < x.cps.toList) := rfl
    unfold cmpI
    rw [d1, d2]
    by_cases h : x.cps.toList < y.cps.toList
    · have n : ¬ y.cps.toList < x.cps.toList := fun z => lex_no h z
      refine .inl ⟨decide_eq_true h, decide_eq_false n, fun e => ?_, by rw [if_pos (decide_eq_true h)]⟩
      cases e
      exact lex_no h h
    · by_cases h2 : y.cps.toList < x.cps.toList
      · refine .inr (.inl ⟨decide_eq_false h, decide_eq_true h2, fun e => ?_, by rw [if_neg (by simpa using h), if_pos (decide_eq_true h2)]⟩)
        cases e
        exact h h2
      · exact .inr (.inr ⟨decide_eq_false h, decide_eq_false h2, by rw [tx_ext (lex_tri h h2)], by rw [if_neg (by simpa using h), if_neg (by simpa using h2)]⟩)
  · rw [e1] at e2; exact absurd e2 (by decide)
  · rw [e1] at e2; exact absurd e2 (by decide)
  · have d1 : dLt (.int i) (.int j) = decide (i < j) := rfl
    have d2 : dLt (.int j) (.int i) = decide (j < i) := rfl
    unfold cmpI
    rw [d1, d2]
    by_cases h : i < j
    · refine .inl ⟨decide_eq_true h, decide_eq_false (by omega), fun e => ?_, by rw [if_pos (decide_eq_true h)]⟩
      injection e with e
      omega
    · by_cases h2 : j < i
      · refine .inr (.inl ⟨decide_eq_false h, decide_eq_true h2, fun e => ?_, by rw [if_neg (by simpa using h), if_pos (decide_eq_true h2)]⟩)
        injection e with e
        omega
      · have : i = j := by omega
        subst this
        exact .inr (.inr ⟨decide_eq_false h, decide_eq_false h2, rfl, by rw [if_neg (by simpa using h), if_neg (by simpa using h2)]⟩)
theorem wordOk.okD {w : Tx} {v : D} (h : wordOk w v) : okD v := by
  rcases h with ⟨_, x, rfl⟩ | ⟨_, i, rfl⟩ <;> trivial
end Va
namespace Va
open PySem PySem.Spec PyProof.Rows L2 Ind
theorem eq_cmp_s (x y : Tx) : decide (x = y) = decide (cmpI (.str x) (.str y) = 0) := by
  rcases cmp_ways (w := "string") (.inl ⟨rfl, x, rfl⟩) (.inl ⟨rfl, y, rfl⟩) with ⟨_, _, n, e⟩ | ⟨_, _, n, e⟩ | ⟨_, _, n, e⟩ <;> rw [e]
  · rw [decide_eq_false fun z => n (by rw [z])]; rfl
  · rw [decide_eq_false fun z => n (by rw [z])]; rfl
  · injection n with n
    rw [decide_eq_true n]; rfl
theorem eq_cmp_i (x y : Int) : decide (x = y) = decide (cmpI (.int x) (.int y) = 0) := by
  rcases cmp_ways (w := "integer") (.inr ⟨rfl, x, rfl⟩) (.inr ⟨rfl, y, rfl⟩) with ⟨_, _, n, e⟩ | ⟨_, _, n, e⟩ | ⟨_, _, n, e⟩ <;> rw [e]
  · rw [decide_eq_false fun z => n (by rw [z])]; rfl
  · rw [decide_eq_false fun z => n (by rw [z])]; rfl
  · injection n with n
    rw [decide_eq_true n]; rfl
end Va

set_option Elab.async false
set_option linter.all false
set_option maxRecDepth 100000
set_option maxHeartbeats 4000000
namespace Va
open PySem PySem.Spec PyProof.Rows L2 Ind
section
variable {X : Cx} {S : Sg} {e o a : Expr} {p p2 pos pos2 apos cpos : Pos}
/-! ### list(d), dict(d), list(d.values()) -/
theorem call_list_dR (hc : X.calm = true) : CallR X (.type "list") (fun xs H Q => ∃ p kvs, xs = [.ref p] ∧ Rd H p (.dK kvs) ∧ ∀ q, H q = none → Q (.ref q) (upd H q (.lst (kvs.map fun kv => kV kv.1)))) := by
  intro pins s σ H xs us Q I r h
  obtain ⟨p, kvs, ee, hk, q⟩ := h
  subst ee
  obtain ⟨u, eu, rx⟩ := vals1 r
  subst eu
  obtain rfl : u = Value.ref p := rx
  obtain ⟨z, lo, vs, rk, hd⟩ := hk.ok I.hok
  obtain ⟨ep, hat⟩ := hd.dictAt
  have hl : kvs.length = vs.length := Paired.length rk
  refine PySem.W.kdl_call (PySem.W.kdl_dict (knd := mixKind X.prog X.w) (kvs := vs) (ep := ep) lo) (I.ok.hd hc) hat (by rw [← hl]; exact z) fun h' tk acc' c' hkeep hS hacc => ?_
  refine ⟨.ref s.heap.objs.size, upd H s.heap.objs.size (.lst (kvs.map fun kv => kV kv.1)), I.laid hkeep (Nat.le_refl _) (show ObjOk X.prog X.w _ _ _ (.lst (kvs.map fun kv => kV kv.1)) from ⟨?_, acc'.toList, c', ?_, ?_⟩), rfl, q _ (I.hok.fresh (Nat.le_refl _))⟩
  · rw [List.length_map]; exact z
  · have el : acc'.toList.length = acc'.size := by simp
    refine vals_of_at (by rw [List.length_map, el, hacc.1, hl]) fun j x w h1 h2 => ?_
    obtain ⟨k, y, hky, hi⟩ := hacc.2 j w (by rw [← Array.getElem?_toList]; exact h2)
    have e1 : (kvs.map (·.1))[j]? = some k := by
      rw [KV.keys rk, List.getElem?_map, hky] <;> rfl
    have e2 : (kvs.map fun kv => kV kv.1)[j]? = some (kV k) := by
      have e3 : (kvs.map fun kv => kV kv.1) = (kvs.map (·.1)).map kV := by rw [List.map_map] <;> rfl
      rw [e3, List.getElem?_map, e1] <;> rfl
    rw [e2] at h1
    cases h1
    exact keyIs_rel hi
  · rw [Array.toArray_toList]; exact hS
theorem kv_at : ∀ {kvs : List (Key × V)} {vs : List (Key × Value)} {i : Nat} {y : Key × V} {k : Key} {w : Value}, KV kvs vs → kvs[i]? = some y → vs[i]? = some (k, w) → RelV y.2 w
  | _, _, _, _, _, _, .nil, h, _ => by simp at h
  | _, _, 0, _, _, _, .cons r _, h1, h2 => by
    simp only [List.getElem?_cons_zero, Option.some.injEq] at h1 h2
    subst h1; subst h2
    exact r.2
  | _, _, i + 1, _, _, _, .cons _ t, h1, h2 => kv_at (i := i) t (by simpa using h1) (by simpa using h2)
/-- list(e.values()) -/
def tListVals (te : TE) : TE := fun σ H Q => te σ H fun x H1 => ∃ d kvs, x = .ref d ∧ Rd H1 d (.dK kvs) ∧ ∀ q, H1 q = none → Q (.ref q) (upd H1 q (.lst (kvs.map fun kv => kv.2)))
theorem pe_listVals {te : TE} (hc : X.calm = true) (he : PE X e te) (hg : Gl X "list") (hm : X.mg "list" = none) (hv : bootBuiltins "list" = some (.type "list")) (hbase : attributeBase e "values" X.env (eval e X.env) = eval e X.env := by rfl) (hline : (apos.endLine == cpos.line) = true := by rfl)
    (hs : starEach [.Call (.Attribute e "values" apos) [] [] cpos] X.env = (false, eval (.Call (.Attribute e "values" apos) [] [] cpos) X.env) :: starEach [] X.env := by rfl) :
    PE X (.Call (.Name "list" p) [.Call (.Attribute e "values" apos) [] [] cpos] [] pos) (tListVals te) := by
  refine ⟨fun pins s σ H Q I hq => ?_⟩
  refine wpAny_Call_Name_kw (ld_blt I hg hm hv ?_)
  refine PyProof.Rows.callWith_type1 ?_ hs rfl
  rw [hs]
  show wpAny _ _ (spliced ((false, eval (.Call (.Attribute e "values" apos) [] [] cpos) X.env) :: backTo pos (starEach [] X.env))) _ _ s
  refine Calls.spliced_cons ?_
  refine wpAny_Call_method (T := "dict") (id := "dict.values") hbase rfl hline F.plainAttrs_dict F.slot_dict_values F.type_dict_values (thn (he.run pins s σ H _ I hq) fun u s1 ⟨x, H1, I1, rx, d, kvs, ex, hd, q⟩ => ?_)
  subst ex
  obtain rfl : u = Value.ref d := rx
  obtain ⟨hz, hs0, vs, kv, hdo⟩ := hd.ok I1.hok
  obtain ⟨ep, hat⟩ := hdo.dictAt
  have lk : kvs.length = vs.length := Paired.length kv
  have I2 : Inv X pins σ H1 { s1 with heap := s1.heap.push { cls := .type "dict_values", data := .fields #[.ref d] } } := I1.kept (t' := s1.toks) fun b ob q => Heap.get?_push_of_some _ q
  refine ⟨hdo.typeIs, hdo.mapOf.noDict, ?_⟩
  show wpAny _ _ (callWith cpos (.builtin "dict.values") [.ref d] [] []) _ X.xe s1
  refine method_meetsIn F.slot_dict_values F.entry_dict_values rfl (PySem.evalArgs_none ⟨rfl, hdo.typeIs, F.args_dict_values_1 _, _, meets_dict_values (mixKind X.prog X.w) d hs0, ⟨vs, hdo⟩, ?_⟩)
  refine Calls.spliced_nil ?_
  refine PySem.W.kdl_call (PySem.W.kdl_values (knd := mixKind X.prog X.w) (r := s1.heap.objs.size) (d := d) (kvs := vs) (ep := ep)) (I1.ok.hd hc) ⟨⟨_, Heap.get?_push_size _ rfl, rfl, rfl⟩, hat.push _⟩ (by rw [← lk]; exact hz) fun h' tk acc' c' hkeep hS hacc => ?_
  refine ⟨.ref _, upd H1 (s1.heap.push { cls := .type "dict_values", data := .fields #[.ref d] }).objs.size (.lst (kvs.map fun kv => kv.2)), I2.laid hkeep (Nat.le_refl _) (show ObjOk X.prog X.w _ _ _ (.lst (kvs.map fun kv => kv.2)) from ⟨?_, acc'.toList, c', ?_, ?_⟩), rfl, q _ (I2.hok.fresh (Nat.le_refl _))⟩
  · rw [List.length_map]; exact hz
  · have el : acc'.toList.length = acc'.size := by simp
    refine vals_of_at (by rw [List.length_map, el, hacc.1, lk]) fun j x w h1 h2 => ?_
    obtain ⟨k, hky⟩ := hacc.2 j w (by rw [← Array.getElem?_toList]; exact h2)
    rw [List.getElem?_map] at h1
    obtain ⟨y, hy, rfl⟩ := Option.map_eq_some_iff.mp h1
    exact kv_at kv hy hky
  · rw [Array.toArray_toList]; exact hS
def listDG : VC := fun ds Q => match ds with
  | [.lst xs] => Q (.fl xs)
  | [.tup xs] => Q (.fl xs)
  | [.dk kvs] => Q (.fl (kvs.map fun p => key p.1))
  | _ => False
theorem c_listD (hK : S.K = X.K) (hc : X.calm = true) : CallV S X (.type "list") listDG := by
  refine ⟨_, call_list_of.or (call_list_dR hc), ?_⟩
  intro Γ H xs ds Q Q0 eK hx hg k
  have eK' : X.K = Γ.K := (eK.trans hK).symm
  have fin : ∀ (ys : List V) (zs : List D), Γ.RpL H ys zs → Q0 (.fl zs) → ∀ l, H l = none → Q (.ref l) (upd H l (.lst ys)) := fun ys zs h2 hq l nl => by
    have sm := same_upd (o := .lst ys) nl
    exact k _ hq _ _ sm ⟨l, _, rfl, nl, upd_same, RpL.kq (.same sm) _ _ h2⟩
  unfold listDG at hg
  split at hg
  · match hx with
    | .cons h .nil =>
      obtain ⟨p, ys, rfl, h1, h2⟩ := h.seq
      exact .inl ⟨p, ys, rfl, .inl (by rw [eK']; exact h1), fin _ _ h2 hg⟩
  · match hx with
    | .cons h .nil =>
      obtain ⟨p, ys, rfl, h1, h2⟩ := h.tup
      exact .inl ⟨p, ys, rfl, .inr (by rw [eK']; exact h1), fin _ _ h2 hg⟩
  · match hx with
    | .cons h .nil =>
      obtain ⟨p, kv, rfl, h1, h2⟩ := h.dk
      exact .inr ⟨p, kv, rfl, h1, fin _ _ (keys_rp h2) hg⟩
  · exact hg.elim
def dictG : VC := fun ds Q => match ds with
  | [.dk kvs] => Q (.fd kvs)
  | _ => False
theorem c_dict : CallV S X (.type "dict") dictG := by
  refine ⟨_, call_dictD, ?_⟩
  intro Γ H xs ds Q Q0 eK hx hg k
  unfold dictG at hg
  split at hg
  · match hx with
    | .cons h .nil =>
      obtain ⟨p, kv, rfl, h1, h2⟩ := h.dk
      refine ⟨p, kv, rfl, h1, fun l nl => ?_⟩
      have sm := same_upd (o := .dK kv) nl
      exact k _ hg _ _ sm ⟨l, _, rfl, nl, upd_same, RpK.kq (.same sm) _ _ h2⟩
  · exact hg.elim
def dkD (d : D) (Q : List (Key × D) → Prop) : Prop := match d with
  | .dk kvs => Q kvs
  | _ => False
theorem vals_rp {Γ : Gm} {H : Hp} : ∀ {kv : List (Key × V)} {ds : List (Key × D)}, RpK Γ.K Γ.tp H kv ds → Γ.RpL H (kv.map fun p => p.2) (ds.map fun p => p.2)
  | _, [], h => by cases h; exact .nil
  | _, (k, d) :: ds, h => by
    cases h with
    | cons h1 h2 => exact .cons h1 (vals_rp h2)
def vLvals (t : VT) : FT := fun E Q => t E fun d E1 => dkD d fun kvs => Q (.fl (kvs.map fun p => p.2)) E1
theorem fe_listVals {t : VT} (hc : X.calm = true) (hg : Gl X "list") (hm : X.mg "list" = none) (he : VE S X e t) (hv : bootBuiltins "list" = some (.type "list") := by rfl)
    (hbase : attributeBase e "values" X.env (eval e X.env) = eval e X.env := by rfl) (hline : (apos.endLine == cpos.line) = true := by rfl)
    (hs : starEach [.Call (.Attribute e "values" apos) [] [] cpos] X.env = (false, eval (.Call (.Attribute e "values" apos) [] [] cpos) X.env) :: starEach [] X.env := by rfl) :
    FE S X (.Call (.Name "list" p) [.Call (.Attribute e "values" apos) [] [] cpos] [] pos) (vLvals t) := by
  refine pe_weak (pe_listVals hc he hg hm hv hbase hline hs) ?_
  rintro σ H Q ⟨Γ, E, Q0, ok, rp, ht, k⟩
  refine ⟨Γ, E, _, ok, rp, ht, fun d E1 hq x H1 kq1 rp1 hx => ?_⟩
  cases d with
  | dk ds =>
    obtain ⟨a, o, kv, rfl, h1, h2⟩ := hx.dk_inv
    refine ⟨a, kv, rfl, .inr ⟨o, h1⟩, fun q nq => ?_⟩
    have sm := same_upd (o := .lst (kv.map fun p => p.2)) nq
    exact k _ _ hq _ _ (kq1.trans (.same sm)) (rp1.same sm) (RpN.rep (x := .fl _) rp1 sm ⟨q, _, rfl, nq, upd_same, RpL.kq (.same sm) _ _ (vals_rp h2)⟩)
  | _ => exact hq.elim
end
end Va

set_option Elab.async false
set_option linter.all false
set_option maxRecDepth 100000
set_option maxHeartbeats 4000000
namespace Va
open PySem PySem.Spec PyProof.Rows L2 Ind
/-! ### the same data; rows of names; reading a dict -/
/-- data that may be compared by the laws' own comparison, in so many levels -/
def D.sm : Nat → D → Prop
  | 0, _ => False
  | n + 1, d => match d with
    | .tup xs => xs.length < 1000000 ∧ ∀ x ∈ xs, D.sm n x
    | .lst xs => xs.length < 1000000 ∧ ∀ x ∈ xs, D.sm n x
    | .dk kvs => D.sm n (.lst (kvs.map fun p => key p.1)) ∧ D.sm n (.lst (kvs.map fun p => p.2))
    | .non => True
    | .bl _ => True
    | .int _ => True
    | .str _ => True
    | _ => False
theorem rng_len (lo : Int) (n : Nat) : (rng lo n).length = n := by simp [rng]
def strD (r : List Tx) : D := .tup (r.map .str)
def allR : List Tx → List (List Tx)
  | [] => [[]]
  | x :: xs => (allR xs).map (fun r => x :: r) ++ allR xs
theorem allR_len : ∀ ns : List Tx, (allR ns).length = 2 ^ ns.length
  | [] => rfl
  | x :: xs => by
    show ((allR xs).map (fun r => x :: r) ++ allR xs).length = 2 ^ (xs.length + 1)
    rw [List.length_append, List.length_map, allR_len xs, Nat.pow_succ]; omega
theorem allR_sub : ∀ {ns : List Tx} {r : List Tx}, r ∈ allR ns → r.Sublist ns
  | [], r, h => by cases List.mem_singleton.mp h; exact .slnil
  | x :: xs, r, h => by
    rcases List.mem_append.mp h with h | h
    · obtain ⟨r', h', rfl⟩ := List.mem_map.mp h
      exact .cons₂ _ (allR_sub h')
    · exact .cons _ (allR_sub h)
def cD (f : Tx → Int) (ns : List Tx) : List (Key × D) := ns.map fun x => (.inr x, .int (f x))
theorem look_cD (f : Tx → Int) {x : Tx} : ∀ {ns : List Tx}, x ∈ ns → look (cD f ns) (.inr x) = some (.int (f x))
  | y :: ns, h => by
    unfold look cD
    rw [List.map_cons, List.find?_cons]
    by_cases e : y = x
    · subst e
      simp
    · have e2 : ¬ ((Sum.inr y : Key) = Sum.inr x) := fun z => e (Sum.inr.inj z)
      simp only [decide_eq_false e2]
      rcases List.mem_cons.mp h with rfl | h
      · exact absurd rfl e
      · exact look_cD f h
theorem any_cD (f : Tx → Int) (x : Tx) : ∀ ns : List Tx, ((cD f ns).any fun kv => decide (kv.1 = Sum.inr x)) = decide (x ∈ ns)
  | [] => rfl
  | y :: xs => by
    show (decide ((Sum.inr y : Key) = Sum.inr x) || (cD f xs).any fun kv => decide (kv.1 = Sum.inr x)) = _
    rw [any_cD f x xs]
    by_cases h : y = x
    · subst h; simp
    · have : ¬ ((Sum.inr y : Key) = Sum.inr x) := fun e => h (Sum.inr.inj e)
      simp only [decide_eq_false this, Bool.false_or]
      exact decide_eq_decide.mpr ⟨fun m => List.mem_cons_of_mem _ m, fun m => (List.mem_cons.mp m).elim (fun e => absurd e.symm h) id⟩
theorem put_cD (f : Tx → Int) {x : Tx} {v : Int} {ns : List Tx} (h : x ∉ ns) : putD (cD f ns) (.inr x) (.int v) = cD (fun y => if y = x then v else f y) (ns ++ [x]) := by
  unfold putD
  rw [any_cD, if_neg (by simpa using h)]
  unfold cD
  rw [List.map_append]
  congr 1
  · refine List.map_congr_left fun y hy => ?_
    show _ = ((Sum.inr y : Key), D.int (if y = x then v else f y))
    rw [if_neg (fun e => h (by rw [← e]; exact hy))]
  · simp
theorem sm_strs {n : Nat} {xs : List Tx} (h : xs.length < 1000000) : D.sm (n + 2) (.lst (xs.map .str)) := ⟨by rw [List.length_map]; exact h, fun x hx => by obtain ⟨y, _, rfl⟩ := List.mem_map.mp hx; exact trivial⟩
theorem sm_strT {n : Nat} {xs : List Tx} (h : xs.length < 1000000) : D.sm (n + 2) (strD xs) := ⟨by rw [List.length_map]; exact h, fun x hx => by obtain ⟨y, _, rfl⟩ := List.mem_map.mp hx; exact trivial⟩
theorem sm_cD {n : Nat} {f : Tx → Int} {ns : List Tx} (h : ns.length < 1000000) : D.sm (n + 3) (.dk (cD f ns)) := by
  refine ⟨⟨by rw [List.length_map, cD, List.length_map]; exact h, fun x hx => ?_⟩, ⟨by rw [List.length_map, cD, List.length_map]; exact h, fun x hx => ?_⟩⟩
  · obtain ⟨p, hp, rfl⟩ := List.mem_map.mp hx
    obtain ⟨y, _, rfl⟩ := List.mem_map.mp hp
    exact trivial
  · obtain ⟨p, hp, rfl⟩ := List.mem_map.mp hx
    obtain ⟨y, _, rfl⟩ := List.mem_map.mp hp
    exact trivial
theorem not_before {α : Type} {ns : List α} {i : Nat} {x : α} (nd : ns.Nodup) (e : ns[i]? = some x) : x ∉ ns.take i := by
  intro h
  have n2 : (ns.take (i + 1)).Nodup := nd.sublist (List.take_sublist _ _)
  rw [take_more e] at n2
  exact (List.nodup_append.mp n2).2.2 x h x (by simp) rfl
end Va

set_option Elab.async false
set_option linter.all false
set_option maxRecDepth 100000
set_option maxHeartbeats 4000000
namespace Va
open PySem PySem.Spec PyProof.Rows L2 Ind
section
variable {X : Cx} {S : Sg} {e o a b i value : Expr} {p p2 pos pos2 pos' apos cpos : Pos}
/-! ### is True, is False -/
theorem op_isB2 : OpR X (compareOp .Is) (fun x y H Q => ∃ b : Bool, y = .bl b ∧ ((x = .non ∧ Q (.bl false) H) ∨ ∃ a, x = .bl a ∧ Q (.bl (decide (a = b))) H)) := by
  intro pins s σ H x y v u Q I rx ry h
  obtain ⟨b, rfl, h⟩ := h
  rcases h with ⟨rfl, q⟩ | ⟨a, rfl, q⟩
  · cases (show u = Value.bool b from ry)
    cases (show v = Value.none from rx)
    exact wpAny_is_other rfl (fun z => by cases z) ⟨.bl false, H, I, rfl, q⟩
  · exact op_isBl pins s σ H _ _ v u Q I rx ry ⟨a, b, rfl, rfl, q⟩
def isBG : VO := fun d e Q => match d, e with
  | .non, .bl _ => Q (.v (.bl false))
  | .bl a, .bl b => Q (.v (.bl (decide (a = b))))
  | _, _ => False
theorem o_isB : OpV S X (compareOp .Is) isBG := by
  refine ⟨_, op_isB2, ?_⟩
  intro Γ H x y d e Q Q0 eK hx hy hg k
  unfold isBG at hg
  split at hg
  · refine ⟨_, hy.bl, .inl ⟨hx.non, k _ hg _ _ (Same.refl _) (.bl _)⟩⟩
  · exact ⟨_, hy.bl, .inr ⟨_, hx.bl, k _ hg _ _ (Same.refl _) (.bl _)⟩⟩
  · exact hg.elim
/-! ### sorted(names) -/
def sortedG : VC := fun ds Q => match ds with
  | [.lst xs] => ∃ ns : List Tx, xs = ns.map .str ∧ ns.length < 64 ∧ ∀ ms : List Tx, ms.Perm ns → sortedS ms = true → Q (.fl (ms.map .str))
  | _ => False
theorem strs_rp2 {K : PySem.W.Frag} {tp : Option Tp} {H : Hp} : ∀ ys : List Tx, RpL K tp H (ys.map V.str) (ys.map .str)
  | [] => .nil
  | y :: ys => .cons (.str y) (strs_rp2 ys)
theorem c_sortedS (hK : S.K = X.K) : CallV S X (.builtin "sorted") sortedG := by
  refine ⟨_, cr_sortedS, ?_⟩
  intro Γ H xs ds Q Q0 eK hx hg k
  have eK' : X.K = Γ.K := (eK.trans hK).symm
  unfold sortedG at hg
  split at hg
  · obtain ⟨ns, rfl, hl, hg⟩ := hg
    match hx with
    | .cons h .nil =>
      obtain ⟨q, ys, rfl, h1, h2⟩ := h.seq
      have ey := strs_back h2
      subst ey
      refine ⟨q, ns, rfl, by rw [eK']; exact h1, hl, fun ms l pm sm nl => ?_⟩
      exact k _ (hg ms pm sm) _ _ (same_upd nl) ⟨l, _, rfl, nl, upd_same, strs_rp2 ms⟩
  · exact hg.elim
/-! ### dict(pairs), d.get(k) -/
def prD (kvs : List (Tx × D)) : List D := kvs.map fun p => .tup [.str p.1, p.2]
def prK (kvs : List (Tx × D)) : List (Key × D) := kvs.map fun p => (.inr p.1, p.2)
def dictPG : VC := fun ds Q => match ds with
  | [.dk kvs] => Q (.fd kvs)
  | [.ptp xs] => ∃ kvs : List (Tx × D), xs = prD kvs ∧ (kvs.map (·.1)).Nodup ∧ Q (.fd (prK kvs))
  | _ => False
theorem merge_new : ∀ (more kvs : List (Key × V)), (∀ p ∈ more, valV kvs p.1 = none) → (more.map (·.1)).Nodup → mergeK kvs more = kvs ++ more
  | [], kvs, _, _ => by simp [mergeK]
  | p :: more, kvs, h, nd => by
    have nd' := List.nodup_cons.mp nd
    show mergeK (putK kvs p.1 p.2) more = _
    rw [putK_new _ (h p (by simp)), merge_new more _ (fun r hr => ?_) nd'.2]
    · simp
    · rw [valV_snoc _ _ _ _ (h p (by simp)), if_neg (fun e => nd'.1 (by show p.1 ∈ _; rw [← e]; exact List.mem_map_of_mem hr))]
      exact h r (by simp [hr])
theorem pairs_rp {K : PySem.W.Frag} {tp : Option Tp} {H : Hp} {kvs : List (Tx × D)} {vs : List V} (h : RpL K tp H vs (prD kvs)) : ∃ (ps : List Addr) (kv : List (Key × V)), vs = ps.map V.ref ∧ Paired (fun p kv => SqT K H p [kV kv.1, kv.2]) ps kv ∧ RpK K tp H kv (prK kvs) := by
  induction kvs generalizing vs with
  | nil => cases h; exact ⟨[], [], rfl, .nil, .nil⟩
  | cons q kvs ih =>
    cases h with
    | cons h1 h2 =>
      obtain ⟨ps, kv, rfl, h3, h4⟩ := ih h2
      obtain ⟨a, xs, rfl, h5, h6⟩ := h1.tup_inv
      cases h6 with
      | cons hk h6 =>
        cases h6 with
        | cons hv h6 =>
          cases h6
          have hk := hk.str_inv
          subst hk
          exact ⟨a :: ps, (.inr q.1, _) :: kv, rfl, .cons h5 h3, .cons hv h4⟩
theorem c_dictP (hK : S.K = X.K) (calm : X.calm = true) : CallV S X (.type "dict") dictPG := by
  refine ⟨_, call_dictD.or (call_dictT calm), ?_⟩
  intro Γ H xs ds Q Q0 eK hx hg k
  have eK' : X.K = Γ.K := (eK.trans hK).symm
  unfold dictPG at hg
  split at hg
  · match hx with
    | .cons h .nil =>
      obtain ⟨p, kv, rfl, h1, h2⟩ := h.dk
      refine .inl ⟨p, kv, rfl, h1, fun l nl => ?_⟩
      have sm := same_upd (o := .dK kv) nl
      exact k _ hg _ _ sm ⟨l, _, rfl, nl, upd_same, RpK.kq (.same sm) _ _ h2⟩
  · obtain ⟨kvs, rfl, nd, hg⟩ := hg
    match hx with
    | .cons (.v h) .nil =>
      obtain ⟨a, o, ys, rfl, h1, h2, h3⟩ := h.ptp_inv
      obtain ⟨ps, kv, rfl, h4, h5⟩ := pairs_rp h3
      refine .inr ⟨a, o, ps, kv, rfl, h1, h2, by rw [eK']; exact h4, fun l nl => ?_⟩
      have ek := h5.keys
      have nk : (kv.map (·.1)).Nodup := by
        rw [ek]
        have e2 : (prK kvs).map (·.1) = (kvs.map (·.1)).map Sum.inr := by simp [prK]
        rw [e2]
        exact nd.map _ fun _ _ z e => z (Sum.inr.inj e)
      have em : mergeK [] kv = kv := by rw [merge_new kv [] (fun _ _ => rfl) nk]; rfl
      rw [em]
      have sm := same_upd (o := .dK kv) nl
      exact k _ hg _ _ sm ⟨l, _, rfl, nl, upd_same, RpK.kq (.same sm) _ _ h5⟩
  · exact hg.elim
def vGet (t u : VT) : FT := fun E Q => t E fun d E1 => dkD d fun kvs => u E1 fun kd E2 => ∃ k, keyOf kd = some k ∧ Q (.v ((look kvs k).getD .non)) E2
theorem fe_get {t u : VT} (hu : X.A.units + 1 < cLine) (ho : VE S X o t) (he : VE S X e u) (m : M1 X o "get" apos e cpos := by exact ⟨rfl, rfl, rfl, rfl⟩) : FE S X (.Call (.Attribute o "get" apos) [e] [] cpos) (vGet t u) := by
  refine pe_weak (pe_dget1 hu ho he m) ?_
  rintro σ H Q ⟨Γ, E, Q0, ok, rp, ht, k⟩
  refine ⟨Γ, E, _, ok, rp, ht, fun d E1 hq x H1 kq1 rp1 hx => ?_⟩
  cases d with
  | dk ds =>
    obtain ⟨p, o, kv, rfl, h1, h2⟩ := hx.dk_inv
    refine ⟨p, rfl, .inl ⟨kv, .inr ⟨o, h1⟩⟩, ?_⟩
    refine ⟨Γ, E1, _, ok, rp1, hq, fun kd E2 hq2 y H2 kq2 rp2 hy => ?_⟩
    obtain ⟨kk, ek, hq2⟩ := hq2
    have ey := keyOf_rp (.v hy) ek
    subst ey
    have hs := RpK.val (k := kk) (RpK.kq kq2 _ _ h2)
    refine ⟨valV kv kk, .inl ⟨kv, kk, .inr ⟨o, kq2.frz _ _ _ h1⟩, rfl, rfl⟩, ?_⟩
    unfold look at hq2
    cases hf : ds.find? fun p => decide (p.1 = kk) with
    | none =>
      rw [hf] at hs hq2
      rw [hs]
      exact k _ _ hq2 _ _ (kq1.trans kq2) rp2 .non
    | some pr =>
      rw [hf] at hs hq2
      obtain ⟨v, ev, rv⟩ := hs
      rw [ev]
      exact k _ _ hq2 _ _ (kq1.trans kq2) rp2 rv
  | _ => exact hq.elim
/-! ### xs[i] = v, xs a list of one's own -/
def sLput (j : Nat) (ti tv : VT) : VS := fun V E => tv E fun v E1 => onL E1.l[j]? fun _ => ti E1 fun kd E2 => onL E2.l[j]? fun ds => ∃ (i : Int) (n : Nat), kd = .int i ∧ ixN ds.length i = some n ∧ V.nx (E2.set j (.ol (ds.set n v)))
theorem vs_lput {j : Nat} {ti tv : VT} (ho : PE X o (tVar j)) (hi : VE S X i ti) (hv : VE S X value tv) (hs : swapsWithSole [.Subscript o i pos'] value pos.line X.env = pure false := by rfl) (hw : swappedStores [.Subscript o i pos'] value X.env = pure none := by rfl)
    (h1 : (assignEach [.Subscript o i pos'] X.env).map (·.2) = [assign (.Subscript o i pos') X.env] := by rfl)
    (ha : ∀ v, assign (.Subscript o i pos') X.env v = (do
      let ov ← holding [v] (eval o X.env)
      let iv ← holding [v, ov] (eval i X.env)
      standAt pos'
      holding [v, ov, iv] (setItem ov iv v)
      release [v, ov, iv] []) := by intro _; rfl) :
    VSt S X (.Assign [.Subscript o i pos'] value pos) (sLput j ti tv) := by
  refine ps_weak (ps_asg hv (pg_sub ho hi set_list ha) hs hw h1) ?_
  rintro D0 σ H ⟨Γ, E, V, ok, rp, ht, k⟩
  refine ⟨Γ, E, _, ok, rp, ht, fun d E1 hq v H1 kq1 rp1 hv1 => ?_⟩
  obtain ⟨ds1, e1, hq⟩ := onL_inv hq
  obtain ⟨p1, xs1, hs1, hd1, _, _⟩ := own_list rp1 e1
  refine ⟨_, hs1, ?_⟩
  refine ⟨Γ, E1, _, ok, rp1, hq, fun kd E2 hq2 y H2 kq2 rp2 hy => ?_⟩
  obtain ⟨ds2, e2, i2, n2, rfl, en, hq3⟩ := onL_inv hq2
  obtain ⟨p2, xs2, hs2, hd2, hr2, fr2⟩ := own_list rp2 e2
  rw [hs1] at hs2
  cases hs2
  have ey := hy.int_inv
  subst ey
  obtain ⟨kq3, rp3⟩ := rp2.wrL e2 hs1 hd2 fr2 (RpL.set (Rp.kq kq2 _ _ hv1) n2 hr2)
  exact ⟨p1, xs2, _, _, rfl, rfl, hd2, by rw [hr2.len]; exact en, k.nx _ hq3 σ _ ((kq1.trans kq2).trans kq3) rp3⟩
end
end Va

set_option Elab.async false
set_option linter.all false
set_option maxRecDepth 100000
set_option maxHeartbeats 4000000
/-! sorted(pairs of a text and a bool), the texts different -/
namespace SrtB
open PySem PyProof.Rows Srt SrtO
section
variable {prog : Program} {w : World} {A : Around} {E : Value → Shared → Prop} {s : Shared}
def IsSB (h : Heap) (v : Value) (p : Str × Bool) : Prop := ∃ a o t n, v = .ref a ∧ h.get? a = some o ∧ o.cls = .type "tuple" ∧ o.data = .seq #[.str p.1 t, .bool p.2] n
theorem IsSB.keeps {h h' : Heap} {v : Value} {x : Str × Bool} (p : IsSB h v x) (k : ∀ b o, h.get? b = some o → o.cls = .type "tuple" → h'.get? b = some o) : IsSB h' v x := by
  obtain ⟨a, o, t, n, e, ho, hc, hd⟩ := p
  exact ⟨a, o, t, n, e, k _ _ ho hc, hc, hd⟩
theorem IsSB.inj {h : Heap} {v : Value} {p q : Str × Bool} (x : IsSB h v p) (y : IsSB h v q) : p = q := by
  obtain ⟨a, o, t, n, e, ho, hc, hd⟩ := x
  obtain ⟨a', o', t', n', e', ho', hc', hd'⟩ := y
  have ea : a = a' := Value.ref.inj (e.symm.trans e')
  subst ea
  have eo : o = o' := Option.some.inj (ho.symm.trans ho')
  subst eo
  have ed := (Data.seq.inj (hd.symm.trans hd')).1
  have el := congrArg Array.toList ed
  have e1 := (List.cons.inj el).1
  have e2 := (List.cons.inj (List.cons.inj el).2).1
  exact Prod.ext (Value.str.inj e1).1 (Value.bool.inj e2)
theorem kS_ex (h : Heap) : ∃ f : Value → Str × Bool, ∀ v p, IsSB h v p → f v = p := by
  classical
  refine ⟨fun v => if x : ∃ p, IsSB h v p then Classical.choose x else (⟨#[]⟩, false), fun v p x => ?_⟩
  have y : ∃ p, IsSB h v p := ⟨p, x⟩
  show (if x : ∃ p, IsSB h v p then Classical.choose x else (⟨#[]⟩, false)) = p
  rw [dif_pos y]
  exact (Classical.choose_spec y).inj x
theorem firsts_sb {h : Heap} : ∀ {vs : List Value}, (∀ v ∈ vs, ∃ x, IsSB h v x) → ∃ fs : List Value, PySem.W.KatTups h vs fs ∧ fs.length = vs.length ∧ ∀ f ∈ fs, ∃ x t, f = Value.str x t
  | [], _ => ⟨[], PySem.W.KatTups.nil, rfl, fun _ hm => by simp at hm⟩
  | v :: vs, hp => by
    obtain ⟨fs, h1, h2, h3⟩ := firsts_sb (vs := vs) fun v' hm => hp v' (List.mem_cons_of_mem _ hm)
    obtain ⟨x, a, o, t, n, e, ho, hc, hd⟩ := hp v (List.mem_cons_self ..)
    subst e
    refine ⟨.str x.1 t :: fs, PySem.W.KatTups.cons ho hc hd rfl h1, by rw [List.length_cons, List.length_cons, h2], fun f hm => ?_⟩
    rcases List.mem_cons.mp hm with rfl | hm
    · exact ⟨_, t, rfl⟩
    · exact h3 f hm
def ltS (a b : Str) : Bool := decide (a.cps.toList < b.cps.toList)
theorem swo_s {α : Type} (k : α → Str) : Swo fun v u => ltS (k v) (k u) := by
  refine ⟨fun x y h => ?_, fun x y z h1 h2 => ?_⟩
  · have a := of_decide_eq_true h
    exact decide_eq_false (fun b => List.lt_asymm a b)
  · have a := of_decide_eq_false h1
    have b := of_decide_eq_false h2
    refine decide_eq_false fun c => ?_
    have a' := List.not_lt.mp a
    have b' := List.not_lt.mp b
    exact List.not_lt.mpr (List.le_trans a' b') c
theorem sb_cmp {vs : List Value} {k : Value → Str × Bool} (hp : ∀ v ∈ vs, IsSB s.heap v (k v)) (one : ∀ v ∈ vs, ∀ u ∈ vs, (k v).1 = (k u).1 → (k v).2 = (k u).2) : Cmp prog w A s (tuples' true) (fun p => p.1 ∈ vs) (lt2 fun v u => ltS (k v).1 (k u).1) := by
  intro p q hm hm'
  have h1 := hp _ hm
  have h2 := hp _ hm'
  have h3 := one _ hm _ hm'
  show wpAny (model prog w) A (keyLt' (tuples' true) p.1 q.1) (fun r s' => s' = s ∧ r = ltS (k p.1).1 (k q.1).1) (fun _ _ => False) s
  generalize (k p.1) = x at h1 h3 ⊢
  generalize (k q.1) = x' at h2 h3 ⊢
  obtain ⟨a, o, t, n, e, ho, hc, hd⟩ := h1
  obtain ⟨a', o', t', n', e', ho', hc', hd'⟩ := h2
  rw [e, e']
  refine PySem.W.kat_lt ho hd ho' hd' ?_
  show PySem.W.KatLex prog w A true (decide (2 < 2)) _ [(.str x.1 t, .str x'.1 t'), (.bool x.2, .bool x'.2)] 0 s
  refine PySem.W.kat_cons (SeqAt.EqAt.str_str x.1 t x'.1 t' prog w _ _ ?_)
  refine PySem.W.kat_go (fun e1 => ?_) (fun e1 => ?_)
  · have ex : x.1 = x'.1 := by simpa using e1
    refine PySem.W.kat_yes (PySem.W.kat_cons (SeqAt.EqAt.bool_bool x.2 x'.2 prog w _ _ ?_))
    refine PySem.W.kat_go (fun e2 => ?_) (fun e2 => ?_)
    · refine PySem.W.kat_yes (PySem.W.kat_nil ⟨rfl, ?_⟩)
      rw [ex]
      exact (decide_eq_false (List.lt_irrefl _)).symm
    · rw [h3 ex] at e2
      simp at e2
  · exact PySem.W.kat_no (oneLt_str ⟨rfl, rfl⟩)
theorem sb_sortable {a : Addr} {vs : List Value} {k : Value → Str × Bool} (h0 : 0 < vs.length) (hp : ∀ v ∈ vs, IsSB s.heap v (k v)) (one : ∀ v ∈ vs, ∀ u ∈ vs, (k v).1 = (k u).1 → (k v).2 = (k u).2) (ha : ∀ o, s.heap.get? a = some o → o.cls ≠ .type "tuple") : SortableO prog w A s a vs fun v u => ltS (k v).1 (k u).1 := by
  intro h' keep
  have hp' : ∀ v ∈ vs, IsSB h' v (k v) := fun v hm => (hp v hm).keeps fun b o e c => keep b o (fun z => by subst z; exact ha o e c) e
  obtain ⟨fs, h1, h2, h3⟩ := firsts_sb fun v hm => ⟨_, hp' v hm⟩
  refine ⟨tuples' true, fun Q E hq => ?_, sb_cmp hp' one⟩
  refine PySem.W.kat_kind (T := .type "str") h1 (by omega) (fun f hm => ?_) (by rfl) ?_
  · obtain ⟨x, t, rfl⟩ := h3 f hm
    exact PySem.W.Looks.now
  · have e : (Value.type "str" != Value.type "tuple") = true := by first | decide +kernel | rfl | decide
    rw [e]
    exact hq
theorem sorted_sb {l : Addr} {vs : List Value} {k : Value → Str × Bool} {Q : Value → Shared → Prop} (hl : s.heap.IsList l vs.toArray) (hz : vs.length ≤ sizeLine) (hp : ∀ v ∈ vs, IsSB s.heap v (k v)) (one : ∀ v ∈ vs, ∀ u ∈ vs, (k v).1 = (k u).1 → (k v).2 = (k u).2)
    (h : ∀ (h' : Heap) (d : Addr) (out : List Value), Srtd (fun v u => ltS (k v).1 (k u).1) out → Stb (fun v u => ltS (k v).1 (k u).1) out vs → (∀ b o, s.heap.get? b = some o → h'.get? b = some o) → s.heap.objs.size ≤ d → (∃ n, h'.get? d = some (seqObj "list" out.toArray n)) → Q (.ref d) { s with heap := h' }) :
    wpAny (model prog w) A (call (.builtin "sorted") [.ref l]) Q E s := by
  refine sorted_ord (swo_s fun v => (k v).1) hl hz (fun h2 h₁ a ha kk => ?_) fun out hs hb => ?_
  · refine sb_sortable (s := { s with heap := h₁ }) (by omega) (fun v hm => (hp v hm).keeps fun b o e _ => (kk b o e).2) one fun o e => ?_
    have e' : some o = some (seqObj "list" vs.toArray 0) := e.symm.trans ha
    cases e'
    intro c
    exact absurd (Value.type.inj c) (by decide)
  · exact h _ _ out hs hb (fun b o e => sortedAll_old e) (Nat.le_succ _) (sortedAll_at s.heap vs out.toArray)
end
end SrtB
namespace L2
open PySem PySem.Spec PyProof.Rows SrtB
abbrev PrSB (K : PySem.W.Frag) (H : Hp) (v : V) (p : Str × Bool) : Prop := ∃ t, v = V.ref t ∧ SqT K H t [.str p.1, .bl p.2]
def rSortedSB (K : PySem.W.Frag) : List V → Hp → VK → Prop := fun vs H Q => ∃ (a : Addr) (xs : List V) (prs : List (Str × Bool)), vs = [V.ref a] ∧ SqL K H a xs ∧ Paired (PrSB K H) xs prs ∧ (prs.map (·.1)).Nodup ∧
  ∀ ys qs p, Paired (PrSB K H) ys qs → qs.Perm prs → (qs.map (·.1)).Pairwise (fun x y => ltS y x = false) → H p = none → Q (.ref p) (upd H p (.lst ys))
theorem paired_mem {α β : Type} {R : α → β → Prop} : ∀ {xs : List α} {ys : List β}, Paired R xs ys → ∀ x ∈ xs, ∃ y ∈ ys, R x y
  | _, _, .nil, x, h => by simp at h
  | _, _, .cons r t, x, h => by
    rcases List.mem_cons.mp h with rfl | h
    · exact ⟨_, List.mem_cons_self, r⟩
    · obtain ⟨y, hy, q⟩ := paired_mem t x h
      exact ⟨y, List.mem_cons_of_mem _ hy, q⟩
theorem paired_map {α β : Type} {R : α → β → Prop} {f : α → β} : ∀ {xs : List α}, (∀ x ∈ xs, R x (f x)) → Paired R xs (xs.map f)
  | [], _ => .nil
  | x :: xs, h => .cons (h x List.mem_cons_self) (paired_map fun y hy => h y (List.mem_cons_of_mem _ hy))
theorem paired_map_eq {α β γ : Type} {R : α → β → Prop} {S : α → γ → Prop} {f : γ → β} : ∀ {xs : List α} {ys : List β} {us : List γ}, Paired R xs ys → Paired S xs us → (∀ x y u, R x y → S x u → f u = y) → us.map f = ys
  | _, _, _, .nil, .nil, _ => rfl
  | _, _, _, .cons r t, .cons r' t', h => by
    rw [List.map_cons, h _ _ _ r r', paired_map_eq t t' h]
section
variable {X : Cx}
theorem Inv.sb {pins : List (Addr × Obj)} {σ : St} {H : Hp} {s : Shared} (I : Inv X pins σ H s) {v : V} {u : Value} {p : Str × Bool} (h : PrSB X.K H v p) (r : RelV v u) : IsSB s.heap u p := by
  obtain ⟨t, rfl, hs⟩ := h
  obtain ⟨its, rv, ⟨o, e, hc, n, hd⟩, _⟩ := I.tuple hs
  obtain rfl : u = Value.ref t := r
  obtain ⟨u1, u2, rfl, r1, r2⟩ := vals2 rv
  obtain ⟨t1, rfl⟩ := r1
  obtain rfl : u2 = Value.bool p.2 := r2
  exact ⟨t, o, t1, n, rfl, e, hc, hd⟩
theorem cr_sortedSB : CallR X (.builtin "sorted") (rSortedSB X.K) := by
  intro pins s σ H vs us Q I r h
  obtain ⟨a, xs, prs, rfl, hs, hx, nd, q⟩ := h
  obtain ⟨its, rv, hl, hz⟩ := I.list hs
  obtain ⟨u, rfl, ru⟩ := vals1 r
  obtain rfl : u = Value.ref a := ru
  obtain ⟨e1, e2⟩ := refs_back rv fun x m => by
    obtain ⟨y, _, t, e, _⟩ := paired_mem hx x m
    exact ⟨t, e⟩
  obtain ⟨f, hf⟩ := kS_ex s.heap
  have ek : its.map f = prs := paired_map_eq (S := fun v u => RelV v u) hx rv fun x y u h1 h2 => hf _ _ (I.sb h1 h2)
  have hv : ∀ u ∈ its, PrSB X.K H (backV u) (f u) := fun u hu => by
    have m : backV u ∈ xs := by rw [e1]; exact List.mem_map.mpr ⟨u, hu, rfl⟩
    obtain ⟨y, _, h⟩ := paired_mem hx _ m
    obtain ⟨t, rfl⟩ := e2 u hu
    rw [hf _ _ (I.sb h (show RelV (backV (.ref t)) (.ref t) from rfl))]
    exact h
  have nd' : (its.map fun u => (f u).1).Nodup := by
    have : its.map (fun u => (f u).1) = prs.map (·.1) := by rw [← ek, List.map_map]; rfl
    rw [this]
    exact nd
  have inj : ∀ v ∈ its, ∀ u ∈ its, (f v).1 = (f u).1 → v = u := fun v hv u hu e => by
    obtain ⟨i, hi, rfl⟩ := List.getElem_of_mem hv
    obtain ⟨j, hj, rfl⟩ := List.getElem_of_mem hu
    have e' : (its.map fun u => (f u).1)[i]'(by simpa using hi) = (its.map fun u => (f u).1)[j]'(by simpa using hj) := by
      simpa using e
    have pw := List.pairwise_iff_getElem.mp nd'
    rcases Nat.lt_trichotomy i j with z | z | z
    · exact absurd e' (pw i j _ _ z)
    · subst z
      rfl
    · exact absurd e'.symm (pw j i _ _ z)
  refine sorted_sb (k := f) hl.isList (by rw [← rv.length]; exact hz) (fun v hm => ?_) (fun v hv u hu e => by rw [inj v hv u hu e]) fun h' d out h1 h2 kp hd hn => ?_
  · obtain ⟨t, rfl⟩ := e2 v hm
    exact I.sb (hv _ hm) rfl
  · have h3 : ∀ u ∈ out, ∃ a, u = Value.ref a := fun u hu => e2 u (h2.perm.mem_iff.mp hu)
    obtain ⟨n, hn⟩ := hn
    refine ⟨.ref d, upd H d (.lst (out.map backV)), I.laid (t' := s.toks) kp hd ⟨?_, out, n, vals_back h3, hn⟩, rfl, q _ (out.map (f)) d ?_ ?_ ?_ (I.hok.fresh hd)⟩
    · rw [List.length_map, h2.perm.length_eq, ← rv.length]
      exact hz
    · have : ∀ l : List Value, (∀ u ∈ l, PrSB X.K H (backV u) (f u)) → Paired (PrSB X.K H) (l.map backV) (l.map (f)) := by
        intro l
        induction l with
        | nil => intro _; exact .nil
        | cons u l ih => intro h; exact .cons (h u List.mem_cons_self) (ih fun v hv => h v (List.mem_cons_of_mem _ hv))
      exact this out fun u hu => hv u (h2.perm.mem_iff.mp hu)
    · rw [← ek]
      exact h2.perm.map _
    · rw [List.map_map]
      exact List.pairwise_map.mpr h1
end
end L2
namespace Va
open PySem PySem.Spec PyProof.Rows L2 Ind SrtB
section
variable {X : Cx} {S : Sg} {e o a b c i value : Expr} {p p2 pos pos2 : Pos}
/-! the scope of a comprehension that stands alone in a statement -/
def lcScope : Expr → Scope
  | .ListComp _ _ sc _ => sc
  | _ => { kind := .function, names := [], isGenerator := false, isCoroutine := false, more := [] }
def stVal : Stmt → Expr
  | .Assign _ e _ => e
  | .Return (some e) _ => e
  | _ => .Constant .none 0 ⟨0, 0, 0, 0⟩
/-- pairs of a name and a bool -/
def sbD (prs : List (Tx × Bool)) : List D := prs.map fun p => .tup [.str p.1, .bl p.2]
def sortedBG : VC := fun ds Q => match ds with
  | [.lst xs] => ∃ prs : List (Tx × Bool), xs = sbD prs ∧ (prs.map (·.1)).Nodup ∧ ∀ qs : List (Tx × Bool), qs.Perm prs → (qs.map (·.1)).Pairwise (fun x y => ltS y x = false) → Q (.fl (sbD qs))
  | _ => False
theorem sb_rp {K : PySem.W.Frag} {tp : Option Tp} {H : Hp} {prs : List (Tx × Bool)} {vs : List V} (h : RpL K tp H vs (sbD prs)) : Paired (PrSB K H) vs prs := by
  induction prs generalizing vs with
  | nil => cases h; exact .nil
  | cons q prs ih =>
    cases h with
    | cons h1 h2 =>
      obtain ⟨a, xs, rfl, h5, h6⟩ := h1.tup_inv
      cases h6 with
      | cons k1 h6 =>
        cases h6 with
        | cons k2 h6 =>
          cases h6
          cases k1
          cases k2
          exact .cons ⟨a, rfl, h5⟩ (ih h2)
theorem rp_sb {K : PySem.W.Frag} {tp : Option Tp} {H : Hp} {vs : List V} {prs : List (Tx × Bool)} (h : Paired (PrSB K H) vs prs) : RpL K tp H vs (sbD prs) := by
  induction h with
  | nil => exact .nil
  | cons r _ ih =>
    obtain ⟨t, rfl, h⟩ := r
    exact .cons (.tup h (.cons (.str _) (.cons (.bl _) .nil))) ih
theorem c_sortedB (hK : S.K = X.K) : CallV S X (.builtin "sorted") sortedBG := by
  refine ⟨_, cr_sortedSB, ?_⟩
  intro Γ H xs ds Q Q0 eK hx hg k
  have eK' : X.K = Γ.K := (eK.trans hK).symm
  unfold sortedBG at hg
  split at hg
  · obtain ⟨prs, rfl, nd, hg⟩ := hg
    match hx with
    | .cons h .nil =>
      obtain ⟨q, ys, rfl, h1, h2⟩ := h.seq
      refine ⟨q, ys, prs, rfl, by rw [eK']; exact h1, by rw [eK']; exact sb_rp h2, nd, fun vs qs l hp pm sm nl => ?_⟩
      rw [eK'] at hp
      exact k _ (hg qs pm sm) _ _ (same_upd nl) ⟨l, _, rfl, nl, upd_same, RpL.kq (Kq.same (same_upd nl)) _ _ (rp_sb hp)⟩
  · exact hg.elim
/-! ### all(bools), any(bools) of a list that stands -/
def blsG (f : List Bool → Bool) : VC := fun ds Q => match ds with
  | [.lst xs] => ∃ bs : List Bool, xs = bs.map .bl ∧ Q (.v (.bl (f bs)))
  | _ => False
theorem bls_back {K : PySem.W.Frag} {tp : Option Tp} {H : Hp} : ∀ {bs : List Bool} {vs : List V}, RpL K tp H vs (bs.map .bl) → vs = bs.map V.bl
  | [], _, h => by cases h; rfl
  | b :: bs, _, h => by
    cases h with
    | cons h1 h2 => cases h1; rw [bls_back h2]; rfl
theorem c_anyL (hK : S.K = X.K) (hc : X.calm = true) : CallV S X (.builtin "any") (blsG fun bs => bs.any id) := by
  refine ⟨_, cr_any hc, ?_⟩
  intro Γ H xs ds Q Q0 eK hx hg k
  have eK' : X.K = Γ.K := (eK.trans hK).symm
  unfold blsG at hg
  split at hg
  · obtain ⟨bs, rfl, hg⟩ := hg
    match hx with
    | .cons h .nil =>
      obtain ⟨q, ys, rfl, h1, h2⟩ := h.seq
      have e := bls_back h2
      subst e
      exact ⟨q, bs, rfl, by rw [eK']; exact h1, k _ hg _ _ (Same.refl _) (.bl _)⟩
  · exact hg.elim
theorem c_allL (hK : S.K = X.K) (hc : X.calm = true) : CallV S X (.builtin "all") (blsG fun bs => bs.all id) := by
  refine ⟨_, cr_all hc, ?_⟩
  intro Γ H xs ds Q Q0 eK hx hg k
  have eK' : X.K = Γ.K := (eK.trans hK).symm
  unfold blsG at hg
  split at hg
  · obtain ⟨bs, rfl, hg⟩ := hg
    match hx with
    | .cons h .nil =>
      obtain ⟨q, ys, rfl, h1, h2⟩ := h.seq
      have e := bls_back h2
      subst e
      exact ⟨q, bs, rfl, by rw [eK']; exact h1, k _ hg _ _ (Same.refl _) (.bl _)⟩
  · exact hg.elim
/-! ### a < b < c as a test -/
def vChain (g g' : VO) (ta tb tc : VT) : VTT := fun E Q => ta E fun d E1 => tb E1 fun e E2 => g d e fun z => asB z.d fun k => (k = true → tc E2 fun c E3 => g' e c fun z => asB z.d fun k => Q k E3) ∧ (k = false → Q false E2)
theorem vb_chain {op op' : CmpOp} {g g' : VO} {ta tb tc : VT} (ho : OpV S X (compareOp op) g) (ho' : OpV S X (compareOp op') g') (ha : VE S X a ta) (hb : VE S X b tb) (hc : VE S X c tc) (hm : lastMarks [op, op'] [b, c] = false := by rfl) : VB S X (.Compare a [op, op'] [b, c] pos) (vChain g g' ta tb tc) := by
  obtain ⟨r, h1, h2⟩ := ho.ex
  obtain ⟨r', h1', h2'⟩ := ho'.ex
  refine pt_weak (pt_chain h1 h1' ha hb hc (hm := hm)) ?_
  rintro σ H Q ⟨Γ, E, Q0, ok, rp, ht, k⟩
  refine ⟨Γ, E, _, ok, rp, ht, fun d E1 hq x H1 kq1 rp1 hx => ?_⟩
  refine ⟨Γ, E1, _, ok, rp1, hq, fun e E2 hq2 y H2 kq2 rp2 hy => ?_⟩
  refine h2 Γ H2 x y d e _ _ ok.k (.v (Rp.kq kq2 _ _ hx)) (.v hy) hq2 fun z hz v H' sm hn => ?_
  obtain ⟨b, e1, hb⟩ := asB_inv hz
  cases z with
  | v d =>
    cases e1
    cases hn
    refine ⟨b, rfl, ?_⟩
    have q3 := (kq1.trans kq2).trans (Kq.same sm)
    cases b with
    | false => exact iteF ⟨false, rfl, k _ _ (hb.2 rfl) _ q3 (rp2.same sm)⟩
    | true =>
      refine iteT ⟨Γ, E2, _, ok, rp2.same sm, hb.1 rfl, fun c E3 hq3 w H4 kq4 rp4 hw => ?_⟩
      refine h2' Γ H4 y w e c _ _ ok.k (.v (Rp.kq ((Kq.same sm).trans kq4) _ _ hy)) (.v hw) hq3 fun z hz v H' sm' hn => ?_
      obtain ⟨b, e1, hb⟩ := asB_inv hz
      cases z with
      | v d =>
        cases e1
        cases hn
        exact ⟨b, rfl, k _ _ hb _ ((q3.trans kq4).trans (Kq.same sm')) (rp4.same sm')⟩
      | fl ds => cases e1
      | fd ds => cases e1
  | fl ds => cases e1
  | fd ds => cases e1
end
end Va

set_option Elab.async false
set_option linter.all false
set_option maxRecDepth 100000
set_option maxHeartbeats 4000000
namespace Va
open PySem PySem.Spec PyProof.Rows L2 Ind
/-! ### strategies -/
inductive Stg where
  | res (i : Int)
  | ask (x : Tx) (a b : Stg)
def Stg.d : Stg → D
  | .res i => .tup [.str "result", .int i]
  | .ask x a b => .tup [.str "ask", .str x, a.d, b.d]
def Stg.dep : Stg → Nat
  | .res _ => 0
  | .ask _ a b => max a.dep b.dep + 1
def Stg.ins (ns : List Tx) : Stg → Prop
  | .res _ => True
  | .ask x a b => x ∈ ns ∧ a.ins ns ∧ b.ins ns
def Stg.cost (f : Tx → Int) : Stg → Int
  | .res _ => 0
  | .ask x a b => f x + if b.cost f > a.cost f then b.cost f else a.cost f
def Stg.to (r : List Tx) : Stg → Int
  | .res i => i
  | .ask x a b => if x ∈ r then a.to r else b.to r
end Va

set_option Elab.async false
set_option linter.all false
set_option maxRecDepth 100000
set_option maxHeartbeats 4000000
namespace IndEnd
open PySem PySem.Spec PyProof.Rows L2
/-- what is tracked ahead of the law: the tables, and the script where it is no object of the written part -/
def startT (K : PySem.W.Frag) (a : Addr) (o : Obj) (ns : List Int) (ts : List Addr) : Hp := fun b =>
  if b ∈ ts then some (.tbl #[]) else start0 K a o ns b
theorem startT_in {K : PySem.W.Frag} {a b : Addr} {o : Obj} {ns : List Int} {ts : List Addr} (h : b ∈ ts) : startT K a o ns ts b = some (.tbl #[]) := if_pos h
theorem startT_out {K : PySem.W.Frag} {a b : Addr} {o : Obj} {ns : List Int} {ts : List Addr} (h : b ∉ ts) : startT K a o ns ts b = start0 K a o ns b := if_neg h
theorem startT_some {K : PySem.W.Frag} {a b : Addr} {o : Obj} {ns : List Int} {ts : List Addr} {u : HO} (h : startT K a o ns ts b = some u) : (b ∈ ts ∧ u = .tbl #[]) ∨ (b ∉ ts ∧ b = a ∧ K.lookup a = none ∧ u = .frz o (.lst (ns.map V.int))) := by
  by_cases c : b ∈ ts
  · rw [startT_in c] at h
    exact .inl ⟨c, (Option.some.inj h).symm⟩
  · rw [startT_out c] at h
    exact .inr ⟨c, start0_some h⟩
theorem law_goT {P : Program} {w : World} {K : PySem.W.Frag} {mg mb : Str → Option Value} {fa a : Addr} {s₁ : Shared} {vs : List Value} {ns : List Int} {cs : List (Addr × Addr)}
    (KX : K.In s₁.heap) (hns : s₁.heap.Ns mainGlobals mg) (hb : s₁.heap.Ns builtinsNs mb) (hbb : ∀ x : Str, x ≠ "__name__" → mb x = bootBuiltins x) (hlim : s₁.heap.NoLimit) (hg : s₁.gens = #[])
    (tT : ∀ q ∈ cs, s₁.heap.get? q.2 = some { cls := .none, data := .fields #[] }) (tK : ∀ q ∈ cs, K.lookup q.2 = none) (tC : ∀ q ∈ cs, PySem.W.CodeHd s₁.heap q.1 q.2)
    (tM : ∃ (m : Addr) (om : Obj), mg "__builtins__" = some (.ref m) ∧ m ≠ builtinsNs ∧ s₁.heap.get? m = some om ∧ om.cls = .type "module" ∧ om.dict = some builtinsNs ∧ om.data = .plain)
    (ha : s₁.heap.get? a = some { cls := .type "list", data := .seq vs.toArray }) (hi : IntsAre vs ns) (hl : ns.length ≤ sizeLine)
    (F : ∀ base : Heap, K.In base → base.Ns mainGlobals mg → (∀ q ∈ cs, GxR.TabB base mg q.1 q.2) → ∀ H : Hp, Env0 P w K mg base callerA [] s₁ H → SqL K H a (ns.map V.int) → (∀ q ∈ cs, H q.2 = some (.tbl #[])) →
      codeAny (model P w) callerA (.call (.ref fa) ⟨[.ref a], []⟩) (CR CX0 [] P w H s₁ (fun v _ => v = .bl true) E0) s₁) :
    codeAny (model P w) callerA (.call (.ref fa) ⟨[.ref a], []⟩) (fun r s' => r = .ok (.ret (.bool true)) ∧ OldK s₁.heap s'.heap ∧ s'.os = s₁.os ∧ AllBare s'.gens) s₁ := by
  have rv := vals_ints hi
  have hlen := hi.length
  let o : Obj := { cls := .type "list", data := .seq vs.toArray }
  let ts : List Addr := cs.map (·.2)
  have tin : ∀ {b : Addr}, b ∈ ts → s₁.heap.get? b = some { cls := .none, data := .fields #[] } := fun {b} h => by
    obtain ⟨q, hq, rfl⟩ := List.mem_map.mp h
    exact tT q hq
  have ato : a ∉ ts := fun z => by
    have e := tin z
    rw [ha] at e
    have e2 := congrArg Obj.data (Option.some.inj e)
    cases e2
  let H := startT K a o ns ts
  have SQ : SqL K H a (ns.map V.int) := by
    cases hk : K.lookup a with
    | none => exact .inl (.inr ⟨o, by show startT K a o ns ts a = _; rw [startT_out ato]; unfold start0; rw [if_pos ⟨rfl, hk⟩]⟩)
    | some o' =>
      have e := KX a o' hk
      rw [ha] at e
      cases e
      exact .inr ⟨_, vs.toArray, _, hk, rfl, rfl, rfl, by rw [List.size_toArray, hlen]; exact hl, by simpa using rv⟩
  have OK : HOk P w H s₁.heap := fun b u e => by
    rcases startT_some e with ⟨h1, rfl⟩ | ⟨_, rfl, _, rfl⟩
    · exact tin h1
    · exact ⟨ha, by rw [List.length_map]; exact hl, vs, _, rv, ha⟩
  have under : ∀ {b : Addr} {ob : Obj}, s₁.heap.get? b = some ob → H b = none → (hidT s₁.heap H).get? b = some ob := fun e n => hidT_get e n
  have free : ∀ {b : Addr} {ob : Obj}, s₁.heap.get? b = some ob → (∀ xs n, ob.data ≠ .seq xs n) → ob.data ≠ .fields #[] → H b = none := fun {b ob} e n1 n2 => by
    cases q : H b with
    | none => rfl
    | some u =>
      rcases startT_some q with ⟨h1, _⟩ | ⟨_, rfl, _, _⟩
      · rw [tin h1] at e
        cases e
        exact (n2 rfl).elim
      · rw [ha] at e
        cases e
        exact (n1 _ _ rfl).elim
  have nsp : ∀ {b : Addr} {m : Str → Option Value}, s₁.heap.Ns b m → (hidT s₁.heap H).Ns b m := by
    rintro b m ⟨ob, es, ep, e, d, r⟩
    exact ⟨ob, es, ep, under e (free e (fun _ _ z => by rw [d] at z; cases z) fun z => by rw [d] at z; cases z), d, r⟩
  have KB : K.In (hidT s₁.heap H) := fun b ob e => under (KX b ob e) (by
    cases q : H b with
    | none => rfl
    | some u =>
      rcases startT_some q with ⟨h1, _⟩ | ⟨_, rfl, n, _⟩
      · obtain ⟨p, hp, rfl⟩ := List.mem_map.mp h1
        rw [tK p hp] at e
        cases e
      · rw [n] at e
        cases e)
  have lim2 : (hidT s₁.heap H).NoLimit := by
    obtain ⟨mc, h1, h2⟩ := hlim
    exact ⟨mc, nsp h1, h2⟩
  have e0 : Env0 P w K mg (hidT s₁.heap H) callerA [] s₁ H := by
    refine ⟨rfl, ⟨KB, nsp hns, ⟨mb, nsp hb, hbb⟩, lim2⟩, fun b ob e => of_hidT e, Nat.le_of_eq (hidT_size _ _), trivial, fun b z => ?_, OK, .of_eq hg⟩
    exact absurd (show b ∈ ([] : List Addr) from z) (by simp)
  have TB : ∀ q ∈ cs, GxR.TabB (hidT s₁.heap H) mg q.1 q.2 := by
    intro q hq
    have hTq := tT q hq
    constructor
    · obtain ⟨oc, us, file, tf, flags, tg, inF, text, tt, c1, c2, c3, c4, c5, c6, c7, c8, c9, c10⟩ := tC q hq
      exact ⟨oc, us, file, tf, flags, tg, inF, text, tt, under c1 (free c1 (fun xs n z => by rw [c3] at z; cases z) fun z => by rw [c3] at z; cases z; simp at c4), c2, c3, c4, c5, c6, c7, c8, c9, c10⟩
    · obtain ⟨m, om, b1, b2, b3, b4, b5, b6⟩ := tM
      have nG : m ≠ mainGlobals := by
        rintro rfl
        obtain ⟨og, es, ep, e, d, _⟩ := hns
        rw [e] at b3
        cases b3
        rw [d] at b6
        cases b6
      have nP : m ≠ q.2 := by
        rintro rfl
        rw [hTq] at b3
        cases b3
        cases b6
      exact ⟨m, om, b1, b2, nG, nP, under b3 (free b3 (fun xs n z => by rw [b6] at z; cases z) fun z => by rw [b6] at z; cases z), b4, b5, b6⟩
    · intro z
      obtain ⟨og, es, ep, e, d, _⟩ := hns
      rw [z, hTq] at e
      cases e
      cases d
  refine codeAny_mono (F _ KB (nsp hns) TB H e0 SQ fun q hq => startT_in (List.mem_map.mpr ⟨q, hq, rfl⟩)) fun r s' h => ?_
  match r, h with
  | .error e, h => exact h.elim
  | .ok (.next), h => exact False.elim h
  | .ok (.brk), h => exact False.elim h
  | .ok (.cont), h => exact False.elim h
  | .ok (.ret u), h =>
    obtain ⟨v, H', os, bare, un, ok', rel, q⟩ := h
    have q1 : v = .bl true := q
    subst q1
    have q2 : u = Value.bool true := rel
    subst q2
    have same : ∀ b ob, b ∉ ts → s₁.heap.get? b = some ob → s'.heap.get? b = some ob := by
      intro b ob nb e
      cases q : H b with
      | none => exact un.keep b ob e q (fun z => absurd (show b ∈ ([] : List Addr) from z) (by simp)) (by simp)
      | some u =>
        rcases startT_some q with ⟨h1, _⟩ | ⟨_, rfl, _, rfl⟩
        · exact absurd h1 nb
        · obtain ⟨z, _⟩ := ok' b _ (un.frzs b _ _ q)
          rw [ha] at e
          cases e
          exact z
    have more : ∀ p ∈ cs, ∃ xs : Array Value, s'.heap.get? p.2 = some { cls := .none, data := .fields xs } := by
      intro p hp
      obtain ⟨xs, z⟩ := un.tbls p.2 #[] (startT_in (List.mem_map.mpr ⟨p, hp, rfl⟩))
      exact ⟨_, ok' p.2 _ z⟩
    refine ⟨rfl, ⟨fun b ob e => ?_, fun b ob e => ?_⟩, os, bare⟩
    · by_cases c : b ∈ ts
      · obtain ⟨p, hp, rfl⟩ := List.mem_map.mp c
        obtain ⟨xs, hx⟩ := more p hp
        have e : s₁.heap.get? p.2 = some ob := e
        rw [tT p hp] at e
        cases e
        exact .inr (.inl ⟨((tC p hp).tab (tT p hp)).isCodeTable, rfl, #[], xs, rfl, by rw [Array.empty_append]; exact hx⟩)
      · exact .inl (same b ob c e)
    · by_cases c : b ∈ ts
      · obtain ⟨p, hp, rfl⟩ := List.mem_map.mp c
        obtain ⟨xs, hx⟩ := more p hp
        exact ⟨_, hx⟩
      · exact ⟨ob, same b ob c e⟩
/-- the goal that k_head leaves: the law's def is read at the caller, with the tables -/
theorem walk_at_tabs {l : PySem.W.OpenLaw} {n : Nat} {q : Program} {loose : List Str} {XP : (Str → Option Value) → Heap → Prop} {YP : World → Heap → Prop} {d : DefRec} {K : Params → PySem.W.Frag}
    (hn : l.most = some n) (hn2 : n ≤ sizeLine) (hdf : d.params.defaults = []) (hY : ∀ (w : World) (h : Heap), YP w h → (K w.params).In h)
    (F : ∀ (w : World) (mg : Str → Option Value) (fa : Addr) (h : Heap), (K w.params).In h → h.Ns mainGlobals mg → mg d.name = some (.ref fa) →
      (∀ (y : Str) (e : DefRec) (c P : Addr), (recsOf q).find? (fun r => r.name == y) = some e → PySem.W.tabIn (K w.params) y = some (c, P) → PySem.W.CodeHd h c P ∧ h.get? P = some { cls := .none, data := .fields #[] }) →
      ∃ cs : List (Addr × Addr), (∀ p ∈ cs, h.get? p.2 = some { cls := .none, data := .fields #[] }) ∧ (∀ p ∈ cs, (K w.params).lookup p.2 = none) ∧ (∀ p ∈ cs, PySem.W.CodeHd h p.1 p.2) ∧
        ∀ (base : Heap) (s : Shared) (H : Hp) (a : Addr) (ns : List Int), (K w.params).In base → base.Ns mainGlobals mg → (∀ p ∈ cs, GxR.TabB base mg p.1 p.2) → Env0 l.prog w (K w.params) mg base callerA [] s H → ns.length ≤ n → SqL (K w.params) H a (ns.map V.int) → (∀ p ∈ cs, H p.2 = some (.tbl #[])) →
        codeAny (model l.prog w) callerA (.call (.ref fa) ⟨[.ref a], []⟩) (CR CX0 [] l.prog w H s (fun v _ => v = .bl true) E0) s) :
    PySem.W.WalkO q loose XP YP l.row.toRowW d [] (fun f vs => PySem.call f vs) := by
  apply Att.attach_callB hn hdf
  intro w s₀ s₁ mg mb fa o pm cd doc a vs ns G Y ho hd hcd hmg hobj hints hlen hbits hg
  have KX := hY w _ Y
  obtain ⟨cs, t1, t2, t3, go⟩ := F w mg fa _ KX G.T.g hmg fun y e c P h1 h2 => PySem.W.tab_of G.T KX h1 h2
  exact law_goT KX G.T.g G.T.b G.T.builtins G.T.nolimit hg t1 t2 t3 G.T.bmain hobj hints (Nat.le_trans hlen hn2) fun base hk hb htb H e0 hS hH => go base s₁ H a ns hk hb htb e0 hlen hS hH
end IndEnd

set_option Elab.async false
set_option linter.all false
set_option maxRecDepth 100000
set_option maxHeartbeats 4000000
namespace Va
open PySem PySem.Spec PyProof.Rows L2 Ind
section
variable {X : Cx} {S : Sg} {e o a b i value : Expr} {p p2 pos pos2 pos' apos cpos : Pos}
/-! ### repr, where no repr is under way -/
def reprG : VC := fun ds Q => match ds with
  | [d] => SeqAt.shaped d.pd = true ∧ d.pd.showable = true ∧ d.pd.hasDict = false ∧ d.pd.depth ≤ 60 ∧ d.pd.shown.length ≤ 1000000 ∧ Q (.v (.str d.pd.shown))
  | _ => False
theorem c_repr (hK : S.K = X.K) (hg : X.A.guards = some []) (hu : X.A.units + 64 < cLine) : CallV S X (.builtin "repr") reprG := by
  refine ⟨_, call_reprD hg hu, ?_⟩
  intro Γ H xs ds Q Q0 eK hx hg k
  have eK' : X.K = Γ.K := (eK.trans hK).symm
  unfold reprG at hg
  split at hg
  · obtain ⟨h1, h2, h3, h4, h5, hg⟩ := hg
    match hx with
    | .cons h .nil => exact ⟨_, _, rfl, by rw [eK']; exact h.dp h1, h2, h3, h4, million h5, k _ hg _ _ (Same.refl _) (.str _)⟩
  · exact hg.elim
/-! ### xs.extend(ys), xs a list of one's own -/
def rExtR : V → List V → Hp → VK → Prop := fun x vs H Q => ∃ l b xs zs, x = .ref l ∧ vs = [.ref b] ∧ H l = some (.lst xs) ∧ Rd H b (.lst zs) ∧ xs.length + zs.length ≤ sizeLine ∧ Q .non (upd H l (.lst (xs ++ zs)))
theorem mt_extendR : MtM X "list.extend" rExtR := by
  intro pins s σ H x vs v us Q I rx rv h
  obtain ⟨l, b, xs, zs, rfl, rfl, hH, hB, small, q⟩ := h
  cases rx
  obtain ⟨u, rfl, ru⟩ := rv.one
  cases ru
  obtain ⟨z, its, n, r, hl, el⟩ := I.lstM hH
  obtain ⟨_, more, m, r2, eb⟩ := hB.ok I.hok
  have hl2 := r2.length
  have sz : its.toArray.size + more.toArray.size ≤ sizeLine := by
    simp only [List.size_toArray]
    omega
  have fits : ¬ (!its.toArray.isEmpty && Builtin.List.listTooLong (its.toArray.size + more.toArray.size)) = true := by
    rw [notLongL sz]
    simp
  refine call_meets F.slot_list_extend ⟨_, el, rfl⟩ F.entry_list_extend (F.args_list_extend_2 _ _) (AutoSeq1.list_extend_list_list_0 l its.toArray n b more.toArray m fits (by simp only [List.size_toArray]; omega) (by omega)) ⟨el, eb, ?_⟩
  exact ⟨.non, _, I.lset (its' := its ++ more) hH el (by simp) (r.append r2) (by rw [List.length_append]; omega), rfl, q⟩
def sExt (i : Nat) (t : VT) : VS := fun V E => onL E.l[i]? fun _ => t E fun d E1 => lstD d fun es => onL E1.l[i]? fun ds => ds.length + es.length ≤ 1000000 ∧ V.nx (E1.set i (.ol (ds ++ es)))
theorem vs_extend {i : Nat} {o : Expr} {t : VT} {apos cpos : Pos} (hK : S.K = X.K) (ho : PE X o (tVar i)) (he : VE S X e t) (hw : swapsWith (.Call (.Attribute o "extend" apos) [e] [] cpos) none pos.line X.env = pure false := by rfl)
    (hbase : attributeBase o "extend" X.env (eval o X.env) = eval o X.env := by rfl)
    (hfew : ((backTo cpos (starEach [e] X.env)).all (fun x => !x.1) && (backToKw cpos (keywordEach [] X.env)).all (fun x => x.1.isSome)
      && decide (([e] : List Expr).length + ([] : List Keyword).length + (if ([] : List Keyword).isEmpty then 0 else 1) < 30)) = true := by rfl)
    (hline : (apos.endLine == cpos.line) = true := by rfl) (hs : starEach [e] X.env = (false, eval e X.env) :: starEach [] X.env := by rfl) (hplain : (backTo cpos (starEach [] X.env)).any (·.1) = false := by rfl) :
    VSt S X (.Expr (.Call (.Attribute o "extend" apos) [e] [] cpos) pos) (sExt i t) := by
  refine ps_weak (ps_expr (pe_bm PySem.F.plainAttrs_list PySem.F.slot_list_extend PySem.F.type_list_extend mt_extendR ho (va_cons (S := S) he va_nil hs) hbase hfew hline hs hplain) hw) ?_
  rintro D0 σ H ⟨Γ, E, V, ok, rp, ht, k⟩
  obtain ⟨ds0, e0, ht⟩ := onL_inv ht
  obtain ⟨p, xs0, hv, hl0, _, _⟩ := own_list rp e0
  refine ⟨_, hv, .inl ⟨rfl, xs0, .of hl0⟩, ?_⟩
  refine ⟨Γ, E, fun ds E1 => match ds with
    | [d] => lstD d fun es => onL E1.l[i]? fun ds => ds.length + es.length ≤ 1000000 ∧ V.nx (E1.set i (.ol (ds ++ es)))
    | _ => False, ok, rp, ht, fun ds E1 hq vs H1 kq1 rp1 hvs => ?_⟩
  match ds, hq, vs, hvs with
  | [d], hq, [u], .cons hu .nil =>
    cases d with
    | lst es =>
      obtain ⟨ds1, e1, hsz, hq⟩ := onL_inv hq
      obtain ⟨p1, xs1, hv1, hl1, hr1, fr1⟩ := own_list rp1 e1
      rw [hv] at hv1
      cases hv1
      obtain ⟨b, zs, rfl, ⟨ob, hb⟩, hz⟩ := hu.lst_inv
      obtain ⟨kq2, rp2⟩ := rp1.wrL e1 hv hl1 fr1 (hr1.app hz)
      exact ⟨p, b, xs1, zs, rfl, rfl, hl1, .inr ⟨ob, hb⟩, million (by rw [hr1.len, hz.len]; exact hsz), k.nx _ hq σ _ (kq1.trans kq2) rp2⟩
    | _ => exact hq.elim
end
end Va

set_option Elab.async false
set_option linter.all false
set_option maxRecDepth 100000
set_option maxHeartbeats 4000000
namespace Va
open PySem PySem.Spec PyProof.Rows L2 Ind
/-! ### formulas: their comparisons and columns -/
abbrev Cm := Tx × Ex × Ex
def Cm.d (p : Cm) : D := (Fm.cmp p.1 p.2.1 p.2.2).d
mutual
def Fm.cms : Fm → List Cm
  | .cmp sg l r => [(sg, l, r)]
  | .neg f => f.cms
  | .all fs => Fm.cmsL fs
  | .any fs => Fm.cmsL fs
  | .imp a b => a.cms ++ b.cms
  | .tt => []
  | .ff => []
def Fm.cmsL : List Fm → List Cm
  | [] => []
  | f :: fs => f.cms ++ Fm.cmsL fs
end
theorem Fm.cmsL_app : ∀ fs gs : List Fm, Fm.cmsL (fs ++ gs) = Fm.cmsL fs ++ Fm.cmsL gs
  | [], gs => rfl
  | f :: fs, gs => by show f.cms ++ Fm.cmsL (fs ++ gs) = (f.cms ++ Fm.cmsL fs) ++ Fm.cmsL gs; rw [Fm.cmsL_app fs gs, List.append_assoc]
theorem Fm.cmsL_more {fs : List Fm} {i : Nat} {f : Fm} (e : fs[i]? = some f) : Fm.cmsL (fs.take (i + 1)) = Fm.cmsL (fs.take i) ++ f.cms := by
  rw [take_more e, Fm.cmsL_app]
  show _ ++ (f.cms ++ []) = _
  rw [List.append_nil]
theorem Fm.cmsL_len {n : Nat} : ∀ {fs : List Fm}, (∀ f ∈ fs, f.cms.length ≤ n) → (Fm.cmsL fs).length ≤ fs.length * n
  | [], _ => Nat.zero_le _
  | f :: fs, h => by
    have h1 := h f (List.mem_cons_self ..)
    have h2 := Fm.cmsL_len (fs := fs) fun g hg => h g (List.mem_cons_of_mem _ hg)
    show (f.cms ++ Fm.cmsL fs).length ≤ (fs.length + 1) * n
    rw [List.length_append, Nat.add_mul]
    omega
def exCols (e : Ex) : List Tx := e.filterMap fun t => match t.2 with
  | .col n => some n
  | _ => none
def cmCols (p : Cm) : List Tx := exCols (p.2.1 ++ p.2.2)
def cmsCols (l : List Cm) : List Tx := l.flatMap cmCols
theorem cmsCols_app (l m : List Cm) : cmsCols (l ++ m) = cmsCols l ++ cmsCols m := by unfold cmsCols; rw [List.flatMap_append]
def Fm.cols (f : Fm) : List Tx := cmsCols f.cms
theorem exCols_len (e : Ex) : (exCols e).length ≤ e.length := List.length_filterMap_le _ _
theorem cmsCols_len {n : Nat} : ∀ {l : List Cm}, (∀ p ∈ l, (cmCols p).length ≤ n) → (cmsCols l).length ≤ l.length * n
  | [], _ => Nat.zero_le _
  | p :: l, h => by
    have h1 := h p (List.mem_cons_self ..)
    have h2 := cmsCols_len (l := l) fun g hg => h g (List.mem_cons_of_mem _ hg)
    show (cmCols p ++ cmsCols l).length ≤ (l.length + 1) * n
    rw [List.length_append, Nat.add_mul]
    omega
end Va

set_option Elab.async false
set_option linter.all false
set_option maxRecDepth 100000
set_option maxHeartbeats 4000000
namespace Va
open PySem PySem.Spec PyProof.Rows L2 Ind
def ksD (xs : List Tx) : List (Key × D) := xs.map fun x => (.inr x, .bl true)
theorem any_ks (x : Tx) : ∀ xs : List Tx, ((ksD xs).any fun kv => decide (kv.1 = Sum.inr x)) = decide (x ∈ xs)
  | [] => rfl
  | y :: xs => by
    show (decide ((Sum.inr y : Key) = Sum.inr x) || (ksD xs).any fun kv => decide (kv.1 = Sum.inr x)) = _
    rw [any_ks x xs]
    by_cases h : y = x
    · subst h; simp
    · have : ¬ ((Sum.inr y : Key) = Sum.inr x) := fun e => h (Sum.inr.inj e)
      simp only [decide_eq_false this, Bool.false_or]
      exact decide_eq_decide.mpr ⟨fun m => List.mem_cons_of_mem _ m, fun m => (List.mem_cons.mp m).elim (fun e => absurd e.symm h) id⟩
theorem map_ks (x : Tx) (xs : List Tx) : ((ksD xs).map fun kv => if kv.1 = Sum.inr x then (kv.1, D.bl true) else kv) = ksD xs := by
  unfold ksD
  rw [List.map_map]
  refine List.map_congr_left fun y _ => ?_
  show (if (Sum.inr y : Key) = Sum.inr x then ((Sum.inr y : Key), D.bl true) else (Sum.inr y, D.bl true)) = _
  split <;> rfl
theorem put_ks (x : Tx) (xs : List Tx) : putD (ksD xs) (.inr x) (.bl true) = ksD (if x ∈ xs then xs else xs ++ [x]) := by
  unfold putD
  rw [any_ks]
  by_cases h : x ∈ xs
  · rw [if_pos (by simpa using h), if_pos h, map_ks]
  · rw [if_neg (by simpa using h), if_neg h]
    show _ = List.map _ (xs ++ [x])
    rw [List.map_append]; rfl
theorem once_app2 : ∀ (l r acc : List Tx), once acc (l ++ r) = once (once acc l) r
  | [], r, acc => rfl
  | x :: l, r, acc => by
    show (if x ∈ acc then once acc (l ++ r) else once (acc ++ [x]) (l ++ r)) = once (if x ∈ acc then once acc l else once (acc ++ [x]) l) r
    split
    · exact once_app2 l r acc
    · exact once_app2 l r (acc ++ [x])
theorem once_len : ∀ (l acc : List Tx), (once acc l).length ≤ acc.length + l.length
  | [], acc => Nat.le_refl _
  | x :: l, acc => by
    show (if x ∈ acc then once acc l else once (acc ++ [x]) l).length ≤ acc.length + (l.length + 1)
    split
    · have := once_len l acc; omega
    · have := once_len l (acc ++ [x]); rw [List.length_append] at this; simp at this; omega
theorem ks_len (xs : List Tx) : (ksD xs).length = xs.length := List.length_map ..
theorem exCols_more {e : Ex} {i : Nat} {t : Bool × Op} (h : e[i]? = some t) : exCols (e.take (i + 1)) = exCols (e.take i) ++ exCols [t] := by
  rw [take_more h]
  unfold exCols
  rw [List.filterMap_append]
theorem cmsCols_more {l : List Cm} {i : Nat} {p : Cm} (h : l[i]? = some p) : cmsCols (l.take (i + 1)) = cmsCols (l.take i) ++ cmCols p := by
  rw [take_more h, cmsCols_app]
  show _ ++ (cmCols p ++ []) = _
  rw [List.append_nil]
def Fm.parts : Fm → List Fm
  | .neg f => [f]
  | .all fs => fs
  | .any fs => fs
  | .imp a b => [a, b]
  | _ => []
def Fm.isC : Fm → Bool
  | .cmp _ _ _ => true
  | _ => false
theorem Fm.parts_cms : ∀ F : Fm, F.isC = false → F.cms = Fm.cmsL F.parts
  | .cmp _ _ _, h => by cases h
  | .neg f, _ => by show f.cms = f.cms ++ []; rw [List.append_nil]
  | .all _, _ => rfl
  | .any _, _ => rfl
  | .imp a b, _ => by show a.cms ++ b.cms = a.cms ++ (b.cms ++ []); rw [List.append_nil]
  | .tt, _ => rfl
  | .ff, _ => rfl
theorem Fm.parts_dep : ∀ (F : Fm), ∀ g ∈ F.parts, g.dep + 1 ≤ F.dep
  | .cmp _ _ _, g, h => (nomatch h)
  | .neg f, g, h => by cases List.mem_singleton.mp h; exact Nat.le_refl _
  | .all fs, g, h => Nat.succ_le_succ (Fm.dep_mem h)
  | .any fs, g, h => Nat.succ_le_succ (Fm.dep_mem h)
  | .imp a b, g, h => by
    show g.dep + 1 ≤ max a.dep b.dep + 1
    rcases List.mem_cons.mp h with rfl | h
    · omega
    · cases List.mem_singleton.mp h; omega
  | .tt, g, h => (nomatch h)
  | .ff, g, h => (nomatch h)
theorem Fm.cmsL_sub {fs : List Fm} {f : Fm} (h : f ∈ fs) : f.cms.length ≤ (Fm.cmsL fs).length := by
  induction fs with
  | nil => cases h
  | cons g fs ih =>
    show _ ≤ (g.cms ++ Fm.cmsL fs).length
    rw [List.length_append]
    rcases List.mem_cons.mp h with rfl | h
    · omega
    · have := ih h; omega
theorem Fm.cmsL_take (fs : List Fm) (i : Nat) : (Fm.cmsL (fs.take i)).length ≤ (Fm.cmsL fs).length := by
  have e : Fm.cmsL fs = Fm.cmsL (fs.take i) ++ Fm.cmsL (fs.drop i) := by rw [← Fm.cmsL_app, List.take_append_drop]
  rw [e, List.length_append]
  omega
/-- each comparison has few terms -/
def fewC (l : List Cm) : Prop := ∀ p ∈ l, p.2.1.length + p.2.2.length ≤ 40
theorem fewC_len {l : List Cm} (h : fewC l) : (cmsCols l).length ≤ l.length * 40 := cmsCols_len fun p hp => Nat.le_trans (exCols_len _) (by rw [List.length_append]; exact h p hp)
mutual
theorem Fm.ok_few {cs : List Col} : ∀ {F : Fm}, F.ok cs → fewC F.cms
  | .cmp sg l r, h => fun p hp => by
    cases List.mem_singleton.mp hp
    obtain ⟨_, w, h1, h2⟩ := h
    have := h1.len
    have := h2.len
    show l.length + r.length ≤ 40
    omega
  | .neg f, h => Fm.ok_few (F := f) h
  | .all fs, h => Fm.okL_few (fs := fs) h.2
  | .any fs, h => Fm.okL_few (fs := fs) h.2
  | .imp a b, h => fun p hp => (List.mem_append.mp hp).elim (Fm.ok_few (F := a) h.1 p) (Fm.ok_few (F := b) h.2 p)
  | .tt, _ => fun p hp => (nomatch hp)
  | .ff, _ => fun p hp => (nomatch hp)
theorem Fm.okL_few {cs : List Col} : ∀ {fs : List Fm}, Fm.okL cs fs → fewC (Fm.cmsL fs)
  | [], _ => fun p hp => (nomatch hp)
  | f :: fs, h => fun p hp => (List.mem_append.mp hp).elim (Fm.ok_few (F := f) h.1 p) (Fm.okL_few (fs := fs) h.2 p)
end
end Va

set_option Elab.async false
set_option linter.all false
set_option maxRecDepth 100000
set_option maxHeartbeats 4000000
namespace Va
open PySem PySem.Spec PyProof.Rows L2 Ind
/-! ### tuples of short names may be shown -/
theorem shaped_names {xs : List Tx} (h : ∀ x ∈ xs, tOk x) : SeqAt.shaped (D.tup (xs.map .str)).pd = true := by
  have e : (D.tup (xs.map .str)).pd = .tuple (xs.map PyData.str) := by
    show PyData.tuple (pdL (xs.map D.str)) = _
    rw [pdL_map, List.map_map]; rfl
  rw [e]
  have l : ∀ ys : List Tx, (∀ y ∈ ys, tOk y) → PyData.canLayAll0 (ys.map PyData.str) = true := fun ys hy => by
    induction ys with
    | nil => simp [PyData.canLayAll0]
    | cons y ys ih => simp [PyData.canLayAll0, PyData.canLay0, ih fun z hz => hy z (List.mem_cons_of_mem _ hz), (hy y (List.mem_cons_self ..)).ok]
  have d : ∀ ys : List Tx, PyData.depthAll (ys.map PyData.str) ≤ 1 := fun ys => by
    induction ys with
    | nil => simp [PyData.depthAll]
    | cons y ys ih => simp [PyData.depthAll, PyData.depth] at *; omega
  have := d xs
  simp [SeqAt.shaped, PyData.canLay0, PyData.depth, l xs h]
  omega
theorem shown_names {xs : List Tx} (h : ∀ x ∈ xs, tOk x) (hn : ∀ x ∈ xs, x.length ≤ 20) (hl : xs.length ≤ 20) : (D.tup (xs.map .str)).pd.showable = true ∧ (D.tup (xs.map .str)).pd.hasDict = false ∧ (D.tup (xs.map .str)).pd.depth ≤ 60 ∧ (D.tup (xs.map .str)).pd.shown.length ≤ 1000000 := by
  have e : (D.tup (xs.map .str)).pd = .tuple (xs.map PyData.str) := by
    show PyData.tuple (pdL (xs.map D.str)) = _
    rw [pdL_map, List.map_map]; rfl
  rw [e]
  refine ⟨?_, ?_, ?_, ?_⟩
  · have : ∀ ys : List Tx, PyData.showableAll (ys.map PyData.str) = true := fun ys => by
      induction ys with
      | nil => simp [PyData.showableAll]
      | cons y ys ih => simp [PyData.showableAll, PyData.showable, ih]
    simpa [PyData.showable] using this xs
  · have : ∀ ys : List Tx, PyData.hasDictAll (ys.map PyData.str) = false := fun ys => by
      induction ys with
      | nil => simp [PyData.hasDictAll]
      | cons y ys ih => simp [PyData.hasDictAll, PyData.hasDict, ih]
    simpa [PyData.hasDict] using this xs
  · have : ∀ ys : List Tx, PyData.depthAll (ys.map PyData.str) ≤ 1 := fun ys => by
      induction ys with
      | nil => simp [PyData.depthAll]
      | cons y ys ih => simp [PyData.depthAll, PyData.depth] at *; omega
    have := this xs
    simp [PyData.depth]
    omega
  · have b := PyData.shown_le_bulk 20 (by decide) (.tuple (xs.map PyData.str)) (by
      have : ∀ ys : List Tx, (∀ y ∈ ys, tOk y) → PyData.leavesShortAll 20 (ys.map PyData.str) = true := fun ys hy => by
        induction ys with
        | nil => simp [PyData.leavesShortAll]
        | cons y ys ih =>
          have i := ih fun z hz => hy z (List.mem_cons_of_mem _ hz)
          have hc := hy y (List.mem_cons_self ..)
          simp only [List.map_cons, PyData.leavesShortAll, PyData.leavesShort, i, Bool.and_true, List.all_eq_true, decide_eq_true_eq]
          intro c hc2
          have := hc c hc2
          omega
      simpa [PyData.leavesShort] using this xs h)
    have c : ∀ ys : List Tx, (∀ y ∈ ys, y.length ≤ 20) → PyData.bulkAll (ys.map PyData.str) ≤ 25 * ys.length := fun ys hy => by
      induction ys with
      | nil => simp [PyData.bulkAll]
      | cons y ys ih =>
        have i := ih fun z hz => hy z (List.mem_cons_of_mem _ hz)
        have h1 : y.cps.size ≤ 20 := hy y (List.mem_cons_self ..)
        simp only [List.map_cons, PyData.bulkAll, PyData.bulk, List.length_cons]
        omega
    have d := c xs hn
    have e2 : (PyData.tuple (xs.map PyData.str)).bulk = PyData.bulkAll (xs.map PyData.str) ∨ (PyData.tuple (xs.map PyData.str)).bulk ≤ PyData.bulkAll (xs.map PyData.str) + 10 := by simp [PyData.bulk]
    rcases e2 with e2 | e2 <;> omega
end Va

set_option Elab.async false
set_option linter.all false
set_option maxRecDepth 100000
set_option maxHeartbeats 4000000
namespace Va
open PySem PySem.Spec PyProof.Rows L2 Ind
/-! ### facts: well made, and true in part -/
mutual
def Fc.gd : Fc → Prop
  | .com _ => True
  | .one ns => ns.length ≤ 6
  | .neg f => f.gd
  | .all fs => fs ≠ [] ∧ fs.length ≤ 6 ∧ Fc.gdL fs
  | .any fs => fs ≠ [] ∧ fs.length ≤ 6 ∧ Fc.gdL fs
  | .imp a b => a.gd ∧ b.gd
  | .tt => True
  | .ff => True
def Fc.gdL : List Fc → Prop
  | [] => True
  | f :: fs => f.gd ∧ Fc.gdL fs
end
theorem Fc.gdL_of : ∀ {fs : List Fc}, (∀ f ∈ fs, f.gd) → Fc.gdL fs
  | [], _ => trivial
  | f :: fs, h => ⟨h f (List.mem_cons_self ..), Fc.gdL_of fun g hg => h g (List.mem_cons_of_mem _ hg)⟩
theorem Fc.gdL_mem : ∀ {fs : List Fc}, Fc.gdL fs → ∀ f ∈ fs, f.gd
  | g :: fs, h, f, hf => by
    rcases List.mem_cons.mp hf with rfl | hf
    · exact h.1
    · exact Fc.gdL_mem h.2 f hf
mutual
theorem Fc.gd_wid : ∀ {f : Fc}, f.gd → f.wid ≤ 6
  | .com _, _ => Nat.zero_le _
  | .one _, h => h
  | .neg f, h => Fc.gd_wid (f := f) h
  | .all fs, h => Nat.max_le.mpr ⟨h.2.1, Fc.gdL_wid (fs := fs) h.2.2⟩
  | .any fs, h => Nat.max_le.mpr ⟨h.2.1, Fc.gdL_wid (fs := fs) h.2.2⟩
  | .imp a b, h => Nat.max_le.mpr ⟨Fc.gd_wid (f := a) h.1, Fc.gd_wid (f := b) h.2⟩
  | .tt, _ => Nat.zero_le _
  | .ff, _ => Nat.zero_le _
theorem Fc.gdL_wid : ∀ {fs : List Fc}, Fc.gdL fs → Fc.widL fs ≤ 6
  | [], _ => Nat.zero_le _
  | f :: fs, h => Nat.max_le.mpr ⟨Fc.gd_wid (f := f) h.1, Fc.gdL_wid (fs := fs) h.2⟩
end
abbrev B3 := Option Bool
def not3 (a : B3) : B3 := a.map (!·)
def allB (l : List B3) : B3 := if some false ∈ l then some false else if none ∈ l then none else some true
def anyB (l : List B3) : B3 := if some true ∈ l then some true else if none ∈ l then none else some false
mutual
def Fc.op (p : Tx → B3) : Fc → B3
  | .com n => p n
  | .one ns => if 1 < ((ns.map p).filter (· = some true)).length then some false else if none ∈ ns.map p then none else some (decide (some true ∈ ns.map p))
  | .neg f => not3 (f.op p)
  | .all fs => allB (Fc.opL p fs)
  | .any fs => anyB (Fc.opL p fs)
  | .imp a b => anyB [not3 (a.op p), b.op p]
  | .tt => some true
  | .ff => some false
def Fc.opL (p : Tx → B3) : List Fc → List B3
  | [] => []
  | f :: fs => f.op p :: Fc.opL p fs
end
theorem Fc.opL_map (p : Tx → B3) : ∀ fs : List Fc, Fc.opL p fs = fs.map (Fc.op p)
  | [] => rfl
  | f :: fs => by show f.op p :: Fc.opL p fs = _; rw [Fc.opL_map p fs]; rfl
theorem not3_all (l : List B3) : not3 (allB (l.map not3)) = anyB l := by
  have h1 : some false ∈ l.map not3 ↔ some true ∈ l := by
    rw [List.mem_map]
    constructor
    · rintro ⟨a, ha, e⟩
      cases a with
      | none => cases e
      | some b => cases b with
        | true => exact ha
        | false => cases e
    · intro h
      exact ⟨_, h, rfl⟩
  have h2 : none ∈ l.map not3 ↔ none ∈ l := by
    rw [List.mem_map]
    constructor
    · rintro ⟨a, ha, e⟩
      cases a with
      | none => exact ha
      | some b => cases e
    · intro h
      exact ⟨_, h, rfl⟩
  unfold allB anyB
  by_cases a : some true ∈ l
  · rw [if_pos (h1.mpr a), if_pos a]; rfl
  · rw [if_neg (fun z => a (h1.mp z)), if_neg a]
    by_cases b : none ∈ l
    · rw [if_pos (h2.mpr b), if_pos b]; rfl
    · rw [if_neg (fun z => b (h2.mp z)), if_neg b]; rfl
mutual
def Fc.mu : Fc → Nat
  | .com _ => 0
  | .one _ => 0
  | .neg f => f.mu + 1
  | .all fs => Fc.muL fs + 1
  | .any fs => Fc.muL fs + 2
  | .imp a b => max (a.mu + 1) b.mu + 3
  | .tt => 0
  | .ff => 0
def Fc.muL : List Fc → Nat
  | [] => 0
  | f :: fs => max f.mu (Fc.muL fs)
end
theorem Fc.mu_mem : ∀ {fs : List Fc} {f : Fc}, f ∈ fs → f.mu ≤ Fc.muL fs
  | g :: fs, f, h => by
    show f.mu ≤ max g.mu (Fc.muL fs)
    rcases List.mem_cons.mp h with rfl | h
    · exact Nat.le_max_left _ _
    · exact Nat.le_trans (Fc.mu_mem h) (Nat.le_max_right _ _)
mutual
theorem Fc.mu_le : ∀ f : Fc, f.mu ≤ 4 * f.dep
  | .com _ => Nat.zero_le _
  | .one _ => Nat.zero_le _
  | .neg f => by have := Fc.mu_le f; show f.mu + 1 ≤ 4 * (f.dep + 1); omega
  | .all fs => by have := Fc.muL_le fs; show Fc.muL fs + 1 ≤ 4 * (Fc.depL fs + 1); omega
  | .any fs => by have := Fc.muL_le fs; show Fc.muL fs + 2 ≤ 4 * (Fc.depL fs + 1); omega
  | .imp a b => by have := Fc.mu_le a; have := Fc.mu_le b; show max (a.mu + 1) b.mu + 3 ≤ 4 * (max a.dep b.dep + 1); omega
  | .tt => Nat.zero_le _
  | .ff => Nat.zero_le _
theorem Fc.muL_le : ∀ fs : List Fc, Fc.muL fs ≤ 4 * Fc.depL fs
  | [] => Nat.zero_le _
  | f :: fs => by have := Fc.mu_le f; have := Fc.muL_le fs; show max f.mu (Fc.muL fs) ≤ 4 * max f.dep (Fc.depL fs); omega
end
/-! what is open, and then decided, agrees with every completion -/
def Ext3 (p : Tx → B3) (q : Tx → Bool) : Prop := ∀ x b, p x = some b → q x = b
theorem filt_le (p : Tx → B3) (q : Tx → Bool) (h : Ext3 p q) : ∀ ns : List Tx, ((ns.map p).filter (· = some true)).length ≤ (ns.filter q).length
  | [] => Nat.le_refl _
  | x :: ns => by
    have ih := filt_le p q h ns
    rw [List.map_cons, List.filter_cons, List.filter_cons]
    by_cases e : p x = some true
    · rw [if_pos (by simpa using e), if_pos (by simpa using h x true e)]
      simpa using ih
    · rw [if_neg (by simpa using e)]
      split
      · simp; omega
      · exact ih
theorem filt_eq (p : Tx → B3) (q : Tx → Bool) (h : Ext3 p q) : ∀ ns : List Tx, none ∉ ns.map p → ((ns.map p).filter (· = some true)).length = (ns.filter q).length
  | [], _ => rfl
  | x :: ns, hn => by
    rw [List.map_cons, List.mem_cons, not_or] at hn
    have ih := filt_eq p q h ns hn.2
    rw [List.map_cons, List.filter_cons, List.filter_cons]
    cases e : p x with
    | none => exact absurd e.symm hn.1
    | some b =>
      have := h x b e
      rw [this]
      cases b with
      | true => simp; simpa using ih
      | false => simp; simpa using ih
mutual
theorem Fc.op_tr (p : Tx → B3) (q : Tx → Bool) (h : Ext3 p q) : ∀ (f : Fc) (b : Bool), f.op p = some b → f.tr q = b
  | .com x, b, e => h x b e
  | .one ns, b, e => by
    have e : (if 1 < ((ns.map p).filter (· = some true)).length then some false else if none ∈ ns.map p then none else some (decide (some true ∈ ns.map p))) = some b := e
    show decide ((ns.filter q).length = 1) = b
    have l1 := filt_le p q h ns
    split at e
    · cases e
      exact decide_eq_false (by omega)
    · rename_i h1
      split at e
      · cases e
      · rename_i h2
        cases e
        rw [← filt_eq p q h ns h2]
        refine decide_eq_decide.mpr ?_
        constructor
        · intro h3
          obtain ⟨z, hz⟩ := List.exists_mem_of_length_pos (l := (ns.map p).filter (· = some true)) (by omega)
          have := List.mem_filter.mp hz
          have e2 : z = some true := by simpa using this.2
          rw [← e2]; exact this.1
        · intro h3
          have : 0 < ((ns.map p).filter (· = some true)).length := List.length_pos_of_mem (List.mem_filter.mpr ⟨h3, by simp⟩)
          omega
  | .neg f, b, e => by
    have e : not3 (f.op p) = some b := e
    cases ef : f.op p with
    | none => rw [ef] at e; cases e
    | some c =>
      rw [ef] at e
      cases e
      show (!f.tr q) = !c
      rw [Fc.op_tr p q h f c ef]
  | .all fs, b, e => by
    have e : allB (Fc.opL p fs) = some b := e
    obtain ⟨h1, h2⟩ := Fc.opL_tr p q h fs
    show Fc.trA q fs = b
    unfold allB at e
    split at e
    · rename_i h3; cases e; exact h1 h3
    · rename_i h3
      split at e
      · cases e
      · rename_i h4; cases e; exact (h2.1 h3 h4)
  | .any fs, b, e => by
    have e : anyB (Fc.opL p fs) = some b := e
    obtain ⟨h1, h2⟩ := Fc.opL_tr p q h fs
    show Fc.trO q fs = b
    unfold anyB at e
    split at e
    · rename_i h3; cases e; exact h2.2.1 h3
    · rename_i h3
      split at e
      · cases e
      · rename_i h4; cases e; exact (h2.2.2 h3 h4)
  | .imp f g, b, e => by
    have e : anyB [not3 (f.op p), g.op p] = some b := e
    show (!f.tr q || g.tr q) = b
    have hf := Fc.op_tr p q h f
    have hg := Fc.op_tr p q h g
    cases ef : f.op p with
    | none =>
      cases eg : g.op p with
      | none => rw [ef, eg] at e; exact absurd e (by cases b <;> decide)
      | some c =>
        rw [ef, eg] at e
        cases c with
        | true =>
          have : some true = some b := e
          cases this
          rw [hg true eg]; simp
        | false => exact absurd e (by cases b <;> decide)
    | some a =>
      cases eg : g.op p with
      | none =>
        rw [ef, eg] at e
        cases a with
        | false =>
          have : some true = some b := e
          cases this
          rw [hf false ef]; simp
        | true => exact absurd e (by cases b <;> decide)
      | some c =>
        rw [ef, eg] at e
        rw [hf a ef, hg c eg]
        revert e
        cases a <;> cases c <;> cases b <;> decide
  | .tt, b, e => by cases e; rfl
  | .ff, b, e => by cases e; rfl
theorem Fc.opL_tr (p : Tx → B3) (q : Tx → Bool) (h : Ext3 p q) : ∀ fs : List Fc, (some false ∈ Fc.opL p fs → Fc.trA q fs = false) ∧ (some false ∉ Fc.opL p fs → none ∉ Fc.opL p fs → Fc.trA q fs = true) ∧ (some true ∈ Fc.opL p fs → Fc.trO q fs = true) ∧ (some true ∉ Fc.opL p fs → none ∉ Fc.opL p fs → Fc.trO q fs = false)
  | [] => ⟨fun z => (nomatch z), fun _ _ => rfl, fun z => (nomatch z), fun _ _ => rfl⟩
  | f :: fs => by
    obtain ⟨i1, i2, i3, i4⟩ := Fc.opL_tr p q h fs
    have hf := Fc.op_tr p q h f
    refine ⟨fun z => ?_, fun z y => ?_, fun z => ?_, fun z y => ?_⟩
    · show (f.tr q && Fc.trA q fs) = false
      rcases List.mem_cons.mp z with z | z
      · rw [hf false z.symm]; rfl
      · rw [i1 z]; simp
    · have z : ¬ (some false ∈ f.op p :: Fc.opL p fs) := z
      have y : ¬ (none ∈ f.op p :: Fc.opL p fs) := y
      rw [List.mem_cons, not_or] at z y
      show (f.tr q && Fc.trA q fs) = true
      rw [i2 z.2 y.2]
      cases e : f.op p with
      | none => exact absurd e.symm y.1
      | some b => cases b with
        | false => exact absurd e.symm z.1
        | true => rw [hf true e]; rfl
    · show (f.tr q || Fc.trO q fs) = true
      rcases List.mem_cons.mp z with z | z
      · rw [hf true z.symm]; rfl
      · rw [i3 z]; simp
    · have z : ¬ (some true ∈ f.op p :: Fc.opL p fs) := z
      have y : ¬ (none ∈ f.op p :: Fc.opL p fs) := y
      rw [List.mem_cons, not_or] at z y
      show (f.tr q || Fc.trO q fs) = false
      rw [i4 z.2 y.2]
      cases e : f.op p with
      | none => exact absurd e.symm y.1
      | some b => cases b with
        | true => exact absurd e.symm z.1
        | false => rw [hf false e]; rfl
end
end Va

set_option Elab.async false
set_option linter.all false
set_option maxRecDepth 100000
set_option maxHeartbeats 4000000
namespace Va
open PySem PySem.Spec PyProof.Rows L2 Ind
/-! ### assignments -/
def pa (as : List (Tx × Bool)) (x : Tx) : B3 := (as.find? fun p => decide (p.1 = x)).map (·.2)
def oD : B3 → D
  | none => .non
  | some b => .bl b
def asD (as : List (Tx × Bool)) : List D := as.map fun p => .tup [.str p.1, .bl p.2]
def asK (as : List (Tx × Bool)) : List (Key × D) := as.map fun p => (.inr p.1, .bl p.2)
theorem asD_pr (as : List (Tx × Bool)) : asD as = prD (as.map fun p => (p.1, .bl p.2)) := by simp [asD, prD]
theorem asK_pr (as : List (Tx × Bool)) : prK (as.map fun p => (p.1, .bl p.2)) = asK as := by simp [asK, prK]
theorem look_asK (x : Tx) : ∀ as : List (Tx × Bool), (look (asK as) (.inr x)).getD .non = oD (pa as x)
  | [] => rfl
  | p :: as => by
    have ih := look_asK x as
    unfold look pa asK at *
    rw [List.map_cons, List.find?_cons, List.find?_cons]
    by_cases e : p.1 = x
    · have e2 : (Sum.inr p.1 : Key) = Sum.inr x := by rw [e]
      simp only [decide_eq_true e, decide_eq_true e2]
      rfl
    · have e2 : ¬ ((Sum.inr p.1 : Key) = Sum.inr x) := fun z => e (Sum.inr.inj z)
      simp only [decide_eq_false e, decide_eq_false e2]
      exact ih
theorem flat_oD : ∀ l : List B3, (l.map oD).all D.flat = true
  | [] => rfl
  | none :: l => flat_oD l
  | some _ :: l => flat_oD l
theorem none_in (l : List B3) : ((l.map oD).any fun y => D.eqf y .non) = decide (none ∈ l) := by
  induction l with
  | nil => rfl
  | cons a l ih =>
    rw [List.map_cons, List.any_cons, ih]
    cases a with
    | none => simp [oD, D.eqf]
    | some b =>
      have : ¬ (none : B3) = some b := fun z => by cases z
      simp [oD, D.eqf]
theorem true_in (l : List B3) : ((l.map oD).any fun y => D.eqf y (.bl true)) = decide (some true ∈ l) := by
  induction l with
  | nil => rfl
  | cons a l ih =>
    rw [List.map_cons, List.any_cons, ih]
    cases a with
    | none => simp [oD, D.eqf]
    | some b => cases b <;> simp [oD, D.eqf]
theorem asB_oD (a : B3) : truD (oD a) = some (decide (a = some true)) := by
  cases a with
  | none => rfl
  | some b => cases b <;> rfl
theorem isNon_oD (a : B3) : isNon (oD a) = decide (a = none) := by
  cases a with
  | none => rfl
  | some b => rfl
theorem isB_oD (a : B3) (Q : RV → Prop) (h : Q (.v (.bl (decide (a = some false))))) : isBG (oD a) (.bl false) Q := by
  cases a with
  | none => exact h
  | some b => cases b <;> exact h
theorem allB_more {l : List B3} {i : Nat} {a : B3} (e : l[i]? = some a) (h : some false ∉ l.take i) (ha : ¬ a = some false) : some false ∉ l.take (i + 1) := by
  rw [take_more e, List.mem_append, not_or]
  exact ⟨h, fun z => ha (List.mem_singleton.mp z).symm⟩
theorem atE {t : En → Prop} {E E' : En} (h : E = E') (q : t E') : t E := h ▸ q
theorem andSame {c : Bool} {A B : Prop} (f : B → A) (b : B) : (c = true → A) ∧ (c = false → B) := ⟨fun _ => f b, fun _ => b⟩
def yesL (as : List (Tx × Bool)) : List Tx := (as.filter (·.2)).map (·.1)
def noL (as : List (Tx × Bool)) : List Tx := (as.filter (fun p => !p.2)).map (·.1)
theorem pa_mem {as : List (Tx × Bool)} {x : Tx} {b : Bool} (h : pa as x = some b) : (x, b) ∈ as := by
  unfold pa at h
  obtain ⟨p, hp, rfl⟩ := Option.map_eq_some_iff.mp h
  have h1 := List.find?_some hp
  have h2 := List.mem_of_find?_eq_some hp
  have h3 : p.1 = x := by simpa using h1
  rw [← h3]; exact h2
theorem mem_pa {x : Tx} {b : Bool} : ∀ {as : List (Tx × Bool)}, (as.map (·.1)).Nodup → (x, b) ∈ as → pa as x = some b
  | p :: as, nd, h => by
    rw [List.map_cons, List.nodup_cons] at nd
    unfold pa
    rw [List.find?_cons]
    by_cases e : p.1 = x
    · rw [decide_eq_true e]
      rcases List.mem_cons.mp h with rfl | h
      · rfl
      · exact absurd (List.mem_map_of_mem (f := (·.1)) h) (by rw [← e] at *; exact nd.1)
    · rw [decide_eq_false e]
      rcases List.mem_cons.mp h with rfl | h
      · exact absurd rfl e
      · exact mem_pa nd.2 h
theorem yes_iff {as : List (Tx × Bool)} (nd : (as.map (·.1)).Nodup) (x : Tx) : x ∈ yesL as ↔ pa as x = some true := by
  constructor
  · intro h
    obtain ⟨p, hp, rfl⟩ := List.mem_map.mp h
    obtain ⟨h1, h2⟩ := List.mem_filter.mp hp
    exact mem_pa nd (by rw [← h2]; exact h1)
  · intro h
    exact List.mem_map.mpr ⟨_, List.mem_filter.mpr ⟨pa_mem h, rfl⟩, rfl⟩
theorem no_iff {as : List (Tx × Bool)} (nd : (as.map (·.1)).Nodup) (x : Tx) : x ∈ noL as ↔ pa as x = some false := by
  constructor
  · intro h
    obtain ⟨p, hp, rfl⟩ := List.mem_map.mp h
    obtain ⟨h1, h2⟩ := List.mem_filter.mp hp
    exact mem_pa nd (by have : p.2 = false := by simpa using h2
                        rw [← this]; exact h1)
  · intro h
    exact List.mem_map.mpr ⟨_, List.mem_filter.mpr ⟨pa_mem h, rfl⟩, rfl⟩
theorem yes_more {as : List (Tx × Bool)} {i : Nat} {p : Tx × Bool} (e : as[i]? = some p) : yesL (as.take (i + 1)) = if p.2 = true then yesL (as.take i) ++ [p.1] else yesL (as.take i) := by
  unfold yesL
  rw [filter_more _ e]
  split
  · rw [List.map_append]; rfl
  · rfl
theorem no_more {as : List (Tx × Bool)} {i : Nat} {p : Tx × Bool} (e : as[i]? = some p) : noL (as.take (i + 1)) = if (!p.2) = true then noL (as.take i) ++ [p.1] else noL (as.take i) := by
  unfold noL
  rw [filter_more _ e]
  split
  · rw [List.map_append]; rfl
  · rfl
theorem one3 (p : Tx → B3) (ps : List Tx) : ((ps.filter (fun y => decide (p y = some true))).length < 2 → 0 < (ps.filter (fun y => decide (p y = none))).length → (Fc.one ps).op p = none) ∧
    (¬ ((ps.filter (fun y => decide (p y = some true))).length < 2 ∧ 0 < (ps.filter (fun y => decide (p y = none))).length) → (Fc.one ps).op p = some (decide ((ps.filter (fun y => decide (p y = some true))).length = 1))) := by
  have e1 : ((ps.map p).filter (· = some true)).length = (ps.filter (fun y => decide (p y = some true))).length := by
    rw [List.filter_map, List.length_map]
    rfl
  have e2 : none ∈ ps.map p ↔ 0 < (ps.filter (fun y => decide (p y = none))).length := by
    rw [List.length_pos_iff_exists_mem, List.mem_map]
    constructor
    · rintro ⟨y, hy, e⟩
      exact ⟨y, List.mem_filter.mpr ⟨hy, by simpa using e⟩⟩
    · rintro ⟨y, hy⟩
      obtain ⟨h1, h2⟩ := List.mem_filter.mp hy
      exact ⟨y, h1, by simpa using h2⟩
  have e3 : some true ∈ ps.map p ↔ 0 < (ps.filter (fun y => decide (p y = some true))).length := by
    rw [List.length_pos_iff_exists_mem, List.mem_map]
    constructor
    · rintro ⟨y, hy, e⟩
      exact ⟨y, List.mem_filter.mpr ⟨hy, by simpa using e⟩⟩
    · rintro ⟨y, hy⟩
      obtain ⟨h1, h2⟩ := List.mem_filter.mp hy
      exact ⟨y, h1, by simpa using h2⟩
  have e0 : (Fc.one ps).op p = if 1 < ((ps.map p).filter (· = some true)).length then some false else if none ∈ ps.map p then none else some (decide (some true ∈ ps.map p)) := rfl
  rw [e0, e1]
  constructor
  · intro h1 h2
    rw [if_neg (by omega), if_pos (e2.mpr h2)]
  · intro h
    by_cases h1 : 1 < (ps.filter (fun y => decide (p y = some true))).length
    · rw [if_pos h1, decide_eq_false (by omega)]
    · rw [if_neg h1, if_neg (fun z => h ⟨by omega, e2.mp z⟩)]
      exact congrArg some (decide_eq_decide.mpr (by rw [e3]; omega))
theorem one3_com (p : Tx → B3) (x : Tx) : (Fc.one [x]).op p = p x := by
  have e0 : (Fc.one [x]).op p = if 1 < (([x].map p).filter (· = some true)).length then some false else if none ∈ [x].map p then none else some (decide (some true ∈ [x].map p)) := rfl
  rw [e0]
  cases h : p x with
  | none => simp [h]
  | some b => cases b <;> simp [h]
theorem filt_pos {L : List B3} {a : B3} : 0 < (L.filter (· = a)).length ↔ a ∈ L := by
  rw [List.length_pos_iff_exists_mem]
  constructor
  · rintro ⟨y, hy⟩
    obtain ⟨h1, h2⟩ := List.mem_filter.mp hy
    have : y = a := by simpa using h2
    rw [← this]; exact h1
  · intro h
    exact ⟨a, List.mem_filter.mpr ⟨h, by simp⟩⟩
end Va

set_option Elab.async false
set_option linter.all false
set_option maxRecDepth 100000
set_option maxHeartbeats 4000000
namespace Va
open PySem PySem.Spec PyProof.Rows L2 Ind SrtB
/-! ### sorted names -/
abbrev SrtdN (l : List Tx) : Prop := l.Pairwise fun x y => ltS y x = false
theorem ltS_swo : SrtO.Swo ltS := swo_s id
theorem rising_pw : ∀ (l : List Tx) (p : Tx), risingS p l = true → SrtdN (p :: l)
  | [], p, _ => List.pairwise_singleton _ _
  | x :: r, p, h => by
    have h : (!ltCps x.cps.toList p.cps.toList && risingS x r) = true := h
    rw [Bool.and_eq_true] at h
    have h1 : ltS x p = false := by
      have := h.1
      rw [ltCps_eq] at this
      unfold ltS
      simpa using this
    have ih := rising_pw r x h.2
    refine List.pairwise_cons.mpr ⟨fun y hy => ?_, ih⟩
    rcases List.mem_cons.mp hy with rfl | hy
    · exact h1
    · exact ltS_swo.tr p x y h1 ((List.pairwise_cons.mp ih).1 y hy)
theorem sortedS_pw {l : List Tx} (h : sortedS l = true) : SrtdN l := by
  cases l with
  | nil => exact .nil
  | cons x r => exact rising_pw r x h
theorem ltS_tri {x y : Tx} (h1 : ltS x y = false) (h2 : ltS y x = false) : x = y := by
  have a := List.not_lt.mp (of_decide_eq_false h1)
  have b := List.not_lt.mp (of_decide_eq_false h2)
  have e := List.le_antisymm b a
  cases x; cases y
  have e2 := Array.toList_inj.mp e
  first | exact congrArg _ e2 | (cases e2; rfl) | (simp at e2; rw [e2])
/-- two sorted lists of the same items are one -/
theorem srtd_uniq {α : Type} {k : α → Tx} : ∀ {l m : List α}, SrtdN (l.map k) → SrtdN (m.map k) → l.Perm m → (∀ x ∈ l, ∀ y ∈ l, k x = k y → x = y) → l = m
  | [], m, _, _, p, _ => (List.Perm.eq_nil p.symm).symm
  | x :: l, [], _, _, p, _ => absurd p.length_eq (by simp)
  | x :: l, y :: m, hl, hm, p, inj => by
    have hl' : SrtdN (k x :: l.map k) := hl
    have hm' : SrtdN (k y :: m.map k) := hm
    have mx : x ∈ y :: m := p.mem_iff.mp List.mem_cons_self
    have my : y ∈ x :: l := p.mem_iff.mpr List.mem_cons_self
    have e : x = y := by
      rcases List.mem_cons.mp mx with e | hx
      · exact e
      · rcases List.mem_cons.mp my with e | hy
        · exact e.symm
        · have h1 := (List.pairwise_cons.mp hm').1 (k x) (List.mem_map_of_mem hx)
          have h2 := (List.pairwise_cons.mp hl').1 (k y) (List.mem_map_of_mem hy)
          exact inj x List.mem_cons_self y my (ltS_tri h1 h2)
    subst e
    rw [srtd_uniq (List.pairwise_cons.mp hl').2 (List.pairwise_cons.mp hm').2 p.cons_inv fun a ha b hb => inj a (List.mem_cons_of_mem _ ha) b (List.mem_cons_of_mem _ hb)]
theorem nodup_of_map {α β : Type} (f : α → β) {l : List α} (h : (l.map f).Nodup) : l.Nodup := List.Pairwise.of_map f (fun _ _ h e => h (congrArg f e)) h
theorem names_uniq {ms ks ns : List Tx} (p : ms.Perm ns) (h : sortedS ms = true) (p' : ks.Perm ns) (h' : sortedS ks = true) : ms = ks :=
  srtd_uniq (k := id) (by rw [List.map_id]; exact sortedS_pw h) (by rw [List.map_id]; exact sortedS_pw h') (p.trans p'.symm) fun _ _ _ _ e => e
/-! ### what is known of worlds -/
abbrev Row := List Tx
def cnt (n : Tx) (ws : List Row) : Nat := (ws.filter fun w => decide (n ∈ w)).length
def sure (ws : List Row) (n : Tx) : Bool := decide (cnt n ws = 0) || decide (cnt n ws = ws.length)
def decs (ms : List Tx) (ws : List Row) : List (Tx × Bool) := (ms.filter fun n => sure ws n).map fun n => (n, decide (0 < cnt n ws))
def opens (ms : List Tx) (ws : List Row) : List Tx := ms.filter fun n => !sure ws n
def seenR (ns : List Tx) (w : Row) : Row := ns.filter fun n => decide (n ∈ w)
def rowsOf (ms : List Tx) (ws : List Row) : List Row := (allR (opens ms ws)).filter fun r => decide (r ∈ ws.map (seenR (opens ms ws)))
def knownD (ms : List Tx) (ws : List Row) : D := .tup [.tup (sbD (decs ms ws)), .tup ((opens ms ws).map .str), .tup ((rowsOf ms ws).map strD)]
theorem cnt_le (n : Tx) (ws : List Row) : cnt n ws ≤ ws.length := List.length_filter_le _ _
theorem cnt_zero {n : Tx} {ws : List Row} : cnt n ws = 0 ↔ ∀ w ∈ ws, n ∉ w := by
  unfold cnt
  rw [List.length_eq_zero_iff, List.filter_eq_nil_iff]
  simp
theorem cnt_all {n : Tx} {ws : List Row} : cnt n ws = ws.length ↔ ∀ w ∈ ws, n ∈ w := by
  unfold cnt
  rw [List.length_filter_eq_length_iff]
  simp
theorem sure_iff {n : Tx} {ws : List Row} : sure ws n = true ↔ (∀ w ∈ ws, n ∉ w) ∨ ∀ w ∈ ws, n ∈ w := by
  unfold sure
  rw [Bool.or_eq_true, decide_eq_true_eq, decide_eq_true_eq, cnt_zero, cnt_all]
theorem opens_sub (ms : List Tx) (ws : List Row) : (opens ms ws).Sublist ms := List.filter_sublist
theorem rows_sub {ms : List Tx} {ws : List Row} {r : Row} (h : r ∈ rowsOf ms ws) : r.Sublist (opens ms ws) := allR_sub (List.mem_filter.mp h).1
theorem pos_cnt {n : Tx} {ws : List Row} (w : Row) (hw : w ∈ ws) (hs : sure ws n = true) : decide (0 < cnt n ws) = decide (n ∈ w) := by
  refine decide_eq_decide.mpr ⟨fun h => ?_, fun h => ?_⟩
  · rcases sure_iff.mp hs with z | z
    · rw [cnt_zero.mpr z] at h
      exact absurd h (Nat.lt_irrefl _)
    · exact z w hw
  · refine Nat.pos_of_ne_zero fun z => ?_
    exact cnt_zero.mp z w hw h
/-! ### kept -/
def inDec (os : List Row) (n : Tx) : Bool := (os.map fun o => decide (n ∈ o)).all id || !((os.map fun o => decide (n ∈ o)).any id)
theorem inDec_iff {os : List Row} {n : Tx} : inDec os n = true ↔ (∀ o ∈ os, n ∈ o) ∨ ∀ o ∈ os, n ∉ o := by
  unfold inDec
  simp
/-- the worlds that show what was chosen -/
def chosenW (K : List Tx) (ws os : List Row) : List Row := ws.filter fun w => decide (seenR K w ∈ os)
section kept
variable {ms : List Tx} {ws os : List Row}
theorem mem_seenR {K : List Tx} {w : Row} {n : Tx} : n ∈ seenR K w ↔ n ∈ K ∧ n ∈ w := by
  unfold seenR
  rw [List.mem_filter, decide_eq_true_eq]
theorem chosen_back (hs : os.Sublist (rowsOf ms ws)) {o : Row} (ho : o ∈ os) : ∃ w ∈ chosenW (opens ms ws) ws os, seenR (opens ms ws) w = o := by
  have h := (List.mem_filter.mp (hs.subset ho)).2
  obtain ⟨w, hw, e⟩ := List.mem_map.mp (of_decide_eq_true h)
  exact ⟨w, List.mem_filter.mpr ⟨hw, by rw [e]; exact decide_eq_true ho⟩, e⟩
theorem sure_kept (hs : os.Sublist (rowsOf ms ws)) {n : Tx} (hn : n ∈ opens ms ws) : sure (chosenW (opens ms ws) ws os) n = inDec os n := by
  rw [Bool.eq_iff_iff, sure_iff, inDec_iff]
  have key : ∀ w, n ∈ seenR (opens ms ws) w ↔ n ∈ w := fun w => mem_seenR.trans ⟨fun h => h.2, fun h => ⟨hn, h⟩⟩
  constructor
  · rintro (h | h)
    · refine .inr fun o ho z => ?_
      obtain ⟨w, hw, rfl⟩ := chosen_back hs ho
      exact h w hw ((key w).mp z)
    · refine .inl fun o ho => ?_
      obtain ⟨w, hw, rfl⟩ := chosen_back hs ho
      exact (key w).mpr (h w hw)
  · rintro (h | h)
    · refine .inr fun w hw => ?_
      exact (key w).mp (h _ (of_decide_eq_true (List.mem_filter.mp hw).2))
    · refine .inl fun w hw z => ?_
      exact h _ (of_decide_eq_true (List.mem_filter.mp hw).2) ((key w).mpr z)
theorem sure_more (K : List Tx) {n : Tx} (h : sure ws n = true) : sure (chosenW K ws os) n = true := by
  rcases sure_iff.mp h with z | z
  · exact sure_iff.mpr (.inl fun w hw => z w (List.mem_filter.mp hw).1)
  · exact sure_iff.mpr (.inr fun w hw => z w (List.mem_filter.mp hw).1)
theorem opens_kept (hs : os.Sublist (rowsOf ms ws)) : (opens ms ws).filter (fun n => !inDec os n) = opens ms (chosenW (opens ms ws) ws os) := by
  have e : (opens ms ws).filter (fun n => !inDec os n) = (opens ms ws).filter fun n => !sure (chosenW (opens ms ws) ws os) n := List.filter_congr fun n hn => by rw [sure_kept hs hn]
  rw [e]
  show (ms.filter fun n => !sure ws n).filter _ = ms.filter _
  rw [List.filter_filter]
  refine List.filter_congr fun n _ => ?_
  show (!sure (chosenW (opens ms ws) ws os) n && !sure ws n) = !sure (chosenW (opens ms ws) ws os) n
  cases h : sure ws n with
  | true => rw [sure_more _ h]; rfl
  | false => simp
theorem fst_map (l : List Tx) (f : Tx → Bool) : (l.map fun n => (n, f n)).map (·.1) = l := by
  rw [List.map_map]
  exact List.map_id' _
theorem sbD_app (a b : List (Tx × Bool)) : sbD (a ++ b) = sbD a ++ sbD b := List.map_append
theorem nd_kept (nd : ms.Nodup) (q f : Tx → Bool) : ((decs ms ws ++ ((opens ms ws).filter q).map fun n => (n, f n)).map (·.1)).Nodup := by
  rw [List.map_append]
  unfold decs
  rw [fst_map, fst_map]
  refine List.nodup_append.mpr ⟨nd.filter _, (nd.filter _).filter _, fun a ha b hb e => ?_⟩
  subst e
  have h1 := (List.mem_filter.mp ha).2
  have h2 := (List.mem_filter.mp (List.mem_filter.mp hb).1).2
  rw [h1] at h2
  cases h2
/-- what is decided then -/
theorem decs_kept (nd : ms.Nodup) (st : SrtdN ms) (hs : os.Sublist (rowsOf ms ws)) {o : Row} (ho : o ∈ os) {qs : List (Tx × Bool)} (pm : qs.Perm (decs ms ws ++ ((opens ms ws).filter fun n => inDec os n).map fun n => (n, decide (n ∈ o)))) (sq : SrtdN (qs.map (·.1))) :
    qs = decs ms (chosenW (opens ms ws) ws os) := by
  obtain ⟨w, hw, ew⟩ := chosen_back hs ho
  have hw0 := (List.mem_filter.mp hw).1
  have key : ∀ {n}, n ∈ opens ms ws → (n ∈ o ↔ n ∈ w) := fun {n} hn => by
    rw [← ew]
    exact mem_seenR.trans ⟨fun h => h.2, fun h => ⟨hn, h⟩⟩
  have f1 : ∀ (l : List Tx) (f : Tx → Bool), (l.map fun n => (n, f n)).map (·.1) = l := fun l f => by rw [List.map_map]; exact List.map_id' _
  have ndD : ∀ (p : Tx → Bool) (f : Tx → Bool), (((ms.filter p).map fun n => (n, f n))).Nodup := fun p f => by
    have : ((ms.filter p).map fun n => (n, f n)).map (·.1) |>.Nodup := by rw [f1]; exact nd.filter _
    exact nodup_of_map _ this
  have nd2 : ((decs ms ws ++ ((opens ms ws).filter fun n => inDec os n).map fun n => (n, decide (n ∈ o))).map (·.1)).Nodup := by
    rw [List.map_append]
    unfold decs
    rw [f1, f1]
    refine List.nodup_append.mpr ⟨nd.filter _, (nd.filter _).filter _, fun a ha b hb e => ?_⟩
    subst e
    have h1 := (List.mem_filter.mp ha).2
    have h2 := (List.mem_filter.mp (List.mem_filter.mp hb).1).2
    rw [h1] at h2
    cases h2
  have inj : ∀ x ∈ qs, ∀ y ∈ qs, x.1 = y.1 → x = y := by
    have ndq : (qs.map (·.1)).Nodup := (pm.map _).nodup_iff.mpr nd2
    intro x hx y hy e
    obtain ⟨i, hi, rfl⟩ := List.getElem_of_mem hx
    obtain ⟨j, hj, rfl⟩ := List.getElem_of_mem hy
    have e' : (qs.map (·.1))[i]'(by simpa using hi) = (qs.map (·.1))[j]'(by simpa using hj) := by simpa using e
    have pw := List.pairwise_iff_getElem.mp ndq
    rcases Nat.lt_trichotomy i j with z | z | z
    · exact absurd e' (pw i j _ _ z)
    · subst z; rfl
    · exact absurd e'.symm (pw j i _ _ z)
  refine srtd_uniq (k := fun p : Tx × Bool => p.1) sq ?_ (pm.trans ?_) inj
  · unfold decs
    rw [f1]
    exact st.sublist List.filter_sublist
  · refine (List.perm_ext_iff_of_nodup (nodup_of_map _ nd2) (ndD _ _)).mpr fun p => ?_
    obtain ⟨n, b⟩ := p
    rw [List.mem_append]
    unfold decs
    constructor
    · rintro (h | h)
      · obtain ⟨m, hm, e⟩ := List.mem_map.mp h
        obtain ⟨h1, h2⟩ := List.mem_filter.mp hm
        have h3 := sure_more (ws := ws) (os := os) (opens ms ws) h2
        cases e
        refine List.mem_map.mpr ⟨n, List.mem_filter.mpr ⟨h1, h3⟩, ?_⟩
        rw [pos_cnt w hw h3, pos_cnt w hw0 h2]
      · obtain ⟨m, hm, e⟩ := List.mem_map.mp h
        obtain ⟨h1, h2⟩ := List.mem_filter.mp hm
        have h3 : sure (chosenW (opens ms ws) ws os) m = true := (sure_kept hs h1).trans h2
        cases e
        refine List.mem_map.mpr ⟨n, List.mem_filter.mpr ⟨(opens_sub ms ws).subset h1, h3⟩, ?_⟩
        rw [pos_cnt w hw h3, decide_eq_decide.mpr (key h1)]
    · intro h
      obtain ⟨m, hm, e⟩ := List.mem_map.mp h
      obtain ⟨h1, h3⟩ := List.mem_filter.mp hm
      cases e
      cases h2 : sure ws n with
      | true =>
        refine .inl (List.mem_map.mpr ⟨n, List.mem_filter.mpr ⟨h1, h2⟩, ?_⟩)
        rw [pos_cnt w hw h3, pos_cnt w hw0 h2]
      | false =>
        have ho : n ∈ opens ms ws := List.mem_filter.mpr ⟨h1, by rw [h2]; rfl⟩
        refine .inr (List.mem_map.mpr ⟨n, List.mem_filter.mpr ⟨ho, (sure_kept hs ho).symm.trans h3⟩, ?_⟩)
        rw [pos_cnt w hw h3, decide_eq_decide.mpr (key ho)]
/-- rows, cut to some of the names, stay in order -/
theorem rows_order (p : Tx → Bool) : ∀ {K : List Tx} {os : List Row}, K.Nodup → os.Sublist (allR K) → (∀ n ∈ K, p n = false → (∀ o ∈ os, n ∈ o) ∨ ∀ o ∈ os, n ∉ o) →
    (allR (K.filter p)).filter (fun r => decide (r ∈ os.map (fun o => o.filter p))) = os.map fun o => o.filter p
  | [], os, _, hs, _ => by
    have hs : os.Sublist [[]] := hs
    rcases List.sublist_cons_iff.mp hs with h | ⟨r, rfl, h⟩
    · cases List.sublist_nil.mp h
      rfl
    · cases List.sublist_nil.mp h
      rfl
  | x :: K, os, nd, hs, hc => by
    have nd' := List.nodup_cons.mp nd
    obtain ⟨o1, o2, rfl, h1, h2⟩ := List.sublist_append_iff.mp (show os.Sublist ((allR K).map (fun r => x :: r) ++ allR K) from hs)
    obtain ⟨s1, h1', rfl⟩ := List.sublist_map_iff.mp h1
    have nx : ∀ r ∈ allR K, x ∉ r := fun r hr z => nd'.1 ((allR_sub hr).subset z)
    have n2 : ∀ r ∈ o2, x ∉ r := fun r hr => nx r (h2.subset hr)
    have c1 : ∀ n ∈ K, p n = false → (∀ o ∈ s1, n ∈ o) ∨ ∀ o ∈ s1, n ∉ o := fun n hn hp => by
      have ne : n ≠ x := fun e => nd'.1 (e ▸ hn)
      rcases hc n (List.mem_cons_of_mem _ hn) hp with h | h
      · refine .inl fun o ho => ?_
        have := h (x :: o) (List.mem_append_left _ (List.mem_map_of_mem ho))
        exact (List.mem_cons.mp this).resolve_left ne
      · refine .inr fun o ho z => ?_
        exact h (x :: o) (List.mem_append_left _ (List.mem_map_of_mem ho)) (List.mem_cons_of_mem _ z)
    have c2 : ∀ n ∈ K, p n = false → (∀ o ∈ o2, n ∈ o) ∨ ∀ o ∈ o2, n ∉ o := fun n hn hp => by
      rcases hc n (List.mem_cons_of_mem _ hn) hp with h | h
      · exact .inl fun o ho => h o (List.mem_append_right _ ho)
      · exact .inr fun o ho => h o (List.mem_append_right _ ho)
    have i1 := rows_order p nd'.2 h1' c1
    have i2 := rows_order p nd'.2 h2 c2
    cases hx : p x with
    | false =>
      rw [List.filter_cons_of_neg (by rw [hx]; exact Bool.false_ne_true)]
      have em : (s1.map fun r => x :: r).map (fun o => o.filter p) = s1.map fun o => o.filter p := by
        rw [List.map_map]
        refine List.map_congr_left fun o _ => ?_
        show (x :: o).filter p = o.filter p
        rw [List.filter_cons_of_neg (by rw [hx]; exact Bool.false_ne_true)]
      rw [List.map_append, em]
      rcases hc x List.mem_cons_self hx with h | h
      · have : o2 = [] := by
          cases o2 with
          | nil => rfl
          | cons r l => exact absurd (h r (List.mem_append_right _ List.mem_cons_self)) (n2 r List.mem_cons_self)
        subst this
        rw [List.map_nil, List.append_nil]
        exact i1
      · have : s1 = [] := by
          cases s1 with
          | nil => rfl
          | cons r l => exact absurd List.mem_cons_self (h (x :: r) (List.mem_append_left _ (List.mem_map_of_mem List.mem_cons_self)))
        subst this
        rw [List.map_nil, List.nil_append]
        exact i2
    | true =>
      rw [List.filter_cons_of_pos hx]
      have em : (s1.map fun r => x :: r).map (fun o => o.filter p) = (s1.map fun o => o.filter p).map fun r => x :: r := by
        rw [List.map_map, List.map_map]
        refine List.map_congr_left fun o _ => ?_
        show (x :: o).filter p = x :: o.filter p
        rw [List.filter_cons_of_pos hx]
      rw [List.map_append, em]
      show ((allR (K.filter p)).map (fun r => x :: r) ++ allR (K.filter p)).filter _ = _
      rw [List.filter_append, List.filter_map]
      have e1 : ∀ r : Row, x :: r ∈ (s1.map fun o => o.filter p).map (fun r => x :: r) ++ o2.map (fun o => o.filter p) ↔ r ∈ s1.map fun o => o.filter p := fun r => by
        rw [List.mem_append]
        constructor
        · rintro (h | h)
          · obtain ⟨r', hr', e⟩ := List.mem_map.mp h
            cases e
            exact hr'
          · obtain ⟨o, ho, e⟩ := List.mem_map.mp h
            have : x ∈ o.filter p := by rw [e]; exact List.mem_cons_self
            exact absurd (List.mem_filter.mp this).1 (n2 o ho)
        · exact fun h => .inl (List.mem_map_of_mem h)
      have e2 : ∀ r ∈ allR (K.filter p), (r ∈ (s1.map fun o => o.filter p).map (fun r => x :: r) ++ o2.map (fun o => o.filter p) ↔ r ∈ o2.map fun o => o.filter p) := fun r hr => by
        rw [List.mem_append]
        refine ⟨fun h => h.elim (fun h => ?_) id, .inr⟩
        obtain ⟨r', hr', e⟩ := List.mem_map.mp h
        have hx2 : x ∈ r := by rw [← e]; exact List.mem_cons_self
        exact absurd (List.mem_filter.mp ((allR_sub hr).subset hx2)).1 nd'.1
      congr 1
      · rw [← i1]
        congr 1
        refine List.filter_congr fun r _ => ?_
        exact decide_eq_decide.mpr (by rw [i1]; exact e1 r)
      · rw [← i2]
        refine List.filter_congr fun r hr => ?_
        exact decide_eq_decide.mpr (by rw [i2]; exact e2 r hr)
theorem rows_kept (nd : ms.Nodup) (hs : os.Sublist (rowsOf ms ws)) : os.map (fun o => seenR o (opens ms (chosenW (opens ms ws) ws os))) = rowsOf ms (chosenW (opens ms ws) ws os) := by
  have eU := opens_kept hs
  have hso : os.Sublist (allR (opens ms ws)) := hs.trans List.filter_sublist
  have ro := rows_order (K := opens ms ws) (fun n => !inDec os n) (nd.filter _) hso fun n hn hp => inDec_iff.mp (by simpa using hp)
  rw [eU] at ro
  have eo : os.map (fun o => seenR o (opens ms (chosenW (opens ms ws) ws os))) = os.map fun o => o.filter fun n => !inDec os n := by
    refine List.map_congr_left fun o ho => ?_
    unfold seenR
    refine List.filter_congr fun n hn => ?_
    have hk := (rows_sub (hs.subset ho)).subset hn
    rw [← eU]
    rw [Bool.eq_iff_iff, decide_eq_true_eq, List.mem_filter]
    exact ⟨fun h => h.2, fun h => ⟨hk, h⟩⟩
  rw [eo, ← ro]
  unfold rowsOf
  refine List.filter_congr fun r _ => ?_
  refine decide_eq_decide.mpr ?_
  rw [← eo]
  have cut : ∀ w, seenR (opens ms (chosenW (opens ms ws) ws os)) w = seenR (seenR (opens ms ws) w) (opens ms (chosenW (opens ms ws) ws os)) := fun w => by
    unfold seenR
    rw [← eU, List.filter_filter, List.filter_filter]
    refine List.filter_congr fun n hn => ?_
    rw [Bool.eq_iff_iff]
    simp only [Bool.and_eq_true, decide_eq_true_eq, List.mem_filter]
    exact ⟨fun h => ⟨⟨hn, h.2⟩, h.1⟩, fun h => ⟨h.2, h.1.2⟩⟩
  constructor
  · intro h
    obtain ⟨o, ho, e⟩ := List.mem_map.mp h
    obtain ⟨w, hw, ew⟩ := chosen_back hs ho
    refine List.mem_map.mpr ⟨w, hw, ?_⟩
    rw [cut, ew]
    exact e
  · intro h
    obtain ⟨w, hw, e⟩ := List.mem_map.mp h
    refine List.mem_map.mpr ⟨_, of_decide_eq_true (List.mem_filter.mp hw).2, ?_⟩
    rw [cut] at e
    exact e
end kept
/-! ### rows in rows -/
theorem pd_strD (r : Row) : (strD r).pd = .tuple (r.map PyData.str) := by
  show PyData.tuple (pdL (r.map D.str)) = _
  rw [pdL_map, List.map_map]; rfl
theorem eqvAll_strs (a : Row) : ∀ b : Row, PyData.eqvAll (a.map PyData.str) (b.map PyData.str) = decide (a = b) := by
  induction a with
  | nil =>
    intro b
    cases b with
    | nil => rw [List.map_nil, PyData.eqvAll, decide_eq_true rfl]
    | cons y b => rw [List.map_nil, List.map_cons, PyData.eqvAll, decide_eq_false (fun z => nomatch z)]
  | cons x a ih =>
    intro b
    cases b with
    | nil => rw [List.map_nil, List.map_cons, PyData.eqvAll, decide_eq_false (fun z => nomatch z)]
    | cons y b =>
      rw [List.map_cons, List.map_cons, PyData.eqvAll, PyData.eqv, ih b, Bool.eq_iff_iff, Bool.and_eq_true, beq_iff_eq, decide_eq_true_eq, decide_eq_true_eq]
      exact ⟨fun h => by rw [h.1, h.2], fun h => ⟨(List.cons.inj h).1, (List.cons.inj h).2⟩⟩
theorem eqv_rows (a b : Row) : PyData.eqv (strD a).pd (strD b).pd = decide (a = b) := by
  rw [pd_strD, pd_strD]
  rw [PyData.eqv]
  exact eqvAll_strs a b
theorem in_rows (r : Row) (rs : List Row) : ((rs.map strD).any fun y => PyData.eqv y.pd (strD r).pd) = decide (r ∈ rs) := by
  induction rs with
  | nil => rfl
  | cons x rs ih =>
    rw [List.map_cons, List.any_cons, ih, eqv_rows, Bool.eq_iff_iff, Bool.or_eq_true, decide_eq_true_eq, decide_eq_true_eq, decide_eq_true_eq, List.mem_cons]
    exact ⟨fun h => h.elim (fun e => .inl e.symm) .inr, fun h => h.elim (fun e => .inl e.symm) .inr⟩
theorem shaped_rows {rs : List Row} (h : ∀ r ∈ rs, ∀ x ∈ r, tOk x) : SeqAt.shaped (.list (pdL (rs.map strD))) = true := by
  have e : pdL (rs.map strD) = rs.map fun r => PyData.tuple (r.map PyData.str) := by
    rw [pdL_map, List.map_map]
    exact List.map_congr_left fun r _ => pd_strD r
  rw [e]
  have l : ∀ ys : List Tx, (∀ y ∈ ys, tOk y) → PyData.canLayAll0 (ys.map PyData.str) = true := fun ys hy => by
    induction ys with
    | nil => simp [PyData.canLayAll0]
    | cons y ys ih => simp [PyData.canLayAll0, PyData.canLay0, ih fun z hz => hy z (List.mem_cons_of_mem _ hz), (hy y (List.mem_cons_self ..)).ok]
  have d : ∀ ys : List Tx, PyData.depthAll (ys.map PyData.str) ≤ 1 := fun ys => by
    induction ys with
    | nil => simp [PyData.depthAll]
    | cons y ys ih => simp [PyData.depthAll, PyData.depth] at *; omega
  have l2 : ∀ rs : List Row, (∀ r ∈ rs, ∀ x ∈ r, tOk x) → PyData.canLayAll0 (rs.map fun r => PyData.tuple (r.map PyData.str)) = true := fun rs hr => by
    induction rs with
    | nil => simp [PyData.canLayAll0]
    | cons y ys ih => simp [PyData.canLayAll0, PyData.canLay0, ih fun z hz => hr z (List.mem_cons_of_mem _ hz), l y (hr y (List.mem_cons_self ..))]
  have d2 : ∀ rs : List Row, PyData.depthAll (rs.map fun r => PyData.tuple (r.map PyData.str)) ≤ 2 := fun rs => by
    induction rs with
    | nil => simp [PyData.depthAll]
    | cons y ys ih => have := d y; simp [PyData.depthAll, PyData.depth] at *; omega
  have := d2 rs
  simp [SeqAt.shaped, PyData.canLay0, PyData.depth, l2 rs h]
  omega
theorem shaped_row {r : Row} (h : ∀ x ∈ r, tOk x) : SeqAt.shaped (strD r).pd = true := shaped_names h
theorem filt_T {α : Type} {l : List α} {i : Nat} {x : α} {p : α → Bool} (e : l[i]? = some x) (h : p x = true) : (l.take (i + 1)).filter p = (l.take i).filter p ++ [x] := by
  rw [take_more e, List.filter_append, List.filter_cons_of_pos h, List.filter_nil]
theorem filt_F {α : Type} {l : List α} {i : Nat} {x : α} {p : α → Bool} (e : l[i]? = some x) (h : p x = false) : (l.take (i + 1)).filter p = (l.take i).filter p := by
  rw [take_more e, List.filter_append, List.filter_cons_of_neg (by rw [h]; exact Bool.false_ne_true), List.filter_nil, List.append_nil]
end Va

set_option Elab.async false
set_option linter.all false
set_option maxRecDepth 100000
set_option maxHeartbeats 4000000
/-! rows as keys: (whether it is a text, the value) for each cell; the order of such keys -/
namespace RowK
open PySem PySem.Spec PyProof.Rows SrtO SrtB PySem.W
abbrev Cell := Int ⊕ Str
def isS : Cell → Bool
  | .inl _ => false
  | .inr _ => true
def ltC : Cell → Cell → Bool
  | .inl i, .inl j => decide (i < j)
  | .inl _, .inr _ => true
  | .inr _, .inl _ => false
  | .inr x, .inr y => ltS x y
def ltR : List Cell → List Cell → Bool
  | [], [] => false
  | [], _ :: _ => true
  | _ :: _, [] => false
  | x :: r, y :: q => if x = y then ltR r q else ltC x y
theorem ltS_irr (x : Str) : ltS x x = false := decide_eq_false (List.lt_irrefl _)
theorem ltS_trans {x y z : Str} (h1 : ltS x y = true) (h2 : ltS y z = true) : ltS x z = true :=
  decide_eq_true (List.lt_trans (of_decide_eq_true h1) (of_decide_eq_true h2))
theorem ltC_irr : ∀ x : Cell, ltC x x = false
  | .inl i => decide_eq_false (Int.lt_irrefl i)
  | .inr x => ltS_irr x
theorem ltC_tri : ∀ {x y : Cell}, ltC x y = false → ltC y x = false → x = y
  | .inl i, .inl j, h1, h2 => by
    have a := of_decide_eq_false h1
    have b := of_decide_eq_false h2
    congr 1
    omega
  | .inl _, .inr _, h1, _ => nomatch h1
  | .inr _, .inl _, _, h2 => nomatch h2
  | .inr x, .inr y, h1, h2 => by rw [Va.ltS_tri h1 h2]
theorem ltC_trans : ∀ {x y z : Cell}, ltC x y = true → ltC y z = true → ltC x z = true
  | .inl i, .inl j, .inl k, h1, h2 => by
    have a := of_decide_eq_true h1
    have b := of_decide_eq_true h2
    exact decide_eq_true (by omega)
  | .inl _, .inl _, .inr _, _, _ => rfl
  | .inl _, .inr _, .inr _, _, _ => rfl
  | .inl _, .inr _, .inl _, _, h => nomatch h
  | .inr _, .inl _, _, h, _ => nomatch h
  | .inr _, .inr _, .inl _, _, h => nomatch h
  | .inr _, .inr _, .inr _, h1, h2 => ltS_trans h1 h2
theorem ltR_irr : ∀ r : List Cell, ltR r r = false
  | [] => rfl
  | x :: r => by
    show (if x = x then ltR r r else ltC x x) = false
    rw [if_pos rfl]
    exact ltR_irr r
theorem ltR_tri : ∀ {r q : List Cell}, ltR r q = false → ltR q r = false → r = q
  | [], [], _, _ => rfl
  | [], _ :: _, h, _ => nomatch h
  | _ :: _, [], _, h => nomatch h
  | x :: r, y :: q, h1, h2 => by
    have h1 : (if x = y then ltR r q else ltC x y) = false := h1
    have h2 : (if y = x then ltR q r else ltC y x) = false := h2
    by_cases e : x = y
    · subst e
      rw [if_pos rfl] at h1 h2
      rw [ltR_tri h1 h2]
    · rw [if_neg e] at h1
      rw [if_neg fun z => e z.symm] at h2
      exact absurd (ltC_tri h1 h2) e
theorem ltR_trans : ∀ {r q p : List Cell}, ltR r q = true → ltR q p = true → ltR r p = true
  | [], [], _, h, _ => nomatch h
  | [], _ :: _, [], _, h => nomatch h
  | [], _ :: _, _ :: _, _, _ => rfl
  | _ :: _, [], _, h, _ => nomatch h
  | _ :: _, _ :: _, [], _, h => nomatch h
  | x :: r, y :: q, z :: p, h1, h2 => by
    have h1 : (if x = y then ltR r q else ltC x y) = true := h1
    have h2 : (if y = z then ltR q p else ltC y z) = true := h2
    show (if x = z then ltR r p else ltC x z) = true
    by_cases e : x = y
    · subst e
      rw [if_pos rfl] at h1
      by_cases f : x = z
      · subst f
        rw [if_pos rfl] at h2 ⊢
        exact ltR_trans h1 h2
      · rw [if_neg f] at h2 ⊢
        exact h2
    · rw [if_neg e] at h1
      by_cases f : y = z
      · subst f
        rw [if_neg e]
        exact h1
      · rw [if_neg f] at h2
        have h3 := ltC_trans h1 h2
        by_cases g : x = z
        · subst g
          rw [ltC_irr] at h3
          cases h3
        · rw [if_neg g]
          exact h3
theorem swo_r {α : Type} (k : α → List Cell) : Swo fun v u => ltR (k v) (k u) := by
  refine ⟨fun x y h => ?_, fun x y z h1 h2 => ?_⟩
  · cases h2 : ltR (k y) (k x) with
    | false => rfl
    | true =>
      have := ltR_trans h h2
      rw [ltR_irr] at this
      cases this
  · cases h3 : ltR (k z) (k x) with
    | false => rfl
    | true =>
      exfalso
      cases h4 : ltR (k x) (k y) with
      | true =>
        have := ltR_trans h3 h4
        rw [h2] at this
        cases this
      | false =>
        rw [ltR_tri h4 h1] at h3
        rw [h2] at h3
        cases h3
/-! ### such keys in a heap -/
def CellVal (u : Value) : Cell → Prop
  | .inl i => ∃ t, u = .int i t
  | .inr x => ∃ t, u = .str x t
def IsCK (h : Heap) (v : Value) (c : Cell) : Prop := ∃ (a : Addr) (u : Value), v = .ref a ∧ IsTup h a #[.bool (isS c), u] ∧ CellVal u c
def IsRK (h : Heap) (v : Value) (r : List Cell) : Prop := ∃ (a : Addr) (its : List Value), v = .ref a ∧ IsTup h a its.toArray ∧ Paired (IsCK h) its r
theorem tup_keeps {h h' : Heap} {a : Addr} {its : Array Value} (x : IsTup h a its) (k : ∀ b o, h.get? b = some o → o.cls = .type "tuple" → h'.get? b = some o) : IsTup h' a its := by
  obtain ⟨o, ho, hc, r⟩ := x
  exact ⟨o, k _ _ ho hc, hc, r⟩
theorem IsCK.keeps {h h' : Heap} {v : Value} {c : Cell} (x : IsCK h v c) (k : ∀ b o, h.get? b = some o → o.cls = .type "tuple" → h'.get? b = some o) : IsCK h' v c := by
  obtain ⟨a, u, e, t, r⟩ := x
  exact ⟨a, u, e, tup_keeps t k, r⟩
theorem IsRK.keeps {h h' : Heap} {v : Value} {r : List Cell} (x : IsRK h v r) (k : ∀ b o, h.get? b = some o → o.cls = .type "tuple" → h'.get? b = some o) : IsRK h' v r := by
  obtain ⟨a, its, e, t, p⟩ := x
  exact ⟨a, its, e, tup_keeps t k, L2.Paired.mapP p fun _ _ q => IsCK.keeps q k⟩
section
variable {prog : Program} {w : World} {A : Around} {E : Value → Shared → Prop} {s : Shared}
open PySem.SeqAt
theorem cell_eq {u v : Value} {c d : Cell} (hu : CellVal u c) (hv : CellVal v d) : EqAt A s u v (decide (c = d)) := by
  cases c with
  | inl i =>
    obtain ⟨t, rfl⟩ := hu
    cases d with
    | inl j =>
      obtain ⟨t', rfl⟩ := hv
      have e : decide ((Sum.inl i : Cell) = .inl j) = (i == j) := by
        rw [Bool.eq_iff_iff]
        simp
      rw [e]
      exact EqAt.int_int i t j t'
    | inr y =>
      obtain ⟨t', rfl⟩ := hv
      exact EqAt.int_str i t y t'
  | inr x =>
    obtain ⟨t, rfl⟩ := hu
    cases d with
    | inl j =>
      obtain ⟨t', rfl⟩ := hv
      exact EqAt.str_int x t j t'
    | inr y =>
      obtain ⟨t', rfl⟩ := hv
      have e : decide ((Sum.inr x : Cell) = .inr y) = (x == y) := by
        rw [Bool.eq_iff_iff]
        simp
      rw [e]
      exact EqAt.str_str x t y t'
theorem cell_lt {u v : Value} {c d : Cell} (hu : CellVal u c) (hv : CellVal v d) (hs : isS c = isS d) : RcLt A s u v (ltC c d) := by
  cases c with
  | inl i =>
    cases d with
    | inl j =>
      obtain ⟨t, rfl⟩ := hu
      obtain ⟨t', rfl⟩ := hv
      intro prog w E Q h
      exact (PyProof.Rows.lt_int h : wpAny (model prog w) A (compareOp .Lt (.int i t) (.int j t')) Q E s)
    | inr y => cases hs
  | inr x =>
    cases d with
    | inl j => cases hs
    | inr y =>
      obtain ⟨t, rfl⟩ := hu
      obtain ⟨t', rfl⟩ := hv
      intro prog w E Q h
      exact (PyProof.Rows.lt_str h : wpAny (model prog w) A (compareOp .Lt (.str x t) (.str y t')) Q E s)
theorem isS_eq {c d : Cell} (h : c = d) : isS c = isS d := by rw [h]
theorem ck_eq {u v : Value} {c d : Cell} (hu : IsCK s.heap u c) (hv : IsCK s.heap v d) (hr : A.units < cLine) : EqAt A s u v (decide (c = d)) := by
  obtain ⟨a, x, rfl, ha, hx⟩ := hu
  obtain ⟨b, y, rfl, hb, hy⟩ := hv
  by_cases hab : a = b
  · subst hab
    obtain ⟨o, ho, hc, n, hd⟩ := ha
    obtain ⟨o', ho', hc', n', hd'⟩ := hb
    have eo : o = o' := Option.some.inj (ho.symm.trans ho')
    subst eo
    have el := congrArg Array.toList (Data.seq.inj (hd.symm.trans hd')).1
    have e1 := Value.bool.inj (List.cons.inj el).1
    have e2 := (List.cons.inj (List.cons.inj el).2).1
    subst e2
    have e : c = d := by
      cases c with
      | inl i =>
        cases d with
        | inl j =>
          obtain ⟨t, rfl⟩ := hx
          obtain ⟨t', e⟩ := hy
          rw [(Value.int.inj e).1]
        | inr y => cases e1
      | inr z =>
        cases d with
        | inl j => cases e1
        | inr y =>
          obtain ⟨t, rfl⟩ := hx
          obtain ⟨t', e⟩ := hy
          rw [(Value.str.inj e).1]
    rw [decide_eq_true e]
    exact EqAt.same _
  · have e : decide (c = d) = ((List.range (min (#[Value.bool (isS c), x] : Array Value).size (#[Value.bool (isS d), y] : Array Value).size)).all (fun j => if j = 0 then isS c == isS d else decide (c = d)) && (#[Value.bool (isS c), x] : Array Value).size == (#[Value.bool (isS d), y] : Array Value).size) := by
      show decide (c = d) = (((isS c == isS d) && (decide (c = d) && true)) && true)
      by_cases q : c = d
      · rw [decide_eq_true q, q]
        simp
      · rw [decide_eq_false q]
        simp
    rw [e]
    refine EqAt.of_refs hab (RcAt.tuples ha hb hr fun j h1 h2 => ?_)
    match j, h1, h2 with
    | 0, _, _ => exact EqAt.bool_bool (isS c) (isS d)
    | 1, _, _ => exact cell_eq hx hy
    | j + 2, h1, _ => exact absurd h1 (by show ¬ (j + 2 < 2); omega)
theorem lt_bools (p q : Bool) (hne : p ≠ q) (hr : A.units + 1 < cLine) : RcLt A s (.bool p) (.bool q) (!p && q) := by
  have h := PySem.W.rcLt_alike (.bool p) (.bool q) A s (.bool p) (.bool q) [] [] (by constructor) (by constructor) (by rfl) (by simp) (by show A.units + min (PyData.depth (.bool p)) (PyData.depth (.bool q)) < cLine; simp [PyData.depth]; omega)
  rw [PySem.W.dataLt_bool] at h
  have e : decide (b2i p < b2i q) = (!p && q) := by cases p <;> cases q <;> rfl
  rw [e] at h
  exact h
section
open PySem.AutoSeq1 (wpAny_loadPart')
open PySem.MeetsSeq PySem.MeetsSeq2 PySem.MeetsSeq3
theorem flags_meet (l b : Addr) (n n2 : Nat) (dd dd2 : Option Addr) (sl sl2 : Array (Option Value)) (p q : Bool) (x y : Value) (hne : p ≠ q) :
    Meets (Builtin.«tuple.__lt__» ⟨[.ref l, .ref b], []⟩)
      (fun A1 R s => A1.in1.units + 1 < cLine ∧ s.heap.get? l = some { cls := .type "tuple", dict := dd, data := .seq #[.bool p, x] n, slots := sl } ∧ s.heap.get? b = some { cls := .type "tuple", dict := dd2, data := .seq #[.bool q, y] n2, slots := sl2 } ∧
        R (.ok (.ret (.bool (!p && q)))) s) :=
  .of_wp fun prog w A1 R s h => by
    obtain ⟨hp, g, d, tk, os⟩ := s
    obtain ⟨hu, hl, hb, h⟩ := h
    have f2 := AutoSeq1.sub_tuple_tuple
    wp_walk using wpAny_loadPart' hl, wpAny_loadPart' hb, wpAny_forIn_list _ (fun rest c s1 => c.1 = none ∧ s1 = ⟨hp, g, d, tk, os⟩ ∧ rest = [(Value.bool p, Value.bool q), (x, y)]) _
    case turn =>
      rintro ⟨u, v⟩ rest c s1 ⟨hc, rfl, hz⟩
      injection hz with z1 z2
      injection z1 with z3 z4
      subst z3 z4 z2
      have he := EqAt.bool_bool (A := A1.in1) (s := ⟨hp, g, d, tk, os⟩) p q
      have e0 : (p == q) = false := by cases p <;> cases q <;> first | rfl | exact absurd rfl hne
      rw [e0] at he
      refine wpAny_bind (he prog w _ _ ?_)
      have hri := lt_bools (A := A1.in1) (s := ⟨hp, g, d, tk, os⟩) p q hne hu prog w
      wp_walk using hri
      exact ⟨_, rfl, by simpa using h⟩
    case fin =>
      rintro ⟨b1, b2⟩ s1 ⟨hc, rfl, hz⟩
      cases hz
    case h => exact ⟨rfl, rfl, rfl⟩
end
theorem ck_lt {u v : Value} {c d : Cell} (hu : IsCK s.heap u c) (hv : IsCK s.heap v d) (hne : c ≠ d) (hr : A.units + 8 < cLine) : RcLt A s u v (ltC c d) := by
  obtain ⟨a, x, rfl, ha, hx⟩ := hu
  obtain ⟨b, y, rfl, hb, hy⟩ := hv
  by_cases hs : isS c = isS d
  · have e : ltC c d = firstLt (fun j => if j = 0 then isS c == isS d else decide (c = d)) (fun _ => ltC c d) (decide ((#[Value.bool (isS c), x] : Array Value).size < (#[Value.bool (isS d), y] : Array Value).size)) (List.range (min (#[Value.bool (isS c), x] : Array Value).size (#[Value.bool (isS d), y] : Array Value).size)) := by
      show ltC c d = firstLt _ _ _ [0, 1]
      rw [firstLt_yes (by show (isS c == isS d) = true; simpa using hs), firstLt_no (by show decide (c = d) = false; exact decide_eq_false hne)]
    rw [e]
    refine RcLt.tuples ha hb (by omega) (fun j h1 h2 => ?_) fun j h1 h2 hj => ?_
    · match j, h1, h2 with
      | 0, _, _ => exact EqAt.bool_bool (isS c) (isS d)
      | 1, _, _ => exact cell_eq hx hy
      | j + 2, h1, _ => exact absurd h1 (by show ¬ (j + 2 < 2); omega)
    · match j, h1, h2, hj with
      | 0, _, _, hj =>
        have hj : (isS c == isS d) = false := hj
        rw [hs] at hj
        simp at hj
      | 1, _, _, _ => exact cell_lt hx hy hs
      | j + 2, h1, _, _ => exact absurd h1 (by show ¬ (j + 2 < 2); omega)
  · have e : ltC c d = (!isS c && isS d) := by
      cases c <;> cases d <;> first | rfl | exact absurd rfl hs
    rw [e]
    intro prog w E Q h
    obtain ⟨⟨cls, dd, data, sl⟩, ho, hc, n, hd⟩ := id ha
    obtain ⟨⟨cls2, dd2, data2, sl2⟩, ho2, hc2, n2, hd2⟩ := id hb
    simp only at hc hd hc2 hd2
    subst hc hd hc2 hd2
    exact richCompare_meets_room (op := .Lt) ⟨_, ho, rfl⟩ ⟨_, ho2, rfl⟩ PySem.F.slot_tuple_lt PySem.F.entry_tuple_lt (PySem.F.args_tuple_lt_2 _ _) (flags_meet a b n n2 dd dd2 sl sl2 (isS c) (isS d) x y hs)
      ⟨by show A.units + 1 + 1 < cLine; omega, ho, ho2, show Value.bool (!isS c && isS d) ≠ Value.notImplemented ∧ Q (.bool (!isS c && isS d)) s from ⟨(fun z => nomatch z), h⟩⟩ (by omega)
/-! ### the sort's question -/
theorem ck_lex {Q : Bool → Shared → Prop} (hr : A.units + 8 < cLine) : ∀ {ps qs : List Value} {r q : List Cell}, Paired (IsCK s.heap) ps r → Paired (IsCK s.heap) qs q → ∀ i, Q (ltR r q) s → PySem.W.KatLex prog w A false (decide (ps.length < qs.length)) Q (ps.zip qs) i s
  | [], [], _, _, .nil, .nil, _, h => PySem.W.kat_nil h
  | [], _ :: _, _, _, .nil, .cons _ _, _, h => PySem.W.kat_nil (by rw [decide_eq_true (by simp)]; exact h)
  | _ :: _, [], _, _, .cons _ _, .nil, _, h => PySem.W.kat_nil (by rw [decide_eq_false (by simp)]; exact h)
  | p :: ps, u :: qs, x :: r, y :: q, .cons a ra, .cons b rb, i, h => by
    have h : Q (if x = y then ltR r q else ltC x y) s := h
    refine PySem.W.kat_cons (ck_eq a b (by omega) prog w _ _ ?_)
    refine PySem.W.kat_go (fun e => ?_) (fun e => ?_)
    · have e := of_decide_eq_true e
      rw [if_pos e] at h
      have el : decide ((p :: ps).length < (u :: qs).length) = decide (ps.length < qs.length) := decide_eq_decide.mpr (by simp)
      rw [el]
      exact PySem.W.kat_yes (ck_lex hr ra rb (i + 1) h)
    · have e := of_decide_eq_false e
      rw [if_neg e] at h
      refine PySem.W.kat_no ?_
      show wpAny _ _ (oneLt' false _ _) _ _ _
      exact PySem.W.kat_one _ _ (ck_lt a b e hr prog w _ _ h)
theorem rk_cmp {ks : List Value} {k : Value → List Cell} (hr : A.units + 8 < cLine) (hp : ∀ v ∈ ks, IsRK s.heap v (k v)) : Cmp prog w A s (tuples' false) (fun p => p.1 ∈ ks) (lt2 fun v u => ltR (k v) (k u)) := by
  intro p q hm hm'
  obtain ⟨a, its, e, ⟨o, ho, hc, n, hd⟩, pr⟩ := hp _ hm
  obtain ⟨a', its', e', ⟨o', ho', hc', n', hd'⟩, pr'⟩ := hp _ hm'
  show wpAny (model prog w) A (keyLt' (tuples' false) p.1 q.1) (fun r s' => s' = s ∧ r = ltR (k p.1) (k q.1)) (fun _ _ => False) s
  generalize k p.1 = r at pr ⊢
  generalize k q.1 = r' at pr' ⊢
  rw [e, e']
  refine PySem.W.kat_lt ho hd ho' hd' ?_
  rw [List.size_toArray, List.size_toArray]
  exact ck_lex hr pr pr' 0 ⟨rfl, rfl⟩
theorem rk_firsts {h : Heap} : ∀ {vs : List Value}, (∀ v ∈ vs, ∃ r, IsRK h v r ∧ r ≠ []) → ∃ fs : List Value, PySem.W.KatTups h vs fs ∧ fs.length = vs.length ∧ ∀ f ∈ fs, ∃ (q : Addr) (o : Obj), f = Value.ref q ∧ h.get? q = some o ∧ o.cls = .type "tuple"
  | [], _ => ⟨[], PySem.W.KatTups.nil, rfl, fun _ hm => by simp at hm⟩
  | v :: vs, hp => by
    obtain ⟨fs, h1, h2, h3⟩ := rk_firsts (vs := vs) fun u hm => hp u (List.mem_cons_of_mem _ hm)
    obtain ⟨r, ⟨a, its, e, ⟨o, ho, hc, n, hd⟩, pr⟩, ne⟩ := hp v (List.mem_cons_self ..)
    subst e
    cases pr with
    | nil => exact absurd rfl ne
    | @cons u c its r ck pr =>
      obtain ⟨b, x, e2, ⟨o2, ho2, hc2, _⟩, _⟩ := ck
      refine ⟨u :: fs, PySem.W.KatTups.cons ho hc hd rfl h1, by rw [List.length_cons, List.length_cons, h2], fun f hm => ?_⟩
      rcases List.mem_cons.mp hm with rfl | hm
      · exact ⟨b, o2, e2, ho2, hc2⟩
      · exact h3 f hm
theorem rk_kind {ks : List Value} {Q : SortKind → Shared → Prop} (h2 : 0 < ks.length) (hp : ∀ v ∈ ks, ∃ r, IsRK s.heap v r ∧ r ≠ []) (h : Q (tuples' false) s) : wpAny (model prog w) A (keyKind' ks.toArray) Q E s := by
  obtain ⟨fs, h1, hl, h3⟩ := rk_firsts hp
  refine PySem.W.kat_kind (T := .type "tuple") h1 (by omega) (fun f hm => ?_) (by rfl) ?_
  · obtain ⟨q, o, rfl, ho, hc⟩ := h3 f hm
    have z : PySem.W.Looks (model prog w) s.heap (typeOf (.ref q)) o.cls := (PySem.W.Looks.ld ho).andThen .now
    rw [hc] at z
    exact z
  · have e : (Value.type "tuple" != Value.type "tuple") = false := by first | rfl | decide | simp
    rw [e]
    exact h
end
end RowK

set_option Elab.async false
set_option linter.all false
set_option maxRecDepth 100000
set_option maxHeartbeats 4000000
/-! sorted(xs, key=f), f a def of the program, its keys made of rows -/
namespace RowK
open PySem PySem.Spec PyProof.Rows
theorem CellVal.inj {u : Value} : ∀ {c d : Cell}, CellVal u c → CellVal u d → c = d
  | .inl i, .inl j, ⟨t, h⟩, ⟨t', h'⟩ => by rw [(Value.int.inj (h.symm.trans h')).1]
  | .inl i, .inr y, ⟨t, h⟩, ⟨t', h'⟩ => nomatch h.symm.trans h'
  | .inr x, .inl j, ⟨t, h⟩, ⟨t', h'⟩ => nomatch h.symm.trans h'
  | .inr x, .inr y, ⟨t, h⟩, ⟨t', h'⟩ => by rw [(Value.str.inj (h.symm.trans h')).1]
theorem tup_inj {h : Heap} {a : Addr} {i j : List Value} (x : IsTup h a i.toArray) (y : IsTup h a j.toArray) : i = j := by
  obtain ⟨o, ho, hc, n, hd⟩ := x
  obtain ⟨o', ho', hc', n', hd'⟩ := y
  have eo : o = o' := Option.some.inj (ho.symm.trans ho')
  subst eo
  have e := congrArg Array.toList (Data.seq.inj (hd.symm.trans hd')).1
  simpa using e
theorem IsCK.inj {h : Heap} {v : Value} {c d : Cell} (x : IsCK h v c) (y : IsCK h v d) : c = d := by
  obtain ⟨a, u, rfl, t, hc⟩ := x
  obtain ⟨b, u', e, t', hd⟩ := y
  cases e
  have q : [Value.bool (isS c), u] = [Value.bool (isS d), u'] := tup_inj (h := h) (a := a) t t'
  have e2 := (List.cons.inj (List.cons.inj q).2).1
  subst e2
  exact hc.inj hd
theorem cks_inj {h : Heap} : ∀ {us : List Value} {r q : List Cell}, Paired (IsCK h) us r → Paired (IsCK h) us q → r = q
  | _, _, _, .nil, .nil => rfl
  | _, _, _, .cons a p, .cons b q => by rw [a.inj b, cks_inj p q]
theorem IsRK.inj {h : Heap} {v : Value} {r q : List Cell} (x : IsRK h v r) (y : IsRK h v q) : r = q := by
  obtain ⟨a, its, rfl, t, p⟩ := x
  obtain ⟨b, its', e, t', p'⟩ := y
  cases e
  have e2 := tup_inj t t'
  subst e2
  exact cks_inj p p'
theorem rk_ex (h : Heap) : ∃ f : Value → List Cell, ∀ v r, IsRK h v r → f v = r := by
  classical
  refine ⟨fun v => if x : ∃ r, IsRK h v r then Classical.choose x else [], fun v r x => ?_⟩
  have y : ∃ r, IsRK h v r := ⟨r, x⟩
  show (if x : ∃ r, IsRK h v r then Classical.choose x else []) = r
  rw [dif_pos y]
  exact (Classical.choose_spec y).inj x
/-- what a sort gave, with what stands for it: keys and rows, items and what they mean -/
theorem out_lift {α : Type} {R : α → Value → Prop} {k : Value → List Cell} {ks its : List Value} {rows : List (List Cell)} {xs : List α} (hk : Paired (fun u r => k u = r) ks rows) (hx : Paired R xs its)
    {out : List (Value × Value)} (hp : out.Perm (ks.zip its)) (hl : ks.length = its.length) (hs : out.Pairwise fun p q => ltR (k q.1) (k p.1) = false) :
    ∃ ps : List (List Cell × α), ps.Perm (rows.zip xs) ∧ (ps.Pairwise fun p q => ltR q.1 p.1 = false) ∧ Paired R (ps.map (·.2)) (out.map (·.2)) := by
  have zz : ∀ {ks its : List Value} {rows : List (List Cell)} {xs : List α}, Paired (fun u r => k u = r) ks rows → Paired R xs its → ks.length = its.length →
      ∃ L : List ((Value × Value) × (List Cell × α)), L.map (·.1) = ks.zip its ∧ L.map (·.2) = rows.zip xs ∧ ∀ z ∈ L, k z.1.1 = z.2.1 ∧ R z.2.2 z.1.2 := by
    intro ks
    induction ks with
    | nil =>
      intro its rows xs a b e
      cases a
      exact ⟨[], by simp, by simp, by simp⟩
    | cons u ks ih =>
      intro its rows xs a b e
      cases a with
      | cons a1 a2 =>
        cases b with
        | nil => cases e
        | cons b1 b2 =>
          obtain ⟨L, h1, h2, h3⟩ := ih a2 b2 (by simpa using e)
          refine ⟨((u, _), (_, _)) :: L, by rw [List.map_cons, h1]; rfl, by rw [List.map_cons, h2]; rfl, fun z hz => ?_⟩
          rcases List.mem_cons.mp hz with rfl | hz
          · exact ⟨a1, b1⟩
          · exact h3 z hz
  obtain ⟨L, h1, h2, h3⟩ := zz hk hx hl
  obtain ⟨M, pm, em⟩ := L2.perm_lift (·.1) hp L h1
  refine ⟨M.map (·.2), by rw [← h2]; exact pm.map _, ?_, ?_⟩
  · rw [← em, List.pairwise_map] at hs
    rw [List.pairwise_map]
    refine List.Pairwise.imp_of_mem (fun {x y} hx hy h => ?_) hs
    rw [← (h3 x (pm.mem_iff.mp hx)).1, ← (h3 y (pm.mem_iff.mp hy)).1]
    exact h
  · rw [← em, List.map_map, List.map_map]
    have : ∀ M : List ((Value × Value) × (List Cell × α)), (∀ z ∈ M, R z.2.2 z.1.2) → Paired R (M.map ((·.2) ∘ (·.2))) (M.map ((·.2) ∘ (·.1))) := fun M => by
      induction M with
      | nil => exact fun _ => .nil
      | cons z M ih => exact fun h => .cons (h z List.mem_cons_self) (ih fun y hy => h y (List.mem_cons_of_mem _ hy))
    exact this M fun z hz => (h3 z (pm.mem_iff.mp hz)).2
end RowK
namespace L2
open PySem PySem.Spec PyProof.Rows SrtO RowK PySem.W
def KeyCell (K : PySem.W.Frag) (H : Hp) (v : V) (c : Cell) : Prop := ∃ t, v = V.ref t ∧ SqT K H t [.bl (isS c), kV c]
def KeyRow (K : PySem.W.Frag) (H : Hp) (v : V) (r : List Cell) : Prop := ∃ t ts, v = V.ref t ∧ SqT K H t ts ∧ Paired (KeyCell K H) ts r
section
variable {X : Cx} {pins : List (Addr × Obj)} {σ : St} {H : Hp} {s : Shared}
theorem Inv.keyCell (I : Inv X pins σ H s) {v : V} {u : Value} {c : Cell} (h : KeyCell X.K H v c) (r : RelV v u) : IsCK s.heap u c := by
  obtain ⟨t, rfl, hs⟩ := h
  obtain ⟨its, rv, ht, _⟩ := I.tuple hs
  obtain rfl : u = Value.ref t := r
  obtain ⟨u1, u2, rfl, r1, r2⟩ := vals2 rv
  obtain rfl : u1 = Value.bool (isS c) := r1
  refine ⟨t, u2, rfl, ht, ?_⟩
  cases c with
  | inl i => exact r2
  | inr x => exact r2
theorem Inv.keyCells (I : Inv X pins σ H s) : ∀ {vs : List V} {us : List Value} {r : List Cell}, Paired (KeyCell X.K H) vs r → Vals vs us → Paired (IsCK s.heap) us r
  | _, _, _, .nil, .nil => .nil
  | _, _, _, .cons a p, .cons b q => .cons (I.keyCell a b) (I.keyCells p q)
theorem Inv.keyRow (I : Inv X pins σ H s) {v : V} {u : Value} {r : List Cell} (h : KeyRow X.K H v r) (q : RelV v u) : IsRK s.heap u r := by
  obtain ⟨t, ts, rfl, hs, hp⟩ := h
  obtain ⟨its, rv, ht, _⟩ := I.tuple hs
  obtain rfl : u = Value.ref t := q
  exact ⟨t, its, rfl, ht, I.keyCells hp rv⟩
theorem Inv.keyRows (I : Inv X pins σ H s) : ∀ {vs : List V} {us : List Value} {rs : List (List Cell)}, Paired (KeyRow X.K H) vs rs → Vals vs us → Paired (IsRK s.heap) us rs
  | _, _, _, .nil, .nil => .nil
  | _, _, _, .cons a p, .cons b q => .cons (I.keyRow a b) (I.keyRows p q)
/-- a def is called from within a built-in that was called -/
theorem run_in2 {k : Nat} {f : Addr} {fd : FuncData} {ps : List Str} {sp : Sp} {Q : VK} {E0 : XK} {us : List Value} {vs : List V} (F : FnOk X.prog X.w X.K X.mg X.base CX0 k f fd ps sp) (hr : Room (k + 2) X.A) (hb : Binds X.K fd ps [])
    (I : Inv X pins σ H s) (r : Vals vs us) (h : sp vs H Q E0) : wpAny (model X.prog X.w) X.A.in1.in1 (call (.ref f) us) (EP X pins σ Q) (fun _ _ => False) s := by
  have hl : (us ++ []).length = ps.length := by rw [List.append_nil, ← r.length]; exact F.len _ _ _ _ h
  have hbt := hb s us I.kIn hl
  rw [List.append_nil] at hbt
  refine wpAny_call (codeAny_mono (F.run X.A.in1.in1 X.stack s H ⟨us, []⟩ us vs Q E0 hr.in1.in1 I.env0.in1.in1 hbt r h) fun z s' hq => ?_)
  cases z with
  | error e => exact False.elim hq
  | ok fl =>
    cases fl with
    | ret u => exact I.after hq
    | next => exact False.elim hq
    | brk => exact False.elim hq
    | cont => exact False.elim hq
theorem Paired.vals {ys : List V} {us : List Value} (h : Paired RelV ys us) : Vals ys us := by
  induction h with
  | nil => exact .nil
  | cons a _ ih => exact .cons a ih
theorem Vals.paired : ∀ {ys : List V} {us : List Value}, Vals ys us → Paired RelV ys us
  | _, _, .nil => .nil
  | _, _, .cons a p => .cons a (Vals.paired p)
def SortOut (rows : List (List Cell)) (xs : List V) (H : Hp) (Q : VK) : Prop :=
  ∀ (ps : List (List Cell × V)) p, ps.Perm (rows.zip xs) → (ps.Pairwise fun x y => ltR y.1 x.1 = false) → H p = none → Q (.ref p) (upd H p (.lst (ps.map (·.2))))
section
variable {a kS : Addr} {e1 e2 : Nat} {ks its : List Value} {rows : List (List Cell)} {xs : List V} {Q : VK} {E1 : Value → Shared → Prop}
theorem key_tail (I : Inv X pins σ H s) (fa : FpOk X pins H a) (fk : FpOk X pins H kS) (na : s.heap.get? a = some (seqObj "list" #[] e1)) (nk : s.heap.get? kS = some (seqObj "list" ks.toArray e2)) (hne : kS ≠ a)
    (hlen : ks.length = its.length) (hz : its.length ≤ sizeLine) {ys : List V} {st : SortSt} (hf : failedOf st = none) (hy : Vals ys ((arrOf st).toList.map (·.2))) (hyl : ys.length ≤ sizeLine) (q : Q (.ref a) (upd H a (.lst ys))) :
    wpAny (model X.prog X.w) X.A.in1.in1 (ksk_tail a false e1 (.ref kS) st) (fun f s' => f = .done (.ret .none) ∧ EP X pins σ Q (.ref a) s') E1 s := by
  have b1 := Heap.SameBut.update s.heap kS (Obj.mapSeq fun _ => (#[] : Array Value))
  have n1 : (s.heap.update kS (Obj.mapSeq fun _ => (#[] : Array Value))).get? a = some (seqObj "list" #[] e1) := (b1.2 a hne.symm).trans na
  have b2 := Heap.SameBut.update (s.heap.update kS (Obj.mapSeq fun _ => (#[] : Array Value))) a (Obj.mapSeq fun _ => (arrOf st).map (·.2))
  obtain ⟨c, hc⟩ : ∃ c, ((s.heap.update kS (Obj.mapSeq fun _ => (#[] : Array Value))).update a (Obj.mapSeq fun _ => (arrOf st).map (·.2))).get? a = some (seqObj "list" ((arrOf st).map (·.2)) c) := ⟨_, get?_update_seq n1 fun _ => (arrOf st).map (·.2)⟩
  have sz : ((arrOf st).map (·.2)).size ≤ sizeLine := by
    rw [← Array.length_toList, Array.toList_map, ← hy.length]
    exact hyl
  unfold ksk_tail
  try dsimp only
  refine wpAny_bind (listUpdate_at nk rfl ?_ (by rw [List.size_toArray]; omega) (Nat.zero_le _))
  refine wpAny_bind (wpAny_letGo (wpAny_bind (seqEpoch_at n1 rfl ?_)))
  refine wpAny_bind (listUpdate_at n1 rfl ?_ (Nat.zero_le _) (Nat.le_succ_of_le sz))
  rw [hf]
  simp only [bne_self_eq_false, Bool.false_eq_true, if_false]
  refine wpAny_pure ⟨rfl, .ref a, upd H a (.lst ys), ?_, rfl, q⟩
  have I1 := I.turnedL (t' := s.toks) (ch := [kS]) (h' := s.heap.update kS (Obj.mapSeq fun _ => (#[] : Array Value))) (fun b o hb e => (b1.2 b fun z => hb (by simp [z])).trans e) fun b hb => by
    rw [List.mem_singleton.mp hb]
    exact fk
  have I2 := Inv.take (t' := s.toks) (o := .lst ys) I1 (h' := (s.heap.update kS (Obj.mapSeq fun _ => (#[] : Array Value))).update a (Obj.mapSeq fun _ => (arrOf st).map (·.2))) (fun b o hb e => (b2.2 b hb).trans e) fa
    ⟨hyl, _, c, hy, by rw [hc, ← Array.toList_map, Array.toArray_toList]⟩
  exact I2
theorem key_end (I : Inv X pins σ H s) (fa : FpOk X pins H a) (fk : FpOk X pins H kS) (na : s.heap.get? a = some (seqObj "list" #[] e1)) (nk : s.heap.get? kS = some (seqObj "list" ks.toArray e2)) (hne : kS ≠ a)
    (hlen : ks.length = its.length) (hz : its.length ≤ sizeLine) (hu : X.A.units + 16 < cLine) (hk : Paired (IsRK s.heap) ks rows) (rn : ∀ r ∈ rows, r ≠ []) (hx : Vals xs its) (q : SortOut rows xs H Q) :
    wpAny (model X.prog X.w) X.A.in1.in1 (ksk_end a false its.toArray e1 (.ref kS) ks.toArray) (fun f s' => f = .done (.ret .none) ∧ EP X pins σ Q (.ref a) s') E1 s := by
  obtain ⟨k, hkk⟩ := rk_ex s.heap
  have hkr : Paired (fun u r => k u = r) ks rows := L2.Paired.mapP hk fun u r h => hkk u r h
  have hmem : ∀ u ∈ ks, ∃ r, IsRK s.heap u r ∧ r ≠ [] := fun u hu => by
    obtain ⟨r, hr, h⟩ := paired_mem hk u hu
    exact ⟨r, h, rn r hr⟩
  have hka : ∀ u ∈ ks, IsRK s.heap u (k u) := fun u hu => by
    obtain ⟨r, h, _⟩ := hmem u hu
    rw [hkk u r h]
    exact h
  have fin : ∀ st : SortSt, Srtd (lt2 fun v u => ltR (k v) (k u)) (arrOf st).toList → Stb (lt2 fun v u => ltR (k v) (k u)) (arrOf st).toList (ks.zip its) → failedOf st = none →
      wpAny (model X.prog X.w) X.A.in1.in1 (ksk_tail a false e1 (.ref kS) st) (fun f s' => f = .done (.ret .none) ∧ EP X pins σ Q (.ref a) s') E1 s := fun st h1 h2 hf => by
    obtain ⟨ps, p1, p2, p3⟩ := out_lift (R := RelV) hkr hx.paired h2.perm hlen h1
    have l1 : (ps.map (·.2)).length ≤ sizeLine := by
      rw [List.length_map, p1.length_eq, List.length_zip]
      have := hx.length
      omega
    exact key_tail I fa fk na nk hne hlen hz hf (L2.Paired.vals p3) l1 (q ps a p1 p2 fa.1)
  unfold ksk_end
  try dsimp only
  simp only [Bool.false_eq_true, if_false]
  have zl : (ks.toArray.zip its.toArray).toList = ks.zip its := by simp
  by_cases hl : its.toArray.size < 2
  · rw [if_pos hl, if_pos hl]
    refine wpAny_bind (wpAny_pure ?_)
    rw [StateT.run_pure]
    refine wpAny_bind (wpAny_pure (fin _ ?_ ?_ rfl))
    · show Srtd (lt2 fun v u => ltR (k v) (k u)) (ks.toArray.zip its.toArray).toList
      rw [zl]
      rw [List.size_toArray] at hl
      match ks, its, hl, hlen with
      | [], _, _, _ => exact List.Pairwise.nil
      | [u], [v], _, _ => exact List.pairwise_singleton _ _
      | _ :: _ :: _, its, hl, he => exact absurd hl (by rw [← he]; simp)
    · show Stb _ (ks.toArray.zip its.toArray).toList _
      rw [zl]
      exact Stb.refl _
  · rw [if_neg hl, if_neg hl]
    rw [List.size_toArray] at hl
    refine wpAny_bind (rk_kind (by omega) hmem ?_)
    have all : AllL (fun p : Keyed => p.1 ∈ ks) (ks.toArray.zip its.toArray).toList := fun p hm => by
      rw [zl] at hm
      exact (List.of_mem_zip hm).1
    refine wpAny_bind (wpAny_mono (wpS_sortO (st0 := SortSt.mk' (tuples' false) (ks.toArray.zip its.toArray) #[] 7 none)
      (Q := fun _ st => Srtd (lt2 fun v u => ltR (k v) (k u)) (arrOf st).toList ∧ Stb (lt2 fun v u => ltR (k v) (k u)) (arrOf st).toList (ks.toArray.zip its.toArray).toList ∧ failedOf st = none) (swo2 (swo_r k)) (rk_cmp (by show X.A.units + 1 + 1 + 8 < cLine; omega) hka) rfl all rfl rfl fun st a1 a2 a3 => ⟨a1, a2, a3⟩) ?_ fun _ _ e => e)
    rintro ⟨⟨⟩, st⟩ s1 ⟨rfl, h1, h2, hf⟩
    rw [zl] at h2
    exact fin st h1 h2 hf
theorem paired_at {α β : Type} {R : α → β → Prop} {l : List α} {m : List β} (h : Paired R l m) : ∀ {j : Nat} {y : β}, m[j]? = some y → ∃ x, l[j]? = some x ∧ R x y := by
  induction h with
  | nil => intro j y e; simp at e
  | cons a _ ih =>
    intro j y e
    cases j with
    | zero =>
      simp at e
      subst e
      exact ⟨_, rfl, a⟩
    | succ j =>
      obtain ⟨x, h1, h2⟩ := ih (j := j) (y := y) (by simpa using e)
      exact ⟨x, by simpa using h1, h2⟩
theorem FpOk.now {H1 : Hp} {b : Addr} (f : FpOk X pins H b) (h : H1 b = none) : FpOk X pins H1 b := ⟨h, f.2.1, f.2.2.1, f.2.2.2.1, f.2.2.2.2.1, f.2.2.2.2.2⟩
theorem Inv.pin2 {b c : Addr} {ob oc : Obj} (I : Inv X pins σ H s) (fb : FpOk X pins H b) (fc : FpOk X pins H c) (eb : s.heap.get? b = some ob) (ec : s.heap.get? c = some oc) (db : ∀ v, ob.data ≠ .cell v) (dc : ∀ v, oc.data ≠ .cell v) :
    Inv X (pins ++ [(b, ob), (c, oc)]) σ H s := I.pins_of fun p hp => by
  rcases List.mem_append.mp hp with z | z
  · exact I.pin p (List.mem_append_right _ z)
  · rcases List.mem_cons.mp z with rfl | z
    · exact ⟨eb, fb.1, fb.2.1, fb.2.2.1, db⟩
    · rw [List.mem_singleton.mp z]
      exact ⟨ec, fc.1, fc.2.1, fc.2.2.1, dc⟩
theorem key_rest {kk : Nat} {f : Addr} {fd : FuncData} {pn : List Str} {sp : Sp} {E0 : XK} {P : Nat → Hp → List V → Prop} (I : Inv X pins σ H s) (fa : FpOk X pins H a) (fk : FpOk X pins H kS) (na : s.heap.get? a = some (seqObj "list" #[] e1))
    (nk : s.heap.get? kS = some (seqObj "list" #[] 0)) (hne : kS ≠ a) (hz : its.length ≤ sizeLine) (hu : X.A.units + 16 < cLine) (rn : ∀ r ∈ rows, r ≠ []) (hx : Vals xs its) (F : FnOk X.prog X.w X.K X.mg X.base CX0 kk f fd pn sp) (hr : Room (kk + 2) X.A)
    (hb : Binds X.K fd pn []) (p0 : P 0 H []) (turn : ∀ i x H1 kv, xs[i]? = some x → P i H1 kv → sp [x] H1 (fun v H2 => P (i + 1) H2 (kv ++ [v])) E0)
    (done : ∀ H1 kv, P xs.length H1 kv → Paired (KeyRow X.K H1) kv rows ∧ SortOut rows xs H1 Q) :
    wpAny (model X.prog X.w) X.A.in1.in1 (ksk_rest a (.ref f) false its.toArray e1 (.ref kS)) (fun g s' => g = .done (.ret .none) ∧ EP X pins σ Q (.ref a) s') E1 s := by
  unfold ksk_rest
  refine wpAny_bind (wpAny_rule ?_)
  first
    | rw [List.forIn_toArray]
    | rw [← Array.forIn_toList]
  have hxl := hx.length
  refine wpAny_bind (ksk_fold (fun i s1 => ∃ H1 ks kv e, Inv X pins σ H1 s1 ∧ FpOk X pins H1 a ∧ FpOk X pins H1 kS ∧ s1.heap.get? a = some (seqObj "list" #[] e1) ∧ s1.heap.get? kS = some (seqObj "list" (List.toArray ks) e) ∧ Vals kv ks ∧ ks.length = i ∧ P i H1 kv) its 0 s
    ⟨H, [], [], 0, I, fa, fk, na, nk, .nil, rfl, p0⟩ ?one ?all)
  case one =>
    rintro j u s1 hu1 ⟨H1, ks, kv, e, I1, fa1, fk1, na1, nk1, hv, hl, hP⟩
    simp only [Nat.zero_add] at hl hP ⊢
    obtain ⟨x, hx1, rx⟩ : ∃ x, xs[j]? = some x ∧ RelV x u := paired_at (L2.Vals.paired hx) hu1
    have hj := (List.getElem?_eq_some_iff.mp hu1).1
    have I2 := I1.pin2 fa1 fk1 na1 nk1 (fun v z => nomatch z) (fun v z => nomatch z)
    refine wpAny_bind (wpAny_attempt (wpAny_mono (run_in2 F hr hb I2 (.cons rx .nil) (turn j x H1 kv hx1 hP)) (fun y s2 he => ?_) fun _ _ z => z.elim))
    obtain ⟨v, H2, I3, rv, hP2⟩ := he
    try dsimp only
    obtain ⟨na2, ha2, _⟩ := I3.pin (a, seqObj "list" #[] e1) (by simp)
    obtain ⟨nk2, hk2, _⟩ := I3.pin (kS, seqObj "list" (List.toArray ks) e) (by simp)
    have I4 : Inv X pins σ H2 s2 := I3.unpinned
    have b1 := Heap.SameBut.update s2.heap kS (Obj.mapSeq fun z : Array Value => z.push y)
    obtain ⟨e3, he3⟩ : ∃ e3, (s2.heap.update kS (Obj.mapSeq fun z : Array Value => z.push y)).get? kS = some (seqObj "list" ((List.toArray ks).push y) e3) := ⟨_, get?_update_seq nk2 fun z : Array Value => z.push y⟩
    refine wpAny_bind (listUpdate_at nk2 rfl ?_ (by rw [List.size_toArray]; omega) (by rw [Array.size_push, List.size_toArray]; omega))
    refine wpAny_pure ⟨rfl, H2, ks ++ [y], kv ++ [v], e3, ?_, fa1.now ha2, fk1.now hk2, (b1.2 a hne.symm).trans na2, ?_, hv.append (.cons rv .nil), by simp [hl], hP2⟩
    · exact I4.turnedL (t' := s2.toks) (ch := [kS]) (fun b o hb1 e => (b1.2 b fun z => hb1 (by simp [z])).trans e) fun b hb1 => by
        rw [List.mem_singleton.mp hb1]
        exact fk1.now hk2
    · have : (List.toArray ks).push y = List.toArray (ks ++ [y]) := by simp
      rw [← this]
      exact he3
  case all =>
    rintro s1 ⟨H1, ks, kv, e, I1, fa1, fk1, na1, nk1, hv, hl, hP⟩
    simp only [Nat.zero_add] at hl hP
    rw [← hxl] at hP
    obtain ⟨hk, q⟩ := done H1 kv hP
    try dsimp only
    refine wpAny_bind (listItems_at nk1 rfl ?_)
    exact key_end I1 fa1 fk1 na1 nk1 hne hl hz hu (I1.keyRows hk hv) rn hx q
end
end
end L2

set_option Elab.async false
set_option linter.all false
set_option maxRecDepth 100000
set_option maxHeartbeats 4000000
namespace L2
open PySem PySem.Spec PyProof.Rows SrtO RowK PySem.W
section
variable {X : Cx}
def rSortDef (K : PySem.W.Frag) (f : Addr) (sp : Sp) : List V → List V → Hp → VK → Prop := fun vs zs H Q => ∃ (b : Addr) (xs : List V) (P : Nat → Hp → List V → Prop) (E0 : XK) (rows : List (List Cell)), vs = [V.ref b] ∧ zs = [V.ref f] ∧ SqL K H b xs ∧ (∀ r ∈ rows, r ≠ []) ∧ P 0 H [] ∧
  (∀ i x H1 kv, xs[i]? = some x → P i H1 kv → sp [x] H1 (fun v H2 => P (i + 1) H2 (kv ++ [v])) E0) ∧ ∀ H1 kv, P xs.length H1 kv → Paired (KeyRow K H1) kv rows ∧ SortOut rows xs H1 Q
theorem cr_sortedDef {kk : Nat} {f : Addr} {fd : FuncData} {pn : List Str} {sp : Sp} (F : FnOk X.prog X.w X.K X.mg X.base CX0 kk f fd pn sp) (hr : Room (kk + 2) X.A) (hb : Binds X.K fd pn []) : CallRK X (.builtin "sorted") [Str.ofString "key"] (rSortDef X.K f sp) := by
  intro pins s σ H vs zs us ws Q I r rz h
  obtain ⟨b, xs, P, E0, rows, rfl, rfl, hs, rn, p0, turn, done⟩ := h
  obtain rfl := Vals.ref1 r
  obtain ⟨w1, rfl, e1⟩ := vals1 rz
  obtain rfl : w1 = Value.ref f := e1
  obtain ⟨its, rv, hl, hz⟩ := I.list hs
  rw [rv.length] at hz
  refine sorted_of_sort hl.isList hz (ksk_s1 _ _) (fun _ => ksk_l1 _ _) fun E' => ?_
  rw [show ([PySem.Str.ofString "key"].zip [Value.ref f]) = [(PySem.Str.ofString "key", Value.ref f)] from rfl, ksk_t1]
  have ha := copyHeap_at s.heap its
  have lta : s.heap.objs.size + 1 < (copyHeap s.heap its).objs.size := Heap.lt_size ha
  have I1 : Inv X pins σ H { s with heap := copyHeap s.heap its, toks := s.toks } := I.kept fun _ _ e => copyHeap_old e
  have fa : FpOk X pins H (s.heap.objs.size + 1) := I.fpOk (Nat.le_succ _) (I.hok.fresh (Nat.le_succ _))
  have b1 := Heap.SameBut.update (copyHeap s.heap its) (s.heap.objs.size + 1) (Obj.mapSeq fun _ => (#[] : Array Value))
  have sz1 : ((copyHeap s.heap its).update (s.heap.objs.size + 1) (Obj.mapSeq fun _ => (#[] : Array Value))).objs.size = (copyHeap s.heap its).objs.size := Heap.size_update ..
  obtain ⟨e2, ho1⟩ : ∃ e2, ((copyHeap s.heap its).update (s.heap.objs.size + 1) (Obj.mapSeq fun _ => (#[] : Array Value))).get? (s.heap.objs.size + 1) = some (seqObj "list" #[] e2) := ⟨_, get?_update_seq ha fun _ => #[]⟩
  have I2 := I1.turnedL (t' := s.toks) (ch := [s.heap.objs.size + 1]) (h' := (copyHeap s.heap its).update (s.heap.objs.size + 1) (Obj.mapSeq fun _ => (#[] : Array Value))) (fun c o hc e => (b1.2 c fun z => hc (by simp [z])).trans e) fun c hc => by
    rw [List.mem_singleton.mp hc]
    exact fa
  generalize hg : (copyHeap s.heap its).update (s.heap.objs.size + 1) (Obj.mapSeq fun _ => (#[] : Array Value)) = g at sz1 ho1 I2
  have I3 : Inv X pins σ H { s with heap := (g.push (seqObj "tuple" its.toArray 0)).push (seqObj "list" #[] 0), toks := s.toks } := I2.kept fun _ _ e => Heap.get?_push_of_some _ (Heap.get?_push_of_some _ e)
  have szk : (g.push (seqObj "tuple" its.toArray 0)).objs.size = g.objs.size + 1 := size_push' ..
  have fk : FpOk X pins H (g.push (seqObj "tuple" its.toArray 0)).objs.size := I.fpOk (by omega) (I.hok.fresh (by omega))
  unfold ksk_tree
  refine wpAny_bind (listItems_at ha rfl (wpAny_bind (listUpdate_at ha rfl ?_ (by rw [List.size_toArray]; exact hz) (Nat.zero_le _))))
  rw [hg]
  refine wpAny_bind (seqEpoch_at ho1 rfl (wpAny_bind (wpAny_newTuple ?_ hz)))
  refine wpAny_bind (wpAny_newList (wpAny_holding ?_) (Nat.zero_le _))
  have hun := hr.un
  have hne : (g.push (seqObj "tuple" its.toArray 0)).objs.size ≠ s.heap.objs.size + 1 := by omega
  have hun2 : X.A.units + 16 < cLine := by omega
  exact key_rest I3 fa fk (Heap.get?_push_of_some _ (Heap.get?_push_of_some _ ho1)) (Heap.get?_push_size _ rfl) hne hz hun2 rn rv F hr hb p0 turn done
end
end L2

set_option Elab.async false
set_option linter.all false
set_option maxRecDepth 100000
set_option maxHeartbeats 4000000
/-! an own error whose __init__ says super().__init__(f'..'), then stores its one thing -/
namespace SupE
open PySem PySem.W PySem.Calls PyProof.Rows PySem.HandSPX
abbrev tailV : List Value := [.type "ValueError", .type "Exception", .type "BaseException", .type "object"]
def parm (f : Str) (p1 p2 : Pos) : Arguments := { posonlyargs := [], args := [⟨"self", none, p1⟩, ⟨f, none, p2⟩], vararg := none, kwonlyargs := [], kw_defaults := [], kwarg := none, defaults := [] }
structure Ps where
  a : Pos
  b : Pos
  c : Pos
  d : Pos
  e : Pos
  g : Pos
  q1 : Pos
  q2 : Pos
  q3 : Pos
  q4 : Pos
def bodyI (f : Str) (vs : List Expr) (p : Ps) : List Stmt := [.Expr (.Call (.Attribute (.Call (.Name "super" p.a) [] [] p.b) "__init__" p.c) [.JoinedStr vs p.d] [] p.e) p.g, .Assign [.Attribute (.Name "self" p.q1) f p.q2] (.Name f p.q3) p.q4]
def scI (f : Str) : Scope := { kind := .function, names := [("self", .local), (f, .local), ("__class__", .free), ("super", .globalImplicit)], isGenerator := false, isCoroutine := false, more := [] }
/-- what the parts of the text give: some text, nothing else changed -/
def Says (prog : Program) (w : World) (f : Str) (vs : List Expr) (p3 : Pos) (v : Value) : Prop :=
  ∀ (A : Around) (E : Value → Shared → Prop) (s : Shared) (env : Env) (m : Str → Option Value) (Q : Value → Shared → Prop), s.heap.Ns env.locals m → m f = some v → env.scope.kind = .function → env.kindOf f = some .local →
    (∀ r tk, Q r { s with toks := tk }) → wpAny (model prog w) A (eval (.JoinedStr vs p3) env) Q E s
/-- what the written part says of the class -/
structure Cl (prog : Program) (K : Frag) (C fI : Addr) (f : Str) (vs : List Expr) (p : Ps) : Prop where
  cls : ∃ nm q N bs bm sn sub ab col dd k0 k1 k2 k3 k5, K.lookup C = some (excClassObj nm q C N bs bm true sn sub ab col dd k0 k1 k2 k3 k5 "ValueError.__new__") ∧ refsVE bm = true
  sa : findIn K (.ref C) "__setattr__" = some (some (.builtin "object.__setattr__"))
  ga : findIn K (.ref C) "__getattribute__" = some (some (.builtin "BaseException.__getattribute__"))
  gg : findIn K (.ref C) "__getattr__" = some none
  no : findIn K (.ref C) f = some none
  iC : findIn K (.ref C) "__init__" = some (some (.ref fI))
  tI : typeIn K (.ref fI) = some (.type "function")
  kC : keepIn K (.ref C) = true
  bC : subIn K (.ref C) (.type "BaseException") = some true
  tC : typeIn K (.ref C) = some (.type "type")
  hd : hasDictIn K C = true
  su : ks_superIn K C C "__init__" = some (some (.builtin "ValueError.__init__"))
  ve : subIn K (.ref C) (.type "ValueError") = some true
  qi : excInitIn K C tailV "ValueError.__new__" = true
  mm : mroIn K C (.ref C) = some true
  th : nsIn K cStatics "thirdparty.any" = some none
  call : ∀ env : Env, ∃ pl : Sem Bool, eval (.Call (.Attribute (.Call (.Name "super" p.a) [] [] p.b) "__init__" p.c) [.JoinedStr vs p.d] [] p.e) env = (do
    let ov ← attributeBase (.Call (.Name "super" p.a) [] [] p.b) "__init__" env (eval (.Call (.Name "super" p.a) [] [] p.b) env)
    standAt p.c.atName
    let (g, first) ← holding [ov] (getMethod ov "__init__" pl)
    callWith p.e g first (backTo p.e (starEach [.JoinedStr vs p.d] env)) [])
  top : (prog.main.scope.names.lookup ("super" : Str)).isSome = false
  fn : ∃ (oc : Value) (od : Option Addr) (qual : Str) (p1 p2 : Pos) (doc pm : Value) (an : Option Addr) (cda : Addr) (ct : Value) (cc : Addr) (osl : Array (Option Value)) (ccl : Value) (cdd : Option Addr) (fv : Array Value) (ccs : Array (Option Value)) (file : Str) (tf : Tok) (cl : Value) (cld : Option Addr) (csl : Array (Option Value)),
    K.lookup fI = some ⟨oc, od, .func (ksFn "__init__" qual (parm f p1 p2) (bodyI f vs p) (scI f) .none .none doc pm an (.ref cda) ct cc), osl⟩ ∧ codeIn K (.ref cda) qual = true ∧ K.lookup cda = some ⟨ccl, cdd, .fields fv, ccs⟩ ∧ fv[2]? = some (.str file tf) ∧ ((prog.main.file : Str) == file) = true ∧ K.lookup cc = some ⟨cl, cld, .cell (some (.ref C)), csl⟩
/-- what it leaves of a new error at x: its dict is new -/
structure Left (h h' : Heap) (x C dx : Addr) (f : Str) (v : Value) : Prop where
  keep : ∀ b o, b ≠ x → h.get? b = some o → h'.get? b = some o
  obj : ∃ t1, h'.get? x = some { cls := .ref C, dict := some dx, data := .fields #[.ref t1, .none, .none, .none, .bool false, .none] }
  big : h.objs.size ≤ dx
  ne : dx ≠ x
  ns : h'.Ns1 dx (fun y => if y = f then some v else none)
section
variable {prog : Program} {w : World} {A : Around} {E : Value → Shared → Prop} {R : Result → Shared → Prop} {s : Shared} {K : Frag} {mg : Str → Option Value} {C fI : Addr} {f : Str} {vs : List Expr} {p : Ps}
theorem in_hide {h : Heap} {x : Addr} (X : K.In h) (hx : K.lookup x = none) : K.In (hideAll h [x]) := fun a o e => hideAll_get _ (X a o e) fun hm => by
  cases List.mem_singleton.mp hm
  rw [hx] at e
  cases e
theorem sup_init (T : Cl prog K C fI "name" vs p) {x t0 : Addr} {v : Value} (X : K.In s.heap) (hlim : s.heap.NoLimit) (hg : s.heap.Ns mainGlobals mg) (hsu : mg "super" = none) (hb : ∃ mb, s.heap.Ns builtinsNs mb ∧ mb "super" = some (.type "super"))
    (hx : s.heap.get? x = some (excO C t0)) (hnx : K.lookup x = none) (hr : A.depth < recursionLimit) (hS : Says prog w "name" vs p.d v)
    (hq : ∀ h' tk dx, Left s.heap h' x C dx "name" v → R (.ok (.ret .none)) { s with heap := h', toks := tk }) : codeAny (model prog w) A (.call (.ref fI) ⟨[.ref x, v], []⟩) R s := by
  obtain ⟨oc, od, qual, p1, p2, doc, pm, an, cda, ct, cc, osl, ccl, cdd, fv, ccs, file, tf, cl, cld, csl, ho, hcd, hcode, hfv, hfile, hcell⟩ := T.fn
  obtain ⟨nm, q, N, bs, bm, sn, sub, ab, col, dd, k0, k1, k2, k3, k5, hC, hbm⟩ := T.cls
  have hcl : clsIn K C = some { name := nm, bases := bs, mro := .ref C :: bm, ns := N, qualname := q, hasDict := true, slotNames := sn, subclasses := sub, abstract := ab, collection := col, hasDel := false } := by
    unfold clsIn
    rw [hC]
  refine ks_codeAny_call_defAt (fd := ksFn "__init__" qual (parm "name" p1 p2) (bodyI "name" vs p) (scI "name") .none .none doc pm an (.ref cda) ct cc) (body := bodyI "name" vs p) (binds := [("self", .ref x), ("name", v)]) hr (X _ _ ho) rfl hlim (codeRec_of X hcd) rfl (BindsTo.of_eq (by first | rfl | with_unfolding_all rfl)) (show ∀ y ∈ (scI "name").names, y.2 ≠ .cell by decide +kernel) (fun y hy => ?_) (fun h₁ hn hk => ?_)
  · simp only [List.mem_cons, List.not_mem_nil, or_false] at hy
    rcases hy with rfl | rfl <;> rfl
  have X₀ : K.In (hideAll s.heap [x]) := in_hide X hnx
  have F : Fr (hideAll s.heap [x]) s.heap.objs.size h₁ (fun y => ([("name", v), ("self", Value.ref x)] : List (Str × Value)).lookup y) := ⟨hn, fun b o e => hk b o (of_hideAll _ e), Nat.le_of_eq (hideAll_size _ _)⟩
  have N1 : News (hideAll s.heap [x]) s.heap.objs.size h₁ [(x, excO C t0)] := fun p hp => by
    cases List.mem_singleton.mp hp
    exact ⟨hk _ _ hx, Nat.ne_of_lt (Heap.lt_size hx), hideAll_none _ (List.mem_singleton.mpr rfl)⟩
  have X₁ : K.In h₁ := X.keeps hk
  obtain ⟨mb, hbn, hbs⟩ := hb
  have fx : ∀ {h : Heap} {m : Str → Option Value}, Fr (hideAll s.heap [x]) s.heap.objs.size h m → ∀ b o, b ≠ x → s.heap.get? b = some o → h.get? b = some o := fun F b o hb e => F.keep b o (hideAll_get _ e (fun hm => hb (List.mem_singleton.mp hm)))
  have vx : x ≠ C := fun e => by
    have h1 := X _ _ hC
    rw [← e, hx] at h1
    injection h1 with h1
    injection h1 with h1
    cases h1
  -- super()
  obtain ⟨pl, hcall⟩ := T.call (callEnv (ksFn "__init__" qual (parm "name" p1 p2) (bodyI "name" vs p) (scI "name") .none .none doc pm an (.ref cda) ct cc) s.heap.objs.size fI)
  refine ks_wpAt_execs_cons (ks_wpAt_Expr_any (ks_wpAt_MethodCall (pl := pl) ?_ hcall))
  refine ks_wpAt_super_base rfl rfl (by decide +kernel) rfl (X₁ _ _ ho) rfl rfl rfl (X₁ _ _ hcode) rfl hfv hfile T.top ?_
  refine ks_loadName_global rfl rfl (loadGlobal_builtin (mg := mg) (mb := mb) (hg.keeps hk) hsu (hbn.keeps hk) hbs ⟨rfl, ?_⟩)
  refine wpAny_loadName_free rfl rfl rfl ⟨_, X₁ _ _ hcell, rfl⟩ ?_
  refine wpAny_loadName_local (v := .ref x) rfl rfl hn rfl ?_
  refine ks_wpAny_isType_cls (X₁ _ _ hC) rfl ⟨rfl, ?_⟩
  refine ks_wpAny_call_super (X₁ _ _ hC) rfl (hk _ _ hx) rfl (fun _ z => nomatch z) (looks_mroIn X₁ T.mm) (fun h2 e2 k2 => ?_)
  obtain ⟨F2, N2, l2⟩ := ks_newsPush (s := { s with heap := h₁, toks := s.toks + 2 }) F N1 rfl e2 k2
  have lt2 : x < s.heap.objs.size := Heap.lt_size hx
  refine kxs_method kxs_ValueError F2 X₀ N2 List.mem_cons_self (⟨k2 _ _ (hk _ _ hx), rfl, rfl, trivial⟩ : InstAt h2 x (excO C t0) C none) T.th T.su T.ve (by decide +kernel) (fun u h3 F3 N3 l3 => ?_)
  have hux : u ≠ x := fun e => Nat.lt_irrefl _ (e ▸ l3 (x, excO C t0) (by simp))
  have hsx : h₁.objs.size ≠ x := fun e => Nat.lt_irrefl _ (e ▸ l2 (x, excO C t0) (by simp))
  refine kxs_callWith1 N3 List.mem_cons_self ?_ rfl rfl
  refine Calls.spliced_cons (hS _ _ _ _ _ _ F3.ns rfl rfl rfl (fun r tk => ?_))
  refine Calls.spliced_nil ⟨kxs_at N3 List.mem_cons_self, ?_⟩
  have hz : [r].length ≤ sizeLine := by
    rw [sizeLine_eq]
    exact (by decide : 1 ≤ 16777216)
  refine kxs_call (s := { s with heap := h3, toks := tk }) F3 X₀ N3 PySem.F.excBase_ValueError T.qi List.mem_cons_self (.tail hux (.tail hsx (.head (fun _ h => nomatch h)))) hz (fun t' h4 F4 N4 l4 => ?_)
  have X₄ : K.In h4 := X₀.keeps F4.keep
  have x4 : h4.get? x = some (excObj C t' none .none) := (N4 (x, excObj C t' none .none) (by simp)).1
  refine ks_wpAt_execs_cons (ks_wpAt_Assign_Attr (wpAt_of_wpAny (wpAny_Name (wpAny_loadName_local (v := v) rfl rfl F4.ns rfl (wpAny_Name (wpAny_loadName_local (v := .ref x) rfl rfl F4.ns rfl ?_))))))
  refine set_plain (od := none) X₄ (⟨x4, rfl, rfl, trivial⟩ : InstAt h4 x (excObj C t' none .none) C none) T.sa (exc_osa X₄ x4 hcl (show refsVE (.ref C :: bm) = true from hbm) rfl T.no (fun h5 tk5 dx k5 dn dne x5 n5 => ?_))
  refine wpAt_of_wpAny (wpAny_execs_nil ?_)
  have z : s.heap.objs.size < h4.objs.size := F4.ns.lt
  exact hq h5 tk5 dx ⟨fun b o hb e => k5 b o hb (fx F4 b o hb e), ⟨t', x5⟩, Nat.le_of_lt (Nat.lt_of_lt_of_le z dn), dne, n5⟩
/-- a made error -/
structure Made (h h' : Heap) (e C d : Addr) (f : Str) (v : Value) : Prop where
  keep : ∀ b o, h.get? b = some o → h'.get? b = some o
  new : h.objs.size ≤ e
  obj : ∃ oe vs, h'.get? e = some oe ∧ oe.cls = .ref C ∧ oe.dict = some d ∧ oe.data = .fields vs ∧ vs[1]? = some .none
  big : h.objs.size ≤ d
  ne : d ≠ e
  ns : h'.Ns1 d (fun y => if y = f then some v else none)
theorem sup_made (T : Cl prog K C fI "name" vs p) {v : Value} (X : K.In s.heap) (hlim : s.heap.NoLimit) (hg : s.heap.Ns mainGlobals mg) (hsu : mg "super" = none) (hb : ∃ mb, s.heap.Ns builtinsNs mb ∧ mb "super" = some (.type "super"))
    (hr : A.depth + 1 < recursionLimit) (hS : Says prog w "name" vs p.d v)
    (hq : ∀ h' tk e d, Made s.heap h' e C d "name" v → R (.ok (.ret (.ref e))) { s with heap := h', toks := tk }) : codeAny (model prog w) A (.call (.ref C) ⟨[v], []⟩) R s := by
  obtain ⟨nm, q, N, bs, bm, sn, sub, ab, col, dd, k0, k1, k2, k3, k5, hC, hbm⟩ := T.cls
  obtain ⟨hp, g, dr, tk, os⟩ := s
  have up : ∀ b o, hp.get? b = some o → ((hp.push (kdv_tup [v])).push (excO C hp.objs.size)).get? b = some o := fun b o e => Heap.get?_push_of_some _ (Heap.get?_push_of_some _ e)
  have atE : ((hp.push (kdv_tup [v])).push (excO C hp.objs.size)).get? (hp.objs.size + 1) = some (excO C hp.objs.size) := by heap_get
  have out : K.lookup (hp.objs.size + 1) = none := by
    cases e : K.lookup (hp.objs.size + 1) with
    | none => rfl
    | some o => exact absurd (Nat.lt_of_succ_lt (Heap.lt_size (show hp.get? (hp.objs.size + 1) = some o from X _ _ e))) (Nat.lt_irrefl _)
  have hz : [v].length ≤ sizeLine := by
    rw [sizeLine_eq]
    exact (by decide : 1 ≤ 16777216)
  refine call_own F.excBase_ValueError (fun Y => refsVE_contains Y bm hbm) (X _ _ hC) (looks_findIn X T.iC) (fun self => bind_fn X self T.tI) hz ?_
  refine sup_init (s := ⟨(hp.push (kdv_tup [v])).push (excO C hp.objs.size), g, dr, tk, os⟩) (mg := mg) T (X.keeps up) (hlim.keeps up) (hg.keeps up) hsu (by obtain ⟨mb, h1, h2⟩ := hb; exact ⟨mb, h1.keeps up, h2⟩) atE out ?_ hS fun h' tk' dx L => ?_
  · show A.depth + 1 < recursionLimit
    exact hr
  · have old : ∀ b o, hp.get? b = some o → h'.get? b = some o := fun b o e => L.keep b o (Nat.ne_of_lt (Nat.lt_succ_of_lt (Heap.lt_size e))) (up b o e)
    obtain ⟨t1, ho⟩ := L.obj
    have z : hp.objs.size + 1 + 1 ≤ dx := by
      have q := L.big
      first
        | exact q
        | (rw [Heap.size_push, Heap.size_push] at q; exact q)
    exact ⟨rfl, hq h' tk' (hp.objs.size + 1) dx ⟨old, Nat.le_succ _, ⟨_, _, ho, rfl, rfl, rfl, rfl⟩, (show hp.objs.size ≤ dx by omega), L.ne, L.ns⟩⟩
/-! the texts -/
theorem says_behind {f pre : Str} {j : Nat} {pa pb pc p3 : Pos} {x : Str} {tk : Tok} (hd : (f == ("__debug__" : Str)) = false) (h1 : pre.length ≤ 1000) (h2 : x.length ≤ 1000) : Says prog w f [.Constant (.str pre) j pa, .FormattedValue (.Name f pb) (-1) none pc] p3 (.str x tk) := by
  intro A E s env m Q hn hm hk hl hq
  have ex : Str.empty ++ pre = pre := by
    show (⟨#[] ++ pre.cps⟩ : Str) = pre
    simp
  have l1 : (Str.empty ++ pre).length ≤ sizeLine := by
    rw [ex, sizeLine_eq]
    omega
  have l2 : (Str.empty ++ pre ++ x).length ≤ sizeLine := by
    rw [ex, sizeLine_eq]
    show (pre.cps ++ x.cps).size ≤ _
    rw [Array.size_append]
    have : pre.cps.size ≤ 1000 := h1
    have : x.cps.size ≤ 1000 := h2
    omega
  refine wpAny_JoinedStr ?_
  show Joins _ _ _ [eval _ env, eval _ env] _ _ _
  refine Calls.Constant_str ⟨pre, _, rfl, l1, ?_⟩
  refine wpAny_FormattedValue_plain (wpAny_Name (wpAny_loadName_local hk hl (by exact hn) hm ?_) hd)
  refine wpAny_formatField_str ⟨x, _, rfl, l2, l2, hq _ _⟩ ⟨x, _, rfl, l2, l2, hq _ _⟩ ?_
  rw [sizeLine_eq]
  omega
end
end SupE
namespace L2
open PySem PySem.Spec PyProof.Rows SupE
theorem relO_one {k : Str} {v : V} {v' : Value} (r : RelV v v') (g : Str) : RelO (List.lookup g [(k, v)]) (if g = k then some v' else none) := by
  by_cases e : g = k
  · subst e
    rw [if_pos rfl, show List.lookup g [(g, v)] = some v by simp [List.lookup]]
    exact r
  · rw [if_neg e, show List.lookup g [(k, v)] = none by simp [List.lookup, show (g == k) = false by simpa using e]]
    trivial
section
variable {X : Cx} {C fI : Addr} {vs : List Expr} {ps : Ps}
/-- C(e): a new error that holds e -/
def tMkS (C : Addr) (k : Str) (ok : V → Prop) (ta : TA) : St → Hp → XK → Prop := fun σ H Q => ta σ H fun us H1 => ∃ v, us = [v] ∧ ok v ∧ ∀ d ob, H1 d = none → Q (.ref C) (some d) (upd H1 d (.frz ob (.xd [(k, v)])))
theorem pmk_sup {c : Str} {ok : V → Prop} {a : Expr} {ta : TA} {p pos : Pos} {k : Nat} (T : Cl X.prog X.K C fI "name" vs ps) (gC : X.mg c = some (.ref C)) (gs : X.mg "super" = none) (hS : ∀ v v', ok v → RelV v v' → Says X.prog X.w "name" vs ps.d v') (hr : Room k X.A) (ha : PA X [a] ta) (hg : Gl X c) (hdb : (c == ("__debug__" : Str)) = false := by decide)
    (he : starEach (a :: []) X.env = (false, eval a X.env) :: starEach [] X.env := by rfl) (hpl : (backTo pos (starEach [] X.env)).any (·.1) = false := by rfl) :
    PMk X (.Call (.Name c p) [a] [] pos) (tMkS C "name" ok ta) := by
  intro pins s σ H Q I h
  refine wpAny_Call_Name_kw (ld_glob I hg gC ?_ hdb)
  refine PySem.W.callWith_K (h₀ := X.base) I.ok.mod.kin T.kC (thn (ha.run pos pins s σ H _ I h) fun us s1 hh => ?_) he hpl
  obtain ⟨ws, H1, I1, r1, v, rfl, okv, q1⟩ := hh
  refine ⟨I1.kIn, ?_⟩
  cases r1 with
  | @cons _ v' _ _ rv rn =>
    cases rn
    have hlim := I1.nolimit
    obtain ⟨mb, hbn, hbs⟩ := I.ok.mod.blt
    have hb2 : ∃ mb, s1.heap.Ns builtinsNs mb ∧ mb "super" = some (.type "super") := ⟨mb, hbn.keeps I1.bk, (hbs _ (by decide +kernel)).trans (by first | rfl | decide +kernel | kernel_rfl)⟩
    have hg2 : s1.heap.Ns mainGlobals X.mg := I.ok.mod.glob.keeps I1.bk
    have K1 := I1.kIn
    obtain ⟨hp, g, dr, tk, os⟩ := s1
    refine wpAny_call (sup_made (mg := X.mg) T K1 hlim hg2 gs hb2 (by have := hr.dp; omega) (hS v v' okv rv) fun h' tk' e d M => ?_)
    show MkP X pins σ Q (.ref e) ⟨h', g, dr, tk', os⟩
    obtain ⟨oe, fv, hoe, hc, hd, hdat, h1⟩ := M.obj
    obtain ⟨G, g1, g2⟩ := restrict h' fun b => decide (b ≠ e)
    have gk : ∀ b, b ≠ e → G.get? b = h'.get? b := fun b hb => g1 b (decide_eq_true hb)
    have ge : G.get? e = none := g2 e (by simp)
    have old : ∀ b o, hp.get? b = some o → G.get? b = some o := fun b o q => (gk b (Nat.ne_of_lt (Nat.lt_of_lt_of_le (Heap.lt_size q) M.new))).trans (M.keep b o q)
    have raw : ∀ H' : Hp, ObjOk X.prog X.w H' G d (.xd [(("name" : Str), v)]) := fun H' => ⟨_, M.ns.at (fun o q => (gk d M.ne).trans q), fun y => relO_one rv y⟩
    obtain ⟨od, hod⟩ := objOk_get (raw H1)
    have J : Inv X pins σ (upd H1 d (.frz od (.xd [(("name" : Str), v)]))) ⟨G, g, dr, tk', os⟩ := I1.laid (t' := tk') old M.big ⟨hod, raw _⟩
    refine ⟨e, oe, fv, ⟨G, g, dr, tk', os⟩, _, .ref C, some d, rfl, J, fun b o q => ?_, ge, hoe, ⟨hc, hd⟩, hdat, h1, ?_, rfl, I1.bare, raises_own T.bC T.tC, q1 d od (I1.hok.fresh M.big)⟩
    · by_cases hb : b = e
      · rw [hb] at q
        exact absurd (ge.symm.trans q) (by simp)
      · exact (gk b hb).symm.trans q
    · rw [upd_ne (Ne.symm M.ne)]
      exact I1.hok.fresh M.new
end
end L2

set_option Elab.async false
set_option linter.all false
set_option maxRecDepth 100000
set_option maxHeartbeats 4000000
namespace Va
open PySem PySem.Spec PyProof.Rows L2 Ind
/-! ### errors that hold something -/
section
variable {X : Cx} {S : Sg} {W : WX} {e : Expr} {es : List Expr} {pos : Pos}
/-- raise C(e): the error holds the value -/
def xRaiseF (C : Addr) (f : Tx) (ok : D → Prop) (t : VT) : VSX := fun _ Xq E => t E fun d E1 => ok d ∧ Xq (.fld C f d) E1
def okStr : D → Prop
  | .str x => x.length ≤ 1000
  | _ => False
def okStrV : V → Prop
  | .str x => x.length ≤ 1000
  | _ => False
theorem vx_raiseF {C fI : Addr} {vs : List Expr} {ps : SupE.Ps} {c : PySem.Str} {a : Expr} {t : VT} {p pos2 : Pos} {k : Nat} (hc : X.calm = true) (tk : Takes X W) (T : SupE.Cl X.prog X.K C fI "name" vs ps) (gC : X.mg c = some (.ref C)) (gs : X.mg "super" = none)
    (hS : ∀ v v', okStrV v → RelV v v' → SupE.Says X.prog X.w "name" vs ps.d v') (hr : Room k X.A) (ha : VE S X.nox a t) (hg : Gl X c) (hdb : (c == ("__debug__" : PySem.Str)) = false := by decide)
    (he : starEach (a :: []) X.env = (false, eval a X.env) :: starEach [] X.env := by rfl) (hpl : (backTo pos (starEach [] X.env)).any (·.1) = false := by rfl) :
    VXt S W X (.Raise (some (.Call (.Name c p) [a] [] pos)) none pos2) (xRaiseF C "name" okStr t) := by
  refine ps_weak (ps_raise hc tk (pmk_sup T gC gs hS hr (pa_cons (PE.nox ha) pa_nil he) hg hdb he hpl)) ?_
  rintro D σ H ⟨Γ, E, Vv, Xq, ok, r, h, k, kx⟩
  refine ⟨Γ, E, _, ok, r, h, fun d E1 h1 v H1 q1 r1 hv => ?_⟩
  obtain ⟨ho, hx⟩ := h1
  cases d with
  | str x =>
    cases hv
    refine ⟨.str x, rfl, ho, fun dd ob nd => ?_⟩
    have sm := same_upd (o := .frz ob (.xd [(("name" : PySem.Str), V.str x)])) nd
    exact kx _ E1 hx _ _ σ _ (q1.trans (Kq.same sm)) (r1.same sm) ⟨rfl, dd, ob, _, rfl, upd_same, .str x⟩
  | _ => exact ho.elim
/-- what an except suite knows of its error -/
structure HeldX (K : PySem.W.Frag) (oe : Obj) (C : Addr) (d : Option Addr) : Prop where
  cls : oe.cls = .ref C
  fv : ∃ vs, oe.data = .fields vs
  dict : oe.dict = d
  ex : ExcC K C
def plOf (d : Option Addr) : Er → Option (Addr × Tx × D)
  | .own _ => none
  | .fld _ f x => d.map fun dd => (dd, f, x)
/-- isinstance(e, c) -/
def rIsX (K : PySem.W.Frag) (C a : Addr) (d : Option Addr) : List V → Hp → VK → Prop := fun xs H Q => ∃ (c : V) (cv : Value) (b : Bool), xs = [.ref a, c] ∧ (∀ u, RelV c u → u = cv) ∧ PySem.W.kitOne K (.ref C) cv = some b ∧ (∀ dd, d = some dd → ∃ ob u, H dd = some (.frz ob u)) ∧ Q (.bl b) H
theorem call_isX {a C : Addr} {oe : Obj} {d : Option Addr} {pn : List (Addr × Obj)} (hd : HeldX X.K oe C d) : CallR (X.suite a ((a, oe) :: pn)) (.builtin "isinstance") (rIsX X.K C a d) := by
  intro pins s σ H xs us Q I r h
  obtain ⟨c, cv, b, rfl, hcv, e, hdd, q⟩ := h
  cases r with
  | cons rx rr =>
    cases rr with
    | cons rt rr =>
      cases rr
      cases rx
      cases hcv _ rt
      obtain ⟨hget, _⟩ := I.pin (a, oe) (List.mem_append.mpr (.inl List.mem_cons_self))
      obtain ⟨vs, hv⟩ := hd.fv
      have C' := hd.ex
      have key : ∃ od, PySem.W.InstAt s.heap a oe C od := by
        obtain ⟨oc, odd, oda, osl⟩ := oe
        have h1 : oc = .ref C := hd.cls
        have h2 : odd = d := hd.dict
        have h3 : oda = .fields vs := hv
        subst h1 h2 h3
        cases odd with
        | none => exact ⟨none, hget, rfl, rfl, trivial⟩
        | some dd =>
          obtain ⟨ob, u, hf⟩ := hdd dd rfl
          exact ⟨some ob, hget, rfl, rfl, (I.hok dd _ hf).1⟩
      obtain ⟨od, J⟩ := key
      have hcl : (PySem.W.clsIn X.K C).isSome = true := by
        obtain ⟨cd, hc, _⟩ := PySem.W.any_some C'.hd
        rw [hc]
        rfl
      exact PySem.W.kia_one (PySem.W.kitx_exc hcl C'.hg C'.hk C'.hs C'.ha C'.hn C'.ht C'.hm) I.kIn J e (fun z => nomatch z) fun tk => ⟨.bl b, H, I.kept (t' := tk) fun _ _ z => z, rfl, q⟩
def vIsX (K : PySem.W.Frag) (i : Nat) (a C : Addr) (d : Option Addr) (cv : Value) : VT := fun E Q => (∃ pl, E.l[i]? = some (.ex a pl) ∧ ∀ dd, d = some dd → ∃ f x, pl = some (dd, f, x)) ∧ ∃ b, PySem.W.kitOne K (.ref C) cv = some b ∧ Q (.bl b) E
theorem ve_isX {i : Nat} {x y : PySem.Str} {a C : Addr} {oe : Obj} {d : Option Addr} {pn : List (Addr × Obj)} {cv : Value} {c : V} {p p2 p3 pos : Pos} (hd : HeldX X.K oe C d) (hK : S.K = X.K)
    (hv : PE (X.suite a ((a, oe) :: pn)) (.Name x p) (tVar i)) (hc : PE (X.suite a ((a, oe) :: pn)) (.Name y p2) (tC c)) (hcv : ∀ u, RelV c u → u = cv)
    (hg : Gl (X.suite a ((a, oe) :: pn)) "isinstance") (hm : X.mg "isinstance" = none) (hbt : bootBuiltins "isinstance" = some (.builtin "isinstance")) : VE S (X.suite a ((a, oe) :: pn)) (.Call (.Name "isinstance" p3) [.Name x p, .Name y p2] [] pos) (vIsX S.K i a C d cv) := by
  refine pe_weak (pe_callB (call_isX hd) hg hm hbt (pa_cons hv (pa_cons hc pa_nil))) ?_
  rintro σ H Q ⟨Γ, E, Q0, ok, rp, ht, k⟩
  obtain ⟨⟨pl, hE, hpl⟩, b, hb, hq⟩ := ht
  rw [hK] at hb
  obtain ⟨o, h1, h2, h3⟩ := rp.sl i _ hE
  subst h2
  refine ⟨_, h1, c, cv, b, rfl, hcv, hb, fun dd e => ?_, k _ _ hq _ _ (Kq.refl _) rp (.bl b)⟩
  obtain ⟨f, y, e2⟩ := hpl dd e
  obtain ⟨ob, v, h4, _⟩ := h3 _ e2
  exact ⟨ob, _, h4⟩
/-- e.f of the error that the suite holds -/
def vFld (i : Nat) (a C C0 : Addr) (d : Option Addr) (f : Tx) : VT := fun E Q => C = C0 ∧ ∃ dd x, d = some dd ∧ E.l[i]? = some (.ex a (some (dd, f, x))) ∧ Q x E
theorem ve_fld {i : Nat} {x n : PySem.Str} {a C C0 : Addr} {oe : Obj} {d : Option Addr} {pn : List (Addr × Obj)} {p pos : Pos} (hd : HeldX X.K oe C d) (hno : PySem.W.findIn X.K (.ref C0) n = some none)
    (hv : PE (X.suite a ((a, oe) :: pn)) (.Name x p) (tVar i)) (hb : attributeBase (.Name x p) n X.env (eval (.Name x p) X.env) = eval (.Name x p) X.env := by rfl) : VE S (X.suite a ((a, oe) :: pn)) (.Attribute (.Name x p) n pos) (vFld i a C C0 d n) := by
  refine ⟨fun pins s σ H Q I h => ?_⟩
  obtain ⟨Γ, E, Q0, ok, rp, ht, k⟩ := h
  obtain ⟨rfl, dd, z, rfl, hE, hq⟩ := ht
  obtain ⟨o, h1, h2, h3⟩ := rp.sl i _ hE
  subst h2
  obtain ⟨ob, v, h4, h5⟩ := h3 _ rfl
  refine attr_of hb (thn (hv.run pins s σ H (fun v1 H1 => v1 = .ref a ∧ H1 = H) I ⟨_, h1, rfl, rfl⟩) fun u s1 hh => ?_)
  obtain ⟨v1, H1, I1, rx, rfl, rfl⟩ := hh
  obtain rfl : u = Value.ref a := rx
  obtain ⟨ha, _⟩ := I1.pin (a, oe) (List.mem_append_left _ List.mem_cons_self)
  obtain ⟨vs, hfd⟩ := hd.fv
  obtain ⟨hob, mA, hns, hr⟩ := I1.hok dd _ h4
  obtain ⟨od, ho, hl⟩ := lookIn_ns hns
  have l : List.lookup n [(n, v)] = some v := by simp [List.lookup]
  obtain ⟨u, hu, ru⟩ := RelO.some_of (v := v) (o := mA n) (by rw [← l]; exact hr n)
  have J : PySem.W.InstAt s1.heap a oe C (some od) := ⟨ha, hd.cls, by unfold PySem.W.notCls; rw [hfd], by rw [hd.dict]; exact ho⟩
  exact HandSPX.exc_get I1.kIn J hd.ex.hg hd.ex.hk hd.ex.hs (PySem.W.findObj_own hd.ex.hd hno rfl (by rw [hl, hu])) (handed_of ru) ⟨v, H1, I1.tok _, ru, k _ _ hq _ _ (Kq.refl _) rp h5⟩
end
end Va
namespace Va
open PySem PySem.Spec PyProof.Rows L2 Ind
/-! ### try: .. except C as n: .., whatever errors the body raises -/
section
variable {X : Cx} {S : Sg} {x n : PySem.Str} {c : Value} {i : Nat} {body suite : List Stmt} {b₀ : Stmt} {np pos pos' : Pos}
def dOk : Er → Option Addr → Prop
  | .own _, d => d = none
  | .fld _ _ _, d => ∃ dd, d = some dd
def sTryX (i : Nat) (okE : Er → Prop) (tb : VSX) (ts : Addr → Option Addr → Er → VS) : VS := fun V E => tb V (fun e E1 => okE e ∧ ∀ a d, dOk e d → ts a d e { nx := fun E2 => V.nx (E2.set i .no), rt := V.rt, bk := fun E2 => V.bk (E2.set i .no), ct := fun E2 => V.ct (E2.set i .no) } (E1.set i (.ex a (plOf d e)))) E
theorem vs_tryX {tb : VSX} {ts : Addr → Option Addr → Er → VS} (okE : Er → Prop) (hs : X.stack = X.env :: X.outer) (hf : X.env.frame = some X.env.locals) (hN : X.N.Nodup) (hi : X.N[i]? = some n) (hln : X.env.kindOf n = some .local) (hc : Names X x c)
    (hx : ∀ e, okE e → PySem.W.exmOne X.K (.ref e.cls) c = some true) (hE : ∀ e, okE e → ExcC X.K e.cls)
    (hb : ∀ (W : WX) (pn : List (Addr × Obj)) (xe : Value → Shared → Prop), Takes (X.tr pn xe) W → PassesOwn (model X.prog X.w) X.A X.env xe → VXs S W (X.tr pn xe) body tb)
    (hsu : ∀ (e : Er) (a : Addr) (d : Option Addr) (oe : Obj) (pn : List (Addr × Obj)), HeldX X.K oe e.cls d → VSs S (X.suite a ((a, oe) :: pn)) (b₀ :: suite) (ts a d e)) :
    VSt S X (.Try body [.ExceptHandler (some (.Name x np)) (some n) (b₀ :: suite) pos'] [] [] pos) (sTryX i okE tb ts) := by
  refine ps_weak (ps_try_as (i := i) (ts := fun a cls d D σ H => ∃ e : Er, okE e ∧ cls = .ref e.cls ∧ liftS S (ts a d e) D σ H) hs hf hN hi hln hc takes0 (fun W pn xe tk po => hb W pn xe tk po) (fun a oe cls d pn hz hfl => ?_)) ?_
  · refine ⟨fun pins s σ H D I h => ?_⟩
    obtain ⟨e, oke, ec, h⟩ := h
    exact (hsu e a d oe pn ⟨hz.1.trans ec, hfl, hz.2, hE e oke⟩).run pins s σ H D I h
  · rintro D σ H ⟨Γ, E, V, ok, r, h, k⟩
    refine ⟨Γ, E, V, _, ok, r, h, k, fun e E1 h1 cls d σ1 H1 q1 r1 xr => ?_⟩
    obtain ⟨oke, hs⟩ := h1
    have both : cls = .ref e.cls ∧ dOk e d ∧ ∀ p, plOf d e = some p → ∃ ob v, H1 p.1 = some (.frz ob (.xd [(p.2.1, v)])) ∧ Γ.Rp H1 v p.2.2 := by
      cases e with
      | own C =>
        obtain ⟨h1, h2⟩ := xr
        exact ⟨h1, h2, fun p hp => by cases hp⟩
      | fld C f y =>
        obtain ⟨h1, dd, ob, v, rfl, h3, h4⟩ := xr
        exact ⟨h1, ⟨dd, rfl⟩, fun p hp => by cases hp; exact ⟨ob, v, h3, h4⟩⟩
    obtain ⟨rfl, hd, hp⟩ := both
    refine ⟨true, hx e oke, fun _ a na => ⟨e, oke, rfl, Γ, _, _, ok, ?_, hs a d hd, ?_⟩, fun z => Bool.noConfusion z⟩
    · refine ⟨r1.base, by simp [En.set, r1.len], r1.few, fun j s e => ?_, fun j k s t b e1 e2 o1 o2 h1 h2 => ?_⟩
      · rcases get_set e with ⟨rfl, rfl, hi⟩ | ⟨ne, e⟩
        · exact ⟨_, List.getElem?_set_self (by rw [← r1.len]; exact hi), rfl, hp⟩
        · rw [List.getElem?_set_ne ne]
          exact r1.sl j s e
      · rcases get_set e1 with ⟨_, rfl, _⟩ | ⟨n1, e1⟩
        · cases o1
        · rcases get_set e2 with ⟨_, rfl, _⟩ | ⟨n2, e2⟩
          · cases o2
          · rw [List.getElem?_set_ne n1] at h1
            rw [List.getElem?_set_ne n2] at h2
            exact r1.dis j k s t b e1 e2 o1 o2 h1 h2
    · exact ⟨fun E2 h2 σ2 H2 q2 r2 => k.nx _ h2 _ H2 (q1.trans q2) (r2.setNo i none), fun d E2 h2 v σ2 H2 q2 r2 rv => k.rt d E2 h2 v σ2 H2 (q1.trans q2) r2 rv, fun E2 h2 σ2 H2 q2 r2 => k.bk _ h2 _ H2 (q1.trans q2) (r2.setNo i none), fun E2 h2 σ2 H2 q2 r2 => k.ct _ h2 _ H2 (q1.trans q2) (r2.setNo i none)⟩
end
/-! ### loops whose body may raise -/
section
variable {X : Cx} {S : Sg} {W : WX} {pos : Pos}
def xFor (vi : VI) (g : VG) (tb : VSX) : VSX := fun V Xq E => vi E fun ds E1 => ∃ P : Nat → En → Prop, P 0 E1 ∧ (∀ i d E, ds[i]? = some d → P i E → g d E fun E2 => tb { V with nx := P (i + 1), ct := P (i + 1), bk := V.nx } Xq E2) ∧ ∀ E, P ds.length E → V.nx E
theorem vx_for {is : List Nat} {tg iter : Expr} {body : List Stmt} {vi : VI} {g : VG} {tb : VSX} (hp : PassesOwn (model X.prog X.w) X.A X.env X.xe) (hc : X.calm = true) (hi : VIt S X tg iter vi) (hg : PG X tg (liftG S is g)) (hb : VXs S W X body tb) (hs : ∀ x, foldedSetIterable iter X.env x = pure x := by intro _; rfl) : VXt S W X (.For tg iter body [] pos) (xFor vi g tb) := by
  refine ps_weak (ps_for hp hc hi hg hb hs) ?_
  rintro D σ H ⟨Γ, E, V, Xq, ok, rp, ht, k, kx⟩
  refine ⟨Γ, E, _, ok, rp, ht, fun ds E1 ⟨P, p0, ps, pn⟩ J H1 kq1 rp1 it => ?_⟩
  refine ⟨fun i m σ' H' => m = ds.length - i ∧ i ≤ ds.length ∧ ∃ E', P i E' ∧ Rep Γ E' σ' H' ∧ Kq H1 H', ⟨_, rfl, Nat.zero_le _, E1, p0, rp1, Kq.refl _⟩, ?_⟩
  rintro i m σ' H' ⟨rfl, hi, E', pi, rp', kq'⟩
  by_cases hlt : i < ds.length
  · refine .inr ⟨it.go i H' hlt kq', fun σ2 H2 => i + 1 ≤ ds.length ∧ ∃ E2, P (i + 1) E2 ∧ Rep Γ E2 σ2 H2 ∧ Kq H1 H2, fun σ2 H2 h => ⟨_, by omega, rfl, h⟩, fun x H2 y => ?_⟩
    obtain ⟨d, ed, rd, sm⟩ := it.yld i H' x H2 hlt kq' y
    have kq2 := kq'.trans (Kq.same sm)
    refine ⟨Γ, E', d, _, ok, rp'.same sm, rd, ps i d E' ed pi, fun E3 q3 σ3 r3 _ => ?_⟩
    refine ⟨Γ, E3, _, Xq, ok, r3, q3, ⟨fun E4 h4 σ4 H4 q4 r4 => ⟨hlt, E4, h4, r4, kq2.trans q4⟩, fun d4 E4 h4 v4 σ4 H4 q4 r4 rv4 => k.rt d4 E4 h4 v4 σ4 H4 ((kq1.trans kq2).trans q4) r4 rv4, fun E4 h4 σ4 H4 q4 r4 => k.nx E4 h4 σ4 H4 ((kq1.trans kq2).trans q4) r4, fun E4 h4 σ4 H4 q4 r4 => ⟨hlt, E4, h4, r4, kq2.trans q4⟩⟩, kx.kq (kq1.trans kq2)⟩
  · have e : i = ds.length := by omega
    subst e
    exact .inl ⟨it.stop H' kq', k.nx E' (pn E' pi) σ' H' (kq1.trans kq') rp'⟩
end
end Va

set_option Elab.async false
set_option linter.all false
set_option maxRecDepth 100000
set_option maxHeartbeats 4000000
/-! own errors that hold a count -/
namespace SupE
open PySem PySem.W PySem.Calls PyProof.Rows PySem.HandSPX
section
variable {prog : Program} {w : World} {A : Around} {E : Value → Shared → Prop} {R : Result → Shared → Prop} {s : Shared} {K : Frag} {mg : Str → Option Value} {C fI : Addr} {f : Str} {vs : List Expr} {p : Ps}
theorem sup_initC (T : Cl prog K C fI "count" vs p) {x t0 : Addr} {v : Value} (X : K.In s.heap) (hlim : s.heap.NoLimit) (hg : s.heap.Ns mainGlobals mg) (hsu : mg "super" = none) (hb : ∃ mb, s.heap.Ns builtinsNs mb ∧ mb "super" = some (.type "super"))
    (hx : s.heap.get? x = some (excO C t0)) (hnx : K.lookup x = none) (hr : A.depth < recursionLimit) (hS : Says prog w "count" vs p.d v)
    (hq : ∀ h' tk dx, Left s.heap h' x C dx "count" v → R (.ok (.ret .none)) { s with heap := h', toks := tk }) : codeAny (model prog w) A (.call (.ref fI) ⟨[.ref x, v], []⟩) R s := by
  obtain ⟨oc, od, qual, p1, p2, doc, pm, an, cda, ct, cc, osl, ccl, cdd, fv, ccs, file, tf, cl, cld, csl, ho, hcd, hcode, hfv, hfile, hcell⟩ := T.fn
  obtain ⟨nm, q, N, bs, bm, sn, sub, ab, col, dd, k0, k1, k2, k3, k5, hC, hbm⟩ := T.cls
  have hcl : clsIn K C = some { name := nm, bases := bs, mro := .ref C :: bm, ns := N, qualname := q, hasDict := true, slotNames := sn, subclasses := sub, abstract := ab, collection := col, hasDel := false } := by
    unfold clsIn
    rw [hC]
  refine ks_codeAny_call_defAt (fd := ksFn "__init__" qual (parm "count" p1 p2) (bodyI "count" vs p) (scI "count") .none .none doc pm an (.ref cda) ct cc) (body := bodyI "count" vs p) (binds := [("self", .ref x), ("count", v)]) hr (X _ _ ho) rfl hlim (codeRec_of X hcd) rfl (BindsTo.of_eq (by first | rfl | with_unfolding_all rfl)) (show ∀ y ∈ (scI "count").names, y.2 ≠ .cell by decide +kernel) (fun y hy => ?_) (fun h₁ hn hk => ?_)
  · simp only [List.mem_cons, List.not_mem_nil, or_false] at hy
    rcases hy with rfl | rfl <;> rfl
  have X₀ : K.In (hideAll s.heap [x]) := in_hide X hnx
  have F : Fr (hideAll s.heap [x]) s.heap.objs.size h₁ (fun y => ([("count", v), ("self", Value.ref x)] : List (Str × Value)).lookup y) := ⟨hn, fun b o e => hk b o (of_hideAll _ e), Nat.le_of_eq (hideAll_size _ _)⟩
  have N1 : News (hideAll s.heap [x]) s.heap.objs.size h₁ [(x, excO C t0)] := fun p hp => by
    cases List.mem_singleton.mp hp
    exact ⟨hk _ _ hx, Nat.ne_of_lt (Heap.lt_size hx), hideAll_none _ (List.mem_singleton.mpr rfl)⟩
  have X₁ : K.In h₁ := X.keeps hk
  obtain ⟨mb, hbn, hbs⟩ := hb
  have fx : ∀ {h : Heap} {m : Str → Option Value}, Fr (hideAll s.heap [x]) s.heap.objs.size h m → ∀ b o, b ≠ x → s.heap.get? b = some o → h.get? b = some o := fun F b o hb e => F.keep b o (hideAll_get _ e (fun hm => hb (List.mem_singleton.mp hm)))
  have vx : x ≠ C := fun e => by
    have h1 := X _ _ hC
    rw [← e, hx] at h1
    injection h1 with h1
    injection h1 with h1
    cases h1
  -- super()
  obtain ⟨pl, hcall⟩ := T.call (callEnv (ksFn "__init__" qual (parm "count" p1 p2) (bodyI "count" vs p) (scI "count") .none .none doc pm an (.ref cda) ct cc) s.heap.objs.size fI)
  refine ks_wpAt_execs_cons (ks_wpAt_Expr_any (ks_wpAt_MethodCall (pl := pl) ?_ hcall))
  refine ks_wpAt_super_base rfl rfl (by decide +kernel) rfl (X₁ _ _ ho) rfl rfl rfl (X₁ _ _ hcode) rfl hfv hfile T.top ?_
  refine ks_loadName_global rfl rfl (loadGlobal_builtin (mg := mg) (mb := mb) (hg.keeps hk) hsu (hbn.keeps hk) hbs ⟨rfl, ?_⟩)
  refine wpAny_loadName_free rfl rfl rfl ⟨_, X₁ _ _ hcell, rfl⟩ ?_
  refine wpAny_loadName_local (v := .ref x) rfl rfl hn rfl ?_
  refine ks_wpAny_isType_cls (X₁ _ _ hC) rfl ⟨rfl, ?_⟩
  refine ks_wpAny_call_super (X₁ _ _ hC) rfl (hk _ _ hx) rfl (fun _ z => nomatch z) (looks_mroIn X₁ T.mm) (fun h2 e2 k2 => ?_)
  obtain ⟨F2, N2, l2⟩ := ks_newsPush (s := { s with heap := h₁, toks := s.toks + 2 }) F N1 rfl e2 k2
  have lt2 : x < s.heap.objs.size := Heap.lt_size hx
  refine kxs_method kxs_ValueError F2 X₀ N2 List.mem_cons_self (⟨k2 _ _ (hk _ _ hx), rfl, rfl, trivial⟩ : InstAt h2 x (excO C t0) C none) T.th T.su T.ve (by decide +kernel) (fun u h3 F3 N3 l3 => ?_)
  have hux : u ≠ x := fun e => Nat.lt_irrefl _ (e ▸ l3 (x, excO C t0) (by simp))
  have hsx : h₁.objs.size ≠ x := fun e => Nat.lt_irrefl _ (e ▸ l2 (x, excO C t0) (by simp))
  refine kxs_callWith1 N3 List.mem_cons_self ?_ rfl rfl
  refine Calls.spliced_cons (hS _ _ _ _ _ _ F3.ns rfl rfl rfl (fun r tk => ?_))
  refine Calls.spliced_nil ⟨kxs_at N3 List.mem_cons_self, ?_⟩
  have hz : [r].length ≤ sizeLine := by
    rw [sizeLine_eq]
    exact (by decide : 1 ≤ 16777216)
  refine kxs_call (s := { s with heap := h3, toks := tk }) F3 X₀ N3 PySem.F.excBase_ValueError T.qi List.mem_cons_self (.tail hux (.tail hsx (.head (fun _ h => nomatch h)))) hz (fun t' h4 F4 N4 l4 => ?_)
  have X₄ : K.In h4 := X₀.keeps F4.keep
  have x4 : h4.get? x = some (excObj C t' none .none) := (N4 (x, excObj C t' none .none) (by simp)).1
  refine ks_wpAt_execs_cons (ks_wpAt_Assign_Attr (wpAt_of_wpAny (wpAny_Name (wpAny_loadName_local (v := v) rfl rfl F4.ns rfl (wpAny_Name (wpAny_loadName_local (v := .ref x) rfl rfl F4.ns rfl ?_))))))
  refine set_plain (od := none) X₄ (⟨x4, rfl, rfl, trivial⟩ : InstAt h4 x (excObj C t' none .none) C none) T.sa (exc_osa X₄ x4 hcl (show refsVE (.ref C :: bm) = true from hbm) rfl T.no (fun h5 tk5 dx k5 dn dne x5 n5 => ?_))
  refine wpAt_of_wpAny (wpAny_execs_nil ?_)
  have z : s.heap.objs.size < h4.objs.size := F4.ns.lt
  exact hq h5 tk5 dx ⟨fun b o hb e => k5 b o hb (fx F4 b o hb e), ⟨t', x5⟩, Nat.le_of_lt (Nat.lt_of_lt_of_le z dn), dne, n5⟩
theorem sup_madeC (T : Cl prog K C fI "count" vs p) {v : Value} (X : K.In s.heap) (hlim : s.heap.NoLimit) (hg : s.heap.Ns mainGlobals mg) (hsu : mg "super" = none) (hb : ∃ mb, s.heap.Ns builtinsNs mb ∧ mb "super" = some (.type "super"))
    (hr : A.depth + 1 < recursionLimit) (hS : Says prog w "count" vs p.d v)
    (hq : ∀ h' tk e d, Made s.heap h' e C d "count" v → R (.ok (.ret (.ref e))) { s with heap := h', toks := tk }) : codeAny (model prog w) A (.call (.ref C) ⟨[v], []⟩) R s := by
  obtain ⟨nm, q, N, bs, bm, sn, sub, ab, col, dd, k0, k1, k2, k3, k5, hC, hbm⟩ := T.cls
  obtain ⟨hp, g, dr, tk, os⟩ := s
  have up : ∀ b o, hp.get? b = some o → ((hp.push (kdv_tup [v])).push (excO C hp.objs.size)).get? b = some o := fun b o e => Heap.get?_push_of_some _ (Heap.get?_push_of_some _ e)
  have atE : ((hp.push (kdv_tup [v])).push (excO C hp.objs.size)).get? (hp.objs.size + 1) = some (excO C hp.objs.size) := by heap_get
  have out : K.lookup (hp.objs.size + 1) = none := by
    cases e : K.lookup (hp.objs.size + 1) with
    | none => rfl
    | some o => exact absurd (Nat.lt_of_succ_lt (Heap.lt_size (show hp.get? (hp.objs.size + 1) = some o from X _ _ e))) (Nat.lt_irrefl _)
  have hz : [v].length ≤ sizeLine := by
    rw [sizeLine_eq]
    exact (by decide : 1 ≤ 16777216)
  refine call_own F.excBase_ValueError (fun Y => refsVE_contains Y bm hbm) (X _ _ hC) (looks_findIn X T.iC) (fun self => bind_fn X self T.tI) hz ?_
  refine sup_initC (s := ⟨(hp.push (kdv_tup [v])).push (excO C hp.objs.size), g, dr, tk, os⟩) (mg := mg) T (X.keeps up) (hlim.keeps up) (hg.keeps up) hsu (by obtain ⟨mb, h1, h2⟩ := hb; exact ⟨mb, h1.keeps up, h2⟩) atE out ?_ hS fun h' tk' dx L => ?_
  · show A.depth + 1 < recursionLimit
    exact hr
  · have old : ∀ b o, hp.get? b = some o → h'.get? b = some o := fun b o e => L.keep b o (Nat.ne_of_lt (Nat.lt_succ_of_lt (Heap.lt_size e))) (up b o e)
    obtain ⟨t1, ho⟩ := L.obj
    have z : hp.objs.size + 1 + 1 ≤ dx := by
      have q := L.big
      first
        | exact q
        | (rw [Heap.size_push, Heap.size_push] at q; exact q)
    exact ⟨rfl, hq h' tk' (hp.objs.size + 1) dx ⟨old, Nat.le_succ _, ⟨_, _, ho, rfl, rfl, rfl, rfl⟩, (show hp.objs.size ≤ dx by omega), L.ne, L.ns⟩⟩
theorem short100 : ((List.range 100).all fun n => decide ((Str.ofString (toString ((n : Nat) : Int))).length ≤ 100)) = true := by decide +kernel
theorem says_ahead {f suf : Str} {j : Nat} {pa pb pc p3 : Pos} {x : Int} {tk : Tok} (hd : (f == ("__debug__" : Str)) = false) (h1 : suf.length ≤ 1000) (h2 : 0 ≤ x ∧ x < 100) : Says prog w f [.FormattedValue (.Name f pb) (-1) none pc, .Constant (.str suf) j pa] p3 (.int x tk) := by
  intro A E s env m Q hn hm hk hl hq
  obtain ⟨n, rfl⟩ := Int.eq_ofNat_of_zero_le h2.1
  have hn100 : n < 100 := by omega
  have short := of_decide_eq_true (List.all_eq_true.mp short100 n (List.mem_range.mpr hn100))
  have ex : Str.empty ++ (Str.ofString (toString (n : Int))) = Str.ofString (toString (n : Int)) := by
    show (⟨#[] ++ (Str.ofString (toString (n : Int))).cps⟩ : Str) = _
    simp
  have l1 : (Str.empty ++ Str.ofString (toString (n : Int))).length ≤ sizeLine := by
    rw [ex, sizeLine_eq]
    omega
  have l2 : (Str.empty ++ Str.ofString (toString (n : Int)) ++ suf).length ≤ sizeLine := by
    rw [ex, sizeLine_eq]
    show ((Str.ofString (toString (n : Int))).cps ++ suf.cps).size ≤ _
    rw [Array.size_append]
    have a1 : (Str.ofString (toString (n : Int))).cps.size ≤ 100 := short
    have a2 : suf.cps.size ≤ 1000 := h1
    omega
  refine wpAny_JoinedStr ?_
  show Joins _ _ _ [eval _ env, eval _ env] _ _ _
  refine wpAny_FormattedValue_plain (wpAny_Name (wpAny_loadName_local hk hl (by exact hn) hm ?_) hd)
  refine wpAny_formatField_int ?_ ⟨_, _, rfl, l1, Calls.Constant_str ⟨suf, _, rfl, l2, l2, hq _ _⟩⟩
  show (n : Int).natAbs.log2 < 1920
  rw [Int.natAbs_natCast]
  exact Nat.lt_of_le_of_lt (Nat.log2_le_self n) (by omega)
end
end SupE
namespace L2
open PySem PySem.Spec PyProof.Rows SupE
section
variable {X : Cx} {C fI : Addr} {vs : List Expr} {ps : Ps}
theorem pmk_supC {c : Str} {ok : V → Prop} {a : Expr} {ta : TA} {p pos : Pos} {k : Nat} (T : Cl X.prog X.K C fI "count" vs ps) (gC : X.mg c = some (.ref C)) (gs : X.mg "super" = none) (hS : ∀ v v', ok v → RelV v v' → Says X.prog X.w "count" vs ps.d v') (hr : Room k X.A) (ha : PA X [a] ta) (hg : Gl X c) (hdb : (c == ("__debug__" : Str)) = false := by decide)
    (he : starEach (a :: []) X.env = (false, eval a X.env) :: starEach [] X.env := by rfl) (hpl : (backTo pos (starEach [] X.env)).any (·.1) = false := by rfl) :
    PMk X (.Call (.Name c p) [a] [] pos) (tMkS C "count" ok ta) := by
  intro pins s σ H Q I h
  refine wpAny_Call_Name_kw (ld_glob I hg gC ?_ hdb)
  refine PySem.W.callWith_K (h₀ := X.base) I.ok.mod.kin T.kC (thn (ha.run pos pins s σ H _ I h) fun us s1 hh => ?_) he hpl
  obtain ⟨ws, H1, I1, r1, v, rfl, okv, q1⟩ := hh
  refine ⟨I1.kIn, ?_⟩
  cases r1 with
  | @cons _ v' _ _ rv rn =>
    cases rn
    have hlim := I1.nolimit
    obtain ⟨mb, hbn, hbs⟩ := I.ok.mod.blt
    have hb2 : ∃ mb, s1.heap.Ns builtinsNs mb ∧ mb "super" = some (.type "super") := ⟨mb, hbn.keeps I1.bk, (hbs _ (by decide +kernel)).trans (by first | rfl | decide +kernel | kernel_rfl)⟩
    have hg2 : s1.heap.Ns mainGlobals X.mg := I.ok.mod.glob.keeps I1.bk
    have K1 := I1.kIn
    obtain ⟨hp, g, dr, tk, os⟩ := s1
    refine wpAny_call (sup_madeC (mg := X.mg) T K1 hlim hg2 gs hb2 (by have := hr.dp; omega) (hS v v' okv rv) fun h' tk' e d M => ?_)
    show MkP X pins σ Q (.ref e) ⟨h', g, dr, tk', os⟩
    obtain ⟨oe, fv, hoe, hc, hd, hdat, h1⟩ := M.obj
    obtain ⟨G, g1, g2⟩ := restrict h' fun b => decide (b ≠ e)
    have gk : ∀ b, b ≠ e → G.get? b = h'.get? b := fun b hb => g1 b (decide_eq_true hb)
    have ge : G.get? e = none := g2 e (by simp)
    have old : ∀ b o, hp.get? b = some o → G.get? b = some o := fun b o q => (gk b (Nat.ne_of_lt (Nat.lt_of_lt_of_le (Heap.lt_size q) M.new))).trans (M.keep b o q)
    have raw : ∀ H' : Hp, ObjOk X.prog X.w H' G d (.xd [(("count" : Str), v)]) := fun H' => ⟨_, M.ns.at (fun o q => (gk d M.ne).trans q), fun y => relO_one rv y⟩
    obtain ⟨od, hod⟩ := objOk_get (raw H1)
    have J : Inv X pins σ (upd H1 d (.frz od (.xd [(("count" : Str), v)]))) ⟨G, g, dr, tk', os⟩ := I1.laid (t' := tk') old M.big ⟨hod, raw _⟩
    refine ⟨e, oe, fv, ⟨G, g, dr, tk', os⟩, _, .ref C, some d, rfl, J, fun b o q => ?_, ge, hoe, ⟨hc, hd⟩, hdat, h1, ?_, rfl, I1.bare, raises_own T.bC T.tC, q1 d od (I1.hok.fresh M.big)⟩
    · by_cases hb : b = e
      · rw [hb] at q
        exact absurd (ge.symm.trans q) (by simp)
      · exact (gk b hb).symm.trans q
    · rw [upd_ne (Ne.symm M.ne)]
      exact I1.hok.fresh M.new
end
end L2
namespace Va
open PySem PySem.Spec PyProof.Rows L2 Ind
section
variable {X : Cx} {S : Sg} {W : WX} {e : Expr} {es : List Expr} {pos : Pos}
def okCnt : D → Prop
  | .int x => 0 ≤ x ∧ x < 100
  | _ => False
def okCntV : V → Prop
  | .int x => 0 ≤ x ∧ x < 100
  | _ => False
theorem vx_raiseC {C fI : Addr} {vs : List Expr} {ps : SupE.Ps} {c : PySem.Str} {a : Expr} {t : VT} {p pos2 : Pos} {k : Nat} (hc : X.calm = true) (tk : Takes X W) (T : SupE.Cl X.prog X.K C fI "count" vs ps) (gC : X.mg c = some (.ref C)) (gs : X.mg "super" = none)
    (hS : ∀ v v', okCntV v → RelV v v' → SupE.Says X.prog X.w "count" vs ps.d v') (hr : Room k X.A) (ha : VE S X.nox a t) (hg : Gl X c) (hdb : (c == ("__debug__" : PySem.Str)) = false := by decide)
    (he : starEach (a :: []) X.env = (false, eval a X.env) :: starEach [] X.env := by rfl) (hpl : (backTo pos (starEach [] X.env)).any (·.1) = false := by rfl) :
    VXt S W X (.Raise (some (.Call (.Name c p) [a] [] pos)) none pos2) (xRaiseF C "count" okCnt t) := by
  refine ps_weak (ps_raise hc tk (pmk_supC T gC gs hS hr (pa_cons (PE.nox ha) pa_nil he) hg hdb he hpl)) ?_
  rintro D σ H ⟨Γ, E, Vv, Xq, ok, r, h, k, kx⟩
  refine ⟨Γ, E, _, ok, r, h, fun d E1 h1 v H1 q1 r1 hv => ?_⟩
  obtain ⟨ho, hx⟩ := h1
  cases d with
  | int x =>
    cases hv
    refine ⟨.int x, rfl, ho, fun dd ob nd => ?_⟩
    have sm := same_upd (o := .frz ob (.xd [(("count" : PySem.Str), V.int x)])) nd
    exact kx _ E1 hx _ _ σ _ (q1.trans (Kq.same sm)) (r1.same sm) ⟨rfl, dd, ob, _, rfl, upd_same, .int x⟩
  | _ => exact ho.elim
end
end Va

set_option Elab.async false
set_option linter.all false
set_option maxRecDepth 100000
set_option maxHeartbeats 4000000
/-! try with several clauses, some of them with a name for the error -/
namespace L2
open PySem PySem.Spec PyProof.Rows
abbrev Clau : Type := Bool × Value × (Addr → Value → Option Addr → TS)
/-- the ends, where the error's slot goes away -/
def Ends.off (D : Ends) (i : Nat) : Ends := { nx := fun τ G => D.nx (τ.set i none) G, rt := D.rt, bk := fun τ G => D.bk (τ.set i none) G, ct := fun τ G => D.ct (τ.set i none) G }
def wMix (K : PySem.W.Frag) (out : WX) (i : Nat) (D : Ends) : List Clau → WX
  | [] => out
  | (nm, c, ts) :: r => fun cls d τ G => ∃ b, PySem.W.exmOne K cls c = some b ∧ (b = true → ∀ a, G a = none → if nm = true then ts a cls d (D.off i) (τ.set i (some (.ref a))) G else ts a cls d D τ G) ∧ (b = false → wMix K out i D r cls d τ G)
inductive Clauses (X : Cx) (n : Str) : List ExceptHandler → List Clau → Prop
  | nil : Clauses X n [] []
  | cons (nm : Bool) {x : Str} {c : Value} {ts : Addr → Value → Option Addr → TS} {b₀ : Stmt} {suite : List Stmt} {p1 p2 : Pos} {hs : List ExceptHandler} {l : List Clau} (names : Names X x c)
      (run : ∀ (a : Addr) (ob : Obj) (cls : Value) (d : Option Addr) (pn : List (Addr × Obj)), Zc cls d ob → (∃ vs, ob.data = .fields vs) → PSs (X.suite a ((a, ob) :: pn)) (b₀ :: suite) (ts a cls d)) (rest : Clauses X n hs l) :
      Clauses X n (.ExceptHandler (some (.Name x p1)) (if nm = true then some n else none) (b₀ :: suite) p2 :: hs) ((nm, c, ts) :: l)
section
variable {X : Cx} {n : Str} {i : Nat} {body : List Stmt} {c₀ : ExceptHandler} {cs : List ExceptHandler} {l : List Clau} {pos : Pos} {tb : WX → TS} {out : WX}
theorem ps_try_mix (hst : X.stack = X.env :: X.outer) (hfr : X.env.frame = some X.env.locals) (hN : X.N.Nodup) (hi : X.N[i]? = some n) (hln : X.env.kindOf n = some .local) (tk : Takes X out)
    (hb : ∀ (W : WX) (pn : List (Addr × Obj)) (xe : Value → Shared → Prop), Takes (X.tr pn xe) W → PassesOwn (model X.prog X.w) X.A X.env xe → PSs (X.tr pn xe) body (tb W))
    (hh : Clauses X n (c₀ :: cs) l) : PS X (.Try body (c₀ :: cs) [] [] pos) (fun D σ H => tb (wMix X.K out i D l) D σ H) := by
  refine ⟨fun pins s σ H D I h => ?_⟩
  have okX := I.ok
  have framesX : X.A.frames = some (X.env :: X.outer) := okX.frames.trans (congrArg some hst)
  refine wpAny_Try_except (wpAny_mono ((hb (wMix X.K out i D l) (X.pn ++ pins) (fun e t₁ => wpAny (model X.prog X.w) X.A (noteFrame e X.env) (fun _ t₂ => wpAny (model X.prog X.w) X.A (setFlight e none) (fun _ t₃ =>
    wpAny (model X.prog X.w) X.A (handleBy e X.env (c₀ :: cs)) (SP X pins D) X.xe t₃) X.xe t₂) X.xe t₁) (fun u t hx => ?_) PassesOwn.looking).run [] s σ H D (I.toTry _) h) (fun f t hsp => ?_) (fun _ _ he => he))
  · obtain ⟨a, B, sI, pn2, τ, G, cls, d, rfl, JJ, nb, up, sky, na, os, ag, w⟩ := hx
    have J : Inv X pins τ G sI := JJ.ofTry okX
    have sky2 : Sky B (X.env :: X.outer) a (Zc cls d) X.env.locals t.heap := hst ▸ sky
    show wpAny (model X.prog X.w) X.A (noteFrame (.ref a) X.env) _ _ _
    refine Sky.land Zc.steady framesX hfr sky2 fun h3 fl3 up3 => ?_
    have J3 : Inv X pins τ G { t with heap := h3 } := J.landed nb fl3.1 (up.trans up3) os ag
    obtain ⟨o3, v3, e3, z3, d3⟩ := fl3.there
    have apart : a ∉ frs (X.env :: X.outer) := fun hm => by
      obtain ⟨_, o2, e2, no⟩ := fl3.2.2.1.mem hm
      rw [e3] at e2
      cases e2
      exact no _ d3
    have aL : a ≠ X.env.locals := fun z => apart (List.mem_filterMap.mpr ⟨X.env, List.mem_cons_self, hfr.trans (congrArg some z.symm)⟩)
    have aF : a ∉ X.fs := fun hm => by
      obtain ⟨e, he, q⟩ := List.mem_filterMap.mp hm
      exact apart (List.mem_filterMap.mpr ⟨e, List.mem_cons_of_mem _ he, q⟩)
    have S3 := J3.suite e3 d3 na aL aF
    have go : ∀ {hs : List ExceptHandler} {l' : List Clau}, Clauses X n hs l' → wMix X.K out i D l' cls d τ G → wpAny (model X.prog X.w) X.A (handleBy (.ref a) X.env hs) (SP X pins D) X.xe { t with heap := h3 } := by
      intro hs l' hk
      induction hk with
      | nil =>
        intro w
        refine wpAny_handleBy_nil ?_
        obtain ⟨_, _, _, oe, vs, T, oT, ts', he, hz, hd, h1, hr⟩ := id fl3
        unfold PySem.passOn
        refine wpAny_bind (wpAny_field he hd h1 ?_)
        rw [if_neg (show ¬ ((Value.ref T == Value.none) = true) from by simp)]
        have last : wpAny (model X.prog X.w) X.A (setFlight (.ref a) X.env.frame) (fun _ s4 => wpAny (model X.prog X.w) X.A (throw (.ref a) : Sem Flow) (SP X pins D) X.xe s4) X.xe { t with heap := h3 } := by
          rw [hfr]
          exact HandSPX.setFlight_upZ fl3 fun h4 hh4 up4 => wpAny_throw (tk _ _ ⟨a, B, sI, pins, τ, G, cls, d, rfl, J, nb, (up.trans up3).trans up4, .inr (.inr (by rw [hst]; exact hh4)), na, os, ag, w⟩)
        first
          | exact wpAny_bind (wpAny_pure (wpAny_bind last))
          | exact wpAny_bind last
      | @cons nm x c ts b₀ suite p1 p2 hs2 l2 names run rest ih =>
        intro w
        obtain ⟨b, hb1, yes, no⟩ := w
        refine wpAny_handleBy_cons (codeAny_handlers_test ?_) (by intro q; cases q)
        have looks : PySem.W.Looks (model X.prog X.w) h3 (typeOf (.ref a)) cls := fun A Q E s k q => wpAny_typeOf_ref (k _ _ e3) (by rw [z3.1]; exact q)
        have meets := PySem.W.exm_one (M := model X.prog X.w) (J3.kIn) looks hb1
        have named : ∀ {Q : Value → Shared → Prop} {E : Value → Shared → Prop}, Q c { t with heap := h3 } → wpAny (model X.prog X.w) (X.A.mark (some (.ref a))) (eval (.Name x p1) X.env) Q E { t with heap := h3 } := fun {Q E} q => by
          obtain ⟨y1, y2, y3 | ⟨y3, y4, y5⟩⟩ := names
          · exact ld_glob (X := X.suite a ((a, o3) :: (X.pn ++ pins))) S3 y1 y3 q y2
          · exact ld_blt (X := X.suite a ((a, o3) :: (X.pn ++ pins))) S3 y1 y3 y4 q y5 y2
        refine named (meets.here ?_)
        cases b with
        | false =>
          show wpAny _ X.A (handleBy (.ref a) X.env hs2) _ _ _
          exact ih (no rfl)
        | true =>
          have w2 := yes rfl a na
          cases nm with
          | false =>
            refine codeAny_handlers_suite (HandSPX.lands_againZ fl3 fun h4 fl4 up4 => ?_)
            have J4 : Inv X pins τ G { t with heap := h4 } := J.landed nb fl4.1 ((up.trans up3).trans up4) os ag
            obtain ⟨o4, v4, e4, z4, d4⟩ := fl4.there
            refine wpAny_mono ((run a o4 cls d (X.pn ++ pins) z4 ⟨_, d4⟩).run [] _ _ G _ (J4.suite e4 d4 na aL aF) w2) (fun f t6 hsp => ?_) (fun _ _ z => False.elim z)
            cases f with
            | ret u => obtain ⟨v6, τ6, G6, S6, r6, q6⟩ := hsp; exact ⟨_, _, _, S6.unsuite okX, r6, q6⟩
            | next => obtain ⟨τ6, G6, S6, q6⟩ := hsp; exact ⟨_, _, S6.unsuite okX, q6⟩
            | brk => obtain ⟨τ6, G6, S6, q6⟩ := hsp; exact ⟨_, _, S6.unsuite okX, q6⟩
            | cont => obtain ⟨τ6, G6, S6, q6⟩ := hsp; exact ⟨_, _, S6.unsuite okX, q6⟩
          | true =>
            refine codeAny_handlers_suite_as (HandSPX.lands_againZ fl3 fun h4 fl4 up4 => ?_)
            have J4 : Inv X pins τ G { t with heap := h4 } := J.landed nb fl4.1 ((up.trans up3).trans up4) os ag
            obtain ⟨o4, v4, e4, z4, d4⟩ := fl4.there
            refine store_ok (X := X.suite a ((a, o4) :: (X.pn ++ pins))) (v := .ref a) (J4.suite e4 d4 na aL aF) hN hi (.inl hln) rfl (fun t5 S5 => ?_) (.inr hln)
            refine wpAny_mono ((run a o4 cls d (X.pn ++ pins) z4 ⟨_, d4⟩).run [] t5 _ G _ S5 w2) (fun f t6 hsp => ?_) (fun _ _ z => False.elim z)
            have gone : ∀ {τ6 : St} {G6 : Hp} {Q : Shared → Prop}, Inv (X.suite a ((a, o4) :: (X.pn ++ pins))) [] τ6 G6 t6 → (∀ t7, Inv X pins (τ6.set i none) G6 t7 → Q t7) →
                wpAny (model X.prog X.w) X.A (do bindName X.env n .none; unbindBehindTheSuite X.env n p2) (fun _ t7 => Q t7) X.xe t6 := fun {τ6 G6 Q} S6 hq => gone_ok (S6.unsuite okX) hN hi hln hq
            cases f with
            | ret u => obtain ⟨v6, τ6, G6, S6, r6, q6⟩ := hsp; exact gone S6 fun t7 J7 => ⟨_, _, _, J7, r6, q6⟩
            | next => obtain ⟨τ6, G6, S6, q6⟩ := hsp; exact gone S6 fun t7 J7 => ⟨_, _, J7, q6⟩
            | brk => obtain ⟨τ6, G6, S6, q6⟩ := hsp; exact gone S6 fun t7 J7 => ⟨_, _, J7, q6⟩
            | cont => obtain ⟨τ6, G6, S6, q6⟩ := hsp; exact gone S6 fun t7 J7 => ⟨_, _, J7, q6⟩
    exact go hh w
  · cases f with
    | ret u => obtain ⟨v, τ, G, J, r, q⟩ := hsp; exact ⟨v, τ, G, J.ofTry okX, r, q⟩
    | next => obtain ⟨τ, G, J, q⟩ := hsp; exact wpAny_execs_nil ⟨τ, G, J.ofTry okX, q⟩
    | brk => obtain ⟨τ, G, J, q⟩ := hsp; exact ⟨τ, G, J.ofTry okX, q⟩
    | cont => obtain ⟨τ, G, J, q⟩ := hsp; exact ⟨τ, G, J.ofTry okX, q⟩
end
end L2

set_option Elab.async false
set_option linter.all false
set_option maxRecDepth 100000
set_option maxHeartbeats 4000000
namespace Va
open PySem PySem.Spec PyProof.Rows L2 Ind
/-! ### try with several clauses, by values -/
structure VCl where
  nm : Bool
  c : Value
  mt : Er → Bool
  ts : Addr → Option Addr → Er → VS
def offV (V : Ve) (i : Nat) : Ve := { nx := fun E2 => V.nx (E2.set i .no), rt := V.rt, bk := fun E2 => V.bk (E2.set i .no), ct := fun E2 => V.ct (E2.set i .no) }
def runM (i : Nat) (V : Ve) (E : En) (e : Er) : List VCl → Prop
  | [] => False
  | k :: r => (k.mt e = true → ∀ a d, dOk e d → if k.nm = true then k.ts a d e (offV V i) (E.set i (.ex a (plOf d e))) else k.ts a d e V E) ∧ (k.mt e = false → runM i V E e r)
def sTryM (i : Nat) (okE : Er → Prop) (tb : VSX) (l : List VCl) : VS := fun V E => tb V (fun e E1 => okE e ∧ runM i V E1 e l) E
def toCl (S : Sg) (okE : Er → Prop) (k : VCl) : Clau := (k.nm, k.c, fun a cls d D σ H => ∃ e : Er, okE e ∧ cls = .ref e.cls ∧ liftS S (k.ts a d e) D σ H)
section
variable {X : Cx} {S : Sg} {n : PySem.Str} {i : Nat} {body : List Stmt} {c₀ : ExceptHandler} {cs : List ExceptHandler} {l : List VCl} {pos : Pos}
inductive VClauses (X : Cx) (S : Sg) (n : PySem.Str) (okE : Er → Prop) : List ExceptHandler → List VCl → Prop
  | nil : VClauses X S n okE [] []
  | cons (nm : Bool) (mt : Er → Bool) {x : PySem.Str} {c : Value} {ts : Addr → Option Addr → Er → VS} {b₀ : Stmt} {suite : List Stmt} {p1 p2 : Pos} {hs : List ExceptHandler} {l : List VCl} (names : Names X x c)
      (hx : ∀ e, okE e → PySem.W.exmOne X.K (.ref e.cls) c = some (mt e))
      (run : ∀ (e : Er) (a : Addr) (d : Option Addr) (oe : Obj) (pn : List (Addr × Obj)), HeldX X.K oe e.cls d → VSs S (X.suite a ((a, oe) :: pn)) (b₀ :: suite) (ts a d e)) (rest : VClauses X S n okE hs l) :
      VClauses X S n okE (.ExceptHandler (some (.Name x p1)) (if nm = true then some n else none) (b₀ :: suite) p2 :: hs) (⟨nm, c, mt, ts⟩ :: l)
theorem VClauses.to {okE : Er → Prop} (hE : ∀ e, okE e → ExcC X.K e.cls) {hs : List ExceptHandler} (h : VClauses X S n okE hs l) : Clauses X n hs (l.map (toCl S okE)) := by
  induction h with
  | nil => exact .nil
  | cons nm mt names hx run rest ih =>
    refine .cons nm names (fun a ob cls d pn hz hfl => ⟨fun pins s σ H D I h => ?_⟩) ih
    obtain ⟨e, oke, ec, h⟩ := h
    exact (run e a d ob pn ⟨hz.1.trans ec, hfl, hz.2, hE e oke⟩).run pins s σ H D I h
theorem rep_held {Γ : Gm} {E1 : En} {σ1 : L2.St} {H1 : Hp} {a : Addr} {pl : Option (Addr × Tx × D)} (r1 : Rep Γ E1 σ1 H1) (hp : ∀ p, pl = some p → ∃ ob v, H1 p.1 = some (.frz ob (.xd [(p.2.1, v)])) ∧ Γ.Rp H1 v p.2.2) : Rep Γ (E1.set i (.ex a pl)) (σ1.set i (some (.ref a))) H1 := by
  refine ⟨r1.base, by simp [En.set, r1.len], r1.few, fun j s e => ?_, fun j k s t b e1 e2 o1 o2 h1 h2 => ?_⟩
  · rcases get_set e with ⟨rfl, rfl, hi⟩ | ⟨ne, e⟩
    · exact ⟨_, List.getElem?_set_self (by rw [← r1.len]; exact hi), rfl, hp⟩
    · rw [List.getElem?_set_ne ne]
      exact r1.sl j s e
  · rcases get_set e1 with ⟨_, rfl, _⟩ | ⟨n1, e1⟩
    · cases o1
    · rcases get_set e2 with ⟨_, rfl, _⟩ | ⟨n2, e2⟩
      · cases o2
      · rw [List.getElem?_set_ne n1] at h1
        rw [List.getElem?_set_ne n2] at h2
        exact r1.dis j k s t b e1 e2 o1 o2 h1 h2
theorem vs_tryM (okE : Er → Prop) (hst : X.stack = X.env :: X.outer) (hfr : X.env.frame = some X.env.locals) (hN : X.N.Nodup) (hi : X.N[i]? = some n) (hln : X.env.kindOf n = some .local)
    (hE : ∀ e, okE e → ExcC X.K e.cls) {tb : VSX}
    (hb : ∀ (W : WX) (pn : List (Addr × Obj)) (xe : Value → Shared → Prop), Takes (X.tr pn xe) W → PassesOwn (model X.prog X.w) X.A X.env xe → VXs S W (X.tr pn xe) body tb)
    (hc : VClauses X S n okE (c₀ :: cs) l) : VSt S X (.Try body (c₀ :: cs) [] [] pos) (sTryM i okE tb l) := by
  refine ps_weak (ps_try_mix (i := i) hst hfr hN hi hln takes0 (fun W pn xe tk po => hb W pn xe tk po) (hc.to hE)) ?_
  rintro D σ H ⟨Γ, E, V, ok, r, h, k⟩
  refine ⟨Γ, E, V, _, ok, r, h, k, fun e E1 h1 cls d σ1 H1 q1 r1 xr => ?_⟩
  obtain ⟨oke, hr⟩ := h1
  have both : cls = .ref e.cls ∧ dOk e d ∧ ∀ p, plOf d e = some p → ∃ ob v, H1 p.1 = some (.frz ob (.xd [(p.2.1, v)])) ∧ Γ.Rp H1 v p.2.2 := by
    cases e with
    | own C =>
      obtain ⟨h1, h2⟩ := xr
      exact ⟨h1, h2, fun p hp => by cases hp⟩
    | fld C f y =>
      obtain ⟨h1, dd, ob, v, rfl, h3, h4⟩ := xr
      exact ⟨h1, ⟨dd, rfl⟩, fun p hp => by cases hp; exact ⟨ob, v, h3, h4⟩⟩
  obtain ⟨rfl, hd, hp⟩ := both
  have go : ∀ {hs : List ExceptHandler} {l : List VCl}, VClauses X S n okE hs l → runM i V E1 e l → wMix X.K (fun _ _ _ _ => False) i D (l.map (toCl S okE)) (.ref e.cls) d σ1 H1 := by
    intro hs l hcl
    induction hcl with
    | nil => exact fun z => z.elim
    | @cons nm mt x c ts b₀ suite p1 p2 hs l names hx run rest ih =>
      intro ⟨yes, no⟩
      refine ⟨mt e, hx e oke, fun hm a na => ?_, fun hm => ih (no hm)⟩
      have y := yes hm a d hd
      have k1 : EndsOk Γ V D H1 := ⟨fun E2 h2 σ2 H2 q2 r2 => k.nx _ h2 _ H2 (q1.trans q2) r2, fun d E2 h2 v σ2 H2 q2 r2 rv => k.rt d E2 h2 v σ2 H2 (q1.trans q2) r2 rv, fun E2 h2 σ2 H2 q2 r2 => k.bk _ h2 _ H2 (q1.trans q2) r2, fun E2 h2 σ2 H2 q2 r2 => k.ct _ h2 _ H2 (q1.trans q2) r2⟩
      cases nm with
      | false => exact ⟨e, oke, rfl, Γ, E1, V, ok, r1, y, k1⟩
      | true => exact ⟨e, oke, rfl, Γ, _, _, ok, rep_held r1 hp, y, ⟨fun E2 h2 σ2 H2 q2 r2 => k1.nx _ h2 _ H2 q2 (r2.setNo i none), fun d E2 h2 v σ2 H2 q2 r2 rv => k1.rt d E2 h2 v σ2 H2 q2 r2 rv, fun E2 h2 σ2 H2 q2 r2 => k1.bk _ h2 _ H2 q2 (r2.setNo i none), fun E2 h2 σ2 H2 q2 r2 => k1.ct _ h2 _ H2 q2 (r2.setNo i none)⟩⟩
  exact go hc hr
end
end Va
namespace Va
/-- an error that holds something -/
def isF : Er → Bool
  | .fld _ _ _ => true
  | .own _ => false
end Va

set_option Elab.async false
set_option linter.all false
set_option maxRecDepth 100000
set_option maxHeartbeats 4000000
namespace Va
open PySem PySem.Spec PyProof.Rows L2 Ind
/-! ### one taken out of an own list -/
def popD (i : Nat) (Q : D → En → Prop) (d : D) (E1 : En) : Prop := match d with
  | .int j => onL E1.l[i]? fun ds => ∃ k y, j = ((k : Nat) : Int) ∧ k < 1000000 ∧ ds[k]? = some y ∧ Q y (E1.set i (.ol (ds.eraseIdx k)))
  | _ => False
def vPopAt (i : Nat) (t : VT) : VT := fun E Q => onL E.l[i]? fun _ => t E (popD i Q)
theorem RpL.drop1 {K : PySem.W.Frag} {tp : Option Tp} {H : Hp} : ∀ {vs : List V} {ds : List D} (k : Nat), RpL K tp H vs ds → RpL K tp H (vs.eraseIdx k) (ds.eraseIdx k)
  | _, _, _, .nil => .nil
  | _, _, 0, .cons _ h2 => h2
  | _, _, k + 1, .cons h1 h2 => .cons h1 (RpL.drop1 k h2)
section
variable {X : Cx} {S : Sg} {e : Expr}
theorem ve_popAt {i : Nat} {o : Expr} {t : VT} {apos cpos : Pos} (ho : PE X o (tVar i)) (he : VE S X e t)
    (hbase : attributeBase o "pop" X.env (eval o X.env) = eval o X.env := by rfl)
    (hfew : ((backTo cpos (starEach [e] X.env)).all (fun x => !x.1) && (backToKw cpos (keywordEach [] X.env)).all (fun x => x.1.isSome)
      && decide (([e] : List Expr).length + ([] : List Keyword).length + (if ([] : List Keyword).isEmpty then 0 else 1) < 30)) = true := by rfl)
    (hline : (apos.endLine == cpos.line) = true := by rfl) (hs : starEach [e] X.env = (false, eval e X.env) :: starEach [] X.env := by rfl) (hplain : (backTo cpos (starEach [] X.env)).any (·.1) = false := by rfl) :
    VE S X (.Call (.Attribute o "pop" apos) [e] [] cpos) (vPopAt i t) := by
  refine pe_weak (pe_bm PySem.F.plainAttrs_list PySem.F.slot_list_pop PySem.F.type_list_pop mt_popAt ho (va_cons (S := S) he va_nil hs) hbase hfew hline hs hplain) ?_
  rintro σ H Q ⟨Γ, E, Q0, ok, rp, ht, k⟩
  obtain ⟨ds0, e0, ht⟩ := onL_inv ht
  obtain ⟨p, xs0, hv, hl0, _, _⟩ := own_list rp e0
  refine ⟨_, hv, .inl ⟨rfl, xs0, .of hl0⟩, ?_⟩
  refine ⟨Γ, E, fun ds E1 => match ds with
    | [d] => popD i Q0 d E1
    | _ => False, ok, rp, ht, fun ds E1 hq vs H1 kq1 rp1 hvs => ?_⟩
  match ds, hq, vs, hvs with
  | [d], hq, [u], .cons hu .nil =>
    have hd : ∃ j, d = .int j := by cases d <;> first | exact ⟨_, rfl⟩ | exact hq.elim
    obtain ⟨j, rfl⟩ := hd
    obtain ⟨ds1, e1, m, y, rfl, hm, hy, hq⟩ := onL_inv hq
    cases hu
    obtain ⟨p1, xs1, hv1, hl1, hr1, fr1⟩ := own_list rp1 e1
    rw [hv] at hv1
    cases hv1
    obtain ⟨v, hgv, hrv⟩ := hr1.get hy
    have hlt := (List.getElem?_eq_some_iff.mp hgv).1
    obtain ⟨kq2, rp2⟩ := rp1.wrL e1 hv hl1 fr1 (RpL.drop1 m hr1)
    refine ⟨p, xs1, ((m : Nat) : Int), m, v, rfl, rfl, hl1, by omega, by omega, seqIndex_of (by omega) (by omega), hgv, ?_⟩
    exact k _ _ hq v _ (kq1.trans kq2) rp2 (Rp.kq kq2 _ _ hrv)
end
end Va

set_option Elab.async false
set_option linter.all false
set_option maxRecDepth 100000
set_option maxHeartbeats 4000000
namespace Va
open PySem PySem.Spec PyProof.Rows L2 Ind RowK
/-! ### sorted(xs, key=f), by values: f is a def of the program, its keys are made of rows -/
def cellD : Cell → D
  | .inl i => .int i
  | .inr x => .str x
def ckD (c : Cell) : D := .tup [.bl (isS c), cellD c]
def keyD (r : List Cell) : D := .tup (r.map ckD)
def sortQ (m : VM) (Q : RV → En → Prop) (d : D) (E : En) : Prop := match d with
  | .lst ds => ∃ rows : List (List Cell), rows.length = ds.length ∧ (∀ r ∈ rows, r ≠ []) ∧ (∀ (i : Nat) (d : D) (r : List Cell), ds[i]? = some d → rows[i]? = some r → m [d] E.c fun k c => k = keyD r ∧ c = E.c) ∧
      ∀ ps : List (List Cell × D), ps.Perm (rows.zip ds) → (ps.Pairwise fun x y => ltR y.1 x.1 = false) → Q (.fl (ps.map (·.2))) E
  | _ => False
def vSortDef (m : VM) (t : VT) : FT := fun E Q => t E (sortQ m Q)
section
variable {K : PySem.W.Frag} {tp : Option Tp} {H : Hp}
theorem cell_v {u : V} : ∀ {c : Cell}, Rp K tp H u (cellD c) → u = kV c
  | .inl i, h => by cases h; rfl
  | .inr x, h => by cases h; rfl
theorem keyCell_of {v : V} {c : Cell} (h : Rp K tp H v (ckD c)) : KeyCell K H v c := by
  cases h with
  | tup hs ha =>
    cases ha with
    | cons h1 h2 =>
      cases h1
      cases h2 with
      | cons h3 h4 =>
        cases h4
        rw [cell_v h3] at hs
        exact ⟨_, rfl, hs⟩
theorem keyCells_of : ∀ {r : List Cell} {vs : List V}, RpL K tp H vs (r.map ckD) → Paired (KeyCell K H) vs r
  | [], _, h => by cases h; exact .nil
  | c :: r, _, h => by
    cases h with
    | cons h1 h2 => exact .cons (keyCell_of h1) (keyCells_of h2)
theorem keyRow_of {v : V} {r : List Cell} (h : Rp K tp H v (keyD r)) : KeyRow K H v r := by
  cases h with
  | tup hs ha => exact ⟨_, _, rfl, hs, keyCells_of ha⟩
theorem keyRows_of : ∀ {rs : List (List Cell)} {vs : List V}, RpL K tp H vs (rs.map keyD) → Paired (KeyRow K H) vs rs
  | [], _, h => by cases h; exact .nil
  | r :: rs, _, h => by
    cases h with
    | cons h1 h2 => exact .cons (keyRow_of h1) (keyRows_of h2)
/-- the sorted items, with what stands for them -/
theorem sort_lift {rows : List (List Cell)} {ys : List V} {ds : List D} (h : RpL K tp H ys ds) {ps : List (List Cell × V)} (hp : ps.Perm (rows.zip ys)) (hw : ps.Pairwise fun x y => ltR y.1 x.1 = false) :
    ∃ qs : List (List Cell × D), qs.Perm (rows.zip ds) ∧ (qs.Pairwise fun x y => ltR y.1 x.1 = false) ∧ RpL K tp H (ps.map (·.2)) (qs.map (·.2)) := by
  have zz : ∀ {ds : List D} {ys : List V} {rows : List (List Cell)}, RpL K tp H ys ds → ∃ L : List ((List Cell × V) × D), L.map (·.1) = rows.zip ys ∧ (L.map fun z => (z.1.1, z.2)) = rows.zip ds ∧ ∀ z ∈ L, Rp K tp H z.1.2 z.2 := by
    intro ds
    induction ds with
    | nil =>
      intro ys rows a
      cases a
      exact ⟨[], by simp, by simp, by simp⟩
    | cons d ds ih =>
      intro ys rows a
      cases a with
      | cons a1 a2 =>
        cases rows with
        | nil => exact ⟨[], by simp, by simp, by simp⟩
        | cons r rows =>
          obtain ⟨L, h1, h2, h3⟩ := ih (rows := rows) a2
          refine ⟨((r, _), d) :: L, by rw [List.map_cons, h1]; rfl, by rw [List.map_cons, h2]; rfl, fun z hz => ?_⟩
          rcases List.mem_cons.mp hz with rfl | hz
          · exact a1
          · exact h3 z hz
  obtain ⟨L, h1, h2, h3⟩ := zz (rows := rows) h
  obtain ⟨M, pm, em⟩ := L2.perm_lift (·.1) hp L h1
  refine ⟨M.map fun z => (z.1.1, z.2), by rw [← h2]; exact pm.map _, ?_, ?_⟩
  · rw [← em, List.pairwise_map] at hw
    rw [List.pairwise_map]
    exact hw
  · rw [← em, List.map_map, List.map_map]
    have : ∀ M : List ((List Cell × V) × D), (∀ z ∈ M, Rp K tp H z.1.2 z.2) → RpL K tp H (M.map ((·.2) ∘ (·.1))) (M.map ((·.2) ∘ fun z => (z.1.1, z.2))) := fun M => by
      induction M with
      | nil => exact fun _ => .nil
      | cons z M ih => exact fun h => .cons (h z List.mem_cons_self) (ih fun y hy => h y (List.mem_cons_of_mem _ hy))
    exact this M fun z hz => h3 z (pm.mem_iff.mp hz)
end
section
variable {X : Cx} {S : Sg}
theorem fe_sortedDef {k : Nat} {f : Addr} {fd : FuncData} {ps : List PySem.Str} {m : VM} {fx : PySem.Str} {p pf kpos pos : Pos} {e : Expr} {t : VT} (hK : S.K = X.K) (F : FnOk X.prog X.w X.K X.mg X.base CX0 k f fd ps (spV S m)) (hr : Room (k + 2) X.A) (hb : Binds X.K fd ps [])
    (hg : Gl X "sorted") (hm : X.mg "sorted" = none) (hgf : Gl X fx) (hmf : X.mg fx = some (.ref f)) (he : VE S X e t) (hdb : (fx == ("__debug__" : PySem.Str)) = false := by decide)
    (hs : starEach [e] X.env = (false, eval e X.env) :: starEach [] X.env := by rfl)
    (h1 : backTo pos (starEach [e] X.env) = (false, eval e X.env) :: backTo pos (starEach [] X.env) := by rfl) (h2 : (backTo pos (starEach [e] X.env)).any (·.1) = false := by rfl)
    (h3 : (backToKw pos (keywordEach [⟨some "key", .Name fx pf, kpos⟩] X.env)).all (·.1.isSome) = true := by rfl) (h4 : (backToKw pos (keywordEach [⟨some "key", .Name fx pf, kpos⟩] X.env)).any (·.1.isNone) = false := by rfl)
    (h5 : (backToKw pos (keywordEach [⟨some "key", .Name fx pf, kpos⟩] X.env)).filterMap (·.1) = [PySem.Str.ofString "key"] := by rfl) :
    FE S X (.Call (.Name "sorted" p) [e] [⟨some "key", .Name fx pf, kpos⟩] pos) (vSortDef m t) := by
  refine pe_weak (pe_callBK (cr_sortedDef F hr hb) hg hm boot_sorted (va_cons (S := S) he va_nil hs) (pk_cons (pe_glob (v := .ref f) hgf hmf rfl hdb) pk_nil) (by decide) (by decide) h1 h2 h3 h4 h5) ?_
  rintro σ H Q ⟨Γ, E, Q0, ok, rp, ht, kk⟩
  refine ⟨Γ, E, fun ds E1 => match ds with
    | [d] => sortQ m Q0 d E1
    | _ => False, ok, rp, ht, fun ds E1 hq vs H1 kq1 rp1 hvs => ?_⟩
  match ds, hq, vs, hvs with
  | [d], hq, [v], .cons hv .nil =>
    have hd : ∃ xs, d = .lst xs := by cases d <;> first | exact ⟨_, rfl⟩ | exact hq.elim
    obtain ⟨ds, rfl⟩ := hd
    obtain ⟨rows, hlen, rn, hm2, hq⟩ := hq
    obtain ⟨b, ys, rfl, hs1, hys⟩ := (RpW.v hv).seq
    have eK : X.K = Γ.K := hK.symm.trans ok.k.symm
    have yl := hys.len
    refine ⟨b, ys, fun i H2 kv => Kq H1 H2 ∧ Rep Γ E1 σ H2 ∧ Γ.RpL H2 kv ((rows.take i).map keyD), E0, rows, rfl, rfl, by rw [eK]; exact hs1, rn, ⟨Kq.refl _, rp1, .nil⟩, fun i y H2 kv hy ⟨q2, r2, k2⟩ => ?_, fun H2 kv ⟨q2, r2, k2⟩ => ?_⟩
    · obtain ⟨d, ed, hd⟩ := hys.getV hy
      have hi := (List.getElem?_eq_some_iff.mp ed).1
      obtain ⟨r, er⟩ : ∃ r, rows[i]? = some r := ⟨rows[i]'(by omega), List.getElem?_eq_getElem (by omega)⟩
      refine spV_of ok r2 (.cons (Rp.kq q2 _ _ hd) .nil) (hm2 i d r ed er) fun d' c' h v H3 q3 r3 rv => ?_
      obtain ⟨rfl, rfl⟩ := h
      refine ⟨q2.trans q3, r3, ?_⟩
      rw [take_more er, List.map_append]
      exact (RpL.kq q3 _ _ k2).app (.cons rv .nil)
    · rw [List.take_of_length_le (by omega)] at k2
      refine ⟨by rw [eK]; exact keyRows_of k2, fun ps p hp hw hn => ?_⟩
      obtain ⟨qs, g1, g2, g3⟩ := sort_lift (RpL.kq q2 _ _ hys) hp hw
      have sm := same_upd (o := .lst (ps.map (·.2))) hn
      exact kk _ _ (hq qs g1 g2) _ _ ((kq1.trans q2).trans (.same sm)) (r2.same sm) (RpN.rep r2 sm ⟨p, _, rfl, hn, upd_same, RpL.kq (.same sm) _ _ g3⟩)
end
end Va

set_option Elab.async false
set_option linter.all false
set_option maxRecDepth 100000
set_option maxHeartbeats 4000000
namespace Va
open PySem PySem.Spec PyProof.Rows L2 Ind PySem.Froz
/-! ### sets of texts -/
structure TSet (P : Program) (w : World) (D : SD) (l : List PySem.Str) : Prop where
  ok : TxOk P w D l
  nd : l.Nodup
  ris : Ris D.2.2.place.toList
  led : w.params.followText "set-order" = true ∨ D.2.2.led = true
  dum : D.2.2.dummies = #[]
theorem has_nil (j : Nat) : SetTable.has #[] j = false := by
  unfold SetTable.has
  simp
theorem put_dum {t : SetTable} (h : t.dummies = #[]) (j : Nat) : (t.put j).1.dummies = #[] := by
  show (if SetTable.has t.dummies j then SetTable.eraseAt t.dummies (SetTable.below t.dummies j) else t.dummies) = #[]
  rw [h, has_nil]
  rfl
theorem layNew_dum {t : SetTable} (h : t.dummies = #[]) (es : Array (Int × Value)) (k : Int) (x : Value) : (layNew t es k x).2.1.dummies = #[] := by
  unfold layNew
  cases hq : t.freeSlot k with
  | none => rfl
  | some q =>
    show ((t.put q.1).1.orStandIn _).dummies = #[]
    unfold SetTable.orStandIn
    split
    · exact put_dum h _
    · rfl
theorem laid_dum {mask finger moves : Nat} {led plain : Bool} {hs : Array Int} {q : SetTable × Array Nat} (e : SetTable.laid mask finger moves led plain hs = some q) : q.1.dummies = #[] := by
  unfold SetTable.laid at e
  cases hl : SetTable.layClean mask hs with
  | none => rw [hl] at e; first | (cases e; done) | (simp at e; done)
  | some ow =>
    rw [hl] at e
    have e1 := congrArg Prod.fst (Option.some.inj e)
    rw [← e1]
theorem relayAll_dum (t : SetTable) (es : Array (Int × Value)) (n : Nat) : (relayAll t es n).2.1.dummies = #[] := by
  unfold relayAll
  cases hq : t.relaid (es.map (·.1)) n with
  | none => rfl
  | some q =>
    dsimp only
    split
    · exact laid_dum hq
    · rfl
section
variable {P : Program} {w : World} {A : Around} {E : Value → Shared → Prop} {s : Shared} {D : SD} {l : List PySem.Str} {k : PySem.Str} {u : Tok}
theorem TSet.new (w : World) (ep fi mo : Nat) : TSet P w (#[], ep, .fresh fi mo (!w.params.followText "set-order")) [] := by
  refine ⟨TxOk.nil rfl, List.nodup_nil, List.Pairwise.nil, ?_, rfl⟩
  show _ ∨ (!w.params.followText "set-order") = true
  cases w.params.followText "set-order"
  · exact .inr rfl
  · exact .inl rfl
theorem off_ris {t : SetTable} (h : Ris t.place.toList) : Ris (if t.plain = true then { t with plain := false } else t).place.toList := by split <;> exact h
theorem off_led {t : SetTable} (h : t.led = true) : (if t.plain = true then { t with plain := false } else t).led = true := by split <;> exact h
theorem off_dum {t : SetTable} (h : t.dummies = #[]) : (if t.plain = true then { t with plain := false } else t).dummies = #[] := by split <;> exact h
theorem tail_ris {ep : Nat} {es : Array (Int × Value)} {t : SetTable} {b : Bool} (h : Ris t.place.toList) : Ris (tailTx ep es t b).2.2.place.toList := by
  unfold tailTx
  by_cases c : (!b && t.tooFull) = true
  · rw [if_pos c]; exact relayAll_ris _ _ _
  · rw [if_neg c]; exact h
theorem tail_led {ep : Nat} {es : Array (Int × Value)} {t : SetTable} {b : Bool} (h : t.led = true) : (tailTx ep es t b).2.2.led = true := by
  unfold tailTx
  by_cases c : (!b && t.tooFull) = true
  · rw [if_pos c]; exact (relayAll_led t es _).trans h
  · rw [if_neg c]; exact h
theorem tail_dum {ep : Nat} {es : Array (Int × Value)} {t : SetTable} {b : Bool} (h : t.dummies = #[]) : (tailTx ep es t b).2.2.dummies = #[] := by
  unfold tailTx
  by_cases c : (!b && t.tooFull) = true
  · rw [if_pos c]; exact relayAll_dum _ _ _
  · rw [if_neg c]; exact h
theorem TSet.add (u : Tok) (F : TSet P w D l) (hk : k ∉ l) : TSet P w (addTx (hashStr w k) (.str k u) D) (k :: l) := by
  obtain ⟨es, ep, t⟩ := D
  have r1 := layNew_ris t es (hashStr w k) (.str k u) F.ris
  have r2 := layNew_led t es (hashStr w k) (.str k u)
  have r3 := layNew_dum F.dum es (hashStr w k) (.str k u)
  refine ⟨add_ok u F.ok, List.nodup_cons.mpr ⟨hk, F.nd⟩, ?_, ?_, ?_⟩
  · exact tail_ris (off_ris r1)
  · exact F.led.imp id fun z => tail_led (off_led (r2.trans z))
  · exact tail_dum (off_dum r3)
/-- what l becomes with k -/
def inS (k : PySem.Str) (l : List PySem.Str) : List PySem.Str := if k ∈ l then l else k :: l
theorem inS_len : (inS k l).length ≤ l.length + 1 := by
  unfold inS
  split
  · omega
  · simp
theorem mem_inS {j : PySem.Str} : j ∈ inS k l ↔ j = k ∨ j ∈ l := by
  unfold inS
  split
  · rename_i h
    exact ⟨.inr, fun z => z.elim (fun e => e ▸ h) id⟩
  · simp
/-- set.add, hashed -/
theorem tset_add {a : Addr} {Q : Bool → Shared → Prop} (ho : s.heap.get? a = some (sObj "set" D)) (F : TSet P w D l) (hb : l.length + 1 < scanBound)
    (h : ∀ h' D', h'.get? a = some (sObj "set" D') → TSet P w D' (inS k l) → Heap.SameBut a s.heap h' → Q (!decide (k ∈ l)) { s with heap := h' }) :
    wpAny (model P w) A (setAddHashed a (.str k u) (hashStr w k)) Q E s := by
  by_cases hk : k ∈ l
  · obtain ⟨es, ep, t⟩ := D
    have q := h s.heap (es, ep, t) ho (by unfold inS; rw [if_pos hk]; exact F) (Heap.SameBut.refl a _)
    rw [decide_eq_true hk] at q
    have hd : (sObj "set" (es, ep, t)).data = .set es ep t := rfl
    have hf : t.fits es.size = true := F.ok.fit
    have hel : ElemsOf (strKind P w) es.toList := F.ok.el
    have hsz : es.size < scanBound := by have : es.size = l.length := F.ok.sz; omega
    unfold setAddHashed setAddHashedIn
    refine wpAny_holding (wpAny_bind (wpAny_setState_of ho hd hf ?_))
    dsimp only
    rw [byScan_of (x := Value.str k u) rfl hsz hel, if_pos rfl]
    unfold setAddByScan
    refine wpAny_bind (wpAny_bind (wpAny_rule (wpAny_bind ?_)))
    refine wpAny_setScan_of (knd := strKind P w) (k := k) (is_str k u) ho hd hf hel ?_
    obtain ⟨e, he, hek⟩ := (F.ok.mem k).mp hk
    cases hr : List.findIdx? (fun e => (strKind P w).is k e.2) es.toList with
    | none =>
      have := List.findIdx?_eq_none_iff.mp hr e he
      rw [hek] at this
      cases this
    | some j => exact wpAny_pure (wpAny_pure q)
  · refine add_x ho F.ok hk hb ?_
    have q := h _ (addTx (hashStr w k) (.str k u) D) (get_upd _ ho rfl) (by unfold inS; rw [if_neg hk]; exact F.add u hk) (Heap.SameBut.update s.heap a _)
    rw [decide_eq_false hk] at q
    exact q
end
end Va

set_option Elab.async false
set_option linter.all false
set_option maxRecDepth 100000
set_option maxHeartbeats 4000000
namespace Va
open PySem PySem.Spec PyProof.Rows L2 Ind PySem.Froz
section
variable {P : Program} {w : World} {A : Around} {E : Value → Shared → Prop} {s : Shared}
/-- the set at S holds just the texts xs -/
def Holds (P : Program) (w : World) (h : Heap) (S : Addr) (xs : List PySem.Str) : Prop := ∃ D l, h.get? S = some (sObj "set" D) ∧ TSet P w D l ∧ (∀ k, k ∈ l ↔ k ∈ xs) ∧ l.length ≤ xs.length
abbrev ob0 (w : World) : Obj := sObj "set" (#[], 0, .fresh 0 0 (!w.params.followText "set-order"))
theorem holds_new {h : Heap} {S : Addr} (e : h.get? S = some (ob0 w)) : Holds P w h S [] := ⟨_, [], e, TSet.new w 0 0 0, fun _ => Iff.rfl, Nat.le_refl _⟩
theorem Holds.at {h h' : Heap} {S : Addr} {xs : List PySem.Str} (q : Holds P w h S xs) (k : ∀ o, h.get? S = some o → h'.get? S = some o) : Holds P w h' S xs := by
  obtain ⟨D, l, e, r⟩ := q
  exact ⟨D, l, k _ e, r⟩
theorem fill_loop {I : Addr} {fp wr : List Addr} {G : Array GenState → Array GenState → Prop} {n : Nat} {Pv : Nat → Value → Prop} {St : Nat → Shared → Prop} {R : Result → Shared → Prop}
    (W : WalksS P w A.in1 I fp wr G n Pv St) (S : Addr) (off : S ∉ fp) (xs : List PySem.Str) (len : n = xs.length) (few : xs.length + 1 < scanBound) (item : ∀ i v, Pv i v → ∃ x t, xs[i]? = some x ∧ v = .str x t) :
    ∀ (left i : Nat) (s : Shared), n - i = left → i ≤ n → St i s → Holds P w s.heap S (xs.take i) →
      (∀ s', Moved (S :: wr) G s s' → Holds P w s'.heap S xs → R (.ok (.ret .none)) s') →
      codeAny (model P w) A (.builtin "set.update.loop" ⟨[.ref S, .ref I], []⟩) R s := by
  have offw : S ∉ wr := fun z => off (W.sub _ z)
  have wide : ∀ b ∈ wr, b ∈ S :: wr := fun b hb => List.mem_cons_of_mem _ hb
  intro left
  induction left with
  | zero =>
    intro i s h1 h2 st hS hR
    obtain rfl : i = n := by omega
    refine codeAny_builtin F.entry_set_update_loop ?_
    rw [Around.under_plainId F.plain_set_update_loop _]
    refine wpAny_bind (m := pyNext (.ref I)) (W.done s _ _ st fun s' mv => wpAny_pure (hR s' (mv.mono wide) ?_))
    rw [List.take_of_length_le (by omega)] at hS
    exact hS.at fun o e => mv.heap S o offw e
  | succ left ih =>
    intro i s h1 h2 st hS hR
    have lt : i < n := by omega
    refine codeAny_builtin F.entry_set_update_loop ?_
    rw [Around.under_plainId F.plain_set_update_loop _]
    refine wpAny_bind (m := pyNext (.ref I)) (W.item i s _ _ lt st fun v s' hP st' mv => ?_)
    obtain ⟨x, t, hx, rfl⟩ := item i v hP
    obtain ⟨D, l, e0, F0, m0, l0⟩ := hS.at (h' := s'.heap) fun o e => mv.heap S o offw e
    have li : (xs.take i).length ≤ i := by rw [List.length_take]; omega
    refine wpAny_bind (m := holding [Value.str x t] (setAdd S (.str x t))) (wpAny_holding ?_)
    unfold setAdd
    refine wpAny_holding (wpAny_bind ((strKind P w).pyHash (k := x) (is_str x t) ?_))
    refine tset_add (s := { s' with toks := s'.toks + 1 }) e0 F0 (by omega) fun h' D' e1 F1 sb => ?_
    have nx : xs.take (i + 1) = xs.take i ++ [x] := by rw [List.take_add_one, hx]; rfl
    have hS' : Holds P w h' S (xs.take (i + 1)) := ⟨D', _, e1, F1, fun k => by rw [mem_inS, m0, nx, List.mem_append, List.mem_singleton]; exact or_comm, by
      have := inS_len (k := x) (l := l)
      rw [nx, List.length_append]
      show _ ≤ _ + 1
      omega⟩
    refine wpAny_pure ⟨plainId_quiet F.plain_set_update_loop _, ih (i + 1) _ (by omega) lt (W.frame _ s' _ _ st' (Nat.le_succ _) fun b hb o e => ?_) hS' fun s'' mv2 hS'' => ?_⟩
    · rw [sb.2 b fun z => off (z ▸ hb)]; exact e
    · refine hR s'' (Moved.trans W.gtrans ((mv.mono wide).then_heap (Nat.le_succ _) fun b o hb e => ?_) mv2) hS''
      rw [sb.2 b fun z => hb (by rw [z]; exact List.mem_cons_self)]; exact e
theorem none_at {h : Heap} {b : Addr} (e : h.objs.size ≤ b) : h.get? b = none := by
  cases q : h.get? b with
  | none => rfl
  | some o => exact absurd (Nat.lt_of_lt_of_le (Heap.lt_size q) e) (Nat.lt_irrefl _)
set_option maxHeartbeats 8000000 in
/-- set(xs), a tuple of texts -/
theorem set_of_tup {a : Addr} {items : Array Value} (xs : List PySem.Str) {Q : Value → Shared → Prop} (calm : A.handled = none) (ha : s.heap.IsTuple a items) (ss : StrsAre items.toList xs) (few : xs.length + 1 < scanBound)
    (k : ∀ h' tk, Holds P w h' s.heap.objs.size xs → (∀ b o, s.heap.get? b = some o → h'.get? b = some o) → Q (.ref s.heap.objs.size) { s with heap := h', toks := tk }) :
    wpAny (model P w) A (call (.type "set") [.ref a]) Q E s := by
  have len : items.size = xs.length := by
    have q := StrsAre.length ss
    rwa [Array.length_toList] at q
  obtain ⟨_, _, hmro⟩ := F.called_set.mro
  have a1 := F.called_set.made
  have a2 := F.called_set.sub
  have a3 := F.called_set.notType
  have a4 := F.called_set.canCreate
  have a5 := F.typeCall_set_1 (.ref a)
  refine wpAny_call (codeAny_of_tree ?_)
  show wpAny _ _ (callAny (.type "set") _) _ _ _
  refine wpAny_pure ⟨Code.quiet_builtin _ (by decide +kernel), codeAny_builtin F.entry_type_call ?_⟩
  rw [Around.under_plain (weight_type_call_type "set" [.ref a] []) rfl]
  repeat (any_goals (first | assumption | wp_step))
  generalize hs1 : ({ s with heap := s.heap.push (ob0 w) } : Shared) = s1
  have e1 : s1.heap.get? s.heap.objs.size = some (ob0 w) := by rw [← hs1]; exact Heap.get?_push_size _ rfl
  refine codeAny_mono (code_set_led1 (.ref a) (E := E) (Q₁ := fun v t => v = .ref s.heap.objs.size ∧ t = s1) ⟨rfl, hs1⟩) fun r t hr => ?_
  cases r with
  | error e => exact hr
  | ok fl =>
    cases fl with
    | ret v =>
      obtain ⟨rfl, rfl⟩ := hr
      have tS : t.TypeIs (.ref s.heap.objs.size) "set" := ⟨_, e1, rfl⟩
      have b1 := F.called_set.init.lookup
      have b2 := F.called_set.init.bind (.ref s.heap.objs.size)
      repeat (any_goals (first | assumption | wp_step))
      let Rr : Value → Shared → Prop := fun v t2 => v = .none ∧ ∃ h' tk, t2 = { s with heap := h', toks := tk } ∧ Holds P w h' s.heap.objs.size xs ∧ ∀ b o, s.heap.get? b = some o → h'.get? b = some o
      refine codeAny_mono (codeAny_call_builtin (R := wants Rr E) F.called_set.init.plain F.entry_set_init (check_set_init_1 tS ?_)) fun r2 t2 hr2 => ?_
      · obtain ⟨⟨cl, od, da, sl⟩, ho, hcl, n0, hda⟩ := ha
        simp only at hcl hda
        subst hcl
        subst hda
        have lo : a < s.heap.objs.size := Heap.lt_size ho
        have ho1 : t.heap.get? a = some { cls := .type "tuple", dict := od, data := .seq items n0, slots := sl } := by rw [← hs1]; exact Heap.get?_push_of_some _ ho
        have tup1 : t.heap.IsTuple a items := ⟨_, ho1, rfl, n0, rfl⟩
        have n1 := F.sub_tuple_set
        have n2 := F.sub_tuple_frozenset
        have n3 : (Value.type "tuple" == Value.type "dict") = false := by decide
        unfold Builtin.«set.__init__» noKeywords Builtin.Frozenset.updateFrom
        generalize gen : pyIter = PI
        wp_walk
        subst gen
        refine wpAny_pyIter_tuple tup1 ?_
        refine wpAny_bind (wpAny_runValue ?_)
        have calm3 : A.in1.in1.in1.handled = none := by simp [calm]
        have zt : t.heap.objs.size = s.heap.objs.size + 1 := by rw [← hs1]; exact Heap.size_push ..
        have ia : a ≠ t.heap.objs.size := by rw [zt]; exact Nat.ne_of_lt (Nat.lt_succ_of_lt lo)
        have offS : s.heap.objs.size ∉ [t.heap.objs.size, a] := by
          rw [zt]
          intro z
          rcases List.mem_cons.mp z with z | z
          · exact absurd z (Nat.ne_of_lt (Nat.lt_succ_self _))
          · exact absurd (List.mem_singleton.mp z) (Nat.ne_of_gt lo)
        have item : ∀ (i : Nat) (v : Value), items[i]? = some v → ∃ x t, xs[i]? = some x ∧ v = .str x t := fun i v hv => by
          obtain ⟨y, u, e, h⟩ := StrsAre.item ss i v (by rw [Array.getElem?_toList]; exact hv)
          exact ⟨y, u, h, e⟩
        refine fill_loop ((Walks.tuple calm3 _ a ia items).toS) s.heap.objs.size offS xs len few item (items.size - 0) 0 _ (by omega) (Nat.zero_le _) ⟨⟨_, Heap.get?_push_size _ rfl, rfl, rfl⟩, tup1.push _⟩ ?_ fun s' mv hS' => ?_
        · exact holds_new (Heap.get?_push_of_some _ e1)
        · obtain ⟨h', g', d', tk', os'⟩ := s'
          have c1 : g' = t.gens := mv.gens
          have c2 : d' = t.drawn := mv.drawn
          have c3 : os' = t.os := mv.os
          refine wpAny_pure ?_
          show wpAny _ _ (ret Value.none) _ _ _
          refine wpAny_pure ⟨rfl, h', tk', ?_, hS', fun b o e => ?_⟩
          · rw [c1, c2, c3, ← hs1]
          · have b0 : b < s.heap.objs.size := Heap.lt_size e
            refine mv.heap b o (fun z => ?_) (Heap.get?_push_of_some _ (by rw [← hs1]; exact Heap.get?_push_of_some _ e))
            rcases List.mem_cons.mp z with z | z
            · exact absurd z (Nat.ne_of_lt b0)
            · exact absurd ((List.mem_singleton.mp z).trans zt) (Nat.ne_of_lt (Nat.lt_succ_of_lt b0))
      · cases r2 with
        | error e => exact hr2
        | ok f2 =>
          cases f2 with
          | ret v =>
            obtain ⟨rfl, h', tk, rfl, hS', kp⟩ := hr2
            repeat (any_goals (first | assumption | wp_step))
            exact k _ _ hS' kp
          | _ => exact hr2.elim
    | _ => exact hr.elim
end
end Va

set_option Elab.async false
set_option linter.all false
set_option maxRecDepth 100000
set_option maxHeartbeats 4000000
namespace Va
open PySem PySem.Spec PyProof.Rows L2 Ind PySem.Froz
/-! ### a set laid anew finds its places -/
def MOk (m : Nat) : Prop := m = 7 ∨ m = 15 ∨ m = 31
def hop (m : Nat) : Nat → Nat × Nat → Nat × Nat
  | 0, x => x
  | t + 1, x => hop m t (SetTable.leap m x.1 x.2)
theorem hop_add (m : Nat) : ∀ (a b : Nat) (x : Nat × Nat), hop m (a + b) x = hop m b (hop m a x)
  | 0, b, x => by rw [Nat.zero_add]; rfl
  | a + 1, b, x => by
    rw [show a + 1 + b = (a + b) + 1 by omega]
    exact hop_add m a b _
theorem hop_snd (m : Nat) : ∀ (t : Nat) (x : Nat × Nat), (hop m t x).2 = x.2 / 32 ^ t
  | 0, x => by simp [hop]
  | t + 1, x => by
    show (hop m t (SetTable.leap m x.1 x.2)).2 = _
    rw [hop_snd m t]
    show x.2 / 32 / 32 ^ t = _
    rw [Nat.div_div_eq_div_mul, Nat.pow_succ, Nat.mul_comm]
theorem hop_fst {m : Nat} : ∀ (t : Nat) (x : Nat × Nat), x.1 ≤ m → (hop m t x).1 ≤ m
  | 0, x, h => h
  | t + 1, x, h => hop_fst t _ (by
    show (x.1 * 5 + 1 + x.2 / 32) % (m + 1) ≤ m
    exact Nat.le_of_lt_succ (Nat.mod_lt _ (Nat.succ_pos _)))
theorem all15 : ((List.range 16).all fun i => (List.range 16).all fun j => (List.range 16).any fun t => (hop 15 t (i, 0)).1 == j) = true := by decide +kernel
theorem all7 : ((List.range 8).all fun i => (List.range 8).all fun j => (List.range 8).any fun t => (hop 7 t (i, 0)).1 == j) = true := by decide +kernel
theorem all31 : ((List.range 32).all fun i => (List.range 32).all fun j => (List.range 32).any fun t => (hop 31 t (i, 0)).1 == j) = true := by decide +kernel
theorem hop_all {m : Nat} (hm : MOk m) {i j : Nat} (hi : i ≤ m) (hj : j ≤ m) : ∃ t, t ≤ m ∧ (hop m t (i, 0)).1 = j := by
  have key : ∀ n, ((List.range (n + 1)).all fun i => (List.range (n + 1)).all fun j => (List.range (n + 1)).any fun t => (hop n t (i, 0)).1 == j) = true → i ≤ n → j ≤ n → ∃ t, t ≤ n ∧ (hop n t (i, 0)).1 = j := fun n h hi hj => by
    have h := List.all_eq_true.mp h i (List.mem_range.mpr (by omega))
    have h := List.all_eq_true.mp h j (List.mem_range.mpr (by omega))
    obtain ⟨t, ht, e⟩ := List.any_eq_true.mp h
    exact ⟨t, by have := List.mem_range.mp ht; omega, by simpa using e⟩
  rcases hm with rfl | rfl | rfl
  · exact key 7 all7 hi hj
  · exact key 15 all15 hi hj
  · exact key 31 all31 hi hj
theorem hop_meets {m : Nat} (hm : MOk m) {i p j : Nat} (hi : i ≤ m) (hp : p < 2 ^ 64) (hj : j ≤ m) : ∃ t, t < SetTable.turns m ∧ (hop m t (i, p)).1 = j := by
  have e : (hop m 13 (i, p)).2 = 0 := by
    rw [hop_snd]
    exact Nat.div_eq_of_lt (Nat.lt_of_lt_of_le hp (by decide))
  obtain ⟨t, ht, h⟩ := hop_all hm (hop_fst 13 (i, p) hi) hj
  refine ⟨13 + t, by show 13 + t < m + 15; omega, ?_⟩
  rw [hop_add]
  have : hop m 13 (i, p) = ((hop m 13 (i, p)).1, 0) := Prod.ext rfl e
  rw [this]
  exact h
theorem free_some {m : Nat} {ow : Array (Option Nat)} {j : Nat} (hj : ow.getD j (some 0) = none) : ∀ (f i p : Nat), (∃ t, t < f ∧ (hop m t (i, p)).1 = j) → ∃ j', SetTable.layClean.free m ow f i p = some j' ∧ ow.getD j' (some 0) = none
  | 0, i, p, ⟨t, ht, _⟩ => absurd ht (Nat.not_lt_zero _)
  | f + 1, i, p, ⟨t, ht, e⟩ => by
    unfold SetTable.layClean.free
    cases h : (List.range (SetTable.runEnd m i + 1 - i)).find? fun k => (ow.getD (i + k) (some 0)).isNone with
    | some k =>
      refine ⟨i + k, rfl, ?_⟩
      have := List.find?_some h
      simpa using this
    | none =>
      cases t with
      | zero =>
        have e : i = j := e
        subst e
        have := List.find?_eq_none.mp h 0 (List.mem_range.mpr (by unfold SetTable.runEnd; split <;> omega))
        rw [Nat.add_zero, hj] at this
        exact absurd rfl this
      | succ t => exact free_some hj f _ _ ⟨t, by omega, e⟩
structure Own (m k : Nat) (ow : Array (Option Nat)) : Prop where
  sz : ow.size = m + 1
  pm : (ow.toList.filterMap id).Perm (List.range k)
theorem fill_perm {k : Nat} : ∀ {l : List (Option Nat)} {j : Nat}, l[j]? = some none → ((l.set j (some k)).filterMap id).Perm (k :: l.filterMap id)
  | [], j, h => by simp at h
  | x :: l, 0, h => by
    have e : x = none := by simpa using h
    subst e
    exact List.Perm.refl _
  | x :: l, j + 1, h => by
    have q := fill_perm (k := k) (l := l) (j := j) (by simpa using h)
    cases x with
    | none => exact q
    | some y => exact (q.cons y).trans (List.Perm.swap k y _)
theorem some_all : ∀ {l : List (Option Nat)}, (∀ x ∈ l, x ≠ none) → (l.filterMap id).length = l.length
  | [], _ => rfl
  | none :: l, h => absurd rfl (h none List.mem_cons_self)
  | some y :: l, h => congrArg (· + 1) (some_all fun x hx => h x (List.mem_cons_of_mem _ hx))
theorem Own.room {m k : Nat} {ow : Array (Option Nat)} (o : Own m k ow) (hk : k ≤ m) : ∃ j, j ≤ m ∧ ow.getD j (some 0) = none := by
  by_cases h : ∃ x ∈ ow.toList, x = none
  · obtain ⟨x, hx, rfl⟩ := h
    obtain ⟨j, hj⟩ := List.mem_iff_getElem?.mp hx
    have hl := (List.getElem?_eq_some_iff.mp hj).1
    refine ⟨j, by have := o.sz; rw [Array.length_toList] at hl; omega, ?_⟩
    rw [Array.getD_eq_getD_getElem?, ← Array.getElem?_toList, hj]
    rfl
  · have := some_all (l := ow.toList) fun x hx e => h ⟨x, hx, e⟩
    rw [o.pm.length_eq, List.length_range, Array.length_toList, o.sz] at this
    omega
theorem Own.put {m k j : Nat} {ow : Array (Option Nat)} (o : Own m k ow) (hj : ow.getD j (some 0) = none) : Own m (k + 1) (ow.setIfInBounds j (some k)) := by
  have hl : ow.toList[j]? = some none := by
    rw [Array.getD_eq_getD_getElem?] at hj
    rw [Array.getElem?_toList]
    cases h : ow[j]? with
    | none => rw [h] at hj; cases hj
    | some x => rw [h] at hj; cases hj; rfl
  refine ⟨by simp [o.sz], ?_⟩
  rw [Array.toList_setIfInBounds]
  refine (fill_perm hl).trans ((o.pm.cons k).trans ?_)
  rw [List.range_succ]
  exact (List.perm_append_singleton _ _).symm
theorem clean_go {m : Nat} (hm : MOk m) : ∀ (hs : List Int) (k : Nat) (ow : Array (Option Nat)), Own m k ow → k + hs.length ≤ m →
    ∃ ow', hs.foldl (fun (acc : Option (Array (Option Nat) × Nat)) h => do
      let (owner, k) ← acc
      let j ← SetTable.layClean.free m owner (SetTable.turns m) (SetTable.bits h % (m + 1)) (SetTable.bits h)
      pure (owner.setIfInBounds j (some k), k + 1)) (some (ow, k)) = some (ow', k + hs.length) ∧ Own m (k + hs.length) ow'
  | [], k, ow, o, _ => ⟨ow, rfl, o⟩
  | h :: hs, k, ow, o, hk => by
    rw [List.length_cons] at hk
    obtain ⟨j, hj, ej⟩ := o.room (by omega)
    obtain ⟨j', e, ej'⟩ := free_some (m := m) ej (SetTable.turns m) (SetTable.bits h % (m + 1)) (SetTable.bits h) (hop_meets hm (Nat.le_of_lt_succ (Nat.mod_lt _ (Nat.succ_pos _))) (by
      unfold SetTable.bits
      have : h % (2 ^ 64 : Int) < 2 ^ 64 := Int.emod_lt_of_pos _ (by decide)
      omega) hj)
    obtain ⟨ow', e2, o2⟩ := clean_go hm hs (k + 1) _ (o.put ej') (by omega)
    rw [List.length_cons, show k + (hs.length + 1) = k + 1 + hs.length by omega]
    refine ⟨ow', ?_, o2⟩
    rw [List.foldl_cons, ← e2]
    congr 1
    show (do let j ← SetTable.layClean.free m ow (SetTable.turns m) (SetTable.bits h % (m + 1)) (SetTable.bits h); pure (ow.setIfInBounds j (some k), k + 1)) = _
    rw [e]
    rfl
theorem own_new (m : Nat) : Own m 0 (Array.replicate (m + 1) none) := ⟨by simp, by
  have : ∀ n, ((List.replicate n (none : Option Nat)).filterMap id) = [] := fun n => by induction n with | zero => rfl | succ n ih => rw [List.replicate_succ]; exact ih
  rw [Array.toList_replicate, this]
  exact List.Perm.refl _⟩
theorem live_snd (ow : Array (Option Nat)) : ((List.range ow.size).filterMap fun j => (ow.getD j none).map (j, ·)).map (·.2) = ow.toList.filterMap id := by
  rw [List.map_filterMap]
  have e1 : ow.toList = (List.range ow.size).map fun j => ow.getD j none := by
    apply List.ext_getElem?
    intro i
    rw [List.getElem?_map, Array.getElem?_toList]
    by_cases h : i < ow.size
    · rw [List.getElem?_range h]
      simp [Array.getD_eq_getD_getElem?, h]
    · rw [Array.getElem?_eq_none (by omega), List.getElem?_eq_none (by simpa using h)]
      rfl
  rw [e1, List.filterMap_map]
  congr 1
  funext j
  simp only [Function.comp]
  cases ow.getD j none <;> rfl
theorem laid_ok {m fi mo : Nat} {led plain : Bool} {hs : Array Int} (hm : MOk m) (hk : hs.size ≤ m) : ∃ t' order, SetTable.laid m fi mo led plain hs = some (t', order) ∧ t'.mask = m ∧ Ris t'.place.toList ∧ t'.place.size = hs.size ∧ t'.dummies = #[] ∧ t'.led = led ∧ order.toList.Perm (List.range hs.size) := by
  obtain ⟨ow, e, o⟩ := clean_go hm hs.toList 0 _ (own_new m) (by rw [Array.length_toList]; omega)
  rw [Nat.zero_add, Array.length_toList] at e o
  have e1 : SetTable.layClean m hs = some ow := by
    unfold SetTable.layClean
    rw [← Array.foldl_toList, e]
    rfl
  have e2 := live_snd ow
  rw [o.sz] at e2
  unfold SetTable.laid
  rw [e1]
  refine ⟨_, _, rfl, rfl, ?_, ?_, rfl, rfl, ?_⟩
  · exact (ris_live (fun j => ow.getD j none) (List.range (m + 1)) (by unfold Ris; exact List.pairwise_lt_range)).1
  · have := congrArg List.length e2
    rw [List.length_map, o.pm.length_eq, List.length_range] at this
    simpa using this
  · rw [List.toList_toArray, e2]
    exact o.pm
end Va

set_option Elab.async false
set_option linter.all false
set_option maxRecDepth 100000
set_option maxHeartbeats 4000000
namespace Va
open PySem PySem.Spec PyProof.Rows L2 Ind PySem.Froz
/-! ### walking a set of texts within an operation -/
def txV : Value → PySem.Str
  | .str x _ => x
  | _ => default
theorem perm_of_len {α : Type} : ∀ {l m : List α}, l.Nodup → (∀ x ∈ l, x ∈ m) → m.length ≤ l.length → m.Perm l
  | [], m, _, _, h => by
    have : m = [] := List.length_eq_zero_iff.mp (Nat.le_zero.mp h)
    rw [this]
  | x :: l, m, nd, sub, h => by
    obtain ⟨a, b, rfl⟩ := List.append_of_mem (sub x List.mem_cons_self)
    obtain ⟨n1, n2⟩ := List.nodup_cons.mp nd
    have q := perm_of_len (l := l) (m := a ++ b) n2 (fun y hy => by
      rcases List.mem_append.mp (sub y (List.mem_cons_of_mem _ hy)) with z | z
      · exact List.mem_append_left _ z
      · rcases List.mem_cons.mp z with rfl | z
        · exact absurd hy n1
        · exact List.mem_append_right _ z) (by simp at h ⊢; omega)
    exact List.perm_middle.trans (q.cons x)
section
variable {P : Program} {w : World} {A : Around} {E : Value → Shared → Prop} {s : Shared} {D : SD} {l : List PySem.Str}
theorem TSet.ent (F : TSet P w D l) {e : Int × Value} (he : e ∈ D.1.toList) : ∃ k u, e = (hashStr w k, .str k u) ∧ k ∈ l := by
  obtain ⟨⟨k, h1, h2⟩, _⟩ := F.ok.el e he
  obtain ⟨u, h3⟩ := Value.isStrOf_shape h1
  exact ⟨k, u, Prod.ext h2 h3, (F.ok.mem k).mpr ⟨e, he, h1⟩⟩
theorem TSet.keys (F : TSet P w D l) : (D.1.toList.map fun e => txV e.2).Perm l := by
  refine perm_of_len F.nd (fun k hk => ?_) (by rw [List.length_map, Array.length_toList, show D.1.size = l.length from F.ok.sz]; exact Nat.le_refl _)
  obtain ⟨e, he, hek⟩ := (F.ok.mem k).mp hk
  obtain ⟨u, h3⟩ := Value.isStrOf_shape hek
  exact List.mem_map.mpr ⟨e, he, by rw [h3]; rfl⟩
theorem walk_perm {a : Addr} {Q : Array (Int × Value) → Shared → Prop} (ho : s.heap.get? a = some (sObj "set" D)) (F : TSet P w D l) (h : ∀ es' d, es'.toList.Perm D.1.toList → Q es' { s with drawn := d }) : wpAny (model P w) A (setWalk a) Q E s := by
  obtain ⟨es, ep, t⟩ := D
  have hf : t.fits es.size = true := F.ok.fit
  unfold setWalk
  refine wpAny_bind (wpAny_setState_of ho rfl hf ?_)
  dsimp only
  refine wpAny_bind (wpAny_byText ?_)
  cases hb : w.params.followText "set-order" with
  | true =>
    refine wp_if_pos rfl ?_
    exact wpAny_bind (wpAny_askSetting (wpAny_pure (h _ s.drawn (pick_perm _ es))))
  | false =>
    have hl : t.led = true := F.led.resolve_left (by rw [hb]; exact Bool.false_ne_true)
    refine wp_if_neg Bool.false_ne_true ?_
    try refine wpAny_bind (wpAny_pure ?_)
    cases hd : (!t.plain && decide (es.size > 1)) with
    | true =>
      refine wp_if_pos (by exact hd) ?_
      refine wpAny_bind (drawOrder_at _ _ _ _ (Nat.le_refl _) fun ys d pm => wpAny_pure ?_)
      exact h _ d (by rw [List.toList_toArray]; exact pm)
    | false =>
      refine wp_if_neg (by show ¬ ((!t.plain && decide (es.size > 1)) = true); rw [hd]; exact Bool.false_ne_true) ?_
      try refine wpAny_bind (wpAny_pure ?_)
      refine wpAny_bind (wpAny_of_eq (a := ()) ?_ (wpAny_pure (h _ s.drawn (List.Perm.refl _))))
      show (if (!t.led && decide (es.size > 1)) = true then unsupported "set:maker-not-led" else pure ()) = pure ()
      rw [hl]
      rfl
theorem quiet_sets {Q : Bool → Shared → Prop} : ∀ (as : List Addr), (∀ a ∈ as, ∃ D l, s.heap.get? a = some (sObj "set" D) ∧ TSet P w D l) → Q true s → wpAny (model P w) A (setsQuiet as) Q E s := by
  intro as has hq
  unfold setsQuiet
  refine wpAny_bind (wpAny_forIn_list _ (fun rest b s' => b = (none, ()) ∧ s' = s ∧ ∀ a ∈ rest, a ∈ as) _ ?_ ?_ as _ ⟨rfl, rfl, fun _ h => h⟩)
  · rintro a rest b s' ⟨rfl, rfl, hr⟩
    obtain ⟨⟨es, ep, t⟩, l, ho, F⟩ := has a (hr a List.mem_cons_self)
    have hf : t.fits es.size = true := F.ok.fit
    refine wpAny_bind (wpAny_setEntries_of ho rfl hf ?_)
    refine wpAny_bind (MeetsSeq2.wpAny_forIn_array _ (fun rest2 b s2 => b = (none, ()) ∧ s2 = s' ∧ ∀ e ∈ rest2, e ∈ es.toList) _ ?_ ?_ es _ ⟨rfl, rfl, fun _ h => h⟩)
    · rintro e rest2 b s2 ⟨rfl, rfl, hr2⟩
      obtain ⟨k, u, rfl, _⟩ := F.ent (hr2 e List.mem_cons_self)
      exact wpAny_pure ⟨rfl, rfl, fun e he => hr2 e (List.mem_cons_of_mem _ he)⟩
    · rintro b s2 ⟨rfl, rfl, _⟩
      exact wpAny_pure ⟨rfl, rfl, fun e he => hr e (List.mem_cons_of_mem _ he)⟩
  · rintro b s' ⟨rfl, rfl, _⟩
    exact wpAny_pure hq
/-- setWalkUnseen, nothing filled or a set filled -/
theorem unseen_none {a : Addr} {os : List Addr} {Q : Array (Int × Value) → Shared → Prop} (ho : s.heap.get? a = some (sObj "set" D)) (F : TSet P w D l) (hos : ∀ b ∈ os, ∃ D l, s.heap.get? b = some (sObj "set" D) ∧ TSet P w D l)
    (h : ∀ es' d, es'.toList.Perm D.1.toList → Q es' { s with drawn := d }) : wpAny (model P w) A (setWalkUnseen a os none) Q E s := by
  obtain ⟨es, ep, t⟩ := D
  have hf : t.fits es.size = true := F.ok.fit
  unfold setWalkUnseen
  refine wpAny_bind (wpAny_setState_of ho rfl hf ?_)
  dsimp only
  refine wpAny_bind (wpAny_byText ?_)
  split
  · exact walk_perm ho F h
  · refine wpAny_bind (quiet_sets (a :: os) (fun b hb => ?_) ?_)
    · rcases List.mem_cons.mp hb with rfl | hb
      · exact ⟨_, l, ho, F⟩
      · exact hos b hb
    · refine wp_if_neg (by simp) ?_
      refine wpAny_bind (wpAny_rule ?_)
      exact wpAny_pure (h _ s.drawn (List.Perm.refl _))
theorem unseen_some {a f : Addr} {os : List Addr} {Df : SD} {lf : List PySem.Str} {Q : Array (Int × Value) → Shared → Prop} (ho : s.heap.get? a = some (sObj "set" D)) (F : TSet P w D l) (hos : ∀ b ∈ os, ∃ D l, s.heap.get? b = some (sObj "set" D) ∧ TSet P w D l)
    (hof : s.heap.get? f = some (sObj "set" Df)) (Ff : TSet P w Df lf) (few : lf.length < scanBound)
    (h : ∀ es' d h' D', es'.toList.Perm D.1.toList → h'.get? f = some (sObj "set" D') → TSet P w D' lf → Heap.SameBut f s.heap h' → Q es' { s with drawn := d, heap := h' }) : wpAny (model P w) A (setWalkUnseen a os (some f)) Q E s := by
  obtain ⟨es, ep, t⟩ := D
  obtain ⟨es2, ep2, t2⟩ := Df
  have hf : t.fits es.size = true := F.ok.fit
  have hf2 : t2.fits es2.size = true := Ff.ok.fit
  unfold setWalkUnseen
  refine wpAny_bind (wpAny_setState_of ho rfl hf ?_)
  dsimp only
  refine wpAny_bind (wpAny_byText ?_)
  split
  · exact walk_perm ho F fun es' d pm => h es' d s.heap _ pm hof Ff (Heap.SameBut.refl f _)
  · rename_i hc
    have hb : w.params.followText "set-order" = false := by
      cases q : w.params.followText "set-order" with
      | false => rfl
      | true => rw [q] at hc; exact absurd rfl hc
    refine wpAny_bind (quiet_sets (a :: os) (fun b hb => ?_) ?_)
    · rcases List.mem_cons.mp hb with rfl | hb
      · exact ⟨_, l, ho, F⟩
      · exact hos b hb
    · refine wp_if_neg (by simp) ?_
      refine wpAny_bind (wpAny_rule ?_)
      refine wpAny_bind (wpAny_setState_of hof rfl hf2 ?_)
      dsimp only
      have hled : t.led = true := F.led.resolve_left (by rw [hb]; exact Bool.false_ne_true)
      have hled2 : t2.led = true := Ff.led.resolve_left (by rw [hb]; exact Bool.false_ne_true)
      split
      · refine wpAny_bind (wpAny_storeSet_of hof rfl ?_ (fits_of_scanBound (by rw [show es2.size = lf.length from Ff.ok.sz]; exact few)))
        refine wpAny_pure (h es s.drawn _ (es2, ep2 + 1, { t2 with led := t2.led && t.led, plain := t2.plain && t.plain }) (List.Perm.refl _) (Heap.get?_update_self _ hof rfl) ⟨Ff.ok.perm (List.Perm.refl _) hf2, Ff.nd, Ff.ris, .inr (by show (t2.led && t.led) = true; rw [hled, hled2]; rfl), Ff.dum⟩ (Heap.SameBut.update _ f _))
      · exact wpAny_pure (h es s.drawn s.heap _ (List.Perm.refl _) hof Ff (Heap.SameBut.refl f _))
end
end Va

set_option Elab.async false
set_option linter.all false
set_option maxRecDepth 100000
set_option maxHeartbeats 4000000
namespace Va
open PySem PySem.Spec PyProof.Rows L2 Ind PySem.Froz
theorem nodup_leY {α : Type} : ∀ {l m : List α}, l.Nodup → (∀ x ∈ l, x ∈ m) → l.length ≤ m.length
  | [], _, _, _ => Nat.zero_le _
  | x :: l, m, nd, sub => by
    obtain ⟨n1, n2⟩ := List.nodup_cons.mp nd
    obtain ⟨a, b, rfl⟩ := List.append_of_mem (sub x List.mem_cons_self)
    have q := nodup_leY (l := l) (m := a ++ b) n2 fun y hy => by
      rcases List.mem_append.mp (sub y (List.mem_cons_of_mem _ hy)) with z | z
      · exact List.mem_append_left _ z
      · rcases List.mem_cons.mp z with rfl | z
        · exact absurd hy n1
        · exact List.mem_append_right _ z
    simp at q ⊢
    omega
section
variable {P : Program} {w : World} {A : Around} {E : Value → Shared → Prop} {s : Shared} {D : SD} {l : List PySem.Str}
theorem find_txt {a : Addr} {k : PySem.Str} {u : Tok} {Q : Option Nat → Shared → Prop} (ho : s.heap.get? a = some (sObj "set" D)) (F : TSet P w D l) (few : l.length < scanBound) (h : ∀ r : Option Nat, r.isSome = decide (k ∈ l) → Q r s) : wpAny (model P w) A (setFind a (.str k u) (hashStr w k)) Q E s := by
  obtain ⟨es, ep, t⟩ := D
  have hf : t.fits es.size = true := F.ok.fit
  exact PySem.W.setFind_any (knd := strKind P w) (S := fun k => decide (k ∈ l)) (is_str k u) rfl ho rfl F.ok.el (fun k => by rw [decide_eq_true_eq]; exact F.ok.mem k) (by rw [show es.size = l.length from F.ok.sz]; exact few) hf h
theorem unchanged_txt {id : String} {a : Addr} {Q : Unit → Shared → Prop} (ho : s.heap.get? a = some (sObj "set" D)) (F : TSet P w D l) (h : Q () s) : wpAny (model P w) A (Builtin.Frozenset.unchanged id a D.2.1) Q E s := by
  obtain ⟨es, ep, t⟩ := D
  have hf : t.fits es.size = true := F.ok.fit
  unfold Builtin.Frozenset.unchanged
  refine wpAny_bind (wpAny_setEpoch_of ho rfl hf ?_)
  exact wp_if_neg (by simp) (wpAny_pure h)
theorem size_txt {a : Addr} {Q : Nat → Shared → Prop} (ho : s.heap.get? a = some (sObj "set" D)) (F : TSet P w D l) (h : Q l.length s) : wpAny (model P w) A (Builtin.Frozenset.sizeOf a) Q E s := by
  obtain ⟨es, ep, t⟩ := D
  have hf : t.fits es.size = true := F.ok.fit
  unfold Builtin.Frozenset.sizeOf
  refine wpAny_bind (wpAny_setEntries_of ho rfl hf (wpAny_pure ?_))
  rw [show es.size = l.length from F.ok.sz]
  exact h
theorem any_txt {a : Addr} {Q : Bool → Shared → Prop} (ho : s.heap.get? a = some (sObj "set" D)) (h : Q true s) : wpAny (model P w) A (Builtin.Frozenset.isAnySet (.ref a)) Q E s := by
  unfold Builtin.Frozenset.isAnySet orM
  refine wpAny_bind (wpAny_isInstance (T := "set") ⟨_, ho, rfl⟩ sub_set_self ?_)
  exact wpAny_pure h
theorem base_txt {a : Addr} {Q : Value → Shared → Prop} (ho : s.heap.get? a = some (sObj "set" D)) (h : Q (.type "set") s) : wpAny (model P w) A (Builtin.Frozenset.baseOf a) Q E s := by
  unfold Builtin.Frozenset.baseOf
  refine wpAny_bind (wpAny_isInstance (T := "set") ⟨_, ho, rfl⟩ sub_set_self ?_)
  exact wpAny_pure h
theorem addr_txt {a : Addr} {Q : Addr → Shared → Prop} (h : Q a s) : wpAny (model P w) A (Builtin.Frozenset.addrOf (.ref a)) Q E s := by
  unfold Builtin.Frozenset.addrOf
  exact wpAny_pure h
theorem new_txt {Q : Value → Shared → Prop} (h : Q (.ref s.heap.objs.size) { s with heap := s.heap.push (ob0 w) }) : wpAny (model P w) A (newSet (.type "set")) Q E s := PpSet.newSet_ok h
/-- the walk of the first set: what the second one has not is added to the third -/
theorem diff_walk {id : String} {a o r : Addr} {Da Do : SD} {la lo : List PySem.Str} (hra : a ≠ r) (hro : o ≠ r) (Fa : TSet P w Da la) (Fo : TSet P w Do lo) (ba : la.length + 1 < scanBound) (bo : lo.length < scanBound) {es' : Array (Int × Value)} (pm : es'.toList.Perm Da.1.toList)
    {Dr : SD} (ha : s.heap.get? a = some (sObj "set" Da)) (ho : s.heap.get? o = some (sObj "set" Do)) (hr : s.heap.get? r = some (sObj "set" Dr)) (Fr : TSet P w Dr [])
    (f : Int × Value → PUnit → Sem (ForInStep PUnit))
    (hf : ∀ e u, f e u = (do
      holding [e.2] (do
        let q ← setFind o e.2 e.1
        let there ← pure q.isSome
        if (!there) = true then do
          let _ ← setAddHashed r e.2 e.1
          pure ()
        else pure ())
      Builtin.Frozenset.unchanged id a Da.2.1
      pure (ForInStep.yield PUnit.unit)))
    {Q : PUnit → Shared → Prop} (k : ∀ h' D' l', h'.get? r = some (sObj "set" D') → TSet P w D' l' → (∀ x, x ∈ l' ↔ x ∈ la ∧ x ∉ lo) → l'.length ≤ la.length → Heap.SameBut r s.heap h' → Q PUnit.unit { s with heap := h' }) :
    wpAny (model P w) A (forIn es' PUnit.unit f) Q E s := by
  have fin : ∀ h' D' l', h'.get? r = some (sObj "set" D') → TSet P w D' l' → (∀ x, x ∈ l' ↔ x ∈ es'.toList.map (fun e => txV e.2) ∧ x ∉ lo) → Heap.SameBut r s.heap h' → Q PUnit.unit { s with heap := h' } := fun h' D' l' h1 F1 m1 sb => by
    have p2 : (es'.toList.map fun e => txV e.2).Perm la := (pm.map _).trans Fa.keys
    have m2 : ∀ x, x ∈ l' ↔ x ∈ la ∧ x ∉ lo := fun x => by rw [m1, p2.mem_iff]
    exact k h' D' l' h1 F1 m2 (nodup_leY F1.nd fun x hx => ((m2 x).mp hx).1) sb
  refine MeetsSeq2.wpAny_forIn_array f (fun rest b s' => ∃ h' D' l' done, es'.toList = done ++ rest ∧ s' = { s with heap := h' } ∧ h'.get? r = some (sObj "set" D') ∧ TSet P w D' l' ∧ (∀ x, x ∈ l' ↔ x ∈ done.map (fun e => txV e.2) ∧ x ∉ lo) ∧ l'.length ≤ done.length ∧ Heap.SameBut r s.heap h') _ ?_ ?_ es' _ ⟨s.heap, Dr, [], [], rfl, rfl, hr, Fr, fun x => by simp, Nat.le_refl _, Heap.SameBut.refl r _⟩
  · rintro e rest b s' ⟨h', D', l', done, e1, rfl, hr', F', m', ln, sb⟩
    obtain ⟨x, u, rfl, hx⟩ := Fa.ent (pm.mem_iff.mp (by rw [e1]; exact List.mem_append_right _ List.mem_cons_self))
    rw [hf]
    have ha' : h'.get? a = some (sObj "set" Da) := sb.2 a hra ▸ ha
    have ho' : h'.get? o = some (sObj "set" Do) := sb.2 o hro ▸ ho
    have le : done.length ≤ la.length := by
      have := congrArg List.length e1
      rw [List.length_append, pm.length_eq, Array.length_toList, show Da.1.size = la.length from Fa.ok.sz] at this
      omega
    have out : ∀ h2 D2 l2, h2.get? r = some (sObj "set" D2) → TSet P w D2 l2 → (∀ y, y ∈ l2 ↔ (y = x ∧ x ∉ lo) ∨ y ∈ l') → l2.length ≤ l'.length + 1 → Heap.SameBut r h' h2 → ∃ h3 D3 l3 done', es'.toList = done' ++ rest ∧ ({ s with heap := h2 } : Shared) = { s with heap := h3 } ∧ h3.get? r = some (sObj "set" D3) ∧ TSet P w D3 l3 ∧ (∀ x, x ∈ l3 ↔ x ∈ done'.map (fun e => txV e.2) ∧ x ∉ lo) ∧ l3.length ≤ done'.length ∧ Heap.SameBut r s.heap h3 := fun h2 D2 l2 g1 g2 g3 g4 g5 => by
      refine ⟨h2, D2, l2, done ++ [(hashStr w x, .str x u)], by rw [e1]; simp, rfl, g1, g2, fun y => ?_, by rw [List.length_append]; show _ ≤ _ + 1; omega, sb.trans g5⟩
      rw [g3, m', List.map_append, List.mem_append]
      show _ ↔ (_ ∨ y ∈ [x]) ∧ _
      rw [List.mem_singleton]
      constructor
      · rintro (⟨rfl, h⟩ | ⟨h, g⟩)
        · exact ⟨.inr rfl, h⟩
        · exact ⟨.inl h, g⟩
      · rintro ⟨h | rfl, g⟩
        · exact .inr ⟨h, g⟩
        · exact .inl ⟨rfl, g⟩
    have same : ∀ h2, Heap.SameBut r h' h2 → h2.get? a = some (sObj "set" Da) := fun h2 g => (g.2 a hra).trans ha'
    refine wpAny_bind (wpAny_holding ?_)
    refine wpAny_bind (find_txt (s := { s with heap := h' }) ho' Fo bo fun q hq => ?_)
    refine wpAny_bind (wpAny_pure ?_)
    rw [hq]
    by_cases hxo : x ∈ lo
    · rw [decide_eq_true hxo]
      refine wp_if_neg (by simp) (wpAny_pure ?_)
      refine wpAny_bind (unchanged_txt (s := { s with heap := h' }) ha' Fa (wpAny_pure ?_))
      exact out h' D' l' hr' F' (fun y => ⟨.inr, fun z => z.elim (fun z => absurd hxo z.2) fun z => z⟩) (by omega) (Heap.SameBut.refl r _)
    · rw [decide_eq_false hxo]
      refine wp_if_pos rfl ?_
      refine wpAny_bind (tset_add (s := { s with heap := h' }) hr' F' (by omega) fun h2 D2 g1 g2 g3 => wpAny_pure ?_)
      refine wpAny_bind (unchanged_txt (s := { s with heap := h2 }) (same h2 g3) Fa (wpAny_pure ?_))
      exact out h2 D2 _ g1 g2 (fun y => by rw [mem_inS]; exact ⟨fun z => z.imp (fun e => ⟨e, hxo⟩) fun z => z, fun z => z.imp (fun e => e.1) fun z => z⟩) inS_len g3
  · rintro b s' ⟨h', D', l', done, e1, rfl, hr', F', m', ln, sb⟩
    rw [List.append_nil] at e1
    subst e1
    exact fin h' D' l' hr' F' m' sb
end
end Va

set_option Elab.async false
set_option linter.all false
set_option maxRecDepth 100000
set_option maxHeartbeats 4000000
namespace Va
open PySem PySem.Spec PyProof.Rows L2 Ind PySem.Froz
/-- as TSet, where something may have been dropped -/
structure TLoose (P : Program) (w : World) (D : SD) (l : List PySem.Str) : Prop where
  ok : TxOk P w D l
  nd : l.Nodup
  ris : Ris D.2.2.place.toList
  led : w.params.followText "set-order" = true ∨ D.2.2.led = true
section
variable {P : Program} {w : World} {A : Around} {E : Value → Shared → Prop} {s : Shared} {D : SD} {l : List PySem.Str}
theorem TSet.loose (F : TSet P w D l) : TLoose P w D l := ⟨F.ok, F.nd, F.ris, F.led⟩
theorem erase_list {α : Type} (es : Array α) (i : Nat) : (SetTable.eraseAt es i).toList = es.toList.eraseIdx i := by
  unfold SetTable.eraseAt
  rw [Array.toList_append, Array.toList_extract, Array.toList_extract, List.eraseIdx_eq_take_drop_succ, List.extract_eq_take_drop, List.extract_eq_take_drop]
  rw [Nat.sub_zero, List.drop_zero, List.take_of_length_le (l := List.drop (i + 1) es.toList) (by rw [List.length_drop, Array.length_toList]; exact Nat.le_refl _)]
theorem ris_erase {xs : Array Nat} (r : Ris xs.toList) (i : Nat) : Ris (SetTable.eraseAt xs i).toList := by
  rw [erase_list]
  exact List.Pairwise.sublist (List.eraseIdx_sublist _ _) r
theorem insert_size {α : Type} (xs : Array α) (p : Nat) (x : α) : (SetTable.insertAt xs p x).size = xs.size + 1 := by
  rw [← Array.length_toList, SetTable.toList_insertAt, List.length_append, List.length_cons, ← Array.length_toList, List.length_take, List.length_drop]
  omega
theorem erase_size {α : Type} {xs : Array α} {i : Nat} (h : i < xs.size) : (SetTable.eraseAt xs i).size + 1 = xs.size := by
  rw [← Array.length_toList, erase_list, List.length_eraseIdx_of_lt (by rw [Array.length_toList]; exact h), Array.length_toList]
  omega
/-- without k -/
def outS (k : PySem.Str) (l : List PySem.Str) : List PySem.Str := l.filter fun x => decide (x ≠ k)
theorem mem_outS {k x : PySem.Str} {l : List PySem.Str} : x ∈ outS k l ↔ x ∈ l ∧ x ≠ k := by
  unfold outS
  rw [List.mem_filter, decide_eq_true_eq]
theorem outS_len {k : PySem.Str} : ∀ {l : List PySem.Str}, l.Nodup → k ∈ l → (outS k l).length + 1 = l.length
  | [], _, h => by cases h
  | x :: l, nd, h => by
    obtain ⟨n1, n2⟩ := List.nodup_cons.mp nd
    unfold outS
    by_cases e : x = k
    · subst e
      rw [List.filter_cons_of_neg (by simp), List.filter_eq_self.mpr fun y hy => by
        rw [decide_eq_true_eq]
        rintro rfl
        exact n1 hy]
      rfl
    · rw [List.filter_cons_of_pos (by simpa using e)]
      have := outS_len n2 ((List.mem_cons.mp h).resolve_left fun z => e z.symm)
      unfold outS at this
      rw [List.length_cons, List.length_cons, this]
/-- drop of the one at place i -/
theorem TLoose.drop {k : PySem.Str} {u : Tok} {i : Nat} {es : Array (Int × Value)} {ep ep' : Nat} {t : SetTable} (F : TLoose P w (es, ep, t) l) (hi : es[i]? = some (hashStr w k, .str k u)) :
    TLoose P w (SetTable.eraseAt es i, ep', t.drop i) (outS k l) ∧ (t.drop i).mask = t.mask ∧ (t.drop i).dummies.size = t.dummies.size + 1 := by
  obtain ⟨hl, hx⟩ := Array.getElem?_eq_some_iff.mp hi
  have hfit : t.fits es.size = true := F.ok.fit
  have hfit2 : t.place.size = es.size ∧ t.fill ≤ t.mask := by simpa [SetTable.fits] using hfit
  have hp : i < t.place.size := by omega
  have ed : t.drop i = { t with place := SetTable.eraseAt t.place i, dummies := SetTable.insertAt t.dummies (SetTable.below t.dummies t.place[i]) t.place[i] } := by
    unfold SetTable.drop
    rw [Array.getElem?_eq_getElem hp]
  have hk : k ∈ l := (F.ok.mem k).mpr ⟨es[i], Array.getElem_mem_toList hl, by rw [hx]; exact is_str k u⟩
  have len := outS_len F.nd hk
  have sz : es.size = l.length := F.ok.sz
  have pm : (es[i] :: es.toList.eraseIdx i).Perm es.toList := erase_perm _ _ _ (by rw [Array.getElem?_toList]; exact Array.getElem?_eq_getElem hl)
  have el : ∀ e ∈ es.toList, _ := F.ok.el
  -- no other has the key
  have other : ∀ e ∈ es.toList.eraseIdx i, (strKind P w).is k e.2 = false := fun e he => by
    cases q : (strKind P w).is k e.2 with
    | false => rfl
    | true =>
      exfalso
      obtain ⟨u2, e2⟩ := Value.isStrOf_shape q
      have F2 : (es.toList.map fun e => txV e.2).Perm l := perm_of_len F.nd (fun k hk => by
        obtain ⟨e, he, hek⟩ := (F.ok.mem k).mp hk
        obtain ⟨u, h3⟩ := Value.isStrOf_shape hek
        exact List.mem_map.mpr ⟨e, he, by rw [h3]; rfl⟩) (by rw [List.length_map, Array.length_toList, sz]; exact Nat.le_refl _)
      have nd2 := (((pm.map fun e => txV e.2).trans F2).nodup_iff).mpr F.nd
      rw [List.map_cons, hx] at nd2
      exact (List.nodup_cons.mp nd2).1 (List.mem_map.mpr ⟨e, he, by rw [e2]; rfl⟩)
  refine ⟨⟨⟨fun e he => ?_, fun x => ?_, ?_, ?_⟩, F.nd.filter _, ?_, ?_⟩, ?_, ?_⟩
  · have he : e ∈ (SetTable.eraseAt es i).toList := he
    rw [erase_list] at he
    exact el e (pm.mem_iff.mp (List.mem_cons_of_mem _ he))
  · show _ ↔ ∃ e ∈ (SetTable.eraseAt es i).toList, _
    rw [mem_outS, F.ok.mem x, erase_list]
    constructor
    · rintro ⟨⟨e, he, hek⟩, ne⟩
      refine ⟨e, (List.mem_cons.mp (pm.mem_iff.mpr he)).resolve_left fun z => ne ?_, hek⟩
      rw [z, hx] at hek
      exact (strKind P w).inj (.str k u) x k hek (is_str k u)
    · rintro ⟨e, he, hek⟩
      refine ⟨⟨e, pm.mem_iff.mp (List.mem_cons_of_mem _ he), hek⟩, fun z => ?_⟩
      rw [z, other e he] at hek
      cases hek
  · show (SetTable.eraseAt es i).size = _
    have := erase_size hl
    omega
  · show (t.drop i).fits (SetTable.eraseAt es i).size = true
    have a1 := erase_size hl
    have a2 := erase_size hp
    have a3 : t.place.size + t.dummies.size ≤ t.mask := hfit2.2
    rw [ed]
    simp only [SetTable.fits, SetTable.fill, insert_size, Bool.and_eq_true, beq_iff_eq, decide_eq_true_eq]
    omega
  · show Ris (t.drop i).place.toList
    rw [ed]
    exact ris_erase F.ris i
  · show _ ∨ (t.drop i).led = true
    rw [ed]
    exact F.led
  · rw [ed]
  · rw [ed]
    exact insert_size _ _ _
/-- where a text stands -/
theorem find_at {a : Addr} {k : PySem.Str} {u : Tok} {Q : Option Nat → Shared → Prop} (ho : s.heap.get? a = some (sObj "set" D)) (F : TLoose P w D l) (few : l.length < scanBound) (h0 : k ∉ l → Q none s) (h1 : ∀ i u', k ∈ l → D.1[i]? = some (hashStr w k, .str k u') → Q (some i) s) : wpAny (model P w) A (setFind a (.str k u) (hashStr w k)) Q E s := by
  obtain ⟨es, ep, t⟩ := D
  have hf : t.fits es.size = true := F.ok.fit
  have hel : ElemsOf (strKind P w) es.toList := F.ok.el
  have hsz : es.size < scanBound := by rw [show es.size = l.length from F.ok.sz]; exact few
  unfold setFind setFindIn
  refine wpAny_bind (wpAny_setState_of ho rfl hf ?_)
  dsimp only
  rw [byScan_of (x := Value.str k u) rfl hsz hel, if_pos rfl]
  refine wpAny_bind (wpAny_rule (wpAny_bind ?_))
  refine wpAny_setScan_of (knd := strKind P w) (k := k) (is_str k u) ho rfl hf hel ?_
  cases hr : List.findIdx? (fun e => (strKind P w).is k e.2) es.toList with
  | none =>
    refine wpAny_pure (h0 fun hk => ?_)
    obtain ⟨e, he, hek⟩ := (F.ok.mem k).mp hk
    have := List.findIdx?_eq_none_iff.mp hr e he
    rw [hek] at this
    cases this
  | some j =>
    obtain ⟨hj, pj, _⟩ := List.findIdx?_eq_some_iff_getElem.mp hr
    obtain ⟨⟨k2, h3, h4⟩, _⟩ := hel _ (List.getElem_mem hj)
    obtain ⟨u', h5⟩ := Value.isStrOf_shape pj
    have e2 : k2 = k := (strKind P w).inj _ k2 k h3 pj
    subst e2
    refine wpAny_pure (h1 (0 + j) u' ((F.ok.mem k2).mpr ⟨_, List.getElem_mem hj, pj⟩) ?_)
    show es[0 + j]? = _
    rw [Nat.zero_add, ← Array.getElem?_toList, List.getElem?_eq_getElem hj]
    exact congrArg some (Prod.ext h4 h5)
/-- set.discard, hashed -/
theorem discard_txt {a : Addr} {k : PySem.Str} {u : Tok} {Q : Bool → Shared → Prop} (ho : s.heap.get? a = some (sObj "set" D)) (F : TLoose P w D l) (few : l.length < scanBound)
    (h0 : k ∉ l → Q false s) (h1 : k ∈ l → ∀ h' D', h'.get? a = some (sObj "set" D') → TLoose P w D' (outS k l) → D'.2.2.mask = D.2.2.mask → D'.2.2.dummies.size = D.2.2.dummies.size + 1 → Heap.SameBut a s.heap h' → Q true { s with heap := h' }) :
    wpAny (model P w) A (setDiscardHashed a (.str k u) (hashStr w k)) Q E s := by
  unfold setDiscardHashed
  refine wpAny_bind (find_at ho F few (fun n => wpAny_pure (h0 n)) fun i u' hk hi => ?_)
  obtain ⟨es, ep, t⟩ := D
  have hf : t.fits es.size = true := F.ok.fit
  have hi : es[i]? = some (hashStr w k, .str k u') := hi
  obtain ⟨d1, d2, d3⟩ := F.drop (ep' := ep + 1) hi
  dsimp only
  refine wpAny_bind (wpAny_setState_of ho rfl hf ?_)
  dsimp only
  refine wpAny_bind (wpAny_storeSet_of ho rfl ?_ (fits_of_scanBound ?_))
  · refine wpAny_bind (wpAny_point (wpAny_pure ?_))
    exact h1 hk _ _ (Heap.get?_update_self _ ho rfl) d1 d2 d3 (Heap.SameBut.update _ a _)
  · have a1 := erase_size (Array.getElem?_eq_some_iff.mp hi).1
    have a2 : es.size = l.length := F.ok.sz
    omega
end
end Va

set_option Elab.async false
set_option linter.all false
set_option maxRecDepth 100000
set_option maxHeartbeats 4000000
namespace Va
open PySem PySem.Spec PyProof.Rows L2 Ind PySem.Froz
theorem filter_range {α : Type} (es : Array α) : (List.range es.size).filterMap (fun i => es[i]?) = es.toList := by
  have e1 : es.toList = (List.range es.size).filterMap (fun i => es.toList[i]?) := by
    have key : ∀ l : List α, l = (List.range l.length).filterMap fun i => l[i]? := fun l => by
      induction l with
      | nil => rfl
      | cons x l ih =>
        rw [List.length_cons, List.range_succ_eq_map, List.filterMap_cons_some (by rfl), List.filterMap_map]
        exact congrArg (x :: ·) ih
    have := key es.toList
    rwa [Array.length_toList] at this
  rw [e1]
  congr 1
  funext i
  rw [Array.getElem?_toList]
theorem order_perm {α : Type} {es : Array α} {o : Array Nat} (h : o.toList.Perm (List.range es.size)) : (o.filterMap fun i => es[i]?).toList.Perm es.toList := by
  rw [Array.toList_filterMap, ← filter_range es]
  exact h.filterMap _
theorem above_ok : ∀ n, n < 16 → 5 ≤ n → MOk (SetTable.sizeAbove (n * 2) - 1) ∧ n ≤ SetTable.sizeAbove (n * 2) - 1 ∧ ¬ SetTable.sizeAbove (n * 2) > 100 := by
  have key : ((List.range 16).all fun n => decide (5 ≤ n → (SetTable.sizeAbove (n * 2) - 1 = 7 ∨ SetTable.sizeAbove (n * 2) - 1 = 15 ∨ SetTable.sizeAbove (n * 2) - 1 = 31) ∧ n ≤ SetTable.sizeAbove (n * 2) - 1 ∧ ¬ SetTable.sizeAbove (n * 2) > 100)) = true := by decide +kernel
  intro n hn h5
  have := List.all_eq_true.mp key n (List.mem_range.mpr hn)
  exact of_decide_eq_true this h5
section
variable {P : Program} {w : World} {A : Around} {E : Value → Shared → Prop} {s : Shared} {D : SD} {l : List PySem.Str}
/-- a set with nothing in it, of some size -/
structure Bare (w : World) (m : Nat) (D : SD) : Prop where
  es : D.1 = #[]
  pl : D.2.2.place = #[]
  du : D.2.2.dummies = #[]
  ma : D.2.2.mask = m
  le : D.2.2.led = !w.params.followText "set-order"
theorem Bare.fits {m : Nat} (b : Bare w m D) : D.2.2.fits D.1.size = true := by
  unfold SetTable.fits SetTable.fill
  rw [b.es, b.pl, b.du]
  simp
theorem room_txt {r n : Nat} {Q : Unit → Shared → Prop} (hr : s.heap.get? r = some (ob0 w)) (hn : n < 16) (k : ∀ h' D' m, h'.get? r = some (sObj "set" D') → Bare w m D' → MOk m → n ≤ m → Heap.SameBut r s.heap h' → Q () { s with heap := h' }) :
    wpAny (model P w) A (setRoomFor r n) Q E s := by
  unfold setRoomFor
  have hf : (SetTable.fresh 0 0 (!w.params.followText "set-order")).fits (#[] : Array (Int × Value)).size = true := rfl
  refine wpAny_bind (wpAny_setState_of hr rfl hf ?_)
  by_cases h5 : 5 ≤ n
  · have e : (SetTable.fresh 0 0 (!w.params.followText "set-order")).roomFor n = some (n * 2) := by
      show (if (0 + n) * 5 ≥ 7 * 3 then some ((0 + n) * 2) else none) = _
      rw [if_pos (by omega), Nat.zero_add]
    dsimp only
    rw [e]
    dsimp only
    obtain ⟨m1, m2, m3⟩ := above_ok n hn h5
    unfold setRelay
    refine wpAny_bind (wpAny_setState_of hr rfl hf ?_)
    dsimp only
    refine wp_if_neg (by rw [sizeLine_eq]; omega) ?_
    obtain ⟨t', od, e1, e2, e3, e4, e5, e6, e7⟩ := laid_ok (fi := 0) (mo := (SetTable.fresh 0 0 (!w.params.followText "set-order")).movedTo (SetTable.sizeAbove (n * 2) - 1)) (led := !w.params.followText "set-order") (plain := true) (hs := (#[] : Array Int)) m1 (Nat.zero_le _)
    have e8 : (SetTable.fresh 0 0 (!w.params.followText "set-order")).relaid ((#[] : Array (Int × Value)).map (·.1)) (n * 2) = some (t', od) := by
      rw [show (#[] : Array (Int × Value)).map (·.1) = #[] by simp]
      exact e1
    rw [e8]
    have hod : od = #[] := by
      have := e7.length_eq
      simp at this
      exact this
    subst hod
    refine wpAny_bind (wpAny_of_eq (a := (#[], t')) rfl ?_)
    refine wpAny_storeSet_of hr rfl ?_ (Nat.zero_le _)
    refine k _ (#[], 1, t') _ (Heap.get?_update_self _ hr rfl) ⟨rfl, ?_, e5, e2, e6⟩ m1 m2 (Heap.SameBut.update _ r _)
    exact Array.size_eq_zero_iff.mp (by rw [e4]; rfl)
  · have e : (SetTable.fresh 0 0 (!w.params.followText "set-order")).roomFor n = none := by
      show (if (0 + n) * 5 ≥ 7 * 3 then some ((0 + n) * 2) else none) = _
      rw [if_neg (by omega)]
    dsimp only
    rw [e]
    exact wpAny_pure (k s.heap _ 7 hr ⟨rfl, rfl, rfl, rfl, rfl⟩ (.inl rfl) (by omega) (Heap.SameBut.refl r _))
/-- a copy -/
theorem merge_txt {r a : Addr} {Q : Unit → Shared → Prop} (hra : r ≠ a) (hr : s.heap.get? r = some (ob0 w)) (ha : s.heap.get? a = some (sObj "set" D)) (F : TSet P w D l) (few : l.length < 16)
    (k : ∀ h' D', h'.get? r = some (sObj "set" D') → TSet P w D' l → Heap.SameBut r s.heap h' → Q () { s with heap := h' }) : wpAny (model P w) A (setMerge r a) Q E s := by
  obtain ⟨es, ep, t⟩ := D
  have hf : t.fits es.size = true := F.ok.fit
  have sz : es.size = l.length := F.ok.sz
  have hf2 : t.place.size = es.size ∧ t.fill ≤ t.mask := by simpa [SetTable.fits] using hf
  unfold setMerge
  refine wp_if_neg (by simpa using hra) ?_
  refine wpAny_bind (wpAny_setState_of ha rfl hf ?_)
  dsimp only
  by_cases he : es.isEmpty = true
  · refine wp_if_pos he (wpAny_pure ?_)
    have e0 : es = #[] := by simpa using he
    subst e0
    have l0 : l = [] := List.length_eq_zero_iff.mp (by rw [← sz]; rfl)
    subst l0
    exact k s.heap _ hr (TSet.new w 0 0 0) (Heap.SameBut.refl r _)
  · refine wp_if_neg he ?_
    refine wpAny_bind (room_txt hr (by rw [sz]; exact few) fun h1 D1 m g1 g2 g3 g4 g5 => ?_)
    have hf1 := g2.fits
    obtain ⟨es1, ep1, t1⟩ := D1
    have g2e : es1 = #[] := g2.es
    have ha1 : h1.get? a = some (sObj "set" (es, ep, t)) := (g5.2 a (Ne.symm hra)).trans ha
    refine wpAny_bind (wpAny_setState_of (s := { s with heap := h1 }) g1 rfl hf1 ?_)
    dsimp only
    have fill0 : t1.fill = 0 := by
      unfold SetTable.fill
      rw [show t1.place = #[] from g2.pl, show t1.dummies = #[] from g2.du]
      rfl
    have led1 : t1.led = !w.params.followText "set-order" := g2.le
    have ledC : ∀ b : Bool, w.params.followText "set-order" = true ∨ (t1.led && t.led) = true := fun _ => by
      rcases F.led with z | z
      · exact .inl z
      · cases q : w.params.followText "set-order" with
        | true => exact .inl rfl
        | false => right; rw [led1, q]; simpa using z
    by_cases hc : (t1.mask == t.mask && t.dummies.isEmpty) = true
    · have e : t1.road t = .slotForSlot := by
        unfold SetTable.road
        rw [fill0, if_neg (by simp), if_pos hc]
      rw [e]
      refine wpAny_storeSet_of (s := { s with heap := h1 }) g1 rfl ?_ (fits_of_scanBound (by rw [sz]; exact Nat.lt_of_lt_of_le few (by decide)))
      exact k _ (es, ep1 + 1, _) (Heap.get?_update_self _ g1 rfl) ⟨F.ok.perm (List.Perm.refl _) hf, F.nd, F.ris, ledC true, F.dum⟩ (g5.trans (Heap.SameBut.update _ r _))
    · have e : t1.road t = .clean := by
        unfold SetTable.road
        rw [fill0, if_neg (by simp), if_neg hc]
      rw [e]
      dsimp only
      obtain ⟨t', od, e1, e2, e3, e4, e5, e6, e7⟩ := laid_ok (m := m) (fi := t1.finger) (mo := t1.moves) (led := t1.led && t.led) (plain := t1.plain && t.plain) (hs := es.map (·.1)) g3 (by rw [Array.size_map]; exact g4)
      rw [show t1.mask = m from g2.ma, e1]
      rw [Array.size_map] at e4 e7
      have pm := order_perm (es := es) e7
      have s2 : (od.filterMap fun i => es[i]?).size = es.size := by rw [← Array.length_toList, pm.length_eq, Array.length_toList]
      refine wpAny_bind (wpAny_of_eq (a := (od.filterMap fun i => es[i]?, t')) ?_ ?_)
      · show (if ((od.filterMap fun i => es[i]?).size != es.size) = true then (unsupported "internal:set-table-lost-an-element" >>= fun _ => pure (od.filterMap fun i => es[i]?, t')) else pure (od.filterMap fun i => es[i]?, t')) = pure _
        rw [s2, if_neg (by simp)]
      · dsimp only
        refine wpAny_storeSet_of (s := { s with heap := h1 }) g1 rfl ?_ (fits_of_scanBound (by rw [s2, sz]; exact Nat.lt_of_lt_of_le few (by decide)))
        have hf3 : t'.fits (od.filterMap fun i => es[i]?).size = true := by
          simp only [SetTable.fits, SetTable.fill, e4, e5, e2, s2, Bool.and_eq_true, beq_iff_eq, decide_eq_true_eq, List.size_toArray, List.length_nil]
          exact ⟨trivial, by omega⟩
        exact k _ (_, ep1 + 1, t') (Heap.get?_update_self _ g1 rfl) ⟨F.ok.perm pm hf3, F.nd, e3, by show _ ∨ t'.led = true; rw [e6]; exact ledC true, e5⟩ (g5.trans (Heap.SameBut.update _ r _))
end
end Va

set_option Elab.async false
set_option linter.all false
set_option maxRecDepth 100000
set_option maxHeartbeats 4000000
namespace Va
open PySem PySem.Spec PyProof.Rows L2 Ind PySem.Froz
section
variable {P : Program} {w : World} {A : Around} {E : Value → Shared → Prop} {s : Shared} {D : SD} {l : List PySem.Str}
theorem copy_txt {a : Addr} {Q : Value → Shared → Prop} (ha : s.heap.get? a = some (sObj "set" D)) (F : TSet P w D l) (few : l.length < 16)
    (k : ∀ h' D', h'.get? s.heap.objs.size = some (sObj "set" D') → TSet P w D' l → (∀ b o, s.heap.get? b = some o → h'.get? b = some o) → Q (.ref s.heap.objs.size) { s with heap := h' }) : wpAny (model P w) A (Builtin.Frozenset.copyOf a) Q E s := by
  unfold Builtin.Frozenset.copyOf
  refine wpAny_bind (base_txt ha ?_)
  refine wpAny_bind (new_txt ?_)
  refine wpAny_bind (addr_txt ?_)
  have ne : s.heap.objs.size ≠ a := Nat.ne_of_gt (Heap.lt_size ha)
  refine wpAny_bind (merge_txt (s := { s with heap := s.heap.push (ob0 w) }) ne (Heap.get?_push_size _ rfl) (Heap.get?_push_of_some _ ha) F few fun h' D' g1 g2 g3 => wpAny_pure ?_)
  exact k h' D' g1 g2 fun b o e => (g3.2 b (Nat.ne_of_lt (Heap.lt_size e))).trans (Heap.get?_push_of_some _ e)
/-- the walk of the second set: what it has is dropped from the third -/
theorem drop_walk {id : String} {o r : Addr} {Do D0 : SD} {la lo : List PySem.Str} (hro : o ≠ r) (Fo : TSet P w Do lo) (bl : la.length < scanBound) {es' : Array (Int × Value)} (pm : es'.toList.Perm Do.1.toList)
    (ho : s.heap.get? o = some (sObj "set" Do)) (hr : s.heap.get? r = some (sObj "set" D0)) (Fr : TSet P w D0 la)
    (f : Int × Value → PUnit → Sem (ForInStep PUnit))
    (hf : ∀ e u, f e u = (do
      let _ ← holding [e.2] (setDiscardHashed r e.2 e.1)
      Builtin.Frozenset.unchanged id o Do.2.1
      pure (ForInStep.yield PUnit.unit)))
    {Q : PUnit → Shared → Prop} (k : ∀ h' D' l', h'.get? r = some (sObj "set" D') → TLoose P w D' l' → (∀ x, x ∈ l' ↔ x ∈ la ∧ x ∉ lo) → D'.2.2.mask = D0.2.2.mask → D'.2.2.dummies.size ≤ lo.length → l'.length ≤ la.length → Heap.SameBut r s.heap h' → Q PUnit.unit { s with heap := h' }) :
    wpAny (model P w) A (forIn es' PUnit.unit f) Q E s := by
  have p2 : (es'.toList.map fun e => txV e.2).Perm lo := (pm.map _).trans Fo.keys
  refine MeetsSeq2.wpAny_forIn_array f (fun rest b s' => ∃ h' D' l' done, es'.toList = done ++ rest ∧ s' = { s with heap := h' } ∧ h'.get? r = some (sObj "set" D') ∧ TLoose P w D' l' ∧ (∀ x, x ∈ l' ↔ x ∈ la ∧ x ∉ done.map fun e => txV e.2) ∧ D'.2.2.mask = D0.2.2.mask ∧ D'.2.2.dummies.size ≤ done.length ∧ l'.length ≤ la.length ∧ Heap.SameBut r s.heap h') _ ?_ ?_ es' _ ⟨s.heap, D0, la, [], rfl, rfl, hr, Fr.loose, fun x => by simp, rfl, by rw [Fr.dum]; exact Nat.le_refl _, Nat.le_refl _, Heap.SameBut.refl r _⟩
  · rintro e rest b s' ⟨h', D', l', done, e1, rfl, hr', F', m', mk, dm, ln, sb⟩
    obtain ⟨x, u, rfl, hx⟩ := Fo.ent (pm.mem_iff.mp (by rw [e1]; exact List.mem_append_right _ List.mem_cons_self))
    rw [hf]
    have ho' : h'.get? o = some (sObj "set" Do) := (sb.2 o hro).trans ho
    have e2 : es'.toList = (done ++ [(hashStr w x, .str x u)]) ++ rest := by rw [e1]; simp
    have mm : ∀ y, y ∈ (done ++ [((hashStr w x, .str x u) : Int × Value)]).map (fun e => txV e.2) ↔ y ∈ done.map (fun e => txV e.2) ∨ y = x := fun y => by
      rw [List.map_append, List.mem_append]
      show (_ ∨ y ∈ [x]) ↔ _
      rw [List.mem_singleton]
    refine wpAny_bind (wpAny_holding (discard_txt (s := { s with heap := h' }) hr' F' (by omega) (fun hn => ?_) fun hk h2 D2 g1 g2 g3 g4 g5 => ?_))
    · refine wpAny_bind (unchanged_txt (s := { s with heap := h' }) ho' Fo (wpAny_pure ?_))
      refine ⟨h', D', l', _, e2, rfl, hr', F', fun y => ?_, mk, by rw [List.length_append]; omega, ln, sb⟩
      rw [mm, m' y]
      constructor
      · rintro ⟨a1, a2⟩
        exact ⟨a1, fun z => z.elim a2 fun z => hn (z ▸ (m' y).mpr ⟨a1, a2⟩)⟩
      · rintro ⟨a1, a2⟩
        exact ⟨a1, fun z => a2 (.inl z)⟩
    · refine wpAny_bind (unchanged_txt (s := { s with heap := h2 }) ((g5.2 o hro).trans ho') Fo (wpAny_pure ?_))
      refine ⟨h2, D2, _, _, e2, rfl, g1, g2, fun y => ?_, g3.trans mk, by rw [List.length_append]; show _ ≤ _ + 1; omega, ?_, sb.trans g5⟩
      · rw [mem_outS, m' y, mm]
        constructor
        · rintro ⟨⟨a1, a2⟩, a3⟩
          exact ⟨a1, fun z => z.elim a2 a3⟩
        · rintro ⟨a1, a2⟩
          exact ⟨⟨a1, fun z => a2 (.inl z)⟩, fun z => a2 (.inr z)⟩
      · have := outS_len F'.nd hk
        omega
  · rintro b s' ⟨h', D', l', done, e1, rfl, hr', F', m', mk, dm, ln, sb⟩
    rw [List.append_nil] at e1
    subst e1
    refine k h' D' l' hr' F' (fun x => by rw [m', p2.mem_iff]) mk ?_ ln sb
    have := p2.length_eq
    rw [List.length_map] at this
    omega
/-- the difference of two sets of texts -/
theorem diff_txt {id : String} {a o : Addr} {Da Do : SD} {la lo : List PySem.Str} {Q : Value → Shared → Prop} (ne : a ≠ o) (ha : s.heap.get? a = some (sObj "set" Da)) (ho : s.heap.get? o = some (sObj "set" Do)) (Fa : TSet P w Da la) (Fo : TSet P w Do lo) (few : la.length < 16) (bo : lo.length + 1 < scanBound)
    (k : ∀ h' d D' l', h'.get? s.heap.objs.size = some (sObj "set" D') → TLoose P w D' l' → (∀ x, x ∈ l' ↔ x ∈ la ∧ x ∉ lo) → l'.length ≤ la.length → (∀ b o, s.heap.get? b = some o → h'.get? b = some o) → Q (.ref s.heap.objs.size) { s with heap := h', drawn := d }) :
    wpAny (model P w) A (Builtin.Frozenset.difference id a (.ref o)) Q E s := by
  have few2 : la.length + 1 < scanBound := Nat.lt_of_lt_of_le (Nat.succ_lt_succ few) (by decide)
  have nr : s.heap.objs.size ≠ a := Nat.ne_of_gt (Heap.lt_size ha)
  have nro : o ≠ s.heap.objs.size := Nat.ne_of_lt (Heap.lt_size ho)
  unfold Builtin.Frozenset.difference
  dsimp only
  refine wpAny_bind (any_txt ho ?_)
  refine wp_if_neg (by simp) ?_
  refine wpAny_bind (addr_txt ?_)
  refine wp_if_neg (by simp) ?_
  refine wp_if_pos rfl ?_
  refine wpAny_bind (size_txt ho Fo ?_)
  refine wpAny_bind (size_txt ha Fa ?_)
  by_cases hc : la.length / 4 > lo.length
  · refine wp_if_pos hc ?_
    refine wpAny_bind (wpAny_rule ?_)
    refine wpAny_bind (copy_txt ha Fa few fun h1 D1 g1 g2 g3 => ?_)
    refine wpAny_bind (addr_txt ?_)
    have ho1 := g3 o _ ho
    have hf1 := g2.ok.fit
    refine wpAny_bind (wpAny_holding ?_)
    unfold Builtin.Frozenset.differenceUpdate
    refine wp_if_neg (by simpa using nro) ?_
    refine wpAny_bind (any_txt (s := { s with heap := h1 }) ho1 ?_)
    dsimp only
    refine wp_if_pos rfl ?_
    refine wpAny_bind (addr_txt ?_)
    refine wpAny_bind (size_txt (s := { s with heap := h1 }) ho1 Fo ?_)
    refine wpAny_bind (size_txt (s := { s with heap := h1 }) g1 g2 ?_)
    refine wp_if_neg (by omega) ?_
    refine wpAny_bind (wpAny_setEpoch_of (s := { s with heap := h1 }) ho1 rfl Fo.ok.fit ?_)
    refine wpAny_bind (wpAny_holding ?_)
    refine wpAny_bind (unseen_none (s := { s with heap := h1 }) ho1 Fo (fun b hb => ?_) fun es' d pm => ?_)
    · rw [List.mem_singleton.mp hb]
      exact ⟨_, _, g1, g2⟩
    · refine wpAny_bind (drop_walk (s := { s with heap := h1, drawn := d }) (id := id) nro Fo (by omega) pm ho1 g1 g2 _ (fun e u => rfl) fun h2 D2 l2 q1 q2 q3 q4 q5 q6 q7 => wpAny_pure ?_)
      have hf2 := q2.ok.fit
      have fit1 : D1.2.2.place.size = D1.1.size ∧ D1.2.2.fill ≤ D1.2.2.mask := by simpa [SetTable.fits] using hf1
      unfold setTidy
      refine wpAny_bind (wpAny_setState_of (s := { s with heap := h2, drawn := d }) q1 rfl hf2 ?_)
      dsimp only
      refine wp_if_neg ?_ (wpAny_pure (wpAny_pure ?_))
      · unfold SetTable.tooManyDummies
        have a1 : la.length ≤ D1.2.2.mask := by
          have := fit1.2
          unfold SetTable.fill at this
          have a2 : D1.1.size = la.length := g2.ok.sz
          omega
        simp only [gt_iff_lt, decide_eq_true_eq]
        rw [q4]
        omega
      · exact k h2 d D2 l2 q1 q2 q3 q6 fun b u e => (q7.2 b (Nat.ne_of_lt (Heap.lt_size e))).trans (g3 b u e)
  · refine wp_if_neg hc ?_
    refine wpAny_bind (base_txt ha ?_)
    refine wpAny_bind (new_txt ?_)
    have kp : ∀ b u, s.heap.get? b = some u → (s.heap.push (ob0 w)).get? b = some u := fun b u e => Heap.get?_push_of_some _ e
    refine wpAny_bind (addr_txt ?_)
    refine wpAny_bind (wpAny_setEpoch_of (s := { s with heap := s.heap.push (ob0 w) }) (kp a _ ha) rfl Fa.ok.fit ?_)
    refine wpAny_bind (wpAny_holding ?_)
    refine wpAny_bind (wp_if_pos rfl (unseen_some (s := { s with heap := s.heap.push (ob0 w) }) (f := s.heap.objs.size) (kp a _ ha) Fa (fun b hb => ?_) (Heap.get?_push_size _ rfl) (TSet.new w 0 0 0) (by decide) fun es' d h1 D1 pm g1 g2 g3 => ?_))
    · rcases List.mem_cons.mp hb with rfl | hb
      · exact ⟨_, _, kp b _ ho, Fo⟩
      · rw [List.mem_singleton.mp hb]
        exact ⟨_, _, Heap.get?_push_size _ rfl, TSet.new w 0 0 0⟩
    · refine wpAny_bind (diff_walk (s := { s with drawn := d, heap := h1 }) (id := id) (Ne.symm nr) nro Fa Fo few2 (by omega) pm ((g3.2 a (Ne.symm nr)).trans (kp a _ ha)) ((g3.2 o nro).trans (kp o _ ho)) g1 g2 _ (fun e u => rfl) fun h2 D2 l2 q1 q2 q3 q4 q5 => wpAny_pure (wpAny_pure ?_))
      exact k h2 d D2 l2 q1 q2.loose q3 q4 fun b u e => (q5.2 b (Nat.ne_of_lt (Heap.lt_size e))).trans ((g3.2 b (Nat.ne_of_lt (Heap.lt_size e))).trans (kp b u e))
end
end Va

set_option Elab.async false
set_option linter.all false
set_option maxRecDepth 100000
set_option maxHeartbeats 4000000
namespace Va
open PySem PySem.Spec PyProof.Rows L2 Ind PySem.Froz
/-! ### sets of texts as tracked things -/
def SetS (P : Program) (w : World) (a : Addr) (xs : List PySem.Str) : HO := .ext fun h => Holds P w h a xs
/-- what is left of a set -/
def HoldsL (P : Program) (w : World) (h : Heap) (S : Addr) (xs : List PySem.Str) : Prop := ∃ D l, h.get? S = some (sObj "set" D) ∧ TLoose P w D l ∧ (∀ k, k ∈ l ↔ k ∈ xs) ∧ l.length < 1000
def SetL (P : Program) (w : World) (a : Addr) (xs : List PySem.Str) : HO := .ext fun h => HoldsL P w h a xs
theorem HoldsL.at {P : Program} {w : World} {h h' : Heap} {S : Addr} {xs : List PySem.Str} (q : HoldsL P w h S xs) (k : ∀ o, h.get? S = some o → h'.get? S = some o) : HoldsL P w h' S xs := by
  obtain ⟨D, l, e, r⟩ := q
  exact ⟨D, l, k _ e, r⟩
theorem setS_ok {P : Program} {w : World} {H : Hp} {h : Heap} {a : Addr} {xs : List PySem.Str} (q : Holds P w h a xs) : ObjOk P w H h a (SetS P w a xs) :=
  ⟨q, (let ⟨_, _, e, _⟩ := q; ⟨_, e⟩), fun _ _ p k => Holds.at p k⟩
theorem setL_ok {P : Program} {w : World} {H : Hp} {h : Heap} {a : Addr} {xs : List PySem.Str} (q : HoldsL P w h a xs) : ObjOk P w H h a (SetL P w a xs) :=
  ⟨q, (let ⟨_, _, e, _⟩ := q; ⟨_, e⟩), fun _ _ p k => HoldsL.at p k⟩
section
variable {X : Cx} {pins : List (Addr × Obj)} {σ : L2.St} {H : Hp} {s : Shared} {a : Addr} {xs : List PySem.Str}
theorem setS_get (I : Inv X pins σ H s) (e : H a = some (SetS X.prog X.w a xs)) : Holds X.prog X.w s.heap a xs := (I.hok a _ e).1
theorem setL_get (I : Inv X pins σ H s) (e : H a = some (SetL X.prog X.w a xs)) : HoldsL X.prog X.w s.heap a xs := (I.hok a _ e).1
/-- found.add(x) within a comprehension -/
theorem addS_ok {E : Value → Shared → Prop} {x : PySem.Str} {u : Tok} {Q : Value → Shared → Prop} (I : Inv X pins σ H s) (e : H a = some (SetS X.prog X.w a xs)) (few : xs.length + 1 < scanBound)
    (k : ∀ s', Inv X pins σ (upd H a (SetS X.prog X.w a (xs ++ [x]))) s' → Q .none s') : wpAny (model X.prog X.w) X.A (call (.builtin "set.add") [.ref a, .str x u]) Q E s := by
  obtain ⟨D, l, ho, F, ml, ln⟩ := setS_get I e
  refine wpAny_call_entry PySem.F.slot_set_add ⟨_, ho, rfl⟩ PySem.F.entry_set_add ?_ (PySem.F.args_set_add_2 _ _)
  unfold Builtin.«set.add» Builtin.Frozenset.oneOther
  simp only [List.isEmpty_nil, bind_assoc]
  refine wpAny_bind (addr_txt ?_)
  refine wpAny_bind (wpAny_pure ?_)
  dsimp only
  unfold setAdd
  refine wpAny_bind (wpAny_holding (wpAny_bind ((strKind X.prog X.w).pyHash (k := x) (is_str x u) ?_)))
  refine tset_add (s := { s with toks := s.toks + 1 }) ho F (by omega) fun h' D' g1 g2 g3 => ?_
  show wpAny _ _ (ret Value.none) _ _ _
  refine wpAny_pure ⟨_, rfl, k _ (I.write (e := a) (t' := s.toks + 1) (by rw [e]; trivial) (.inl rfl) (fun b ob hb hu => (g3.2 b hb).trans hu) ⟨_, g1⟩ (setS_ok ⟨D', _, g1, g2, fun y => ?_, ?_⟩))⟩
  · rw [mem_inS, ml, List.mem_append, List.mem_singleton]
    exact or_comm
  · have := inS_len (k := x) (l := l)
    rw [List.length_append]
    show _ ≤ _ + 1
    omega
end
/-- {elt for target in iter}: D the new set -/
def tScS (P : Program) (w : World) (wi : TI) (g : TG) (te : TE) (vs : List Nat) : TE := fun σ H Q => wi σ H fun J H1 => ∀ D, H1 D = none → ∃ W : Nat → Nat → Hp → Prop, (∃ m, W 0 m (upd H1 D (SetS P w D []))) ∧ ∀ i m H, W i m H →
  (J.stop i H ∧ Q (.ref D) H) ∨ (J.go i H ∧ ∃ Nx : Hp → Prop, (∀ H', Nx H' → ∃ m', m' < m ∧ W (i + 1) m' H') ∧ ∀ x H', J.yld i H x H' → g x (wipe σ vs) H' fun σ2 H2 => wipe σ2 vs = wipe σ vs ∧
    te σ2 H2 fun y H4 => ∃ (c : PySem.Str) (xs : List PySem.Str), y = .str c ∧ H4 D = some (SetS P w D xs) ∧ xs.length + 1 < scanBound ∧ Nx (upd H4 D (SetS P w D (xs ++ [c]))))
section
variable {X : Cx} {elt tg iter : Expr} {scope : Scope} {own : List (PySem.Str × Nat)} {pos : Pos} {wi : TI} {g : TG} {te : TE}
abbrev cellsAt (X : Cx) (scope : Scope) (n : Nat) : List (PySem.Str × Addr) := cellsFrom (n + 1) scope.names (cloFrom X.env.cells scope.names [])
theorem pe_scS (calm : X.calm = true) (hN : X.N.Nodup) (hi : PI X tg iter wi) (ok : BlkOk X.N X.env.scope scope own)
    (hg : ∀ (s : Shared) (H : Hp) (C : Addr) (cl : List (PySem.Str × Addr)) (fp : List Addr), PG (X.blk s H scope (compEnvC scope cl C X.env) fp) tg g)
    (he : ∀ (s : Shared) (H : Hp) (C : Addr) (cl : List (PySem.Str × Addr)) (fp : List Addr), PE (X.blk s H scope (compEnvC scope cl C X.env) fp) elt te) (hs : ∀ x, foldedSetIterable iter X.env x = pure x := by intro _; rfl) :
    PE X (.SetComp elt [⟨tg, iter, [], 0⟩] scope pos) (tScS X.prog X.w wi g te (own.map (·.2))) := by
  refine ⟨fun pins s0 σ H0 Q I0 h => ?_⟩
  rw [PpSet.eval_SetComp]
  have reach : ∀ y ∈ scope.names, y.2 = .free → ∃ c, X.env.cells.lookup y.1 = some c := fun y hy e => (ok.free y hy e).elim (fun z => I0.ok.has _ (.inl z)) fun z => I0.ok.has _ (.inr z)
  refine wpAny_comprehension_free (use := none) rfl hs (closure_ok reach) ok.kind (fun y hy e => (ok.uniq y hy).trans (congrArg some e)) (thn (hi.run pins s0 σ H0 _ I0 h) fun _ sA hA => thn hA fun _ sB hB => ?_)
  obtain ⟨it, fp, tn, J, HB, rfl, IB, T, tB, fB, body⟩ := hB
  refine PpSet.newSet_ok (newEnv_comp ?_)
  obtain ⟨D, hD⟩ : ∃ D, D = sB.heap.objs.size := ⟨_, rfl⟩
  rw [← hD]
  obtain ⟨W, ⟨m0, w0⟩, turn⟩ := body D (IB.hok.fresh (Nat.le_of_eq hD.symm))
  obtain ⟨sC, hC⟩ : ∃ sC : Shared, sC = { sB with heap := sB.heap.push (ob0 X.w) } := ⟨_, rfl⟩
  have keepC : ∀ b o, sB.heap.get? b = some o → sC.heap.get? b = some o := fun b o e => by rw [hC]; exact Heap.get?_push_of_some _ e
  have sizeC : sC.heap.objs.size = D + 1 := by rw [hC, hD]; exact Heap.size_push ..
  have IC : Inv X pins σ (upd HB D (SetS X.prog X.w D [])) sC := by
    have at_ : (sB.heap.push (ob0 X.w)).get? D = some (ob0 X.w) := by rw [hD]; exact Heap.get?_push_size _ rfl
    have q := IB.laid (a := D) (t' := sB.toks) (h' := sB.heap.push (ob0 X.w)) (fun b o e => Heap.get?_push_of_some _ e) (Nat.le_of_eq hD.symm) (setS_ok (holds_new at_))
    rw [hC]
    exact q
  have younger : ∀ b ∈ fp, b < sB.heap.objs.size := fun b hb => let ⟨_, e, _⟩ := T.obj _ _ tB b hb; Heap.lt_size e
  obtain ⟨HC, hHC⟩ : ∃ HC, HC = upd HB D (SetS X.prog X.w D []) := ⟨_, rfl⟩
  rw [← hHC] at IC w0
  have fC : ∀ b ∈ fp, FpOk X pins HC b ∧ b < sC.heap.objs.size := fun b hb => by
    have lt := younger b hb
    have off : HC b = none := by
      rw [hHC, upd_ne (by rw [hD]; exact Nat.ne_of_lt lt)]
      exact (fB b hb).1
    exact ⟨⟨off, (fB b hb).2⟩, by rw [sizeC, hD]; exact Nat.lt_succ_of_lt lt⟩
  have tC : tn 0 sC.heap := T.keep _ _ _ tB fun b _ o e => keepC b o e
  have ID := block_start IC ok hN fC
  have pg := hg sC HC sC.heap.objs.size (cellsAt X scope sC.heap.objs.size) fp
  have pe := he sC HC sC.heap.objs.size (cellsAt X scope sC.heap.objs.size) fp
  have goal : codeAny (model X.prog X.w) X.A (.compStart (.SetComp elt [⟨tg, iter, [], 0⟩] scope pos) 0 (.ref it) (.ref D) (compEnvC scope (cellsAt X scope sC.heap.objs.size) sC.heap.objs.size X.env))
      (compPost (model X.prog X.w) X.A X.xe none (EP X pins σ Q) (.ref D) sC.heap.objs.size) { sC with heap := pushCells (sC.heap.push { cls := .type "dict", data := .dict #[] }) scope.names } := by
    obtain ⟨ce, hce⟩ : ∃ ce, ce = compEnvC scope (cellsAt X scope sC.heap.objs.size) sC.heap.objs.size X.env := ⟨_, rfl⟩
    rw [← hce] at ID pg pe ⊢
    have cL : ce.locals = sC.heap.objs.size := by rw [hce]; rfl
    obtain ⟨sD, hsD⟩ : ∃ sD : Shared, sD = { sC with heap := pushCells (sC.heap.push { cls := .type "dict", data := .dict #[] }) scope.names } := ⟨_, rfl⟩
    rw [← hsD] at ID ⊢
    have tD : tn 0 sD.heap := T.keep _ _ _ tC fun b _ o e => by rw [hsD]; exact pushCells_keeps _ _ _ _ (Heap.get?_push_of_some _ e)
    have own_fp : ∀ {σ' : L2.St} {H' : Hp} {s' : Shared}, Inv (X.blk sC HC scope ce fp) [] σ' H' s' → (∀ b ∈ fp, H' b = none) → ∀ b ∈ fp, FpOk (X.blk sC HC scope ce fp) [] H' b := fun {σ' H' s'} I' off b hb => by
      obtain ⟨x1, x2⟩ := I'.ok.exf b hb
      exact ⟨off b hb, x1, I'.ok.exfs b hb, .inl hb, fun x c e => x2 x c e, fun p hp => absurd (show p ∈ ([] : List (Addr × Obj)) ++ [] from hp) (by simp)⟩
    have loop : codeAny (model X.prog X.w) X.A (.compLoop (.SetComp elt [⟨tg, iter, [], 0⟩] scope pos) 0 (.ref it) (.ref D) ce) (compPost (model X.prog X.w) X.A X.xe none (EP X pins σ Q) (.ref D) sC.heap.objs.size) sD := by
      refine PpSet.compLoopS_any (fun n s' => ∃ i H', Inv (X.blk sC HC scope ce fp) [] (wipe σ (own.map (·.2))) H' s' ∧ tn i s'.heap ∧ (∀ b ∈ fp, H' b = none) ∧ W i n H') ?_ m0 ⟨0, HC, ID, tD, fun b hb => (fC b hb).1.1, w0⟩
      rintro n s5 ⟨i, H5, I5, t5, o5, w5⟩
      rcases turn i n H5 w5 with ⟨stop, fin⟩ | ⟨go, Nx, next, step⟩
      · refine thnF (T.done (X.blk sC HC scope ce fp) rfl rfl rfl calm i [] s5 _ H5 (fun _ _ => False) I5 (own_fp I5 o5) t5 stop) fun r s6 ⟨hr, I6⟩ => ?_
        subst hr
        have I7 : Inv X pins σ H5 s6 := IC.call' (ch := fp) I6.os I6.base I6.hok I6.bare fun b hb => by
          obtain ⟨⟨_, y1, _, y2, y3, y4⟩, _⟩ := fC b hb
          exact ⟨y2, y1, y3, y4⟩
        have free : H5 sC.heap.objs.size = none := by
          have z : H5 ce.locals = none := I6.free
          rwa [cL] at z
        obtain ⟨m, ns, _⟩ := I6.loc
        have ns : s6.heap.Ns ce.locals m := ns
        rw [cL] at ns
        obtain ⟨f0, f1, _, f3, f4, f5⟩ := IC.fpOk (Nat.le_refl _) free
        exact ⟨m, ns, fun h'' sb => ⟨.ref D, H5, I7.turned (t' := s6.toks) (fun b o hb e => (sb.2 b hb).trans e) f0 f1 f3 f4 f5, rfl, fin⟩⟩
      · refine thnF (T.item (X.blk sC HC scope ce fp) rfl rfl rfl calm i [] s5 _ H5 (fun _ _ => False) I5 (own_fp I5 o5) t5 go) fun r s6 ⟨u, hr, h6⟩ => ?_
        subst hr
        refine thnF h6 fun _ s7 ⟨x, H7, I7, r7, y7, t7, o7⟩ => ?_
        refine thnF (pg.run _ s7 _ H7 x u _ (I7.pinned (own_fp I7 o7) (T.obj _ _ t7)) r7 (step x H7 y7)) fun _ s8 ⟨σ8, H8, I8, hw8, q8⟩ => ?_
        refine wpAny_pure ?_
        simp only [if_true]
        have fin : ∀ {s' : Shared} {H' : Hp}, Inv (X.blk sC HC scope ce fp) ([] ++ pinsAt fp s7.heap) σ8 H' s' → Nx H' → ∃ m, m < n ∧ ∃ i H', Inv (X.blk sC HC scope ce fp) [] (wipe σ (own.map (·.2))) H' s' ∧ tn i s'.heap ∧ (∀ b ∈ fp, H' b = none) ∧ W i m H' := fun {s' H'} I' nx => by
          obtain ⟨m', lt, w'⟩ := next H' nx
          have still : ∀ b ∈ fp, ∀ o, s7.heap.get? b = some o → s'.heap.get? b = some o ∧ H' b = none := fun b hb o e =>
            let z := I'.pin (b, o) (List.mem_append_right _ (List.mem_append_right _ (mem_pinsAt hb e)))
            ⟨z.1, z.2.1⟩
          have hl : (wipe σ (own.map (·.2))).length = σ8.length := (congrArg List.length hw8.symm).trans (wipe_length ..)
          refine ⟨m', lt, i + 1, H', (I'.unpinned (pins := [])).weak hl (fun j v e => ?_), T.keep _ _ _ t7 fun b hb o e => (still b hb o e).1, fun b hb => ?_, w'⟩
          · exact (wipe_some (by rw [hw8]; exact e)).1
          · obtain ⟨o, e, _⟩ := T.obj _ _ t7 b hb
            exact (still b hb o e).2
        refine thnF (pe.run _ s8 σ8 H8 _ I8 q8) fun z s10 ⟨yv, H10, I10, r10, c, xs, ey, hx, few, nx⟩ => ?_
        subst ey
        obtain ⟨u2, rfl⟩ : ∃ t, z = Value.str c t := r10
        exact addS_ok (X := X.blk sC HC scope ce fp) I10 hx few fun s11 I11 => fin I11 nx
    exact PpSet.codeAny_compStart_set loop (T.self X.A 0 _ _ _ tD loop)
  rw [hC] at goal
  exact goal
end
end Va

set_option Elab.async false
set_option linter.all false
set_option maxRecDepth 100000
set_option maxHeartbeats 4000000
namespace L2
open PySem PySem.Spec PyProof.Rows
/-! ### a dict whose keys are rows, made by a comprehension and read by list(..) -/
abbrev rowK (P : Program) (w : World) := tupleKind (mixKind P w)
def RawD (P : Program) (w : World) (h : Heap) (D : Addr) (xs : List (List Key × Addr × Value)) : Prop := (D == sysModules) = false ∧ ∃ o es ep, h.get? D = some o ∧ o.ExactDict ∧ o.data = .dict es ep ∧ es.toList = xs.map (entryOfKey (rowK P w)) ∧ (xs.map (·.1)).Nodup
def DicR (P : Program) (w : World) (D : Addr) (xs : List (List Key × Addr × Value)) : HO := .ext fun h => RawD P w h D xs
/-- the keys stand for rows -/
def KeysIn (K : PySem.W.Frag) (H : Hp) (xs : List (List Key × Addr × Value)) : Prop := ∀ x ∈ xs, SqT K H x.2.1 (x.1.map kV)
theorem dicR_ok {P : Program} {w : World} {H : Hp} {h : Heap} {D : Addr} {xs : List (List Key × Addr × Value)} (q : RawD P w h D xs) : ObjOk P w H h D (DicR P w D xs) :=
  ⟨q, (let ⟨_, _, _, _, e, _⟩ := q; ⟨_, e⟩), fun _ _ p k => let ⟨y, o, es, ep, e, r⟩ := p; ⟨y, o, es, ep, k _ e, r⟩⟩
section
variable {X : Cx} {pins : List (Addr × Obj)} {σ : St} {H : Hp} {s : Shared} {D b : Addr} {xs : List (List Key × Addr × Value)} {r : List Key}
theorem Inv.rowKey (I : Inv X pins σ H s) (h : SqT X.K H b (r.map kV)) : (rowK X.prog X.w).is s.heap r b := by
  obtain ⟨its, rv, ⟨o, ho, hc, n, hd⟩, _⟩ := I.tuple h
  exact ⟨o, its.toArray, n, ho, hc, hd, by simpa using items_are rv⟩
theorem Inv.dicR (I : Inv X pins σ H s) (e : H D = some (DicR X.prog X.w D xs)) : RawD X.prog X.w s.heap D xs := (I.hok D _ e).1
theorem Inv.dicOf (I : Inv X pins σ H s) (e : H D = some (DicR X.prog X.w D xs)) (ks : KeysIn X.K H xs) : s.heap.DictOfH (rowK X.prog X.w) D xs := by
  obtain ⟨_, o, es, ep, h1, h2, h3, h4, h5⟩ := I.dicR e
  exact ⟨o, es, ep, h1, h2, h3, h4, fun x hx => I.rowKey (ks x hx), h5⟩
/-- d[row] = v within a comprehension -/
theorem putR_ok {E : Value → Shared → Prop} {v : Value} {Q : Unit → Shared → Prop} (I : Inv X pins σ H s) (e : H D = some (DicR X.prog X.w D xs)) (ks : KeysIn X.K H xs) (hb : SqT X.K H b (r.map kV)) (few : xs.length ≤ sizeLine) (hu : X.A.units < cLine)
    (k : ∀ s', Inv X pins σ (upd H D (DicR X.prog X.w D (storedH xs r b v))) s' → Q () s') : wpAny (model X.prog X.w) X.A (dictSet D (.ref b) v) Q E s := by
  refine wpAny_dictSet_heap (knd := rowK X.prog X.w) hu (I.rowKey hb) (I.dicOf e ks) (fun h' hd sb => ?_) few
  obtain ⟨o, es, ep, g1, g2, g3, g4, _, g6⟩ := hd
  exact k _ (I.write (e := D) (t' := s.toks + (rowK X.prog X.w).draws r) (by rw [e]; trivial) (.inl rfl) (fun c ob hc q => (sb.2 c hc).trans q) ⟨_, g1⟩ (dicR_ok ⟨(I.dicR e).1, o, es, ep, g1, g2, g3, g4, g6⟩))
/-- list(d) -/
theorem cr_listDicR (hc : X.calm = true) : CallR X (.type "list") (fun vs H Q => ∃ D xs, vs = [V.ref D] ∧ H D = some (DicR X.prog X.w D xs) ∧ xs.length ≤ sizeLine ∧ ∀ p, H p = none → Q (.ref p) (upd H p (.lst (xs.map fun x => V.ref x.2.1)))) := by
  intro pins s σ H vs us Q I r h
  obtain ⟨D, xs, rfl, e, hz, q⟩ := h
  obtain rfl := Vals.ref1 r
  obtain ⟨hs, o, es, ep, ho, hx, hdt, he, hn⟩ := I.dicR e
  have l1 : es.size = xs.length := size_of_entries he
  refine PySem.W.kdl_call (kdl_raw hs hx hdt) (I.ok.hd hc) ho (by omega) fun h' tk acc c kp e1 it => ?_
  have ea : acc.toList = xs.map fun x => Value.ref x.2.1 := by
    have hl : acc.toList.length = xs.length := by rw [Array.length_toList, it.1]; exact l1
    refine List.ext_getElem (by rw [hl, List.length_map]) fun j h1 h2 => ?_
    have hj : j < xs.length := by omega
    obtain ⟨en, hen, hv⟩ := it.2 j (acc.toList[j]) (by rw [← Array.getElem?_toList]; exact List.getElem?_eq_getElem h1)
    have qe := entry_at he j
    rw [hen, List.getElem?_eq_getElem hj] at qe
    have e2 : en = entryOfKey (rowK X.prog X.w) xs[j] := Option.some.inj qe
    rw [hv, e2, List.getElem_map]
    rfl
  have rv : Vals (xs.map fun x => V.ref x.2.1) acc.toList := by
    rw [ea]
    have : ∀ l : List (List Key × Addr × Value), Vals (l.map fun x => V.ref x.2.1) (l.map fun x => Value.ref x.2.1) := fun l => by
      induction l with
      | nil => exact .nil
      | cons x l ih => exact .cons rfl ih
    exact this xs
  refine ⟨.ref s.heap.objs.size, _, I.laid (t' := tk) (o := .lst (xs.map fun x => V.ref x.2.1)) kp (Nat.le_refl _) ⟨by rw [List.length_map]; exact hz, acc.toList, c, rv, by rw [Array.toArray_toList]; exact e1⟩, rfl, q _ (I.hok.fresh (Nat.le_refl _))⟩
end
end L2

set_option Elab.async false
set_option linter.all false
set_option maxRecDepth 100000
set_option maxHeartbeats 4000000
namespace Va
open PySem PySem.Spec PyProof.Rows L2 Ind
abbrev ob1 : Obj := { cls := .type "dict", data := .dict #[] }
/-- {key: value for target in iter}, the keys rows: D the new dict -/
def tDcR (P : Program) (w : World) (K : PySem.W.Frag) (wi : TI) (g : TG) (tk tv : TE) (vs : List Nat) : TE := fun σ H Q => wi σ H fun J H1 => ∀ D, H1 D = none → ∃ W : Nat → Nat → Hp → Prop, (∃ m, W 0 m (upd H1 D (DicR P w D []))) ∧ ∀ i m H, W i m H →
  (J.stop i H ∧ Q (.ref D) H) ∨ (J.go i H ∧ ∃ Nx : Hp → Prop, (∀ H', Nx H' → ∃ m', m' < m ∧ W (i + 1) m' H') ∧ ∀ x H', J.yld i H x H' → g x (wipe σ vs) H' fun σ2 H2 => wipe σ2 vs = wipe σ vs ∧
    tk σ2 H2 fun y H4 => tv σ2 H4 fun _ H5 => ∃ (b : Addr) (r : List Key) (xs : List (List Key × Addr × Value)), y = .ref b ∧ SqT K H5 b (r.map kV) ∧ H5 D = some (DicR P w D xs) ∧ KeysIn K H5 xs ∧ xs.length ≤ sizeLine ∧ ∀ v : Value, Nx (upd H5 D (DicR P w D (storedH xs r b v))))
section
variable {X : Cx} {kx vx tg iter : Expr} {scope : Scope} {own : List (PySem.Str × Nat)} {pos : Pos} {wi : TI} {g : TG} {tk tv : TE}
theorem pe_dcR (calm : X.calm = true) (hN : X.N.Nodup) (hi : PI X tg iter wi) (ok : BlkOk X.N X.env.scope scope own)
    (hg : ∀ (s : Shared) (H : Hp) (C : Addr) (cl : List (PySem.Str × Addr)) (fp : List Addr), PG (X.blk s H scope (compEnvC scope cl C X.env) fp) tg g)
    (hk : ∀ (s : Shared) (H : Hp) (C : Addr) (cl : List (PySem.Str × Addr)) (fp : List Addr), PE (X.blk s H scope (compEnvC scope cl C X.env) fp) kx tk)
    (he : ∀ (s : Shared) (H : Hp) (C : Addr) (cl : List (PySem.Str × Addr)) (fp : List Addr), PE (X.blk s H scope (compEnvC scope cl C X.env) fp) vx tv) (hu : X.A.units < cLine) (hs : ∀ x, foldedSetIterable iter X.env x = pure x := by intro _; rfl) :
    PE X (.DictComp kx vx [⟨tg, iter, [], 0⟩] scope pos) (tDcR X.prog X.w X.K wi g tk tv (own.map (·.2))) := by
  refine ⟨fun pins s0 σ H0 Q I0 h => ?_⟩
  rw [arm_eval_DictComp]
  have reach : ∀ y ∈ scope.names, y.2 = .free → ∃ c, X.env.cells.lookup y.1 = some c := fun y hy e => (ok.free y hy e).elim (fun z => I0.ok.has _ (.inl z)) fun z => I0.ok.has _ (.inr z)
  refine wpAny_comprehension_free (use := none) rfl hs (closure_ok reach) ok.kind (fun y hy e => (ok.uniq y hy).trans (congrArg some e)) (thn (hi.run pins s0 σ H0 _ I0 h) fun _ sA hA => thn hA fun _ sB hB => ?_)
  obtain ⟨it, fp, tn, J, HB, rfl, IB, T, tB, fB, body⟩ := hB
  refine wpAny_newObj_type (newEnv_comp ?_)
  obtain ⟨D, hD⟩ : ∃ D, D = sB.heap.objs.size := ⟨_, rfl⟩
  rw [← hD]
  obtain ⟨W, ⟨m0, w0⟩, turn⟩ := body D (IB.hok.fresh (Nat.le_of_eq hD.symm))
  obtain ⟨sC, hC⟩ : ∃ sC : Shared, sC = { sB with heap := sB.heap.push ob1 } := ⟨_, rfl⟩
  have keepC : ∀ b o, sB.heap.get? b = some o → sC.heap.get? b = some o := fun b o e => by rw [hC]; exact Heap.get?_push_of_some _ e
  have sizeC : sC.heap.objs.size = D + 1 := by rw [hC, hD]; exact Heap.size_push ..
  have IC : Inv X pins σ (upd HB D (DicR X.prog X.w D [])) sC := by
    have at_ : (sB.heap.push ob1).get? D = some ob1 := by rw [hD]; exact Heap.get?_push_size _ rfl
    have q := IB.laid (a := D) (t' := sB.toks) (h' := sB.heap.push ob1) (fun b o e => Heap.get?_push_of_some _ e) (Nat.le_of_eq hD.symm) (dicR_ok (xs := []) ⟨beq_eq_false_iff_ne.mpr (by rw [hD]; exact Ne.symm (Nat.ne_of_lt IB.big)), _, #[], 0, at_, ⟨rfl, rfl, rfl⟩, rfl, rfl, List.nodup_nil⟩)
    rw [hC]
    exact q
  have younger : ∀ b ∈ fp, b < sB.heap.objs.size := fun b hb => let ⟨_, e, _⟩ := T.obj _ _ tB b hb; Heap.lt_size e
  obtain ⟨HC, hHC⟩ : ∃ HC, HC = upd HB D (DicR X.prog X.w D []) := ⟨_, rfl⟩
  rw [← hHC] at IC w0
  have fC : ∀ b ∈ fp, FpOk X pins HC b ∧ b < sC.heap.objs.size := fun b hb => by
    have lt := younger b hb
    have off : HC b = none := by
      rw [hHC, upd_ne (by rw [hD]; exact Nat.ne_of_lt lt)]
      exact (fB b hb).1
    exact ⟨⟨off, (fB b hb).2⟩, by rw [sizeC, hD]; exact Nat.lt_succ_of_lt lt⟩
  have tC : tn 0 sC.heap := T.keep _ _ _ tB fun b _ o e => keepC b o e
  have ID := block_start IC ok hN fC
  have pg := hg sC HC sC.heap.objs.size (cellsAt X scope sC.heap.objs.size) fp
  have pk := hk sC HC sC.heap.objs.size (cellsAt X scope sC.heap.objs.size) fp
  have pe := he sC HC sC.heap.objs.size (cellsAt X scope sC.heap.objs.size) fp
  have goal : codeAny (model X.prog X.w) X.A (.compStart (.DictComp kx vx [⟨tg, iter, [], 0⟩] scope pos) 0 (.ref it) (.ref D) (compEnvC scope (cellsAt X scope sC.heap.objs.size) sC.heap.objs.size X.env))
      (compPost (model X.prog X.w) X.A X.xe none (EP X pins σ Q) (.ref D) sC.heap.objs.size) { sC with heap := pushCells (sC.heap.push { cls := .type "dict", data := .dict #[] }) scope.names } := by
    obtain ⟨ce, hce⟩ : ∃ ce, ce = compEnvC scope (cellsAt X scope sC.heap.objs.size) sC.heap.objs.size X.env := ⟨_, rfl⟩
    rw [← hce] at ID pg pk pe ⊢
    have cL : ce.locals = sC.heap.objs.size := by rw [hce]; rfl
    obtain ⟨sD, hsD⟩ : ∃ sD : Shared, sD = { sC with heap := pushCells (sC.heap.push { cls := .type "dict", data := .dict #[] }) scope.names } := ⟨_, rfl⟩
    rw [← hsD] at ID ⊢
    have tD : tn 0 sD.heap := T.keep _ _ _ tC fun b _ o e => by rw [hsD]; exact pushCells_keeps _ _ _ _ (Heap.get?_push_of_some _ e)
    have own_fp : ∀ {σ' : L2.St} {H' : Hp} {s' : Shared}, Inv (X.blk sC HC scope ce fp) [] σ' H' s' → (∀ b ∈ fp, H' b = none) → ∀ b ∈ fp, FpOk (X.blk sC HC scope ce fp) [] H' b := fun {σ' H' s'} I' off b hb => by
      obtain ⟨x1, x2⟩ := I'.ok.exf b hb
      exact ⟨off b hb, x1, I'.ok.exfs b hb, .inl hb, fun x c e => x2 x c e, fun p hp => absurd (show p ∈ ([] : List (Addr × Obj)) ++ [] from hp) (by simp)⟩
    have loop : codeAny (model X.prog X.w) X.A (.compLoop (.DictComp kx vx [⟨tg, iter, [], 0⟩] scope pos) 0 (.ref it) (.ref D) ce) (compPost (model X.prog X.w) X.A X.xe none (EP X pins σ Q) (.ref D) sC.heap.objs.size) sD := by
      refine compLoop_anyD (fun n s' => ∃ i H', Inv (X.blk sC HC scope ce fp) [] (wipe σ (own.map (·.2))) H' s' ∧ tn i s'.heap ∧ (∀ b ∈ fp, H' b = none) ∧ W i n H') ?_ m0 ⟨0, HC, ID, tD, fun b hb => (fC b hb).1.1, w0⟩
      rintro n s5 ⟨i, H5, I5, t5, o5, w5⟩
      rcases turn i n H5 w5 with ⟨stop, fin⟩ | ⟨go, Nx, next, step⟩
      · refine thnF (T.done (X.blk sC HC scope ce fp) rfl rfl rfl calm i [] s5 _ H5 (fun _ _ => False) I5 (own_fp I5 o5) t5 stop) fun r s6 ⟨hr, I6⟩ => ?_
        subst hr
        have I7 : Inv X pins σ H5 s6 := IC.call' (ch := fp) I6.os I6.base I6.hok I6.bare fun b hb => by
          obtain ⟨⟨_, y1, _, y2, y3, y4⟩, _⟩ := fC b hb
          exact ⟨y2, y1, y3, y4⟩
        have free : H5 sC.heap.objs.size = none := by
          have z : H5 ce.locals = none := I6.free
          rwa [cL] at z
        obtain ⟨m, ns, _⟩ := I6.loc
        have ns : s6.heap.Ns ce.locals m := ns
        rw [cL] at ns
        obtain ⟨f0, f1, _, f3, f4, f5⟩ := IC.fpOk (Nat.le_refl _) free
        exact ⟨m, ns, fun h'' sb => ⟨.ref D, H5, I7.turned (t' := s6.toks) (fun b o hb e => (sb.2 b hb).trans e) f0 f1 f3 f4 f5, rfl, fin⟩⟩
      · refine thnF (T.item (X.blk sC HC scope ce fp) rfl rfl rfl calm i [] s5 _ H5 (fun _ _ => False) I5 (own_fp I5 o5) t5 go) fun r s6 ⟨u, hr, h6⟩ => ?_
        subst hr
        refine thnF h6 fun _ s7 ⟨x, H7, I7, r7, y7, t7, o7⟩ => ?_
        refine thnF (pg.run _ s7 _ H7 x u _ (I7.pinned (own_fp I7 o7) (T.obj _ _ t7)) r7 (step x H7 y7)) fun _ s8 ⟨σ8, H8, I8, hw8, q8⟩ => ?_
        refine wpAny_pure ?_
        simp only [if_true]
        have fin : ∀ {s' : Shared} {H' : Hp}, Inv (X.blk sC HC scope ce fp) ([] ++ pinsAt fp s7.heap) σ8 H' s' → Nx H' → ∃ m, m < n ∧ ∃ i H', Inv (X.blk sC HC scope ce fp) [] (wipe σ (own.map (·.2))) H' s' ∧ tn i s'.heap ∧ (∀ b ∈ fp, H' b = none) ∧ W i m H' := fun {s' H'} I' nx => by
          obtain ⟨m', lt, w'⟩ := next H' nx
          have still : ∀ b ∈ fp, ∀ o, s7.heap.get? b = some o → s'.heap.get? b = some o ∧ H' b = none := fun b hb o e =>
            let z := I'.pin (b, o) (List.mem_append_right _ (List.mem_append_right _ (mem_pinsAt hb e)))
            ⟨z.1, z.2.1⟩
          have hl : (wipe σ (own.map (·.2))).length = σ8.length := (congrArg List.length hw8.symm).trans (wipe_length ..)
          refine ⟨m', lt, i + 1, H', (I'.unpinned (pins := [])).weak hl (fun j v e => ?_), T.keep _ _ _ t7 fun b hb o e => (still b hb o e).1, fun b hb => ?_, w'⟩
          · exact (wipe_some (by rw [hw8]; exact e)).1
          · obtain ⟨o, e, _⟩ := T.obj _ _ t7 b hb
            exact (still b hb o e).2
        refine thnF (pk.run _ s8 σ8 H8 _ I8 q8) fun z s10 ⟨yk, H10, I10, r10, q10⟩ => ?_
        refine thnF (pe.run _ s10 σ8 H10 _ I10 q10) fun z2 s11 ⟨yv, H11, I11, r11, b1, rw1, xs, ek, hb1, hx, hks, few, nx⟩ => ?_
        subst ek
        obtain rfl : z = Value.ref b1 := r10
        exact putR_ok (X := X.blk sC HC scope ce fp) I11 hx hks hb1 few hu fun s12 I12 => fin I12 (nx z2)
    exact codeAny_compStart_dict loop (T.self X.A 0 _ _ _ tD loop)
  rw [hC] at goal
  exact goal
end
end Va

set_option Elab.async false
set_option linter.all false
set_option maxRecDepth 100000
set_option maxHeartbeats 4000000
namespace Va
open PySem PySem.Spec PyProof.Rows L2 Ind PySem.Froz
theorem strs_of_vals : ∀ {xs : List PySem.Str} {us : List Value}, Vals (xs.map V.str) us → StrsAre us xs
  | [], _, h => by cases h; exact .nil
  | x :: xs, _, h => by
    cases h with
    | cons h1 h2 =>
      obtain ⟨t, rfl⟩ := h1
      exact .cons x t (strs_of_vals h2)
theorem vals_of_strs : ∀ {xs : List PySem.Str} {us : List Value}, StrsAre us xs → Vals (xs.map V.str) us
  | [], _, h => by cases h; exact .nil
  | x :: xs, _, h => by
    cases h with
    | cons _ t h2 => exact .cons ⟨t, rfl⟩ (vals_of_strs h2)
section
variable {X : Cx}
/-- set(a tuple of texts) -/
def rSetT (P : Program) (w : World) (K : PySem.W.Frag) : List V → Hp → VK → Prop := fun vs H Q => ∃ (p : Addr) (xs : List PySem.Str), vs = [.ref p] ∧ SqT K H p (xs.map V.str) ∧ xs.length < 4000 ∧ ∀ q, H q = none → Q (.ref q) (upd H q (SetS P w q xs))
theorem cr_setT (calm : X.calm = true) : CallR X (.type "set") (rSetT X.prog X.w X.K) := by
  intro pins s σ H vs us Q I r h
  obtain ⟨p, xs, rfl, hp, few, q⟩ := h
  rw [Vals.ref1 r]
  obtain ⟨its, rv, tup, _⟩ := I.tuple hp
  refine set_of_tup xs (I.ok.hd calm) tup (strs_of_vals rv) (Nat.lt_of_lt_of_le (Nat.succ_lt_succ few) (by decide)) fun h' tk hq kp => ?_
  exact ⟨.ref _, upd H s.heap.objs.size (SetS X.prog X.w s.heap.objs.size xs), I.laid (t' := tk) kp (Nat.le_refl _) (setS_ok hq), rfl, q _ (I.hok.fresh (Nat.le_refl _))⟩
/-- a - b -/
def rSetSub (P : Program) (w : World) : V → V → Hp → VK → Prop := fun x y H Q => ∃ (a b : Addr) (xs ys : List PySem.Str), x = .ref a ∧ y = .ref b ∧ a ≠ b ∧ H a = some (SetS P w a xs) ∧ H b = some (SetS P w b ys) ∧ (∃ zs : List PySem.Str, zs.length < 16 ∧ ∀ x ∈ xs, x ∈ zs) ∧ ys.length < 4000 ∧
  ∀ q, H q = none → Q (.ref q) (upd H q (SetL P w q (xs.filter fun k => decide (k ∉ ys))))
theorem entry_set_sub : entryFor table "set.__sub__" = some Builtin.«frozenset.__sub__» :=
  entryFor_alias (id' := "frozenset.__sub__") (by kernel_rfl) rfl (by decide +kernel) (by kernel_rfl)
theorem or_setSub : OpR X (binaryOp .Sub) (rSetSub X.prog X.w) := by
  intro pins s σ H x y v u Q I rx ry h
  obtain ⟨a, b, xs, ys, rfl, rfl, ne, ha, hb, ⟨zs, fz, sz⟩, few, q⟩ := h
  cases rx
  cases ry
  obtain ⟨Da, la, oa, Fa, ma, na⟩ := setS_get I ha
  obtain ⟨Db, lb, ob, Fb, mb, nb⟩ := setS_get I hb
  have ta : s.TypeIs (.ref a) "set" := ⟨_, oa, rfl⟩
  have tb : s.TypeIs (.ref b) "set" := ⟨_, ob, rfl⟩
  have la16 : la.length < 16 := Nat.lt_of_le_of_lt (nodup_leY Fa.nd fun x hx => sz x ((ma x).mp hx)) fz
  refine wpAny_binaryOp_same (id := "set.__sub__") ta tb PySem.F.fills_set_sub PySem.F.slot_set_sub ?_
  refine wpAny_call_entry PySem.F.slot_set_sub ta entry_set_sub ?_ (PySem.F.args_set_sub_2 _ _)
  have body : wpAny (model X.prog X.w) X.A.in1 (Builtin.Frozenset.difference "frozenset.__sub__" a (.ref b)) (fun v s' => v ≠ .notImplemented ∧ EP X pins σ Q v s') X.xe s := by
    refine diff_txt ne oa ob Fa Fb la16 (Nat.lt_of_lt_of_le (Nat.succ_lt_succ (Nat.lt_of_le_of_lt nb few)) (by decide)) fun h' d D' l' g1 g2 g3 g4 g5 => ⟨by simp, ?_⟩
    have new : HoldsL X.prog X.w h' s.heap.objs.size (xs.filter fun k => decide (k ∉ ys)) := ⟨D', l', g1, g2, fun k => by
      rw [g3, ma, mb, List.mem_filter, decide_eq_true_eq], by omega⟩
    have n0 : H s.heap.objs.size = none := I.hok.fresh (Nat.le_refl _)
    refine ⟨.ref _, upd H s.heap.objs.size (SetL X.prog X.w s.heap.objs.size _), ?_, rfl, q _ n0⟩
    exact I.call' (ch := []) rfl (Un.laid g5 (Nat.le_refl _) n0) (I.hok.laid g5 (Nat.le_refl _) (setL_ok new)) I.bare (fun _ z => nomatch z)
  show wpAny _ _ (Builtin.Frozenset.slot1 "__sub__" ⟨[.ref a, .ref b], []⟩ >>= _) _ _ s
  refine wpAny_bind (wpAny_of_eq (a := (.ref a, .ref b)) rfl ?_)
  dsimp only
  refine wpAny_bind (m := andM (Builtin.Frozenset.isAnySet (.ref a)) (Builtin.Frozenset.isAnySet (.ref b))) ?_
  unfold andM
  refine wpAny_bind (any_txt oa ?_)
  show wpAny _ _ (Builtin.Frozenset.isAnySet (.ref b)) _ _ s
  refine any_txt ob ?_
  refine wp_if_neg (by simp) ?_
  refine wpAny_bind (addr_txt ?_)
  refine wpAny_bind (wpAny_mono body (fun v s' hv => ?_) fun _ _ z => z)
  exact wpAny_pure ⟨v, rfl, hv⟩
/-- sorted of what is left -/
def rSortL (P : Program) (w : World) : List V → Hp → VK → Prop := fun vs H Q => ∃ (a : Addr) (xs : List PySem.Str), vs = [.ref a] ∧ H a = some (SetL P w a xs) ∧
  ∀ (ss : List PySem.Str) (q : Addr), sortedS ss = true → ss.Nodup → (∀ k, k ∈ ss ↔ k ∈ xs) → H q = none → Q (.ref q) (upd H q (.lst (ss.map V.str)))
theorem cr_sortL (calm : X.calm = true) : CallR X (.builtin "sorted") (rSortL X.prog X.w) := by
  intro pins s σ H vs us Q I r h
  obtain ⟨a, xs, rfl, ha, q⟩ := h
  rw [Vals.ref1 r]
  obtain ⟨⟨es, ep, t⟩, l, ho, F, ml, few⟩ := setL_get I ha
  have sz : es.size = l.length := F.ok.sz
  refine Calls.call_function_entry kind_sorted plain_sorted entry_sorted (args_sorted1 _) ?_
  unfold Builtin.«sorted»
  refine wpAny_bind (m := checkCount "sorted" 1 1 _) (wpAny_pure ?_)
  refine wpAny_bind (collect_set (A := X.A.in1) (I.ok.hd calm) ⟨_, ho, rfl, rfl⟩ F.ok.fit (by rw [sz]; exact Nat.lt_trans few (by decide)) F.ris F.led fun s1 vs k1 hz g1 o1 pm => ?_)
  have kind : ∀ v ∈ vs, ∃ k u, v = Value.str k u := fun v hv => by
    obtain ⟨e, he, rfl⟩ := List.mem_map.mp (pm.mem_iff.mp hv)
    obtain ⟨⟨k, h1, _⟩, _⟩ := F.ok.el e he
    obtain ⟨u, h2⟩ := Value.isStrOf_shape h1
    exact ⟨k, u, h2⟩
  have S := strsAre_map vs kind
  have len : vs.length = l.length := by rw [pm.length_eq, List.length_map, Array.length_toList]; exact sz
  refine wpAny_bind (wpAny_newList ?_ (by rw [len, sizeLine_eq]; omega))
  have oL : (s1.heap.push (seqObj "list" vs.toArray 0)).get? s1.heap.objs.size = some (seqObj "list" vs.toArray 0) := Heap.get?_push_size _ rfl
  refine wpAny_bind (wpAny_holding (wpAny_call_entry slot_list_sort ⟨_, oL, rfl⟩ entry_list_sort (list_sort_treeKAny strKind_oneLt oL S.keysOf (fun v₁ v₂ rest e => keyKind_strs (by rw [← e]; exact S)) (by rw [len, sizeLine_eq]; omega) fun st' hp hs => ⟨_, rfl, ?_⟩) (args_list_sort _)))
  obtain ⟨ss, h1, h2, h3⟩ := sorted_out_str S hp hs
  obtain ⟨c, at_⟩ := sortedHeap_at (vs := vs) (out := (arrOf st').map (·.2)) oL
  have p1 : ss.Perm l := h2.trans (by
    have F2 : (es.toList.map fun e => txV e.2).Perm l := perm_of_len F.nd (fun k hk => by
      obtain ⟨e, he, hek⟩ := (F.ok.mem k).mp hk
      obtain ⟨u, h3⟩ := Value.isStrOf_shape hek
      exact List.mem_map.mpr ⟨e, he, by rw [h3]; rfl⟩) (by rw [List.length_map, Array.length_toList, sz]; exact Nat.le_refl _)
    have q := pm.map txV
    rw [List.map_map] at q
    refine List.Perm.trans (List.Perm.of_eq ?_) (q.trans F2)
    refine List.map_congr_left fun v hv => ?_
    obtain ⟨k, u, rfl⟩ := kind v hv
    rfl)
  have kp : ∀ b u, s.heap.get? b = some u → (sortedHeap (s1.heap.push (seqObj "list" vs.toArray 0)) s1.heap.objs.size vs ((arrOf st').map (·.2))).get? b = some u := fun b u e => by
    have e1 := k1 b u e
    have lt := Heap.lt_size e1
    rw [sortedHeap_old (Nat.ne_of_lt lt) (by rw [size_push']; exact Nat.lt_succ_of_lt lt)]
    exact Heap.get?_push_of_some _ e1
  have n0 : H s1.heap.objs.size = none := I.hok.fresh hz
  have slen : ss.length = l.length := p1.length_eq
  refine wpAny_pure ⟨_, rfl, .ref _, upd H s1.heap.objs.size (.lst (ss.map V.str)), ?_, rfl, q ss _ h3 (p1.nodup_iff.mpr F.nd) (fun k => by rw [p1.mem_iff, ml]) n0⟩
  refine I.call' (ch := []) o1 (Un.laid kp hz n0) (I.hok.laid kp hz ⟨by rw [List.length_map, slen, sizeLine_eq]; omega, _, c, vals_of_strs h1, ?_⟩) (by show AllBare s1.gens; rw [g1]; exact I.bare) (fun _ z => nomatch z)
  exact at_
end
end Va

set_option Elab.async false
set_option linter.all false
set_option maxRecDepth 100000
set_option maxHeartbeats 4000000
namespace Va
open PySem PySem.Spec PyProof.Rows L2 Ind
theorem only_strs {K : PySem.W.Frag} {tp : Option Tp} {H : Hp} : ∀ {xs : List Tx} {vs : List V}, RpL K tp H vs (xs.map D.str) → vs = xs.map V.str
  | [], _, h => by cases h; rfl
  | x :: xs, _, h => by
    cases h with
    | cons h1 h2 =>
      cases h1
      rw [only_strs h2]
      rfl
/-- sorted(set(..) - {..}) -/
def vSortDiff (tv : VT) (vi : VI) (g : VG) (el : VT) (vs : List Nat) : FT := fun E Q => tv E fun d E1 => ∃ xs : List Tx, d = .tup (xs.map .str) ∧ xs.length < 4000 ∧ (∃ zs : List Tx, zs.length < 16 ∧ ∀ x ∈ xs, x ∈ zs) ∧
  vi (shutE E1) fun es E2 => ∃ f : Nat → Tx, es.length < 3000 ∧ (∀ i d, es[i]? = some d → g d (blkE ⟨E1.l, E2.c⟩ vs) fun E3 => el E3 fun y E4 => y = .str (f i) ∧ E4.c = E2.c) ∧
  ∀ ss : List Tx, sortedS ss = true → ss.Nodup → (∀ k, k ∈ ss ↔ k ∈ xs ∧ k ∉ (List.range es.length).map f) → Q (.fl (ss.map .str)) ⟨E1.l, E2.c⟩
section
variable {X : Cx} {S : Sg} {e elt tg iter : Expr} {scope : Scope} {own : List (PySem.Str × Nat)} {p0 p1 pos1 pos2 pos3 pos4 : Pos} {tv : VT} {vi : VI} {g : VG} {el : VT}
theorem fe_sortDiff (hK : S.K = X.K) (calm : X.calm = true) (hN : X.N.Nodup) (g1 : Gl X "sorted") (m1 : X.mg "sorted" = none) (g2 : Gl X "set") (m2 : X.mg "set" = none)
    (b1 : bootBuiltins "sorted" = some (.builtin "sorted")) (b2 : bootBuiltins "set" = some (.type "set"))
    (he : VE S X e tv) (hi : VIt S X tg iter vi) (ok : BlkOk X.N X.env.scope scope own)
    (hg : ∀ (s : Shared) (H : Hp) (C : Addr) (cl : List (PySem.Str × Addr)) (fp : List Addr), PG (X.blk s H scope (compEnvC scope cl C X.env) fp) tg (liftG S (own.map (·.2)) g))
    (hel : ∀ (s : Shared) (H : Hp) (C : Addr) (cl : List (PySem.Str × Addr)) (fp : List Addr), VE S (X.blk s H scope (compEnvC scope cl C X.env) fp) elt el) (hs : ∀ x, foldedSetIterable iter X.env x = pure x := by intro _; rfl)
    (st : starEach [e] X.env = (false, eval e X.env) :: starEach [] X.env := by rfl) :
    FE S X (.Call (.Name "sorted" p0) [.BinOp (.Call (.Name "set" p1) [e] [] pos1) .Sub (.SetComp elt [⟨tg, iter, [], 0⟩] scope pos2) pos3] [] pos4) (vSortDiff tv vi g el (own.map (·.2))) := by
  have a1 : PE X (.Call (.Name "set" p1) [e] [] pos1) _ := pe_callTy (cr_setT calm) g2 m2 b2 (pa_cons he pa_nil st) (he := st)
  have a2 := pe_scS (pos := pos2) calm hN hi ok hg hel hs
  have a3 : PE X (.BinOp (.Call (.Name "set" p1) [e] [] pos1) .Sub (.SetComp elt [⟨tg, iter, [], 0⟩] scope pos2) pos3) _ := pe_op or_setSub a1 a2
  refine pe_weak (pe_callB (cr_sortL calm) g1 m1 b1 (pa_cons a3 pa_nil)) ?_
  rintro σ H Q ⟨Γ, E, Q0, okΓ, rp, ht, k⟩
  refine ⟨Γ, E, _, okΓ, rp, ht, fun d E1 ⟨xs, ed, few, zz, hq⟩ v H1 kq1 rp1 hv => ?_⟩
  subst ed
  obtain ⟨p, us, rfl, sq, ru⟩ := hv.tup_inv
  have eus := only_strs ru
  subst eus
  refine ⟨p, xs, rfl, by rw [← hK, ← okΓ.k]; exact sq, few, fun q nq => ?_⟩
  obtain ⟨H2, hH2⟩ : ∃ H2, H2 = upd H1 q (SetS X.prog X.w q xs) := ⟨_, rfl⟩
  rw [← hH2]
  have sm2 : Same H1 H2 := by rw [hH2]; exact same_upd nq
  have rp2 := rp1.same sm2
  have at2 : H2 q = some (SetS X.prog X.w q xs) := by rw [hH2]; exact upd_same
  have nspq : ¬ Γ.sp q := fun z => by
    rcases rp1.base.sp_lst z with ⟨_, w⟩ | ⟨_, w⟩ <;> (rw [nq] at w; cases w)
  have okb : ∀ H, (Γ.blk H).Ok S := fun _ => ⟨okΓ.k, okΓ.b, okΓ.t⟩
  refine ⟨Γ.blk H2, shutE E1, _, okb H2, rp2.enter, hq, fun es E2 ⟨f, fewE, step, fin⟩ J H3 kq3 rp3' it => fun D nD => ?_⟩
  have rp3 : Rep Γ ⟨E1.l, E2.c⟩ σ H3 := rp2.leave rp3'.base rp3'.few
  have at3 : H3 q = some (SetS X.prog X.w q xs) := rp3'.base.ext q _ nspq (by simp) at2
  obtain ⟨frD, loD⟩ := rp3.fresh nD
  have neD : q ≠ D := fun z => by rw [← z, at3] at nD; cases nD
  have sm3 := same_upd (o := SetS X.prog X.w D []) nD
  refine ⟨fun i m H' => m = es.length - i ∧ i ≤ es.length ∧ H' D = some (SetS X.prog X.w D ((List.range i).map f)) ∧ H' q = some (SetS X.prog X.w q xs) ∧ Kq H3 H' ∧ Rep Γ ⟨E1.l, E2.c⟩ σ H', ⟨_, rfl, Nat.zero_le _, upd_same, sm3 _ _ at3, .same sm3, rp3.same sm3⟩, ?_⟩
  rintro i m H4 ⟨rfl, hi4, atD, atq, kq4, rp4⟩
  by_cases lt : i < es.length
  · refine .inr ⟨it.go i H4 lt kq4, fun H5 => i + 1 ≤ es.length ∧ H5 D = some (SetS X.prog X.w D ((List.range (i + 1)).map f)) ∧ H5 q = some (SetS X.prog X.w q xs) ∧ Kq H3 H5 ∧ Rep Γ ⟨E1.l, E2.c⟩ σ H5, fun H5 h => ⟨_, by omega, rfl, h⟩, fun x H5 y => ?_⟩
    obtain ⟨d, ed, rd, sm⟩ := it.yld i H4 x H5 lt kq4 y
    have rp5 := rp4.same sm
    refine ⟨Γ.blk H5, blkE ⟨E1.l, E2.c⟩ (own.map fun x : PySem.Str × Nat => x.2), d, _, okb H5, rp5.enter.wipe (own.map fun x : PySem.Str × Nat => x.2), rd, step i d ed, fun E6 q6 σ6 r6 o6 => ⟨wipe_only o6, ?_⟩⟩
    refine ⟨Γ.blk H5, E6, _, okb H5, r6, q6, fun z E7 ⟨ez, ec⟩ v7 H7 kq7 r7 hv7 => ?_⟩
    subst ez
    cases hv7
    have at7 : H7 D = some (SetS X.prog X.w D ((List.range i).map f)) := r7.base.ext D _ frD.nsp (by simp) (sm _ _ atD)
    have rl : Rep Γ ⟨E1.l, E2.c⟩ σ H7 := by
      have := rp5.leave r7.base r7.few
      rwa [ec] at this
    have mu : Mut (some (SetS X.prog X.w D ((List.range i).map f))) := trivial
    have er : (List.range (i + 1)).map f = (List.range i).map f ++ [f i] := by rw [List.range_succ, List.map_append]; rfl
    refine ⟨f i, (List.range i).map f, rfl, at7, by rw [List.length_map, List.length_range]; exact Nat.lt_of_lt_of_le (Nat.succ_lt_succ (Nat.lt_trans lt fewE)) (by decide), lt, ?_, ?_, ?_, ?_⟩
    · rw [er]; exact upd_same
    · rw [upd_ne neD]
      exact r7.base.ext q _ nspq (by simp) (sm _ _ atq)
    · exact ((kq4.trans (.same sm)).trans kq7).trans (.upd at7 mu)
    · exact rl.lone at7 mu frD loD
  · have ei : i = es.length := by omega
    subst ei
    refine .inl ⟨it.stop H4 kq4, ?_⟩
    refine ⟨q, D, xs, _, rfl, rfl, neD, atq, atD, zz, by rw [List.length_map, List.length_range]; omega, fun r nr => ?_⟩
    refine ⟨r, _, rfl, upd_same, fun ss w sortd nd mem nw => ?_⟩
    have sm5 := same_upd (o := SetL X.prog X.w r (xs.filter fun k => decide (k ∉ (List.range es.length).map f))) nr
    have rp5 := rp4.same sm5
    have sm6 := same_upd (o := .lst (ss.map V.str)) nw
    refine k _ _ (fin ss sortd nd fun y => ?_) _ _ (((kq1.trans (.same sm2)).trans kq3).trans ((kq4.trans (.same sm5)).trans (.same sm6))) (rp5.same sm6) (RpN.rep (x := .fl _) rp5 sm6 ⟨w, _, rfl, nw, upd_same, strs_rp2 ss⟩)
    rw [mem, List.mem_filter, decide_eq_true_eq]
end
end Va

set_option Elab.async false
set_option linter.all false
set_option maxRecDepth 100000
set_option maxHeartbeats 4000000
namespace Va
open PySem PySem.Spec PyProof.Rows L2 Ind RowK
/-! ### list({row: True for row in rows}), by values -/
/-- each once, where it stands first -/
def onc {α : Type} [DecidableEq α] : List α → List α → List α
  | acc, [] => acc
  | acc, r :: l => if r ∈ acc then onc acc l else onc (acc ++ [r]) l
theorem onc_in {α : Type} [DecidableEq α] {r : α} {A : List α} (h : r ∈ A) : onc A [r] = A := by
  show (if r ∈ A then onc A [] else onc (A ++ [r]) []) = A
  rw [if_pos h]
  rfl
theorem onc_out {α : Type} [DecidableEq α] {r : α} {A : List α} (h : r ∉ A) : onc A [r] = A ++ [r] := by
  show (if r ∈ A then onc A [] else onc (A ++ [r]) []) = _
  rw [if_neg h]
  rfl
theorem onc_snoc {α : Type} [DecidableEq α] (r : α) : ∀ (l acc : List α), onc acc (l ++ [r]) = onc (onc acc l) [r]
  | [], acc => rfl
  | x :: l, acc => by
    show (if x ∈ acc then onc acc (l ++ [r]) else onc (acc ++ [x]) (l ++ [r])) = onc (if x ∈ acc then onc acc l else onc (acc ++ [x]) l) [r]
    by_cases h : x ∈ acc
    · rw [if_pos h, if_pos h, onc_snoc r l acc]
    · rw [if_neg h, if_neg h, onc_snoc r l (acc ++ [x])]
theorem onc_mem {α : Type} [DecidableEq α] {r : α} : ∀ {l acc : List α}, r ∈ onc acc l ↔ r ∈ acc ∨ r ∈ l
  | [], acc => by
    show r ∈ acc ↔ _
    simp
  | x :: l, acc => by
    show r ∈ (if x ∈ acc then onc acc l else onc (acc ++ [x]) l) ↔ _
    by_cases h : x ∈ acc
    · rw [if_pos h, onc_mem, List.mem_cons]
      exact ⟨fun z => z.imp id .inr, fun z => z.elim .inl fun z => z.elim (fun e => .inl (e ▸ h)) .inr⟩
    · rw [if_neg h, onc_mem, List.mem_append, List.mem_singleton, List.mem_cons, or_assoc]
def rowD (r : List Cell) : D := .tup (r.map cellD)
section
variable {K : PySem.W.Frag} {tp : Option Tp} {H H' : Hp} {D b : Addr} {xs : List (List Key × Addr × Value)} {r : List Key} {v : Value}
theorem atKey_some {xs : List (List Key × Addr × Value)} : (atKey xs r).isSome = true ↔ r ∈ xs.map (·.1) := by
  unfold atKey
  rw [Option.isSome_map, List.find?_isSome, List.mem_map]
  simp
theorem stored_keys : (storedH xs r b v).map (·.1) = onc (xs.map (·.1)) [r] := by
  unfold storedH
  by_cases h : r ∈ xs.map (·.1)
  · rw [if_pos (atKey_some.mpr h), onc_in h, List.map_map]
    refine List.map_congr_left fun x _ => ?_
    show (putAt r v x).1 = x.1
    unfold putAt
    split <;> rfl
  · rw [if_neg (fun z => h (atKey_some.mp z)), onc_out h, List.map_append]
    rfl
theorem stored_in (h : KeysIn K H xs) (hb : SqT K H b (r.map kV)) : KeysIn K H (storedH xs r b v) := by
  unfold storedH
  split
  · intro x hx
    obtain ⟨y, hy, rfl⟩ := List.mem_map.mp hx
    have := h y hy
    unfold putAt
    split <;> exact this
  · intro x hx
    rcases List.mem_append.mp hx with hx | hx
    · exact h x hx
    · rw [List.mem_singleton.mp hx]
      exact hb
theorem cells_v : ∀ {r : List Cell} {vs : List V}, RpL K tp H vs (r.map cellD) → vs = r.map kV
  | [], _, h => by cases h; rfl
  | c :: r, _, h => by
    cases h with
    | cons h1 h2 => rw [cell_v h1, cells_v h2]; rfl
theorem rp_cells : ∀ r : List Cell, RpL K tp H (r.map kV) (r.map cellD)
  | [] => .nil
  | .inl i :: r => .cons (.int i) (rp_cells r)
  | .inr x :: r => .cons (.str x) (rp_cells r)
theorem row_inv {u : V} {r : List Cell} (h : Rp K tp H u (rowD r)) : ∃ b, u = .ref b ∧ SqT K H b (r.map kV) := by
  cases h with
  | tup hs ha =>
    rw [cells_v ha] at hs
    exact ⟨_, rfl, hs⟩
theorem rp_keys : ∀ {xs : List (List Key × Addr × Value)}, KeysIn K H xs → RpL K tp H (xs.map fun x => V.ref x.2.1) ((xs.map (·.1)).map rowD)
  | [], _ => .nil
  | x :: xs, h => .cons (.tup (h x List.mem_cons_self) (rp_cells _)) (rp_keys fun y hy => h y (List.mem_cons_of_mem _ hy))
theorem KeysIn.kq (k : Kq H H') (h : KeysIn K H xs) : KeysIn K H' xs := fun x hx => k.sqT (h x hx)
end
theorem hu0 {k : Nat} {A : Around} (r : Room k A) : A.units < cLine := by have := r.un; omega
def vListKeys (vi : VI) (g : VG) (kl : VT) (vs : List Nat) : FT := fun E Q => vi (shutE E) fun es E2 => ∃ f : Nat → List Cell, es.length < 1000 ∧ (∀ i d, es[i]? = some d → g d (blkE ⟨E.l, E2.c⟩ vs) fun E3 => kl E3 fun y E4 => y = rowD (f i) ∧ E4.c = E2.c) ∧
  Q (.fl ((onc [] ((List.range es.length).map f)).map rowD)) ⟨E.l, E2.c⟩
theorem onc_le {α : Type} [DecidableEq α] : ∀ (l acc : List α), (onc acc l).length ≤ acc.length + l.length
  | [], acc => Nat.le_refl _
  | x :: l, acc => by
    show (if x ∈ acc then onc acc l else onc (acc ++ [x]) l).length ≤ _
    split
    · have := onc_le l acc
      rw [List.length_cons]
      omega
    · have := onc_le l (acc ++ [x])
      rw [List.length_append] at this
      rw [List.length_cons]
      simp at this
      omega
section
variable {X : Cx} {S : Sg} {kx tg iter : Expr} {scope : Scope} {own : List (PySem.Str × Nat)} {p0 pos2 pos4 : Pos} {bv : Bool} {bj : Nat} {bp : Pos} {vi : VI} {g : VG} {kl : VT}
theorem fe_listKeys (hK : S.K = X.K) (calm : X.calm = true) (hN : X.N.Nodup) (hu : X.A.units < cLine) (g1 : Gl X "list") (m1 : X.mg "list" = none) (b1 : bootBuiltins "list" = some (.type "list"))
    (hi : VIt S X tg iter vi) (ok : BlkOk X.N X.env.scope scope own)
    (hg : ∀ (s : Shared) (H : Hp) (C : Addr) (cl : List (PySem.Str × Addr)) (fp : List Addr), PG (X.blk s H scope (compEnvC scope cl C X.env) fp) tg (liftG S (own.map (·.2)) g))
    (hkl : ∀ (s : Shared) (H : Hp) (C : Addr) (cl : List (PySem.Str × Addr)) (fp : List Addr), VE S (X.blk s H scope (compEnvC scope cl C X.env) fp) kx kl) (hs : ∀ x, foldedSetIterable iter X.env x = pure x := by intro _; rfl) :
    FE S X (.Call (.Name "list" p0) [.DictComp kx (.Constant (.bool bv) bj bp) [⟨tg, iter, [], 0⟩] scope pos2] [] pos4) (vListKeys vi g kl (own.map (·.2))) := by
  have a2 := pe_dcR (pos := pos2) calm hN hi ok hg hkl (fun _ _ _ _ _ => pe_bl (b := bv) (j := bj) (pos := bp)) hu hs
  refine pe_weak (pe_callTy (cr_listDicR calm) g1 m1 b1 (pa_cons a2 pa_nil)) ?_
  rintro σ H1 Q ⟨Γ, E1, Q0, okΓ, rp1, ht, k⟩
  have eK : X.K = Γ.K := hK.symm.trans okΓ.k.symm
  have okb : ∀ H, (Γ.blk H).Ok S := fun _ => ⟨okΓ.k, okΓ.b, okΓ.t⟩
  refine ⟨Γ.blk H1, shutE E1, _, okb H1, rp1.enter, ht, fun es E2 ⟨f, fewE, step, fin⟩ J H3 kq3 rp3' it => fun D nD => ?_⟩
  have rp3 : Rep Γ ⟨E1.l, E2.c⟩ σ H3 := rp1.leave rp3'.base rp3'.few
  obtain ⟨frD, loD⟩ := rp3.fresh nD
  have sm3 := same_upd (o := DicR X.prog X.w D []) nD
  refine ⟨fun i m H' => m = es.length - i ∧ i ≤ es.length ∧ ∃ xs, H' D = some (DicR X.prog X.w D xs) ∧ KeysIn Γ.K H' xs ∧ xs.map (·.1) = onc [] ((List.range i).map f) ∧ Kq H3 H' ∧ Rep Γ ⟨E1.l, E2.c⟩ σ H', ⟨_, rfl, Nat.zero_le _, [], upd_same, (fun _ h => nomatch h), rfl, .same sm3, rp3.same sm3⟩, ?_⟩
  rintro i m H4 ⟨rfl, hi4, xs, atD, kin, keys, kq4, rp4⟩
  have xl : xs.length ≤ i := by
    have := onc_le ((List.range i).map f) []
    rw [← keys] at this
    simpa using this
  by_cases lt : i < es.length
  · refine .inr ⟨it.go i H4 lt kq4, fun H5 => i + 1 ≤ es.length ∧ ∃ xs, H5 D = some (DicR X.prog X.w D xs) ∧ KeysIn Γ.K H5 xs ∧ xs.map (·.1) = onc [] ((List.range (i + 1)).map f) ∧ Kq H3 H5 ∧ Rep Γ ⟨E1.l, E2.c⟩ σ H5, fun H5 h => ⟨_, by omega, rfl, h⟩, fun x H5 y => ?_⟩
    obtain ⟨d, ed, rd, sm⟩ := it.yld i H4 x H5 lt kq4 y
    have rp5 := rp4.same sm
    refine ⟨Γ.blk H5, blkE ⟨E1.l, E2.c⟩ (own.map fun x : PySem.Str × Nat => x.2), d, _, okb H5, rp5.enter.wipe (own.map fun x : PySem.Str × Nat => x.2), rd, step i d ed, fun E6 q6 σ6 r6 o6 => ⟨wipe_only o6, ?_⟩⟩
    refine ⟨Γ.blk H5, E6, _, okb H5, r6, q6, fun z E7 ⟨ez, ec⟩ v7 H7 kq7 r7 hv7 => ?_⟩
    subst ez
    obtain ⟨b, rfl, hb⟩ := row_inv hv7
    have at7 : H7 D = some (DicR X.prog X.w D xs) := r7.base.ext D _ frD.nsp (by simp) (sm _ _ atD)
    have rl : Rep Γ ⟨E1.l, E2.c⟩ σ H7 := by
      have := rp5.leave r7.base r7.few
      rwa [ec] at this
    have kin7 : KeysIn Γ.K H7 xs := KeysIn.kq kq7 (KeysIn.kq (.same sm) kin)
    have mu : Mut (some (DicR X.prog X.w D xs)) := trivial
    have er : (List.range (i + 1)).map f = (List.range i).map f ++ [f i] := by rw [List.range_succ, List.map_append]; rfl
    show ∃ _, _
    refine ⟨b, f i, xs, rfl, by rw [eK]; exact hb, at7, by rw [eK]; exact kin7, Nat.le_trans (Nat.le_trans xl hi4) (Nat.le_trans (Nat.le_of_lt fewE) (by decide)), fun v => ⟨lt, storedH xs (f i) b v, upd_same, ?_, ?_, ?_, ?_⟩⟩
    · exact KeysIn.kq (.upd at7 mu) (stored_in kin7 hb)
    · rw [stored_keys, keys, er, onc_snoc]
    · exact ((kq4.trans (.same sm)).trans kq7).trans (.upd at7 mu)
    · exact rl.lone at7 mu frD loD
  · have ei : i = es.length := by omega
    subst ei
    refine .inl ⟨it.stop H4 kq4, ?_⟩
    refine ⟨D, xs, rfl, atD, Nat.le_trans xl (Nat.le_trans (Nat.le_of_lt fewE) (by decide)), fun w nw => ?_⟩
    have sm6 := same_upd (o := .lst (xs.map fun x => V.ref x.2.1)) nw
    refine k _ _ fin _ _ ((kq3.trans kq4).trans (.same sm6)) (rp4.same sm6) (RpN.rep (x := .fl _) rp4 sm6 ⟨w, _, rfl, nw, upd_same, ?_⟩)
    rw [← keys]
    exact RpL.kq (.same sm6) _ _ (rp_keys kin)
end
end Va

set_option Elab.async false
set_option linter.all false
set_option maxRecDepth 100000
set_option maxHeartbeats 4000000
namespace Va
open PySem PySem.Spec PyProof.Rows L2 Ind
/-! ### x += int; a tuple that is written as a constant -/
section
variable {X : Cx} {S : Sg} {e : Expr} {pos : Pos}
def asI (d : D) (Q : Int → Prop) : Prop := match d with
  | .int i => Q i
  | _ => False
theorem asI_inv {d : D} {Q : Int → Prop} (h : asI d Q) : ∃ i, d = .int i ∧ Q i := by
  cases d with
  | int i => exact ⟨i, rfl, h⟩
  | _ => exact h.elim
def sAug (i : Nat) (t : VT) : VS := fun V E => withD (match E.l[i]? with | some (.v d) => some d | _ => none) fun d => asI d fun a => t E fun d2 E1 => asI d2 fun b => V.nx (E1.set i (.v (.int (a + b))))
theorem vs_aug {i : Nat} {x : PySem.Str} {t : VT} {pos' : Pos} (hN : X.N.Nodup) (hi : X.N[i]? = some x) (hx : Loc X.env.scope x) (he : VE S X e t) (hf : X.fn x = true ∨ X.env.scope.names.lookup x = some .local := by first | exact .inl rfl | exact .inr rfl | assumption) : VSt S X (.AugAssign (.Name x pos') .Add e pos) (sAug i t) := by
  refine ps_weak (ps_aug hN hi hx he ip_add hf) ?_
  rintro D σ H ⟨Γ, E, Vv, ok, r, h, k⟩
  unfold sAug at h
  cases hE : E.l[i]? with
  | none => rw [hE] at h; exact h.elim
  | some s =>
    rw [hE] at h
    cases s with
    | v d =>
      obtain ⟨a, rfl, h⟩ := asI_inv h
      obtain ⟨o, h1, v, h2, hv⟩ := r.sl i _ hE
      subst h2
      cases hv
      refine ⟨_, h1, Γ, E, _, ok, r, h, fun d2 E1 hq v H1 q1 r1 hv => ?_⟩
      obtain ⟨b, rfl, hq⟩ := asI_inv hq
      cases hv
      exact ⟨a, b, rfl, rfl, k.nx _ hq _ _ q1 (r1.set i (.int _))⟩
    | _ => exact h.elim
theorem ve_ct {a : Addr} {vs : List V} {ds : List D} (h : PE X e (tC (.ref a))) (hK : S.K = X.K) (q : ∀ H, SqT X.K H a vs) (r : ∀ (K : PySem.W.Frag) (tp : Option Tp) (H : Hp), RpL K tp H vs ds) : VE S X e (vC (.tup ds)) := by
  refine pe_weak h ?_
  rintro σ H Q ⟨Γ, E, Q0, ok, rp, ht, k⟩
  have eK : X.K = Γ.K := (ok.k.trans hK).symm
  exact k _ _ ht _ _ (Kq.refl _) rp (.tup (by rw [← eK]; exact q H) (r _ _ _))
end
/-! the text of a class's first def -/
def clsInit : Stmt → Stmt
  | .ClassDef (body := st :: _) .. => st
  | st => st
end Va

set_option Elab.async false
set_option linter.all false
set_option maxRecDepth 100000
set_option maxHeartbeats 4000000
namespace Va
open PySem PySem.Spec PyProof.Rows L2 Ind
/-! ### a plain tuple + a tuple: a plain tuple -/
section
variable {X : Cx} {S : Sg}
theorem op_catP : OpR X (binaryOp .Add) (fun x y H Q => ∃ a b xs ys, x = .ref a ∧ y = .ref b ∧ SqT X.K H a xs ∧ SqT X.K H b ys ∧ xs ≠ [] ∧ ys ≠ [] ∧ xs.length + ys.length ≤ sizeLine ∧ ∀ l o, H l = none → o.dict = none → Q (.ref l) (upd H l (.frz o (.tup (xs ++ ys))))) := by
  intro pins s σ H x y v u Q I rx ry h
  obtain ⟨a, b, xs, ys, rfl, rfl, ha, hb, hx, hy, hz, q⟩ := h
  cases rx
  cases ry
  obtain ⟨its, r1, p1, _⟩ := I.tuple ha
  obtain ⟨its2, r2, p2, _⟩ := I.tuple hb
  refine HT.cat_tup p1 p2 (fun z => hx (r1.nil_iff.mp z)) (fun z => absurd (r2.nil_iff.mp z) hy) (fun z => ?_) (by rw [← r1.length, ← r2.length]; exact hz)
  let o : Obj := { cls := .type "tuple", data := .seq (its ++ its2).toArray }
  have at_ : (s.heap.push o).get? s.heap.objs.size = some o := Heap.get?_push_size _ rfl
  refine ⟨.ref s.heap.objs.size, _, I.laid (t' := s.toks) (o := .frz o (.tup (xs ++ ys))) (fun b ob q => Heap.get?_push_of_some _ q) (Nat.le_refl _) ?_, rfl, q _ o (I.hok.fresh (Nat.le_refl _)) rfl⟩
  exact ⟨at_, by rw [List.length_append]; exact hz, _, r1.append r2, IsTup.new _ _⟩
def addP : VO := fun d e Q => match d, e with
  | .ptp xs, .tup ys => xs ≠ [] ∧ ys ≠ [] ∧ xs.length + ys.length ≤ 1000000 ∧ Q (.v (.ptp (xs ++ ys)))
  | d, e => addG d e Q
theorem o_addP (hK : S.K = X.K) : OpV S X (binaryOp .Add) addP := by
  obtain ⟨R, hR, h⟩ := o_add (X := X) (S := S) hK
  refine ⟨_, hR.or op_catP, ?_⟩
  intro Γ H x y d e Q Q0 eK hx hy hg k
  have eK' : X.K = Γ.K := (eK.trans hK).symm
  unfold addP at hg
  split at hg
  · obtain ⟨a, o1, xs, rfl, h1, _, h2⟩ := (show Rp Γ.K Γ.tp H x (.ptp _) by cases hx with | v h => exact h).ptp_inv
    obtain ⟨b, ys, rfl, h3, h4⟩ := hy.tup
    obtain ⟨n1, n2, hz, hg⟩ := hg
    refine .inr ⟨a, b, xs, ys, rfl, rfl, ?_, by rw [eK']; exact h3, ?_, ?_, million (by rw [h2.len, h4.len]; exact hz), fun l o nl nd => ?_⟩
    · exact .inl (.inr ⟨_, h1⟩)
    · intro z; subst z; cases h2; exact n1 rfl
    · intro z; subst z; cases h4; exact n2 rfl
    · have sm := same_upd (o := .frz o (.tup (xs ++ ys))) nl
      exact k _ hg _ _ sm (.ptp upd_same nd (RpL.kq (.same sm) _ _ (h2.app h4)))
  · exact .inl (h _ _ _ _ _ _ _ _ eK hx hy hg k)
/-! ### text * int -/
def repT (x : Tx) (n : Nat) : Tx := ⟨(List.replicate n x.cps).foldl (· ++ ·) #[]⟩
theorem op_mulS : OpR X (binaryOp .Mult) (fun x y H Q => ∃ i n, x = .str i ∧ y = .int n ∧ 2 ≤ n ∧ n ≤ 1000 ∧ 1 ≤ i.length ∧ i.length ≤ 1000 ∧ (repT i n.toNat).length ≤ 1000000 ∧ Q (.str (repT i n.toNat)) H) := by
  intro pins s σ H x y v u Q I rx ry h
  obtain ⟨i, n, rfl, rfl, h1, h2, h3, h4, h5, q⟩ := h
  obtain ⟨t, rfl⟩ := rx
  obtain ⟨t', rfl⟩ := ry
  have c1 : ¬ n < 1 := by omega
  have c2 : (n == 1 || i.length == 0) = false := by
    rw [Bool.or_eq_false_iff]
    exact ⟨by rw [beq_eq_false_iff_ne]; omega, by rw [beq_eq_false_iff_ne]; omega⟩
  refine PySem.P.mul_str (by rw [decide_eq_false (by omega), decide_eq_false (by omega)]; rfl) (fun _ _ z => ?_) (fun _ _ => ?_) ?_
  · have : (1000 : Int) ≤ (2 ^ 63 - 1) / n := Int.le_ediv_of_mul_le (by omega) (by omega)
    omega
  · have : i.length * n.toNat ≤ 1000 * 1000 := Nat.mul_le_mul h4 (by omega)
    exact decide_eq_false (Nat.not_lt.mpr (million (by omega)))
  · rw [if_neg c1, if_neg (by rw [c2]; exact Bool.false_ne_true)]
    exact ⟨million h5, .str (repT i n.toNat), H, I.tok _, ⟨_, rfl⟩, q⟩
def mulS : VO := fun d e Q => match d, e with
  | .str x, .int n => 2 ≤ n ∧ n ≤ 1000 ∧ 1 ≤ x.length ∧ x.length ≤ 1000 ∧ (repT x n.toNat).length ≤ 1000000 ∧ Q (.v (.str (repT x n.toNat)))
  | _, _ => False
theorem o_mulS : OpV S X (binaryOp .Mult) mulS := by
  refine ⟨_, op_mulS, ?_⟩
  intro Γ H x y d e Q Q0 eK hx hy hg k
  unfold mulS at hg
  split at hg
  · exact ⟨_, _, hx.str, hy.int, hg.1, hg.2.1, hg.2.2.1, hg.2.2.2.1, hg.2.2.2.2.1, k _ hg.2.2.2.2.2 _ _ (Same.refl _) (.str _)⟩
  · exact hg.elim
end
end Va

set_option Elab.async false
set_option linter.all false
set_option maxRecDepth 100000
set_option maxHeartbeats 4000000
namespace Va
open PySem PySem.Spec PyProof.Rows L2 Ind
def top (i : Nat) : Stmt := PySem.Challenge.pw_indoubt_k01_rows_in_order.main.body.getD i (.Pass ⟨0, 0, 0, 0⟩)
abbrev s_sorted_rows : Stmt := top 1
abbrev N_sorted_rows : List Str := ["rows", "different", "row"]
theorem sc_sorted_rows : FnScope N_sorted_rows ["rows"] (defScope s_sorted_rows) := ⟨rfl, rfl, rfl, by decide +kernel, rfl, by decide +kernel, by decide +kernel⟩
abbrev s__value_key : Stmt := top 2
abbrev N__value_key : List Str := ["value"]
theorem sc__value_key : FnScope N__value_key ["value"] (defScope s__value_key) := ⟨rfl, rfl, rfl, by decide +kernel, rfl, by decide +kernel, by decide +kernel⟩
abbrev s__row_key : Stmt := top 3
abbrev N__row_key : List Str := ["row", "value"]
theorem sc__row_key : FnScope N__row_key ["row"] (defScope s__row_key) := ⟨rfl, rfl, rfl, by decide +kernel, rfl, by decide +kernel, by decide +kernel⟩
abbrev s__law_tape : Stmt := top 5
abbrev N__law_tape : List Str := ["script", "total", "cell"]
theorem sc__law_tape : FnScope N__law_tape ["script"] (defScope s__law_tape) := ⟨rfl, rfl, rfl, by decide +kernel, rfl, by decide +kernel, by decide +kernel⟩
abbrev s__law_draw : Stmt := top 6
abbrev N__law_draw : List Str := ["tape", "many", "place", "number"]
theorem sc__law_draw : FnScope N__law_draw ["tape", "many"] (defScope s__law_draw) := ⟨rfl, rfl, rfl, by decide +kernel, rfl, by decide +kernel, by decide +kernel⟩
abbrev s__law_signs : Stmt := top 7
abbrev N__law_signs : List Str := ["signs"]
theorem sc__law_signs : FnScope N__law_signs [] (defScope s__law_signs) := ⟨rfl, rfl, rfl, by decide +kernel, rfl, by decide +kernel, by decide +kernel⟩
abbrev s__law_text : Stmt := top 8
abbrev N__law_text : List Str := ["tape", "number", "share", "text", "k"]
theorem sc__law_text : FnScope N__law_text ["tape"] (defScope s__law_text) := ⟨rfl, rfl, rfl, by decide +kernel, rfl, by decide +kernel, by decide +kernel⟩
abbrev s__law_any : Stmt := top 9
abbrev N__law_any : List Str := ["tape", "number", "share"]
theorem sc__law_any : FnScope N__law_any ["tape"] (defScope s__law_any) := ⟨rfl, rfl, rfl, by decide +kernel, rfl, by decide +kernel, by decide +kernel⟩
abbrev s__law_near : Stmt := top 10
abbrev N__law_near : List Str := ["tape", "value", "at", "sign"]
theorem sc__law_near : FnScope N__law_near ["tape", "value"] (defScope s__law_near) := ⟨rfl, rfl, rfl, by decide +kernel, rfl, by decide +kernel, by decide +kernel⟩
abbrev s__law_rows : Stmt := top 11
abbrev N__law_rows : List Str := ["tape", "width", "rows", "k", "share", "row", "at", "i"]
theorem sc__law_rows : FnScope N__law_rows ["tape"] (defScope s__law_rows) := ⟨rfl, rfl, rfl, by decide +kernel, rfl, by decide +kernel, by decide +kernel⟩
abbrev s__law_comes_before : Stmt := top 12
abbrev N__law_comes_before : List Str := ["left", "right", "signs", "k"]
theorem sc__law_comes_before : FnScope N__law_comes_before ["left", "right"] (defScope s__law_comes_before) := ⟨rfl, rfl, rfl, by decide +kernel, rfl, by decide +kernel, by decide +kernel⟩
abbrev s__law_row_before : Stmt := top 13
abbrev N__law_row_before : List Str := ["left", "right", "k"]
theorem sc__law_row_before : FnScope N__law_row_before ["left", "right"] (defScope s__law_row_before) := ⟨rfl, rfl, rfl, by decide +kernel, rfl, by decide +kernel, by decide +kernel⟩
abbrev s_law : Stmt := top 14
abbrev N_law : List Str := ["script", "tape", "rows", "told", "row", "shown", "k", "again"]
theorem sc_law : FnScope N_law ["script"] (defScope s_law) := ⟨rfl, rfl, rfl, by decide +kernel, rfl, by decide +kernel, by decide +kernel⟩
structure Txt (P : Program) (K : PySem.W.Frag) (mg : Str → Option Value) where
  a_sorted_rows : Addr
  d_sorted_rows : FuncData
  F_sorted_rows : Fun K "sorted_rows" "sorted_rows" s_sorted_rows a_sorted_rows d_sorted_rows
  b_sorted_rows : Binds K d_sorted_rows ["rows"] []
  g_sorted_rows : mg "sorted_rows" = some (.ref a_sorted_rows)
  a__value_key : Addr
  d__value_key : FuncData
  F__value_key : Fun K "_value_key" "_value_key" s__value_key a__value_key d__value_key
  b__value_key : Binds K d__value_key ["value"] []
  g__value_key : mg "_value_key" = some (.ref a__value_key)
  a__row_key : Addr
  d__row_key : FuncData
  F__row_key : Fun K "_row_key" "_row_key" s__row_key a__row_key d__row_key
  b__row_key : Binds K d__row_key ["row"] []
  g__row_key : mg "_row_key" = some (.ref a__row_key)
  a__law_tape : Addr
  d__law_tape : FuncData
  F__law_tape : Fun K "_law_tape" "_law_tape" s__law_tape a__law_tape d__law_tape
  b__law_tape : Binds K d__law_tape ["script"] []
  g__law_tape : mg "_law_tape" = some (.ref a__law_tape)
  a__law_draw : Addr
  d__law_draw : FuncData
  F__law_draw : Fun K "_law_draw" "_law_draw" s__law_draw a__law_draw d__law_draw
  b__law_draw : Binds K d__law_draw ["tape", "many"] []
  g__law_draw : mg "_law_draw" = some (.ref a__law_draw)
  a__law_signs : Addr
  d__law_signs : FuncData
  F__law_signs : Fun K "_law_signs" "_law_signs" s__law_signs a__law_signs d__law_signs
  b__law_signs : Binds K d__law_signs [] []
  g__law_signs : mg "_law_signs" = some (.ref a__law_signs)
  a__law_text : Addr
  d__law_text : FuncData
  F__law_text : Fun K "_law_text" "_law_text" s__law_text a__law_text d__law_text
  b__law_text : Binds K d__law_text ["tape"] []
  g__law_text : mg "_law_text" = some (.ref a__law_text)
  a__law_any : Addr
  d__law_any : FuncData
  F__law_any : Fun K "_law_any" "_law_any" s__law_any a__law_any d__law_any
  b__law_any : Binds K d__law_any ["tape"] []
  g__law_any : mg "_law_any" = some (.ref a__law_any)
  a__law_near : Addr
  d__law_near : FuncData
  F__law_near : Fun K "_law_near" "_law_near" s__law_near a__law_near d__law_near
  b__law_near : Binds K d__law_near ["tape", "value"] []
  g__law_near : mg "_law_near" = some (.ref a__law_near)
  a__law_rows : Addr
  d__law_rows : FuncData
  F__law_rows : Fun K "_law_rows" "_law_rows" s__law_rows a__law_rows d__law_rows
  b__law_rows : Binds K d__law_rows ["tape"] []
  g__law_rows : mg "_law_rows" = some (.ref a__law_rows)
  a__law_comes_before : Addr
  d__law_comes_before : FuncData
  F__law_comes_before : Fun K "_law_comes_before" "_law_comes_before" s__law_comes_before a__law_comes_before d__law_comes_before
  b__law_comes_before : Binds K d__law_comes_before ["left", "right"] []
  g__law_comes_before : mg "_law_comes_before" = some (.ref a__law_comes_before)
  a__law_row_before : Addr
  d__law_row_before : FuncData
  F__law_row_before : Fun K "_law_row_before" "_law_row_before" s__law_row_before a__law_row_before d__law_row_before
  b__law_row_before : Binds K d__law_row_before ["left", "right"] []
  g__law_row_before : mg "_law_row_before" = some (.ref a__law_row_before)
  a_law : Addr
  d_law : FuncData
  F_law : Fun K "law" "law" s_law a_law d_law
  b_law : Binds K d_law ["script"] []
  g_law : mg "law" = some (.ref a_law)
  z_abs : mg "abs" = none
  z_int : mg "int" = none
  z_isinstance : mg "isinstance" = none
  z_len : mg "len" = none
  z_list : mg "list" = none
  z_max : mg "max" = none
  z_min : mg "min" = none
  z_range : mg "range" = none
  z_repr : mg "repr" = none
  z_reversed : mg "reversed" = none
  z_sorted : mg "sorted" = none
  z_str : mg "str" = none
  z_tuple : mg "tuple" = none
abbrev Sx {P : Program} {K : PySem.W.Frag} {mg : PySem.Str → Option Value} (T : Txt P K mg) : Sg := ⟨K, false, []⟩
end Va

set_option Elab.async false
set_option linter.all false
set_option maxRecDepth 100000
set_option maxHeartbeats 4000000
namespace Va
open PySem PySem.Spec PyProof.Rows L2 Ind
local macro_rules | `(tactic| walk_at "cn") => `(tactic| first
  | assumption
  | omega
  | exact dm (by omega)
  | exact line (by simp)
  | exact line (by omega)
  | exact line (by simp only [len_app, len_one]; omega)
  | exact small_div (by omega) (by omega)
  | solve_by_elim
  | exact Or.inr ⟨by omega, by omega⟩
  | exact Or.inl ⟨by omega, by omega⟩
  | exact ⟨by omega, by omega⟩
  | decide)
local macro_rules | `(tactic| walk_at "st") => `(tactic| repeat (first
  | refine ⟨_, rfl, ?_⟩
  | refine ⟨_, _, rfl, rfl, ?_⟩
  | refine ⟨_, _, rfl, ?_⟩
  | refine .inl ⟨_, rfl, ?_⟩
  | refine And.intro rfl ?_
  | refine And.intro (by walk_at "cn") ?_))
local macro_rules | `(tactic| walk_at "fz") => `(tactic| repeat (first | exact Fz.refl | apply Fz.upd))
local macro_rules | `(tactic| walk_at "hl") => `(tactic| ((repeat rw [upd_ne (by assumption)]); assumption))
local macro_rules | `(tactic| walk_at "fy") => `(tactic| (intro b o n1 h; (repeat rw [upd_ne n1]); exact h))
local macro_rules | `(tactic| walk_at "wh") => `(tactic| (conv => whnf))
local macro_rules | `(tactic| walk_at "cv") => `(tactic| first
  | rfl
  | assumption
  | omega
  | exact dm (by omega)
  | exact small_div (by omega) (by omega)
  | (simp only [len_app, one_len, len_one, List.length_append, List.length_map, List.length_cons, List.length_nil]; omega)
  | exact Or.inr ⟨by omega, by omega⟩
  | exact Or.inl ⟨by omega, by omega⟩
  | exact ⟨by omega, by omega⟩
  | decide)
local macro_rules | `(tactic| walk_at "vv") => `(tactic| repeat (refine And.intro (by walk_at "cv") ?_))
local macro_rules | `(tactic| walk_at "sk") => `(tactic| repeat (first
  | refine wayT ?_
  | refine wayF ?_
  | refine skipT (by omega) ?_
  | refine skipF (by omega) ?_
  | refine skipT (by decide) ?_
  | refine skipF (by decide) ?_
  | refine ⟨_, (show tyNames _ = some _ from rfl), ?_⟩
  | refine And.intro (by walk_at "cv") ?_))
local macro_rules | `(tactic| walk_at "s0") => `(tactic| first
  | refine wayT ?_
  | refine wayF ?_
  | refine skipT (by omega) ?_
  | refine skipF (by omega) ?_
  | refine skipT (by decide) ?_
  | refine skipF (by decide) ?_
  | refine ⟨_, (show tyNames _ = some _ from rfl), ?_⟩
  | refine And.intro (by walk_at "cv") ?_)
local macro_rules | `(tactic| walk_at "s1") => `(tactic| try (walk_at "s0"; walk_at "wh"))
local macro_rules | `(tactic| walk_at "go") => `(tactic| (walk_at "wh"; walk_at "s1"; walk_at "s1"; walk_at "s1"; walk_at "s1"; walk_at "s1"; walk_at "s1"; walk_at "s1"; walk_at "s1"; walk_at "s1"; walk_at "s1"; walk_at "s1"; walk_at "s1"; walk_at "s1"; walk_at "s1"; walk_at "s1"; walk_at "s1"; walk_at "s1"; walk_at "s1"; walk_at "s1"; walk_at "s1"; walk_at "s1"; walk_at "s1"; walk_at "s1"; walk_at "s1"))

section
variable {P : Program} {w : World} {K : PySem.W.Frag} {mg : PySem.Str → Option Value} {base : Heap}
theorem ok__law_tape (T : Txt P K mg) : FnOk P w K mg base CX0 1 T.a__law_tape T.d__law_tape ["script"] (spTapeV K false) := by
  refine T.F__law_tape.ok sc__law_tape (fun vs H Q E h => ?_) (fun cdv A outer s H vs Q E hr h => ?_)
  · obtain ⟨a, ns, rfl, _⟩ := h
    rfl
  · obtain ⟨a, ns, rfl, hS, hl, q⟩ := h
    refine ⟨_, (pss_cons (ps_set (i := 1) sc__law_tape.nd rfl (.inl rfl) pe_int)
      (pss_cons (ps_for PassesOwn.never rfl (pi_list (pv 0)) (pg_name (i := 2) sc__law_tape.nd rfl (.inl rfl))
      (pss_one (ps_set (i := 1) sc__law_tape.nd rfl (.inl rfl) (pe_op op_mod (pe_callTy call_int1 (by rfl) T.z_int boot_int (pa_cons (pe_op op_add (pe_op op_mul (pv 1) pe_int) (pe_callB call_abs (by rfl) T.z_abs boot_abs (pa_cons (pe_callTy call_int1 (by rfl) T.z_int boot_int (pa_cons (pv 2) pa_nil)) pa_nil))) pa_nil)) pe_int))))
      (pss_one (ps_ret (pe_lst (pa_cons (pe_callTy call_list_of (by rfl) T.z_list boot_list (pa_cons (pv 0) pa_nil)) (pa_cons pe_int (pa_cons pe_int (pa_cons (pv 1) pa_nil))))))))), ?_⟩
    refine ⟨_, rfl, a, rfl, ⟨_, hS⟩, for_list (K := K) (a := a) (xs := ns.map V.int) (fun i σ H' => ∃ z y, σ = [some (.ref a), some (.int z), y] ∧ H' = H ∧ 0 ≤ z ∧ z < 2147483647)
      ⟨7, none, rfl, rfl, by decide, by decide⟩ (fun i σ H' _ ⟨_, _, _, e, _⟩ => by rw [e]; exact hS) ?_ ?_⟩
    · rintro i x σ H' hi ⟨z, y, rfl, rfl, h0, h1⟩
      obtain ⟨u, rfl⟩ : ∃ u, x = V.int u := by
        rw [List.getElem?_map] at hi
        cases e : ns[i]? with
        | none => rw [e] at hi; cases hi
        | some u => rw [e] at hi; exact ⟨u, (Option.some.inj hi).symm⟩
      walk_at "st"
      omega
    · rintro σ H' ⟨z, y, rfl, rfl, h0, h1⟩
      refine ⟨_, rfl, _, _, rfl, .inl hS, fun l nl => ⟨_, rfl, line (by simp), fun t nt => ?_⟩⟩
      have nlt : l ≠ t := fun e => by rw [← e, upd_same] at nt; cases nt
      have ntH : H' t = none := by rw [upd_ne nlt.symm] at nt; exact nt
      have hl2 : upd (upd H' l (.lst (ns.map V.int))) t (.lst [.ref l, .int 0, .int 0, .int z]) l = some (.lst (ns.map V.int)) := by rw [upd_ne nlt, upd_same]
      exact q _ ⟨t, l⟩ ns ((same_upd nl).trans (same_upd nt)) ntH nl ⟨ns, 0, 0, z, upd_same, hl2, fun _ => by omega, by decide, by decide, h0, h1⟩ hl2 hl
theorem ok__law_draw (T : Txt P K mg) : FnOk P w K mg base CX0 1 T.a__law_draw T.d__law_draw ["tape", "many"] (spDrawV false) := by
  refine T.F__law_draw.ok sc__law_draw (fun vs H Q E h => ?_) (fun cdv A outer s H vs Q E hr h => ?_)
  · obtain ⟨a, m, ns, rfl, _⟩ := h
    rfl
  · obtain ⟨⟨t, l⟩, m, ns', rfl, ⟨ns, p, n, z, ht, hL, _, hp, hn, hz, hz2⟩, hL', _, hm, q⟩ := h
    refine ⟨_, (pss_cons (ps_if (pt_cmpR op_eq (pe_ix ix_list (pv 0) pe_int (fun _ _ => rfl)) pe_int (nomark _)) (pss_cons (ps_set (i := 2) sc__law_draw.nd rfl (.inl rfl) (pe_ix ix_list (pv 0) pe_int (fun _ _ => rfl)))
      (pss_cons (ps_set (i := 3) sc__law_draw.nd rfl (.inl rfl) pe_int)
      (pss_cons (ps_if (pt_cmpR op_lt (pv 2) (pe_callB call_len_seq (by rfl) T.z_len boot_len (pa_cons (pe_ix ix_list (pv 0) pe_int (fun _ _ => rfl)) pa_nil)) (nomark _)) (pss_one (ps_set (i := 3) sc__law_draw.nd rfl (.inl rfl) (pe_callB call_abs (by rfl) T.z_abs boot_abs (pa_cons (pe_callTy call_int1 (by rfl) T.z_int boot_int (pa_cons (pe_ix ix_list (pe_ix ix_list (pv 0) pe_int (fun _ _ => rfl)) (pv 2) (fun _ _ => rfl)) pa_nil)) pa_nil)))) (pss_cons (ps_asg (pe_op op_mod (pe_callTy call_int1 (by rfl) T.z_int boot_int (pa_cons (pe_op op_add (pe_op op_add (pe_op op_mul (pe_ix ix_list (pv 0) pe_int (fun _ _ => rfl)) pe_int) (pv 2)) pe_int) pa_nil)) pe_int) (pg_sub (pv 0) pe_int set_list))
      (pss_one (ps_set (i := 3) sc__law_draw.nd rfl (.inl rfl) (pe_ix ix_list (pv 0) pe_int (fun _ _ => rfl))))))
      (pss_cons (ps_asg (pe_op op_add (pv 2) pe_int) (pg_sub (pv 0) pe_int set_list))
      (pss_cons (ps_if (pt_cmpR op_lt (pv 3) (pe_op op_pow pe_int pe_int) (nomark _)) (pss_cons (ps_set (i := 3) sc__law_draw.nd rfl (.inl rfl) (pe_op op_mod (pe_callTy call_int1 (by rfl) T.z_int boot_int (pa_cons (pe_op op_add (pe_op op_add (pe_op op_mul (pv 3) pe_int) (pe_op op_mul (pv 2) pe_int)) pe_int) pa_nil)) pe_int))
      (pss_cons (ps_set (i := 3) sc__law_draw.nd rfl (.inl rfl) (pe_op op_mod (pe_callTy call_int1 (by rfl) T.z_int boot_int (pa_cons (pe_op op_mul (pv 3) pe_int) pa_nil)) pe_int))
      (pss_one (ps_ret (pe_op op_mod (pe_callTy call_int1 (by rfl) T.z_int boot_int (pa_cons (pv 3) pa_nil)) (pe_callB (call_max2 rfl) (by rfl) T.z_max boot_max (pa_cons (pv 1) (pa_cons pe_int pa_nil)))))))) pss_nil)
      (pss_one (ps_asg (pv 3) (pg_sub (pv 0) pe_int set_list)))))))) pss_nil)
      (pss_cons (ps_set (i := 3) sc__law_draw.nd rfl (.inl rfl) (pe_ix ix_list (pv 0) pe_int (fun _ _ => rfl)))
      (pss_cons (ps_asg (pe_op op_fdivW (pv 3) (pe_callB (call_max2 rfl) (by rfl) T.z_max boot_max (pa_cons (pv 1) (pa_cons pe_int pa_nil)))) (pg_sub (pv 0) pe_int set_list))
      (pss_one (ps_ret (pe_op op_mod (pe_callTy call_int1 (by rfl) T.z_int boot_int (pa_cons (pv 3) pa_nil)) (pe_callB (call_max2 rfl) (by rfl) T.z_max boot_max (pa_cons (pv 1) (pa_cons pe_int pa_nil))))))))), ?_⟩
    have ht : H t = some (.lst [.ref l, .int p, .int n, .int z]) := ht
    have hL : H l = some (.lst (ns.map V.int)) := hL
    have ens : ns'.length = ns.length := by
      have hL' : H l = some (.lst (ns'.map V.int)) := hL'
      rw [hL] at hL'
      injection hL' with hL'
      injection hL' with hL'
      have := congrArg List.length hL'
      simpa using this.symm
    have nlt : l ≠ t := Tape.ne ht hL
    have many1 : 0 < if (1 : Int) > m then 1 else m := by split <;> omega
    have many2 : ∀ x : Int, CDivW x (if (2 : Int) > m then 2 else m) := hm
    have lt1 : ∀ x : Int, (x % if (1 : Int) > m then 1 else m) < m ∨ (x % if (1 : Int) > m then 1 else m) < 1 := fun x => by
      have q1 := Int.emod_lt_of_pos x many1
      revert q1
      split <;> intro q1 <;> omega
    have fin : ∀ {H' : Hp} {r : Int} {p' n' z' : Int}, (∀ b o, b ≠ t → H b = some o → H' b = some o) → H' t = some (.lst [.ref l, .int p', .int n', .int z']) → 0 ≤ p' → 0 ≤ n' → 0 ≤ z' → z' < 2147483647 → 0 ≤ r → (r < m ∨ r < 1) → Q (.int r) H' := by
      intro H' r p' n' z' st h1 h2 h3 h4 h5 h6 h7
      have hl' := st l _ nlt hL
      exact q H' r ns (fun b o n1 _ h => st b o n1 h) ⟨ns, p', n', z', h1, hl', (fun z => by cases z), h2, h3, h4, h5⟩ hl' (by omega) h6 h7
    walk_at "st"
    refine ⟨_, _, _, _, rfl, rfl, .of ht, atI_nat (j := 2) rfl, ?_⟩
    walk_at "st"
    refine ite2 (fun e => ?_) (fun e => ?_)
    · walk_at "st"
      refine ⟨_, _, _, _, rfl, rfl, .of ht, atI_nat (j := 1) rfl, ?_⟩
      walk_at "st"
      refine ⟨_, _, _, _, rfl, rfl, .of ht, atI_nat (j := 0) rfl, ?_⟩
      refine ⟨l, _, rfl, .inl (.of hL), ?_⟩
      walk_at "st"
      refine ite2 (fun e2 => ?a1) (fun e2 => ?a2)
      case' a1 =>
        have hlt : p.toNat < ns.length := by
          have := of_decide_eq_true e2
          rw [List.length_map] at this
          omega
        walk_at "st"
        refine ⟨_, _, _, _, rfl, rfl, .of ht, atI_nat (j := 0) rfl, ?_⟩
        walk_at "st"
        refine ⟨_, _, _, _, rfl, rfl, .of hL, at_of (show p = (p.toNat : Int) by omega) (show (ns.map V.int)[p.toNat]? = some (.int ns[p.toNat]) by rw [List.getElem?_map, List.getElem?_eq_getElem hlt]; rfl), ?_⟩
        have hnum : 0 ≤ (if ns[p.toNat] < 0 then -ns[p.toNat] else ns[p.toNat]) := by split <;> omega
      case' a2 =>
        walk_at "st"
        refine ⟨_, _, _, _, rfl, rfl, .of ht, atI_nat (j := 3) rfl, ?_⟩
        walk_at "st"
        refine ⟨_, _, _, 3, rfl, rfl, ht, rfl, ?_⟩
        walk_at "st"
        refine ⟨_, _, _, _, rfl, rfl, .of upd_same, atI_nat (j := 3) rfl, ?_⟩
        have hnum : 0 ≤ (z * 48271 + p + 1) % 2147483647 := by omega
        have hnum2 : (z * 48271 + p + 1) % 2147483647 < 2147483647 := by omega
      all_goals
        walk_at "st"
      case' a1 => refine ⟨_, _, _, 1, rfl, rfl, ht, rfl, ?_⟩
      case' a2 => refine ⟨_, _, _, 1, rfl, rfl, upd_same, rfl, ?_⟩
      all_goals
        walk_at "st"
        refine ite2 (fun e3 => ?_) (fun e3 => ?_)
        · walk_at "st"
          refine fin (by walk_at "fy") upd_same (by omega) hn ?_ ?_ (Int.emod_nonneg _ (by omega)) (lt1 _) <;> assumption
        · walk_at "st"
          refine ⟨_, _, _, 2, rfl, rfl, upd_same, rfl, ?_⟩
          walk_at "st"
          refine ⟨_, _, _, _, rfl, rfl, .of upd_same, atI_nat (j := 2) rfl, ?_⟩
          walk_at "st"
          refine ⟨_, _, _, 2, rfl, rfl, upd_same, rfl, ?_⟩
          walk_at "st"
          refine fin (by walk_at "fy") upd_same (by omega) (Int.ediv_nonneg hnum ?_) ?_ ?_ (Int.emod_nonneg _ (by omega)) (lt1 _) <;> first | assumption | (split <;> omega)
    · walk_at "st"
      refine ⟨_, _, _, _, rfl, rfl, .of ht, atI_nat (j := 2) rfl, ?_⟩
      walk_at "st"
      refine ⟨_, _, _, 2, rfl, rfl, ht, rfl, ?_⟩
      walk_at "st"
      refine fin (by walk_at "fy") upd_same hp ?_ hz hz2 (Int.emod_nonneg _ (by omega)) (lt1 _)
      refine Int.ediv_nonneg hn ?_
      split <;> omega
end
end Va

set_option Elab.async false
set_option linter.all false
set_option maxRecDepth 100000
set_option maxHeartbeats 4000000
namespace Va
open PySem PySem.Spec PyProof.Rows L2 Ind RowK
local macro_rules | `(tactic| walk_at "cn") => `(tactic| first
  | assumption
  | omega
  | exact dm (by omega)
  | exact line (by simp)
  | exact line (by omega)
  | exact line (by simp only [len_app, len_one]; omega)
  | exact small_div (by omega) (by omega)
  | solve_by_elim
  | exact Or.inr ⟨by omega, by omega⟩
  | exact Or.inl ⟨by omega, by omega⟩
  | exact ⟨by omega, by omega⟩
  | decide)
local macro_rules | `(tactic| walk_at "st") => `(tactic| repeat (first
  | refine ⟨_, rfl, ?_⟩
  | refine ⟨_, _, rfl, rfl, ?_⟩
  | refine ⟨_, _, rfl, ?_⟩
  | refine .inl ⟨_, rfl, ?_⟩
  | refine And.intro rfl ?_
  | refine And.intro (by walk_at "cn") ?_))
local macro_rules | `(tactic| walk_at "fz") => `(tactic| repeat (first | exact Fz.refl | apply Fz.upd))
local macro_rules | `(tactic| walk_at "hl") => `(tactic| ((repeat rw [upd_ne (by assumption)]); assumption))
local macro_rules | `(tactic| walk_at "fy") => `(tactic| (intro b o n1 h; (repeat rw [upd_ne n1]); exact h))
local macro_rules | `(tactic| walk_at "wh") => `(tactic| (conv => whnf))
local macro_rules | `(tactic| walk_at "cv") => `(tactic| first
  | rfl
  | assumption
  | omega
  | exact dm (by omega)
  | exact small_div (by omega) (by omega)
  | (simp only [len_app, one_len, len_one, List.length_append, List.length_map, List.length_cons, List.length_nil]; omega)
  | exact Or.inr ⟨by omega, by omega⟩
  | exact Or.inl ⟨by omega, by omega⟩
  | exact ⟨by omega, by omega⟩
  | decide)
local macro_rules | `(tactic| walk_at "vv") => `(tactic| repeat (refine And.intro (by walk_at "cv") ?_))
local macro_rules | `(tactic| walk_at "sk") => `(tactic| repeat (first
  | refine wayT ?_
  | refine wayF ?_
  | refine skipT (by omega) ?_
  | refine skipF (by omega) ?_
  | refine skipT (by decide) ?_
  | refine skipF (by decide) ?_
  | refine ⟨_, (show tyNames _ = some _ from rfl), ?_⟩
  | refine And.intro (by walk_at "cv") ?_))
local macro_rules | `(tactic| walk_at "s0") => `(tactic| first
  | refine wayT ?_
  | refine wayF ?_
  | refine skipT (by omega) ?_
  | refine skipF (by omega) ?_
  | refine skipT (by decide) ?_
  | refine skipF (by decide) ?_
  | refine ⟨_, (show tyNames _ = some _ from rfl), ?_⟩
  | refine And.intro (by walk_at "cv") ?_)
local macro_rules | `(tactic| walk_at "s1") => `(tactic| try (walk_at "s0"; walk_at "wh"))
local macro_rules | `(tactic| walk_at "go") => `(tactic| (walk_at "wh"; walk_at "s1"; walk_at "s1"; walk_at "s1"; walk_at "s1"; walk_at "s1"; walk_at "s1"; walk_at "s1"; walk_at "s1"; walk_at "s1"; walk_at "s1"; walk_at "s1"; walk_at "s1"; walk_at "s1"; walk_at "s1"; walk_at "s1"; walk_at "s1"; walk_at "s1"; walk_at "s1"; walk_at "s1"; walk_at "s1"; walk_at "s1"; walk_at "s1"; walk_at "s1"; walk_at "s1"))

def mValueKey : VM := fun ds c Q => ∃ x : Cell, ds = [cellD x] ∧ Q (ckD x) c
def mRowKey : VM := fun ds c Q => ∃ r : List Cell, ds = [rowD r] ∧ r.length < 1000 ∧ Q (keyD r) c
/-- the rows, sorted, each once -/
def mSorted : VM := fun ds c Q => ∃ rs : List (List Cell), ds = [.tup (rs.map rowD)] ∧ rs.length < 1000 ∧ (∀ r ∈ rs, r ≠ [] ∧ r.length < 1000) ∧
  ∀ qs : List (List Cell), qs.Perm (onc [] rs) → (qs.Pairwise fun x y => ltR y x = false) → Q (.tup (qs.map rowD)) c
section
variable {P : Program} {w : World} {K : PySem.W.Frag} {mg : PySem.Str → Option Value} {base : Heap}
theorem ok__value_key (T : Txt P K mg) : FnOk P w K mg base CX0 1 T.a__value_key T.d__value_key ["value"] (spV (Sx T) mValueKey) := by
  refine def_v (S := Sx T) (N := N__value_key) T.F__value_key sc__value_key rfl (fun ds c Q h => by obtain ⟨x, rfl, _⟩ := h; first | rfl | assumption) (fun cdv A outer s H E hr => (vss_one (vs_ret (ve_tup (va_cons (ve_of (pe_CB (c_isi rfl) (fun hc ha => pe_callB hc (by rfl) T.z_isinstance boot_isinstance ha) (va_cons (ve_name (pv 0)) (va_cons (ve_ty (x := "") (pe_bltn (v := .ty "str") (by rfl) T.z_str boot_str rfl)) va_nil)))) (va_cons (ve_name (pv 0)) va_nil)))))) ?_
  rintro ds c Q ⟨x, rfl, q⟩
  cases x with
  | inl i =>
    walk_at "go"
    exact q
  | inr x =>
    walk_at "go"
    exact q
theorem ok__row_key (T : Txt P K mg) : FnOk P w K mg base CX0 2 T.a__row_key T.d__row_key ["row"] (spV (Sx T) mRowKey) := by
  have G__value_key := ok__value_key (P := P) (w := w) (base := base) T
  refine def_v (S := Sx T) (N := N__row_key) T.F__row_key sc__row_key rfl (fun ds c Q h => by obtain ⟨r, rfl, _⟩ := h; first | rfl | assumption) (fun cdv A outer s H E hr => (vss_one (vs_ret (ve_of (pe_CB1 (c_tupleD rfl rfl) (fun hc ha => pe_callTy hc (by rfl) T.z_tuple boot_tuple ha) (be_of (ve_of (fe_lc (own := [("value", 1)]) rfl sc__row_key.nd (vi_any rfl (ve_name (pv 0))) (blkOk_by (own := [("value", 1)]) (N := N__row_key) (sc := defScope s__row_key) (by decide +kernel)) (fun _ _ _ _ _ => (vg_name (i := 1) [1] (by decide) sc__row_key.nd rfl (.inl rfl))) (fun _ _ _ _ _ => vts_nil) (fun _ _ _ _ _ => (ve_call G__value_key hr (by rfl) T.g__value_key T.F__value_key.kp T.b__value_key (va_cons (ve_name (pv 1)) va_nil))))))))))) ?_
  rintro ds c Q ⟨r, rfl, hl, q⟩
  walk_at "wh"
  refine ⟨by rw [List.length_map]; omega, fun i acc k => Iv (acc = (r.take i).map ckD ∧ k = c), .a ⟨rfl, rfl⟩, ?_, ?_⟩
  · intro i d acc k ed iv la
    obtain ⟨rfl, ek⟩ := iv.out
    subst k
    obtain ⟨x, ex, rfl⟩ := map_get ed
    refine wayT ?_
    walk_at "wh"
    refine ⟨x, rfl, ?_⟩
    refine .a ⟨?_, rfl⟩
    rw [take_more ex, List.map_append]
    rfl
  intro acc k iv la
  obtain ⟨rfl, ek⟩ := iv.out
  subst k
  rw [List.length_map, List.take_length]
  walk_at "wh"
  exact q
theorem ok_sorted_rows (T : Txt P K mg) : FnOk P w K mg base CX0 5 T.a_sorted_rows T.d_sorted_rows ["rows"] (spV (Sx T) mSorted) := by
  have G__row_key := ok__row_key (P := P) (w := w) (base := base) T
  refine def_v (S := Sx T) (N := N_sorted_rows) T.F_sorted_rows sc_sorted_rows rfl (fun ds c Q h => by obtain ⟨rs, rfl, _⟩ := h; first | rfl | assumption) (fun cdv A outer s H E hr => (vss_cons (vs_set (i := 1) sc_sorted_rows.nd rfl (.inl rfl) (fe_listKeys (own := [("row", 2)]) rfl rfl sc_sorted_rows.nd (hu0 hr) (by rfl) T.z_list boot_list (vi_any rfl (ve_name (pv 0))) (blkOk_by (own := [("row", 2)]) (N := N_sorted_rows) (sc := defScope s_sorted_rows) (by decide +kernel)) (fun _ _ _ _ _ => (vg_name (i := 2) [2] (by decide) sc_sorted_rows.nd rfl (.inl rfl))) (fun _ _ _ _ _ => (ve_name (pv 2)))))
      (vss_one (vs_ret (ve_of (pe_CB1 (c_tupleD rfl rfl) (fun hc ha => pe_callTy hc (by rfl) T.z_tuple boot_tuple ha) (be_of (ve_of (fe_sortedDef rfl G__row_key hr T.b__row_key (by rfl) T.z_sorted (by rfl) T.g__row_key (ve_name (pv 1))))))))))) ?_
  rintro ds c Q ⟨rs, rfl, hl, hr, q⟩
  walk_at "wh"
  refine ⟨fun i => (rs[i]?).getD [], by rw [List.length_map]; omega, fun i d ed => ?_, ?_⟩
  · obtain ⟨r, er, rfl⟩ := map_get ed
    have e : (rs[i]?).getD [] = r := by rw [er]; rfl
    walk_at "wh"
    exact ⟨by show rowD r = rowD ((rs[i]?).getD []); rw [e], rfl⟩
  have ef : (List.range (rs.map rowD).length).map (fun i => (rs[i]?).getD []) = rs := by
    rw [List.length_map]
    apply List.ext_getElem?
    intro i
    rw [List.getElem?_map]
    by_cases hi : i < rs.length
    · rw [List.getElem?_range hi, List.getElem?_eq_getElem hi]
      simp [List.getElem?_eq_getElem hi]
    · rw [List.getElem?_eq_none (by simpa using hi), List.getElem?_eq_none (by omega)]
      rfl
  rw [ef]
  have onl := onc_le rs []
  have onm : ∀ r ∈ onc [] rs, r ∈ rs := fun r h => (onc_mem.mp h).resolve_left (by simp)
  generalize onc [] rs = os at onl onm q ⊢
  walk_at "wh"
  refine ⟨os, by rw [List.length_map], fun r h => (hr r (onm r h)).1, fun i d r ed er => ?_, fun ps hp hw => ?_⟩
  · obtain ⟨r', er', rfl⟩ := map_get ed
    rw [er] at er'
    cases er'
    exact ⟨r, rfl, (hr r (onm r (List.mem_of_getElem? er))).2, rfl, rfl⟩
  · walk_at "wh"
    have all : ∀ p ∈ ps, p.2 = rowD p.1 := fun p h => by
      obtain ⟨i, hi, e⟩ := List.getElem_of_mem (hp.mem_iff.mp h)
      rw [List.getElem_zip, List.getElem_map] at e
      rw [← e]
    have e2 : ps.map (·.2) = (ps.map (·.1)).map rowD := by
      rw [List.map_map]
      exact List.map_congr_left all
    have p1 : (ps.map (·.1)).Perm os := by
      have := hp.map (·.1)
      rwa [List.map_fst_zip (by rw [List.length_map]; exact Nat.le_refl _)] at this
    show Q (.tup (ps.map (·.2))) c
    rw [e2]
    exact q _ p1 (List.pairwise_map.mpr hw)
end
end Va

set_option Elab.async false
set_option linter.all false
set_option maxRecDepth 100000
set_option maxHeartbeats 4000000
namespace Va
open PySem PySem.Spec PyProof.Rows L2 Ind
/-! ### text.index(text) -/
def vSix (t : VT) (ta : VTA) : FT := fun E Q => t E fun d E1 => (∃ a : Tx, d = .str a) ∧ ta E1 fun es E2 => ∃ (a b : Tx) (i : Nat) (rest : List Nat), d = .str a ∧ es = [.str b] ∧ Builtin.Str.occurrences a b 0 a.length 1 = i :: rest ∧ Q (.v (.int (i : Nat))) E2
section
variable {X : Cx} {S : Sg} {o a : Expr} {t : VT} {ta : VTA} {apos cpos : Pos}
theorem fe_sindex (ho : VE S X o t) (ha : VA S X [a] ta)
    (h1 : attributeBase o "index" X.env (eval o X.env) = eval o X.env := by rfl)
    (h2 : ((backTo cpos (starEach [a] X.env)).all (fun x => !x.1) && (backToKw cpos (keywordEach [] X.env)).all (fun x => x.1.isSome) && decide ([a].length + ([] : List Keyword).length + (if ([] : List Keyword).isEmpty then 0 else 1) < 30)) = true := by rfl)
    (h3 : (apos.endLine == cpos.line) = true := by rfl) (h4 : starEach [a] X.env = (false, eval a X.env) :: starEach [] X.env := by rfl) (h5 : (backTo cpos (starEach [] X.env)).any (·.1) = false := by rfl) :
    FE S X (.Call (.Attribute o "index" apos) [a] [] cpos) (vSix t ta) := by
  refine pe_weak (pe_bm PySem.F.plainAttrs_str PySem.F.slot_str_index PySem.F.type_str_index mt_sindex ho ha h1 h2 h3 h4 h5) ?_
  rintro σ H Q ⟨Γ, E, Q0, ok, rp, ht, k⟩
  refine ⟨Γ, E, _, ok, rp, ht, fun d E1 hq x H1 kq1 rp1 hx => ?_⟩
  obtain ⟨⟨a0, rfl⟩, hq⟩ := hq
  cases hx
  refine ⟨rfl, Γ, E1, _, ok, rp1, hq, fun es E2 hq2 us H2 kq2 rp2 hus => ?_⟩
  obtain ⟨a1, b1, i, rest, ea, rfl, ho2, hq3⟩ := hq2
  cases ea
  match us, hus with
  | [_], .cons h1 .nil =>
    cases h1
    exact ⟨_, _, i, rest, rfl, rfl, ho2, k _ _ hq3 _ _ (kq1.trans kq2) rp2 (.int _)⟩
end
end Va

set_option Elab.async false
set_option linter.all false
set_option maxRecDepth 100000
set_option maxHeartbeats 4000000
namespace Va
open PySem PySem.Spec PyProof.Rows L2 Ind RowK
local macro_rules | `(tactic| walk_at "cn") => `(tactic| first
  | assumption
  | omega
  | exact dm (by omega)
  | exact line (by simp)
  | exact line (by omega)
  | exact line (by simp only [len_app, len_one]; omega)
  | exact small_div (by omega) (by omega)
  | solve_by_elim
  | exact Or.inr ⟨by omega, by omega⟩
  | exact Or.inl ⟨by omega, by omega⟩
  | exact ⟨by omega, by omega⟩
  | decide)
local macro_rules | `(tactic| walk_at "st") => `(tactic| repeat (first
  | refine ⟨_, rfl, ?_⟩
  | refine ⟨_, _, rfl, rfl, ?_⟩
  | refine ⟨_, _, rfl, ?_⟩
  | refine .inl ⟨_, rfl, ?_⟩
  | refine And.intro rfl ?_
  | refine And.intro (by walk_at "cn") ?_))
local macro_rules | `(tactic| walk_at "fz") => `(tactic| repeat (first | exact Fz.refl | apply Fz.upd))
local macro_rules | `(tactic| walk_at "hl") => `(tactic| ((repeat rw [upd_ne (by assumption)]); assumption))
local macro_rules | `(tactic| walk_at "fy") => `(tactic| (intro b o n1 h; (repeat rw [upd_ne n1]); exact h))
local macro_rules | `(tactic| walk_at "wh") => `(tactic| (conv => whnf))
local macro_rules | `(tactic| walk_at "cv") => `(tactic| first
  | rfl
  | assumption
  | omega
  | exact dm (by omega)
  | exact small_div (by omega) (by omega)
  | (simp only [len_app, one_len, len_one, List.length_append, List.length_map, List.length_cons, List.length_nil]; omega)
  | exact Or.inr ⟨by omega, by omega⟩
  | exact Or.inl ⟨by omega, by omega⟩
  | exact ⟨by omega, by omega⟩
  | decide)
local macro_rules | `(tactic| walk_at "vv") => `(tactic| repeat (refine And.intro (by walk_at "cv") ?_))
local macro_rules | `(tactic| walk_at "sk") => `(tactic| repeat (first
  | refine wayT ?_
  | refine wayF ?_
  | refine skipT (by omega) ?_
  | refine skipF (by omega) ?_
  | refine skipT (by decide) ?_
  | refine skipF (by decide) ?_
  | refine ⟨_, (show tyNames _ = some _ from rfl), ?_⟩
  | refine And.intro (by walk_at "cv") ?_))
local macro_rules | `(tactic| walk_at "s0") => `(tactic| first
  | refine wayT ?_
  | refine wayF ?_
  | refine skipT (by omega) ?_
  | refine skipF (by omega) ?_
  | refine skipT (by decide) ?_
  | refine skipF (by decide) ?_
  | refine ⟨_, (show tyNames _ = some _ from rfl), ?_⟩
  | refine And.intro (by walk_at "cv") ?_)
local macro_rules | `(tactic| walk_at "s1") => `(tactic| try (walk_at "s0"; walk_at "wh"))
local macro_rules | `(tactic| walk_at "go") => `(tactic| (walk_at "wh"; walk_at "s1"; walk_at "s1"; walk_at "s1"; walk_at "s1"; walk_at "s1"; walk_at "s1"; walk_at "s1"; walk_at "s1"; walk_at "s1"; walk_at "s1"; walk_at "s1"; walk_at "s1"; walk_at "s1"; walk_at "s1"; walk_at "s1"; walk_at "s1"; walk_at "s1"; walk_at "s1"; walk_at "s1"; walk_at "s1"; walk_at "s1"; walk_at "s1"; walk_at "s1"; walk_at "s1"))

theorem sgns_one {x : Tx} {i : Int} {c : Nat} (h : ∀ d ∈ x.cps.toList, Sgn d) (e : atI x.cps.toList i = some c) : Sgns ⟨#[c]⟩ := .one (h c (atI_mem e))
def mSigns : VM := fun ds c Q => ds = [] ∧ Q (.str sg) c
def mText : VM := fun ds c Q => ds = [.tape] ∧ ∀ x : Tx, TxtOk x → Q (.str x) c
abbrev bigB : Int := 20000000000000000000000000000000
def cOk (b : Int) : Cell → Prop
  | .inl i => -b ≤ i ∧ i ≤ b
  | .inr x => TxtOk x
def mAny : VM := fun ds c Q => ds = [.tape] ∧ ∀ x : Cell, cOk bigB x → Q (cellD x) c
section
variable {P : Program} {w : World} {K : PySem.W.Frag} {mg : PySem.Str → Option Value} {base : Heap}
theorem ok__law_signs (T : Txt P K mg) : FnOk P w K mg base CX0 1 T.a__law_signs T.d__law_signs [] (spV (Sx T) mSigns) := by
  refine def_v (S := Sx T) (N := N__law_signs) T.F__law_signs sc__law_signs rfl (fun ds c Q h => by obtain ⟨rfl, _⟩ := h; first | rfl | assumption) (fun cdv A outer s H E hr => (vss_cons (vs_set (i := 0) sc__law_signs.nd rfl (.inl rfl) (fe_of ve_str))
      (vss_one (vs_ret (ve_of (fe_op (o_add rfl) (ve_name (pv 0)) (be_of ve_str))))))) ?_
  rintro ds c Q ⟨rfl, q⟩
  walk_at "wh"
  refine ⟨by decide, ?_⟩
  exact q
theorem ok__law_text (T : Txt P K mg) : FnOk P w K mg base CX0 2 T.a__law_text T.d__law_text ["tape"] (spV (Sx T) mText) := by
  have G__law_draw := draw_v (S := Sx T) (ok__law_draw (P := P) (w := w) (base := base) T)
  have G__law_signs := ok__law_signs (P := P) (w := w) (base := base) T
  refine def_v (S := Sx T) (N := N__law_text) T.F__law_text sc__law_text rfl (fun ds c Q h => by obtain ⟨rfl, _⟩ := h; first | rfl | assumption) (fun cdv A outer s H E hr => (vss_cons (vs_set (i := 1) sc__law_text.nd rfl (.inl rfl) (fe_of (ve_call G__law_draw hr (by rfl) T.g__law_draw T.F__law_draw.kp T.b__law_draw (va_cons (ve_name (pv 0)) (va_cons ve_int va_nil)))))
      (vss_cons (vs_set (i := 2) sc__law_text.nd rfl (.inl rfl) (fe_op o_mod (ve_of (pe_CB1 c_int (fun hc ha => pe_callTy hc (by rfl) T.z_int boot_int ha) (be_name (pv 1)))) (be_of ve_int)))
      (vss_cons (vs_set (i := 3) sc__law_text.nd rfl (.inl rfl) (fe_of ve_str))
      (vss_cons (vs_if (vb_cmp o_lt (ve_name (pv 2)) (be_of ve_int) (nomark _)) (vss_cons (vs_for PassesOwn.never rfl (vi_range1 (by rfl) T.z_range (va_cons (ve_of (fe_ix (i_ix rfl (hu_of hr)) (ve_of (fe_lst (va_cons ve_int (va_cons ve_int (va_cons ve_int (va_cons ve_int (va_cons ve_int (va_cons ve_int va_nil)))))))) (be_name (pv 2)) (fun _ _ => rfl))) va_nil)) (vg_name (i := 4) [4] (by decide) sc__law_text.nd rfl (.inl rfl))
      (vss_one (vs_set (i := 3) sc__law_text.nd rfl (.inl rfl) (fe_op (o_add rfl) (ve_name (pv 3)) (be_of (ve_of (fe_ix (i_ix rfl (hu_of hr)) ve_str (be_of (ve_of (fe_op o_mod (ve_of (pe_CB1 c_int (fun hc ha => pe_callTy hc (by rfl) T.z_int boot_int ha) (be_of (ve_of (fe_op o_fdiv (ve_name (pv 1)) (be_of (ve_of (fe_ix (i_ix rfl (hu_of hr)) (ve_of (fe_lst (va_cons ve_int (va_cons ve_int (va_cons ve_int va_nil))))) (be_name (pv 4)) (fun _ _ => rfl))))))))) (be_of ve_int)))) (fun _ _ => rfl))))))))
      (vss_one (vs_ret (ve_name (pv 3))))) vss_nil)
      (vss_cons (vs_for PassesOwn.never rfl (vi_range1 (by rfl) T.z_range (va_cons (ve_of (fe_ix (i_ix rfl (hu_of hr)) (ve_of (fe_lst (va_cons ve_int (va_cons (ve_of (fe_op o_fdiv (ve_name (pv 1)) (be_of ve_int))) va_nil)))) (be_of (ve_of (fe_op o_sub (ve_name (pv 2)) (be_of ve_int)))) (fun _ _ => rfl))) va_nil)) (vg_name (i := 4) [4] (by decide) sc__law_text.nd rfl (.inl rfl))
      (vss_one (vs_set (i := 3) sc__law_text.nd rfl (.inl rfl) (fe_op (o_add rfl) (ve_name (pv 3)) (be_of (ve_of (fe_ix (i_ix rfl (hu_of hr)) (ve_call0 G__law_signs hr (by rfl) T.g__law_signs T.F__law_signs.kp T.b__law_signs) (be_of (ve_call G__law_draw hr (by rfl) T.g__law_draw T.F__law_draw.kp T.b__law_draw (va_cons (ve_name (pv 0)) (va_cons ve_int va_nil)))) (fun _ _ => rfl))))))))
      (vss_one (vs_ret (ve_name (pv 3)))))))))) ?_
  rintro ds c Q ⟨rfl, q⟩
  refine ⟨21000, rfl, Nat.zero_le _, dm (by decide), fun r hr => ?_⟩
  have hr : r < 21000 := by omega
  have sl : ("abB' " : Tx).length = 5 := by decide
  have l0 : ("" : Tx).length = 0 := by decide
  have t0 : Sgns "" := sgns_nil
  walk_at "vv"
  walk_at "wh"
  refine bothD (fun e => ?_) (fun e => ?_)
  · obtain ⟨d5, ed5, md5⟩ := pickI (l := [D.int 0, .int 1, .int 1, .int 1, .int 2, .int 3]) (i := (r : Int) % 8) (by omega) (by simp; omega)
    obtain ⟨z5, rfl, hz5⟩ := int_mem (P := fun i => 0 ≤ i ∧ i ≤ 3) md5 (by simp)
    walk_at "vv"
    refine withD_of ed5 ?_
    walk_at "wh"
    refine ⟨⟨by omega, by omega⟩, ?_⟩
    refine ⟨fun i E => Iv (∃ (x : Tx) (y : SV), E = ⟨[.v .tape, .v (.int r), .v (.int ((r : Int) % 8)), .v (.str x), y], c⟩ ∧ x.length ≤ i ∧ Sgns x), .a ⟨_, _, rfl, Nat.le_refl _, t0⟩, ?_, ?_⟩
    · intro i d E ed iv
      obtain ⟨x, y, rfl, hx, hx2⟩ := iv.out
      obtain ⟨rfl, hi⟩ := rng_at ed
      have hi : i < 3 := by omega
      obtain ⟨d6, ed6, md6⟩ := pickI (l := [D.int 8, .int 40, .int 200]) (i := 0 + (i : Int)) (by omega) (by simp; omega)
      obtain ⟨z6, rfl, hz6⟩ := int_mem (P := fun i => i = 8 ∨ i = 40 ∨ i = 200) md6 (by simp)
      walk_at "vv"
      refine withD_of ed6 ?_
      have hz7 : 0 ≤ (r : Int) / z6 := by rcases hz6 with rfl | rfl | rfl <;> omega
      have dv : CDivW (r : Int) z6 := by rcases hz6 with rfl | rfl | rfl <;> exact small_div (by omega) (by omega)
      walk_at "vv"
      obtain ⟨k2, hk2⟩ := sign_at (x := "abB' ") (i := (r : Int) / z6 % 5) (by omega) (by rw [sl]; omega)
      refine ⟨k2, hk2, ?_⟩
      refine ⟨by rw [one_len]; omega, ?_⟩
      exact .a ⟨_, _, rfl, by rw [len_app, one_len]; omega, Sgns.app hx2 (sgns_one quad_all hk2)⟩
    · intro E iv
      obtain ⟨x, y, rfl, hx, hx2⟩ := iv.out
      have e : (rng 0 z5.toNat).length ≤ 3 := by simp only [rng, List.length_map, List.length_range]; omega
      exact q _ ⟨by omega, hx2⟩
  · walk_at "vv"
    obtain ⟨d5, ed5, md5⟩ := pickI (l := [D.int 20, .int ((r : Int) / 1000)]) (i := (r : Int) % 8 - 6) (by omega) (by simp; omega)
    obtain ⟨z5, rfl, hz5⟩ := int_mem (P := fun i => 0 ≤ i ∧ i ≤ 20) md5 (by simp; omega)
    walk_at "vv"
    refine withD_of ed5 ?_
    walk_at "wh"
    refine ⟨⟨by omega, by omega⟩, ?_⟩
    refine ⟨fun i E => Iv (∃ (x : Tx) (y : SV), E = ⟨[.v .tape, .v (.int r), .v (.int ((r : Int) % 8)), .v (.str x), y], c⟩ ∧ x.length ≤ i ∧ Sgns x), .a ⟨_, _, rfl, Nat.le_refl _, t0⟩, ?_, ?_⟩
    · intro i d E ed iv
      obtain ⟨x, y, rfl, hx, hx2⟩ := iv.out
      obtain ⟨rfl, hi⟩ := rng_at ed
      refine ⟨rfl, ?_⟩
      refine ⟨94, rfl, Nat.zero_le _, dm (by decide), fun r2 hr2 => ?_⟩
      obtain ⟨k2, hk2⟩ := sign_at (x := sg) (i := (r2 : Int)) (by omega) (by rw [sg_len]; omega)
      walk_at "vv"
      refine ⟨k2, hk2, ?_⟩
      refine ⟨by rw [one_len]; omega, ?_⟩
      exact .a ⟨_, _, rfl, by rw [len_app, one_len]; omega, Sgns.app hx2 (sgns_one sg_all hk2)⟩
    · intro E iv
      obtain ⟨x, y, rfl, hx, hx2⟩ := iv.out
      have e : (rng 0 z5.toNat).length ≤ 20 := by simp only [rng, List.length_map, List.length_range]; omega
      exact q _ ⟨by omega, hx2⟩
theorem ok__law_any (T : Txt P K mg) : FnOk P w K mg base CX0 3 T.a__law_any T.d__law_any ["tape"] (spV (Sx T) mAny) := by
  have G__law_draw := draw_v (S := Sx T) (ok__law_draw (P := P) (w := w) (base := base) T)
  have G__law_text := ok__law_text (P := P) (w := w) (base := base) T
  refine def_v (S := Sx T) (N := N__law_any) T.F__law_any sc__law_any rfl (fun ds c Q h => by obtain ⟨rfl, _⟩ := h; first | rfl | assumption) (fun cdv A outer s H E hr => (vss_cons (vs_set (i := 1) sc__law_any.nd rfl (.inl rfl) (fe_of (ve_call G__law_draw (hr.mono (by omega)) (by rfl) T.g__law_draw T.F__law_draw.kp T.b__law_draw (va_cons (ve_name (pv 0)) (va_cons (ve_of (fe_op o_mul ve_int (be_of (ve_of (fe_op o_pow ve_int (be_of ve_int)))))) va_nil)))))
      (vss_cons (vs_set (i := 2) sc__law_any.nd rfl (.inl rfl) (fe_op o_mod (ve_of (pe_CB1 c_int (fun hc ha => pe_callTy hc (by rfl) T.z_int boot_int ha) (be_name (pv 1)))) (be_of ve_int)))
      (vss_cons (vs_if (vb_cmp o_lt (ve_name (pv 2)) (be_of ve_int) (nomark _)) (vss_one (vs_ret (ve_call G__law_text hr (by rfl) T.g__law_text T.F__law_text.kp T.b__law_text (va_cons (ve_name (pv 0)) va_nil)))) vss_nil)
      (vss_cons (vs_if (vb_cmp (o_eq rfl hr.units) (ve_name (pv 2)) (be_of ve_int) (nomark _)) (vss_one (vs_ret (ve_of (fe_op o_sub (ve_of (fe_op o_mod (ve_of (pe_CB1 c_int (fun hc ha => pe_callTy hc (by rfl) T.z_int boot_int ha) (be_of (ve_of (fe_op o_fdiv (ve_name (pv 1)) (be_of ve_int)))))) (be_of ve_int))) (be_of ve_int))))) vss_nil)
      (vss_cons (vs_if (vb_cmp (o_eq rfl hr.units) (ve_name (pv 2)) (be_of ve_int) (nomark _)) (vss_one (vs_ret (ve_of (fe_ix (i_ix rfl (hu_of hr)) (ve_of (fe_lst (va_cons ve_int (va_cons (ve_neg ve_int) (va_cons (ve_of (fe_op o_pow ve_int (be_of ve_int))) (va_cons (ve_neg (ve_of (fe_op o_pow ve_int (be_of ve_int)))) (va_cons (ve_of (fe_op o_pow ve_int (be_of ve_int))) va_nil))))))) (be_of (ve_of (fe_op o_mod (ve_of (pe_CB1 c_int (fun hc ha => pe_callTy hc (by rfl) T.z_int boot_int ha) (be_of (ve_of (fe_op o_fdiv (ve_name (pv 1)) (be_of ve_int)))))) (be_of ve_int)))) (fun _ _ => rfl))))) vss_nil)
      (vss_cons (vs_if (vb_cmp (o_eq rfl hr.units) (ve_name (pv 2)) (be_of ve_int) (nomark _)) (vss_one (vs_ret (ve_of (fe_op o_sub (ve_of (fe_op o_mod (ve_of (pe_CB1 c_int (fun hc ha => pe_callTy hc (by rfl) T.z_int boot_int ha) (be_of (ve_of (fe_op o_fdiv (ve_name (pv 1)) (be_of ve_int)))))) (be_of ve_int))) (be_of ve_int))))) vss_nil)
      (vss_one (vs_ret (ve_of (fe_op o_sub (ve_of (fe_op o_fdiv (ve_name (pv 1)) (be_of ve_int))) (be_of (ve_of (fe_op o_pow ve_int (be_of ve_int))))))))))))))) ?_
  rintro ds c Q ⟨rfl, q⟩
  walk_at "vv"
  walk_at "wh"
  refine ⟨16 * 10 ^ 30, rfl, Nat.zero_le _, dm (by decide), fun r hr => ?_⟩
  have hr : r < 16 * 10 ^ 30 := by omega
  walk_at "vv"
  walk_at "wh"
  refine bothD (fun e => ?_) (fun e => ?_)
  · walk_at "wh"
    refine ⟨rfl, fun x hx => q (.inr x) hx⟩
  · walk_at "wh"
    refine bothD (fun e2 => ?_) (fun e2 => ?_)
    · walk_at "vv"
      exact q (.inl ((r : Int) / 8 % 7 - 3)) ⟨by unfold bigB; omega, by unfold bigB; omega⟩
    · walk_at "wh"
      refine bothD (fun e3 => ?_) (fun e3 => ?_)
      · walk_at "vv"
        walk_at "wh"
        obtain ⟨d5, ed5, md5⟩ := pickI (l := [D.int 1000000, .int (-1000000), .int 1000000000000, .int (-1000000000000), .int 1000000000000000000000000000000]) (i := (r : Int) / 8 % 5) (by omega) (by simp; omega)
        obtain ⟨z5, rfl, hz5⟩ := int_mem (P := fun i => -20000000000000000000000000000000 ≤ i ∧ i ≤ 20000000000000000000000000000000) md5 (by simp)
        refine withD_of ed5 ?_
        exact q (.inl z5) hz5
      · walk_at "wh"
        refine bothD (fun e4 => ?_) (fun e4 => ?_)
        · walk_at "vv"
          exact q (.inl ((r : Int) / 8 % 2000003 - 1000001)) ⟨by unfold bigB; omega, by unfold bigB; omega⟩
        · walk_at "vv"
          exact q (.inl ((r : Int) / 8 - 1000000000000000000000000000000)) ⟨by unfold bigB; omega, by unfold bigB; omega⟩
end
end Va

set_option Elab.async false
set_option linter.all false
set_option maxRecDepth 100000
set_option maxHeartbeats 4000000
namespace Va
open PySem PySem.Spec PyProof.Rows L2 Ind RowK
local macro_rules | `(tactic| walk_at "cn") => `(tactic| first
  | assumption
  | omega
  | exact dm (by omega)
  | exact line (by simp)
  | exact line (by omega)
  | exact line (by simp only [len_app, len_one]; omega)
  | exact small_div (by omega) (by omega)
  | solve_by_elim
  | exact Or.inr ⟨by omega, by omega⟩
  | exact Or.inl ⟨by omega, by omega⟩
  | exact ⟨by omega, by omega⟩
  | decide)
local macro_rules | `(tactic| walk_at "st") => `(tactic| repeat (first
  | refine ⟨_, rfl, ?_⟩
  | refine ⟨_, _, rfl, rfl, ?_⟩
  | refine ⟨_, _, rfl, ?_⟩
  | refine .inl ⟨_, rfl, ?_⟩
  | refine And.intro rfl ?_
  | refine And.intro (by walk_at "cn") ?_))
local macro_rules | `(tactic| walk_at "fz") => `(tactic| repeat (first | exact Fz.refl | apply Fz.upd))
local macro_rules | `(tactic| walk_at "hl") => `(tactic| ((repeat rw [upd_ne (by assumption)]); assumption))
local macro_rules | `(tactic| walk_at "fy") => `(tactic| (intro b o n1 h; (repeat rw [upd_ne n1]); exact h))
local macro_rules | `(tactic| walk_at "wh") => `(tactic| (conv => whnf))
local macro_rules | `(tactic| walk_at "cv") => `(tactic| first
  | rfl
  | assumption
  | omega
  | exact dm (by omega)
  | exact small_div (by omega) (by omega)
  | (simp only [len_app, one_len, len_one, List.length_append, List.length_map, List.length_cons, List.length_nil]; omega)
  | exact Or.inr ⟨by omega, by omega⟩
  | exact Or.inl ⟨by omega, by omega⟩
  | exact ⟨by omega, by omega⟩
  | decide)
local macro_rules | `(tactic| walk_at "vv") => `(tactic| repeat (refine And.intro (by walk_at "cv") ?_))
local macro_rules | `(tactic| walk_at "sk") => `(tactic| repeat (first
  | refine wayT ?_
  | refine wayF ?_
  | refine skipT (by omega) ?_
  | refine skipF (by omega) ?_
  | refine skipT (by decide) ?_
  | refine skipF (by decide) ?_
  | refine ⟨_, (show tyNames _ = some _ from rfl), ?_⟩
  | refine And.intro (by walk_at "cv") ?_))
local macro_rules | `(tactic| walk_at "s0") => `(tactic| first
  | refine wayT ?_
  | refine wayF ?_
  | refine skipT (by omega) ?_
  | refine skipF (by omega) ?_
  | refine skipT (by decide) ?_
  | refine skipF (by decide) ?_
  | refine ⟨_, (show tyNames _ = some _ from rfl), ?_⟩
  | refine And.intro (by walk_at "cv") ?_)
local macro_rules | `(tactic| walk_at "s1") => `(tactic| try (walk_at "s0"; walk_at "wh"))
local macro_rules | `(tactic| walk_at "go") => `(tactic| (walk_at "wh"; walk_at "s1"; walk_at "s1"; walk_at "s1"; walk_at "s1"; walk_at "s1"; walk_at "s1"; walk_at "s1"; walk_at "s1"; walk_at "s1"; walk_at "s1"; walk_at "s1"; walk_at "s1"; walk_at "s1"; walk_at "s1"; walk_at "s1"; walk_at "s1"; walk_at "s1"; walk_at "s1"; walk_at "s1"; walk_at "s1"; walk_at "s1"; walk_at "s1"; walk_at "s1"; walk_at "s1"))

theorem sgns_cut {z : Tx} {lo hi : Option Int} (h : Sgns z) : Sgns (cutS z lo hi) := by
  intro c hc
  unfold cutS at hc
  have hc := List.mem_of_mem_take hc
  exact h c (List.mem_of_mem_drop hc)
theorem cut_at_most (z : Tx) (k : Nat) : (cutS z none (some (k : Int))).length ≤ k := by
  by_cases h : k ≤ z.length
  · rw [codes_len, cut_lo z k h, List.length_take]
    omega
  · exact Nat.le_trans (cutS_le z none (some (k : Int))) (by omega)
def mNear : VM := fun ds c Q => ∃ (x : Cell) (b : Int), ds = [.tape, cellD x] ∧ cOk b x ∧ b < 1606938044258990275541962092341162602522202993782 ∧ 0 ≤ b ∧ ∀ y : Cell, cOk (b + 1) y → Q (cellD y) c
section
variable {P : Program} {w : World} {K : PySem.W.Frag} {mg : PySem.Str → Option Value} {base : Heap}
theorem ok__law_near (T : Txt P K mg) : FnOk P w K mg base CX0 2 T.a__law_near T.d__law_near ["tape", "value"] (spV (Sx T) mNear) := by
  have G__law_draw := draw_v (S := Sx T) (ok__law_draw (P := P) (w := w) (base := base) T)
  have G__law_signs := ok__law_signs (P := P) (w := w) (base := base) T
  refine def_v (S := Sx T) (N := N__law_near) T.F__law_near sc__law_near rfl (fun ds c Q h => by obtain ⟨x, b, rfl, _⟩ := h; first | rfl | assumption) (fun cdv A outer s H E hr => (vss_cons (vs_if (vb_tru rfl (be_of (ve_of (pe_CB (c_isi rfl) (fun hc ha => pe_callB hc (by rfl) T.z_isinstance boot_isinstance ha) (va_cons (ve_name (pv 1)) (va_cons (ve_ty (x := "") (pe_bltn (v := .ty "int") (by rfl) T.z_int boot_int rfl)) va_nil)))))) (vss_one (vs_ret (ve_of (fe_op o_sub (ve_of (fe_op (o_add rfl) (ve_name (pv 1)) (be_of ve_int))) (be_of (ve_of (fe_op o_mul ve_int (be_of (ve_call G__law_draw hr (by rfl) T.g__law_draw T.F__law_draw.kp T.b__law_draw (va_cons (ve_name (pv 0)) (va_cons ve_int va_nil))))))))))) vss_nil)
      (vss_cons (vs_set (i := 2) sc__law_near.nd rfl (.inl rfl) (fe_of (ve_call G__law_draw hr (by rfl) T.g__law_draw T.F__law_draw.kp T.b__law_draw (va_cons (ve_name (pv 0)) (va_cons (ve_of (fe_op (o_add rfl) (ve_of (pe_CB1 (c_len rfl) (fun hc ha => pe_callB hc (by rfl) T.z_len boot_len ha) (be_name (pv 1)))) (be_of ve_int))) va_nil)))))
      (vss_cons (vs_if (vb_cmp (o_eq rfl hr.units) (ve_call G__law_draw hr (by rfl) T.g__law_draw T.F__law_draw.kp T.b__law_draw (va_cons (ve_name (pv 0)) (va_cons ve_int va_nil))) (be_of ve_int) (nomark _)) (vss_one (vs_ret (ve_of (fe_slice rfl (ve_name (pv 1)) vo_none (vo_some (ve_name (pv 2))))))) vss_nil)
      (vss_cons (vs_set (i := 3) sc__law_near.nd rfl (.inl rfl) (fe_ix (i_ix rfl (hu_of hr)) (ve_call0 G__law_signs hr (by rfl) T.g__law_signs T.F__law_signs.kp T.b__law_signs) (be_of (ve_call G__law_draw hr (by rfl) T.g__law_draw T.F__law_draw.kp T.b__law_draw (va_cons (ve_name (pv 0)) (va_cons ve_int va_nil)))) (fun _ _ => rfl)))
      (vss_one (vs_ret (ve_of (fe_slice rfl (ve_of (fe_op (o_add rfl) (ve_of (fe_op (o_add rfl) (ve_of (fe_slice rfl (ve_name (pv 1)) vo_none (vo_some (ve_name (pv 2))))) (be_name (pv 3)))) (be_of (ve_of (fe_slice rfl (ve_name (pv 1)) (vo_some (ve_of (fe_op (o_add rfl) (ve_name (pv 2)) (be_of ve_int)))) vo_none))))) vo_none (vo_some ve_int)))))))))) ?_
  rintro ds c Q ⟨x, b, rfl, hx, hb, hb0, q⟩
  cases x with
  | inl i =>
    obtain ⟨h1, h2⟩ := hx
    walk_at "go"
    refine ⟨2, rfl, Nat.zero_le _, dm (by decide), fun r hr => ?_⟩
    walk_at "vv"
    exact q (.inl (i + 1 - 2 * (r : Int))) ⟨by omega, by omega⟩
  | inr x =>
    obtain ⟨h1, h2⟩ := hx
    walk_at "go"
    refine ⟨((x.length : Nat) : Int) + 1, rfl, Nat.zero_le _, dm (by omega), fun r hr => ?_⟩
    have hr : r ≤ x.length := by omega
    walk_at "wh"
    refine ⟨3, rfl, Nat.zero_le _, dm (by decide), fun r3 hr3 => ?_⟩
    walk_at "wh"
    refine bothD (fun e => ?_) (fun e => ?_)
    · walk_at "wh"
      refine ⟨by omega, ?_⟩
      exact q (.inr _) ⟨Nat.le_trans (cutS_le _ _ _) h1, sgns_cut h2⟩
    · walk_at "wh"
      refine ⟨rfl, ?_⟩
      refine ⟨94, rfl, Nat.zero_le _, dm (by decide), fun r2 hr2 => ?_⟩
      obtain ⟨k2, hk2⟩ := sign_at (x := sg) (i := (r2 : Int)) (by omega) (by rw [sg_len]; omega)
      have c1 := cutS_le x none (some ((r : Nat) : Int))
      have c2 := cutS_le x (some (((r : Nat) : Int) + 1)) none
      walk_at "wh"
      refine ⟨by rw [sg_len]; decide, k2, hk2, ?_⟩
      have c3 : (cutS x none (some ((r : Nat) : Int)) ++ (⟨#[k2]⟩ : Tx)).length ≤ 21 := by rw [len_app, one_len]; omega
      have g1 : Sgns (cutS x none (some ((r : Nat) : Int)) ++ (⟨#[k2]⟩ : Tx) ++ cutS x (some (((r : Nat) : Int) + 1)) none) := ((sgns_cut h2).app (sgns_one sg_all hk2)).app (sgns_cut h2)
      have c4 : (cutS x none (some ((r : Nat) : Int)) ++ (⟨#[k2]⟩ : Tx) ++ cutS x (some (((r : Nat) : Int) + 1)) none).length ≤ 41 := by rw [len_app]; omega
      walk_at "wh"
      refine ⟨by omega, ?_⟩
      walk_at "wh"
      refine ⟨by rw [one_len]; omega, ?_⟩
      walk_at "wh"
      refine ⟨by omega, ?_⟩
      walk_at "wh"
      refine ⟨by omega, ?_⟩
      walk_at "wh"
      refine ⟨by omega, ?_⟩
      exact q (.inr _) ⟨cut_at_most _ 20, sgns_cut g1⟩
end
end Va

set_option Elab.async false
set_option linter.all false
set_option maxRecDepth 100000
set_option maxHeartbeats 4000000
namespace Va
open PySem PySem.Spec PyProof.Rows L2 Ind RowK
local macro_rules | `(tactic| walk_at "cn") => `(tactic| first
  | assumption
  | omega
  | exact dm (by omega)
  | exact line (by simp)
  | exact line (by omega)
  | exact line (by simp only [len_app, len_one]; omega)
  | exact small_div (by omega) (by omega)
  | solve_by_elim
  | exact Or.inr ⟨by omega, by omega⟩
  | exact Or.inl ⟨by omega, by omega⟩
  | exact ⟨by omega, by omega⟩
  | decide)
local macro_rules | `(tactic| walk_at "st") => `(tactic| repeat (first
  | refine ⟨_, rfl, ?_⟩
  | refine ⟨_, _, rfl, rfl, ?_⟩
  | refine ⟨_, _, rfl, ?_⟩
  | refine .inl ⟨_, rfl, ?_⟩
  | refine And.intro rfl ?_
  | refine And.intro (by walk_at "cn") ?_))
local macro_rules | `(tactic| walk_at "fz") => `(tactic| repeat (first | exact Fz.refl | apply Fz.upd))
local macro_rules | `(tactic| walk_at "hl") => `(tactic| ((repeat rw [upd_ne (by assumption)]); assumption))
local macro_rules | `(tactic| walk_at "fy") => `(tactic| (intro b o n1 h; (repeat rw [upd_ne n1]); exact h))
local macro_rules | `(tactic| walk_at "wh") => `(tactic| (conv => whnf))
local macro_rules | `(tactic| walk_at "cv") => `(tactic| first
  | rfl
  | assumption
  | omega
  | exact dm (by omega)
  | exact small_div (by omega) (by omega)
  | (simp only [len_app, one_len, len_one, List.length_append, List.length_map, List.length_cons, List.length_nil]; omega)
  | exact Or.inr ⟨by omega, by omega⟩
  | exact Or.inl ⟨by omega, by omega⟩
  | exact ⟨by omega, by omega⟩
  | decide)
local macro_rules | `(tactic| walk_at "vv") => `(tactic| repeat (refine And.intro (by walk_at "cv") ?_))
local macro_rules | `(tactic| walk_at "sk") => `(tactic| repeat (first
  | refine wayT ?_
  | refine wayF ?_
  | refine skipT (by omega) ?_
  | refine skipF (by omega) ?_
  | refine skipT (by decide) ?_
  | refine skipF (by decide) ?_
  | refine ⟨_, (show tyNames _ = some _ from rfl), ?_⟩
  | refine And.intro (by walk_at "cv") ?_))
local macro_rules | `(tactic| walk_at "s0") => `(tactic| first
  | refine wayT ?_
  | refine wayF ?_
  | refine skipT (by omega) ?_
  | refine skipF (by omega) ?_
  | refine skipT (by decide) ?_
  | refine skipF (by decide) ?_
  | refine ⟨_, (show tyNames _ = some _ from rfl), ?_⟩
  | refine And.intro (by walk_at "cv") ?_)
local macro_rules | `(tactic| walk_at "s1") => `(tactic| try (walk_at "s0"; walk_at "wh"))
local macro_rules | `(tactic| walk_at "go") => `(tactic| (walk_at "wh"; walk_at "s1"; walk_at "s1"; walk_at "s1"; walk_at "s1"; walk_at "s1"; walk_at "s1"; walk_at "s1"; walk_at "s1"; walk_at "s1"; walk_at "s1"; walk_at "s1"; walk_at "s1"; walk_at "s1"; walk_at "s1"; walk_at "s1"; walk_at "s1"; walk_at "s1"; walk_at "s1"; walk_at "s1"; walk_at "s1"; walk_at "s1"; walk_at "s1"; walk_at "s1"; walk_at "s1"))

theorem cOk.mono {b d : Int} (h : b ≤ d) : ∀ {x : Cell}, cOk b x → cOk d x
  | .inl i, ⟨h1, h2⟩ => ⟨by omega, by omega⟩
  | .inr _, q => q
theorem seqI {s u : VS} {V : Ve} {E : En} (I : En → Prop) (h : ∀ N : En → Prop, (∀ E1, I E1 → N E1) → s { V with nx := N } E) (k : ∀ E1, I E1 → u V E1) : sSeq s u V E := h _ k
theorem ixN_of {n j : Nat} (h : j < n) : ixN n (j : Int) = some j := by
  unfold ixN
  rw [if_pos (by omega), if_pos (by omega)]
  rfl
def RowsOk (rs : List (List Cell)) (w : Nat) (b : Int) : Prop := ∀ r ∈ rs, r.length = w ∧ ∀ x ∈ r, cOk b x
def mRows : VM := fun ds c Q => ds = [.tape] ∧ ∀ (rs : List (List Cell)) (w : Nat), rs.length ≤ 9 → 1 ≤ w → w ≤ 4 → RowsOk rs w (bigB + 20) → Q (.lst (rs.map rowD)) c
section
variable {P : Program} {w : World} {K : PySem.W.Frag} {mg : PySem.Str → Option Value} {base : Heap}
theorem ok__law_rows (T : Txt P K mg) : FnOk P w K mg base CX0 4 T.a__law_rows T.d__law_rows ["tape"] (spV (Sx T) mRows) := by
  have G__law_draw := draw_v (S := Sx T) (ok__law_draw (P := P) (w := w) (base := base) T)
  have G__law_near := ok__law_near (P := P) (w := w) (base := base) T
  have G__law_any := ok__law_any (P := P) (w := w) (base := base) T
  refine def_v (S := Sx T) (N := N__law_rows) T.F__law_rows sc__law_rows rfl (fun ds c Q h => by obtain ⟨rfl, _⟩ := h; first | rfl | assumption) (fun cdv A outer s H E hr => (vss_cons (vs_set (i := 1) sc__law_rows.nd rfl (.inl rfl) (fe_op (o_add rfl) ve_int (be_of (ve_call G__law_draw (hr.mono (by omega)) (by rfl) T.g__law_draw T.F__law_draw.kp T.b__law_draw (va_cons (ve_name (pv 0)) (va_cons ve_int va_nil))))))
      (vss_cons (vs_set (i := 2) sc__law_rows.nd rfl (.inl rfl) (fe_lst va_nil))
      (vss_cons (vs_for PassesOwn.never rfl (vi_range1 (by rfl) T.z_range (va_cons (ve_of (fe_ix (i_ix rfl (hu_of hr)) (ve_of (fe_lst (va_cons ve_int (va_cons ve_int (va_cons ve_int (va_cons ve_int (va_cons ve_int (va_cons ve_int va_nil)))))))) (be_of (ve_call G__law_draw (hr.mono (by omega)) (by rfl) T.g__law_draw T.F__law_draw.kp T.b__law_draw (va_cons (ve_name (pv 0)) (va_cons ve_int va_nil)))) (fun _ _ => rfl))) va_nil)) (vg_name (i := 3) [3] (by decide) sc__law_rows.nd rfl (.inl rfl))
      (vss_cons (vs_set (i := 4) sc__law_rows.nd rfl (.inl rfl) (fe_of (ve_call G__law_draw (hr.mono (by omega)) (by rfl) T.g__law_draw T.F__law_draw.kp T.b__law_draw (va_cons (ve_name (pv 0)) (va_cons ve_int va_nil)))))
      (vss_cons (vs_if (vb_w (vw_and (vb_tru rfl (be_name (pv 2))) (vw_and1 (vb_cmp o_lt (ve_name (pv 4)) (be_of ve_int) (nomark _))))) (vss_one (vs_set (i := 5) sc__law_rows.nd rfl (.inl rfl) (pe_CB1 (c_listD rfl rfl) (fun hc ha => pe_callTy hc (by rfl) T.z_list boot_list ha) (be_of (ve_of (fe_ixN (i_ix rfl (hu_of hr)) (pv 2) (be_of (ve_call G__law_draw (hr.mono (by omega)) (by rfl) T.g__law_draw T.F__law_draw.kp T.b__law_draw (va_cons (ve_name (pv 0)) (va_cons (ve_of (pe_CB1 (c_len rfl) (fun hc ha => pe_callB hc (by rfl) T.z_len boot_len ha) (be_name (pv 2)))) va_nil)))) (fun _ _ => rfl))))))) (vss_one (vs_fz 0 (vs_setLc (i := 5) (own := [("i", 7)]) rfl sc__law_rows.nd rfl rfl (sw_true rfl rfl rfl (by decide +kernel)) (vi_range1 (by rfl) T.z_range (va_cons (ve_name (pv 1)) va_nil)) (blkOk_by (own := [("i", 7)]) (N := N__law_rows) (sc := defScope s__law_rows) (by decide +kernel)) (fun _ _ _ _ _ => (vg_name (i := 7) [7] (by decide) sc__law_rows.nd rfl (.inl rfl))) (fun _ _ _ _ _ => vts_nil) (fun _ _ _ _ _ => (ve_call G__law_any hr (by rfl) T.g__law_any T.F__law_any.kp T.b__law_any (va_cons (ve_name (pv 0)) va_nil)))))))
      (vss_cons (vs_if (vb_cmp (o_eq rfl hr.units) (ve_name (pv 4)) (be_of ve_int) (nomark _)) (vss_cons (vs_set (i := 6) sc__law_rows.nd rfl (.inl rfl) (fe_of (ve_call G__law_draw (hr.mono (by omega)) (by rfl) T.g__law_draw T.F__law_draw.kp T.b__law_draw (va_cons (ve_name (pv 0)) (va_cons (ve_name (pv 1)) va_nil)))))
      (vss_one (vs_lput (pv 5) (ve_name (pv 6)) (ve_call G__law_near (hr.mono (by omega)) (by rfl) T.g__law_near T.F__law_near.kp T.b__law_near (va_cons (ve_name (pv 0)) (va_cons (ve_of (fe_ixN (i_ix rfl (hu_of hr)) (pv 5) (be_name (pv 6)) (fun _ _ => rfl))) va_nil)))))) vss_nil)
      (vss_one (vs_append rfl (pv 2) (ve_of (pe_CB1 (c_tupleD rfl rfl) (fun hc ha => pe_callTy hc (by rfl) T.z_tuple boot_tuple ha) (be_name (pv 5))))))))))
      (vss_one (vs_ret (ve_name (pv 2)))))))) ?_
  rintro ds c Q ⟨rfl, q⟩
  refine ⟨4, rfl, Nat.zero_le _, dm (by decide), fun r0 hr0 => ?_⟩
  have hr0 : r0 < 4 := by omega
  walk_at "wh"
  refine ⟨by show 0 ≤ 1000; decide, ?_⟩
  walk_at "wh"
  refine ⟨by show 6 ≤ 1000; decide, 6, rfl, Nat.zero_le _, dm (by decide), fun r6 hr6 => ?_⟩
  obtain ⟨d6, ed6, md6⟩ := pickD (l := [D.int 0, .int 1, .int 2, .int 3, .int 5, .int 9]) (i := r6) (by simp; omega)
  obtain ⟨n6, rfl, hn6⟩ := int_mem (P := fun i => 0 ≤ i ∧ i ≤ 9) md6 (by simp)
  walk_at "wh"
  refine withD_of ed6 ?_
  walk_at "wh"
  refine ⟨⟨by omega, by omega⟩, ?_⟩
  have lr : (rng 0 n6.toNat).length ≤ 9 := by simp only [rng, List.length_map, List.length_range]; omega
  refine ⟨fun i E => Iv (∃ (rs : List (List Cell)) (y3 y4 y5 y6 y7 : SV), E = ⟨[.v .tape, .v (.int (1 + (r0 : Int))), .ol (rs.map rowD), y3, y4, y5, y6, y7], c⟩ ∧ rs.length = i ∧ RowsOk rs (1 + r0) (bigB + i)), .a ⟨[], _, _, _, _, _, rfl, rfl, fun _ h => nomatch h⟩, ?_, ?_⟩
  · intro i d E ed iv
    obtain ⟨rs, y3, y4, y5, y6, y7, rfl, hl, ho⟩ := iv.out
    have hi := (List.getElem?_eq_some_iff.mp ed).1
    walk_at "wh"
    refine ⟨4, rfl, Nat.zero_le _, dm (by decide), fun sh hsh => ?_⟩
    dsimp only
    refine seqI (fun E => ∃ (r : List Cell) (z7 : SV), E = ⟨[.v .tape, .v (.int (1 + (r0 : Int))), .ol (rs.map rowD), .v d, .v (.int sh), .ol (r.map cellD), y6, z7], c⟩ ∧ r.length = 1 + r0 ∧ ∀ x ∈ r, cOk (bigB + i) x) ?_ ?_
    · intro N hN
      have anys : ∀ V : Ve, (∀ E1, (∃ (r : List Cell) (z7 : SV), E1 = ⟨[.v .tape, .v (.int (1 + (r0 : Int))), .ol (rs.map rowD), .v d, .v (.int sh), .ol (r.map cellD), y6, z7], c⟩ ∧ r.length = 1 + r0 ∧ ∀ x ∈ r, cOk (bigB + i) x) → V.nx E1) → sFz 0 (sSet 5 (vLc (vR1 (aCons (vName 1) aNil)) (gN 7) cYes (vCall mAny (aCons (vName 0) aNil)) [7])) V ⟨[.v .tape, .v (.int (1 + (r0 : Int))), .ol (rs.map rowD), .v d, .v (.int sh), y5, y6, y7], c⟩ := fun V hN => by
        walk_at "wh"
        refine ⟨by omega, ?_⟩
        have l5 : (rng 0 ((1 : Int) + (r0 : Nat)).toNat).length = 1 + r0 := by simp only [rng, List.length_map, List.length_range]; omega
        refine ⟨by rw [l5]; omega, fun i2 acc k => Iv (∃ r : List Cell, acc = r.map cellD ∧ r.length = i2 ∧ (∀ x ∈ r, cOk (bigB + i) x) ∧ k = c), .a ⟨[], rfl, rfl, (fun _ h => nomatch h), rfl⟩, ?_, ?_⟩
        · intro i2 d2 acc k ed2 iv2 la
          obtain ⟨r, rfl, hrl, hrx, ek⟩ := iv2.out
          subst k
          refine wayT ?_
          walk_at "wh"
          refine ⟨rfl, fun x hx => ?_⟩
          refine .a ⟨r ++ [x], by rw [List.map_append]; rfl, by simp [hrl], fun y hy => ?_, rfl⟩
          rcases List.mem_append.mp hy with hy | hy
          · exact hrx y hy
          · rw [List.mem_singleton.mp hy]
            exact cOk.mono (by omega) hx
        · intro acc k iv2 la
          obtain ⟨r, rfl, hrl, hrx, ek⟩ := iv2.out
          subst k
          rw [l5] at hrl
          walk_at "wh"
          exact hN _ ⟨r, _, rfl, hrl, hrx⟩
      walk_at "wh"
      have rln : (rs.map rowD).length = rs.length := List.length_map _
      refine both (fun e1 => ?_) (fun e1 => ?_)
      · have ne : 0 < rs.length := by
          cases rs with
          | nil => exact Bool.noConfusion e1
          | cons a l => simp
        walk_at "wh"
        refine bothD (fun e2 => ?_) (fun e2 => ?_)
        · walk_at "wh"
          refine ⟨rs.length, by rw [rln]; rfl, Nat.zero_le _, dm (by omega), fun r hr => ?_⟩
          have hr : r < rs.length := by omega
          obtain ⟨row, erow⟩ : ∃ row, rs[r]? = some row := ⟨rs[r], List.getElem?_eq_getElem hr⟩
          obtain ⟨w1, w2⟩ := ho row (List.mem_of_getElem? erow)
          refine withD_of (d := rowD row) (atI_nat (by rw [List.getElem?_map, erow]; rfl)) ?_
          walk_at "wh"
          exact hN _ ⟨row, _, rfl, w1, w2⟩
        · exact anys _ hN
      · walk_at "wh"
        refine wayF ?_
        exact anys _ hN
    rintro _ ⟨r, z7, rfl, hrl, hrx⟩
    refine seqI (fun E => ∃ (r : List Cell) (z6 : SV), E = ⟨[.v .tape, .v (.int (1 + (r0 : Int))), .ol (rs.map rowD), .v d, .v (.int sh), .ol (r.map cellD), z6, z7], c⟩ ∧ r.length = 1 + r0 ∧ ∀ x ∈ r, cOk (bigB + (i + 1 : Nat)) x) ?_ ?_
    · intro N hN
      walk_at "wh"
      refine bothD (fun e => ?_) (fun e => ?_)
      · walk_at "wh"
        refine ⟨1 + (r0 : Int), rfl, Nat.zero_le _, dm (by omega), fun ra hra => ?_⟩
        have hra : ra < r.length := by omega
        obtain ⟨x, ex⟩ : ∃ x, r[ra]? = some x := ⟨r[ra], List.getElem?_eq_getElem hra⟩
        have ox := hrx x (List.mem_of_getElem? ex)
        walk_at "wh"
        refine withD_of (d := cellD x) (atI_nat (by rw [List.getElem?_map, ex]; rfl)) ?_
        walk_at "wh"
        refine ⟨x, bigB + i, rfl, ox, by unfold bigB; omega, by unfold bigB; omega, fun y hy => ?_⟩
        walk_at "wh"
        refine ⟨(ra : Int), ra, rfl, by rw [List.length_map]; exact ixN_of hra, ?_⟩
        have es : (r.map cellD).set ra (cellD y) = (r.set ra y).map cellD := (List.map_set).symm
        rw [es]
        refine hN _ ⟨r.set ra y, _, rfl, by rw [List.length_set]; exact hrl, fun z hz => ?_⟩
        rcases List.mem_or_eq_of_mem_set hz with hz | rfl
        · exact cOk.mono (by omega) (hrx z hz)
        · exact cOk.mono (by omega) hy
      · walk_at "wh"
        exact hN _ ⟨r, _, rfl, hrl, fun x hx => cOk.mono (by omega) (hrx x hx)⟩
    clear hrl hrx
    rintro _ ⟨r, z6, rfl, hrl, hrx⟩
    walk_at "wh"
    refine ⟨by rw [List.length_map]; omega, ?_⟩
    refine .a ⟨rs ++ [r], _, _, _, _, _, by rw [List.map_append]; rfl, by simp [hl], fun q hq => ?_⟩
    rcases List.mem_append.mp hq with hq | hq
    · exact ⟨(ho q hq).1, fun x hx => cOk.mono (by omega) ((ho q hq).2 x hx)⟩
    · rw [List.mem_singleton.mp hq]
      exact ⟨hrl, hrx⟩
  · intro E iv
    obtain ⟨rs, y3, y4, y5, y6, y7, rfl, hl, ho⟩ := iv.out
    walk_at "wh"
    exact q rs (1 + r0) (by omega) (by omega) (by omega) fun r h => ⟨(ho r h).1, fun x hx => cOk.mono (by omega) ((ho r h).2 x hx)⟩
end
end Va

set_option Elab.async false
set_option linter.all false
set_option maxRecDepth 100000
set_option maxHeartbeats 4000000
namespace Va
open PySem PySem.Spec PyProof.Rows L2 Ind RowK
local macro_rules | `(tactic| walk_at "cn") => `(tactic| first
  | assumption
  | omega
  | exact dm (by omega)
  | exact line (by simp)
  | exact line (by omega)
  | exact line (by simp only [len_app, len_one]; omega)
  | exact small_div (by omega) (by omega)
  | solve_by_elim
  | exact Or.inr ⟨by omega, by omega⟩
  | exact Or.inl ⟨by omega, by omega⟩
  | exact ⟨by omega, by omega⟩
  | decide)
local macro_rules | `(tactic| walk_at "st") => `(tactic| repeat (first
  | refine ⟨_, rfl, ?_⟩
  | refine ⟨_, _, rfl, rfl, ?_⟩
  | refine ⟨_, _, rfl, ?_⟩
  | refine .inl ⟨_, rfl, ?_⟩
  | refine And.intro rfl ?_
  | refine And.intro (by walk_at "cn") ?_))
local macro_rules | `(tactic| walk_at "fz") => `(tactic| repeat (first | exact Fz.refl | apply Fz.upd))
local macro_rules | `(tactic| walk_at "hl") => `(tactic| ((repeat rw [upd_ne (by assumption)]); assumption))
local macro_rules | `(tactic| walk_at "fy") => `(tactic| (intro b o n1 h; (repeat rw [upd_ne n1]); exact h))
local macro_rules | `(tactic| walk_at "wh") => `(tactic| (conv => whnf))
local macro_rules | `(tactic| walk_at "cv") => `(tactic| first
  | rfl
  | assumption
  | omega
  | exact dm (by omega)
  | exact small_div (by omega) (by omega)
  | (simp only [len_app, one_len, len_one, List.length_append, List.length_map, List.length_cons, List.length_nil]; omega)
  | exact Or.inr ⟨by omega, by omega⟩
  | exact Or.inl ⟨by omega, by omega⟩
  | exact ⟨by omega, by omega⟩
  | decide)
local macro_rules | `(tactic| walk_at "vv") => `(tactic| repeat (refine And.intro (by walk_at "cv") ?_))
local macro_rules | `(tactic| walk_at "sk") => `(tactic| repeat (first
  | refine wayT ?_
  | refine wayF ?_
  | refine skipT (by omega) ?_
  | refine skipF (by omega) ?_
  | refine skipT (by decide) ?_
  | refine skipF (by decide) ?_
  | refine ⟨_, (show tyNames _ = some _ from rfl), ?_⟩
  | refine And.intro (by walk_at "cv") ?_))
local macro_rules | `(tactic| walk_at "s0") => `(tactic| first
  | refine wayT ?_
  | refine wayF ?_
  | refine skipT (by omega) ?_
  | refine skipF (by omega) ?_
  | refine skipT (by decide) ?_
  | refine skipF (by decide) ?_
  | refine ⟨_, (show tyNames _ = some _ from rfl), ?_⟩
  | refine And.intro (by walk_at "cv") ?_)
local macro_rules | `(tactic| walk_at "s1") => `(tactic| try (walk_at "s0"; walk_at "wh"))
local macro_rules | `(tactic| walk_at "go") => `(tactic| (walk_at "wh"; walk_at "s1"; walk_at "s1"; walk_at "s1"; walk_at "s1"; walk_at "s1"; walk_at "s1"; walk_at "s1"; walk_at "s1"; walk_at "s1"; walk_at "s1"; walk_at "s1"; walk_at "s1"; walk_at "s1"; walk_at "s1"; walk_at "s1"; walk_at "s1"; walk_at "s1"; walk_at "s1"; walk_at "s1"; walk_at "s1"; walk_at "s1"; walk_at "s1"; walk_at "s1"; walk_at "s1"))

def mBefore : VM := fun ds c Q => ∃ (x y : Cell) (b : Int), ds = [cellD x, cellD y] ∧ cOk b x ∧ cOk b y ∧ Q (.bl (ltC x y)) c
section
variable {P : Program} {w : World} {K : PySem.W.Frag} {mg : PySem.Str → Option Value} {base : Heap}
theorem ok__law_comes_before (T : Txt P K mg) : FnOk P w K mg base CX0 2 T.a__law_comes_before T.d__law_comes_before ["left", "right"] (spV (Sx T) mBefore) := by
  have G__law_signs := ok__law_signs (P := P) (w := w) (base := base) T
  refine def_v (S := Sx T) (N := N__law_comes_before) T.F__law_comes_before sc__law_comes_before rfl (fun ds c Q h => by obtain ⟨x, y, b, rfl, _⟩ := h; first | rfl | assumption) (fun cdv A outer s H E hr => (vss_cons (vs_if (vb_w (vw_or (vb_tru rfl (be_of (ve_of (pe_CB (c_isi rfl) (fun hc ha => pe_callB hc (by rfl) T.z_isinstance boot_isinstance ha) (va_cons (ve_name (pv 0)) (va_cons (ve_ty (x := "") (pe_bltn (v := .ty "int") (by rfl) T.z_int boot_int rfl)) va_nil)))))) (vw_or1 (vb_tru rfl (be_of (ve_of (pe_CB (c_isi rfl) (fun hc ha => pe_callB hc (by rfl) T.z_isinstance boot_isinstance ha) (va_cons (ve_name (pv 1)) (va_cons (ve_ty (x := "") (pe_bltn (v := .ty "int") (by rfl) T.z_int boot_int rfl)) va_nil))))))))) (vss_one (vs_ret (ve_and (ve_of (pe_CB (c_isi rfl) (fun hc ha => pe_callB hc (by rfl) T.z_isinstance boot_isinstance ha) (va_cons (ve_name (pv 0)) (va_cons (ve_ty (x := "") (pe_bltn (v := .ty "int") (by rfl) T.z_int boot_int rfl)) va_nil)))) (ve_one (ve_or (ve_not (ve_of (pe_CB (c_isi rfl) (fun hc ha => pe_callB hc (by rfl) T.z_isinstance boot_isinstance ha) (va_cons (ve_name (pv 1)) (va_cons (ve_ty (x := "") (pe_bltn (v := .ty "int") (by rfl) T.z_int boot_int rfl)) va_nil))))) (ve_one (ve_of (fe_cmp o_lt (ve_name (pv 0)) (be_name (pv 1)) (nomark _))))))))) vss_nil)
      (vss_cons (vs_set (i := 2) sc__law_comes_before.nd rfl (.inl rfl) (fe_of (ve_call0 G__law_signs hr (by rfl) T.g__law_signs T.F__law_signs.kp T.b__law_signs)))
      (vss_cons (vs_for PassesOwn.never rfl (vi_range1 (by rfl) T.z_range (va_cons (ve_of (pe_CB (c_min rfl) (fun hc ha => pe_callB hc (by rfl) T.z_min boot_min ha) (va_cons (ve_of (pe_CB1 (c_len rfl) (fun hc ha => pe_callB hc (by rfl) T.z_len boot_len ha) (be_name (pv 0)))) (va_cons (ve_of (pe_CB1 (c_len rfl) (fun hc ha => pe_callB hc (by rfl) T.z_len boot_len ha) (be_name (pv 1)))) va_nil)))) va_nil)) (vg_name (i := 3) [3] (by decide) sc__law_comes_before.nd rfl (.inl rfl))
      (vss_one (vs_if (vb_cmp (o_ne rfl hr.units) (ve_of (fe_ixN (i_ix rfl (hu_of hr)) (pv 0) (be_name (pv 3)) (fun _ _ => rfl))) (be_of (ve_of (fe_ixN (i_ix rfl (hu_of hr)) (pv 1) (be_name (pv 3)) (fun _ _ => rfl)))) (nomark _)) (vss_one (vs_ret (ve_of (fe_cmp o_lt (ve_of (fe_sindex (ve_name (pv 2)) (va_cons (ve_of (fe_ixN (i_ix rfl (hu_of hr)) (pv 0) (be_name (pv 3)) (fun _ _ => rfl))) va_nil))) (be_of (ve_of (fe_sindex (ve_name (pv 2)) (va_cons (ve_of (fe_ixN (i_ix rfl (hu_of hr)) (pv 1) (be_name (pv 3)) (fun _ _ => rfl))) va_nil)))) (nomark _))))) vss_nil)))
      (vss_one (vs_ret (ve_of (fe_cmp o_lt (ve_of (pe_CB1 (c_len rfl) (fun hc ha => pe_callB hc (by rfl) T.z_len boot_len ha) (be_name (pv 0)))) (be_of (ve_of (pe_CB1 (c_len rfl) (fun hc ha => pe_callB hc (by rfl) T.z_len boot_len ha) (be_name (pv 1))))) (nomark _))))))))) ?_
  rintro ds c Q ⟨x, y, b, rfl, hx, hy, q⟩
  cases x with
  | inl i =>
    cases y with
    | inl j =>
      walk_at "go"
      exact q
    | inr y =>
      walk_at "go"
      exact q
  | inr x =>
    cases y with
    | inl j =>
      walk_at "go"
      exact q
    | inr y =>
      obtain ⟨h1, h2⟩ := hx
      obtain ⟨h3, h4⟩ := hy
      walk_at "go"
      have lr : (rng 0 (if ((y.length : Nat) : Int) < ((x.length : Nat) : Int) then ((y.length : Nat) : Int) else ((x.length : Nat) : Int)).toNat).length = min x.length y.length := by
        simp only [rng, List.length_map, List.length_range]
        split <;> omega
      refine ⟨fun i E => Iv (∃ z3, E = ⟨[.v (.str x), .v (.str y), .v (.str sg), z3], c⟩ ∧ x.cps.toList.take i = y.cps.toList.take i), .a ⟨_, rfl, rfl⟩, ?_, ?_⟩
      · intro i d E ed iv
        obtain ⟨z3, rfl, ht⟩ := iv.out
        have hi := (List.getElem?_eq_some_iff.mp ed).1
        rw [lr] at hi
        obtain ⟨rfl, _⟩ := rng_at ed
        have hxi : i < x.cps.toList.length := by rw [← codes_len]; omega
        have hyi : i < y.cps.toList.length := by rw [← codes_len]; omega
        have ax : atI x.cps.toList (0 + (i : Int)) = some (x.cps.toList[i]) := by
          rw [Int.zero_add]
          exact atI_nat (List.getElem?_eq_getElem hxi)
        have ay : atI y.cps.toList (0 + (i : Int)) = some (y.cps.toList[i]) := by
          rw [Int.zero_add]
          exact atI_nat (List.getElem?_eq_getElem hyi)
        have ex := List.getElem?_eq_getElem hxi
        have ey := List.getElem?_eq_getElem hyi
        have sx := h2 _ (List.getElem_mem hxi)
        have sy := h4 _ (List.getElem_mem hyi)
        generalize x.cps.toList[i] = p at ax ex sx
        generalize y.cps.toList[i] = r at ay ey sy
        walk_at "wh"
        refine ⟨by omega, p, ax, ?_⟩
        walk_at "wh"
        refine ⟨by omega, r, ay, ?_⟩
        walk_at "wh"
        have one_ne : (⟨#[p]⟩ : Tx) = ⟨#[r]⟩ ↔ p = r := ⟨fun e => by injection e with e; simpa using e, fun e => by rw [e]⟩
        refine both (fun e => ?_) (fun e => ?_)
        · have ne : p ≠ r := fun z => by
            rw [one_ne.mpr z] at e
            simp at e
          walk_at "wh"
          refine ⟨⟨_, rfl⟩, by omega, p, ax, ?_⟩
          refine ⟨_, _, _, _, rfl, rfl, sg_index sx, ?_⟩
          walk_at "wh"
          refine ⟨⟨_, rfl⟩, by omega, r, ay, ?_⟩
          refine ⟨_, _, _, _, rfl, rfl, sg_index sy, ?_⟩
          walk_at "wh"
          have fin : ltC (.inr x) (.inr y) = decide ((sgIx p : Int) < (sgIx r : Int)) := by
            show decide (x.cps.toList < y.cps.toList) = _
            rw [decide_eq_decide, lt_at _ _ i p r ht ex ey ne, ← sgIx_lt sx sy]
            omega
          rw [fin] at q
          exact q
        · have eq : p = r := by
            have z : (!decide ((⟨#[p]⟩ : Tx) = ⟨#[r]⟩)) = false := e
            have z2 : (⟨#[p]⟩ : Tx) = ⟨#[r]⟩ := by simpa using z
            exact one_ne.mp z2
          subst eq
          walk_at "wh"
          refine .a ⟨_, rfl, ?_⟩
          rw [take_more ex, take_more ey, ht]
      · intro E iv
        obtain ⟨z3, rfl, ht⟩ := iv.out
        rw [lr] at ht
        walk_at "go"
        have fin : ltC (.inr x) (.inr y) = decide (((x.length : Nat) : Int) < ((y.length : Nat) : Int)) := by
          show decide (x.cps.toList < y.cps.toList) = _
          rw [decide_eq_decide, lt_end _ _ (by rw [← codes_len, ← codes_len]; exact ht), ← codes_len, ← codes_len]
          omega
        rw [fin] at q
        exact q
theorem ltR_step {r s : List Cell} (hl : r.length = s.length) {i : Nat} {x y : Cell} (ht : r.take i = s.take i) (ex : r[i]? = some x) (ey : s[i]? = some y) (ne : x ≠ y) : ltR r s = ltC x y := by
  induction r generalizing s i with
  | nil => simp at ex
  | cons a r ih =>
    cases s with
    | nil => simp at ey
    | cons b s =>
      show (if a = b then ltR r s else ltC a b) = _
      cases i with
      | zero =>
        simp at ex ey
        subst ex
        subst ey
        rw [if_neg ne]
      | succ i =>
        simp at ex ey ht hl
        rw [if_pos ht.1]
        exact ih hl ht.2 ex ey
def mRowBefore : VM := fun ds c Q => ∃ (r s : List Cell) (b : Int), ds = [rowD r, rowD s] ∧ r.length = s.length ∧ r.length < 1000 ∧ (∀ x ∈ r, cOk b x) ∧ (∀ x ∈ s, cOk b x) ∧ Q (.bl (ltR r s)) c
theorem ne_cells {x y : Cell} {f : Bool → RV} {Q : RV → Prop} (h : Q (f (decide (x = y)))) : eqD (cellD x) (cellD y) f Q := by
  cases x with
  | inl i =>
    cases y with
    | inl j =>
      have e : decide ((Sum.inl i : Cell) = .inl j) = decide (i = j) := by rw [decide_eq_decide]; simp
      rw [e] at h
      exact h
    | inr y => exact h
  | inr x =>
    cases y with
    | inl j => exact h
    | inr y =>
      have e : decide ((Sum.inr x : Cell) = .inr y) = decide (x = y) := by rw [decide_eq_decide]; simp
      rw [e] at h
      exact h
theorem ok__law_row_before (T : Txt P K mg) : FnOk P w K mg base CX0 3 T.a__law_row_before T.d__law_row_before ["left", "right"] (spV (Sx T) mRowBefore) := by
  have G__law_comes_before := ok__law_comes_before (P := P) (w := w) (base := base) T
  refine def_v (S := Sx T) (N := N__law_row_before) T.F__law_row_before sc__law_row_before rfl (fun ds c Q h => by obtain ⟨r, s, b, rfl, _⟩ := h; first | rfl | assumption) (fun cdv A outer s H E hr => (vss_cons (vs_for PassesOwn.never rfl (vi_range1 (by rfl) T.z_range (va_cons (ve_of (pe_CB1 (c_len rfl) (fun hc ha => pe_callB hc (by rfl) T.z_len boot_len ha) (be_name (pv 0)))) va_nil)) (vg_name (i := 2) [2] (by decide) sc__law_row_before.nd rfl (.inl rfl))
      (vss_one (vs_if (vb_cmp (o_ne rfl hr.units) (ve_of (fe_ixN (i_ix rfl (hu_of hr)) (pv 0) (be_name (pv 2)) (fun _ _ => rfl))) (be_of (ve_of (fe_ixN (i_ix rfl (hu_of hr)) (pv 1) (be_name (pv 2)) (fun _ _ => rfl)))) (nomark _)) (vss_one (vs_ret (ve_call G__law_comes_before hr (by rfl) T.g__law_comes_before T.F__law_comes_before.kp T.b__law_comes_before (va_cons (ve_of (fe_ixN (i_ix rfl (hu_of hr)) (pv 0) (be_name (pv 2)) (fun _ _ => rfl))) (va_cons (ve_of (fe_ixN (i_ix rfl (hu_of hr)) (pv 1) (be_name (pv 2)) (fun _ _ => rfl))) va_nil))))) vss_nil)))
      (vss_one (vs_ret ve_bl)))) ?_
  rintro ds c Q ⟨r, s, b, rfl, hl, h9, hr, hs, q⟩
  walk_at "wh"
  have lm : (r.map cellD).length = r.length := List.length_map _
  refine ⟨by rw [lm]; omega, ?_⟩
  have lr : (rng 0 (((r.map cellD).length : Nat) : Int).toNat).length = r.length := by simp [rng]
  refine ⟨fun i E => Iv (∃ z, E = ⟨[.v (rowD r), .v (rowD s), z], c⟩ ∧ r.take i = s.take i), .a ⟨_, rfl, rfl⟩, ?_, ?_⟩
  · intro i d E ed iv
    obtain ⟨z, rfl, ht⟩ := iv.out
    have hi := (List.getElem?_eq_some_iff.mp ed).1
    rw [lr] at hi
    obtain ⟨rfl, _⟩ := rng_at ed
    have ex := List.getElem?_eq_getElem hi
    have ey := List.getElem?_eq_getElem (l := s) (i := i) (by omega)
    have ox := hr _ (List.mem_of_getElem? ex)
    have oy := hs _ (List.mem_of_getElem? ey)
    generalize r[i] = x at ex ox
    generalize s[i] = y at ey oy
    have ax : atI (r.map cellD) (0 + (i : Int)) = some (cellD x) := by
      rw [Int.zero_add]
      exact atI_nat (by rw [List.getElem?_map, ex]; rfl)
    have ay : atI (s.map cellD) (0 + (i : Int)) = some (cellD y) := by
      rw [Int.zero_add]
      exact atI_nat (by rw [List.getElem?_map, ey]; rfl)
    walk_at "wh"
    refine withD_of ax ?_
    walk_at "wh"
    refine withD_of ay ?_
    refine ne_cells ?_
    walk_at "wh"
    refine both (fun e => ?_) (fun e => ?_)
    · have ne : x ≠ y := fun z => by
        have e : (!decide (x = y)) = true := e
        rw [decide_eq_true z] at e
        cases e
      walk_at "wh"
      refine withD_of ax ?_
      walk_at "wh"
      refine withD_of ay ?_
      walk_at "wh"
      refine ⟨x, y, b, rfl, ox, oy, ?_⟩
      rw [ltR_step hl ht ex ey ne] at q
      exact q
    · have eq : x = y := by
        have e : (!decide (x = y)) = false := e
        simpa using e
      subst eq
      walk_at "wh"
      refine .a ⟨_, rfl, ?_⟩
      rw [take_more ex, take_more ey, ht]
  · intro E iv
    obtain ⟨z, rfl, ht⟩ := iv.out
    rw [lr, List.take_length, hl, List.take_length] at ht
    subst ht
    walk_at "wh"
    rw [ltR_irr] at q
    exact q
end
end Va

set_option Elab.async false
set_option linter.all false
set_option maxRecDepth 100000
set_option maxHeartbeats 4000000
namespace Va
open PySem PySem.Spec PyProof.Rows L2 Ind RowK
/-! ### rows may be shown -/
def shows (d : D) : Prop := SeqAt.shaped d.pd = true ∧ d.pd.showable = true ∧ d.pd.hasDict = false ∧ d.pd.depth ≤ 60 ∧ d.pd.shown.length ≤ 1000000
def cellP : Cell → PyData
  | .inl i => .int i
  | .inr x => .str x
def rowP (r : List Cell) : PyData := .tuple (r.map cellP)
theorem pd_cell : ∀ c : Cell, (cellD c).pd = cellP c
  | .inl _ => rfl
  | .inr _ => rfl
theorem pd_row (r : List Cell) : (rowD r).pd = rowP r := by
  show PyData.tuple (pdL (r.map cellD)) = PyData.tuple _
  rw [pdL_map, List.map_map]
  congr 1
  exact List.map_congr_left fun c _ => pd_cell c
theorem pd_rows (rs : List (List Cell)) : (D.tup (rs.map rowD)).pd = .tuple (rs.map rowP) := by
  show PyData.tuple (pdL (rs.map rowD)) = PyData.tuple _
  rw [pdL_map, List.map_map]
  congr 1
  exact List.map_congr_left fun c _ => pd_row c
theorem abs_big {i : Int} (h : -(bigB + 20) ≤ i ∧ i ≤ bigB + 20) : i.natAbs < 10 ^ 32 := by
  unfold bigB at h
  have e : (10 : Nat) ^ 32 = 100000000000000000000000000000000 := by decide +kernel
  rw [e]
  omega
theorem int_leaf {i : Int} (h : -(bigB + 20) ≤ i ∧ i ≤ bigB + 20) : PyData.leavesShort 40 (.int i) = true := by
  simp only [PyData.leavesShort, decide_eq_true_eq]
  have e := PySem.int_text_length_le10 (a := i) (k := 32) (by decide) (abs_big h)
  show (PySem.Str.ofString (toString i)).length ≤ 40
  rw [PySem.ofString_length]
  omega
theorem int_log {i : Int} (h : -(bigB + 20) ≤ i ∧ i ≤ bigB + 20) : i.natAbs.log2 < 1920 := by
  have a := abs_big h
  by_cases z : i.natAbs = 0
  · rw [z]
    decide
  · have e : (10 : Nat) ^ 32 ≤ 2 ^ 120 := by decide +kernel
    have := (Nat.log2_lt z).mpr (Nat.lt_of_lt_of_le a e)
    omega
theorem sgn_ok {x : Tx} (h : Sgns x) : tOk x := fun c hc => by
  have := (h c hc).2.1
  omega
/-- what a piece of data must have, so that it may be shown -/
structure Small (d : PyData) (k m : Nat) : Prop where
  lay : d.canLay0 = true
  sho : d.showable = true
  nod : d.hasDict = false
  dep : d.depth ≤ k
  leaf : d.leavesShort 40 = true
  bulk : d.bulk ≤ m
theorem small_cell {c : Cell} (h : cOk (bigB + 20) c) : Small (cellP c) 1 20 := by
  cases c with
  | inl i =>
    have lg := int_log h
    exact ⟨by simp [cellP, PyData.canLay0], by simp [cellP, PyData.showable, lg], by simp [cellP, PyData.hasDict], by simp [cellP, PyData.depth], int_leaf h, by simp [cellP, PyData.bulk]⟩
  | inr x =>
    obtain ⟨h1, h2⟩ := h
    have h3 := sgn_ok h2
    refine ⟨by simp [cellP, PyData.canLay0, h3.ok], by simp [cellP, PyData.showable], by simp [cellP, PyData.hasDict], by simp [cellP, PyData.depth], ?_, by simp only [cellP, PyData.bulk]; exact h1⟩
    simp only [cellP, PyData.leavesShort, List.all_eq_true, decide_eq_true_eq]
    intro c hc
    have := h3 c hc
    omega
theorem small_tup {ds : List PyData} {k m : Nat} (h : ∀ d ∈ ds, Small d k m) : Small (.tuple ds) (k + 1) ((m + 1) * ds.length) := by
  have : PyData.canLayAll0 ds = true ∧ PyData.showableAll ds = true ∧ PyData.hasDictAll ds = false ∧ PyData.depthAll ds ≤ k ∧ PyData.leavesShortAll 40 ds = true ∧ PyData.bulkAll ds ≤ (m + 1) * ds.length := by
    induction ds with
    | nil => simp [PyData.canLayAll0, PyData.showableAll, PyData.hasDictAll, PyData.depthAll, PyData.leavesShortAll, PyData.bulkAll]
    | cons d ds ih =>
      obtain ⟨a1, a2, a3, a4, a5, a6⟩ := ih fun e he => h e (List.mem_cons_of_mem _ he)
      have b := h d List.mem_cons_self
      refine ⟨by simp [PyData.canLayAll0, b.lay, a1], by simp [PyData.showableAll, b.sho, a2], by simp [PyData.hasDictAll, b.nod, a3], ?_, by simp [PyData.leavesShortAll, b.leaf, a5], ?_⟩
      · have := b.dep
        simp only [PyData.depthAll]
        omega
      · have := b.bulk
        simp only [PyData.bulkAll, List.length_cons]
        rw [Nat.mul_succ]
        omega
  obtain ⟨a1, a2, a3, a4, a5, a6⟩ := this
  exact ⟨by simp [PyData.canLay0, a1], by simp [PyData.showable, a2], by simp [PyData.hasDict, a3], by simp only [PyData.depth]; omega, by simp [PyData.leavesShort, a5], by simp only [PyData.bulk]; exact a6⟩
theorem Small.shows {d : PyData} {k m : Nat} (s : Small d k m) (hk : k ≤ 10) (hm : m ≤ 20000) : SeqAt.shaped d = true ∧ d.showable = true ∧ d.hasDict = false ∧ d.depth ≤ 60 ∧ d.shown.length ≤ 1000000 := by
  have h1 := PyData.shown_le_bulk 40 (by decide) d s.leaf
  have h2 := s.bulk
  have h3 := s.dep
  refine ⟨?_, s.sho, s.nod, by omega, by omega⟩
  simp [SeqAt.shaped, s.lay]
  omega
theorem small_row {r : List Cell} {w : Nat} (hw : w ≤ 4) (hl : r.length = w) (h : ∀ x ∈ r, cOk (bigB + 20) x) : Small (rowP r) 2 84 := by
  have s := small_tup (ds := r.map cellP) (k := 1) (m := 20) fun d hd => by
    obtain ⟨x, hx, rfl⟩ := List.mem_map.mp hd
    exact small_cell (h x hx)
  rw [List.length_map] at s
  exact ⟨s.lay, s.sho, s.nod, s.dep, s.leaf, Nat.le_trans s.bulk (by omega)⟩
theorem shows_row {r : List Cell} {w : Nat} (hw : w ≤ 4) (hl : r.length = w) (h : ∀ x ∈ r, cOk (bigB + 20) x) : shows (rowD r) := by
  unfold shows
  rw [pd_row]
  exact (small_row hw hl h).shows (by decide) (by decide)
theorem shows_rows {rs : List (List Cell)} {w : Nat} (hw : w ≤ 4) (hn : rs.length ≤ 40) (h : RowsOk rs w (bigB + 20)) : shows (.tup (rs.map rowD)) := by
  unfold shows
  rw [pd_rows]
  have s := small_tup (ds := rs.map rowP) (k := 2) (m := 84) fun d hd => by
    obtain ⟨r, hr, rfl⟩ := List.mem_map.mp hd
    exact small_row hw (h r hr).1 (h r hr).2
  rw [List.length_map] at s
  exact s.shows (by decide) (by omega)
end Va

set_option Elab.async false
set_option linter.all false
set_option maxRecDepth 100000
set_option maxHeartbeats 4000000
namespace Va
open PySem PySem.Spec PyProof.Rows L2 Ind RowK
local macro_rules | `(tactic| walk_at "cn") => `(tactic| first
  | assumption
  | omega
  | exact dm (by omega)
  | exact line (by simp)
  | exact line (by omega)
  | exact line (by simp only [len_app, len_one]; omega)
  | exact small_div (by omega) (by omega)
  | solve_by_elim
  | exact Or.inr ⟨by omega, by omega⟩
  | exact Or.inl ⟨by omega, by omega⟩
  | exact ⟨by omega, by omega⟩
  | decide)
local macro_rules | `(tactic| walk_at "st") => `(tactic| repeat (first
  | refine ⟨_, rfl, ?_⟩
  | refine ⟨_, _, rfl, rfl, ?_⟩
  | refine ⟨_, _, rfl, ?_⟩
  | refine .inl ⟨_, rfl, ?_⟩
  | refine And.intro rfl ?_
  | refine And.intro (by walk_at "cn") ?_))
local macro_rules | `(tactic| walk_at "fz") => `(tactic| repeat (first | exact Fz.refl | apply Fz.upd))
local macro_rules | `(tactic| walk_at "hl") => `(tactic| ((repeat rw [upd_ne (by assumption)]); assumption))
local macro_rules | `(tactic| walk_at "fy") => `(tactic| (intro b o n1 h; (repeat rw [upd_ne n1]); exact h))
local macro_rules | `(tactic| walk_at "wh") => `(tactic| (conv => whnf))
local macro_rules | `(tactic| walk_at "cv") => `(tactic| first
  | rfl
  | assumption
  | omega
  | exact dm (by omega)
  | exact small_div (by omega) (by omega)
  | (simp only [len_app, one_len, len_one, List.length_append, List.length_map, List.length_cons, List.length_nil]; omega)
  | exact Or.inr ⟨by omega, by omega⟩
  | exact Or.inl ⟨by omega, by omega⟩
  | exact ⟨by omega, by omega⟩
  | decide)
local macro_rules | `(tactic| walk_at "vv") => `(tactic| repeat (refine And.intro (by walk_at "cv") ?_))
local macro_rules | `(tactic| walk_at "sk") => `(tactic| repeat (first
  | refine wayT ?_
  | refine wayF ?_
  | refine skipT (by omega) ?_
  | refine skipF (by omega) ?_
  | refine skipT (by decide) ?_
  | refine skipF (by decide) ?_
  | refine ⟨_, (show tyNames _ = some _ from rfl), ?_⟩
  | refine And.intro (by walk_at "cv") ?_))
local macro_rules | `(tactic| walk_at "s0") => `(tactic| first
  | refine wayT ?_
  | refine wayF ?_
  | refine skipT (by omega) ?_
  | refine skipF (by omega) ?_
  | refine skipT (by decide) ?_
  | refine skipF (by decide) ?_
  | refine ⟨_, (show tyNames _ = some _ from rfl), ?_⟩
  | refine And.intro (by walk_at "cv") ?_)
local macro_rules | `(tactic| walk_at "s1") => `(tactic| try (walk_at "s0"; walk_at "wh"))
local macro_rules | `(tactic| walk_at "go") => `(tactic| (walk_at "wh"; walk_at "s1"; walk_at "s1"; walk_at "s1"; walk_at "s1"; walk_at "s1"; walk_at "s1"; walk_at "s1"; walk_at "s1"; walk_at "s1"; walk_at "s1"; walk_at "s1"; walk_at "s1"; walk_at "s1"; walk_at "s1"; walk_at "s1"; walk_at "s1"; walk_at "s1"; walk_at "s1"; walk_at "s1"; walk_at "s1"; walk_at "s1"; walk_at "s1"; walk_at "s1"; walk_at "s1"))

theorem onc_nd {α : Type} [DecidableEq α] : ∀ (l acc : List α), acc.Nodup → (onc acc l).Nodup
  | [], acc, h => h
  | x :: l, acc, h => by
    show (if x ∈ acc then onc acc l else onc (acc ++ [x]) l).Nodup
    by_cases hx : x ∈ acc
    · rw [if_pos hx]
      exact onc_nd l acc h
    · rw [if_neg hx]
      exact onc_nd l _ (List.nodup_append.mpr ⟨h, by simp, fun a ha b hb e => hx (by rw [List.mem_singleton] at hb; rw [← hb, ← e]; exact ha)⟩)
abbrev SrtR (l : List (List Cell)) : Prop := l.Pairwise fun x y => ltR y x = false
theorem srtR_one : ∀ {l m : List (List Cell)}, SrtR l → SrtR m → l.Perm m → l = m
  | [], m, _, _, p => (List.Perm.eq_nil p.symm).symm
  | x :: l, [], _, _, p => absurd p.length_eq (by simp)
  | x :: l, y :: m, hl, hm, p => by
    have mx : x ∈ y :: m := p.mem_iff.mp List.mem_cons_self
    have my : y ∈ x :: l := p.mem_iff.mpr List.mem_cons_self
    have e : x = y := by
      rcases List.mem_cons.mp mx with e | hx
      · exact e
      · rcases List.mem_cons.mp my with e | hy
        · exact e.symm
        · exact ltR_tri ((List.pairwise_cons.mp hm).1 x hx) ((List.pairwise_cons.mp hl).1 y hy)
    subst e
    rw [srtR_one (List.pairwise_cons.mp hl).2 (List.pairwise_cons.mp hm).2 p.cons_inv]
theorem eqv_cells : ∀ r : List Cell, PyData.eqvAll (r.map cellP) (r.map cellP) = true
  | [] => by simp [PyData.eqvAll]
  | .inl i :: r => by simp [PyData.eqvAll, cellP, PyData.eqv, eqv_cells r]
  | .inr x :: r => by simp [PyData.eqvAll, cellP, PyData.eqv, eqv_cells r]
theorem eqv_self (r : List Cell) : PyData.eqv (rowD r).pd (rowD r).pd = true := by
  rw [pd_row]
  unfold rowP
  rw [PyData.eqv]
  exact eqv_cells r
def shR (r : List Cell) : Tx := (rowD r).pd.shown
theorem shp_list {ds : List D} (h : SeqAt.shaped (D.tup ds).pd = true) : SeqAt.shaped (.list (pdL ds)) = true := by
  have e : (D.tup ds).pd = .tuple (pdL ds) := rfl
  rw [e] at h
  simpa [SeqAt.shaped, PyData.canLay0, PyData.depth] using h
section
variable {P : Program} {w : World} {K : PySem.W.Frag} {mg : PySem.Str → Option Value} {base : Heap}
theorem law_body (T : Txt P K mg) {a : Addr} {ns : List Int} {s : Shared} {H : Hp} (hS : SqL K H a (ns.map V.int)) (hl : ns.length ≤ 63) (hT : ∀ P ∈ ([] : List Addr), GxR.TabG H P) (cdv : Value) (hr : Room 5 (callerA.deeper (envOfC "law" (defScope s_law) s.heap.objs.size T.a_law cdv))) :
    ∃ t, PSs (cxOf CX0 P w K mg base N_law "law" (defScope s_law) T.a_law cdv callerA [] s H E0).nox (defBody s_law) t ∧ t { nx := fun _ H' => (fun (v : V) (_ : Hp) => v = V.bl true) .non H', rt := fun v _ => v = .bl true } (L2.start N_law [V.ref a]) H := by
  have G__law_tape := ok__law_tape (P := P) (w := w) (base := base) T
  have G__law_rows := ok__law_rows (P := P) (w := w) (base := base) T
  have G_sorted_rows := ok_sorted_rows (P := P) (w := w) (base := base) T
  have G__law_row_before := ok__law_row_before (P := P) (w := w) (base := base) T
  have h : spLawT K [] [.ref a] H (fun v _ => v = .bl true) E0 := ⟨a, ns, rfl, hS, hl, hT, fun _ => rfl⟩
  refine law_rest (S := Sx T) (N := N_law) (i0 := 0) rfl (by decide) (ps_set (i := 1) sc_law.nd rfl (.inl rfl) (pe_call G__law_tape (hr.mono (by decide)) (by rfl) T.g__law_tape T.F__law_tape.kp T.b__law_tape .nil pass0 (pa_cons (pv 0) pa_nil)))
    (vss_cons (vs_set (i := 2) sc_law.nd rfl (.inl rfl) (fe_of (ve_call G__law_rows (hr.mono (by omega)) (by rfl) T.g__law_rows T.F__law_rows.kp T.b__law_rows (va_cons (ve_name (pv 1)) va_nil))))
      (vss_cons (vs_set (i := 3) sc_law.nd rfl (.inl rfl) (fe_of (ve_call G_sorted_rows hr (by rfl) T.g_sorted_rows T.F_sorted_rows.kp T.b_sorted_rows (va_cons (ve_of (pe_CB1 (c_tupleD rfl rfl) (fun hc ha => pe_callTy hc (by rfl) T.z_tuple boot_tuple ha) (be_name (pv 2)))) va_nil))))
      (vss_cons (vs_if (vb_not (vb_tru rfl (be_of (ve_of (pe_CB (c_isi rfl) (fun hc ha => pe_callB hc (by rfl) T.z_isinstance boot_isinstance ha) (va_cons (ve_name (pv 3)) (va_cons (ve_ty (x := "") (pe_bltn (v := .ty "tuple") (by rfl) T.z_tuple boot_tuple rfl)) va_nil))))))) (vss_one (vs_ret ve_bl)) vss_nil)
      (vss_cons (vs_setLc (i := 5) (own := [("row", 4)]) rfl sc_law.nd rfl rfl (sw_true rfl rfl rfl (by decide +kernel)) (vi_any rfl (ve_name (pv 2))) (blkOk_by (own := [("row", 4)]) (N := N_law) (sc := defScope s_law) (by decide +kernel)) (fun _ _ _ _ _ => (vg_name (i := 4) [4] (by decide) sc_law.nd rfl (.inl rfl))) (fun _ _ _ _ _ => vts_nil) (fun _ _ _ _ _ => (ve_of (pe_CB1 (c_repr rfl (by rfl) hr.units) (fun hc ha => pe_callB hc (by rfl) T.z_repr boot_repr ha) (be_name (pv 4))))))
      (vss_cons (vs_for PassesOwn.never rfl (vi_any rfl (ve_name (pv 3))) (vg_name (i := 4) [4] (by decide) sc_law.nd rfl (.inl rfl))
      (vss_one (vs_if (vb_cmp (o_nin rfl (hu65 hr)) (ve_of (pe_CB1 (c_repr rfl (by rfl) hr.units) (fun hc ha => pe_callB hc (by rfl) T.z_repr boot_repr ha) (be_name (pv 4)))) (be_name (pv 5)) (by rfl)) (vss_one (vs_ret ve_bl)) vss_nil)))
      (vss_cons (vs_for PassesOwn.never rfl (vi_any rfl (ve_name (pv 2))) (vg_name (i := 4) [4] (by decide) sc_law.nd rfl (.inl rfl))
      (vss_one (vs_if (vb_cmp (o_nin rfl (hu65 hr)) (ve_name (pv 4)) (be_name (pv 3)) (by rfl)) (vss_one (vs_ret ve_bl)) vss_nil)))
      (vss_cons (vs_for PassesOwn.never rfl (vi_range1 (by rfl) T.z_range (va_cons (ve_of (fe_op o_sub (ve_of (pe_CB1 (c_len rfl) (fun hc ha => pe_callB hc (by rfl) T.z_len boot_len ha) (be_name (pv 3)))) (be_of ve_int))) va_nil)) (vg_name (i := 6) [6] (by decide) sc_law.nd rfl (.inl rfl))
      (vss_one (vs_if (vb_not (vb_tru rfl (be_of (ve_call G__law_row_before (hr.mono (by omega)) (by rfl) T.g__law_row_before T.F__law_row_before.kp T.b__law_row_before (va_cons (ve_of (fe_ixN (i_ix rfl (hu_of hr)) (pv 3) (be_name (pv 6)) (fun _ _ => rfl))) (va_cons (ve_of (fe_ixN (i_ix rfl (hu_of hr)) (pv 3) (be_of (ve_of (fe_op (o_add rfl) (ve_name (pv 6)) (be_of ve_int)))) (fun _ _ => rfl))) va_nil)))))) (vss_one (vs_ret ve_bl)) vss_nil)))
      (vss_cons (vs_set (i := 7) sc_law.nd rfl (.inl rfl) (fe_op (o_add rfl) (ve_of (fe_listRev rfl rfl (by rfl) T.z_list (by rfl) T.z_reversed (ve_of (pe_CB1 (c_listD rfl rfl) (fun hc ha => pe_callTy hc (by rfl) T.z_list boot_list ha) (be_name (pv 2)))))) (be_name (pv 2))))
      (vss_one (vs_ret (ve_of (fe_cmp (o_eq rfl hr.units) (ve_of (pe_CB1 (c_repr rfl (by rfl) hr.units) (fun hc ha => pe_callB hc (by rfl) T.z_repr boot_repr ha) (be_of (ve_call G_sorted_rows hr (by rfl) T.g_sorted_rows T.F_sorted_rows.kp T.b_sorted_rows (va_cons (ve_of (pe_CB1 (c_tupleD rfl rfl) (fun hc ha => pe_callTy hc (by rfl) T.z_tuple boot_tuple ha) (be_name (pv 7)))) va_nil))))) (be_of (ve_of (pe_CB1 (c_repr rfl (by rfl) hr.units) (fun hc ha => pe_callB hc (by rfl) T.z_repr boot_repr ha) (be_name (pv 3))))) (nomark _))))))))))))) ?_ h
  refine ⟨rfl, fun rs w hn hw1 hw4 hok => ?_⟩
  have rl : (rs.map rowD).length = rs.length := List.length_map _
  have rok : ∀ r ∈ rs, r ≠ [] ∧ r.length < 1000 := fun r h => by
    have := (hok r h).1
    refine ⟨fun e => ?_, by omega⟩
    rw [e] at this
    simp at this
    omega
  walk_at "wh"
  refine ⟨rs, rfl, by omega, rok, fun qs hq sq => ?_⟩
  have qnd : qs.Nodup := hq.nodup_iff.mpr (onc_nd rs [] List.nodup_nil)
  have qmem : ∀ r, r ∈ qs ↔ r ∈ rs := fun r => by
    rw [hq.mem_iff, onc_mem]
    simp
  have qok : RowsOk qs w (bigB + 20) := fun r h => hok r ((qmem r).mp h)
  have ql : qs.length ≤ rs.length := by
    rw [hq.length_eq]
    have := onc_le rs []
    simpa using this
  walk_at "go"
  refine ⟨fun i acc k => Iv (acc = ((rs.take i).map shR).map D.str ∧ k = 999000), .a ⟨rfl, rfl⟩, ?_, ?_⟩
  · intro i d acc k ed iv la
    obtain ⟨rfl, ek⟩ := iv.out
    subst k
    obtain ⟨r, er, rfl⟩ := map_get ed
    have hr := hok r (List.mem_of_getElem? er)
    obtain ⟨b1, b2, b3, b4, b5⟩ := shows_row hw4 hr.1 hr.2
    refine wayT ?_
    walk_at "wh"
    refine ⟨b1, b2, b3, b4, b5, ?_⟩
    refine .a ⟨?_, rfl⟩
    rw [take_more er, List.map_append, List.map_append]
    rfl
  intro acc k iv la
  obtain ⟨rfl, ek⟩ := iv.out
  subst k
  rw [List.length_map, List.take_length]
  refine atE (E' := ⟨[.no, .v .tape, .v (.lst (rs.map rowD)), .v (.tup (qs.map rowD)), .no, .ol ((rs.map shR).map .str), .no, .no], 999000⟩) rfl ?_
  walk_at "wh"
  refine ⟨fun i E => Iv (∃ y4, E = ⟨[.no, .v .tape, .v (.lst (rs.map rowD)), .v (.tup (qs.map rowD)), y4, .ol ((rs.map shR).map .str), .no, .no], 999000⟩), .a ⟨_, rfl⟩, ?_, ?_⟩
  · intro i d E ed iv
    obtain ⟨y4, rfl⟩ := iv.out
    obtain ⟨r, er, rfl⟩ := map_get ed
    have hr := qok r (List.mem_of_getElem? er)
    obtain ⟨b1, b2, b3, b4, b5⟩ := shows_row hw4 hr.1 hr.2
    walk_at "wh"
    refine ⟨b1, b2, b3, b4, b5, ?_⟩
    refine ⟨rfl, flat_strsD _, ?_⟩
    have e0 : (((rs.map shR).map D.str).any fun y => D.eqf y (.str (shR r))) = true := by
      rw [in_strsD, decide_eq_true_eq]
      exact List.mem_map.mpr ⟨r, (qmem r).mp (List.mem_of_getElem? er), rfl⟩
    have e0 : (((rs.map shR).map D.str).any fun y => D.eqf y (RV.v (D.str (rowD r).pd.shown)).d) = true := e0
    dsimp only
    rw [e0]
    walk_at "wh"
    exact ⟨fun z => absurd z (by decide), fun _ => .a ⟨_, rfl⟩⟩
  intro E iv
  obtain ⟨y4, rfl⟩ := iv.out
  have sq40 : qs.length ≤ 40 := by omega
  obtain ⟨q1, q2, q3, q4, q5⟩ := shows_rows hw4 sq40 qok
  walk_at "wh"
  refine ⟨fun i E => Iv (∃ y4, E = ⟨[.no, .v .tape, .v (.lst (rs.map rowD)), .v (.tup (qs.map rowD)), y4, .ol ((rs.map shR).map .str), .no, .no], 999000⟩), .a ⟨_, rfl⟩, ?_, ?_⟩
  · intro i d E ed iv
    obtain ⟨y4, rfl⟩ := iv.out
    obtain ⟨r, er, rfl⟩ := map_get ed
    have hm := List.mem_of_getElem? er
    have hr := hok r hm
    obtain ⟨b1, b2, b3, b4, b5⟩ := shows_row hw4 hr.1 hr.2
    walk_at "wh"
    refine ⟨b1, shp_list q1, ?_⟩
    have ein : ((qs.map rowD).any fun y => PyData.eqv y.pd (rowD r).pd) = true := List.any_eq_true.mpr ⟨rowD r, List.mem_map.mpr ⟨r, (qmem r).mpr hm, rfl⟩, eqv_self r⟩
    rw [ein]
    walk_at "wh"
    exact ⟨fun z => absurd z (by decide), fun _ => .a ⟨_, rfl⟩⟩
  intro E iv
  obtain ⟨y4, rfl⟩ := iv.out
  walk_at "wh"
  have lm : (qs.map rowD).length = qs.length := List.length_map _
  refine ⟨by rw [lm]; omega, ?_⟩
  refine ⟨fun i E => Iv (∃ y6, E = ⟨[.no, .v .tape, .v (.lst (rs.map rowD)), .v (.tup (qs.map rowD)), y4, .ol ((rs.map shR).map .str), y6, .no], 999000⟩), .a ⟨_, rfl⟩, ?_, ?_⟩
  · intro i d E ed iv
    obtain ⟨y6, rfl⟩ := iv.out
    have hi := (List.getElem?_eq_some_iff.mp ed).1
    have hi : i + 1 < qs.length := by simp only [rng, List.length_map, List.length_range] at hi; omega
    obtain ⟨rfl, _⟩ := rng_at ed
    have ex := List.getElem?_eq_getElem (l := qs) (i := i) (by omega)
    have ey := List.getElem?_eq_getElem (l := qs) (i := i + 1) hi
    have lt : ltR qs[i] qs[i + 1] = true := by
      cases h : ltR qs[i] qs[i + 1] with
      | true => rfl
      | false =>
        have h2 := List.pairwise_iff_getElem.mp sq i (i + 1) (by omega) hi (by omega)
        have h3 := List.pairwise_iff_getElem.mp qnd i (i + 1) (by omega) hi (by omega)
        exact absurd (ltR_tri h h2) h3
    have ox := qok _ (List.mem_of_getElem? ex)
    have oy := qok _ (List.mem_of_getElem? ey)
    generalize qs[i] = x at ex ox lt
    generalize qs[i + 1] = y at ey oy lt
    have ax : atI (qs.map rowD) (0 + (i : Int)) = some (rowD x) := by
      rw [Int.zero_add]
      exact atI_nat (by rw [List.getElem?_map, ex]; rfl)
    have ay : atI (qs.map rowD) (0 + (i : Int) + 1) = some (rowD y) := by
      rw [Int.zero_add]
      exact atI_nat (j := i + 1) (by rw [List.getElem?_map, ey]; rfl)
    walk_at "wh"
    refine withD_of ax ?_
    walk_at "wh"
    refine withD_of ay ?_
    refine ⟨x, y, bigB + 20, rfl, by rw [ox.1, oy.1], by omega, ox.2, oy.2, ?_⟩
    rw [lt]
    walk_at "wh"
    exact ⟨fun z => absurd z (by decide), fun _ => .a ⟨_, rfl⟩⟩
  intro E iv
  obtain ⟨y6, rfl⟩ := iv.out
  walk_at "wh"
  refine ⟨by rw [List.length_reverse, rl]; omega, ?_⟩
  walk_at "wh"
  refine ⟨rs.reverse ++ rs, by rw [List.map_append, List.map_reverse]; rfl, by rw [List.length_append, List.length_reverse]; omega, fun r hr => ?_, fun ps hp sp => ?_⟩
  · rcases List.mem_append.mp hr with h | h
    · exact rok r (List.mem_reverse.mp h)
    · exact rok r h
  have pnd : ps.Nodup := hp.nodup_iff.mpr (onc_nd _ [] List.nodup_nil)
  have pmem : ∀ r, r ∈ ps ↔ r ∈ qs := fun r => by
    rw [hp.mem_iff, onc_mem, qmem r]
    simp
  have pq : ps = qs := srtR_one sp sq ((List.perm_ext_iff_of_nodup pnd qnd).mpr pmem)
  subst pq
  walk_at "wh"
  refine ⟨q1, q2, q3, q4, q5, ?_⟩
  walk_at "wh"
  refine ⟨q1, q2, q3, q4, q5, ?_⟩
  walk_at "wh"
  exact congrArg D.bl (decide_eq_true rfl)
theorem all_mk {l : PySem.W.OpenLaw} {w : World} {K : PySem.W.Frag} {h : Heap} {mg : Str → Option Value} {fa : Addr} (X : K.In h) (G : h.Ns mainGlobals mg) (hfa : mg "law" = some (.ref fa))
    {f0 : Addr} {od0 an0 : Option Addr} {sl0 : Array (Option Value)} {oc0 kV0 dc0 pm0 cd0 ct0 : Value}
    {f1 : Addr} {od1 an1 : Option Addr} {sl1 : Array (Option Value)} {oc1 kV1 dc1 pm1 cd1 ct1 : Value}
    {f2 : Addr} {od2 an2 : Option Addr} {sl2 : Array (Option Value)} {oc2 kV2 dc2 pm2 cd2 ct2 : Value}
    {f3 : Addr} {od3 an3 : Option Addr} {sl3 : Array (Option Value)} {oc3 kV3 dc3 pm3 cd3 ct3 : Value}
    {f4 : Addr} {od4 an4 : Option Addr} {sl4 : Array (Option Value)} {oc4 kV4 dc4 pm4 cd4 ct4 : Value}
    {f5 : Addr} {od5 an5 : Option Addr} {sl5 : Array (Option Value)} {oc5 kV5 dc5 pm5 cd5 ct5 : Value}
    {f6 : Addr} {od6 an6 : Option Addr} {sl6 : Array (Option Value)} {oc6 kV6 dc6 pm6 cd6 ct6 : Value}
    {f7 : Addr} {od7 an7 : Option Addr} {sl7 : Array (Option Value)} {oc7 kV7 dc7 pm7 cd7 ct7 : Value}
    {f8 : Addr} {od8 an8 : Option Addr} {sl8 : Array (Option Value)} {oc8 kV8 dc8 pm8 cd8 ct8 : Value}
    {f9 : Addr} {od9 an9 : Option Addr} {sl9 : Array (Option Value)} {oc9 kV9 dc9 pm9 cd9 ct9 : Value}
    {f10 : Addr} {od10 an10 : Option Addr} {sl10 : Array (Option Value)} {oc10 kV10 dc10 pm10 cd10 ct10 : Value}
    {f11 : Addr} {od11 an11 : Option Addr} {sl11 : Array (Option Value)} {oc11 kV11 dc11 pm11 cd11 ct11 : Value}
    {f12 : Addr} {od12 an12 : Option Addr} {sl12 : Array (Option Value)} {oc12 kV12 dc12 pm12 cd12 ct12 : Value}
    (a0 : PySem.W.nsIn K mainGlobals "sorted_rows" = some (some (.ref f0))) (l0 : K.lookup f0 = some ⟨oc0, od0, .func (PySem.W.fnOf "sorted_rows" "sorted_rows" (defArgs s_sorted_rows) (defBody s_sorted_rows) (defScope s_sorted_rows) .none kV0 dc0 pm0 an0 cd0 ct0), sl0⟩) (c0 : PySem.W.codeIn K cd0 "sorted_rows" = true) (k0 : PySem.W.keepIn K (.ref f0) = true)
    (a1 : PySem.W.nsIn K mainGlobals "_value_key" = some (some (.ref f1))) (l1 : K.lookup f1 = some ⟨oc1, od1, .func (PySem.W.fnOf "_value_key" "_value_key" (defArgs s__value_key) (defBody s__value_key) (defScope s__value_key) .none kV1 dc1 pm1 an1 cd1 ct1), sl1⟩) (c1 : PySem.W.codeIn K cd1 "_value_key" = true) (k1 : PySem.W.keepIn K (.ref f1) = true)
    (a2 : PySem.W.nsIn K mainGlobals "_row_key" = some (some (.ref f2))) (l2 : K.lookup f2 = some ⟨oc2, od2, .func (PySem.W.fnOf "_row_key" "_row_key" (defArgs s__row_key) (defBody s__row_key) (defScope s__row_key) .none kV2 dc2 pm2 an2 cd2 ct2), sl2⟩) (c2 : PySem.W.codeIn K cd2 "_row_key" = true) (k2 : PySem.W.keepIn K (.ref f2) = true)
    (a3 : PySem.W.nsIn K mainGlobals "_law_tape" = some (some (.ref f3))) (l3 : K.lookup f3 = some ⟨oc3, od3, .func (PySem.W.fnOf "_law_tape" "_law_tape" (defArgs s__law_tape) (defBody s__law_tape) (defScope s__law_tape) .none kV3 dc3 pm3 an3 cd3 ct3), sl3⟩) (c3 : PySem.W.codeIn K cd3 "_law_tape" = true) (k3 : PySem.W.keepIn K (.ref f3) = true)
    (a4 : PySem.W.nsIn K mainGlobals "_law_draw" = some (some (.ref f4))) (l4 : K.lookup f4 = some ⟨oc4, od4, .func (PySem.W.fnOf "_law_draw" "_law_draw" (defArgs s__law_draw) (defBody s__law_draw) (defScope s__law_draw) .none kV4 dc4 pm4 an4 cd4 ct4), sl4⟩) (c4 : PySem.W.codeIn K cd4 "_law_draw" = true) (k4 : PySem.W.keepIn K (.ref f4) = true)
    (a5 : PySem.W.nsIn K mainGlobals "_law_signs" = some (some (.ref f5))) (l5 : K.lookup f5 = some ⟨oc5, od5, .func (PySem.W.fnOf "_law_signs" "_law_signs" (defArgs s__law_signs) (defBody s__law_signs) (defScope s__law_signs) .none kV5 dc5 pm5 an5 cd5 ct5), sl5⟩) (c5 : PySem.W.codeIn K cd5 "_law_signs" = true) (k5 : PySem.W.keepIn K (.ref f5) = true)
    (a6 : PySem.W.nsIn K mainGlobals "_law_text" = some (some (.ref f6))) (l6 : K.lookup f6 = some ⟨oc6, od6, .func (PySem.W.fnOf "_law_text" "_law_text" (defArgs s__law_text) (defBody s__law_text) (defScope s__law_text) .none kV6 dc6 pm6 an6 cd6 ct6), sl6⟩) (c6 : PySem.W.codeIn K cd6 "_law_text" = true) (k6 : PySem.W.keepIn K (.ref f6) = true)
    (a7 : PySem.W.nsIn K mainGlobals "_law_any" = some (some (.ref f7))) (l7 : K.lookup f7 = some ⟨oc7, od7, .func (PySem.W.fnOf "_law_any" "_law_any" (defArgs s__law_any) (defBody s__law_any) (defScope s__law_any) .none kV7 dc7 pm7 an7 cd7 ct7), sl7⟩) (c7 : PySem.W.codeIn K cd7 "_law_any" = true) (k7 : PySem.W.keepIn K (.ref f7) = true)
    (a8 : PySem.W.nsIn K mainGlobals "_law_near" = some (some (.ref f8))) (l8 : K.lookup f8 = some ⟨oc8, od8, .func (PySem.W.fnOf "_law_near" "_law_near" (defArgs s__law_near) (defBody s__law_near) (defScope s__law_near) .none kV8 dc8 pm8 an8 cd8 ct8), sl8⟩) (c8 : PySem.W.codeIn K cd8 "_law_near" = true) (k8 : PySem.W.keepIn K (.ref f8) = true)
    (a9 : PySem.W.nsIn K mainGlobals "_law_rows" = some (some (.ref f9))) (l9 : K.lookup f9 = some ⟨oc9, od9, .func (PySem.W.fnOf "_law_rows" "_law_rows" (defArgs s__law_rows) (defBody s__law_rows) (defScope s__law_rows) .none kV9 dc9 pm9 an9 cd9 ct9), sl9⟩) (c9 : PySem.W.codeIn K cd9 "_law_rows" = true) (k9 : PySem.W.keepIn K (.ref f9) = true)
    (a10 : PySem.W.nsIn K mainGlobals "_law_comes_before" = some (some (.ref f10))) (l10 : K.lookup f10 = some ⟨oc10, od10, .func (PySem.W.fnOf "_law_comes_before" "_law_comes_before" (defArgs s__law_comes_before) (defBody s__law_comes_before) (defScope s__law_comes_before) .none kV10 dc10 pm10 an10 cd10 ct10), sl10⟩) (c10 : PySem.W.codeIn K cd10 "_law_comes_before" = true) (k10 : PySem.W.keepIn K (.ref f10) = true)
    (a11 : PySem.W.nsIn K mainGlobals "_law_row_before" = some (some (.ref f11))) (l11 : K.lookup f11 = some ⟨oc11, od11, .func (PySem.W.fnOf "_law_row_before" "_law_row_before" (defArgs s__law_row_before) (defBody s__law_row_before) (defScope s__law_row_before) .none kV11 dc11 pm11 an11 cd11 ct11), sl11⟩) (c11 : PySem.W.codeIn K cd11 "_law_row_before" = true) (k11 : PySem.W.keepIn K (.ref f11) = true)
    (a12 : PySem.W.nsIn K mainGlobals "law" = some (some (.ref f12))) (l12 : K.lookup f12 = some ⟨oc12, od12, .func (PySem.W.fnOf "law" "law" (defArgs s_law) (defBody s_law) (defScope s_law) .none kV12 dc12 pm12 an12 cd12 ct12), sl12⟩) (c12 : PySem.W.codeIn K cd12 "law" = true) (k12 : PySem.W.keepIn K (.ref f12) = true)
    (z_abs : PySem.W.nsIn K mainGlobals "abs" = some none)
    (z_int : PySem.W.nsIn K mainGlobals "int" = some none)
    (z_isinstance : PySem.W.nsIn K mainGlobals "isinstance" = some none)
    (z_len : PySem.W.nsIn K mainGlobals "len" = some none)
    (z_list : PySem.W.nsIn K mainGlobals "list" = some none)
    (z_max : PySem.W.nsIn K mainGlobals "max" = some none)
    (z_min : PySem.W.nsIn K mainGlobals "min" = some none)
    (z_range : PySem.W.nsIn K mainGlobals "range" = some none)
    (z_repr : PySem.W.nsIn K mainGlobals "repr" = some none)
    (z_reversed : PySem.W.nsIn K mainGlobals "reversed" = some none)
    (z_sorted : PySem.W.nsIn K mainGlobals "sorted" = some none)
    (z_str : PySem.W.nsIn K mainGlobals "str" = some none)
    (z_tuple : PySem.W.nsIn K mainGlobals "tuple" = some none) :
  ∀ (base : Heap) (s : Shared) (H : Hp) (a : Addr) (ns : List Int), K.In base → base.Ns mainGlobals mg → Env0 l.prog w K mg base callerA [] s H → ns.length ≤ 63 → SqL K H a (ns.map V.int) →
      codeAny (model l.prog w) callerA (.call (.ref fa) ⟨[.ref a], []⟩) (CR CX0 [] l.prog w H s (fun v _ => v = .bl true) E0) s := by
  have e := hfa.symm.trans (PySem.W.mg_of X G a12)
  cases e
  have F0 := fun_mk (st := s_sorted_rows) l0 c0 k0
  have b0 := F0.binds (ps := ["rows"]) fun _ _ _ _ _ _ us hl => match us, hl with | [_], _ => rfl
  have F1 := fun_mk (st := s__value_key) l1 c1 k1
  have b1 := F1.binds (ps := ["value"]) fun _ _ _ _ _ _ us hl => match us, hl with | [_], _ => rfl
  have F2 := fun_mk (st := s__row_key) l2 c2 k2
  have b2 := F2.binds (ps := ["row"]) fun _ _ _ _ _ _ us hl => match us, hl with | [_], _ => rfl
  have F3 := fun_mk (st := s__law_tape) l3 c3 k3
  have b3 := F3.binds (ps := ["script"]) fun _ _ _ _ _ _ us hl => match us, hl with | [_], _ => rfl
  have F4 := fun_mk (st := s__law_draw) l4 c4 k4
  have b4 := F4.binds (ps := ["tape", "many"]) fun _ _ _ _ _ _ us hl => match us, hl with | [_, _], _ => rfl
  have F5 := fun_mk (st := s__law_signs) l5 c5 k5
  have b5 := F5.binds (ps := []) fun _ _ _ _ _ _ us hl => match us, hl with | [], _ => rfl
  have F6 := fun_mk (st := s__law_text) l6 c6 k6
  have b6 := F6.binds (ps := ["tape"]) fun _ _ _ _ _ _ us hl => match us, hl with | [_], _ => rfl
  have F7 := fun_mk (st := s__law_any) l7 c7 k7
  have b7 := F7.binds (ps := ["tape"]) fun _ _ _ _ _ _ us hl => match us, hl with | [_], _ => rfl
  have F8 := fun_mk (st := s__law_near) l8 c8 k8
  have b8 := F8.binds (ps := ["tape", "value"]) fun _ _ _ _ _ _ us hl => match us, hl with | [_, _], _ => rfl
  have F9 := fun_mk (st := s__law_rows) l9 c9 k9
  have b9 := F9.binds (ps := ["tape"]) fun _ _ _ _ _ _ us hl => match us, hl with | [_], _ => rfl
  have F10 := fun_mk (st := s__law_comes_before) l10 c10 k10
  have b10 := F10.binds (ps := ["left", "right"]) fun _ _ _ _ _ _ us hl => match us, hl with | [_, _], _ => rfl
  have F11 := fun_mk (st := s__law_row_before) l11 c11 k11
  have b11 := F11.binds (ps := ["left", "right"]) fun _ _ _ _ _ _ us hl => match us, hl with | [_, _], _ => rfl
  have F12 := fun_mk (st := s_law) l12 c12 k12
  have b12 := F12.binds (ps := ["script"]) fun _ _ _ _ _ _ us hl => match us, hl with | [_], _ => rfl
  intro base s H a ns _ _ e0 hl hS
  let T : Txt l.prog K mg := ⟨f0, _, F0, b0, PySem.W.mg_of X G a0, f1, _, F1, b1, PySem.W.mg_of X G a1, f2, _, F2, b2, PySem.W.mg_of X G a2, f3, _, F3, b3, PySem.W.mg_of X G a3, f4, _, F4, b4, PySem.W.mg_of X G a4, f5, _, F5, b5, PySem.W.mg_of X G a5, f6, _, F6, b6, PySem.W.mg_of X G a6, f7, _, F7, b7, PySem.W.mg_of X G a7, f8, _, F8, b8, PySem.W.mg_of X G a8, f9, _, F9, b9, PySem.W.mg_of X G a9, f10, _, F10, b10, PySem.W.mg_of X G a10, f11, _, F11, b11, PySem.W.mg_of X G a11, fa, _, F12, b12, PySem.W.mg_of X G a12, PySem.W.mg_none_of X G z_abs, PySem.W.mg_none_of X G z_int, PySem.W.mg_none_of X G z_isinstance, PySem.W.mg_none_of X G z_len, PySem.W.mg_none_of X G z_list, PySem.W.mg_none_of X G z_max, PySem.W.mg_none_of X G z_min, PySem.W.mg_none_of X G z_range, PySem.W.mg_none_of X G z_repr, PySem.W.mg_none_of X G z_reversed, PySem.W.mg_none_of X G z_sorted, PySem.W.mg_none_of X G z_str, PySem.W.mg_none_of X G z_tuple⟩
  exact IndEnd.fun_at (us := [.ref a]) (vs := [.ref a]) F12 sc_law (k := 5) ⟨rfl, by decide, by decide⟩ e0 (.of_eq rfl) (.cons rfl .nil) rfl fun cdv hr => law_body (P := l.prog) (w := w) (base := base) T hS hl (fun _ z => (nomatch z)) cdv hr
end
end Va
open PySem PySem.W PyProof.Rows
set_option maxHeartbeats 0 in
theorem PySem.Challenge.cw_indoubt_k01_rows_in_order_holds : PySem.Challenge.rw_indoubt_k01_rows_in_order.Holds := by
  w_on; o_law; k_head; (case hw => w_witness2)
  k_fill
  refine IndEnd.walk_at_caller (l := PySem.Challenge.rw_indoubt_k01_rows_in_order) (n := 63) rfl (by decide) rfl (fun w h Y => PySem.W.kIn_of Y) ?F
  case F =>
    intro w mg fa h KX G hmg
    refine' Va.all_mk KX G hmg ?a0 ?l0 ?c0 ?k0 ?a1 ?l1 ?c1 ?k1 ?a2 ?l2 ?c2 ?k2 ?a3 ?l3 ?c3 ?k3 ?a4 ?l4 ?c4 ?k4 ?a5 ?l5 ?c5 ?k5 ?a6 ?l6 ?c6 ?k6 ?a7 ?l7 ?c7 ?k7 ?a8 ?l8 ?c8 ?k8 ?a9 ?l9 ?c9 ?k9 ?a10 ?l10 ?c10 ?k10 ?a11 ?l11 ?c11 ?k11 ?a12 ?l12 ?c12 ?k12  ?z_abs ?z_int ?z_isinstance ?z_len ?z_list ?z_max ?z_min ?z_range ?z_repr ?z_reversed ?z_sorted ?z_str ?z_tuple
    (case a0 => k_is); (case l0 => k_is); (case c0 => k_is); (case k0 => k_is); (case a1 => k_is); (case l1 => k_is); (case c1 => k_is); (case k1 => k_is); (case a2 => k_is); (case l2 => k_is); (case c2 => k_is); (case k2 => k_is); (case a3 => k_is); (case l3 => k_is); (case c3 => k_is); (case k3 => k_is); (case a4 => k_is); (case l4 => k_is); (case c4 => k_is); (case k4 => k_is); (case a5 => k_is); (case l5 => k_is); (case c5 => k_is); (case k5 => k_is); (case a6 => k_is); (case l6 => k_is); (case c6 => k_is); (case k6 => k_is); (case a7 => k_is); (case l7 => k_is); (case c7 => k_is); (case k7 => k_is); (case a8 => k_is); (case l8 => k_is); (case c8 => k_is); (case k8 => k_is); (case a9 => k_is); (case l9 => k_is); (case c9 => k_is); (case k9 => k_is); (case a10 => k_is); (case l10 => k_is); (case c10 => k_is); (case k10 => k_is); (case a11 => k_is); (case l11 => k_is); (case c11 => k_is); (case k11 => k_is); (case a12 => k_is); (case l12 => k_is); (case c12 => k_is); (case k12 => k_is); (case z_abs => k_is); (case z_int => k_is); (case z_isinstance => k_is); (case z_len => k_is); (case z_list => k_is); (case z_max => k_is); (case z_min => k_is); (case z_range => k_is); (case z_repr => k_is); (case z_reversed => k_is); (case z_sorted => k_is); (case z_str => k_is); (case z_tuple => k_is)

