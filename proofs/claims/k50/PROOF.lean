import PyProof.Rows.All
import Wide.All
import OpenK.AllK
import Wide.FinOn
import PyProof.GenQ
import HandS.GenOver
import PyProof.ConsumeS
import HandS.Base
import HandS.Call
import HandS.List
import HandS.Ends
import HandS.Words
import HandS.WordsList
import HandS.Text
import HandS.Comp
import HandS.Iter
import HandS.Wide
import HandS.Exc
import HandS.RaiseOp
import HandS.StrMore
import HandS.TupLe
import HandS.Zip0
import HandS.AnyAll
import HandS.Replace
import PyProof.Rows.RuleB_bool
import PyProof.FString5
import HandS.IsInst
import HandS.Dict
import KE.KDictPairs
import KE.KIndexOf
import PyProof.ReprRoads
import PyProof.FitsInt
import PyProof.ReprLen
import PyProof.StrLawsRepr
import HandS.TupAny
import HandS.Zip
import HandS.Rev
import HandS.Deep
import HandS.Conv
import HandS.WordsDict
import PyProof.P3In
import HandS.ExcOwn
import HandS.ExcIs
import HandS.WordsExc
import KE.KDictList
import HandS.RevTup
import HandS.More
import HandS.ListItems
import HandS.Style
import HandS.SortRule
import HandS.EndTab
import KE.KNest
import PyProof.ReprBulk
import PyProof.Rows.StrMeet
import KE.LtSeq
import KE.LtData
import HandS.Keys
import KE.SortCalls
import HandS.SortKw
import KE.KExcSuper
import KE.KExcInit
import HandS.FStr
import HandS.ExcField
import KE.KExcIs
import PyProof.FString
import HandS.TryMany
import HandS.SetTxt0
import HandS.Set
import HandS.SetFor
import HandS.SetBool
import HandS.TupSets
import PyProof.FactsAll.set_2
import HandS.DictComp
import KE.KSortRegAny
import KE.KDictWalk
import PyProof.DictMoreH
import HandS.CallLocal
import HandS.DictTup
import KE.GoesZip
import KE.GoesEnum
import KE.GoesMore
import HandS.Sort
import KE.SortData
import KE.DatumOrd
import KE.DataMinMax
import HandS.RaiseMore
import PySem.Challenge.RW_indoubt_k50_what_lifted_rows_become
set_option Elab.async false
set_option linter.all false
set_option maxRecDepth 100000
namespace IndG
open PySem PySem.Spec GenW
abbrev MM (prog : Program) (w : World) : Model := model prog w
structure Stage (prog : Program) (w : World) (Ag : Around) (cenv : Env) (target elt : Expr) (I : Addr) (n : Nat) (tr : Nat → Bool) (V : Nat → Shared → Prop) (F : Shared → Prop) : Prop where
  still : ∀ j s g t, V j s → (∀ y ∈ g, y.bare = true) → V j { s with gens := g, toks := t }
  bare : ∀ j s, V j s → ∀ y ∈ s.gens, y.bare = true
  item : ∀ j s E, j < n → V j s → wpAny (MM prog w) Ag (pyNext (.ref I)) (fun r s1 => ∃ v, r = some v ∧
    wpAny (MM prog w) Ag (letOwnedTupleGo target (.ref I) v) (fun _ s2 => wpAny (MM prog w) Ag (assign target cenv v) (fun _ s3 =>
      wpAny (MM prog w) Ag (eval elt cenv) (fun y s4 => y = .bool (tr j) ∧ V (j + 1) s4) E s3) E s2) E s1) E s
  done : ∀ s E, V n s → wpAny (MM prog w) Ag (pyNext (.ref I)) (fun r s1 => r = none ∧ F s1) E s
def prot (n : Nat) (tr : Nat → Bool) (V : Nat → Shared → Prop) : Protocol := fun m s₀ v s kap =>
  m < n ∧ v = .bool (tr (n - 1 - m)) ∧ V (n - m) s ∧ s₀.gens.size ≤ s.gens.size ∧ ∀ z, V (n - m) z → kap (.send .none) z
def fin (F : Shared → Prop) : GenEnd := fun m s₀ r s => r = .ok .next ∧ (m = 0 ∧ s₀.gens.size ≤ s.gens.size ∧ F s)
section
variable {prog : Program} {w : World} {A : Around} {target elt iter : Expr} {scope : Scope} {pos : Pos} {I : Addr} {cenv : Env} {n : Nat} {tr : Nat → Bool} {V : Nat → Shared → Prop} {F : Shared → Prop}
abbrev gx (elt target iter : Expr) (scope : Scope) (pos : Pos) : Expr := .GeneratorExp elt [⟨target, iter, [], 0⟩] scope pos
theorem turns (S : Stage prog w (A.over (.compLoop (gx elt target iter scope pos) 0 (.ref I) .none cenv) []) cenv target elt I n tr V F) (hco : cenv.scope.isCoroutine = false) :
    ∀ (k j : Nat) (s₀ s : Shared), n - j = k → j ≤ n → V j s → s₀.gens.size ≤ s.gens.size →
      Seg (MM prog w) A (fin F) (prot n tr V) k s₀ (.compLoop (gx elt target iter scope pos) 0 (.ref I) .none cenv) ((MM prog w).den (.compLoop (gx elt target iter scope pos) 0 (.ref I) .none cenv)) [] s := by
  intro k
  induction k with
  | zero =>
    intro j s₀ s hk hj hV hg
    have e : j = n := by omega
    subst e
    show Seg _ A _ _ _ s₀ _ ((compTurn (gx elt target iter scope pos) 0 (.ref I) .none cenv).onRaise (leaving cenv)) [] s
    rw [compTurn_gen]
    rw [Sem.onRaise_eq_wrap]
    refine seg_bind_wrap (wpAny_standAt ?_)
    refine seg_bind_wrap (wpAny_gsz hg (wpAny_mono (S.done s _ hV) (fun r s1 h1 h2 => ?_) fun _ _ x _ => x))
    obtain ⟨rfl, hF⟩ := h1
    exact seg_end (.ok .next) ⟨rfl, rfl, h2, hF⟩
  | succ k ih =>
    intro j s₀ s hk hj hV hg
    have hlt : j < n := by omega
    show Seg _ A _ _ _ s₀ _ ((compTurn (gx elt target iter scope pos) 0 (.ref I) .none cenv).onRaise (leaving cenv)) [] s
    rw [compTurn_gen]
    rw [Sem.onRaise_eq_wrap]
    refine seg_bind_wrap (wpAny_standAt ?_)
    refine seg_bind_wrap (wpAny_gsz hg (wpAny_mono (S.item j s _ hlt hV) (fun r s1 h1 g1 => ?_) fun _ _ x _ => x))
    obtain ⟨v, rfl, h1⟩ := h1
    refine seg_bind_wrap (wpAny_gsz g1 (wpAny_mono h1 (fun _ s2 h2 g2 => ?_) fun _ _ x _ => x))
    refine seg_bind_wrap (wpAny_gsz g2 (wpAny_mono h2 (fun _ s3 h3 g3 => ?_) fun _ _ x _ => x))
    simp only [List.forIn_nil]
    refine seg_bind_wrap (wpAny_pure ?_)
    simp only [if_true]
    have out : ∀ v, yieldOut cenv v = yieldValue v := by
      intro v
      simp only [yieldOut, hco, Bool.false_eq_true, if_false]
    simp only [out]
    iterate 2 rw [Sem.bind_eq_wrap']
    iterate 2 rw [Sem.wrap_wrap]
    refine seg_wrap (wpAny_gsz g3 (wpAny_mono h3 (fun y s4 h4 g4 => ?_) fun _ _ x _ => x))
    obtain ⟨rfl, hV4⟩ := h4
    have ek : n - k = j + 1 := by omega
    have et : n - 1 - k = j := by omega
    refine seg_at (seg_yield rfl rfl rfl ⟨by omega, by rw [et], by rw [ek]; exact hV4, g4, fun z hz => ?_⟩)
    rw [ek] at hz
    exact seg_again rfl (ih (j + 1) z z (by omega) hlt hz (Nat.le_refl _))
theorem wakes (S : Stage prog w (A.over (.compLoop (gx elt target iter scope pos) 0 (.ref I) .none cenv) []) cenv target elt I n tr V F) (hco : cenv.scope.isCoroutine = false)
    (same : A.over (.compStart (gx elt target iter scope pos) 0 (.ref I) .none cenv) [] = A.over (.compLoop (gx elt target iter scope pos) 0 (.ref I) .none cenv) [])
    (self : ∀ s Q E, V 0 s → Q (.ref I) s → wpAny (MM prog w) (A.over (.compStart (gx elt target iter scope pos) 0 (.ref I) .none cenv) []) (pyIter (.ref I)) Q E s) :
    ∀ (s₀ s : Shared), V 0 s → s₀.gens.size ≤ s.gens.size →
      Seg (MM prog w) A (fin F) (prot n tr V) n s₀ (.compStart (gx elt target iter scope pos) 0 (.ref I) .none cenv) ((MM prog w).den (.compStart (gx elt target iter scope pos) 0 (.ref I) .none cenv)) [] s := by
  intro s₀ s hV hg
  have go := turns (iter := iter) (scope := scope) (pos := pos) S hco n 0 s₀ s (by omega) (Nat.zero_le _) hV hg
  show Seg _ A _ _ _ s₀ _ ((compStart (gx elt target iter scope pos) 0 (.ref I) .none cenv).onRaise (leaving cenv)) [] s
  unfold compStart
  rw [Sem.onRaise_eq_wrap]
  show Seg _ A _ _ _ s₀ _ (((ask) >>= _).wrap _ _ _ _) [] s
  refine seg_bind_wrap (wpAny_askSetting ?_)
  split
  · exact seg_again rfl go
  · refine seg_bind_wrap (wpAny_rule ?_)
    show Seg _ A _ _ _ s₀ _ (((standAt iter.pos) >>= _).wrap _ _ _ _) [] s
    refine seg_bind_wrap (wpAny_standAt ?_)
    refine seg_bind_wrap (self s _ _ hV ?_)
    exact seg_again rfl go
end
end IndG
set_option Elab.async false
set_option linter.all false
set_option maxRecDepth 100000
namespace IndG
open PySem PySem.Spec GenW
structure Held (a : Addr) (g : Nat) (V : Nat → Shared → Prop) (F : Shared → Prop) : Prop where
  gen : ∀ j s, V j s → s.heap.IsGen a g ∧ s.heap.NoLimit
  fbare : ∀ s, F s → ∀ y ∈ s.gens, y.bare = true
def Asleep (prog : Program) (w : World) (A : Around) (g n : Nat) (tr : Nat → Bool) (V : Nat → Shared → Prop) (F : Shared → Prop) (j : Nat) (s : Shared) : Prop :=
  V j s ∧ ∃ gs, s.gens[g]? = some gs ∧ ∀ z, V j z → gs.Goes (MM prog w) A.in1 (fin F) (prot n tr V) (n - j) (.send .none) z
def Left (V : Nat → Shared → Prop) (F : Shared → Prop) (s : Shared) : Prop :=
  (∃ j, V j s) ∨ ∃ s1 g' h', F s1 ∧ s = { s1 with gens := g', heap := h' } ∧ (∀ y ∈ g', y.bare = true) ∧ ∀ b o, s1.heap.get? b = some o → h'.get? b = some o
section
variable {prog : Program} {w : World} {A : Around} {a : Addr} {g n : Nat} {tr : Nat → Bool} {V : Nat → Shared → Prop} {F : Shared → Prop}
theorem setGen_bare {s : Shared} {x : GenState} (h : ∀ y ∈ s.gens, y.bare = true) (hx : x.bare = true) : ∀ y ∈ (s.setGen g x).gens, y.bare = true := by
  intro y hy
  have hy : y ∈ s.gens.setIfInBounds g x := hy
  obtain ⟨i, hi, e⟩ := Array.mem_iff_getElem.mp hy
  have hi2 : i < s.gens.size := by simpa using hi
  rw [Array.getElem_setIfInBounds hi2] at e
  split at e
  · rw [← e]; exact hx
  · rw [← e]
    exact h _ (Array.getElem_mem hi2)
theorem setGen_at {s : Shared} {x : GenState} (h : g < s.gens.size) : (s.setGen g x).gens[g]? = some x := by
  simp [Shared.setGen, h]
theorem step (still : ∀ j s g' t, V j s → (∀ y ∈ g', y.bare = true) → V j { s with gens := g', toks := t }) (bare : ∀ j s, V j s → ∀ y ∈ s.gens, y.bare = true) (K : Held a g V F)
    (hh : A.handled = none) (room : A.depth < recursionLimit) {j : Nat} {s : Shared} (h : Asleep prog w A g n tr V F j s) (hlt : j < n) {Q : Option Value → Shared → Prop} {E : Value → Shared → Prop}
    (hQ : ∀ z, Asleep prog w A g n tr V F (j + 1) z → Q (some (.bool (tr j))) z) : wpAny (MM prog w) A (pyNext (.ref a)) Q E s := by
  obtain ⟨hV, gs, hgs, go⟩ := h
  obtain ⟨hg, hl⟩ := K.gen _ _ hV
  have hsz : g < s.gens.size := (Array.getElem?_eq_some_iff.mp hgs).1
  have hV2 : V j (s.setGen g .running) := still j s _ s.toks hV (setGen_bare (g := g) (bare _ _ hV) rfl)
  refine wpAny_pyNext_genexpQ (n := n - j) (P := fun m s₀ s₁ => m = 0 ∧ s₀.gens.size ≤ s₁.gens.size ∧ F s₁) hh hl room hg hgs (go _ hV2) (fun v s1 gs' hb hy => ?_) (fun s1 hp h' hk => ?_)
  · obtain ⟨m, em⟩ : ∃ m, n - j = m + 1 := ⟨n - j - 1, by omega⟩
    rw [em] at hy
    obtain ⟨y1, y2, y3, y4, y5⟩ := hy
    have e1 : n - 1 - (m + 1 - 1) = j := by omega
    have e2 : n - (m + 1 - 1) = j + 1 := by omega
    rw [e1] at y2
    rw [e2] at y3 y5
    subst y2
    have hsz1 : g < s1.gens.size := by
      have : (s.setGen g .running).gens.size = s.gens.size := by simp [Shared.setGen]
      omega
    refine hQ _ ⟨still _ s1 _ s1.toks y3 (setGen_bare (g := g) (bare _ _ y3) hb), gs', setGen_at hsz1, fun z hz => ?_⟩
    rw [show n - (j + 1) = m by omega]
    exact y5 z hz
  · have := hp.1
    omega
theorem stop (still : ∀ j s g' t, V j s → (∀ y ∈ g', y.bare = true) → V j { s with gens := g', toks := t }) (bare : ∀ j s, V j s → ∀ y ∈ s.gens, y.bare = true) (K : Held a g V F)
    (hh : A.handled = none) (room : A.depth < recursionLimit) {s : Shared} (h : Asleep prog w A g n tr V F n s) {Q : Option Value → Shared → Prop} {E : Value → Shared → Prop}
    (hQ : ∀ z, Left V F z → Q none z) : wpAny (MM prog w) A (pyNext (.ref a)) Q E s := by
  obtain ⟨hV, gs, hgs, go⟩ := h
  obtain ⟨hg, hl⟩ := K.gen _ _ hV
  have hV2 : V n (s.setGen g .running) := still n s _ s.toks hV (setGen_bare (g := g) (bare _ _ hV) rfl)
  refine wpAny_pyNext_genexpQ (n := n - n) (P := fun m s₀ s₁ => m = 0 ∧ s₀.gens.size ≤ s₁.gens.size ∧ F s₁) hh hl room hg hgs (go _ hV2) (fun v s1 gs' hb hy => ?_) (fun s1 hp h' hk => ?_)
  · rw [Nat.sub_self] at hy
    obtain ⟨_, _, y3, _, y5⟩ := hy
    exact (y5 _ y3).elim
  · refine hQ _ (.inr ⟨s1, (s1.setGen g .finished).gens, h', hp.2.2, rfl, setGen_bare (g := g) (K.fbare _ hp.2.2) rfl, hk⟩)
theorem all_turns (still : ∀ j s g' t, V j s → (∀ y ∈ g', y.bare = true) → V j { s with gens := g', toks := t }) (bare : ∀ j s, V j s → ∀ y ∈ s.gens, y.bare = true) (K : Held a g V F)
    (hh : A.handled = none) (room : A.depth < recursionLimit) {R : Result → Shared → Prop} : ∀ (k j : Nat) (s : Shared), n - j = k → j ≤ n → Asleep prog w A.in1 g n tr V F j s →
      (∀ z, Left V F z → R (.ok (.ret (.bool (((List.range n).drop j).all tr)))) z) → codeAny (MM prog w) A (.builtin "all.loop" ⟨[.ref a], []⟩) R s := by
  intro k
  induction k with
  | zero =>
    intro j s hk hj h hR
    have e : j = n := by omega
    subst e
    refine codeAny_builtin PySem.F.entry_all_loop ?_
    rw [Around.under_plainId PySem.F.plain_all_loop _]
    show wpAny _ A.in1 ((pyNext (.ref a)) >>= _) _ _ s
    refine wpAny_bind (stop (A := A.in1) still bare K hh room h fun z hz => ?_)
    refine wpAny_bind (wpAny_rule (wpAny_pure ?_))
    have q := hR z hz
    rw [List.drop_of_length_le (by simp)] at q
    exact q
  | succ k ih =>
    intro j s hk hj h hR
    have hlt : j < n := by omega
    have hd : (List.range n).drop j = j :: (List.range n).drop (j + 1) := by
      rw [List.drop_eq_getElem_cons (by simpa using hlt)]
      simp
    rw [hd] at hR
    refine codeAny_builtin PySem.F.entry_all_loop ?_
    rw [Around.under_plainId PySem.F.plain_all_loop _]
    show wpAny _ A.in1 ((pyNext (.ref a)) >>= _) _ _ s
    refine wpAny_bind (step (A := A.in1) still bare K hh room h hlt fun z hz => ?_)
    refine wpAny_bind (wpAny_holding (wpAny_truthy_bool ?_))
    refine wpAny_bind (wpAny_letGo ?_)
    cases hb : tr j with
    | true =>
      simp only [if_true]
      refine wpAny_pure ⟨plainId_quiet PySem.F.plain_all_loop _, ih (j + 1) z (by omega) hlt hz fun y hy => ?_⟩
      have q := hR y hy
      rw [List.all_cons, hb] at q
      exact q
    | false =>
      simp only [Bool.false_eq_true, if_false]
      refine wpAny_bind (wpAny_rule (wpAny_pure ?_))
      have q := hR z (.inl ⟨_, hz.1⟩)
      rw [List.all_cons, hb] at q
      exact q
theorem any_turns (still : ∀ j s g' t, V j s → (∀ y ∈ g', y.bare = true) → V j { s with gens := g', toks := t }) (bare : ∀ j s, V j s → ∀ y ∈ s.gens, y.bare = true) (K : Held a g V F)
    (hh : A.handled = none) (room : A.depth < recursionLimit) {R : Result → Shared → Prop} : ∀ (k j : Nat) (s : Shared), n - j = k → j ≤ n → Asleep prog w A.in1 g n tr V F j s →
      (∀ z, Left V F z → R (.ok (.ret (.bool (((List.range n).drop j).any tr)))) z) → codeAny (MM prog w) A (.builtin "any.loop" ⟨[.ref a], []⟩) R s := by
  intro k
  induction k with
  | zero =>
    intro j s hk hj h hR
    have e : j = n := by omega
    subst e
    refine codeAny_builtin PySem.F.entry_any_loop ?_
    rw [Around.under_plainId PySem.F.plain_any_loop _]
    show wpAny _ A.in1 ((pyNext (.ref a)) >>= _) _ _ s
    refine wpAny_bind (stop (A := A.in1) still bare K hh room h fun z hz => ?_)
    refine wpAny_bind (wpAny_rule (wpAny_pure ?_))
    have q := hR z hz
    rw [List.drop_of_length_le (by simp)] at q
    exact q
  | succ k ih =>
    intro j s hk hj h hR
    have hlt : j < n := by omega
    have hd : (List.range n).drop j = j :: (List.range n).drop (j + 1) := by
      rw [List.drop_eq_getElem_cons (by simpa using hlt)]
      simp
    rw [hd] at hR
    refine codeAny_builtin PySem.F.entry_any_loop ?_
    rw [Around.under_plainId PySem.F.plain_any_loop _]
    show wpAny _ A.in1 ((pyNext (.ref a)) >>= _) _ _ s
    refine wpAny_bind (step (A := A.in1) still bare K hh room h hlt fun z hz => ?_)
    refine wpAny_bind (wpAny_holding (wpAny_truthy_bool ?_))
    refine wpAny_bind (wpAny_letGo ?_)
    cases hb : tr j with
    | false =>
      simp only [Bool.false_eq_true, if_false]
      refine wpAny_pure ⟨plainId_quiet PySem.F.plain_any_loop _, ih (j + 1) z (by omega) hlt hz fun y hy => ?_⟩
      have q := hR y hy
      rw [List.any_cons, hb] at q
      exact q
    | true =>
      simp only [if_true]
      refine wpAny_bind (wpAny_rule (wpAny_pure ?_))
      have q := hR z (.inl ⟨_, hz.1⟩)
      rw [List.any_cons, hb] at q
      exact q
theorem call_all (still : ∀ j s g' t, V j s → (∀ y ∈ g', y.bare = true) → V j { s with gens := g', toks := t }) (bare : ∀ j s, V j s → ∀ y ∈ s.gens, y.bare = true) (K : Held a g V F)
    (hh : A.handled = none) (room : A.depth < recursionLimit) {s : Shared} {Q : Value → Shared → Prop} {E : Value → Shared → Prop} (h : Asleep prog w A.in1 g n tr V F 0 s)
    (hQ : ∀ z, Left V F z → Q (.bool ((List.range n).all tr)) z) : wpAny (MM prog w) A (call (.builtin "all") [.ref a]) Q E s := by
  refine call_function_tree PySem.F.kind_all PySem.F.plain_all PySem.F.entry_all (PySem.F.args_all1 _) ?_
  unfold Builtin.«all»
  refine wpAny_bind (m := oneArg "all" _) (wpAny_pure ?_)
  refine wpAny_bind (wpAny_pyIter_gen (K.gen _ _ h.1).1 ?_)
  refine wpAny_pure ⟨plainId_quiet PySem.F.plain_all_loop _, ?_⟩
  refine all_turns (A := A) still bare K hh room n 0 s rfl (Nat.zero_le _) h fun z hz => ?_
  simpa using hQ z hz
theorem call_any (still : ∀ j s g' t, V j s → (∀ y ∈ g', y.bare = true) → V j { s with gens := g', toks := t }) (bare : ∀ j s, V j s → ∀ y ∈ s.gens, y.bare = true) (K : Held a g V F)
    (hh : A.handled = none) (room : A.depth < recursionLimit) {s : Shared} {Q : Value → Shared → Prop} {E : Value → Shared → Prop} (h : Asleep prog w A.in1 g n tr V F 0 s)
    (hQ : ∀ z, Left V F z → Q (.bool ((List.range n).any tr)) z) : wpAny (MM prog w) A (call (.builtin "any") [.ref a]) Q E s := by
  refine call_function_tree PySem.F.kind_any PySem.F.plain_any PySem.F.entry_any (PySem.F.args_any1 _) ?_
  unfold Builtin.«any»
  refine wpAny_bind (m := oneArg "any" _) (wpAny_pure ?_)
  refine wpAny_bind (wpAny_pyIter_gen (K.gen _ _ h.1).1 ?_)
  refine wpAny_pure ⟨plainId_quiet PySem.F.plain_any_loop _, ?_⟩
  refine any_turns (A := A) still bare K hh room n 0 s rfl (Nat.zero_le _) h fun z hz => ?_
  simpa using hQ z hz
end
end IndG
set_option Elab.async false
set_option linter.all false
set_option maxRecDepth 100000
set_option maxHeartbeats 4000000
namespace Ind
open PySem PySem.Spec PyProof.Rows L2
def Fz (t : Addr) (H H' : Hp) : Prop := ∀ b o, b ≠ t → H b = some o → H' b = some o
theorem Fz.refl {t : Addr} {H : Hp} : Fz t H H := fun _ _ _ h => h
theorem Fz.trans {t : Addr} {H H1 H2 : Hp} (a : Fz t H H1) (b : Fz t H1 H2) : Fz t H H2 := fun c o n h => b c o n (a c o n h)
theorem Fz.of {t : Addr} {H H' : Hp} (a : Same H H') : Fz t H H' := fun b o _ h => a b o h
theorem Fz.upd {t : Addr} {H H' : Hp} {o : HO} (a : Fz t H H') : Fz t H (upd H' t o) := fun b u n h => by rw [upd_ne n]; exact a b u n h
theorem Fz.new {t p : Addr} {H H' : Hp} {o : HO} (a : Fz t H H') (n : H' p = none) : Fz t H (L2.upd H' p o) := fun b u nb h => by
  have e := a b u nb h
  rw [upd_ne (ne_of_none e n)]; exact e
theorem same_upd {H : Hp} {p : Addr} {o : HO} (h : H p = none) : Same H (upd H p o) := fun b x e => by
  rw [upd_ne (ne_of_none e h)]; exact e
theorem Same.new {p : Addr} {H H' : Hp} {o : HO} (a : Same H H') (n : H' p = none) : Same H (L2.upd H' p o) := a.trans (same_upd n)
theorem line {n : Nat} (h : n ≤ 1000) : n ≤ sizeLine := Nat.le_trans h (by decide)
inductive Iv (p : Prop) : Prop
  | a (h : p) : Iv p
  | b (h : False) : Iv p
theorem Iv.out {p : Prop} (h : Iv p) : p := by cases h with | a h => exact h | b h => exact h.elim
structure Tp where
  a : Addr
  l : Addr
def TapeAt (H : Hp) (t : Tp) : Prop := ∃ (ns : List Int) (p n s : Int),
  H t.a = some (.lst [.ref t.l, .int p, .int n, .int s]) ∧ H t.l = some (.lst (ns.map V.int)) ∧ ns.length ≤ 1000 ∧ 0 ≤ p ∧ 0 ≤ n ∧ 0 ≤ s ∧ s < 2147483647
theorem Tape.ne {H : Hp} {t l : Addr} {ns : List Int} {p n s : Int} (h : H t = some (.lst [.ref l, .int p, .int n, .int s])) (h' : H l = some (.lst (ns.map V.int))) : l ≠ t := fun e => by
  rw [e, h] at h'
  injection h' with h'
  injection h' with h'
  cases ns with
  | nil => cases h'
  | cons a r => injection h' with a1 a2; cases a1
theorem TapeAt.same {H H' : Hp} {t : Tp} (h : TapeAt H t) (e : Same H H') : TapeAt H' t := by
  obtain ⟨ns, p, n, s, h1, h2, h3⟩ := h
  exact ⟨ns, p, n, s, e _ _ h1, e _ _ h2, h3⟩
theorem TapeAt.new {H : Hp} {t : Tp} {p : Addr} {o : HO} (h : TapeAt H t) (n : H p = none) : TapeAt (upd H p o) t := h.same (same_upd n)
theorem TapeAt.there {H : Hp} {t : Tp} (h : TapeAt H t) : (∃ o, H t.a = some o) ∧ ∃ o, H t.l = some o := by
  obtain ⟨ns, p, n, s, h1, h2, _⟩ := h
  exact ⟨⟨_, h1⟩, ⟨_, h2⟩⟩
structure Off (t : Tp) (b : Addr) : Prop where
  a : b ≠ t.a
  l : b ≠ t.l
theorem TapeAt.off {H : Hp} {t : Tp} {b : Addr} (h : TapeAt H t) (e : H b = none) : Off t b := by
  obtain ⟨⟨o, q⟩, ⟨u, r⟩⟩ := h.there
  refine ⟨?_, ?_⟩
  · intro z; rw [z, q] at e; cases e
  · intro z; rw [z, r] at e; cases e
theorem TapeAt.upd {H : Hp} {t : Tp} {b : Addr} {o : HO} (h : TapeAt H t) (e : Off t b) : TapeAt (L2.upd H b o) t := by
  obtain ⟨ns, p, n, s, h1, h2, h3⟩ := h
  exact ⟨ns, p, n, s, by rw [upd_ne e.a.symm]; exact h1, by rw [upd_ne e.l.symm]; exact h2, h3⟩
theorem Fz.upd' {t p : Addr} {H H' : Hp} {o : HO} (a : Fz t H H') (n : H p = none) : Fz t H (L2.upd H' p o) := fun b u nb h => by
  rw [upd_ne (ne_of_none h n)]; exact a b u nb h
theorem rd {K : PySem.W.Frag} {H : Hp} {p : Addr} {xs : List V} {Q : VK} (h : H p = some (.lst xs)) (j : Nat) {v : V} (e : xs[j]? = some v) (q : Q v H) : rIxL K (.ref p) (.int (j : Int)) H Q := ⟨_, _, _, _, rfl, rfl, .of h, atI_nat e, q⟩
theorem wr {H : Hp} {p : Addr} {xs : List V} {Q : Hp → Prop} {v : V} (h : H p = some (.lst xs)) (j : Nat) (e : ixN xs.length (j : Int) = some j) (q : Q (upd H p (.lst (xs.set j v)))) : rSetL (.ref p) (.int (j : Int)) v H Q := ⟨_, _, _, _, rfl, rfl, h, e, q⟩
def Dm (m : Int) : Prop := ∀ x : Int, CDivW x (if (2 : Int) > m then 2 else m)
theorem dm {m : Int} (h : m < 1606938044258990275541962092341162602522202993782792835301376) : Dm m := fun x => by
  refine wide_div (b := 200) ?_ ?_ (by decide) (by decide)
  · split <;> omega
  · have e : (2 : Nat) ^ 200 = 1606938044258990275541962092341162602522202993782792835301376 := by decide +kernel
    rw [e]
    split <;> omega
end Ind
set_option Elab.async false
set_option linter.all false
set_option maxRecDepth 100000
set_option maxHeartbeats 4000000
namespace IndG
open PySem PySem.Spec PyProof.Rows L2 GenW
theorem over_gen {A : Around} {elt target iter : Expr} {scope : Scope} {pos : Pos} {it v : Value} {env : Env} : A.over (.compLoop (gx elt target iter scope pos) 0 it v env) [] = A.deeper env := by
  first
    | rfl
    | (obtain ⟨hd, d, fr, gs, u⟩ := A; simp [Around.over, Around.deeper, marksOver, frameCount, unitsOf, envsOf, guardsOf, pushEnvs, pushGuards, Code.envs, Code.env?, Code.isFrame, Code.guards, Code.isGuard, Code.weight, Code.frames, Code.isCreation, Code.isCaller, Code.cUnits])
theorem over_gen0 {A : Around} {elt target iter : Expr} {scope : Scope} {pos : Pos} {it v : Value} {env : Env} : A.over (.compStart (gx elt target iter scope pos) 0 it v env) [] = A.deeper env := by
  first
    | rfl
    | (obtain ⟨hd, d, fr, gs, u⟩ := A; simp [Around.over, Around.deeper, marksOver, frameCount, unitsOf, envsOf, guardsOf, pushEnvs, pushGuards, Code.envs, Code.env?, Code.isFrame, Code.guards, Code.isGuard, Code.weight, Code.frames, Code.isCreation, Code.isCaller, Code.cUnits])
abbrev genC (X : Cx) (env : Env) (s : Shared) (H : Hp) (fp : List Addr) : Cx :=
  { X with A := X.A.in1.in1.deeper env, s_0 := s, H_0 := H, env := env, outer := X.stack, stack := env :: X.stack, ex := fp, fn := fun _ => false, calm := true, pn := [], xe := fun _ _ => False }
theorem room_gen {X : Cx} {env : Env} {k : Nat} (r : Room (k + 1) X.A) : Room k (X.A.in1.in1.deeper env) := by
  refine ⟨r.hd, ?_, ?_⟩
  · have := r.dp
    show X.A.depth + 1 + 3 * k + 5 < _
    omega
  · have := r.un
    show X.A.units + 1 + 1 + 3 + 16 * k + 200 < _
    omega
theorem nodup_inj {α : Type} : ∀ {l : List α} {i j : Nat} {a : α}, l.Nodup → l[i]? = some a → l[j]? = some a → i = j
  | [], i, _, _, _, e, _ => by simp at e
  | x :: l, 0, 0, _, _, _, _ => rfl
  | x :: l, 0, j + 1, a, nd, e1, e2 => by
    simp only [List.getElem?_cons_zero, Option.some.injEq] at e1
    subst e1
    rw [List.getElem?_cons_succ] at e2
    exact absurd (List.mem_of_getElem? e2) (List.nodup_cons.mp nd).1
  | x :: l, i + 1, 0, a, nd, e1, e2 => by
    simp only [List.getElem?_cons_zero, Option.some.injEq] at e2
    subst e2
    rw [List.getElem?_cons_succ] at e1
    exact absurd (List.mem_of_getElem? e1) (List.nodup_cons.mp nd).1
  | x :: l, i + 1, j + 1, a, nd, e1, e2 => by
    rw [List.getElem?_cons_succ] at e1 e2
    rw [nodup_inj (List.nodup_cons.mp nd).2 e1 e2]
section
variable {X : Cx} {pins : List (Addr × Obj)} {σ : L2.St} {H : Hp} {s : Shared}
theorem taken (I : Inv X pins σ H s) {scope : Scope} (free : ∀ y ∈ scope.names, y.2 = .free → ∃ c, X.env.cells.lookup y.1 = some c) {y : Str} {c : Addr} (m : (y, c) ∈ cloFrom X.env.cells scope.names []) :
    (y, NameKind.free) ∈ scope.names ∧ X.env.cells.lookup y = some c ∧ c < s.heap.objs.size := by
  rcases cloFrom_mem m with m | ⟨h1, rfl⟩
  · cases m
  · obtain ⟨c, hc⟩ := free _ h1 rfl
    obtain ⟨v, z⟩ := I.cell _ _ hc
    rw [hc]
    exact ⟨h1, rfl, z.lt⟩
theorem gen_start {scope : Scope} {own : List (Str × Nat)} {fp : List Addr} {env : Env} {code it : Value} {h' : Heap} {go : Obj} {gs : GenState} {tk : Nat} (hc : X.calm = true) (hN : X.N.Nodup)
    (I : Inv X pins σ H s) (ok : BlkOk X.N X.env.scope scope own) (nocell : ∀ y ∈ scope.names, y.2 ≠ .cell) (eEnv : env = genEnv scope (cloFrom X.env.cells scope.names []) s.heap.objs.size code builtinsNs X.env)
    (hfp : ∀ b ∈ fp, FpOk X pins H b ∧ b < s.heap.objs.size) (hn : h'.Ns s.heap.objs.size (fun y => if y = ".0" then some it else none)) (hs : Heap.SameBut s.heap.objs.size (s.heap.push { cls := .type "frame", data := .dict #[] }) h')
    (hg : gs.bare = true) (hgo : ∀ v, go.data ≠ .cell v) (hgf : go.isFreed = false) :
    Inv (genC X env s H fp) [(h'.objs.size, go)] (wipe σ (own.map (·.2))) H { s with gens := s.gens.push gs, toks := tk, heap := h'.push go } := by
  have free : ∀ y ∈ scope.names, y.2 = .free → ∃ c, X.env.cells.lookup y.1 = some c := fun y hy e => (ok.free y hy e).elim (fun k => I.ok.has _ (.inl k)) (fun k => I.ok.has _ (.inr k))
  have eL : env.locals = s.heap.objs.size := by rw [eEnv]; rfl
  have eC : env.cells = cloFrom X.env.cells scope.names [] := by rw [eEnv]; rfl
  have eS : env.scope = scope := by rw [eEnv]; rfl
  have eF : env.frame = some env.locals := by rw [eEnv]; rfl
  have sz : h'.objs.size = s.heap.objs.size + 1 := by rw [hs.1, Heap.size_push]
  have kp : ∀ b o, s.heap.get? b = some o → (h'.push go).get? b = some o := fun b o e =>
    Heap.get?_push_of_some _ (hs.extBut b o (Nat.ne_of_lt (Heap.lt_size e)) (Heap.get?_push_of_some _ e))
  have cm : ∀ {y c}, env.cells.lookup y = some c → (y, NameKind.free) ∈ scope.names ∧ X.env.cells.lookup y = some c ∧ c < s.heap.objs.size := fun {y c} e => by
    rw [eC] at e
    exact taken I free (PySem.mem_of_lookup e)
  have look : ∀ {y}, (y, NameKind.free) ∈ scope.names → ∃ c, env.cells.lookup y = some c ∧ X.env.cells.lookup y = some c := fun {y} m => by
    obtain ⟨c', e'⟩ := mem_lookup (cloFrom_has (cells := X.env.cells) (acc := []) m)
    rw [← eC] at e'
    exact ⟨c', e', (cm e').2.1⟩
  have kinds : ∀ {y k}, env.kindOf y = some k → (y, k) ∈ scope.names := fun {y k} e => by
    unfold Env.kindOf at e
    rw [eS] at e
    exact PySem.mem_of_lookup e
  have okG : (genC X env s H fp).Ok := by
    refine ⟨I.ok.mod, ?_, ?_, ?_, ?_, ?_, ?_, ?_, ?_, ?_, ?_, ?_, I.bs, Nat.le_trans I.ok.bsz I.sz, ?_, ?_, I.stack, I.stkFree⟩
    · show env.scope.kind = _
      rw [eS]; exact ok.kind
    · show env.globals = _
      rw [eEnv]; exact I.ok.glob
    · show env.builtins = _
      rw [eEnv]; rfl
    · show s.heap.objs.size ≤ env.locals
      rw [eL]; exact Nat.le_refl _
    · intro y z c e1 e2
      exact I.ok.inj y z c (cm e1).2.1 (cm e2).2.1
    · intro y hy
      rcases hy with hy | hy
      · exact absurd rfl (nocell _ (kinds hy))
      · obtain ⟨c, e, _⟩ := look (kinds hy)
        exact ⟨c, e⟩
    · intro y c z
      exact absurd (show (false : Bool) = true from z) (by decide)
    · intro _
      exact I.ok.hd hc
    · exact Around.frames_deeper (show X.A.in1.in1.frames = some X.stack from I.ok.frames)
    · exact .inr ⟨rfl, eF⟩
    · intro b hb
      refine ⟨?_, fun y c e z => (hfp b hb).1.2.2.2.2.1 y c (cm e).2.1 z⟩
      show b ≠ env.locals
      rw [eL]
      exact Nat.ne_of_lt (hfp b hb).2
    · intro b o e hb
      rcases (hfp b hb).1.2.2.2.1 with z | z
      · exact I.ok.noex b o e z
      · exact absurd (Nat.lt_of_lt_of_le (Heap.lt_size e) (Nat.le_trans I.ok.bsz z)) (Nat.lt_irrefl _)
    · intro b hb z
      rcases List.mem_cons.mp (I.stkSub b z) with z | z
      · exact (hfp b hb).1.2.1 z
      · exact (hfp b hb).1.2.2.1 z
  refine ⟨okG, rfl, I.bare.push hg, Un.kept kp, ⟨fun y => if y = ".0" then some it else none, ?_, fun i y v e1 e2 e3 => ?_⟩, fun y c e => ?_, ?_, fun y c e => ?_, fun p hp => ?_, I.hok.kept kp, by rw [wipe_length]; exact I.len⟩
  · show (h'.push go).Ns env.locals _
    rw [eL]
    exact hn.push _
  · obtain ⟨e2, hne⟩ := wipe_some e2
    have notown : y ∉ own.map (·.1) := fun z => by
      obtain ⟨p, hp, ep⟩ := List.mem_map.mp z
      have ix := ok.ix p hp
      rw [ep] at ix
      have : p.2 = i := nodup_inj hN ix (show X.N[i]? = some y from e1)
      exact hne (List.mem_map.mpr ⟨p, hp, this⟩)
    have e3 : Vis scope y := by
      have z : Vis env.scope y := e3
      rw [eS] at z
      exact z
    have yN : y ∈ X.N := List.mem_of_getElem? (show X.N[i]? = some y from e1)
    have fr : (y, NameKind.free) ∈ scope.names := by
      rcases e3 with z | z | z
      · exact ((ok.own _ (PySem.mem_of_lookup z) (.inl rfl)).elim (fun q => absurd q notown) (fun q => absurd yN q))
      · exact absurd rfl (nocell _ (PySem.mem_of_lookup z))
      · exact PySem.mem_of_lookup z
    obtain ⟨c, l1, l2⟩ := look fr
    have vis : X.env.scope.names.lookup y = some .cell ∨ X.env.scope.names.lookup y = some .free := ok.free _ fr rfl
    obtain ⟨m, _, lc⟩ := I.loc
    obtain ⟨u, ru, lk⟩ := lc i y v e1 e2 (.inr vis)
    rcases lk with ⟨z, _⟩ | ⟨_, c2, z1, z2⟩
    · have z : X.env.scope.names.lookup y = some .local := z
      rcases vis with q | q <;> (rw [z] at q; cases q)
    · rw [l2] at z1
      cases z1
      refine ⟨u, ru, .inr ⟨.inr ?_, c, l1, z2.keeps kp⟩⟩
      show env.kindOf y = some .free
      unfold Env.kindOf
      rw [eS]
      exact ok.uniq _ fr
  · obtain ⟨v, z⟩ := I.cell y c (cm e).2.1
    exact ⟨v, z.keeps kp⟩
  · show H env.locals = none
    rw [eL]
    exact I.hok.fresh (Nat.le_refl _)
  · exact I.freeC y c (cm e).2.1
  · have hp : p = (h'.objs.size, go) := by simpa using hp
    subst hp
    refine ⟨Heap.get?_push_size _ hgf, I.hok.fresh (by omega), ?_, fun z => ?_, hgo⟩
    · show h'.objs.size ≠ env.locals
      rw [eL]
      omega
    · have z : h'.objs.size ∈ frs X.stack := z
      have big : s.heap.objs.size ≤ h'.objs.size := by omega
      rcases List.mem_cons.mp (I.stkSub _ z) with q | q
      · have := I.lt
        rw [← q] at this
        exact Nat.lt_irrefl _ (Nat.lt_of_lt_of_le this big)
      · exact I.nofs big q
end
end IndG
set_option Elab.async false
set_option linter.all false
set_option maxRecDepth 100000
set_option maxHeartbeats 4000000
namespace IndG
open PySem PySem.Spec PyProof.Rows L2 GenW
section
variable {X : Cx} {pins : List (Addr × Obj)} {σ : L2.St} {H0 : Hp} {s0 : Shared} {env : Env} {fp : List Addr} {a it : Addr} {go : Obj} {own : List (Str × Nat)} {target elt iter : Expr} {scope : Scope} {pos : Pos} {J : It} {tn : Nat → Heap → Prop} {n : Nat} {tr : Nat → Bool} {Pv : Nat → Hp → Prop} {g : TG} {te : TE}
def GV (X : Cx) (σ : L2.St) (H0 : Hp) (s0 : Shared) (env : Env) (fp : List Addr) (a : Addr) (go : Obj) (own : List (Str × Nat)) (tn : Nat → Heap → Prop) (Pv : Nat → Hp → Prop) (j : Nat) (s : Shared) : Prop :=
  ∃ H, Inv (genC X env s0 H0 fp) [(a, go)] (wipe σ (own.map (·.2))) H s ∧ tn j s.heap ∧ (∀ b ∈ fp, H b = none) ∧ Pv j H
def GF (X : Cx) (σ : L2.St) (H0 : Hp) (s0 : Shared) (env : Env) (fp : List Addr) (a : Addr) (go : Obj) (own : List (Str × Nat)) (Pv : Nat → Hp → Prop) (n : Nat) (s : Shared) : Prop :=
  ∃ H, Inv (genC X env s0 H0 fp) [(a, go)] (wipe σ (own.map (·.2))) H s ∧ Pv n H
theorem inv_still {Y : Cx} {pins : List (Addr × Obj)} {σ : L2.St} {H : Hp} {s : Shared} {g' : Array GenState} {t : Nat} (I : Inv Y pins σ H s) (b : ∀ y ∈ g', y.bare = true) : Inv Y pins σ H { s with gens := g', toks := t } :=
  ⟨I.ok, I.os, b, I.base, I.loc, I.cell, I.free, I.freeC, I.pin, I.hok, I.len⟩
theorem gen_stage (T : Turn X.prog X.w X.K target J fp it tn) (apart : ∀ b ∈ fp, a ≠ b)
    (hg : PG (genC X env s0 H0 fp) target g) (he : PE (genC X env s0 H0 fp) elt te)
    (turn : ∀ j H, j < n → Pv j H → J.go j H ∧ ∀ x H', J.yld j H x H' → g x (wipe σ (own.map (·.2))) H' fun σ2 H2 => wipe σ2 (own.map (·.2)) = wipe σ (own.map (·.2)) ∧ te σ2 H2 fun y H3 => y = .bl (tr j) ∧ Pv (j + 1) H3)
    (stop : ∀ H, Pv n H → J.stop n H) :
    Stage X.prog X.w (X.A.in1.in1.deeper env) env target elt it n tr (GV X σ H0 s0 env fp a go own tn Pv) (GF X σ H0 s0 env fp a go own Pv n) := by
  have ok : ∀ {σ' : L2.St} {H' : Hp} {s' : Shared}, Inv (genC X env s0 H0 fp) [(a, go)] σ' H' s' → (∀ b ∈ fp, H' b = none) → ∀ b ∈ fp, FpOk (genC X env s0 H0 fp) [(a, go)] H' b := fun {σ' H' s'} I' hn b hb =>
    ⟨hn b hb, (I'.ok.exf b hb).1, I'.ok.exfs b hb, .inl hb, fun x c e => (I'.ok.exf b hb).2 x c e, fun p hp => by
      have hp : p = (a, go) := by simpa using hp
      subst hp
      exact apart b hb⟩
  refine ⟨?_, ?_, ?_, ?_⟩
  · rintro j s g' t ⟨H, I, st, no, pv⟩ b
    exact ⟨H, inv_still I b, st, no, pv⟩
  · rintro j s ⟨H, I, _⟩
    exact I.bare
  · rintro j s E hj ⟨H, I, st, no, pv⟩
    obtain ⟨go', yl⟩ := turn j H hj pv
    refine wpAny_mono (T.item (genC X env s0 H0 fp) rfl rfl rfl rfl j [(a, go)] s _ H E I (ok I no) st go') (fun r s1 h1 => ?_) fun _ _ x => x
    obtain ⟨u, er, h1⟩ := h1
    refine ⟨u, er, wpAny_mono h1 (fun _ s2 h2 => ?_) fun _ _ x => x⟩
    obtain ⟨x, H2, I2, r2, y2, st2, no2⟩ := h2
    have I2p := I2.pinned (ok I2 no2) (T.obj _ _ st2)
    refine thnF (hg.run _ s2 _ H2 x u _ I2p r2 (yl x H2 y2)) fun _ s3 h3 => ?_
    obtain ⟨σ3, H3, I3, w3, q3⟩ := h3
    refine thnF (he.run _ s3 σ3 H3 _ I3 q3) fun y s4 h4 => ?_
    obtain ⟨v, H4, I4, r4, ev, pv4⟩ := h4
    subst ev
    have ey : y = Value.bool (tr j) := r4
    have pin : ∀ b ∈ fp, ∀ o, s2.heap.get? b = some o → s4.heap.get? b = some o ∧ H4 b = none := fun b hb o e => by
      have z := I4.pin (b, o) (List.mem_append_right _ (List.mem_append_right _ (mem_pinsAt hb e)))
      exact ⟨z.1, z.2.1⟩
    have ln : (wipe σ (own.map (·.2))).length = σ3.length := by rw [← w3, wipe_length]
    refine ⟨ey, H4, (I4.unpinned (pins := [(a, go)])).weak ln (fun i v e => ?_), T.keep _ _ _ st2 (fun b hb o e => (pin b hb o e).1), fun b hb => ?_, pv4⟩
    · rw [← w3] at e
      exact (wipe_some e).1
    · obtain ⟨o, e, _⟩ := T.obj _ _ st2 b hb
      exact (pin b hb o e).2
  · rintro s E ⟨H, I, st, no, pv⟩
    refine wpAny_mono (T.done (genC X env s0 H0 fp) rfl rfl rfl rfl n [(a, go)] s _ H E I (ok I no) st (stop H pv)) (fun r s1 h1 => ?_) fun _ _ x => x
    exact ⟨h1.1, H, h1.2, pv⟩
theorem gen_left {σ0 : L2.St} (I0 : Inv X pins σ0 H0 s0) (hfp : ∀ b ∈ fp, FpOk X pins H0 b) {s : Shared} (h : Left (GV X σ H0 s0 env fp a go own tn Pv) (GF X σ H0 s0 env fp a go own Pv n) s) : ∃ j H, Pv j H ∧ Inv X pins σ0 H s := by
  have back : ∀ {H : Hp} {z : Shared}, Inv (genC X env s0 H0 fp) [(a, go)] (wipe σ (own.map (·.2))) H z → Inv X pins σ0 H z := fun {H z} I =>
    I0.call' (ch := fp) I.os I.base I.hok I.bare fun b hb => ⟨(hfp b hb).2.2.2.1, (hfp b hb).2.1, (hfp b hb).2.2.2.2.1, (hfp b hb).2.2.2.2.2⟩
  rcases h with ⟨j, H, I, _, _, pv⟩ | ⟨s1, g', h', ⟨H, I, pv⟩, rfl, b, k⟩
  · exact ⟨j, H, pv, back I⟩
  · refine ⟨n, H, pv, ?_⟩
    have I1 := (back I).kept (t' := s1.toks) k
    exact inv_still (g' := g') (t := s1.toks) I1 b
end
end IndG
set_option Elab.async false
set_option linter.all false
set_option maxRecDepth 100000
set_option maxHeartbeats 4000000
namespace IndG
open PySem PySem.Spec PyProof.Rows L2 GenW GxR
section
variable {X : Cx} {pins : List (Addr × Obj)} {σ : L2.St} {H : Hp} {s : Shared} {own : List (Str × Nat)} {target elt iter : Expr} {scope : Scope} {pos gpos : Pos} {g : TG} {te : TE} {wi : TI} {c P : Addr}
def genR (P : Addr) (wi : TI) (g : TG) (te : TE) (vs : List Nat) (ans : List Nat → (Nat → Bool) → Bool) : TE := fun σ H Q => wi σ H fun J H1 => TabG H1 P ∧ ∀ H2, Tabbed P H1 H2 →
  ∃ (n : Nat) (tr : Nat → Bool) (Pv : Nat → Hp → Prop), Pv 0 H2 ∧ (∀ j H3, j < n → Pv j H3 → J.go j H3 ∧ ∀ x H4, J.yld j H3 x H4 → g x (wipe σ vs) H4 fun σ2 H5 => wipe σ2 vs = wipe σ vs ∧ te σ2 H5 fun y H6 => y = .bl (tr j) ∧ Pv (j + 1) H6) ∧
    (∀ H3, Pv n H3 → J.stop n H3) ∧ ∀ j H3, Pv j H3 → Q (.bl (ans (List.range n) tr)) H3
theorem gen_made {k : Nat} {Q' : Value → Shared → Prop} {R : It → Hp → Prop} (hc : X.calm = true) (hN : X.N.Nodup) (hr : Room k X.A) (TB : TabB X.base X.mg c P) (hcode : X.env.code = .ref c) (ok : BlkOk X.N X.env.scope scope own)
    (nocell : ∀ y ∈ scope.names, y.2 ≠ .cell) (dot : scope.names.lookup (".0" : Str) = some NameKind.local) (hco : scope.isCoroutine = false) (hi : PI X target iter wi) (hs : ∀ v, genFold iter X.env v = pure v)
    (I : Inv X pins σ H s) (h : wi σ H fun J H1 => TabG H1 P ∧ ∀ H2, Tabbed P H1 H2 → R J H2)
    (hQ : ∀ (it : Addr) (fp : List Addr) (tn : Nat → Heap → Prop) (J : It) (H2 : Hp) (s4 : Shared) (code : Value) (a : Addr) (go : Obj) (s5 : Shared), R J H2 → Inv X pins σ H2 s4 → Turn X.prog X.w X.K target J fp it tn → (∀ b ∈ fp, FpOk X pins H2 b) → (∀ b ∈ fp, a ≠ b) →
      Inv (genC X (genEnv scope (cloFrom X.env.cells scope.names []) s4.heap.objs.size code builtinsNs X.env) s4 H2 fp) [(a, go)] (wipe σ (own.map (·.2))) H2 s5 → tn 0 s5.heap → (∀ b ∈ fp, H2 b = none) → s5.heap.IsGen a s4.gens.size → s5.gens[s4.gens.size]? = some (.fresh (.compStart (gx elt target iter scope gpos) 0 (.ref it) .none (genEnv scope (cloFrom X.env.cells scope.names []) s4.heap.objs.size code builtinsNs X.env))) →
      (∀ h : Heap, h.get? a = some go → h.IsGen a s4.gens.size) → Q' (.ref a) s5) :
    wpAny (model X.prog X.w) X.A (eval (gx elt target iter scope gpos) X.env) Q' X.xe s := by
  have free : ∀ y ∈ scope.names, y.2 = .free → ∃ c, X.env.cells.lookup y.1 = some c := fun y hy e => (ok.free y hy e).elim (fun k => I.ok.has _ (.inl k)) (fun k => I.ok.has _ (.inr k))
  refine wpAny_GeneratorExp_make hco (closure_ok free) nocell dot ok.kind (by have := hr.dp; omega) ?_ hs
  refine thn (hi.run pins s σ H _ I h) fun xv s1 h1 => thn h1 fun itv s2 h2 => ?_
  obtain ⟨it, fp, tn, J, H1, rfl, I2, T, st, fpk, ⟨ps, hP, ht⟩, q⟩ := h2
  have hPs : s2.heap.get? P = some { cls := .none, data := .fields ps } := I2.hok P _ hP
  have cd : PySem.W.CodeHd s2.heap c P := TB.code.keeps fun b u e => I2.bk b u e
  have nP : ∀ b ∈ fp, b ≠ P := fun b hb z => by
    have := (fpk b hb).1
    rw [z, hP] at this
    cases this
  obtain ⟨bm, ob, e1, e2, e3, e4, e5, e6, e7, e8⟩ := TB.bm
  have hcP : cStatics ≠ P := fun e => by
    obtain ⟨_, hns, _⟩ := I2.nolimit
    obtain ⟨o', es, ep, ho, hd, _⟩ := hns
    rw [e, hPs] at ho
    cases ho
    cases hd
  have cont : ∀ (code : Value) (h3 : Heap) (tk : Nat) (ps' : Array Value), Heap.ExtBut P s2.heap h3 → h3.get? P = some { cls := .none, data := .fields ps' } → (∃ more, ps' = ps ++ more) → TriplesOk ps'.toList →
      wpAny (model X.prog X.w) X.A (builtinsFor X.env.globals X.env.builtins) (fun bi s₄ => ∀ h', h'.Ns s₄.heap.objs.size (fun y => if y = ".0" then some (.ref it) else none) → Heap.SameBut s₄.heap.objs.size (s₄.heap.push { cls := .type "frame", data := .dict #[] }) h' →
        Q' (.ref h'.objs.size) { s₄ with
          gens := s₄.gens.push (.fresh (.compStart (gx elt target iter scope gpos) 0 (.ref it) .none (genEnv scope (cloFrom X.env.cells scope.names []) s₄.heap.objs.size code bi X.env))),
          toks := s₄.toks + 1 + 1 + 1,
          heap := h'.push { cls := .type "generator", data := .fields #[.int s₄.gens.size 0, .str "<genexpr>" (s₄.toks + 1), .str (X.env.qual ++ "<genexpr>") (s₄.toks + 1 + 1)] } }) X.xe { s2 with heap := h3, toks := tk } := by
    intro code h3 tk ps' hx hP3 hmore ht3
    obtain ⟨more, em⟩ := hmore
    have keep3 : ∀ b u, b ≠ P → s2.heap.get? b = some u → h3.get? b = some u := fun b u hb e => hx b u hb e
    refine wpAny_builtinsFor (m := X.mg) (by rw [I2.ok.glob]; exact (I2.mod.glob.keeps I2.bk).extBut hx TB.gP) e1 e2 (keep3 _ _ e4 (I2.bk _ _ e5)) e6 e7 e8 ?_
    intro h' hn' hs'
    have I3 : Inv X pins σ (upd H1 P (.tbl (ps ++ more))) { s2 with heap := h3, toks := tk } := inv_tab (more := more) (g' := s2.gens) (d' := s2.drawn) (t' := tk) I2 hP (fun b o hb e => keep3 b o hb e) (by rw [← em]; exact hP3) I2.bare
    have tabd : Tabbed P H1 (upd H1 P (.tbl (ps ++ more))) := ⟨⟨ps ++ more, upd_same, by rw [← em]; exact ht3⟩, fun b hb => upd_ne hb⟩
    have fpk3 : ∀ b ∈ fp, FpOk X pins (upd H1 P (.tbl (ps ++ more))) b := fun b hb => ⟨by rw [upd_ne (nP b hb)]; exact (fpk b hb).1, (fpk b hb).2⟩
    have st3 : tn 0 h3 := T.keep _ _ _ st fun b hb o e => keep3 b o (nP b hb) e
    have sz3 : ∀ b ∈ fp, b < h3.objs.size := fun b hb => by
      obtain ⟨o, e, _⟩ := T.obj _ _ st3 b hb
      exact Heap.lt_size e
    have szh : h'.objs.size = h3.objs.size + 1 := by rw [hs'.1, Heap.size_push]
    have ext : ∀ (go : Obj) b o, h3.get? b = some o → (h'.push go).get? b = some o := fun go b o e => Heap.get?_push_of_some _ (hs'.extBut b o (Nat.ne_of_lt (Heap.lt_size e)) (Heap.get?_push_of_some _ e))
    refine hQ it fp tn J _ _ code _ _ _ (q _ tabd) I3 T fpk3 (fun b hb z => ?_) (gen_start (code := code) (it := .ref it) hc hN I3 ok nocell rfl (fun b hb => ⟨fpk3 b hb, sz3 b hb⟩) hn' hs' rfl (fun v e => by cases e) rfl)
      (T.keep _ _ _ st3 fun b hb o e => ext _ b o e) (fun b hb => (fpk3 b hb).1) ⟨_, _, _, Heap.get?_push_size _ rfl, rfl, rfl, rfl⟩ (Array.getElem?_push_size ..) (fun hh e => ⟨_, _, _, e, rfl, rfl, rfl⟩)
    have := sz3 b hb
    have z : h'.objs.size = b := z
    have e9 : (h'.objs.size : Nat) = b := z
    rw [szh] at e9
    exact absurd this (by rw [← e9]; exact Nat.not_lt.mpr (Nat.le_succ _))
  refine ⟨I2.nolimit, ?_⟩
  cases hf : codeAmong gpos ps.toList with
  | some cv =>
    refine wpAny_genexprCode_hit hcode (cd.code hPs ht) hf ?_
    exact cont cv s2.heap s2.toks ps (Heap.ExtBut.refl _ _) hPs ⟨#[], by simp⟩ ht
  | none =>
    refine wpAny_genexprCodeX hcode (cd.code hPs ht) (cd.tab hPs) hf fun c' h' tk hx hge hlt isc' _ tab' _ => ?_
    obtain ⟨z1, z2, z3, z4, z5, z6, z7, z8, z9, z10, _, _, _, _, _, _, _, _, _, ztr, _⟩ := isc'
    exact cont _ h' tk _ hx tab'.2 ⟨_, rfl⟩ ztr
end
end IndG
set_option Elab.async false
set_option linter.all false
set_option maxRecDepth 100000
set_option maxHeartbeats 4000000
namespace IndG
open PySem PySem.Spec PyProof.Rows L2 GenW GxR
section
variable {X : Cx} {own : List (Str × Nat)} {target elt iter : Expr} {scope : Scope} {p pos gpos : Pos} {g : TG} {te : TE} {wi : TI} {c P : Addr} {k : Nat}
theorem gen_call {b : String} {ans : List Nat → (Nat → Bool) → Bool} {pins : List (Addr × Obj)} {σ : L2.St} {H : Hp} {s : Shared} {Q : VK} (hc : X.calm = true) (hN : X.N.Nodup) (hr : Room k X.A) (TB : TabB X.base X.mg c P) (hcode : X.env.code = .ref c) (ok : BlkOk X.N X.env.scope scope own)
    (nocell : ∀ y ∈ scope.names, y.2 ≠ .cell) (dot : scope.names.lookup (".0" : Str) = some NameKind.local) (hco : scope.isCoroutine = false) (hi : PI X target iter wi) (hs : ∀ v, genFold iter X.env v = pure v)
    (pg : ∀ (s : Shared) (H : Hp) (C : Addr) (cl : List (Str × Addr)) (code : Value) (fp : List Addr), PG (genC X (genEnv scope cl C code builtinsNs X.env) s H fp) target g)
    (pe : ∀ (s : Shared) (H : Hp) (C : Addr) (cl : List (Str × Addr)) (code : Value) (fp : List Addr), PE (genC X (genEnv scope cl C code builtinsNs X.env) s H fp) elt te)
    (I : Inv X pins σ H s) (h : genR P wi g te (own.map (·.2)) ans σ H Q)
    (run : ∀ {a : Addr} {gi n : Nat} {tr : Nat → Bool} {V : Nat → Shared → Prop} {F : Shared → Prop} (still : ∀ j s g' t, V j s → (∀ y ∈ g', y.bare = true) → V j { s with gens := g', toks := t }) (bare : ∀ j s, V j s → ∀ y ∈ s.gens, y.bare = true) (K : Held a gi V F) {s : Shared} {Q : Value → Shared → Prop} {E : Value → Shared → Prop},
      Asleep X.prog X.w X.A.in1 gi n tr V F 0 s → (∀ z, Left V F z → Q (.bool (ans (List.range n) tr)) z) → wpAny (MM X.prog X.w) X.A (call (.builtin b) [.ref a]) Q E s) :
    wpAny (model X.prog X.w) X.A (eval (gx elt target iter scope gpos) X.env) (fun v s1 => wpAny (model X.prog X.w) X.A (call (.builtin b) [v]) (EP X pins σ Q) X.xe s1) X.xe s := by
  refine gen_made (R := fun J H2 => ∃ (n : Nat) (tr : Nat → Bool) (Pv : Nat → Hp → Prop), Pv 0 H2 ∧ (∀ j H3, j < n → Pv j H3 → J.go j H3 ∧ ∀ x H4, J.yld j H3 x H4 → g x (wipe σ (own.map (·.2))) H4 fun σ2 H5 => wipe σ2 (own.map (·.2)) = wipe σ (own.map (·.2)) ∧ te σ2 H5 fun y H6 => y = .bl (tr j) ∧ Pv (j + 1) H6) ∧
    (∀ H3, Pv n H3 → J.stop n H3) ∧ ∀ j H3, Pv j H3 → Q (.bl (ans (List.range n) tr)) H3) hc hN hr TB hcode ok nocell dot hco hi hs I h ?_
  intro it fp tn J H2 s4 code a go s5 hR I4 T fpk apart I5 st5 no5 gen5 gs5 isg
  obtain ⟨n, tr, Pv, pv0, turn, stop, fin'⟩ := hR
  have St := gen_stage (s0 := s4) (H0 := H2) (env := genEnv scope (cloFrom X.env.cells scope.names []) s4.heap.objs.size code builtinsNs X.env) (go := go) (σ := σ) (own := own) (n := n) (tr := tr) (Pv := Pv) T apart (pg _ _ _ _ _ _) (pe _ _ _ _ _ _) turn stop
  have V0 : GV X σ H2 s4 (genEnv scope (cloFrom X.env.cells scope.names []) s4.heap.objs.size code builtinsNs X.env) fp a go own tn Pv 0 s5 := ⟨H2, I5, st5, no5, pv0⟩
  have K : Held a s4.gens.size (GV X σ H2 s4 (genEnv scope (cloFrom X.env.cells scope.names []) s4.heap.objs.size code builtinsNs X.env) fp a go own tn Pv) (GF X σ H2 s4 (genEnv scope (cloFrom X.env.cells scope.names []) s4.heap.objs.size code builtinsNs X.env) fp a go own Pv n) := by
    refine ⟨?_, ?_⟩
    · rintro j z ⟨H3, I3, _⟩
      exact ⟨isg _ (I3.pin (a, go) (by simp)).1, I3.nolimit⟩
    · rintro z ⟨H3, I3, _⟩
      exact I3.bare
  have wk := fun z hz => wakes (prog := X.prog) (w := X.w) (A := X.A.in1.in1) (iter := iter) (scope := scope) (pos := gpos) (by rw [over_gen]; exact St) hco (by rw [over_gen, over_gen0]) (fun s Q E hV hQ => by
    obtain ⟨H3, I3, st3, _⟩ := hV
    exact T.self _ 0 s Q E st3 hQ) z z hz (Nat.le_refl _)
  refine run (n := n) (tr := tr) St.still St.bare K ⟨V0, _, gs5, fun z hz => ⟨rfl, ?_⟩⟩ fun z hz => ?_
  · rw [Nat.sub_zero]
    exact wk z hz
  · obtain ⟨j, H3, pv, I3⟩ := gen_left I4 fpk hz
    exact ⟨.bl _, H3, I3, rfl, fin' j H3 pv⟩
theorem pe_allG (hc : X.calm = true) (hN : X.N.Nodup) (hr : Room k X.A) (TB : TabB X.base X.mg c P) (hcode : X.env.code = .ref c) (hg : Gl X "all") (hm : X.mg "all" = none) (hb : bootBuiltins "all" = some (.builtin "all")) (ok : BlkOk X.N X.env.scope scope own)
    (nocell : ∀ y ∈ scope.names, y.2 ≠ .cell) (dot : scope.names.lookup (".0" : Str) = some NameKind.local) (hco : scope.isCoroutine = false) (hi : PI X target iter wi) (hs : ∀ v, genFold iter X.env v = pure v)
    (pg : ∀ (s : Shared) (H : Hp) (C : Addr) (cl : List (Str × Addr)) (code : Value) (fp : List Addr), PG (genC X (genEnv scope cl C code builtinsNs X.env) s H fp) target g)
    (pe : ∀ (s : Shared) (H : Hp) (C : Addr) (cl : List (Str × Addr)) (code : Value) (fp : List Addr), PE (genC X (genEnv scope cl C code builtinsNs X.env) s H fp) elt te)
    (he : starEach [gx elt target iter scope gpos] X.env = (false, eval (gx elt target iter scope gpos) X.env) :: starEach [] X.env := by rfl) :
    PE X (.Call (.Name "all" p) [gx elt target iter scope gpos] [] pos) (genR P wi g te (own.map (·.2)) List.all) := by
  constructor
  intro pins s σ H Q I h
  refine wpAny_Call_Name_kw (ld_blt I hg hm hb ?_)
  refine PyProof.Rows.callWith_builtin1 ?_ he (by rfl)
  rw [he]
  show wpAny _ _ (spliced ((false, eval (gx elt target iter scope gpos) X.env) :: (backTo pos (starEach [] X.env)))) _ _ s
  refine Calls.spliced_cons (thn (gen_call (b := "all") hc hN hr TB hcode ok nocell dot hco hi hs pg pe I h @fun a gi n tr V F still bare K s Q E h1 h2 => call_all still bare K (I.ok.hd hc) (by have := hr.dp; omega) h1 h2) fun v s1 h1 => ?_)
  exact Calls.spliced_nil h1
theorem pe_anyG (hc : X.calm = true) (hN : X.N.Nodup) (hr : Room k X.A) (TB : TabB X.base X.mg c P) (hcode : X.env.code = .ref c) (hg : Gl X "any") (hm : X.mg "any" = none) (hb : bootBuiltins "any" = some (.builtin "any")) (ok : BlkOk X.N X.env.scope scope own)
    (nocell : ∀ y ∈ scope.names, y.2 ≠ .cell) (dot : scope.names.lookup (".0" : Str) = some NameKind.local) (hco : scope.isCoroutine = false) (hi : PI X target iter wi) (hs : ∀ v, genFold iter X.env v = pure v)
    (pg : ∀ (s : Shared) (H : Hp) (C : Addr) (cl : List (Str × Addr)) (code : Value) (fp : List Addr), PG (genC X (genEnv scope cl C code builtinsNs X.env) s H fp) target g)
    (pe : ∀ (s : Shared) (H : Hp) (C : Addr) (cl : List (Str × Addr)) (code : Value) (fp : List Addr), PE (genC X (genEnv scope cl C code builtinsNs X.env) s H fp) elt te)
    (he : starEach [gx elt target iter scope gpos] X.env = (false, eval (gx elt target iter scope gpos) X.env) :: starEach [] X.env := by rfl) :
    PE X (.Call (.Name "any" p) [gx elt target iter scope gpos] [] pos) (genR P wi g te (own.map (·.2)) List.any) := by
  constructor
  intro pins s σ H Q I h
  refine wpAny_Call_Name_kw (ld_blt I hg hm hb ?_)
  refine PyProof.Rows.callWith_builtin1 ?_ he (by rfl)
  rw [he]
  show wpAny _ _ (spliced ((false, eval (gx elt target iter scope gpos) X.env) :: (backTo pos (starEach [] X.env)))) _ _ s
  refine Calls.spliced_cons (thn (gen_call (b := "any") hc hN hr TB hcode ok nocell dot hco hi hs pg pe I h @fun a gi n tr V F still bare K s Q E h1 h2 => call_any still bare K (I.ok.hd hc) (by have := hr.dp; omega) h1 h2) fun v s1 h1 => ?_)
  exact Calls.spliced_nil h1
end
end IndG
set_option Elab.async false
set_option linter.all false
set_option maxRecDepth 100000
set_option maxHeartbeats 4000000
namespace Ind
open PySem PySem.Spec PyProof.Rows L2
theorem small_div {x j : Int} (h : 0 < j) (h2 : j < 1606938044258990275541962092341162602522202993782792835301376) : CDivW x j := by
  refine wide_div (b := 200) h ?_ (by decide) (by decide)
  have e : (2 : Nat) ^ 200 = 1606938044258990275541962092341162602522202993782792835301376 := by decide +kernel
  rw [e]
  omega
theorem codes_app (a y : PySem.Str) : (a ++ y).cps.toList = a.cps.toList ++ y.cps.toList := by
  cases a; cases y
  show (_ ++ _ : Array Nat).toList = _
  simp
theorem codes_len (a : PySem.Str) : a.length = a.cps.toList.length := (Array.length_toList).symm
theorem codes_one (c : Nat) : (⟨#[c]⟩ : PySem.Str).cps.toList = [c] := rfl
def Sgn (c : Nat) : Prop := 32 ≤ c ∧ c ≤ 126 ∧ c ≠ 37
instance (c : Nat) : Decidable (Sgn c) := inferInstanceAs (Decidable (32 ≤ c ∧ c ≤ 126 ∧ c ≠ 37))
def Sgns (x : PySem.Str) : Prop := ∀ c ∈ x.cps.toList, Sgn c
def TxtOk (x : PySem.Str) : Prop := x.length ≤ 20 ∧ Sgns x
theorem Sgns.app {x y : PySem.Str} (a : Sgns x) (b : Sgns y) : Sgns (x ++ y) := fun c h => by
  rw [codes_app] at h
  exact (List.mem_append.mp h).elim (a c) (b c)
theorem Sgns.one {c : Nat} (h : Sgn c) : Sgns ⟨#[c]⟩ := fun d hd => by
  have e : d = c := by simpa [codes_one] using hd
  rw [e]; exact h
theorem len_app (x y : PySem.Str) : (x ++ y).length = x.length + y.length := by
  rw [codes_len, codes_len, codes_len, codes_app, List.length_append]
theorem len_one (c : Nat) : (⟨#[c]⟩ : PySem.Str).length = 1 := rfl
abbrev sgA : PySem.Str := " !\"#$&'()*+,-./0123456789:;<=>?@ABCDEFGHIJKLMNOPQRSTUVWXYZ[\\]^_`"
abbrev sgB : PySem.Str := "abcdefghijklmnopqrstuvwxyz{|}~"
def sg : PySem.Str := sgA ++ sgB
def ValOk : V → Prop
  | .int _ => True
  | .str x => TxtOk x
  | _ => False
theorem ValOk.cases {v : V} (h : ValOk v) : (∃ i, v = .int i) ∨ ∃ x, v = .str x ∧ TxtOk x := by
  cases v with
  | int i => exact .inl ⟨i, rfl⟩
  | str x => exact .inr ⟨x, rfl, h⟩
  | _ => exact h.elim
end Ind
set_option Elab.async false
set_option linter.all false
set_option maxRecDepth 100000
set_option maxHeartbeats 4000000
namespace IndCmp
open PySem PySem.SeqAt Ob
open PySem.AutoSeq1 (wpAny_loadPart')
open PySem.MeetsSeq PySem.MeetsSeq2 PySem.MeetsSeq3
end IndCmp
set_option Elab.async false
set_option linter.all false
set_option maxRecDepth 100000
set_option maxHeartbeats 4000000
namespace Ind
open PySem PySem.Spec PyProof.Rows L2
section
variable {X : Cx}
end
end Ind
set_option Elab.async false
set_option linter.all false
set_option maxRecDepth 100000
set_option maxHeartbeats 4000000
namespace Ind
open PySem PySem.Spec PyProof.Rows L2
end Ind
set_option Elab.async false
set_option linter.all false
set_option maxRecDepth 100000
set_option maxHeartbeats 4000000
namespace Ind
open PySem PySem.Spec PyProof.Rows L2
mutual
def tuplesOnly : PyData → Bool
  | .none => true
  | .bool _ => true
  | .int _ => true
  | .str _ => true
  | .tuple xs => tuplesOnlyAll xs
  | _ => false
def tuplesOnlyAll : List PyData → Bool
  | [] => true
  | x :: xs => tuplesOnly x && tuplesOnlyAll xs
end
structure Kp (H H' : Hp) : Prop where
  tup : ∀ b xs, H b = some (.tup xs) → H' b = some (.tup xs)
  frz : ∀ b o xs, H b = some (.frz o (.tup xs)) → H' b = some (.frz o (.tup xs))
theorem Kp.refl (H : Hp) : Kp H H := ⟨fun _ _ h => h, fun _ _ _ h => h⟩
theorem Kp.trans {H H1 H2 : Hp} (a : Kp H H1) (b : Kp H1 H2) : Kp H H2 := ⟨fun c x h => b.tup c x (a.tup c x h), fun c o x h => b.frz c o x (a.frz c o x h)⟩
theorem Same.kp {H H' : Hp} (s : Same H H') : Kp H H' := ⟨fun c x h => s _ _ h, fun c o x h => s _ _ h⟩
theorem Fz.kp {t : Tp} {H H' : Hp} (s : Fz t.a H H') (T : TapeAt H t) : Kp H H' := by
  obtain ⟨ns, p, n, z, h1, _⟩ := T
  refine ⟨fun c x h => s _ _ ?_ h, fun c o x h => s _ _ ?_ h⟩ <;> (intro e; rw [e, h1] at h; cases h)
theorem Kp.upd {H : Hp} {l : Addr} {xs : List V} {o : HO} (h : H l = some (.lst xs)) : Kp H (upd H l o) := by
  refine ⟨fun c x e => ?_, fun c u x e => ?_⟩ <;> (rw [upd_ne (ne_of e h (by intro z; cases z))]; exact e)
theorem Kp.new {H : Hp} {l : Addr} {o : HO} (h : H l = none) : Kp H (L2.upd H l o) := Same.kp (same_upd h)
theorem Kp.sqT {K : PySem.W.Frag} {H H' : Hp} {a : Addr} {xs : List V} (k : Kp H H') (h : SqT K H a xs) : SqT K H' a xs := by
  rcases h with (h | ⟨o, h⟩) | h
  · exact .inl (.inl (k.tup _ _ h))
  · exact .inl (.inr ⟨o, k.frz _ _ _ h⟩)
  · exact .inr h
mutual
theorem Dp.kp {K : PySem.W.Frag} {H H' : Hp} (k : Kp H H') : ∀ (d : PyData) (v : V), tuplesOnly d = true → Dp K H v d → Dp K H' v d
  | .none, _, _, h => by cases h; exact .non
  | .bool _, _, _, h => by cases h; exact .bl _
  | .int _, _, _, h => by cases h; exact .int _
  | .str _, _, _, h => by cases h; exact .str _
  | .list _, _, t, _ => by simp [tuplesOnly] at t
  | .dict _, _, t, _ => by simp [tuplesOnly] at t
  | .tuple ds, _, t, h => by
    cases h with
    | tup hs ha => exact .tup (k.sqT hs) (DpAll.kp k ds _ (by simpa [tuplesOnly] using t) ha)
theorem DpAll.kp {K : PySem.W.Frag} {H H' : Hp} (k : Kp H H') : ∀ (ds : List PyData) (vs : List V), tuplesOnlyAll ds = true → DpAll K H vs ds → DpAll K H' vs ds
  | [], _, _, h => by cases h; exact .nil
  | d :: ds, _, t, h => by
    cases h with
    | cons h1 h2 =>
      have t' : tuplesOnly d = true ∧ tuplesOnlyAll ds = true := by simpa [tuplesOnlyAll] using t
      exact .cons (Dp.kp k d _ t'.1 h1) (DpAll.kp k ds _ t'.2 h2)
end
end Ind
namespace L2
open PySem PySem.Spec PyProof.Rows
theorem DpAll.len {K : PySem.W.Frag} {H : Hp} : ∀ {ds : List PyData} {vs : List V}, DpAll K H vs ds → vs.length = ds.length
  | [], _, h => by cases h; rfl
  | d :: ds, _, h => by
    cases h with
    | cons _ h2 => rw [List.length_cons, List.length_cons, DpAll.len h2]
theorem DpAll.get {K : PySem.W.Frag} {H : Hp} : ∀ {ds : List PyData} {vs : List V} {i : Nat} {d : PyData}, DpAll K H vs ds → ds[i]? = some d → ∃ v, vs[i]? = some v ∧ Dp K H v d
  | [], _, _, _, _, e => by simp at e
  | d :: ds, _, 0, _, h, e => by
    cases h with
    | cons h1 _ =>
      simp only [List.getElem?_cons_zero, Option.some.injEq] at e
      subst e
      exact ⟨_, rfl, h1⟩
  | d :: ds, _, i + 1, _, h, e => by
    cases h with
    | cons _ h2 =>
      obtain ⟨v, q, r⟩ := DpAll.get h2 (show ds[i]? = some _ by simpa using e)
      exact ⟨v, by simpa using q, r⟩
theorem DpAll.app {K : PySem.W.Frag} {H : Hp} : ∀ {ds es : List PyData} {vs ws : List V}, DpAll K H vs ds → DpAll K H ws es → DpAll K H (vs ++ ws) (ds ++ es)
  | [], _, _, _, h, g => by cases h; exact g
  | d :: ds, _, _, _, h, g => by
    cases h with
    | cons h1 h2 => exact .cons h1 (DpAll.app h2 g)
theorem Dp.tup_inv {K : PySem.W.Frag} {H : Hp} {v : V} {ds : List PyData} (h : Dp K H v (.tuple ds)) : ∃ a xs, v = .ref a ∧ SqT K H a xs ∧ DpAll K H xs ds := by
  cases h with
  | tup hs ha => exact ⟨_, _, rfl, hs, ha⟩
theorem Dp.str_inv {K : PySem.W.Frag} {H : Hp} {v : V} {x : PySem.Str} (h : Dp K H v (.str x)) : v = .str x := by cases h; rfl
theorem Dp.int_inv {K : PySem.W.Frag} {H : Hp} {v : V} {x : Int} (h : Dp K H v (.int x)) : v = .int x := by cases h; rfl
end L2
namespace Ind
open PySem PySem.Spec PyProof.Rows L2
def rReprD (K : PySem.W.Frag) : List V → Hp → VK → Prop := fun xs H Q => ∃ x d, xs = [x] ∧ Dp K H x d ∧ d.showable = true ∧ d.hasDict = false ∧ d.depth ≤ 60 ∧ d.shown.length ≤ sizeLine ∧ Q (.str d.shown) H
section
variable {X : Cx}
theorem call_reprD (hg : X.A.guards = some []) (hu : X.A.units + 64 < cLine) : CallR X (.builtin "repr") (rReprD X.K) := by
  intro pins s σ H xs us Q I r h
  obtain ⟨x, d, rfl, hd, hs, nd, dep, len, q⟩ := h
  obtain ⟨u, rfl, ru⟩ := vals1 r
  cases x with
  | ref a =>
    obtain ⟨as, rd⟩ := Dp.reads I d _ u hd ru
    cases (show u = Value.ref a from ru)
    refine repr_of_reads' rd hs (fun e => by rw [nd] at e; cases e) hg (by omega) (fun _ _ e => e) (fun h' u' tk keep => ?_) len
    exact ⟨.str d.shown, H, I.kept keep, ⟨_, rfl⟩, q⟩
  | int i =>
    cases hd
    obtain ⟨t, rfl⟩ := (show ∃ t, u = Value.int i t from ru)
    exact PySem.P.repr_of_int (by simpa [PyData.showable] using hs) ⟨.str (toString i), H, I.tok _, ⟨_, rfl⟩, q⟩
  | str z =>
    cases hd
    obtain ⟨t, rfl⟩ := (show ∃ t, u = Value.str z t from ru)
    exact PySem.P.repr_of_str ⟨.str (reprText z), H, I.tok _, ⟨_, rfl⟩, q⟩ len
  | bl b =>
    cases hd
    cases (show u = Value.bool b from ru)
    exact PySem.P.repr_of_bool ⟨.str (if b then "True" else "False"), H, I.tok _, ⟨_, rfl⟩, q⟩
  | non =>
    cases hd
    cases (show u = Value.none from ru)
    exact PySem.P.repr_of_none ⟨.str "None", H, I.tok _, ⟨_, rfl⟩, q⟩
  | _ => cases hd
theorem call_tupleZ : CallR X (.type "tuple") (fun xs H Q => ∃ p ys, xs = [.ref p] ∧ SqL X.K H p ys ∧ ∀ l o, H l = none → o.dict = none → Q (.ref l) (upd H l (.frz o (.tup ys)))) := by
  intro pins s σ H xs us Q I r h
  obtain ⟨p, ys, rfl, hq, q⟩ := h
  obtain ⟨u, rfl, rx⟩ := vals1 r
  cases rx
  obtain ⟨its, rv, pl, small⟩ := I.list hq
  have same := rv.length
  apply call_tuple_list pl.isList
  · intro h' kp
    have I1 : Inv X pins σ H { s with heap := h' } := I.kept (t' := s.toks) kp
    let o : Obj := { cls := .type "tuple", data := .seq its.toArray }
    have at_ : (h'.push o).get? h'.objs.size = some o := Heap.get?_push_size _ rfl
    have I2 : Inv X pins σ (upd H h'.objs.size (.frz o (.tup ys))) { s with heap := h'.push o } := by
      apply I1.laid (t' := s.toks) (fun b ob e => Heap.get?_push_of_some _ e) (Nat.le_refl _)
      exact ⟨at_, small, its, rv, IsTup.new _ _⟩
    exact ⟨.ref h'.objs.size, _, I2, rfl, q _ o (I1.hok.fresh (Nat.le_refl _)) rfl⟩
end
end Ind
set_option Elab.async false
set_option linter.all false
set_option maxRecDepth 100000
set_option maxHeartbeats 4000000
namespace IndEnd
open PySem PySem.Spec PyProof.Rows L2
theorem fun_at {P : Program} {w : World} {K : PySem.W.Frag} {mg : Str → Option Value} {base : Heap} {x qual : Str} {st : Stmt} {f : Addr} {fd : FuncData} {N ps : List Str} {k : Nat} {A : Around} {outer : List Env} {s : Shared} {H : Hp} {us : List Value} {vs : List V} {Q : VK}
    (F : Fun K x qual st f fd) (S : FnScope N ps (defScope st)) (room : Room (k + 1) A) (e0 : Env0 P w K mg base A outer s H) (bt : BindsTo s fd ⟨us, []⟩ (ps.zip us)) (rv : Vals vs us) (len : vs.length = ps.length)
    (body : ∀ cdv : Value, Room k (A.deeper (envOfC qual (defScope st) s.heap.objs.size f cdv)) →
      ∃ t, PSs (cxOf CX0 P w K mg base N qual (defScope st) f cdv A outer s H E0).nox (defBody st) t ∧ t { nx := fun _ H' => Q .non H', rt := Q } (start N vs) H) :
    codeAny (model P w) A (.call (.ref f) ⟨us, []⟩) (CR CX0 outer P w H s Q E0) s := by
  obtain ⟨oc, od, kV, doc, pm, an, cdv, ct, osl, rfl, lk, cin⟩ := F.ex
  have keep : ∀ b o, base.get? b = some o → s.heap.get? b = some o := fun b o e => (e0.bs b o e).1
  have KX : K.In s.heap := e0.mod.kin.keeps keep
  have kinds : ∀ y ∈ ps.zip us, (defScope st).names.lookup y.1 = some .local ∨ ((defScope st).names.lookup y.1 = some .cell ∧ ((cellsFrom (s.heap.objs.size + 1) (defScope st).names []).lookup y.1).isSome = true) := by
    rintro ⟨n, v⟩ hy
    have hn : n ∈ ps := (List.of_mem_zip hy).1
    cases S.par n hn with
    | inl q => exact .inl q
    | inr q => exact .inr ⟨q, PySem.W.cellsFrom_some _ _ _ (.inl q)⟩
  apply codeAny_call_function room.depth (KX _ _ lk) rfl S.co S.gen rfl (PySem.W.codeRec_of KX cin)
  apply bt
  apply wpAny_newFunctionEnv_cells S.kind kinds
  intro env he s1 ic
  subst he
  have lim := (e0.mod.nolimit.keeps keep).keeps ic.toInCall.keep
  refine ⟨lim, codeAny_func ?_⟩
  obtain ⟨t, ht, hq⟩ := body cdv (room.deeper _)
  have I := inv_start (CX := CX0) (E := E0) S room.hd e0 len rv ic
  refine wpAny_mono (ht.nox.run [] s1 _ H _ I hq) ?_ (fun _ _ z => z)
  intro fl s' hs
  cases fl with
  | ret u => obtain ⟨v, σ', H', J, r, q⟩ := hs; exact ⟨v, H', J.os, J.bare, J.base, J.hok, r, q⟩
  | next => obtain ⟨σ', H', J, q⟩ := hs; exact ⟨V.non, H', J.os, J.bare, J.base, J.hok, rfl, q⟩
  | brk => obtain ⟨_, _, _, q⟩ := hs; exact q.elim
  | cont => obtain ⟨_, _, _, q⟩ := hs; exact q.elim
def start0 (K : PySem.W.Frag) (a : Addr) (o : Obj) (ns : List Int) : Hp := fun b =>
  if b = a ∧ K.lookup a = none then some (.frz o (.lst (ns.map V.int))) else none
theorem start0_some {K : PySem.W.Frag} {a b : Addr} {o : Obj} {ns : List Int} {u : HO} (h : start0 K a o ns b = some u) : b = a ∧ K.lookup a = none ∧ u = .frz o (.lst (ns.map V.int)) := by
  unfold start0 at h
  split at h
  · rename_i c; cases h; exact ⟨c.1, c.2, rfl⟩
  · cases h
end IndEnd
set_option Elab.async false
set_option linter.all false
set_option maxRecDepth 100000
set_option maxHeartbeats 4000000
namespace Ind
open PySem PySem.Spec PyProof.Rows L2
abbrev S := PySem.Str
inductive Op where
  | col (n : S)
  | num (i : Int)
  | txt (x : S)
def Op.d : Op → PyData
  | .col n => .tuple [.str "column", .str n]
  | .num i => .tuple [.str "integer", .int i]
  | .txt x => .tuple [.str "string", .str x]
abbrev Kd := Option Int
def kdD : Kd → PyData
  | none => .tuple [.str "string"]
  | some b => .tuple [.str "integer", .int b]
abbrev Col := S × Kd
def colD (c : Col) : PyData := .tuple [.str c.1, kdD c.2]
structure Tm where
  plus : Bool
  op : Op
def sgS : Bool → S
  | true => "+"
  | false => "-"
def Tm.d (t : Tm) : PyData := .tuple [.str (sgS t.plus), t.op.d]
def exD (ts : List Tm) : PyData := .tuple (ts.map Tm.d)
theorem tO_kd (k : Kd) : tuplesOnly (kdD k) = true := by cases k <;> rfl
theorem tO_col (c : Col) : tuplesOnly (colD c) = true := by
  show (true && (tuplesOnly (kdD c.2) && true)) = true
  rw [tO_kd]; rfl
theorem tO_all {α : Type} (f : α → PyData) (h : ∀ a, tuplesOnly (f a) = true) : ∀ l : List α, tuplesOnlyAll (l.map f) = true
  | [] => rfl
  | a :: l => by
    show (tuplesOnly (f a) && tuplesOnlyAll (l.map f)) = true
    rw [h, tO_all f h l]; rfl
def KdOk : Kd → Prop
  | none => True
  | some b => 0 ≤ b ∧ b ≤ 1000000000000
structure ColsOk (cs : List Col) : Prop where
  nd : (cs.map (·.1)).Nodup
  kd : ∀ c ∈ cs, KdOk c.2
  len : cs.length ≤ 10
  nm : ∀ c ∈ cs, TxtOk c.1
def ColsAt (K : PySem.W.Frag) (H : Hp) (v : V) (cs : List Col) : Prop := ∃ (a : Addr) (o : Obj) (ps : List Addr), v = .ref a ∧ H a = some (.frz o (.tup (ps.map V.ref))) ∧ o.dict = none ∧ DpAll K H (ps.map V.ref) (cs.map colD)
theorem ColsAt.kp {K : PySem.W.Frag} {H H' : Hp} {v : V} {cs : List Col} (k : Kp H H') (h : ColsAt K H v cs) : ColsAt K H' v cs := by
  obtain ⟨a, o, ps, e, h1, h2, h3⟩ := h
  exact ⟨a, o, ps, e, k.frz _ _ _ h1, h2, DpAll.kp k _ _ (tO_all _ tO_col cs) h3⟩
def opBound (cs : List Col) : Op → Int
  | .num i => if i < 0 then -i else i
  | .txt _ => 0
  | .col n => match cs.find? (fun c => decide (c.1 = n) && c.2.isSome) with
    | some (_, some b) => b
    | _ => 0
def OpInt (cs : List Col) : Op → Prop
  | .num i => -1000000 ≤ i ∧ i ≤ 1000000
  | .txt _ => False
  | .col n => ∃ b, (n, some b) ∈ cs
def OpTxt (cs : List Col) : Op → Prop
  | .num _ => False
  | .txt x => TxtOk x
  | .col n => (n, none) ∈ cs
def OpOk (cs : List Col) (word : Bool) (o : Op) : Prop := if word then OpTxt cs o else OpInt cs o
def wordS : Bool → S
  | true => "string"
  | false => "integer"
structure ExOk (cs : List Col) (word : Bool) (ts : List Tm) : Prop where
  ne : ts ≠ []
  first : ∀ t, ts.head? = some t → t.plus = true
  ops : ∀ t ∈ ts, OpOk cs word t.op
  one : word = true → ts.length = 1
  sum : (ts.map fun t => opBound cs t.op).sum ≤ 1000000000000
  len : ts.length ≤ 20
def ValIn : Kd → V → Prop
  | none, .str x => TxtOk x
  | some b, .int i => -b ≤ i ∧ i ≤ b
  | _, _ => False
inductive RowIn : List Col → List V → Prop
  | nil : RowIn [] []
  | cons {c : Col} {v : V} {cs : List Col} {vs : List V} : ValIn c.2 v → RowIn cs vs → RowIn (c :: cs) (v :: vs)
theorem RowIn.len {cs : List Col} {vs : List V} (h : RowIn cs vs) : vs.length = cs.length := by induction h <;> simp_all
theorem RowIn.get : ∀ {cs : List Col} {vs : List V} {i : Nat} {c : Col}, RowIn cs vs → cs[i]? = some c → ∃ v, vs[i]? = some v ∧ ValIn c.2 v
  | _, _, _, _, .nil, e => by simp at e
  | _, _, 0, _, .cons h _, e => by
    simp only [List.getElem?_cons_zero, Option.some.injEq] at e
    subst e
    exact ⟨_, rfl, h⟩
  | _, _, i + 1, _, .cons _ t, e => by
    obtain ⟨v, q, r⟩ := RowIn.get t (show _ = some _ by simpa using e)
    exact ⟨v, by simpa using q, r⟩
def NamesAt (K : PySem.W.Frag) (H : Hp) (v : V) (cs : List Col) : Prop := ∃ (a : Addr) (o : Obj), v = .ref a ∧ H a = some (.frz o (.tup (cs.map fun c => V.str c.1))) ∧ o.dict = none
structure Straight (cs : List Col) (ts : List Tm) : Prop where
  nd : (ts.filterMap fun t => match t.op with | .col n => some n | _ => none).Nodup
  signs : ∀ t ∈ ts, ∀ i, t.op = .num i → if t.plus then 0 ≤ i else i ≤ 0
end Ind
set_option Elab.async false
set_option linter.all false
set_option maxRecDepth 100000
set_option maxHeartbeats 4000000
namespace Ind
open PySem PySem.Spec PyProof.Rows L2
end Ind
set_option Elab.async false
set_option linter.all false
set_option maxRecDepth 100000
set_option maxHeartbeats 4000000
namespace Ind
open PySem PySem.Spec PyProof.Rows L2
variable {K : PySem.W.Frag} {H : Hp}
def wk : Kd → S
  | none => "string"
  | some _ => "integer"
def Op.word : Op → S
  | .col _ => "column"
  | .num _ => "integer"
  | .txt _ => "string"
def Op.cont : Op → V
  | .col n => .str n
  | .num i => .int i
  | .txt x => .str x
theorem map_get {α β : Type} {f : α → β} {l : List α} {i : Nat} {x : β} (h : (l.map f)[i]? = some x) : ∃ a, l[i]? = some a ∧ x = f a := by
  rw [List.getElem?_map] at h
  cases e : l[i]? with
  | none => rw [e] at h; cases h
  | some a => rw [e] at h; exact ⟨a, rfl, by cases h; rfl⟩
theorem take_more {α : Type} {l : List α} {i : Nat} {a : α} (h : l[i]? = some a) : l.take (i + 1) = l.take i ++ [a] := by
  rw [List.take_add_one, h]; rfl
theorem ColsAt.tup {c : V} {cs : List Col} (h : ColsAt K H c cs) : ∃ (a : Addr) (ps : List Addr), c = .ref a ∧ SqT K H a (ps.map V.ref) ∧ DpAll K H (ps.map V.ref) (cs.map colD) := by
  obtain ⟨a, o, ps, e, h1, h2, h3⟩ := h
  exact ⟨a, ps, e, .inl (.inr ⟨o, h1⟩), h3⟩
theorem OpOk.str {cs : List Col} {b : Bool} {o : Op} (ok : ColsOk cs) (h : OpOk cs b o) : (∃ i, o = .num i) ∨ ∃ x, TxtOk x ∧ (o = .txt x ∨ o = .col x) := by
  cases o with
  | num i => exact .inl ⟨i, rfl⟩
  | txt x =>
    cases b with
    | true => exact .inr ⟨x, h, .inl rfl⟩
    | false => exact h.elim
  | col x =>
    refine .inr ⟨x, ?_, .inr rfl⟩
    cases b with
    | true => exact ok.nm _ (show (x, none) ∈ cs from h)
    | false =>
      obtain ⟨k, hk⟩ := (show ∃ k, (x, some k) ∈ cs from h)
      exact ok.nm _ hk
theorem Same.upd' {p : Addr} {H H' : Hp} {o : HO} (a : Same H H') (n : H p = none) : Same H (L2.upd H' p o) := fun b u h => by
  rw [upd_ne (ne_of_none h n)]; exact a b u h
theorem Fz.none {t b : Addr} {H H' : Hp} (f : Fz t H H') (n : b ≠ t) (e : H' b = Option.none) : H b = Option.none := by
  cases h : H b with
  | none => rfl
  | some o => rw [f b o n h] at e; cases e
theorem OpOk.mem {cs : List Col} {b : Bool} {n : S} (h : OpOk cs b (.col n)) : n ∈ cs.map (·.1) := by
  cases b with
  | true => exact List.mem_map.mpr ⟨_, (show (n, none) ∈ cs from h), rfl⟩
  | false =>
    obtain ⟨k, hk⟩ := (show ∃ k, (n, some k) ∈ cs from h)
    exact List.mem_map.mpr ⟨_, hk, rfl⟩
end Ind
set_option Elab.async false
set_option linter.all false
set_option maxRecDepth 100000
set_option maxHeartbeats 4000000
namespace Ind
open PySem PySem.Spec PyProof.Rows L2
section
variable {X : Cx} {σ : L2.St} {H : Hp}
variable {o e : Expr} {name : Str} {apos cpos : Pos} {id : String} {to : TE} {t : TA} {r : V → List V → Hp → VK → Prop}
end
end Ind
set_option Elab.async false
set_option linter.all false
set_option maxRecDepth 100000
set_option maxHeartbeats 4000000
namespace Ind
open PySem PySem.Spec PyProof.Rows L2
theorem Same.none {b : Addr} {H H' : Hp} (f : Same H H') (e : H' b = Option.none) : H b = Option.none := by
  cases h : H b with
  | none => rfl
  | some o => rw [f b o h] at e; cases e
end Ind
set_option Elab.async false
set_option linter.all false
set_option maxRecDepth 100000
set_option maxHeartbeats 4000000
namespace Ind
open PySem PySem.Spec PyProof.Rows L2
theorem leave {D : Ends} {σ : L2.St} {H : Hp} (h : D.nx σ H) : tNext D σ H := h
def colN (t : Tm) : Option S := match t.op with
  | .col n => some n
  | _ => none
structure StI (cs : List Col) (ts : List Tm) (fs : List S) (n : Int) (i : Nat) : Prop where
  ne : 0 < i → ts ≠ []
  first : ∀ t, ts.head? = some t → t.plus = true
  ops : ∀ t ∈ ts, OpOk cs false t.op
  sum : (ts.map fun t => opBound cs t.op).sum = n
  low : n ≤ 1000000000000
  len : ts.length ≤ i
  nd : (ts.filterMap colN).Nodup
  signs : ∀ t ∈ ts, ∀ j, t.op = .num j → if t.plus then 0 ≤ j else j ≤ 0
  left : ∀ f ∈ fs, ∃ b, (f, some b) ∈ cs
  fnd : fs.Nodup
  apart : ∀ f ∈ fs, f ∉ ts.filterMap colN
  few : fs.length ≤ 10
structure Nxt (cs : List Col) (ts : List Tm) (fs : List S) (pl : Bool) (o : Op) : Prop where
  ok : OpOk cs false o
  sign : ∀ j, o = .num j → if pl then 0 ≤ j else j ≤ 0
  apart : ∀ n, o = .col n → n ∉ fs ∧ n ∉ ts.filterMap colN
theorem StI.same {cs : List Col} {ts : List Tm} {fs : List S} {n : Int} {i : Nat} (h : StI cs ts fs n i) (ne : ts ≠ []) : StI cs ts fs n (i + 1) :=
  ⟨fun _ => ne, h.first, h.ops, h.sum, h.low, Nat.le_succ_of_le h.len, h.nd, h.signs, h.left, h.fnd, h.apart, h.few⟩
theorem StI.add {cs : List Col} {ts : List Tm} {fs : List S} {n : Int} {i : Nat} {pl : Bool} {o : Op} (h : StI cs ts fs n i) (x : Nxt cs ts fs pl o) (hp : i = 0 → pl = true) (l : n + opBound cs o ≤ 1000000000000) : StI cs (ts ++ [⟨pl, o⟩]) fs (n + opBound cs o) (i + 1) := by
  refine ⟨fun _ => by simp, ?_, ?_, ?_, l, ?_, ?_, ?_, h.left, h.fnd, ?_, h.few⟩
  · intro t ht
    cases ts with
    | nil =>
      have hi : i = 0 ∨ 0 < i := by omega
      rcases hi with hi | hi
      · cases ht; exact hp hi
      · exact absurd rfl (h.ne hi)
    | cons a r => exact h.first t ht
  · intro t ht
    rcases List.mem_append.mp ht with m | m
    · exact h.ops t m
    · cases List.mem_singleton.mp m; exact x.ok
  · rw [List.map_append, List.sum_append, h.sum]; simp
  · have := h.len
    simp; omega
  · rw [List.filterMap_append, List.nodup_append]
    refine ⟨h.nd, ?_, ?_⟩
    · cases o with
      | col m => exact (by show [m].Nodup; simp)
      | num j => exact (show ([] : List S).Nodup from List.nodup_nil)
      | txt y => exact (show ([] : List S).Nodup from List.nodup_nil)
    · intro a ha b hb e
      subst e
      cases o with
      | col m =>
        have : a = m := by simpa [colN] using hb
        subst this
        exact (x.apart a rfl).2 ha
      | num j => simp [colN] at hb
      | txt y => simp [colN] at hb
  · intro t ht j ej
    rcases List.mem_append.mp ht with m | m
    · exact h.signs t m j ej
    · cases List.mem_singleton.mp m; exact x.sign j ej
  · intro f hf
    rw [List.filterMap_append, List.mem_append, not_or]
    refine ⟨h.apart f hf, ?_⟩
    cases o with
    | col m =>
      intro hb
      have : f = m := by simpa [colN] using hb
      subst this
      exact (x.apart f rfl).1 hf
    | num j => simp [colN]
    | txt y => simp [colN]
theorem StI.out {cs : List Col} {ts : List Tm} {fs : List S} {n : Int} {i : Nat} (h : StI cs ts fs n i) (hi : 0 < i ∧ i ≤ 20) : ExOk cs false ts ∧ Straight cs ts :=
  ⟨⟨h.ne hi.1, h.first, h.ops, (fun e => by cases e), by rw [h.sum]; exact h.low, Nat.le_trans h.len hi.2⟩, ⟨h.nd, h.signs⟩⟩
theorem map_erase {α β : Type} (f : α → β) : ∀ (l : List α) (k : Nat), (l.map f).eraseIdx k = (l.eraseIdx k).map f
  | [], _ => rfl
  | a :: l, 0 => rfl
  | a :: l, k + 1 => by
    show f a :: (l.map f).eraseIdx k = f a :: (l.eraseIdx k).map f
    rw [map_erase f l k]
end Ind
set_option Elab.async false
set_option linter.all false
set_option maxRecDepth 100000
set_option maxHeartbeats 4000000
namespace Ind
open PySem PySem.Spec PyProof.Rows L2
end Ind
set_option Elab.async false
set_option linter.all false
set_option maxRecDepth 100000
set_option maxHeartbeats 4000000
namespace Ind
open PySem PySem.Spec PyProof.Rows L2
inductive KvOf (K : PySem.W.Frag) (H : Hp) : List Col → List (Key × V) → Prop
  | nil : KvOf K H [] []
  | cons {c : Col} {u : V} {cs : List Col} {kvs : List (Key × V)} : Dp K H u (kdD c.2) → KvOf K H cs kvs → KvOf K H (c :: cs) ((.inr c.1, u) :: kvs)
variable {K : PySem.W.Frag} {H H' : Hp}
theorem KvOf.keys {cs : List Col} {kvs : List (Key × V)} (h : KvOf K H cs kvs) : kvs.map (·.1) = cs.map (fun c => (.inr c.1 : Key)) := by
  induction h with
  | nil => rfl
  | cons _ _ ih => rw [List.map_cons, List.map_cons, ih]
theorem KvOf.kp {cs : List Col} {kvs : List (Key × V)} (k : Kp H H') (h : KvOf K H cs kvs) : KvOf K H' cs kvs := by
  induction h with
  | nil => exact .nil
  | cons d _ ih => exact .cons (Dp.kp k _ _ (tO_kd _) d) ih
theorem KvOf.get {cs : List Col} {kvs : List (Key × V)} (h : KvOf K H cs kvs) (nd : (cs.map (·.1)).Nodup) {n : S} {k : Kd} (m : (n, k) ∈ cs) : ∃ u, valV kvs (.inr n) = some u ∧ Dp K H u (kdD k) := by
  induction h with
  | nil => cases m
  | cons d r ih =>
    rename_i c u cs kvs
    rw [List.map_cons, List.nodup_cons] at nd
    rcases List.mem_cons.mp m with e | m'
    · subst e
      exact ⟨u, valV_pos rfl, d⟩
    · obtain ⟨u', e1, d1⟩ := ih nd.2 m'
      have ne : ¬ ((.inr c.1 : Key)) = .inr n := fun e => by
        injection e with e
        exact nd.1 (e ▸ List.mem_map.mpr ⟨_, m', rfl⟩)
      refine ⟨u', ?_, d1⟩
      rw [valV_neg (p := ((.inr c.1 : Key), u)) ne]
      exact e1
theorem merge_new : ∀ (more acc : List (Key × V)), ((acc ++ more).map (·.1)).Nodup → mergeK acc more = acc ++ more
  | [], acc, _ => by rw [List.append_nil]; rfl
  | p :: r, acc, nd => by
    have e0 : acc ++ p :: r = (acc ++ [p]) ++ r := by simp
    have ih := merge_new r (acc ++ [p]) (by rw [← e0]; exact nd)
    have hp : putK acc p.1 p.2 = acc ++ [p] := by
      unfold putK
      rw [if_neg]
      intro e
      rw [List.any_eq_true] at e
      obtain ⟨x, hx, ex⟩ := e
      rw [List.map_append, List.nodup_append] at nd
      exact nd.2.2 x.1 (List.mem_map.mpr ⟨x, hx, rfl⟩) p.1 (by simp) (of_decide_eq_true ex)
    show mergeK (putK acc p.1 p.2) r = _
    rw [hp, ih, e0]
def DictAt (K : PySem.W.Frag) (H : Hp) (d : Addr) (cs : List Col) : Prop := ∃ kvs, H d = some (.dK kvs) ∧ KvOf K H cs kvs
theorem DictAt.same {d : Addr} {cs : List Col} (h : DictAt K H d cs) (s : Same H H') : DictAt K H' d cs := by
  obtain ⟨kvs, h1, h2⟩ := h
  exact ⟨kvs, s _ _ h1, h2.kp (Same.kp s)⟩
end Ind
set_option Elab.async false
set_option linter.all false
set_option maxRecDepth 100000
set_option maxHeartbeats 4000000
namespace Ind
open PySem PySem.Spec PyProof.Rows L2
end Ind
set_option Elab.async false
set_option linter.all false
set_option maxRecDepth 100000
set_option maxHeartbeats 4000000
namespace Ind
open PySem PySem.Spec PyProof.Rows L2
theorem fits {n : Nat} (h : n ≤ 1000) : n ≤ sizeLine := Nat.le_trans h (by decide)
structure Lw (K : PySem.W.Frag) (H : Hp) (t : Tp) (ca na : Addr) (cs : List Col) : Prop where
  tp : TapeAt H t
  cols : ColsAt K H (.ref ca) cs
  nm : NamesAt K H (.ref na) cs
theorem Lw.kp {K : PySem.W.Frag} {H H' : Hp} {t : Tp} {ca na : Addr} {cs : List Col} (h : Lw K H t ca na cs) (k : Kp H H') (T : TapeAt H' t) : Lw K H' t ca na cs := by
  obtain ⟨a, o, e, h1, h2⟩ := h.nm
  exact ⟨T, h.cols.kp k, ⟨a, o, e, k.frz _ _ _ h1, h2⟩⟩
structure Shw (K : PySem.W.Frag) (v : V) (d : PyData) : Prop where
  dp : ∀ H, Dp K H v d
  able : d.showable = true
  nod : d.hasDict = false
  dep : d.depth ≤ 60
  len : d.shown.length ≤ sizeLine
end Ind
set_option Elab.async false
set_option linter.all false
set_option maxRecDepth 100000
set_option maxHeartbeats 4000000
namespace Va
open PySem PySem.Spec PyProof.Rows L2 Ind
abbrev Tx := PySem.Str
inductive D where
  | non
  | bl (b : Bool)
  | int (i : Int)
  | str (x : Tx)
  | tup (xs : List D)
  | ptp (xs : List D)
  | lst (xs : List D)
  | dk (kvs : List (Key × D))
  | tape
  | ty (n : String)
def FzL (_ : PySem.W.Frag) (H : Hp) (a : Addr) (xs : List V) : Prop := ∃ o, H a = some (.frz o (.lst xs))
theorem FzL.sq {K : PySem.W.Frag} {H : Hp} {a : Addr} {xs : List V} (h : FzL K H a xs) : SqL K H a xs := by
  obtain ⟨o, h⟩ := h
  exact .inl (.inr ⟨o, h⟩)
mutual
inductive Rp (K : PySem.W.Frag) (tp : Option Tp) (H : Hp) : V → D → Prop
  | non : Rp K tp H .non .non
  | bl (b : Bool) : Rp K tp H (.bl b) (.bl b)
  | int (i : Int) : Rp K tp H (.int i) (.int i)
  | str (x : Tx) : Rp K tp H (.str x) (.str x)
  | tup {a : Addr} {xs : List V} {ds : List D} : SqT K H a xs → RpL K tp H xs ds → Rp K tp H (.ref a) (.tup ds)
  | ptp {a : Addr} {o : Obj} {xs : List V} {ds : List D} : H a = some (.frz o (.tup xs)) → o.dict = none → RpL K tp H xs ds → Rp K tp H (.ref a) (.ptp ds)
  | lst {a : Addr} {xs : List V} {ds : List D} : FzL K H a xs → RpL K tp H xs ds → Rp K tp H (.ref a) (.lst ds)
  | dk {a : Addr} {o : Obj} {kv : List (Key × V)} {ds : List (Key × D)} : H a = some (.frz o (.dK kv)) → RpK K tp H kv ds → Rp K tp H (.ref a) (.dk ds)
  | tape {t : Tp} : tp = some t → Rp K tp H (.ref t.a) .tape
  | ty (n : String) : Rp K tp H (.ty n) (.ty n)
inductive RpL (K : PySem.W.Frag) (tp : Option Tp) (H : Hp) : List V → List D → Prop
  | nil : RpL K tp H [] []
  | cons {v : V} {vs : List V} {d : D} {ds : List D} : Rp K tp H v d → RpL K tp H vs ds → RpL K tp H (v :: vs) (d :: ds)
inductive RpK (K : PySem.W.Frag) (tp : Option Tp) (H : Hp) : List (Key × V) → List (Key × D) → Prop
  | nil : RpK K tp H [] []
  | cons {k : Key} {v : V} {vs : List (Key × V)} {d : D} {ds : List (Key × D)} : Rp K tp H v d → RpK K tp H vs ds → RpK K tp H ((k, v) :: vs) ((k, d) :: ds)
end
structure Kq (H H' : Hp) : Prop where
  tup : ∀ b xs, H b = some (.tup xs) → H' b = some (.tup xs)
  frz : ∀ b o u, H b = some (.frz o u) → H' b = some (.frz o u)
theorem Kq.refl (H : Hp) : Kq H H := ⟨fun _ _ h => h, fun _ _ _ h => h⟩
theorem Kq.trans {H H1 H2 : Hp} (a : Kq H H1) (b : Kq H1 H2) : Kq H H2 := ⟨fun c x h => b.tup c x (a.tup c x h), fun c o x h => b.frz c o x (a.frz c o x h)⟩
theorem Kq.same {H H' : Hp} (s : Same H H') : Kq H H' := ⟨fun c x h => s _ _ h, fun c o x h => s _ _ h⟩
theorem Kq.sqT {K : PySem.W.Frag} {H H' : Hp} {a : Addr} {xs : List V} (k : Kq H H') (h : SqT K H a xs) : SqT K H' a xs := by
  rcases h with (h | ⟨o, h⟩) | h
  · exact .inl (.inl (k.tup _ _ h))
  · exact .inl (.inr ⟨o, k.frz _ _ _ h⟩)
  · exact .inr h
theorem Kq.fzL {K : PySem.W.Frag} {H H' : Hp} {a : Addr} {xs : List V} (k : Kq H H') (h : FzL K H a xs) : FzL K H' a xs := by
  obtain ⟨o, h⟩ := h
  exact ⟨o, k.frz _ _ _ h⟩
theorem Kq.upd {H : Hp} {l : Addr} {u o : HO} (h : H l = some u) (mu : Mut (some u)) : Kq H (upd H l o) := by
  refine ⟨fun c x e => ?_, fun c q x e => ?_⟩ <;> (rw [upd_ne (ne_of e h (by intro z; subst z; exact mu))]; exact e)
theorem Kq.new {H : Hp} {l : Addr} {o : HO} (h : H l = none) : Kq H (L2.upd H l o) := Kq.same (same_upd h)
section
variable {K : PySem.W.Frag} {tp : Option Tp} {H H' : Hp}
mutual
theorem Rp.kq (k : Kq H H') : ∀ (d : D) (v : V), Rp K tp H v d → Rp K tp H' v d
  | .non, _, h => by cases h; exact .non
  | .bl _, _, h => by cases h; exact .bl _
  | .int _, _, h => by cases h; exact .int _
  | .str _, _, h => by cases h; exact .str _
  | .tup ds, _, h => by
    cases h with
    | tup hs ha => exact .tup (k.sqT hs) (RpL.kq k ds _ ha)
  | .ptp ds, _, h => by
    cases h with
    | ptp hs nd ha => exact .ptp (k.frz _ _ _ hs) nd (RpL.kq k ds _ ha)
  | .lst ds, _, h => by
    cases h with
    | lst hs ha => exact .lst (k.fzL hs) (RpL.kq k ds _ ha)
  | .dk ds, _, h => by
    cases h with
    | dk hs ha => exact .dk (k.frz _ _ _ hs) (RpK.kq k ds _ ha)
  | .tape, _, h => by
    cases h with
    | tape e => exact .tape e
  | .ty _, _, h => by cases h; exact .ty _
theorem RpL.kq (k : Kq H H') : ∀ (ds : List D) (vs : List V), RpL K tp H vs ds → RpL K tp H' vs ds
  | [], _, h => by cases h; exact .nil
  | d :: ds, _, h => by
    cases h with
    | cons h1 h2 => exact .cons (Rp.kq k d _ h1) (RpL.kq k ds _ h2)
theorem RpK.kq (k : Kq H H') : ∀ (ds : List (Key × D)) (vs : List (Key × V)), RpK K tp H vs ds → RpK K tp H' vs ds
  | [], _, h => by cases h; exact .nil
  | (x, d) :: ds, _, h => by
    cases h with
    | cons h1 h2 => exact .cons (Rp.kq k d _ h1) (RpK.kq k ds _ h2)
end
theorem RpL.len : ∀ {ds : List D} {vs : List V}, RpL K tp H vs ds → vs.length = ds.length
  | [], _, h => by cases h; rfl
  | d :: ds, _, h => by
    cases h with
    | cons _ h2 => rw [List.length_cons, List.length_cons, RpL.len h2]
theorem RpL.get : ∀ {ds : List D} {vs : List V} {i : Nat} {d : D}, RpL K tp H vs ds → ds[i]? = some d → ∃ v, vs[i]? = some v ∧ Rp K tp H v d
  | [], _, _, _, _, e => by simp at e
  | d :: ds, _, 0, _, h, e => by
    cases h with
    | cons h1 _ =>
      simp only [List.getElem?_cons_zero, Option.some.injEq] at e
      subst e
      exact ⟨_, rfl, h1⟩
  | d :: ds, _, i + 1, _, h, e => by
    cases h with
    | cons _ h2 =>
      obtain ⟨v, q, r⟩ := RpL.get h2 (show ds[i]? = some _ by simpa using e)
      exact ⟨v, by simpa using q, r⟩
theorem RpL.app : ∀ {ds es : List D} {vs ws : List V}, RpL K tp H vs ds → RpL K tp H ws es → RpL K tp H (vs ++ ws) (ds ++ es)
  | [], _, _, _, h, g => by cases h; exact g
  | d :: ds, _, _, _, h, g => by
    cases h with
    | cons h1 h2 => exact .cons h1 (RpL.app h2 g)
theorem RpL.drop : ∀ {vs : List V} {ds : List D} (k : Nat), RpL K tp H vs ds → RpL K tp H (vs.drop k) (ds.drop k)
  | _, _, 0, h => h
  | _, _, _ + 1, .nil => .nil
  | _, _, k + 1, .cons _ t => RpL.drop k t
theorem RpL.take : ∀ {vs : List V} {ds : List D} (k : Nat), RpL K tp H vs ds → RpL K tp H (vs.take k) (ds.take k)
  | _, _, 0, _ => .nil
  | _, _, _ + 1, .nil => .nil
  | _, _, k + 1, .cons h t => .cons h (RpL.take k t)
theorem RpL.set {v : V} {d : D} (r : Rp K tp H v d) : ∀ {vs : List V} {ds : List D} (k : Nat), RpL K tp H vs ds → RpL K tp H (vs.set k v) (ds.set k d)
  | _, _, _, .nil => .nil
  | _, _, 0, .cons _ t => .cons r t
  | _, _, k + 1, .cons h t => .cons h (RpL.set r k t)
theorem RpL.rev {vs : List V} {ds : List D} (h : RpL K tp H vs ds) : RpL K tp H vs.reverse ds.reverse := by
  induction ds generalizing vs with
  | nil => cases h; exact .nil
  | cons d ds ih =>
    cases h with
    | cons h1 h2 =>
      rw [List.reverse_cons, List.reverse_cons]
      exact (ih h2).app (.cons h1 .nil)
theorem Rp.tup_inv {v : V} {ds : List D} (h : Rp K tp H v (.tup ds)) : ∃ a xs, v = .ref a ∧ SqT K H a xs ∧ RpL K tp H xs ds := by
  cases h with
  | tup hs ha => exact ⟨_, _, rfl, hs, ha⟩
theorem Rp.ptp_inv {v : V} {ds : List D} (h : Rp K tp H v (.ptp ds)) : ∃ a o xs, v = .ref a ∧ H a = some (.frz o (.tup xs)) ∧ o.dict = none ∧ RpL K tp H xs ds := by
  cases h with
  | ptp hs nd ha => exact ⟨_, _, _, rfl, hs, nd, ha⟩
def D.un : D → D
  | .ptp ds => .tup ds
  | d => d
theorem Rp.un {v : V} {d : D} (h : Rp K tp H v d) : Rp K tp H v d.un := by
  cases h with
  | ptp hs nd ha => exact .tup (.inl (.inr ⟨_, hs⟩)) ha
  | non => exact .non
  | bl b => exact .bl b
  | int i => exact .int i
  | str x => exact .str x
  | tup hs ha => exact .tup hs ha
  | lst hs ha => exact .lst hs ha
  | dk hs ha => exact .dk hs ha
  | tape e => exact .tape e
  | ty n => exact .ty n
theorem Rp.lst_inv {v : V} {ds : List D} (h : Rp K tp H v (.lst ds)) : ∃ a xs, v = .ref a ∧ FzL K H a xs ∧ RpL K tp H xs ds := by
  cases h with
  | lst hs ha => exact ⟨_, _, rfl, hs, ha⟩
theorem Rp.dk_inv {v : V} {ds : List (Key × D)} (h : Rp K tp H v (.dk ds)) : ∃ a o kv, v = .ref a ∧ H a = some (.frz o (.dK kv)) ∧ RpK K tp H kv ds := by
  cases h with
  | dk hs ha => exact ⟨_, _, _, rfl, hs, ha⟩
theorem Rp.int_inv {v : V} {i : Int} (h : Rp K tp H v (.int i)) : v = .int i := by cases h; rfl
theorem Rp.str_inv {v : V} {x : Tx} (h : Rp K tp H v (.str x)) : v = .str x := by cases h; rfl
theorem Rp.bl_inv {v : V} {b : Bool} (h : Rp K tp H v (.bl b)) : v = .bl b := by cases h; rfl
theorem Rp.tape_inv {v : V} (h : Rp K tp H v .tape) : ∃ t, tp = some t ∧ v = .ref t.a := by
  cases h with
  | tape e => exact ⟨_, e, rfl⟩
theorem RpK.val : ∀ {ds : List (Key × D)} {vs : List (Key × V)} {k : Key}, RpK K tp H vs ds → match (ds.find? fun p => decide (p.1 = k)) with
    | some p => ∃ v, valV vs k = some v ∧ Rp K tp H v p.2
    | none => valV vs k = none
  | [], _, _, h => by cases h; rfl
  | (x, d) :: ds, _, k, h => by
    cases h with
    | @cons _ v vs _ _ h1 h2 =>
      by_cases e : x = k
      · rw [List.find?_cons_of_pos (by simp [e])]
        exact ⟨v, valV_pos e, h1⟩
      · rw [List.find?_cons_of_neg (by simp [e])]
        have ih := RpK.val (k := k) h2
        rw [valV_neg (p := (x, v)) (show ¬ (x, v).1 = k from e)]
        exact ih
theorem RpK.keys : ∀ {ds : List (Key × D)} {vs : List (Key × V)}, RpK K tp H vs ds → vs.map (·.1) = ds.map (·.1)
  | [], _, h => by cases h; rfl
  | (x, d) :: ds, _, h => by
    cases h with
    | cons h1 h2 => simp [RpK.keys h2]
theorem RpK.app : ∀ {ds es : List (Key × D)} {vs ws : List (Key × V)}, RpK K tp H vs ds → RpK K tp H ws es → RpK K tp H (vs ++ ws) (ds ++ es)
  | [], _, _, _, h, g => by cases h; exact g
  | (x, d) :: ds, _, _, _, h, g => by
    cases h with
    | cons h1 h2 => exact .cons h1 (RpK.app h2 g)
end
structure Stb where
  P : PySem.W.Frag → Option Tp → Hp → V → Prop
  st : ∀ (K : PySem.W.Frag) (tp : Option Tp) (H H' : Hp) (v : V), Kq H H' → P K tp H v → P K tp H' v
inductive SV where
  | no
  | v (d : D)
  | ol (ds : List D)
  | od (io : Bool) (kvs : List (Key × D))
  | ex (a : Addr) (pl : Option (Addr × Tx × D))
  | q (b : Stb)
structure En where
  l : List SV
  c : Nat
def En.set (E : En) (i : Nat) (s : SV) : En := ⟨E.l.set i s, E.c⟩
def Few (tp : Option Tp) (c : Nat) (H : Hp) : Prop := ∀ t xs, tp = some t → H t.l = some (.lst xs) → xs.length + c ≤ 1000000
def SV.own : SV → Bool
  | .ol _ => true
  | .od _ _ => true
  | _ => false
def TapeV (b : Bool) (H : Hp) (t : Tp) : Prop := ∃ (ns : List Int) (p n s : Int), H t.a = some (.lst [.ref t.l, .int p, .int n, .int s]) ∧ H t.l = some (.lst (ns.map V.int)) ∧ (b = true → p ≤ (ns.length : Int)) ∧ 0 ≤ p ∧ 0 ≤ n ∧ 0 ≤ s ∧ s < 2147483647
theorem TapeV.same {b : Bool} {H H' : Hp} {t : Tp} (h : TapeV b H t) (e : Same H H') : TapeV b H' t := by
  obtain ⟨ns, p, n, s, h1, h2, h3⟩ := h
  exact ⟨ns, p, n, s, e _ _ h1, e _ _ h2, h3⟩
theorem TapeV.upd {b : Bool} {H : Hp} {t : Tp} {p : Addr} {o : HO} (h : TapeV b H t) (e : Off t p) : TapeV b (L2.upd H p o) t := by
  obtain ⟨ns, q, n, s, h1, h2, h3⟩ := h
  exact ⟨ns, q, n, s, by rw [upd_ne e.a.symm]; exact h1, by rw [upd_ne e.l.symm]; exact h2, h3⟩
structure Gm where
  K : PySem.W.Frag
  b : Bool
  tp : Option Tp
  tabs : List Addr
  io : List Addr
  H0 : Hp
def Gm.sp (Γ : Gm) (b : Addr) : Prop := (∃ t, Γ.tp = some t ∧ (b = t.a ∨ b = t.l)) ∨ b ∈ Γ.tabs
structure Base (Γ : Gm) (H : Hp) : Prop where
  ext : ∀ b o, ¬ Γ.sp b → b ∉ Γ.io → Γ.H0 b = some o → H b = some o
  kq : Kq Γ.H0 H
  tape : ∀ t, Γ.tp = some t → TapeV Γ.b H t
  tabs : ∀ P ∈ Γ.tabs, GxR.TabG H P
structure Free (Γ : Gm) (a : Addr) : Prop where
  young : Γ.H0 a = none ∨ a ∈ Γ.io
  nsp : ¬ Γ.sp a
abbrev Gm.Rp (Γ : Gm) (H : Hp) (v : V) (d : D) : Prop := Va.Rp Γ.K Γ.tp H v d
abbrev Gm.RpL (Γ : Gm) (H : Hp) (v : List V) (d : List D) : Prop := Va.RpL Γ.K Γ.tp H v d
def RepS (Γ : Gm) (H : Hp) (o : Option V) : SV → Prop
  | .no => True
  | .v d => ∃ v, o = some v ∧ Γ.Rp H v d
  | .ol ds => ∃ a xs, o = some (.ref a) ∧ H a = some (.lst xs) ∧ Γ.RpL H xs ds ∧ Free Γ a
  | .od b kvs => ∃ a kv, o = some (.ref a) ∧ H a = some (.dK kv) ∧ RpK Γ.K Γ.tp H kv kvs ∧ Free Γ a ∧ (b = true → a ∈ Γ.io)
  | .ex a pl => o = some (.ref a) ∧ ∀ p, pl = some p → ∃ ob v, H p.1 = some (.frz ob (.xd [(p.2.1, v)])) ∧ Γ.Rp H v p.2.2
  | .q b => ∃ v, o = some v ∧ b.P Γ.K Γ.tp H v
structure Rep (Γ : Gm) (E : En) (σ : L2.St) (H : Hp) : Prop where
  base : Base Γ H
  len : E.l.length = σ.length
  few : Few Γ.tp E.c H
  sl : ∀ (i : Nat) (s : SV), E.l[i]? = some s → ∃ o, σ[i]? = some o ∧ RepS Γ H o s
  dis : ∀ (i j : Nat) (s t : SV) (a : Addr), E.l[i]? = some s → E.l[j]? = some t → s.own = true → t.own = true → σ[i]? = some (some (.ref a)) → σ[j]? = some (some (.ref a)) → i = j
def Lone (E : En) (σ : L2.St) (a : Addr) : Prop := ∀ (j : Nat) (s : SV), E.l[j]? = some s → s.own = true → σ[j]? ≠ some (some (.ref a))
section
variable {Γ : Gm} {E : En} {σ : L2.St} {H H' : Hp}
theorem RepS.own_at {o : Option V} {s : SV} (h : RepS Γ H o s) (e : s.own = true) : ∃ a u, o = some (.ref a) ∧ H a = some u ∧ Mut (some u) ∧ Free Γ a := by
  cases s with
  | no => cases e
  | v d => cases e
  | ol ds =>
    obtain ⟨a, xs, h1, h2, _, h3⟩ := h
    exact ⟨a, _, h1, h2, trivial, h3⟩
  | od b ds =>
    obtain ⟨a, xs, h1, h2, _, h3, _⟩ := h
    exact ⟨a, _, h1, h2, trivial, h3⟩
  | ex a pl => cases e
  | q b => cases e
theorem RepS.stay {o : Option V} {s : SV} (h : RepS Γ H o s) (k : Kq H H') (ow : ∀ a u, s.own = true → o = some (.ref a) → H a = some u → H' a = some u) : RepS Γ H' o s := by
  cases s with
  | no => trivial
  | v d =>
    obtain ⟨v, h1, h2⟩ := h
    exact ⟨v, h1, Rp.kq k _ _ h2⟩
  | ol ds =>
    obtain ⟨a, xs, h1, h2, h3, h4⟩ := h
    exact ⟨a, xs, h1, ow a _ rfl h1 h2, RpL.kq k _ _ h3, h4⟩
  | od b ds =>
    obtain ⟨a, xs, h1, h2, h3, h4⟩ := h
    exact ⟨a, xs, h1, ow a _ rfl h1 h2, RpK.kq k _ _ h3, h4⟩
  | ex a pl =>
    obtain ⟨h1, h2⟩ := h
    exact ⟨h1, fun p hp => by
      obtain ⟨ob, v, h3, h4⟩ := h2 p hp
      exact ⟨ob, v, k.frz _ _ _ h3, Rp.kq k _ _ h4⟩⟩
  | q b =>
    obtain ⟨v, h1, h2⟩ := h
    exact ⟨v, h1, b.st _ _ _ _ _ k h2⟩
theorem Base.same (b : Base Γ H) (s : Same H H') : Base Γ H' :=
  ⟨fun c o n1 n2 h => s _ _ (b.ext c o n1 n2 h), b.kq.trans (.same s), fun t e => (b.tape t e).same s, fun P hP => by
    obtain ⟨ps, h, k⟩ := b.tabs P hP
    exact ⟨ps, s _ _ h, k⟩⟩
theorem few_same {b : Bool} {tp : Option Tp} {c : Nat} (f : Few tp c H) (tape : ∀ t, tp = some t → TapeV b H t) (s : ∀ t, tp = some t → ∀ o, H t.l = some o → H' t.l = some o) : Few tp c H' := fun t xs e h => by
  obtain ⟨ns, p, n, z, h1, h2, _⟩ := tape t e
  have := s t e _ h2
  rw [h] at this
  cases this
  exact f t _ e h2
theorem Rep.same (r : Rep Γ E σ H) (s : Same H H') : Rep Γ E σ H' :=
  ⟨r.base.same s, r.len, few_same r.few r.base.tape fun t _ o h => s _ _ h, fun i x e => by
    obtain ⟨o, h1, h2⟩ := r.sl i x e
    exact ⟨o, h1, h2.stay (.same s) fun a u _ _ h => s _ _ h⟩, r.dis⟩
structure Ext (Γ : Gm) (c : Nat) (H H' : Hp) : Prop where
  ext : ∀ b o, ¬ Γ.sp b → H b = some o → H' b = some o
  tape : ∀ t, Γ.tp = some t → TapeV Γ.b H' t
  few : Few Γ.tp c H'
  tabs : ∀ P ∈ Γ.tabs, GxR.TabG H' P
theorem Base.sp_lst (b : Base Γ H) {a : Addr} (h : Γ.sp a) : (∃ xs, H a = some (.lst xs)) ∨ ∃ ps, H a = some (.tbl ps) := by
  rcases h with ⟨t, e, h⟩ | h
  · obtain ⟨ns, p, n, s, h1, h2, _⟩ := b.tape t e
    rcases h with rfl | rfl
    · exact .inl ⟨_, h1⟩
    · exact .inl ⟨_, h2⟩
  · obtain ⟨ps, h1, _⟩ := b.tabs a h
    exact .inr ⟨ps, h1⟩
theorem Ext.kq {c : Nat} (b : Base Γ H) (x : Ext Γ c H H') : Kq H H' := by
  refine ⟨fun c u h => x.ext _ _ ?_ h, fun c o u h => x.ext _ _ ?_ h⟩ <;>
  · intro z
    rcases b.sp_lst z with ⟨_, e⟩ | ⟨_, e⟩ <;> (rw [e] at h; cases h)
theorem Rep.call {c : Nat} (r : Rep Γ E σ H) (x : Ext Γ c H H') : Rep Γ ⟨E.l, c⟩ σ H' := by
  have k := x.kq r.base
  refine ⟨⟨fun c o n1 n2 h => x.ext _ _ n1 (r.base.ext c o n1 n2 h), r.base.kq.trans k, x.tape, x.tabs⟩, r.len, x.few, fun i s e => ?_, r.dis⟩
  obtain ⟨o, h1, h2⟩ := r.sl i s e
  refine ⟨o, h1, h2.stay k fun a u ow eo h => ?_⟩
  obtain ⟨b, _, e1, _, _, fr⟩ := h2.own_at ow
  rw [e1] at eo
  cases eo
  exact x.ext _ _ fr.nsp h
theorem Rep.fresh (r : Rep Γ E σ H) {p : Addr} (n : H p = none) : Free Γ p ∧ Lone E σ p := by
  refine ⟨⟨?_, fun z => ?_⟩, fun j s e ow eo => ?_⟩
  · cases h : Γ.H0 p with
    | none => exact .inl rfl
    | some o =>
      by_cases hio : p ∈ Γ.io
      · exact .inr hio
      · refine absurd (r.base.ext p o (fun z => ?_) hio h) (by rw [n]; intro z; cases z)
        rcases r.base.sp_lst z with ⟨_, e⟩ | ⟨_, e⟩ <;> (rw [n] at e; cases e)
  · rcases r.base.sp_lst z with ⟨_, e⟩ | ⟨_, e⟩ <;> (rw [n] at e; cases e)
  · obtain ⟨o, h1, h2⟩ := r.sl j s e
    obtain ⟨b, u, e1, e2, _⟩ := h2.own_at ow
    rw [h1, e1] at eo
    cases eo
    rw [n] at e2
    cases e2
theorem get_set {α : Type} {l : List α} {i j : Nat} {x y : α} (h : (l.set i x)[j]? = some y) : (i = j ∧ x = y ∧ i < l.length) ∨ (i ≠ j ∧ l[j]? = some y) := by
  by_cases e : i = j
  · subst e
    by_cases hi : i < l.length
    · rw [List.getElem?_set_self hi] at h
      cases h
      exact .inl ⟨rfl, rfl, hi⟩
    · rw [List.getElem?_eq_none (by simpa using hi)] at h
      cases h
  · rw [List.getElem?_set_ne e] at h
    exact .inr ⟨e, h⟩
theorem Rep.set (r : Rep Γ E σ H) (i : Nat) {v : V} {d : D} (h : Γ.Rp H v d) : Rep Γ (E.set i (.v d)) (σ.set i (some v)) H := by
  refine ⟨r.base, by simp [En.set, r.len], r.few, fun j s e => ?_, fun j k s t a e1 e2 o1 o2 h1 h2 => ?_⟩
  · rcases get_set e with ⟨rfl, rfl, hi⟩ | ⟨ne, e⟩
    · exact ⟨some v, List.getElem?_set_self (by rw [← r.len]; exact hi), v, rfl, h⟩
    · rw [List.getElem?_set_ne ne]
      exact r.sl j s e
  · rcases get_set e1 with ⟨_, rfl, _⟩ | ⟨n1, e1⟩
    · cases o1
    · rcases get_set e2 with ⟨_, rfl, _⟩ | ⟨n2, e2⟩
      · cases o2
      · rw [List.getElem?_set_ne n1] at h1
        rw [List.getElem?_set_ne n2] at h2
        exact r.dis j k s t a e1 e2 o1 o2 h1 h2
theorem Rep.setO (r : Rep Γ E σ H) (i : Nat) {p : Addr} {s : SV} (h : RepS Γ H (some (.ref p)) s) (lo : Lone E σ p) : Rep Γ (E.set i s) (σ.set i (some (.ref p))) H := by
  refine ⟨r.base, by simp [En.set, r.len], r.few, fun j s' e => ?_, fun j k s' t a e1 e2 o1 o2 h1 h2 => ?_⟩
  · rcases get_set e with ⟨rfl, rfl, hi⟩ | ⟨ne, e⟩
    · exact ⟨_, List.getElem?_set_self (by rw [← r.len]; exact hi), h⟩
    · rw [List.getElem?_set_ne ne]
      exact r.sl j s' e
  · rcases get_set e1 with ⟨rfl, rfl, hi⟩ | ⟨n1, e1⟩
    · rcases get_set e2 with ⟨rfl, _, _⟩ | ⟨n2, e2⟩
      · rfl
      · rw [List.getElem?_set_self (by rw [← r.len]; exact hi)] at h1
        rw [List.getElem?_set_ne n2] at h2
        cases h1
        exact absurd h2 (lo k t e2 o2)
    · rcases get_set e2 with ⟨rfl, rfl, hi⟩ | ⟨n2, e2⟩
      · rw [List.getElem?_set_self (by rw [← r.len]; exact hi)] at h2
        rw [List.getElem?_set_ne n1] at h1
        cases h2
        exact absurd h1 (lo j s' e1 o1)
      · rw [List.getElem?_set_ne n1] at h1
        rw [List.getElem?_set_ne n2] at h2
        exact r.dis j k s' t a e1 e2 o1 o2 h1 h2
theorem Rep.wr (r : Rep Γ E σ H) {i : Nat} {s s' : SV} {p : Addr} {u u' : HO} (e : E.l[i]? = some s) (ow : s.own = true) (eo : σ[i]? = some (some (.ref p))) (hp : H p = some u) (mu : Mut (some u))
    (h : RepS Γ (upd H p u') (some (.ref p)) s') : Rep Γ (E.set i s') σ (upd H p u') := by
  obtain ⟨o, h1, h2⟩ := r.sl i s e
  obtain ⟨b, u0, e1, e2, m0, fr⟩ := h2.own_at ow
  rw [h1] at eo
  cases eo
  cases e1
  rw [hp] at e2
  cases e2
  have hi := (List.getElem?_eq_some_iff.mp e).1
  have nsp : ∀ c, Γ.sp c → c ≠ p := fun c z q => fr.nsp (q ▸ z)
  refine ⟨⟨fun c o n1 n2 hc => ?_, r.base.kq.trans (Kq.upd hp mu), fun t et => ?_, fun P hP => ?_⟩, by simp [En.set, r.len], few_same r.few r.base.tape (fun t et o h => by rw [upd_ne (nsp t.l (.inl ⟨t, et, .inr rfl⟩))]; exact h), fun j s2 ej => ?_, fun j k s2 t a e1 e2 o1 o2 h3 h4 => ?_⟩
  · rw [upd_ne ?_]
    · exact r.base.ext c o n1 n2 hc
    · rintro rfl
      rcases fr.young with z | z
      · rw [z] at hc; cases hc
      · exact n2 z
  · have := r.base.tape t et
    refine this.upd ⟨?_, ?_⟩
    · exact fun q => nsp t.a (.inl ⟨t, et, .inl rfl⟩) q.symm
    · exact fun q => nsp t.l (.inl ⟨t, et, .inr rfl⟩) q.symm
  · obtain ⟨ps, h3, k⟩ := r.base.tabs P hP
    exact ⟨ps, by rw [upd_ne (nsp P (.inr hP))]; exact h3, k⟩
  · rcases get_set ej with ⟨rfl, rfl, _⟩ | ⟨ne, ej⟩
    · exact ⟨_, h1, h⟩
    · obtain ⟨o3, h3, h4⟩ := r.sl j s2 ej
      refine ⟨o3, h3, h4.stay (Kq.upd hp mu) fun a w ow2 eo2 ha => ?_⟩
      rw [upd_ne ?_]
      · exact ha
      · rintro rfl
        rw [eo2] at h3
        exact ne (r.dis i j s s2 _ e ej ow ow2 h1 h3)
  · have own : ∀ (j : Nat) (s3 : SV), (E.set i s').l[j]? = some s3 → s3.own = true → ∃ s4, E.l[j]? = some s4 ∧ s4.own = true := fun j s3 e3 o3 => by
      rcases get_set e3 with ⟨rfl, rfl, _⟩ | ⟨ne, e3⟩
      · exact ⟨s, e, ow⟩
      · exact ⟨s3, e3, o3⟩
    obtain ⟨s5, e5, o5⟩ := own j s2 e1 o1
    obtain ⟨s6, e6, o6⟩ := own k t e2 o2
    exact r.dis j k s5 s6 a e5 e6 o5 o6 h3 h4
end
end Va
set_option Elab.async false
set_option linter.all false
set_option maxRecDepth 100000
set_option maxHeartbeats 4000000
namespace Va
open PySem PySem.Spec PyProof.Rows L2 Ind
structure Sg where
  K : PySem.W.Frag
  b : Bool
  tabs : List Addr
structure Gm.Ok (Γ : Gm) (S : Sg) : Prop where
  k : Γ.K = S.K
  b : Γ.b = S.b
  t : Γ.tabs = S.tabs
inductive RV where
  | v (d : D)
  | fl (ds : List D)
  | fd (kvs : List (Key × D))
def RV.d : RV → D
  | .v d => d
  | .fl ds => .lst ds
  | .fd kvs => .dk kvs
def RV.sv : RV → SV
  | .v d => .v d
  | .fl ds => .ol ds
  | .fd kvs => .od false kvs
def RepR (Γ : Gm) (E : En) (σ : L2.St) (H : Hp) (v : V) : RV → Prop
  | .v d => Γ.Rp H v d
  | .fl ds => ∃ a, v = .ref a ∧ RepS Γ H (some (.ref a)) (.ol ds) ∧ Lone E σ a
  | .fd kvs => ∃ a, v = .ref a ∧ RepS Γ H (some (.ref a)) (.od false kvs) ∧ Lone E σ a
abbrev VT := En → (D → En → Prop) → Prop
abbrev FT := En → (RV → En → Prop) → Prop
abbrev VTT := En → (Bool → En → Prop) → Prop
abbrev VTA := En → (List D → En → Prop) → Prop
inductive RpW (Γ : Gm) (H : Hp) : V → D → Prop
  | v {v : V} {d : D} : Γ.Rp H v d → RpW Γ H v d
  | l {a : Addr} {xs : List V} {ds : List D} : H a = some (.lst xs) → Γ.RpL H xs ds → RpW Γ H (.ref a) (.lst ds)
  | k {a : Addr} {kv : List (Key × V)} {ds : List (Key × D)} : H a = some (.dK kv) → RpK Γ.K Γ.tp H kv ds → RpW Γ H (.ref a) (.dk ds)
def liftV (S : Sg) (t : VT) : TE := fun σ H Q => ∃ (Γ : Gm) (E : En) (Q0 : D → En → Prop), Γ.Ok S ∧ Rep Γ E σ H ∧ t E Q0 ∧ ∀ d E', Q0 d E' → ∀ v H', Kq H H' → Rep Γ E' σ H' → Γ.Rp H' v d → Q v H'
def liftB (S : Sg) (t : VT) : TE := fun σ H Q => ∃ (Γ : Gm) (E : En) (Q0 : D → En → Prop), Γ.Ok S ∧ Rep Γ E σ H ∧ t E Q0 ∧ ∀ d E', Q0 d E' → ∀ v H', Kq H H' → Rep Γ E' σ H' → RpW Γ H' v d → Q v H'
def liftF (S : Sg) (t : FT) : TE := fun σ H Q => ∃ (Γ : Gm) (E : En) (Q0 : RV → En → Prop), Γ.Ok S ∧ Rep Γ E σ H ∧ t E Q0 ∧ ∀ r E', Q0 r E' → ∀ v H', Kq H H' → Rep Γ E' σ H' → RepR Γ E' σ H' v r → Q v H'
def liftT (S : Sg) (t : VTT) : TT := fun σ H Q => ∃ (Γ : Gm) (E : En) (Q0 : Bool → En → Prop), Γ.Ok S ∧ Rep Γ E σ H ∧ t E Q0 ∧ ∀ b E', Q0 b E' → ∀ H', Kq H H' → Rep Γ E' σ H' → Q b H'
def liftA (S : Sg) (t : VTA) : TA := fun σ H Q => ∃ (Γ : Gm) (E : En) (Q0 : List D → En → Prop), Γ.Ok S ∧ Rep Γ E σ H ∧ t E Q0 ∧ ∀ ds E', Q0 ds E' → ∀ vs H', Kq H H' → Rep Γ E' σ H' → Γ.RpL H' vs ds → Q vs H'
abbrev VE (S : Sg) (X : Cx) (e : Expr) (t : VT) : Prop := PE X e (liftV S t)
abbrev BE (S : Sg) (X : Cx) (e : Expr) (t : VT) : Prop := PE X e (liftB S t)
abbrev FE (S : Sg) (X : Cx) (e : Expr) (t : FT) : Prop := PE X e (liftF S t)
abbrev VB (S : Sg) (X : Cx) (e : Expr) (t : VTT) : Prop := PT X e (liftT S t)
abbrev VA (S : Sg) (X : Cx) (es : List Expr) (t : VTA) : Prop := PA X es (liftA S t)
section
variable {X : Cx} {S : Sg} {e a b : Expr}
theorem pe_weak {t t' : TE} (h : PE X e t) (w : ∀ σ H Q, t' σ H Q → t σ H Q) : PE X e t' := ⟨fun pins s σ H Q I q => h.run pins s σ H Q I (w _ _ _ q)⟩
theorem pt_weak {t t' : TT} (h : PT X e t) (w : ∀ σ H Q, t' σ H Q → t σ H Q) : PT X e t' := ⟨fun pins s σ H Q I q => h.run pins s σ H Q I (w _ _ _ q)⟩
theorem pa_weak {es : List Expr} {t t' : TA} (h : PA X es t) (w : ∀ σ H Q, t' σ H Q → t σ H Q) : PA X es t' := ⟨fun pos pins s σ H Q I q => h.run pos pins s σ H Q I (w _ _ _ q)⟩
theorem ps_weak {st : Stmt} {t t' : TS} (h : PS X st t) (w : ∀ D σ H, t' D σ H → t D σ H) : PS X st t' := ⟨fun pins s σ H D I q => h.run pins s σ H D I (w _ _ _ q)⟩
theorem pss_weak {st : List Stmt} {t t' : TS} (h : PSs X st t) (w : ∀ D σ H, t' D σ H → t D σ H) : PSs X st t' := ⟨fun pins s σ H D I q => h.run pins s σ H D I (w _ _ _ q)⟩
theorem pe_frz {t : TE} (h : PE X e t) : PE X e (fun σ H Q => t σ H fun v H' => Q v H' ∨ ∃ a u, v = .ref a ∧ H' a = some u ∧ Mut (some u) ∧ ∀ o, Q v (upd H' a (.frz o u))) := by
  refine ⟨fun pins s σ H Q I q => ?_⟩
  refine thn (h.run pins s σ H _ I q) fun v s1 ⟨x, H1, I1, r1, q1⟩ => ?_
  rcases q1 with q1 | ⟨a, u, rfl, hu, mu, q1⟩
  · exact ⟨x, H1, I1, r1, q1⟩
  · obtain ⟨o, I2⟩ := I1.lock hu mu
    exact ⟨_, _, I2, r1, q1 o⟩
theorem pe_lockS {t : TE} (i : Nat) (h : PE X e t) : PE X e (fun σ H Q => t σ H Q ∨ ∃ a u, σ[i]? = some (some (.ref a)) ∧ H a = some u ∧ Mut (some u) ∧ ∀ o, t σ (upd H a (.frz o u)) Q) := by
  refine ⟨fun pins s σ H Q I q => ?_⟩
  rcases q with q | ⟨a, u, _, hu, mu, q⟩
  · exact h.run pins s σ H Q I q
  · obtain ⟨o, I2⟩ := I.lock hu mu
    exact h.run pins s σ _ Q I2 (q o)
end
section
variable {Γ : Gm} {E : En} {σ : L2.St} {H H' : Hp}
theorem Rep.lone (r : Rep Γ E σ H) {p : Addr} {u u' : HO} (hp : H p = some u) (mu : Mut (some u)) (fr : Free Γ p) (lo : Lone E σ p) : Rep Γ E σ (upd H p u') := by
  have nsp : ∀ c, Γ.sp c → c ≠ p := fun c z q => fr.nsp (q ▸ z)
  refine ⟨⟨fun c o n1 n2 hc => ?_, r.base.kq.trans (Kq.upd hp mu), fun t et => ?_, fun P hP => ?_⟩, r.len, few_same r.few r.base.tape (fun t et o h => by rw [upd_ne (nsp t.l (.inl ⟨t, et, .inr rfl⟩))]; exact h), fun j s2 ej => ?_, r.dis⟩
  · rw [upd_ne ?_]
    · exact r.base.ext c o n1 n2 hc
    · rintro rfl
      rcases fr.young with z | z
      · rw [z] at hc; cases hc
      · exact n2 z
  · exact (r.base.tape t et).upd ⟨fun q => nsp t.a (.inl ⟨t, et, .inl rfl⟩) q.symm, fun q => nsp t.l (.inl ⟨t, et, .inr rfl⟩) q.symm⟩
  · obtain ⟨ps, h3, k⟩ := r.base.tabs P hP
    exact ⟨ps, by rw [upd_ne (nsp P (.inr hP))]; exact h3, k⟩
  · obtain ⟨o3, h3, h4⟩ := r.sl j s2 ej
    refine ⟨o3, h3, h4.stay (Kq.upd hp mu) fun a w ow2 eo2 ha => ?_⟩
    rw [upd_ne ?_]
    · exact ha
    · rintro rfl
      rw [eo2] at h3
      exact lo j s2 ej ow2 h3
def SV.fz : SV → SV
  | .ol ds => .v (.lst ds)
  | .od _ kvs => .v (.dk kvs)
  | s => s
theorem Rep.lock (r : Rep Γ E σ H) {i : Nat} {s : SV} {p : Addr} {u : HO} {o : Obj} (e : E.l[i]? = some s) (ow : s.own = true) (eo : σ[i]? = some (some (.ref p))) (hp : H p = some u) (mu : Mut (some u)) :
    Rep Γ (E.set i s.fz) σ (upd H p (.frz o u)) ∧ ∃ d, s.fz = .v d ∧ Γ.Rp (upd H p (.frz o u)) (.ref p) d := by
  obtain ⟨o1, h1, h2⟩ := r.sl i s e
  rw [eo] at h1
  cases h1
  have kq : Kq H (upd H p (.frz o u)) := Kq.upd hp mu
  have key : ∃ d, s.fz = .v d ∧ Γ.Rp (upd H p (.frz o u)) (.ref p) d := by
    cases s with
    | no => cases ow
    | v d => cases ow
    | ol ds =>
      obtain ⟨a, xs, h3, h4, h5, h6⟩ := h2
      cases h3
      rw [hp] at h4
      cases h4
      exact ⟨_, rfl, .lst ⟨o, upd_same⟩ (RpL.kq kq _ _ h5)⟩
    | od b ds =>
      obtain ⟨a, xs, h3, h4, h5, h6⟩ := h2
      cases h3
      rw [hp] at h4
      cases h4
      exact ⟨_, rfl, .dk (o := o) upd_same (RpK.kq kq _ _ h5)⟩
    | ex b pl => cases ow
    | q b => cases ow
  refine ⟨r.wr e ow eo hp mu ?_, key⟩
  obtain ⟨d, e1, e2⟩ := key
  rw [e1]
  exact ⟨_, rfl, e2⟩
theorem RepR.lock {v : V} {x : RV} (r : Rep Γ E σ H) (h : RepR Γ E σ H v x) : (Γ.Rp H v x.d) ∨ ∃ a u, v = .ref a ∧ H a = some u ∧ Mut (some u) ∧ ∀ o, Rep Γ E σ (upd H a (.frz o u)) ∧ Kq H (upd H a (.frz o u)) ∧ Γ.Rp (upd H a (.frz o u)) v x.d := by
  cases x with
  | v d => exact .inl h
  | fl ds =>
    obtain ⟨a, rfl, ⟨a', xs, h3, h4, h5, h6⟩, lo⟩ := h
    cases h3
    have kq : ∀ o, Kq H (upd H a (.frz o (.lst xs))) := fun o => Kq.upd h4 trivial
    exact .inr ⟨a, _, rfl, h4, trivial, fun o => ⟨r.lone h4 trivial h6 lo, kq o, .lst ⟨o, upd_same⟩ (RpL.kq (kq o) _ _ h5)⟩⟩
  | fd ds =>
    obtain ⟨a, rfl, ⟨a', xs, h3, h4, h5, h6, _⟩, lo⟩ := h
    cases h3
    have kq : ∀ o, Kq H (upd H a (.frz o (.dK xs))) := fun o => Kq.upd h4 trivial
    exact .inr ⟨a, _, rfl, h4, trivial, fun o => ⟨r.lone h4 trivial h6 lo, kq o, .dk (o := o) upd_same (RpK.kq (kq o) _ _ h5)⟩⟩
theorem RepS.rpW {o : Option V} {s : SV} {d : D} (h : RepS Γ H o s) (e : s = .v d ∨ (s.own = true ∧ s.fz = .v d)) : ∃ v, o = some v ∧ RpW Γ H v d := by
  rcases e with rfl | ⟨ow, e⟩
  · obtain ⟨v, rfl, h⟩ := h
    exact ⟨v, rfl, .v h⟩
  · cases s with
    | no => cases ow
    | v d => cases ow
    | ol ds =>
      cases e
      obtain ⟨a, xs, rfl, h4, h5, h6⟩ := h
      exact ⟨_, rfl, .l h4 h5⟩
    | od b ds =>
      cases e
      obtain ⟨a, xs, rfl, h4, h5, h6⟩ := h
      exact ⟨_, rfl, .k h4 h5⟩
    | ex b pl => cases ow
    | q b => cases ow
end
section
variable {X : Cx} {S : Sg} {e a b : Expr}
def pkD : SV → Option D
  | .no => none
  | .v d => some d
  | .ol ds => some (.lst ds)
  | .od _ kvs => some (.dk kvs)
  | .ex _ _ => none
  | .q _ => none
def peek (E : En) (i : Nat) : Option D := (E.l[i]?).bind pkD
def withD (o : Option D) (Q : D → Prop) : Prop := match o with
  | some d => Q d
  | none => False
def withP (o : Option D) (Q : D → Prop) : Prop := match o with
  | some d => Q d
  | none => False
def vName (i : Nat) : VT := fun E Q => match E.l[i]? with
  | some (.v d) => Q d E
  | some (.ol ds) => Q (.lst ds) (E.set i (.v (.lst ds)))
  | some (.od _ kvs) => Q (.dk kvs) (E.set i (.v (.dk kvs)))
  | _ => False
def bName (i : Nat) : VT := fun E Q => withP (peek E i) fun d => Q d E
theorem peek_at {Γ : Gm} {E : En} {σ : L2.St} {H : Hp} {i : Nat} {d : D} (r : Rep Γ E σ H) (e : peek E i = some d) : ∃ v, σ[i]? = some (some v) ∧ RpW Γ H v d := by
  unfold peek at e
  cases h : E.l[i]? with
  | none => rw [h] at e; cases e
  | some s =>
    rw [h] at e
    obtain ⟨o, h1, h2⟩ := r.sl i s h
    obtain ⟨v, rfl, w⟩ := h2.rpW (d := d) (by
      cases s with
      | no => cases e
      | v d => cases e; exact .inl rfl
      | ol ds => cases e; exact .inr ⟨rfl, rfl⟩
      | od b ds => cases e; exact .inr ⟨rfl, rfl⟩
      | ex b pl => cases e
      | q b => cases e)
    exact ⟨v, h1, w⟩
theorem be_name {i : Nat} (h : PE X e (tVar i)) : BE S X e (bName i) := by
  refine pe_weak h ?_
  rintro σ H Q ⟨Γ, E, Q0, ok, r, ht, k⟩
  unfold bName withP at ht
  cases hp : peek E i with
  | none => rw [hp] at ht; exact ht.elim
  | some d =>
    rw [hp] at ht
    obtain ⟨v, h1, w⟩ := peek_at r hp
    exact ⟨v, h1, k d E ht v H (Kq.refl _) r w⟩
theorem ve_name {i : Nat} (h : PE X e (tVar i)) : VE S X e (vName i) := by
  refine pe_weak (pe_frz h) ?_
  rintro σ H Q ⟨Γ, E, Q0, ok, r, ht, k⟩
  unfold vName at ht
  cases hE : E.l[i]? with
  | none => rw [hE] at ht; exact ht.elim
  | some s =>
    rw [hE] at ht
    obtain ⟨o, h1, h2⟩ := r.sl i s hE
    have own : s.own = true → Q0 (match s.fz with | .v d => d | _ => .non) (E.set i s.fz) → tVar i σ H fun v H' => Q v H' ∨ ∃ a u, v = .ref a ∧ H' a = some u ∧ Mut (some u) ∧ ∀ o, Q v (upd H' a (.frz o u)) := by
      intro ow hq
      obtain ⟨p, u, rfl, hu, mu, fr⟩ := h2.own_at ow
      refine ⟨_, h1, .inr ⟨p, u, rfl, hu, mu, fun o => ?_⟩⟩
      obtain ⟨r2, d, e1, e2⟩ := r.lock (o := o) hE ow h1 hu mu
      rw [e1] at hq r2
      exact k d _ hq _ _ (Kq.upd hu mu) r2 e2
    cases s with
    | no => exact ht.elim
    | v d =>
      obtain ⟨v, rfl, hv⟩ := h2
      exact ⟨v, h1, .inl (k d E ht v H (Kq.refl _) r hv)⟩
    | ol ds => exact own rfl ht
    | od b kvs => exact own rfl ht
    | ex b pl => exact ht.elim
    | q b => exact ht.elim
def vC (d : D) : VT := fun E Q => Q d E
theorem ve_c {v : V} {d : D} (h : PE X e (tC v)) (r : ∀ Γ H, Gm.Rp Γ H v d) : VE S X e (vC d) := by
  refine pe_weak h ?_
  rintro σ H Q ⟨Γ, E, Q0, ok, rp, ht, k⟩
  exact k d E ht v H (Kq.refl _) rp (r Γ H)
theorem ve_int {i j pos} : VE S X (.Constant (.int i) j pos) (vC (.int i)) := ve_c pe_int fun _ _ => .int i
theorem ve_bl {b j pos} : VE S X (.Constant (.bool b) j pos) (vC (.bl b)) := ve_c pe_bl fun _ _ => .bl b
theorem ve_str {x j pos} : VE S X (.Constant (.str x) j pos) (vC (.str x)) := ve_c pe_str fun _ _ => .str x
def fz (t : FT) : VT := fun E Q => t E fun r E' => Q r.d E'
def ff (t : VT) : FT := fun E Q => t E fun d E' => Q (.v d) E'
theorem ve_of {t : FT} (h : FE S X e t) : VE S X e (fz t) := by
  refine pe_weak (pe_frz h) ?_
  rintro σ H Q ⟨Γ, E, Q0, ok, r, ht, k⟩
  refine ⟨Γ, E, _, ok, r, ht, fun x E' hq v H' kq r' hv => ?_⟩
  rcases hv.lock r' with h1 | ⟨p, u, rfl, hu, mu, h1⟩
  · exact .inl (k _ _ hq _ _ kq r' h1)
  · exact .inr ⟨p, u, rfl, hu, mu, fun o => k _ _ hq _ _ (kq.trans (h1 o).2.1) (h1 o).1 (h1 o).2.2⟩
theorem fe_of {t : VT} (h : VE S X e t) : FE S X e (ff t) := by
  refine pe_weak h ?_
  rintro σ H Q ⟨Γ, E, Q0, ok, r, ht, k⟩
  exact ⟨Γ, E, _, ok, r, ht, fun d E' hq v H' kq r' hv => k _ _ hq v H' kq r' hv⟩
theorem be_of {t : VT} (h : VE S X e t) : BE S X e t := by
  refine pe_weak h ?_
  rintro σ H Q ⟨Γ, E, Q0, ok, r, ht, k⟩
  exact ⟨Γ, E, _, ok, r, ht, fun d E' hq v H' kq r' hv => k _ _ hq v H' kq r' (.v hv)⟩
abbrev VO := D → D → (RV → Prop) → Prop
def RpN (Γ : Gm) (H H' : Hp) (v : V) : RV → Prop
  | .v d => Γ.Rp H' v d
  | .fl ds => ∃ a xs, v = .ref a ∧ H a = none ∧ H' a = some (.lst xs) ∧ Γ.RpL H' xs ds
  | .fd kvs => ∃ a kv, v = .ref a ∧ H a = none ∧ H' a = some (.dK kv) ∧ RpK Γ.K Γ.tp H' kv kvs
theorem RpN.rep {Γ : Gm} {E : En} {σ : L2.St} {H H' : Hp} {v : V} {x : RV} (r : Rep Γ E σ H) (s : Same H H') (h : RpN Γ H H' v x) : RepR Γ E σ H' v x := by
  cases x with
  | v d => exact h
  | fl ds =>
    obtain ⟨p, xs, rfl, n, h1, h2⟩ := h
    obtain ⟨f, l⟩ := r.fresh n
    exact ⟨p, rfl, ⟨p, xs, rfl, h1, h2, f⟩, l⟩
  | fd ds =>
    obtain ⟨p, xs, rfl, n, h1, h2⟩ := h
    obtain ⟨f, l⟩ := r.fresh n
    exact ⟨p, rfl, ⟨p, xs, rfl, h1, h2, f, fun z => by cases z⟩, l⟩
structure OpV (S : Sg) (X : Cx) (f : Value → Value → Sem Value) (g : VO) : Prop where
  ex : ∃ r : R2, OpR X f r ∧ ∀ (Γ : Gm) (H : Hp) (x y : V) (d e : D) (Q : VK) (Q0 : RV → Prop), Γ.K = S.K → RpW Γ H x d → RpW Γ H y e → g d e Q0 → (∀ z, Q0 z → ∀ v H', Same H H' → RpN Γ H H' v z → Q v H') → r x y H Q
def vOp (g : VO) (ta tb : VT) : FT := fun E Q => ta E fun d E1 => tb E1 fun e E2 => g d e fun z => Q z E2
theorem fe_op {op : Operator} {g : VO} {ta tb : VT} {pos : Pos} (ho : OpV S X (binaryOp op) g) (ha : VE S X a ta) (hb : BE S X b tb) : FE S X (.BinOp a op b pos) (vOp g ta tb) := by
  obtain ⟨r, h1, h2⟩ := ho.ex
  refine pe_weak (pe_op h1 ha hb) ?_
  rintro σ H Q ⟨Γ, E, Q0, ok, rp, ht, k⟩
  refine ⟨Γ, E, _, ok, rp, ht, fun d E1 hq x H1 kq1 rp1 hx => ?_⟩
  refine ⟨Γ, E1, _, ok, rp1, hq, fun e E2 hq2 y H2 kq2 rp2 hy => ?_⟩
  refine h2 Γ H2 x y d e _ _ ok.k (.v (Rp.kq kq2 _ _ hx)) hy hq2 fun z hz v H' sm hn => ?_
  exact k _ _ hz v H' ((kq1.trans kq2).trans (Kq.same sm)) (rp2.same sm) (hn.rep rp2 sm)
theorem fe_cmp {op : CmpOp} {g : VO} {ta tb : VT} {pos : Pos} (ho : OpV S X (compareOp op) g) (ha : VE S X a ta) (hb : BE S X b tb) (hm : behindInMarks op b = false) : FE S X (.Compare a [op] [b] pos) (vOp g ta tb) := by
  obtain ⟨r, h1, h2⟩ := ho.ex
  refine pe_weak (pe_cmpR h1 ha hb hm) ?_
  rintro σ H Q ⟨Γ, E, Q0, ok, rp, ht, k⟩
  refine ⟨Γ, E, _, ok, rp, ht, fun d E1 hq x H1 kq1 rp1 hx => ?_⟩
  refine ⟨Γ, E1, _, ok, rp1, hq, fun e E2 hq2 y H2 kq2 rp2 hy => ?_⟩
  refine h2 Γ H2 x y d e _ _ ok.k (.v (Rp.kq kq2 _ _ hx)) hy hq2 fun z hz v H' sm hn => ?_
  exact k _ _ hz v H' ((kq1.trans kq2).trans (Kq.same sm)) (rp2.same sm) (hn.rep rp2 sm)
def asB (d : D) (Q : Bool → Prop) : Prop := match d with
  | .bl b => Q b
  | _ => False
def vTest (t : VT) : VTT := fun E Q => t E fun d E' => asB d fun b => Q b E'
theorem asB_inv {d : D} {Q : Bool → Prop} (h : asB d Q) : ∃ b, d = .bl b ∧ Q b := by
  cases d with
  | bl b => exact ⟨b, rfl, h⟩
  | _ => exact h.elim
theorem vb_cmp {op : CmpOp} {g : VO} {ta tb : VT} {pos : Pos} (ho : OpV S X (compareOp op) g) (ha : VE S X a ta) (hb : BE S X b tb) (hm : behindInMarks op b = false) : VB S X (.Compare a [op] [b] pos) (vTest (fz (vOp g ta tb))) := by
  obtain ⟨r, h1, h2⟩ := ho.ex
  refine pt_weak (pt_cmpR h1 ha hb hm) ?_
  rintro σ H Q ⟨Γ, E, Q0, ok, rp, ht, k⟩
  refine ⟨Γ, E, _, ok, rp, ht, fun d E1 hq x H1 kq1 rp1 hx => ?_⟩
  refine ⟨Γ, E1, _, ok, rp1, hq, fun e E2 hq2 y H2 kq2 rp2 hy => ?_⟩
  refine h2 Γ H2 x y d e _ _ ok.k (.v (Rp.kq kq2 _ _ hx)) hy hq2 fun z hz v H' sm hn => ?_
  obtain ⟨b, e1, hb⟩ := asB_inv hz
  cases z with
  | v d =>
    cases e1
    cases hn
    exact ⟨b, rfl, k _ _ hb _ ((kq1.trans kq2).trans (Kq.same sm)) (rp2.same sm)⟩
  | fl ds => cases e1
  | fd ds => cases e1
def truD : D → Option Bool
  | .non => some false
  | .bl b => some b
  | .int i => some (i != 0)
  | .str x => if x.length ≤ sizeLine then some ((x.length : Int) != 0) else none
  | .tup xs => some (!xs.isEmpty)
  | .ptp _ => none
  | .lst xs => some (!xs.isEmpty)
  | .dk _ => none
  | .tape => none
  | .ty _ => none
def withB (o : Option Bool) (Q : Bool → Prop) : Prop := match o with
  | some d => Q d
  | none => False
def vTru (t : VT) : VTT := fun E Q => t E fun d E' => withB (truD d) fun b => Q b E'
theorem empty_len {α β : Type} {xs : List α} {ys : List β} (h : xs.length = ys.length) : xs.isEmpty = ys.isEmpty := by
  cases xs <;> cases ys <;> first | rfl | (simp at h)
theorem RpK.len {K : PySem.W.Frag} {tp : Option Tp} {H : Hp} {kv : List (Key × V)} {ds : List (Key × D)} (h : RpK K tp H kv ds) : kv.length = ds.length := by
  have := congrArg List.length h.keys
  simpa using this
theorem tru_of {Γ : Gm} {H : Hp} {v : V} {d : D} {b : Bool} (ok : Γ.K = X.K) (h : RpW Γ H v d) (e : truD d = some b) : TruV X.K v H b := by
  cases h with
  | l h1 h2 =>
    cases e
    exact .inl ⟨_, .of h1, by rw [empty_len h2.len]⟩
  | k h1 h2 => cases e
  | v h =>
    cases d with
    | non => cases h; cases e; exact rfl
    | bl b => cases h; cases e; exact rfl
    | int i => cases h; cases e; exact rfl
    | str x =>
      cases h
      have e : (if x.length ≤ sizeLine then some ((x.length : Int) != 0) else none) = some b := e
      by_cases hl : x.length ≤ sizeLine
      · rw [if_pos hl] at e; cases e; exact ⟨hl, rfl⟩
      · rw [if_neg hl] at e; cases e
    | tup ds =>
      obtain ⟨p, xs, rfl, h1, h2⟩ := h.tup_inv
      cases e
      exact .inr (.inl ⟨_, by rw [← ok]; exact h1, by rw [empty_len h2.len]⟩)
    | lst ds =>
      obtain ⟨p, xs, rfl, h1, h2⟩ := h.lst_inv
      cases e
      exact .inl ⟨_, by rw [← ok]; exact h1.sq, by rw [empty_len h2.len]⟩
    | dk ds =>
      cases e
    | ptp ds => cases e
    | tape => cases e
    | ty n => cases e
theorem withB_inv {d : Option Bool} {Q : Bool → Prop} (h : withB d Q) : ∃ b, d = some b ∧ Q b := by
  cases d with
  | none => exact h.elim
  | some b => exact ⟨b, rfl, h⟩
theorem vb_tru {t : VT} (hK : S.K = X.K) (h : BE S X e t) (he : ∀ whole, isTrue e X.env whole = (do let v ← whole; standAt e.pos; holding [v] (truthy v)) := by intro _; rfl) : VB S X e (vTru t) := by
  refine pt_weak (pt_truth h he) ?_
  rintro σ H Q ⟨Γ, E, Q0, ok, rp, ht, k⟩
  refine ⟨Γ, E, _, ok, rp, ht, fun d E1 hq x H1 kq1 rp1 hx => ?_⟩
  obtain ⟨b, e1, hb⟩ := withB_inv hq
  exact ⟨b, tru_of (ok.k.trans hK) hx e1, k _ _ hb _ kq1 rp1⟩
def vAnd (t u : VTT) : VTT := fun E Q => t E fun c E1 => (c = true → u E1 Q) ∧ (c = false → Q false E1)
def vOr (t u : VTT) : VTT := fun E Q => t E fun c E1 => (c = true → Q true E1) ∧ (c = false → u E1 Q)
def vNot (t : VTT) : VTT := fun E Q => t E fun c E1 => Q (!c) E1
abbrev VW (S : Sg) (X : Cx) (e : Expr) (t : VTT) : Prop := PW X e (liftT S t)
theorem pw_weak {t t' : TT} (h : PW X e t) (w : ∀ σ H Q, t' σ H Q → t σ H Q) : PW X e t' := ⟨fun wh pins s σ H Q I q => h.run wh pins s σ H Q I (w _ _ _ q)⟩
variable {rest : List Expr} {pos : Pos}
theorem vw_and1 {t : VTT} (ha : VB S X a t) : VW S X (.BoolOp .And [a] pos) t := pw_and1 ha
theorem vw_or1 {t : VTT} (ha : VB S X a t) : VW S X (.BoolOp .Or [a] pos) t := pw_or1 ha
theorem vw_and {t u : VTT} (ha : VB S X a t) (hb : VW S X (.BoolOp .And (b :: rest) pos) u) : VW S X (.BoolOp .And (a :: b :: rest) pos) (vAnd t u) := by
  refine pw_weak (pw_and ha hb) ?_
  rintro σ H Q ⟨Γ, E, Q0, ok, rp, ht, k⟩
  refine ⟨Γ, E, _, ok, rp, ht, fun c E1 hq H1 kq1 rp1 => ?_⟩
  cases c with
  | true =>
    refine iteT ?_
    exact ⟨Γ, E1, _, ok, rp1, hq.1 rfl, fun c E2 hq2 H2 kq2 rp2 => k _ _ hq2 _ (kq1.trans kq2) rp2⟩
  | false =>
    refine iteF ?_
    exact k _ _ (hq.2 rfl) _ kq1 rp1
theorem vw_or {t u : VTT} (ha : VB S X a t) (hb : VW S X (.BoolOp .Or (b :: rest) pos) u) : VW S X (.BoolOp .Or (a :: b :: rest) pos) (vOr t u) := by
  refine pw_weak (pw_or ha hb) ?_
  rintro σ H Q ⟨Γ, E, Q0, ok, rp, ht, k⟩
  refine ⟨Γ, E, _, ok, rp, ht, fun c E1 hq H1 kq1 rp1 => ?_⟩
  cases c with
  | true =>
    refine iteT ?_
    exact k _ _ (hq.1 rfl) _ kq1 rp1
  | false =>
    refine iteF ?_
    exact ⟨Γ, E1, _, ok, rp1, hq.2 rfl, fun c E2 hq2 H2 kq2 rp2 => k _ _ hq2 _ (kq1.trans kq2) rp2⟩
theorem vb_w {t : VTT} (h : VW S X e t) : VB S X e t := h.pt
theorem vb_not {t : VTT} (ha : VB S X a t) : VB S X (.UnaryOp .Not a pos) (vNot t) := by
  refine pt_weak (pt_not ha) ?_
  rintro σ H Q ⟨Γ, E, Q0, ok, rp, ht, k⟩
  exact ⟨Γ, E, _, ok, rp, ht, fun c E1 hq H1 kq1 rp1 => k _ _ hq _ kq1 rp1⟩
def vOrV (t u : VT) : VT := fun E Q => t E fun d E1 => asB d fun c => (c = true → Q (.bl true) E1) ∧ (c = false → u E1 Q)
def vNotV (t : VT) : VT := fun E Q => t E fun d E1 => asB d fun c => Q (.bl (!c)) E1
theorem ve_one {op} {t : VT} (h : VE S X a t) : VE S X (.BoolOp op [a] pos) t := pe_one h
theorem ve_or {t u : VT} (ha : VE S X a t) (hb : VE S X (.BoolOp .Or (b :: rest) pos) u) : VE S X (.BoolOp .Or (a :: b :: rest) pos) (vOrV t u) := by
  refine pe_weak (pe_or ha hb) ?_
  rintro σ H Q ⟨Γ, E, Q0, ok, rp, ht, k⟩
  refine ⟨Γ, E, _, ok, rp, ht, fun d E1 hq v H1 kq1 rp1 hv => ?_⟩
  obtain ⟨c, rfl, hc⟩ := asB_inv hq
  cases hv
  refine ⟨c, rfl, ?_⟩
  cases c with
  | false => exact iteF ⟨Γ, E1, _, ok, rp1, hc.2 rfl, fun c E2 hq2 v2 H2 kq2 rp2 hv2 => k _ _ hq2 _ _ (kq1.trans kq2) rp2 hv2⟩
  | true => exact iteT (k _ _ (hc.1 rfl) _ _ kq1 rp1 (.bl true))
theorem ve_not {t : VT} (ha : VE S X a t) : VE S X (.UnaryOp .Not a pos) (vNotV t) := by
  refine pe_weak (pe_not ha) ?_
  rintro σ H Q ⟨Γ, E, Q0, ok, rp, ht, k⟩
  refine ⟨Γ, E, _, ok, rp, ht, fun d E1 hq v H1 kq1 rp1 hv => ?_⟩
  obtain ⟨c, rfl, hc⟩ := asB_inv hq
  cases hv
  exact ⟨c, rfl, k _ _ hc _ _ kq1 rp1 (.bl _)⟩
def aNil : VTA := fun E Q => Q [] E
def aCons (t : VT) (u : VTA) : VTA := fun E Q => t E fun d E1 => u E1 fun ds E2 => Q (d :: ds) E2
variable {es : List Expr}
theorem va_nil : VA S X [] aNil := by
  refine pa_weak pa_nil ?_
  rintro σ H Q ⟨Γ, E, Q0, ok, rp, ht, k⟩
  exact k _ _ ht _ _ (Kq.refl _) rp .nil
theorem va_cons {t : VT} {u : VTA} (ha : VE S X e t) (hr : VA S X es u) (hs : starEach (e :: es) X.env = (false, eval e X.env) :: starEach es X.env := by rfl) : VA S X (e :: es) (aCons t u) := by
  refine pa_weak (pa_cons ha hr hs) ?_
  rintro σ H Q ⟨Γ, E, Q0, ok, rp, ht, k⟩
  refine ⟨Γ, E, _, ok, rp, ht, fun d E1 hq v H1 kq1 rp1 hv => ?_⟩
  refine ⟨Γ, E1, _, ok, rp1, hq, fun ds E2 hq2 vs H2 kq2 rp2 hvs => ?_⟩
  exact k _ _ hq2 _ _ (kq1.trans kq2) rp2 (.cons (Rp.kq kq2 _ _ hv) hvs)
def vTup (t : VTA) : VT := fun E Q => t E fun ds E1 => ds.length ≤ 1000 ∧ Q (.tup ds) E1
def vLst (t : VTA) : FT := fun E Q => t E fun ds E1 => ds.length ≤ 1000 ∧ Q (.fl ds) E1
theorem ve_tup {x1} {t : VTA} (h : VA S X es t) : VE S X (.Tuple es x1 pos) (vTup t) := by
  refine pe_weak (pe_tup h) ?_
  rintro σ H Q ⟨Γ, E, Q0, ok, rp, ht, k⟩
  refine ⟨Γ, E, _, ok, rp, ht, fun ds E1 hq vs H1 kq1 rp1 hvs => ⟨line (by rw [hvs.len]; exact hq.1), fun p np => ?_⟩⟩
  have sm := same_upd (o := .tup vs) np
  exact k _ _ hq.2 _ _ (kq1.trans (Kq.same sm)) (rp1.same sm) (.tup (.of upd_same) (RpL.kq (Kq.same sm) _ _ hvs))
theorem fe_lst {t : VTA} (h : VA S X es t) : FE S X (.List es pos) (vLst t) := by
  refine pe_weak (pe_lst h) ?_
  rintro σ H Q ⟨Γ, E, Q0, ok, rp, ht, k⟩
  refine ⟨Γ, E, _, ok, rp, ht, fun ds E1 hq vs H1 kq1 rp1 hvs => ⟨line (by rw [hvs.len]; exact hq.1), fun p np => ?_⟩⟩
  have sm := same_upd (o := .lst vs) np
  refine k _ _ hq.2 _ _ (kq1.trans (Kq.same sm)) (rp1.same sm) (RpN.rep (x := .fl ds) rp1 sm ⟨p, vs, rfl, np, upd_same, RpL.kq (Kq.same sm) _ _ hvs⟩)
end
end Va
set_option Elab.async false
set_option linter.all false
set_option maxRecDepth 100000
set_option maxHeartbeats 4000000
namespace Ind
open PySem PySem.Spec PyProof.Rows L2 IndG
theorem boot_all : bootBuiltins "all" = some (.builtin "all") := by first | rfl | decide | exact PyProof.Rows.Boot.«all»
structure FunC (K : PySem.W.Frag) (x qual : Str) (st : Stmt) (f : Addr) (fd : FuncData) (c : Addr) : Prop where
  ex : ∃ (oc : Value) (od : Option Addr) (kV doc pm : Value) (an : Option Addr) (ct : Value) (osl : Array (Option Value)),
    fd = PySem.W.fnOf x qual (defArgs st) (defBody st) (defScope st) .none kV doc pm an (.ref c) ct ∧ K.lookup f = some ⟨oc, od, .func fd, osl⟩ ∧ PySem.W.codeIn K (.ref c) qual = true
theorem FunC.okC {P : Program} {w : World} {K : PySem.W.Frag} {mg : Str → Option Value} {base : Heap} {x qual : Str} {st : Stmt} {f c : Addr} {fd : FuncData} {N ps : List Str} {k : Nat} {sp : Sp} (F : FunC K x qual st f fd c) (S : FnScope N ps (defScope st))
    (len : ∀ vs H Q E, sp vs H Q E → vs.length = ps.length)
    (body : ∀ (A : Around) (outer : List Env) (s : Shared) (H : Hp) (vs : List V) (Q : VK) (E : XK), Room k (A.deeper (envOfC qual (defScope st) s.heap.objs.size f (.ref c))) → sp vs H Q E →
      ∃ t, PSs (cxOf CX0 P w K mg base N qual (defScope st) f (.ref c) A outer s H E).nox (defBody st) t ∧ t { nx := fun _ H' => Q .non H', rt := Q } (start N vs) H) : FnOk P w K mg base CX0 (k + 1) f fd ps sp := by
  obtain ⟨oc, od, kV, doc, pm, an, ct, osl, rfl, lk, hcd⟩ := F.ex
  refine fn_of lk hcd S len fun A outer s H vs Q E hr h => ?_
  obtain ⟨t, ht, q⟩ := body A outer s H vs Q E hr h
  exact ⟨t, ht.nox, q⟩
structure Tb where
  name : S
  cols : List (S × Bool)
  key : PyData
  limit : Int
def cwD (c : S × Bool) : PyData := .tuple [.str c.1, .str (wordS c.2)]
def Pv : V → Prop
  | .int _ => True
  | .str _ => True
  | _ => False
def fitsB (v : V) (b : Bool) : Bool := match v with
  | .int i => !b && (decide (-1000000 ≤ i) && decide (i ≤ 1000000))
  | .str _ => b
  | _ => false
def rowFits (vs : List V) (cs : List (S × Bool)) : Bool := decide (vs.length = cs.length) && (vs.zip cs).all fun p => fitsB p.1 p.2.2
structure Mv (P : Addr) (H H' : Hp) : Prop where
  st : ∀ b o, b ≠ P → H b = some o → H' b = some o
  tab : GxR.TabG H' P
theorem Mv.kp {P : Addr} {H H' : Hp} (t : GxR.TabG H P) (m : Mv P H H') : Kp H H' := by
  obtain ⟨ps, hp, _⟩ := t
  refine ⟨fun c x h => m.st _ _ ?_ h, fun c o x h => m.st _ _ ?_ h⟩ <;> (intro e; rw [e, hp] at h; cases h)
theorem Mv.of {P : Addr} {H H' : Hp} (t : GxR.Tabbed P H H') : Mv P H H' := ⟨fun b o n h => by rw [t.2 b n]; exact h, t.1⟩
theorem Mv.refl {P : Addr} {H : Hp} (t : GxR.TabG H P) : Mv P H H := ⟨fun _ _ _ h => h, t⟩
theorem Mv.trans {P : Addr} {H H1 H2 : Hp} (a : Mv P H H1) (b : Mv P H1 H2) : Mv P H H2 := ⟨fun c o n h => b.st c o n (a.st c o n h), b.tab⟩
theorem Mv.new {P a : Addr} {H H' : Hp} {o : HO} (m : Mv P H H') (n : H' a = none) : Mv P H (L2.upd H' a o) := by
  refine ⟨fun b u nb h => ?_, ?_⟩
  · have e := m.st b u nb h
    rw [upd_ne (ne_of_none e n)]; exact e
  · obtain ⟨ps, hp, t⟩ := m.tab
    exact ⟨ps, by rw [upd_ne (ne_of_none hp n)]; exact hp, t⟩
def fitAt (vs : List V) (cs : List (S × Bool)) (j : Nat) : Bool := match (vs.zip cs)[j]? with
  | some p => fitsB p.1 p.2.2
  | none => true
theorem fit_all (vs : List V) (cs : List (S × Bool)) (h : vs.length = cs.length) : (List.range vs.length).all (fitAt vs cs) = rowFits vs cs := by
  unfold rowFits
  rw [decide_eq_true h, Bool.true_and]
  have lz : (vs.zip cs).length = vs.length := by rw [List.length_zip, ← h, Nat.min_self]
  rw [Bool.eq_iff_iff, List.all_eq_true, List.all_eq_true]
  constructor
  · intro a p hp
    obtain ⟨j, hj, e⟩ := List.getElem_of_mem hp
    have := a j (List.mem_range.mpr (by omega))
    unfold fitAt at this
    rw [List.getElem?_eq_getElem hj, e] at this
    exact this
  · intro a j hj
    have hj := List.mem_range.mp hj
    unfold fitAt
    rw [List.getElem?_eq_getElem (show j < (vs.zip cs).length by omega)]
    exact a _ (List.getElem_mem _)
theorem fit_at {vs : List V} {cs : List (S × Bool)} {j : Nat} {v : V} {c : S × Bool} (h1 : vs[j]? = some v) (h2 : cs[j]? = some c) : fitAt vs cs j = fitsB v c.2 := by
  unfold fitAt
  rw [show (vs.zip cs)[j]? = some (v, c) from List.getElem?_zip_eq_some.mpr ⟨h1, h2⟩]
theorem cut_whole {xs : List V} {lo hi : Option Int} (h : HT.sIx xs.length 0 lo = 0 ∧ HT.sIx xs.length xs.length hi = xs.length) : cutV xs lo hi = xs := by
  unfold cutV
  rw [h.1, h.2, List.drop_zero, Nat.sub_zero, List.take_of_length_le (Nat.le_refl _)]
end Ind
set_option Elab.async false
set_option linter.all false
set_option maxRecDepth 100000
set_option maxHeartbeats 4000000
namespace Va
open PySem PySem.Spec PyProof.Rows L2 Ind
structure Ve where
  nx : En → Prop
  rt : D → En → Prop
  bk : En → Prop := fun _ => False
  ct : En → Prop := fun _ => False
abbrev VS := Ve → En → Prop
structure EndsOk (Γ : Gm) (V : Ve) (D : Ends) (H : Hp) : Prop where
  nx : ∀ E, V.nx E → ∀ σ' H', Kq H H' → Rep Γ E σ' H' → D.nx σ' H'
  rt : ∀ d E, V.rt d E → ∀ v σ' H', Kq H H' → Rep Γ E σ' H' → Γ.Rp H' v d → D.rt v H'
  bk : ∀ E, V.bk E → ∀ σ' H', Kq H H' → Rep Γ E σ' H' → D.bk σ' H'
  ct : ∀ E, V.ct E → ∀ σ' H', Kq H H' → Rep Γ E σ' H' → D.ct σ' H'
theorem EndsOk.kq {Γ : Gm} {V : Ve} {D : Ends} {H H' : Hp} (k : EndsOk Γ V D H) (q : Kq H H') : EndsOk Γ V D H' :=
  ⟨fun E h σ H2 q2 r => k.nx E h σ H2 (q.trans q2) r, fun d E h v σ H2 q2 r rv => k.rt d E h v σ H2 (q.trans q2) r rv, fun E h σ H2 q2 r => k.bk E h σ H2 (q.trans q2) r, fun E h σ H2 q2 r => k.ct E h σ H2 (q.trans q2) r⟩
def liftS (S : Sg) (t : VS) : TS := fun D σ H => ∃ (Γ : Gm) (E : En) (V : Ve), Γ.Ok S ∧ Rep Γ E σ H ∧ t V E ∧ EndsOk Γ V D H
abbrev VSt (S : Sg) (X : Cx) (st : Stmt) (t : VS) : Prop := PS X st (liftS S t)
abbrev VSs (S : Sg) (X : Cx) (st : List Stmt) (t : VS) : Prop := PSs X st (liftS S t)
def sNx : VS := fun V E => V.nx E
def sSeq (t u : VS) : VS := fun V E => t { V with nx := u V } E
section
variable {X : Cx} {S : Sg} {e : Expr} {st : Stmt} {rest : List Stmt} {pos : Pos}
theorem vss_nil : VSs S X [] sNx := by
  refine pss_weak pss_nil ?_
  rintro D σ H ⟨Γ, E, V, ok, r, h, k⟩
  exact k.nx E h σ H (Kq.refl _) r
theorem vss_one {t : VS} (h : VSt S X st t) : VSs S X [st] t := pss_one h
theorem vss_cons {t u : VS} (h : VSt S X st t) (g : VSs S X rest u) : VSs S X (st :: rest) (sSeq t u) := by
  refine pss_weak (pss_cons h g) ?_
  rintro D σ H ⟨Γ, E, V, ok, r, h, k⟩
  exact ⟨Γ, E, _, ok, r, h, fun E1 h1 σ1 H1 q1 r1 => ⟨Γ, E1, V, ok, r1, h1, k.kq q1⟩, k.rt, k.bk, k.ct⟩
def sRt (t : VT) : VS := fun V E => t E fun d E1 => V.rt d E1
theorem vs_ret {t : VT} (he : VE S X e t) : VSt S X (.Return (some e) pos) (sRt t) := by
  refine ps_weak (ps_ret he) ?_
  rintro D σ H ⟨Γ, E, V, ok, r, h, k⟩
  exact ⟨Γ, E, _, ok, r, h, fun d E1 h1 v H1 q1 r1 hv => k.rt d E1 h1 v σ H1 q1 r1 hv⟩
def sIf (c : VTT) (t u : VS) : VS := fun V E => c E fun b E1 => (b = true → t V E1) ∧ (b = false → u V E1)
theorem vs_if {c : Expr} {a b : List Stmt} {tc : VTT} {t u : VS} (hc : VB S X c tc) (ha : VSs S X a t) (hb : VSs S X b u) : VSt S X (.If c a b pos) (sIf tc t u) := by
  refine ps_weak (ps_if hc ha hb) ?_
  rintro D σ H ⟨Γ, E, V, ok, r, h, k⟩
  refine ⟨Γ, E, _, ok, r, h, fun b E1 h1 H1 q1 r1 => ?_⟩
  cases b with
  | true => exact iteT ⟨Γ, E1, V, ok, r1, h1.1 rfl, k.kq q1⟩
  | false => exact iteF ⟨Γ, E1, V, ok, r1, h1.2 rfl, k.kq q1⟩
def sSet (i : Nat) (t : FT) : VS := fun V E => t E fun r E1 => V.nx (E1.set i r.sv)
theorem RepR.set {Γ : Gm} {E : En} {σ : L2.St} {H : Hp} {v : V} {x : RV} (r : Rep Γ E σ H) (h : RepR Γ E σ H v x) (i : Nat) : Rep Γ (E.set i x.sv) (σ.set i (some v)) H := by
  cases x with
  | v d => exact r.set i h
  | fl ds =>
    obtain ⟨p, rfl, h1, h2⟩ := h
    exact r.setO i h1 h2
  | fd ds =>
    obtain ⟨p, rfl, h1, h2⟩ := h
    exact r.setO i h1 h2
theorem vs_set {i : Nat} {x : PySem.Str} {t : FT} {pos' : Pos} (hN : X.N.Nodup) (hi : X.N[i]? = some x) (hx : Loc X.env.scope x) (he : FE S X e t) (hs : swapsWith e (some (.Name x pos')) pos.line X.env = pure false := by rfl) (hf : X.fn x = true ∨ X.env.scope.names.lookup x = some .local := by first | exact .inl rfl | exact .inr rfl | assumption) :
    VSt S X (.Assign [.Name x pos'] e pos) (sSet i t) := by
  refine ps_weak (ps_set hN hi hx he hs hf) ?_
  rintro D σ H ⟨Γ, E, V, ok, r, h, k⟩
  exact ⟨Γ, E, _, ok, r, h, fun d E1 h1 v H1 q1 r1 hv => k.nx _ h1 _ H1 q1 (hv.set r1 i)⟩
abbrev VG := D → En → (En → Prop) → Prop
abbrev VGs := List D → En → (En → Prop) → Prop
structure Only (is : List Nat) (σ σ' : L2.St) : Prop where
  len : σ'.length = σ.length
  at_ : ∀ j, j ∉ is → σ'[j]? = σ[j]?
theorem Only.refl {is : List Nat} {σ : L2.St} : Only is σ σ := ⟨rfl, fun _ _ => rfl⟩
theorem Only.trans {is : List Nat} {σ σ1 σ2 : L2.St} (a : Only is σ σ1) (b : Only is σ1 σ2) : Only is σ σ2 := ⟨b.len.trans a.len, fun j h => (b.at_ j h).trans (a.at_ j h)⟩
theorem Only.mono {is js : List Nat} {σ σ' : L2.St} (a : Only is σ σ') (h : ∀ i ∈ is, i ∈ js) : Only js σ σ' := ⟨a.len, fun j hj => a.at_ j fun z => hj (h j z)⟩
def liftG (S : Sg) (is : List Nat) (g : VG) : TG := fun v σ H Q => ∃ (Γ : Gm) (E : En) (d : D) (Q0 : En → Prop), Γ.Ok S ∧ Rep Γ E σ H ∧ Γ.Rp H v d ∧ g d E Q0 ∧ ∀ E', Q0 E' → ∀ σ', Rep Γ E' σ' H → Only is σ σ' → Q σ' H
def liftGs (S : Sg) (is : List Nat) (g : VGs) : TGs := fun vs σ H Q => ∃ (Γ : Gm) (E : En) (ds : List D) (Q0 : En → Prop), Γ.Ok S ∧ Rep Γ E σ H ∧ Γ.RpL H vs ds ∧ g ds E Q0 ∧ ∀ E', Q0 E' → ∀ σ', Rep Γ E' σ' H → Only is σ σ' → Q σ' H
theorem pg_weak {t t' : TG} (h : PG X e t) (w : ∀ v σ H Q, t' v σ H Q → t v σ H Q) : PG X e t' := ⟨fun pins s σ H v u Q I r q => h.run pins s σ H v u Q I r (w _ _ _ _ q)⟩
theorem pgs_weak {es : List Expr} {t t' : TGs} (h : PGs X es t) (w : ∀ v σ H Q, t' v σ H Q → t v σ H Q) : PGs X es t' := ⟨fun pins s σ H v u Q I r q => h.run pins s σ H v u Q I r (w _ _ _ _ q)⟩
def gN (i : Nat) : VG := fun d E Q => Q (E.set i (.v d))
theorem vg_name {i : Nat} {x : PySem.Str} (is : List Nat) (hm : i ∈ is) (hN : X.N.Nodup) (hi : X.N[i]? = some x) (hx : Loc X.env.scope x) (hf : X.fn x = true ∨ X.env.scope.names.lookup x = some .local := by first | exact .inl rfl | exact .inr rfl | assumption) : PG X (.Name x pos) (liftG S is (gN i)) := by
  refine pg_weak (pg_name hN hi hx hf) ?_
  rintro v σ H Q ⟨Γ, E, d, Q0, ok, r, hv, hg, k⟩
  refine k _ hg _ (r.set i hv) ⟨by simp, fun j hj => ?_⟩
  rw [List.getElem?_set_ne]
  rintro rfl
  exact hj hm
def gsNil : VGs := fun ds E Q => match ds with
  | [] => Q E
  | _ => False
def gsCons (g : VG) (u : VGs) : VGs := fun ds E Q => match ds with
  | d :: r => g d E fun E1 => u r E1 Q
  | [] => False
theorem vgs_nil (is : List Nat) : PGs X [] (liftGs S is gsNil) := by
  refine pgs_weak pgs_nil ?_
  rintro v σ H Q ⟨Γ, E, ds, Q0, ok, r, hv, hg, k⟩
  cases ds with
  | nil => cases hv; exact ⟨rfl, k _ hg _ r .refl⟩
  | cons d ds => exact hg.elim
theorem vgs_cons {is : List Nat} {es : List Expr} {g : VG} {u : VGs} (h1 : PG X e (liftG S is g)) (h2 : PGs X es (liftGs S is u))
    (hs : (assignEach (e :: es) X.env).map (·.2) = assign e X.env :: (assignEach es X.env).map (·.2) := by rfl) : PGs X (e :: es) (liftGs S is (gsCons g u)) := by
  refine pgs_weak (pgs_cons h1 h2 hs) ?_
  rintro v σ H Q ⟨Γ, E, ds, Q0, ok, r, hv, hg, k⟩
  cases ds with
  | nil => exact hg.elim
  | cons d ds =>
    cases hv with
    | cons hv1 hv2 =>
      exact ⟨_, _, rfl, Γ, E, d, _, ok, r, hv1, hg, fun E1 q1 σ1 r1 o1 => ⟨Γ, E1, ds, _, ok, r1, hv2, q1, fun E2 q2 σ2 r2 o2 => k _ q2 _ r2 (o1.trans o2)⟩⟩
def gT (n : Nat) (u : VGs) : VG := fun d E Q => match d with
  | .tup ds => ds.length = n ∧ u ds E Q
  | _ => False
theorem vg_tup {is : List Nat} {es : List Expr} {k : Nat} {u : VGs} (n : Nat) (hK : S.K = X.K) (hc : X.calm = true) (h : PGs X es (liftGs S is u)) (hn : (assignEach es X.env).length = n) (hst : (assignEach es X.env).findIdx? (·.1) = none) : PG X (.Tuple es k pos) (liftG S is (gT n u)) := by
  refine pg_weak (pg_tup hc h hn hst) ?_
  rintro v σ H Q ⟨Γ, E, d, Q0, ok, r, hv, hg, k⟩
  cases d with
  | tup ds =>
    obtain ⟨a, xs, rfl, h1, h2⟩ := hv.tup_inv
    exact ⟨a, xs, rfl, by rw [← hK, ← ok.k]; exact h1, h2.len.trans hg.1, Γ, E, ds, _, ok, r, h2, hg.2, k⟩
  | _ => exact hg.elim
def sAsg (t : VT) (g : VG) : VS := fun V E => t E fun d E1 => g d E1 V.nx
theorem vs_asg {is : List Nat} {tg : Expr} {t : VT} {g : VG} (he : VE S X e t) (hg : PG X tg (liftG S is g)) (hs : swapsWithSole [tg] e pos.line X.env = pure false := by rfl) (hw : swappedStores [tg] e X.env = pure none := by rfl) (h1 : (assignEach [tg] X.env).map (·.2) = [assign tg X.env] := by rfl) : VSt S X (.Assign [tg] e pos) (sAsg t g) := by
  refine ps_weak (ps_asg he hg hs hw h1) ?_
  rintro D σ H ⟨Γ, E, V, ok, r, h, k⟩
  exact ⟨Γ, E, _, ok, r, h, fun d E1 h1 v H1 q1 r1 hv => ⟨Γ, E1, d, _, ok, r1, hv, h1, fun E2 q2 σ2 r2 _ => k.nx _ q2 _ H1 q1 r2⟩⟩
abbrev VI := En → (List D → En → Prop) → Prop
structure ItOk (Γ : Gm) (J : It) (ds : List D) (Hb : Hp) : Prop where
  go : ∀ i H, i < ds.length → Kq Hb H → J.go i H
  yld : ∀ i H x H', i < ds.length → Kq Hb H → J.yld i H x H' → ∃ d, ds[i]? = some d ∧ Γ.Rp H' x d ∧ Same H H'
  stop : ∀ H, Kq Hb H → J.stop ds.length H
def liftI (S : Sg) (t : VI) : TI := fun σ H R => ∃ (Γ : Gm) (E : En) (Q0 : List D → En → Prop), Γ.Ok S ∧ Rep Γ E σ H ∧ t E Q0 ∧ ∀ ds E', Q0 ds E' → ∀ J H', Kq H H' → Rep Γ E' σ H' → ItOk Γ J ds H' → R J H'
abbrev VIt (S : Sg) (X : Cx) (tg e : Expr) (t : VI) : Prop := PI X tg e (liftI S t)
theorem pi_weak {tg : Expr} {t t' : TI} (h : PI X tg e t) (w : ∀ σ H Q, t' σ H Q → t σ H Q) : PI X tg e t' := ⟨fun pins s σ H Q I q => h.run pins s σ H Q I (w _ _ _ q)⟩
theorem it_tup {Γ : Gm} {H : Hp} {a : Addr} {xs : List V} {ds : List D} (h : SqT Γ.K H a xs) (r : Γ.RpL H xs ds) : ItOk Γ (Itt Γ.K a) ds H := by
  refine ⟨fun i H1 hi q => ?_, fun i H1 x H2 hi q y => ?_, fun H1 q => ⟨xs, q.sqT h, by rw [r.len]; exact Nat.le_refl _⟩⟩
  · obtain ⟨v, e, _⟩ := r.get (List.getElem?_eq_getElem hi)
    exact ⟨xs, v, q.sqT h, e⟩
  · obtain ⟨rfl, y⟩ := y
    obtain ⟨v, e, rv⟩ := r.get (List.getElem?_eq_getElem hi)
    have := y xs (q.sqT h)
    rw [e] at this
    cases this
    exact ⟨_, List.getElem?_eq_getElem hi, Rp.kq q _ _ rv, fun _ _ z => z⟩
theorem it_lst {Γ : Gm} {H : Hp} {a : Addr} {xs : List V} {ds : List D} (h : FzL Γ.K H a xs) (r : Γ.RpL H xs ds) : ItOk Γ (Itl Γ.K a) ds H := by
  refine ⟨fun i H1 hi q => ?_, fun i H1 x H2 hi q y => ?_, fun H1 q => ⟨xs, (q.fzL h).sq, by rw [r.len]; exact Nat.le_refl _⟩⟩
  · obtain ⟨v, e, _⟩ := r.get (List.getElem?_eq_getElem hi)
    exact ⟨xs, v, (q.fzL h).sq, e⟩
  · obtain ⟨rfl, y⟩ := y
    obtain ⟨v, e, rv⟩ := r.get (List.getElem?_eq_getElem hi)
    have := y xs (q.fzL h).sq
    rw [e] at this
    cases this
    exact ⟨_, List.getElem?_eq_getElem hi, Rp.kq q _ _ rv, fun _ _ z => z⟩
def one (c : Nat) : D := .str ⟨#[c]⟩
def signs (x : Tx) : List D := x.cps.toList.map one
theorem it_str {Γ : Gm} {H : Hp} (x : Tx) : ItOk Γ (Its x) (signs x) H := by
  have sz : (signs x).length = x.cps.size := by unfold signs; rw [List.length_map, Array.length_toList]
  refine ⟨fun i H1 hi q => by rw [sz] at hi; exact hi, fun i H1 v H2 hi q y => ?_, fun H1 q => by rw [sz]; exact Nat.le_refl _⟩
  obtain ⟨rfl, c, ec, rfl⟩ := y
  refine ⟨one c, ?_, .str _, fun _ _ z => z⟩
  unfold signs
  rw [List.getElem?_map, Array.getElem?_toList, ec]
  rfl
def key : Key → D
  | .inl i => .int i
  | .inr x => .str x
theorem key_rp {Γ : Gm} {H : Hp} (k : Key) : Γ.Rp H (kV k) (key k) := by
  cases k with
  | inl i => exact .int i
  | inr x => exact .str x
theorem it_dk {Γ : Gm} {H : Hp} {a : Addr} {o : Obj} {kv : List (Key × V)} {ds : List (Key × D)} (h : H a = some (.frz o (.dK kv))) (r : RpK Γ.K Γ.tp H kv ds) : ItOk Γ (Itk a o kv) (ds.map fun p => key p.1) H := by
  have len : (ds.map fun p => key p.1).length = kv.length := by rw [List.length_map, r.len]
  refine ⟨fun i H1 hi q => ⟨q.frz _ _ _ h, by rw [← len]; exact hi⟩, fun i H1 x H2 hi q y => ?_, fun H1 q => ⟨q.frz _ _ _ h, by rw [len]; exact Nat.le_refl _⟩⟩
  obtain ⟨rfl, k, v, ek, rfl⟩ := y
  have e2 : (kv.map (·.1))[i]? = some k := by rw [List.getElem?_map, ek]; rfl
  rw [r.keys, List.getElem?_map] at e2
  refine ⟨key k, ?_, key_rp k, fun _ _ z => z⟩
  rw [List.getElem?_map]
  cases ed : ds[i]? with
  | none => rw [ed] at e2; cases e2
  | some p => rw [ed] at e2; cases e2; rfl
theorem pi_any {tg : Expr} {te : TE} (hl : PE X e te) : PI X tg e (fun σ H R => te σ H fun x H1 => (∃ a xs, x = .ref a ∧ SqL X.K H1 a xs ∧ R (Itl X.K a) H1) ∨ (∃ a xs, x = .ref a ∧ SqT X.K H1 a xs ∧ R (Itt X.K a) H1) ∨ (∃ z, x = .str z ∧ R (Its z) H1) ∨
    ∃ d o kvs, x = .ref d ∧ H1 d = some (.frz o (.dK kvs)) ∧ R (Itk d o kvs) H1) := by
  constructor
  intro pins s σ H R I h
  refine thn (hl.run pins s σ H _ I h) ?_
  rintro v s1 ⟨x, H1, I1, r1, ⟨p, xs, rfl, hq, q⟩ | ⟨p, xs, rfl, hq, q⟩ | ⟨z, rfl, q⟩ | ⟨p, o, kvs, rfl, hd, q⟩⟩
  · cases r1
    obtain ⟨its, rv, pl, hz⟩ := I1.list hq
    exact wpAny_pyIter_list pl.isList (pi_one (tk := s1.toks) I1 _ (turn_list p _) ⟨_, Heap.get?_push_size _ rfl, rfl, rfl⟩ q)
  · cases r1
    obtain ⟨its, rv, pl, hz⟩ := I1.tuple hq
    exact wpAny_pyIter_tuple (show s1.heap.IsTuple p its.toArray from pl) (pi_one (tk := s1.toks) I1 _ (turn_tuple p _) ⟨_, Heap.get?_push_size _ rfl, rfl, rfl⟩ q)
  · obtain ⟨t, rfl⟩ := r1
    by_cases ha : z.cps.all (· < 128) = true
    · exact wpAny_pyIter_ascii ha (pi_one (tk := s1.toks) I1 _ (turn_str _ z t "str_ascii_iterator" (.inl rfl)) ⟨_, Heap.get?_push_size _ rfl, rfl, rfl⟩ q)
    · exact wpAny_pyIter_wide (by simpa using ha) (pi_one (tk := s1.toks) I1 _ (turn_str _ z t "str_iterator" (.inr rfl)) ⟨_, Heap.get?_push_size _ rfl, rfl, rfl⟩ q)
  · cases (show v = Value.ref p from r1)
    obtain ⟨z1, z2, z3, es, ep, vs, hdt, hsz, kv, hm⟩ := I1.frzK hd
    refine iter_keys z1 z2 z3 hdt (pi_one (tk := s1.toks) I1 _ (turn_keys _ hdt) ⟨_, Heap.get?_push_size _ rfl, rfl, ?_⟩ q)
    rw [hsz] <;> rfl
def itD (d : D) (Q : List D → Prop) : Prop := match d with
  | .lst ds => Q ds
  | .tup ds => Q ds
  | .ptp ds => Q ds
  | .str x => Q (signs x)
  | .dk kvs => Q (kvs.map fun p => key p.1)
  | _ => False
def vIt (t : VT) : VI := fun E Q => t E fun d E1 => itD d fun ds => Q ds E1
theorem vi_any {tg : Expr} {t : VT} (hK : S.K = X.K) (h : VE S X e t) : VIt S X tg e (vIt t) := by
  refine pi_weak (pi_any h) ?_
  rintro σ H Q ⟨Γ, E, Q0, ok, rp, ht, k⟩
  refine ⟨Γ, E, _, ok, rp, ht, fun d E1 hq x H1 kq1 rp1 hx => ?_⟩
  have eK : X.K = Γ.K := (ok.k.trans hK).symm
  cases d with
  | lst ds =>
    obtain ⟨p, xs, rfl, h1, h2⟩ := hx.lst_inv
    exact .inl ⟨p, xs, rfl, by rw [eK]; exact h1.sq, k _ _ hq _ _ kq1 rp1 (by rw [eK]; exact it_lst h1 h2)⟩
  | tup ds =>
    obtain ⟨p, xs, rfl, h1, h2⟩ := hx.tup_inv
    exact .inr (.inl ⟨p, xs, rfl, by rw [eK]; exact h1, k _ _ hq _ _ kq1 rp1 (by rw [eK]; exact it_tup h1 h2)⟩)
  | ptp ds =>
    obtain ⟨p, o, xs, rfl, h1, _, h2⟩ := hx.ptp_inv
    have h1 : SqT Γ.K H1 p xs := .inl (.inr ⟨o, h1⟩)
    exact .inr (.inl ⟨p, xs, rfl, by rw [eK]; exact h1, k _ _ hq _ _ kq1 rp1 (by rw [eK]; exact it_tup h1 h2)⟩)
  | str z =>
    cases hx
    exact .inr (.inr (.inl ⟨z, rfl, k _ _ hq _ _ kq1 rp1 (it_str z)⟩))
  | dk ds =>
    obtain ⟨p, o, kv, rfl, h1, h2⟩ := hx.dk_inv
    exact .inr (.inr (.inr ⟨p, o, kv, rfl, h1, k _ _ hq _ _ kq1 rp1 (it_dk h1 h2)⟩))
  | _ => exact hq.elim
def rng (lo : Int) (n : Nat) : List D := (List.range n).map fun i => .int (lo + (i : Nat))
theorem it_rng {Γ : Gm} {H : Hp} (lo : Int) (n : Nat) : ItOk Γ (Itr lo n) (rng lo n) H := by
  have sz : (rng lo n).length = n := by simp [rng]
  refine ⟨fun i H1 hi q => by rw [sz] at hi; exact hi, fun i H1 v H2 hi q y => ?_, fun H1 q => by rw [sz]; exact Nat.le_refl _⟩
  obtain ⟨rfl, rfl⟩ := y
  rw [sz] at hi
  exact ⟨.int (lo + i), by simp [rng, hi], .int _, fun _ _ z => z⟩
def vR1 (t : VTA) : VI := fun E Q => t E fun ds E1 => match ds with
  | [.int j] => (-(2 ^ 62) ≤ j ∧ j < 2 ^ 62) ∧ Q (rng 0 j.toNat) E1
  | _ => False
variable {a b : Expr} {p : Pos}
theorem vi_range1 {tg : Expr} {t : VTA} (hg : Gl X "range") (hm : X.mg "range" = none) (ha : VA S X [a] t) (hs : starEach [a] X.env = [(false, eval a X.env)] := by rfl) : VIt S X tg (.Call (.Name "range" p) [a] [] pos) (vR1 t) := by
  refine pi_weak (pi_range1 hg hm ha hs) ?_
  rintro σ H Q ⟨Γ, E, Q0, ok, rp, ht, k⟩
  refine ⟨Γ, E, _, ok, rp, ht, fun ds E1 hq vs H1 kq1 rp1 hvs => ?_⟩
  match ds, hq, hvs with
  | [.int j], hq, .cons h1 .nil =>
    cases h1
    exact ⟨j, rfl, hq.1.1, hq.1.2, k _ _ hq.2 _ _ kq1 rp1 (it_rng 0 _)⟩
def sFor (vi : VI) (g : VG) (tb : VS) : VS := fun V E => vi E fun ds E1 => ∃ P : Nat → En → Prop, P 0 E1 ∧ (∀ i d E, ds[i]? = some d → P i E → g d E fun E2 => tb { V with nx := P (i + 1), ct := P (i + 1), bk := V.nx } E2) ∧ ∀ E, P ds.length E → V.nx E
theorem vs_for {is : List Nat} {tg iter : Expr} {body : List Stmt} {vi : VI} {g : VG} {tb : VS} (hp : PassesOwn (model X.prog X.w) X.A X.env X.xe) (hc : X.calm = true) (hi : VIt S X tg iter vi) (hg : PG X tg (liftG S is g)) (hb : VSs S X body tb) (hs : ∀ x, foldedSetIterable iter X.env x = pure x := by intro _; rfl) : VSt S X (.For tg iter body [] pos) (sFor vi g tb) := by
  refine ps_weak (ps_for hp hc hi hg hb hs) ?_
  rintro D σ H ⟨Γ, E, V, ok, rp, ht, k⟩
  refine ⟨Γ, E, _, ok, rp, ht, fun ds E1 ⟨P, p0, ps, pn⟩ J H1 kq1 rp1 it => ?_⟩
  refine ⟨fun i m σ' H' => m = ds.length - i ∧ i ≤ ds.length ∧ ∃ E', P i E' ∧ Rep Γ E' σ' H' ∧ Kq H1 H', ⟨_, rfl, Nat.zero_le _, E1, p0, rp1, Kq.refl _⟩, ?_⟩
  rintro i m σ' H' ⟨rfl, hi, E', pi, rp', kq'⟩
  by_cases hlt : i < ds.length
  · refine .inr ⟨it.go i H' hlt kq', fun σ2 H2 => i + 1 ≤ ds.length ∧ ∃ E2, P (i + 1) E2 ∧ Rep Γ E2 σ2 H2 ∧ Kq H1 H2, fun σ2 H2 h => ⟨_, by omega, rfl, h⟩, fun x H2 y => ?_⟩
    obtain ⟨d, ed, rd, sm⟩ := it.yld i H' x H2 hlt kq' y
    have kq2 := kq'.trans (Kq.same sm)
    refine ⟨Γ, E', d, _, ok, rp'.same sm, rd, ps i d E' ed pi, fun E3 q3 σ3 r3 _ => ?_⟩
    refine ⟨Γ, E3, _, ok, r3, q3, fun E4 h4 σ4 H4 q4 r4 => ⟨hlt, E4, h4, r4, kq2.trans q4⟩, fun d4 E4 h4 v4 σ4 H4 q4 r4 rv4 => k.rt d4 E4 h4 v4 σ4 H4 ((kq1.trans kq2).trans q4) r4 rv4, fun E4 h4 σ4 H4 q4 r4 => k.nx E4 h4 σ4 H4 ((kq1.trans kq2).trans q4) r4, fun E4 h4 σ4 H4 q4 r4 => ⟨hlt, E4, h4, r4, kq2.trans q4⟩⟩
  · have e : i = ds.length := by omega
    subst e
    exact .inl ⟨it.stop H' kq', k.nx E' (pn E' pi) σ' H' (kq1.trans kq') rp'⟩
abbrev VM := List D → Nat → (D → Nat → Prop) → Prop
def spV (S : Sg) (m : VM) : Sp := fun vs H Q _ => ∃ (tp : Option Tp) (ds : List D) (c : Nat) (Q0 : D → Nat → Prop), RpL S.K tp H vs ds ∧ (∀ t, tp = some t → TapeV S.b H t) ∧ Few tp c H ∧ (∀ P ∈ S.tabs, GxR.TabG H P) ∧ m ds c Q0 ∧ ∀ d c', Q0 d c' → ∀ v H', Ext ⟨S.K, S.b, tp, S.tabs, [], H⟩ c' H H' → Rp S.K tp H' v d → Q v H'
def vCall (m : VM) (t : VTA) : VT := fun E Q => t E fun ds E1 => m ds E1.c fun d c => Q d ⟨E1.l, c⟩
theorem spV_of {Γ : Gm} {E : En} {σ : L2.St} {H : Hp} {m : VM} {vs : List V} {ds : List D} {Q : VK} {Ex : XK} {Q0 : D → Nat → Prop} (ok : Γ.Ok S) (r : Rep Γ E σ H) (hv : Γ.RpL H vs ds) (h : m ds E.c Q0) (k : ∀ d c, Q0 d c → ∀ v H', Kq H H' → Rep Γ ⟨E.l, c⟩ σ H' → Γ.Rp H' v d → Q v H') : spV S m vs H Q Ex := by
  obtain ⟨eK, eB, eT⟩ := ok
  refine ⟨Γ.tp, ds, E.c, Q0, by rw [← eK]; exact hv, by rw [← eB]; exact r.base.tape, r.few, by rw [← eT]; exact r.base.tabs, h, fun d c hd v H' x rv => ?_⟩
  have x' : Ext Γ c H H' := ⟨fun b o n => x.ext b o fun z => n (by
    rcases z with z | z
    · exact .inl z
    · exact .inr (by rw [eT]; exact z)), by rw [eB]; exact x.tape, x.few, by rw [eT]; exact x.tabs⟩
  exact k d c hd v H' (x'.kq r.base) (r.call x') (by rw [← eK] at rv; exact rv)
variable {k : Nat} {f : Addr} {fd : FuncData} {ps : List PySem.Str} {m : VM} {x : PySem.Str} {es : List Expr}
theorem ve_call {t : VTA} (F : FnOk X.prog X.w X.K X.mg X.base CX0 k f fd ps (spV S m)) (hr : Room k X.A) (hg : Gl X x) (hm : X.mg x = some (.ref f)) (hk : PySem.W.keepIn X.K (.ref f) = true) (hb : Binds X.K fd ps [])
    (ha : VA S X (e :: es) t) (hdb : (x == ("__debug__" : PySem.Str)) = false := by decide) (he : starEach (e :: es) X.env = (false, eval e X.env) :: starEach es X.env := by rfl) (hpl : (backTo pos (starEach es X.env)).any (·.1) = false := by rfl) :
    VE S X (.Call (.Name x p) (e :: es) [] pos) (vCall m t) := by
  refine pe_weak (pe_call F hr hg hm hk hb .nil pass0 ha hdb he hpl) ?_
  rintro σ H Q ⟨Γ, E, Q0, ok, rp, ht, k⟩
  refine ⟨Γ, E, _, ok, rp, ht, fun ds E1 hq vs H1 kq1 rp1 hvs => ?_⟩
  show spV S m (vs ++ []) H1 Q E0
  rw [List.append_nil]
  exact spV_of ok rp1 hvs hq fun d c hd v H' q' r' rv => k _ _ hd _ _ (kq1.trans q') r' rv
theorem ve_call0 (F : FnOk X.prog X.w X.K X.mg X.base CX0 k f fd ps (spV S m)) (hr : Room k X.A) (hg : Gl X x) (hm : X.mg x = some (.ref f)) (hk : PySem.W.keepIn X.K (.ref f) = true) (hb : Binds X.K fd ps [])
    (hdb : (x == ("__debug__" : PySem.Str)) = false := by decide) : VE S X (.Call (.Name x p) [] [] pos) (vCall m aNil) := by
  refine pe_weak (pe_call0 F hr hg hm hk hb .nil pass0 hdb) ?_
  rintro σ H Q ⟨Γ, E, Q0, ok, rp, ht, k⟩
  exact spV_of (Ex := E0) ok rp .nil ht fun d c hd v H' q' r' rv => k _ _ hd _ _ q' r' rv
end
def startL (N : List PySem.Str) (ds : List D) : List SV := ds.map .v ++ List.replicate (N.length - ds.length) .no
def startV (N : List PySem.Str) (ds : List D) (c : Nat) : En := ⟨startL N ds, c⟩
def endV (Q : D → Nat → Prop) : Ve := { nx := fun E => Q .non E.c, rt := fun d E => Q d E.c }
theorem rep_start {K : PySem.W.Frag} {tp : Option Tp} {tabs : List Addr} {N : List PySem.Str} {vs : List V} {ds : List D} {H : Hp} {b : Bool} {c : Nat} (h : RpL K tp H vs ds) (ht : ∀ t, tp = some t → TapeV b H t) (hf : Few tp c H) (hp : ∀ P ∈ tabs, GxR.TabG H P) : Rep ⟨K, b, tp, tabs, [], H⟩ (startV N ds c) (L2.start N vs) H := by
  have len : vs.length = ds.length := h.len
  have notown : ∀ (j : Nat) (s : SV), (startL N ds)[j]? = some s → s.own = false := by
    intro j s e
    unfold startL at e
    rcases Nat.lt_or_ge j ds.length with hj | hj
    · rw [List.getElem?_append_left (by simpa using hj), List.getElem?_map, List.getElem?_eq_getElem hj] at e
      cases e
      rfl
    · rw [List.getElem?_append_right (by simpa using hj), List.getElem?_replicate] at e
      split at e
      · cases e; rfl
      · cases e
  refine ⟨⟨fun _ _ _ _ z => z, Kq.refl _, ht, hp⟩, by simp [startV, startL, L2.start, len], hf, fun i s e => ?_, fun i j s t a e1 e2 o1 _ _ _ => ?_⟩
  · have e : (startL N ds)[i]? = some s := e
    unfold startL at e
    rcases Nat.lt_or_ge i ds.length with hj | hj
    · rw [List.getElem?_append_left (by simpa using hj), List.getElem?_map, List.getElem?_eq_getElem hj] at e
      cases e
      obtain ⟨v, ev, rv⟩ := h.get (List.getElem?_eq_getElem hj)
      refine ⟨some v, ?_, v, rfl, rv⟩
      unfold L2.start
      rw [List.getElem?_append_left (by rw [List.length_map, len]; exact hj), List.getElem?_map, ev]
      rfl
    · rw [List.getElem?_append_right (by simpa using hj), List.getElem?_replicate] at e
      split at e
      · rename_i hl
        cases e
        refine ⟨none, ?_, trivial⟩
        unfold L2.start
        rw [List.getElem?_append_right (by rw [List.length_map, len]; exact hj), List.getElem?_replicate, if_pos (by rw [List.length_map, len]; rw [List.length_map] at hl; exact hl)]
      · cases e
  · rw [notown i s e1] at o1; cases o1
section
variable {P : Program} {w : World} {K : PySem.W.Frag} {mg : PySem.Str → Option Value} {base : Heap} {S : Sg} {x qual : PySem.Str} {st : Stmt} {f : Addr} {fd : FuncData} {N ps : List PySem.Str} {k : Nat} {m : VM} {T : VS}
theorem body_v (hK : S.K = K) {X : Cx} {body : List Stmt} {vs : List V} {H : Hp} {Q : VK} {E : XK} (hb : VSs S X body T) (h : ∀ ds c Q, m ds c Q → T (endV Q) (startV N ds c)) (sp : spV S m vs H Q E) :
    ∃ t, PSs X body t ∧ t { nx := fun _ H' => Q .non H', rt := Q } (L2.start N vs) H := by
  obtain ⟨tp, ds, c, Q0, hv, ht, hf, hp, hm, k⟩ := sp
  refine ⟨_, hb, ⟨S.K, S.b, tp, S.tabs, [], H⟩, startV N ds c, _, ⟨rfl, rfl, rfl⟩, rep_start hv ht hf hp, h ds c Q0 hm, fun E1 h1 σ1 H1 q1 r1 => ?_, fun d E1 h1 v σ1 H1 q1 r1 rv => ?_, fun _ z => z.elim, fun _ z => z.elim⟩
  · exact k _ _ h1 _ _ ⟨fun b o n e => r1.base.ext b o n (by simp) e, r1.base.tape, r1.few, r1.base.tabs⟩ .non
  · exact k _ _ h1 _ _ ⟨fun b o n e => r1.base.ext b o n (by simp) e, r1.base.tape, r1.few, r1.base.tabs⟩ rv
theorem def_v (F : Fun K x qual st f fd) (sc : FnScope N ps (defScope st)) (hK : S.K = K) (len : ∀ ds c Q, m ds c Q → ds.length = ps.length)
    (hb : ∀ (cdv : Value) (A : Around) (outer : List Env) (s : Shared) (H : Hp) (E : XK), Room k (A.deeper (envOfC qual (defScope st) s.heap.objs.size f cdv)) → VSs S (cxOf CX0 P w K mg base N qual (defScope st) f cdv A outer s H E).nox (defBody st) T)
    (h : ∀ ds c Q, m ds c Q → T (endV Q) (startV N ds c)) : FnOk P w K mg base CX0 (k + 1) f fd ps (spV S m) := by
  refine F.ok sc (fun vs H Q E sp => ?_) (fun cdv A outer s H vs Q E hr sp => body_v hK (hb cdv A outer s H E hr) h sp)
  obtain ⟨tp, ds, c, Q0, hv, _, _, _, hm, _⟩ := sp
  rw [hv.len]
  exact len ds c Q0 hm
theorem def_vC {c : Addr} (F : FunC K x qual st f fd c) (sc : FnScope N ps (defScope st)) (hK : S.K = K) (len : ∀ ds c Q, m ds c Q → ds.length = ps.length)
    (hb : ∀ (A : Around) (outer : List Env) (s : Shared) (H : Hp) (E : XK), Room k (A.deeper (envOfC qual (defScope st) s.heap.objs.size f (.ref c))) → VSs S (cxOf CX0 P w K mg base N qual (defScope st) f (.ref c) A outer s H E).nox (defBody st) T)
    (h : ∀ ds c Q, m ds c Q → T (endV Q) (startV N ds c)) : FnOk P w K mg base CX0 (k + 1) f fd ps (spV S m) := by
  refine F.okC sc (fun vs H Q E sp => ?_) (fun A outer s H vs Q E hr sp => body_v hK (hb A outer s H E hr) h sp)
  obtain ⟨tp, ds, c, Q0, hv, _, _, _, hm, _⟩ := sp
  rw [hv.len]
  exact len ds c Q0 hm
end
end Va
set_option Elab.async false
set_option linter.all false
set_option maxRecDepth 100000
set_option maxHeartbeats 4000000
namespace Va
open PySem PySem.Spec PyProof.Rows L2 Ind
mutual
def D.pd : D → PyData
  | .non => .none
  | .bl b => .bool b
  | .int i => .int i
  | .str x => .str x
  | .tup xs => .tuple (pdL xs)
  | .ptp xs => .tuple (pdL xs)
  | .lst xs => .list (pdL xs)
  | .dk _ => .dict []
  | .tape => .dict []
  | .ty _ => .dict []
def pdL : List D → List PyData
  | [] => []
  | x :: xs => x.pd :: pdL xs
end
theorem pdL_map : ∀ xs : List D, pdL xs = xs.map D.pd
  | [] => rfl
  | x :: xs => by show x.pd :: pdL xs = x.pd :: xs.map D.pd; rw [pdL_map xs]
section
variable {K : PySem.W.Frag} {tp : Option Tp} {H : Hp}
mutual
theorem Rp.dp : ∀ (d : D) (v : V), d.pd.canLay0 = true → Rp K tp H v d → Dp K H v d.pd
  | .non, _, _, h => by cases h; exact .non
  | .bl _, _, _, h => by cases h; exact .bl _
  | .int _, _, _, h => by cases h; exact .int _
  | .str _, _, _, h => by cases h; exact .str _
  | .tup ds, _, c, h => by
    cases h with
    | tup hs ha => exact .tup hs (RpL.dp ds _ (by simpa [D.pd, PyData.canLay0] using c) ha)
  | .ptp ds, _, c, h => by
    cases h with
    | ptp hs _ ha => exact .tup (.inl (.inr ⟨_, hs⟩)) (RpL.dp ds _ (by simpa [D.pd, PyData.canLay0] using c) ha)
  | .lst ds, _, c, h => by
    cases h with
    | lst hs ha => exact .lst hs.sq (RpL.dp ds _ (by simpa [D.pd, PyData.canLay0] using c) ha)
  | .dk ds, _, c, _ => by simp [D.pd, PyData.canLay0] at c
  | .tape, _, c, _ => by simp [D.pd, PyData.canLay0] at c
  | .ty _, _, c, _ => by simp [D.pd, PyData.canLay0] at c
theorem RpL.dp : ∀ (ds : List D) (vs : List V), PyData.canLayAll0 (pdL ds) = true → RpL K tp H vs ds → DpAll K H vs (pdL ds)
  | [], _, _, h => by cases h; exact .nil
  | d :: ds, _, c, h => by
    cases h with
    | cons h1 h2 =>
      have c' : d.pd.canLay0 = true ∧ PyData.canLayAll0 (pdL ds) = true := by simpa [pdL, PyData.canLayAll0] using c
      exact .cons (Rp.dp d _ c'.1 h1) (RpL.dp ds _ c'.2 h2)
end
end
theorem RpW.dp {Γ : Gm} {H : Hp} {v : V} {d : D} (c : SeqAt.shaped d.pd = true) (h : RpW Γ H v d) : Dp Γ.K H v d.pd := by
  have c0 := SeqAt.canLay_of_shaped c
  cases h with
  | v h => exact Rp.dp d v c0 h
  | l h1 h2 => exact .lst (.of h1) (RpL.dp _ _ (by simpa [D.pd, PyData.canLay0] using c0) h2)
  | k h1 h2 => simp [D.pd, PyData.canLay0] at c0
theorem RpW.seq {Γ : Gm} {H : Hp} {v : V} {ds : List D} (h : RpW Γ H v (.lst ds)) : ∃ a xs, v = .ref a ∧ SqL Γ.K H a xs ∧ Γ.RpL H xs ds := by
  cases h with
  | v h =>
    obtain ⟨a, xs, rfl, h1, h2⟩ := h.lst_inv
    exact ⟨a, xs, rfl, h1.sq, h2⟩
  | l h1 h2 => exact ⟨_, _, rfl, .of h1, h2⟩
theorem RpW.rd {Γ : Gm} {H : Hp} {v : V} {ds : List D} (h : RpW Γ H v (.lst ds)) : ∃ a xs, v = .ref a ∧ Rd H a (.lst xs) ∧ Γ.RpL H xs ds := by
  cases h with
  | v h =>
    obtain ⟨a, xs, rfl, ⟨o, h1⟩, h2⟩ := h.lst_inv
    exact ⟨a, xs, rfl, .inr ⟨o, h1⟩, h2⟩
  | l h1 h2 => exact ⟨_, _, rfl, .inl h1, h2⟩
theorem RpW.dk {Γ : Gm} {H : Hp} {v : V} {ds : List (Key × D)} (h : RpW Γ H v (.dk ds)) : ∃ a kv, v = .ref a ∧ Rd H a (.dK kv) ∧ RpK Γ.K Γ.tp H kv ds := by
  cases h with
  | v h =>
    obtain ⟨a, o, xs, rfl, h1, h2⟩ := h.dk_inv
    exact ⟨a, xs, rfl, .inr ⟨o, h1⟩, h2⟩
  | k h1 h2 => exact ⟨_, _, rfl, .inl h1, h2⟩
theorem RpW.tup {Γ : Gm} {H : Hp} {v : V} {ds : List D} (h : RpW Γ H v (.tup ds)) : ∃ a xs, v = .ref a ∧ SqT Γ.K H a xs ∧ Γ.RpL H xs ds := by
  cases h with
  | v h => exact h.tup_inv
theorem RpW.int {Γ : Gm} {H : Hp} {v : V} {i : Int} (h : RpW Γ H v (.int i)) : v = .int i := by
  cases h with
  | v h => exact h.int_inv
theorem RpW.str {Γ : Gm} {H : Hp} {v : V} {i : Tx} (h : RpW Γ H v (.str i)) : v = .str i := by
  cases h with
  | v h => exact h.str_inv
theorem RpW.bl {Γ : Gm} {H : Hp} {v : V} {i : Bool} (h : RpW Γ H v (.bl i)) : v = .bl i := by
  cases h with
  | v h => exact h.bl_inv
theorem RpW.non {Γ : Gm} {H : Hp} {v : V} (h : RpW Γ H v .non) : v = .non := by
  cases h with
  | v h => cases h; rfl
theorem million {n : Nat} (h : n ≤ 1000000) : n ≤ sizeLine := Nat.le_trans h (by decide)
theorem millionL {n : Nat} (h : n < 1000000) : n < sizeLine := Nat.lt_of_lt_of_le h (by decide)
section
variable {X : Cx} {S : Sg}
def addG : VO := fun d e Q => match d, e with
  | .int i, .int j => Q (.v (.int (i + j)))
  | .str x, .str y => x.length + y.length ≤ 1000000 ∧ Q (.v (.str (x ++ y)))
  | .lst xs, .lst ys => xs.length + ys.length ≤ 1000000 ∧ Q (.fl (xs ++ ys))
  | .tup xs, .tup ys => xs.length + ys.length ≤ 1000000 ∧ Q (.v (.tup (xs ++ ys)))
  | _, _ => False
theorem op_catL : OpR X (binaryOp .Add) (fun x y H Q => ∃ l b xs zs, x = .ref l ∧ y = .ref b ∧ Rd H l (.lst xs) ∧ Rd H b (.lst zs) ∧ xs.length + zs.length ≤ sizeLine ∧ ∀ p, H p = none → Q (.ref p) (upd H p (.lst (xs ++ zs)))) := by
  rintro pins s σ H x y v u Q I rx ry ⟨l, b, xs, zs, rfl, rfl, hl, hb, hz, q⟩
  cases (show v = Value.ref l from rx)
  cases (show u = Value.ref b from ry)
  obtain ⟨_, its, n, r, e1⟩ := hl.ok I.hok
  obtain ⟨_, its2, n2, r2, e2⟩ := hb.ok I.hok
  have k1 := r.length
  have k2 := r2.length
  refine PySem.P.add_list e1 e2 ?_ (by simp only [List.size_toArray]; omega)
  rw [show its.toArray ++ its2.toArray = (its ++ its2).toArray by simp]
  exact ⟨.ref _, _, I.lnew (t' := s.toks) (r.append r2) (by simp; omega), rfl, q _ I.fresh⟩
theorem o_add (hK : S.K = X.K) : OpV S X (binaryOp .Add) addG := by
  refine ⟨_, ((op_add.or op_add_str).or (op_catL.or op_catA)), ?_⟩
  intro Γ H x y d e Q Q0 eK hx hy hg k
  have eK' : X.K = Γ.K := (eK.trans hK).symm
  unfold addG at hg
  split at hg
  · exact .inl (.inl ⟨_, _, hx.int, hy.int, k _ hg _ _ (Same.refl _) (.int _)⟩)
  · exact .inl (.inr ⟨_, _, hx.str, hy.str, million hg.1, k _ hg.2 _ _ (Same.refl _) (.str _)⟩)
  · obtain ⟨a, xs, rfl, h1, h2⟩ := hx.rd
    obtain ⟨b, ys, rfl, h3, h4⟩ := hy.rd
    refine .inr (.inl ⟨a, b, xs, ys, rfl, rfl, h1, h3, million (by rw [h2.len, h4.len]; exact hg.1), fun p np => ?_⟩)
    have sm := same_upd (o := .lst (xs ++ ys)) np
    exact k _ hg.2 _ _ sm ⟨p, _, rfl, np, upd_same, RpL.kq (.same sm) _ _ (h2.app h4)⟩
  · obtain ⟨a, xs, rfl, h1, h2⟩ := hx.tup
    obtain ⟨b, ys, rfl, h3, h4⟩ := hy.tup
    rw [eK']
    refine .inr (.inr ⟨a, b, xs, ys, rfl, rfl, h1, h3, million (by rw [h2.len, h4.len]; exact hg.1), fun e => ?_, fun _ e => ?_, fun _ _ p np => ?_⟩)
    · subst e
      cases h2
      exact k _ hg.2 _ _ (Same.refl _) (.tup h3 h4)
    · subst e
      cases h4
      refine k _ hg.2 _ _ (Same.refl _) ?_
      rw [List.append_nil]
      exact .tup h1 h2
    · have sm := same_upd (o := .tup (xs ++ ys)) np
      exact k _ hg.2 _ _ sm (.tup (.of upd_same) (RpL.kq (.same sm) _ _ (h2.app h4)))
  · exact hg.elim
def int2 (C : Int → Int → Prop) (f : Int → Int → D) : VO := fun d e Q => match d, e with
  | .int i, .int j => C i j ∧ Q (.v (f i j))
  | _, _ => False
def int0 (f : Int → Int → D) : VO := fun d e Q => match d, e with
  | .int i, .int j => Q (.v (f i j))
  | _, _ => False
theorem o_int {f : Value → Value → Sem Value} {C : Int → Int → Prop} {g : Int → Int → Int} (h : OpR X f (rI C fun i j => .int (g i j))) : OpV S X f (int2 C fun i j => .int (g i j)) := by
  refine ⟨_, h, ?_⟩
  intro Γ H x y d e Q Q0 eK hx hy hg k
  unfold int2 at hg
  split at hg
  · exact ⟨_, _, hx.int, hy.int, hg.1, k _ hg.2 _ _ (Same.refl _) (.int _)⟩
  · exact hg.elim
theorem o_int0 {f : Value → Value → Sem Value} {g : Int → Int → Int} (h : OpR X f (rI0 fun i j => .int (g i j))) : OpV S X f (int0 fun i j => .int (g i j)) := by
  refine ⟨_, h, ?_⟩
  intro Γ H x y d e Q Q0 eK hx hy hg k
  unfold int0 at hg
  split at hg
  · exact ⟨_, _, hx.int, hy.int, k _ hg _ _ (Same.refl _) (.int _)⟩
  · exact hg.elim
theorem o_sub : OpV S X (binaryOp .Sub) (int0 fun i j => .int (i - j)) := o_int0 op_sub
theorem o_mul : OpV S X (binaryOp .Mult) (int2 CMul fun i j => .int (i * j)) := o_int op_mul
theorem o_fdiv : OpV S X (binaryOp .FloorDiv) (int2 CDivW fun i j => .int (i / j)) := o_int op_fdivW
theorem o_mod : OpV S X (binaryOp .Mod) (int2 (fun _ j => 0 < j) fun i j => .int (i % j)) := o_int op_mod
theorem dS {x y : Tx} : decide (V.str x = V.str y) = decide (x = y) := decide_eq_decide.mpr ⟨fun e => by injection e, fun e => by rw [e]⟩
theorem dI {x y : Int} : decide (V.int x = V.int y) = decide (x = y) := decide_eq_decide.mpr ⟨fun e => by injection e, fun e => by rw [e]⟩
theorem dB {x y : Bool} : decide (V.bl x = V.bl y) = decide (x = y) := decide_eq_decide.mpr ⟨fun e => by injection e, fun e => by rw [e]⟩
def eqD (d e : D) (f : Bool → RV) (Q : RV → Prop) : Prop := match d, e with
  | .str x, .str y => Q (f (decide (x = y)))
  | .int i, .int j => Q (f (decide (i = j)))
  | .bl a, .bl b => Q (f (decide (a = b)))
  | .non, .non => Q (f true)
  | .str _, .int _ => Q (f false)
  | .int _, .str _ => Q (f false)
  | .str _, .bl _ => Q (f false)
  | .bl _, .str _ => Q (f false)
  | .non, .str _ => Q (f false)
  | .str _, .non => Q (f false)
  | .non, .int _ => Q (f false)
  | .int _, .non => Q (f false)
  | d, e => SeqAt.shaped d.pd = true ∧ SeqAt.shaped e.pd = true ∧ Q (f (PyData.eqv d.pd e.pd))
def eqG : VO := fun d e Q => eqD d e (fun b => .v (.bl b)) Q
def neG : VO := fun d e Q => eqD d e (fun b => .v (.bl (!b))) Q
theorem o_eq (hK : S.K = X.K) (hu : X.A.units + 64 < cLine) : OpV S X (compareOp .Eq) eqG := by
  refine ⟨_, op_eq.or (op_eqD hu), ?_⟩
  intro Γ H x y d e Q Q0 eK hx hy hg k
  have eK' : X.K = Γ.K := (eK.trans hK).symm
  unfold eqG eqD at hg
  split at hg
  · rw [hx.str, hy.str]
    refine .inl ⟨rfl, ?_⟩
    rw [dS]
    exact k _ hg _ _ (Same.refl _) (.bl _)
  · rw [hx.int, hy.int]
    refine .inl ⟨rfl, ?_⟩
    rw [dI]
    exact k _ hg _ _ (Same.refl _) (.bl _)
  · rw [hx.bl, hy.bl]
    refine .inl ⟨rfl, ?_⟩
    rw [dB]
    exact k _ hg _ _ (Same.refl _) (.bl _)
  · rw [hx.non, hy.non]
    exact .inl ⟨rfl, k _ hg _ _ (Same.refl _) (.bl _)⟩
  · rw [hx.str, hy.int]; exact .inl ⟨rfl, k _ hg _ _ (Same.refl _) (.bl _)⟩
  · rw [hx.int, hy.str]; exact .inl ⟨rfl, k _ hg _ _ (Same.refl _) (.bl _)⟩
  · rw [hx.str, hy.bl]; exact .inl ⟨rfl, k _ hg _ _ (Same.refl _) (.bl _)⟩
  · rw [hx.bl, hy.str]; exact .inl ⟨rfl, k _ hg _ _ (Same.refl _) (.bl _)⟩
  · rw [hx.non, hy.str]; exact .inl ⟨rfl, k _ hg _ _ (Same.refl _) (.bl _)⟩
  · rw [hx.str, hy.non]; exact .inl ⟨rfl, k _ hg _ _ (Same.refl _) (.bl _)⟩
  · rw [hx.non, hy.int]; exact .inl ⟨rfl, k _ hg _ _ (Same.refl _) (.bl _)⟩
  · rw [hx.int, hy.non]; exact .inl ⟨rfl, k _ hg _ _ (Same.refl _) (.bl _)⟩
  · rw [eK']
    exact .inr ⟨_, _, hx.dp hg.1, hy.dp hg.2.1, hg.1, hg.2.1, k _ hg.2.2 _ _ (Same.refl _) (.bl _)⟩
theorem o_ne (hK : S.K = X.K) (hu : X.A.units + 64 < cLine) : OpV S X (compareOp .NotEq) neG := by
  refine ⟨_, op_ne.or (op_neD hu), ?_⟩
  intro Γ H x y d e Q Q0 eK hx hy hg k
  have eK' : X.K = Γ.K := (eK.trans hK).symm
  unfold neG eqD at hg
  split at hg
  · rw [hx.str, hy.str]
    refine .inl ⟨rfl, ?_⟩
    rw [dS]
    exact k _ hg _ _ (Same.refl _) (.bl _)
  · rw [hx.int, hy.int]
    refine .inl ⟨rfl, ?_⟩
    rw [dI]
    exact k _ hg _ _ (Same.refl _) (.bl _)
  · rw [hx.bl, hy.bl]
    refine .inl ⟨rfl, ?_⟩
    rw [dB]
    exact k _ hg _ _ (Same.refl _) (.bl _)
  · rw [hx.non, hy.non]
    exact .inl ⟨rfl, k _ hg _ _ (Same.refl _) (.bl _)⟩
  · rw [hx.str, hy.int]; exact .inl ⟨rfl, k _ hg _ _ (Same.refl _) (.bl _)⟩
  · rw [hx.int, hy.str]; exact .inl ⟨rfl, k _ hg _ _ (Same.refl _) (.bl _)⟩
  · rw [hx.str, hy.bl]; exact .inl ⟨rfl, k _ hg _ _ (Same.refl _) (.bl _)⟩
  · rw [hx.bl, hy.str]; exact .inl ⟨rfl, k _ hg _ _ (Same.refl _) (.bl _)⟩
  · rw [hx.non, hy.str]; exact .inl ⟨rfl, k _ hg _ _ (Same.refl _) (.bl _)⟩
  · rw [hx.str, hy.non]; exact .inl ⟨rfl, k _ hg _ _ (Same.refl _) (.bl _)⟩
  · rw [hx.non, hy.int]; exact .inl ⟨rfl, k _ hg _ _ (Same.refl _) (.bl _)⟩
  · rw [hx.int, hy.non]; exact .inl ⟨rfl, k _ hg _ _ (Same.refl _) (.bl _)⟩
  · rw [eK']
    exact .inr ⟨_, _, hx.dp hg.1, hy.dp hg.2.1, hg.1, hg.2.1, k _ hg.2.2 _ _ (Same.refl _) (.bl _)⟩
def ordG (p : Int → Int → Bool) (q : List Nat → List Nat → Bool) : VO := fun d e Q => match d, e with
  | .int i, .int j => Q (.v (.bl (p i j)))
  | .str x, .str y => Q (.v (.bl (q x.cps.toList y.cps.toList)))
  | _, _ => False
theorem o_ord {f : Value → Value → Sem Value} {p : Int → Int → Bool} {q : List Nat → List Nat → Bool} (h : OpR X f (rI0 fun i j => .bl (p i j))) (h2 : OpR X f (fun x y H Q => ∃ i j, x = .str i ∧ y = .str j ∧ Q (.bl (q i.cps.toList j.cps.toList)) H)) : OpV S X f (ordG p q) := by
  refine ⟨_, h.or h2, ?_⟩
  intro Γ H x y d e Q Q0 eK hx hy hg k
  unfold ordG at hg
  split at hg
  · exact .inl ⟨_, _, hx.int, hy.int, k _ hg _ _ (Same.refl _) (.bl _)⟩
  · exact .inr ⟨_, _, hx.str, hy.str, k _ hg _ _ (Same.refl _) (.bl _)⟩
  · exact hg.elim
abbrev ltG : VO := ordG (fun i j => decide (i < j)) fun x y => decide (x < y)
abbrev gtG : VO := ordG (fun i j => decide (j < i)) fun x y => decide (y < x)
theorem o_lt : OpV S X (compareOp .Lt) ltG := o_ord op_lt op_lt_str
theorem o_gt : OpV S X (compareOp .Gt) gtG := o_ord op_gt op_gt_str
def D.flat : D → Bool
  | .non => true
  | .bl _ => true
  | .int _ => true
  | .str _ => true
  | _ => false
def D.eqf : D → D → Bool
  | .non, .non => true
  | .bl a, .bl b => a == b
  | .bl a, .int b => (if a then 1 else 0) == b
  | .int a, .bl b => a == (if b then 1 else 0)
  | .int a, .int b => a == b
  | .str a, .str b => a == b
  | _, _ => false
def keyOf : D → Option Key
  | .int i => some (.inl i)
  | .str x => some (.inr x)
  | _ => none
def look (kvs : List (Key × D)) (k : Key) : Option D := (kvs.find? fun p => decide (p.1 = k)).map (·.2)
def inSeq (d : D) (ys : List D) (f : Bool → RV) (Q : RV → Prop) : Prop := match d with
  | .tup _ => SeqAt.shaped d.pd = true ∧ SeqAt.shaped (.list (pdL ys)) = true ∧ Q (f (ys.any fun y => PyData.eqv y.pd d.pd))
  | _ => d.flat = true ∧ ys.all D.flat = true ∧ Q (f (ys.any fun y => D.eqf y d))
def inD (d e : D) (f : Bool → RV) (Q : RV → Prop) : Prop := match e with
  | .lst ys => inSeq d ys f Q
  | .tup ys => inSeq d ys f Q
  | .str z => ∃ c, d = one c ∧ Q (f (decide (c ∈ z.cps.toList)))
  | .dk kvs => ∃ k, keyOf d = some k ∧ Q (f (look kvs k).isSome)
  | _ => False
def inG : VO := fun d e Q => inD d e (fun b => .v (.bl b)) Q
def ninG : VO := fun d e Q => inD d e (fun b => .v (.bl (!b))) Q
theorem Rp.flatV {K : PySem.W.Frag} {tp : Option Tp} {H : Hp} {v : V} {d : D} (h : Rp K tp H v d) (f : d.flat = true) : flatV v = true := by
  cases h <;> first | rfl | cases f
theorem Rp.eqV {K : PySem.W.Frag} {tp : Option Tp} {H : Hp} {v u : V} {d e : D} (h : Rp K tp H v d) (h' : Rp K tp H u e) (f : d.flat = true) (f' : e.flat = true) : eqV v u = d.eqf e := by
  cases h <;> first | (cases f; done) | (cases h' <;> first | rfl | cases f')
theorem RpL.flatV {K : PySem.W.Frag} {tp : Option Tp} {H : Hp} : ∀ {vs : List V} {ds : List D}, RpL K tp H vs ds → ds.all D.flat = true → vs.all flatV = true
  | _, _, .nil, _ => rfl
  | _, _, .cons h t, f => by
    simp only [List.all_cons, Bool.and_eq_true] at f ⊢
    exact ⟨h.flatV f.1, RpL.flatV t f.2⟩
theorem RpL.inV {K : PySem.W.Frag} {tp : Option Tp} {H : Hp} {x : V} {d : D} (h : Rp K tp H x d) (f : d.flat = true) : ∀ {vs : List V} {ds : List D}, RpL K tp H vs ds → ds.all D.flat = true → inV x vs = ds.any fun y => y.eqf d
  | _, _, .nil, _ => rfl
  | _, _, .cons (v := v) (vs := vs) (d := e) (ds := ds) h1 t, g => by
    simp only [List.all_cons, Bool.and_eq_true] at g
    show (L2.eqV v x || L2.inV x vs) = (e.eqf d || ds.any fun y => y.eqf d)
    rw [h1.eqV h g.1 f, RpL.inV h f t g.2]
theorem RpW.flat {Γ : Gm} {H : Hp} {v : V} {d : D} (h : RpW Γ H v d) (f : d.flat = true) : Γ.Rp H v d := by
  cases h with
  | v h => exact h
  | l _ _ => cases f
  | k _ _ => cases f
theorem look_val {K : PySem.W.Frag} {tp : Option Tp} {H : Hp} {kv : List (Key × V)} {ds : List (Key × D)} (r : RpK K tp H kv ds) (k : Key) : match look ds k with
    | some d => ∃ v, valV kv k = some v ∧ Rp K tp H v d
    | none => valV kv k = none := by
  have := r.val (k := k)
  unfold look
  cases h : ds.find? fun p => decide (p.1 = k) with
  | none => rw [h] at this; exact this
  | some p => rw [h] at this; exact this
theorem look_some {K : PySem.W.Frag} {tp : Option Tp} {H : Hp} {kv : List (Key × V)} {ds : List (Key × D)} (r : RpK K tp H kv ds) (k : Key) : (valV kv k).isSome = (look ds k).isSome := by
  have := look_val r k
  cases h : look ds k with
  | none => rw [h] at this; rw [show valV kv k = none from this]; rfl
  | some d => rw [h] at this; obtain ⟨v, e, _⟩ := this; rw [e]; rfl
theorem keyOf_rp {Γ : Gm} {H : Hp} {v : V} {d : D} {k : Key} (h : RpW Γ H v d) (e : keyOf d = some k) : v = kV k := by
  cases d with
  | int i => cases e; exact h.int
  | str x => cases e; exact h.str
  | _ => cases e
def rInAny (K : PySem.W.Frag) (neg : Bool) : R2 := fun x y H Q => ∃ d ds, Dp K H x d ∧ (Dp K H y (.list ds) ∨ Dp K H y (.tuple ds)) ∧ SeqAt.shaped d = true ∧ SeqAt.shaped (.list ds) = true ∧ Q (.bl (if neg then !ds.any fun z => PyData.eqv z d else ds.any fun z => PyData.eqv z d)) H
theorem op_inAny (hu : X.A.units + 65 < cLine) : OpR X (compareOp .In) (rInAny X.K false) := by
  rintro pins s σ H x y v u Q I rx ry ⟨d, ds, hd, he, sd, se, q⟩
  obtain ⟨as, r1⟩ := Dp.reads I d x v hd rx
  rcases he with he | he
  · obtain ⟨bs, r2⟩ := Dp.reads I _ y u he ry
    exact SeqAt.in_list_reads r2 r1 (SeqAt.canLay_of_shaped se) (SeqAt.canLay_of_shaped sd) (room_in_shaped sd hu) ⟨.bl _, H, I, rfl, q⟩
  · obtain ⟨bs, r2⟩ := Dp.reads I _ y u he ry
    exact SeqAt.in_tuple_reads r2 r1 (SeqAt.canLay_of_shaped se) (SeqAt.canLay_of_shaped sd) (room_in_shaped sd hu) ⟨.bl _, H, I, rfl, q⟩
theorem op_ninAny (hu : X.A.units + 65 < cLine) : OpR X (compareOp .NotIn) (rInAny X.K true) := by
  rintro pins s σ H x y v u Q I rx ry ⟨d, ds, hd, he, sd, se, q⟩
  obtain ⟨as, r1⟩ := Dp.reads I d x v hd rx
  rcases he with he | he
  · obtain ⟨bs, r2⟩ := Dp.reads I _ y u he ry
    exact SeqAt.notIn_list_reads r2 r1 (SeqAt.canLay_of_shaped se) (SeqAt.canLay_of_shaped sd) (room_in_shaped sd hu) ⟨.bl _, H, I, rfl, q⟩
  · obtain ⟨bs, r2⟩ := Dp.reads I _ y u he ry
    exact SeqAt.notIn_tuple_reads r2 r1 (SeqAt.canLay_of_shaped se) (SeqAt.canLay_of_shaped sd) (room_in_shaped sd hu) ⟨.bl _, H, I, rfl, q⟩
theorem op_inD' (hu : X.A.units + 1 < cLine) : OpR X (compareOp .In) (fun x y H Q => ∃ a o, y = .ref a ∧ DGet H a x o ∧ Q (.bl o.isSome) H) := by
  rintro pins s σ H x y v u Q I rx ry ⟨a, o, rfl, g, q⟩
  cases (show u = Value.ref a from ry)
  exact d_in hu I g rx fun s3 I3 => ⟨.bl _, H, I3, rfl, q⟩
theorem op_ninD' (hu : X.A.units + 1 < cLine) : OpR X (compareOp .NotIn) (fun x y H Q => ∃ a o, y = .ref a ∧ DGet H a x o ∧ Q (.bl (!o.isSome)) H) := by
  rintro pins s σ H x y v u Q I rx ry ⟨a, o, rfl, g, q⟩
  cases (show u = Value.ref a from ry)
  exact d_notIn hu I g rx fun s3 I3 => ⟨.bl _, H, I3, rfl, q⟩
theorem rd_get {Γ : Gm} {H : Hp} {a : Addr} {kv : List (Key × V)} {k : Key} (h : Rd H a (.dK kv)) : DGet H a (kV k) (valV kv k) := .inl ⟨kv, k, h, rfl, rfl⟩
theorem pdL_any (ys : List D) (z : PyData) : ((pdL ys).any fun y => PyData.eqv y z) = ys.any fun y => PyData.eqv y.pd z := by
  rw [pdL_map, List.any_map]; rfl
theorem in_core (hK : S.K = X.K) {neg : Bool} {f : Value → Value → Sem Value} {r1 r2 r3 r4 : R2} {Γ : Gm} {H : Hp} {x y : V} {d e : D} {Q : VK} {Q0 : RV → Prop} (eK : Γ.K = S.K) (hx : RpW Γ H x d) (hy : RpW Γ H y e)
    (hg : inD d e (fun b => .v (.bl (if neg then !b else b))) Q0) (k : ∀ z, Q0 z → ∀ v H', Same H H' → RpN Γ H H' v z → Q v H') :
    (rIn X.K neg x y H Q ∨ rInAny X.K neg x y H Q) ∨ (∃ (c : Nat) (z : Tx), x = .str ⟨#[c]⟩ ∧ y = .str z ∧ Q (.bl (if neg then !decide (c ∈ z.cps.toList) else decide (c ∈ z.cps.toList))) H) ∨ ∃ a o, y = .ref a ∧ DGet H a x o ∧ Q (.bl (if neg then !o.isSome else o.isSome)) H := by
  have eK' : X.K = Γ.K := (eK.trans hK).symm
  have seq : ∀ (ys : List D) (p : Addr) (xs : List V), y = .ref p → (SqL Γ.K H p xs ∨ SqT Γ.K H p xs) → Γ.RpL H xs ys → (∀ c : PyData.canLayAll0 (pdL ys) = true, Dp Γ.K H y (.list (pdL ys)) ∨ Dp Γ.K H y (.tuple (pdL ys))) →
      inSeq d ys (fun b => .v (.bl (if neg then !b else b))) Q0 → rIn X.K neg x y H Q ∨ rInAny X.K neg x y H Q := by
    intro ys p xs ey hs hr hd h
    have deep : SeqAt.shaped d.pd = true ∧ SeqAt.shaped (.list (pdL ys)) = true ∧ Q0 (.v (.bl (if neg then !(ys.any fun y => PyData.eqv y.pd d.pd) else (ys.any fun y => PyData.eqv y.pd d.pd)))) → rInAny X.K neg x y H Q := by
      intro h
      refine ⟨d.pd, pdL ys, by rw [eK']; exact hx.dp h.1, by rw [eK']; exact hd (SeqAt.canLay_of_shaped h.2.1), h.1, h.2.1, ?_⟩
      rw [pdL_any]
      exact k _ h.2.2 _ _ (Same.refl _) (.bl _)
    have flat : d.flat = true ∧ ys.all D.flat = true ∧ Q0 (.v (.bl (if neg then !(ys.any fun y => D.eqf y d) else (ys.any fun y => D.eqf y d)))) → rIn X.K neg x y H Q := by
      intro h
      refine ⟨p, xs, ey, by rw [eK']; exact hs, (hx.flat h.1).flatV h.1, hr.flatV h.2.1, ?_⟩
      rw [RpL.inV (hx.flat h.1) h.1 hr h.2.1]
      exact k _ h.2.2 _ _ (Same.refl _) (.bl _)
    cases d with
    | tup ds => exact .inr (deep h)
    | _ => exact .inl (flat h)
  cases e with
  | lst ys =>
    obtain ⟨p, xs, rfl, h1, h2⟩ := hy.seq
    exact .inl (seq ys p xs rfl (.inl h1) h2 (fun c => .inl (.lst h1 (RpL.dp _ _ c h2))) hg)
  | tup ys =>
    obtain ⟨p, xs, rfl, h1, h2⟩ := hy.tup
    exact .inl (seq ys p xs rfl (.inr h1) h2 (fun c => .inr (.tup h1 (RpL.dp _ _ c h2))) hg)
  | str z =>
    obtain ⟨c, rfl, hq⟩ := hg
    exact .inr (.inl ⟨c, z, hx.str, hy.str, k _ hq _ _ (Same.refl _) (.bl _)⟩)
  | dk kvs =>
    obtain ⟨kk, ek, hq⟩ := hg
    obtain ⟨a, kv, rfl, h1, h2⟩ := hy.dk
    refine .inr (.inr ⟨a, _, rfl, by rw [keyOf_rp hx ek]; exact rd_get (Γ := Γ) h1, ?_⟩)
    rw [look_some h2]
    exact k _ hq _ _ (Same.refl _) (.bl _)
  | _ => exact hg.elim
theorem o_in (hK : S.K = X.K) (hu : X.A.units + 65 < cLine) : OpV S X (compareOp .In) inG := by
  refine ⟨_, (op_in_seq.or (op_inAny hu)).or (op_in_sign.or (op_inD' (by omega))), ?_⟩
  intro Γ H x y d e Q Q0 eK hx hy hg k
  exact in_core (neg := false) hK (f := compareOp .In) (r1 := rEq) (r2 := rEq) (r3 := rEq) (r4 := rEq) eK hx hy hg k
theorem o_nin (hK : S.K = X.K) (hu : X.A.units + 65 < cLine) : OpV S X (compareOp .NotIn) ninG := by
  refine ⟨_, (op_notIn_seq.or (op_ninAny hu)).or (op_notIn_sign.or (op_ninD' (by omega))), ?_⟩
  intro Γ H x y d e Q Q0 eK hx hy hg k
  exact in_core (neg := true) hK (f := compareOp .NotIn) (r1 := rEq) (r2 := rEq) (r3 := rEq) (r4 := rEq) eK hx hy hg k
structure IxV (S : Sg) (X : Cx) (g : VO) : Prop where
  ex : ∃ r : R2, IxR X r ∧ ∀ (Γ : Gm) (H : Hp) (x y : V) (d e : D) (Q : VK) (Q0 : RV → Prop), Γ.K = S.K → RpW Γ H x d → RpW Γ H y e → g d e Q0 → (∀ z, Q0 z → ∀ v H', Same H H' → RpN Γ H H' v z → Q v H') → r x y H Q
def ixG : VO := fun d e Q => match d with
  | .lst xs => match e with
    | .int i => withD (atI xs i) fun z => Q (.v z)
    | _ => False
  | .tup xs => match e with
    | .int i => withD (atI xs i) fun z => Q (.v z)
    | _ => False
  | .str x => match e with
    | .int i => x.length ≤ 1000000 ∧ ∃ c, atI x.cps.toList i = some c ∧ Q (.v (one c))
    | _ => False
  | .dk kvs => ∃ k, keyOf e = some k ∧ withD (look kvs k) fun z => Q (.v z)
  | _ => False
theorem withD_inv {d : Option D} {Q : D → Prop} (h : withD d Q) : ∃ b, d = some b ∧ Q b := by
  cases d with
  | none => exact h.elim
  | some b => exact ⟨b, rfl, h⟩
theorem withD_of {o : Option D} {d : D} {Q : D → Prop} (e : o = some d) (h : Q d) : withD o Q := by rw [e]; exact h
theorem ix_dict (hu : X.A.units + 1 < cLine) : IxR X (fun x y H Q => ∃ a v, x = .ref a ∧ DGet H a y (some v) ∧ Q v H) := by
  rintro value slice pins s σ H x y v u Q I rx ry ⟨a, z, rfl, g, q⟩ hs
  cases (show v = Value.ref a from rx)
  exact tail_any (dict_typeIs I g) PySem.F.slot_dict_getitem.lookup (d_getItem hu I g ry fun w' s3 I3 rw' => ⟨z, H, I3, rw', q⟩) hs
theorem RpL.atI {K : PySem.W.Frag} {tp : Option Tp} {H : Hp} {vs : List V} {ds : List D} {i : Int} {d : D} (r : RpL K tp H vs ds) (e : atI ds i = some d) : ∃ v, L2.atI vs i = some v ∧ Rp K tp H v d := by
  unfold L2.atI at e ⊢
  rw [r.len]
  cases h : ixN ds.length i with
  | none => rw [h] at e; cases e
  | some j =>
    rw [h] at e
    exact r.get e
theorem i_ix (hK : S.K = X.K) (hu : X.A.units + 1 < cLine) : IxV S X ixG := by
  refine ⟨_, ix_seq.or (ix_dict hu), ?_⟩
  intro Γ H x y d e Q Q0 eK hx hy hg k
  have eK' : X.K = Γ.K := (eK.trans hK).symm
  cases d with
  | lst xs =>
    cases e with
    | int i =>
      obtain ⟨z, ez, hq⟩ := withD_inv hg
      obtain ⟨a, vs, rfl, h1, h2⟩ := hx.seq
      obtain ⟨v, ev, rv⟩ := h2.atI ez
      exact .inl (.inl ⟨a, vs, i, v, rfl, hy.int, by rw [eK']; exact h1, ev, k _ hq _ _ (Same.refl _) rv⟩)
    | _ => exact hg.elim
  | tup xs =>
    cases e with
    | int i =>
      obtain ⟨z, ez, hq⟩ := withD_inv hg
      obtain ⟨a, vs, rfl, h1, h2⟩ := hx.tup
      obtain ⟨v, ev, rv⟩ := h2.atI ez
      exact .inl (.inr (.inl ⟨a, vs, i, v, rfl, hy.int, by rw [eK']; exact h1, ev, k _ hq _ _ (Same.refl _) rv⟩))
    | _ => exact hg.elim
  | str z =>
    cases e with
    | int i =>
      obtain ⟨hl, c, ec, hq⟩ := hg
      exact .inl (.inr (.inr ⟨z, i, c, hx.str, hy.int, million hl, ec, k _ hq _ _ (Same.refl _) (.str _)⟩))
    | _ => exact hg.elim
  | dk kvs =>
    obtain ⟨kk, ek, hg⟩ := hg
    obtain ⟨z, ez, hq⟩ := withD_inv hg
    obtain ⟨a, kv, rfl, h1, h2⟩ := hx.dk
    have := look_val h2 kk
    rw [ez] at this
    obtain ⟨v, ev, rv⟩ := this
    refine .inr ⟨a, v, rfl, ?_, k _ hq _ _ (Same.refl _) rv⟩
    rw [keyOf_rp hy ek, ← ev]
    exact rd_get (Γ := Γ) h1
  | _ => exact hg.elim
variable {a b : Expr} {pos : Pos}
theorem fe_ix {g : VO} {ta tb : VT} (ho : IxV S X g) (ha : VE S X a ta) (hb : BE S X b tb) (hs : PlainIx b) : FE S X (.Subscript a b pos) (vOp g ta tb) := by
  obtain ⟨r, h1, h2⟩ := ho.ex
  refine pe_weak (pe_ix h1 ha hb hs) ?_
  rintro σ H Q ⟨Γ, E, Q0, ok, rp, ht, k⟩
  refine ⟨Γ, E, _, ok, rp, ht, fun d E1 hq x H1 kq1 rp1 hx => ?_⟩
  refine ⟨Γ, E1, _, ok, rp1, hq, fun e E2 hq2 y H2 kq2 rp2 hy => ?_⟩
  refine h2 Γ H2 x y d e _ _ ok.k (.v (Rp.kq kq2 _ _ hx)) hy hq2 fun z hz v H' sm hn => ?_
  exact k _ _ hz v H' ((kq1.trans kq2).trans (Kq.same sm)) (rp2.same sm) (hn.rep rp2 sm)
theorem withP_inv {d : Option D} {Q : D → Prop} (h : withP d Q) : ∃ b, d = some b ∧ Q b := by
  cases d with
  | none => exact h.elim
  | some b => exact ⟨b, rfl, h⟩
def vIxN (g : VO) (i : Nat) (tb : VT) : FT := fun E Q => withP (peek E i) fun _ => tb E fun e E2 => withP (peek E2 i) fun d => g d e fun z => Q z E2
theorem fe_ixN {g : VO} {i : Nat} {tb : VT} (ho : IxV S X g) (ha : PE X a (tVar i)) (hb : BE S X b tb) (hs : PlainIx b) : FE S X (.Subscript a b pos) (vIxN g i tb) := by
  obtain ⟨r, h1, h2⟩ := ho.ex
  refine pe_weak (pe_ix h1 ha hb hs) ?_
  rintro σ H Q ⟨Γ, E, Q0, ok, rp, ht, k⟩
  obtain ⟨d0, e0, ht⟩ := withP_inv ht
  obtain ⟨v, hv, _⟩ := peek_at rp e0
  refine ⟨v, hv, ?_⟩
  refine ⟨Γ, E, _, ok, rp, ht, fun e E2 hq2 y H2 kq2 rp2 hy => ?_⟩
  obtain ⟨d, ed, hq2⟩ := withP_inv hq2
  obtain ⟨v', hv', hx⟩ := peek_at rp2 ed
  rw [hv] at hv'
  cases hv'
  refine h2 Γ H2 v y d e _ _ ok.k hx hy hq2 fun z hz v H' sm hn => ?_
  exact k _ _ hz v H' (kq2.trans (Kq.same sm)) (rp2.same sm) (hn.rep rp2 sm)
end
end Va
set_option Elab.async false
set_option linter.all false
set_option maxRecDepth 100000
set_option maxHeartbeats 4000000
namespace Va
open PySem PySem.Spec PyProof.Rows L2 Ind
section
variable {X : Cx} {S : Sg} {e a b : Expr} {es : List Expr} {pos p : Pos}
abbrev VOp := En → (Option Int → En → Prop) → Prop
def liftO (S : Sg) (t : VOp) : TO := fun σ H Q => ∃ (Γ : Gm) (E : En) (Q0 : Option Int → En → Prop), Γ.Ok S ∧ Rep Γ E σ H ∧ t E Q0 ∧ ∀ o E', Q0 o E' → ∀ H', Kq H H' → Rep Γ E' σ H' → Q o H'
theorem po_weak {x : Option Expr} {t t' : TO} (h : PO X x t) (w : ∀ σ H Q, t' σ H Q → t σ H Q) : PO X x t' := ⟨fun pins s σ H Q I q => h.run pins s σ H Q I (w _ _ _ q)⟩
def oNo : VOp := fun E Q => Q none E
def oSo (t : VT) : VOp := fun E Q => t E fun d E1 => match d with
  | .int i => Q (some i) E1
  | _ => False
theorem vo_none : PO X none (liftO S oNo) := by
  refine po_weak po_none ?_
  rintro σ H Q ⟨Γ, E, Q0, ok, rp, ht, k⟩
  exact k _ _ ht _ (Kq.refl _) rp
theorem vo_some {t : VT} (h : VE S X e t) : PO X (some e) (liftO S (oSo t)) := by
  refine po_weak (po_some h) ?_
  rintro σ H Q ⟨Γ, E, Q0, ok, rp, ht, k⟩
  refine ⟨Γ, E, _, ok, rp, ht, fun d E1 hq v H1 kq1 rp1 hv => ?_⟩
  cases d with
  | int i => cases hv; exact ⟨i, rfl, k _ _ hq _ kq1 rp1⟩
  | _ => exact hq.elim
def cutD {α : Type} (xs : List α) (lo hi : Option Int) : List α := (xs.drop (HT.sIx xs.length 0 lo)).take (HT.sIx xs.length xs.length hi - HT.sIx xs.length 0 lo)
def slG (d : D) (lo hi : Option Int) (Q : RV → Prop) : Prop := match d with
  | .lst xs => Q (.fl (cutD xs lo hi))
  | .tup xs => Q (.v (.tup (cutD xs lo hi)))
  | .str x => x.length ≤ 1000000 ∧ Q (.v (.str (cutS x lo hi)))
  | _ => False
theorem RpL.cut {K : PySem.W.Frag} {tp : Option Tp} {H : Hp} {vs : List V} {ds : List D} (h : RpL K tp H vs ds) (lo hi : Option Int) : RpL K tp H (cutV vs lo hi) (cutD ds lo hi) := by
  unfold cutV cutD
  rw [h.len]
  exact (h.drop _).take _
def vSl (t : VT) (l u : VOp) : FT := fun E Q => t E fun d E1 => l E1 fun lo E2 => u E2 fun hi E3 => slG d lo hi fun z => Q z E3
theorem fe_slice {lo hi : Option Expr} {t : VT} {l u : VOp} {p2 : Pos} (hK : S.K = X.K) (he : VE S X e t) (hl : PO X lo (liftO S l)) (hu : PO X hi (liftO S u)) : FE S X (.Subscript e (.Slice lo hi none p2) pos) (vSl t l u) := by
  refine pe_weak (pe_slice (sl_list.or (sl_tupA.or sl_str)) he hl hu) ?_
  rintro σ H Q ⟨Γ, E, Q0, ok, rp, ht, k⟩
  have eK : X.K = Γ.K := (ok.k.trans hK).symm
  refine ⟨Γ, E, _, ok, rp, ht, fun d E1 hq v H1 kq1 rp1 hv => ?_⟩
  refine ⟨Γ, E1, _, ok, rp1, hq, fun lo E2 hq2 H2 kq2 rp2 => ?_⟩
  refine ⟨Γ, E2, _, ok, rp2, hq2, fun hi E3 hq3 H3 kq3 rp3 => ?_⟩
  have hv3 := Rp.kq (kq2.trans kq3) _ _ hv
  have kq := (kq1.trans kq2).trans kq3
  unfold slG at hq3
  split at hq3
  · obtain ⟨p, xs, rfl, h1, h2⟩ := hv3.lst_inv
    refine .inl ⟨p, xs, rfl, by rw [eK]; exact h1.sq, fun q nq => ?_⟩
    have sm := same_upd (o := .lst (cutV xs lo hi)) nq
    exact k _ _ hq3 _ _ (kq.trans (.same sm)) (rp3.same sm) (RpN.rep (x := .fl _) rp3 sm ⟨q, _, rfl, nq, upd_same, RpL.kq (.same sm) _ _ (h2.cut lo hi)⟩)
  · obtain ⟨p, xs, rfl, h1, h2⟩ := hv3.tup_inv
    refine .inr (.inl ⟨p, xs, rfl, by rw [eK]; exact h1, fun w => ?_, fun _ q nq => ?_⟩)
    · refine k _ _ hq3 _ _ kq rp3 ?_
      have e2 : cutV xs lo hi = xs := cut_whole w
      have := h2.cut lo hi
      rw [e2] at this
      exact .tup h1 this
    · have sm := same_upd (o := .tup (cutV xs lo hi)) nq
      exact k _ _ hq3 _ _ (kq.trans (.same sm)) (rp3.same sm) (.tup (.of upd_same) (RpL.kq (.same sm) _ _ (h2.cut lo hi)))
  · cases hv3
    exact .inr (.inr ⟨_, rfl, million hq3.1, k _ _ hq3.2 _ _ kq rp3 (.str _)⟩)
  · exact hq3.elim
abbrev VC := List D → (RV → Prop) → Prop
inductive RpWL (Γ : Gm) (H : Hp) : List V → List D → Prop
  | nil : RpWL Γ H [] []
  | cons {v : V} {d : D} {vs : List V} {ds : List D} : RpW Γ H v d → RpWL Γ H vs ds → RpWL Γ H (v :: vs) (d :: ds)
theorem RpWL.of {Γ : Gm} {H : Hp} : ∀ {vs : List V} {ds : List D}, Γ.RpL H vs ds → RpWL Γ H vs ds
  | _, _, .nil => .nil
  | _, _, .cons h t => .cons (.v h) (RpWL.of t)
structure CallV (S : Sg) (X : Cx) (f : Value) (g : VC) : Prop where
  ex : ∃ r : List V → Hp → VK → Prop, CallR X f r ∧ ∀ (Γ : Gm) (H : Hp) (xs : List V) (ds : List D) (Q : VK) (Q0 : RV → Prop), Γ.K = S.K → RpWL Γ H xs ds → g ds Q0 → (∀ z, Q0 z → ∀ v H', Same H H' → RpN Γ H H' v z → Q v H') → r xs H Q
def vCB (g : VC) (t : VTA) : FT := fun E Q => t E fun ds E1 => g ds fun z => Q z E1
def vCB1 (g : VC) (t : VT) : FT := fun E Q => t E fun d E1 => g [d] fun z => Q z E1
theorem pe_CB {f : Value} {g : VC} {t : VTA} (hc : CallV S X f g) (mk : ∀ {r : List V → Hp → VK → Prop} {t : TA}, CallR X f r → PA X es t → PE X e (tCB r t)) (ha : VA S X es t) : FE S X e (vCB g t) := by
  obtain ⟨r, h1, h2⟩ := hc.ex
  refine pe_weak (mk h1 ha) ?_
  rintro σ H Q ⟨Γ, E, Q0, ok, rp, ht, k⟩
  refine ⟨Γ, E, _, ok, rp, ht, fun ds E1 hq vs H1 kq1 rp1 hvs => ?_⟩
  exact h2 Γ H1 vs ds _ _ ok.k (.of hvs) hq fun z hz v H' sm hn => k _ _ hz v H' (kq1.trans (.same sm)) (rp1.same sm) (hn.rep rp1 sm)
def liftBA (S : Sg) (t : VT) : TA := fun σ H Q => ∃ (Γ : Gm) (E : En) (Q0 : D → En → Prop), Γ.Ok S ∧ Rep Γ E σ H ∧ t E Q0 ∧ ∀ d E', Q0 d E' → ∀ v H', Kq H H' → Rep Γ E' σ H' → RpW Γ H' v d → Q [v] H'
theorem ba_one {t : VT} (h : BE S X a t) (hs : starEach [a] X.env = (false, eval a X.env) :: starEach [] X.env := by rfl) : PA X [a] (liftBA S t) := by
  refine pa_weak (pa_cons h pa_nil hs) ?_
  rintro σ H Q ⟨Γ, E, Q0, ok, rp, ht, k⟩
  exact ⟨Γ, E, _, ok, rp, ht, fun d E1 hq v H1 kq1 rp1 hv => k _ _ hq v H1 kq1 rp1 hv⟩
theorem pe_CB1 {f : Value} {g : VC} {t : VT} (hc : CallV S X f g) (mk : ∀ {r : List V → Hp → VK → Prop} {t : TA}, CallR X f r → PA X [a] t → PE X e (tCB r t)) (ha : BE S X a t) (hs : starEach [a] X.env = (false, eval a X.env) :: starEach [] X.env := by rfl) : FE S X e (vCB1 g t) := by
  obtain ⟨r, h1, h2⟩ := hc.ex
  refine pe_weak (mk h1 (ba_one ha hs)) ?_
  rintro σ H Q ⟨Γ, E, Q0, ok, rp, ht, k⟩
  refine ⟨Γ, E, _, ok, rp, ht, fun d E1 hq v H1 kq1 rp1 hv => ?_⟩
  exact h2 Γ H1 [v] [d] _ _ ok.k (.cons hv .nil) hq fun z hz v H' sm hn => k _ _ hz v H' (kq1.trans (.same sm)) (rp1.same sm) (hn.rep rp1 sm)
def lenG : VC := fun ds Q => match ds with
  | [.lst xs] => Q (.v (.int xs.length))
  | [.tup xs] => Q (.v (.int xs.length))
  | [.str x] => x.length ≤ 1000000 ∧ Q (.v (.int x.length))
  | _ => False
theorem c_len (hK : S.K = X.K) : CallV S X (.builtin "len") lenG := by
  refine ⟨_, call_len_seq.or call_len_str, ?_⟩
  intro Γ H xs ds Q Q0 eK hx hg k
  have eK' : X.K = Γ.K := (eK.trans hK).symm
  unfold lenG at hg
  split at hg
  · match hx with
    | .cons h .nil =>
      obtain ⟨p, ys, rfl, h1, h2⟩ := h.seq
      refine .inl ⟨p, ys, rfl, .inl (by rw [eK']; exact h1), ?_⟩
      rw [h2.len]
      exact k _ hg _ _ (Same.refl _) (.int _)
  · match hx with
    | .cons h .nil =>
      obtain ⟨p, ys, rfl, h1, h2⟩ := h.tup
      refine .inl ⟨p, ys, rfl, .inr (by rw [eK']; exact h1), ?_⟩
      rw [h2.len]
      exact k _ hg _ _ (Same.refl _) (.int _)
  · match hx with
    | .cons h .nil =>
      cases h.str
      exact .inr ⟨_, rfl, million hg.1, k _ hg.2 _ _ (Same.refl _) (.int _)⟩
  · exact hg.elim
def intG : VC := fun ds Q => match ds with
  | [.int i] => Q (.v (.int i))
  | [.bl b] => Q (.v (.int (if b then 1 else 0)))
  | _ => False
theorem c_int : CallV S X (.type "int") intG := by
  refine ⟨_, call_int1, ?_⟩
  intro Γ H xs ds Q Q0 eK hx hg k
  unfold intG at hg
  split at hg
  · match hx with
    | .cons h .nil => cases h.int; exact .inl ⟨_, rfl, k _ hg _ _ (Same.refl _) (.int _)⟩
  · match hx with
    | .cons h .nil => cases h.bl; exact .inr ⟨_, rfl, k _ hg _ _ (Same.refl _) (.int _)⟩
  · exact hg.elim
def maxG : VC := fun ds Q => match ds with
  | [.int i, .int j] => Q (.v (.int (if j > i then j else i)))
  | _ => False
theorem c_max (hc : X.calm = true) : CallV S X (.builtin "max") maxG := by
  refine ⟨_, call_max2 hc, ?_⟩
  intro Γ H xs ds Q Q0 eK hx hg k
  unfold maxG at hg
  split at hg
  · match hx with
    | .cons h (.cons h' .nil) => cases h.int; cases h'.int; exact ⟨_, _, rfl, k _ hg _ _ (Same.refl _) (.int _)⟩
  · exact hg.elim
def minG : VC := fun ds Q => match ds with
  | [.int i, .int j] => Q (.v (.int (if j < i then j else i)))
  | _ => False
theorem c_min (hc : X.calm = true) : CallV S X (.builtin "min") minG := by
  refine ⟨_, call_min2 hc, ?_⟩
  intro Γ H xs ds Q Q0 eK hx hg k
  unfold minG at hg
  split at hg
  · match hx with
    | .cons h (.cons h' .nil) => cases h.int; cases h'.int; exact ⟨_, _, rfl, k _ hg _ _ (Same.refl _) (.int _)⟩
  · exact hg.elim
def D.tyS : D → String
  | .non => "NoneType"
  | .bl _ => "bool"
  | .int _ => "int"
  | .str _ => "str"
  | .tup _ => "tuple"
  | .ptp _ => "tuple"
  | .lst _ => "list"
  | .dk _ => "dict"
  | .tape => "list"
  | .ty _ => "type"
def D.typed : D → Bool
  | .tape => false
  | .ty _ => false
  | _ => true
def tyNames : List D → Option (List String)
  | [] => some []
  | .ty n :: r => (tyNames r).map (n :: ·)
  | _ => none
def kitAll (t : String) : List String → Option Bool
  | [] => some false
  | n :: r => match kitB t n with
    | some true => some true
    | some false => kitAll t r
    | none => none
def isiG : VC := fun ds Q => match ds with
  | [d, .ty n] => d.typed = true ∧ withB (kitAll d.tyS [n]) fun b => Q (.v (.bl b))
  | [d, .tup ts] => d.typed = true ∧ ∃ ns, tyNames ts = some ns ∧ withB (kitAll d.tyS ns) fun b => Q (.v (.bl b))
  | _ => False
theorem RpW.tyX {Γ : Gm} {H : Hp} {v : V} {d : D} (eK : Γ.K = X.K) (h : RpW Γ H v d) (t : d.typed = true) : TyX X.K H v (.type d.tyS) := by
  cases h with
  | l h1 _ => exact .base (.lst h1)
  | k h1 _ => exact .base (.dK h1)
  | v h =>
    cases h with
    | non => exact .base .non
    | bl b => exact .base (.bl b)
    | int i => exact .base (.int i)
    | str x => exact .base (.str x)
    | tup hs ha =>
      rcases hs with (hs | ⟨o, hs⟩) | ⟨o, its, n, hk, hc, _⟩
      · exact .base (.tup hs)
      · exact .fTuple hs
      · exact .kTuple (by rw [← eK]; exact hk) hc
    | ptp hs _ ha => exact .fTuple hs
    | lst hs ha =>
      obtain ⟨o, hs⟩ := hs
      exact .base (.frz hs)
    | dk hs ha => exact .fDict hs
    | tape _ => cases t
    | ty _ => cases t
theorem kitAll_any {K : PySem.W.Frag} {t : String} : ∀ {ns : List String} {b : Bool}, kitAll t ns = some b → PySem.W.kitAny K (.type t) (ns.map Value.type) = some b
  | [], b, h => by cases h; exact kitAny_nil
  | n :: r, b, h => by
    unfold kitAll at h
    cases e : kitB t n with
    | none => rw [e] at h; cases h
    | some c =>
      rw [e] at h
      cases c with
      | true => cases h; exact kitAny_cons (kit_ty e) (fun z => by cases z) (fun _ => rfl)
      | false => exact kitAny_cons (kit_ty e) (fun _ => kitAll_any h) (fun z => by cases z)
theorem kitAll_one {K : PySem.W.Frag} {t n : String} {b : Bool} (h : kitAll t [n] = some b) : PySem.W.kitOne K (.type t) (.type n) = some b := by
  unfold kitAll at h
  cases e : kitB t n with
  | none => rw [e] at h; cases h
  | some c =>
    rw [e] at h
    cases c with
    | true => cases h; exact kit_ty e
    | false => cases h; exact kit_ty e
theorem tyNames_vals {Γ : Gm} {H : Hp} : ∀ {ts : List D} {ns : List String} {vs : List V}, tyNames ts = some ns → Γ.RpL H vs ts → ∀ {us : List Value}, Vals vs us → us = ns.map Value.type
  | [], _, _, e, h, us, r => by cases e; cases h; cases r; rfl
  | .ty n :: ts, ns, _, e, h, us, r => by
    cases h with
    | cons h1 h2 =>
      cases h1
      cases r with
      | cons r1 r2 =>
        unfold tyNames at e
        cases e2 : tyNames ts with
        | none => rw [e2] at e; cases e
        | some ms =>
          rw [e2] at e
          cases e
          rw [show _ = Value.type n from r1, tyNames_vals e2 h2 r2]
          rfl
  | .non :: _, _, _, e, _, _, _ => by cases e
  | .bl _ :: _, _, _, e, _, _, _ => by cases e
  | .int _ :: _, _, _, e, _, _, _ => by cases e
  | .str _ :: _, _, _, e, _, _, _ => by cases e
  | .tup _ :: _, _, _, e, _, _, _ => by cases e
  | .ptp _ :: _, _, _, e, _, _, _ => by cases e
  | .lst _ :: _, _, _, e, _, _, _ => by cases e
  | .dk _ :: _, _, _, e, _, _, _ => by cases e
  | .tape :: _, _, _, e, _, _, _ => by cases e
theorem call_isiS : CallR X (.builtin "isinstance") (fun xs H Q => ∃ (x : V) (tp : Addr) (cs : List V) (t : Value) (b : Bool), xs = [x, .ref tp] ∧ SqT X.K H tp cs ∧ TyX X.K H x t ∧ (∀ us, Vals cs us → PySem.W.kitAny X.K t us = some b) ∧ Q (.bl b) H) := by
  rintro pins s σ H xs us Q I r ⟨x, tp, cs, t, b, rfl, hT, ty, hk, q⟩
  obtain ⟨u1, u2, rfl, r1, r2⟩ := vals2 r
  cases (show u2 = Value.ref tp from r2)
  obtain ⟨P, Z, pz, hx⟩ := kit_of I r1 ty
  obtain ⟨its, rv, ⟨⟨oc, od, dt, sl⟩, h1, h2, n, h3⟩, hz⟩ := I.tuple hT
  simp only at h2 h3
  subst h2 h3
  exact PySem.W.kia_tup Z I.kIn pz h1 (by simpa using hk its rv) hx fun tk => ⟨.bl b, H, I.tok tk, rfl, q⟩
theorem c_isi (hK : S.K = X.K) : CallV S X (.builtin "isinstance") isiG := by
  refine ⟨_, call_isi.or call_isiS, ?_⟩
  intro Γ H xs ds Q Q0 eK hx hg k
  have eK' : Γ.K = X.K := eK.trans hK
  unfold isiG at hg
  split at hg
  · match hx with
    | .cons h (.cons h' .nil) =>
      cases h' with
      | v h' =>
        cases h'
        obtain ⟨b, e, hq⟩ := withB_inv hg.2
        exact .inl ⟨_, _, _, _, b, rfl, .ty _, h.tyX eK' hg.1, kitAll_one e, k _ hq _ _ (Same.refl _) (.bl _)⟩
  · match hx with
    | .cons h (.cons h' .nil) =>
      obtain ⟨p, ys, rfl, h1, h2⟩ := h'.tup
      obtain ⟨ns, en, hg2⟩ := hg.2
      obtain ⟨b, e, hq⟩ := withB_inv hg2
      refine .inr ⟨_, p, ys, _, b, rfl, by rw [← eK']; exact h1, h.tyX eK' hg.1, fun us hv => ?_, k _ hq _ _ (Same.refl _) (.bl _)⟩
      rw [tyNames_vals en h2 hv]
      exact kitAll_any e
  · exact hg.elim
def onL (s : Option SV) (Q : List D → Prop) : Prop := match s with
  | some (.ol ds) => Q ds
  | _ => False
def onD (s : Option SV) (Q : Bool → List (Key × D) → Prop) : Prop := match s with
  | some (.od b ds) => Q b ds
  | _ => False
theorem onL_inv {s : Option SV} {Q : List D → Prop} (h : onL s Q) : ∃ ds, s = some (.ol ds) ∧ Q ds := by
  unfold onL at h
  split at h
  · exact ⟨_, rfl, h⟩
  · exact h.elim
theorem onD_inv {s : Option SV} {Q : Bool → List (Key × D) → Prop} (h : onD s Q) : ∃ b ds, s = some (.od b ds) ∧ Q b ds := by
  unfold onD at h
  split at h
  · exact ⟨_, _, rfl, h⟩
  · exact h.elim
def sApp (i : Nat) (t : VT) : VS := fun V E => onL E.l[i]? fun _ => t E fun d E1 => onL E1.l[i]? fun ds => ds.length < 1000000 ∧ V.nx (E1.set i (.ol (ds ++ [d])))
theorem own_list {Γ : Gm} {E : En} {σ : L2.St} {H : Hp} {i : Nat} {ds : List D} (r : Rep Γ E σ H) (e : E.l[i]? = some (.ol ds)) : ∃ a xs, σ[i]? = some (some (.ref a)) ∧ H a = some (.lst xs) ∧ Γ.RpL H xs ds ∧ Free Γ a := by
  obtain ⟨o, h1, a, xs, rfl, h2, h3, h4⟩ := r.sl i _ e
  exact ⟨a, xs, h1, h2, h3, h4⟩
theorem own_dict {Γ : Gm} {E : En} {σ : L2.St} {H : Hp} {i : Nat} {b : Bool} {ds : List (Key × D)} (r : Rep Γ E σ H) (e : E.l[i]? = some (.od b ds)) : ∃ a kv, σ[i]? = some (some (.ref a)) ∧ H a = some (.dK kv) ∧ RpK Γ.K Γ.tp H kv ds ∧ Free Γ a ∧ (b = true → a ∈ Γ.io) := by
  obtain ⟨o, h1, a, xs, rfl, h2, h3, h4⟩ := r.sl i _ e
  exact ⟨a, xs, h1, h2, h3, h4⟩
theorem Rep.wrL {Γ : Gm} {E : En} {σ : L2.St} {H : Hp} {i : Nat} {ds ds' : List D} {a : Addr} {xs xs' : List V} (r : Rep Γ E σ H) (e : E.l[i]? = some (.ol ds)) (eo : σ[i]? = some (some (.ref a))) (h : H a = some (.lst xs)) (fr : Free Γ a) (h' : Γ.RpL H xs' ds') :
    Kq H (upd H a (.lst xs')) ∧ Rep Γ (E.set i (.ol ds')) σ (upd H a (.lst xs')) := by
  have kq : Kq H (upd H a (.lst xs')) := Kq.upd h trivial
  exact ⟨kq, r.wr e rfl eo h trivial ⟨a, xs', rfl, upd_same, RpL.kq kq _ _ h', fr⟩⟩
theorem Rep.wrD {Γ : Gm} {E : En} {σ : L2.St} {H : Hp} {i : Nat} {b : Bool} {ds ds' : List (Key × D)} {a : Addr} {xs xs' : List (Key × V)} (r : Rep Γ E σ H) (e : E.l[i]? = some (.od b ds)) (eo : σ[i]? = some (some (.ref a))) (h : H a = some (.dK xs)) (fr : Free Γ a ∧ (b = true → a ∈ Γ.io)) (h' : RpK Γ.K Γ.tp H xs' ds') :
    Kq H (upd H a (.dK xs')) ∧ Rep Γ (E.set i (.od b ds')) σ (upd H a (.dK xs')) := by
  have kq : Kq H (upd H a (.dK xs')) := Kq.upd h trivial
  exact ⟨kq, r.wr e rfl eo h trivial ⟨a, xs', rfl, upd_same, RpK.kq kq _ _ h', fr⟩⟩
theorem vs_append {i : Nat} {o : Expr} {t : VT} {apos cpos : Pos} (hK : S.K = X.K) (ho : PE X o (tVar i)) (he : VE S X e t) (hw : swapsWith (.Call (.Attribute o "append" apos) [e] [] cpos) none pos.line X.env = pure false := by rfl)
    (hbase : attributeBase o "append" X.env (eval o X.env) = eval o X.env := by rfl)
    (hfew : ((backTo cpos (starEach [e] X.env)).all (fun x => !x.1) && (backToKw cpos (keywordEach [] X.env)).all (fun x => x.1.isSome)
      && decide (([e] : List Expr).length + ([] : List Keyword).length + (if ([] : List Keyword).isEmpty then 0 else 1) < 30)) = true := by rfl)
    (hline : (apos.endLine == cpos.line) = true := by rfl) (hs : starEach [e] X.env = (false, eval e X.env) :: starEach [] X.env := by rfl) (hplain : (backTo cpos (starEach [] X.env)).any (·.1) = false := by rfl) :
    VSt S X (.Expr (.Call (.Attribute o "append" apos) [e] [] cpos) pos) (sApp i t) := by
  refine ps_weak (ps_expr (pe_bm PySem.F.plainAttrs_list PySem.F.slot_list_append PySem.F.type_list_append mt_append ho (va_cons (S := S) he va_nil hs) hbase hfew hline hs hplain) hw) ?_
  rintro D0 σ H ⟨Γ, E, V, ok, rp, ht, k⟩
  obtain ⟨ds0, e0, ht⟩ := onL_inv ht
  obtain ⟨p, xs0, hv, hl0, _, _⟩ := own_list rp e0
  refine ⟨_, hv, .inl ⟨rfl, xs0, .of hl0⟩, ?_⟩
  refine ⟨Γ, E, fun ds E1 => match ds with
    | [d] => onL E1.l[i]? fun ds => ds.length < 1000000 ∧ V.nx (E1.set i (.ol (ds ++ [d])))
    | _ => False, ok, rp, ht, fun ds E1 hq vs H1 kq1 rp1 hvs => ?_⟩
  · match ds, hq, vs, hvs with
    | [d], hq, [u], .cons hu .nil =>
      obtain ⟨ds1, e1, hsz, hq⟩ := onL_inv hq
      obtain ⟨p1, xs1, hv1, hl1, hr1, fr1⟩ := own_list rp1 e1
      rw [hv] at hv1
      cases hv1
      obtain ⟨kq2, rp2⟩ := rp1.wrL e1 hv hl1 fr1 (hr1.app (.cons hu .nil))
      refine ⟨p, xs1, u, rfl, rfl, hl1, millionL (by rw [hr1.len]; exact hsz), ?_⟩
      exact k.nx _ hq σ _ (kq1.trans kq2) rp2
end
end Va
set_option Elab.async false
set_option linter.all false
set_option maxRecDepth 100000
set_option maxHeartbeats 4000000
namespace Va
open PySem PySem.Spec PyProof.Rows L2 Ind GenW
def SV.shut (s : SV) : SV := if s.own then .no else s
def wipeE (E : En) : List Nat → En
  | [] => E
  | v :: vs => (wipeE E vs).set v .no
def shutE (E : En) : En := ⟨E.l.map SV.shut, E.c⟩
def blkE (E : En) (vs : List Nat) : En := wipeE (shutE E) vs
def fzE (E : En) (i : Nat) : En := match E.l[i]? with
  | some s => E.set i s.fz
  | none => E
section
variable {Γ : Gm} {E : En} {σ : L2.St} {H H' : Hp}
theorem Rep.setNo (r : Rep Γ E σ H) (i : Nat) (o : Option V) : Rep Γ (E.set i .no) (σ.set i o) H := by
  refine ⟨r.base, by simp [En.set, r.len], r.few, fun j s e => ?_, fun j k s t a e1 e2 o1 o2 h1 h2 => ?_⟩
  · rcases get_set e with ⟨rfl, rfl, hi⟩ | ⟨ne, e⟩
    · exact ⟨o, List.getElem?_set_self (by rw [← r.len]; exact hi), trivial⟩
    · rw [List.getElem?_set_ne ne]
      exact r.sl j s e
  · rcases get_set e1 with ⟨_, rfl, _⟩ | ⟨n1, e1⟩
    · cases o1
    · rcases get_set e2 with ⟨_, rfl, _⟩ | ⟨n2, e2⟩
      · cases o2
      · rw [List.getElem?_set_ne n1] at h1
        rw [List.getElem?_set_ne n2] at h2
        exact r.dis j k s t a e1 e2 o1 o2 h1 h2
theorem Rep.wipe (r : Rep Γ E σ H) : ∀ vs : List Nat, Rep Γ (wipeE E vs) (L2.wipe σ vs) H
  | [] => r
  | v :: vs => (Rep.wipe r vs).setNo v none
abbrev Gm.blk (Γ : Gm) (H : Hp) : Gm := { Γ with io := [], H0 := H }
theorem shut_own {s : SV} : s.shut.own = false := by
  cases s <;> rfl
theorem Rep.enter (r : Rep Γ E σ H) : Rep (Γ.blk H) (shutE E) σ H := by
  refine ⟨⟨fun _ _ _ _ z => z, Kq.refl _, r.base.tape, r.base.tabs⟩, by simp [shutE, r.len], r.few, fun i s e => ?_, fun i j s t a e1 _ o1 _ _ _ => ?_⟩
  · have e : (E.l.map SV.shut)[i]? = some s := e
    rw [List.getElem?_map] at e
    cases h : E.l[i]? with
    | none => rw [h] at e; cases e
    | some s0 =>
      rw [h] at e
      cases e
      obtain ⟨o, h1, h2⟩ := r.sl i s0 h
      refine ⟨o, h1, ?_⟩
      cases s0 with
      | no => trivial
      | v d => exact h2
      | ol ds => trivial
      | od b ds => trivial
      | ex b pl => exact h2
      | q b => exact h2
  · have e1 : (E.l.map SV.shut)[i]? = some s := e1
    rw [List.getElem?_map] at e1
    cases h : E.l[i]? with
    | none => rw [h] at e1; cases e1
    | some s0 =>
      rw [h] at e1
      cases e1
      rw [shut_own] at o1
      cases o1
theorem Rep.leave {c : Nat} (r : Rep Γ E σ H) (b : Base (Γ.blk H) H') (f : Few Γ.tp c H') : Rep Γ ⟨E.l, c⟩ σ H' := by
  refine ⟨⟨fun c o n1 n2 h => b.ext c o n1 (by simp) (r.base.ext c o n1 n2 h), r.base.kq.trans b.kq, b.tape, b.tabs⟩, r.len, f, fun i s e => ?_, r.dis⟩
  obtain ⟨o, h1, h2⟩ := r.sl i s e
  refine ⟨o, h1, h2.stay b.kq fun a u ow eo h => ?_⟩
  obtain ⟨c, _, e1, _, _, fr⟩ := h2.own_at ow
  rw [e1] at eo
  cases eo
  exact b.ext _ _ fr.nsp (by simp) h
theorem wipe_in : ∀ {vs : List Nat} {σ : L2.St} {j : Nat}, j ∈ vs → j < σ.length → (L2.wipe σ vs)[j]? = some none
  | v :: vs, σ, j, hj, hl => by
    show ((L2.wipe σ vs).set v none)[j]? = some none
    by_cases e : v = j
    · subst e
      rw [List.getElem?_set_self (by rw [wipe_length]; exact hl)]
    · rw [List.getElem?_set_ne e]
      rcases List.mem_cons.mp hj with h | h
      · exact absurd h.symm e
      · exact wipe_in h hl
theorem wipe_only {vs : List Nat} {σ σ' : L2.St} (o : Only vs (L2.wipe σ vs) σ') : L2.wipe σ' vs = L2.wipe σ vs := by
  have len : σ'.length = σ.length := by rw [o.len, wipe_length]
  apply List.ext_getElem?
  intro j
  by_cases hj : j ∈ vs
  · by_cases hl : j < σ.length
    · rw [wipe_in hj hl, wipe_in hj (by rw [len]; exact hl)]
    · rw [List.getElem?_eq_none (by rw [wipe_length]; omega), List.getElem?_eq_none (by rw [wipe_length]; omega)]
  · rw [wipe_out hj, o.at_ j hj]
end
section
variable {X : Cx} {S : Sg}
def cYes : VTT := fun E Q => Q true E
abbrev VTs (S : Sg) (X : Cx) (ifs : List Expr) (t : VTT) : Prop := PTs X ifs (liftT S t)
theorem vts_nil : VTs S X [] cYes := by
  refine ⟨fun pins s σ H Q I h => ?_⟩
  obtain ⟨Γ, E, Q0, ok, rp, ht, k⟩ := h
  exact (pts_nil (X := X)).run pins s σ H Q I (k true E ht H (Kq.refl _) rp)
theorem vts_one {c : Expr} {t : VTT} (h : VB S X c t) : VTs S X [c] t := pts_one h
def vLc (vi : VI) (g : VG) (c : VTT) (el : VT) (vs : List Nat) : FT := fun E Q => vi E fun ds E1 => ds.length < 1000000 ∧ ∃ P : Nat → List D → Nat → Prop, P 0 [] E1.c ∧
  (∀ i d acc k, ds[i]? = some d → P i acc k → acc.length ≤ i → g d (blkE ⟨E1.l, k⟩ vs) fun E2 => c E2 fun b E3 => (b = true → el E3 fun x E4 => P (i + 1) (acc ++ [x]) E4.c) ∧ (b = false → P (i + 1) acc E3.c)) ∧
  ∀ acc k, P ds.length acc k → acc.length ≤ ds.length → Q (.fl acc) ⟨E1.l, k⟩
theorem lc_lift {vi : VI} {g : VG} {c : VTT} {el : VT} {vs : List Nat} {σ : L2.St} {H : Hp} {Q : VK} (h : liftF S (vLc vi g c el vs) σ H Q) : tLc (liftI S vi) (liftG S vs g) (liftT S c) (liftV S el) vs σ H Q := by
  obtain ⟨Γ, E, Q0, ok, rp, ht, k⟩ := h
  refine ⟨Γ, E, _, ok, rp, ht, fun ds E1 ⟨hsz, P, p0, ps, pn⟩ J H1 kq1 rp1 it A nA => ?_⟩
  obtain ⟨frA, loA⟩ := rp1.fresh nA
  have sm0 := same_upd (o := .lst []) nA
  refine ⟨fun i m H' => m = ds.length - i ∧ i ≤ ds.length ∧ ∃ acc xs q, P i acc q ∧ acc.length ≤ i ∧ H' A = some (.lst xs) ∧ Γ.RpL H' xs acc ∧ Kq H1 H' ∧ Rep Γ ⟨E1.l, q⟩ σ H', ⟨_, rfl, Nat.zero_le _, [], [], E1.c, p0, Nat.le_refl _, upd_same, .nil, Kq.same sm0, rp1.same sm0⟩, ?_⟩
  rintro i m H' ⟨rfl, hi, acc, xs, q0, pi, la, hA, hx, kq', rp'⟩
  by_cases hlt : i < ds.length
  · refine .inr ⟨it.go i H' hlt kq', fun H2 => i + 1 ≤ ds.length ∧ ∃ acc xs q, P (i + 1) acc q ∧ acc.length ≤ i + 1 ∧ H2 A = some (.lst xs) ∧ Γ.RpL H2 xs acc ∧ Kq H1 H2 ∧ Rep Γ ⟨E1.l, q⟩ σ H2, fun H2 h => ⟨_, by omega, rfl, h⟩, fun x H2 y => ?_⟩
    obtain ⟨d, ed, rd, sm⟩ := it.yld i H' x H2 hlt kq' y
    have rp2 := rp'.same sm
    have okb : (Γ.blk H2).Ok S := ⟨ok.k, ok.b, ok.t⟩
    refine ⟨Γ.blk H2, blkE ⟨E1.l, q0⟩ vs, d, _, okb, rp2.enter.wipe vs, rd, ps i d acc q0 ed pi la, fun E2 q2 σ2 r2 o2 => ⟨wipe_only o2, ?_⟩⟩
    refine ⟨Γ.blk H2, E2, _, okb, r2, q2, fun b E3 q3 H3 kq3 r3 => ?_⟩
    have kq2 := kq'.trans (Kq.same sm)
    cases b with
    | true =>
      refine iteT ⟨Γ.blk H2, E3, _, okb, r3, q3.1 rfl, fun z E4 q4 v H4 kq4 r4 hv => ?_⟩
      have hA4 : H4 A = some (.lst xs) := r4.base.ext A _ frA.nsp (by simp) (sm _ _ hA)
      have rpl := rp2.leave r4.base r4.few
      have kqu : Kq H4 (upd H4 A (.lst (xs ++ [v]))) := Kq.upd hA4 trivial
      have kq4' := (kq3.trans kq4)
      have hx4 : Γ.RpL H4 xs acc := RpL.kq ((Kq.same sm).trans kq4') _ _ hx
      refine ⟨xs, hA4, millionL (by rw [hx4.len]; omega), hlt, acc ++ [z], xs ++ [v], E4.c, q4, by simp; omega, upd_same, RpL.kq kqu _ _ (hx4.app (.cons hv .nil)), (kq2.trans kq4').trans kqu, rpl.lone hA4 trivial frA loA⟩
    | false =>
      refine iteF ⟨hlt, acc, xs, E3.c, q3.2 rfl, by omega, r3.base.ext A _ frA.nsp (by simp) (sm _ _ hA), RpL.kq ((Kq.same sm).trans kq3) _ _ hx, kq2.trans kq3, rp2.leave r3.base r3.few⟩
  · have e : i = ds.length := by omega
    subst e
    exact .inl ⟨it.stop H' kq', k _ _ (pn acc q0 pi la) _ _ (kq1.trans kq') rp' ⟨A, rfl, ⟨A, xs, rfl, hA, hx, frA⟩, loA⟩⟩
variable {elt tg iter : Expr} {ifs : List Expr} {scope : Scope} {own : List (PySem.Str × Nat)} {pos spos py : Pos} {vi : VI} {g : VG} {c : VTT} {el : VT}
theorem fe_lc (hc : X.calm = true) (hN : X.N.Nodup) (hi : VIt S X tg iter vi) (ok : BlkOk X.N X.env.scope scope own)
    (hg : ∀ (s : Shared) (H : Hp) (C : Addr) (cl : List (PySem.Str × Addr)) (fp : List Addr), PG (X.blk s H scope (compEnvC scope cl C X.env) fp) tg (liftG S (own.map (·.2)) g))
    (ht : ∀ (s : Shared) (H : Hp) (C : Addr) (cl : List (PySem.Str × Addr)) (fp : List Addr), VTs S (X.blk s H scope (compEnvC scope cl C X.env) fp) ifs c)
    (he : ∀ (s : Shared) (H : Hp) (C : Addr) (cl : List (PySem.Str × Addr)) (fp : List Addr), VE S (X.blk s H scope (compEnvC scope cl C X.env) fp) elt el) (hs : ∀ x, foldedSetIterable iter X.env x = pure x := by intro _; rfl) :
    FE S X (.ListComp elt [⟨tg, iter, ifs, 0⟩] scope pos) (vLc vi g c el (own.map (·.2))) := pe_weak (pe_lc hc hN hi ok hg ht he hs) fun _ _ _ h => lc_lift h
theorem vs_setLc {i : Nat} {y : PySem.Str} (hc : X.calm = true) (hN : X.N.Nodup) (hy : X.N[i]? = some y) (hyl : X.env.scope.names.lookup y = some .local)
    (hsw : swapsWith (.ListComp elt [⟨tg, iter, ifs, 0⟩] scope pos) (some (.Name y py)) spos.line X.env = pure true) (hi : VIt S X tg iter vi) (ok : BlkOk X.N X.env.scope scope own)
    (hg : ∀ (s : Shared) (H : Hp) (C : Addr) (cl : List (PySem.Str × Addr)) (fp : List Addr), PG (X.blk s H scope (compEnvC scope cl C X.env) fp) tg (liftG S (own.map (·.2)) g))
    (ht : ∀ (s : Shared) (H : Hp) (C : Addr) (cl : List (PySem.Str × Addr)) (fp : List Addr), VTs S (X.blk s H scope (compEnvC scope cl C X.env) fp) ifs c)
    (he : ∀ (s : Shared) (H : Hp) (C : Addr) (cl : List (PySem.Str × Addr)) (fp : List Addr), VE S (X.blk s H scope (compEnvC scope cl C X.env) fp) elt el) (hs : ∀ x, foldedSetIterable iter X.env x = pure x := by intro _; rfl) :
    VSt S X (.Assign [.Name y py] (.ListComp elt [⟨tg, iter, ifs, 0⟩] scope pos) spos) (sSet i (vLc vi g c el (own.map (·.2)))) := by
  refine ps_weak (ps_setLc hc hN hy hyl hsw hi ok hg ht he hs) ?_
  rintro D σ H ⟨Γ, E, V, ok, r, h, k⟩
  refine lc_lift ⟨Γ, E, _, ok, r, h, fun d E1 h1 v H1 q1 r1 hv => ?_⟩
  exact k.nx _ h1 _ H1 q1 (hv.set r1 i)
theorem fz_any {Γ : Gm} {E : En} {σ : L2.St} {H : Hp} (r : Rep Γ E σ H) (i : Nat) : (Rep Γ (fzE E i) σ H) ∨ ∃ a u, σ[i]? = some (some (.ref a)) ∧ H a = some u ∧ Mut (some u) ∧ ∀ o, Rep Γ (fzE E i) σ (upd H a (.frz o u)) := by
  unfold fzE
  cases h : E.l[i]? with
  | none => exact .inl r
  | some s =>
    obtain ⟨o, h1, h2⟩ := r.sl i s h
    have hi := (List.getElem?_eq_some_iff.mp h)
    have same : E.set i s = E := by
      show (⟨E.l.set i s, E.c⟩ : En) = E
      rw [show E.l.set i s = E.l from ?_]
      apply List.ext_getElem?
      intro j
      by_cases e : i = j
      · subst e
        rw [List.getElem?_set_self hi.1, h]
      · rw [List.getElem?_set_ne e]
    cases s with
    | no => exact .inl (by show Rep Γ (E.set i .no) σ H; rw [same]; exact r)
    | v d => exact .inl (by show Rep Γ (E.set i (.v d)) σ H; rw [same]; exact r)
    | ex b pl => exact .inl (by show Rep Γ (E.set i (.ex b pl)) σ H; rw [same]; exact r)
    | q b => exact .inl (by show Rep Γ (E.set i (.q b)) σ H; rw [same]; exact r)
    | ol ds =>
      obtain ⟨p, u, rfl, hu, mu, fr⟩ := h2.own_at rfl
      exact .inr ⟨p, u, h1, hu, mu, fun o => (r.lock h rfl h1 hu mu).1⟩
    | od b ds =>
      obtain ⟨p, u, rfl, hu, mu, fr⟩ := h2.own_at rfl
      exact .inr ⟨p, u, h1, hu, mu, fun o => (r.lock h rfl h1 hu mu).1⟩
def vFz (i : Nat) (t : FT) : FT := fun E Q => t (fzE E i) Q
theorem fe_fz {e : Expr} {t : FT} (i : Nat) (h : FE S X e t) : FE S X e (vFz i t) := by
  refine pe_weak (pe_lockS i h) ?_
  rintro σ H Q ⟨Γ, E, Q0, ok, rp, ht, k⟩
  rcases fz_any rp i with r | ⟨p, u, h1, h2, h3, h4⟩
  · exact .inl ⟨Γ, _, Q0, ok, r, ht, k⟩
  · exact .inr ⟨p, u, h1, h2, h3, fun o => ⟨Γ, _, Q0, ok, h4 o, ht, fun r E' q v H' kq => k r E' q v H' ((Kq.upd h2 h3).trans kq)⟩⟩
def vFzV (i : Nat) (t : VT) : VT := fun E Q => t (fzE E i) Q
theorem ve_fz {e : Expr} {t : VT} (i : Nat) (h : VE S X e t) : VE S X e (vFzV i t) := by
  refine pe_weak (pe_lockS i h) ?_
  rintro σ H Q ⟨Γ, E, Q0, ok, rp, ht, k⟩
  rcases fz_any rp i with r | ⟨p, u, h1, h2, h3, h4⟩
  · exact .inl ⟨Γ, _, Q0, ok, r, ht, k⟩
  · exact .inr ⟨p, u, h1, h2, h3, fun o => ⟨Γ, _, Q0, ok, h4 o, ht, fun r E' q v H' kq => k r E' q v H' ((Kq.upd h2 h3).trans kq)⟩⟩
theorem ps_lockS {st : Stmt} {t : TS} (i : Nat) (h : PS X st t) : PS X st (fun D σ H => t D σ H ∨ ∃ a u, σ[i]? = some (some (.ref a)) ∧ H a = some u ∧ Mut (some u) ∧ ∀ o, t D σ (upd H a (.frz o u))) := by
  refine ⟨fun pins s σ H D I q => ?_⟩
  rcases q with q | ⟨a, u, _, hu, mu, q⟩
  · exact h.run pins s σ H D I q
  · obtain ⟨o, I2⟩ := I.lock hu mu
    exact h.run pins s σ _ D I2 (q o)
def sFz (i : Nat) (t : VS) : VS := fun V E => t V (fzE E i)
theorem vs_fz {st : Stmt} {t : VS} (i : Nat) (h : VSt S X st t) : VSt S X st (sFz i t) := by
  refine ps_weak (ps_lockS i h) ?_
  rintro D σ H ⟨Γ, E, V, ok, rp, ht, k⟩
  rcases fz_any rp i with r | ⟨p, u, h1, h2, h3, h4⟩
  · exact .inl ⟨Γ, _, V, ok, r, ht, k⟩
  · exact .inr ⟨p, u, h1, h2, h3, fun o => ⟨Γ, _, V, ok, h4 o, ht, k.kq (Kq.upd h2 h3)⟩⟩
def vGen (vi : VI) (g : VG) (el : VT) (vs : List Nat) (ans : List Nat → (Nat → Bool) → Bool) : VT := fun E Q => vi E fun ds E1 => ∃ f : Nat → Bool, (∀ i d, ds[i]? = some d → g d (blkE E1 vs) fun E2 => el E2 fun x E3 => x = .bl (f i) ∧ E3.c = E1.c) ∧ Q (.bl (ans (List.range ds.length) f)) E1
theorem gen_lift {P : Addr} {vs : List Nat} {ans : List Nat → (Nat → Bool) → Bool} (hP : P ∈ S.tabs) {σ : L2.St} {H : Hp} {Q : VK} (h : liftV S (vGen vi g el vs ans) σ H Q) : IndG.genR P (liftI S vi) (liftG S vs g) (liftV S el) vs ans σ H Q := by
  obtain ⟨Γ, E, Q0, ok, rp, ht, k⟩ := h
  refine ⟨Γ, E, _, ok, rp, ht, fun ds E1 ⟨f, hf, hq⟩ J H1 kq1 rp1 it => ⟨rp1.base.tabs P (by rw [ok.t]; exact hP), fun H2 tb => ?_⟩⟩
  have hPg : P ∈ Γ.tabs := by rw [ok.t]; exact hP
  have x2 : Ext Γ E1.c H1 H2 := by
    have ne : ∀ b, ¬ Γ.sp b → b ≠ P := fun b n e => n (.inr (e ▸ hPg))
    obtain ⟨ps0, hp0, _⟩ := rp1.base.tabs P hPg
    refine ⟨fun b o n h => by rw [tb.2 b (ne b n)]; exact h, fun t e => ?_, few_same rp1.few rp1.base.tape fun t e o h => by
      obtain ⟨ns, p, n, s, h1, h2, h3⟩ := rp1.base.tape t e
      rw [tb.2 t.l (ne_of h2 hp0 (fun z => nomatch z))]; exact h, fun P' hP' => ?_⟩
    · obtain ⟨ns, p, n, s, h1, h2, h3⟩ := rp1.base.tape t e
      refine ⟨ns, p, n, s, by rw [tb.2 t.a (ne_of h1 hp0 (fun z => nomatch z))]; exact h1, by rw [tb.2 t.l (ne_of h2 hp0 (fun z => nomatch z))]; exact h2, h3⟩
    · by_cases e : P' = P
      · subst e; exact tb.1
      · obtain ⟨ps, h1, h2⟩ := rp1.base.tabs P' hP'
        exact ⟨ps, by rw [tb.2 P' e]; exact h1, h2⟩
  have kq2 := x2.kq rp1.base
  refine ⟨ds.length, f, fun j H3 => Kq H1 H3 ∧ Rep Γ E1 σ H3, ⟨kq2, rp1.call x2⟩, fun j H3 hj ⟨kq3, rp3⟩ => ⟨it.go j H3 hj kq3, fun x H4 y => ?_⟩, fun H3 ⟨kq3, rp3⟩ => it.stop H3 kq3, fun j H3 ⟨kq3, rp3⟩ => k _ _ hq _ _ (kq1.trans kq3) rp3 (.bl _)⟩
  obtain ⟨d, ed, rd, sm⟩ := it.yld j H3 x H4 hj kq3 y
  have rp4 := rp3.same sm
  have okb : (Γ.blk H4).Ok S := ⟨ok.k, ok.b, ok.t⟩
  refine ⟨Γ.blk H4, blkE E1 vs, d, _, okb, rp4.enter.wipe vs, rd, hf j d ed, fun E2 q2 σ2 r2 o2 => ⟨wipe_only o2, ?_⟩⟩
  refine ⟨Γ.blk H4, E2, _, okb, r2, q2, fun z E3 q3 v H5 kq5 r5 hv => ?_⟩
  obtain ⟨rfl, q3⟩ := q3
  cases hv
  have := rp4.leave r5.base r5.few
  rw [q3] at this
  exact ⟨rfl, (kq3.trans (Kq.same sm)).trans kq5, this⟩
variable {cc P : Addr} {k : Nat} {p gpos : Pos}
theorem ve_all (hP : P ∈ S.tabs) (hc : X.calm = true) (hN : X.N.Nodup) (hr : Room k X.A) (TB : GxR.TabB X.base X.mg cc P) (hcode : X.env.code = .ref cc) (hg : Gl X "all") (hm : X.mg "all" = none) (hb : bootBuiltins "all" = some (.builtin "all")) (ok : BlkOk X.N X.env.scope scope own)
    (nocell : ∀ y ∈ scope.names, y.2 ≠ .cell) (dot : scope.names.lookup (".0" : PySem.Str) = some NameKind.local) (hco : scope.isCoroutine = false) (hi : VIt S X tg iter vi) (hs : ∀ v, genFold iter X.env v = pure v)
    (pg : ∀ (s : Shared) (H : Hp) (C : Addr) (cl : List (PySem.Str × Addr)) (code : Value) (fp : List Addr), PG (IndG.genC X (genEnv scope cl C code builtinsNs X.env) s H fp) tg (liftG S (own.map (·.2)) g))
    (pe : ∀ (s : Shared) (H : Hp) (C : Addr) (cl : List (PySem.Str × Addr)) (code : Value) (fp : List Addr), VE S (IndG.genC X (genEnv scope cl C code builtinsNs X.env) s H fp) elt el)
    (he : starEach [IndG.gx elt tg iter scope gpos] X.env = (false, eval (IndG.gx elt tg iter scope gpos) X.env) :: starEach [] X.env := by rfl) :
    VE S X (.Call (.Name "all" p) [IndG.gx elt tg iter scope gpos] [] pos) (vGen vi g el (own.map (·.2)) List.all) := pe_weak (IndG.pe_allG hc hN hr TB hcode hg hm hb ok nocell dot hco hi hs pg pe he) fun _ _ _ h => gen_lift hP h
theorem ve_any (hP : P ∈ S.tabs) (hc : X.calm = true) (hN : X.N.Nodup) (hr : Room k X.A) (TB : GxR.TabB X.base X.mg cc P) (hcode : X.env.code = .ref cc) (hg : Gl X "any") (hm : X.mg "any" = none) (hb : bootBuiltins "any" = some (.builtin "any")) (ok : BlkOk X.N X.env.scope scope own)
    (nocell : ∀ y ∈ scope.names, y.2 ≠ .cell) (dot : scope.names.lookup (".0" : PySem.Str) = some NameKind.local) (hco : scope.isCoroutine = false) (hi : VIt S X tg iter vi) (hs : ∀ v, genFold iter X.env v = pure v)
    (pg : ∀ (s : Shared) (H : Hp) (C : Addr) (cl : List (PySem.Str × Addr)) (code : Value) (fp : List Addr), PG (IndG.genC X (genEnv scope cl C code builtinsNs X.env) s H fp) tg (liftG S (own.map (·.2)) g))
    (pe : ∀ (s : Shared) (H : Hp) (C : Addr) (cl : List (PySem.Str × Addr)) (code : Value) (fp : List Addr), VE S (IndG.genC X (genEnv scope cl C code builtinsNs X.env) s H fp) elt el)
    (he : starEach [IndG.gx elt tg iter scope gpos] X.env = (false, eval (IndG.gx elt tg iter scope gpos) X.env) :: starEach [] X.env := by rfl) :
    VE S X (.Call (.Name "any" p) [IndG.gx elt tg iter scope gpos] [] pos) (vGen vi g el (own.map (·.2)) List.any) := pe_weak (IndG.pe_anyG hc hN hr TB hcode hg hm hb ok nocell dot hco hi hs pg pe he) fun _ _ _ h => gen_lift hP h
end
end Va
set_option Elab.async false
set_option linter.all false
set_option maxRecDepth 100000
set_option maxHeartbeats 4000000
namespace Va
open PySem PySem.Spec PyProof.Rows L2 Ind
inductive Er where
  | own (C : Addr)
  | fld (C : Addr) (f : Tx) (d : D)
def Er.cls : Er → Addr
  | .own C => C
  | .fld C _ _ => C
def XRep (K : PySem.W.Frag) (tp : Option Tp) (H : Hp) (cls : Value) (d : Option Addr) : Er → Prop
  | .own C => cls = .ref C ∧ d = none
  | .fld C f x => cls = .ref C ∧ ∃ dd ob v, d = some dd ∧ H dd = some (.frz ob (.xd [(f, v)])) ∧ Rp K tp H v x
abbrev XQ := Er → En → Prop
def XOk (Γ : Gm) (W : WX) (Xq : XQ) (H : Hp) : Prop := ∀ e E, Xq e E → ∀ cls d σ' H', Kq H H' → Rep Γ E σ' H' → XRep Γ.K Γ.tp H' cls d e → W cls d σ' H'
theorem XOk.kq {Γ : Gm} {W : WX} {Xq : XQ} {H H' : Hp} (k : XOk Γ W Xq H) (q : Kq H H') : XOk Γ W Xq H' := fun e E h cls d σ2 H2 q2 r x => k e E h cls d σ2 H2 (q.trans q2) r x
abbrev VSX := Ve → XQ → En → Prop
section
variable {X : Cx} {S : Sg} {W : WX} {e : Expr} {st : Stmt} {rest : List Stmt} {pos : Pos}
variable {es : List Expr}
abbrev VMX := List D → Nat → (D → Nat → Prop) → (Er → Nat → Prop) → Prop
def spVX (S : Sg) (m : VMX) : Sp := fun vs H Q Ew => ∃ (tp : Option Tp) (ds : List D) (c : Nat) (Q0 : D → Nat → Prop) (X0 : Er → Nat → Prop), RpL S.K tp H vs ds ∧ (∀ t, tp = some t → TapeV S.b H t) ∧ Few tp c H ∧ (∀ P ∈ S.tabs, GxR.TabG H P) ∧ m ds c Q0 X0 ∧
  (∀ d c', Q0 d c' → ∀ v H', Ext ⟨S.K, S.b, tp, S.tabs, [], H⟩ c' H H' → Rp S.K tp H' v d → Q v H') ∧ (∀ e c', X0 e c' → ∀ cls d H', Ext ⟨S.K, S.b, tp, S.tabs, [], H⟩ c' H H' → XRep S.K tp H' cls d e → Ew cls d H')
end
section
variable {P : Program} {w : World} {K : PySem.W.Frag} {mg : PySem.Str → Option Value} {base : Heap} {S : Sg} {x qual : PySem.Str} {st : Stmt} {f : Addr} {fd : FuncData} {N ps : List PySem.Str} {k : Nat} {m : VMX} {T : VSX}
end
section
variable {X : Cx} {S : Sg} {x n : PySem.Str} {c : Value} {i : Nat} {body suite : List Stmt} {b₀ : Stmt} {np pos pos' : Pos}
def Held (oe : Obj) (C : Addr) : Prop := oe.cls = .ref C ∧ (∃ vs, oe.data = .fields vs) ∧ oe.dict = none
end
section
variable {X : Cx} {S : Sg}
end
end Va
set_option Elab.async false
set_option linter.all false
set_option maxRecDepth 100000
set_option maxHeartbeats 4000000
namespace Va
open PySem PySem.Spec PyProof.Rows L2 Ind
section
variable {prog : Program} {w : World} {A : Around} {E : Value → Shared → Prop} {s : Shared} {T : String} {r d : Addr} {n : Nat} {P : Nat → Value → Prop} {OK : Heap → Prop}
theorem collect_src {Q : List Value → Shared → Prop} (K : PySem.W.KdlSrc prog w T r d n P OK) (hh : A.handled = none) (hok : OK s.heap) (hn : n ≤ sizeLine)
    (hQ : ∀ (h' : Heap) (tk : Nat) (acc : Array Value), (∀ b o, s.heap.get? b = some o → h'.get? b = some o) → ItemsOf P acc n → Q acc.toList { s with heap := h', toks := tk }) : wpAny (model prog w) A (collect (.ref r)) Q E s := by
  unfold collect; refine wpAny_bind (wpAny_runValue (codeAny_builtin F.entry_proto_collect ?_)); rw [Around.under_plainId F.plain_proto_collect _]
  show wpAny _ A.in1 (newList [] >>= fun l => again (.builtin "list.__iadd__" ⟨[l, .ref r], []⟩)) (_) _ s
  refine wpAny_bind (wpAny_newObj_type ?_)
  refine wpAny_pure ⟨plainId_quiet F.plain_list_iadd _, codeAny_builtin F.entry_list_iadd ?_⟩; rw [Around.under_plainId F.plain_list_iadd _]
  show wpAny _ A.in1 (Builtin.List.listExtendWith (.ref s.heap.objs.size) (.ref r) (.ref s.heap.objs.size)) (_) (_) _
  have hS : (s.heap.push { cls := .type "list", data := .seq ([] : List Value).toArray }).get? s.heap.objs.size = some { cls := .type "list", data := .seq #[] 0 } := by exact Heap.get?_push_size _ rfl
  have there := K.there _ hok
  have ok2 : OK (s.heap.push { cls := .type "list", data := .seq ([] : List Value).toArray }) := K.keep _ _ hok fun b _ o e => Heap.get?_push_of_some _ e
  refine wpAny_mono (PySem.W.kdl_extend (A := A) (s := { s with heap := s.heap.push { cls := .type "list", data := .seq ([] : List Value).toArray } }) (R := fun rr s' => rr = .ok (.ret (.ref s.heap.objs.size)) ∧ ∃ (h' : Heap) (tk : Nat) (acc : Array Value) (c' : Nat), s' = { s with heap := h', toks := tk } ∧
    (∀ b o, s.heap.get? b = some o → h'.get? b = some o) ∧ h'.get? s.heap.objs.size = some { cls := .type "list", dict := none, data := .seq acc c', slots := #[] } ∧ ItemsOf P acc n) K hh ok2 s.heap.objs.size (Nat.ne_of_gt there.1) (Nat.ne_of_gt there.2) (.ref s.heap.objs.size) 0 hS
    (fun h' tk acc c' hk e hi => ⟨rfl, h', tk, acc, c', rfl, fun b o q => hk b o (Nat.ne_of_lt (Heap.lt_size q)) (Heap.get?_push_of_some _ q), e, hi⟩) hn) (fun fin s' h => ?_) (fun e s' h => absurd h.1 (by simp))
  cases fin with
  | done f =>
    obtain ⟨e, h', tk, acc, c', rfl, hk, hS', hi⟩ := h
    cases e; show wpAny _ A (load s.heap.objs.size >>= _) _ _ _
    exact wpAny_bind (wpAny_load hS' (wpAny_pure (hQ h' tk acc hk hi)))
  | again c' =>
    refine ⟨h.1, codeAny_mono h.2 ?_⟩
    rintro rr s'' ⟨rfl, h', tk, acc, c', rfl, hk, hS', hi⟩
    show wpAny _ A (load s.heap.objs.size >>= _) _ _ _; exact wpAny_bind (wpAny_load hS' (wpAny_pure (hQ h' tk acc hk hi)))
theorem call_tuple_src {Q : Value → Shared → Prop} (K : PySem.W.KdlSrc prog w T r d n P OK) (hh : A.handled = none) (hok : OK s.heap) (hn : n ≤ sizeLine) (hty : s.TypeIs (.ref r) T)
    (cod : ∀ (A : Around) (Q₁ : Value → Shared → Prop), A.handled = none → (∀ (h' : Heap) (tk : Nat) (acc : Array Value), (∀ b o, s.heap.get? b = some o → h'.get? b = some o) → ItemsOf P acc n → Q₁ (.ref h'.objs.size) { s with heap := h'.push { cls := .type "tuple", data := .seq acc }, toks := tk }) →
      codeAny (model prog w) A (.call (.builtin "tuple.__new__") ⟨[.type "tuple", .ref r], []⟩) (wants Q₁ E) s)
    (hQ : ∀ (h' : Heap) (tk : Nat) (acc : Array Value), (∀ b o, s.heap.get? b = some o → h'.get? b = some o) → ItemsOf P acc n → Q (.ref h'.objs.size) { s with heap := h'.push { cls := .type "tuple", data := .seq acc }, toks := tk }) :
    wpAny (model prog w) A (call (.type "tuple") [.ref r]) Q E s := by
  refine callType_codes (Q₁ := fun obj s1 => s1.TypeIs obj "tuple" ∧ Q obj s1) F.called_tuple (F.typeCall_tuple_1 _) F.entry_object_init (cod A.in1 _ hh fun h' tk acc hk hacc => ⟨⟨_, Heap.get?_push_size _ rfl, rfl⟩, hQ h' tk acc hk hacc⟩) ?_
  intro obj s1 h1
  exact ⟨h1.1, F.args_object_init_2 obj _, object_init_meets F.called_tuple.init.lookup F.called_tuple.made (by decide) prog w A.in1 _ s1 ⟨h1.1, rfl, h1.2⟩⟩
theorem code_tuple_dict {Q₁ : Value → Shared → Prop} (K : PySem.W.KdlSrc prog w "dict" r d n P OK) (hh : A.handled = none) (hok : OK s.heap) (hn : n ≤ sizeLine)
    (h : ∀ (h' : Heap) (tk : Nat) (acc : Array Value), (∀ b o, s.heap.get? b = some o → h'.get? b = some o) → ItemsOf P acc n → Q₁ (.ref h'.objs.size) { s with heap := h'.push { cls := .type "tuple", data := .seq acc }, toks := tk }) :
    codeAny (model prog w) A (.call (.builtin "tuple.__new__") ⟨[.type "tuple", .ref r], []⟩) (wants Q₁ E) s := by
  refine codeAny_of_tree ?_
  show wpAny _ A.in1 (do checkBuiltinCall "tuple.__new__" ⟨[.type "tuple", .ref r], []⟩; again (.builtin "tuple.__new__" ⟨[.type "tuple", .ref r], []⟩)) (_) (_) s
  refine wpAny_bind (wpAny_of_eq (F.newCall_tuple_1 _) ?_)
  refine wpAny_pure ⟨plainId_quiet F.plain_tuple_new _, codeAny_builtin F.entry_tuple_new ?_⟩; rw [Around.under_plainId F.plain_tuple_new _]
  have z1 := sub_tuple_self; have z2 := init_tuple_lookup; have z3 := madeHere_tuple
  have hTI : s.TypeIs (.ref r) "dict" := K.type _ hok
  have hh1 : A.in1.handled = none := hh
  wp_walk using wpAny_typeOf hTI, collect_src (A := A.in1) K hh1 hok hn
  intro h' tk acc hk hacc
  show wpAny _ _ (Builtin.Tuple.tupleExact acc.toList.toArray >>= fun v => ret v) (_) _ _
  unfold Builtin.Tuple.tupleExact; refine wpAny_bind (wpAny_newObj_type ?_ (by show acc.toList.toArray.size ≤ sizeLine; simp only [Array.toArray_toList]; rw [hacc.1]; exact hn)); refine wpAny_pure ?_
  rw [show acc.toList.toArray = acc by simp]
  exact h h' tk acc hk hacc
end
section
variable {X : Cx} {S : Sg}
theorem call_tuple_dK (hc : X.calm = true) : CallR X (.type "tuple") (fun xs H Q => ∃ p kvs, xs = [.ref p] ∧ Rd H p (.dK kvs) ∧ ∀ q, H q = none → Q (.ref q) (upd H q (.tup (kvs.map fun kv => kV kv.1)))) := by
  rintro pins s σ H xs us Q I r ⟨p, kvs, rfl, hk, q⟩
  obtain ⟨u, rfl, rx⟩ := vals1 r
  cases (show u = Value.ref p from rx)
  obtain ⟨z, lo, vs, rk, hd⟩ := hk.ok I.hok
  obtain ⟨ep, hat⟩ := hd.dictAt
  have hl : kvs.length = vs.length := Paired.length rk
  have src := PySem.W.kdl_dict (prog := X.prog) (w := X.w) (knd := mixKind X.prog X.w) (kvs := vs) (ep := ep) lo
  have hz : vs.length ≤ sizeLine := by rw [← hl]; exact z
  refine call_tuple_src src (I.ok.hd hc) hat hz (src.type _ hat) (fun A Q1 hh h => code_tuple_dict src hh hat hz h) fun h' tk acc hkeep hacc => ?_
  have I2 : Inv X pins σ H { s with heap := h', toks := tk } := I.kept (t' := tk) hkeep
  refine ⟨.ref h'.objs.size, upd H h'.objs.size (.tup (kvs.map fun kv => kV kv.1)), I2.laid (t' := tk) (fun c o e => Heap.get?_push_of_some _ e) (Nat.le_refl _) (show ObjOk X.prog X.w _ _ _ (.tup (kvs.map fun kv => kV kv.1)) from ⟨by rw [List.length_map]; exact z, acc.toList, ?_, ?_⟩), rfl, q _ (I2.hok.fresh (Nat.le_refl _))⟩
  · have el : acc.toList.length = acc.size := by simp
    refine vals_of_at (by rw [List.length_map, el, hacc.1, hl]) fun j x v h1 h2 => ?_
    obtain ⟨k, y, hky, hi⟩ := hacc.2 j v (by rw [← Array.getElem?_toList]; exact h2)
    have e1 : (kvs.map (·.1))[j]? = some k := by
      rw [KV.keys rk, List.getElem?_map, hky]; rfl
    have e2 : (kvs.map fun kv => kV kv.1) = (kvs.map (·.1)).map kV := by simp
    rw [e2, List.getElem?_map, e1] at h1
    cases h1
    exact keyIs_rel hi
  · rw [Array.toArray_toList]
    exact IsTup.new _ _
def tupleDG : VC := fun ds Q => match ds with
  | [.lst xs] => Q (.v (.tup xs))
  | [.tup xs] => Q (.v (.tup xs))
  | [.dk kvs] => Q (.v (.tup (kvs.map fun p => key p.1)))
  | _ => False
theorem keys_rp {Γ : Gm} {H : Hp} : ∀ {kv : List (Key × V)} {ds : List (Key × D)}, RpK Γ.K Γ.tp H kv ds → ∀ {H' : Hp}, Γ.RpL H' (kv.map fun p => kV p.1) (ds.map fun p => key p.1)
  | _, [], h, _ => by cases h; exact .nil
  | _, (k, d) :: ds, h, _ => by
    cases h with
    | cons h1 h2 => exact .cons (key_rp k) (keys_rp h2)
theorem c_tupleD (hK : S.K = X.K) (hc : X.calm = true) : CallV S X (.type "tuple") tupleDG := by
  refine ⟨_, call_tuple_of.or (call_tuple_dK hc), ?_⟩
  intro Γ H xs ds Q Q0 eK hx hg k
  have eK' : X.K = Γ.K := (eK.trans hK).symm
  unfold tupleDG at hg
  split at hg
  · match hx with
    | .cons h .nil =>
      obtain ⟨p, ys, rfl, h1, h2⟩ := h.seq
      refine .inl ⟨p, ys, rfl, .inl ⟨by rw [eK']; exact h1, fun l nl => ?_⟩⟩
      have sm := same_upd (o := .tup ys) nl
      exact k _ hg _ _ sm (.tup (.of upd_same) (RpL.kq (.same sm) _ _ h2))
  · match hx with
    | .cons h .nil =>
      obtain ⟨p, ys, rfl, h1, h2⟩ := h.tup
      exact .inl ⟨p, ys, rfl, .inr ⟨by rw [eK']; exact h1, k _ hg _ _ (Same.refl _) (.tup h1 h2)⟩⟩
  · match hx with
    | .cons h .nil =>
      obtain ⟨p, kv, rfl, h1, h2⟩ := h.dk
      refine .inr ⟨p, kv, rfl, h1, fun l nl => ?_⟩
      have sm := same_upd (o := .tup (kv.map fun p => kV p.1)) nl
      exact k _ hg _ _ sm (.tup (.of upd_same) (keys_rp h2))
  · exact hg.elim
end
end Va
set_option Elab.async false
set_option linter.all false
set_option maxRecDepth 100000
set_option maxHeartbeats 4000000
namespace Va
open PySem PySem.Spec PyProof.Rows L2 Ind GenW
section
variable {X : Cx} {S : Sg} {e a b o i value : Expr} {es : List Expr} {pos pos' p : Pos}
def vDn : FT := fun E Q => Q (.fd []) E
theorem fe_dnew : FE S X (.Dict [] [] pos) vDn := by
  refine pe_weak pe_dnewK ?_
  rintro σ H Q ⟨Γ, E, Q0, ok, rp, ht, k⟩
  intro d nd
  have sm := same_upd (o := .dK []) nd
  exact k _ _ ht _ _ (.same sm) (rp.same sm) (RpN.rep (x := .fd []) rp sm ⟨d, [], rfl, nd, upd_same, .nil⟩)
def putD (kvs : List (Key × D)) (k : Key) (v : D) : List (Key × D) := if (kvs.any fun kv => decide (kv.1 = k)) = true then kvs.map fun kv => if kv.1 = k then (kv.1, v) else kv else kvs ++ [(k, v)]
theorem RpK.put {K : PySem.W.Frag} {tp : Option Tp} {H : Hp} {k : Key} {v : V} {d : D} (r : Rp K tp H v d) {kv : List (Key × V)} {ds : List (Key × D)} (h : RpK K tp H kv ds) : RpK K tp H (putK kv k v) (putD ds k d) := by
  have any : (kv.any fun x => decide (x.1 = k)) = ds.any fun x => decide (x.1 = k) := by
    have e1 : (kv.any fun x => decide (x.1 = k)) = (kv.map (·.1)).any fun x => decide (x = k) := by rw [List.any_map]; rfl
    have e2 : (ds.any fun x => decide (x.1 = k)) = (ds.map (·.1)).any fun x => decide (x = k) := by rw [List.any_map]; rfl
    rw [e1, e2, h.keys]
  have mp : ∀ {kv : List (Key × V)} {ds : List (Key × D)}, RpK K tp H kv ds → RpK K tp H (kv.map fun x => if x.1 = k then (x.1, v) else x) (ds.map fun x => if x.1 = k then (x.1, d) else x) := by
    intro kv ds h
    induction ds generalizing kv with
    | nil => cases h; exact .nil
    | cons q ds ih =>
      obtain ⟨j, e⟩ := q
      cases h with
      | cons h1 h2 =>
        rw [List.map_cons, List.map_cons]
        by_cases hj : j = k
        · rw [if_pos (show (j, _).1 = k from hj), if_pos (show (j, e).1 = k from hj)]
          exact .cons r (ih h2)
        · rw [if_neg (show ¬ (j, _).1 = k from hj), if_neg (show ¬ (j, e).1 = k from hj)]
          exact .cons h1 (ih h2)
  unfold putK putD
  rw [any]
  split
  · exact mp h
  · exact h.app (.cons r .nil)
def sPut (i : Nat) (tk tv : VT) : VS := fun V E => tv E fun v E1 => onD E1.l[i]? fun _ _ => tk E1 fun kd E2 => onD E2.l[i]? fun b kvs => ∃ k, keyOf kd = some k ∧ kvs.length < 1000000 ∧ V.nx (E2.set i (.od b (putD kvs k v)))
theorem vs_dput {j : Nat} {tk tv : VT} (hu : X.A.units + 1 < cLine) (ho : PE X o (tVar j)) (hi : VE S X i tk) (hv : VE S X value tv) (hs : swapsWith value (some (.Subscript o i pos')) pos.line X.env = pure false := by rfl) :
    VSt S X (.Assign [.Subscript o i pos'] value pos) (sPut j tk tv) := by
  refine ps_weak (ps_dput hu ho hi hv hs) ?_
  rintro D0 σ H ⟨Γ, E, V, ok, rp, ht, k⟩
  refine ⟨Γ, E, _, ok, rp, ht, fun d E1 hq v H1 kq1 rp1 hv1 => ?_⟩
  obtain ⟨b1, ds1, e1, hq⟩ := onD_inv hq
  obtain ⟨p1, kv1, hs1, hd1, _, _⟩ := own_dict rp1 e1
  refine ⟨_, hs1, ?_⟩
  refine ⟨Γ, E1, _, ok, rp1, hq, fun kd E2 hq2 y H2 kq2 rp2 hy => ?_⟩
  obtain ⟨b2, ds2, e2, kk, ek, hsz, hq3⟩ := onD_inv hq2
  obtain ⟨p2, kv2, hs2, hd2, hr2, fr2⟩ := own_dict rp2 e2
  rw [hs1] at hs2
  cases hs2
  have ey := keyOf_rp (.v hy) ek
  subst ey
  obtain ⟨kq3, rp3⟩ := rp2.wrD e2 hs1 hd2 fr2 (RpK.put (k := kk) (Rp.kq kq2 _ _ hv1) hr2)
  exact ⟨p1, _, rfl, DPut.k hd2 (millionL (by rw [hr2.len]; exact hsz)), k.nx _ hq3 σ _ ((kq1.trans kq2).trans kq3) rp3⟩
abbrev VMd := D → List (Key × D) → (List (Key × D) → Prop) → Prop
variable {k : Nat} {f : Addr} {fd : FuncData} {ps : List PySem.Str} {m : VMd} {x : PySem.Str}
end
section
variable {P : Program} {w : World} {K : PySem.W.Frag} {mg : PySem.Str → Option Value} {base : Heap} {S : Sg} {x qual : PySem.Str} {st : Stmt} {f : Addr} {fd : FuncData} {N ps : List PySem.Str} {k : Nat} {m : VMd} {T : VS}
end
end Va
set_option Elab.async false
set_option linter.all false
set_option maxRecDepth 100000
set_option maxHeartbeats 4000000
namespace Va
open PySem PySem.Spec PyProof.Rows L2 Ind
def spTapeV (K : PySem.W.Frag) (b : Bool) : Sp := fun vs H Q _ => ∃ (a : Addr) (ns : List Int), vs = [.ref a] ∧ SqL K H a (ns.map V.int) ∧ ns.length ≤ 63 ∧
  ∀ H' (t : Tp) (ns' : List Int), Same H H' → H t.a = none → H t.l = none → TapeV b H' t → H' t.l = some (.lst (ns'.map V.int)) → ns'.length ≤ 63 → Q (.ref t.a) H'
def Fz2 (t : Tp) (H H' : Hp) : Prop := ∀ b o, b ≠ t.a → b ≠ t.l → H b = some o → H' b = some o
def nb (b : Bool) : Nat := if b then 1 else 0
def spDrawV (b : Bool) : Sp := fun vs H Q _ => ∃ (t : Tp) (m : Int) (ns : List Int), vs = [.ref t.a, .int m] ∧ TapeV b H t ∧ H t.l = some (.lst (ns.map V.int)) ∧ (b = true → ns.length < 1000000) ∧ Dm m ∧
  ∀ H' (r : Int) (ns' : List Int), Fz2 t H H' → TapeV b H' t → H' t.l = some (.lst (ns'.map V.int)) → ns'.length ≤ ns.length + nb b → 0 ≤ r → (r < m ∨ r < 1) → Q (.int r) H'
def drawM (b : Bool) : VM := fun ds c Q => ∃ m : Int, ds = [.tape, .int m] ∧ nb b ≤ c ∧ Dm m ∧ ∀ r : Nat, ((r : Int) < m ∨ r = 0) → Q (.int r) (c - nb b)
section
variable {P : Program} {w : World} {K : PySem.W.Frag} {mg : PySem.Str → Option Value} {base : Heap} {S : Sg} {f : Addr} {fd : FuncData} {ps : List PySem.Str} {k : Nat}
theorem draw_v {CX : CXT} (F : FnOk P w K mg base CX k f fd ps (spDrawV S.b)) : FnOk P w K mg base CX k f fd ps (spV S (drawM S.b)) := by
  refine F.imp fun vs H Q E h => ?_
  obtain ⟨tp, ds, c, Q0, hv, ht, hf, hp, ⟨m, rfl, hc, hm, hq⟩, kk⟩ := h
  match vs, hv with
  | [_, _], .cons h1 (.cons h2 .nil) =>
    cases h2
    obtain ⟨t, rfl, rfl⟩ := h1.tape_inv
    have tv := ht t rfl
    obtain ⟨ns, p, n, z, a1, a2, a3⟩ := id tv
    have few := hf t _ rfl a2
    rw [List.length_map] at few
    refine ⟨t, m, ns, rfl, tv, a2, fun e => ?_, hm, fun H' r ns' fz tv' l' len r0 r1 => ?_⟩
    · rw [e] at hc
      have : 1 ≤ c := hc
      omega
    · obtain ⟨r, rfl⟩ := Int.eq_ofNat_of_zero_le r0
      refine kk _ _ (hq r (by omega)) _ _ ⟨fun b o nsp hb => fz b o (fun e => nsp (.inl ⟨t, rfl, .inl e⟩)) (fun e => nsp (.inl ⟨t, rfl, .inr e⟩)) hb, fun t' e => by cases e; exact tv', fun t' xs e hx => ?_, fun P hP => ?_⟩ (.int _)
      · cases e
        rw [l'] at hx
        cases hx
        rw [List.length_map]
        omega
      · obtain ⟨q, b1, b2⟩ := hp P hP
        exact ⟨q, fz _ _ (ne_of b1 a1 (fun z => nomatch z)) (ne_of b1 a2 (fun z => nomatch z)) b1, b2⟩
def spLawT (K : PySem.W.Frag) (tabs : List Addr) : Sp := fun vs H Q _ => ∃ (a : Addr) (ns : List Int), vs = [.ref a] ∧ SqL K H a (ns.map V.int) ∧ ns.length ≤ 63 ∧ (∀ P ∈ tabs, GxR.TabG H P) ∧ ∀ H', Q (.bl true) H'
def endL : Ve := { nx := fun _ => False, rt := fun d _ => d = .bl true }
def lawE (N : List PySem.Str) : En := ⟨.no :: .v .tape :: List.replicate (N.length - 2) .no, 999000⟩
theorem law_rest {X : Cx} {rest : List Stmt} {T : VS} {N : List PySem.Str} {vs : List V} {H : Hp} {Q : VK} {E : XK} {first : Stmt} {i0 : Nat} (hK : S.K = X.K) (hN2 : 2 ≤ N.length)
    (h1 : PS X first (tAsg (tCall (spTapeV X.K S.b) [] E0 (tCons (tVar 0) tNil)) (gName 1))) (h2 : VSs S X rest T) (h : T endL (lawE N)) (sp : spLawT S.K S.tabs vs H Q E) :
    ∃ t, PSs X (first :: rest) t ∧ t { nx := fun _ H' => Q .non H', rt := Q } (L2.start N vs) H := by
  obtain ⟨a, ns, rfl, hS, hl, htb, hq⟩ := sp
  refine ⟨_, pss_cons h1 h2, ?_⟩
  have e0 : (L2.start N [V.ref a])[0]? = some (some (.ref a)) := rfl
  refine ⟨_, e0, a, ns, rfl, by rw [← hK]; exact hS, hl, fun H' t ns' sm n1 n2 tv l' len => ?_⟩
  refine ⟨⟨S.K, S.b, some t, S.tabs, [], H'⟩, lawE N, endL, ⟨rfl, rfl, rfl⟩, ?_, h, fun E1 z => z.elim, fun d E1 e v σ1 H1 q1 r1 rv => ?_, fun _ z => z.elim, fun _ z => z.elim⟩
  · refine ⟨⟨fun _ _ _ _ z => z, Kq.refl _, fun t' e => by cases e; exact tv, fun P hP => ?_⟩, ?_, fun t' xs e hx => ?_, fun i s e => ?_, fun i j s t' c e1 e2 o1 _ _ _ => ?_⟩
    · obtain ⟨q, b1, b2⟩ := htb P hP
      exact ⟨q, sm _ _ b1, b2⟩
    · simp [lawE, L2.start]
      omega
    · cases e
      rw [l'] at hx
      cases hx
      rw [List.length_map]
      show ns'.length + 999000 ≤ 1000000
      omega
    · match i with
      | 0 => cases e; exact ⟨some (.ref a), rfl, trivial⟩
      | 1 =>
        cases e
        refine ⟨some (.ref t.a), ?_, .ref t.a, rfl, .tape rfl⟩
        show ((L2.start N [V.ref a]).set 1 _)[1]? = _
        rw [List.getElem?_set_self]
        simp [L2.start]
        omega
      | i + 2 =>
        have e : (List.replicate (N.length - 2) SV.no)[i]? = some s := e
        rw [List.getElem?_replicate] at e
        split at e
        · rename_i hl2
          cases e
          refine ⟨none, ?_, trivial⟩
          show ((L2.start N [V.ref a]).set 1 _)[i + 2]? = _
          rw [List.getElem?_set_ne (by omega)]
          show (List.replicate (N.length - 1) none)[i + 1]? = some none
          rw [List.getElem?_replicate, if_pos (by omega)]
        · cases e
    · have nown : ∀ (i : Nat) (s : SV), (lawE N).l[i]? = some s → s.own = false := fun i s e => by
        match i with
        | 0 => cases e; rfl
        | 1 => cases e; rfl
        | i + 2 =>
          have e : (List.replicate (N.length - 2) SV.no)[i]? = some s := e
          rw [List.getElem?_replicate] at e
          split at e
          · cases e; rfl
          · cases e
      rw [nown i s e1] at o1
      cases o1
  · have e : d = .bl true := e
    subst e
    cases rv
    exact hq _
end
end Va
set_option Elab.async false
set_option linter.all false
set_option maxRecDepth 100000
set_option maxHeartbeats 4000000
namespace Va
open PySem PySem.Spec PyProof.Rows L2 Ind
section
variable {X : Cx} {S : Sg} {e a b o : Expr} {pos p : Pos}
def vNeg (t : VT) : VT := fun E Q => t E fun d E1 => match d with
  | .int i => Q (.int (-i)) E1
  | _ => False
theorem ve_neg {t : VT} (h : VE S X a t) : VE S X (.UnaryOp .USub a pos) (vNeg t) := by
  refine pe_weak (pe_un un_neg h) ?_
  rintro σ H Q ⟨Γ, E, Q0, ok, rp, ht, k⟩
  refine ⟨Γ, E, _, ok, rp, ht, fun d E1 hq v H1 kq1 rp1 hv => ?_⟩
  cases d with
  | int i => cases hv; exact ⟨i, rfl, k _ _ hq _ _ kq1 rp1 (.int _)⟩
  | _ => exact hq.elim
theorem hu65 {A : Around} {k : Nat} (r : Room k A) : A.units + 65 < cLine := by have := r.un; omega
end
end Va
set_option Elab.async false
set_option linter.all false
set_option maxRecDepth 100000
set_option maxHeartbeats 4000000
namespace Va
open PySem PySem.Spec PyProof.Rows L2 Ind
theorem flat_strsD : ∀ xs : List Tx, (xs.map D.str).all D.flat = true
  | [] => rfl
  | _ :: xs => by show (true && (xs.map D.str).all D.flat) = true; rw [flat_strsD xs]; rfl
theorem in_strsD (x : Tx) : ∀ xs : List Tx, ((xs.map D.str).any fun y => D.eqf y (.str x)) = decide (x ∈ xs)
  | [] => rfl
  | y :: xs => by
    show (D.eqf (.str y) (.str x) || (xs.map D.str).any fun y => D.eqf y (.str x)) = _
    rw [in_strsD x xs]
    show ((y == x) || decide (x ∈ xs)) = _
    by_cases h : y = x
    · subst h
      simp
    · have h1 : (y == x) = false := beq_eq_false_iff_ne.mpr h
      rw [h1, Bool.false_or]
      exact decide_eq_decide.mpr ⟨fun m => List.mem_cons_of_mem _ m, fun m => (List.mem_cons.mp m).elim (fun e => absurd e.symm h) id⟩
theorem both {p : Bool} {A B : Prop} (h1 : p = true → A) (h2 : p = false → B) : (p = true → A) ∧ (p = false → B) := ⟨h1, h2⟩
theorem dT {p : Prop} [Decidable p] (h : decide p = true) : p := of_decide_eq_true h
theorem dF {p : Prop} [Decidable p] (h : decide p = false) : ¬ p := of_decide_eq_false h
theorem nT {b : Bool} (h : (!b) = true) : b = false := by cases b <;> simp_all
theorem nF {b : Bool} (h : (!b) = false) : b = true := by cases b <;> simp_all
end Va
namespace Va
open PySem PySem.Spec PyProof.Rows L2 Ind
theorem pickD {l : List D} {i : Nat} (h : i < l.length) : ∃ x, atI l (i : Int) = some x ∧ x ∈ l := ⟨l[i], atI_nat (List.getElem?_eq_getElem h), List.getElem_mem h⟩
theorem pickI {α : Type} {l : List α} {i : Int} (h0 : 0 ≤ i) (h : i < (l.length : Int)) : ∃ x, atI l i = some x ∧ x ∈ l := by
  obtain ⟨n, rfl⟩ := Int.eq_ofNat_of_zero_le h0
  exact ⟨l[n]'(by omega), atI_nat (List.getElem?_eq_getElem (by omega)), List.getElem_mem _⟩
theorem sign_at {x : Tx} {i : Int} (h0 : 0 ≤ i) (h : i < (x.length : Int)) : ∃ c, atI x.cps.toList i = some c := by
  obtain ⟨c, e, _⟩ := pickI (l := x.cps.toList) h0 (by rw [← codes_len]; exact h)
  exact ⟨c, e⟩
theorem one_len (c : Nat) : (⟨#[c]⟩ : Tx).length = 1 := rfl
theorem str_mem {P : Tx → Prop} {x : D} {l : List D} (m : x ∈ l) (h : ∀ y ∈ l, ∃ s, y = .str s ∧ P s) : ∃ s, x = .str s ∧ P s := h x m
theorem int_mem {P : Int → Prop} {x : D} {l : List D} (m : x ∈ l) (h : ∀ y ∈ l, ∃ s, y = .int s ∧ P s) : ∃ s, x = .int s ∧ P s := h x m
end Va
namespace Va
open PySem PySem.Spec PyProof.Rows L2 Ind
section
variable {p A B : Prop} [Decidable p]
theorem skipT (h : ¬ p) (b : B) : (decide p = true → A) ∧ (decide p = false → B) := ⟨fun e => absurd (of_decide_eq_true e) h, fun _ => b⟩
theorem skipF (h : p) (a : A) : (decide p = true → A) ∧ (decide p = false → B) := ⟨fun _ => a, fun e => absurd h (of_decide_eq_false e)⟩
theorem bothD (h1 : p → A) (h2 : ¬ p → B) : (decide p = true → A) ∧ (decide p = false → B) := ⟨fun e => h1 (of_decide_eq_true e), fun e => h2 (of_decide_eq_false e)⟩
theorem wayT {A B : Prop} (a : A) : (true = true → A) ∧ (true = false → B) := ⟨fun _ => a, fun z => (by cases z)⟩
theorem wayF {A B : Prop} (b : B) : (false = true → A) ∧ (false = false → B) := ⟨fun z => (by cases z), fun _ => b⟩
end
end Va
set_option Elab.async false
set_option linter.all false
set_option maxRecDepth 100000
set_option maxHeartbeats 4000000
namespace Va
open PySem PySem.Spec PyProof.Rows L2 Ind
inductive Fc where
  | com (n : Tx)
  | one (ns : List Tx)
  | neg (f : Fc)
  | all (fs : List Fc)
  | any (fs : List Fc)
  | imp (a b : Fc)
  | tt
  | ff
mutual
def Fc.d : Fc → D
  | .com n => .tup [.str "commits", .str n]
  | .one ns => .tup [.str "one of", .tup (ns.map .str)]
  | .neg f => .tup [.str "not", f.d]
  | .all fs => .tup [.str "and", .tup (Fc.dL fs)]
  | .any fs => .tup [.str "or", .tup (Fc.dL fs)]
  | .imp a b => .tup [.str "implies", a.d, b.d]
  | .tt => .tup [.str "true"]
  | .ff => .tup [.str "false"]
def Fc.dL : List Fc → List D
  | [] => []
  | f :: fs => f.d :: Fc.dL fs
end
theorem Fc.dL_map : ∀ fs : List Fc, Fc.dL fs = fs.map Fc.d
  | [] => rfl
  | f :: fs => by show f.d :: Fc.dL fs = f.d :: fs.map Fc.d; rw [Fc.dL_map fs]
mutual
def Fc.dep : Fc → Nat
  | .com _ => 0
  | .one _ => 0
  | .neg f => f.dep + 1
  | .all fs => Fc.depL fs + 1
  | .any fs => Fc.depL fs + 1
  | .imp a b => max a.dep b.dep + 1
  | .tt => 0
  | .ff => 0
def Fc.depL : List Fc → Nat
  | [] => 0
  | f :: fs => max f.dep (Fc.depL fs)
end
theorem Fc.depL_le {n : Nat} : ∀ {fs : List Fc}, (∀ f ∈ fs, f.dep ≤ n) → Fc.depL fs ≤ n
  | [], _ => Nat.zero_le _
  | f :: fs, h => Nat.max_le.mpr ⟨h f (List.mem_cons_self ..), Fc.depL_le fun g hg => h g (List.mem_cons_of_mem _ hg)⟩
theorem Fc.dep_mem : ∀ {fs : List Fc} {f : Fc}, f ∈ fs → f.dep ≤ Fc.depL fs
  | g :: fs, f, h => by
    show f.dep ≤ max g.dep (Fc.depL fs)
    rcases List.mem_cons.mp h with rfl | h
    · exact Nat.le_max_left _ _
    · exact Nat.le_trans (Fc.dep_mem h) (Nat.le_max_right _ _)
mutual
def Fc.names : Fc → List Tx
  | .com n => [n]
  | .one ns => ns
  | .neg f => f.names
  | .all fs => Fc.namesL fs
  | .any fs => Fc.namesL fs
  | .imp a b => a.names ++ b.names
  | .tt => []
  | .ff => []
def Fc.namesL : List Fc → List Tx
  | [] => []
  | f :: fs => f.names ++ Fc.namesL fs
end
theorem Fc.namesL_mem {P : Tx → Prop} : ∀ {fs : List Fc}, (∀ f ∈ fs, ∀ x ∈ f.names, P x) → ∀ x ∈ Fc.namesL fs, P x
  | [], _, x, hx => by cases hx
  | f :: fs, h, x, hx => by
    have hx : x ∈ f.names ++ Fc.namesL fs := hx
    rcases List.mem_append.mp hx with z | z
    · exact h f (List.mem_cons_self ..) x z
    · exact Fc.namesL_mem (fun g hg => h g (List.mem_cons_of_mem _ hg)) x z
theorem fn_vac {P : Program} {w : World} {K : PySem.W.Frag} {mg : PySem.Str → Option Value} {base : Heap} {CX : CXT} {k : Nat} {f : Addr} {fd : FuncData} {ps : List PySem.Str} {S : Sg} {m : VM} (h : ∀ ds c Q, ¬ m ds c Q) : FnOk P w K mg base CX k f fd ps (spV S m) :=
  ⟨fun vs H Q E ⟨_, ds, c, Q0, _, _, _, _, hm, _⟩ => absurd hm (h ds c Q0), fun _ _ _ _ _ _ _ _ _ _ _ _ _ ⟨_, ds, c, Q0, _, _, _, _, hm, _⟩ => absurd hm (h ds c Q0)⟩
end Va
namespace Va
open PySem PySem.Spec PyProof.Rows L2 Ind
end Va
set_option Elab.async false
set_option linter.all false
set_option maxRecDepth 100000
set_option maxHeartbeats 4000000
namespace Va
open PySem PySem.Spec PyProof.Rows L2 Ind RT
section
variable {prog : Program} {w : World} {A : Around} {E : Value → Shared → Prop} {s : Shared} {I l : Addr} {xs : Array Value}
end
section
variable {X : Cx} {pins : List (Addr × Obj)} {σ : L2.St} {H : Hp} {s : Shared} {h' : Heap}
end
section
variable {X : Cx} {e : Expr} {te : TE} {p p2 pos pos2 : Pos}
end
section
variable {X : Cx} {S : Sg} {e tg : Expr} {t : VT} {p p2 pos pos2 : Pos}
def lstD (d : D) (Q : List D → Prop) : Prop := match d with
  | .lst ds => Q ds
  | _ => False
def vTrev (t : VT) : FT := fun E Q => t E fun d E1 => lstD d fun ds => Q (.v (.tup ds.reverse)) E1
theorem fe_tupleRev (hK : S.K = X.K) (hc : X.calm = true) (hg : Gl X "tuple") (hm : X.mg "tuple" = none) (hg2 : Gl X "reversed") (hm2 : X.mg "reversed" = none) (he : VE S X e t)
    (s1 : starEach [e] X.env = (false, eval e X.env) :: starEach [] X.env := by rfl)
    (s2 : starEach [.Call (.Name "reversed" p2) [e] [] pos2] X.env = (false, eval (.Call (.Name "reversed" p2) [e] [] pos2) X.env) :: starEach [] X.env := by rfl) :
    FE S X (.Call (.Name "tuple" p) [.Call (.Name "reversed" p2) [e] [] pos2] [] pos) (vTrev t) := by
  refine pe_weak (RT.pe_tupRev hc hg hm hg2 hm2 he s1 s2) ?_
  rintro σ H Q ⟨Γ, E, Q0, ok, rp, ht, k⟩
  refine ⟨Γ, E, _, ok, rp, ht, fun d E1 hq x H1 kq1 rp1 hx => ?_⟩
  have eK : X.K = Γ.K := (ok.k.trans hK).symm
  cases d with
  | lst ds =>
    obtain ⟨q, xs, rfl, h1, h2⟩ := hx.lst_inv
    refine ⟨q, xs, rfl, by rw [eK]; exact h1.sq, fun q nq => ?_⟩
    have sm := same_upd (o := .tup xs.reverse) nq
    exact k _ _ hq _ _ (kq1.trans (.same sm)) (rp1.same sm) (.tup (.of upd_same) (RpL.kq (.same sm) _ _ h2.rev))
  | _ => exact hq.elim
end
end Va
set_option Elab.async false
set_option linter.all false
set_option maxRecDepth 100000
set_option maxHeartbeats 4000000
namespace Va
open PySem PySem.Spec PyProof.Rows L2 Ind
mutual
def Fc.wid : Fc → Nat
  | .com _ => 0
  | .one ns => ns.length
  | .neg f => f.wid
  | .all fs => max fs.length (Fc.widL fs)
  | .any fs => max fs.length (Fc.widL fs)
  | .imp a b => max a.wid b.wid
  | .tt => 0
  | .ff => 0
def Fc.widL : List Fc → Nat
  | [] => 0
  | f :: fs => max f.wid (Fc.widL fs)
end
theorem Fc.wid_mem : ∀ {fs : List Fc} {f : Fc}, f ∈ fs → f.wid ≤ Fc.widL fs
  | g :: fs, f, h => by
    show f.wid ≤ max g.wid (Fc.widL fs)
    rcases List.mem_cons.mp h with rfl | h
    · exact Nat.le_max_left _ _
    · exact Nat.le_trans (Fc.wid_mem h) (Nat.le_max_right _ _)
mutual
def Fc.tr (p : Tx → Bool) : Fc → Bool
  | .com n => p n
  | .one ns => decide ((ns.filter p).length = 1)
  | .neg f => !f.tr p
  | .all fs => Fc.trA p fs
  | .any fs => Fc.trO p fs
  | .imp a b => !a.tr p || b.tr p
  | .tt => true
  | .ff => false
def Fc.trA (p : Tx → Bool) : List Fc → Bool
  | [] => true
  | f :: fs => f.tr p && Fc.trA p fs
def Fc.trO (p : Tx → Bool) : List Fc → Bool
  | [] => false
  | f :: fs => f.tr p || Fc.trO p fs
end
theorem Fc.trA_all (p : Tx → Bool) : ∀ fs : List Fc, Fc.trA p fs = fs.all (Fc.tr p)
  | [] => rfl
  | f :: fs => by show (f.tr p && Fc.trA p fs) = (f.tr p && fs.all (Fc.tr p)); rw [Fc.trA_all p fs]
theorem Fc.trO_any (p : Tx → Bool) : ∀ fs : List Fc, Fc.trO p fs = fs.any (Fc.tr p)
  | [] => rfl
  | f :: fs => by show (f.tr p || Fc.trO p fs) = (f.tr p || fs.any (Fc.tr p)); rw [Fc.trO_any p fs]
def atB {α : Type} (g : α → Bool) (l : List α) (i : Nat) : Bool := match l[i]? with
  | some x => g x
  | none => false
theorem atB_of {α : Type} {g : α → Bool} {l : List α} {i : Nat} {x : α} (e : l[i]? = some x) : atB g l i = g x := by unfold atB; rw [e]
theorem all_range {α : Type} (g : α → Bool) (l : List α) : (List.range l.length).all (atB g l) = l.all g := by
  rw [Bool.eq_iff_iff, List.all_eq_true, List.all_eq_true]
  constructor
  · intro h x hx
    obtain ⟨i, e⟩ := List.getElem?_of_mem hx
    have := h i (List.mem_range.mpr (List.getElem?_eq_some_iff.mp e).1)
    rwa [atB_of e] at this
  · intro h i hi
    have hi := List.mem_range.mp hi
    rw [atB_of (List.getElem?_eq_getElem hi)]
    exact h _ (List.getElem_mem _)
theorem any_range {α : Type} (g : α → Bool) (l : List α) : (List.range l.length).any (atB g l) = l.any g := by
  rw [Bool.eq_iff_iff, List.any_eq_true, List.any_eq_true]
  constructor
  · rintro ⟨i, hi, h⟩
    have hi := List.mem_range.mp hi
    rw [atB_of (List.getElem?_eq_getElem hi)] at h
    exact ⟨_, List.getElem_mem _, h⟩
  · rintro ⟨x, hx, h⟩
    obtain ⟨i, e⟩ := List.getElem?_of_mem hx
    exact ⟨i, List.mem_range.mpr (List.getElem?_eq_some_iff.mp e).1, by rw [atB_of e]; exact h⟩
theorem filter_more {α : Type} (g : α → Bool) {l : List α} {i : Nat} {x : α} (e : l[i]? = some x) : (l.take (i + 1)).filter g = if g x = true then (l.take i).filter g ++ [x] else (l.take i).filter g := by
  rw [take_more e, List.filter_append]
  by_cases h : g x = true
  · rw [if_pos h, List.filter_cons_of_pos h]; rfl
  · rw [if_neg h, List.filter_cons_of_neg h, List.filter_nil, List.append_nil]
theorem rng_at {lo : Int} {n i : Nat} {d : D} (e : (rng lo n)[i]? = some d) : d = .int (lo + i) ∧ i < n := by
  have hi := (List.getElem?_eq_some_iff.mp e).1
  simp only [rng, List.length_map, List.length_range] at hi
  refine ⟨?_, hi⟩
  unfold rng at e
  rw [List.getElem?_map, List.getElem?_range hi] at e
  exact (Option.some.inj e).symm
theorem cut_take {α : Type} (l : List α) (k : Nat) : cutD l none (some (k : Int)) = l.take k := by
  unfold cutD
  rw [HT.sIx_none, HT.sIx_nat, List.drop_zero, Nat.sub_zero]
  by_cases h : k ≤ l.length
  · rw [Nat.min_eq_left h]
  · rw [Nat.min_eq_right (by omega), List.take_length, List.take_of_length_le (by omega)]
end Va
set_option Elab.async false
set_option linter.all false
set_option maxRecDepth 100000
set_option maxHeartbeats 4000000
namespace Va
open PySem PySem.Spec PyProof.Rows L2 Ind
section
variable {X : Cx} {S : Sg} {e : Expr} {t : VT}
theorem RpW.un {Γ : Gm} {H : Hp} {v : V} {d : D} (h : RpW Γ H v d) : RpW Γ H v d.un := by
  cases h with
  | v h => exact .v (Rp.un h)
  | l h1 h2 => exact .l h1 h2
  | k h1 h2 => exact .k h1 h2
def tuplePG : VC := fun ds Q => match ds with
  | [.lst xs] => Q (.v (.ptp xs))
  | _ => False
theorem c_tupleP (hK : S.K = X.K) : CallV S X (.type "tuple") tuplePG := by
  refine ⟨_, call_tupleZ, ?_⟩
  intro Γ H xs ds Q Q0 eK hx hg k
  have eK' : X.K = Γ.K := (eK.trans hK).symm
  unfold tuplePG at hg
  split at hg
  · match hx with
    | .cons h .nil =>
      obtain ⟨p, ys, rfl, h1, h2⟩ := h.seq
      refine ⟨p, ys, rfl, by rw [eK']; exact h1, fun l o nl nd => ?_⟩
      have sm := same_upd (o := .frz o (.tup ys)) nl
      exact k _ hg _ _ sm (.ptp upd_same nd (RpL.kq (.same sm) _ _ h2))
  · exact hg.elim
def okD : D → Prop
  | .int _ => True
  | .str _ => True
  | _ => False
def dLt : D → D → Bool
  | .int i, .int j => decide (i < j)
  | .int _, .str _ => true
  | .str x, .str y => decide (x.cps.toList < y.cps.toList)
  | _, _ => false
end
end Va
set_option Elab.async false
set_option linter.all false
set_option maxRecDepth 100000
set_option maxHeartbeats 4000000
namespace Va
open PySem PySem.Spec PyProof.Rows L2 Ind
inductive Cd where
  | s
  | n (b : Int)
def Cd.d : Cd → D
  | .s => .tup [.str "string"]
  | .n b => .tup [.str "integer", .int b]
def Cd.w : Cd → Tx
  | .s => "string"
  | .n _ => "integer"
def Cd.ok : Cd → Prop
  | .s => True
  | .n b => 0 ≤ b ∧ b ≤ 1000000000000
abbrev Col := Tx × Cd
def colD (p : Col) : D := .tup [.str p.1, p.2.d]
def valOk : Cd → D → Prop
  | .s, v => ∃ x, v = .str x
  | .n _, v => ∃ i, v = .int i
inductive Op where
  | col (n : Tx)
  | num (i : Int)
  | txt (x : Tx)
def Op.d : Op → D
  | .col n => .tup [.str "column", .str n]
  | .num i => .tup [.str "integer", .int i]
  | .txt x => .tup [.str "string", .str x]
def sgnD : Bool → Tx
  | true => "+"
  | false => "-"
abbrev Ex := List (Bool × Op)
def termD (t : Bool × Op) : D := .tup [.str (sgnD t.1), t.2.d]
def exD (e : Ex) : D := .tup (e.map termD)
def fits (cs : List Col) (w : Tx) : Op → Prop
  | .col n => ∃ k : Cd, (n, k) ∈ cs ∧ k.w = w
  | .num _ => w = "integer"
  | .txt _ => w = "string"
structure ExOk (cs : List Col) (w : Tx) (e : Ex) : Prop where
  ne : e ≠ []
  fit : ∀ t ∈ e, fits cs w t.2
  one : w = "string" → e.length = 1
  len : e.length ≤ 20
  word : w = "string" ∨ w = "integer"
inductive Fm where
  | cmp (sg : Tx) (l r : Ex)
  | neg (f : Fm)
  | all (fs : List Fm)
  | any (fs : List Fm)
  | imp (a b : Fm)
  | tt
  | ff
mutual
def Fm.d : Fm → D
  | .cmp sg l r => .tup [.str "compare", .str sg, exD l, exD r]
  | .neg f => .tup [.str "not", f.d]
  | .all fs => .tup [.str "and", .tup (Fm.dL fs)]
  | .any fs => .tup [.str "or", .tup (Fm.dL fs)]
  | .imp a b => .tup [.str "implies", a.d, b.d]
  | .tt => .tup [.str "true"]
  | .ff => .tup [.str "false"]
def Fm.dL : List Fm → List D
  | [] => []
  | f :: fs => f.d :: Fm.dL fs
end
theorem Fm.dL_map : ∀ fs : List Fm, Fm.dL fs = fs.map Fm.d
  | [] => rfl
  | f :: fs => by show f.d :: Fm.dL fs = f.d :: fs.map Fm.d; rw [Fm.dL_map fs]
mutual
def Fm.dep : Fm → Nat
  | .cmp _ _ _ => 0
  | .neg f => f.dep + 1
  | .all fs => Fm.depL fs + 1
  | .any fs => Fm.depL fs + 1
  | .imp a b => max a.dep b.dep + 1
  | .tt => 0
  | .ff => 0
def Fm.depL : List Fm → Nat
  | [] => 0
  | f :: fs => max f.dep (Fm.depL fs)
end
theorem Fm.depL_le {n : Nat} : ∀ {fs : List Fm}, (∀ f ∈ fs, f.dep ≤ n) → Fm.depL fs ≤ n
  | [], _ => Nat.zero_le _
  | f :: fs, h => Nat.max_le.mpr ⟨h f (List.mem_cons_self ..), Fm.depL_le fun g hg => h g (List.mem_cons_of_mem _ hg)⟩
theorem Fm.dep_mem : ∀ {fs : List Fm} {f : Fm}, f ∈ fs → f.dep ≤ Fm.depL fs
  | g :: fs, f, h => by
    show f.dep ≤ max g.dep (Fm.depL fs)
    rcases List.mem_cons.mp h with rfl | h
    · exact Nat.le_max_left _ _
    · exact Nat.le_trans (Fm.dep_mem h) (Nat.le_max_right _ _)
def ops : List Tx := ["=", "!=", "<", "<=", ">", ">="]
mutual
def Fm.ok (cs : List Col) : Fm → Prop
  | .cmp sg l r => sg ∈ ops ∧ ∃ w, ExOk cs w l ∧ ExOk cs w r
  | .neg f => f.ok cs
  | .all fs => fs.length ≤ 50 ∧ Fm.okL cs fs
  | .any fs => fs.length ≤ 50 ∧ Fm.okL cs fs
  | .imp a b => a.ok cs ∧ b.ok cs
  | .tt => True
  | .ff => True
def Fm.okL (cs : List Col) : List Fm → Prop
  | [] => True
  | f :: fs => f.ok cs ∧ Fm.okL cs fs
end
def intOf : D → Int
  | .int i => i
  | _ => 0
def ev (nm : List Tx) (row : List D) : Op → D
  | .col n => (row[nm.idxOf n]?).getD .non
  | .num i => .int i
  | .txt x => .str x
def sg1 (b : Bool) (i : Int) : Int := if b then i else -i
def sumV (nm : List Tx) (row : List D) : Ex → Int
  | [] => 0
  | t :: e => sg1 t.1 (intOf (ev nm row t.2)) + sumV nm row e
def exV (nm : List Tx) (row : List D) (e : Ex) : D := match e with
  | [t] => ev nm row t.2
  | e => .int (sumV nm row e)
def cmpI (l r : D) : Int := if dLt l r = true then -1 else if dLt r l = true then 1 else 0
def fitB (sg : Tx) (o : Int) : Bool :=
  if sg = "=" then decide (o = 0) else if sg = "!=" then decide (¬ o = 0) else if sg = "<" then decide (o < 0) else if sg = "<=" then decide (o ≤ 0) else if sg = ">" then decide (0 < o) else decide (0 ≤ o)
mutual
def Fm.tr (nm : List Tx) (row : List D) : Fm → Bool
  | .cmp sg l r => fitB sg (cmpI (exV nm row l) (exV nm row r))
  | .neg f => !f.tr nm row
  | .all fs => Fm.trA nm row fs
  | .any fs => Fm.trO nm row fs
  | .imp a b => !a.tr nm row || b.tr nm row
  | .tt => true
  | .ff => false
def Fm.trA (nm : List Tx) (row : List D) : List Fm → Bool
  | [] => true
  | f :: fs => f.tr nm row && Fm.trA nm row fs
def Fm.trO (nm : List Tx) (row : List D) : List Fm → Bool
  | [] => false
  | f :: fs => f.tr nm row || Fm.trO nm row fs
end
theorem Fm.trA_all (nm : List Tx) (row : List D) : ∀ fs : List Fm, Fm.trA nm row fs = fs.all (Fm.tr nm row)
  | [] => rfl
  | f :: fs => by show (f.tr nm row && Fm.trA nm row fs) = (f.tr nm row && fs.all (Fm.tr nm row)); rw [Fm.trA_all nm row fs]
theorem Fm.trO_any (nm : List Tx) (row : List D) : ∀ fs : List Fm, Fm.trO nm row fs = fs.any (Fm.tr nm row)
  | [] => rfl
  | f :: fs => by show (f.tr nm row || Fm.trO nm row fs) = (f.tr nm row || fs.any (Fm.tr nm row)); rw [Fm.trO_any nm row fs]
structure RowOk (cs : List Col) (row : List D) : Prop where
  nd : (cs.map (·.1)).Nodup
  len : row.length = cs.length
  val : ∀ (i : Nat) (p : Col) (v : D), cs[i]? = some p → row[i]? = some v → valOk p.2 v
def wordOk (w : Tx) (v : D) : Prop := (w = "string" ∧ ∃ x, v = .str x) ∨ (w = "integer" ∧ ∃ i, v = .int i)
end Va
namespace Va
open PySem PySem.Spec PyProof.Rows L2 Ind
def tOk (x : Tx) : Prop := ∀ c ∈ x.cps.toList, c < 0x110000
theorem tOk.ok {x : Tx} (h : tOk x) : PyData.strOk x = true := by
  unfold PyData.strOk
  rw [Array.all_eq_true']
  intro c hc
  exact decide_eq_true (h c (by simpa using hc))
theorem tOk_app {x y : Tx} (h : tOk x) (h2 : tOk y) : tOk (x ++ y) := fun c hc => by
  have hc : c ∈ (x.cps ++ y.cps).toList := hc
  rw [Array.toList_append] at hc
  rcases List.mem_append.mp hc with z | z
  · exact h c z
  · exact h2 c z
theorem atI_mem {α : Type} {l : List α} {i : Int} {x : α} (e : atI l i = some x) : x ∈ l := by
  unfold L2.atI at e
  cases h : ixN l.length i with
  | none => rw [h] at e; cases e
  | some j => rw [h] at e; exact List.mem_of_getElem? e
theorem tOk_one {x : Tx} {i : Int} {c : Nat} (h : tOk x) (e : atI x.cps.toList i = some c) : tOk ⟨#[c]⟩ := fun d hd => by
  have hd : d ∈ [c] := hd
  cases List.mem_singleton.mp hd
  exact h c (atI_mem e)
theorem tOk_of {x : Tx} (h : (x.cps.toList.all fun c => decide (c < 0x110000)) = true) : tOk x := fun c hc => of_decide_eq_true (List.all_eq_true.mp h c hc)
def Op.tok : Op → Prop
  | .col n => tOk n
  | .num _ => True
  | .txt x => tOk x
end Va
namespace Va
open PySem PySem.Spec PyProof.Rows L2 Ind
theorem wordOk.okD {w : Tx} {v : D} (h : wordOk w v) : okD v := by
  rcases h with ⟨_, x, rfl⟩ | ⟨_, i, rfl⟩ <;> trivial
end Va
namespace Va
open PySem PySem.Spec PyProof.Rows L2 Ind
end Va
set_option Elab.async false
set_option linter.all false
set_option maxRecDepth 100000
set_option maxHeartbeats 4000000
namespace Va
open PySem PySem.Spec PyProof.Rows L2 Ind
section
variable {X : Cx} {S : Sg} {e o a : Expr} {p p2 pos pos2 apos cpos : Pos}
theorem call_list_dR (hc : X.calm = true) : CallR X (.type "list") (fun xs H Q => ∃ p kvs, xs = [.ref p] ∧ Rd H p (.dK kvs) ∧ ∀ q, H q = none → Q (.ref q) (upd H q (.lst (kvs.map fun kv => kV kv.1)))) := by
  intro pins s σ H xs us Q I r h
  obtain ⟨p, kvs, ee, hk, q⟩ := h
  subst ee
  obtain ⟨u, eu, rx⟩ := vals1 r
  subst eu
  obtain rfl : u = Value.ref p := rx
  obtain ⟨z, lo, vs, rk, hd⟩ := hk.ok I.hok
  obtain ⟨ep, hat⟩ := hd.dictAt
  have hl : kvs.length = vs.length := Paired.length rk
  refine PySem.W.kdl_call (PySem.W.kdl_dict (knd := mixKind X.prog X.w) (kvs := vs) (ep := ep) lo) (I.ok.hd hc) hat (by rw [← hl]; exact z) fun h' tk acc' c' hkeep hS hacc => ?_
  refine ⟨.ref s.heap.objs.size, upd H s.heap.objs.size (.lst (kvs.map fun kv => kV kv.1)), I.laid hkeep (Nat.le_refl _) (show ObjOk X.prog X.w _ _ _ (.lst (kvs.map fun kv => kV kv.1)) from ⟨?_, acc'.toList, c', ?_, ?_⟩), rfl, q _ (I.hok.fresh (Nat.le_refl _))⟩
  · rw [List.length_map]; exact z
  · have el : acc'.toList.length = acc'.size := by simp
    refine vals_of_at (by rw [List.length_map, el, hacc.1, hl]) fun j x w h1 h2 => ?_
    obtain ⟨k, y, hky, hi⟩ := hacc.2 j w (by rw [← Array.getElem?_toList]; exact h2)
    have e1 : (kvs.map (·.1))[j]? = some k := by
      rw [KV.keys rk, List.getElem?_map, hky] <;> rfl
    have e2 : (kvs.map fun kv => kV kv.1)[j]? = some (kV k) := by
      have e3 : (kvs.map fun kv => kV kv.1) = (kvs.map (·.1)).map kV := by rw [List.map_map] <;> rfl
      rw [e3, List.getElem?_map, e1] <;> rfl
    rw [e2] at h1
    cases h1
    exact keyIs_rel hi
  · rw [Array.toArray_toList]; exact hS
def listDG : VC := fun ds Q => match ds with
  | [.lst xs] => Q (.fl xs)
  | [.tup xs] => Q (.fl xs)
  | [.dk kvs] => Q (.fl (kvs.map fun p => key p.1))
  | _ => False
theorem c_listD (hK : S.K = X.K) (hc : X.calm = true) : CallV S X (.type "list") listDG := by
  refine ⟨_, call_list_of.or (call_list_dR hc), ?_⟩
  intro Γ H xs ds Q Q0 eK hx hg k
  have eK' : X.K = Γ.K := (eK.trans hK).symm
  have fin : ∀ (ys : List V) (zs : List D), Γ.RpL H ys zs → Q0 (.fl zs) → ∀ l, H l = none → Q (.ref l) (upd H l (.lst ys)) := fun ys zs h2 hq l nl => by
    have sm := same_upd (o := .lst ys) nl
    exact k _ hq _ _ sm ⟨l, _, rfl, nl, upd_same, RpL.kq (.same sm) _ _ h2⟩
  unfold listDG at hg
  split at hg
  · match hx with
    | .cons h .nil =>
      obtain ⟨p, ys, rfl, h1, h2⟩ := h.seq
      exact .inl ⟨p, ys, rfl, .inl (by rw [eK']; exact h1), fin _ _ h2 hg⟩
  · match hx with
    | .cons h .nil =>
      obtain ⟨p, ys, rfl, h1, h2⟩ := h.tup
      exact .inl ⟨p, ys, rfl, .inr (by rw [eK']; exact h1), fin _ _ h2 hg⟩
  · match hx with
    | .cons h .nil =>
      obtain ⟨p, kv, rfl, h1, h2⟩ := h.dk
      exact .inr ⟨p, kv, rfl, h1, fin _ _ (keys_rp h2) hg⟩
  · exact hg.elim
end
end Va
set_option Elab.async false
set_option linter.all false
set_option maxRecDepth 100000
set_option maxHeartbeats 4000000
namespace Va
open PySem PySem.Spec PyProof.Rows L2 Ind
def D.sm : Nat → D → Prop
  | 0, _ => False
  | n + 1, d => match d with
    | .tup xs => xs.length < 1000000 ∧ ∀ x ∈ xs, D.sm n x
    | .lst xs => xs.length < 1000000 ∧ ∀ x ∈ xs, D.sm n x
    | .dk kvs => D.sm n (.lst (kvs.map fun p => key p.1)) ∧ D.sm n (.lst (kvs.map fun p => p.2))
    | .non => True
    | .bl _ => True
    | .int _ => True
    | .str _ => True
    | _ => False
def allR : List Tx → List (List Tx)
  | [] => [[]]
  | x :: xs => (allR xs).map (fun r => x :: r) ++ allR xs
theorem allR_sub : ∀ {ns : List Tx} {r : List Tx}, r ∈ allR ns → r.Sublist ns
  | [], r, h => by cases List.mem_singleton.mp h; exact .slnil
  | x :: xs, r, h => by
    rcases List.mem_append.mp h with h | h
    · obtain ⟨r', h', rfl⟩ := List.mem_map.mp h
      exact .cons₂ _ (allR_sub h')
    · exact .cons _ (allR_sub h)
end Va
set_option Elab.async false
set_option linter.all false
set_option maxRecDepth 100000
set_option maxHeartbeats 4000000
namespace Va
open PySem PySem.Spec PyProof.Rows L2 Ind
section
variable {X : Cx} {S : Sg} {e o a b i value : Expr} {p p2 pos pos2 pos' apos cpos : Pos}
theorem merge_new : ∀ (more kvs : List (Key × V)), (∀ p ∈ more, valV kvs p.1 = none) → (more.map (·.1)).Nodup → mergeK kvs more = kvs ++ more
  | [], kvs, _, _ => by simp [mergeK]
  | p :: more, kvs, h, nd => by
    have nd' := List.nodup_cons.mp nd
    show mergeK (putK kvs p.1 p.2) more = _
    rw [putK_new _ (h p (by simp)), merge_new more _ (fun r hr => ?_) nd'.2]
    · simp
    · rw [valV_snoc _ _ _ _ (h p (by simp)), if_neg (fun e => nd'.1 (by show p.1 ∈ _; rw [← e]; exact List.mem_map_of_mem hr))]
      exact h r (by simp [hr])
end
end Va
set_option Elab.async false
set_option linter.all false
set_option maxRecDepth 100000
set_option maxHeartbeats 4000000
namespace SrtB
open PySem PyProof.Rows Srt SrtO
section
variable {prog : Program} {w : World} {A : Around} {E : Value → Shared → Prop} {s : Shared}
def IsSB (h : Heap) (v : Value) (p : Str × Bool) : Prop := ∃ a o t n, v = .ref a ∧ h.get? a = some o ∧ o.cls = .type "tuple" ∧ o.data = .seq #[.str p.1 t, .bool p.2] n
theorem IsSB.keeps {h h' : Heap} {v : Value} {x : Str × Bool} (p : IsSB h v x) (k : ∀ b o, h.get? b = some o → o.cls = .type "tuple" → h'.get? b = some o) : IsSB h' v x := by
  obtain ⟨a, o, t, n, e, ho, hc, hd⟩ := p
  exact ⟨a, o, t, n, e, k _ _ ho hc, hc, hd⟩
theorem IsSB.inj {h : Heap} {v : Value} {p q : Str × Bool} (x : IsSB h v p) (y : IsSB h v q) : p = q := by
  obtain ⟨a, o, t, n, e, ho, hc, hd⟩ := x
  obtain ⟨a', o', t', n', e', ho', hc', hd'⟩ := y
  have ea : a = a' := Value.ref.inj (e.symm.trans e')
  subst ea
  have eo : o = o' := Option.some.inj (ho.symm.trans ho')
  subst eo
  have ed := (Data.seq.inj (hd.symm.trans hd')).1
  have el := congrArg Array.toList ed
  have e1 := (List.cons.inj el).1
  have e2 := (List.cons.inj (List.cons.inj el).2).1
  exact Prod.ext (Value.str.inj e1).1 (Value.bool.inj e2)
def ltS (a b : Str) : Bool := decide (a.cps.toList < b.cps.toList)
end
end SrtB
namespace L2
open PySem PySem.Spec PyProof.Rows SrtB
section
variable {X : Cx}
end
end L2
namespace Va
open PySem PySem.Spec PyProof.Rows L2 Ind SrtB
section
variable {X : Cx} {S : Sg} {e o a b c i value : Expr} {p p2 pos pos2 : Pos}
end
end Va
set_option Elab.async false
set_option linter.all false
set_option maxRecDepth 100000
set_option maxHeartbeats 4000000
namespace Va
open PySem PySem.Spec PyProof.Rows L2 Ind
inductive Stg where
  | res (i : Int)
  | ask (x : Tx) (a b : Stg)
def Stg.d : Stg → D
  | .res i => .tup [.str "result", .int i]
  | .ask x a b => .tup [.str "ask", .str x, a.d, b.d]
def Stg.dep : Stg → Nat
  | .res _ => 0
  | .ask _ a b => max a.dep b.dep + 1
def Stg.to (r : List Tx) : Stg → Int
  | .res i => i
  | .ask x a b => if x ∈ r then a.to r else b.to r
end Va
set_option Elab.async false
set_option linter.all false
set_option maxRecDepth 100000
set_option maxHeartbeats 4000000
namespace IndEnd
open PySem PySem.Spec PyProof.Rows L2
def startT (K : PySem.W.Frag) (a : Addr) (o : Obj) (ns : List Int) (ts : List Addr) : Hp := fun b =>
  if b ∈ ts then some (.tbl #[]) else start0 K a o ns b
theorem startT_in {K : PySem.W.Frag} {a b : Addr} {o : Obj} {ns : List Int} {ts : List Addr} (h : b ∈ ts) : startT K a o ns ts b = some (.tbl #[]) := if_pos h
theorem startT_out {K : PySem.W.Frag} {a b : Addr} {o : Obj} {ns : List Int} {ts : List Addr} (h : b ∉ ts) : startT K a o ns ts b = start0 K a o ns b := if_neg h
theorem startT_some {K : PySem.W.Frag} {a b : Addr} {o : Obj} {ns : List Int} {ts : List Addr} {u : HO} (h : startT K a o ns ts b = some u) : (b ∈ ts ∧ u = .tbl #[]) ∨ (b ∉ ts ∧ b = a ∧ K.lookup a = none ∧ u = .frz o (.lst (ns.map V.int))) := by
  by_cases c : b ∈ ts
  · rw [startT_in c] at h
    exact .inl ⟨c, (Option.some.inj h).symm⟩
  · rw [startT_out c] at h
    exact .inr ⟨c, start0_some h⟩
theorem law_goT {P : Program} {w : World} {K : PySem.W.Frag} {mg mb : Str → Option Value} {fa a : Addr} {s₁ : Shared} {vs : List Value} {ns : List Int} {cs : List (Addr × Addr)}
    (KX : K.In s₁.heap) (hns : s₁.heap.Ns mainGlobals mg) (hb : s₁.heap.Ns builtinsNs mb) (hbb : ∀ x : Str, x ≠ "__name__" → mb x = bootBuiltins x) (hlim : s₁.heap.NoLimit) (hg : s₁.gens = #[])
    (tT : ∀ q ∈ cs, s₁.heap.get? q.2 = some { cls := .none, data := .fields #[] }) (tK : ∀ q ∈ cs, K.lookup q.2 = none) (tC : ∀ q ∈ cs, PySem.W.CodeHd s₁.heap q.1 q.2)
    (tM : ∃ (m : Addr) (om : Obj), mg "__builtins__" = some (.ref m) ∧ m ≠ builtinsNs ∧ s₁.heap.get? m = some om ∧ om.cls = .type "module" ∧ om.dict = some builtinsNs ∧ om.data = .plain)
    (ha : s₁.heap.get? a = some { cls := .type "list", data := .seq vs.toArray }) (hi : IntsAre vs ns) (hl : ns.length ≤ sizeLine)
    (F : ∀ base : Heap, K.In base → base.Ns mainGlobals mg → (∀ q ∈ cs, GxR.TabB base mg q.1 q.2) → ∀ H : Hp, Env0 P w K mg base callerA [] s₁ H → SqL K H a (ns.map V.int) → (∀ q ∈ cs, H q.2 = some (.tbl #[])) →
      codeAny (model P w) callerA (.call (.ref fa) ⟨[.ref a], []⟩) (CR CX0 [] P w H s₁ (fun v _ => v = .bl true) E0) s₁) :
    codeAny (model P w) callerA (.call (.ref fa) ⟨[.ref a], []⟩) (fun r s' => r = .ok (.ret (.bool true)) ∧ OldK s₁.heap s'.heap ∧ s'.os = s₁.os ∧ AllBare s'.gens) s₁ := by
  have rv := vals_ints hi
  have hlen := hi.length
  let o : Obj := { cls := .type "list", data := .seq vs.toArray }
  let ts : List Addr := cs.map (·.2)
  have tin : ∀ {b : Addr}, b ∈ ts → s₁.heap.get? b = some { cls := .none, data := .fields #[] } := fun {b} h => by
    obtain ⟨q, hq, rfl⟩ := List.mem_map.mp h
    exact tT q hq
  have ato : a ∉ ts := fun z => by
    have e := tin z
    rw [ha] at e
    have e2 := congrArg Obj.data (Option.some.inj e)
    cases e2
  let H := startT K a o ns ts
  have SQ : SqL K H a (ns.map V.int) := by
    cases hk : K.lookup a with
    | none => exact .inl (.inr ⟨o, by show startT K a o ns ts a = _; rw [startT_out ato]; unfold start0; rw [if_pos ⟨rfl, hk⟩]⟩)
    | some o' =>
      have e := KX a o' hk
      rw [ha] at e
      cases e
      exact .inr ⟨_, vs.toArray, _, hk, rfl, rfl, rfl, by rw [List.size_toArray, hlen]; exact hl, by simpa using rv⟩
  have OK : HOk P w H s₁.heap := fun b u e => by
    rcases startT_some e with ⟨h1, rfl⟩ | ⟨_, rfl, _, rfl⟩
    · exact tin h1
    · exact ⟨ha, by rw [List.length_map]; exact hl, vs, _, rv, ha⟩
  have under : ∀ {b : Addr} {ob : Obj}, s₁.heap.get? b = some ob → H b = none → (hidT s₁.heap H).get? b = some ob := fun e n => hidT_get e n
  have free : ∀ {b : Addr} {ob : Obj}, s₁.heap.get? b = some ob → (∀ xs n, ob.data ≠ .seq xs n) → ob.data ≠ .fields #[] → H b = none := fun {b ob} e n1 n2 => by
    cases q : H b with
    | none => rfl
    | some u =>
      rcases startT_some q with ⟨h1, _⟩ | ⟨_, rfl, _, _⟩
      · rw [tin h1] at e
        cases e
        exact (n2 rfl).elim
      · rw [ha] at e
        cases e
        exact (n1 _ _ rfl).elim
  have nsp : ∀ {b : Addr} {m : Str → Option Value}, s₁.heap.Ns b m → (hidT s₁.heap H).Ns b m := by
    rintro b m ⟨ob, es, ep, e, d, r⟩
    exact ⟨ob, es, ep, under e (free e (fun _ _ z => by rw [d] at z; cases z) fun z => by rw [d] at z; cases z), d, r⟩
  have KB : K.In (hidT s₁.heap H) := fun b ob e => under (KX b ob e) (by
    cases q : H b with
    | none => rfl
    | some u =>
      rcases startT_some q with ⟨h1, _⟩ | ⟨_, rfl, n, _⟩
      · obtain ⟨p, hp, rfl⟩ := List.mem_map.mp h1
        rw [tK p hp] at e
        cases e
      · rw [n] at e
        cases e)
  have lim2 : (hidT s₁.heap H).NoLimit := by
    obtain ⟨mc, h1, h2⟩ := hlim
    exact ⟨mc, nsp h1, h2⟩
  have e0 : Env0 P w K mg (hidT s₁.heap H) callerA [] s₁ H := by
    refine ⟨rfl, ⟨KB, nsp hns, ⟨mb, nsp hb, hbb⟩, lim2⟩, fun b ob e => of_hidT e, Nat.le_of_eq (hidT_size _ _), trivial, fun b z => ?_, OK, .of_eq hg⟩
    exact absurd (show b ∈ ([] : List Addr) from z) (by simp)
  have TB : ∀ q ∈ cs, GxR.TabB (hidT s₁.heap H) mg q.1 q.2 := by
    intro q hq
    have hTq := tT q hq
    constructor
    · obtain ⟨oc, us, file, tf, flags, tg, inF, text, tt, c1, c2, c3, c4, c5, c6, c7, c8, c9, c10⟩ := tC q hq
      exact ⟨oc, us, file, tf, flags, tg, inF, text, tt, under c1 (free c1 (fun xs n z => by rw [c3] at z; cases z) fun z => by rw [c3] at z; cases z; simp at c4), c2, c3, c4, c5, c6, c7, c8, c9, c10⟩
    · obtain ⟨m, om, b1, b2, b3, b4, b5, b6⟩ := tM
      have nG : m ≠ mainGlobals := by
        rintro rfl
        obtain ⟨og, es, ep, e, d, _⟩ := hns
        rw [e] at b3
        cases b3
        rw [d] at b6
        cases b6
      have nP : m ≠ q.2 := by
        rintro rfl
        rw [hTq] at b3
        cases b3
        cases b6
      exact ⟨m, om, b1, b2, nG, nP, under b3 (free b3 (fun xs n z => by rw [b6] at z; cases z) fun z => by rw [b6] at z; cases z), b4, b5, b6⟩
    · intro z
      obtain ⟨og, es, ep, e, d, _⟩ := hns
      rw [z, hTq] at e
      cases e
      cases d
  refine codeAny_mono (F _ KB (nsp hns) TB H e0 SQ fun q hq => startT_in (List.mem_map.mpr ⟨q, hq, rfl⟩)) fun r s' h => ?_
  match r, h with
  | .error e, h => exact h.elim
  | .ok (.next), h => exact False.elim h
  | .ok (.brk), h => exact False.elim h
  | .ok (.cont), h => exact False.elim h
  | .ok (.ret u), h =>
    obtain ⟨v, H', os, bare, un, ok', rel, q⟩ := h
    have q1 : v = .bl true := q
    subst q1
    have q2 : u = Value.bool true := rel
    subst q2
    have same : ∀ b ob, b ∉ ts → s₁.heap.get? b = some ob → s'.heap.get? b = some ob := by
      intro b ob nb e
      cases q : H b with
      | none => exact un.keep b ob e q (fun z => absurd (show b ∈ ([] : List Addr) from z) (by simp)) (by simp)
      | some u =>
        rcases startT_some q with ⟨h1, _⟩ | ⟨_, rfl, _, rfl⟩
        · exact absurd h1 nb
        · obtain ⟨z, _⟩ := ok' b _ (un.frzs b _ _ q)
          rw [ha] at e
          cases e
          exact z
    have more : ∀ p ∈ cs, ∃ xs : Array Value, s'.heap.get? p.2 = some { cls := .none, data := .fields xs } := by
      intro p hp
      obtain ⟨xs, z⟩ := un.tbls p.2 #[] (startT_in (List.mem_map.mpr ⟨p, hp, rfl⟩))
      exact ⟨_, ok' p.2 _ z⟩
    refine ⟨rfl, ⟨fun b ob e => ?_, fun b ob e => ?_⟩, os, bare⟩
    · by_cases c : b ∈ ts
      · obtain ⟨p, hp, rfl⟩ := List.mem_map.mp c
        obtain ⟨xs, hx⟩ := more p hp
        have e : s₁.heap.get? p.2 = some ob := e
        rw [tT p hp] at e
        cases e
        exact .inr (.inl ⟨((tC p hp).tab (tT p hp)).isCodeTable, rfl, #[], xs, rfl, by rw [Array.empty_append]; exact hx⟩)
      · exact .inl (same b ob c e)
    · by_cases c : b ∈ ts
      · obtain ⟨p, hp, rfl⟩ := List.mem_map.mp c
        obtain ⟨xs, hx⟩ := more p hp
        exact ⟨_, hx⟩
      · exact ⟨ob, same b ob c e⟩
theorem walk_at_tabs {l : PySem.W.OpenLaw} {n : Nat} {q : Program} {loose : List Str} {XP : (Str → Option Value) → Heap → Prop} {YP : World → Heap → Prop} {d : DefRec} {K : Params → PySem.W.Frag}
    (hn : l.most = some n) (hn2 : n ≤ sizeLine) (hdf : d.params.defaults = []) (hY : ∀ (w : World) (h : Heap), YP w h → (K w.params).In h)
    (F : ∀ (w : World) (mg : Str → Option Value) (fa : Addr) (h : Heap), (K w.params).In h → h.Ns mainGlobals mg → mg d.name = some (.ref fa) →
      (∀ (y : Str) (e : DefRec) (c P : Addr), (recsOf q).find? (fun r => r.name == y) = some e → PySem.W.tabIn (K w.params) y = some (c, P) → PySem.W.CodeHd h c P ∧ h.get? P = some { cls := .none, data := .fields #[] }) →
      ∃ cs : List (Addr × Addr), (∀ p ∈ cs, h.get? p.2 = some { cls := .none, data := .fields #[] }) ∧ (∀ p ∈ cs, (K w.params).lookup p.2 = none) ∧ (∀ p ∈ cs, PySem.W.CodeHd h p.1 p.2) ∧
        ∀ (base : Heap) (s : Shared) (H : Hp) (a : Addr) (ns : List Int), (K w.params).In base → base.Ns mainGlobals mg → (∀ p ∈ cs, GxR.TabB base mg p.1 p.2) → Env0 l.prog w (K w.params) mg base callerA [] s H → ns.length ≤ n → SqL (K w.params) H a (ns.map V.int) → (∀ p ∈ cs, H p.2 = some (.tbl #[])) →
        codeAny (model l.prog w) callerA (.call (.ref fa) ⟨[.ref a], []⟩) (CR CX0 [] l.prog w H s (fun v _ => v = .bl true) E0) s) :
    PySem.W.WalkO q loose XP YP l.row.toRowW d [] (fun f vs => PySem.call f vs) := by
  apply Att.attach_callB hn hdf
  intro w s₀ s₁ mg mb fa o pm cd doc a vs ns G Y ho hd hcd hmg hobj hints hlen hbits hg
  have KX := hY w _ Y
  obtain ⟨cs, t1, t2, t3, go⟩ := F w mg fa _ KX G.T.g hmg fun y e c P h1 h2 => PySem.W.tab_of G.T KX h1 h2
  exact law_goT KX G.T.g G.T.b G.T.builtins G.T.nolimit hg t1 t2 t3 G.T.bmain hobj hints (Nat.le_trans hlen hn2) fun base hk hb htb H e0 hS hH => go base s₁ H a ns hk hb htb e0 hlen hS hH
end IndEnd
set_option Elab.async false
set_option linter.all false
set_option maxRecDepth 100000
set_option maxHeartbeats 4000000
namespace Va
open PySem PySem.Spec PyProof.Rows L2 Ind
section
variable {X : Cx} {S : Sg} {e o a b i value : Expr} {p p2 pos pos2 pos' apos cpos : Pos}
def reprG : VC := fun ds Q => match ds with
  | [d] => SeqAt.shaped d.pd = true ∧ d.pd.showable = true ∧ d.pd.hasDict = false ∧ d.pd.depth ≤ 60 ∧ d.pd.shown.length ≤ 1000000 ∧ Q (.v (.str d.pd.shown))
  | _ => False
theorem c_repr (hK : S.K = X.K) (hg : X.A.guards = some []) (hu : X.A.units + 64 < cLine) : CallV S X (.builtin "repr") reprG := by
  refine ⟨_, call_reprD hg hu, ?_⟩
  intro Γ H xs ds Q Q0 eK hx hg k
  have eK' : X.K = Γ.K := (eK.trans hK).symm
  unfold reprG at hg
  split at hg
  · obtain ⟨h1, h2, h3, h4, h5, hg⟩ := hg
    match hx with
    | .cons h .nil => exact ⟨_, _, rfl, by rw [eK']; exact h.dp h1, h2, h3, h4, million h5, k _ hg _ _ (Same.refl _) (.str _)⟩
  · exact hg.elim
end
end Va
set_option Elab.async false
set_option linter.all false
set_option maxRecDepth 100000
set_option maxHeartbeats 4000000
namespace Va
open PySem PySem.Spec PyProof.Rows L2 Ind
abbrev Cm := Tx × Ex × Ex
def Cm.d (p : Cm) : D := (Fm.cmp p.1 p.2.1 p.2.2).d
mutual
def Fm.cms : Fm → List Cm
  | .cmp sg l r => [(sg, l, r)]
  | .neg f => f.cms
  | .all fs => Fm.cmsL fs
  | .any fs => Fm.cmsL fs
  | .imp a b => a.cms ++ b.cms
  | .tt => []
  | .ff => []
def Fm.cmsL : List Fm → List Cm
  | [] => []
  | f :: fs => f.cms ++ Fm.cmsL fs
end
def exCols (e : Ex) : List Tx := e.filterMap fun t => match t.2 with
  | .col n => some n
  | _ => none
def cmCols (p : Cm) : List Tx := exCols (p.2.1 ++ p.2.2)
def cmsCols (l : List Cm) : List Tx := l.flatMap cmCols
def Fm.cols (f : Fm) : List Tx := cmsCols f.cms
end Va
set_option Elab.async false
set_option linter.all false
set_option maxRecDepth 100000
set_option maxHeartbeats 4000000
namespace Va
open PySem PySem.Spec PyProof.Rows L2 Ind
end Va
set_option Elab.async false
set_option linter.all false
set_option maxRecDepth 100000
set_option maxHeartbeats 4000000
namespace Va
open PySem PySem.Spec PyProof.Rows L2 Ind
end Va
set_option Elab.async false
set_option linter.all false
set_option maxRecDepth 100000
set_option maxHeartbeats 4000000
namespace Va
open PySem PySem.Spec PyProof.Rows L2 Ind
abbrev B3 := Option Bool
def not3 (a : B3) : B3 := a.map (!·)
def allB (l : List B3) : B3 := if some false ∈ l then some false else if none ∈ l then none else some true
def anyB (l : List B3) : B3 := if some true ∈ l then some true else if none ∈ l then none else some false
mutual
def Fc.op (p : Tx → B3) : Fc → B3
  | .com n => p n
  | .one ns => if 1 < ((ns.map p).filter (· = some true)).length then some false else if none ∈ ns.map p then none else some (decide (some true ∈ ns.map p))
  | .neg f => not3 (f.op p)
  | .all fs => allB (Fc.opL p fs)
  | .any fs => anyB (Fc.opL p fs)
  | .imp a b => anyB [not3 (a.op p), b.op p]
  | .tt => some true
  | .ff => some false
def Fc.opL (p : Tx → B3) : List Fc → List B3
  | [] => []
  | f :: fs => f.op p :: Fc.opL p fs
end
mutual
def Fc.mu : Fc → Nat
  | .com _ => 0
  | .one _ => 0
  | .neg f => f.mu + 1
  | .all fs => Fc.muL fs + 1
  | .any fs => Fc.muL fs + 2
  | .imp a b => max (a.mu + 1) b.mu + 3
  | .tt => 0
  | .ff => 0
def Fc.muL : List Fc → Nat
  | [] => 0
  | f :: fs => max f.mu (Fc.muL fs)
end
end Va
set_option Elab.async false
set_option linter.all false
set_option maxRecDepth 100000
set_option maxHeartbeats 4000000
namespace Va
open PySem PySem.Spec PyProof.Rows L2 Ind
end Va
set_option Elab.async false
set_option linter.all false
set_option maxRecDepth 100000
set_option maxHeartbeats 4000000
namespace Va
open PySem PySem.Spec PyProof.Rows L2 Ind SrtB
abbrev SrtdN (l : List Tx) : Prop := l.Pairwise fun x y => ltS y x = false
theorem ltS_tri {x y : Tx} (h1 : ltS x y = false) (h2 : ltS y x = false) : x = y := by
  have a := List.not_lt.mp (of_decide_eq_false h1)
  have b := List.not_lt.mp (of_decide_eq_false h2)
  have e := List.le_antisymm b a
  cases x; cases y
  have e2 := Array.toList_inj.mp e
  first | exact congrArg _ e2 | (cases e2; rfl) | (simp at e2; rw [e2])
theorem srtd_uniq {α : Type} {k : α → Tx} : ∀ {l m : List α}, SrtdN (l.map k) → SrtdN (m.map k) → l.Perm m → (∀ x ∈ l, ∀ y ∈ l, k x = k y → x = y) → l = m
  | [], m, _, _, p, _ => (List.Perm.eq_nil p.symm).symm
  | x :: l, [], _, _, p, _ => absurd p.length_eq (by simp)
  | x :: l, y :: m, hl, hm, p, inj => by
    have hl' : SrtdN (k x :: l.map k) := hl
    have hm' : SrtdN (k y :: m.map k) := hm
    have mx : x ∈ y :: m := p.mem_iff.mp List.mem_cons_self
    have my : y ∈ x :: l := p.mem_iff.mpr List.mem_cons_self
    have e : x = y := by
      rcases List.mem_cons.mp mx with e | hx
      · exact e
      · rcases List.mem_cons.mp my with e | hy
        · exact e.symm
        · have h1 := (List.pairwise_cons.mp hm').1 (k x) (List.mem_map_of_mem hx)
          have h2 := (List.pairwise_cons.mp hl').1 (k y) (List.mem_map_of_mem hy)
          exact inj x List.mem_cons_self y my (ltS_tri h1 h2)
    subst e
    rw [srtd_uniq (List.pairwise_cons.mp hl').2 (List.pairwise_cons.mp hm').2 p.cons_inv fun a ha b hb => inj a (List.mem_cons_of_mem _ ha) b (List.mem_cons_of_mem _ hb)]
abbrev Row := List Tx
def cnt (n : Tx) (ws : List Row) : Nat := (ws.filter fun w => decide (n ∈ w)).length
def sure (ws : List Row) (n : Tx) : Bool := decide (cnt n ws = 0) || decide (cnt n ws = ws.length)
def decs (ms : List Tx) (ws : List Row) : List (Tx × Bool) := (ms.filter fun n => sure ws n).map fun n => (n, decide (0 < cnt n ws))
def opens (ms : List Tx) (ws : List Row) : List Tx := ms.filter fun n => !sure ws n
def seenR (ns : List Tx) (w : Row) : Row := ns.filter fun n => decide (n ∈ w)
def rowsOf (ms : List Tx) (ws : List Row) : List Row := (allR (opens ms ws)).filter fun r => decide (r ∈ ws.map (seenR (opens ms ws)))
theorem cnt_zero {n : Tx} {ws : List Row} : cnt n ws = 0 ↔ ∀ w ∈ ws, n ∉ w := by
  unfold cnt
  rw [List.length_eq_zero_iff, List.filter_eq_nil_iff]
  simp
theorem cnt_all {n : Tx} {ws : List Row} : cnt n ws = ws.length ↔ ∀ w ∈ ws, n ∈ w := by
  unfold cnt
  rw [List.length_filter_eq_length_iff]
  simp
theorem sure_iff {n : Tx} {ws : List Row} : sure ws n = true ↔ (∀ w ∈ ws, n ∉ w) ∨ ∀ w ∈ ws, n ∈ w := by
  unfold sure
  rw [Bool.or_eq_true, decide_eq_true_eq, decide_eq_true_eq, cnt_zero, cnt_all]
theorem opens_sub (ms : List Tx) (ws : List Row) : (opens ms ws).Sublist ms := List.filter_sublist
theorem pos_cnt {n : Tx} {ws : List Row} (w : Row) (hw : w ∈ ws) (hs : sure ws n = true) : decide (0 < cnt n ws) = decide (n ∈ w) := by
  refine decide_eq_decide.mpr ⟨fun h => ?_, fun h => ?_⟩
  · rcases sure_iff.mp hs with z | z
    · rw [cnt_zero.mpr z] at h
      exact absurd h (Nat.lt_irrefl _)
    · exact z w hw
  · refine Nat.pos_of_ne_zero fun z => ?_
    exact cnt_zero.mp z w hw h
section kept
variable {ms : List Tx} {ws os : List Row}
theorem mem_seenR {K : List Tx} {w : Row} {n : Tx} : n ∈ seenR K w ↔ n ∈ K ∧ n ∈ w := by
  unfold seenR
  rw [List.mem_filter, decide_eq_true_eq]
end kept
end Va
set_option Elab.async false
set_option linter.all false
set_option maxRecDepth 100000
set_option maxHeartbeats 4000000
namespace RowK
open PySem PySem.Spec PyProof.Rows SrtO SrtB PySem.W
abbrev Cell := Int ⊕ Str
def isS : Cell → Bool
  | .inl _ => false
  | .inr _ => true
def ltC : Cell → Cell → Bool
  | .inl i, .inl j => decide (i < j)
  | .inl _, .inr _ => true
  | .inr _, .inl _ => false
  | .inr x, .inr y => ltS x y
def ltR : List Cell → List Cell → Bool
  | [], [] => false
  | [], _ :: _ => true
  | _ :: _, [] => false
  | x :: r, y :: q => if x = y then ltR r q else ltC x y
theorem ltS_irr (x : Str) : ltS x x = false := decide_eq_false (List.lt_irrefl _)
theorem ltS_trans {x y z : Str} (h1 : ltS x y = true) (h2 : ltS y z = true) : ltS x z = true :=
  decide_eq_true (List.lt_trans (of_decide_eq_true h1) (of_decide_eq_true h2))
theorem ltC_irr : ∀ x : Cell, ltC x x = false
  | .inl i => decide_eq_false (Int.lt_irrefl i)
  | .inr x => ltS_irr x
theorem ltC_tri : ∀ {x y : Cell}, ltC x y = false → ltC y x = false → x = y
  | .inl i, .inl j, h1, h2 => by
    have a := of_decide_eq_false h1
    have b := of_decide_eq_false h2
    congr 1
    omega
  | .inl _, .inr _, h1, _ => nomatch h1
  | .inr _, .inl _, _, h2 => nomatch h2
  | .inr x, .inr y, h1, h2 => by rw [Va.ltS_tri h1 h2]
theorem ltC_trans : ∀ {x y z : Cell}, ltC x y = true → ltC y z = true → ltC x z = true
  | .inl i, .inl j, .inl k, h1, h2 => by
    have a := of_decide_eq_true h1
    have b := of_decide_eq_true h2
    exact decide_eq_true (by omega)
  | .inl _, .inl _, .inr _, _, _ => rfl
  | .inl _, .inr _, .inr _, _, _ => rfl
  | .inl _, .inr _, .inl _, _, h => nomatch h
  | .inr _, .inl _, _, h, _ => nomatch h
  | .inr _, .inr _, .inl _, _, h => nomatch h
  | .inr _, .inr _, .inr _, h1, h2 => ltS_trans h1 h2
theorem ltR_irr : ∀ r : List Cell, ltR r r = false
  | [] => rfl
  | x :: r => by
    show (if x = x then ltR r r else ltC x x) = false
    rw [if_pos rfl]
    exact ltR_irr r
theorem ltR_tri : ∀ {r q : List Cell}, ltR r q = false → ltR q r = false → r = q
  | [], [], _, _ => rfl
  | [], _ :: _, h, _ => nomatch h
  | _ :: _, [], _, h => nomatch h
  | x :: r, y :: q, h1, h2 => by
    have h1 : (if x = y then ltR r q else ltC x y) = false := h1
    have h2 : (if y = x then ltR q r else ltC y x) = false := h2
    by_cases e : x = y
    · subst e
      rw [if_pos rfl] at h1 h2
      rw [ltR_tri h1 h2]
    · rw [if_neg e] at h1
      rw [if_neg fun z => e z.symm] at h2
      exact absurd (ltC_tri h1 h2) e
theorem ltR_trans : ∀ {r q p : List Cell}, ltR r q = true → ltR q p = true → ltR r p = true
  | [], [], _, h, _ => nomatch h
  | [], _ :: _, [], _, h => nomatch h
  | [], _ :: _, _ :: _, _, _ => rfl
  | _ :: _, [], _, h, _ => nomatch h
  | _ :: _, _ :: _, [], _, h => nomatch h
  | x :: r, y :: q, z :: p, h1, h2 => by
    have h1 : (if x = y then ltR r q else ltC x y) = true := h1
    have h2 : (if y = z then ltR q p else ltC y z) = true := h2
    show (if x = z then ltR r p else ltC x z) = true
    by_cases e : x = y
    · subst e
      rw [if_pos rfl] at h1
      by_cases f : x = z
      · subst f
        rw [if_pos rfl] at h2 ⊢
        exact ltR_trans h1 h2
      · rw [if_neg f] at h2 ⊢
        exact h2
    · rw [if_neg e] at h1
      by_cases f : y = z
      · subst f
        rw [if_neg e]
        exact h1
      · rw [if_neg f] at h2
        have h3 := ltC_trans h1 h2
        by_cases g : x = z
        · subst g
          rw [ltC_irr] at h3
          cases h3
        · rw [if_neg g]
          exact h3
def CellVal (u : Value) : Cell → Prop
  | .inl i => ∃ t, u = .int i t
  | .inr x => ∃ t, u = .str x t
def IsCK (h : Heap) (v : Value) (c : Cell) : Prop := ∃ (a : Addr) (u : Value), v = .ref a ∧ IsTup h a #[.bool (isS c), u] ∧ CellVal u c
def IsRK (h : Heap) (v : Value) (r : List Cell) : Prop := ∃ (a : Addr) (its : List Value), v = .ref a ∧ IsTup h a its.toArray ∧ Paired (IsCK h) its r
theorem tup_keeps {h h' : Heap} {a : Addr} {its : Array Value} (x : IsTup h a its) (k : ∀ b o, h.get? b = some o → o.cls = .type "tuple" → h'.get? b = some o) : IsTup h' a its := by
  obtain ⟨o, ho, hc, r⟩ := x
  exact ⟨o, k _ _ ho hc, hc, r⟩
theorem IsCK.keeps {h h' : Heap} {v : Value} {c : Cell} (x : IsCK h v c) (k : ∀ b o, h.get? b = some o → o.cls = .type "tuple" → h'.get? b = some o) : IsCK h' v c := by
  obtain ⟨a, u, e, t, r⟩ := x
  exact ⟨a, u, e, tup_keeps t k, r⟩
theorem IsRK.keeps {h h' : Heap} {v : Value} {r : List Cell} (x : IsRK h v r) (k : ∀ b o, h.get? b = some o → o.cls = .type "tuple" → h'.get? b = some o) : IsRK h' v r := by
  obtain ⟨a, its, e, t, p⟩ := x
  exact ⟨a, its, e, tup_keeps t k, L2.Paired.mapP p fun _ _ q => IsCK.keeps q k⟩
section
variable {prog : Program} {w : World} {A : Around} {E : Value → Shared → Prop} {s : Shared}
open PySem.SeqAt
section
open PySem.AutoSeq1 (wpAny_loadPart')
open PySem.MeetsSeq PySem.MeetsSeq2 PySem.MeetsSeq3
end
end
end RowK
set_option Elab.async false
set_option linter.all false
set_option maxRecDepth 100000
set_option maxHeartbeats 4000000
namespace RowK
open PySem PySem.Spec PyProof.Rows
theorem CellVal.inj {u : Value} : ∀ {c d : Cell}, CellVal u c → CellVal u d → c = d
  | .inl i, .inl j, ⟨t, h⟩, ⟨t', h'⟩ => by rw [(Value.int.inj (h.symm.trans h')).1]
  | .inl i, .inr y, ⟨t, h⟩, ⟨t', h'⟩ => nomatch h.symm.trans h'
  | .inr x, .inl j, ⟨t, h⟩, ⟨t', h'⟩ => nomatch h.symm.trans h'
  | .inr x, .inr y, ⟨t, h⟩, ⟨t', h'⟩ => by rw [(Value.str.inj (h.symm.trans h')).1]
theorem tup_inj {h : Heap} {a : Addr} {i j : List Value} (x : IsTup h a i.toArray) (y : IsTup h a j.toArray) : i = j := by
  obtain ⟨o, ho, hc, n, hd⟩ := x
  obtain ⟨o', ho', hc', n', hd'⟩ := y
  have eo : o = o' := Option.some.inj (ho.symm.trans ho')
  subst eo
  have e := congrArg Array.toList (Data.seq.inj (hd.symm.trans hd')).1
  simpa using e
theorem IsCK.inj {h : Heap} {v : Value} {c d : Cell} (x : IsCK h v c) (y : IsCK h v d) : c = d := by
  obtain ⟨a, u, rfl, t, hc⟩ := x
  obtain ⟨b, u', e, t', hd⟩ := y
  cases e
  have q : [Value.bool (isS c), u] = [Value.bool (isS d), u'] := tup_inj (h := h) (a := a) t t'
  have e2 := (List.cons.inj (List.cons.inj q).2).1
  subst e2
  exact hc.inj hd
theorem cks_inj {h : Heap} : ∀ {us : List Value} {r q : List Cell}, Paired (IsCK h) us r → Paired (IsCK h) us q → r = q
  | _, _, _, .nil, .nil => rfl
  | _, _, _, .cons a p, .cons b q => by rw [a.inj b, cks_inj p q]
theorem IsRK.inj {h : Heap} {v : Value} {r q : List Cell} (x : IsRK h v r) (y : IsRK h v q) : r = q := by
  obtain ⟨a, its, rfl, t, p⟩ := x
  obtain ⟨b, its', e, t', p'⟩ := y
  cases e
  have e2 := tup_inj t t'
  subst e2
  exact cks_inj p p'
end RowK
namespace L2
open PySem PySem.Spec PyProof.Rows SrtO RowK PySem.W
section
variable {X : Cx} {pins : List (Addr × Obj)} {σ : St} {H : Hp} {s : Shared}
theorem Paired.vals {ys : List V} {us : List Value} (h : Paired RelV ys us) : Vals ys us := by
  induction h with
  | nil => exact .nil
  | cons a _ ih => exact .cons a ih
section
variable {a kS : Addr} {e1 e2 : Nat} {ks its : List Value} {rows : List (List Cell)} {xs : List V} {Q : VK} {E1 : Value → Shared → Prop}
end
end
end L2
set_option Elab.async false
set_option linter.all false
set_option maxRecDepth 100000
set_option maxHeartbeats 4000000
namespace L2
open PySem PySem.Spec PyProof.Rows SrtO RowK PySem.W
section
variable {X : Cx}
end
end L2
set_option Elab.async false
set_option linter.all false
set_option maxRecDepth 100000
set_option maxHeartbeats 4000000
namespace SupE
open PySem PySem.W PySem.Calls PyProof.Rows PySem.HandSPX
abbrev tailV : List Value := [.type "ValueError", .type "Exception", .type "BaseException", .type "object"]
def parm (f : Str) (p1 p2 : Pos) : Arguments := { posonlyargs := [], args := [⟨"self", none, p1⟩, ⟨f, none, p2⟩], vararg := none, kwonlyargs := [], kw_defaults := [], kwarg := none, defaults := [] }
structure Ps where
  a : Pos
  b : Pos
  c : Pos
  d : Pos
  e : Pos
  g : Pos
  q1 : Pos
  q2 : Pos
  q3 : Pos
  q4 : Pos
def bodyI (f : Str) (vs : List Expr) (p : Ps) : List Stmt := [.Expr (.Call (.Attribute (.Call (.Name "super" p.a) [] [] p.b) "__init__" p.c) [.JoinedStr vs p.d] [] p.e) p.g, .Assign [.Attribute (.Name "self" p.q1) f p.q2] (.Name f p.q3) p.q4]
def scI (f : Str) : Scope := { kind := .function, names := [("self", .local), (f, .local), ("__class__", .free), ("super", .globalImplicit)], isGenerator := false, isCoroutine := false, more := [] }
structure Cl (prog : Program) (K : Frag) (C fI : Addr) (f : Str) (vs : List Expr) (p : Ps) : Prop where
  cls : ∃ nm q N bs bm sn sub ab col dd k0 k1 k2 k3 k5, K.lookup C = some (excClassObj nm q C N bs bm true sn sub ab col dd k0 k1 k2 k3 k5 "ValueError.__new__") ∧ refsVE bm = true
  sa : findIn K (.ref C) "__setattr__" = some (some (.builtin "object.__setattr__"))
  ga : findIn K (.ref C) "__getattribute__" = some (some (.builtin "BaseException.__getattribute__"))
  gg : findIn K (.ref C) "__getattr__" = some none
  no : findIn K (.ref C) f = some none
  iC : findIn K (.ref C) "__init__" = some (some (.ref fI))
  tI : typeIn K (.ref fI) = some (.type "function")
  kC : keepIn K (.ref C) = true
  bC : subIn K (.ref C) (.type "BaseException") = some true
  tC : typeIn K (.ref C) = some (.type "type")
  hd : hasDictIn K C = true
  su : ks_superIn K C C "__init__" = some (some (.builtin "ValueError.__init__"))
  ve : subIn K (.ref C) (.type "ValueError") = some true
  qi : excInitIn K C tailV "ValueError.__new__" = true
  mm : mroIn K C (.ref C) = some true
  th : nsIn K cStatics "thirdparty.any" = some none
  call : ∀ env : Env, ∃ pl : Sem Bool, eval (.Call (.Attribute (.Call (.Name "super" p.a) [] [] p.b) "__init__" p.c) [.JoinedStr vs p.d] [] p.e) env = (do
    let ov ← attributeBase (.Call (.Name "super" p.a) [] [] p.b) "__init__" env (eval (.Call (.Name "super" p.a) [] [] p.b) env)
    standAt p.c.atName
    let (g, first) ← holding [ov] (getMethod ov "__init__" pl)
    callWith p.e g first (backTo p.e (starEach [.JoinedStr vs p.d] env)) [])
  top : (prog.main.scope.names.lookup ("super" : Str)).isSome = false
  fn : ∃ (oc : Value) (od : Option Addr) (qual : Str) (p1 p2 : Pos) (doc pm : Value) (an : Option Addr) (cda : Addr) (ct : Value) (cc : Addr) (osl : Array (Option Value)) (ccl : Value) (cdd : Option Addr) (fv : Array Value) (ccs : Array (Option Value)) (file : Str) (tf : Tok) (cl : Value) (cld : Option Addr) (csl : Array (Option Value)),
    K.lookup fI = some ⟨oc, od, .func (ksFn "__init__" qual (parm f p1 p2) (bodyI f vs p) (scI f) .none .none doc pm an (.ref cda) ct cc), osl⟩ ∧ codeIn K (.ref cda) qual = true ∧ K.lookup cda = some ⟨ccl, cdd, .fields fv, ccs⟩ ∧ fv[2]? = some (.str file tf) ∧ ((prog.main.file : Str) == file) = true ∧ K.lookup cc = some ⟨cl, cld, .cell (some (.ref C)), csl⟩
structure Left (h h' : Heap) (x C dx : Addr) (f : Str) (v : Value) : Prop where
  keep : ∀ b o, b ≠ x → h.get? b = some o → h'.get? b = some o
  obj : ∃ t1, h'.get? x = some { cls := .ref C, dict := some dx, data := .fields #[.ref t1, .none, .none, .none, .bool false, .none] }
  big : h.objs.size ≤ dx
  ne : dx ≠ x
  ns : h'.Ns1 dx (fun y => if y = f then some v else none)
section
variable {prog : Program} {w : World} {A : Around} {E : Value → Shared → Prop} {R : Result → Shared → Prop} {s : Shared} {K : Frag} {mg : Str → Option Value} {C fI : Addr} {f : Str} {vs : List Expr} {p : Ps}
structure Made (h h' : Heap) (e C d : Addr) (f : Str) (v : Value) : Prop where
  keep : ∀ b o, h.get? b = some o → h'.get? b = some o
  new : h.objs.size ≤ e
  obj : ∃ oe vs, h'.get? e = some oe ∧ oe.cls = .ref C ∧ oe.dict = some d ∧ oe.data = .fields vs ∧ vs[1]? = some .none
  big : h.objs.size ≤ d
  ne : d ≠ e
  ns : h'.Ns1 d (fun y => if y = f then some v else none)
end
end SupE
namespace L2
open PySem PySem.Spec PyProof.Rows SupE
section
variable {X : Cx} {C fI : Addr} {vs : List Expr} {ps : Ps}
end
end L2
set_option Elab.async false
set_option linter.all false
set_option maxRecDepth 100000
set_option maxHeartbeats 4000000
namespace Va
open PySem PySem.Spec PyProof.Rows L2 Ind
section
variable {X : Cx} {S : Sg} {W : WX} {e : Expr} {es : List Expr} {pos : Pos}
structure HeldX (K : PySem.W.Frag) (oe : Obj) (C : Addr) (d : Option Addr) : Prop where
  cls : oe.cls = .ref C
  fv : ∃ vs, oe.data = .fields vs
  dict : oe.dict = d
  ex : ExcC K C
end
end Va
namespace Va
open PySem PySem.Spec PyProof.Rows L2 Ind
section
variable {X : Cx} {S : Sg} {x n : PySem.Str} {c : Value} {i : Nat} {body suite : List Stmt} {b₀ : Stmt} {np pos pos' : Pos}
end
section
variable {X : Cx} {S : Sg} {W : WX} {pos : Pos}
end
end Va
set_option Elab.async false
set_option linter.all false
set_option maxRecDepth 100000
set_option maxHeartbeats 4000000
namespace SupE
open PySem PySem.W PySem.Calls PyProof.Rows PySem.HandSPX
section
variable {prog : Program} {w : World} {A : Around} {E : Value → Shared → Prop} {R : Result → Shared → Prop} {s : Shared} {K : Frag} {mg : Str → Option Value} {C fI : Addr} {f : Str} {vs : List Expr} {p : Ps}
end
end SupE
namespace L2
open PySem PySem.Spec PyProof.Rows SupE
section
variable {X : Cx} {C fI : Addr} {vs : List Expr} {ps : Ps}
end
end L2
namespace Va
open PySem PySem.Spec PyProof.Rows L2 Ind
section
variable {X : Cx} {S : Sg} {W : WX} {e : Expr} {es : List Expr} {pos : Pos}
end
end Va
set_option Elab.async false
set_option linter.all false
set_option maxRecDepth 100000
set_option maxHeartbeats 4000000
namespace L2
open PySem PySem.Spec PyProof.Rows
abbrev Clau : Type := Bool × Value × (Addr → Value → Option Addr → TS)
def Ends.off (D : Ends) (i : Nat) : Ends := { nx := fun τ G => D.nx (τ.set i none) G, rt := D.rt, bk := fun τ G => D.bk (τ.set i none) G, ct := fun τ G => D.ct (τ.set i none) G }
inductive Clauses (X : Cx) (n : Str) : List ExceptHandler → List Clau → Prop
  | nil : Clauses X n [] []
  | cons (nm : Bool) {x : Str} {c : Value} {ts : Addr → Value → Option Addr → TS} {b₀ : Stmt} {suite : List Stmt} {p1 p2 : Pos} {hs : List ExceptHandler} {l : List Clau} (names : Names X x c)
      (run : ∀ (a : Addr) (ob : Obj) (cls : Value) (d : Option Addr) (pn : List (Addr × Obj)), Zc cls d ob → (∃ vs, ob.data = .fields vs) → PSs (X.suite a ((a, ob) :: pn)) (b₀ :: suite) (ts a cls d)) (rest : Clauses X n hs l) :
      Clauses X n (.ExceptHandler (some (.Name x p1)) (if nm = true then some n else none) (b₀ :: suite) p2 :: hs) ((nm, c, ts) :: l)
section
variable {X : Cx} {n : Str} {i : Nat} {body : List Stmt} {c₀ : ExceptHandler} {cs : List ExceptHandler} {l : List Clau} {pos : Pos} {tb : WX → TS} {out : WX}
end
end L2
set_option Elab.async false
set_option linter.all false
set_option maxRecDepth 100000
set_option maxHeartbeats 4000000
namespace Va
open PySem PySem.Spec PyProof.Rows L2 Ind
structure VCl where
  nm : Bool
  c : Value
  mt : Er → Bool
  ts : Addr → Option Addr → Er → VS
def toCl (S : Sg) (okE : Er → Prop) (k : VCl) : Clau := (k.nm, k.c, fun a cls d D σ H => ∃ e : Er, okE e ∧ cls = .ref e.cls ∧ liftS S (k.ts a d e) D σ H)
section
variable {X : Cx} {S : Sg} {n : PySem.Str} {i : Nat} {body : List Stmt} {c₀ : ExceptHandler} {cs : List ExceptHandler} {l : List VCl} {pos : Pos}
inductive VClauses (X : Cx) (S : Sg) (n : PySem.Str) (okE : Er → Prop) : List ExceptHandler → List VCl → Prop
  | nil : VClauses X S n okE [] []
  | cons (nm : Bool) (mt : Er → Bool) {x : PySem.Str} {c : Value} {ts : Addr → Option Addr → Er → VS} {b₀ : Stmt} {suite : List Stmt} {p1 p2 : Pos} {hs : List ExceptHandler} {l : List VCl} (names : Names X x c)
      (hx : ∀ e, okE e → PySem.W.exmOne X.K (.ref e.cls) c = some (mt e))
      (run : ∀ (e : Er) (a : Addr) (d : Option Addr) (oe : Obj) (pn : List (Addr × Obj)), HeldX X.K oe e.cls d → VSs S (X.suite a ((a, oe) :: pn)) (b₀ :: suite) (ts a d e)) (rest : VClauses X S n okE hs l) :
      VClauses X S n okE (.ExceptHandler (some (.Name x p1)) (if nm = true then some n else none) (b₀ :: suite) p2 :: hs) (⟨nm, c, mt, ts⟩ :: l)
theorem VClauses.to {okE : Er → Prop} (hE : ∀ e, okE e → ExcC X.K e.cls) {hs : List ExceptHandler} (h : VClauses X S n okE hs l) : Clauses X n hs (l.map (toCl S okE)) := by
  induction h with
  | nil => exact .nil
  | cons nm mt names hx run rest ih =>
    refine .cons nm names (fun a ob cls d pn hz hfl => ⟨fun pins s σ H D I h => ?_⟩) ih
    obtain ⟨e, oke, ec, h⟩ := h
    exact (run e a d ob pn ⟨hz.1.trans ec, hfl, hz.2, hE e oke⟩).run pins s σ H D I h
end
end Va
namespace Va
end Va
set_option Elab.async false
set_option linter.all false
set_option maxRecDepth 100000
set_option maxHeartbeats 4000000
namespace Va
open PySem PySem.Spec PyProof.Rows L2 Ind
def popD (i : Nat) (Q : D → En → Prop) (d : D) (E1 : En) : Prop := match d with
  | .int j => onL E1.l[i]? fun ds => ∃ k y, j = ((k : Nat) : Int) ∧ k < 1000000 ∧ ds[k]? = some y ∧ Q y (E1.set i (.ol (ds.eraseIdx k)))
  | _ => False
def vPopAt (i : Nat) (t : VT) : VT := fun E Q => onL E.l[i]? fun _ => t E (popD i Q)
theorem RpL.drop1 {K : PySem.W.Frag} {tp : Option Tp} {H : Hp} : ∀ {vs : List V} {ds : List D} (k : Nat), RpL K tp H vs ds → RpL K tp H (vs.eraseIdx k) (ds.eraseIdx k)
  | _, _, _, .nil => .nil
  | _, _, 0, .cons _ h2 => h2
  | _, _, k + 1, .cons h1 h2 => .cons h1 (RpL.drop1 k h2)
section
variable {X : Cx} {S : Sg} {e : Expr}
theorem ve_popAt {i : Nat} {o : Expr} {t : VT} {apos cpos : Pos} (ho : PE X o (tVar i)) (he : VE S X e t)
    (hbase : attributeBase o "pop" X.env (eval o X.env) = eval o X.env := by rfl)
    (hfew : ((backTo cpos (starEach [e] X.env)).all (fun x => !x.1) && (backToKw cpos (keywordEach [] X.env)).all (fun x => x.1.isSome)
      && decide (([e] : List Expr).length + ([] : List Keyword).length + (if ([] : List Keyword).isEmpty then 0 else 1) < 30)) = true := by rfl)
    (hline : (apos.endLine == cpos.line) = true := by rfl) (hs : starEach [e] X.env = (false, eval e X.env) :: starEach [] X.env := by rfl) (hplain : (backTo cpos (starEach [] X.env)).any (·.1) = false := by rfl) :
    VE S X (.Call (.Attribute o "pop" apos) [e] [] cpos) (vPopAt i t) := by
  refine pe_weak (pe_bm PySem.F.plainAttrs_list PySem.F.slot_list_pop PySem.F.type_list_pop mt_popAt ho (va_cons (S := S) he va_nil hs) hbase hfew hline hs hplain) ?_
  rintro σ H Q ⟨Γ, E, Q0, ok, rp, ht, k⟩
  obtain ⟨ds0, e0, ht⟩ := onL_inv ht
  obtain ⟨p, xs0, hv, hl0, _, _⟩ := own_list rp e0
  refine ⟨_, hv, .inl ⟨rfl, xs0, .of hl0⟩, ?_⟩
  refine ⟨Γ, E, fun ds E1 => match ds with
    | [d] => popD i Q0 d E1
    | _ => False, ok, rp, ht, fun ds E1 hq vs H1 kq1 rp1 hvs => ?_⟩
  match ds, hq, vs, hvs with
  | [d], hq, [u], .cons hu .nil =>
    have hd : ∃ j, d = .int j := by cases d <;> first | exact ⟨_, rfl⟩ | exact hq.elim
    obtain ⟨j, rfl⟩ := hd
    obtain ⟨ds1, e1, m, y, rfl, hm, hy, hq⟩ := onL_inv hq
    cases hu
    obtain ⟨p1, xs1, hv1, hl1, hr1, fr1⟩ := own_list rp1 e1
    rw [hv] at hv1
    cases hv1
    obtain ⟨v, hgv, hrv⟩ := hr1.get hy
    have hlt := (List.getElem?_eq_some_iff.mp hgv).1
    obtain ⟨kq2, rp2⟩ := rp1.wrL e1 hv hl1 fr1 (RpL.drop1 m hr1)
    refine ⟨p, xs1, ((m : Nat) : Int), m, v, rfl, rfl, hl1, by omega, by omega, seqIndex_of (by omega) (by omega), hgv, ?_⟩
    exact k _ _ hq v _ (kq1.trans kq2) rp2 (Rp.kq kq2 _ _ hrv)
end
end Va
set_option Elab.async false
set_option linter.all false
set_option maxRecDepth 100000
set_option maxHeartbeats 4000000
namespace Va
open PySem PySem.Spec PyProof.Rows L2 Ind RowK
def cellD : Cell → D
  | .inl i => .int i
  | .inr x => .str x
section
variable {K : PySem.W.Frag} {tp : Option Tp} {H : Hp}
theorem cell_v {u : V} : ∀ {c : Cell}, Rp K tp H u (cellD c) → u = kV c
  | .inl i, h => by cases h; rfl
  | .inr x, h => by cases h; rfl
end
section
variable {X : Cx} {S : Sg}
end
end Va
set_option Elab.async false
set_option linter.all false
set_option maxRecDepth 100000
set_option maxHeartbeats 4000000
namespace Va
open PySem PySem.Spec PyProof.Rows L2 Ind PySem.Froz
structure TSet (P : Program) (w : World) (D : SD) (l : List PySem.Str) : Prop where
  ok : TxOk P w D l
  nd : l.Nodup
  ris : Ris D.2.2.place.toList
  led : w.params.followText "set-order" = true ∨ D.2.2.led = true
  dum : D.2.2.dummies = #[]
theorem has_nil (j : Nat) : SetTable.has #[] j = false := by
  unfold SetTable.has
  simp
theorem put_dum {t : SetTable} (h : t.dummies = #[]) (j : Nat) : (t.put j).1.dummies = #[] := by
  show (if SetTable.has t.dummies j then SetTable.eraseAt t.dummies (SetTable.below t.dummies j) else t.dummies) = #[]
  rw [h, has_nil]
  rfl
theorem layNew_dum {t : SetTable} (h : t.dummies = #[]) (es : Array (Int × Value)) (k : Int) (x : Value) : (layNew t es k x).2.1.dummies = #[] := by
  unfold layNew
  cases hq : t.freeSlot k with
  | none => rfl
  | some q =>
    show ((t.put q.1).1.orStandIn _).dummies = #[]
    unfold SetTable.orStandIn
    split
    · exact put_dum h _
    · rfl
theorem laid_dum {mask finger moves : Nat} {led plain : Bool} {hs : Array Int} {q : SetTable × Array Nat} (e : SetTable.laid mask finger moves led plain hs = some q) : q.1.dummies = #[] := by
  unfold SetTable.laid at e
  cases hl : SetTable.layClean mask hs with
  | none => rw [hl] at e; first | (cases e; done) | (simp at e; done)
  | some ow =>
    rw [hl] at e
    have e1 := congrArg Prod.fst (Option.some.inj e)
    rw [← e1]
theorem relayAll_dum (t : SetTable) (es : Array (Int × Value)) (n : Nat) : (relayAll t es n).2.1.dummies = #[] := by
  unfold relayAll
  cases hq : t.relaid (es.map (·.1)) n with
  | none => rfl
  | some q =>
    dsimp only
    split
    · exact laid_dum hq
    · rfl
section
variable {P : Program} {w : World} {A : Around} {E : Value → Shared → Prop} {s : Shared} {D : SD} {l : List PySem.Str} {k : PySem.Str} {u : Tok}
theorem TSet.new (w : World) (ep fi mo : Nat) : TSet P w (#[], ep, .fresh fi mo (!w.params.followText "set-order")) [] := by
  refine ⟨TxOk.nil rfl, List.nodup_nil, List.Pairwise.nil, ?_, rfl⟩
  show _ ∨ (!w.params.followText "set-order") = true
  cases w.params.followText "set-order"
  · exact .inr rfl
  · exact .inl rfl
theorem off_ris {t : SetTable} (h : Ris t.place.toList) : Ris (if t.plain = true then { t with plain := false } else t).place.toList := by split <;> exact h
theorem off_led {t : SetTable} (h : t.led = true) : (if t.plain = true then { t with plain := false } else t).led = true := by split <;> exact h
theorem off_dum {t : SetTable} (h : t.dummies = #[]) : (if t.plain = true then { t with plain := false } else t).dummies = #[] := by split <;> exact h
theorem tail_ris {ep : Nat} {es : Array (Int × Value)} {t : SetTable} {b : Bool} (h : Ris t.place.toList) : Ris (tailTx ep es t b).2.2.place.toList := by
  unfold tailTx
  by_cases c : (!b && t.tooFull) = true
  · rw [if_pos c]; exact relayAll_ris _ _ _
  · rw [if_neg c]; exact h
theorem tail_led {ep : Nat} {es : Array (Int × Value)} {t : SetTable} {b : Bool} (h : t.led = true) : (tailTx ep es t b).2.2.led = true := by
  unfold tailTx
  by_cases c : (!b && t.tooFull) = true
  · rw [if_pos c]; exact (relayAll_led t es _).trans h
  · rw [if_neg c]; exact h
theorem tail_dum {ep : Nat} {es : Array (Int × Value)} {t : SetTable} {b : Bool} (h : t.dummies = #[]) : (tailTx ep es t b).2.2.dummies = #[] := by
  unfold tailTx
  by_cases c : (!b && t.tooFull) = true
  · rw [if_pos c]; exact relayAll_dum _ _ _
  · rw [if_neg c]; exact h
theorem TSet.add (u : Tok) (F : TSet P w D l) (hk : k ∉ l) : TSet P w (addTx (hashStr w k) (.str k u) D) (k :: l) := by
  obtain ⟨es, ep, t⟩ := D
  have r1 := layNew_ris t es (hashStr w k) (.str k u) F.ris
  have r2 := layNew_led t es (hashStr w k) (.str k u)
  have r3 := layNew_dum F.dum es (hashStr w k) (.str k u)
  refine ⟨add_ok u F.ok, List.nodup_cons.mpr ⟨hk, F.nd⟩, ?_, ?_, ?_⟩
  · exact tail_ris (off_ris r1)
  · exact F.led.imp id fun z => tail_led (off_led (r2.trans z))
  · exact tail_dum (off_dum r3)
end
end Va
set_option Elab.async false
set_option linter.all false
set_option maxRecDepth 100000
set_option maxHeartbeats 4000000
namespace Va
open PySem PySem.Spec PyProof.Rows L2 Ind PySem.Froz
section
variable {P : Program} {w : World} {A : Around} {E : Value → Shared → Prop} {s : Shared}
def Holds (P : Program) (w : World) (h : Heap) (S : Addr) (xs : List PySem.Str) : Prop := ∃ D l, h.get? S = some (sObj "set" D) ∧ TSet P w D l ∧ (∀ k, k ∈ l ↔ k ∈ xs) ∧ l.length ≤ xs.length
theorem Holds.at {h h' : Heap} {S : Addr} {xs : List PySem.Str} (q : Holds P w h S xs) (k : ∀ o, h.get? S = some o → h'.get? S = some o) : Holds P w h' S xs := by
  obtain ⟨D, l, e, r⟩ := q
  exact ⟨D, l, k _ e, r⟩
set_option maxHeartbeats 8000000 in
end
end Va
set_option Elab.async false
set_option linter.all false
set_option maxRecDepth 100000
set_option maxHeartbeats 4000000
namespace Va
open PySem PySem.Spec PyProof.Rows L2 Ind PySem.Froz
structure Own (m k : Nat) (ow : Array (Option Nat)) : Prop where
  sz : ow.size = m + 1
  pm : (ow.toList.filterMap id).Perm (List.range k)
theorem fill_perm {k : Nat} : ∀ {l : List (Option Nat)} {j : Nat}, l[j]? = some none → ((l.set j (some k)).filterMap id).Perm (k :: l.filterMap id)
  | [], j, h => by simp at h
  | x :: l, 0, h => by
    have e : x = none := by simpa using h
    subst e
    exact List.Perm.refl _
  | x :: l, j + 1, h => by
    have q := fill_perm (k := k) (l := l) (j := j) (by simpa using h)
    cases x with
    | none => exact q
    | some y => exact (q.cons y).trans (List.Perm.swap k y _)
theorem some_all : ∀ {l : List (Option Nat)}, (∀ x ∈ l, x ≠ none) → (l.filterMap id).length = l.length
  | [], _ => rfl
  | none :: l, h => absurd rfl (h none List.mem_cons_self)
  | some y :: l, h => congrArg (· + 1) (some_all fun x hx => h x (List.mem_cons_of_mem _ hx))
theorem Own.room {m k : Nat} {ow : Array (Option Nat)} (o : Own m k ow) (hk : k ≤ m) : ∃ j, j ≤ m ∧ ow.getD j (some 0) = none := by
  by_cases h : ∃ x ∈ ow.toList, x = none
  · obtain ⟨x, hx, rfl⟩ := h
    obtain ⟨j, hj⟩ := List.mem_iff_getElem?.mp hx
    have hl := (List.getElem?_eq_some_iff.mp hj).1
    refine ⟨j, by have := o.sz; rw [Array.length_toList] at hl; omega, ?_⟩
    rw [Array.getD_eq_getD_getElem?, ← Array.getElem?_toList, hj]
    rfl
  · have := some_all (l := ow.toList) fun x hx e => h ⟨x, hx, e⟩
    rw [o.pm.length_eq, List.length_range, Array.length_toList, o.sz] at this
    omega
theorem Own.put {m k j : Nat} {ow : Array (Option Nat)} (o : Own m k ow) (hj : ow.getD j (some 0) = none) : Own m (k + 1) (ow.setIfInBounds j (some k)) := by
  have hl : ow.toList[j]? = some none := by
    rw [Array.getD_eq_getD_getElem?] at hj
    rw [Array.getElem?_toList]
    cases h : ow[j]? with
    | none => rw [h] at hj; cases hj
    | some x => rw [h] at hj; cases hj; rfl
  refine ⟨by simp [o.sz], ?_⟩
  rw [Array.toList_setIfInBounds]
  refine (fill_perm hl).trans ((o.pm.cons k).trans ?_)
  rw [List.range_succ]
  exact (List.perm_append_singleton _ _).symm
end Va
set_option Elab.async false
set_option linter.all false
set_option maxRecDepth 100000
set_option maxHeartbeats 4000000
namespace Va
open PySem PySem.Spec PyProof.Rows L2 Ind PySem.Froz
def txV : Value → PySem.Str
  | .str x _ => x
  | _ => default
theorem perm_of_len {α : Type} : ∀ {l m : List α}, l.Nodup → (∀ x ∈ l, x ∈ m) → m.length ≤ l.length → m.Perm l
  | [], m, _, _, h => by
    have : m = [] := List.length_eq_zero_iff.mp (Nat.le_zero.mp h)
    rw [this]
  | x :: l, m, nd, sub, h => by
    obtain ⟨a, b, rfl⟩ := List.append_of_mem (sub x List.mem_cons_self)
    obtain ⟨n1, n2⟩ := List.nodup_cons.mp nd
    have q := perm_of_len (l := l) (m := a ++ b) n2 (fun y hy => by
      rcases List.mem_append.mp (sub y (List.mem_cons_of_mem _ hy)) with z | z
      · exact List.mem_append_left _ z
      · rcases List.mem_cons.mp z with rfl | z
        · exact absurd hy n1
        · exact List.mem_append_right _ z) (by simp at h ⊢; omega)
    exact List.perm_middle.trans (q.cons x)
section
variable {P : Program} {w : World} {A : Around} {E : Value → Shared → Prop} {s : Shared} {D : SD} {l : List PySem.Str}
theorem TSet.keys (F : TSet P w D l) : (D.1.toList.map fun e => txV e.2).Perm l := by
  refine perm_of_len F.nd (fun k hk => ?_) (by rw [List.length_map, Array.length_toList, show D.1.size = l.length from F.ok.sz]; exact Nat.le_refl _)
  obtain ⟨e, he, hek⟩ := (F.ok.mem k).mp hk
  obtain ⟨u, h3⟩ := Value.isStrOf_shape hek
  exact List.mem_map.mpr ⟨e, he, by rw [h3]; rfl⟩
end
end Va
set_option Elab.async false
set_option linter.all false
set_option maxRecDepth 100000
set_option maxHeartbeats 4000000
namespace Va
open PySem PySem.Spec PyProof.Rows L2 Ind PySem.Froz
section
variable {P : Program} {w : World} {A : Around} {E : Value → Shared → Prop} {s : Shared} {D : SD} {l : List PySem.Str}
end
end Va
set_option Elab.async false
set_option linter.all false
set_option maxRecDepth 100000
set_option maxHeartbeats 4000000
namespace Va
open PySem PySem.Spec PyProof.Rows L2 Ind PySem.Froz
structure TLoose (P : Program) (w : World) (D : SD) (l : List PySem.Str) : Prop where
  ok : TxOk P w D l
  nd : l.Nodup
  ris : Ris D.2.2.place.toList
  led : w.params.followText "set-order" = true ∨ D.2.2.led = true
section
variable {P : Program} {w : World} {A : Around} {E : Value → Shared → Prop} {s : Shared} {D : SD} {l : List PySem.Str}
theorem TSet.loose (F : TSet P w D l) : TLoose P w D l := ⟨F.ok, F.nd, F.ris, F.led⟩
theorem erase_list {α : Type} (es : Array α) (i : Nat) : (SetTable.eraseAt es i).toList = es.toList.eraseIdx i := by
  unfold SetTable.eraseAt
  rw [Array.toList_append, Array.toList_extract, Array.toList_extract, List.eraseIdx_eq_take_drop_succ, List.extract_eq_take_drop, List.extract_eq_take_drop]
  rw [Nat.sub_zero, List.drop_zero, List.take_of_length_le (l := List.drop (i + 1) es.toList) (by rw [List.length_drop, Array.length_toList]; exact Nat.le_refl _)]
theorem ris_erase {xs : Array Nat} (r : Ris xs.toList) (i : Nat) : Ris (SetTable.eraseAt xs i).toList := by
  rw [erase_list]
  exact List.Pairwise.sublist (List.eraseIdx_sublist _ _) r
theorem insert_size {α : Type} (xs : Array α) (p : Nat) (x : α) : (SetTable.insertAt xs p x).size = xs.size + 1 := by
  rw [← Array.length_toList, SetTable.toList_insertAt, List.length_append, List.length_cons, ← Array.length_toList, List.length_take, List.length_drop]
  omega
theorem erase_size {α : Type} {xs : Array α} {i : Nat} (h : i < xs.size) : (SetTable.eraseAt xs i).size + 1 = xs.size := by
  rw [← Array.length_toList, erase_list, List.length_eraseIdx_of_lt (by rw [Array.length_toList]; exact h), Array.length_toList]
  omega
def outS (k : PySem.Str) (l : List PySem.Str) : List PySem.Str := l.filter fun x => decide (x ≠ k)
theorem mem_outS {k x : PySem.Str} {l : List PySem.Str} : x ∈ outS k l ↔ x ∈ l ∧ x ≠ k := by
  unfold outS
  rw [List.mem_filter, decide_eq_true_eq]
theorem outS_len {k : PySem.Str} : ∀ {l : List PySem.Str}, l.Nodup → k ∈ l → (outS k l).length + 1 = l.length
  | [], _, h => by cases h
  | x :: l, nd, h => by
    obtain ⟨n1, n2⟩ := List.nodup_cons.mp nd
    unfold outS
    by_cases e : x = k
    · subst e
      rw [List.filter_cons_of_neg (by simp), List.filter_eq_self.mpr fun y hy => by
        rw [decide_eq_true_eq]
        rintro rfl
        exact n1 hy]
      rfl
    · rw [List.filter_cons_of_pos (by simpa using e)]
      have := outS_len n2 ((List.mem_cons.mp h).resolve_left fun z => e z.symm)
      unfold outS at this
      rw [List.length_cons, List.length_cons, this]
theorem TLoose.drop {k : PySem.Str} {u : Tok} {i : Nat} {es : Array (Int × Value)} {ep ep' : Nat} {t : SetTable} (F : TLoose P w (es, ep, t) l) (hi : es[i]? = some (hashStr w k, .str k u)) :
    TLoose P w (SetTable.eraseAt es i, ep', t.drop i) (outS k l) ∧ (t.drop i).mask = t.mask ∧ (t.drop i).dummies.size = t.dummies.size + 1 := by
  obtain ⟨hl, hx⟩ := Array.getElem?_eq_some_iff.mp hi
  have hfit : t.fits es.size = true := F.ok.fit
  have hfit2 : t.place.size = es.size ∧ t.fill ≤ t.mask := by simpa [SetTable.fits] using hfit
  have hp : i < t.place.size := by omega
  have ed : t.drop i = { t with place := SetTable.eraseAt t.place i, dummies := SetTable.insertAt t.dummies (SetTable.below t.dummies t.place[i]) t.place[i] } := by
    unfold SetTable.drop
    rw [Array.getElem?_eq_getElem hp]
  have hk : k ∈ l := (F.ok.mem k).mpr ⟨es[i], Array.getElem_mem_toList hl, by rw [hx]; exact is_str k u⟩
  have len := outS_len F.nd hk
  have sz : es.size = l.length := F.ok.sz
  have pm : (es[i] :: es.toList.eraseIdx i).Perm es.toList := erase_perm _ _ _ (by rw [Array.getElem?_toList]; exact Array.getElem?_eq_getElem hl)
  have el : ∀ e ∈ es.toList, _ := F.ok.el
  -- no other has the key
  have other : ∀ e ∈ es.toList.eraseIdx i, (strKind P w).is k e.2 = false := fun e he => by
    cases q : (strKind P w).is k e.2 with
    | false => rfl
    | true =>
      exfalso
      obtain ⟨u2, e2⟩ := Value.isStrOf_shape q
      have F2 : (es.toList.map fun e => txV e.2).Perm l := perm_of_len F.nd (fun k hk => by
        obtain ⟨e, he, hek⟩ := (F.ok.mem k).mp hk
        obtain ⟨u, h3⟩ := Value.isStrOf_shape hek
        exact List.mem_map.mpr ⟨e, he, by rw [h3]; rfl⟩) (by rw [List.length_map, Array.length_toList, sz]; exact Nat.le_refl _)
      have nd2 := (((pm.map fun e => txV e.2).trans F2).nodup_iff).mpr F.nd
      rw [List.map_cons, hx] at nd2
      exact (List.nodup_cons.mp nd2).1 (List.mem_map.mpr ⟨e, he, by rw [e2]; rfl⟩)
  refine ⟨⟨⟨fun e he => ?_, fun x => ?_, ?_, ?_⟩, F.nd.filter _, ?_, ?_⟩, ?_, ?_⟩
  · have he : e ∈ (SetTable.eraseAt es i).toList := he
    rw [erase_list] at he
    exact el e (pm.mem_iff.mp (List.mem_cons_of_mem _ he))
  · show _ ↔ ∃ e ∈ (SetTable.eraseAt es i).toList, _
    rw [mem_outS, F.ok.mem x, erase_list]
    constructor
    · rintro ⟨⟨e, he, hek⟩, ne⟩
      refine ⟨e, (List.mem_cons.mp (pm.mem_iff.mpr he)).resolve_left fun z => ne ?_, hek⟩
      rw [z, hx] at hek
      exact (strKind P w).inj (.str k u) x k hek (is_str k u)
    · rintro ⟨e, he, hek⟩
      refine ⟨⟨e, pm.mem_iff.mp (List.mem_cons_of_mem _ he), hek⟩, fun z => ?_⟩
      rw [z, other e he] at hek
      cases hek
  · show (SetTable.eraseAt es i).size = _
    have := erase_size hl
    omega
  · show (t.drop i).fits (SetTable.eraseAt es i).size = true
    have a1 := erase_size hl
    have a2 := erase_size hp
    have a3 : t.place.size + t.dummies.size ≤ t.mask := hfit2.2
    rw [ed]
    simp only [SetTable.fits, SetTable.fill, insert_size, Bool.and_eq_true, beq_iff_eq, decide_eq_true_eq]
    omega
  · show Ris (t.drop i).place.toList
    rw [ed]
    exact ris_erase F.ris i
  · show _ ∨ (t.drop i).led = true
    rw [ed]
    exact F.led
  · rw [ed]
  · rw [ed]
    exact insert_size _ _ _
end
end Va
set_option Elab.async false
set_option linter.all false
set_option maxRecDepth 100000
set_option maxHeartbeats 4000000
namespace Va
open PySem PySem.Spec PyProof.Rows L2 Ind PySem.Froz
section
variable {P : Program} {w : World} {A : Around} {E : Value → Shared → Prop} {s : Shared} {D : SD} {l : List PySem.Str}
structure Bare (w : World) (m : Nat) (D : SD) : Prop where
  es : D.1 = #[]
  pl : D.2.2.place = #[]
  du : D.2.2.dummies = #[]
  ma : D.2.2.mask = m
  le : D.2.2.led = !w.params.followText "set-order"
theorem Bare.fits {m : Nat} (b : Bare w m D) : D.2.2.fits D.1.size = true := by
  unfold SetTable.fits SetTable.fill
  rw [b.es, b.pl, b.du]
  simp
end
end Va
set_option Elab.async false
set_option linter.all false
set_option maxRecDepth 100000
set_option maxHeartbeats 4000000
namespace Va
open PySem PySem.Spec PyProof.Rows L2 Ind PySem.Froz
section
variable {P : Program} {w : World} {A : Around} {E : Value → Shared → Prop} {s : Shared} {D : SD} {l : List PySem.Str}
end
end Va
set_option Elab.async false
set_option linter.all false
set_option maxRecDepth 100000
set_option maxHeartbeats 4000000
namespace Va
open PySem PySem.Spec PyProof.Rows L2 Ind PySem.Froz
def HoldsL (P : Program) (w : World) (h : Heap) (S : Addr) (xs : List PySem.Str) : Prop := ∃ D l, h.get? S = some (sObj "set" D) ∧ TLoose P w D l ∧ (∀ k, k ∈ l ↔ k ∈ xs) ∧ l.length < 1000
theorem HoldsL.at {P : Program} {w : World} {h h' : Heap} {S : Addr} {xs : List PySem.Str} (q : HoldsL P w h S xs) (k : ∀ o, h.get? S = some o → h'.get? S = some o) : HoldsL P w h' S xs := by
  obtain ⟨D, l, e, r⟩ := q
  exact ⟨D, l, k _ e, r⟩
section
variable {X : Cx} {pins : List (Addr × Obj)} {σ : L2.St} {H : Hp} {s : Shared} {a : Addr} {xs : List PySem.Str}
end
section
variable {X : Cx} {elt tg iter : Expr} {scope : Scope} {own : List (PySem.Str × Nat)} {pos : Pos} {wi : TI} {g : TG} {te : TE}
end
end Va
set_option Elab.async false
set_option linter.all false
set_option maxRecDepth 100000
set_option maxHeartbeats 4000000
namespace L2
open PySem PySem.Spec PyProof.Rows
def KeysIn (K : PySem.W.Frag) (H : Hp) (xs : List (List Key × Addr × Value)) : Prop := ∀ x ∈ xs, SqT K H x.2.1 (x.1.map kV)
section
variable {X : Cx} {pins : List (Addr × Obj)} {σ : St} {H : Hp} {s : Shared} {D b : Addr} {xs : List (List Key × Addr × Value)} {r : List Key}
end
end L2
set_option Elab.async false
set_option linter.all false
set_option maxRecDepth 100000
set_option maxHeartbeats 4000000
namespace Va
open PySem PySem.Spec PyProof.Rows L2 Ind
section
variable {X : Cx} {kx vx tg iter : Expr} {scope : Scope} {own : List (PySem.Str × Nat)} {pos : Pos} {wi : TI} {g : TG} {tk tv : TE}
end
end Va
set_option Elab.async false
set_option linter.all false
set_option maxRecDepth 100000
set_option maxHeartbeats 4000000
namespace Va
open PySem PySem.Spec PyProof.Rows L2 Ind PySem.Froz
section
variable {X : Cx}
end
end Va
set_option Elab.async false
set_option linter.all false
set_option maxRecDepth 100000
set_option maxHeartbeats 4000000
namespace Va
open PySem PySem.Spec PyProof.Rows L2 Ind
section
variable {X : Cx} {S : Sg} {e elt tg iter : Expr} {scope : Scope} {own : List (PySem.Str × Nat)} {p0 p1 pos1 pos2 pos3 pos4 : Pos} {tv : VT} {vi : VI} {g : VG} {el : VT}
end
end Va
set_option Elab.async false
set_option linter.all false
set_option maxRecDepth 100000
set_option maxHeartbeats 4000000
namespace Va
open PySem PySem.Spec PyProof.Rows L2 Ind RowK
def onc {α : Type} [DecidableEq α] : List α → List α → List α
  | acc, [] => acc
  | acc, r :: l => if r ∈ acc then onc acc l else onc (acc ++ [r]) l
theorem onc_mem {α : Type} [DecidableEq α] {r : α} : ∀ {l acc : List α}, r ∈ onc acc l ↔ r ∈ acc ∨ r ∈ l
  | [], acc => by
    show r ∈ acc ↔ _
    simp
  | x :: l, acc => by
    show r ∈ (if x ∈ acc then onc acc l else onc (acc ++ [x]) l) ↔ _
    by_cases h : x ∈ acc
    · rw [if_pos h, onc_mem, List.mem_cons]
      exact ⟨fun z => z.imp id .inr, fun z => z.elim .inl fun z => z.elim (fun e => .inl (e ▸ h)) .inr⟩
    · rw [if_neg h, onc_mem, List.mem_append, List.mem_singleton, List.mem_cons, or_assoc]
def rowD (r : List Cell) : D := .tup (r.map cellD)
section
variable {K : PySem.W.Frag} {tp : Option Tp} {H H' : Hp} {D b : Addr} {xs : List (List Key × Addr × Value)} {r : List Key} {v : Value}
theorem cells_v : ∀ {r : List Cell} {vs : List V}, RpL K tp H vs (r.map cellD) → vs = r.map kV
  | [], _, h => by cases h; rfl
  | c :: r, _, h => by
    cases h with
    | cons h1 h2 => rw [cell_v h1, cells_v h2]; rfl
theorem rp_cells : ∀ r : List Cell, RpL K tp H (r.map kV) (r.map cellD)
  | [] => .nil
  | .inl i :: r => .cons (.int i) (rp_cells r)
  | .inr x :: r => .cons (.str x) (rp_cells r)
theorem row_inv {u : V} {r : List Cell} (h : Rp K tp H u (rowD r)) : ∃ b, u = .ref b ∧ SqT K H b (r.map kV) := by
  cases h with
  | tup hs ha =>
    rw [cells_v ha] at hs
    exact ⟨_, rfl, hs⟩
theorem KeysIn.kq (k : Kq H H') (h : KeysIn K H xs) : KeysIn K H' xs := fun x hx => k.sqT (h x hx)
end
theorem onc_le {α : Type} [DecidableEq α] : ∀ (l acc : List α), (onc acc l).length ≤ acc.length + l.length
  | [], acc => Nat.le_refl _
  | x :: l, acc => by
    show (if x ∈ acc then onc acc l else onc (acc ++ [x]) l).length ≤ _
    split
    · have := onc_le l acc
      rw [List.length_cons]
      omega
    · have := onc_le l (acc ++ [x])
      rw [List.length_append] at this
      rw [List.length_cons]
      simp at this
      omega
section
variable {X : Cx} {S : Sg} {kx tg iter : Expr} {scope : Scope} {own : List (PySem.Str × Nat)} {p0 pos2 pos4 : Pos} {bv : Bool} {bj : Nat} {bp : Pos} {vi : VI} {g : VG} {kl : VT}
end
end Va
set_option Elab.async false
set_option linter.all false
set_option maxRecDepth 100000
set_option maxHeartbeats 4000000
namespace Va
open PySem PySem.Spec PyProof.Rows L2 Ind
section
variable {X : Cx} {S : Sg} {e : Expr} {pos : Pos}
end
end Va
set_option Elab.async false
set_option linter.all false
set_option maxRecDepth 100000
set_option maxHeartbeats 4000000
namespace Va
open PySem PySem.Spec PyProof.Rows L2 Ind
section
variable {X : Cx} {S : Sg}
end
end Va
set_option Elab.async false
set_option linter.all false
set_option maxRecDepth 100000
set_option maxHeartbeats 4000000
namespace Va
open PySem PySem.Spec PyProof.Rows L2 Ind
section
variable {X : Cx} {S : Sg} {o a : Expr} {t : VT} {ta : VTA} {apos cpos : Pos}
end
end Va
set_option Elab.async false
set_option linter.all false
set_option maxRecDepth 100000
set_option maxHeartbeats 4000000
namespace Va
open PySem PySem.Spec PyProof.Rows L2 Ind
section
variable {X : Cx} {S : Sg} {a b : Expr} {ta : VT} {pos : Pos}
end
end Va
set_option Elab.async false
set_option linter.all false
set_option maxRecDepth 100000
set_option maxHeartbeats 4000000
namespace Va
open PySem PySem.Spec PyProof.Rows L2 Ind GenW
section
variable {X : Cx} {S : Sg} {g : VG} {c : VTT} {el : VT} {vs : List Nat} {i : Nat}
variable {elt tg iter : Expr} {ifs : List Expr} {scope : Scope} {own : List (PySem.Str × Nat)} {pos : Pos}
end
end Va
set_option Elab.async false
set_option linter.all false
set_option maxRecDepth 100000
set_option maxHeartbeats 4000000
namespace Va
open PySem PySem.Spec PyProof.Rows L2 Ind
def Shows (d : D) : Prop := SeqAt.shaped d.pd = true ∧ d.pd.showable = true ∧ d.pd.hasDict = false ∧ d.pd.depth ≤ 60 ∧ d.pd.shown.length ≤ 1000000
structure Smal (d : PyData) (k m : Nat) : Prop where
  lay : d.canLay0 = true
  sho : d.showable = true
  nod : d.hasDict = false
  dep : d.depth ≤ k
  leaf : d.leavesShort 80 = true
  bulk : d.bulk ≤ m
theorem abs200 {i : Int} (h : -(2 ^ 200) ≤ i ∧ i ≤ 2 ^ 200) : i.natAbs < 10 ^ 61 := by
  have e : (10 : Nat) ^ 61 = 10000000000000000000000000000000000000000000000000000000000000 := by decide +kernel
  have e2 : (2 : Int) ^ 200 = 1606938044258990275541962092341162602522202993782792835301376 := by decide +kernel
  rw [e]
  rw [e2] at h
  omega
theorem smal_int {i : Int} (h : -(2 ^ 200) ≤ i ∧ i ≤ 2 ^ 200) (k m : Nat) : Smal (.int i) k m := by
  have a := abs200 h
  have lg : i.natAbs.log2 < 1920 := by
    by_cases z : i.natAbs = 0
    · rw [z]
      decide
    · have e : (10 : Nat) ^ 61 ≤ 2 ^ 220 := by decide +kernel
      have := (Nat.log2_lt z).mpr (Nat.lt_of_lt_of_le a e)
      omega
  have lf : PyData.leavesShort 80 (.int i) = true := by
    simp only [PyData.leavesShort, decide_eq_true_eq]
    have e := PySem.int_text_length_le10 (a := i) (k := 61) (by decide) a
    show (PySem.Str.ofString (toString i)).length ≤ 80
    rw [PySem.ofString_length]
    omega
  exact ⟨by simp [PyData.canLay0], by simp [PyData.showable, lg], by simp [PyData.hasDict], by simp [PyData.depth], lf, by simp [PyData.bulk]⟩
theorem smal_str {x : Tx} {k m : Nat} (h : tOk x) (hl : x.length ≤ m) : Smal (.str x) k m := by
  refine ⟨by simp [PyData.canLay0, h.ok], by simp [PyData.showable], by simp [PyData.hasDict], by simp [PyData.depth], ?_, by simp only [PyData.bulk]; exact hl⟩
  simp only [PyData.leavesShort, List.all_eq_true, decide_eq_true_eq]
  intro c hc
  have := h c hc
  omega
theorem Smal.mono {d : PyData} {k m k' m' : Nat} (s : Smal d k m) (hk : k ≤ k') (hm : m ≤ m') : Smal d k' m' := ⟨s.lay, s.sho, s.nod, Nat.le_trans s.dep hk, s.leaf, Nat.le_trans s.bulk hm⟩
theorem smal_all {ds : List PyData} {k m : Nat} (h : ∀ d ∈ ds, Smal d k m) : PyData.canLayAll0 ds = true ∧ PyData.showableAll ds = true ∧ PyData.hasDictAll ds = false ∧ PyData.depthAll ds ≤ k ∧ PyData.leavesShortAll 80 ds = true ∧ PyData.bulkAll ds ≤ (m + 1) * ds.length := by
  induction ds with
  | nil => simp [PyData.canLayAll0, PyData.showableAll, PyData.hasDictAll, PyData.depthAll, PyData.leavesShortAll, PyData.bulkAll]
  | cons d ds ih =>
    obtain ⟨a1, a2, a3, a4, a5, a6⟩ := ih fun e he => h e (List.mem_cons_of_mem _ he)
    have b := h d List.mem_cons_self
    refine ⟨by simp [PyData.canLayAll0, b.lay, a1], by simp [PyData.showableAll, b.sho, a2], by simp [PyData.hasDictAll, b.nod, a3], ?_, by simp [PyData.leavesShortAll, b.leaf, a5], ?_⟩
    · have := b.dep
      simp only [PyData.depthAll]
      omega
    · have := b.bulk
      simp only [PyData.bulkAll, List.length_cons]
      rw [Nat.mul_succ]
      omega
theorem smal_tup {ds : List PyData} {k m : Nat} (h : ∀ d ∈ ds, Smal d k m) : Smal (.tuple ds) (k + 1) ((m + 1) * ds.length) := by
  obtain ⟨a1, a2, a3, a4, a5, a6⟩ := smal_all h
  exact ⟨by simp [PyData.canLay0, a1], by simp [PyData.showable, a2], by simp [PyData.hasDict, a3], by simp only [PyData.depth]; omega, by simp [PyData.leavesShort, a5], by simp only [PyData.bulk]; exact a6⟩
theorem Smal.shows {d : D} {k m : Nat} (s : Smal d.pd k m) (hk : k ≤ 10) (hm : m ≤ 12000) : Shows d := by
  have h1 := PyData.shown_le_bulk 80 (by decide) d.pd s.leaf
  have h2 := s.bulk
  have h3 := s.dep
  refine ⟨?_, s.sho, s.nod, by omega, by omega⟩
  simp [SeqAt.shaped, s.lay]
  omega
end Va
set_option Elab.async false
set_option linter.all false
set_option maxRecDepth 100000
set_option maxHeartbeats 4000000
namespace L2
open PySem PySem.Spec PyProof.Rows
section
variable {X : Cx} {pins : List (Addr × Obj)} {σ : St} {H : Hp} {s : Shared} {a b : Addr} {xs : List (List Key × Addr × Value)} {r : List Key}
end
section
variable {X : Cx} {o e f : Expr} {td ty tz : TE} {apos cpos : Pos}
end
def ValsIn (xs : List (List Key × Addr × Value)) : Prop := ∀ x ∈ xs, ∃ v : V, RelV v x.2.2
section
variable {P : Program} {w : World} {K : PySem.W.Frag} {d : Addr} {o : Obj} {es : Array DictEntry} {ep : Nat} {xs : List (List Key × Addr × Value)}
end
section
variable {X : Cx} {tg e : Expr} {td : TE} {apos cpos : Pos}
end
end L2
set_option Elab.async false
set_option linter.all false
set_option maxRecDepth 100000
set_option maxHeartbeats 4000000
namespace L2
open PySem PySem.Spec PyProof.Rows
section
variable {X : Cx} {pins : List (Addr × Obj)} {σ : St} {H : Hp} {s : Shared}
end
end L2
set_option Elab.async false
set_option linter.all false
set_option maxRecDepth 100000
set_option maxHeartbeats 4000000
namespace Va
open PySem PySem.Spec PyProof.Rows L2 Ind RowK
section
variable {X : Cx} {S : Sg} {a b e o : Expr} {p pos tpos apos cpos : Pos}
inductive FrzTo (N : Hp → Prop) : Hp → Prop
  | done {H : Hp} : N H → FrzTo N H
  | lock {H : Hp} {a : Addr} {u : HO} : H a = some u → Mut (some u) → (∀ o, FrzTo N (upd H a (.frz o u))) → FrzTo N H
theorem Rep.drop {Γ : Gm} {E : En} {σ : L2.St} {H : Hp} (r : Rep Γ E σ H) (i : Nat) : Rep Γ (E.set i .no) σ H := by
  refine ⟨r.base, by simp [En.set, r.len], r.few, fun j s e => ?_, fun j k s t a e1 e2 o1 o2 h1 h2 => ?_⟩
  · rcases get_set e with ⟨rfl, rfl, hi⟩ | ⟨ne, e⟩
    · exact ⟨σ[i]'(by rw [← r.len]; exact hi), List.getElem?_eq_getElem _, trivial⟩
    · exact r.sl j s e
  · rcases get_set e1 with ⟨_, rfl, _⟩ | ⟨n1, e1⟩
    · cases o1
    · rcases get_set e2 with ⟨_, rfl, _⟩ | ⟨n2, e2⟩
      · cases o2
      · exact r.dis j k s t a e1 e2 o1 o2 h1 h2
end
end Va
set_option Elab.async false
set_option linter.all false
set_option maxRecDepth 100000
set_option maxHeartbeats 4000000
namespace Va
open PySem PySem.Spec PyProof.Rows L2 Ind RowK
inductive GrR (K : PySem.W.Frag) (tp : Option Tp) (H : Hp) : List (List Key × Addr × Value) → List (List Cell × List D) → Prop
  | nil : GrR K tp H [] []
  | cons {k : List Cell} {b q : Addr} {vs : List V} {ds : List D} {xs : List (List Key × Addr × Value)} {kvs : List (List Cell × List D)} : FzL K H q vs → RpL K tp H vs ds → GrR K tp H xs kvs → GrR K tp H ((k, b, .ref q) :: xs) ((k, ds) :: kvs)
theorem GrR.kq {K : PySem.W.Frag} {tp : Option Tp} {H H' : Hp} (k : Kq H H') : ∀ {xs : List (List Key × Addr × Value)} {kvs : List (List Cell × List D)}, GrR K tp H xs kvs → GrR K tp H' xs kvs := by
  intro xs kvs h
  induction h with
  | nil => exact .nil
  | cons h1 h2 _ ih => exact .cons (k.fzL h1) (RpL.kq k _ _ h2) ih
theorem GrR.keys {K : PySem.W.Frag} {tp : Option Tp} {H : Hp} {xs : List (List Key × Addr × Value)} {kvs : List (List Cell × List D)} (h : GrR K tp H xs kvs) : xs.map (·.1) = kvs.map (·.1) := by
  induction h with
  | nil => rfl
  | cons h1 h2 _ ih => rw [List.map_cons, List.map_cons, ih]
theorem GrR.vals {K : PySem.W.Frag} {tp : Option Tp} {H : Hp} {xs : List (List Key × Addr × Value)} {kvs : List (List Cell × List D)} (h : GrR K tp H xs kvs) : ValsIn xs := by
  induction h with
  | nil => exact fun x hx => nomatch hx
  | cons h1 h2 _ ih =>
    intro x hx
    rcases List.mem_cons.mp hx with rfl | hx
    · exact ⟨.ref _, rfl⟩
    · exact ih x hx
theorem GrR.get {K : PySem.W.Frag} {tp : Option Tp} {H : Hp} {xs : List (List Key × Addr × Value)} {kvs : List (List Cell × List D)} (h : GrR K tp H xs kvs) : ∀ {i : Nat} {x : List Key × Addr × Value}, xs[i]? = some x → ∃ q vs ds, x.2.2 = .ref q ∧ FzL K H q vs ∧ RpL K tp H vs ds ∧ kvs[i]? = some (x.1, ds) := by
  induction h with
  | nil => intro i x e; simp at e
  | cons h1 h2 _ ih =>
    intro i x e
    cases i with
    | zero => cases e; exact ⟨_, _, _, rfl, h1, h2, rfl⟩
    | succ i => exact ih e
def lookG (kvs : List (List Cell × List D)) (r : List Cell) : List D := ((kvs.find? fun p => decide (p.1 = r)).map (·.2)).getD []
theorem GrR.at {K : PySem.W.Frag} {tp : Option Tp} {H : Hp} {xs : List (List Key × Addr × Value)} {kvs : List (List Cell × List D)} (h : GrR K tp H xs kvs) (r : List Cell) : (∀ p, atKey xs r = some p → ∃ q vs, p.2 = .ref q ∧ FzL K H q vs ∧ RpL K tp H vs (lookG kvs r)) ∧ (atKey xs r = none → lookG kvs r = []) := by
  induction h with
  | nil => exact ⟨(fun p e => nomatch e), fun _ => rfl⟩
  | @cons k b q vs ds xs kvs h1 h2 _ ih =>
    unfold atKey lookG at *
    by_cases e : k = r
    · rw [List.find?_cons_of_pos (by simpa using e), List.find?_cons_of_pos (by simpa using e)]
      exact ⟨fun p z => by cases z; exact ⟨_, _, rfl, h1, h2⟩, fun z => nomatch z⟩
    · rw [List.find?_cons_of_neg (by simpa using e), List.find?_cons_of_neg (by simpa using e)]
      exact ih
def memB {α : Type} [DecidableEq α] (r : α) (l : List α) : Bool := decide (r ∈ l)
theorem memB_iff {α : Type} [DecidableEq α] {r : α} {l : List α} : memB r l = true ↔ r ∈ l := decide_eq_true_iff
section
variable {X : Cx} {S : Sg} {a b e o : Expr} {p pos tpos apos cpos : Pos}
end
end Va
set_option Elab.async false
set_option linter.all false
set_option maxRecDepth 100000
set_option maxHeartbeats 4000000
namespace Va
open PySem PySem.Spec PyProof.Rows L2 Ind RowK
theorem lone_shut {E : En} {σ : L2.St} {a : Addr} (h : ∀ (j : Nat) (s : SV), E.l[j]? = some s → s.own = false) : Lone E σ a := fun j s e o => by rw [h j s e] at o; cases o
section
variable {X : Cx} {S : Sg} {kx tg iter : Expr} {scope : Scope} {own : List (PySem.Str × Nat)} {pos2 : Pos} {bv : Bool} {bj : Nat} {bp : Pos} {vi : VI} {g : VG} {kl : VT} {i : Nat} {x : PySem.Str} {spos pos' : Pos}
end
end Va
set_option Elab.async false
set_option linter.all false
set_option maxRecDepth 100000
set_option maxHeartbeats 4000000
namespace L2
open PySem PySem.Spec PyProof.Rows
end L2
namespace Va
open PySem PySem.Spec PyProof.Rows L2 Ind RowK
inductive GrM (Γ : Gm) (a : Addr) (m : Nat) (H : Hp) : List (List Key × Addr × Value) → List (List Cell × List D) → Prop
  | nil : GrM Γ a m H [] []
  | cons {k : List Cell} {b q : Addr} {vs : List V} {ds : List D} {xs : List (List Key × Addr × Value)} {kvs : List (List Cell × List D)} : H q = some (.lst vs) → Γ.RpL H vs ds → Free Γ q → q ≠ a → (∀ x ∈ xs, x.2.2 ≠ .ref q) → vs.length ≤ m → GrM Γ a m H xs kvs → GrM Γ a m H ((k, b, .ref q) :: xs) ((k, ds) :: kvs)
section
variable {Γ : Gm} {a : Addr} {m : Nat} {H H' : Hp} {xs : List (List Key × Addr × Value)} {kvs : List (List Cell × List D)}
theorem GrM.keys (h : GrM Γ a m H xs kvs) : xs.map (·.1) = kvs.map (·.1) := by
  induction h with
  | nil => rfl
  | cons _ _ _ _ _ _ _ ih => rw [List.map_cons, List.map_cons, ih]
theorem GrM.stay (kq : Kq H H') (h : GrM Γ a m H xs kvs) (k : ∀ q vs, Free Γ q → q ≠ a → H q = some (.lst vs) → H' q = some (.lst vs)) : GrM Γ a m H' xs kvs := by
  induction h with
  | nil => exact .nil
  | cons h1 h2 h3 h4 h5 h6 _ ih => exact .cons (k _ _ h3 h4 h1) (RpL.kq kq _ _ h2) h3 h4 h5 h6 ih
theorem GrM.mono {m' : Nat} (hm : m ≤ m') (h : GrM Γ a m H xs kvs) : GrM Γ a m' H xs kvs := by
  induction h with
  | nil => exact .nil
  | cons h1 h2 h3 h4 h5 h6 _ ih => exact .cons h1 h2 h3 h4 h5 (Nat.le_trans h6 hm) ih
theorem GrM.push {k : List Cell} {b q : Addr} {vs : List V} {ds : List D} (h : GrM Γ a m H xs kvs) (h1 : H q = some (.lst vs)) (h2 : Γ.RpL H vs ds) (h3 : Free Γ q) (h4 : q ≠ a) (h6 : vs.length ≤ m) (h5 : ∀ x ∈ xs, x.2.2 ≠ .ref q) : GrM Γ a m H (xs ++ [(k, b, .ref q)]) (kvs ++ [(k, ds)]) := by
  induction h with
  | nil => exact .cons h1 h2 h3 h4 (fun x hx => nomatch hx) h6 .nil
  | @cons k2 b2 q2 vs2 ds2 xs2 kvs2 g1 g2 g3 g4 g5 g6 _ ih =>
    refine .cons g1 g2 g3 g4 (fun x hx => ?_) g6 (ih fun x hx => h5 x (List.mem_cons_of_mem _ hx))
    rcases List.mem_append.mp hx with hx | hx
    · exact g5 x hx
    · rw [List.mem_singleton.mp hx]
      intro e
      cases e
      exact h5 _ (List.mem_cons_self ..) rfl
theorem GrM.lock {E : En} {σ : L2.St} {N : Hp → Prop} (ow : ∀ (j : Nat) (s : SV), E.l[j]? = some s → s.own = false) (h : GrM Γ a m H xs kvs) (r : Rep Γ E σ H)
    (k : ∀ H', Kq H H' → Rep Γ E σ H' → GrR Γ.K Γ.tp H' xs kvs → H' a = H a → FrzTo N H') : FrzTo N H := by
  induction xs generalizing kvs H with
  | nil =>
    cases h
    exact k H (Kq.refl _) r .nil rfl
  | cons x xs ih =>
    cases h with
    | @cons k2 b2 q2 vs2 ds2 _ kvs2 g1 g2 g3 g4 g5 g6 g7 =>
      refine .lock g1 trivial fun o => ?_
      have kq1 : Kq H (upd H q2 (.frz o (.lst vs2))) := .upd g1 trivial
      have r1 : Rep Γ E σ (upd H q2 (.frz o (.lst vs2))) := r.lone g1 trivial g3 (lone_shut ow)
      have keep : ∀ {ys : List (List Key × Addr × Value)} {ks : List (List Cell × List D)}, GrM Γ a m H ys ks → (∀ x ∈ ys, x.2.2 ≠ .ref q2) → GrM Γ a m (upd H q2 (.frz o (.lst vs2))) ys ks := fun {ys ks} g => by
        induction g with
        | nil => exact fun _ => .nil
        | @cons k3 b3 q3 vs3 ds3 xs3 kvs3 f1 f2 f3 f4 f5 f6 _ ih =>
          intro hx
          have ne : q3 ≠ q2 := fun z => hx _ (List.mem_cons_self ..) (by rw [z])
          exact .cons (by rw [upd_ne ne]; exact f1) (RpL.kq kq1 _ _ f2) f3 f4 f5 f6 (ih fun x h => hx x (List.mem_cons_of_mem _ h))
      refine ih (keep g7 g5) r1 fun H' kq' r' gr ea => ?_
      refine k H' (kq1.trans kq') r' (.cons (kq'.fzL ⟨o, upd_same⟩) (RpL.kq (kq1.trans kq') _ _ g2) gr) ?_
      rw [ea, upd_ne (Ne.symm g4)]
end
end Va
set_option Elab.async false
set_option linter.all false
set_option maxRecDepth 100000
set_option maxHeartbeats 4000000
namespace Va
open PySem PySem.Spec PyProof.Rows L2 Ind RowK
abbrev Gm.loop (Γ : Gm) (a : Addr) (H : Hp) : Gm := { Γ with io := [a], H0 := H }
section
variable {X : Cx} {S : Sg} {iter ox key nt : Expr} {rest : List Stmt} {i j : Nat} {x t : PySem.Str} {vi : VI} {tk : VT} {u : VS} {p1 p2 p3 p4 lpos apos cpos apos2 cpos2 epos fpos : Pos}
end
end Va
set_option Elab.async false
set_option linter.all false
set_option maxRecDepth 100000
set_option maxHeartbeats 4000000
namespace L2
open PySem PySem.Spec PyProof.Rows
end L2
namespace Va
open PySem PySem.Spec PyProof.Rows L2 Ind RowK
structure HeldV (S : Sg) (X : Cx) (k : Nat) (d : Addr) (z : Tx) (m : VM) : Prop where
  ex : ∃ k', k' ≤ k ∧ ∃ (f : Addr) (fd : FuncData) (ps : List PySem.Str), PySem.W.nsIn X.K d z = some (some (.ref f)) ∧ FnOk X.prog X.w X.K X.mg X.base CX0 k' f fd ps (spV S m) ∧ PySem.W.keepIn X.K (.ref f) = true ∧ Binds X.K fd ps []
structure HeldI (S : Sg) (X : Cx) (k : Nat) (d : Addr) (M : List (Tx × VM)) where
  z : Tx
  m : VM
  f : Addr
  fd : FuncData
  ps : List PySem.Str
  k' : Nat
  le : k' ≤ k
  inM : (z, m) ∈ M
  ns : PySem.W.nsIn X.K d z = some (some (.ref f))
  ok : FnOk X.prog X.w X.K X.mg X.base CX0 k' f fd ps (spV S m)
  kp : PySem.W.keepIn X.K (.ref f) = true
  bd : Binds X.K fd ps []
section
variable {X : Cx} {S : Sg} {dx ix e : Expr} {es : List Expr} {i j k : Nat} {d : Addr} {ds : Array DictEntry} {n : Nat} {x : PySem.Str} {ta : VTA} {M : List (Tx × VM)} {p1 p2 p3 p4 p5 p6 : Pos}
end
end Va
set_option Elab.async false
set_option linter.all false
set_option maxRecDepth 100000
set_option maxHeartbeats 4000000
namespace Va
open PySem PySem.Spec PyProof.Rows L2 Ind RowK
section
variable {X : Cx} {S : Sg}
end
def likeC : Cell → Cell → Bool
  | .inl _, .inl _ => true
  | .inr _, .inr _ => true
  | _, _ => false
def likeR : List Cell → List Cell → Bool
  | [], [] => true
  | x :: r, y :: q => likeC x y && likeR r q
  | _, _ => false
def celP : Cell → PyData
  | .inl i => .int i
  | .inr x => .str x
def rwP (r : List Cell) : PyData := .tuple (r.map celP)
theorem alike_row : ∀ {r q : List Cell}, likeR r q = true → PySem.W.alikeAll (r.map celP) (q.map celP) = true
  | [], [], _ => by simp [PySem.W.alikeAll]
  | .inl i :: r, .inl j :: q, h => by
    have h2 : likeR r q = true := by simpa [likeR, likeC] using h
    simp [PySem.W.alikeAll, celP, PySem.W.alike, alike_row h2]
  | .inr i :: r, .inr j :: q, h => by
    have h2 : likeR r q = true := by simpa [likeR, likeC] using h
    simp [PySem.W.alikeAll, celP, PySem.W.alike, alike_row h2]
theorem celP_eq : ∀ {x y : Cell}, likeC x y = true → PyData.eqv (celP x) (celP y) = decide (x = y)
  | .inl i, .inl j, _ => by simp [celP, PyData.eqv]; rfl
  | .inr i, .inr j, _ => by simp [celP, PyData.eqv]; rfl
theorem celP_lt : ∀ {x y : Cell}, likeC x y = true → PySem.W.dataLt (celP x) (celP y) = ltC x y
  | .inl i, .inl j, _ => PySem.W.dataLt_int i j
  | .inr i, .inr j, _ => PySem.W.dataLt_str i j
theorem alike_cell : ∀ {x y : Cell}, likeC x y = true → PySem.W.alike (celP x) (celP y) = true
  | .inl i, .inl j, _ => by simp [celP, PySem.W.alike]
  | .inr i, .inr j, _ => by simp [celP, PySem.W.alike]
theorem rwP_lt : ∀ {r q : List Cell}, likeR r q = true → PyProof.Rows.lexLt PyProof.Rows.itemOrd (PySem.W.keyToksAll (r.map celP)) (PySem.W.keyToksAll (q.map celP)) = ltR r q
  | [], [], _ => by
    simp only [List.map_nil, PySem.W.keyToksAll]
    exact lex_irrefl _
  | x :: r, y :: q, h => by
    have h1 : likeC x y = true := by
      unfold likeR at h
      exact (Bool.and_eq_true_iff.mp h).1
    have h2 : likeR r q = true := by
      unfold likeR at h
      exact (Bool.and_eq_true_iff.mp h).2
    show PyProof.Rows.lexLt PyProof.Rows.itemOrd (PySem.W.keyToksAll (celP x :: r.map celP)) (PySem.W.keyToksAll (celP y :: q.map celP)) = if x = y then ltR r q else ltC x y
    by_cases e : x = y
    · rw [if_pos e, PySem.W.dataLt_all_yes (alike_cell h1) (by rw [celP_eq h1, decide_eq_true_iff]; exact e)]
      exact rwP_lt h2
    · rw [if_neg e, PySem.W.dataLt_all_no (alike_cell h1) (by rw [celP_eq h1, decide_eq_false_iff_not]; exact e)]
      exact celP_lt h1
end Va
namespace L2
open PySem PySem.Spec PyProof.Rows Va RowK
def RowV (K : PySem.W.Frag) (H : Hp) (v : V) (r : List Key) : Prop := ∃ b, v = V.ref b ∧ SqT K H b (r.map kV) ∧ Dp K H v (rwP r)
def rSortedR (K : PySem.W.Frag) : List V → Hp → VK → Prop := fun vs H Q => ∃ (a : Addr) (xs : List V) (rs : List (List Key)), vs = [V.ref a] ∧ SqL K H a xs ∧ Paired (RowV K H) xs rs ∧ (∀ r ∈ rs, r ≠ []) ∧ (∀ r ∈ rs, ∀ q ∈ rs, likeR r q = true) ∧
  ∀ ys qs p, Paired (RowV K H) ys qs → qs.Perm rs → qs.Pairwise (fun x y => ltR y x = false) → H p = none → Q (.ref p) (upd H p (.lst ys))
theorem paired_each {α β γ : Type} {R : α → β → Prop} {T : α → γ → Prop} {S : γ → β → Prop} (f : ∀ a b c, R a b → T a c → S c b) : ∀ {xs : List α} {ys : List β} {zs : List γ}, Paired R xs ys → Paired T xs zs → PySem.W.EachIs S zs ys
  | _, _, _, .nil, .nil => .nil
  | _, _, _, .cons r t, .cons r' t' => .cons (f _ _ _ r r') (paired_each f t t')
theorem each_vals {R : Value → List Key → Prop} {T : V → List Key → Prop} (f : ∀ u r, R u r → ∃ v, RelV v u ∧ T v r) : ∀ {us : List Value} {rs : List (List Key)}, PySem.W.EachIs R us rs → ∃ vs, Vals vs us ∧ Paired T vs rs
  | _, _, .nil => ⟨[], .nil, .nil⟩
  | _, _, .cons r t => by
    obtain ⟨v, h1, h2⟩ := f _ _ r
    obtain ⟨vs, h3, h4⟩ := each_vals f t
    exact ⟨v :: vs, .cons h1 h3, .cons h2 h4⟩
theorem dep_row (r : List Key) : (rwP r).depth ≤ 2 := by
  have : ∀ r : List Key, PyData.depthAll (r.map celP) ≤ 1 := fun r => by
    induction r with
    | nil => simp [PyData.depthAll]
    | cons x r ih =>
      cases x <;> simp [PyData.depthAll, celP, PyData.depth] at * <;> omega
  have := this r
  simp only [rwP, PyData.depth]
  omega
theorem cr_sortedR {X : Cx} (hu : X.A.units + 8 < cLine) : CallR X (.builtin "sorted") (rSortedR X.K) := by
  intro pins s σ H vs us Q I r h
  obtain ⟨a, xs, rs, rfl, hs, hp, hne, hal, q⟩ := h
  obtain ⟨its, rv, hl, hz⟩ := I.list hs
  rw [Vals.ref1 r]
  have e1 : PySem.W.EachIs (fun (u : Value) r => ∃ b, u = .ref b ∧ RowV X.K H (.ref b) r) its rs := paired_each (fun v r u h1 h2 => by
    obtain ⟨b, rfl, h3⟩ := h1
    cases (show u = Value.ref b from h2)
    exact ⟨b, rfl, b, rfl, h3⟩) hp rv
  have e2 : PySem.W.EachIs (fun (u : Value) r => ∃ as, PySem.Reads s.heap u (rwP r) as) its rs := e1.mono fun u r ⟨b, hb, b', hb', _, hd⟩ => by
    subst hb
    exact Dp.reads I _ _ _ hd rfl
  have len : its.length = rs.length := e1.length
  have zl : its.length ≤ sizeLine := by rw [← rv.length]; exact hz
  refine PySem.W.sorted_data (enc := rwP) hl.isList e1 e2 (fun d hd d' hd' => ?_) (.inl fun d hd => ?_) (by rw [← len]; exact zl) (fun b _ => by have := dep_row b; omega) fun out lo eo => ?_
  · obtain ⟨x, hx, rfl⟩ := List.mem_map.mp hd
    obtain ⟨y, hy, rfl⟩ := List.mem_map.mp hd'
    simp only [rwP, PySem.W.alike]
    exact alike_row (hal x hx y hy)
  · obtain ⟨x, hx, rfl⟩ := List.mem_map.mp hd
    cases x with
    | nil => exact absurd rfl (hne [] hx)
    | cons c x => exact ⟨celP c, x.map celP, rfl⟩
  · obtain ⟨vs, v1, v2⟩ := each_vals (T := RowV X.K H) (fun u r ⟨b, hb, hr⟩ => ⟨.ref b, by rw [hb]; rfl, hr⟩) eo
    have fr := I.hok.fresh (Nat.le_succ s.heap.objs.size)
    have le : out.length ≤ sizeLine := by rw [lo, ← len]; exact zl
    obtain ⟨n, hn⟩ := sortedAll_at s.heap its out.toArray
    refine ⟨.ref (s.heap.objs.size + 1), upd H (s.heap.objs.size + 1) (.lst vs), I.laid (t' := s.toks) (fun b o e => sortedAll_old e) (Nat.le_succ _) ⟨by rw [v1.length]; exact le, out, n, v1, hn⟩, rfl, q vs _ _ v2 (List.mergeSort_perm _ _) ?_ fr⟩
    have pw := PySem.W.sort_pairwise (PySem.W.sortLe_total (listOrd itemOrd) false fun b => PySem.W.keyToks (rwP b)) rs
    refine pw.imp_of_mem fun {x y} hx hy hxy => ?_
    have mx := (List.mergeSort_perm _ _).mem_iff.mp hx
    have my := (List.mergeSort_perm _ _).mem_iff.mp hy
    have e : PyProof.Rows.lexLt itemOrd (PySem.W.keyToks (rwP y)) (PySem.W.keyToks (rwP x)) = false := by
      have h : (!PyProof.Rows.lexLt itemOrd (PySem.W.keyToks (rwP y)) (PySem.W.keyToks (rwP x))) = true := hxy
      simpa using h
    simp only [rwP, PySem.W.keyToks] at e
    rw [rwP_lt (hal y my x mx)] at e
    exact e
end L2
set_option Elab.async false
set_option linter.all false
set_option maxRecDepth 100000
set_option maxHeartbeats 4000000
namespace Va
open PySem PySem.Spec PyProof.Rows L2 Ind RowK
section
variable {X : Cx} {S : Sg}
theorem pd_celD (c : Cell) : (cellD c).pd = celP c := by
  cases c <;> rfl
theorem pd_rwD (r : List Cell) : (rowD r).pd = rwP r := by
  show PyData.tuple (pdL (r.map cellD)) = PyData.tuple _
  rw [pdL_map, List.map_map]
  congr 1
  exact List.map_congr_left fun c _ => pd_celD c
def rOk (r : List Cell) : Prop := ∀ x : Tx, Sum.inr x ∈ r → tOk x
theorem lay_row : ∀ {r : List Cell}, rOk r → (rwP r).canLay0 = true := by
  have : ∀ {r : List Cell}, rOk r → PyData.canLayAll0 (r.map celP) = true := fun {r} => by
    induction r with
    | nil => exact fun _ => by simp [PyData.canLayAll0]
    | cons c r ih =>
      intro h
      have ih := ih fun x hx => h x (List.mem_cons_of_mem _ hx)
      cases c with
      | inl i => simp [PyData.canLayAll0, celP, PyData.canLay0, ih]
      | inr x => simp [PyData.canLayAll0, celP, PyData.canLay0, ih, (h x (List.mem_cons_self ..)).ok]
  intro r h
  simp [rwP, PyData.canLay0, this h]
def sortedRG : VC := fun ds Q => match ds with
  | [.lst xs] => ∃ rs : List (List Cell), xs = rs.map rowD ∧ (∀ r ∈ rs, r ≠ []) ∧ (∀ r ∈ rs, rOk r) ∧ (∀ r ∈ rs, ∀ q ∈ rs, likeR r q = true) ∧ ∀ qs : List (List Cell), qs.Perm rs → qs.Pairwise (fun x y => ltR y x = false) → Q (.fl (qs.map rowD))
  | _ => False
theorem row_v {K : PySem.W.Frag} {tp : Option Tp} {H : Hp} : ∀ {rs : List (List Cell)} {vs : List V}, (∀ r ∈ rs, rOk r) → RpL K tp H vs (rs.map rowD) → Paired (RowV K H) vs rs
  | [], _, _, h => by cases h; exact .nil
  | r :: rs, _, ok, h => by
    cases h with
    | cons h1 h2 =>
      refine .cons ?_ (row_v (fun q hq => ok q (List.mem_cons_of_mem _ hq)) h2)
      have hd := Rp.dp (rowD r) _ (by rw [pd_rwD]; exact lay_row (ok r (List.mem_cons_self ..))) h1
      rw [pd_rwD] at hd
      obtain ⟨b, rfl, hb⟩ := row_inv h1
      exact ⟨b, rfl, hb, hd⟩
theorem v_row {K : PySem.W.Frag} {tp : Option Tp} {H : Hp} {vs : List V} {rs : List (List Cell)} (h : Paired (RowV K H) vs rs) : RpL K tp H vs (rs.map rowD) := by
  induction h with
  | nil => exact .nil
  | cons r _ ih =>
    obtain ⟨b, rfl, hb, _⟩ := r
    exact .cons (.tup hb (rp_cells _)) ih
theorem c_sortedR (hK : S.K = X.K) (hu : X.A.units + 8 < cLine) : CallV S X (.builtin "sorted") sortedRG := by
  refine ⟨_, cr_sortedR hu, ?_⟩
  intro Γ H xs ds Q Q0 eK hx hg k
  have eK' : X.K = Γ.K := (eK.trans hK).symm
  unfold sortedRG at hg
  split at hg
  · obtain ⟨rs, rfl, ne, ok, hal, hg⟩ := hg
    match hx with
    | .cons h .nil =>
      obtain ⟨q, ys, rfl, h1, h2⟩ := h.seq
      refine ⟨q, ys, rs, rfl, by rw [eK']; exact h1, by rw [eK']; exact row_v ok h2, ne, hal, fun vs qs l hp pm sm nl => ?_⟩
      rw [eK'] at hp
      exact k _ (hg qs pm sm) _ _ (same_upd nl) ⟨l, _, rfl, nl, upd_same, RpL.kq (Kq.same (same_upd nl)) _ _ (v_row hp)⟩
  · exact hg.elim
theorem hu8 {k : Nat} {A : Around} (r : Room k A) : A.units + 8 < cLine := by have := r.units; omega
def dPairs : List (Tx × VT) → En → (List (Tx × D) → En → Prop) → Prop
  | [], E, Q => Q [] E
  | (x, t) :: r, E, Q => t E fun d E1 => dPairs r E1 fun ps E2 => Q ((x, d) :: ps) E2
def prsV (ps : List (Tx × D)) (us : List V) : List (V × V) := List.zipWith (fun p u => (V.str p.1, u)) ps us
structure DPs (S : Sg) (X : Cx) (pos : Pos) (keys : List (Option Expr)) (values : List Expr) (ts : List (Tx × VT)) : Prop where
  ex : ∃ trs, PPs X pos keys values trs ∧ ∀ (Γ : Gm) (E : En) (σ : L2.St) (H : Hp) (Q : List (V × V) → Hp → Prop) (Q0 : List (Tx × D) → En → Prop), Γ.Ok S → Rep Γ E σ H → dPairs ts E Q0 →
    (∀ ps E', Q0 ps E' → ∀ us H', Kq H H' → Rep Γ E' σ H' → Γ.RpL H' us (ps.map (·.2)) → Q (prsV ps us) H') → tPairs trs σ H Q
  sk : keys.all (·.isSome) = true
  ln : keys.length = values.length
variable {pos pos2 : Pos} {k e : Expr} {keys : List (Option Expr)} {values : List Expr} {ts : List (Tx × VT)} {t : VT} {x : Tx} {j : Nat}
end
end Va
set_option Elab.async false
set_option linter.all false
namespace Va
open PySem PySem.Spec PyProof.Rows L2 Ind
def nL (x : Tx) : Prop := x.length ≤ 20 ∧ (x.length ≤ 4 ∨ 14 ≤ x.length)
end Va
set_option Elab.async false
set_option linter.all false
set_option maxRecDepth 100000
set_option maxHeartbeats 4000000
namespace Va
open PySem PySem.Spec PyProof.Rows L2 Ind RowK
structure RelOk (ns : List Tx) (rs : List (List Cell)) : Prop where
  nd : ns.Nodup
  ne : ns ≠ []
  few : ns.length ≤ 100
  len : ∀ r ∈ rs, r.length = ns.length
  ok : ∀ r ∈ rs, rOk r
def idxs (ws ns : List Tx) : List Nat := ws.map fun x => ns.idxOf x
def pickR (r : List Cell) (is : List Nat) : List Cell := is.map fun i => (r[i]?).getD (.inl 0)
def com (ns ms : List Tx) : List Tx := ms.filter fun x => memB x ns
def furth (ns ms : List Tx) : List Tx := ms.filter fun x => !memB x ns
def mates (ns ms : List Tx) (r : List Cell) (qs : List (List Cell)) : List (List Cell) := qs.filter fun q => memB (pickR q (idxs (com ns ms) ms)) [pickR r (idxs (com ns ms) ns)]
def joined (ns ms : List Tx) (rs qs : List (List Cell)) : List (List Cell) := rs.flatMap fun r => (mates ns ms r qs).map fun q => r ++ pickR q (idxs (furth ns ms) ms)
end Va
set_option Elab.async false
set_option linter.all false
set_option maxRecDepth 100000
set_option maxHeartbeats 4000000
namespace Va
open PySem PySem.Spec PyProof.Rows L2 Ind RowK
theorem eqv_celP (x y : Cell) : PyData.eqv (celP x) (celP y) = decide (x = y) := by
  cases x <;> cases y <;> simp only [celP, PyData.eqv, Sum.inl.injEq, Sum.inr.injEq, reduceCtorEq, decide_false] <;> rw [Bool.eq_iff_iff] <;> simp
theorem eqv_celAll : ∀ r q : List Cell, PyData.eqvAll (r.map celP) (q.map celP) = decide (r = q)
  | [], [] => by simp [PyData.eqvAll]
  | [], _ :: _ => by simp [PyData.eqvAll]
  | _ :: _, [] => by simp [PyData.eqvAll]
  | x :: r, y :: q => by simp [PyData.eqvAll, eqv_celP, eqv_celAll r q]
theorem eqv_rowD (r q : List Cell) : PyData.eqv (rowD r).pd (rowD q).pd = decide (r = q) := by
  rw [pd_rwD, pd_rwD]
  unfold rwP
  rw [PyData.eqv]
  exact eqv_celAll r q
theorem in_rowsD (r : List Cell) (rs : List (List Cell)) : ((rs.map rowD).any fun y => PyData.eqv y.pd (rowD r).pd) = memB r rs := by
  rw [Bool.eq_iff_iff, List.any_eq_true]
  constructor
  · rintro ⟨d, hd, e⟩
    obtain ⟨q, hq, rfl⟩ := List.mem_map.mp hd
    rw [eqv_rowD] at e
    have e := of_decide_eq_true e
    subst e
    exact memB_iff.mpr hq
  · intro h
    exact ⟨rowD r, List.mem_map.mpr ⟨r, memB_iff.mp h, rfl⟩, by rw [eqv_rowD]; exact decide_eq_true rfl⟩
theorem shp_rowD {r : List Cell} (h : rOk r) : SeqAt.shaped (rowD r).pd = true := by
  rw [pd_rwD]
  have h1 := lay_row h
  have h2 : (rwP r).depth ≤ 2 := by
    have : ∀ r : List Cell, PyData.depthAll (r.map celP) ≤ 1 := fun r => by
      induction r with
      | nil => simp [PyData.depthAll]
      | cons x r ih => cases x <;> simp [PyData.depthAll, celP, PyData.depth] <;> exact ih
    have := this r
    simp only [rwP, PyData.depth]
    omega
  simp [SeqAt.shaped, h1]
  omega
theorem shp_rowsD {rs : List (List Cell)} (h : ∀ r ∈ rs, rOk r) : SeqAt.shaped (.list (pdL (rs.map rowD))) = true := by
  have h1 : PyData.canLayAll0 (pdL (rs.map rowD)) = true ∧ PyData.depthAll (pdL (rs.map rowD)) ≤ 2 := by
    induction rs with
    | nil => exact ⟨rfl, by simp [pdL, PyData.depthAll]⟩
    | cons r rs ih =>
      obtain ⟨a, b⟩ := ih fun q hq => h q (List.mem_cons_of_mem _ hq)
      have hr := h r (List.mem_cons_self ..)
      have s := shp_rowD hr
      have e : pdL ((r :: rs).map rowD) = (rowD r).pd :: pdL (rs.map rowD) := rfl
      rw [e]
      have dp : (rowD r).pd.depth ≤ 2 := by
        rw [pd_rwD]
        have : ∀ r : List Cell, PyData.depthAll (r.map celP) ≤ 1 := fun r => by
          induction r with
          | nil => simp [PyData.depthAll]
          | cons x r ih => cases x <;> simp [PyData.depthAll, celP, PyData.depth] <;> exact ih
        have := this r
        simp only [rwP, PyData.depth]
        omega
      have ly : (rowD r).pd.canLay0 = true := by rw [pd_rwD]; exact lay_row hr
      constructor
      · simp [PyData.canLayAll0, ly, a]
      · simp only [PyData.depthAll]
        omega
  simp [SeqAt.shaped, PyData.canLay0, PyData.depth, h1.1]
  omega
theorem onc_nd {α : Type} [DecidableEq α] : ∀ (l acc : List α), acc.Nodup → (onc acc l).Nodup
  | [], acc, h => h
  | x :: l, acc, h => by
    show (if x ∈ acc then onc acc l else onc (acc ++ [x]) l).Nodup
    by_cases hx : x ∈ acc
    · rw [if_pos hx]
      exact onc_nd l acc h
    · rw [if_neg hx]
      exact onc_nd l _ (List.nodup_append.mpr ⟨h, by simp, fun a ha b hb e => hx (by rw [List.mem_singleton] at hb; rw [← hb, ← e]; exact ha)⟩)
abbrev SrtR (l : List (List Cell)) : Prop := l.Pairwise fun x y => ltR y x = false
theorem srtR_one : ∀ {l m : List (List Cell)}, SrtR l → SrtR m → l.Perm m → l = m
  | [], m, _, _, p => (List.Perm.eq_nil p.symm).symm
  | x :: l, [], _, _, p => absurd p.length_eq (by simp)
  | x :: l, y :: m, hl, hm, p => by
    have mx : x ∈ y :: m := p.mem_iff.mp List.mem_cons_self
    have my : y ∈ x :: l := p.mem_iff.mpr List.mem_cons_self
    have e : x = y := by
      rcases List.mem_cons.mp mx with e | hx
      · exact e
      · rcases List.mem_cons.mp my with e | hy
        · exact e.symm
        · exact ltR_tri ((List.pairwise_cons.mp hm).1 x hx) ((List.pairwise_cons.mp hl).1 y hy)
    subst e
    rw [srtR_one (List.pairwise_cons.mp hl).2 (List.pairwise_cons.mp hm).2 p.cons_inv]
def cellFit : Cd → Cell → Prop
  | .s, .inr x => tOk x ∧ x.length ≤ 21
  | .n b, .inl i => -b ≤ i ∧ i ≤ b ∧ b ≤ 1000000000000
  | _, _ => False
def rowFit (cs : List Col) (r : List Cell) : Prop := r.length = cs.length ∧ ∀ (i : Nat) (x : Cell) (p : Col), r[i]? = some x → cs[i]? = some p → cellFit p.2 x
theorem rowFit.rok {cs : List Col} {r : List Cell} (h : rowFit cs r) : rOk r := by
  intro x hx
  obtain ⟨i, hi, e⟩ := List.mem_iff_getElem.mp hx
  have h1 := h.1
  have := h.2 i (.inr x) cs[i] (by rw [List.getElem?_eq_getElem hi, e]) (List.getElem?_eq_getElem (by omega))
  generalize (cs[i]).2 = k at this
  cases k with
  | s => exact this.1
  | n b => exact this.elim
theorem fit_like : ∀ {cs : List Col} {r q : List Cell}, rowFit cs r → rowFit cs q → likeR r q = true
  | [], r, q, h1, h2 => by
    rw [List.eq_nil_of_length_eq_zero h1.1, List.eq_nil_of_length_eq_zero h2.1]
    rfl
  | p :: cs, [], q, h1, h2 => absurd h1.1 (by simp)
  | p :: cs, _ :: _, [], h1, h2 => absurd h2.1 (by simp)
  | p :: cs, x :: r, y :: q, h1, h2 => by
    have a := h1.2 0 x p rfl rfl
    have b := h2.2 0 y p rfl rfl
    have t : likeR r q = true := fit_like (cs := cs) ⟨by have := h1.1; simp at this; exact this, fun i z w e1 e2 => h1.2 (i + 1) z w e1 e2⟩ ⟨by have := h2.1; simp at this; exact this, fun i z w e1 e2 => h2.2 (i + 1) z w e1 e2⟩
    have c : likeC x y = true := by
      generalize p.2 = k at a b
      cases k <;> cases x <;> cases y <;> first | exact a.elim | exact b.elim | rfl
    show (likeC x y && likeR r q) = true
    rw [c, t]
    rfl
end Va
set_option Elab.async false
set_option linter.all false
set_option maxRecDepth 100000
set_option maxHeartbeats 4000000
namespace Va
open PySem PySem.Spec PyProof.Rows L2 Ind RowK
def atN (r : List Cell) (ns : List Tx) (x : Tx) : Cell := (r[ns.idxOf x]?).getD (.inl 0)
theorem pickR_at (r : List Cell) (ws ns : List Tx) : pickR r (idxs ws ns) = ws.map (atN r ns) := by
  unfold pickR idxs
  rw [List.map_map]
  rfl
theorem mem_mates {ns ms : List Tx} {r q : List Cell} {qs : List (List Cell)} : q ∈ mates ns ms r qs ↔ q ∈ qs ∧ ∀ x ∈ ms, x ∈ ns → atN q ms x = atN r ns x := by
  unfold mates
  rw [List.mem_filter, memB_iff, List.mem_singleton, pickR_at, pickR_at]
  constructor
  · rintro ⟨h1, h2⟩
    exact ⟨h1, fun x a b => List.map_inj_left.mp h2 x (List.mem_filter.mpr ⟨a, memB_iff.mpr b⟩)⟩
  · rintro ⟨h1, h2⟩
    exact ⟨h1, List.map_inj_left.mpr fun x hx => h2 x (List.mem_filter.mp hx).1 (memB_iff.mp (List.mem_filter.mp hx).2)⟩
theorem mem_joined {ns ms : List Tx} {rs qs : List (List Cell)} {z : List Cell} : z ∈ joined ns ms rs qs ↔ ∃ r ∈ rs, ∃ q ∈ qs, (∀ x ∈ ms, x ∈ ns → atN q ms x = atN r ns x) ∧ z = r ++ (furth ns ms).map (atN q ms) := by
  unfold joined
  rw [List.mem_flatMap]
  constructor
  · rintro ⟨r, hr, h⟩
    obtain ⟨q, hq, rfl⟩ := List.mem_map.mp h
    obtain ⟨h1, h2⟩ := mem_mates.mp hq
    exact ⟨r, hr, q, h1, h2, by rw [pickR_at]⟩
  · rintro ⟨r, hr, q, h1, h2, rfl⟩
    exact ⟨r, hr, List.mem_map.mpr ⟨q, mem_mates.mpr ⟨h1, h2⟩, by rw [pickR_at]⟩⟩
theorem joined_len {ns ms : List Tx} {rs qs : List (List Cell)} : (joined ns ms rs qs).length ≤ rs.length * qs.length := by
  unfold joined
  induction rs with
  | nil => simp
  | cons r rs ih =>
    rw [List.flatMap_cons, List.length_append, List.length_cons, Nat.succ_mul, List.length_map]
    have : (mates ns ms r qs).length ≤ qs.length := List.length_filter_le _ _
    omega
theorem onc_mem0 {α : Type} [DecidableEq α] {l : List α} {x : α} : x ∈ onc [] l ↔ x ∈ l := by
  rw [onc_mem]
  simp
end Va
set_option Elab.async false
set_option linter.all false
set_option maxRecDepth 100000
set_option maxHeartbeats 4000000
namespace Va
open PySem PySem.Spec PyProof.Rows L2 Ind RowK
def minC (x : Cell) (xs : List Cell) : Cell := xs.foldl (fun a y => if ltC y a then y else a) x
def maxC (x : Cell) (xs : List Cell) : Cell := xs.foldl (fun a y => if ltC a y then y else a) x
section
variable {X : Cx} {S : Sg}
end
end Va
set_option Elab.async false
set_option linter.all false
set_option maxRecDepth 100000
set_option maxHeartbeats 4000000
namespace Va
open PySem PySem.Spec PyProof.Rows L2 Ind RowK
inductive Ag where
  | cnt (nm : Tx)
  | su (nm x : Tx)
  | mi (nm x : Tx)
  | ma (nm x : Tx)
def Ag.nm : Ag → Tx
  | .cnt n => n
  | .su n _ => n
  | .mi n _ => n
  | .ma n _ => n
def Ag.d : Ag → D
  | .cnt n => .tup [.str n, .str "count", .non]
  | .su n x => .tup [.str n, .str "sum", .str x]
  | .mi n x => .tup [.str n, .str "least", .str x]
  | .ma n x => .tup [.str n, .str "greatest", .str x]
def intC : Cell → Int
  | .inl i => i
  | .inr _ => 0
def valsN (ns : List Tx) (x : Tx) (rows : List (List Cell)) : List Cell := rows.map fun r => atN r ns x
def headC (f : Cell → List Cell → Cell) : List Cell → Cell
  | [] => .inl 0
  | c :: cs => f c cs
def Ag.val (ns : List Tx) (rows : List (List Cell)) : Ag → Cell
  | .cnt _ => .inl rows.length
  | .su _ x => .inl ((valsN ns x rows).map intC).sum
  | .mi _ x => headC minC (valsN ns x rows)
  | .ma _ x => headC maxC (valsN ns x rows)
def Ag.ok (ns : List Tx) (rows : List (List Cell)) : Ag → Prop
  | .cnt _ => True
  | .su _ x => x ∈ ns ∧ ∀ c ∈ valsN ns x rows, ∃ i, c = Sum.inl i
  | .mi _ x => x ∈ ns ∧ ∀ c ∈ valsN ns x rows, ∀ d ∈ valsN ns x rows, likeC c d = true
  | .ma _ x => x ∈ ns ∧ ∀ c ∈ valsN ns x rows, ∀ d ∈ valsN ns x rows, likeC c d = true
end Va
set_option Elab.async false
set_option linter.all false
set_option maxRecDepth 100000
set_option maxHeartbeats 4000000
namespace Va
open PySem PySem.Spec PyProof.Rows L2 Ind RowK
section
variable {X : Cx} {S : Sg}
end
end Va
set_option Elab.async false
set_option linter.all false
set_option maxRecDepth 100000
set_option maxHeartbeats 4000000
namespace Va
open PySem PySem.Spec PyProof.Rows L2 Ind RowK
def grpd (g : List Cell → List Cell) (qs : List (List Cell)) : List (List Cell × List (List Cell)) := (onc [] (qs.map g)).map fun k => (k, qs.filter fun q => memB (g q) [k])
end Va
set_option Elab.async false
set_option linter.all false
set_option maxRecDepth 100000
set_option maxHeartbeats 4000000
namespace Va
open PySem PySem.Spec PyProof.Rows L2 Ind RowK
theorem fit_at {cs : List Col} {r : List Cell} {x : Tx} {k : Cd} (h : rowFit cs r) (nd : (cs.map (·.1)).Nodup) (m : (x, k) ∈ cs) : cellFit k (atN r (cs.map (·.1)) x) := by
  obtain ⟨i, hi, e⟩ := List.mem_iff_getElem.mp m
  have hi2 : i < (cs.map (·.1)).length := by rw [List.length_map]; exact hi
  have ex : (cs.map (·.1)).idxOf x = i := by
    have := List.Nodup.idxOf_getElem nd i hi2
    rw [List.getElem_map, e] at this
    exact this
  have hr : i < r.length := by rw [h.1]; exact hi
  unfold atN
  rw [ex, List.getElem?_eq_getElem hr]
  exact h.2 i r[i] (x, k) (List.getElem?_eq_getElem hr) (by rw [List.getElem?_eq_getElem hi, e])
theorem cell_like {k : Cd} {c d : Cell} (h1 : cellFit k c) (h2 : cellFit k d) : likeC c d = true := by
  cases k <;> cases c <;> cases d <;> first | exact h1.elim | exact h2.elim | rfl
def agFit (cs : List Col) : Ag → Prop
  | .cnt _ => True
  | .su _ x => ∃ b, (x, Cd.n b) ∈ cs
  | .mi _ x => ∃ k, (x, k) ∈ cs
  | .ma _ x => ∃ k, (x, k) ∈ cs
theorem agFit.ok {cs : List Col} {a : Ag} {rows : List (List Cell)} (h : agFit cs a) (nd : (cs.map (·.1)).Nodup) (hr : ∀ r ∈ rows, rowFit cs r) : a.ok (cs.map (·.1)) rows := by
  have like : ∀ (x : Tx) (k : Cd), (x, k) ∈ cs → x ∈ cs.map (·.1) ∧ ∀ c ∈ valsN (cs.map (·.1)) x rows, cellFit k c := fun x k m => by
    refine ⟨List.mem_map.mpr ⟨_, m, rfl⟩, fun c hc => ?_⟩
    obtain ⟨r, h1, rfl⟩ := List.mem_map.mp hc
    exact fit_at (hr r h1) nd m
  cases a with
  | cnt n => trivial
  | su n x =>
    obtain ⟨b, m⟩ := h
    obtain ⟨h1, h2⟩ := like x _ m
    refine ⟨h1, fun c hc => ?_⟩
    have := h2 c hc
    cases c with
    | inl i => exact ⟨i, rfl⟩
    | inr y => exact this.elim
  | mi n x =>
    obtain ⟨k, m⟩ := h
    obtain ⟨h1, h2⟩ := like x _ m
    exact ⟨h1, fun c hc d hd => cell_like (h2 c hc) (h2 d hd)⟩
  | ma n x =>
    obtain ⟨k, m⟩ := h
    obtain ⟨h1, h2⟩ := like x _ m
    exact ⟨h1, fun c hc d hd => cell_like (h2 c hc) (h2 d hd)⟩
theorem minC_least (xs : List Cell) : ∀ x : Cell, minC x xs ∈ x :: xs ∧ ∀ y ∈ x :: xs, ltC y (minC x xs) = false := by
  induction xs with
  | nil => exact fun x => ⟨List.mem_singleton.mpr rfl, fun y hy => by rw [List.mem_singleton.mp hy]; exact ltC_irr _⟩
  | cons y xs ih =>
    intro x
    have e : minC x (y :: xs) = minC (if ltC y x then y else x) xs := rfl
    rw [e]
    cases h : ltC y x with
    | true =>
      obtain ⟨a, b⟩ := ih y
      refine ⟨List.mem_cons_of_mem _ a, fun z hz => ?_⟩
      rcases List.mem_cons.mp hz with rfl | hz
      · cases h2 : ltC z (minC y xs) with
        | false => exact h2
        | true => have := b y List.mem_cons_self; rw [ltC_trans h h2] at this; cases this
      · exact b z hz
    | false =>
      obtain ⟨a, b⟩ := ih x
      refine ⟨?_, fun z hz => ?_⟩
      · rcases List.mem_cons.mp a with a | a
        · show minC x xs ∈ x :: y :: xs
          rw [a]; exact List.mem_cons_self
        · exact List.mem_cons_of_mem _ (List.mem_cons_of_mem _ a)
      · have bx := b x List.mem_cons_self
        rcases List.mem_cons.mp hz with rfl | hz
        · exact bx
        · rcases List.mem_cons.mp hz with rfl | hz
          · cases h2 : ltC z (minC x xs) with
            | false => exact h2
            | true =>
              cases h3 : ltC (minC x xs) x with
              | true => rw [ltC_trans h2 h3] at h; cases h
              | false =>
                have := ltC_tri bx h3
                rw [← this] at h2
                rw [h2] at h
                cases h
          · exact b z (List.mem_cons_of_mem _ hz)
theorem maxC_most (xs : List Cell) : ∀ x : Cell, maxC x xs ∈ x :: xs ∧ ∀ y ∈ x :: xs, ltC (maxC x xs) y = false := by
  induction xs with
  | nil => exact fun x => ⟨List.mem_singleton.mpr rfl, fun y hy => by rw [List.mem_singleton.mp hy]; exact ltC_irr _⟩
  | cons y xs ih =>
    intro x
    have e : maxC x (y :: xs) = maxC (if ltC x y then y else x) xs := rfl
    rw [e]
    cases h : ltC x y with
    | true =>
      obtain ⟨a, b⟩ := ih y
      refine ⟨List.mem_cons_of_mem _ a, fun z hz => ?_⟩
      rcases List.mem_cons.mp hz with rfl | hz
      · cases h2 : ltC (maxC y xs) z with
        | false => exact h2
        | true => have := b y List.mem_cons_self; rw [ltC_trans h2 h] at this; cases this
      · exact b z hz
    | false =>
      obtain ⟨a, b⟩ := ih x
      refine ⟨?_, fun z hz => ?_⟩
      · rcases List.mem_cons.mp a with a | a
        · show maxC x xs ∈ x :: y :: xs
          rw [a]; exact List.mem_cons_self
        · exact List.mem_cons_of_mem _ (List.mem_cons_of_mem _ a)
      · have bx := b x List.mem_cons_self
        rcases List.mem_cons.mp hz with rfl | hz
        · exact bx
        · rcases List.mem_cons.mp hz with rfl | hz
          · cases h2 : ltC (maxC x xs) z with
            | false => exact h2
            | true =>
              cases h3 : ltC x (maxC x xs) with
              | true => rw [ltC_trans h3 h2] at h; cases h
              | false =>
                have := ltC_tri h3 bx
                rw [← this] at h2
                rw [h2] at h
                cases h
          · exact b z (List.mem_cons_of_mem _ hz)
def cellSm : Cell → Prop
  | .inl i => -(2 ^ 200) ≤ i ∧ i ≤ 2 ^ 200
  | .inr x => tOk x ∧ x.length ≤ 30
theorem fit_sm {k : Cd} {c : Cell} (h : cellFit k c) : cellSm c := by
  cases k with
  | s =>
    cases c with
    | inl i => exact h.elim
    | inr x => exact ⟨h.1, Nat.le_trans h.2 (by decide)⟩
  | n b =>
    cases c with
    | inl i =>
      obtain ⟨h1, h2, h3⟩ := h
      have e : (2 : Int) ^ 200 = 1606938044258990275541962092341162602522202993782792835301376 := by decide +kernel
      exact ⟨by rw [e]; omega, by rw [e]; omega⟩
    | inr x => exact h.elim
theorem sum_sm {b : Int} {l : List Cell} (h : ∀ c ∈ l, cellFit (.n b) c) : -(1000000000000 * (l.length : Int)) ≤ (l.map intC).sum ∧ (l.map intC).sum ≤ 1000000000000 * (l.length : Int) := by
  induction l with
  | nil => exact ⟨by decide, by decide⟩
  | cons c l ih =>
    obtain ⟨h1, h2⟩ := ih fun d hd => h d (List.mem_cons_of_mem _ hd)
    have hc := h c List.mem_cons_self
    rw [List.map_cons, List.sum_cons, List.length_cons]
    cases c with
    | inl i =>
      obtain ⟨a1, a2, a3⟩ := hc
      show _ ≤ i + _ ∧ i + _ ≤ _
      constructor <;> omega
    | inr x => exact hc.elim
theorem agFit.sm {cs : List Col} {a : Ag} {rows : List (List Cell)} (h : agFit cs a) (nd : (cs.map (·.1)).Nodup) (hr : ∀ r ∈ rows, rowFit cs r) (r0 : rows ≠ []) (hl : rows.length ≤ 1000) : cellSm (a.val (cs.map (·.1)) rows) := by
  have e : (2 : Int) ^ 200 = 1606938044258990275541962092341162602522202993782792835301376 := by decide +kernel
  have like : ∀ (x : Tx) (k : Cd), (x, k) ∈ cs → ∀ c ∈ valsN (cs.map (·.1)) x rows, cellFit k c := fun x k m c hc => by
    obtain ⟨r, h1, rfl⟩ := List.mem_map.mp hc
    exact fit_at (hr r h1) nd m
  have n0 : ∀ x, valsN (cs.map (·.1)) x rows ≠ [] := fun x z => r0 (List.map_eq_nil_iff.mp z)
  cases a with
  | cnt n => exact ⟨by show _ ≤ ((rows.length : Nat) : Int); rw [e]; omega, by show ((rows.length : Nat) : Int) ≤ _; rw [e]; omega⟩
  | su n x =>
    obtain ⟨b, m⟩ := h
    have := sum_sm (like x _ m)
    have vl : (valsN (cs.map (·.1)) x rows).length ≤ 1000 := by unfold valsN; rw [List.length_map]; exact hl
    show _ ≤ ((valsN (cs.map (·.1)) x rows).map intC).sum ∧ ((valsN (cs.map (·.1)) x rows).map intC).sum ≤ _
    rw [e]
    omega
  | mi n x =>
    obtain ⟨k, m⟩ := h
    have al := like x _ m
    have z := n0 x
    show cellSm (headC minC (valsN (cs.map (·.1)) x rows))
    generalize valsN (cs.map (·.1)) x rows = l at al z ⊢
    match l, z with
    | c :: l, _ => exact fit_sm (al _ (minC_least l c).1)
  | ma n x =>
    obtain ⟨k, m⟩ := h
    have al := like x _ m
    have z := n0 x
    show cellSm (headC maxC (valsN (cs.map (·.1)) x rows))
    generalize valsN (cs.map (·.1)) x rows = l at al z ⊢
    match l, z with
    | c :: l, _ => exact fit_sm (al _ (maxC_most l c).1)
end Va
set_option Elab.async false
set_option linter.all false
set_option maxRecDepth 100000
set_option maxHeartbeats 4000000
namespace Va
open PySem PySem.Spec PyProof.Rows L2 Ind RowK
mutual
def noLst : PyData → Bool
  | .none => true
  | .bool _ => true
  | .int _ => true
  | .str _ => true
  | .tuple xs => noLstL xs
  | .list _ => false
  | .dict _ => false
def noLstL : List PyData → Bool
  | [] => true
  | x :: xs => noLst x && noLstL xs
end
mutual
theorem noLst_as {h : Heap} : ∀ (d : PyData) {v : Value} {as : List Addr}, noLst d = true → PySem.Reads h v d as → as = []
  | .none, _, _, _, r => by cases r; rfl
  | .bool _, _, _, _, r => by cases r; rfl
  | .int _, _, _, _, r => by cases r; rfl
  | .str _, _, _, _, r => by cases r; rfl
  | .tuple xs, _, _, t, r => by
    cases r with
    | tuple _ _ _ ra => exact noLstL_as xs (by simpa [noLst] using t) ra
  | .list _, _, _, t, _ => by simp [noLst] at t
  | .dict _, _, _, t, _ => by simp [noLst] at t
theorem noLstL_as {h : Heap} : ∀ (ds : List PyData) {vs : List Value} {as : List Addr}, noLstL ds = true → PySem.ReadsAll h vs ds as → as = []
  | [], _, _, _, r => by cases r; rfl
  | d :: ds, _, _, t, r => by
    have t' : noLst d = true ∧ noLstL ds = true := by simpa [noLstL] using t
    cases r with
    | cons r1 r2 => rw [noLst_as d t'.1 r1, noLstL_as ds t'.2 r2]; rfl
end
theorem noLstL_iff : ∀ {ds : List PyData}, noLstL ds = true ↔ ∀ d ∈ ds, noLst d = true
  | [] => by simp [noLstL]
  | d :: ds => by simp [noLstL, noLstL_iff (ds := ds)]
def keyP : Key → PyData
  | .inl i => .int i
  | .inr x => .str x
def dkP (ds : List (Key × D)) : PyData := .dict (ds.map fun p => (keyP p.1, p.2.pd))
theorem keys_read {P : Program} {w : World} {h : Heap} : ∀ {es : List DictEntry} {vs : List (Key × Value)}, PySem.Pairs (mixKind P w) es vs → PySem.ReadsAll h (es.map (·.key)) (vs.map fun p => keyP p.1) []
  | _, _, .nil => .nil
  | e :: es, (k, v) :: vs, .cons hk _ r => by
    have e1 : keyIs k e.key = true := hk
    rcases keyIs_shape e1 with ⟨i, t, rfl, e2⟩ | ⟨x, t, rfl, e2⟩
    · show PySem.ReadsAll h (e.key :: es.map (·.key)) (.int i :: vs.map fun p => keyP p.1) ([] ++ [])
      rw [e2]
      exact .cons (.int i t) (keys_read r)
    · show PySem.ReadsAll h (e.key :: es.map (·.key)) (.str x :: vs.map fun p => keyP p.1) ([] ++ [])
      rw [e2]
      exact .cons (.str x t) (keys_read r)
theorem vals_are {P : Program} {w : World} : ∀ {es : List DictEntry} {vs : List (Key × Value)}, PySem.Pairs (mixKind P w) es vs → es.map (·.val) = vs.map (·.2)
  | _, _, .nil => rfl
  | e :: es, (k, v) :: vs, .cons _ hv r => by rw [List.map_cons, List.map_cons, vals_are r, hv]
theorem kv_vals : ∀ {kv : List (Key × V)} {vs : List (Key × Value)}, KV kv vs → Vals (kv.map (·.2)) (vs.map (·.2)) ∧ kv.map (·.1) = vs.map (·.1)
  | [], _, h => by cases h; exact ⟨.nil, rfl⟩
  | p :: kv, _, h => by
    cases h with
    | cons h1 h2 =>
      obtain ⟨a, b⟩ := kv_vals h2
      exact ⟨.cons h1.2 a, by rw [List.map_cons, List.map_cons, h1.1, b]⟩
def rReprK (K : PySem.W.Frag) : List V → Hp → VK → Prop := fun xs H Q => ∃ (a : Addr) (kv : List (Key × V)) (ds : List (Key × PyData)), xs = [.ref a] ∧ Rd H a (.dK kv) ∧ kv.map (·.1) = ds.map (·.1) ∧ DpAll K H (kv.map (·.2)) (ds.map (·.2)) ∧ (∀ p ∈ ds, noLst p.2 = true) ∧
  (PyData.dict (ds.map fun p => (keyP p.1, p.2))).showable = true ∧ (PyData.dict (ds.map fun p => (keyP p.1, p.2))).depth ≤ 60 ∧ (PyData.dict (ds.map fun p => (keyP p.1, p.2))).shown.length ≤ sizeLine ∧ Q (.str (PyData.dict (ds.map fun p => (keyP p.1, p.2))).shown) H
section
variable {X : Cx} {S : Sg}
theorem cr_reprK (hg : X.A.guards = some []) (hu : X.A.units + 64 < cLine) : CallR X (.builtin "repr") (rReprK X.K) := by
  intro pins s σ H xs us Q I r h
  obtain ⟨a, kv, ds, rfl, hd, hk, ha, nl, sh, dep, len, q⟩ := h
  rw [Vals.ref1 r]
  obtain ⟨z, ns, vs, rel, o, es, ep, ho, hc, hdat, _, hp, _⟩ := dk_rd I.hok hd
  obtain ⟨rv, ek⟩ := kv_vals rel
  obtain ⟨as, ra⟩ := Dp.readsAll I _ _ _ ha rv
  have e0 : as = [] := noLstL_as _ (noLstL_iff.mpr fun d hd => by
    obtain ⟨p, hp, rfl⟩ := List.mem_map.mp hd
    exact nl p hp) ra
  subst e0
  have rk := keys_read (h := s.heap) hp
  have e1 : (vs.map fun p => keyP p.1) = ds.map fun p => keyP p.1 := by
    have : (vs.map (·.1)).map keyP = (ds.map (·.1)).map keyP := by rw [← ek, hk]
    rw [List.map_map, List.map_map] at this
    exact this
  rw [e1] at rk
  rw [← vals_are hp] at ra
  have rd : PySem.Reads s.heap (.ref a) (.dict (ds.map fun p => (keyP p.1, p.2))) (a :: [] ++ []) := .dict ho hc.1 hdat (by rw [List.map_map]; exact rk) (by rw [List.map_map]; exact ra)
  refine repr_of_reads' rd sh (fun _ hm => ?_) hg (by omega) (fun _ _ e => e) (fun h' u' tk keep => ?_) len
  · have hm : sysModules ∈ [a] := hm
    rw [List.mem_singleton.mp hm] at ns
    simp at ns
  · exact ⟨.str _, H, I.kept keep, ⟨_, rfl⟩, q⟩
def reprKG : VC := fun ds Q => match ds with
  | [.dk kvs] => (∀ p ∈ kvs, p.2.pd.canLay0 = true ∧ noLst p.2.pd = true) ∧ (dkP kvs).showable = true ∧ (dkP kvs).depth ≤ 60 ∧ (dkP kvs).shown.length ≤ 1000000 ∧ Q (.v (.str (dkP kvs).shown))
  | _ => False
theorem rpk_dp {K : PySem.W.Frag} {tp : Option Tp} {H : Hp} : ∀ {kv : List (Key × V)} {kvs : List (Key × D)}, (∀ p ∈ kvs, p.2.pd.canLay0 = true) → RpK K tp H kv kvs → DpAll K H (kv.map (·.2)) (kvs.map fun p => p.2.pd) ∧ kv.map (·.1) = kvs.map (·.1)
  | _, [], _, h => by cases h; exact ⟨.nil, rfl⟩
  | _, p :: kvs, c, h => by
    cases h with
    | cons h1 h2 =>
      obtain ⟨a, b⟩ := rpk_dp (fun q hq => c q (List.mem_cons_of_mem _ hq)) h2
      exact ⟨.cons (Rp.dp _ _ (c _ List.mem_cons_self) h1) a, by rw [List.map_cons, List.map_cons, b]⟩
theorem c_reprK (hK : S.K = X.K) (hg : X.A.guards = some []) (hu : X.A.units + 64 < cLine) : CallV S X (.builtin "repr") reprKG := by
  refine ⟨_, cr_reprK hg hu, ?_⟩
  intro Γ H xs ds Q Q0 eK hx hg k
  have eK' : X.K = Γ.K := (eK.trans hK).symm
  unfold reprKG at hg
  split at hg
  · rename_i kvs
    obtain ⟨h1, h2, h3, h4, hg⟩ := hg
    match hx with
    | .cons h .nil =>
      obtain ⟨a, kv, rfl, hr, hp⟩ := h.dk
      obtain ⟨d1, d2⟩ := rpk_dp (fun p hp => (h1 p hp).1) hp
      have e : ((kvs.map fun p => (p.1, p.2.pd)).map fun p => (keyP p.1, p.2)) = kvs.map fun p => (keyP p.1, p.2.pd) := by rw [List.map_map]; rfl
      refine ⟨a, kv, kvs.map fun p => (p.1, p.2.pd), rfl, hr, by rw [d2, List.map_map]; rfl, by rw [eK', List.map_map]; exact d1, fun p hp => ?_, ?_, ?_, ?_, ?_⟩
      · obtain ⟨q, hq, rfl⟩ := List.mem_map.mp hp
        exact (h1 q hq).2
      · rw [e]; exact h2
      · rw [e]; exact h3
      · rw [e]; exact million h4
      · rw [e]; exact k _ hg _ _ (Same.refl _) (.str _)
  · exact hg.elim
end
theorem dk_shows {kvs : List (Key × D)} {k l m : Nat} (h : ∀ p ∈ kvs, Smal (keyP p.1) k l ∧ Smal p.2.pd k m) (hk : k ≤ 10) (hm : (l + m + 2) * kvs.length ≤ 12000) : (dkP kvs).showable = true ∧ (dkP kvs).depth ≤ 60 ∧ (dkP kvs).shown.length ≤ 1000000 := by
  have key : ∀ kvs : List (Key × D), (∀ p ∈ kvs, Smal (keyP p.1) k l ∧ Smal p.2.pd k m) → PyData.showableKv (kvs.map fun p => (keyP p.1, p.2.pd)) = true ∧ PyData.depthKv (kvs.map fun p => (keyP p.1, p.2.pd)) ≤ k ∧ PyData.leavesShortKv 80 (kvs.map fun p => (keyP p.1, p.2.pd)) = true ∧ PyData.bulkKv (kvs.map fun p => (keyP p.1, p.2.pd)) ≤ (l + m + 2) * kvs.length := fun kvs h => by
    induction kvs with
    | nil => simp [PyData.showableKv, PyData.depthKv, PyData.leavesShortKv, PyData.bulkKv]
    | cons p kvs ih =>
      obtain ⟨a1, a2, a3, a4⟩ := ih fun q hq => h q (List.mem_cons_of_mem _ hq)
      obtain ⟨b1, b2⟩ := h p List.mem_cons_self
      refine ⟨by simp [PyData.showableKv, b1.sho, b2.sho, a1], ?_, by simp [PyData.leavesShortKv, b1.leaf, b2.leaf, a3], ?_⟩
      · have := b1.dep
        have := b2.dep
        simp only [List.map_cons, PyData.depthKv]
        omega
      · have := b1.bulk
        have := b2.bulk
        simp only [List.map_cons, PyData.bulkKv, List.length_cons]
        rw [Nat.mul_succ]
        omega
  obtain ⟨a1, a2, a3, a4⟩ := key kvs h
  have h1 := PyData.shown_le_bulk 80 (by decide) (dkP kvs) (by simp only [dkP, PyData.leavesShort]; exact a3)
  have h2 : (dkP kvs).bulk ≤ 12000 := by simp only [dkP, PyData.bulk]; omega
  refine ⟨by simp only [dkP, PyData.showable]; exact a1, by simp only [dkP, PyData.depth]; omega, by omega⟩
end Va
set_option Elab.async false
set_option linter.all false
set_option maxRecDepth 100000
set_option maxHeartbeats 4000000
namespace Va
open PySem PySem.Spec PyProof.Rows L2 Ind RowK
def unD : D → Cell
  | .str x => .inr x
  | .int i => .inl i
  | _ => .inl 0
theorem un_cell (x : Cell) : unD (cellD x) = x := by cases x <;> rfl
def exC (ns : List Tx) (e : Ex) (r : List Cell) : Cell := unD (exV ns (r.map cellD) e)
theorem rowFit.row {cs : List Col} {r : List Cell} (h : rowFit cs r) (nd : (cs.map (·.1)).Nodup) : RowOk cs (r.map cellD) := by
  refine ⟨nd, by rw [List.length_map]; exact h.1, fun i p v e1 e2 => ?_⟩
  obtain ⟨x, ex, rfl⟩ := map_get e2
  have := h.2 i x p ex e1
  obtain ⟨nm, k⟩ := p
  cases k <;> cases x <;> first | exact this.elim | exact ⟨_, rfl⟩
abbrev It8 := Tx × Ex
def itD8 (p : It8) : D := .tup [.str p.1, exD p.2]
def selR (ns : List Tx) (its : List It8) (r : List Cell) : List Cell := its.map fun p => exC ns p.2 r
end Va
set_option Elab.async false
set_option linter.all false
set_option maxRecDepth 100000
set_option maxHeartbeats 4000000
namespace Va
open PySem PySem.Spec PyProof.Rows L2 Ind RowK
theorem noLst_row (r : List Cell) : noLst (rowD r).pd = true := by
  rw [pd_rwD]
  show noLstL (r.map celP) = true
  rw [noLstL_iff]
  intro d hd
  obtain ⟨c, hc, rfl⟩ := List.mem_map.mp hd
  cases c <;> rfl
end Va
set_option Elab.async false
set_option linter.all false
set_option maxRecDepth 100000
set_option maxHeartbeats 4000000
namespace Va
open PySem PySem.Spec PyProof.Rows L2 Ind RowK
inductive Tw where
  | joi
  | uni
  | mnu
  | mat
  | wou
def Tw.w : Tw → Tx
  | .joi => "join"
  | .uni => "union"
  | .mnu => "minus"
  | .mat => "matching"
  | .wou => "without"
inductive Qy where
  | nm (x : Tx)
  | whr (q : Qy) (F : Fm)
  | sel (q : Qy) (its : List It8)
  | grp (q : Qy) (ks : List Tx) (as : List Ag)
  | two (w : Tw) (p q : Qy)
def Qy.d : Qy → D
  | .nm x => .tup [.str "name", .str x]
  | .whr q F => .tup [.str "where", q.d, F.d]
  | .sel q its => .tup [.str "select", q.d, .tup (its.map itD8)]
  | .grp q ks as => .tup [.str "group", q.d, .ptp (ks.map .str), .tup (as.map Ag.d)]
  | .two w p q => .tup [.str w.w, p.d, q.d]
def Qy.dep : Qy → Nat
  | .nm _ => 0
  | .whr q _ => q.dep + 1
  | .sel q _ => q.dep + 1
  | .grp q _ _ => q.dep + 1
  | .two _ p q => max p.dep q.dep + 1
abbrev Shp := List Col × Int
def colK (cs : List Col) (n : Tx) : Option Cd := (cs.find? fun p => decide (p.1 = n)).map (·.2)
def opK (cs : List Col) : Op → Option Cd
  | .col n => colK cs n
  | .num i => some (.n (if 0 ≤ i then i else -i))
  | .txt _ => some .s
def bndK : Option Cd → Option Int
  | some (.n b) => some b
  | _ => none
def sumK (cs : List Col) : Ex → Option Int
  | [] => some 0
  | t :: e => match bndK (opK cs t.2), sumK cs e with
    | some a, some b => some (a + b)
    | _, _ => none
def exK (cs : List Col) (e : Ex) : Option Cd := match e with
  | [t] => opK cs t.2
  | e => match sumK cs e with
    | some b => if b ≤ 1000000000000 then some (.n b) else none
    | none => none
def bigK : Cd → Bool
  | .s => false
  | .n b => decide (1000000000000 < b)
def sized (cs : List Col) (m : Int) : Option Shp := if 3000 < m then none else if cs.any (fun p => bigK p.2) then none else some (cs, m)
def gK {α : Type} (f : α → Option Cd) (g : α → Tx) : List α → List Col → Option (List Col)
  | [], found => some found
  | p :: l, found => match f p with
    | some k => if memB (g p) (found.map (·.1)) = true then none else gK f g l (found ++ [(g p, k)])
    | none => none
def selK (cs : List Col) (its : List It8) (found : List Col) : Option (List Col) := gK (fun p : It8 => exK cs p.2) (fun p => p.1) its found
def keyK (cs : List Col) (ks : List Tx) (found : List Col) : Option (List Col) := gK (colK cs) (fun x => x) ks found
def agKd (cs : List Col) (m : Int) : Ag → Option Cd
  | .cnt _ => some (.n m)
  | .su _ x => match colK cs x with
    | some (.n b) => some (.n (b * m))
    | _ => none
  | .mi _ x => colK cs x
  | .ma _ x => colK cs x
def aggK (cs : List Col) (m : Int) (as : List Ag) (found : List Col) : Option (List Col) := gK (agKd cs m) Ag.nm as found
def maxK : Cd → Cd → Cd
  | .n a, .n b => .n (if b ≤ a then a else b)
  | k, _ => k
def twoK (w : Tw) (cs : List Col) (m : Int) (ds : List Col) (n : Int) : Option Shp := match w with
  | .uni => if (ds.map fun p => (p.1, p.2.w)) = (cs.map fun p => (p.1, p.2.w)) then sized ((cs.zip ds).map fun p => (p.1.1, maxK p.1.2 p.2.2)) (m + n) else none
  | .mnu => if (ds.map fun p => (p.1, p.2.w)) = (cs.map fun p => (p.1, p.2.w)) then some (cs, m) else none
  | .joi => if ds.all (fun p => match colK cs p.1 with | some k => decide (k.w = p.2.w) | none => true) then sized (cs ++ ds.filter fun p => !memB p.1 (cs.map (·.1))) (m * n) else none
  | _ => if ds.all (fun p => match colK cs p.1 with | some k => decide (k.w = p.2.w) | none => true) then some (cs, m) else none
mutual
def fmK (cs : List Col) : Fm → Bool
  | .cmp _ l r => match exK cs l, exK cs r with
    | some a, some b => decide (a.w = b.w)
    | _, _ => false
  | .neg f => fmK cs f
  | .all fs => fmKL cs fs
  | .any fs => fmKL cs fs
  | .imp a b => fmK cs a && fmK cs b
  | .tt => true
  | .ff => true
def fmKL (cs : List Col) : List Fm → Bool
  | [] => true
  | f :: fs => fmK cs f && fmKL cs fs
end
def tyQ (sh : List (Tx × Shp)) : Qy → Option Shp
  | .nm x => (sh.find? fun p => decide (p.1 = x)).map (·.2)
  | .whr q F => match tyQ sh q with
    | some (cs, m) => if fmK cs F = true then some (cs, m) else none
    | none => none
  | .sel q its => match tyQ sh q with
    | some (cs, m) => match selK cs its [] with
      | some ds => sized ds m
      | none => none
    | none => none
  | .grp q ks as => match tyQ sh q with
    | some (cs, m) => match keyK cs ks [] with
      | some found => match aggK cs m as found with
        | some ds => sized ds m
        | none => none
      | none => none
    | none => none
  | .two w p q => match tyQ sh p, tyQ sh q with
    | some (cs, m), some (ds, n) => twoK w cs m ds n
    | _, _ => none
def insR (x : List Cell) : List (List Cell) → List (List Cell)
  | [] => [x]
  | y :: l => if ltR y x = true then y :: insR x l else x :: y :: l
def srtL : List (List Cell) → List (List Cell)
  | [] => []
  | x :: l => insR x (srtL l)
theorem insR_perm (x : List Cell) : ∀ l, (insR x l).Perm (x :: l)
  | [] => List.Perm.refl _
  | y :: l => by
    unfold insR
    split
    · exact (List.Perm.cons y (insR_perm x l)).trans (List.Perm.swap x y l)
    · exact List.Perm.refl _
theorem srtL_perm : ∀ l, (srtL l).Perm l
  | [] => List.Perm.refl _
  | x :: l => (insR_perm x _).trans (List.Perm.cons x (srtL_perm l))
theorem insR_srt (x : List Cell) : ∀ {l}, SrtR l → SrtR (insR x l)
  | [], _ => List.pairwise_cons.mpr ⟨fun _ h => (nomatch h), .nil⟩
  | y :: l, h => by
    obtain ⟨h1, h2⟩ := List.pairwise_cons.mp h
    unfold insR
    split
    · rename_i e
      refine List.pairwise_cons.mpr ⟨fun z hz => ?_, insR_srt x h2⟩
      rcases List.mem_cons.mp ((insR_perm x l).mem_iff.mp hz) with rfl | hz
      · cases g : ltR z y with
        | false => rfl
        | true => have := ltR_trans e g; rw [ltR_irr] at this; cases this
      · exact h1 z hz
    · rename_i e
      have e : ltR y x = false := by simpa using e
      refine List.pairwise_cons.mpr ⟨fun z hz => ?_, h⟩
      rcases List.mem_cons.mp hz with rfl | hz
      · exact e
      · have a := h1 z hz
        cases g : ltR z x with
        | false => rfl
        | true =>
          cases g2 : ltR x y with
          | true => have := ltR_trans g g2; rw [a] at this; cases this
          | false =>
            have := ltR_tri e g2
            rw [this] at a
            rw [a] at g
            cases g
theorem srtL_srt : ∀ l, SrtR (srtL l)
  | [] => .nil
  | x :: l => insR_srt x (srtL_srt l)
def stR (l : List (List Cell)) : List (List Cell) := srtL (onc [] l)
theorem stR_mem {l : List (List Cell)} {r : List Cell} : r ∈ stR l ↔ r ∈ l := by
  unfold stR
  rw [(srtL_perm _).mem_iff]
  exact onc_mem0
theorem stR_nd (l : List (List Cell)) : (stR l).Nodup := (srtL_perm _).nodup_iff.mpr (onc_nd _ [] List.nodup_nil)
theorem stR_srt (l : List (List Cell)) : SrtR (stR l) := srtL_srt _
theorem stR_len (l : List (List Cell)) : (stR l).length ≤ l.length := by
  unfold stR
  rw [(srtL_perm _).length_eq]
  have := onc_le l []
  simpa using this
def keyN (ks ns : List Tx) (r : List Cell) : List Cell := pickR r (idxs ks ns)
def madeR (ks ns : List Tx) (as : List Ag) (rs : List (List Cell)) : List (List Cell) := (grpd (keyN ks ns) rs).map fun p => p.1 ++ as.map (Ag.val ns p.2)
def joinR (w : Tw) (ns ms : List Tx) (rs qs : List (List Cell)) : List Tx × List (List Cell) := match w with
  | .joi => (ns ++ furth ns ms, stR (joined ns ms rs qs))
  | .uni => (ns, stR (rs ++ qs))
  | .mnu => (ns, rs.filter fun r => !memB r qs)
  | .mat => (ns, rs.filter fun r => !(mates ns ms r qs).isEmpty)
  | .wou => (ns, rs.filter fun r => (mates ns ms r qs).isEmpty)
abbrev Rl := List Tx × List (List Cell)
def ansR (rl : List (Tx × Rl)) : Qy → Rl
  | .nm x => ((rl.find? fun p => decide (p.1 = x)).map (·.2)).getD ([], [])
  | .whr q F => ((ansR rl q).1, (ansR rl q).2.filter fun r => F.tr (ansR rl q).1 (r.map cellD))
  | .sel q its => (its.map (·.1), stR ((ansR rl q).2.map (selR (ansR rl q).1 its)))
  | .grp q ks as => (ks ++ as.map Ag.nm, stR (madeR ks (ansR rl q).1 as (ansR rl q).2))
  | .two w p q => joinR w (ansR rl p).1 (ansR rl q).1 (ansR rl p).2 (ansR rl q).2
end Va
set_option Elab.async false
set_option linter.all false
set_option maxRecDepth 100000
set_option maxHeartbeats 4000000
namespace Va
open PySem PySem.Spec PyProof.Rows L2 Ind RowK
def opS : Op → Prop
  | .col n => tOk n
  | .num _ => True
  | .txt x => tOk x ∧ x.length ≤ 21
structure exS (e : Ex) : Prop where
  ne : e ≠ []
  len : e.length ≤ 20
  op : ∀ t ∈ e, opS t.2
theorem colK_mem {cs : List Col} {n : Tx} {k : Cd} (h : colK cs n = some k) : (n, k) ∈ cs := by
  unfold colK at h
  cases e : cs.find? fun p => decide (p.1 = n) with
  | none => rw [e] at h; cases h
  | some p =>
    rw [e] at h
    cases h
    have h1 := List.find?_some e
    have h2 := List.mem_of_find?_eq_some e
    have h1 : p.1 = n := of_decide_eq_true h1
    rw [← h1]
    exact h2
theorem ev_cell {cs : List Col} {r : List Cell} (h : rowFit cs r) (nd : (cs.map (·.1)).Nodup) {n : Tx} {k : Cd} (m : (n, k) ∈ cs) : ∃ x : Cell, ev (cs.map (·.1)) (r.map cellD) (.col n) = cellD x ∧ cellFit k x := by
  have a := fit_at h nd m
  refine ⟨_, ?_, a⟩
  show ((r.map cellD)[(cs.map (·.1)).idxOf n]?).getD .non = cellD (atN r (cs.map (·.1)) n)
  unfold atN
  rw [List.getElem?_map]
  have hi : (cs.map (·.1)).idxOf n < r.length := by
    rw [h.1, ← List.length_map (as := cs) (f := fun p : Col => p.1)]
    exact List.idxOf_lt_length_of_mem (List.mem_map.mpr ⟨_, m, rfl⟩)
  rw [List.getElem?_eq_getElem hi]
  rfl
theorem sumK_bound {cs : List Col} {r : List Cell} (h : rowFit cs r) (nd : (cs.map (·.1)).Nodup) : ∀ {e : Ex} {b : Int}, sumK cs e = some b → -b ≤ sumV (cs.map (·.1)) (r.map cellD) e ∧ sumV (cs.map (·.1)) (r.map cellD) e ≤ b
  | [], b, e => by
    have e : some (0 : Int) = some b := e
    cases e
    exact ⟨Int.le_refl 0, Int.le_refl 0⟩
  | t :: e, b, g => by
    unfold sumK at g
    cases h1 : bndK (opK cs t.2) with
    | none => rw [h1] at g; cases g
    | some a =>
      rw [h1] at g
      cases h2 : sumK cs e with
      | none => rw [h2] at g; cases g
      | some b2 =>
        rw [h2] at g
        have g : some (a + b2) = some b := g
        cases g
        obtain ⟨i1, i2⟩ := sumK_bound h nd h2
        have one : -a ≤ intOf (ev (cs.map (·.1)) (r.map cellD) t.2) ∧ intOf (ev (cs.map (·.1)) (r.map cellD) t.2) ≤ a := by
          cases ho : t.2 with
          | num i =>
            rw [ho] at h1
            have h1 : some (if 0 ≤ i then i else -i) = some a := h1
            cases h1
            show -(if 0 ≤ i then i else -i) ≤ i ∧ i ≤ (if 0 ≤ i then i else -i)
            split <;> omega
          | txt x => rw [ho] at h1; cases h1
          | col n =>
            rw [ho] at h1
            cases hk : colK cs n with
            | none =>
              have h1 : bndK (colK cs n) = some a := h1
              rw [hk] at h1; cases h1
            | some k =>
              have h1 : bndK (colK cs n) = some a := h1
              rw [hk] at h1
              cases k with
              | s => cases h1
              | n c =>
                cases h1
                obtain ⟨x, ex, fx⟩ := ev_cell h nd (colK_mem hk)
                rw [ex]
                cases x with
                | inl i => exact ⟨fx.1, fx.2.1⟩
                | inr y => exact fx.elim
        show -(a + b2) ≤ sg1 t.1 (intOf (ev (cs.map (·.1)) (r.map cellD) t.2)) + sumV (cs.map (·.1)) (r.map cellD) e ∧ sg1 t.1 (intOf (ev (cs.map (·.1)) (r.map cellD) t.2)) + sumV (cs.map (·.1)) (r.map cellD) e ≤ a + b2
        cases t.1 with
        | true => show _ ≤ intOf _ + _ ∧ intOf _ + _ ≤ _; omega
        | false => show _ ≤ -intOf _ + _ ∧ -intOf _ + _ ≤ _; omega
theorem exC_fit {cs : List Col} {r : List Cell} (h : rowFit cs r) (nd : (cs.map (·.1)).Nodup) {e : Ex} {k : Cd} (hk : exK cs e = some k) (s : exS e) (big : bigK k = false) : cellFit k (exC (cs.map (·.1)) e r) := by
  match e, hk, s with
  | [], _, s => exact absurd rfl s.ne
  | [t], hk, s =>
    have hk : opK cs t.2 = some k := hk
    show cellFit k (unD (ev (cs.map (·.1)) (r.map cellD) t.2))
    have st := s.op t (by simp)
    cases ho : t.2 with
    | num i =>
      rw [ho] at hk
      have hk : some (Cd.n (if 0 ≤ i then i else -i)) = some k := hk
      cases hk
      have big : decide (1000000000000 < (if 0 ≤ i then i else -i)) = false := big
      have big := of_decide_eq_false big
      show -(if 0 ≤ i then i else -i) ≤ i ∧ i ≤ (if 0 ≤ i then i else -i) ∧ (if 0 ≤ i then i else -i) ≤ 1000000000000
      split at big <;> simp_all <;> omega
    | txt x =>
      rw [ho] at hk st
      have hk : some Cd.s = some k := hk
      cases hk
      exact st
    | col n =>
      rw [ho] at hk
      obtain ⟨x, ex, fx⟩ := ev_cell h nd (colK_mem hk)
      rw [ex, un_cell]
      exact fx
  | t :: u :: e, hk, s =>
    have hk : (match sumK cs (t :: u :: e) with | some b => if b ≤ 1000000000000 then some (Cd.n b) else none | none => none) = some k := hk
    cases h1 : sumK cs (t :: u :: e) with
    | none => rw [h1] at hk; cases hk
    | some b =>
      rw [h1] at hk
      dsimp only at hk
      split at hk
      · rename_i hb
        cases hk
        obtain ⟨b1, b2⟩ := sumK_bound h nd h1
        exact ⟨b1, b2, hb⟩
      · cases hk
end Va
set_option Elab.async false
set_option linter.all false
set_option maxRecDepth 100000
set_option maxHeartbeats 4000000
namespace Va
open PySem PySem.Spec PyProof.Rows L2 Ind RowK
def kNN : Cd → Prop
  | .s => True
  | .n b => 0 ≤ b
structure ShOk (cs : List Col) (m : Int) : Prop where
  nd : (cs.map (·.1)).Nodup
  ne : cs ≠ []
  nn : ∀ p ∈ cs, kNN p.2
  sm : ∀ p ∈ cs, bigK p.2 = false
  m0 : 0 ≤ m
structure RlOk (cs : List Col) (m : Int) (r : Rl) : Prop where
  nm : r.1 = cs.map (·.1)
  fit : ∀ x ∈ r.2, rowFit cs x
  srt : SrtR r.2
  nd : r.2.Nodup
  len : (r.2.length : Int) ≤ m
theorem sized_some {cs : List Col} {m : Int} {s : Shp} (h : sized cs m = some s) : s = (cs, m) ∧ m ≤ 3000 ∧ ∀ p ∈ cs, bigK p.2 = false := by
  unfold sized at h
  split at h
  · cases h
  · rename_i h1
    split at h
    · cases h
    · rename_i h2
      cases h
      refine ⟨rfl, by omega, fun p hp => ?_⟩
      cases e : bigK p.2 with
      | false => rfl
      | true => exact absurd (List.any_eq_true.mpr ⟨p, hp, e⟩) h2
theorem gK_ex {α : Type} {f : α → Option Cd} {g : α → Tx} : ∀ {l : List α} {found ds : List Col}, gK f g l found = some ds → (found.map (·.1)).Nodup → (ds.map (·.1)).Nodup ∧ ∃ news : List Col, ds = found ++ news ∧ news.map (·.1) = l.map g ∧ ∀ (i : Nat) (p : α) (q : Col), l[i]? = some p → news[i]? = some q → f p = some q.2
  | [], found, ds, h, nd => by
    have h : some found = some ds := h
    cases h
    exact ⟨nd, [], by simp, rfl, fun i p q e => by simp at e⟩
  | p :: l, found, ds, h, nd => by
    unfold gK at h
    cases e : f p with
    | none => rw [e] at h; cases h
    | some k =>
      rw [e] at h
      dsimp only at h
      split at h
      · cases h
      · rename_i hm
        have nd2 : ((found ++ [(g p, k)]).map (·.1)).Nodup := by
          rw [List.map_append]
          exact List.nodup_append.mpr ⟨nd, by simp, fun a ha b hb eq => hm (memB_iff.mpr (by
            have : b = g p := by simpa using hb
            rw [← this, ← eq]; exact ha))⟩
        obtain ⟨a, news, rfl, e2, e3⟩ := gK_ex h nd2
        refine ⟨a, (g p, k) :: news, by simp, by rw [List.map_cons, List.map_cons, e2], fun i x q h1 h2 => ?_⟩
        cases i with
        | zero =>
          simp at h1 h2
          rw [← h1, ← h2]
          exact e
        | succ i =>
          simp at h1 h2
          exact e3 i x q h1 h2
theorem fit_app {cs ds : List Col} {r q : List Cell} (h1 : rowFit cs r) (h2 : rowFit ds q) : rowFit (cs ++ ds) (r ++ q) := by
  have l1 := h1.1
  have l2 := h2.1
  refine ⟨by rw [List.length_append, List.length_append]; omega, fun i x p e1 e2 => ?_⟩
  by_cases hi : i < r.length
  · rw [List.getElem?_append_left hi] at e1
    rw [List.getElem?_append_left (by omega)] at e2
    exact h1.2 i x p e1 e2
  · rw [List.getElem?_append_right (by omega)] at e1
    rw [List.getElem?_append_right (by omega), ← l1] at e2
    exact h2.2 _ x p e1 e2
theorem pick_fit {ds es : List Col} {q : List Cell} (h : rowFit ds q) (nd : (ds.map (·.1)).Nodup) (hm : ∀ p ∈ es, p ∈ ds) : rowFit es ((es.map (·.1)).map (atN q (ds.map (·.1)))) := by
  refine ⟨by rw [List.length_map, List.length_map], fun i x p e1 e2 => ?_⟩
  rw [List.map_map, List.getElem?_map, e2] at e1
  have e1 : some (atN q (ds.map (·.1)) p.1) = some x := e1
  cases e1
  exact fit_at h nd (hm p (List.mem_of_getElem? e2))
theorem sel_fit {cs news : List Col} {its : List It8} {r : List Cell} (h : rowFit cs r) (nd : (cs.map (·.1)).Nodup) (en : news.map (·.1) = its.map fun p => p.1) (hk : ∀ (i : Nat) (p : It8) (q : Col), its[i]? = some p → news[i]? = some q → exK cs p.2 = some q.2) (hs : ∀ p ∈ its, exS p.2) (hb : ∀ q ∈ news, bigK q.2 = false) : rowFit news (selR (cs.map (·.1)) its r) := by
  have el : news.length = its.length := by
    have := congrArg List.length en
    rwa [List.length_map, List.length_map] at this
  unfold selR
  refine ⟨by rw [List.length_map]; exact el.symm, fun i x q e1 e2 => ?_⟩
  rw [List.getElem?_map] at e1
  cases e : its[i]? with
  | none => rw [e] at e1; cases e1
  | some p =>
    rw [e] at e1
    have e1 : some (exC (cs.map (·.1)) p.2 r) = some x := e1
    cases e1
    exact exC_fit h nd (hk i p q e e2) (hs p (List.mem_of_getElem? e)) (hb q (List.mem_of_getElem? e2))
theorem sumB {b : Int} {l : List Cell} (h : ∀ c ∈ l, cellFit (.n b) c) : -(b * (l.length : Int)) ≤ (l.map intC).sum ∧ (l.map intC).sum ≤ b * (l.length : Int) := by
  induction l with
  | nil => simp
  | cons c l ih =>
    obtain ⟨h1, h2⟩ := ih fun d hd => h d (List.mem_cons_of_mem _ hd)
    have hc := h c List.mem_cons_self
    rw [List.map_cons, List.sum_cons, List.length_cons]
    have e : b * ((l.length + 1 : Nat) : Int) = b * (l.length : Int) + b := by
      rw [Int.natCast_add, Int.mul_add]
      simp
    rw [e]
    cases c with
    | inl i =>
      obtain ⟨a1, a2, a3⟩ := hc
      show _ ≤ i + _ ∧ i + _ ≤ _
      constructor <;> omega
    | inr x => exact hc.elim
theorem agg_fit {cs : List Col} {m : Int} {a : Ag} {k : Cd} {rows : List (List Cell)} (ha : agKd cs m a = some k) (nd : (cs.map (·.1)).Nodup) (nn : ∀ p ∈ cs, kNN p.2) (hr : ∀ r ∈ rows, rowFit cs r) (r0 : rows ≠ []) (hl : (rows.length : Int) ≤ m) (hb : bigK k = false) : cellFit k (a.val (cs.map (·.1)) rows) := by
  have col : ∀ (x : Tx) (k : Cd), colK cs x = some k → ∀ c ∈ valsN (cs.map (·.1)) x rows, cellFit k c := fun x k e c hc => by
    obtain ⟨r, h1, rfl⟩ := List.mem_map.mp hc
    exact fit_at (hr r h1) nd (colK_mem e)
  have n0 : ∀ x, valsN (cs.map (·.1)) x rows ≠ [] := fun x z => r0 (List.map_eq_nil_iff.mp z)
  cases a with
  | cnt n =>
    have ha : some (Cd.n m) = some k := ha
    cases ha
    have hb : decide (1000000000000 < m) = false := hb
    have hb := of_decide_eq_false hb
    show -m ≤ ((rows.length : Nat) : Int) ∧ ((rows.length : Nat) : Int) ≤ m ∧ m ≤ 1000000000000
    omega
  | su n x =>
    have ha : (match colK cs x with | some (.n b) => some (Cd.n (b * m)) | _ => none) = some k := ha
    cases hx : colK cs x with
    | none => rw [hx] at ha; cases ha
    | some k2 =>
      rw [hx] at ha
      cases k2 with
      | s => cases ha
      | n b =>
        cases ha
        have al := col x _ hx
        obtain ⟨s1, s2⟩ := sumB al
        have vl : (valsN (cs.map (·.1)) x rows).length = rows.length := by unfold valsN; rw [List.length_map]
        rw [vl] at s1 s2
        have b0 : 0 ≤ b := nn _ (colK_mem hx)
        have hb : decide (1000000000000 < b * m) = false := hb
        have hb := of_decide_eq_false hb
        have mo : b * (rows.length : Int) ≤ b * m := Int.mul_le_mul_of_nonneg_left hl b0
        show -(b * m) ≤ ((valsN (cs.map (·.1)) x rows).map intC).sum ∧ ((valsN (cs.map (·.1)) x rows).map intC).sum ≤ b * m ∧ b * m ≤ 1000000000000
        omega
  | mi n x =>
    have ha : colK cs x = some k := ha
    have al := col x _ ha
    have z := n0 x
    show cellFit k (headC minC (valsN (cs.map (·.1)) x rows))
    generalize valsN (cs.map (·.1)) x rows = l at al z ⊢
    match l, z with
    | c :: l, _ => exact al _ (minC_least l c).1
  | ma n x =>
    have ha : colK cs x = some k := ha
    have al := col x _ ha
    have z := n0 x
    show cellFit k (headC maxC (valsN (cs.map (·.1)) x rows))
    generalize valsN (cs.map (·.1)) x rows = l at al z ⊢
    match l, z with
    | c :: l, _ => exact al _ (maxC_most l c).1
end Va
set_option Elab.async false
set_option linter.all false
set_option maxRecDepth 100000
set_option maxHeartbeats 4000000
namespace Va
open PySem PySem.Spec PyProof.Rows L2 Ind RowK
theorem opK_nn {cs : List Col} (nn : ∀ p ∈ cs, kNN p.2) {o : Op} {k : Cd} (h : opK cs o = some k) : kNN k := by
  cases o with
  | num i =>
    have h : some (Cd.n (if 0 ≤ i then i else -i)) = some k := h
    cases h
    show 0 ≤ (if 0 ≤ i then i else -i)
    split <;> omega
  | txt x => cases h; trivial
  | col n => exact nn _ (colK_mem h)
theorem sumK_nn {cs : List Col} (nn : ∀ p ∈ cs, kNN p.2) : ∀ {e : Ex} {b : Int}, sumK cs e = some b → 0 ≤ b
  | [], b, h => by
    have h : some (0 : Int) = some b := h
    cases h
    exact Int.le_refl 0
  | t :: e, b, h => by
    unfold sumK at h
    cases h1 : opK cs t.2 with
    | none => rw [h1] at h; cases h
    | some k =>
      rw [h1] at h
      have k0 := opK_nn nn h1
      cases k with
      | s => cases h
      | n a =>
        cases h2 : sumK cs e with
        | none => rw [h2] at h; cases h
        | some b2 =>
          rw [h2] at h
          have h : some (a + b2) = some b := h
          cases h
          have := sumK_nn nn h2
          have k0 : 0 ≤ a := k0
          omega
theorem exK_nn {cs : List Col} (nn : ∀ p ∈ cs, kNN p.2) {e : Ex} {k : Cd} (h : exK cs e = some k) : kNN k := by
  have multi : ∀ e : Ex, (match sumK cs e with | some b => if b ≤ 1000000000000 then some (Cd.n b) else none | none => none) = some k → kNN k := fun e h => by
    cases h1 : sumK cs e with
    | none => rw [h1] at h; cases h
    | some b =>
      rw [h1] at h
      dsimp only at h
      split at h
      · cases h; exact sumK_nn nn h1
      · cases h
  match e, h with
  | [], h => exact multi [] h
  | [t], h => exact opK_nn nn h
  | t :: u :: e, h => exact multi (t :: u :: e) h
theorem agKd_nn {cs : List Col} (nn : ∀ p ∈ cs, kNN p.2) {m : Int} (m0 : 0 ≤ m) {a : Ag} {k : Cd} (h : agKd cs m a = some k) : kNN k := by
  cases a with
  | cnt n =>
    have h : some (Cd.n m) = some k := h
    cases h
    exact m0
  | su n x =>
    have h : (match colK cs x with | some (.n b) => some (Cd.n (b * m)) | _ => none) = some k := h
    cases hx : colK cs x with
    | none => rw [hx] at h; cases h
    | some k2 =>
      rw [hx] at h
      cases k2 with
      | s => cases h
      | n b =>
        cases h
        have b0 : 0 ≤ b := nn _ (colK_mem hx)
        exact Int.mul_nonneg b0 m0
  | mi n x => exact nn _ (colK_mem h)
  | ma n x => exact nn _ (colK_mem h)
theorem grpd_mem {g : List Cell → List Cell} {rs : List (List Cell)} {p : List Cell × List (List Cell)} (h : p ∈ grpd g rs) : (∃ r ∈ rs, g r = p.1) ∧ p.2 ≠ [] ∧ p.2.length ≤ rs.length ∧ ∀ q ∈ p.2, q ∈ rs ∧ g q = p.1 := by
  obtain ⟨k, hk, rfl⟩ := List.mem_map.mp h
  obtain ⟨r, hr, e⟩ := List.mem_map.mp (onc_mem0.mp hk)
  refine ⟨⟨r, hr, e⟩, fun z => ?_, List.length_filter_le _ _, fun q hq => ?_⟩
  · have : r ∈ rs.filter fun q => memB (g q) [k] := List.mem_filter.mpr ⟨hr, memB_iff.mpr (List.mem_singleton.mpr e)⟩
    have z : (rs.filter fun q => memB (g q) [k]) = [] := z
    rw [z] at this
    cases this
  · obtain ⟨h1, h2⟩ := List.mem_filter.mp hq
    exact ⟨h1, List.mem_singleton.mp (memB_iff.mp h2)⟩
theorem grpd_len (g : List Cell → List Cell) (rs : List (List Cell)) : (grpd g rs).length ≤ rs.length := by
  unfold grpd
  rw [List.length_map]
  have := onc_le (rs.map g) []
  simp at this
  omega
def qyS : Qy → Prop
  | .nm _ => True
  | .whr q _ => qyS q
  | .sel q its => qyS q ∧ its ≠ [] ∧ ∀ p ∈ its, exS p.2
  | .grp q _ as => qyS q ∧ as ≠ []
  | .two _ p q => qyS p ∧ qyS q
theorem sel_sound {cs ds : List Col} {m : Int} {its : List It8} {r : Rl} {s : Shp} (H : ShOk cs m) (R : RlOk cs m r) (h : selK cs its [] = some ds) (h2 : sized ds m = some s) (i0 : its ≠ []) (hs : ∀ p ∈ its, exS p.2) : ShOk s.1 s.2 ∧ RlOk s.1 s.2 (its.map (·.1), stR (r.2.map (selR r.1 its))) := by
  obtain ⟨rfl, _, hb⟩ := sized_some h2
  obtain ⟨nd, news, e1, en, hk⟩ := gK_ex h List.nodup_nil
  have e1 : ds = news := e1
  subst e1
  have nn : ∀ q ∈ ds, kNN q.2 := fun q hq => by
    obtain ⟨i, hi, e⟩ := List.mem_iff_getElem.mp hq
    have el := congrArg List.length en
    rw [List.length_map, List.length_map] at el
    have := hk i its[i] q (List.getElem?_eq_getElem (by omega)) (by rw [List.getElem?_eq_getElem hi, e])
    exact exK_nn H.nn this
  refine ⟨⟨nd, fun z => i0 ?_, nn, hb, H.m0⟩, ⟨en.symm, fun x hx => ?_, stR_srt _, stR_nd _, ?_⟩⟩
  · have el := congrArg List.length en
    have z : ds = [] := z
    rw [List.length_map, List.length_map, z] at el
    exact List.eq_nil_of_length_eq_zero el.symm
  · obtain ⟨y, hy, rfl⟩ := List.mem_map.mp (stR_mem.mp hx)
    rw [R.nm]
    exact sel_fit (R.fit y hy) H.nd en hk hs hb
  · have a := stR_len (r.2.map (selR r.1 its))
    rw [List.length_map] at a
    have b := R.len
    show ((stR _).length : Int) ≤ m
    omega
theorem grp_sound {cs found ds : List Col} {m : Int} {ks : List Tx} {as : List Ag} {r : Rl} {s : Shp} (H : ShOk cs m) (R : RlOk cs m r) (h : keyK cs ks [] = some found) (h1 : aggK cs m as found = some ds) (h2 : sized ds m = some s) (a0 : as ≠ []) : ShOk s.1 s.2 ∧ RlOk s.1 s.2 (ks ++ as.map Ag.nm, stR (madeR ks r.1 as r.2)) := by
  obtain ⟨rfl, _, hb⟩ := sized_some h2
  obtain ⟨nd1, nk, e1, en1, hk1⟩ := gK_ex h List.nodup_nil
  have e1 : found = nk := e1
  subst e1
  obtain ⟨nd, na, rfl, en, hk⟩ := gK_ex h1 nd1
  have en1 : found.map (·.1) = ks := by rw [en1, List.map_id']
  have fm : ∀ q ∈ found, q ∈ cs := fun q hq => by
    obtain ⟨i, hi, e⟩ := List.mem_iff_getElem.mp hq
    have el := congrArg List.length en1
    rw [List.length_map] at el
    have ek : ks[i]? = some q.1 := by
      rw [← en1, List.getElem?_map, List.getElem?_eq_getElem hi, e]
      rfl
    have := hk1 i q.1 q ek (by rw [List.getElem?_eq_getElem hi, e])
    exact colK_mem this
  have ela : na.length = as.length := by
    have := congrArg List.length en
    rwa [List.length_map, List.length_map] at this
  have nn : ∀ q ∈ found ++ na, kNN q.2 := fun q hq => by
    rcases List.mem_append.mp hq with hq | hq
    · exact H.nn q (fm q hq)
    · obtain ⟨i, hi, e⟩ := List.mem_iff_getElem.mp hq
      have := hk i as[i] q (List.getElem?_eq_getElem (by omega)) (by rw [List.getElem?_eq_getElem hi, e])
      exact agKd_nn H.nn H.m0 this
  have rl := R.len
  refine ⟨⟨nd, fun z => a0 ?_, nn, hb, H.m0⟩, ⟨by rw [List.map_append, en1, en], fun x hx => ?_, stR_srt _, stR_nd _, ?_⟩⟩
  · have : na = [] := (List.append_eq_nil_iff.mp z).2
    rw [this] at ela
    exact List.eq_nil_of_length_eq_zero ela.symm
  · obtain ⟨p, hp, rfl⟩ := List.mem_map.mp (stR_mem.mp hx)
    obtain ⟨⟨y, hy, ey⟩, p0, pl, pm⟩ := grpd_mem hp
    refine fit_app ?_ ?_
    · rw [← ey]
      unfold keyN
      rw [pickR_at, R.nm, ← en1]
      exact pick_fit (R.fit y hy) H.nd fm
    · refine ⟨by rw [List.length_map]; exact ela.symm, fun i c q e1 e2 => ?_⟩
      rw [List.getElem?_map] at e1
      cases e : as[i]? with
      | none => rw [e] at e1; cases e1
      | some a =>
        rw [e] at e1
        have e1 : some (a.val r.1 p.2) = some c := e1
        cases e1
        rw [R.nm]
        exact agg_fit (hk i a q e e2) H.nd H.nn (fun z hz => R.fit z (pm z hz).1) p0 (by omega) (hb q (List.mem_append_right _ (List.mem_of_getElem? e2)))
  · have a := stR_len (madeR ks r.1 as r.2)
    have b : (madeR ks r.1 as r.2).length ≤ r.2.length := by
      unfold madeR
      rw [List.length_map]
      exact grpd_len _ _
    show ((stR _).length : Int) ≤ m
    omega
end Va
set_option Elab.async false
set_option linter.all false
set_option maxRecDepth 100000
set_option maxHeartbeats 4000000
namespace Va
open PySem PySem.Spec PyProof.Rows L2 Ind RowK
theorem max_fit {a b : Cd} {c : Cell} (hw : b.w = a.w) (big : bigK (maxK a b) = false) (h : cellFit a c ∨ cellFit b c) : cellFit (maxK a b) c := by
  cases a with
  | s =>
    cases b with
    | s => rcases h with h | h <;> exact h
    | n b => exact absurd (show ("integer" : Tx) = "string" from hw) (by decide)
  | n a =>
    cases b with
    | s => exact absurd (show ("string" : Tx) = "integer" from hw) (by decide)
    | n b =>
      cases c with
      | inr x => rcases h with h | h <;> exact h.elim
      | inl i =>
        have big : decide (1000000000000 < (if b ≤ a then a else b)) = false := big
        have big := of_decide_eq_false big
        show -(if b ≤ a then a else b) ≤ i ∧ i ≤ (if b ≤ a then a else b) ∧ (if b ≤ a then a else b) ≤ 1000000000000
        rcases h with ⟨h1, h2, _⟩ | ⟨h1, h2, _⟩
        · split at big <;> simp_all <;> omega
        · split at big <;> simp_all <;> omega
theorem max_nn {a b : Cd} (h1 : kNN a) (h2 : kNN b) : kNN (maxK a b) := by
  cases a with
  | s => exact trivial
  | n a =>
    cases b with
    | s => exact h1
    | n b =>
      have h1 : 0 ≤ a := h1
      have h2 : 0 ≤ b := h2
      show 0 ≤ (if b ≤ a then a else b)
      split <;> omega
theorem filt_ok {cs : List Col} {m : Int} {r : Rl} (R : RlOk cs m r) (f : List Cell → Bool) : RlOk cs m (r.1, r.2.filter f) := by
  have := List.length_filter_le f r.2
  have l := R.len
  exact ⟨R.nm, fun x hx => R.fit x (List.mem_filter.mp hx).1, List.Pairwise.filter _ R.srt, R.nd.filter _, by show ((r.2.filter f).length : Int) ≤ m; omega⟩
theorem two_sound {w : Tw} {cs ds : List Col} {m n : Int} {r q : Rl} {s : Shp} (H : ShOk cs m) (R : RlOk cs m r) (G : ShOk ds n) (Q : RlOk ds n q) (h : twoK w cs m ds n = some s) : ShOk s.1 s.2 ∧ RlOk s.1 s.2 (joinR w r.1 q.1 r.2 q.2) := by
  have rl := R.len
  have ql := Q.len
  cases w with
  | uni =>
    have h : (if (ds.map fun p => (p.1, p.2.w)) = (cs.map fun p => (p.1, p.2.w)) then sized ((cs.zip ds).map fun p => (p.1.1, maxK p.1.2 p.2.2)) (m + n) else none) = some s := h
    split at h
    · rename_i e
      obtain ⟨rfl, _, hb⟩ := sized_some h
      have el : ds.length = cs.length := by
        have := congrArg List.length e
        rwa [List.length_map, List.length_map] at this
      have same : ∀ (i : Nat) (p q : Col), cs[i]? = some p → ds[i]? = some q → q.1 = p.1 ∧ q.2.w = p.2.w := fun i p q e1 e2 => by
        have := congrArg (fun l => l[i]?) e
        rw [List.getElem?_map, List.getElem?_map, e1, e2] at this
        have : some (q.1, q.2.w) = some (p.1, p.2.w) := this
        injection this with this
        injection this with a b
        exact ⟨a, b⟩
      have zg : ∀ (i : Nat) (z : Col), ((cs.zip ds).map fun p => (p.1.1, maxK p.1.2 p.2.2))[i]? = some z → ∃ p q, cs[i]? = some p ∧ ds[i]? = some q ∧ z = (p.1, maxK p.2 q.2) := fun i z e => by
        obtain ⟨p, ep, e2⟩ := map_get e
        obtain ⟨e3, e4⟩ := List.getElem?_zip_eq_some.mp ep
        exact ⟨p.1, p.2, e3, e4, e2⟩
      have en0 : ∀ zs : List Col, zs = ((cs.zip ds).map fun p => (p.1.1, maxK p.1.2 p.2.2)) → zs.map (·.1) = cs.map (·.1) := fun zs ez => by
        apply List.ext_getElem?
        intro i
        rw [List.getElem?_map, List.getElem?_map]
        cases e1 : cs[i]? with
        | none =>
          have : zs[i]? = none := by
            rw [ez]
            rw [List.getElem?_eq_none_iff] at e1 ⊢
            rw [List.length_map, List.length_zip]
            omega
          rw [this, Option.map_none]
        | some p =>
          have hi := (List.getElem?_eq_some_iff.mp e1).1
          have hz : i < zs.length := by rw [ez, List.length_map, List.length_zip]; omega
          obtain ⟨p2, q2, e3, e4, e5⟩ := zg i zs[i] (by rw [← ez]; exact List.getElem?_eq_getElem hz)
          rw [List.getElem?_eq_getElem hz, e5]
          rw [e1] at e3
          cases e3
          rfl
      have en := en0 _ rfl
      have lz : ((cs.zip ds).map fun p => ((p.1.1, maxK p.1.2 p.2.2) : Col)).length = cs.length := by rw [List.length_map, List.length_zip]; omega
      refine ⟨⟨by show (List.map _ _).Nodup; rw [en]; exact H.nd, fun z => H.ne ?_, fun z hz => ?_, hb, by have := H.m0; have := G.m0; show 0 ≤ m + n; omega⟩, ⟨by show r.1 = _; rw [en]; exact R.nm, fun x hx => ?_, stR_srt _, stR_nd _, ?_⟩⟩
      · have z := congrArg List.length z
        have z : ((cs.zip ds).map fun p => ((p.1.1, maxK p.1.2 p.2.2) : Col)).length = 0 := z
        exact List.eq_nil_of_length_eq_zero (by omega)
      · obtain ⟨i, hi, e1⟩ := List.mem_iff_getElem.mp hz
        obtain ⟨p, q, e3, e4, rfl⟩ := zg i z (by rw [List.getElem?_eq_getElem hi, e1])
        exact max_nn (H.nn p (List.mem_of_getElem? e3)) (G.nn q (List.mem_of_getElem? e4))
      · have key : ∀ x : List Cell, x.length = cs.length → (∀ (i : Nat) (c : Cell) (p q : Col), x[i]? = some c → cs[i]? = some p → ds[i]? = some q → cellFit p.2 c ∨ cellFit q.2 c) → rowFit ((cs.zip ds).map fun p => (p.1.1, maxK p.1.2 p.2.2)) x := fun x hl hx => by
          refine ⟨by rw [lz]; exact hl, fun i c z e1 e2 => ?_⟩
          obtain ⟨p, q, e3, e4, rfl⟩ := zg i z e2
          exact max_fit (same i p q e3 e4).2 (hb _ (List.mem_of_getElem? e2)) (hx i c p q e1 e3 e4)
        rcases List.mem_append.mp (stR_mem.mp hx) with hx | hx
        · have f := R.fit x hx
          exact key x f.1 fun i c p q e1 e2 _ => .inl (f.2 i c p e1 e2)
        · have f := Q.fit x hx
          exact key x (by rw [f.1, el]) fun i c p q e1 _ e2 => .inr (f.2 i c q e1 e2)
      · have a := stR_len (r.2 ++ q.2)
        rw [List.length_append] at a
        show ((stR _).length : Int) ≤ m + n
        omega
    · cases h
  | mnu =>
    have h : (if (ds.map fun p => (p.1, p.2.w)) = (cs.map fun p => (p.1, p.2.w)) then some (cs, m) else none) = some s := h
    split at h
    · cases h
      exact ⟨H, filt_ok R _⟩
    · cases h
  | joi =>
    have h : (if ds.all (fun p => match colK cs p.1 with | some k => decide (k.w = p.2.w) | none => true) then sized (cs ++ ds.filter fun p => !memB p.1 (cs.map (·.1))) (m * n) else none) = some s := h
    split at h
    · obtain ⟨rfl, _, hb⟩ := sized_some h
      have ef : furth r.1 q.1 = (ds.filter fun p => !memB p.1 (cs.map (·.1))).map (·.1) := by
        unfold furth
        rw [Q.nm, R.nm, List.filter_map]
        rfl
      have em : ∀ p ∈ ds.filter (fun p => !memB p.1 (cs.map (·.1))), p ∈ ds := fun p hp => (List.mem_filter.mp hp).1
      have mn : 0 ≤ m * n := Int.mul_nonneg H.m0 G.m0
      refine ⟨⟨?_, fun z => H.ne (List.append_eq_nil_iff.mp z).1, fun p hp => ?_, hb, mn⟩, ⟨by show r.1 ++ furth r.1 q.1 = List.map _ (_ ++ _); rw [List.map_append, ← ef, R.nm], fun x hx => ?_, stR_srt _, stR_nd _, ?_⟩⟩
      · show (List.map _ (_ ++ _)).Nodup
        rw [List.map_append]
        refine List.nodup_append.mpr ⟨H.nd, (List.filter_sublist.map _).nodup G.nd, fun a ha b hb e => ?_⟩
        obtain ⟨p, hp, rfl⟩ := List.mem_map.mp hb
        have := (List.mem_filter.mp hp).2
        rw [← e, memB_iff.mpr ha] at this
        cases this
      · rcases List.mem_append.mp hp with hp | hp
        · exact H.nn p hp
        · exact G.nn p (em p hp)
      · obtain ⟨y, hy, z, hz, _, rfl⟩ := mem_joined.mp (stR_mem.mp hx)
        refine fit_app (R.fit y hy) ?_
        rw [ef, Q.nm]
        exact pick_fit (Q.fit z hz) G.nd em
      · have a := stR_len (joined r.1 q.1 r.2 q.2)
        have b := joined_len (ns := r.1) (ms := q.1) (rs := r.2) (qs := q.2)
        have c : (r.2.length : Int) * (q.2.length : Int) ≤ m * n := Int.mul_le_mul rl ql (by omega) H.m0
        have d : ((r.2.length * q.2.length : Nat) : Int) = (r.2.length : Int) * (q.2.length : Int) := Int.natCast_mul _ _
        show ((stR _).length : Int) ≤ m * n
        omega
    · cases h
  | mat =>
    have h : (if ds.all (fun p => match colK cs p.1 with | some k => decide (k.w = p.2.w) | none => true) then some (cs, m) else none) = some s := h
    split at h
    · cases h
      exact ⟨H, filt_ok R _⟩
    · cases h
  | wou =>
    have h : (if ds.all (fun p => match colK cs p.1 with | some k => decide (k.w = p.2.w) | none => true) then some (cs, m) else none) = some s := h
    split at h
    · cases h
      exact ⟨H, filt_ok R _⟩
    · cases h
def ShsOk (sh : List (Tx × Shp)) (rl : List (Tx × Rl)) : Prop := ∀ (x : Tx) (s : Shp), (sh.find? fun p => decide (p.1 = x)).map (·.2) = some s → ShOk s.1 s.2 ∧ ∃ r, (rl.find? fun p => decide (p.1 = x)).map (·.2) = some r ∧ RlOk s.1 s.2 r
theorem sound {sh : List (Tx × Shp)} {rl : List (Tx × Rl)} (hs : ShsOk sh rl) : ∀ (q : Qy) (s : Shp), tyQ sh q = some s → qyS q → ShOk s.1 s.2 ∧ RlOk s.1 s.2 (ansR rl q)
  | .nm x, s, h, _ => by
    obtain ⟨a, r, e, b⟩ := hs x s h
    refine ⟨a, ?_⟩
    show RlOk s.1 s.2 (((rl.find? fun p => decide (p.1 = x)).map (·.2)).getD ([], []))
    rw [e]
    exact b
  | .whr q F, s, h, hq => by
    have h : (match tyQ sh q with | some (cs, m) => if fmK cs F = true then some (cs, m) else none | none => none) = some s := h
    cases e : tyQ sh q with
    | none => rw [e] at h; cases h
    | some t =>
      obtain ⟨cs, m⟩ := t
      rw [e] at h
      dsimp only at h
      split at h
      · cases h
        obtain ⟨a, b⟩ := sound hs q _ e hq
        exact ⟨a, filt_ok b _⟩
      · cases h
  | .sel q its, s, h, hq => by
    have h : (match tyQ sh q with | some (cs, m) => (match selK cs its [] with | some ds => sized ds m | none => none) | none => none) = some s := h
    cases e : tyQ sh q with
    | none => rw [e] at h; cases h
    | some t =>
      obtain ⟨cs, m⟩ := t
      rw [e] at h
      dsimp only at h
      obtain ⟨a, b⟩ := sound hs q _ e hq.1
      cases e2 : selK cs its [] with
      | none => rw [e2] at h; cases h
      | some ds =>
        rw [e2] at h
        exact sel_sound a b e2 h hq.2.1 hq.2.2
  | .grp q ks as, s, h, hq => by
    have h : (match tyQ sh q with | some (cs, m) => (match keyK cs ks [] with | some found => (match aggK cs m as found with | some ds => sized ds m | none => none) | none => none) | none => none) = some s := h
    cases e : tyQ sh q with
    | none => rw [e] at h; cases h
    | some t =>
      obtain ⟨cs, m⟩ := t
      rw [e] at h
      dsimp only at h
      obtain ⟨a, b⟩ := sound hs q _ e hq.1
      cases e2 : keyK cs ks [] with
      | none => rw [e2] at h; cases h
      | some found =>
        rw [e2] at h
        dsimp only at h
        cases e3 : aggK cs m as found with
        | none => rw [e3] at h; cases h
        | some ds =>
          rw [e3] at h
          exact grp_sound a b e2 e3 h hq.2
  | .two w p q, s, h, hq => by
    have h : (match tyQ sh p, tyQ sh q with | some (cs, m), some (ds, n) => twoK w cs m ds n | _, _ => none) = some s := h
    cases e : tyQ sh p with
    | none => rw [e] at h; cases h
    | some t =>
      obtain ⟨cs, m⟩ := t
      rw [e] at h
      cases e2 : tyQ sh q with
      | none => rw [e2] at h; cases h
      | some u =>
        obtain ⟨ds, n⟩ := u
        rw [e2] at h
        dsimp only at h
        obtain ⟨a, b⟩ := sound hs p _ e hq.1
        obtain ⟨c, d⟩ := sound hs q _ e2 hq.2
        exact two_sound a b c d h
end Va
set_option Elab.async false
set_option linter.all false
set_option maxRecDepth 100000
set_option maxHeartbeats 4000000
namespace Va
open PySem PySem.Spec PyProof.Rows L2 Ind RowK
def Qy.wid : Qy → Nat
  | .nm _ => 4
  | .whr q _ => q.wid
  | .sel _ its => its.length
  | .grp _ ks as => ks.length + as.length
  | .two .joi p q => p.wid + q.wid
  | .two _ p _ => p.wid
def ShsS (sh : List (Tx × Shp)) : Prop := ∀ (x : Tx) (s : Shp), (sh.find? fun p => decide (p.1 = x)).map (·.2) = some s → s.1.length ≤ 4 ∧ s.2 ≤ 3000
theorem RlOk.rel {cs : List Col} {m : Int} {r : Rl} (R : RlOk cs m r) (H : ShOk cs m) (few : cs.length ≤ 100) : RelOk r.1 r.2 := by
  refine ⟨by rw [R.nm]; exact H.nd, fun z => H.ne ?_, by rw [R.nm, List.length_map]; exact few, fun x hx => by rw [R.nm, List.length_map]; exact (R.fit x hx).1, fun x hx => (R.fit x hx).rok⟩
  rw [R.nm] at z
  exact List.map_eq_nil_iff.mp z
end Va
set_option Elab.async false
set_option linter.all false
set_option maxRecDepth 100000
set_option maxHeartbeats 4000000
namespace Va
open PySem PySem.Spec PyProof.Rows L2 Ind RowK
theorem inv_whr {sh : List (Tx × Shp)} {q : Qy} {F : Fm} {s : Shp} (h : tyQ sh (.whr q F) = some s) : tyQ sh q = some s ∧ fmK s.1 F = true := by
  have h : (match tyQ sh q with | some (cs, m) => if fmK cs F = true then some (cs, m) else none | none => none) = some s := h
  cases e : tyQ sh q with
  | none => rw [e] at h; cases h
  | some t =>
    obtain ⟨cs, m⟩ := t
    rw [e] at h
    dsimp only at h
    split at h
    · rename_i hf
      cases h
      exact ⟨rfl, hf⟩
    · cases h
theorem inv_sel {sh : List (Tx × Shp)} {q : Qy} {its : List It8} {s : Shp} (h : tyQ sh (.sel q its) = some s) : ∃ t ds, tyQ sh q = some t ∧ selK t.1 its [] = some ds ∧ sized ds t.2 = some s := by
  have h : (match tyQ sh q with | some (cs, m) => (match selK cs its [] with | some ds => sized ds m | none => none) | none => none) = some s := h
  cases e : tyQ sh q with
  | none => rw [e] at h; cases h
  | some t =>
    obtain ⟨cs, m⟩ := t
    rw [e] at h
    dsimp only at h
    cases e2 : selK cs its [] with
    | none => rw [e2] at h; cases h
    | some ds =>
      rw [e2] at h
      exact ⟨_, ds, rfl, e2, h⟩
theorem inv_grp {sh : List (Tx × Shp)} {q : Qy} {ks : List Tx} {as : List Ag} {s : Shp} (h : tyQ sh (.grp q ks as) = some s) : ∃ t found ds, tyQ sh q = some t ∧ keyK t.1 ks [] = some found ∧ aggK t.1 t.2 as found = some ds ∧ sized ds t.2 = some s := by
  have h : (match tyQ sh q with | some (cs, m) => (match keyK cs ks [] with | some found => (match aggK cs m as found with | some ds => sized ds m | none => none) | none => none) | none => none) = some s := h
  cases e : tyQ sh q with
  | none => rw [e] at h; cases h
  | some t =>
    obtain ⟨cs, m⟩ := t
    rw [e] at h
    dsimp only at h
    cases e2 : keyK cs ks [] with
    | none => rw [e2] at h; cases h
    | some found =>
      rw [e2] at h
      dsimp only at h
      cases e3 : aggK cs m as found with
      | none => rw [e3] at h; cases h
      | some ds =>
        rw [e3] at h
        exact ⟨_, found, ds, rfl, e2, e3, h⟩
theorem inv_two {sh : List (Tx × Shp)} {w : Tw} {p q : Qy} {s : Shp} (h : tyQ sh (.two w p q) = some s) : ∃ t u, tyQ sh p = some t ∧ tyQ sh q = some u ∧ twoK w t.1 t.2 u.1 u.2 = some s := by
  have h : (match tyQ sh p, tyQ sh q with | some (cs, m), some (ds, n) => twoK w cs m ds n | _, _ => none) = some s := h
  cases e : tyQ sh p with
  | none => rw [e] at h; cases h
  | some t =>
    obtain ⟨cs, m⟩ := t
    rw [e] at h
    cases e2 : tyQ sh q with
    | none => rw [e2] at h; cases h
    | some u =>
      obtain ⟨ds, n⟩ := u
      rw [e2] at h
      exact ⟨_, _, rfl, rfl, h⟩
end Va
set_option Elab.async false
set_option linter.all false
set_option maxRecDepth 100000
set_option maxHeartbeats 4000000
namespace Va
open PySem PySem.Spec PyProof.Rows L2 Ind RowK
def tD (x : Tx) : Prop := tOk x ∧ nL x
structure CsW (cs : List Col) : Prop where
  nd : (cs.map (·.1)).Nodup
  tk : ∀ p ∈ cs, tOk p.1
  nn : ∀ p ∈ cs, kNN p.2
  sm : ∀ p ∈ cs, bigK p.2 = false
  len : cs.length ≤ 100
  tl : ∀ p ∈ cs, p.1.length ≤ 20
structure CsOk (cs : List Col) : Prop where
  nd : (cs.map (·.1)).Nodup
  tk : ∀ p ∈ cs, tOk p.1
  nn : ∀ p ∈ cs, kNN p.2
  sm : ∀ p ∈ cs, bigK p.2 = false
  len : cs.length ≤ 100
  tl : ∀ p ∈ cs, nL p.1
end Va
set_option Elab.async false
set_option linter.all false
set_option maxRecDepth 100000
set_option maxHeartbeats 4000000
namespace Va
open PySem PySem.Spec PyProof.Rows L2 Ind RowK
def Qy.named : Qy → List Tx
  | .nm x => [x]
  | .whr q _ => q.named
  | .sel q _ => q.named
  | .grp q _ _ => q.named
  | .two _ p q => p.named ++ q.named
def Qy.sides : Qy → List Tx × List Tx
  | .nm x => ([x], [])
  | .whr q _ => q.sides
  | .sel q _ => q.sides
  | .grp q _ _ => (q.named, q.named)
  | .two .mnu p q => (p.sides.1 ++ q.sides.2, p.sides.2 ++ q.sides.1)
  | .two .wou p q => (p.sides.1 ++ q.sides.2, p.sides.2 ++ q.sides.1)
  | .two _ p q => (p.sides.1 ++ q.sides.1, p.sides.2 ++ q.sides.2)
def getR (rl : List (Tx × Rl)) (x : Tx) : Rl := ((rl.find? fun p => decide (p.1 = x)).map (·.2)).getD ([], [])
def leR (rl rl' : List (Tx × Rl)) (x : Tx) : Prop := ∀ r ∈ (getR rl x).2, r ∈ (getR rl' x).2
theorem sides_named : ∀ (q : Qy) (x : Tx), x ∈ q.sides.1 ∨ x ∈ q.sides.2 → x ∈ q.named
  | .nm y, x, h => by
    rcases h with h | h
    · exact h
    · cases h
  | .whr q _, x, h => sides_named q x h
  | .sel q _, x, h => sides_named q x h
  | .grp q _ _, x, h => by rcases h with h | h <;> exact h
  | .two w p q, x, h => by
    have ip := sides_named p x
    have iq := sides_named q x
    show x ∈ p.named ++ q.named
    rw [List.mem_append]
    cases w <;> (simp only [Qy.sides, List.mem_append] at h; rcases h with (h | h) | (h | h) <;> first | exact .inl (ip (.inl h)) | exact .inl (ip (.inr h)) | exact .inr (iq (.inl h)) | exact .inr (iq (.inr h)))
theorem mono {sh : List (Tx × Shp)} : ∀ (q : Qy) (s : Shp) (rl rl' : List (Tx × Rl)), ShsOk sh rl → ShsOk sh rl' → tyQ sh q = some s → qyS q → (∀ x ∈ q.sides.1, leR rl rl' x) → (∀ x ∈ q.sides.2, leR rl' rl x) → ∀ r ∈ (ansR rl q).2, r ∈ (ansR rl' q).2
  | .nm x, s, rl, rl', hs, hs', ht, hq, hp, hn, r, hr => hp x (List.mem_singleton.mpr rfl) r hr
  | .whr q F, s, rl, rl', hs, hs', ht, hq, hp, hn, r, hr => by
    obtain ⟨et, _⟩ := inv_whr ht
    obtain ⟨_, R⟩ := sound hs q _ et hq
    obtain ⟨_, R'⟩ := sound hs' q _ et hq
    have hr : r ∈ (ansR rl q).2.filter fun r => F.tr (ansR rl q).1 (r.map cellD) := hr
    show r ∈ (ansR rl' q).2.filter fun r => F.tr (ansR rl' q).1 (r.map cellD)
    rw [R.nm] at hr
    rw [R'.nm]
    obtain ⟨a, b⟩ := List.mem_filter.mp hr
    exact List.mem_filter.mpr ⟨mono q s rl rl' hs hs' et hq hp hn r a, b⟩
  | .sel q its, s, rl, rl', hs, hs', ht, hq, hp, hn, r, hr => by
    obtain ⟨t, ds, et, _, _⟩ := inv_sel ht
    obtain ⟨_, R⟩ := sound hs q _ et hq.1
    obtain ⟨_, R'⟩ := sound hs' q _ et hq.1
    have hr : r ∈ stR ((ansR rl q).2.map (selR (ansR rl q).1 its)) := hr
    show r ∈ stR ((ansR rl' q).2.map (selR (ansR rl' q).1 its))
    rw [R.nm] at hr
    rw [R'.nm]
    obtain ⟨y, hy, e⟩ := List.mem_map.mp (stR_mem.mp hr)
    exact stR_mem.mpr (List.mem_map.mpr ⟨y, mono q t rl rl' hs hs' et hq.1 hp hn y hy, e⟩)
  | .grp q ks as, s, rl, rl', hs, hs', ht, hq, hp, hn, r, hr => by
    obtain ⟨t, found, ds, et, _, _, _⟩ := inv_grp ht
    obtain ⟨_, R⟩ := sound hs q _ et hq.1
    obtain ⟨_, R'⟩ := sound hs' q _ et hq.1
    have hp : ∀ x ∈ q.named, leR rl rl' x := hp
    have hn : ∀ x ∈ q.named, leR rl' rl x := hn
    have s1 := fun x h => sides_named q x (.inl h)
    have s2 := fun x h => sides_named q x (.inr h)
    have same : (ansR rl q).2 = (ansR rl' q).2 := srtR_one R.srt R'.srt ((List.perm_ext_iff_of_nodup R.nd R'.nd).mpr fun a => ⟨mono q t rl rl' hs hs' et hq.1 (fun x h => hp x (s1 x h)) (fun x h => hn x (s2 x h)) a, mono q t rl' rl hs' hs et hq.1 (fun x h => hn x (s1 x h)) (fun x h => hp x (s2 x h)) a⟩)
    have hr : r ∈ stR (madeR ks (ansR rl q).1 as (ansR rl q).2) := hr
    show r ∈ stR (madeR ks (ansR rl' q).1 as (ansR rl' q).2)
    rw [R.nm, same] at hr
    rw [R'.nm]
    exact hr
  | .two w p q, s, rl, rl', hs, hs', ht, hq, hp, hn, r, hr => by
    obtain ⟨t, u, et, eu, _⟩ := inv_two ht
    obtain ⟨_, R⟩ := sound hs p _ et hq.1
    obtain ⟨_, R'⟩ := sound hs' p _ et hq.1
    obtain ⟨_, G⟩ := sound hs q _ eu hq.2
    obtain ⟨_, G'⟩ := sound hs' q _ eu hq.2
    have mp := mono p t rl rl' hs hs' et hq.1
    have mq := mono q u rl rl' hs hs' eu hq.2
    have mq' := mono q u rl' rl hs' hs eu hq.2
    have hr : r ∈ (joinR w (ansR rl p).1 (ansR rl q).1 (ansR rl p).2 (ansR rl q).2).2 := hr
    show r ∈ (joinR w (ansR rl' p).1 (ansR rl' q).1 (ansR rl' p).2 (ansR rl' q).2).2
    rw [R.nm, G.nm] at hr
    rw [R'.nm, G'.nm]
    generalize t.1.map (·.1) = ns at hr ⊢
    generalize u.1.map (·.1) = ms at hr ⊢
    cases w with
    | joi =>
      have mp := mp (fun x h => hp x (List.mem_append_left _ h)) (fun x h => hn x (List.mem_append_left _ h))
      have mq := mq (fun x h => hp x (List.mem_append_right _ h)) (fun x h => hn x (List.mem_append_right _ h))
      obtain ⟨a, ha, b, hb, ag, e⟩ := mem_joined.mp (stR_mem.mp hr)
      exact stR_mem.mpr (mem_joined.mpr ⟨a, mp a ha, b, mq b hb, ag, e⟩)
    | uni =>
      have mp := mp (fun x h => hp x (List.mem_append_left _ h)) (fun x h => hn x (List.mem_append_left _ h))
      have mq := mq (fun x h => hp x (List.mem_append_right _ h)) (fun x h => hn x (List.mem_append_right _ h))
      refine stR_mem.mpr ?_
      rcases List.mem_append.mp (stR_mem.mp hr) with h | h
      · exact List.mem_append_left _ (mp r h)
      · exact List.mem_append_right _ (mq r h)
    | mat =>
      have mp := mp (fun x h => hp x (List.mem_append_left _ h)) (fun x h => hn x (List.mem_append_left _ h))
      have mq := mq (fun x h => hp x (List.mem_append_right _ h)) (fun x h => hn x (List.mem_append_right _ h))
      obtain ⟨a, b⟩ := List.mem_filter.mp hr
      refine List.mem_filter.mpr ⟨mp r a, ?_⟩
      cases e : mates ns ms r (ansR rl q).2 with
      | nil => rw [e] at b; cases b
      | cons y l =>
        have hy : y ∈ mates ns ms r (ansR rl q).2 := by rw [e]; exact List.mem_cons_self
        obtain ⟨y1, y2⟩ := mem_mates.mp hy
        have hz := mem_mates.mpr (And.intro (mq y y1) y2)
        cases e2 : mates ns ms r (ansR rl' q).2 with
        | nil => rw [e2] at hz; cases hz
        | cons _ _ => rfl
    | mnu =>
      have mp := mp (fun x h => hp x (List.mem_append_left _ h)) (fun x h => hn x (List.mem_append_left _ h))
      have mq' := mq' (fun x h => hn x (List.mem_append_right _ h)) (fun x h => hp x (List.mem_append_right _ h))
      obtain ⟨a, b⟩ := List.mem_filter.mp hr
      refine List.mem_filter.mpr ⟨mp r a, ?_⟩
      cases e : memB r (ansR rl' q).2 with
      | false => rfl
      | true =>
        rw [memB_iff.mpr (mq' r (memB_iff.mp e))] at b
        cases b
    | wou =>
      have mp := mp (fun x h => hp x (List.mem_append_left _ h)) (fun x h => hn x (List.mem_append_left _ h))
      have mq' := mq' (fun x h => hn x (List.mem_append_right _ h)) (fun x h => hp x (List.mem_append_right _ h))
      obtain ⟨a, b⟩ := List.mem_filter.mp hr
      refine List.mem_filter.mpr ⟨mp r a, ?_⟩
      cases e : mates ns ms r (ansR rl' q).2 with
      | nil => rfl
      | cons y l =>
        have hy : y ∈ mates ns ms r (ansR rl' q).2 := by rw [e]; exact List.mem_cons_self
        obtain ⟨y1, y2⟩ := mem_mates.mp hy
        have hz := mem_mates.mpr (And.intro (mq' y y1) y2)
        cases e2 : mates ns ms r (ansR rl q).2 with
        | nil => rw [e2] at hz; cases hz
        | cons _ _ => rw [e2] at b; cases b
structure ShT (s : Shp) : Prop where
  ok : ShOk s.1 s.2
  len : s.1.length ≤ 4
  few : s.2 ≤ 3000
  tk : ∀ p ∈ s.1, tD p.1
def ShsT (sh : List (Tx × Shp)) : Prop := ∀ (x : Tx) (s : Shp), (sh.find? fun p => decide (p.1 = x)).map (·.2) = some s → ShT s
theorem ShsT.none {sh : List (Tx × Shp)} (T : ShsT sh) : ShsOk sh (sh.map fun p => (p.1, p.2.1.map (·.1), [])) := fun x s h => by
  refine ⟨(T x s h).ok, (s.1.map (·.1), []), ?_, ⟨rfl, (fun _ h => nomatch h), .nil, List.nodup_nil, (T x s h).ok.m0⟩⟩
  rw [List.find?_map]
  cases e : sh.find? fun p => decide (p.1 = x) with
  | none => rw [e] at h; cases h
  | some p =>
    rw [e] at h
    cases h
    have e2 : List.find? ((fun p : Tx × Rl => decide (p.1 = x)) ∘ fun p : Tx × Shp => (p.1, p.2.1.map (·.1), ([] : List (List Cell)))) sh = some p := e
    rw [e2]
    rfl
theorem ShsT.small {sh : List (Tx × Shp)} (T : ShsT sh) : ShsS sh := fun x s h => ⟨(T x s h).len, (T x s h).few⟩
end Va
set_option Elab.async false
set_option linter.all false
set_option maxRecDepth 100000
set_option maxHeartbeats 4000000
namespace Va
open PySem PySem.Spec PyProof.Rows L2 Ind RowK
def cwD (p : Col) : D := .tup [.str p.1, .str p.2.w]
end Va
set_option Elab.async false
set_option linter.all false
set_option maxRecDepth 100000
set_option maxHeartbeats 4000000
namespace Va
open PySem PySem.Spec PyProof.Rows L2 Ind RowK
def ShowsW (d : D) : Prop := SeqAt.shaped d.pd = true ∧ d.pd.showable = true ∧ d.pd.hasDict = false ∧ d.pd.depth ≤ 60 ∧ d.pd.shown.length ≤ 16000000
structure Sm16 (d : PyData) (k m : Nat) : Prop where
  lay : d.canLay0 = true
  sho : d.showable = true
  nod : d.hasDict = false
  dep : d.depth ≤ k
  leaf : d.leavesShort 16 = true
  bulk : d.bulk ≤ m
theorem Sm16.mono {d : PyData} {k m k' m' : Nat} (s : Sm16 d k m) (hk : k ≤ k') (hm : m ≤ m') : Sm16 d k' m' := ⟨s.lay, s.sho, s.nod, Nat.le_trans s.dep hk, s.leaf, Nat.le_trans s.bulk hm⟩
theorem Sm16.shows {d : D} {k m : Nat} (s : Sm16 d.pd k m) (hk : k ≤ 10) (hm : m ≤ 800000) : ShowsW d := by
  have h1 := PyData.shown_le_bulk 16 (by decide) d.pd s.leaf
  have h2 := s.bulk
  have h3 := s.dep
  refine ⟨?_, s.sho, s.nod, by omega, by omega⟩
  simp [SeqAt.shaped, s.lay]
  omega
section
variable {X : Cx} {S : Sg}
end
end Va
set_option Elab.async false
set_option linter.all false
set_option maxRecDepth 100000
set_option maxHeartbeats 4000000
namespace Va
open PySem PySem.Spec PyProof.Rows L2 Ind RowK
section
variable {α κ : Type} [DecidableEq κ]
end
end Va
set_option Elab.async false
set_option linter.all false
set_option maxRecDepth 100000
set_option maxHeartbeats 4000000
namespace Va
open PySem PySem.Spec PyProof.Rows L2 Ind RowK
section
variable {sh : List (Tx × Shp)} {rl : List (Tx × Rl)} {q o : Qy} {s u : Shp}
structure TwoOk (rl : List (Tx × Rl)) (q o : Qy) (cs ds : List Col) : Prop where
  n1 : (ansR rl q).1 = cs.map (·.1)
  n2 : (ansR rl o).1 = ds.map (·.1)
  d1 : (cs.map (·.1)).Nodup
  d2 : (ds.map (·.1)).Nodup
  l1 : ∀ r ∈ (ansR rl q).2, r.length = (cs.map (·.1)).length
  l2 : ∀ r ∈ (ansR rl o).2, r.length = (ds.map (·.1)).length
variable {cs ds : List Col} (W : TwoOk rl q o cs ds)
include W
omit W
include W
end
end Va
set_option Elab.async false
set_option linter.all false
set_option maxRecDepth 100000
set_option maxHeartbeats 4000000
namespace Va
open PySem PySem.Spec PyProof.Rows L2 Ind RowK
section
variable {ns ks fs : List Tx} {rs : List (List Cell)} {b : Bool} {y1 y2 : Tx}
end
end Va
set_option Elab.async false
set_option linter.all false
set_option maxRecDepth 100000
set_option maxHeartbeats 4000000
namespace Va
open PySem PySem.Spec PyProof.Rows L2 Ind RowK
section
variable {sh : List (Tx × Shp)} {q : Qy} {t : Shp}
end
end Va
set_option Elab.async false
set_option linter.all false
set_option maxRecDepth 100000
set_option maxHeartbeats 4000000
namespace Va
open PySem PySem.Spec PyProof.Rows L2 Ind RowK
end Va
set_option Elab.async false
set_option linter.all false
set_option maxRecDepth 100000
set_option maxHeartbeats 4000000
namespace Va
open PySem PySem.Spec PyProof.Rows L2 Ind RowK
section
variable {X : Cx} {S : Sg}
end
end Va
set_option Elab.async false
set_option linter.all false
set_option maxRecDepth 100000
set_option maxHeartbeats 4000000
namespace Va
open PySem PySem.Spec PyProof.Rows L2 Ind RowK
theorem putD_len (ds : List (Key × D)) (k : Key) (v : D) : (putD ds k v).length ≤ ds.length + 1 := by
  unfold putD
  split
  · rw [List.length_map]; omega
  · rw [List.length_append]; exact Nat.le_refl _
section
variable {X : Cx} {S : Sg}
def vDc (vi : VI) (g : VG) (c : VTT) (tk tv : VT) (vs : List Nat) : FT := fun E Q => vi E fun ds E1 => ds.length < 1000000 ∧ ∃ P : Nat → List (Key × D) → Nat → Prop, P 0 [] E1.c ∧
  (∀ i d acc k, ds[i]? = some d → P i acc k → acc.length ≤ i → g d (blkE ⟨E1.l, k⟩ vs) fun E2 => c E2 fun b E3 => (b = true → tk E3 fun kd E4 => tv E4 fun x E5 => ∃ ky : Key, kd = key ky ∧ P (i + 1) (putD acc ky x) E5.c) ∧ (b = false → P (i + 1) acc E3.c)) ∧
  ∀ acc k, P ds.length acc k → acc.length ≤ ds.length → Q (.fd acc) ⟨E1.l, k⟩
theorem dc_lift {vi : VI} {g : VG} {c : VTT} {tk tv : VT} {vs : List Nat} {σ : L2.St} {H : Hp} {Q : VK} (h : liftF S (vDc vi g c tk tv vs) σ H Q) : tDc (liftI S vi) (liftG S vs g) (liftT S c) (liftV S tk) (liftV S tv) vs σ H Q := by
  obtain ⟨Γ, E, Q0, ok, rp, ht, k⟩ := h
  refine ⟨Γ, E, _, ok, rp, ht, fun ds E1 ⟨hsz, P, p0, ps, pn⟩ J H1 kq1 rp1 it A nA => ?_⟩
  obtain ⟨frA, loA⟩ := rp1.fresh nA
  have sm0 := same_upd (o := .dK []) nA
  refine ⟨fun i m H' => m = ds.length - i ∧ i ≤ ds.length ∧ ∃ acc xs q, P i acc q ∧ acc.length ≤ i ∧ H' A = some (.dK xs) ∧ RpK Γ.K Γ.tp H' xs acc ∧ Kq H1 H' ∧ Rep Γ ⟨E1.l, q⟩ σ H', ⟨_, rfl, Nat.zero_le _, [], [], E1.c, p0, Nat.le_refl _, upd_same, .nil, Kq.same sm0, rp1.same sm0⟩, ?_⟩
  rintro i m H' ⟨rfl, hi, acc, xs, q0, pi, la, hA, hx, kq', rp'⟩
  by_cases hlt : i < ds.length
  · refine .inr ⟨it.go i H' hlt kq', fun H2 => i + 1 ≤ ds.length ∧ ∃ acc xs q, P (i + 1) acc q ∧ acc.length ≤ i + 1 ∧ H2 A = some (.dK xs) ∧ RpK Γ.K Γ.tp H2 xs acc ∧ Kq H1 H2 ∧ Rep Γ ⟨E1.l, q⟩ σ H2, fun H2 h => ⟨_, by omega, rfl, h⟩, fun x H2 y => ?_⟩
    obtain ⟨d, ed, rd, sm⟩ := it.yld i H' x H2 hlt kq' y
    have rp2 := rp'.same sm
    have okb : (Γ.blk H2).Ok S := ⟨ok.k, ok.b, ok.t⟩
    refine ⟨Γ.blk H2, blkE ⟨E1.l, q0⟩ vs, d, _, okb, rp2.enter.wipe vs, rd, ps i d acc q0 ed pi la, fun E2 q2 σ2 r2 o2 => ⟨wipe_only o2, ?_⟩⟩
    refine ⟨Γ.blk H2, E2, _, okb, r2, q2, fun b E3 q3 H3 kq3 r3 => ?_⟩
    have kq2 := kq'.trans (Kq.same sm)
    cases b with
    | true =>
      refine iteT ⟨Γ.blk H2, E3, _, okb, r3, q3.1 rfl, fun kd E4 q4 yk H4 kq4 r4 hy => ?_⟩
      refine ⟨Γ.blk H2, E4, _, okb, r4, q4, fun z E5 q5 v H5 kq5 r5 hv => ?_⟩
      obtain ⟨ky, rfl, q5⟩ := q5
      have ey : yk = kV ky := by
        cases ky with
        | inl n => cases hy; rfl
        | inr n => cases hy; rfl
      have hA5 : H5 A = some (.dK xs) := r5.base.ext A _ frA.nsp (by simp) (sm _ _ hA)
      have rpl := rp2.leave r5.base r5.few
      have kqu : Kq H5 (upd H5 A (.dK (putK xs ky v))) := Kq.upd hA5 trivial
      have kq5' := ((kq3.trans kq4).trans kq5)
      have hx5 : RpK Γ.K Γ.tp H5 xs acc := RpK.kq ((Kq.same sm).trans kq5') _ _ hx
      have el : xs.length = acc.length := by
        have := congrArg List.length hx5.keys
        rwa [List.length_map, List.length_map] at this
      refine ⟨xs, ky, ey, hA5, by rw [sizeLine_eq]; omega, hlt, putD acc ky z, putK xs ky v, E5.c, q5, by have := putD_len acc ky z; omega, upd_same, RpK.kq kqu _ _ (RpK.put hv hx5), (kq2.trans kq5').trans kqu, rpl.lone hA5 trivial frA loA⟩
    | false =>
      refine iteF ⟨hlt, acc, xs, E3.c, q3.2 rfl, by omega, r3.base.ext A _ frA.nsp (by simp) (sm _ _ hA), RpK.kq ((Kq.same sm).trans kq3) _ _ hx, kq2.trans kq3, rp2.leave r3.base r3.few⟩
  · have e : i = ds.length := by omega
    subst e
    exact .inl ⟨it.stop H' kq', k _ _ (pn acc q0 pi la) _ _ (kq1.trans kq') rp' ⟨A, rfl, ⟨A, xs, rfl, hA, hx, frA, fun z => (by cases z)⟩, loA⟩⟩
variable {kx vx tg iter : Expr} {ifs : List Expr} {scope : Scope} {own : List (PySem.Str × Nat)} {pos : Pos} {vi : VI} {g : VG} {c : VTT} {tk tv : VT}
theorem fe_dc (hc : X.calm = true) (hN : X.N.Nodup) (hi : VIt S X tg iter vi) (ok : BlkOk X.N X.env.scope scope own)
    (hg : ∀ (s : Shared) (H : Hp) (C : Addr) (cl : List (PySem.Str × Addr)) (fp : List Addr), PG (X.blk s H scope (compEnvC scope cl C X.env) fp) tg (liftG S (own.map (·.2)) g)) (ht : ∀ (s : Shared) (H : Hp) (C : Addr) (cl : List (PySem.Str × Addr)) (fp : List Addr), VTs S (X.blk s H scope (compEnvC scope cl C X.env) fp) ifs c)
    (hk : ∀ (s : Shared) (H : Hp) (C : Addr) (cl : List (PySem.Str × Addr)) (fp : List Addr), VE S (X.blk s H scope (compEnvC scope cl C X.env) fp) kx tk)
    (he : ∀ (s : Shared) (H : Hp) (C : Addr) (cl : List (PySem.Str × Addr)) (fp : List Addr), VE S (X.blk s H scope (compEnvC scope cl C X.env) fp) vx tv) (hs : ∀ x, foldedSetIterable iter X.env x = pure x := by intro _; rfl) :
    FE S X (.DictComp kx vx [⟨tg, iter, ifs, 0⟩] scope pos) (vDc vi g c tk tv (own.map (·.2))) :=
  pe_weak (pe_dc hc hN hi ok hg ht hk he hs) fun _ _ _ h => dc_lift h
end
end Va
set_option Elab.async false
set_option linter.all false
set_option maxRecDepth 100000
set_option maxHeartbeats 4000000
namespace Va
open PySem PySem.Spec PyProof.Rows L2 Ind
section
variable {X : Cx} {S : Sg} {t : VT}
end
end Va
set_option Elab.async false
set_option linter.all false
set_option maxRecDepth 100000
set_option maxHeartbeats 4000000
namespace Va
open PySem PySem.Spec PyProof.Rows L2 Ind RowK
def itD0 (p : Key × D) : D := .tup [key p.1, p.2]
theorem keyK_rp {K : PySem.W.Frag} {tp : Option Tp} {H : Hp} : ∀ k : Key, Rp K tp H (kV k) (key k)
  | .inl i => .int i
  | .inr x => .str x
section
variable {X : Cx} {S : Sg} {o : Expr} {p pos apos cpos : Pos}
end
end Va
set_option Elab.async false
set_option linter.all false
set_option maxRecDepth 100000
set_option maxHeartbeats 4000000
namespace Va
open PySem PySem.Spec PyProof.Rows L2 Ind RowK
def vItemsK (t : VT) : VI := fun E Q => t E fun d E1 => ∃ kvs, d = .dk kvs ∧ Q (kvs.map itD0) E1
section
variable {X : Cx} {S : Sg} {o : Expr} {apos cpos tpos : Pos}
theorem vi_itemsK {t : VT} {elts : List Expr} {kk : Nat} (hK : S.K = X.K) (ho : VE S X o t) (hbase : attributeBase o "items" X.env (eval o X.env) = eval o X.env := by rfl) (hline : (apos.endLine == cpos.line) = true := by rfl) :
    VIt S X (.Tuple elts kk tpos) (.Call (.Attribute o "items" apos) [] [] cpos) (vItemsK t) := by
  refine pi_weak (pi_items ho hbase hline) ?_
  rintro σ H Q ⟨Γ, E, Q0, ok, rp, ht, k⟩
  refine ⟨Γ, E, _, ok, rp, ht, fun d E1 hq x H1 kq1 rp1 hx => ?_⟩
  obtain ⟨kvs, rfl, hq⟩ := hq
  obtain ⟨p, ob, kv, rfl, h1, h2⟩ := hx.dk_inv
  have ln : kv.length = kvs.length := by have := congrArg List.length h2.keys; rwa [List.length_map, List.length_map] at this
  refine ⟨p, ob, kv, rfl, h1, k _ _ hq _ _ kq1 rp1 ?_⟩
  refine ⟨fun j H' hj q => ⟨q.frz _ _ _ h1, by rw [List.length_map] at hj; omega⟩, fun j H' x H2 hj q y => ?_, fun H' q => ⟨q.frz _ _ _ h1, by rw [List.length_map]; omega⟩⟩
  obtain ⟨T, kk2, v2, ex, rfl, nT, rfl⟩ := y
  have sm := same_upd (o := .tup [kV kk2, v2]) nT
  have kq2 : Kq H1 (upd H' T (.tup [kV kk2, v2])) := q.trans (.same sm)
  have get : ∀ {kv : List (Key × V)} {kvs : List (Key × D)} {j : Nat}, RpK Γ.K Γ.tp H1 kv kvs → kv[j]? = some (kk2, v2) → ∃ d, kvs[j]? = some (kk2, d) ∧ Γ.Rp H1 v2 d := by
    intro kv kvs
    induction kvs generalizing kv with
    | nil => intro j h e; cases h; cases e
    | cons q kvs ih =>
      intro j h e
      cases h with
      | cons g1 g2 =>
        cases j with
        | zero => cases e; exact ⟨_, rfl, g1⟩
        | succ j => exact ih g2 e
  obtain ⟨d, ed, rd⟩ := get h2 ex
  refine ⟨itD0 (kk2, d), by rw [List.getElem?_map, ed]; rfl, .tup (.of upd_same) (.cons (keyK_rp _) (.cons (Rp.kq kq2 _ _ rd) .nil)), sm⟩
end
end Va
set_option Elab.async false
set_option linter.all false
set_option maxRecDepth 100000
set_option maxHeartbeats 4000000
namespace Va
open PySem PySem.Spec PyProof.Rows L2 Ind RowK
section
variable {X : Cx} {S : Sg} {e a b : Expr}
def vCBc (g : VC) (t : VT) (n : String) : FT := fun E Q => t E fun d E1 => g [d, .ty n] fun z => Q z E1
theorem pe_CBc {f : Value} {g : VC} {t : VT} {n : String} (hc : CallV S X f g) (mk : ∀ {r : List V → Hp → VK → Prop} {t : TA}, CallR X f r → PA X [a, b] t → PE X e (tCB r t)) (ha : BE S X a t) (hb : PE X b (tC (.ty n)))
    (hs : starEach [a, b] X.env = (false, eval a X.env) :: starEach [b] X.env := by rfl) (hs2 : starEach [b] X.env = (false, eval b X.env) :: starEach [] X.env := by rfl) : FE S X e (vCBc g t n) := by
  obtain ⟨r, h1, h2⟩ := hc.ex
  refine pe_weak (mk h1 (pa_cons ha (pa_cons hb pa_nil hs2) hs)) ?_
  rintro σ H Q ⟨Γ, E, Q0, ok, rp, ht, k⟩
  refine ⟨Γ, E, _, ok, rp, ht, fun d E1 hq v H1 kq1 rp1 hv => ?_⟩
  exact h2 Γ H1 [v, .ty n] [d, .ty n] _ _ ok.k (.cons hv (.cons (.v (.ty n)) .nil)) hq fun z hz v H' sm hn => k _ _ hz v H' (kq1.trans (.same sm)) (rp1.same sm) (hn.rep rp1 sm)
def reprD : VC := fun ds Q => match ds with
  | [.dk kvs] => reprKG [.dk kvs] Q
  | [d] => reprG [d] Q
  | _ => False
theorem c_reprD (hK : S.K = X.K) (hg : X.A.guards = some []) (hu : X.A.units + 64 < cLine) : CallV S X (.builtin "repr") reprD := by
  obtain ⟨r1, c1, k1⟩ := (c_reprK (S := S) hK hg hu).ex
  obtain ⟨r2, c2, k2⟩ := (c_repr (S := S) hK hg hu).ex
  refine ⟨_, c1.or c2, ?_⟩
  intro Γ H xs ds Q Q0 eK hx hg k
  unfold reprD at hg
  split at hg
  · exact .inl (k1 Γ H xs _ Q Q0 eK hx hg k)
  · exact .inr (k2 Γ H xs _ Q Q0 eK hx hg k)
  · exact hg.elim
end
end Va
set_option Elab.async false
set_option linter.all false
set_option maxRecDepth 100000
set_option maxHeartbeats 4000000
namespace Va
open PySem PySem.Spec PyProof.Rows L2 Ind RowK
inductive QE where
  | sa
  | vl
  | mc
  | tr
  | cd
  | uc (x : Tx)
  | dc (x : Tx)
  | ut (x : Tx)
  | kd (x : Tx)
abbrev QR (α : Type) := Except QE α
def colX (cs : List Col) (x : Tx) : QR Cd := match colK cs x with
  | some k => .ok k
  | none => .error (.uc x)
def opX (cs : List Col) : Op → QR Cd
  | .col n => colX cs n
  | .num i => .ok (.n (if 0 ≤ i then i else -i))
  | .txt _ => .ok .s
def sumX (cs : List Col) : Ex → QR Int
  | [] => .ok 0
  | t :: e => match opX cs t.2 with
    | .error x => .error x
    | .ok .s => .error .sa
    | .ok (.n a) => match sumX cs e with
      | .error x => .error x
      | .ok b => .ok (a + b)
def exX (cs : List Col) (e : Ex) : QR Cd := match e with
  | [t] => opX cs t.2
  | e => match sumX cs e with
    | .error x => .error x
    | .ok b => if b ≤ 1000000000000 then .ok (.n b) else .error .vl
mutual
def fmX (cs : List Col) : Fm → QR Unit
  | .cmp _ l r => match exX cs l with
    | .error x => .error x
    | .ok a => match exX cs r with
      | .error x => .error x
      | .ok b => if a.w = b.w then .ok () else .error .mc
  | .neg f => fmX cs f
  | .all fs => fmXL cs fs
  | .any fs => fmXL cs fs
  | .imp a b => match fmX cs a with
    | .error x => .error x
    | .ok _ => fmX cs b
  | .tt => .ok ()
  | .ff => .ok ()
def fmXL (cs : List Col) : List Fm → QR Unit
  | [] => .ok ()
  | f :: fs => match fmX cs f with
    | .error x => .error x
    | .ok _ => fmXL cs fs
end
def sizedX (cs : List Col) (m : Int) : QR Shp := if 3000 < m then .error .tr else if cs.any (fun p => bigK p.2) then .error .vl else .ok (cs, m)
def gX {α : Type} (f : α → QR Cd) (g : α → Tx) : List α → List Col → QR (List Col)
  | [], found => .ok found
  | p :: l, found => match f p with
    | .error x => .error x
    | .ok k => if memB (g p) (found.map (·.1)) = true then .error (.dc (g p)) else gX f g l (found ++ [(g p, k)])
def agX (cs : List Col) (m : Int) : Ag → QR Cd
  | .cnt _ => .ok (.n m)
  | .su _ x => match colX cs x with
    | .error e => .error e
    | .ok .s => .error .sa
    | .ok (.n b) => .ok (.n (b * m))
  | .mi _ x => colX cs x
  | .ma _ x => colX cs x
def selX (cs : List Col) (its : List It8) (found : List Col) : QR (List Col) := gX (fun p : It8 => exX cs p.2) (fun p => p.1) its found
def keyX (cs : List Col) (ks : List Tx) (found : List Col) : QR (List Col) := gX (colX cs) (fun x => x) ks found
def aggX (cs : List Col) (m : Int) (as : List Ag) (found : List Col) : QR (List Col) := gX (agX cs m) Ag.nm as found
def kdX (cs : List Col) : List Col → QR Unit
  | [] => .ok ()
  | p :: ds => if (match colK cs p.1 with | some k => decide (k.w = p.2.w) | none => true) = true then kdX cs ds else .error (.kd p.1)
def twoX (w : Tw) (cs : List Col) (m : Int) (ds : List Col) (n : Int) : QR Shp := match w with
  | .uni => if (ds.map fun p => (p.1, p.2.w)) = (cs.map fun p => (p.1, p.2.w)) then sizedX ((cs.zip ds).map fun p => (p.1.1, maxK p.1.2 p.2.2)) (m + n) else .error .cd
  | .mnu => if (ds.map fun p => (p.1, p.2.w)) = (cs.map fun p => (p.1, p.2.w)) then .ok (cs, m) else .error .cd
  | .joi => match kdX cs ds with
    | .error x => .error x
    | .ok _ => sizedX (cs ++ ds.filter fun p => !memB p.1 (cs.map (·.1))) (m * n)
  | _ => match kdX cs ds with
    | .error x => .error x
    | .ok _ => .ok (cs, m)
def tyX (sh : List (Tx × Shp)) : Qy → QR Shp
  | .nm x => match (sh.find? fun p => decide (p.1 = x)).map (·.2) with
    | some s => .ok s
    | none => .error (.ut x)
  | .whr q F => match tyX sh q with
    | .error x => .error x
    | .ok (cs, m) => match fmX cs F with
      | .error x => .error x
      | .ok _ => .ok (cs, m)
  | .sel q its => match tyX sh q with
    | .error x => .error x
    | .ok (cs, m) => match selX cs its [] with
      | .error x => .error x
      | .ok ds => sizedX ds m
  | .grp q ks as => match tyX sh q with
    | .error x => .error x
    | .ok (cs, m) => match keyX cs ks [] with
      | .error x => .error x
      | .ok found => match aggX cs m as found with
        | .error x => .error x
        | .ok ds => sizedX ds m
  | .two w p q => match tyX sh p with
    | .error x => .error x
    | .ok (cs, m) => match tyX sh q with
      | .error x => .error x
      | .ok (ds, n) => twoX w cs m ds n
end Va
set_option Elab.async false
set_option linter.all false
set_option maxRecDepth 100000
set_option maxHeartbeats 4000000
namespace Va
open PySem PySem.Spec PyProof.Rows L2 Ind
abbrev VMdx := List D → List (Key × D) → (List (Key × D) → Prop) → (Er → Prop) → Prop
structure Kept (S : Sg) (tp : Option Tp) (a : Addr) (c : Nat) (H H' : Hp) (ds' : List (Key × D)) : Prop where
  ext : ∀ b o, ¬ (Gm.mk S.K S.b tp S.tabs [a] H).sp b → b ≠ a → H b = some o → H' b = some o
  tape : ∀ t, tp = some t → TapeV S.b H' t
  few : Few tp c H'
  tabs : ∀ P ∈ S.tabs, GxR.TabG H' P
  at_ : ∃ kv', H' a = some (.dK kv') ∧ RpK S.K tp H' kv' ds'
section
variable {X : Cx} {S : Sg} {W : WX} {o : Expr} {es : List Expr} {k : Nat} {f : Addr} {fd : FuncData} {ps : List PySem.Str} {m : VMdx} {x : PySem.Str} {p cpos pos : Pos}
end
end Va
set_option Elab.async false
set_option linter.all false
set_option maxRecDepth 100000
set_option maxHeartbeats 4000000
namespace Va
open PySem PySem.Spec PyProof.Rows L2 Ind
section
variable {P : Program} {w : World} {K : PySem.W.Frag} {mg : PySem.Str → Option Value} {base : Heap} {S : Sg} {x qual : PySem.Str} {st : Stmt} {f : Addr} {fd : FuncData} {N ps : List PySem.Str} {k : Nat} {m : VMdx} {T : VSX}
end
end Va
set_option Elab.async false
set_option linter.all false
set_option maxRecDepth 100000
set_option maxHeartbeats 4000000
namespace Va
open PySem PySem.Spec PyProof.Rows L2 Ind RowK
section
variable {X : Cx} {k i : Nat} {f : Addr} {fd : FuncData} {ps : List PySem.Str} {sp : Sp} {x : PySem.Str} {e : Expr} {es : List Expr} {t : TA} {W : WX} {p pos : Pos}
end
structure HeldVX (S : Sg) (X : Cx) (k : Nat) (d : Addr) (z : Tx) (m : VMX) : Prop where
  ex : ∃ k', k' ≤ k ∧ ∃ (f : Addr) (fd : FuncData) (ps : List PySem.Str), PySem.W.nsIn X.K d z = some (some (.ref f)) ∧ FnOk X.prog X.w X.K X.mg X.base (L2.CX X.prog X.w) k' f fd ps (spVX S m) ∧ PySem.W.keepIn X.K (.ref f) = true ∧ Binds X.K fd ps []
structure HeldIX (S : Sg) (X : Cx) (k : Nat) (d : Addr) (M : List (Tx × VMX)) where
  z : Tx
  m : VMX
  f : Addr
  fd : FuncData
  ps : List PySem.Str
  k' : Nat
  le : k' ≤ k
  inM : (z, m) ∈ M
  ns : PySem.W.nsIn X.K d z = some (some (.ref f))
  ok : FnOk X.prog X.w X.K X.mg X.base (L2.CX X.prog X.w) k' f fd ps (spVX S m)
  kp : PySem.W.keepIn X.K (.ref f) = true
  bd : Binds X.K fd ps []
section
variable {X : Cx} {S : Sg} {W : WX} {dx ix e : Expr} {es : List Expr} {i j k : Nat} {d : Addr} {ds : Array DictEntry} {n : Nat} {x : PySem.Str} {ta : VTA} {M : List (Tx × VMX)} {p1 p2 p3 p4 p5 p6 : Pos}
end
end Va
set_option Elab.async false
set_option linter.all false
set_option maxRecDepth 100000
set_option maxHeartbeats 4000000
namespace Va
open PySem PySem.Spec PyProof.Rows L2 Ind RowK
section
variable {X : Cx} {S : Sg} {W : WX} {e : Expr} {p p1 p2 p3 pos pos2 : Pos}
end
end Va
set_option Elab.async false
set_option linter.all false
set_option maxRecDepth 100000
set_option maxHeartbeats 4000000
namespace Va
open PySem PySem.Spec PyProof.Rows L2 Ind RowK
end Va
set_option Elab.async false
set_option linter.all false
set_option maxRecDepth 100000
set_option maxHeartbeats 4000000
namespace Va
open PySem PySem.Spec PyProof.Rows L2 Ind RowK
abbrev VMO := List D → Nat → (List (Key × D) → Nat → Prop) → Prop
def spO (S : Sg) (m : VMO) : Sp := fun vs H Q _ => ∃ (tp : Option Tp) (ds : List D) (c : Nat) (Q0 : List (Key × D) → Nat → Prop), RpL S.K tp H vs ds ∧ (∀ t, tp = some t → TapeV S.b H t) ∧ Few tp c H ∧ (∀ P ∈ S.tabs, GxR.TabG H P) ∧ m ds c Q0 ∧
  ∀ kvs c', Q0 kvs c' → ∀ a kv H', Ext ⟨S.K, S.b, tp, S.tabs, [], H⟩ c' H H' → H a = none → ¬ Gm.sp ⟨S.K, S.b, tp, S.tabs, [], H⟩ a → H' a = some (.dK kv) → RpK S.K tp H' kv kvs → Q (.ref a) H'
def fCallO (m : VMO) (t : VTA) : FT := fun E Q => t E fun ds E1 => m ds E1.c fun kvs c => Q (.fd kvs) ⟨E1.l, c⟩
theorem spO_of {S : Sg} {Γ : Gm} {E : En} {σ : L2.St} {H : Hp} {m : VMO} {vs : List V} {ds : List D} {Q : VK} {Ex : XK} {Q0 : List (Key × D) → Nat → Prop} (ok : Γ.Ok S) (r : Rep Γ E σ H) (hv : Γ.RpL H vs ds) (h : m ds E.c Q0) (k : ∀ kvs c, Q0 kvs c → ∀ v H', Kq H H' → Rep Γ ⟨E.l, c⟩ σ H' → RepR Γ ⟨E.l, c⟩ σ H' v (.fd kvs) → Q v H') : spO S m vs H Q Ex := by
  obtain ⟨eK, eB, eT⟩ := ok
  refine ⟨Γ.tp, ds, E.c, Q0, by rw [← eK]; exact hv, by rw [← eB]; exact r.base.tape, r.few, by rw [← eT]; exact r.base.tabs, h, fun kvs c hd a kv H' x na ns ha rv => ?_⟩
  have x' : Ext Γ c H H' := ⟨fun b o n => x.ext b o fun z => n (by
    rcases z with z | z
    · exact .inl z
    · exact .inr (by rw [eT]; exact z)), by rw [eB]; exact x.tape, x.few, by rw [eT]; exact x.tabs⟩
  have nsp : ¬ Γ.sp a := fun z => ns (by
    rcases z with z | z
    · exact .inl z
    · exact .inr (by rw [← eT]; exact z))
  have fr : Free Γ a := ⟨(by
    by_cases hio : a ∈ Γ.io
    · exact .inr hio
    · cases e : Γ.H0 a with
      | none => exact .inl rfl
      | some o =>
        have := r.base.ext a o nsp hio e
        rw [na] at this
        cases this), nsp⟩
  refine k kvs c hd _ H' (x'.kq r.base) (r.call x') ⟨a, rfl, ⟨a, kv, rfl, ha, by rw [eK]; exact rv, fr, fun z => (by cases z)⟩, fun j s ej ho z => ?_⟩
  obtain ⟨o, h1, h2⟩ := r.sl j s ej
  rw [h1] at z
  cases z
  obtain ⟨b, u, e1, e2, _⟩ := h2.own_at ho
  cases e1
  rw [na] at e2
  cases e2
section
variable {X : Cx} {S : Sg} {k : Nat} {f : Addr} {fd : FuncData} {ps : List PySem.Str} {m : VMO} {x : PySem.Str} {e : Expr} {es : List Expr} {p pos : Pos}
theorem fe_callO {t : VTA} (F : FnOk X.prog X.w X.K X.mg X.base CX0 k f fd ps (spO S m)) (hr : Room k X.A) (hg : Gl X x) (hm : X.mg x = some (.ref f)) (hk : PySem.W.keepIn X.K (.ref f) = true) (hb : Binds X.K fd ps [])
    (ha : VA S X (e :: es) t) (hdb : (x == ("__debug__" : PySem.Str)) = false := by decide) (he : starEach (e :: es) X.env = (false, eval e X.env) :: starEach es X.env := by rfl) (hpl : (backTo pos (starEach es X.env)).any (·.1) = false := by rfl) :
    FE S X (.Call (.Name x p) (e :: es) [] pos) (fCallO m t) := by
  refine pe_weak (pe_call F hr hg hm hk hb .nil pass0 ha hdb he hpl) ?_
  rintro σ H Q ⟨Γ, E, Q0, ok, rp, ht, k⟩
  refine ⟨Γ, E, _, ok, rp, ht, fun ds E1 hq vs H1 kq1 rp1 hvs => ?_⟩
  show spO S m (vs ++ []) H1 Q E0
  rw [List.append_nil]
  exact spO_of ok rp1 hvs hq fun kvs c hd v H' q' r' rv => k _ _ hd _ _ (kq1.trans q') r' rv
end
structure EndsO (Γ : Gm) (V : Ve) (D : Ends) (H : Hp) : Prop where
  rt : ∀ d E, V.rt d E → ∀ kvs a kv σ' H', d = .dk kvs → Kq H H' → Rep Γ E σ' H' → H' a = some (.dK kv) → RpK Γ.K Γ.tp H' kv kvs → Free Γ a → D.rt (.ref a) H'
theorem EndsO.kq {Γ : Gm} {V : Ve} {D : Ends} {H H' : Hp} (k : EndsO Γ V D H) (q : Kq H H') : EndsO Γ V D H' := ⟨fun d E h kvs a kv σ1 H1 e q1 => k.rt d E h kvs a kv σ1 H1 e (q.trans q1)⟩
def liftOd (S : Sg) (t : VS) : TS := fun D σ H => ∃ (Γ : Gm) (E : En) (V : Ve), Γ.Ok S ∧ Rep Γ E σ H ∧ t V E ∧ EndsO Γ V D H
abbrev VSO (S : Sg) (X : Cx) (st : List Stmt) (t : VS) : Prop := PSs X st (liftOd S t)
section
variable {X : Cx} {S : Sg} {e : Expr} {st : Stmt} {rest : List Stmt} {pos : Pos}
def sRtF (t : FT) : VS := fun V E => t E fun r E1 => ∃ kvs, r = .fd kvs ∧ V.rt (.dk kvs) E1
theorem vso_ret {t : FT} (he : FE S X e t) : VSO S X [.Return (some e) pos] (sRtF t) := by
  refine pss_weak (pss_one (ps_ret he)) ?_
  rintro D σ H ⟨Γ, E, V, ok, r, h, k⟩
  refine ⟨Γ, E, _, ok, r, h, fun rv E1 h1 v H1 q1 r1 hv => ?_⟩
  obtain ⟨kvs, rfl, hr⟩ := h1
  obtain ⟨a, rfl, ⟨a2, kv, e2, h2, h3, fr, _⟩, _⟩ := hv
  cases e2
  exact k.rt _ E1 hr kvs a kv σ H1 rfl q1 r1 h2 h3 fr
end
def endO (Q : List (Key × D) → Nat → Prop) : Ve := { nx := fun _ => False, rt := fun d E => ∃ kvs, d = .dk kvs ∧ Q kvs E.c }
section
variable {P : Program} {w : World} {K : PySem.W.Frag} {mg : PySem.Str → Option Value} {base : Heap} {S : Sg} {x qual : PySem.Str} {st : Stmt} {f : Addr} {fd : FuncData} {N ps : List PySem.Str} {k : Nat} {m : VMO} {T : VS}
theorem def_o (F : Fun K x qual st f fd) (sc : FnScope N ps (defScope st)) (hK : S.K = K) (len : ∀ ds c Q, m ds c Q → ds.length = ps.length)
    (hb : ∀ (cdv : Value) (A : Around) (outer : List Env) (s : Shared) (H : Hp) (E : XK), Room k (A.deeper (envOfC qual (defScope st) s.heap.objs.size f cdv)) → VSO S (cxOf CX0 P w K mg base N qual (defScope st) f cdv A outer s H E).nox (defBody st) T)
    (h : ∀ ds c Q, m ds c Q → T (endO Q) (startV N ds c)) : FnOk P w K mg base CX0 (k + 1) f fd ps (spO S m) := by
  refine F.ok sc (fun vs H Q E sp => ?_) (fun cdv A outer s H vs Q E hr sp => ?_)
  · obtain ⟨tp, ds, c, Q0, hv, _, _, _, hm, _⟩ := sp
    rw [hv.len]
    exact len ds c Q0 hm
  · obtain ⟨tp, ds, c, Q0, hv, ht, hf, hp, hm, kk⟩ := sp
    refine ⟨_, hb cdv A outer s H E hr, ⟨S.K, S.b, tp, S.tabs, [], H⟩, startV N ds c, _, ⟨rfl, rfl, rfl⟩, rep_start hv ht hf hp, h ds c Q0 hm, ⟨fun d E1 h1 kvs a kv σ1 H1 ed q1 r1 ha hr fr => ?_⟩⟩
    obtain ⟨kvs', e1, hq⟩ := h1
    rw [e1] at ed
    cases ed
    refine kk _ _ hq a kv H1 ⟨fun b o n e => r1.base.ext b o n (by simp) e, r1.base.tape, r1.few, r1.base.tabs⟩ ?_ fr.nsp ha hr
    rcases fr.young with z | z
    · exact z
    · exact absurd (show a ∈ ([] : List Addr) from z) List.not_mem_nil
end
end Va
set_option Elab.async false
set_option linter.all false
set_option maxRecDepth 100000
set_option maxHeartbeats 4000000
namespace Va
open PySem PySem.Spec PyProof.Rows L2 Ind RowK
def colsP (cs : List Col) : D := .ptp (cs.map colD)
theorem seqI {s u : VS} {V : Ve} {E : En} (I : En → Prop) (h : ∀ N : En → Prop, (∀ E1, I E1 → N E1) → s { V with nx := N } E) (k : ∀ E1, I E1 → u V E1) : sSeq s u V E := h _ k
def top (i : Nat) : Stmt := PySem.Challenge.pw_indoubt_k50_what_lifted_rows_become.main.body.getD i (.Pass ⟨0, 0, 0, 0⟩)
abbrev s_holds : Stmt := top 1
abbrev N_holds : List Str := ["fact", "committed", "word", "part", "name"]
theorem sc_holds : FnScope N_holds ["fact", "committed"] (defScope s_holds) := ⟨rfl, rfl, rfl, by decide +kernel, rfl, by decide +kernel, by decide +kernel⟩
abbrev s_relation_for : Stmt := top 3
abbrev N_relation_for : List Str := ["lifted", "committed", "names", "pairs"]
theorem sc_relation_for : FnScope N_relation_for ["lifted", "committed"] (defScope s_relation_for) := ⟨rfl, rfl, rfl, by decide +kernel, rfl, by decide +kernel, by decide +kernel⟩
abbrev s_tables_for : Stmt := top 4
abbrev N_tables_for : List Str := ["tables", "committed", "name", "pairs"]
theorem sc_tables_for : FnScope N_tables_for ["tables", "committed"] (defScope s_tables_for) := ⟨rfl, rfl, rfl, by decide +kernel, rfl, by decide +kernel, by decide +kernel⟩
abbrev s__rows_for : Stmt := top 5
abbrev N__rows_for : List Str := ["pairs", "committed", "row", "fact"]
theorem sc__rows_for : FnScope N__rows_for ["pairs", "committed"] (defScope s__rows_for) := ⟨rfl, rfl, rfl, by decide +kernel, rfl, by decide +kernel, by decide +kernel⟩
abbrev s__law_tape : Stmt := top 7
abbrev N__law_tape : List Str := ["script", "total", "cell"]
theorem sc__law_tape : FnScope N__law_tape ["script"] (defScope s__law_tape) := ⟨rfl, rfl, rfl, by decide +kernel, rfl, by decide +kernel, by decide +kernel⟩
abbrev s__law_draw : Stmt := top 8
abbrev N__law_draw : List Str := ["tape", "many", "place", "number"]
theorem sc__law_draw : FnScope N__law_draw ["tape", "many"] (defScope s__law_draw) := ⟨rfl, rfl, rfl, by decide +kernel, rfl, by decide +kernel, by decide +kernel⟩
abbrev s__law_name : Stmt := top 9
abbrev N__law_name : List Str := ["tape", "signs", "number", "name", "k"]
theorem sc__law_name : FnScope N__law_name ["tape"] (defScope s__law_name) := ⟨rfl, rfl, rfl, by decide +kernel, rfl, by decide +kernel, by decide +kernel⟩
abbrev s__law_names : Stmt := top 10
abbrev N__law_names : List Str := ["tape", "many", "names", "k", "name"]
theorem sc__law_names : FnScope N__law_names ["tape", "many"] (defScope s__law_names) := ⟨rfl, rfl, rfl, by decide +kernel, rfl, by decide +kernel, by decide +kernel⟩
abbrev s__law_signs : Stmt := top 11
abbrev N__law_signs : List Str := ["signs"]
theorem sc__law_signs : FnScope N__law_signs [] (defScope s__law_signs) := ⟨rfl, rfl, rfl, by decide +kernel, rfl, by decide +kernel, by decide +kernel⟩
abbrev s__law_text : Stmt := top 12
abbrev N__law_text : List Str := ["tape", "number", "share", "text", "k"]
theorem sc__law_text : FnScope N__law_text ["tape"] (defScope s__law_text) := ⟨rfl, rfl, rfl, by decide +kernel, rfl, by decide +kernel, by decide +kernel⟩
abbrev s__law_value : Stmt := top 13
abbrev N__law_value : List Str := ["tape", "kind", "most", "number", "share"]
theorem sc__law_value : FnScope N__law_value ["tape", "kind"] (defScope s__law_value) := ⟨rfl, rfl, rfl, by decide +kernel, rfl, by decide +kernel, by decide +kernel⟩
abbrev s__law_some : Stmt := top 14
abbrev N__law_some : List Str := ["tape", "names", "left", "found", "k"]
theorem sc__law_some : FnScope N__law_some ["tape", "names"] (defScope s__law_some) := ⟨rfl, rfl, rfl, by decide +kernel, rfl, by decide +kernel, by decide +kernel⟩
abbrev s__law_row : Stmt := top 15
abbrev N__law_row : List Str := ["tape", "columns", "column"]
theorem sc__law_row : FnScope N__law_row ["tape", "columns"] (defScope s__law_row) := ⟨rfl, rfl, rfl, by decide +kernel, rfl, by decide +kernel, by decide +kernel⟩
abbrev s__law_kinds : Stmt := top 16
abbrev N__law_kinds : List Str := ["columns", "found", "column"]
theorem sc__law_kinds : FnScope N__law_kinds ["columns"] (defScope s__law_kinds) := ⟨rfl, rfl, rfl, by decide +kernel, rfl, by decide +kernel, by decide +kernel⟩
abbrev s__law_plain_tables : Stmt := top 17
abbrev N__law_plain_tables : List Str := ["tape", "names", "wide", "name", "pool", "tables", "columns", "limit", "column"]
theorem sc__law_plain_tables : FnScope N__law_plain_tables ["tape", "names"] (defScope s__law_plain_tables) := ⟨rfl, rfl, rfl, by decide +kernel, rfl, by decide +kernel, by decide +kernel⟩
abbrev s__law_fact : Stmt := top 18
abbrev N__law_fact : List Str := ["tape", "names", "depth", "choice", "left", "right", "k"]
theorem sc__law_fact : FnScope N__law_fact ["tape", "names", "depth"] (defScope s__law_fact) := ⟨rfl, rfl, rfl, by decide +kernel, rfl, by decide +kernel, by decide +kernel⟩
abbrev s__law_true : Stmt := top 19
abbrev N__law_true : List Str := ["fact", "committed", "part", "name"]
theorem sc__law_true : FnScope N__law_true ["fact", "committed"] (defScope s__law_true) := ⟨rfl, rfl, rfl, by decide +kernel, rfl, by decide +kernel, by decide +kernel⟩
abbrev s__law_all : Stmt := top 20
abbrev N__law_all : List Str := ["names", "rows", "name", "row"]
theorem sc__law_all : FnScope N__law_all ["names"] (defScope s__law_all) := ⟨rfl, rfl, rfl, by decide +kernel, rfl, by decide +kernel, by decide +kernel⟩
abbrev s__law_pairs : Stmt := top 21
abbrev N__law_pairs : List Str := ["tape", "columns", "names", "many", "rows", "k", "row"]
theorem sc__law_pairs : FnScope N__law_pairs ["tape", "columns", "names", "many"] (defScope s__law_pairs) := ⟨rfl, rfl, rfl, by decide +kernel, rfl, by decide +kernel, by decide +kernel⟩
abbrev s_law : Stmt := top 22
abbrev N_law : List Str := ["script", "tape", "names", "schema", "lifted", "table", "kept", "row", "due", "committed", "told", "columns", "pair", "column"]
theorem sc_law : FnScope N_law ["script"] (defScope s_law) := ⟨rfl, rfl, rfl, by decide +kernel, rfl, by decide +kernel, by decide +kernel⟩
structure Txt (P : Program) (w : World) (K : PySem.W.Frag) (mg : Str → Option Value) where
  a_holds : Addr
  d_holds : FuncData
  F_holds : Fun K "holds" "holds" s_holds a_holds d_holds
  b_holds : Binds K d_holds ["fact", "committed"] []
  g_holds : mg "holds" = some (.ref a_holds)
  a_relation_for : Addr
  d_relation_for : FuncData
  F_relation_for : Fun K "relation_for" "relation_for" s_relation_for a_relation_for d_relation_for
  b_relation_for : Binds K d_relation_for ["lifted", "committed"] []
  g_relation_for : mg "relation_for" = some (.ref a_relation_for)
  a_tables_for : Addr
  d_tables_for : FuncData
  F_tables_for : Fun K "tables_for" "tables_for" s_tables_for a_tables_for d_tables_for
  b_tables_for : Binds K d_tables_for ["tables", "committed"] []
  g_tables_for : mg "tables_for" = some (.ref a_tables_for)
  a__rows_for : Addr
  d__rows_for : FuncData
  F__rows_for : Fun K "_rows_for" "_rows_for" s__rows_for a__rows_for d__rows_for
  b__rows_for : Binds K d__rows_for ["pairs", "committed"] []
  g__rows_for : mg "_rows_for" = some (.ref a__rows_for)
  a__law_tape : Addr
  d__law_tape : FuncData
  F__law_tape : Fun K "_law_tape" "_law_tape" s__law_tape a__law_tape d__law_tape
  b__law_tape : Binds K d__law_tape ["script"] []
  g__law_tape : mg "_law_tape" = some (.ref a__law_tape)
  a__law_draw : Addr
  d__law_draw : FuncData
  F__law_draw : Fun K "_law_draw" "_law_draw" s__law_draw a__law_draw d__law_draw
  b__law_draw : Binds K d__law_draw ["tape", "many"] []
  g__law_draw : mg "_law_draw" = some (.ref a__law_draw)
  a__law_name : Addr
  d__law_name : FuncData
  F__law_name : Fun K "_law_name" "_law_name" s__law_name a__law_name d__law_name
  b__law_name : Binds K d__law_name ["tape"] []
  g__law_name : mg "_law_name" = some (.ref a__law_name)
  a__law_names : Addr
  d__law_names : FuncData
  F__law_names : Fun K "_law_names" "_law_names" s__law_names a__law_names d__law_names
  b__law_names : Binds K d__law_names ["tape", "many"] []
  g__law_names : mg "_law_names" = some (.ref a__law_names)
  a__law_signs : Addr
  d__law_signs : FuncData
  F__law_signs : Fun K "_law_signs" "_law_signs" s__law_signs a__law_signs d__law_signs
  b__law_signs : Binds K d__law_signs [] []
  g__law_signs : mg "_law_signs" = some (.ref a__law_signs)
  a__law_text : Addr
  d__law_text : FuncData
  F__law_text : Fun K "_law_text" "_law_text" s__law_text a__law_text d__law_text
  b__law_text : Binds K d__law_text ["tape"] []
  g__law_text : mg "_law_text" = some (.ref a__law_text)
  a__law_value : Addr
  d__law_value : FuncData
  F__law_value : Fun K "_law_value" "_law_value" s__law_value a__law_value d__law_value
  b__law_value : Binds K d__law_value ["tape", "kind"] []
  g__law_value : mg "_law_value" = some (.ref a__law_value)
  a__law_some : Addr
  d__law_some : FuncData
  F__law_some : Fun K "_law_some" "_law_some" s__law_some a__law_some d__law_some
  b__law_some : Binds K d__law_some ["tape", "names"] []
  g__law_some : mg "_law_some" = some (.ref a__law_some)
  a__law_row : Addr
  d__law_row : FuncData
  F__law_row : Fun K "_law_row" "_law_row" s__law_row a__law_row d__law_row
  b__law_row : Binds K d__law_row ["tape", "columns"] []
  g__law_row : mg "_law_row" = some (.ref a__law_row)
  a__law_kinds : Addr
  d__law_kinds : FuncData
  F__law_kinds : Fun K "_law_kinds" "_law_kinds" s__law_kinds a__law_kinds d__law_kinds
  b__law_kinds : Binds K d__law_kinds ["columns"] []
  g__law_kinds : mg "_law_kinds" = some (.ref a__law_kinds)
  a__law_plain_tables : Addr
  d__law_plain_tables : FuncData
  F__law_plain_tables : Fun K "_law_plain_tables" "_law_plain_tables" s__law_plain_tables a__law_plain_tables d__law_plain_tables
  b__law_plain_tables : Binds K d__law_plain_tables ["tape", "names"] []
  g__law_plain_tables : mg "_law_plain_tables" = some (.ref a__law_plain_tables)
  a__law_fact : Addr
  d__law_fact : FuncData
  F__law_fact : Fun K "_law_fact" "_law_fact" s__law_fact a__law_fact d__law_fact
  b__law_fact : Binds K d__law_fact ["tape", "names", "depth"] []
  g__law_fact : mg "_law_fact" = some (.ref a__law_fact)
  a__law_true : Addr
  d__law_true : FuncData
  F__law_true : Fun K "_law_true" "_law_true" s__law_true a__law_true d__law_true
  b__law_true : Binds K d__law_true ["fact", "committed"] []
  g__law_true : mg "_law_true" = some (.ref a__law_true)
  a__law_all : Addr
  d__law_all : FuncData
  F__law_all : Fun K "_law_all" "_law_all" s__law_all a__law_all d__law_all
  b__law_all : Binds K d__law_all ["names"] []
  g__law_all : mg "_law_all" = some (.ref a__law_all)
  a__law_pairs : Addr
  d__law_pairs : FuncData
  F__law_pairs : Fun K "_law_pairs" "_law_pairs" s__law_pairs a__law_pairs d__law_pairs
  b__law_pairs : Binds K d__law_pairs ["tape", "columns", "names", "many"] []
  g__law_pairs : mg "_law_pairs" = some (.ref a__law_pairs)
  a_law : Addr
  d_law : FuncData
  F_law : Fun K "law" "law" s_law a_law d_law
  b_law : Binds K d_law ["script"] []
  g_law : mg "law" = some (.ref a_law)
  cc_holds : Addr
  pp_holds : Addr
  C_holds : FunC K "holds" "holds" s_holds a_holds d_holds cc_holds
  z_abs : mg "abs" = none
  z_all : mg "all" = none
  z_any : mg "any" = none
  z_dict : mg "dict" = none
  z_int : mg "int" = none
  z_isinstance : mg "isinstance" = none
  z_len : mg "len" = none
  z_list : mg "list" = none
  z_max : mg "max" = none
  z_min : mg "min" = none
  z_range : mg "range" = none
  z_repr : mg "repr" = none
  z_reversed : mg "reversed" = none
  z_sorted : mg "sorted" = none
  z_tuple : mg "tuple" = none
abbrev Sx {P : Program} {w : World} {K : PySem.W.Frag} {mg : PySem.Str → Option Value} (T : Txt P w K mg) : Sg := ⟨K, false, [T.pp_holds]⟩
end Va
set_option Elab.async false
set_option linter.all false
set_option maxRecDepth 100000
set_option maxHeartbeats 4000000
namespace Va
open PySem PySem.Spec PyProof.Rows L2 Ind
local macro_rules | `(tactic| walk_at "cn") => `(tactic| first
  | assumption
  | omega
  | exact dm (by omega)
  | exact line (by simp)
  | exact line (by omega)
  | exact line (by simp only [len_app, len_one]; omega)
  | exact small_div (by omega) (by omega)
  | solve_by_elim
  | exact Or.inr ⟨by omega, by omega⟩
  | exact Or.inl ⟨by omega, by omega⟩
  | exact ⟨by omega, by omega⟩
  | decide)
local macro_rules | `(tactic| walk_at "st") => `(tactic| repeat (first
  | refine ⟨_, rfl, ?_⟩
  | refine ⟨_, _, rfl, rfl, ?_⟩
  | refine ⟨_, _, rfl, ?_⟩
  | refine .inl ⟨_, rfl, ?_⟩
  | refine And.intro rfl ?_
  | refine And.intro (by walk_at "cn") ?_))
local macro_rules | `(tactic| walk_at "fz") => `(tactic| repeat (first | exact Fz.refl | apply Fz.upd))
local macro_rules | `(tactic| walk_at "hl") => `(tactic| ((repeat rw [upd_ne (by assumption)]); assumption))
local macro_rules | `(tactic| walk_at "fy") => `(tactic| (intro b o n1 h; (repeat rw [upd_ne n1]); exact h))
local macro_rules | `(tactic| walk_at "wh") => `(tactic| (conv => whnf))
local macro_rules | `(tactic| walk_at "cv") => `(tactic| first
  | rfl
  | assumption
  | omega
  | exact dm (by omega)
  | exact small_div (by omega) (by omega)
  | (simp only [len_app, one_len, len_one, List.length_append, List.length_map, List.length_cons, List.length_nil]; omega)
  | exact Or.inr ⟨by omega, by omega⟩
  | exact Or.inl ⟨by omega, by omega⟩
  | exact ⟨by omega, by omega⟩
  | decide)
local macro_rules | `(tactic| walk_at "vv") => `(tactic| repeat (refine And.intro (by walk_at "cv") ?_))
local macro_rules | `(tactic| walk_at "sk") => `(tactic| repeat (first
  | refine wayT ?_
  | refine wayF ?_
  | refine skipT (by omega) ?_
  | refine skipF (by omega) ?_
  | refine skipT (by decide) ?_
  | refine skipF (by decide) ?_
  | refine ⟨_, (show tyNames _ = some _ from rfl), ?_⟩
  | refine And.intro (by walk_at "cv") ?_))
local macro_rules | `(tactic| walk_at "s0") => `(tactic| first
  | refine wayT ?_
  | refine wayF ?_
  | refine skipT (by omega) ?_
  | refine skipF (by omega) ?_
  | refine skipT (by decide) ?_
  | refine skipF (by decide) ?_
  | refine ⟨_, (show tyNames _ = some _ from rfl), ?_⟩
  | refine And.intro (by walk_at "cv") ?_)
local macro_rules | `(tactic| walk_at "s1") => `(tactic| try (walk_at "s0"; walk_at "wh"))
local macro_rules | `(tactic| walk_at "go") => `(tactic| (walk_at "wh"; repeat (walk_at "s0"; walk_at "wh")))
section
variable {P : Program} {w : World} {K : PySem.W.Frag} {mg : PySem.Str → Option Value} {base : Heap}
theorem ok__law_tape (T : Txt P w K mg) : FnOk P w K mg base CX0 1 T.a__law_tape T.d__law_tape ["script"] (spTapeV K false) := by
  refine T.F__law_tape.ok sc__law_tape (fun vs H Q E h => ?_) (fun cdv A outer s H vs Q E hr h => ?_)
  · obtain ⟨a, ns, rfl, _⟩ := h
    rfl
  · obtain ⟨a, ns, rfl, hS, hl, q⟩ := h
    refine ⟨_, (pss_cons (ps_set (i := 1) sc__law_tape.nd rfl (.inl rfl) pe_int)
      (pss_cons (ps_for PassesOwn.never rfl (pi_list (pv 0)) (pg_name (i := 2) sc__law_tape.nd rfl (.inl rfl))
      (pss_one (ps_set (i := 1) sc__law_tape.nd rfl (.inl rfl) (pe_op op_mod (pe_callTy call_int1 (by rfl) T.z_int boot_int (pa_cons (pe_op op_add (pe_op op_mul (pv 1) pe_int) (pe_callB call_abs (by rfl) T.z_abs boot_abs (pa_cons (pe_callTy call_int1 (by rfl) T.z_int boot_int (pa_cons (pv 2) pa_nil)) pa_nil))) pa_nil)) pe_int))))
      (pss_one (ps_ret (pe_lst (pa_cons (pe_callTy call_list_of (by rfl) T.z_list boot_list (pa_cons (pv 0) pa_nil)) (pa_cons pe_int (pa_cons pe_int (pa_cons (pv 1) pa_nil))))))))), ?_⟩
    refine ⟨_, rfl, a, rfl, ⟨_, hS⟩, for_list (K := K) (a := a) (xs := ns.map V.int) (fun i σ H' => ∃ z y, σ = [some (.ref a), some (.int z), y] ∧ H' = H ∧ 0 ≤ z ∧ z < 2147483647)
      ⟨7, none, rfl, rfl, by decide, by decide⟩ (fun i σ H' _ ⟨_, _, _, e, _⟩ => by rw [e]; exact hS) ?_ ?_⟩
    · rintro i x σ H' hi ⟨z, y, rfl, rfl, h0, h1⟩
      obtain ⟨u, rfl⟩ : ∃ u, x = V.int u := by
        rw [List.getElem?_map] at hi
        cases e : ns[i]? with
        | none => rw [e] at hi; cases hi
        | some u => rw [e] at hi; exact ⟨u, (Option.some.inj hi).symm⟩
      walk_at "st"
      omega
    · rintro σ H' ⟨z, y, rfl, rfl, h0, h1⟩
      refine ⟨_, rfl, _, _, rfl, .inl hS, fun l nl => ⟨_, rfl, line (by simp), fun t nt => ?_⟩⟩
      have nlt : l ≠ t := fun e => by rw [← e, upd_same] at nt; cases nt
      have ntH : H' t = none := by rw [upd_ne nlt.symm] at nt; exact nt
      have hl2 : upd (upd H' l (.lst (ns.map V.int))) t (.lst [.ref l, .int 0, .int 0, .int z]) l = some (.lst (ns.map V.int)) := by rw [upd_ne nlt, upd_same]
      exact q _ ⟨t, l⟩ ns ((same_upd nl).trans (same_upd nt)) ntH nl ⟨ns, 0, 0, z, upd_same, hl2, fun _ => by omega, by decide, by decide, h0, h1⟩ hl2 hl
theorem ok__law_draw (T : Txt P w K mg) : FnOk P w K mg base CX0 1 T.a__law_draw T.d__law_draw ["tape", "many"] (spDrawV false) := by
  refine T.F__law_draw.ok sc__law_draw (fun vs H Q E h => ?_) (fun cdv A outer s H vs Q E hr h => ?_)
  · obtain ⟨a, m, ns, rfl, _⟩ := h
    rfl
  · obtain ⟨⟨t, l⟩, m, ns', rfl, ⟨ns, p, n, z, ht, hL, _, hp, hn, hz, hz2⟩, hL', _, hm, q⟩ := h
    refine ⟨_, (pss_cons (ps_if (pt_cmpR op_eq (pe_ix ix_list (pv 0) pe_int (fun _ _ => rfl)) pe_int (nomark _)) (pss_cons (ps_set (i := 2) sc__law_draw.nd rfl (.inl rfl) (pe_ix ix_list (pv 0) pe_int (fun _ _ => rfl)))
      (pss_cons (ps_set (i := 3) sc__law_draw.nd rfl (.inl rfl) pe_int)
      (pss_cons (ps_if (pt_cmpR op_lt (pv 2) (pe_callB call_len_seq (by rfl) T.z_len boot_len (pa_cons (pe_ix ix_list (pv 0) pe_int (fun _ _ => rfl)) pa_nil)) (nomark _)) (pss_one (ps_set (i := 3) sc__law_draw.nd rfl (.inl rfl) (pe_callB call_abs (by rfl) T.z_abs boot_abs (pa_cons (pe_callTy call_int1 (by rfl) T.z_int boot_int (pa_cons (pe_ix ix_list (pe_ix ix_list (pv 0) pe_int (fun _ _ => rfl)) (pv 2) (fun _ _ => rfl)) pa_nil)) pa_nil)))) (pss_cons (ps_asg (pe_op op_mod (pe_callTy call_int1 (by rfl) T.z_int boot_int (pa_cons (pe_op op_add (pe_op op_add (pe_op op_mul (pe_ix ix_list (pv 0) pe_int (fun _ _ => rfl)) pe_int) (pv 2)) pe_int) pa_nil)) pe_int) (pg_sub (pv 0) pe_int set_list))
      (pss_one (ps_set (i := 3) sc__law_draw.nd rfl (.inl rfl) (pe_ix ix_list (pv 0) pe_int (fun _ _ => rfl))))))
      (pss_cons (ps_asg (pe_op op_add (pv 2) pe_int) (pg_sub (pv 0) pe_int set_list))
      (pss_cons (ps_if (pt_cmpR op_lt (pv 3) (pe_op op_pow pe_int pe_int) (nomark _)) (pss_cons (ps_set (i := 3) sc__law_draw.nd rfl (.inl rfl) (pe_op op_mod (pe_callTy call_int1 (by rfl) T.z_int boot_int (pa_cons (pe_op op_add (pe_op op_add (pe_op op_mul (pv 3) pe_int) (pe_op op_mul (pv 2) pe_int)) pe_int) pa_nil)) pe_int))
      (pss_cons (ps_set (i := 3) sc__law_draw.nd rfl (.inl rfl) (pe_op op_mod (pe_callTy call_int1 (by rfl) T.z_int boot_int (pa_cons (pe_op op_mul (pv 3) pe_int) pa_nil)) pe_int))
      (pss_one (ps_ret (pe_op op_mod (pe_callTy call_int1 (by rfl) T.z_int boot_int (pa_cons (pv 3) pa_nil)) (pe_callB (call_max2 rfl) (by rfl) T.z_max boot_max (pa_cons (pv 1) (pa_cons pe_int pa_nil)))))))) pss_nil)
      (pss_one (ps_asg (pv 3) (pg_sub (pv 0) pe_int set_list)))))))) pss_nil)
      (pss_cons (ps_set (i := 3) sc__law_draw.nd rfl (.inl rfl) (pe_ix ix_list (pv 0) pe_int (fun _ _ => rfl)))
      (pss_cons (ps_asg (pe_op op_fdivW (pv 3) (pe_callB (call_max2 rfl) (by rfl) T.z_max boot_max (pa_cons (pv 1) (pa_cons pe_int pa_nil)))) (pg_sub (pv 0) pe_int set_list))
      (pss_one (ps_ret (pe_op op_mod (pe_callTy call_int1 (by rfl) T.z_int boot_int (pa_cons (pv 3) pa_nil)) (pe_callB (call_max2 rfl) (by rfl) T.z_max boot_max (pa_cons (pv 1) (pa_cons pe_int pa_nil))))))))), ?_⟩
    have ht : H t = some (.lst [.ref l, .int p, .int n, .int z]) := ht
    have hL : H l = some (.lst (ns.map V.int)) := hL
    have ens : ns'.length = ns.length := by
      have hL' : H l = some (.lst (ns'.map V.int)) := hL'
      rw [hL] at hL'
      injection hL' with hL'
      injection hL' with hL'
      have := congrArg List.length hL'
      simpa using this.symm
    have nlt : l ≠ t := Tape.ne ht hL
    have many1 : 0 < if (1 : Int) > m then 1 else m := by split <;> omega
    have many2 : ∀ x : Int, CDivW x (if (2 : Int) > m then 2 else m) := hm
    have lt1 : ∀ x : Int, (x % if (1 : Int) > m then 1 else m) < m ∨ (x % if (1 : Int) > m then 1 else m) < 1 := fun x => by
      have q1 := Int.emod_lt_of_pos x many1
      revert q1
      split <;> intro q1 <;> omega
    have fin : ∀ {H' : Hp} {r : Int} {p' n' z' : Int}, (∀ b o, b ≠ t → H b = some o → H' b = some o) → H' t = some (.lst [.ref l, .int p', .int n', .int z']) → 0 ≤ p' → 0 ≤ n' → 0 ≤ z' → z' < 2147483647 → 0 ≤ r → (r < m ∨ r < 1) → Q (.int r) H' := by
      intro H' r p' n' z' st h1 h2 h3 h4 h5 h6 h7
      have hl' := st l _ nlt hL
      exact q H' r ns (fun b o n1 _ h => st b o n1 h) ⟨ns, p', n', z', h1, hl', (fun z => by cases z), h2, h3, h4, h5⟩ hl' (by omega) h6 h7
    walk_at "st"
    refine ⟨_, _, _, _, rfl, rfl, .of ht, atI_nat (j := 2) rfl, ?_⟩
    walk_at "st"
    refine ite2 (fun e => ?_) (fun e => ?_)
    · walk_at "st"
      refine ⟨_, _, _, _, rfl, rfl, .of ht, atI_nat (j := 1) rfl, ?_⟩
      walk_at "st"
      refine ⟨_, _, _, _, rfl, rfl, .of ht, atI_nat (j := 0) rfl, ?_⟩
      refine ⟨l, _, rfl, .inl (.of hL), ?_⟩
      walk_at "st"
      refine ite2 (fun e2 => ?a1) (fun e2 => ?a2)
      case' a1 =>
        have hlt : p.toNat < ns.length := by
          have := of_decide_eq_true e2
          rw [List.length_map] at this
          omega
        walk_at "st"
        refine ⟨_, _, _, _, rfl, rfl, .of ht, atI_nat (j := 0) rfl, ?_⟩
        walk_at "st"
        refine ⟨_, _, _, _, rfl, rfl, .of hL, at_of (show p = (p.toNat : Int) by omega) (show (ns.map V.int)[p.toNat]? = some (.int ns[p.toNat]) by rw [List.getElem?_map, List.getElem?_eq_getElem hlt]; rfl), ?_⟩
        have hnum : 0 ≤ (if ns[p.toNat] < 0 then -ns[p.toNat] else ns[p.toNat]) := by split <;> omega
      case' a2 =>
        walk_at "st"
        refine ⟨_, _, _, _, rfl, rfl, .of ht, atI_nat (j := 3) rfl, ?_⟩
        walk_at "st"
        refine ⟨_, _, _, 3, rfl, rfl, ht, rfl, ?_⟩
        walk_at "st"
        refine ⟨_, _, _, _, rfl, rfl, .of upd_same, atI_nat (j := 3) rfl, ?_⟩
        have hnum : 0 ≤ (z * 48271 + p + 1) % 2147483647 := by omega
        have hnum2 : (z * 48271 + p + 1) % 2147483647 < 2147483647 := by omega
      all_goals
        walk_at "st"
      case' a1 => refine ⟨_, _, _, 1, rfl, rfl, ht, rfl, ?_⟩
      case' a2 => refine ⟨_, _, _, 1, rfl, rfl, upd_same, rfl, ?_⟩
      all_goals
        walk_at "st"
        refine ite2 (fun e3 => ?_) (fun e3 => ?_)
        · walk_at "st"
          refine fin (by walk_at "fy") upd_same (by omega) hn ?_ ?_ (Int.emod_nonneg _ (by omega)) (lt1 _) <;> assumption
        · walk_at "st"
          refine ⟨_, _, _, 2, rfl, rfl, upd_same, rfl, ?_⟩
          walk_at "st"
          refine ⟨_, _, _, _, rfl, rfl, .of upd_same, atI_nat (j := 2) rfl, ?_⟩
          walk_at "st"
          refine ⟨_, _, _, 2, rfl, rfl, upd_same, rfl, ?_⟩
          walk_at "st"
          refine fin (by walk_at "fy") upd_same (by omega) (Int.ediv_nonneg hnum ?_) ?_ ?_ (Int.emod_nonneg _ (by omega)) (lt1 _) <;> first | assumption | (split <;> omega)
    · walk_at "st"
      refine ⟨_, _, _, _, rfl, rfl, .of ht, atI_nat (j := 2) rfl, ?_⟩
      walk_at "st"
      refine ⟨_, _, _, 2, rfl, rfl, ht, rfl, ?_⟩
      walk_at "st"
      refine fin (by walk_at "fy") upd_same hp ?_ hz hz2 (Int.emod_nonneg _ (by omega)) (lt1 _)
      refine Int.ediv_nonneg hn ?_
      split <;> omega
end
end Va
set_option Elab.async false
set_option linter.all false
set_option maxRecDepth 100000
set_option maxHeartbeats 4000000
namespace Va
open PySem PySem.Spec PyProof.Rows L2 Ind
local macro_rules | `(tactic| walk_at "cn") => `(tactic| first
  | assumption
  | omega
  | exact dm (by omega)
  | exact line (by simp)
  | exact line (by omega)
  | exact line (by simp only [len_app, len_one]; omega)
  | exact small_div (by omega) (by omega)
  | solve_by_elim
  | exact Or.inr ⟨by omega, by omega⟩
  | exact Or.inl ⟨by omega, by omega⟩
  | exact ⟨by omega, by omega⟩
  | decide)
local macro_rules | `(tactic| walk_at "st") => `(tactic| repeat (first
  | refine ⟨_, rfl, ?_⟩
  | refine ⟨_, _, rfl, rfl, ?_⟩
  | refine ⟨_, _, rfl, ?_⟩
  | refine .inl ⟨_, rfl, ?_⟩
  | refine And.intro rfl ?_
  | refine And.intro (by walk_at "cn") ?_))
local macro_rules | `(tactic| walk_at "fz") => `(tactic| repeat (first | exact Fz.refl | apply Fz.upd))
local macro_rules | `(tactic| walk_at "hl") => `(tactic| ((repeat rw [upd_ne (by assumption)]); assumption))
local macro_rules | `(tactic| walk_at "fy") => `(tactic| (intro b o n1 h; (repeat rw [upd_ne n1]); exact h))
local macro_rules | `(tactic| walk_at "wh") => `(tactic| (conv => whnf))
local macro_rules | `(tactic| walk_at "cv") => `(tactic| first
  | rfl
  | assumption
  | omega
  | exact dm (by omega)
  | exact small_div (by omega) (by omega)
  | (simp only [len_app, one_len, len_one, List.length_append, List.length_map, List.length_cons, List.length_nil]; omega)
  | exact Or.inr ⟨by omega, by omega⟩
  | exact Or.inl ⟨by omega, by omega⟩
  | exact ⟨by omega, by omega⟩
  | decide)
local macro_rules | `(tactic| walk_at "vv") => `(tactic| repeat (refine And.intro (by walk_at "cv") ?_))
local macro_rules | `(tactic| walk_at "sk") => `(tactic| repeat (first
  | refine wayT ?_
  | refine wayF ?_
  | refine skipT (by omega) ?_
  | refine skipF (by omega) ?_
  | refine skipT (by decide) ?_
  | refine skipF (by decide) ?_
  | refine ⟨_, (show tyNames _ = some _ from rfl), ?_⟩
  | refine And.intro (by walk_at "cv") ?_))
local macro_rules | `(tactic| walk_at "s0") => `(tactic| first
  | refine wayT ?_
  | refine wayF ?_
  | refine skipT (by omega) ?_
  | refine skipF (by omega) ?_
  | refine skipT (by decide) ?_
  | refine skipF (by decide) ?_
  | refine ⟨_, (show tyNames _ = some _ from rfl), ?_⟩
  | refine And.intro (by walk_at "cv") ?_)
local macro_rules | `(tactic| walk_at "s1") => `(tactic| try (walk_at "s0"; walk_at "wh"))
local macro_rules | `(tactic| walk_at "go") => `(tactic| (walk_at "wh"; repeat (walk_at "s0"; walk_at "wh")))
def mName : VM := fun ds c Q => ds = [.tape] ∧ ∀ x : Tx, nL x → tOk x → Q (.str x) c
def mNms : VM := fun ds c Q => ∃ m : Nat, ds = [.tape, .int m] ∧ m ≤ 9 ∧ ∀ ns : List Tx, ns.length ≤ m → (0 < m → ns ≠ []) → ns.Nodup → (∀ x ∈ ns, tOk x ∧ nL x) → Q (.lst (ns.map .str)) c
def mText : VM := fun ds c Q => ds = [.tape] ∧ ∀ x : Tx, x.length ≤ 21 → tOk x → Q (.str x) c
def mSigns : VM := fun ds c Q => ds = [] ∧ ∀ x : Tx, 94 ≤ x.length → x.length ≤ 100 → tOk x → Q (.str x) c
section
variable {P : Program} {w : World} {K : PySem.W.Frag} {mg : PySem.Str → Option Value} {base : Heap}
theorem ok__law_name (T : Txt P w K mg) : FnOk P w K mg base CX0 2 T.a__law_name T.d__law_name ["tape"] (spV (Sx T) mName) := by
  have G__law_draw := draw_v (S := Sx T) (ok__law_draw (P := P) (w := w) (base := base) T)
  refine def_v (S := Sx T) (N := N__law_name) T.F__law_name sc__law_name rfl (fun ds c Q h => by obtain ⟨rfl, _⟩ := h; first | rfl | assumption) (fun cdv A outer s H E hr => (vss_cons (vs_set (i := 1) sc__law_name.nd rfl (.inl rfl) (fe_of ve_str))
      (vss_cons (vs_set (i := 2) sc__law_name.nd rfl (.inl rfl) (fe_of (ve_call G__law_draw hr (by rfl) T.g__law_draw T.F__law_draw.kp T.b__law_draw (va_cons (ve_name (pv 0)) (va_cons ve_int va_nil)))))
      (vss_cons (vs_set (i := 3) sc__law_name.nd rfl (.inl rfl) (fe_op (o_add rfl) (ve_of (fe_ix (i_ix rfl (hu_of hr)) (ve_of (fe_lst (va_cons ve_str (va_cons ve_str (va_cons ve_str (va_cons ve_str va_nil)))))) (be_of (ve_of (fe_op o_mod (ve_of (pe_CB1 c_int (fun hc ha => pe_callTy hc (by rfl) T.z_int boot_int ha) (be_name (pv 2)))) (be_of ve_int)))) (fun _ _ => rfl))) (be_of (ve_of (fe_ixN (i_ix rfl (hu_of hr)) (pv 1) (be_of (ve_of (fe_op o_mod (ve_of (pe_CB1 c_int (fun hc ha => pe_callTy hc (by rfl) T.z_int boot_int ha) (be_of (ve_of (fe_op o_fdiv (ve_name (pv 2)) (be_of ve_int)))))) (be_of ve_int)))) (fun _ _ => rfl))))))
      (vss_cons (vs_for PassesOwn.never rfl (vi_range1 (by rfl) T.z_range (va_cons (ve_of (fe_ix (i_ix rfl (hu_of hr)) (ve_of (fe_lst (va_cons ve_int (va_cons ve_int (va_cons ve_int (va_cons ve_int va_nil)))))) (be_of (ve_of (fe_op o_mod (ve_of (pe_CB1 c_int (fun hc ha => pe_callTy hc (by rfl) T.z_int boot_int ha) (be_of (ve_of (fe_op o_fdiv (ve_name (pv 2)) (be_of ve_int)))))) (be_of ve_int)))) (fun _ _ => rfl))) va_nil)) (vg_name (i := 4) [4] (by decide) sc__law_name.nd rfl (.inl rfl))
      (vss_one (vs_set (i := 3) sc__law_name.nd rfl (.inl rfl) (fe_op (o_add rfl) (ve_name (pv 3)) (be_of (ve_of (fe_ixN (i_ix rfl (hu_of hr)) (pv 1) (be_of (ve_of (fe_op o_mod (ve_of (pe_CB1 c_int (fun hc ha => pe_callTy hc (by rfl) T.z_int boot_int ha) (be_of (ve_of (fe_op o_fdiv (ve_name (pv 2)) (be_of (ve_of (fe_ix (i_ix rfl (hu_of hr)) (ve_of (fe_lst (va_cons ve_int (va_cons ve_int va_nil)))) (be_name (pv 4)) (fun _ _ => rfl))))))))) (be_of ve_int)))) (fun _ _ => rfl))))))))
      (vss_cons (vs_if (vb_cmp (o_in rfl (hu65 hr)) (ve_name (pv 3)) (be_of (ve_of (fe_lst (va_cons ve_str (va_cons ve_str (va_cons ve_str (va_cons ve_str (va_cons ve_str (va_cons ve_str (va_cons ve_str (va_cons ve_str (va_cons ve_str (va_cons ve_str va_nil))))))))))))) (by rfl)) (vss_one (vs_ret (ve_of (fe_op (o_add rfl) (ve_name (pv 3)) (be_of ve_str))))) vss_nil)
      (vss_one (vs_ret (ve_name (pv 3)))))))))) ?_
  rintro ds c Q ⟨rfl, q⟩
  refine ⟨569504, rfl, Nat.zero_le _, dm (by decide), fun r hr => ?_⟩
  have hr : r < 569504 := by omega
  have sl : ("abcdefghijklmnopqrstuvwxyz0123456789_" : Tx).length = 37 := by decide
  have lr : ("reservation_x" : Tx).length = 13 := by decide
  have l0 : ("" : Tx).length = 0 := by decide
  have so : tOk "abcdefghijklmnopqrstuvwxyz0123456789_" := tOk_of (by decide)
  have t0 : tOk "" := tOk_of (by decide)
  have t1 : tOk "reservation_x" := tOk_of (by decide)
  walk_at "vv"
  obtain ⟨d4, ed4, md4⟩ := pickI (l := [D.str "", .str "", .str "", .str "reservation_x"]) (i := (r : Int) % 4) (by omega) (by simp; omega)
  obtain ⟨z4, rfl, hz4⟩ := str_mem (P := fun s => (s.length = 0 ∨ s.length = 13) ∧ tOk s) md4 (by simp; exact ⟨⟨.inl (by simpa using l0), t0⟩, .inr (by simpa using lr), t1⟩)
  refine withD_of ed4 ?_
  walk_at "vv"
  obtain ⟨k1, hk1⟩ := sign_at (x := "abcdefghijklmnopqrstuvwxyz0123456789_") (i := (r : Int) / 16 % 26) (by omega) (by rw [sl]; omega)
  refine ⟨k1, hk1, ?_⟩
  walk_at "vv"
  obtain ⟨d5, ed5, md5⟩ := pickI (l := [D.int 0, .int 0, .int 1, .int 2]) (i := (r : Int) / 4 % 4) (by omega) (by simp; omega)
  obtain ⟨z5, rfl, hz5⟩ := int_mem (P := fun i => 0 ≤ i ∧ i ≤ 2) md5 (by simp)
  walk_at "vv"
  refine withD_of ed5 ?_
  walk_at "wh"
  refine ⟨⟨by omega, by omega⟩, ?_⟩
  refine ⟨fun i E => Iv (∃ (x : Tx) (y : SV), E = ⟨[.v .tape, .v (.str "abcdefghijklmnopqrstuvwxyz0123456789_"), .v (.int r), .v (.str x), y], c⟩ ∧ x.length ≤ 14 + i ∧ (x.length ≤ 1 + i ∨ 14 ≤ x.length) ∧ tOk x), .a ⟨_, _, rfl, by rw [len_app, one_len]; omega, by rw [len_app, one_len]; omega, tOk_app hz4.2 (tOk_one so hk1)⟩, ?_, ?_⟩
  · intro i d E ed iv
    obtain ⟨x, y, rfl, hx, hx3, hx2⟩ := iv.out
    obtain ⟨rfl, hi⟩ := rng_at ed
    have hi : i < 2 := by omega
    obtain ⟨d6, ed6, md6⟩ := pickI (l := [D.int 416, .int 15392]) (i := 0 + (i : Int)) (by omega) (by simp; omega)
    obtain ⟨z6, rfl, hz6⟩ := int_mem (P := fun i => i = 416 ∨ i = 15392) md6 (by simp)
    walk_at "vv"
    refine withD_of ed6 ?_
    have hz7 : 0 ≤ (r : Int) / z6 := by rcases hz6 with rfl | rfl <;> omega
    have dv : CDivW (r : Int) z6 := by rcases hz6 with rfl | rfl <;> exact small_div (by omega) (by omega)
    walk_at "vv"
    obtain ⟨k2, hk2⟩ := sign_at (x := "abcdefghijklmnopqrstuvwxyz0123456789_") (i := (r : Int) / z6 % 37) (by omega) (by rw [sl]; omega)
    refine ⟨k2, hk2, ?_⟩
    refine ⟨by rw [one_len]; omega, ?_⟩
    exact .a ⟨_, _, rfl, by rw [len_app, one_len]; omega, by rw [len_app, one_len]; omega, tOk_app hx2 (tOk_one so hk2)⟩
  · intro E iv
    obtain ⟨x, y, rfl, hx, hx3, hx2⟩ := iv.out
    have e : (rng 0 z5.toNat).length ≤ 2 := by simp only [rng, List.length_map, List.length_range]; omega
    have l1 : ("_" : Tx).length = 1 := by decide
    walk_at "vv"
    walk_at "wh"
    refine both (fun ew => ?_) (fun _ => ?_)
    · have x3 : x.length ≤ 3 := by
        have ew : ((["key", "to", "by", "sum", "set", "and", "or", "not", "one", "of"] : List Tx).map D.str).any (fun y => y.eqf (D.str x)) = true := ew
        rw [in_strsD] at ew
        have ew := of_decide_eq_true ew
        have all : ∀ z ∈ (["key", "to", "by", "sum", "set", "and", "or", "not", "one", "of"] : List Tx), z.length ≤ 3 := by decide
        exact all x ew
      walk_at "vv"
      exact q _ ⟨by rw [len_app]; omega, .inl (by rw [len_app]; omega)⟩ (tOk_app hx2 (tOk_of (by decide)))
    · exact q _ ⟨by omega, by omega⟩ hx2
theorem ok__law_names (T : Txt P w K mg) : FnOk P w K mg base CX0 3 T.a__law_names T.d__law_names ["tape", "many"] (spV (Sx T) mNms) := by
  have G__law_name := ok__law_name (P := P) (w := w) (base := base) T
  refine def_v (S := Sx T) (N := N__law_names) T.F__law_names sc__law_names rfl (fun ds c Q h => by obtain ⟨m, rfl, _⟩ := h; first | rfl | assumption) (fun cdv A outer s H E hr => (vss_cons (vs_set (i := 2) sc__law_names.nd rfl (.inl rfl) (fe_lst va_nil))
      (vss_cons (vs_for PassesOwn.never rfl (vi_range1 (by rfl) T.z_range (va_cons (ve_name (pv 1)) va_nil)) (vg_name (i := 3) [3] (by decide) sc__law_names.nd rfl (.inl rfl))
      (vss_cons (vs_set (i := 4) sc__law_names.nd rfl (.inl rfl) (fe_of (ve_call G__law_name hr (by rfl) T.g__law_name T.F__law_name.kp T.b__law_name (va_cons (ve_name (pv 0)) va_nil))))
      (vss_one (vs_if (vb_cmp (o_nin rfl (hu65 hr)) (ve_name (pv 4)) (be_name (pv 2)) (by rfl)) (vss_one (vs_append rfl (pv 2) (ve_name (pv 4)))) vss_nil))))
      (vss_one (vs_ret (ve_name (pv 2))))))) ?_
  rintro ds c Q ⟨m, rfl, hm, q⟩
  refine ⟨by decide, ?_⟩
  refine ⟨⟨by omega, by omega⟩, ?_⟩
  refine ⟨fun i E => Iv (∃ (ns : List Tx) (y z : SV), E = ⟨[.v .tape, .v (.int m), .ol (ns.map .str), y, z], c⟩ ∧ ns.length ≤ i ∧ (0 < i → ns ≠ []) ∧ ns.Nodup ∧ ∀ x ∈ ns, tOk x ∧ nL x), .a ⟨[], _, _, rfl, Nat.le_refl _, fun z => absurd z (Nat.lt_irrefl _), List.nodup_nil, fun x hx => (nomatch hx)⟩, ?_, ?_⟩
  · intro i d E ed iv
    obtain ⟨ns, y, z, rfl, hl, h0, hnd, hto⟩ := iv.out
    obtain ⟨rfl, hi⟩ := rng_at ed
    refine ⟨rfl, fun x hx hxt => ?_⟩
    refine ⟨rfl, flat_strsD _, ?_⟩
    rw [in_strsD]
    walk_at "wh"
    refine both (fun e => ?_) (fun e => ?_)
    · have nx := dF (nT e)
      refine ⟨by rw [List.length_map]; omega, ?_⟩
      refine .a ⟨ns ++ [x], _, _, by rw [List.map_append]; rfl, by rw [List.length_append]; simp; omega, fun _ => by simp, ?_, fun a ha => ?_⟩
      · exact List.nodup_append.mpr ⟨hnd, by simp, fun a ha b hb eq => by simp at hb; subst hb; subst eq; exact nx ha⟩
      · rcases List.mem_append.mp ha with h | h
        · exact hto a h
        · cases List.mem_singleton.mp h; exact ⟨hxt, hx⟩
    · have nx := dT (nF e)
      exact .a ⟨ns, _, _, rfl, by omega, fun _ z => (by rw [z] at nx; cases nx), hnd, hto⟩
  · intro E iv
    obtain ⟨ns, y, z, rfl, hl, h0, hnd, hto⟩ := iv.out
    have e : (rng 0 (m : Int).toNat).length = m := by simp only [rng, List.length_map, List.length_range]; omega
    rw [e] at hl h0
    exact q ns hl h0 hnd hto
theorem ok__law_signs (T : Txt P w K mg) : FnOk P w K mg base CX0 1 T.a__law_signs T.d__law_signs [] (spV (Sx T) mSigns) := by
  refine def_v (S := Sx T) (N := N__law_signs) T.F__law_signs sc__law_signs rfl (fun ds c Q h => by obtain ⟨rfl, _⟩ := h; first | rfl | assumption) (fun cdv A outer s H E hr => (vss_cons (vs_set (i := 0) sc__law_signs.nd rfl (.inl rfl) (fe_of ve_str))
      (vss_one (vs_ret (ve_of (fe_op (o_add rfl) (ve_name (pv 0)) (be_of ve_str))))))) ?_
  rintro ds c Q ⟨rfl, q⟩
  walk_at "wh"
  refine ⟨by decide, ?_⟩
  exact q _ (by rw [len_app]; decide) (by rw [len_app]; decide) (tOk_app (tOk_of (by decide)) (tOk_of (by decide)))
theorem ok__law_text (T : Txt P w K mg) : FnOk P w K mg base CX0 2 T.a__law_text T.d__law_text ["tape"] (spV (Sx T) mText) := by
  have G__law_draw := draw_v (S := Sx T) (ok__law_draw (P := P) (w := w) (base := base) T)
  have G__law_signs := ok__law_signs (P := P) (w := w) (base := base) T
  refine def_v (S := Sx T) (N := N__law_text) T.F__law_text sc__law_text rfl (fun ds c Q h => by obtain ⟨rfl, _⟩ := h; first | rfl | assumption) (fun cdv A outer s H E hr => (vss_cons (vs_set (i := 1) sc__law_text.nd rfl (.inl rfl) (fe_of (ve_call G__law_draw hr (by rfl) T.g__law_draw T.F__law_draw.kp T.b__law_draw (va_cons (ve_name (pv 0)) (va_cons ve_int va_nil)))))
      (vss_cons (vs_set (i := 2) sc__law_text.nd rfl (.inl rfl) (fe_op o_mod (ve_of (pe_CB1 c_int (fun hc ha => pe_callTy hc (by rfl) T.z_int boot_int ha) (be_name (pv 1)))) (be_of ve_int)))
      (vss_cons (vs_set (i := 3) sc__law_text.nd rfl (.inl rfl) (fe_of ve_str))
      (vss_cons (vs_if (vb_cmp o_lt (ve_name (pv 2)) (be_of ve_int) (nomark _)) (vss_cons (vs_for PassesOwn.never rfl (vi_range1 (by rfl) T.z_range (va_cons (ve_of (fe_ix (i_ix rfl (hu_of hr)) (ve_of (fe_lst (va_cons ve_int (va_cons ve_int (va_cons ve_int (va_cons ve_int (va_cons ve_int (va_cons ve_int va_nil)))))))) (be_name (pv 2)) (fun _ _ => rfl))) va_nil)) (vg_name (i := 4) [4] (by decide) sc__law_text.nd rfl (.inl rfl))
      (vss_one (vs_set (i := 3) sc__law_text.nd rfl (.inl rfl) (fe_op (o_add rfl) (ve_name (pv 3)) (be_of (ve_of (fe_ix (i_ix rfl (hu_of hr)) ve_str (be_of (ve_of (fe_op o_mod (ve_of (pe_CB1 c_int (fun hc ha => pe_callTy hc (by rfl) T.z_int boot_int ha) (be_of (ve_of (fe_op o_fdiv (ve_name (pv 1)) (be_of (ve_of (fe_ix (i_ix rfl (hu_of hr)) (ve_of (fe_lst (va_cons ve_int (va_cons ve_int (va_cons ve_int va_nil))))) (be_name (pv 4)) (fun _ _ => rfl))))))))) (be_of ve_int)))) (fun _ _ => rfl))))))))
      (vss_one (vs_ret (ve_name (pv 3))))) vss_nil)
      (vss_cons (vs_for PassesOwn.never rfl (vi_range1 (by rfl) T.z_range (va_cons (ve_of (fe_ix (i_ix rfl (hu_of hr)) (ve_of (fe_lst (va_cons ve_int (va_cons (ve_of (fe_op o_fdiv (ve_name (pv 1)) (be_of ve_int))) va_nil)))) (be_of (ve_of (fe_op o_sub (ve_name (pv 2)) (be_of ve_int)))) (fun _ _ => rfl))) va_nil)) (vg_name (i := 4) [4] (by decide) sc__law_text.nd rfl (.inl rfl))
      (vss_one (vs_set (i := 3) sc__law_text.nd rfl (.inl rfl) (fe_op (o_add rfl) (ve_name (pv 3)) (be_of (ve_of (fe_ix (i_ix rfl (hu_of hr)) (ve_call0 G__law_signs hr (by rfl) T.g__law_signs T.F__law_signs.kp T.b__law_signs) (be_of (ve_call G__law_draw hr (by rfl) T.g__law_draw T.F__law_draw.kp T.b__law_draw (va_cons (ve_name (pv 0)) (va_cons ve_int va_nil)))) (fun _ _ => rfl))))))))
      (vss_one (vs_ret (ve_name (pv 3)))))))))) ?_
  rintro ds c Q ⟨rfl, q⟩
  refine ⟨21000, rfl, Nat.zero_le _, dm (by decide), fun r hr => ?_⟩
  have hr : r < 21000 := by omega
  have sl : ("abB' " : Tx).length = 5 := by decide
  have l0 : ("" : Tx).length = 0 := by decide
  have so : tOk "abB' " := tOk_of (by decide)
  have t0 : tOk "" := tOk_of (by decide)
  walk_at "vv"
  walk_at "wh"
  refine bothD (fun e => ?_) (fun e => ?_)
  · obtain ⟨d5, ed5, md5⟩ := pickI (l := [D.int 0, .int 1, .int 1, .int 1, .int 2, .int 3]) (i := (r : Int) % 8) (by omega) (by simp; omega)
    obtain ⟨z5, rfl, hz5⟩ := int_mem (P := fun i => 0 ≤ i ∧ i ≤ 3) md5 (by simp)
    walk_at "vv"
    refine withD_of ed5 ?_
    walk_at "wh"
    refine ⟨⟨by omega, by omega⟩, ?_⟩
    refine ⟨fun i E => Iv (∃ (x : Tx) (y : SV), E = ⟨[.v .tape, .v (.int r), .v (.int ((r : Int) % 8)), .v (.str x), y], c⟩ ∧ x.length ≤ i ∧ tOk x), .a ⟨_, _, rfl, Nat.le_refl _, t0⟩, ?_, ?_⟩
    · intro i d E ed iv
      obtain ⟨x, y, rfl, hx, hx2⟩ := iv.out
      obtain ⟨rfl, hi⟩ := rng_at ed
      have hi : i < 3 := by omega
      obtain ⟨d6, ed6, md6⟩ := pickI (l := [D.int 8, .int 40, .int 200]) (i := 0 + (i : Int)) (by omega) (by simp; omega)
      obtain ⟨z6, rfl, hz6⟩ := int_mem (P := fun i => i = 8 ∨ i = 40 ∨ i = 200) md6 (by simp)
      walk_at "vv"
      refine withD_of ed6 ?_
      have hz7 : 0 ≤ (r : Int) / z6 := by rcases hz6 with rfl | rfl | rfl <;> omega
      have dv : CDivW (r : Int) z6 := by rcases hz6 with rfl | rfl | rfl <;> exact small_div (by omega) (by omega)
      walk_at "vv"
      obtain ⟨k2, hk2⟩ := sign_at (x := "abB' ") (i := (r : Int) / z6 % 5) (by omega) (by rw [sl]; omega)
      refine ⟨k2, hk2, ?_⟩
      refine ⟨by rw [one_len]; omega, ?_⟩
      exact .a ⟨_, _, rfl, by rw [len_app, one_len]; omega, tOk_app hx2 (tOk_one so hk2)⟩
    · intro E iv
      obtain ⟨x, y, rfl, hx, hx2⟩ := iv.out
      have e : (rng 0 z5.toNat).length ≤ 3 := by simp only [rng, List.length_map, List.length_range]; omega
      exact q _ (by omega) hx2
  · walk_at "vv"
    obtain ⟨d5, ed5, md5⟩ := pickI (l := [D.int 20, .int ((r : Int) / 1000)]) (i := (r : Int) % 8 - 6) (by omega) (by simp; omega)
    obtain ⟨z5, rfl, hz5⟩ := int_mem (P := fun i => 0 ≤ i ∧ i ≤ 21) md5 (by simp; omega)
    walk_at "vv"
    refine withD_of ed5 ?_
    walk_at "wh"
    refine ⟨⟨by omega, by omega⟩, ?_⟩
    refine ⟨fun i E => Iv (∃ (x : Tx) (y : SV), E = ⟨[.v .tape, .v (.int r), .v (.int ((r : Int) % 8)), .v (.str x), y], c⟩ ∧ x.length ≤ i ∧ tOk x), .a ⟨_, _, rfl, Nat.le_refl _, t0⟩, ?_, ?_⟩
    · intro i d E ed iv
      obtain ⟨x, y, rfl, hx, hx2⟩ := iv.out
      obtain ⟨rfl, hi⟩ := rng_at ed
      refine ⟨rfl, fun sg h1 h2 sgo => ?_⟩
      refine ⟨94, rfl, Nat.zero_le _, dm (by decide), fun r2 hr2 => ?_⟩
      obtain ⟨k2, hk2⟩ := sign_at (x := sg) (i := (r2 : Int)) (by omega) (by omega)
      walk_at "vv"
      refine ⟨k2, hk2, ?_⟩
      refine ⟨by rw [one_len]; omega, ?_⟩
      exact .a ⟨_, _, rfl, by rw [len_app, one_len]; omega, tOk_app hx2 (tOk_one sgo hk2)⟩
    · intro E iv
      obtain ⟨x, y, rfl, hx, hx2⟩ := iv.out
      have e : (rng 0 z5.toNat).length ≤ 21 := by simp only [rng, List.length_map, List.length_range]; omega
      exact q _ (by omega) hx2
end
end Va
set_option Elab.async false
set_option linter.all false
set_option maxRecDepth 100000
set_option maxHeartbeats 4000000
namespace Va
open PySem PySem.Spec PyProof.Rows L2 Ind RowK
local macro_rules | `(tactic| walk_at "cn") => `(tactic| first
  | assumption
  | omega
  | exact dm (by omega)
  | exact line (by simp)
  | exact line (by omega)
  | exact line (by simp only [len_app, len_one]; omega)
  | exact small_div (by omega) (by omega)
  | solve_by_elim
  | exact Or.inr ⟨by omega, by omega⟩
  | exact Or.inl ⟨by omega, by omega⟩
  | exact ⟨by omega, by omega⟩
  | decide)
local macro_rules | `(tactic| walk_at "st") => `(tactic| repeat (first
  | refine ⟨_, rfl, ?_⟩
  | refine ⟨_, _, rfl, rfl, ?_⟩
  | refine ⟨_, _, rfl, ?_⟩
  | refine .inl ⟨_, rfl, ?_⟩
  | refine And.intro rfl ?_
  | refine And.intro (by walk_at "cn") ?_))
local macro_rules | `(tactic| walk_at "fz") => `(tactic| repeat (first | exact Fz.refl | apply Fz.upd))
local macro_rules | `(tactic| walk_at "hl") => `(tactic| ((repeat rw [upd_ne (by assumption)]); assumption))
local macro_rules | `(tactic| walk_at "fy") => `(tactic| (intro b o n1 h; (repeat rw [upd_ne n1]); exact h))
local macro_rules | `(tactic| walk_at "wh") => `(tactic| (conv => whnf))
local macro_rules | `(tactic| walk_at "cv") => `(tactic| first
  | rfl
  | assumption
  | omega
  | exact dm (by omega)
  | exact small_div (by omega) (by omega)
  | (simp only [len_app, one_len, len_one, List.length_append, List.length_map, List.length_cons, List.length_nil]; omega)
  | exact Or.inr ⟨by omega, by omega⟩
  | exact Or.inl ⟨by omega, by omega⟩
  | exact ⟨by omega, by omega⟩
  | decide)
local macro_rules | `(tactic| walk_at "vv") => `(tactic| repeat (refine And.intro (by walk_at "cv") ?_))
local macro_rules | `(tactic| walk_at "sk") => `(tactic| repeat (first
  | refine wayT ?_
  | refine wayF ?_
  | refine skipT (by omega) ?_
  | refine skipF (by omega) ?_
  | refine skipT (by decide) ?_
  | refine skipF (by decide) ?_
  | refine ⟨_, (show tyNames _ = some _ from rfl), ?_⟩
  | refine And.intro (by walk_at "cv") ?_))
local macro_rules | `(tactic| walk_at "s0") => `(tactic| first
  | refine wayT ?_
  | refine wayF ?_
  | refine skipT (by omega) ?_
  | refine skipF (by omega) ?_
  | refine skipT (by decide) ?_
  | refine skipF (by decide) ?_
  | refine ⟨_, (show tyNames _ = some _ from rfl), ?_⟩
  | refine And.intro (by walk_at "cv") ?_)
local macro_rules | `(tactic| walk_at "s1") => `(tactic| try (walk_at "s0"; walk_at "wh"))
local macro_rules | `(tactic| walk_at "go") => `(tactic| (walk_at "wh"; repeat (walk_at "s0"; walk_at "wh")))
def mVal : VM := fun ds c Q => ∃ k : Cd, ds = [.tape, k.d] ∧ k.ok ∧ ∀ x : Cell, cellFit k x → Q (cellD x) c
def mRow : VM := fun ds c Q => ∃ cs : List Col, ds = [.tape, colsP cs] ∧ cs.length ≤ 100 ∧ (∀ p ∈ cs, p.2.ok) ∧ ∀ r : List Cell, rowFit cs r → Q (rowD r) c
theorem map_erase {α β : Type} (f : α → β) : ∀ (l : List α) (j : Nat), (l.eraseIdx j).map f = (l.map f).eraseIdx j
  | [], _ => rfl
  | x :: l, 0 => rfl
  | x :: l, j + 1 => by show f x :: (l.eraseIdx j).map f = f x :: (l.map f).eraseIdx j; rw [map_erase f l j]
theorem perm_erase {α : Type} : ∀ (l : List α) (j : Nat) (h : j < l.length), (l[j] :: l.eraseIdx j).Perm l
  | [], _, h => absurd h (Nat.not_lt_zero _)
  | x :: l, 0, _ => List.Perm.refl _
  | x :: l, j + 1, h => ((List.Perm.swap x (l[j]'(by simpa using h)) (l.eraseIdx j))).trans (List.Perm.cons x (perm_erase l j (by simpa using h)))
section
variable {P : Program} {w : World} {K : PySem.W.Frag} {mg : PySem.Str → Option Value} {base : Heap}
theorem ok__law_value (T : Txt P w K mg) : FnOk P w K mg base CX0 3 T.a__law_value T.d__law_value ["tape", "kind"] (spV (Sx T) mVal) := by
  have G__law_draw := draw_v (S := Sx T) (ok__law_draw (P := P) (w := w) (base := base) T)
  have G__law_text := ok__law_text (P := P) (w := w) (base := base) T
  refine def_v (S := Sx T) (N := N__law_value) T.F__law_value sc__law_value rfl (fun ds c Q h => by obtain ⟨k, rfl, _⟩ := h; first | rfl | assumption) (fun cdv A outer s H E hr => (vss_cons (vs_if (vb_cmp (o_eq rfl hr.units) (ve_of (fe_ixN (i_ix rfl (hu_of hr)) (pv 1) (be_of ve_int) (fun _ _ => rfl))) (be_of ve_str) (nomark _)) (vss_one (vs_ret (ve_call G__law_text hr (by rfl) T.g__law_text T.F__law_text.kp T.b__law_text (va_cons (ve_name (pv 0)) va_nil)))) vss_nil)
      (vss_cons (vs_set (i := 2) sc__law_value.nd rfl (.inl rfl) (fe_ixN (i_ix rfl (hu_of hr)) (pv 1) (be_of ve_int) (fun _ _ => rfl)))
      (vss_cons (vs_set (i := 3) sc__law_value.nd rfl (.inl rfl) (fe_of (ve_call G__law_draw (hr.mono (by omega)) (by rfl) T.g__law_draw T.F__law_draw.kp T.b__law_draw (va_cons (ve_name (pv 0)) (va_cons (ve_of (fe_op o_mul ve_int (be_of (ve_of (fe_op (o_add rfl) (ve_name (pv 2)) (be_of ve_int)))))) va_nil)))))
      (vss_cons (vs_set (i := 4) sc__law_value.nd rfl (.inl rfl) (fe_op o_mod (ve_of (pe_CB1 c_int (fun hc ha => pe_callTy hc (by rfl) T.z_int boot_int ha) (be_name (pv 3)))) (be_of ve_int)))
      (vss_cons (vs_if (vb_cmp o_lt (ve_name (pv 4)) (be_of ve_int) (nomark _)) (vss_one (vs_ret (ve_of (pe_CB (c_min rfl) (fun hc ha => pe_callB hc (by rfl) T.z_min boot_min ha) (va_cons (ve_name (pv 2)) (va_cons (ve_of (fe_op o_mod (ve_of (pe_CB1 c_int (fun hc ha => pe_callTy hc (by rfl) T.z_int boot_int ha) (be_of (ve_of (fe_op o_fdiv (ve_name (pv 3)) (be_of ve_int)))))) (be_of ve_int))) va_nil)))))) vss_nil)
      (vss_cons (vs_if (vb_cmp (o_eq rfl hr.units) (ve_name (pv 4)) (be_of ve_int) (nomark _)) (vss_one (vs_ret (ve_of (pe_CB (c_max rfl) (fun hc ha => pe_callB hc (by rfl) T.z_max boot_max ha) (va_cons (ve_neg (ve_name (pv 2))) (va_cons (ve_of (pe_CB (c_min rfl) (fun hc ha => pe_callB hc (by rfl) T.z_min boot_min ha) (va_cons (ve_name (pv 2)) (va_cons (ve_of (fe_op o_sub (ve_of (fe_op o_mod (ve_of (pe_CB1 c_int (fun hc ha => pe_callTy hc (by rfl) T.z_int boot_int ha) (be_of (ve_of (fe_op o_fdiv (ve_name (pv 3)) (be_of ve_int)))))) (be_of ve_int))) (be_of ve_int))) va_nil)))) va_nil)))))) vss_nil)
      (vss_cons (vs_if (vb_cmp (o_eq rfl hr.units) (ve_name (pv 4)) (be_of ve_int) (nomark _)) (vss_one (vs_ret (ve_of (fe_ix (i_ix rfl (hu_of hr)) (ve_of (fe_lst (va_cons (ve_name (pv 2)) (va_cons (ve_neg (ve_name (pv 2))) va_nil)))) (be_of (ve_of (fe_op o_mod (ve_of (pe_CB1 c_int (fun hc ha => pe_callTy hc (by rfl) T.z_int boot_int ha) (be_of (ve_of (fe_op o_fdiv (ve_name (pv 3)) (be_of ve_int)))))) (be_of ve_int)))) (fun _ _ => rfl))))) vss_nil)
      (vss_one (vs_ret (ve_of (fe_op o_sub (ve_of (fe_op o_mod (ve_of (pe_CB1 c_int (fun hc ha => pe_callTy hc (by rfl) T.z_int boot_int ha) (be_of (ve_of (fe_op o_mul (ve_of (fe_op o_fdiv (ve_name (pv 3)) (be_of ve_int))) (be_of ve_int)))))) (be_of (ve_of (fe_op (o_add rfl) (ve_of (fe_op o_mul ve_int (be_name (pv 2)))) (be_of ve_int)))))) (be_name (pv 2)))))))))))))) ?_
  rintro ds c Q ⟨k, rfl, hk, q⟩
  cases k with
  | s =>
    walk_at "go"
    exact fun x hx ht => q (.inr x) ⟨ht, hx⟩
  | n b =>
    have h0 : 0 ≤ b := hk.1
    have h1 : b ≤ 1000000000000 := hk.2
    have Q1 : ∀ i : Int, -b ≤ i → i ≤ b → Q (.int i) c := fun i z1 z2 => q (.inl i) ⟨z1, z2, h1⟩
    walk_at "go"
    refine ⟨_, rfl, Nat.zero_le _, dm (by omega), fun r hr => ?_⟩
    have hr : (r : Int) < 16 * (b + 1) ∨ r = 0 := hr
    walk_at "vv"
    walk_at "wh"
    refine bothD (fun e => ?_) (fun e => ?_)
    · walk_at "vv"
      refine Q1 _ ?_ ?_ <;> (split <;> omega)
    · walk_at "wh"
      refine bothD (fun e2 => ?_) (fun e2 => ?_)
      · walk_at "vv"
        refine Q1 _ ?_ ?_ <;> (repeat' split) <;> omega
      · walk_at "wh"
        refine bothD (fun e3 => ?_) (fun e3 => ?_)
        · obtain ⟨d5, ed5, md5⟩ := pickI (l := [D.int b, .int (-b)]) (i := (r : Int) / 8 % 2) (by omega) (by simp; omega)
          obtain ⟨z5, rfl, hz5⟩ := int_mem (P := fun i => -b ≤ i ∧ i ≤ b) md5 (by simp; omega)
          walk_at "vv"
          refine withD_of ed5 ?_
          refine Q1 _ ?_ ?_ <;> omega
        · walk_at "vv"
          have m1 := Int.emod_nonneg ((r : Int) / 8 * 1000003) (b := 2 * b + 1) (by omega)
          have m2 := Int.emod_lt_of_pos ((r : Int) / 8 * 1000003) (b := 2 * b + 1) (by omega)
          refine Q1 _ ?_ ?_
          · show -b ≤ (r : Int) / 8 * 1000003 % (2 * b + 1) - b
            omega
          · show (r : Int) / 8 * 1000003 % (2 * b + 1) - b ≤ b
            omega
theorem ok__law_row (T : Txt P w K mg) : FnOk P w K mg base CX0 4 T.a__law_row T.d__law_row ["tape", "columns"] (spV (Sx T) mRow) := by
  have G__law_value := ok__law_value (P := P) (w := w) (base := base) T
  refine def_v (S := Sx T) (N := N__law_row) T.F__law_row sc__law_row rfl (fun ds c Q h => by obtain ⟨cs, rfl, _⟩ := h; first | rfl | assumption) (fun cdv A outer s H E hr => (vss_one (vs_ret (ve_of (pe_CB1 (c_tupleD rfl rfl) (fun hc ha => pe_callTy hc (by rfl) T.z_tuple boot_tuple ha) (be_of (ve_of (fe_fz 0 (fe_lc (own := [("column", 2)]) rfl sc__law_row.nd (vi_any rfl (ve_name (pv 1))) (blkOk_by (own := [("column", 2)]) (N := N__law_row) (sc := defScope s__law_row) (by decide +kernel)) (fun _ _ _ _ _ => (vg_name (i := 2) [2] (by decide) sc__law_row.nd rfl (.inl rfl))) (fun _ _ _ _ _ => vts_nil) (fun _ _ _ _ _ => (ve_call G__law_value hr (by rfl) T.g__law_value T.F__law_value.kp T.b__law_value (va_cons (ve_name (pv 0)) (va_cons (ve_of (fe_ixN (i_ix rfl (hu_of hr)) (pv 2) (be_of ve_int) (fun _ _ => rfl))) va_nil))))))))))))) ?_
  rintro ds c Q ⟨cs, rfl, hl, hk, q⟩
  walk_at "wh"
  refine ⟨by rw [List.length_map]; omega, fun i acc k => Iv (∃ r : List Cell, acc = r.map cellD ∧ r.length = i ∧ (∀ (j : Nat) (x : Cell) (p : Col), r[j]? = some x → cs[j]? = some p → cellFit p.2 x) ∧ k = c), .a ⟨[], rfl, rfl, (fun j x p e => by simp at e), rfl⟩, ?_, ?_⟩
  · intro i d acc k ed iv la
    obtain ⟨r, rfl, hr, hf, ek⟩ := iv.out
    subst k
    obtain ⟨p, ep, rfl⟩ := map_get ed
    refine wayT ?_
    walk_at "wh"
    refine ⟨p.2, rfl, hk p (List.mem_of_getElem? ep), fun x hx => ?_⟩
    refine .a ⟨r ++ [x], by rw [List.map_append]; rfl, by simp [hr], fun j y z e1 e2 => ?_, rfl⟩
    by_cases hj : j < r.length
    · rw [List.getElem?_append_left hj] at e1
      exact hf j y z e1 e2
    · have : j = i := by
        have := (List.getElem?_eq_some_iff.mp e1).1
        simp at this
        omega
      subst this
      rw [← hr, List.getElem?_concat_length] at e1
      rw [ep] at e2
      cases e1
      cases e2
      exact hx
  · intro acc k iv la
    obtain ⟨r, rfl, hr, hf, ek⟩ := iv.out
    subst k
    rw [List.length_map] at hr
    walk_at "wh"
    exact q r ⟨hr, hf⟩
end
end Va
set_option Elab.async false
set_option linter.all false
set_option maxRecDepth 100000
set_option maxHeartbeats 4000000
namespace Va
open PySem PySem.Spec PyProof.Rows L2 Ind RowK
local macro_rules | `(tactic| walk_at "cn") => `(tactic| first
  | assumption
  | omega
  | exact dm (by omega)
  | exact line (by simp)
  | exact line (by omega)
  | exact line (by simp only [len_app, len_one]; omega)
  | exact small_div (by omega) (by omega)
  | solve_by_elim
  | exact Or.inr ⟨by omega, by omega⟩
  | exact Or.inl ⟨by omega, by omega⟩
  | exact ⟨by omega, by omega⟩
  | decide)
local macro_rules | `(tactic| walk_at "st") => `(tactic| repeat (first
  | refine ⟨_, rfl, ?_⟩
  | refine ⟨_, _, rfl, rfl, ?_⟩
  | refine ⟨_, _, rfl, ?_⟩
  | refine .inl ⟨_, rfl, ?_⟩
  | refine And.intro rfl ?_
  | refine And.intro (by walk_at "cn") ?_))
local macro_rules | `(tactic| walk_at "fz") => `(tactic| repeat (first | exact Fz.refl | apply Fz.upd))
local macro_rules | `(tactic| walk_at "hl") => `(tactic| ((repeat rw [upd_ne (by assumption)]); assumption))
local macro_rules | `(tactic| walk_at "fy") => `(tactic| (intro b o n1 h; (repeat rw [upd_ne n1]); exact h))
local macro_rules | `(tactic| walk_at "wh") => `(tactic| (conv => whnf))
local macro_rules | `(tactic| walk_at "cv") => `(tactic| first
  | rfl
  | assumption
  | omega
  | exact dm (by omega)
  | exact small_div (by omega) (by omega)
  | (simp only [len_app, one_len, len_one, List.length_append, List.length_map, List.length_cons, List.length_nil]; omega)
  | exact Or.inr ⟨by omega, by omega⟩
  | exact Or.inl ⟨by omega, by omega⟩
  | exact ⟨by omega, by omega⟩
  | decide)
local macro_rules | `(tactic| walk_at "vv") => `(tactic| repeat (refine And.intro (by walk_at "cv") ?_))
local macro_rules | `(tactic| walk_at "sk") => `(tactic| repeat (first
  | refine wayT ?_
  | refine wayF ?_
  | refine skipT (by omega) ?_
  | refine skipF (by omega) ?_
  | refine skipT (by decide) ?_
  | refine skipF (by decide) ?_
  | refine ⟨_, (show tyNames _ = some _ from rfl), ?_⟩
  | refine And.intro (by walk_at "cv") ?_))
local macro_rules | `(tactic| walk_at "s0") => `(tactic| first
  | refine wayT ?_
  | refine wayF ?_
  | refine skipT (by omega) ?_
  | refine skipF (by omega) ?_
  | refine skipT (by decide) ?_
  | refine skipF (by decide) ?_
  | refine ⟨_, (show tyNames _ = some _ from rfl), ?_⟩
  | refine And.intro (by walk_at "cv") ?_)
local macro_rules | `(tactic| walk_at "s1") => `(tactic| try (walk_at "s0"; walk_at "wh"))
local macro_rules | `(tactic| walk_at "go") => `(tactic| (walk_at "wh"; repeat (walk_at "s0"; walk_at "wh")))
def pcD (p : Tx × Bool) : D := .tup [.str p.1, .str (if p.2 then "integer" else "string")]
def pcC (p : Tx × Bool) : Col := (p.1, if p.2 then .n 1000000 else .s)
def mSome : VM := fun ds c Q => ∃ ps : List (Tx × Bool), ds = [.tape, .lst (ps.map pcD)] ∧ ps ≠ [] ∧ ps.length ≤ 100 ∧ (ps.map (·.1)).Nodup ∧ ∀ ks : List (Tx × Bool), ks ≠ [] → ks.length ≤ ps.length → (ks.map (·.1)).Nodup → (∀ p ∈ ks, p ∈ ps) → Q (.tup (ks.map pcD)) c
def mKinds : VM := fun ds c Q => ∃ ps : List (Tx × Bool), ds = [.tup (ps.map pcD)] ∧ ps.length ≤ 100 ∧ Q (colsP (ps.map pcC)) c
structure Tb where
  name : Tx
  cols : List (Tx × Bool)
  lim : Int
def Tb.d (t : Tb) : D := .tup [.str t.name, .tup (t.cols.map pcD), .tup (t.cols.map fun p => .str p.1), .int t.lim, .tup [], .tup []]
structure Tb.ok (t : Tb) : Prop where
  ne : t.cols ≠ []
  len : t.cols.length ≤ 7
  tk : ∀ p ∈ t.cols, tOk p.1 ∧ p.1.length ≤ 20
  l1 : 2 ≤ t.lim
  l2 : t.lim ≤ 60
def mTabs : VM := fun ds c Q => ∃ ns : List Tx, ds = [.tape, .lst (ns.map .str)] ∧ ns.length ≤ 3 ∧ ∀ ts : List Tb, ts.map (·.name) = ns → (∀ t ∈ ts, t.ok) → Q (.tup (ts.map Tb.d)) c
theorem str_int : ¬ ("string" : Tx) = "integer" := by decide
theorem nL20 {x : Tx} (h : nL x) : x.length ≤ 20 := by
  unfold nL at h
  omega
section
variable {P : Program} {w : World} {K : PySem.W.Frag} {mg : PySem.Str → Option Value} {base : Heap}
theorem ok__law_some (T : Txt P w K mg) : FnOk P w K mg base CX0 2 T.a__law_some T.d__law_some ["tape", "names"] (spV (Sx T) mSome) := by
  have G__law_draw := draw_v (S := Sx T) (ok__law_draw (P := P) (w := w) (base := base) T)
  refine def_v (S := Sx T) (N := N__law_some) T.F__law_some sc__law_some rfl (fun ds c Q h => by obtain ⟨ps, rfl, _⟩ := h; first | rfl | assumption) (fun cdv A outer s H E hr => (vss_cons (vs_set (i := 2) sc__law_some.nd rfl (.inl rfl) (pe_CB1 (c_listD rfl rfl) (fun hc ha => pe_callTy hc (by rfl) T.z_list boot_list ha) (be_name (pv 1))))
      (vss_cons (vs_set (i := 3) sc__law_some.nd rfl (.inl rfl) (fe_lst va_nil))
      (vss_cons (vs_for PassesOwn.never rfl (vi_range1 (by rfl) T.z_range (va_cons (ve_of (fe_op (o_add rfl) ve_int (be_of (ve_call G__law_draw hr (by rfl) T.g__law_draw T.F__law_draw.kp T.b__law_draw (va_cons (ve_name (pv 0)) (va_cons (ve_of (pe_CB1 (c_len rfl) (fun hc ha => pe_callB hc (by rfl) T.z_len boot_len ha) (be_name (pv 2)))) va_nil)))))) va_nil)) (vg_name (i := 4) [4] (by decide) sc__law_some.nd rfl (.inl rfl))
      (vss_one (vs_append rfl (pv 3) (ve_popAt (pv 2) (ve_call G__law_draw hr (by rfl) T.g__law_draw T.F__law_draw.kp T.b__law_draw (va_cons (ve_name (pv 0)) (va_cons (ve_of (pe_CB1 (c_len rfl) (fun hc ha => pe_callB hc (by rfl) T.z_len boot_len ha) (be_name (pv 2)))) va_nil)))))))
      (vss_one (vs_ret (ve_of (pe_CB1 (c_tupleD rfl rfl) (fun hc ha => pe_callTy hc (by rfl) T.z_tuple boot_tuple ha) (be_name (pv 3)))))))))) ?_
  rintro ds c Q ⟨cs, rfl, h0, hl, nd, q⟩
  have l1 : 0 < cs.length := List.length_pos_iff.mpr h0
  walk_at "wh"
  refine ⟨by show 0 ≤ 1000; decide, ?_⟩
  walk_at "wh"
  refine ⟨(cs.length : Int), by rw [List.length_map]; rfl, Nat.zero_le _, dm (by omega), fun r hr => ?_⟩
  have hr : r < cs.length := by omega
  walk_at "wh"
  refine ⟨⟨by omega, by omega⟩, ?_⟩
  have lr : (rng 0 ((1 : Int) + (r : Nat)).toNat).length = 1 + r := by simp only [rng, List.length_map, List.length_range]; omega
  refine ⟨fun i E => Iv (∃ (ls ks : List (Tx × Bool)) (y : SV), E = ⟨[.v .tape, .v (.lst (cs.map pcD)), .ol (ls.map pcD), .ol (ks.map pcD), y], c⟩ ∧ (ks ++ ls).Perm cs ∧ ks.length = i), .a ⟨cs, [], _, rfl, List.Perm.refl _, rfl⟩, ?_, ?_⟩
  · intro i d E ed iv
    obtain ⟨ls, ks, y, rfl, hp, hk⟩ := iv.out
    have hi := (List.getElem?_eq_some_iff.mp ed).1
    rw [lr] at hi
    have pl := hp.length_eq
    rw [List.length_append] at pl
    walk_at "wh"
    refine ⟨(ls.length : Int), by rw [List.length_map]; rfl, Nat.zero_le _, dm (by omega), fun j hj => ?_⟩
    have hj : j < ls.length := by omega
    have ej := List.getElem?_eq_getElem hj
    refine ⟨j, pcD ls[j], rfl, by omega, by rw [List.getElem?_map, ej]; rfl, ?_⟩
    refine ⟨by rw [List.length_map]; omega, ?_⟩
    refine .a ⟨ls.eraseIdx j, ks ++ [ls[j]], _, by rw [List.map_append, map_erase]; rfl, ?_, by simp [hk]⟩
    have p1 : (ls[j] :: ls.eraseIdx j).Perm ls := perm_erase ls j hj
    rw [List.append_assoc]
    exact (List.Perm.append_left ks p1).trans hp
  · intro E iv
    obtain ⟨ls, ks, y, rfl, hp, hk⟩ := iv.out
    rw [lr] at hk
    have pl := hp.length_eq
    rw [List.length_append] at pl
    walk_at "wh"
    refine q ks (fun e => by have : ks.length = 0 := (by rw [e]; rfl); omega) (by omega) ?_ (fun p h => hp.mem_iff.mp (List.mem_append_left _ h))
    have := (hp.map (·.1)).nodup_iff.mpr nd
    rw [List.map_append] at this
    exact (List.nodup_append.mp this).1
theorem ok__law_kinds (T : Txt P w K mg) : FnOk P w K mg base CX0 1 T.a__law_kinds T.d__law_kinds ["columns"] (spV (Sx T) mKinds) := by
  refine def_v (S := Sx T) (N := N__law_kinds) T.F__law_kinds sc__law_kinds rfl (fun ds c Q h => by obtain ⟨ps, rfl, _⟩ := h; first | rfl | assumption) (fun cdv A outer s H E hr => (vss_cons (vs_set (i := 1) sc__law_kinds.nd rfl (.inl rfl) (fe_lst va_nil))
      (vss_cons (vs_for PassesOwn.never rfl (vi_any rfl (ve_name (pv 0))) (vg_name (i := 2) [2] (by decide) sc__law_kinds.nd rfl (.inl rfl))
      (vss_one (vs_if (vb_cmp (o_eq rfl hr.units) (ve_of (fe_ixN (i_ix rfl (hu_of hr)) (pv 2) (be_of ve_int) (fun _ _ => rfl))) (be_of ve_str) (nomark _)) (vss_one (vs_append rfl (pv 1) (ve_tup (va_cons (ve_of (fe_ixN (i_ix rfl (hu_of hr)) (pv 2) (be_of ve_int) (fun _ _ => rfl))) (va_cons (ve_tup (va_cons ve_str (va_cons ve_int va_nil))) va_nil))))) (vss_one (vs_append rfl (pv 1) (ve_tup (va_cons (ve_of (fe_ixN (i_ix rfl (hu_of hr)) (pv 2) (be_of ve_int) (fun _ _ => rfl))) (va_cons (ve_tup (va_cons ve_str va_nil)) va_nil))))))))
      (vss_one (vs_ret (ve_of (pe_CB1 (c_tupleP rfl) (fun hc ha => pe_callTy hc (by rfl) T.z_tuple boot_tuple ha) (be_name (pv 1))))))))) ?_
  rintro ds c Q ⟨ps, rfl, hl, q⟩
  walk_at "wh"
  refine ⟨by show 0 ≤ 1000; decide, ?_⟩
  refine ⟨fun i E => Iv (∃ y : SV, E = ⟨[.v (.tup (ps.map pcD)), .ol (((ps.take i).map pcC).map colD), y], c⟩), .a ⟨_, rfl⟩, ?_, ?_⟩
  · intro i d E ed iv
    obtain ⟨y, rfl⟩ := iv.out
    obtain ⟨p, ep, rfl⟩ := map_get ed
    have hi := (List.getElem?_eq_some_iff.mp ep).1
    obtain ⟨x, b⟩ := p
    have lt : ((ps.take i).map pcC).length ≤ 100 := by rw [List.length_map, List.length_take]; omega
    cases b with
    | true =>
      walk_at "wh"
      refine bothD (fun _ => ?_) (fun e => absurd (rfl : ("integer" : Tx) = "integer") e)
      refine ⟨by show 2 ≤ 1000; decide, by show 2 ≤ 1000; decide, ?_⟩
      walk_at "wh"
      refine ⟨by rw [List.length_map]; omega, ?_⟩
      refine .a ⟨.v (pcD (x, true)), ?_⟩
      rw [take_more ep, List.map_append, List.map_append]
      rfl
    | false =>
      walk_at "wh"
      refine bothD (fun e => absurd (e : ("string" : Tx) = "integer") str_int) (fun _ => ?_)
      refine ⟨by show 1 ≤ 1000; decide, by show 2 ≤ 1000; decide, ?_⟩
      walk_at "wh"
      refine ⟨by rw [List.length_map]; omega, ?_⟩
      refine .a ⟨.v (pcD (x, false)), ?_⟩
      rw [take_more ep, List.map_append, List.map_append]
      rfl
  · intro E iv
    obtain ⟨y, rfl⟩ := iv.out
    rw [List.length_map, List.take_length]
    walk_at "wh"
    exact q
theorem ok__law_plain_tables (T : Txt P w K mg) : FnOk P w K mg base CX0 4 T.a__law_plain_tables T.d__law_plain_tables ["tape", "names"] (spV (Sx T) mTabs) := by
  have G__law_draw := draw_v (S := Sx T) (ok__law_draw (P := P) (w := w) (base := base) T)
  have G__law_names := ok__law_names (P := P) (w := w) (base := base) T
  have G__law_some := ok__law_some (P := P) (w := w) (base := base) T
  refine def_v (S := Sx T) (N := N__law_plain_tables) T.F__law_plain_tables sc__law_plain_tables rfl (fun ds c Q h => by obtain ⟨ns, rfl, _⟩ := h; first | rfl | assumption) (fun cdv A outer s H E hr => (vss_cons (vs_set (i := 2) sc__law_plain_tables.nd rfl (.inl rfl) (fe_ix (i_ix rfl (hu_of hr)) (ve_of (fe_lst (va_cons ve_int (va_cons ve_int (va_cons ve_int va_nil))))) (be_of (ve_call G__law_draw (hr.mono (by omega)) (by rfl) T.g__law_draw T.F__law_draw.kp T.b__law_draw (va_cons (ve_name (pv 0)) (va_cons ve_int va_nil)))) (fun _ _ => rfl)))
      (vss_cons (vs_fz 0 (vs_setLc (i := 4) (own := [("name", 3)]) rfl sc__law_plain_tables.nd rfl rfl (sw_true rfl rfl rfl (by decide +kernel)) (vi_any rfl (ve_call G__law_names hr (by rfl) T.g__law_names T.F__law_names.kp T.b__law_names (va_cons (ve_name (pv 0)) (va_cons (ve_name (pv 2)) va_nil)))) (blkOk_by (own := [("name", 3)]) (N := N__law_plain_tables) (sc := defScope s__law_plain_tables) (by decide +kernel)) (fun _ _ _ _ _ => (vg_name (i := 3) [3] (by decide) sc__law_plain_tables.nd rfl (.inl rfl))) (fun _ _ _ _ _ => vts_nil) (fun _ _ _ _ _ => (ve_tup (va_cons (ve_name (pv 3)) (va_cons (ve_of (fe_ix (i_ix rfl (hu_of hr)) (ve_of (fe_lst (va_cons ve_str (va_cons ve_str (va_cons ve_str va_nil))))) (be_of (ve_call G__law_draw (hr.mono (by omega)) (by rfl) T.g__law_draw T.F__law_draw.kp T.b__law_draw (va_cons (ve_name (pv 0)) (va_cons ve_int va_nil)))) (fun _ _ => rfl))) va_nil))))))
      (vss_cons (vs_set (i := 5) sc__law_plain_tables.nd rfl (.inl rfl) (fe_lst va_nil))
      (vss_cons (vs_fz 4 (vs_for PassesOwn.never rfl (vi_any rfl (ve_name (pv 1))) (vg_name (i := 3) [3] (by decide) sc__law_plain_tables.nd rfl (.inl rfl))
      (vss_cons (vs_set (i := 6) sc__law_plain_tables.nd rfl (.inl rfl) (fe_slice rfl (ve_call G__law_some (hr.mono (by omega)) (by rfl) T.g__law_some T.F__law_some.kp T.b__law_some (va_cons (ve_name (pv 0)) (va_cons (ve_name (pv 4)) va_nil))) vo_none (vo_some (ve_of (fe_op o_sub (ve_name (pv 2)) (be_of ve_int))))))
      (vss_cons (vs_set (i := 7) sc__law_plain_tables.nd rfl (.inl rfl) (fe_ix (i_ix rfl (hu_of hr)) (ve_of (fe_lst (va_cons ve_int (va_cons ve_int (va_cons ve_int (va_cons ve_int (va_cons ve_int va_nil))))))) (be_of (ve_call G__law_draw (hr.mono (by omega)) (by rfl) T.g__law_draw T.F__law_draw.kp T.b__law_draw (va_cons (ve_name (pv 0)) (va_cons ve_int va_nil)))) (fun _ _ => rfl)))
      (vss_one (vs_append rfl (pv 5) (ve_tup (va_cons (ve_name (pv 3)) (va_cons (ve_name (pv 6)) (va_cons (ve_of (pe_CB1 (c_tupleD rfl rfl) (fun hc ha => pe_callTy hc (by rfl) T.z_tuple boot_tuple ha) (be_of (ve_of (fe_lc (own := [("column", 8)]) rfl sc__law_plain_tables.nd (vi_any rfl (ve_name (pv 6))) (blkOk_by (own := [("column", 8)]) (N := N__law_plain_tables) (sc := defScope s__law_plain_tables) (by decide +kernel)) (fun _ _ _ _ _ => (vg_name (i := 8) [8] (by decide) sc__law_plain_tables.nd rfl (.inl rfl))) (fun _ _ _ _ _ => vts_nil) (fun _ _ _ _ _ => (ve_of (fe_ixN (i_ix rfl (hu_of hr)) (pv 8) (be_of ve_int) (fun _ _ => rfl))))))))) (va_cons (ve_name (pv 7)) (va_cons (ve_tup va_nil) (va_cons (ve_tup va_nil) va_nil)))))))))))))
      (vss_one (vs_ret (ve_of (pe_CB1 (c_tupleD rfl rfl) (fun hc ha => pe_callTy hc (by rfl) T.z_tuple boot_tuple ha) (be_name (pv 5))))))))))) ?_
  rintro ds c Q ⟨ns, rfl, hl, q⟩
  walk_at "wh"
  refine ⟨by show 3 ≤ 1000; decide, 3, rfl, Nat.zero_le _, dm (by decide), fun r hr => ?_⟩
  obtain ⟨d5, ed5, md5⟩ := pickD (l := [D.int 5, .int 5, .int 8]) (i := r) (by simp; omega)
  obtain ⟨z5, rfl, hz5⟩ := int_mem (P := fun i => i = 5 ∨ i = 8) md5 (by simp)
  refine withD_of ed5 ?_
  walk_at "wh"
  obtain ⟨m, em, hm1, hm2⟩ : ∃ m : Nat, z5 = m ∧ 5 ≤ m ∧ m ≤ 8 := by
    rcases hz5 with rfl | rfl
    · exact ⟨5, rfl, by decide, by decide⟩
    · exact ⟨8, rfl, by decide, by decide⟩
  subst em
  refine ⟨m, rfl, by omega, fun xs h1 h2 h3 h4 => ?_⟩
  have x0 := h2 (by omega)
  refine ⟨by rw [List.length_map]; omega, fun i acc k => Iv (∃ ps : List (Tx × Bool), acc = ps.map pcD ∧ ps.map (·.1) = xs.take i ∧ k = c), .a ⟨[], rfl, rfl, rfl⟩, ?_, ?_⟩
  · intro i d acc k ed iv la
    obtain ⟨ps, rfl, e1, rfl⟩ := iv.out
    obtain ⟨x, ex, rfl⟩ := map_get ed
    refine wayT ?_
    refine ⟨by show 3 ≤ 1000; decide, 3, rfl, Nat.zero_le _, dm (by decide), fun r2 hr2 => ?_⟩
    obtain ⟨d6, ed6, md6⟩ := pickD (l := [D.str "integer", .str "integer", .str "string"]) (i := r2) (by simp; omega)
    walk_at "wh"
    refine withD_of ed6 ?_
    refine ⟨by show 2 ≤ 1000; decide, ?_⟩
    simp only [List.mem_cons, List.not_mem_nil, or_false] at md6
    rcases md6 with rfl | rfl | rfl
    · exact .a ⟨ps ++ [(x, true)], by rw [List.map_append]; rfl, by rw [List.map_append, e1, take_more ex]; rfl, rfl⟩
    · exact .a ⟨ps ++ [(x, true)], by rw [List.map_append]; rfl, by rw [List.map_append, e1, take_more ex]; rfl, rfl⟩
    · exact .a ⟨ps ++ [(x, false)], by rw [List.map_append]; rfl, by rw [List.map_append, e1, take_more ex]; rfl, rfl⟩
  · intro acc k iv la
    obtain ⟨ps, rfl, e1, rfl⟩ := iv.out
    rw [List.length_map, List.take_length] at e1
    have el : ps.length = xs.length := by rw [← e1, List.length_map]
    have p0 : ps ≠ [] := fun z => x0 (by rw [← e1, z]; rfl)
    walk_at "wh"
    refine ⟨by show 0 ≤ 1000; decide, ?_⟩
    refine ⟨fun i E => Iv (∃ (ts : List Tb) (y1 y2 y3 y4 : SV), E = ⟨[.v .tape, .v (.lst (ns.map .str)), .v (.int m), y1, .v (.lst (ps.map pcD)), .ol (ts.map Tb.d), y2, y3, y4], k⟩ ∧ ts.map (·.name) = ns.take i ∧ ∀ t ∈ ts, t.ok), .a ⟨[], _, _, _, _, rfl, rfl, fun _ h => nomatch h⟩, ?_, ?_⟩
    · intro i d E ed iv
      obtain ⟨ts, y1, y2, y3, y4, rfl, e2, hts⟩ := iv.out
      obtain ⟨x, ex, rfl⟩ := map_get ed
      have hi := (List.getElem?_eq_some_iff.mp ex).1
      have lt : ts.length ≤ ns.length := by
        have := congrArg List.length e2
        rw [List.length_map, List.length_take] at this
        omega
      walk_at "wh"
      refine ⟨ps, rfl, p0, by omega, by rw [e1]; exact h3, fun ks k0 k1 k2 k3 => ?_⟩
      walk_at "wh"
      have em : ((m : Int) - 1) = ((m - 1 : Nat) : Int) := by omega
      rw [em, cut_take, ← List.map_take]
      refine ⟨by show 5 ≤ 1000; decide, 5, rfl, Nat.zero_le _, dm (by decide), fun r2 hr2 => ?_⟩
      obtain ⟨d6, ed6, md6⟩ := pickD (l := [D.int 2, .int 3, .int 5, .int 8, .int 60]) (i := r2) (by simp; omega)
      obtain ⟨l, rfl, hz6⟩ := int_mem (P := fun i => 2 ≤ i ∧ i ≤ 60) md6 (by simp)
      have l1 := hz6.1
      have l2 := hz6.2
      refine withD_of ed6 ?_
      walk_at "wh"
      refine ⟨by rw [List.length_map, List.length_take]; omega, fun j acc k2 => Iv (acc = ((ks.take (m - 1)).take j).map (fun p => D.str p.1) ∧ k2 = k), .a ⟨rfl, rfl⟩, ?_, ?_⟩
      · intro j d acc k2 ed iv la
        obtain ⟨rfl, rfl⟩ := iv.out
        obtain ⟨p, ep, rfl⟩ := map_get ed
        refine wayT ?_
        walk_at "wh"
        refine .a ⟨?_, rfl⟩
        rw [take_more ep, List.map_append]
        rfl
      · intro acc k2 iv la
        obtain ⟨rfl, rfl⟩ := iv.out
        rw [List.length_map, List.take_length]
        walk_at "wh"
        refine ⟨by show 0 ≤ 1000; decide, by show 0 ≤ 1000; decide, by show 6 ≤ 1000; decide, ?_⟩
        refine ⟨by rw [List.length_map]; omega, ?_⟩
        refine .a ⟨ts ++ [⟨x, ks.take (m - 1), l⟩], .v (.str x), .v (.tup ((ks.take (m - 1)).map pcD)), .v (.int l), y4, by rw [List.map_append]; rfl, by rw [List.map_append, e2, take_more ex]; rfl, fun t ht => ?_⟩
        rcases List.mem_append.mp ht with h | h
        · exact hts t h
        cases List.mem_singleton.mp h
        have kl : 0 < ks.length := List.length_pos_iff.mpr k0
        refine ⟨fun e => by have := congrArg List.length (show ks.take (m - 1) = [] from e); rw [List.length_take] at this; simp only [List.length_nil] at this; omega, by show (ks.take (m - 1)).length ≤ 7; rw [List.length_take]; omega, fun p hp => ?_, l1, l2⟩
        have m1 := k3 p (List.mem_of_mem_take hp)
        have m2 : p.1 ∈ xs := by rw [← e1]; exact List.mem_map.mpr ⟨p, m1, rfl⟩
        exact ⟨(h4 _ m2).1, nL20 (h4 _ m2).2⟩
    · intro E iv
      obtain ⟨ts, y1, y2, y3, y4, rfl, e2, hts⟩ := iv.out
      rw [List.length_map, List.take_length] at e2
      walk_at "wh"
      exact q ts e2 hts
end
end Va
set_option Elab.async false
set_option linter.all false
set_option maxRecDepth 100000
set_option maxHeartbeats 4000000
namespace Va
open PySem PySem.Spec PyProof.Rows L2 Ind RowK
local macro_rules | `(tactic| walk_at "cn") => `(tactic| first
  | assumption
  | omega
  | exact dm (by omega)
  | exact line (by simp)
  | exact line (by omega)
  | exact line (by simp only [len_app, len_one]; omega)
  | exact small_div (by omega) (by omega)
  | solve_by_elim
  | exact Or.inr ⟨by omega, by omega⟩
  | exact Or.inl ⟨by omega, by omega⟩
  | exact ⟨by omega, by omega⟩
  | decide)
local macro_rules | `(tactic| walk_at "st") => `(tactic| repeat (first
  | refine ⟨_, rfl, ?_⟩
  | refine ⟨_, _, rfl, rfl, ?_⟩
  | refine ⟨_, _, rfl, ?_⟩
  | refine .inl ⟨_, rfl, ?_⟩
  | refine And.intro rfl ?_
  | refine And.intro (by walk_at "cn") ?_))
local macro_rules | `(tactic| walk_at "fz") => `(tactic| repeat (first | exact Fz.refl | apply Fz.upd))
local macro_rules | `(tactic| walk_at "hl") => `(tactic| ((repeat rw [upd_ne (by assumption)]); assumption))
local macro_rules | `(tactic| walk_at "fy") => `(tactic| (intro b o n1 h; (repeat rw [upd_ne n1]); exact h))
local macro_rules | `(tactic| walk_at "wh") => `(tactic| (conv => whnf))
local macro_rules | `(tactic| walk_at "cv") => `(tactic| first
  | rfl
  | assumption
  | omega
  | exact dm (by omega)
  | exact small_div (by omega) (by omega)
  | (simp only [len_app, one_len, len_one, List.length_append, List.length_map, List.length_cons, List.length_nil]; omega)
  | exact Or.inr ⟨by omega, by omega⟩
  | exact Or.inl ⟨by omega, by omega⟩
  | exact ⟨by omega, by omega⟩
  | decide)
local macro_rules | `(tactic| walk_at "vv") => `(tactic| repeat (refine And.intro (by walk_at "cv") ?_))
local macro_rules | `(tactic| walk_at "sk") => `(tactic| repeat (first
  | refine wayT ?_
  | refine wayF ?_
  | refine skipT (by omega) ?_
  | refine skipF (by omega) ?_
  | refine skipT (by decide) ?_
  | refine skipF (by decide) ?_
  | refine ⟨_, (show tyNames _ = some _ from rfl), ?_⟩
  | refine And.intro (by walk_at "cv") ?_))
local macro_rules | `(tactic| walk_at "s0") => `(tactic| first
  | refine wayT ?_
  | refine wayF ?_
  | refine skipT (by omega) ?_
  | refine skipF (by omega) ?_
  | refine skipT (by decide) ?_
  | refine skipF (by decide) ?_
  | refine ⟨_, (show tyNames _ = some _ from rfl), ?_⟩
  | refine And.intro (by walk_at "cv") ?_)
local macro_rules | `(tactic| walk_at "s1") => `(tactic| try (walk_at "s0"; walk_at "wh"))
local macro_rules | `(tactic| walk_at "go") => `(tactic| (walk_at "wh"; repeat (walk_at "s0"; walk_at "wh")))
theorem smal_two {a b : PyData} {k m n : Nat} (h1 : Smal a k m) (h2 : Smal b k n) : Smal (.tuple [a, b]) (k + 1) (m + n + 2) := by
  refine ⟨by simp [PyData.canLay0, PyData.canLayAll0, h1.lay, h2.lay], by simp [PyData.showable, PyData.showableAll, h1.sho, h2.sho], by simp [PyData.hasDict, PyData.hasDictAll, h1.nod, h2.nod], ?_, by simp [PyData.leavesShort, PyData.leavesShortAll, h1.leaf, h2.leaf], ?_⟩
  · have := h1.dep; have := h2.dep
    simp only [PyData.depth, PyData.depthAll]
    omega
  · have := h1.bulk; have := h2.bulk
    simp only [PyData.bulk, PyData.bulkAll]
    omega
theorem smal_three {a b c : PyData} {k m n o : Nat} (h1 : Smal a k m) (h2 : Smal b k n) (h3 : Smal c k o) : Smal (.tuple [a, b, c]) (k + 1) (m + n + o + 3) := by
  refine ⟨by simp [PyData.canLay0, PyData.canLayAll0, h1.lay, h2.lay, h3.lay], by simp [PyData.showable, PyData.showableAll, h1.sho, h2.sho, h3.sho], by simp [PyData.hasDict, PyData.hasDictAll, h1.nod, h2.nod, h3.nod], ?_, by simp [PyData.leavesShort, PyData.leavesShortAll, h1.leaf, h2.leaf, h3.leaf], ?_⟩
  · have := h1.dep; have := h2.dep; have := h3.dep
    simp only [PyData.depth, PyData.depthAll]
    omega
  · have := h1.bulk; have := h2.bulk; have := h3.bulk
    simp only [PyData.bulk, PyData.bulkAll]
    omega
def bF : Nat → Nat
  | 0 => 30
  | d + 1 => 2 * bF d + 10
theorem bF_pos : ∀ d, 30 ≤ bF d
  | 0 => Nat.le_refl _
  | d + 1 => by have := bF_pos d; show 30 ≤ 2 * bF d + 10; omega
structure FcS (ns : List Tx) (d : Nat) (F : Fc) : Prop where
  nms : ∀ x ∈ F.names, x ∈ ns
  dep : F.dep ≤ d
  wid : F.wid ≤ 6
  sm : Smal F.d.pd (2 * d + 1) (bF d)
  nol : noLst F.d.pd = true
theorem sStr {s : Tx} {k m : Nat} (h : (s.cps.toList.all fun c => decide (c < 0x110000)) = true := by decide) (hl : s.length ≤ m := by decide) : Smal (.str s) k m := smal_str (tOk_of h) hl
theorem fs_com {ns : List Tx} {x : Tx} (d : Nat) (t : tOk x) (l : x.length ≤ 20) (m : x ∈ ns) : FcS ns d (.com x) :=
  ⟨fun y hy => by rw [List.mem_singleton.mp hy]; exact m, Nat.zero_le _, Nat.zero_le _, (smal_two (k := 0) (sStr (s := "commits") (m := 7)) (smal_str t l)).mono (by omega) (by have := bF_pos d; omega), rfl⟩
theorem fs_tt {ns : List Tx} (d : Nat) : FcS ns d .tt := ⟨(fun _ h => nomatch h), Nat.zero_le _, Nat.zero_le _, (smal_tup (k := 0) (m := 4) (ds := [.str "true"]) (fun e he => by cases List.mem_singleton.mp he; exact sStr)).mono (by omega) (by have := bF_pos d; simp only [List.length_cons, List.length_nil]; omega), rfl⟩
theorem fs_ff {ns : List Tx} (d : Nat) : FcS ns d .ff := ⟨(fun _ h => nomatch h), Nat.zero_le _, Nat.zero_le _, (smal_tup (k := 0) (m := 5) (ds := [.str "false"]) (fun e he => by cases List.mem_singleton.mp he; exact sStr)).mono (by omega) (by have := bF_pos d; simp only [List.length_cons, List.length_nil]; omega), rfl⟩
theorem fs_neg {ns : List Tx} {d : Nat} {F : Fc} (h : FcS ns d F) : FcS ns (d + 1) (.neg F) := by
  refine ⟨h.nms, Nat.succ_le_succ h.dep, h.wid, (smal_two (k := 2 * d + 1) (sStr (s := "not") (m := 3)) h.sm).mono (by omega) (by show 3 + bF d + 2 ≤ 2 * bF d + 10; omega), ?_⟩
  show (true && (noLst F.d.pd && true)) = true
  rw [h.nol]; rfl
theorem fs_imp {ns : List Tx} {d : Nat} {F G : Fc} (h : FcS ns d F) (g : FcS ns d G) : FcS ns (d + 1) (.imp F G) := by
  refine ⟨fun x hx => (List.mem_append.mp hx).elim (h.nms x) (g.nms x), Nat.succ_le_succ (Nat.max_le.mpr ⟨h.dep, g.dep⟩), Nat.max_le.mpr ⟨h.wid, g.wid⟩, (smal_three (k := 2 * d + 1) (sStr (s := "implies") (m := 7)) h.sm g.sm).mono (by omega) (by show 7 + bF d + bF d + 3 ≤ 2 * bF d + 10; omega), ?_⟩
  show (true && (noLst F.d.pd && (noLst G.d.pd && true))) = true
  rw [h.nol, g.nol]; rfl
theorem fs_nms {ns : List Tx} {F G : Fc} (h : ∀ x ∈ F.names, x ∈ ns) (g : ∀ x ∈ G.names, x ∈ ns) : ∀ x ∈ Fc.namesL [F, G], x ∈ ns := Fc.namesL_mem fun f hf => by
  rcases List.mem_cons.mp hf with rfl | hf
  · exact h
  · rw [List.mem_singleton.mp hf]; exact g
theorem fs_and {ns : List Tx} {d : Nat} {F G : Fc} (h : FcS ns d F) (g : FcS ns d G) : FcS ns (d + 1) (.all [F, G]) := by
  refine ⟨fs_nms h.nms g.nms, Nat.succ_le_succ (Nat.max_le.mpr ⟨h.dep, Nat.max_le.mpr ⟨g.dep, Nat.zero_le _⟩⟩), Nat.max_le.mpr ⟨by show 2 ≤ 6; decide, Nat.max_le.mpr ⟨h.wid, Nat.max_le.mpr ⟨g.wid, Nat.zero_le _⟩⟩⟩, (smal_two (k := 2 * d + 2) (sStr (s := "and") (m := 3)) (smal_two (k := 2 * d + 1) h.sm g.sm)).mono (by omega) (by show 3 + (bF d + bF d + 2) + 2 ≤ 2 * bF d + 10; omega), ?_⟩
  show (true && ((noLst F.d.pd && (noLst G.d.pd && true)) && true)) = true
  rw [h.nol, g.nol]; rfl
theorem fs_or {ns : List Tx} {d : Nat} {F G : Fc} (h : FcS ns d F) (g : FcS ns d G) : FcS ns (d + 1) (.any [F, G]) := by
  refine ⟨fs_nms h.nms g.nms, Nat.succ_le_succ (Nat.max_le.mpr ⟨h.dep, Nat.max_le.mpr ⟨g.dep, Nat.zero_le _⟩⟩), Nat.max_le.mpr ⟨by show 2 ≤ 6; decide, Nat.max_le.mpr ⟨h.wid, Nat.max_le.mpr ⟨g.wid, Nat.zero_le _⟩⟩⟩, (smal_two (k := 2 * d + 2) (sStr (s := "or") (m := 2)) (smal_two (k := 2 * d + 1) h.sm g.sm)).mono (by omega) (by show 2 + (bF d + bF d + 2) + 2 ≤ 2 * bF d + 10; omega), ?_⟩
  show (true && ((noLst F.d.pd && (noLst G.d.pd && true)) && true)) = true
  rw [h.nol, g.nol]; rfl
theorem noLst_strs : ∀ xs : List Tx, noLstL ((xs.map D.str).map D.pd) = true
  | [] => rfl
  | _ :: xs => noLst_strs xs
theorem fs_one {ns ms : List Tx} (h : ∀ x ∈ ms, tOk x ∧ x.length ≤ 20) (hl : ms.length ≤ 4) (m : ∀ x ∈ ms, x ∈ ns) : FcS ns 2 (.one ms) := by
  refine ⟨m, Nat.zero_le _, by show ms.length ≤ 6; omega, ?_, ?_⟩
  · show Smal (.tuple [.str "one of", (D.tup (ms.map D.str)).pd]) 5 (bF 2)
    have e : (D.tup (ms.map D.str)).pd = .tuple ((ms.map D.str).map D.pd) := by show PyData.tuple (pdL _) = _; rw [pdL_map]
    rw [e]
    refine (smal_two (k := 1) (n := 84) (sStr (s := "one of") (m := 6)) ((smal_tup (k := 0) (m := 20) fun e he => ?_).mono (Nat.le_refl _) ?_)).mono (by omega) (by decide)
    · rw [List.map_map] at he
      obtain ⟨x, hx, rfl⟩ := List.mem_map.mp he
      exact smal_str (h x hx).1 (h x hx).2
    · rw [List.length_map, List.length_map]; omega
  · show (true && ((noLstL (pdL (ms.map D.str))) && true)) = true
    rw [pdL_map, noLst_strs]; rfl
def mFact (n : Nat) : VM := fun ds c Q => ∃ (ns : List Tx) (d : Nat), ds = [.tape, .lst (ns.map .str), .int d] ∧ d + 1 ≤ n ∧ ns ≠ [] ∧ ns.length ≤ 20 ∧ (∀ x ∈ ns, tOk x ∧ x.length ≤ 20) ∧ ∀ F : Fc, FcS ns d F → Q F.d c
section
variable {P : Program} {w : World} {K : PySem.W.Frag} {mg : PySem.Str → Option Value} {base : Heap}
theorem rec__law_fact (T : Txt P w K mg) : ∀ n : Nat, FnOk P w K mg base CX0 (n + 1) T.a__law_fact T.d__law_fact ["tape", "names", "depth"] (spV (Sx T) (mFact n))
  | 0 => fn_vac fun ds c Q ⟨ns, d, _, h, _⟩ => by omega
  | n + 1 => by
    have G__law_fact := rec__law_fact T n
    have G__law_draw := draw_v (S := Sx T) (ok__law_draw (P := P) (w := w) (base := base) T)
    refine def_v (S := Sx T) (N := N__law_fact) T.F__law_fact sc__law_fact rfl (fun ds c Q h => by obtain ⟨ns, d, rfl, _⟩ := h; first | rfl | assumption) (fun cdv A outer s H E hr => (vss_cons (vs_set (i := 3) sc__law_fact.nd rfl (.inl rfl) (fe_of (ve_call G__law_draw (hr.mono (by omega)) (by rfl) T.g__law_draw T.F__law_draw.kp T.b__law_draw (va_cons (ve_name (pv 0)) (va_cons ve_int va_nil)))))
      (vss_cons (vs_if (vb_w (vw_and (vb_cmp o_gt (ve_name (pv 2)) (be_of ve_int) (nomark _)) (vw_and1 (vb_cmp (o_eq rfl hr.units) (ve_name (pv 3)) (be_of ve_int) (nomark _))))) (vss_one (vs_ret (ve_tup (va_cons ve_str (va_cons (ve_call G__law_fact (hr.mono (by omega)) (by rfl) T.g__law_fact T.F__law_fact.kp T.b__law_fact (va_cons (ve_name (pv 0)) (va_cons (ve_name (pv 1)) (va_cons (ve_of (fe_op o_sub (ve_name (pv 2)) (be_of ve_int))) va_nil)))) va_nil))))) vss_nil)
      (vss_cons (vs_if (vb_w (vw_and (vb_cmp o_gt (ve_name (pv 2)) (be_of ve_int) (nomark _)) (vw_and1 (vb_cmp o_lt (ve_name (pv 3)) (be_of ve_int) (nomark _))))) (vss_cons (vs_set (i := 4) sc__law_fact.nd rfl (.inl rfl) (fe_of (ve_call G__law_fact (hr.mono (by omega)) (by rfl) T.g__law_fact T.F__law_fact.kp T.b__law_fact (va_cons (ve_name (pv 0)) (va_cons (ve_name (pv 1)) (va_cons (ve_of (fe_op o_sub (ve_name (pv 2)) (be_of ve_int))) va_nil))))))
      (vss_cons (vs_set (i := 5) sc__law_fact.nd rfl (.inl rfl) (fe_of (ve_call G__law_fact (hr.mono (by omega)) (by rfl) T.g__law_fact T.F__law_fact.kp T.b__law_fact (va_cons (ve_name (pv 0)) (va_cons (ve_name (pv 1)) (va_cons (ve_of (fe_op o_sub (ve_name (pv 2)) (be_of ve_int))) va_nil))))))
      (vss_one (vs_ret (ve_of (fe_ix (i_ix rfl (hu_of hr)) (ve_of (fe_lst (va_cons (ve_tup (va_cons ve_str (va_cons (ve_tup (va_cons (ve_name (pv 4)) (va_cons (ve_name (pv 5)) va_nil))) va_nil))) (va_cons (ve_tup (va_cons ve_str (va_cons (ve_tup (va_cons (ve_name (pv 4)) (va_cons (ve_name (pv 5)) va_nil))) va_nil))) (va_cons (ve_tup (va_cons ve_str (va_cons (ve_name (pv 4)) (va_cons (ve_name (pv 5)) va_nil)))) va_nil))))) (be_of (ve_of (fe_op o_sub (ve_name (pv 3)) (be_of ve_int)))) (fun _ _ => rfl))))))) vss_nil)
      (vss_cons (vs_if (vb_cmp (o_eq rfl hr.units) (ve_name (pv 3)) (be_of ve_int) (nomark _)) (vss_one (vs_ret (ve_of (fe_ix (i_ix rfl (hu_of hr)) (ve_of (fe_lst (va_cons (ve_tup (va_cons ve_str va_nil)) (va_cons (ve_tup (va_cons ve_str va_nil)) va_nil)))) (be_of (ve_call G__law_draw (hr.mono (by omega)) (by rfl) T.g__law_draw T.F__law_draw.kp T.b__law_draw (va_cons (ve_name (pv 0)) (va_cons ve_int va_nil)))) (fun _ _ => rfl))))) vss_nil)
      (vss_cons (vs_if (vb_w (vw_and (vb_cmp (o_eq rfl hr.units) (ve_name (pv 2)) (be_of ve_int) (nomark _)) (vw_and1 (vb_cmp (o_eq rfl hr.units) (ve_name (pv 3)) (be_of ve_int) (nomark _))))) (vss_one (vs_ret (ve_tup (va_cons ve_str (va_cons (ve_of (pe_CB1 (c_tupleD rfl rfl) (fun hc ha => pe_callTy hc (by rfl) T.z_tuple boot_tuple ha) (be_of (ve_of (fe_fz 1 (fe_fz 0 (fe_lc (own := [("k", 6)]) rfl sc__law_fact.nd (vi_range1 (by rfl) T.z_range (va_cons (ve_of (fe_op (o_add rfl) ve_int (be_of (ve_call G__law_draw (hr.mono (by omega)) (by rfl) T.g__law_draw T.F__law_draw.kp T.b__law_draw (va_cons (ve_name (pv 0)) (va_cons ve_int va_nil)))))) va_nil)) (blkOk_by (own := [("k", 6)]) (N := N__law_fact) (sc := defScope s__law_fact) (by decide +kernel)) (fun _ _ _ _ _ => (vg_name (i := 6) [6] (by decide) sc__law_fact.nd rfl (.inl rfl))) (fun _ _ _ _ _ => vts_nil) (fun _ _ _ _ _ => (ve_of (fe_ixN (i_ix rfl (hu_of hr)) (pv 1) (be_of (ve_call G__law_draw (hr.mono (by omega)) (by rfl) T.g__law_draw T.F__law_draw.kp T.b__law_draw (va_cons (ve_name (pv 0)) (va_cons (ve_of (pe_CB1 (c_len rfl) (fun hc ha => pe_callB hc (by rfl) T.z_len boot_len ha) (be_name (pv 1)))) va_nil)))) (fun _ _ => rfl))))))))))) va_nil))))) vss_nil)
      (vss_one (vs_ret (ve_tup (va_cons ve_str (va_cons (ve_of (fe_ixN (i_ix rfl (hu_of hr)) (pv 1) (be_of (ve_call G__law_draw (hr.mono (by omega)) (by rfl) T.g__law_draw T.F__law_draw.kp T.b__law_draw (va_cons (ve_name (pv 0)) (va_cons (ve_of (pe_CB1 (c_len rfl) (fun hc ha => pe_callB hc (by rfl) T.z_len boot_len ha) (be_name (pv 1)))) va_nil)))) (fun _ _ => rfl))) va_nil))))))))))) ?_
    rintro ds c Q ⟨ns, d, rfl, hd, hne, hl, hns, q⟩
    have hlen : 0 < ns.length := List.length_pos_iff.mpr hne
    have hlm : (ns.map D.str).length = ns.length := by simp
    refine ⟨9, rfl, Nat.zero_le _, dm (by decide), fun r hr => ?_⟩
    have hr : r < 9 := by omega
    have tf : ∀ (Q : D → Nat → Prop), (∀ F : Fc, FcS ns d F → Q F.d c) → ∀ r2 : Nat, ((r2 : Int) < 2 ∨ r2 = 0) → withD (atI [D.tup [.str "true"], .tup [.str "false"]] (r2 : Int)) fun z => Q z c := fun Q q r2 hr2 => by
      obtain ⟨x, ex, mx⟩ := pickD (l := [D.tup [.str "true"], .tup [.str "false"]]) (i := r2) (by simp; omega)
      refine withD_of ex ?_
      simp only [List.mem_cons, List.not_mem_nil, or_false] at mx
      rcases mx with rfl | rfl
      · exact q .tt (fs_tt _)
      · exact q .ff (fs_ff _)
    cases d with
    | zero =>
      walk_at "sk"
      walk_at "wh"
      refine bothD (fun e4 => ?_) (fun e4 => ?_)
      · walk_at "wh"
        refine ⟨by show 1 ≤ 1000; decide, by show 1 ≤ 1000; decide, by show 2 ≤ 1000; decide, 2, rfl, Nat.zero_le _, dm (by decide), fun r2 hr2 => ?_⟩
        exact tf Q q r2 hr2
      · walk_at "sk"
        walk_at "wh"
        refine ⟨_, rfl, Nat.zero_le _, dm (by rw [hlm]; omega), fun r3 hr3 => ?_⟩
        obtain ⟨x, ex, mx⟩ := pickD (l := ns.map D.str) (i := r3) (by omega)
        obtain ⟨y, my, rfl⟩ := List.mem_map.mp mx
        walk_at "wh"
        refine withD_of ex ?_
        refine ⟨by show 2 ≤ 1000; decide, ?_⟩
        exact q (.com y) (fs_com _ (hns y my).1 (hns y my).2 my)
    | succ d =>
      have hd1 : ((d + 1 : Nat) : Int) - 1 = (d : Nat) := by omega
      walk_at "sk"
      walk_at "wh"
      refine bothD (fun r0 => ?_) (fun r0 => ?_)
      · walk_at "wh"
        refine ⟨ns, d, congrArg (fun z => [D.tape, D.lst (ns.map D.str), D.int z]) hd1, by omega, hne, hl, hns, fun F hF => ?_⟩
        refine ⟨by show 2 ≤ 1000; decide, ?_⟩
        exact q (.neg F) (fs_neg hF)
      · walk_at "sk"
        walk_at "wh"
        refine bothD (fun r1 => ?_) (fun r1 => ?_)
        · walk_at "wh"
          refine ⟨ns, d, congrArg (fun z => [D.tape, D.lst (ns.map D.str), D.int z]) hd1, by omega, hne, hl, hns, fun F hF => ?_⟩
          walk_at "wh"
          refine ⟨ns, d, congrArg (fun z => [D.tape, D.lst (ns.map D.str), D.int z]) hd1, by omega, hne, hl, hns, fun G hG => ?_⟩
          refine ⟨by show 2 ≤ 1000; decide, by show 2 ≤ 1000; decide, by show 2 ≤ 1000; decide, by show 2 ≤ 1000; decide, by show 3 ≤ 1000; decide, by show 3 ≤ 1000; decide, ?_⟩
          obtain ⟨x, ex, mx⟩ := pickI (l := [D.tup [.str "and", .tup [F.d, G.d]], .tup [.str "or", .tup [F.d, G.d]], .tup [.str "implies", F.d, G.d]]) (i := (r : Int) - 1) (by omega) (by simp; omega)
          refine withD_of ex ?_
          simp only [List.mem_cons, List.not_mem_nil, or_false] at mx
          rcases mx with rfl | rfl | rfl
          · exact q (.all [F, G]) (fs_and hF hG)
          · exact q (.any [F, G]) (fs_or hF hG)
          · exact q (.imp F G) (fs_imp hF hG)
        · walk_at "sk"
          walk_at "wh"
          refine bothD (fun e4 => ?_) (fun e4 => ?_)
          · walk_at "wh"
            refine ⟨by show 1 ≤ 1000; decide, by show 1 ≤ 1000; decide, by show 2 ≤ 1000; decide, 2, rfl, Nat.zero_le _, dm (by decide), fun r2 hr2 => ?_⟩
            exact tf Q q r2 hr2
          · walk_at "sk"
            walk_at "wh"
            refine bothD (fun e2 => ?_) (fun e2 => ?_)
            · walk_at "wh"
              refine bothD (fun e5 => ?_) (fun e5 => ?_)
              · have d1 : d = 1 := by omega
                subst d1
                refine ⟨4, rfl, Nat.zero_le _, dm (by decide), fun r6 hr6 => ?_⟩
                walk_at "wh"
                refine ⟨by omega, by simp [rng]; omega, fun i acc k => Iv (∃ ms : List Tx, acc = ms.map D.str ∧ ms.length = i ∧ (∀ x ∈ ms, x ∈ ns) ∧ k = c), .a ⟨[], rfl, rfl, by simp, rfl⟩, ?_, ?_⟩
                · intro i e acc k ed iv la
                  obtain ⟨ms, rfl, rfl, hm, rfl⟩ := iv.out
                  refine wayT ?_
                  refine ⟨_, rfl, Nat.zero_le _, dm (by rw [hlm]; omega), fun r4 hr4 => ?_⟩
                  obtain ⟨x, ex, mx⟩ := pickD (l := ns.map D.str) (i := r4) (by omega)
                  obtain ⟨y, my, rfl⟩ := List.mem_map.mp mx
                  walk_at "wh"
                  refine withD_of ex ?_
                  exact .a ⟨ms ++ [y], by rw [List.map_append]; rfl, by simp, fun z hz => by rcases List.mem_append.mp hz with h | h; exact hm z h; cases List.mem_singleton.mp h; exact my, rfl⟩
                · intro acc k iv la
                  obtain ⟨ms, rfl, hl2, hm, rfl⟩ := iv.out
                  simp only [rng, List.length_map, List.length_range] at hl2
                  refine ⟨by show 2 ≤ 1000; decide, ?_⟩
                  exact q (.one ms) (fs_one (fun x hx => hns x (hm x hx)) (by omega) hm)
              · walk_at "sk"
                walk_at "wh"
                refine ⟨_, rfl, Nat.zero_le _, dm (by rw [hlm]; omega), fun r3 hr3 => ?_⟩
                obtain ⟨x, ex, mx⟩ := pickD (l := ns.map D.str) (i := r3) (by omega)
                obtain ⟨y, my, rfl⟩ := List.mem_map.mp mx
                walk_at "wh"
                refine withD_of ex ?_
                refine ⟨by show 2 ≤ 1000; decide, ?_⟩
                exact q (.com y) (fs_com _ (hns y my).1 (hns y my).2 my)
            · walk_at "sk"
              walk_at "wh"
              refine ⟨_, rfl, Nat.zero_le _, dm (by rw [hlm]; omega), fun r3 hr3 => ?_⟩
              obtain ⟨x, ex, mx⟩ := pickD (l := ns.map D.str) (i := r3) (by omega)
              obtain ⟨y, my, rfl⟩ := List.mem_map.mp mx
              walk_at "wh"
              refine withD_of ex ?_
              refine ⟨by show 2 ≤ 1000; decide, ?_⟩
              exact q (.com y) (fs_com _ (hns y my).1 (hns y my).2 my)
theorem ok__law_fact (T : Txt P w K mg) : FnOk P w K mg base CX0 6 T.a__law_fact T.d__law_fact ["tape", "names", "depth"] (spV (Sx T) (mFact 5)) := rec__law_fact T 5
end
end Va
set_option Elab.async false
set_option linter.all false
set_option maxRecDepth 100000
set_option maxHeartbeats 4000000
namespace Va
open PySem PySem.Spec PyProof.Rows L2 Ind
local macro_rules | `(tactic| walk_at "cn") => `(tactic| first
  | assumption
  | omega
  | exact dm (by omega)
  | exact line (by simp)
  | exact line (by omega)
  | exact line (by simp only [len_app, len_one]; omega)
  | exact small_div (by omega) (by omega)
  | solve_by_elim
  | exact Or.inr ⟨by omega, by omega⟩
  | exact Or.inl ⟨by omega, by omega⟩
  | exact ⟨by omega, by omega⟩
  | decide)
local macro_rules | `(tactic| walk_at "st") => `(tactic| repeat (first
  | refine ⟨_, rfl, ?_⟩
  | refine ⟨_, _, rfl, rfl, ?_⟩
  | refine ⟨_, _, rfl, ?_⟩
  | refine .inl ⟨_, rfl, ?_⟩
  | refine And.intro rfl ?_
  | refine And.intro (by walk_at "cn") ?_))
local macro_rules | `(tactic| walk_at "fz") => `(tactic| repeat (first | exact Fz.refl | apply Fz.upd))
local macro_rules | `(tactic| walk_at "hl") => `(tactic| ((repeat rw [upd_ne (by assumption)]); assumption))
local macro_rules | `(tactic| walk_at "fy") => `(tactic| (intro b o n1 h; (repeat rw [upd_ne n1]); exact h))
local macro_rules | `(tactic| walk_at "wh") => `(tactic| (conv => whnf))
local macro_rules | `(tactic| walk_at "cv") => `(tactic| first
  | rfl
  | assumption
  | omega
  | exact dm (by omega)
  | exact small_div (by omega) (by omega)
  | (simp only [len_app, one_len, len_one, List.length_append, List.length_map, List.length_cons, List.length_nil]; omega)
  | exact Or.inr ⟨by omega, by omega⟩
  | exact Or.inl ⟨by omega, by omega⟩
  | exact ⟨by omega, by omega⟩
  | decide)
local macro_rules | `(tactic| walk_at "vv") => `(tactic| repeat (refine And.intro (by walk_at "cv") ?_))
local macro_rules | `(tactic| walk_at "sk") => `(tactic| repeat (first
  | refine wayT ?_
  | refine wayF ?_
  | refine skipT (by omega) ?_
  | refine skipF (by omega) ?_
  | refine skipT (by decide) ?_
  | refine skipF (by decide) ?_
  | refine ⟨_, (show tyNames _ = some _ from rfl), ?_⟩
  | refine And.intro (by walk_at "cv") ?_))
local macro_rules | `(tactic| walk_at "s0") => `(tactic| first
  | refine wayT ?_
  | refine wayF ?_
  | refine skipT (by omega) ?_
  | refine skipF (by omega) ?_
  | refine skipT (by decide) ?_
  | refine skipF (by decide) ?_
  | refine ⟨_, (show tyNames _ = some _ from rfl), ?_⟩
  | refine And.intro (by walk_at "cv") ?_)
local macro_rules | `(tactic| walk_at "s1") => `(tactic| try (walk_at "s0"; walk_at "wh"))
local macro_rules | `(tactic| walk_at "go") => `(tactic| (walk_at "wh"; repeat (walk_at "s0"; walk_at "wh")))
def inR (cs : List Tx) (x : Tx) : Bool := decide (x ∈ cs)
def mTr (n : Nat) : VM := fun ds c Q => ∃ (F : Fc) (cs : List Tx), ds = [F.d, .tup (cs.map .str)] ∧ F.dep + 1 ≤ n ∧ F.wid ≤ 60 ∧ Q (.bl (F.tr (inR cs))) c
section
variable {P : Program} {w : World} {K : PySem.W.Frag} {mg : PySem.Str → Option Value} {base : Heap}
theorem rec_holds (T : Txt P w K mg) (TB_holds : GxR.TabB base mg T.cc_holds T.pp_holds) : ∀ n : Nat, FnOk P w K mg base CX0 (2 * n + 1) T.a_holds T.d_holds ["fact", "committed"] (spV (Sx T) (mTr n))
  | 0 => fn_vac fun ds c Q ⟨F, cs, _, h, _⟩ => by omega
  | n + 1 => by
    have G_holds := rec_holds T TB_holds n
    refine def_vC (S := Sx T) (N := N_holds) T.C_holds sc_holds rfl (fun ds c Q h => by obtain ⟨F, cs, rfl, _⟩ := h; first | rfl | assumption) (fun A outer s H E hr => (vss_cons (vs_set (i := 2) sc_holds.nd rfl (.inl rfl) (fe_ixN (i_ix rfl (hu_of hr)) (pv 0) (be_of ve_int) (fun _ _ => rfl)))
      (vss_cons (vs_if (vb_cmp (o_eq rfl hr.units) (ve_name (pv 2)) (be_of ve_str) (nomark _)) (vss_one (vs_ret (ve_of (fe_cmp (o_in rfl (hu65 hr)) (ve_of (fe_ixN (i_ix rfl (hu_of hr)) (pv 0) (be_of ve_int) (fun _ _ => rfl))) (be_name (pv 1)) (by rfl))))) vss_nil)
      (vss_cons (vs_if (vb_cmp (o_eq rfl hr.units) (ve_name (pv 2)) (be_of ve_str) (nomark _)) (vss_one (vs_ret (ve_of (fe_cmp (o_eq rfl hr.units) (ve_of (pe_CB1 (c_len rfl) (fun hc ha => pe_callB hc (by rfl) T.z_len boot_len ha) (be_of (ve_of (fe_fz 1 (fe_lc (own := [("name", 4)]) rfl sc_holds.nd (vi_any rfl (ve_of (fe_ixN (i_ix rfl (hu_of hr)) (pv 0) (be_of ve_int) (fun _ _ => rfl)))) (blkOk_by (own := [("name", 4)]) (N := N_holds) (sc := defScope s_holds) (by decide +kernel)) (fun _ _ _ _ _ => (vg_name (i := 4) [4] (by decide) sc_holds.nd rfl (.inl rfl))) (fun _ _ _ _ _ => (vts_one (vb_cmp (o_in rfl (hu65 hr)) (ve_name (pv 4)) (be_name (pv 1)) (by rfl)))) (fun _ _ _ _ _ => (ve_name (pv 4))))))))) (be_of ve_int) (nomark _))))) vss_nil)
      (vss_cons (vs_if (vb_cmp (o_eq rfl hr.units) (ve_name (pv 2)) (be_of ve_str) (nomark _)) (vss_one (vs_ret (ve_not (ve_call G_holds (hr.mono (by omega)) (by rfl) T.g_holds T.F_holds.kp T.b_holds (va_cons (ve_of (fe_ixN (i_ix rfl (hu_of hr)) (pv 0) (be_of ve_int) (fun _ _ => rfl))) (va_cons (ve_name (pv 1)) va_nil)))))) vss_nil)
      (vss_cons (vs_if (vb_cmp (o_eq rfl hr.units) (ve_name (pv 2)) (be_of ve_str) (nomark _)) (vss_one (vs_ret (ve_fz 1 (ve_all (own := [("part", 3)]) (by simp) rfl sc_holds.nd hr TB_holds rfl (by rfl) T.z_all PyProof.Rows.boot_all (blkOk_by (own := [("part", 3)]) (N := N_holds) (sc := defScope s_holds) (by decide +kernel)) (by decide +kernel) (by rfl) rfl (vi_any rfl (ve_of (fe_ixN (i_ix rfl (hu_of hr)) (pv 0) (be_of ve_int) (fun _ _ => rfl)))) (fun _ => rfl) (fun _ _ _ _ _ _ => (vg_name (i := 3) [3] (by decide) sc_holds.nd rfl (.inl rfl))) (fun _ _ _ _ _ _ => (ve_call G_holds (IndG.room_gen (hr.mono (by omega))) (by rfl) T.g_holds T.F_holds.kp T.b_holds (va_cons (ve_name (pv 3)) (va_cons (ve_name (pv 1)) va_nil)))))))) vss_nil)
      (vss_cons (vs_if (vb_cmp (o_eq rfl hr.units) (ve_name (pv 2)) (be_of ve_str) (nomark _)) (vss_one (vs_ret (ve_fz 1 (ve_any (own := [("part", 3)]) (by simp) rfl sc_holds.nd hr TB_holds rfl (by rfl) T.z_any PyProof.Rows.boot_any (blkOk_by (own := [("part", 3)]) (N := N_holds) (sc := defScope s_holds) (by decide +kernel)) (by decide +kernel) (by rfl) rfl (vi_any rfl (ve_of (fe_ixN (i_ix rfl (hu_of hr)) (pv 0) (be_of ve_int) (fun _ _ => rfl)))) (fun _ => rfl) (fun _ _ _ _ _ _ => (vg_name (i := 3) [3] (by decide) sc_holds.nd rfl (.inl rfl))) (fun _ _ _ _ _ _ => (ve_call G_holds (IndG.room_gen (hr.mono (by omega))) (by rfl) T.g_holds T.F_holds.kp T.b_holds (va_cons (ve_name (pv 3)) (va_cons (ve_name (pv 1)) va_nil)))))))) vss_nil)
      (vss_cons (vs_if (vb_cmp (o_eq rfl hr.units) (ve_name (pv 2)) (be_of ve_str) (nomark _)) (vss_one (vs_ret (ve_or (ve_not (ve_call G_holds (hr.mono (by omega)) (by rfl) T.g_holds T.F_holds.kp T.b_holds (va_cons (ve_of (fe_ixN (i_ix rfl (hu_of hr)) (pv 0) (be_of ve_int) (fun _ _ => rfl))) (va_cons (ve_name (pv 1)) va_nil)))) (ve_one (ve_call G_holds (hr.mono (by omega)) (by rfl) T.g_holds T.F_holds.kp T.b_holds (va_cons (ve_of (fe_ixN (i_ix rfl (hu_of hr)) (pv 0) (be_of ve_int) (fun _ _ => rfl))) (va_cons (ve_name (pv 1)) va_nil))))))) vss_nil)
      (vss_one (vs_ret (ve_of (fe_cmp (o_eq rfl hr.units) (ve_name (pv 2)) (be_of ve_str) (nomark _))))))))))))) ?_
    rintro ds c Q ⟨F, cs, rfl, hd, hw, q⟩
    have flc := flat_strsD cs
    have inr : ∀ x, ((cs.map D.str).any fun y => y.eqf (.str x)) = inR cs x := fun x => in_strsD x cs
    cases F with
    | com x =>
      walk_at "go"
      show Q (.bl ((cs.map D.str).any fun y => y.eqf (.str x))) c
      rw [inr]
      exact q
    | one xs =>
      have hw : xs.length ≤ 60 := hw
      walk_at "go"
      refine ⟨fun i acc k => Iv (acc = ((xs.take i).filter (inR cs)).map D.str ∧ k = c), .a ⟨rfl, rfl⟩, ?_, ?_⟩
      · intro i d acc k ed iv la
        obtain ⟨rfl, rfl⟩ := iv.out
        obtain ⟨x, ex, rfl⟩ := map_get ed
        refine ⟨rfl, flc, ?_⟩
        rw [inr]
        refine ⟨fun e => ?_, fun e => ?_⟩
        · refine .a ⟨?_, rfl⟩
          rw [filter_more _ ex, if_pos e, List.map_append]
          rfl
        · refine .a ⟨?_, rfl⟩
          rw [filter_more _ ex, if_neg (by rw [e]; decide)]
      · intro acc k iv la
        obtain ⟨rfl, rfl⟩ := iv.out
        rw [List.length_map, List.take_length]
        show Q (.bl (decide (((((xs.filter (inR cs)).map D.str).length : Nat) : Int) = 1))) k
        have e : decide (((((xs.filter (inR cs)).map D.str).length : Nat) : Int) = 1) = decide ((xs.filter (inR cs)).length = 1) := by
          rw [List.length_map]
          exact decide_eq_decide.mpr (by omega)
        rw [e]
        exact q
    | neg f =>
      walk_at "go"
      refine ⟨f, cs, rfl, by have : f.dep + 1 + 1 ≤ n + 1 := hd; omega, hw, ?_⟩
      exact q
    | all fs =>
      walk_at "go"
      refine ⟨atB (Fc.tr (inR cs)) fs, fun i d ed => ?_, ?_⟩
      · rw [Fc.dL_map] at ed
        obtain ⟨f, ef, rfl⟩ := map_get ed
        have mf := List.mem_of_getElem? ef
        have h1 := Fc.dep_mem mf
        have h2 := Fc.wid_mem mf
        have hd : Fc.depL fs + 1 + 1 ≤ n + 1 := hd
        have hw : max fs.length (Fc.widL fs) ≤ 60 := hw
        refine ⟨f, cs, rfl, by omega, by omega, ?_⟩
        exact ⟨by rw [atB_of ef], rfl⟩
      · have e : (Fc.dL fs).length = fs.length := by rw [Fc.dL_map, List.length_map]
        rw [e, all_range, ← Fc.trA_all]
        exact q
    | any fs =>
      walk_at "go"
      refine ⟨atB (Fc.tr (inR cs)) fs, fun i d ed => ?_, ?_⟩
      · rw [Fc.dL_map] at ed
        obtain ⟨f, ef, rfl⟩ := map_get ed
        have mf := List.mem_of_getElem? ef
        have h1 := Fc.dep_mem mf
        have h2 := Fc.wid_mem mf
        have hd : Fc.depL fs + 1 + 1 ≤ n + 1 := hd
        have hw : max fs.length (Fc.widL fs) ≤ 60 := hw
        refine ⟨f, cs, rfl, by omega, by omega, ?_⟩
        exact ⟨by rw [atB_of ef], rfl⟩
      · have e : (Fc.dL fs).length = fs.length := by rw [Fc.dL_map, List.length_map]
        rw [e, any_range, ← Fc.trO_any]
        exact q
    | imp a b =>
      have hd : max a.dep b.dep + 1 + 1 ≤ n + 1 := hd
      have hw : max a.wid b.wid ≤ 60 := hw
      walk_at "go"
      refine ⟨a, cs, rfl, by omega, by omega, ?_⟩
      walk_at "wh"
      refine ⟨fun e => ?_, fun e => ?_⟩
      · have e2 : (Fc.imp a b).tr (inR cs) = true := by show (!a.tr (inR cs) || b.tr (inR cs)) = true; rw [e]; rfl
        rw [e2] at q
        exact q
      · refine ⟨b, cs, rfl, by omega, by omega, ?_⟩
        have e2 : (Fc.imp a b).tr (inR cs) = b.tr (inR cs) := by show (!a.tr (inR cs) || b.tr (inR cs)) = _; rw [e]; rfl
        rw [e2] at q
        exact q
    | tt =>
      walk_at "go"
      exact q
    | ff =>
      walk_at "go"
      exact q
theorem ok_holds (T : Txt P w K mg) (TB_holds : GxR.TabB base mg T.cc_holds T.pp_holds) : FnOk P w K mg base CX0 47 T.a_holds T.d_holds ["fact", "committed"] (spV (Sx T) (mTr 23)) := rec_holds T TB_holds 23
end
section
variable {P : Program} {w : World} {K : PySem.W.Frag} {mg : PySem.Str → Option Value} {base : Heap}
theorem rec__law_true (T : Txt P w K mg) : ∀ n : Nat, FnOk P w K mg base CX0 (n + 1) T.a__law_true T.d__law_true ["fact", "committed"] (spV (Sx T) (mTr n))
  | 0 => fn_vac fun ds c Q ⟨F, cs, _, h, _⟩ => by omega
  | n + 1 => by
    have G__law_true := rec__law_true T n
    refine def_v (S := Sx T) (N := N__law_true) T.F__law_true sc__law_true rfl (fun ds c Q h => by obtain ⟨F, cs, rfl, _⟩ := h; first | rfl | assumption) (fun cdv A outer s H E hr => (vss_cons (vs_if (vb_cmp (o_eq rfl hr.units) (ve_of (fe_ixN (i_ix rfl (hu_of hr)) (pv 0) (be_of ve_int) (fun _ _ => rfl))) (be_of ve_str) (nomark _)) (vss_one (vs_ret (ve_of (fe_cmp (o_in rfl (hu65 hr)) (ve_of (fe_ixN (i_ix rfl (hu_of hr)) (pv 0) (be_of ve_int) (fun _ _ => rfl))) (be_name (pv 1)) (by rfl))))) vss_nil)
      (vss_cons (vs_if (vb_cmp (o_eq rfl hr.units) (ve_of (fe_ixN (i_ix rfl (hu_of hr)) (pv 0) (be_of ve_int) (fun _ _ => rfl))) (be_of ve_str) (nomark _)) (vss_one (vs_ret (ve_of (fe_cmp (o_eq rfl hr.units) (ve_of (pe_CB1 (c_len rfl) (fun hc ha => pe_callB hc (by rfl) T.z_len boot_len ha) (be_of (ve_of (fe_fz 1 (fe_lc (own := [("name", 3)]) rfl sc__law_true.nd (vi_any rfl (ve_of (fe_ixN (i_ix rfl (hu_of hr)) (pv 0) (be_of ve_int) (fun _ _ => rfl)))) (blkOk_by (own := [("name", 3)]) (N := N__law_true) (sc := defScope s__law_true) (by decide +kernel)) (fun _ _ _ _ _ => (vg_name (i := 3) [3] (by decide) sc__law_true.nd rfl (.inl rfl))) (fun _ _ _ _ _ => (vts_one (vb_cmp (o_in rfl (hu65 hr)) (ve_name (pv 3)) (be_name (pv 1)) (by rfl)))) (fun _ _ _ _ _ => (ve_name (pv 3))))))))) (be_of ve_int) (nomark _))))) vss_nil)
      (vss_cons (vs_if (vb_cmp (o_eq rfl hr.units) (ve_of (fe_ixN (i_ix rfl (hu_of hr)) (pv 0) (be_of ve_int) (fun _ _ => rfl))) (be_of ve_str) (nomark _)) (vss_one (vs_ret (ve_not (ve_call G__law_true (hr.mono (by omega)) (by rfl) T.g__law_true T.F__law_true.kp T.b__law_true (va_cons (ve_of (fe_ixN (i_ix rfl (hu_of hr)) (pv 0) (be_of ve_int) (fun _ _ => rfl))) (va_cons (ve_name (pv 1)) va_nil)))))) vss_nil)
      (vss_cons (vs_if (vb_cmp (o_eq rfl hr.units) (ve_of (fe_ixN (i_ix rfl (hu_of hr)) (pv 0) (be_of ve_int) (fun _ _ => rfl))) (be_of ve_str) (nomark _)) (vss_one (vs_ret (ve_or (ve_call G__law_true (hr.mono (by omega)) (by rfl) T.g__law_true T.F__law_true.kp T.b__law_true (va_cons (ve_of (fe_ixN (i_ix rfl (hu_of hr)) (pv 0) (be_of ve_int) (fun _ _ => rfl))) (va_cons (ve_name (pv 1)) va_nil))) (ve_one (ve_not (ve_call G__law_true (hr.mono (by omega)) (by rfl) T.g__law_true T.F__law_true.kp T.b__law_true (va_cons (ve_of (fe_ixN (i_ix rfl (hu_of hr)) (pv 0) (be_of ve_int) (fun _ _ => rfl))) (va_cons (ve_name (pv 1)) va_nil)))))))) vss_nil)
      (vss_cons (vs_if (vb_cmp (o_in rfl (hu65 hr)) (ve_of (fe_ixN (i_ix rfl (hu_of hr)) (pv 0) (be_of ve_int) (fun _ _ => rfl))) (be_of (ve_of (fe_lst (va_cons ve_str (va_cons ve_str va_nil))))) (by rfl)) (vss_cons (vs_for PassesOwn.never rfl (vi_any rfl (ve_of (fe_ixN (i_ix rfl (hu_of hr)) (pv 0) (be_of ve_int) (fun _ _ => rfl)))) (vg_name (i := 2) [2] (by decide) sc__law_true.nd rfl (.inl rfl))
      (vss_one (vs_if (vb_cmp (o_eq rfl hr.units) (ve_call G__law_true (hr.mono (by omega)) (by rfl) T.g__law_true T.F__law_true.kp T.b__law_true (va_cons (ve_name (pv 2)) (va_cons (ve_name (pv 1)) va_nil))) (be_of (ve_of (fe_cmp (o_eq rfl hr.units) (ve_of (fe_ixN (i_ix rfl (hu_of hr)) (pv 0) (be_of ve_int) (fun _ _ => rfl))) (be_of ve_str) (nomark _)))) (nomark _)) (vss_one (vs_ret (ve_of (fe_cmp (o_eq rfl hr.units) (ve_of (fe_ixN (i_ix rfl (hu_of hr)) (pv 0) (be_of ve_int) (fun _ _ => rfl))) (be_of ve_str) (nomark _))))) vss_nil)))
      (vss_one (vs_ret (ve_of (fe_cmp (o_eq rfl hr.units) (ve_of (fe_ixN (i_ix rfl (hu_of hr)) (pv 0) (be_of ve_int) (fun _ _ => rfl))) (be_of ve_str) (nomark _)))))) vss_nil)
      (vss_one (vs_ret (ve_of (fe_cmp (o_eq rfl hr.units) (ve_of (fe_ixN (i_ix rfl (hu_of hr)) (pv 0) (be_of ve_int) (fun _ _ => rfl))) (be_of ve_str) (nomark _))))))))))) ?_
    rintro ds c Q ⟨F, cs, rfl, hd, hw, q⟩
    have flc := flat_strsD cs
    have inr : ∀ x, ((cs.map D.str).any fun y => y.eqf (.str x)) = inR cs x := fun x => in_strsD x cs
    cases F with
    | com x =>
      walk_at "go"
      show Q (.bl ((cs.map D.str).any fun y => y.eqf (.str x))) c
      rw [inr]
      exact q
    | one xs =>
      have hw : xs.length ≤ 60 := hw
      walk_at "go"
      refine ⟨fun i acc k => Iv (acc = ((xs.take i).filter (inR cs)).map D.str ∧ k = c), .a ⟨rfl, rfl⟩, ?_, ?_⟩
      · intro i d acc k ed iv la
        obtain ⟨rfl, rfl⟩ := iv.out
        obtain ⟨x, ex, rfl⟩ := map_get ed
        refine ⟨rfl, flc, ?_⟩
        rw [inr]
        refine ⟨fun e => ?_, fun e => ?_⟩
        · refine .a ⟨?_, rfl⟩
          rw [filter_more _ ex, if_pos e, List.map_append]
          rfl
        · refine .a ⟨?_, rfl⟩
          rw [filter_more _ ex, if_neg (by rw [e]; decide)]
      · intro acc k iv la
        obtain ⟨rfl, rfl⟩ := iv.out
        rw [List.length_map, List.take_length]
        show Q (.bl (decide (((((xs.filter (inR cs)).map D.str).length : Nat) : Int) = 1))) k
        have e : decide (((((xs.filter (inR cs)).map D.str).length : Nat) : Int) = 1) = decide ((xs.filter (inR cs)).length = 1) := by
          rw [List.length_map]
          exact decide_eq_decide.mpr (by omega)
        rw [e]
        exact q
    | neg f =>
      walk_at "go"
      refine ⟨f, cs, rfl, by have : f.dep + 1 + 1 ≤ n + 1 := hd; omega, hw, ?_⟩
      exact q
    | all fs =>
      have hd : Fc.depL fs + 1 + 1 ≤ n + 1 := hd
      have hw : max fs.length (Fc.widL fs) ≤ 60 := hw
      walk_at "go"
      refine ⟨fun i E => Iv (∃ y z : SV, E = ⟨[.v (Fc.all fs).d, .v (.tup (cs.map .str)), y, z], c⟩ ∧ (fs.take i).all (Fc.tr (inR cs)) = true), .a ⟨_, _, rfl, rfl⟩, ?_, ?_⟩
      · intro i d E ed iv
        obtain ⟨y, z, rfl, ha⟩ := iv.out
        rw [Fc.dL_map] at ed
        obtain ⟨f, ef, rfl⟩ := map_get ed
        have mf := List.mem_of_getElem? ef
        have h1 := Fc.dep_mem mf
        have h2 := Fc.wid_mem mf
        walk_at "wh"
        refine ⟨f, cs, rfl, by omega, by omega, ?_⟩
        walk_at "wh"
        have ew : decide (("and" : Tx) = "or") = false := by decide
        rw [ew]
        refine bothD (fun e => ?_) (fun e => ?_)
        · walk_at "wh"
          have e2 : (Fc.all fs).tr (inR cs) = false := by
            show Fc.trA (inR cs) fs = false
            rw [Fc.trA_all]
            exact List.all_eq_false.mpr ⟨f, mf, by rw [e]; decide⟩
          rw [e2] at q
          show Q (.bl (decide (("and" : Tx) = "or"))) c
          rw [ew]
          exact q
        · walk_at "wh"
          refine .a ⟨_, _, rfl, ?_⟩
          rw [take_more ef, List.all_append, ha]
          simpa using e
      · intro E iv
        obtain ⟨y, z, rfl, ha⟩ := iv.out
        have el : (Fc.dL fs).length = fs.length := by rw [Fc.dL_map, List.length_map]
        rw [el, List.take_length] at ha
        walk_at "wh"
        have e2 : (Fc.all fs).tr (inR cs) = true := by
          show Fc.trA (inR cs) fs = true
          rw [Fc.trA_all]
          exact ha
        rw [e2] at q
        exact q
    | any fs =>
      have hd : Fc.depL fs + 1 + 1 ≤ n + 1 := hd
      have hw : max fs.length (Fc.widL fs) ≤ 60 := hw
      walk_at "go"
      refine ⟨fun i E => Iv (∃ y z : SV, E = ⟨[.v (Fc.any fs).d, .v (.tup (cs.map .str)), y, z], c⟩ ∧ (fs.take i).any (Fc.tr (inR cs)) = false), .a ⟨_, _, rfl, rfl⟩, ?_, ?_⟩
      · intro i d E ed iv
        obtain ⟨y, z, rfl, ha⟩ := iv.out
        rw [Fc.dL_map] at ed
        obtain ⟨f, ef, rfl⟩ := map_get ed
        have mf := List.mem_of_getElem? ef
        have h1 := Fc.dep_mem mf
        have h2 := Fc.wid_mem mf
        walk_at "wh"
        refine ⟨f, cs, rfl, by omega, by omega, ?_⟩
        walk_at "wh"
        have ew : decide (("or" : Tx) = "or") = true := by decide
        rw [ew]
        refine bothD (fun e => ?_) (fun e => ?_)
        · walk_at "wh"
          have e2 : (Fc.any fs).tr (inR cs) = true := by
            show Fc.trO (inR cs) fs = true
            rw [Fc.trO_any]
            exact List.any_eq_true.mpr ⟨f, mf, e⟩
          rw [e2] at q
          show Q (.bl (decide (("or" : Tx) = "or"))) c
          rw [ew]
          exact q
        · walk_at "wh"
          refine .a ⟨_, _, rfl, ?_⟩
          rw [take_more ef, List.any_append, ha]
          simpa using e
      · intro E iv
        obtain ⟨y, z, rfl, ha⟩ := iv.out
        have el : (Fc.dL fs).length = fs.length := by rw [Fc.dL_map, List.length_map]
        rw [el, List.take_length] at ha
        walk_at "wh"
        have e2 : (Fc.any fs).tr (inR cs) = false := by
          show Fc.trO (inR cs) fs = false
          rw [Fc.trO_any]
          exact ha
        rw [e2] at q
        exact q
    | imp a b =>
      have hd : max a.dep b.dep + 1 + 1 ≤ n + 1 := hd
      have hw : max a.wid b.wid ≤ 60 := hw
      walk_at "go"
      refine ⟨b, cs, rfl, by omega, by omega, ?_⟩
      walk_at "wh"
      refine ⟨fun e => ?_, fun e => ?_⟩
      · have e2 : (Fc.imp a b).tr (inR cs) = true := by show (!a.tr (inR cs) || b.tr (inR cs)) = true; rw [e]; exact Bool.or_true _
        rw [e2] at q
        exact q
      · walk_at "wh"
        refine ⟨a, cs, rfl, by omega, by omega, ?_⟩
        have e2 : (Fc.imp a b).tr (inR cs) = !a.tr (inR cs) := by show (!a.tr (inR cs) || b.tr (inR cs)) = _; rw [e]; exact Bool.or_false _
        rw [e2] at q
        exact q
    | tt =>
      walk_at "go"
      exact q
    | ff =>
      walk_at "go"
      exact q
theorem ok__law_true (T : Txt P w K mg) : FnOk P w K mg base CX0 24 T.a__law_true T.d__law_true ["fact", "committed"] (spV (Sx T) (mTr 23)) := rec__law_true T 23
end
end Va
set_option Elab.async false
set_option linter.all false
set_option maxRecDepth 100000
set_option maxHeartbeats 4000000
namespace Va
open PySem PySem.Spec PyProof.Rows L2 Ind RowK
local macro_rules | `(tactic| walk_at "cn") => `(tactic| first
  | assumption
  | omega
  | exact dm (by omega)
  | exact line (by simp)
  | exact line (by omega)
  | exact line (by simp only [len_app, len_one]; omega)
  | exact small_div (by omega) (by omega)
  | solve_by_elim
  | exact Or.inr ⟨by omega, by omega⟩
  | exact Or.inl ⟨by omega, by omega⟩
  | exact ⟨by omega, by omega⟩
  | decide)
local macro_rules | `(tactic| walk_at "st") => `(tactic| repeat (first
  | refine ⟨_, rfl, ?_⟩
  | refine ⟨_, _, rfl, rfl, ?_⟩
  | refine ⟨_, _, rfl, ?_⟩
  | refine .inl ⟨_, rfl, ?_⟩
  | refine And.intro rfl ?_
  | refine And.intro (by walk_at "cn") ?_))
local macro_rules | `(tactic| walk_at "fz") => `(tactic| repeat (first | exact Fz.refl | apply Fz.upd))
local macro_rules | `(tactic| walk_at "hl") => `(tactic| ((repeat rw [upd_ne (by assumption)]); assumption))
local macro_rules | `(tactic| walk_at "fy") => `(tactic| (intro b o n1 h; (repeat rw [upd_ne n1]); exact h))
local macro_rules | `(tactic| walk_at "wh") => `(tactic| (conv => whnf))
local macro_rules | `(tactic| walk_at "cv") => `(tactic| first
  | rfl
  | assumption
  | omega
  | exact dm (by omega)
  | exact small_div (by omega) (by omega)
  | (simp only [len_app, one_len, len_one, List.length_append, List.length_map, List.length_cons, List.length_nil]; omega)
  | exact Or.inr ⟨by omega, by omega⟩
  | exact Or.inl ⟨by omega, by omega⟩
  | exact ⟨by omega, by omega⟩
  | decide)
local macro_rules | `(tactic| walk_at "vv") => `(tactic| repeat (refine And.intro (by walk_at "cv") ?_))
local macro_rules | `(tactic| walk_at "sk") => `(tactic| repeat (first
  | refine wayT ?_
  | refine wayF ?_
  | refine skipT (by omega) ?_
  | refine skipF (by omega) ?_
  | refine skipT (by decide) ?_
  | refine skipF (by decide) ?_
  | refine ⟨_, (show tyNames _ = some _ from rfl), ?_⟩
  | refine And.intro (by walk_at "cv") ?_))
local macro_rules | `(tactic| walk_at "s0") => `(tactic| first
  | refine wayT ?_
  | refine wayF ?_
  | refine skipT (by omega) ?_
  | refine skipF (by omega) ?_
  | refine skipT (by decide) ?_
  | refine skipF (by decide) ?_
  | refine ⟨_, (show tyNames _ = some _ from rfl), ?_⟩
  | refine And.intro (by walk_at "cv") ?_)
local macro_rules | `(tactic| walk_at "s1") => `(tactic| try (walk_at "s0"; walk_at "wh"))
local macro_rules | `(tactic| walk_at "go") => `(tactic| (walk_at "wh"; repeat (walk_at "s0"; walk_at "wh")))
def lrD (p : List Cell × Fc) : D := .tup [rowD p.1, p.2.d]
def kept (cs : List Tx) (ps : List (List Cell × Fc)) : List (List Cell) := (ps.filter fun p => p.2.tr (inR cs)).map (·.1)
def rowsD (rs : List (List Cell)) : D := .tup (rs.map rowD)
structure PrS (ns : List Tx) (ps : List (List Cell × Fc)) : Prop where
  len : ps.length ≤ 4
  nms : ∀ p ∈ ps, ∀ x ∈ p.2.names, x ∈ ns
  dep : ∀ p ∈ ps, p.2.dep ≤ 2
  wid : ∀ p ∈ ps, p.2.wid ≤ 6
  sm : ∀ p ∈ ps, Smal (lrD p).pd 6 380
  nol : ∀ p ∈ ps, noLst (lrD p).pd = true
  smr : ∀ p ∈ ps, Smal (rowD p.1).pd 1 220
def mPairs : VM := fun ds c Q => ∃ (cs : List Col) (ns : List Tx) (m : Nat), ds = [.tape, colsP cs, .lst (ns.map .str), .int m] ∧ cs ≠ [] ∧ cs.length ≤ 7 ∧ (∀ p ∈ cs, p.2.ok) ∧ ns ≠ [] ∧ ns.length ≤ 20 ∧ (∀ x ∈ ns, tOk x ∧ x.length ≤ 20) ∧ m ≤ 4 ∧ ∀ ps : List (List Cell × Fc), PrS ns ps → Q (.tup (ps.map lrD)) c
def mRowsFor : VM := fun ds c Q => ∃ (ns : List Tx) (ps : List (List Cell × Fc)) (cs : List Tx), ds = [.tup (ps.map lrD), .tup (cs.map .str)] ∧ PrS ns ps ∧ Q (rowsD (kept cs ps)) c
def mRelFor : VM := fun ds c Q => ∃ (ns : List Tx) (ps : List (List Cell × Fc)) (cs : List Tx) (nd : D), ds = [.tup [nd, .tup (ps.map lrD)], .tup (cs.map .str)] ∧ PrS ns ps ∧ Q (.tup [nd, rowsD (kept cs ps)]) c
abbrev Lf := List (Tx × List (List Cell × Fc))
def liK (l : Lf) : List (Key × D) := l.map fun p => (.inr p.1, .tup (p.2.map lrD))
def dueK (cs : List Tx) (l : Lf) : List (Key × D) := l.map fun p => (.inr p.1, rowsD (kept cs p.2))
def mTablesFor : VMO := fun ds c Q => ∃ (ns : List Tx) (l : Lf) (cs : List Tx), ds = [.dk (liK l), .tup (cs.map .str)] ∧ l.length ≤ 3 ∧ (l.map (·.1)).Nodup ∧ (∀ p ∈ l, PrS ns p.2) ∧ Q (dueK cs l) c
theorem kept_more {cs : List Tx} {ps : List (List Cell × Fc)} {i : Nat} {p : List Cell × Fc} (e : ps[i]? = some p) : kept cs (ps.take (i + 1)) = kept cs (ps.take i) ++ if p.2.tr (inR cs) = true then [p.1] else [] := by
  unfold kept
  rw [take_more e, List.filter_append, List.map_append]
  congr 1
  show List.map (fun x => x.1) (match p.2.tr (inR cs) with | true => [p] | false => []) = _
  cases p.2.tr (inR cs) <;> rfl
theorem smal_row7 {r : List Cell} (h : ∀ c ∈ r, cellSm c) (hl : r.length ≤ 7) : Smal (rowD r).pd 1 220 := by
  rw [pd_rwD]
  have := smal_tup (k := 0) (m := 30) (ds := r.map celP) fun d hd => by
    obtain ⟨c, hc, rfl⟩ := List.mem_map.mp hd
    have := h c hc
    cases c with
    | inl i => exact smal_int this 0 30
    | inr x => exact smal_str this.1 this.2
  rw [List.length_map] at this
  exact this.mono (Nat.le_refl _) (by omega)
theorem fit_all {cs : List Col} {r : List Cell} (h : rowFit cs r) : ∀ c ∈ r, cellSm c := fun c hc => by
  obtain ⟨i, hi⟩ := List.getElem?_of_mem hc
  have h1 := (List.getElem?_eq_some_iff.mp hi).1
  exact fit_sm (h.2 i c _ hi (List.getElem?_eq_getElem (by rw [← h.1]; exact h1)))
theorem prS_of {ns : List Tx} {cs : List Col} (hl : cs.length ≤ 7) {ps : List (List Cell × Fc)} (h4 : ps.length ≤ 4) (h : ∀ p ∈ ps, rowFit cs p.1 ∧ FcS ns 2 p.2) : PrS ns ps := by
  have rw7 : ∀ p ∈ ps, Smal (rowD p.1).pd 1 220 := fun p hp => smal_row7 (fit_all (h p hp).1) (by have := (h p hp).1.1; omega)
  refine ⟨h4, fun p hp => (h p hp).2.nms, fun p hp => (h p hp).2.dep, fun p hp => (h p hp).2.wid, fun p hp => ?_, fun p hp => ?_, rw7⟩
  · exact (smal_two (k := 5) ((rw7 p hp).mono (by decide) (Nat.le_refl _)) (h p hp).2.sm).mono (Nat.le_refl _) (by decide)
  · show (noLst (rowD p.1).pd && (noLst p.2.d.pd && true)) = true
    rw [noLst_row, (h p hp).2.nol]; rfl
theorem nd_take {α : Type} {l : List (Tx × α)} (nd : (l.map (·.1)).Nodup) {i : Nat} {p : Tx × α} (e : l[i]? = some p) : p.1 ∉ (l.take i).map (·.1) := by
  intro h
  obtain ⟨hi, e⟩ := List.getElem?_eq_some_iff.mp e
  subst e
  have e2 : l = l.take i ++ l[i] :: l.drop (i + 1) := by rw [← List.drop_eq_getElem_cons hi, List.take_append_drop]
  rw [e2, List.map_append, List.map_cons] at nd
  exact (List.nodup_append.mp nd).2.2 _ (by simpa using h) _ List.mem_cons_self (by simp)
theorem putD_new {kvs : List (Key × D)} {k : Key} {v : D} (h : ∀ p ∈ kvs, p.1 ≠ k) : putD kvs k v = kvs ++ [(k, v)] := by
  unfold putD
  rw [if_neg]
  intro e
  obtain ⟨p, hp, e⟩ := List.any_eq_true.mp e
  exact h p hp (of_decide_eq_true e)
section
variable {P : Program} {w : World} {K : PySem.W.Frag} {mg : PySem.Str → Option Value} {base : Heap}
theorem ok__rows_for (T : Txt P w K mg) (TB_holds : GxR.TabB base mg T.cc_holds T.pp_holds) : FnOk P w K mg base CX0 48 T.a__rows_for T.d__rows_for ["pairs", "committed"] (spV (Sx T) mRowsFor) := by
  have G_holds := ok_holds (P := P) (w := w) (base := base) T TB_holds
  refine def_v (S := Sx T) (N := N__rows_for) T.F__rows_for sc__rows_for rfl (fun ds c Q h => by obtain ⟨_, ps, cs, rfl, _⟩ := h; first | rfl | assumption) (fun cdv A outer s H E hr => (vss_one (vs_ret (ve_of (pe_CB1 (c_tupleD rfl rfl) (fun hc ha => pe_callTy hc (by rfl) T.z_tuple boot_tuple ha) (be_of (ve_of (fe_fz 1 (fe_lc (own := [("row", 2), ("fact", 3)]) rfl sc__rows_for.nd (vi_any rfl (ve_name (pv 0))) (blkOk_by (own := [("row", 2), ("fact", 3)]) (N := N__rows_for) (sc := defScope s__rows_for) (by decide +kernel)) (fun _ _ _ _ _ => (vg_tup 2 rfl rfl (vgs_cons (vg_name (i := 2) [2, 3] (by decide) sc__rows_for.nd rfl (.inl rfl)) (vgs_cons (vg_name (i := 3) [2, 3] (by decide) sc__rows_for.nd rfl (.inl rfl)) (vgs_nil [2, 3]))) (by rfl) (by rfl))) (fun _ _ _ _ _ => (vts_one (vb_tru rfl (be_of (ve_call G_holds hr (by rfl) T.g_holds T.F_holds.kp T.b_holds (va_cons (ve_name (pv 3)) (va_cons (ve_name (pv 1)) va_nil))))))) (fun _ _ _ _ _ => (ve_name (pv 2)))))))))))) ?_
  rintro ds c Q ⟨ns, ps, cs, rfl, hp, q⟩
  have := hp.len
  walk_at "wh"
  refine ⟨by rw [List.length_map]; omega, fun i acc k => Iv (acc = (kept cs (ps.take i)).map rowD ∧ k = c), .a ⟨rfl, rfl⟩, ?_, ?_⟩
  · intro i d acc k ed iv la
    obtain ⟨rfl, rfl⟩ := iv.out
    obtain ⟨p, ep, rfl⟩ := map_get ed
    have mp := List.mem_of_getElem? ep
    walk_at "wh"
    refine ⟨rfl, ?_⟩
    walk_at "wh"
    refine ⟨p.2, cs, rfl, by have := hp.dep p mp; omega, by have := hp.wid p mp; omega, ?_⟩
    walk_at "wh"
    refine ⟨fun e => ?_, fun e => ?_⟩
    · refine .a ⟨?_, rfl⟩
      rw [kept_more ep, if_pos e, List.map_append]
      rfl
    · refine .a ⟨?_, rfl⟩
      rw [kept_more ep, if_neg (by rw [e]; decide), List.append_nil]
  · intro acc k iv la
    obtain ⟨rfl, rfl⟩ := iv.out
    rw [List.length_map, List.take_length]
    walk_at "wh"
    exact q
theorem ok_relation_for (T : Txt P w K mg) (TB_holds : GxR.TabB base mg T.cc_holds T.pp_holds) : FnOk P w K mg base CX0 49 T.a_relation_for T.d_relation_for ["lifted", "committed"] (spV (Sx T) mRelFor) := by
  have G__rows_for := ok__rows_for (P := P) (w := w) (base := base) T TB_holds
  refine def_v (S := Sx T) (N := N_relation_for) T.F_relation_for sc_relation_for rfl (fun ds c Q h => by obtain ⟨_, ps, cs, nd, rfl, _⟩ := h; first | rfl | assumption) (fun cdv A outer s H E hr => (vss_cons (vs_asg (ve_name (pv 0)) (vg_tup 2 rfl rfl (vgs_cons (vg_name (i := 2) [2, 3] (by decide) sc_relation_for.nd rfl (.inl rfl)) (vgs_cons (vg_name (i := 3) [2, 3] (by decide) sc_relation_for.nd rfl (.inl rfl)) (vgs_nil [2, 3]))) (by rfl) (by rfl)))
      (vss_one (vs_ret (ve_tup (va_cons (ve_name (pv 2)) (va_cons (ve_call G__rows_for hr (by rfl) T.g__rows_for T.F__rows_for.kp T.b__rows_for (va_cons (ve_name (pv 3)) (va_cons (ve_name (pv 1)) va_nil))) va_nil))))))) ?_
  rintro ds c Q ⟨ns, ps, cs, nd, rfl, hp, q⟩
  walk_at "wh"
  refine ⟨rfl, ?_⟩
  walk_at "wh"
  refine ⟨ns, ps, cs, rfl, hp, ?_⟩
  refine ⟨by show 2 ≤ 1000; decide, ?_⟩
  exact q
theorem ok_tables_for (T : Txt P w K mg) (TB_holds : GxR.TabB base mg T.cc_holds T.pp_holds) : FnOk P w K mg base CX0 49 T.a_tables_for T.d_tables_for ["tables", "committed"] (spO (Sx T) mTablesFor) := by
  have G__rows_for := ok__rows_for (P := P) (w := w) (base := base) T TB_holds
  refine def_o (S := Sx T) (N := N_tables_for) T.F_tables_for sc_tables_for rfl (fun ds c Q h => by obtain ⟨_, l, cs, rfl, _⟩ := h; first | rfl | assumption) (fun cdv A outer s H E hr => (vso_ret (fe_fz 1 (fe_dc (own := [("name", 2), ("pairs", 3)]) rfl sc_tables_for.nd (vi_itemsK rfl (ve_name (pv 0))) (blkOk_by (own := [("name", 2), ("pairs", 3)]) (N := N_tables_for) (sc := defScope s_tables_for) (by decide +kernel)) (fun _ _ _ _ _ => (vg_tup 2 rfl rfl (vgs_cons (vg_name (i := 2) [2, 3] (by decide) sc_tables_for.nd rfl (.inl rfl)) (vgs_cons (vg_name (i := 3) [2, 3] (by decide) sc_tables_for.nd rfl (.inl rfl)) (vgs_nil [2, 3]))) (by rfl) (by rfl))) (fun _ _ _ _ _ => vts_nil) (fun _ _ _ _ _ => (ve_name (pv 2))) (fun _ _ _ _ _ => (ve_call G__rows_for hr (by rfl) T.g__rows_for T.F__rows_for.kp T.b__rows_for (va_cons (ve_name (pv 3)) (va_cons (ve_name (pv 1)) va_nil)))))))) ?_
  rintro ds c Q ⟨ns, l, cs, rfl, hl, nd, hp, q⟩
  walk_at "wh"
  refine ⟨_, rfl, ?_⟩
  walk_at "wh"
  refine ⟨by rw [List.length_map]; unfold liK; rw [List.length_map]; omega, fun i acc k => Iv (acc = dueK cs (l.take i) ∧ k = c), .a ⟨rfl, rfl⟩, ?_, ?_⟩
  · intro i d acc k ed iv la
    obtain ⟨rfl, rfl⟩ := iv.out
    obtain ⟨p, ep, rfl⟩ := map_get ed
    obtain ⟨⟨x, ps⟩, ex, rfl⟩ := map_get ep
    have mx := List.mem_of_getElem? ex
    walk_at "wh"
    refine ⟨rfl, ?_⟩
    walk_at "wh"
    refine wayT ?_
    walk_at "wh"
    refine ⟨ns, ps, cs, rfl, hp _ mx, ?_⟩
    refine ⟨.inr x, rfl, .a ⟨?_, rfl⟩⟩
    rw [take_more ex]
    unfold dueK
    rw [List.map_append]
    refine putD_new fun q hq e => ?_
    obtain ⟨z, hz, rfl⟩ := List.mem_map.mp hq
    have e : z.1 = x := Sum.inr.inj e
    have := nd_take nd ex
    exact this (List.mem_map.mpr ⟨z, hz, e⟩)
  · intro acc k iv la
    obtain ⟨rfl, rfl⟩ := iv.out
    have e : ((liK l).map itD0).length = l.length := by rw [List.length_map]; unfold liK; rw [List.length_map]
    rw [e, List.take_length]
    exact ⟨_, rfl, _, rfl, q⟩
theorem ok__law_pairs (T : Txt P w K mg) : FnOk P w K mg base CX0 7 T.a__law_pairs T.d__law_pairs ["tape", "columns", "names", "many"] (spV (Sx T) mPairs) := by
  have G__law_draw := draw_v (S := Sx T) (ok__law_draw (P := P) (w := w) (base := base) T)
  have G__law_row := ok__law_row (P := P) (w := w) (base := base) T
  have G__law_fact := ok__law_fact (P := P) (w := w) (base := base) T
  refine def_v (S := Sx T) (N := N__law_pairs) T.F__law_pairs sc__law_pairs rfl (fun ds c Q h => by obtain ⟨cs, ns, m, rfl, _⟩ := h; first | rfl | assumption) (fun cdv A outer s H E hr => (vss_cons (vs_set (i := 4) sc__law_pairs.nd rfl (.inl rfl) (fe_lst va_nil))
      (vss_cons (vs_for PassesOwn.never rfl (vi_range1 (by rfl) T.z_range (va_cons (ve_call G__law_draw (hr.mono (by omega)) (by rfl) T.g__law_draw T.F__law_draw.kp T.b__law_draw (va_cons (ve_name (pv 0)) (va_cons (ve_of (fe_op (o_add rfl) (ve_name (pv 3)) (be_of ve_int))) va_nil))) va_nil)) (vg_name (i := 5) [5] (by decide) sc__law_pairs.nd rfl (.inl rfl))
      (vss_cons (vs_set (i := 6) sc__law_pairs.nd rfl (.inl rfl) (fe_of (ve_call G__law_row (hr.mono (by omega)) (by rfl) T.g__law_row T.F__law_row.kp T.b__law_row (va_cons (ve_name (pv 0)) (va_cons (ve_name (pv 1)) va_nil)))))
      (vss_one (vs_if (vb_cmp (o_nin rfl (hu65 hr)) (ve_name (pv 6)) (be_name (pv 4)) (by rfl)) (vss_one (vs_append rfl (pv 4) (ve_name (pv 6)))) vss_nil))))
      (vss_one (vs_ret (ve_of (pe_CB1 (c_tupleD rfl rfl) (fun hc ha => pe_callTy hc (by rfl) T.z_tuple boot_tuple ha) (be_of (ve_of (fe_fz 2 (fe_fz 0 (fe_lc (own := [("row", 6)]) rfl sc__law_pairs.nd (vi_any rfl (ve_of (pe_CB1 (c_sortedR rfl (hu8 hr)) (fun hc ha => pe_callB hc (by rfl) T.z_sorted boot_sorted ha) (be_name (pv 4))))) (blkOk_by (own := [("row", 6)]) (N := N__law_pairs) (sc := defScope s__law_pairs) (by decide +kernel)) (fun _ _ _ _ _ => (vg_name (i := 6) [6] (by decide) sc__law_pairs.nd rfl (.inl rfl))) (fun _ _ _ _ _ => vts_nil) (fun _ _ _ _ _ => (ve_tup (va_cons (ve_name (pv 6)) (va_cons (ve_call G__law_fact hr (by rfl) T.g__law_fact T.F__law_fact.kp T.b__law_fact (va_cons (ve_name (pv 0)) (va_cons (ve_name (pv 2)) (va_cons ve_int va_nil)))) va_nil)))))))))))))))) ?_
  rintro ds c Q ⟨cs, ns, m, rfl, hc0, hl, hk, hne, hn, hns, hm, q⟩
  walk_at "wh"
  refine ⟨by show 0 ≤ 1000; decide, ?_⟩
  walk_at "wh"
  refine ⟨_, rfl, Nat.zero_le _, dm (by omega), fun r hr => ?_⟩
  have hr : r ≤ m := by omega
  walk_at "wh"
  refine ⟨⟨by omega, by omega⟩, ?_⟩
  have lr : (rng 0 (r : Int).toNat).length = r := by simp [rng]
  refine ⟨fun i E => Iv (∃ (ls : List (List Cell)) (y z : SV), E = ⟨[.v .tape, .v (colsP cs), .v (.lst (ns.map .str)), .v (.int m), .ol (ls.map rowD), y, z], c⟩ ∧ ls.length ≤ i ∧ ls.Nodup ∧ ∀ r ∈ ls, rowFit cs r), .a ⟨[], _, _, rfl, Nat.le_refl _, List.nodup_nil, fun _ h => nomatch h⟩, ?_, ?_⟩
  · intro i d E ed iv
    obtain ⟨ls, y, z, rfl, ll, lnd, lf⟩ := iv.out
    have hi := (List.getElem?_eq_some_iff.mp ed).1
    rw [lr] at hi
    walk_at "wh"
    refine ⟨cs, rfl, by omega, hk, fun r hr => ?_⟩
    walk_at "wh"
    refine ⟨shp_rowD hr.rok, shp_rowsD fun x hx => (lf x hx).rok, ?_⟩
    walk_at "wh"
    refine both (fun e => ?_) (fun _ => ?_)
    · have nm : r ∉ ls := fun z => by
        have e : (!((ls.map rowD).any fun y => PyData.eqv y.pd (rowD r).pd)) = true := e
        rw [in_rowsD, memB_iff.mpr z] at e
        cases e
      walk_at "wh"
      refine ⟨by rw [List.length_map]; omega, ?_⟩
      refine .a ⟨ls ++ [r], _, _, by rw [List.map_append]; rfl, by simp; exact ll, List.nodup_append.mpr ⟨lnd, by simp, fun a ha b hb eq => by simp at hb; subst hb; subst eq; exact nm ha⟩, fun x hx => ?_⟩
      rcases List.mem_append.mp hx with hx | hx
      · exact lf x hx
      · rw [List.mem_singleton.mp hx]; exact hr
    · exact .a ⟨ls, _, _, rfl, by omega, lnd, lf⟩
  · intro E iv
    obtain ⟨ls, y, z, rfl, ll, lnd, lf⟩ := iv.out
    rw [lr] at ll
    have ne : ∀ r ∈ ls, r ≠ [] := fun r h e => by
      have h1 := (lf r h).1
      rw [e] at h1
      exact hc0 (List.eq_nil_of_length_eq_zero h1.symm)
    walk_at "wh"
    refine ⟨ls, rfl, ne, fun r hr => (lf r hr).rok, fun r hr q hq => fit_like (lf r hr) (lf q hq), fun ls' lp lsr => ?_⟩
    have lle := lp.length_eq
    walk_at "wh"
    refine ⟨by rw [List.length_map]; omega, fun i acc k => Iv (∃ ps : List (List Cell × Fc), acc = ps.map lrD ∧ ps.length = i ∧ (∀ p ∈ ps, rowFit cs p.1 ∧ FcS ns 2 p.2) ∧ k = c), .a ⟨[], rfl, rfl, (fun _ h => nomatch h), rfl⟩, ?_, ?_⟩
    · intro i d acc k ed iv la
      obtain ⟨ps, rfl, hi, hf, rfl⟩ := iv.out
      obtain ⟨p, ep, rfl⟩ := map_get ed
      have mp := lp.mem_iff.mp (List.mem_of_getElem? ep)
      refine wayT ?_
      walk_at "wh"
      refine ⟨ns, 2, rfl, by decide, hne, hn, hns, fun F hF => ?_⟩
      refine ⟨by show 2 ≤ 1000; decide, ?_⟩
      refine .a ⟨ps ++ [(p, F)], by rw [List.map_append]; rfl, by rw [List.length_append, hi]; rfl, fun z hz => ?_, rfl⟩
      rcases List.mem_append.mp hz with hz | hz
      · exact hf z hz
      · cases List.mem_singleton.mp hz; exact ⟨lf _ mp, hF⟩
    · intro acc k iv la
      obtain ⟨ps, rfl, hi, hf, rfl⟩ := iv.out
      rw [List.length_map] at hi
      walk_at "wh"
      exact q ps (prS_of hl (by omega) hf)
end
end Va
set_option Elab.async false
set_option linter.all false
set_option maxRecDepth 100000
set_option maxHeartbeats 4000000
namespace Va
open PySem PySem.Spec PyProof.Rows L2 Ind
local macro_rules | `(tactic| walk_at "cn") => `(tactic| first
  | assumption
  | omega
  | exact dm (by omega)
  | exact line (by simp)
  | exact line (by omega)
  | exact line (by simp only [len_app, len_one]; omega)
  | exact small_div (by omega) (by omega)
  | solve_by_elim
  | exact Or.inr ⟨by omega, by omega⟩
  | exact Or.inl ⟨by omega, by omega⟩
  | exact ⟨by omega, by omega⟩
  | decide)
local macro_rules | `(tactic| walk_at "st") => `(tactic| repeat (first
  | refine ⟨_, rfl, ?_⟩
  | refine ⟨_, _, rfl, rfl, ?_⟩
  | refine ⟨_, _, rfl, ?_⟩
  | refine .inl ⟨_, rfl, ?_⟩
  | refine And.intro rfl ?_
  | refine And.intro (by walk_at "cn") ?_))
local macro_rules | `(tactic| walk_at "fz") => `(tactic| repeat (first | exact Fz.refl | apply Fz.upd))
local macro_rules | `(tactic| walk_at "hl") => `(tactic| ((repeat rw [upd_ne (by assumption)]); assumption))
local macro_rules | `(tactic| walk_at "fy") => `(tactic| (intro b o n1 h; (repeat rw [upd_ne n1]); exact h))
local macro_rules | `(tactic| walk_at "wh") => `(tactic| (conv => whnf))
local macro_rules | `(tactic| walk_at "cv") => `(tactic| first
  | rfl
  | assumption
  | omega
  | exact dm (by omega)
  | exact small_div (by omega) (by omega)
  | (simp only [len_app, one_len, len_one, List.length_append, List.length_map, List.length_cons, List.length_nil]; omega)
  | exact Or.inr ⟨by omega, by omega⟩
  | exact Or.inl ⟨by omega, by omega⟩
  | exact ⟨by omega, by omega⟩
  | decide)
local macro_rules | `(tactic| walk_at "vv") => `(tactic| repeat (refine And.intro (by walk_at "cv") ?_))
local macro_rules | `(tactic| walk_at "sk") => `(tactic| repeat (first
  | refine wayT ?_
  | refine wayF ?_
  | refine skipT (by omega) ?_
  | refine skipF (by omega) ?_
  | refine skipT (by decide) ?_
  | refine skipF (by decide) ?_
  | refine ⟨_, (show tyNames _ = some _ from rfl), ?_⟩
  | refine And.intro (by walk_at "cv") ?_))
local macro_rules | `(tactic| walk_at "s0") => `(tactic| first
  | refine wayT ?_
  | refine wayF ?_
  | refine skipT (by omega) ?_
  | refine skipF (by omega) ?_
  | refine skipT (by decide) ?_
  | refine skipF (by decide) ?_
  | refine ⟨_, (show tyNames _ = some _ from rfl), ?_⟩
  | refine And.intro (by walk_at "cv") ?_)
local macro_rules | `(tactic| walk_at "s1") => `(tactic| try (walk_at "s0"; walk_at "wh"))
local macro_rules | `(tactic| walk_at "go") => `(tactic| (walk_at "wh"; repeat (walk_at "s0"; walk_at "wh")))
def mAll : VM := fun ds c Q => ∃ ns : List Tx, ds = [.lst (ns.map .str)] ∧ ns.length ≤ 9 ∧ ∀ rs : List (List Tx), rs.length ≤ 512 → (∀ r ∈ rs, r.length ≤ ns.length) → Q (.lst (rs.map fun r => .tup (r.map .str))) c
section
variable {P : Program} {w : World} {K : PySem.W.Frag} {mg : PySem.Str → Option Value} {base : Heap}
theorem ok__law_all (T : Txt P w K mg) : FnOk P w K mg base CX0 1 T.a__law_all T.d__law_all ["names"] (spV (Sx T) mAll) := by
  refine def_v (S := Sx T) (N := N__law_all) T.F__law_all sc__law_all rfl (fun ds c Q h => by obtain ⟨ns, rfl, _⟩ := h; first | rfl | assumption) (fun cdv A outer s H E hr => (vss_cons (vs_set (i := 1) sc__law_all.nd rfl (.inl rfl) (fe_lst (va_cons (ve_tup va_nil) va_nil)))
      (vss_cons (vs_for PassesOwn.never rfl (vi_any rfl (ve_name (pv 0))) (vg_name (i := 2) [2] (by decide) sc__law_all.nd rfl (.inr rfl))
      (vss_one (vs_set (i := 1) sc__law_all.nd rfl (.inl rfl) (fe_op (o_add rfl) (ve_name (pv 1)) (be_of (ve_of (fe_fz 2 (fe_lc (own := [("row", 3)]) rfl sc__law_all.nd (vi_any rfl (ve_name (pv 1))) (blkOk_by (own := [("row", 3)]) (N := N__law_all) (sc := defScope s__law_all) (by decide +kernel)) (fun _ _ _ _ _ => (vg_name (i := 3) [3] (by decide) sc__law_all.nd rfl (.inl rfl))) (fun _ _ _ _ _ => vts_nil) (fun _ _ _ _ _ => (ve_of (fe_op (o_add rfl) (ve_name (pv 3)) (be_of (ve_tup (va_cons (ve_name (pv 2)) va_nil))))))))))))))
      (vss_one (vs_ret (ve_name (pv 1))))))) ?_
  rintro ds c Q ⟨ns, rfl, hl, q⟩
  walk_at "wh"
  have pw : ∀ i, i ≤ ns.length → 2 ^ i ≤ 2 ^ 9 := fun i hi => Nat.pow_le_pow_right (by decide) (by omega)
  have h9 : (2 : Nat) ^ 9 = 512 := by decide
  refine ⟨by show 0 ≤ 1000; decide, by show 1 ≤ 1000; decide, ?_⟩
  refine ⟨fun i E => Iv (∃ (rs : List (List Tx)) (s : SV) (y z : SV), (s = .ol (rs.map fun r => .tup (r.map .str)) ∨ s = .v (.lst (rs.map fun r => .tup (r.map .str)))) ∧ E = ⟨[.v (.lst (ns.map .str)), s, y, z], c⟩ ∧ rs.length ≤ 2 ^ i ∧ ∀ r ∈ rs, r.length ≤ i), .a ⟨[[]], _, _, _, .inl rfl, rfl, Nat.le_refl _, fun r hr => by cases List.mem_singleton.mp hr; exact Nat.le_refl _⟩, ?_, ?_⟩
  · intro i d E ed iv
    obtain ⟨rs, s, y, z, hs, rfl, h1, h2⟩ := iv.out
    obtain ⟨x, ex, rfl⟩ := map_get ed
    have hi := (List.getElem?_eq_some_iff.mp ex).1
    have h3 := pw i (by omega)
    rcases hs with rfl | rfl
    · walk_at "wh"
      refine ⟨by rw [List.length_map]; omega, fun j acc k => Iv (acc = ((rs.take j).map fun r => r ++ [x]).map (fun r => .tup (r.map .str)) ∧ k = c), .a ⟨rfl, rfl⟩, ?_, ?_⟩
      · intro j d acc k ed iv la
        obtain ⟨rfl, rfl⟩ := iv.out
        obtain ⟨r, er, rfl⟩ := map_get ed
        have hr := h2 r (List.mem_of_getElem? er)
        refine wayT ?_
        walk_at "wh"
        refine ⟨by show 1 ≤ 1000; decide, ?_⟩
        refine ⟨by show (r.map D.str).length + 1 ≤ 1000000; rw [List.length_map]; omega, ?_⟩
        refine .a ⟨?_, rfl⟩
        rw [take_more er, List.map_append, List.map_append]
        show _ = _ ++ [D.tup ((r ++ [x]).map D.str)]
        rw [List.map_append]
        rfl
      · intro acc k iv la
        obtain ⟨rfl, rfl⟩ := iv.out
        rw [List.length_map, List.take_length]
        walk_at "wh"
        refine ⟨by rw [List.length_map, List.length_map, List.length_map]; omega, ?_⟩
        refine .a ⟨rs ++ (rs.map fun r => r ++ [x]), _, .v (.str x), z, .inl rfl, ?_, ?_, ?_⟩
        · rw [List.map_append]
          rfl
        · rw [List.length_append, List.length_map, Nat.pow_succ]
          omega
        · intro r hr
          rcases List.mem_append.mp hr with h | h
          · have := h2 r h; omega
          · obtain ⟨r0, h0, rfl⟩ := List.mem_map.mp h
            rw [List.length_append]
            have := h2 r0 h0
            simp only [List.length_cons, List.length_nil]
            omega
    · walk_at "wh"
      refine ⟨by rw [List.length_map]; omega, fun j acc k => Iv (acc = ((rs.take j).map fun r => r ++ [x]).map (fun r => .tup (r.map .str)) ∧ k = c), .a ⟨rfl, rfl⟩, ?_, ?_⟩
      · intro j d acc k ed iv la
        obtain ⟨rfl, rfl⟩ := iv.out
        obtain ⟨r, er, rfl⟩ := map_get ed
        have hr := h2 r (List.mem_of_getElem? er)
        refine wayT ?_
        walk_at "wh"
        refine ⟨by show 1 ≤ 1000; decide, ?_⟩
        refine ⟨by show (r.map D.str).length + 1 ≤ 1000000; rw [List.length_map]; omega, ?_⟩
        refine .a ⟨?_, rfl⟩
        rw [take_more er, List.map_append, List.map_append]
        show _ = _ ++ [D.tup ((r ++ [x]).map D.str)]
        rw [List.map_append]
        rfl
      · intro acc k iv la
        obtain ⟨rfl, rfl⟩ := iv.out
        rw [List.length_map, List.take_length]
        walk_at "wh"
        refine ⟨by rw [List.length_map, List.length_map, List.length_map]; omega, ?_⟩
        refine .a ⟨rs ++ (rs.map fun r => r ++ [x]), _, .v (.str x), z, .inl rfl, ?_, ?_, ?_⟩
        · rw [List.map_append]
          rfl
        · rw [List.length_append, List.length_map, Nat.pow_succ]
          omega
        · intro r hr
          rcases List.mem_append.mp hr with h | h
          · have := h2 r h; omega
          · obtain ⟨r0, h0, rfl⟩ := List.mem_map.mp h
            rw [List.length_append]
            have := h2 r0 h0
            simp only [List.length_cons, List.length_nil]
            omega
  · intro E iv
    obtain ⟨rs, s, y, z, hs, rfl, h1, h2⟩ := iv.out
    rw [List.length_map] at h1 h2
    have h3 := pw ns.length (Nat.le_refl _)
    rcases hs with rfl | rfl
    · walk_at "wh"
      exact q rs (by omega) h2
    · walk_at "wh"
      exact q rs (by omega) h2
end
end Va
set_option Elab.async false
set_option linter.all false
set_option maxRecDepth 100000
set_option maxHeartbeats 4000000
namespace Va
open PySem PySem.Spec PyProof.Rows L2 Ind SrtB
def extW (ws : List Row) (fresh : List Tx) : List Row := (allR fresh).flatMap fun r => ws.map fun w => w ++ r
theorem mem_extW {ws : List Row} {fr : List Tx} {x : Row} : x ∈ extW ws fr ↔ ∃ r ∈ allR fr, ∃ w ∈ ws, x = w ++ r := by
  unfold extW
  rw [List.mem_flatMap]
  constructor
  · rintro ⟨r, hr, h⟩
    obtain ⟨w, hw, rfl⟩ := List.mem_map.mp h
    exact ⟨r, hr, w, hw, rfl⟩
  · rintro ⟨r, hr, w, hw, rfl⟩
    exact ⟨r, hr, List.mem_map.mpr ⟨w, hw, rfl⟩⟩
theorem allR_of : ∀ {K r : List Tx}, r.Sublist K → r ∈ allR K
  | [], r, h => by
    cases List.sublist_nil.mp h
    exact List.mem_singleton.mpr rfl
  | x :: K, r, h => by
    show r ∈ (allR K).map (fun r => x :: r) ++ allR K
    rcases List.sublist_cons_iff.mp h with h2 | ⟨q, rfl, h2⟩
    · exact List.mem_append_right _ (allR_of h2)
    · exact List.mem_append_left _ (List.mem_map_of_mem (allR_of h2))
theorem sorted_one {l m : List Tx} (hl : SrtdN l) (hm : SrtdN m) (nl : l.Nodup) (nm : m.Nodup) (h : ∀ k, k ∈ l ↔ k ∈ m) : l = m :=
  srtd_uniq (k := id) (by rw [List.map_id]; exact hl) (by rw [List.map_id]; exact hm) ((List.perm_ext_iff_of_nodup nl nm).mpr h) fun _ _ _ _ e => e
theorem sub_filter {r ss : List Tx} (nd : ss.Nodup) (h : r.Sublist ss) : ss.filter (fun n => decide (n ∈ r)) = r := by
  induction h with
  | slnil => rfl
  | @cons l1 l2 a h ih =>
    have n2 := List.nodup_cons.mp nd
    rw [List.filter_cons_of_neg (by simpa using fun z => n2.1 (h.subset z))]
    exact ih n2.2
  | @cons_cons l1 l2 a h ih =>
    have n2 := List.nodup_cons.mp nd
    rw [List.filter_cons_of_pos (by simp)]
    congr 1
    rw [← ih n2.2]
    refine List.filter_congr fun n hn => decide_eq_decide.mpr ?_
    rw [ih n2.2]
    exact ⟨fun z => (List.mem_cons.mp z).resolve_left fun e => n2.1 (e ▸ hn), List.mem_cons_of_mem _⟩
section
variable {ms fr ms2 ss : List Tx} {ws : List Row}
structure Grows (ms : List Tx) (ws : List Row) (fr : List Tx) : Prop where
  nd : ms.Nodup
  st : SrtdN ms
  ne : ws ≠ []
  sub : ∀ w ∈ ws, ∀ n ∈ w, n ∈ ms
  fnd : fr.Nodup
  off : ∀ n ∈ fr, n ∉ ms
theorem Grows.some (g : Grows ms ws fr) : ∃ w, w ∈ ws := List.exists_mem_of_ne_nil _ g.ne
theorem Grows.old (g : Grows ms ws fr) {n : Tx} (hn : n ∈ ms) {w r : Row} (hr : r ∈ allR fr) : n ∈ w ++ r ↔ n ∈ w := by
  rw [List.mem_append]
  exact ⟨fun h => h.elim id fun z => absurd hn (g.off n ((allR_sub hr).subset z)), .inl⟩
theorem Grows.sure_old (g : Grows ms ws fr) {n : Tx} (hn : n ∈ ms) : sure (extW ws fr) n = sure ws n := by
  rw [Bool.eq_iff_iff, sure_iff, sure_iff]
  have e0 : ([] : Row) ∈ allR fr := allR_of (List.nil_sublist _)
  constructor
  · rintro (h | h)
    · exact .inl fun w hw z => h _ (mem_extW.mpr ⟨[], e0, w, hw, rfl⟩) (List.mem_append_left _ z)
    · exact .inr fun w hw => (g.old hn e0).mp (h _ (mem_extW.mpr ⟨[], e0, w, hw, rfl⟩))
  · rintro (h | h)
    · refine .inl fun x hx z => ?_
      obtain ⟨r, hr, w, hw, rfl⟩ := mem_extW.mp hx
      exact h w hw ((g.old hn hr).mp z)
    · refine .inr fun x hx => ?_
      obtain ⟨r, hr, w, hw, rfl⟩ := mem_extW.mp hx
      exact List.mem_append_left _ (h w hw)
theorem Grows.sure_new (g : Grows ms ws fr) {n : Tx} (hn : n ∈ fr) : sure (extW ws fr) n = false := by
  cases h : sure (extW ws fr) n with
  | false => rfl
  | true =>
    exfalso
    obtain ⟨w, hw⟩ := g.some
    rcases sure_iff.mp h with h | h
    · exact h _ (mem_extW.mpr ⟨fr, allR_of (List.Sublist.refl _), w, hw, rfl⟩) (List.mem_append_right _ hn)
    · have := h _ (mem_extW.mpr ⟨[], allR_of (List.nil_sublist _), w, hw, rfl⟩)
      rw [List.append_nil] at this
      exact g.off n hn (g.sub w hw n this)
structure Names2 (ms fr ms2 : List Tx) : Prop where
  nd : ms2.Nodup
  st : SrtdN ms2
  mem : ∀ n, n ∈ ms2 ↔ n ∈ ms ∨ n ∈ fr
theorem Grows.sures (g : Grows ms ws fr) (q : Names2 ms fr ms2) : (ms2.filter fun n => sure (extW ws fr) n) = ms.filter fun n => sure ws n := by
  refine sorted_one (q.st.sublist List.filter_sublist) (g.st.sublist List.filter_sublist) (q.nd.filter _) (g.nd.filter _) fun k => ?_
  rw [List.mem_filter, List.mem_filter, q.mem]
  constructor
  · rintro ⟨h | h, z⟩
    · exact ⟨h, by rw [← g.sure_old h]; exact z⟩
    · rw [g.sure_new h] at z; cases z
  · rintro ⟨h, z⟩
    exact ⟨.inl h, by rw [g.sure_old h]; exact z⟩
theorem Grows.decs (g : Grows ms ws fr) (q : Names2 ms fr ms2) : decs ms2 (extW ws fr) = decs ms ws := by
  unfold Va.decs
  rw [g.sures q]
  refine List.map_congr_left fun n hn => ?_
  obtain ⟨h1, h2⟩ := List.mem_filter.mp hn
  obtain ⟨w, hw⟩ := g.some
  have hx : w ++ [] ∈ extW ws fr := mem_extW.mpr ⟨[], allR_of (List.nil_sublist _), w, hw, rfl⟩
  rw [pos_cnt w hw h2, pos_cnt (w ++ []) hx (by rw [g.sure_old h1]; exact h2), List.append_nil]
structure Open2 (ms : List Tx) (ws : List Row) (fr ss : List Tx) : Prop where
  nd : ss.Nodup
  st : SrtdN ss
  mem : ∀ n, n ∈ ss ↔ n ∈ opens ms ws ∨ n ∈ fr
theorem Grows.opens (g : Grows ms ws fr) (q : Names2 ms fr ms2) (o : Open2 ms ws fr ss) : opens ms2 (extW ws fr) = ss := by
  refine sorted_one (q.st.sublist List.filter_sublist) o.st (q.nd.filter _) o.nd fun k => ?_
  rw [o.mem]
  unfold Va.opens
  rw [List.mem_filter, List.mem_filter, q.mem]
  constructor
  · rintro ⟨h | h, z⟩
    · exact .inl ⟨h, by rw [← g.sure_old h]; exact z⟩
    · exact .inr h
  · rintro (⟨h, z⟩ | h)
    · exact ⟨.inl h, by rw [g.sure_old h]; exact z⟩
    · exact ⟨.inr h, by rw [g.sure_new h]; rfl⟩
theorem Open2.len (g : Grows ms ws fr) (o : Open2 ms ws fr ss) : ss.length = (Va.opens ms ws).length + fr.length := by
  have p : ss.Perm (Va.opens ms ws ++ fr) := (List.perm_ext_iff_of_nodup o.nd (List.nodup_append.mpr ⟨g.nd.filter _, g.fnd, fun a ha b hb e => g.off b hb (e ▸ (opens_sub ms ws).subset ha)⟩)).mpr fun k => by
    rw [o.mem, List.mem_append]
    exact Iff.rfl
  rw [p.length_eq, List.length_append]
theorem Open2.cut (g : Grows ms ws fr) (o : Open2 ms ws fr ss) : ss.filter (fun n => decide (n ∈ Va.opens ms ws)) = Va.opens ms ws := by
  refine sorted_one (o.st.sublist List.filter_sublist) (g.st.sublist List.filter_sublist) (o.nd.filter _) (g.nd.filter _) fun k => ?_
  rw [List.mem_filter, o.mem, decide_eq_true_eq]
  exact ⟨fun h => h.2, fun h => ⟨.inl h, h⟩⟩
theorem Grows.rows (g : Grows ms ws fr) (q : Names2 ms fr ms2) (o : Open2 ms ws fr ss) : rowsOf ms2 (extW ws fr) = (allR ss).filter fun r => decide (seenR r (Va.opens ms ws) ∈ rowsOf ms ws) := by
  have eo := g.opens q o
  have swap : ∀ r : Row, r.Sublist ss → seenR r (Va.opens ms ws) = (Va.opens ms ws).filter fun n => decide (n ∈ r) := fun r hr => by
    unfold seenR
    rw [← o.cut g, List.filter_filter, ← sub_filter o.nd hr, List.filter_filter]
    refine List.filter_congr fun n hn => ?_
    rw [sub_filter o.nd hr, o.cut g]
    exact Bool.and_comm _ _
  unfold rowsOf
  rw [eo]
  refine List.filter_congr fun r hr => decide_eq_decide.mpr ?_
  have hs := allR_sub hr
  rw [swap r hs, List.mem_filter, decide_eq_true_eq]
  constructor
  · intro h
    obtain ⟨x, hx, rfl⟩ := List.mem_map.mp h
    obtain ⟨p, hp, w, hw, rfl⟩ := mem_extW.mp hx
    have e : ((Va.opens ms ws).filter fun n => decide (n ∈ seenR ss (w ++ p))) = seenR (Va.opens ms ws) w := by
      unfold seenR
      refine List.filter_congr fun n hn => decide_eq_decide.mpr ?_
      rw [List.mem_filter, decide_eq_true_eq, g.old ((opens_sub ms ws).subset hn) hp]
      exact ⟨fun z => z.2, fun z => ⟨(o.mem n).mpr (.inl hn), z⟩⟩
    rw [e]
    exact ⟨allR_of List.filter_sublist, List.mem_map.mpr ⟨w, hw, rfl⟩⟩
  · rintro ⟨_, h⟩
    obtain ⟨w, hw, ew⟩ := List.mem_map.mp h
    refine List.mem_map.mpr ⟨w ++ fr.filter fun n => decide (n ∈ r), mem_extW.mpr ⟨_, allR_of List.filter_sublist, w, hw, rfl⟩, ?_⟩
    rw [← sub_filter o.nd hs]
    unfold seenR
    refine List.filter_congr fun n hn => decide_eq_decide.mpr ?_
    rw [sub_filter o.nd hs, List.mem_append, List.mem_filter, decide_eq_true_eq]
    rcases (o.mem n).mp hn with z | z
    · have key : n ∈ w ↔ n ∈ r := by
        have : n ∈ seenR (Va.opens ms ws) w ↔ n ∈ (Va.opens ms ws).filter fun n => decide (n ∈ r) := by rw [ew]
        rw [mem_seenR, List.mem_filter, decide_eq_true_eq] at this
        exact ⟨fun a => (this.mp ⟨z, a⟩).2, fun a => (this.mpr ⟨z, a⟩).2⟩
      rw [key]
      exact ⟨fun a => a.elim id fun a => a.2, .inl⟩
    · have nw : n ∉ w := fun a => g.off n z (g.sub w hw n a)
      exact ⟨fun a => a.elim (fun a => absurd a nw) fun a => a.2, fun a => .inr ⟨z, a⟩⟩
end
end Va
set_option Elab.async false
set_option linter.all false
set_option maxRecDepth 100000
set_option maxHeartbeats 4000000
namespace Va
open PySem PySem.Spec PyProof.Rows L2 Ind SrtB
mutual
theorem Fc.tr_congr {p q : Tx → Bool} : ∀ F : Fc, (∀ n ∈ F.names, p n = q n) → F.tr p = F.tr q
  | .com n, h => h n List.mem_cons_self
  | .one ns, h => by
    show decide ((ns.filter p).length = 1) = decide ((ns.filter q).length = 1)
    rw [List.filter_congr (show ∀ n ∈ ns, p n = q n from h)]
  | .neg f, h => by
    show (!f.tr p) = !f.tr q
    rw [Fc.tr_congr f h]
  | .all fs, h => by
    show Fc.trA p fs = Fc.trA q fs
    exact Fc.trA_congr fs h
  | .any fs, h => by
    show Fc.trO p fs = Fc.trO q fs
    exact Fc.trO_congr fs h
  | .imp a b, h => by
    show (!a.tr p || b.tr p) = (!a.tr q || b.tr q)
    rw [Fc.tr_congr a fun n hn => h n (List.mem_append_left _ hn), Fc.tr_congr b fun n hn => h n (List.mem_append_right _ hn)]
  | .tt, _ => rfl
  | .ff, _ => rfl
theorem Fc.trA_congr {p q : Tx → Bool} : ∀ fs : List Fc, (∀ n ∈ Fc.namesL fs, p n = q n) → Fc.trA p fs = Fc.trA q fs
  | [], _ => rfl
  | f :: fs, h => by
    show (f.tr p && Fc.trA p fs) = (f.tr q && Fc.trA q fs)
    rw [Fc.tr_congr f fun n hn => h n (List.mem_append_left _ hn), Fc.trA_congr fs fun n hn => h n (List.mem_append_right _ hn)]
theorem Fc.trO_congr {p q : Tx → Bool} : ∀ fs : List Fc, (∀ n ∈ Fc.namesL fs, p n = q n) → Fc.trO p fs = Fc.trO q fs
  | [], _ => rfl
  | f :: fs, h => by
    show (f.tr p || Fc.trO p fs) = (f.tr q || Fc.trO q fs)
    rw [Fc.tr_congr f fun n hn => h n (List.mem_append_left _ hn), Fc.trO_congr fs fun n hn => h n (List.mem_append_right _ hn)]
end
section
variable {ms : List Tx} {ws : List Row} {F : Fc}
end
end Va
set_option Elab.async false
set_option linter.all false
set_option maxRecDepth 100000
set_option maxHeartbeats 40000000
namespace Va
open PySem PySem.Spec PyProof.Rows L2 Ind RowK
local macro_rules | `(tactic| walk_at "cn") => `(tactic| first
  | assumption
  | omega
  | exact dm (by omega)
  | exact line (by simp)
  | exact line (by omega)
  | exact line (by simp only [len_app, len_one]; omega)
  | exact small_div (by omega) (by omega)
  | solve_by_elim
  | exact Or.inr ⟨by omega, by omega⟩
  | exact Or.inl ⟨by omega, by omega⟩
  | exact ⟨by omega, by omega⟩
  | decide)
local macro_rules | `(tactic| walk_at "st") => `(tactic| repeat (first
  | refine ⟨_, rfl, ?_⟩
  | refine ⟨_, _, rfl, rfl, ?_⟩
  | refine ⟨_, _, rfl, ?_⟩
  | refine .inl ⟨_, rfl, ?_⟩
  | refine And.intro rfl ?_
  | refine And.intro (by walk_at "cn") ?_))
local macro_rules | `(tactic| walk_at "fz") => `(tactic| repeat (first | exact Fz.refl | apply Fz.upd))
local macro_rules | `(tactic| walk_at "hl") => `(tactic| ((repeat rw [upd_ne (by assumption)]); assumption))
local macro_rules | `(tactic| walk_at "fy") => `(tactic| (intro b o n1 h; (repeat rw [upd_ne n1]); exact h))
local macro_rules | `(tactic| walk_at "wh") => `(tactic| (conv => whnf))
local macro_rules | `(tactic| walk_at "cv") => `(tactic| first
  | rfl
  | assumption
  | omega
  | exact dm (by omega)
  | exact small_div (by omega) (by omega)
  | (simp only [len_app, one_len, len_one, List.length_append, List.length_map, List.length_cons, List.length_nil]; omega)
  | exact Or.inr ⟨by omega, by omega⟩
  | exact Or.inl ⟨by omega, by omega⟩
  | exact ⟨by omega, by omega⟩
  | decide)
local macro_rules | `(tactic| walk_at "vv") => `(tactic| repeat (refine And.intro (by walk_at "cv") ?_))
local macro_rules | `(tactic| walk_at "sk") => `(tactic| repeat (first
  | refine wayT ?_
  | refine wayF ?_
  | refine skipT (by omega) ?_
  | refine skipF (by omega) ?_
  | refine skipT (by decide) ?_
  | refine skipF (by decide) ?_
  | refine ⟨_, (show tyNames _ = some _ from rfl), ?_⟩
  | refine And.intro (by walk_at "cv") ?_))
local macro_rules | `(tactic| walk_at "s0") => `(tactic| first
  | refine wayT ?_
  | refine wayF ?_
  | refine skipT (by omega) ?_
  | refine skipF (by omega) ?_
  | refine skipT (by decide) ?_
  | refine skipF (by decide) ?_
  | refine ⟨_, (show tyNames _ = some _ from rfl), ?_⟩
  | refine And.intro (by walk_at "cv") ?_)
local macro_rules | `(tactic| walk_at "s1") => `(tactic| try (walk_at "s0"; walk_at "wh"))
local macro_rules | `(tactic| walk_at "go") => `(tactic| (walk_at "wh"; repeat (walk_at "s0"; walk_at "wh")))
theorem kv_shows {kvs : List (Key × D)} (hl : kvs.length ≤ 3) (h : ∀ p ∈ kvs, (∃ x : Tx, p.1 = .inr x ∧ tOk x ∧ x.length ≤ 20) ∧ Smal p.2.pd 7 1600 ∧ noLst p.2.pd = true) : (∀ p ∈ kvs, p.2.pd.canLay0 = true ∧ noLst p.2.pd = true) ∧ (dkP kvs).showable = true ∧ (dkP kvs).depth ≤ 60 ∧ (dkP kvs).shown.length ≤ 1000000 := by
  refine ⟨fun p hp => ⟨(h p hp).2.1.lay, (h p hp).2.2⟩, dk_shows (k := 7) (l := 20) (m := 1600) (fun p hp => ?_) (by decide) ?_⟩
  · obtain ⟨⟨x, e, t1, t2⟩, sm, _⟩ := h p hp
    rw [e]
    exact ⟨smal_str t1 t2, sm⟩
  · have : (20 + 1600 + 2) * kvs.length ≤ (20 + 1600 + 2) * 3 := Nat.mul_le_mul_left _ hl
    omega
theorem pd_tupm {α : Type} (f : α → D) (xs : List α) : (D.tup (xs.map f)).pd = .tuple (xs.map fun x => (f x).pd) := by
  show PyData.tuple (pdL (xs.map f)) = _
  rw [pdL_map, List.map_map]
  rfl
theorem noLst_map {α : Type} {f : α → D} {xs : List α} (h : ∀ x ∈ xs, noLst (f x).pd = true) : noLst (D.tup (xs.map f)).pd = true := by
  rw [pd_tupm]
  exact noLstL_iff.mpr fun d hd => by
    obtain ⟨x, hx, rfl⟩ := List.mem_map.mp hd
    exact h x hx
theorem li_shows {ns : List Tx} {l : Lf} (hl : l.length ≤ 3) (lk : ∀ p ∈ l, tOk p.1 ∧ p.1.length ≤ 20) (lp : ∀ p ∈ l, PrS ns p.2) : (∀ p ∈ liK l, p.2.pd.canLay0 = true ∧ noLst p.2.pd = true) ∧ (dkP (liK l)).showable = true ∧ (dkP (liK l)).depth ≤ 60 ∧ (dkP (liK l)).shown.length ≤ 1000000 := by
  refine kv_shows (by unfold liK; rw [List.length_map]; exact hl) fun p hp => ?_
  obtain ⟨q, hq, rfl⟩ := List.mem_map.mp hp
  have P := lp q hq
  refine ⟨⟨q.1, rfl, lk q hq⟩, ?_, noLst_map P.nol⟩
  show Smal (D.tup (q.2.map lrD)).pd 7 1600
  rw [pd_tupm]
  refine (smal_tup (k := 6) (m := 380) fun d hd => ?_).mono (Nat.le_refl _) ?_
  · obtain ⟨x, hx, rfl⟩ := List.mem_map.mp hd
    exact P.sm x hx
  · have := P.len
    rw [List.length_map]
    omega
theorem kept_sub {cs : List Tx} {ps : List (List Cell × Fc)} : ∀ r ∈ kept cs ps, ∃ p ∈ ps, p.1 = r := fun r hr => by
  obtain ⟨p, hp, rfl⟩ := List.mem_map.mp hr
  exact ⟨p, (List.mem_filter.mp hp).1, rfl⟩
theorem rows_sm {ns cs : List Tx} {ps : List (List Cell × Fc)} (P : PrS ns ps) : Smal (rowsD (kept cs ps)).pd 2 900 ∧ noLst (rowsD (kept cs ps)).pd = true := by
  refine ⟨?_, noLst_map fun r _ => noLst_row r⟩
  unfold rowsD
  rw [pd_tupm]
  refine (smal_tup (k := 1) (m := 220) fun d hd => ?_).mono (Nat.le_refl _) ?_
  · obtain ⟨x, hx, rfl⟩ := List.mem_map.mp hd
    obtain ⟨p, hp, rfl⟩ := kept_sub x hx
    exact P.smr p hp
  · have h1 := P.len
    have h2 : (kept cs ps).length ≤ ps.length := by unfold kept; rw [List.length_map]; exact List.length_filter_le _ _
    rw [List.length_map]
    omega
theorem due_shows {ns cs : List Tx} {l : Lf} (hl : l.length ≤ 3) (lk : ∀ p ∈ l, tOk p.1 ∧ p.1.length ≤ 20) (lp : ∀ p ∈ l, PrS ns p.2) : (∀ p ∈ dueK cs l, p.2.pd.canLay0 = true ∧ noLst p.2.pd = true) ∧ (dkP (dueK cs l)).showable = true ∧ (dkP (dueK cs l)).depth ≤ 60 ∧ (dkP (dueK cs l)).shown.length ≤ 1000000 := by
  refine kv_shows (by unfold dueK; rw [List.length_map]; exact hl) fun p hp => ?_
  obtain ⟨q, hq, rfl⟩ := List.mem_map.mp hp
  have P := rows_sm (cs := cs) (lp q hq)
  exact ⟨⟨q.1, rfl, lk q hq⟩, P.1.mono (by decide) (by decide), P.2⟩
theorem rel_shows {ns cs : List Tx} {cols : List (Tx × Bool)} {ps : List (List Cell × Fc)} (hl : cols.length ≤ 7) (ht : ∀ p ∈ cols, tOk p.1 ∧ p.1.length ≤ 20) (P : PrS ns ps) : Shows (.tup [.tup (cols.map fun p => .str p.1), rowsD (kept cs ps)]) := by
  have b := (rows_sm (cs := cs) P).1
  have a : Smal (D.tup (cols.map fun p => D.str p.1)).pd 2 200 := by
    rw [pd_tupm]
    refine (smal_tup (k := 1) (m := 20) fun d hd => ?_).mono (Nat.le_refl _) ?_
    · obtain ⟨x, hx, rfl⟩ := List.mem_map.mp hd
      exact smal_str (ht x hx).1 (ht x hx).2
    · rw [List.length_map]
      omega
  exact Smal.shows (d := .tup [.tup (cols.map fun p => .str p.1), rowsD (kept cs ps)]) (smal_two a b) (by decide) (by decide)
theorem kept_congr {ns cs ds : List Tx} {ps : List (List Cell × Fc)} (P : PrS ns ps) (h : ∀ x ∈ ns, inR cs x = inR ds x) : kept cs ps = kept ds ps := by
  unfold kept
  congr 1
  exact List.filter_congr fun p hp => Fc.tr_congr p.2 fun n hn => h n (P.nms p hp n hn)
theorem due_congr {ns cs ds : List Tx} {l : Lf} (lp : ∀ p ∈ l, PrS ns p.2) (h : ∀ x ∈ ns, inR cs x = inR ds x) : dueK cs l = dueK ds l := by
  unfold dueK
  exact List.map_congr_left fun p hp => by rw [kept_congr (lp p hp) h]
theorem look_li {x : Tx} {ps : List (List Cell × Fc)} : ∀ {l : Lf}, (l.map (·.1)).Nodup → (x, ps) ∈ l → look (liK l) (.inr x) = some (.tup (ps.map lrD))
  | [], _, h => nomatch h
  | p :: l, nd, h => by
    rw [List.map_cons, List.nodup_cons] at nd
    rcases List.mem_cons.mp h with e | h
    · subst e
      unfold look liK
      rw [List.map_cons, List.find?_cons_of_pos (by simp)]
      rfl
    · have ne : ¬ p.1 = x := fun e => nd.1 (List.mem_map.mpr ⟨(x, ps), h, e.symm⟩)
      have ih := look_li nd.2 h
      unfold look liK at ih ⊢
      rw [List.map_cons, List.find?_cons_of_neg (by simp [ne])]
      exact ih
theorem look_due {cs : List Tx} {x : Tx} {ps : List (List Cell × Fc)} : ∀ {l : Lf}, (l.map (·.1)).Nodup → (x, ps) ∈ l → look (dueK cs l) (.inr x) = some (rowsD (kept cs ps))
  | [], _, h => nomatch h
  | p :: l, nd, h => by
    rw [List.map_cons, List.nodup_cons] at nd
    rcases List.mem_cons.mp h with e | h
    · subst e
      unfold look dueK
      rw [List.map_cons, List.find?_cons_of_pos (by simp)]
      rfl
    · have ne : ¬ p.1 = x := fun e => nd.1 (List.mem_map.mpr ⟨(x, ps), h, e.symm⟩)
      have ih := look_due (cs := cs) nd.2 h
      unfold look dueK at ih ⊢
      rw [List.map_cons, List.find?_cons_of_neg (by simp [ne])]
      exact ih
theorem at_both {l : Lf} {ts : List Tb} (h : l.map (·.1) = ts.map (·.name)) {i : Nat} {t : Tb} (e : ts[i]? = some t) : ∃ p, l[i]? = some p ∧ p.1 = t.name := by
  have h1 : (l.map (·.1))[i]? = some t.name := by rw [h, List.getElem?_map, e]; rfl
  rw [List.getElem?_map] at h1
  cases e2 : l[i]? with
  | none => rw [e2] at h1; cases h1
  | some p => rw [e2] at h1; exact ⟨p, rfl, Option.some.inj h1⟩
theorem put_more {f : List (List Cell × Fc) → D} {l : Lf} {i : Nat} {p : Tx × List (List Cell × Fc)} (nd : (l.map (·.1)).Nodup) (e : l[i]? = some p) : putD ((l.take i).map fun p => ((Sum.inr p.1 : Key), f p.2)) (.inr p.1) (f p.2) = (l.take (i + 1)).map fun p => ((Sum.inr p.1 : Key), f p.2) := by
  rw [take_more e, List.map_append]
  refine putD_new fun q hq e2 => ?_
  obtain ⟨z, hz, rfl⟩ := List.mem_map.mp hq
  exact nd_take nd e (List.mem_map.mpr ⟨z, hz, Sum.inr.inj e2⟩)
theorem due_more {cs : List Tx} {l : Lf} {i : Nat} {p : Tx × List (List Cell × Fc)} (nd : (l.map (·.1)).Nodup) (e : l[i]? = some p) : dueK cs (l.take (i + 1)) = putD (dueK cs (l.take i)) (.inr p.1) (rowsD (kept cs p.2)) := (put_more (f := fun ps => rowsD (kept cs ps)) nd e).symm
theorem nw_len : ("nowhere" : Tx).length = 7 := by decide
theorem inR_turn {cs : List Tx} {x : Tx} (h : nL x) : inR (cs.reverse ++ [("nowhere" : Tx)]) x = inR cs x := by
  unfold inR
  refine decide_eq_decide.mpr ?_
  rw [List.mem_append, List.mem_reverse, List.mem_singleton]
  refine ⟨fun z => z.elim id fun e => ?_, .inl⟩
  have := nw_len
  rw [← e] at this
  unfold nL at h
  omega
section
variable {P : Program} {w : World} {K : PySem.W.Frag} {mg : PySem.Str → Option Value} {base : Heap}
theorem law_body (T : Txt P w K mg) (TB_holds : GxR.TabB base mg T.cc_holds T.pp_holds) {a : Addr} {ns : List Int} {s : Shared} {H : Hp} (hS : SqL K H a (ns.map V.int)) (hl : ns.length ≤ 63) (hT : ∀ P ∈ ([T.pp_holds] : List Addr), GxR.TabG H P) (cdv : Value) (hr : Room 49 (callerA.deeper (envOfC "law" (defScope s_law) s.heap.objs.size T.a_law cdv))) :
    ∃ t, PSs (cxOf CX0 P w K mg base N_law "law" (defScope s_law) T.a_law cdv callerA [] s H E0).nox (defBody s_law) t ∧ t { nx := fun _ H' => (fun (v : V) (_ : Hp) => v = V.bl true) .non H', rt := fun v _ => v = .bl true } (L2.start N_law [V.ref a]) H := by
  have G__law_tape := ok__law_tape (P := P) (w := w) (base := base) T
  have G__law_names := ok__law_names (P := P) (w := w) (base := base) T
  have G__law_all := ok__law_all (P := P) (w := w) (base := base) T
  have G__law_plain_tables := ok__law_plain_tables (P := P) (w := w) (base := base) T
  have G__law_pairs := ok__law_pairs (P := P) (w := w) (base := base) T
  have G__law_kinds := ok__law_kinds (P := P) (w := w) (base := base) T
  have G_tables_for := ok_tables_for (P := P) (w := w) (base := base) T TB_holds
  have G_relation_for := ok_relation_for (P := P) (w := w) (base := base) T TB_holds
  have G__law_true := ok__law_true (P := P) (w := w) (base := base) T
  have h : spLawT K [T.pp_holds] [.ref a] H (fun v _ => v = .bl true) E0 := ⟨a, ns, rfl, hS, hl, hT, fun _ => rfl⟩
  refine law_rest (S := Sx T) (N := N_law) (i0 := 0) rfl (by decide) (ps_set (i := 1) sc_law.nd rfl (.inl rfl) (pe_call G__law_tape (hr.mono (by decide)) (by rfl) T.g__law_tape T.F__law_tape.kp T.b__law_tape .nil pass0 (pa_cons (pv 0) pa_nil)))
    (vss_cons (vs_set (i := 2) sc_law.nd rfl (.inl rfl) (fe_of (ve_call G__law_names (hr.mono (by omega)) (by rfl) T.g__law_names T.F__law_names.kp T.b__law_names (va_cons (ve_name (pv 1)) (va_cons ve_int va_nil)))))
      (vss_cons (vs_set (i := 3) sc_law.nd rfl (.inl rfl) (fe_of (ve_tup (va_cons (ve_call G__law_plain_tables (hr.mono (by omega)) (by rfl) T.g__law_plain_tables T.F__law_plain_tables.kp T.b__law_plain_tables (va_cons (ve_name (pv 1)) (va_cons (ve_call G__law_names (hr.mono (by omega)) (by rfl) T.g__law_names T.F__law_names.kp T.b__law_names (va_cons (ve_name (pv 1)) (va_cons ve_int va_nil))) va_nil))) (va_cons (ve_tup va_nil) (va_cons (ve_tup va_nil) va_nil))))))
      (vss_cons (vs_set (i := 4) sc_law.nd rfl (.inl rfl) fe_dnew)
      (vss_cons (vs_for PassesOwn.never rfl (vi_any rfl (ve_of (fe_ixN (i_ix rfl (hu_of hr)) (pv 3) (be_of ve_int) (fun _ _ => rfl)))) (vg_name (i := 5) [5] (by decide) sc_law.nd rfl (.inl rfl))
      (vss_one (vs_dput (hu_of hr) (pv 4) (ve_of (fe_ixN (i_ix rfl (hu_of hr)) (pv 5) (be_of ve_int) (fun _ _ => rfl))) (ve_call G__law_pairs (hr.mono (by omega)) (by rfl) T.g__law_pairs T.F__law_pairs.kp T.b__law_pairs (va_cons (ve_name (pv 1)) (va_cons (ve_call G__law_kinds (hr.mono (by omega)) (by rfl) T.g__law_kinds T.F__law_kinds.kp T.b__law_kinds (va_cons (ve_of (fe_ixN (i_ix rfl (hu_of hr)) (pv 5) (be_of ve_int) (fun _ _ => rfl))) va_nil)) (va_cons (ve_name (pv 2)) (va_cons (ve_of (pe_CB (c_min rfl) (fun hc ha => pe_callB hc (by rfl) T.z_min boot_min ha) (va_cons ve_int (va_cons (ve_of (fe_ixN (i_ix rfl (hu_of hr)) (pv 5) (be_of ve_int) (fun _ _ => rfl))) va_nil)))) va_nil))))))))
      (vss_cons (vs_set (i := 6) sc_law.nd rfl (.inl rfl) (pe_CB1 (c_reprK rfl (by first | rfl | exact hg) hr.units) (fun hc ha => pe_callB hc (by rfl) T.z_repr boot_repr ha) (be_name (pv 4))))
      (vss_cons (vs_fz 4 (vs_for PassesOwn.never rfl (vi_any rfl (ve_call G__law_all (hr.mono (by omega)) (by rfl) T.g__law_all T.F__law_all.kp T.b__law_all (va_cons (ve_name (pv 2)) va_nil))) (vg_name (i := 7) [7] (by decide) sc_law.nd rfl (.inr rfl))
      (vss_cons (vs_set (i := 8) sc_law.nd rfl (.inl rfl) fe_dnew)
      (vss_cons (vs_fz 4 (vs_for PassesOwn.never rfl (vi_any rfl (ve_of (fe_ixN (i_ix rfl (hu_of hr)) (pv 3) (be_of ve_int) (fun _ _ => rfl)))) (vg_name (i := 5) [5] (by decide) sc_law.nd rfl (.inl rfl))
      (vss_one (vs_dput (hu_of hr) (pv 8) (ve_of (fe_ixN (i_ix rfl (hu_of hr)) (pv 5) (be_of ve_int) (fun _ _ => rfl))) (ve_of (pe_CB1 (c_tupleD rfl rfl) (fun hc ha => pe_callTy hc (by rfl) T.z_tuple boot_tuple ha) (be_of (ve_of (fe_fz 7 (fe_lc (own := [("pair", 12)]) rfl sc_law.nd (vi_any rfl (ve_of (fe_ixN (i_ix rfl (hu_of hr)) (pv 4) (be_of (ve_of (fe_ixN (i_ix rfl (hu_of hr)) (pv 5) (be_of ve_int) (fun _ _ => rfl)))) (fun _ _ => rfl)))) (blkOk_by (own := [("pair", 12)]) (N := N_law) (sc := defScope s_law) (by decide +kernel)) (fun _ _ _ _ _ => (vg_name (i := 12) [12] (by decide) sc_law.nd rfl (.inl rfl))) (fun _ _ _ _ _ => (vts_one (vb_tru rfl (be_of (ve_call G__law_true (hr.mono (by omega)) (by rfl) T.g__law_true T.F__law_true.kp T.b__law_true (va_cons (ve_of (fe_ixN (i_ix rfl (hu_of hr)) (pv 12) (be_of ve_int) (fun _ _ => rfl))) (va_cons (ve_name (pv 7)) va_nil))))))) (fun _ _ _ _ _ => (ve_of (fe_ixN (i_ix rfl (hu_of hr)) (pv 12) (be_of ve_int) (fun _ _ => rfl))))))))))))))
      (vss_one (vs_fz 4 (vs_for PassesOwn.never rfl (vi_any rfl (ve_of (fe_lst (va_cons (ve_name (pv 7)) (va_cons (ve_of (fe_op (o_add rfl) (ve_of (fe_tupleRev rfl rfl (by rfl) T.z_tuple (by rfl) T.z_reversed (ve_of (pe_CB1 (c_listD rfl rfl) (fun hc ha => pe_callTy hc (by rfl) T.z_list boot_list ha) (be_name (pv 7)))))) (be_of (ve_tup (va_cons ve_str va_nil))))) va_nil))))) (vg_name (i := 9) [9] (by decide) sc_law.nd rfl (.inl rfl))
      (vss_cons (vs_set (i := 10) sc_law.nd rfl (.inl rfl) (fe_callO G_tables_for hr (by rfl) T.g_tables_for T.F_tables_for.kp T.b_tables_for (va_cons (ve_name (pv 4)) (va_cons (ve_name (pv 9)) va_nil))))
      (vss_cons (vs_if (vb_w (vw_or (vb_not (vb_tru rfl (be_of (ve_of (pe_CBc (c_isi rfl) (fun hc ha => pe_callB hc (by rfl) T.z_isinstance boot_isinstance ha) (be_name (pv 10)) (pe_bltn (v := .ty "dict") (by rfl) T.z_dict boot_dict rfl)))))) (vw_or1 (vb_cmp (o_ne rfl hr.units) (ve_of (pe_CB1 (c_reprD rfl (by first | rfl | exact hg) hr.units) (fun hc ha => pe_callB hc (by rfl) T.z_repr boot_repr ha) (be_name (pv 10)))) (be_of (ve_of (pe_CB1 (c_reprK rfl (by first | rfl | exact hg) hr.units) (fun hc ha => pe_callB hc (by rfl) T.z_repr boot_repr ha) (be_name (pv 8))))) (nomark _))))) (vss_one (vs_ret ve_bl)) vss_nil)
      (vss_cons (vs_dput (hu_of hr) (pv 10) (ve_of (fe_ix (i_ix rfl (hu_of hr)) (ve_of (fe_ix (i_ix rfl (hu_of hr)) (ve_of (fe_ixN (i_ix rfl (hu_of hr)) (pv 3) (be_of ve_int) (fun _ _ => rfl))) (be_of ve_int) (fun _ _ => rfl))) (be_of ve_int) (fun _ _ => rfl))) (ve_tup va_nil))
      (vss_one (vs_fz 4 (vs_for PassesOwn.never rfl (vi_any rfl (ve_of (fe_ixN (i_ix rfl (hu_of hr)) (pv 3) (be_of ve_int) (fun _ _ => rfl)))) (vg_name (i := 5) [5] (by decide) sc_law.nd rfl (.inl rfl))
      (vss_cons (vs_set (i := 11) sc_law.nd rfl (.inl rfl) (pe_CB1 (c_tupleD rfl rfl) (fun hc ha => pe_callTy hc (by rfl) T.z_tuple boot_tuple ha) (be_of (ve_of (fe_lc (own := [("column", 13)]) rfl sc_law.nd (vi_any rfl (ve_of (fe_ixN (i_ix rfl (hu_of hr)) (pv 5) (be_of ve_int) (fun _ _ => rfl)))) (blkOk_by (own := [("column", 13)]) (N := N_law) (sc := defScope s_law) (by decide +kernel)) (fun _ _ _ _ _ => (vg_name (i := 13) [13] (by decide) sc_law.nd rfl (.inl rfl))) (fun _ _ _ _ _ => vts_nil) (fun _ _ _ _ _ => (ve_of (fe_ixN (i_ix rfl (hu_of hr)) (pv 13) (be_of ve_int) (fun _ _ => rfl)))))))))
      (vss_cons (vs_set (i := 10) sc_law.nd rfl (.inl rfl) (fe_of (ve_call G_relation_for hr (by rfl) T.g_relation_for T.F_relation_for.kp T.b_relation_for (va_cons (ve_tup (va_cons (ve_name (pv 11)) (va_cons (ve_of (fe_ixN (i_ix rfl (hu_of hr)) (pv 4) (be_of (ve_of (fe_ixN (i_ix rfl (hu_of hr)) (pv 5) (be_of ve_int) (fun _ _ => rfl)))) (fun _ _ => rfl))) va_nil))) (va_cons (ve_name (pv 9)) va_nil)))))
      (vss_one (vs_if (vb_cmp (o_ne rfl hr.units) (ve_of (pe_CB1 (c_reprD rfl (by first | rfl | exact hg) hr.units) (fun hc ha => pe_callB hc (by rfl) T.z_repr boot_repr ha) (be_name (pv 10)))) (be_of (ve_of (pe_CB1 (c_repr rfl (by first | rfl | exact hg) hr.units) (fun hc ha => pe_callB hc (by rfl) T.z_repr boot_repr ha) (be_of (ve_tup (va_cons (ve_name (pv 11)) (va_cons (ve_of (fe_ixN (i_ix rfl (hu_of hr)) (pv 8) (be_of (ve_of (fe_ixN (i_ix rfl (hu_of hr)) (pv 5) (be_of ve_int) (fun _ _ => rfl)))) (fun _ _ => rfl))) va_nil))))))) (nomark _)) (vss_one (vs_ret ve_bl)) vss_nil)))))))))))))))))
      (vss_one (vs_ret (ve_of (fe_cmp (o_eq rfl hr.units) (ve_of (pe_CB1 (c_reprK rfl (by first | rfl | exact hg) hr.units) (fun hc ha => pe_callB hc (by rfl) T.z_repr boot_repr ha) (be_name (pv 4)))) (be_name (pv 6)) (nomark _))))))))))) ?_ h
  refine seqI (fun E => ∃ ns : List Tx, ns ≠ [] ∧ ns.length ≤ 3 ∧ (∀ x ∈ ns, tOk x ∧ nL x) ∧ E = ⟨[.no, .v .tape, .v (.lst (ns.map .str)), .no, .no, .no, .no, .no, .no, .no, .no, .no, .no, .no], 999000⟩) ?_ ?_
  · intro N hN
    walk_at "wh"
    refine ⟨3, rfl, by decide, fun ns h1 h2 h3 h4 => ?_⟩
    exact hN _ ⟨ns, h2 (by decide), h1, h4, rfl⟩
  rintro _ ⟨ns, n0, nl, nt, rfl⟩
  refine seqI (fun E => ∃ ts : List Tb, ts ≠ [] ∧ ts.length ≤ 3 ∧ (ts.map (·.name)).Nodup ∧ (∀ t ∈ ts, tOk t.name ∧ t.name.length ≤ 20) ∧ (∀ t ∈ ts, t.ok) ∧ E = ⟨[.no, .v .tape, .v (.lst (ns.map .str)), .v (.tup [.tup (ts.map Tb.d), .tup [], .tup []]), .no, .no, .no, .no, .no, .no, .no, .no, .no, .no], 999000⟩) ?_ ?_
  · intro N hN
    walk_at "wh"
    refine ⟨3, rfl, by decide, fun ms h1 h2 h3 h4 => ?_⟩
    walk_at "wh"
    refine ⟨ms, rfl, h1, fun ts e ht => ?_⟩
    walk_at "wh"
    refine ⟨by show 0 ≤ 1000; decide, by show 0 ≤ 1000; decide, by show 3 ≤ 1000; decide, ?_⟩
    have m0 := h2 (by decide)
    exact hN _ ⟨ts, fun z => m0 (by rw [← e, z]; rfl), by rw [← List.length_map (f := Tb.name) (as := ts), e]; exact h1, by rw [e]; exact h3, fun t m => by
      have mm : t.name ∈ ms := by rw [← e]; exact List.mem_map.mpr ⟨t, m, rfl⟩
      exact ⟨(h4 _ mm).1, nL20 (h4 _ mm).2⟩, ht, rfl⟩
  rintro _ ⟨ts, t0, tl, tnd, tk, tok, rfl⟩
  refine seqI (fun E => E = ⟨[.no, .v .tape, .v (.lst (ns.map .str)), .v (.tup [.tup (ts.map Tb.d), .tup [], .tup []]), .od false [], .no, .no, .no, .no, .no, .no, .no, .no, .no], 999000⟩) ?_ ?_
  · intro N hN
    walk_at "wh"
    exact hN _ rfl
  rintro _ rfl
  refine seqI (fun E => ∃ (l : Lf) (y5 : SV), l.map (·.1) = ts.map (·.name) ∧ (∀ p ∈ l, PrS ns p.2) ∧ E = ⟨[.no, .v .tape, .v (.lst (ns.map .str)), .v (.tup [.tup (ts.map Tb.d), .tup [], .tup []]), .od false (liK l), y5, .no, .no, .no, .no, .no, .no, .no, .no], 999000⟩) ?_ ?_
  · intro N hN
    walk_at "wh"
    refine ⟨fun i E => Iv (∃ (l : Lf) (y5 : SV), E = ⟨[.no, .v .tape, .v (.lst (ns.map .str)), .v (.tup [.tup (ts.map Tb.d), .tup [], .tup []]), .od false (liK l), y5, .no, .no, .no, .no, .no, .no, .no, .no], 999000⟩ ∧ l.map (·.1) = (ts.take i).map (·.name) ∧ ∀ p ∈ l, PrS ns p.2), .a ⟨[], _, rfl, rfl, fun _ h => nomatch h⟩, ?_, ?_⟩
    · intro i d E ed iv
      obtain ⟨l, y5, rfl, en, hp⟩ := iv.out
      obtain ⟨t, et, rfl⟩ := map_get ed
      have mt := List.mem_of_getElem? et
      have tt := tok t mt
      have t1 := tt.l1
      have t2 := tt.l2
      walk_at "wh"
      refine ⟨t.cols, rfl, by have := tt.len; omega, ?_⟩
      walk_at "wh"
      have em : (((if t.lim < 4 then t.lim else 4).toNat : Nat) : Int) = if t.lim < 4 then t.lim else 4 := by split <;> omega
      have lle : l.length ≤ ts.length := by
        have := congrArg List.length en
        rw [List.length_map, List.length_map, List.length_take] at this
        omega
      have tn : t.name ∉ l.map (·.1) := by
        rw [en]
        intro h
        have := nd_take (l := ts.map fun t => (t.name, t)) (by rw [List.map_map]; exact tnd) (i := i) (p := (t.name, t)) (by rw [List.getElem?_map, et]; rfl)
        refine this ?_
        rw [← List.map_take, List.map_map]
        exact h
      refine ⟨t.cols.map pcC, ns, (if t.lim < 4 then t.lim else 4).toNat, ?_, fun e => tt.ne (List.map_eq_nil_iff.mp e), by rw [List.length_map]; exact tt.len, ?_, n0, by omega, fun x hx => ⟨(nt x hx).1, nL20 (nt x hx).2⟩, by split <;> omega, fun ps hps => ?_⟩
      · (rw [em]) <;> rfl
      · intro p hp
        obtain ⟨⟨x, b⟩, hz, rfl⟩ := List.mem_map.mp hp
        cases b
        · trivial
        · exact ⟨by decide, by decide⟩
      refine ⟨.inr t.name, rfl, ?_⟩
      refine ⟨by unfold liK; rw [List.length_map]; omega, ?_⟩
      refine .a ⟨l ++ [(t.name, ps)], .v t.d, ?_, ?_, ?_⟩
      · rw [show liK (l ++ [(t.name, ps)]) = putD (liK l) (.inr t.name) (.tup (ps.map lrD)) from ?_]
        · rfl
        · rw [putD_new]
          · unfold liK
            rw [List.map_append]
            rfl
          · intro q hq e
            obtain ⟨z, hz, rfl⟩ := List.mem_map.mp hq
            exact tn (List.mem_map.mpr ⟨z, hz, Sum.inr.inj e⟩)
      · rw [List.map_append, en, take_more et, List.map_append]
        rfl
      · intro p hp2
        rcases List.mem_append.mp hp2 with h | h
        · exact hp p h
        · rw [List.mem_singleton.mp h]
          exact hps
    · intro E iv
      obtain ⟨l, y5, rfl, en, hp⟩ := iv.out
      rw [List.length_map, List.take_length] at en
      exact hN _ ⟨l, y5, en, hp, rfl⟩
  rintro _ ⟨l, y5, ln, lp, rfl⟩
  have ll : l.length = ts.length := by have := congrArg List.length ln; rwa [List.length_map, List.length_map] at this
  have lnd : (l.map (·.1)).Nodup := by rw [ln]; exact tnd
  have lk : ∀ p ∈ l, tOk p.1 ∧ p.1.length ≤ 20 := fun p hp => by
    have : p.1 ∈ ts.map (·.name) := by rw [← ln]; exact List.mem_map.mpr ⟨p, hp, rfl⟩
    obtain ⟨t, ht, e⟩ := List.mem_map.mp this
    rw [← e]; exact tk t ht
  obtain ⟨t1, a0⟩ : ∃ t1 : Tb, atI (ts.map Tb.d) 0 = some t1.d := by
    cases ts with
    | nil => exact absurd rfl t0
    | cons t1 r => exact ⟨t1, atI_nat (j := 0) rfl⟩
  obtain ⟨s1, s2, s3, s4⟩ := li_shows (by omega) lk lp
  refine seqI (fun E => E = ⟨[.no, .v .tape, .v (.lst (ns.map .str)), .v (.tup [.tup (ts.map Tb.d), .tup [], .tup []]), .od false (liK l), y5, .v (.str (dkP (liK l)).shown), .no, .no, .no, .no, .no, .no, .no], 999000⟩) ?_ ?_
  · intro N hN
    walk_at "wh"
    refine ⟨s1, s2, s3, s4, ?_⟩
    exact hN _ rfl
  rintro _ rfl
  have cl : ∀ rs : List (List Tx), True := fun _ => trivial
  refine seqI (fun E => ∃ (y5 y7 y8 y9 y10 y11 : SV), E = ⟨[.no, .v .tape, .v (.lst (ns.map .str)), .v (.tup [.tup (ts.map Tb.d), .tup [], .tup []]), .v (.dk (liK l)), y5, .v (.str (dkP (liK l)).shown), y7, y8, y9, y10, y11, .no, .no], 999000⟩) ?_ ?_
  · intro N hN
    walk_at "wh"
    refine ⟨ns, rfl, by omega, fun rs r1 r2 => ?_⟩
    walk_at "wh"
    refine ⟨fun i E => Iv (∃ (y5 y7 y8 y9 y10 y11 : SV), E = ⟨[.no, .v .tape, .v (.lst (ns.map .str)), .v (.tup [.tup (ts.map Tb.d), .tup [], .tup []]), .v (.dk (liK l)), y5, .v (.str (dkP (liK l)).shown), y7, y8, y9, y10, y11, .no, .no], 999000⟩), .a ⟨_, _, _, _, _, _, rfl⟩, ?_, ?_⟩
    · intro i d E ed iv
      obtain ⟨y5, y7, y8, y9, y10, y11, rfl⟩ := iv.out
      obtain ⟨cs, ec, rfl⟩ := map_get ed
      have hcs := r2 cs (List.mem_of_getElem? ec)
      clear iv ed
      refine seqI (fun E => E = ⟨[.no, .v .tape, .v (.lst (ns.map .str)), .v (.tup [.tup (ts.map Tb.d), .tup [], .tup []]), .v (.dk (liK l)), y5, .v (.str (dkP (liK l)).shown), .v (.tup (cs.map .str)), .od false [], y9, y10, y11, .no, .no], 999000⟩) ?_ ?_
      · intro N hN
        walk_at "wh"
        exact hN _ rfl
      rintro _ rfl
      refine seqI (fun E => ∃ y5 : SV, E = ⟨[.no, .v .tape, .v (.lst (ns.map .str)), .v (.tup [.tup (ts.map Tb.d), .tup [], .tup []]), .v (.dk (liK l)), y5, .v (.str (dkP (liK l)).shown), .v (.tup (cs.map .str)), .od false (dueK cs l), y9, y10, y11, .no, .no], 999000⟩) ?_ ?_
      · intro N hN
        walk_at "wh"
        refine ⟨fun i E => Iv (∃ y5 : SV, E = ⟨[.no, .v .tape, .v (.lst (ns.map .str)), .v (.tup [.tup (ts.map Tb.d), .tup [], .tup []]), .v (.dk (liK l)), y5, .v (.str (dkP (liK l)).shown), .v (.tup (cs.map .str)), .od false (dueK cs (l.take i)), y9, y10, y11, .no, .no], 999000⟩), .a ⟨_, rfl⟩, ?_, ?_⟩
        · intro i d E ed iv
          obtain ⟨y5, rfl⟩ := iv.out
          obtain ⟨t, et, rfl⟩ := map_get ed
          obtain ⟨⟨x, ps⟩, ep, ex⟩ := at_both ln et
          have ex : x = t.name := ex
          subst ex
          have mp := List.mem_of_getElem? ep
          have P := lp _ mp
          have P : PrS ns ps := P
          have lk1 := look_li lnd mp
          have p4 := P.len
          clear iv ed
          walk_at "wh"
          refine ⟨.inr t.name, rfl, ?_⟩
          refine withD_of lk1 ?_
          walk_at "wh"
          refine ⟨by rw [List.length_map]; omega, fun j acc k => Iv (acc = (kept cs (ps.take j)).map rowD ∧ k = 999000), .a ⟨rfl, rfl⟩, ?_, ?_⟩
          · intro j d acc k ed iv la
            obtain ⟨rfl, rfl⟩ := iv.out
            obtain ⟨p, ej, rfl⟩ := map_get ed
            have mj := List.mem_of_getElem? ej
            walk_at "wh"
            refine ⟨p.2, cs, rfl, by have := P.dep p mj; omega, by have := P.wid p mj; omega, ?_⟩
            walk_at "wh"
            refine ⟨fun e => ?_, fun e => ?_⟩
            · walk_at "wh"
              refine .a ⟨?_, rfl⟩
              rw [kept_more ej, if_pos e, List.map_append]
              rfl
            · refine .a ⟨?_, rfl⟩
              rw [kept_more ej, if_neg (by rw [e]; decide), List.append_nil]
          · intro acc k iv la
            obtain ⟨rfl, rfl⟩ := iv.out
            rw [List.length_map, List.take_length]
            walk_at "wh"
            refine ⟨.inr t.name, rfl, ?_⟩
            refine ⟨by unfold dueK; rw [List.length_map, List.length_take]; omega, ?_⟩
            refine .a ⟨.v t.d, ?_⟩
            rw [due_more lnd ep]
            rfl
        · intro E iv
          obtain ⟨y5, rfl⟩ := iv.out
          rw [List.length_map, ← ll, List.take_length]
          exact hN _ ⟨y5, rfl⟩
      rintro _ ⟨y5, rfl⟩
      walk_at "wh"
      refine ⟨by show 1 ≤ 1000; decide, ?_⟩
      refine ⟨by show (cs.map D.str).reverse.length + 1 ≤ 1000000; rw [List.length_reverse, List.length_map]; omega, ?_⟩
      refine ⟨by show 2 ≤ 1000; decide, ?_⟩
      refine ⟨fun i E => Iv (∃ (y5 y9 y10 y11 : SV), E = ⟨[.no, .v .tape, .v (.lst (ns.map .str)), .v (.tup [.tup (ts.map Tb.d), .tup [], .tup []]), .v (.dk (liK l)), y5, .v (.str (dkP (liK l)).shown), .v (.tup (cs.map .str)), .od false (dueK cs l), y9, y10, y11, .no, .no], 999000⟩), .a ⟨_, _, _, _, rfl⟩, ?_, ?_⟩
      · intro i d E ed iv
        obtain ⟨y5, y9, y10, y11, rfl⟩ := iv.out
        obtain ⟨es, rfl, les, he⟩ : ∃ es : List Tx, d = .tup (es.map .str) ∧ es.length ≤ 5 ∧ ∀ x ∈ ns, inR es x = inR cs x := by
          have md := List.mem_of_getElem? ed
          rcases List.mem_cons.mp md with rfl | md
          · exact ⟨cs, rfl, by omega, fun x _ => rfl⟩
          · have md := List.mem_singleton.mp md
            refine ⟨cs.reverse ++ [("nowhere" : Tx)], ?_, by rw [List.length_append, List.length_reverse]; simp only [List.length_cons, List.length_nil]; omega, fun x hx => inR_turn (nt x hx).2⟩
            rw [md, List.map_append, List.map_reverse]
            rfl
        have de := due_congr lp he
        obtain ⟨u1, u2, u3, u4⟩ := due_shows (cs := cs) (by omega) lk lp
        clear iv ed
        refine seqI (fun E => E = ⟨[.no, .v .tape, .v (.lst (ns.map .str)), .v (.tup [.tup (ts.map Tb.d), .tup [], .tup []]), .v (.dk (liK l)), y5, .v (.str (dkP (liK l)).shown), .v (.tup (cs.map .str)), .od false (dueK cs l), .v (.tup (es.map .str)), .od false (dueK cs l), y11, .no, .no], 999000⟩) ?_ ?_
        · intro N hN
          walk_at "wh"
          refine ⟨ns, l, es, rfl, by omega, lnd, lp, ?_⟩
          rw [de]
          exact hN _ rfl
        rintro _ rfl
        refine seqI (fun E => E = ⟨[.no, .v .tape, .v (.lst (ns.map .str)), .v (.tup [.tup (ts.map Tb.d), .tup [], .tup []]), .v (.dk (liK l)), y5, .v (.str (dkP (liK l)).shown), .v (.tup (cs.map .str)), .od false (dueK cs l), .v (.tup (es.map .str)), .od false (dueK cs l), y11, .no, .no], 999000⟩) ?_ ?_
        · intro N hN
          walk_at "wh"
          refine ⟨rfl, ?_⟩
          walk_at "wh"
          refine wayF ?_
          walk_at "wh"
          refine ⟨u1, u2, u3, u4, ?_⟩
          walk_at "wh"
          refine ⟨u1, u2, u3, u4, ?_⟩
          walk_at "wh"
          refine both (fun e => ?_) (fun _ => ?_)
          · have e : (!decide ((dkP (dueK cs l)).shown = (dkP (dueK cs l)).shown)) = true := e
            rw [decide_eq_true rfl] at e
            cases e
          · exact hN _ rfl
        rintro _ rfl
        refine seqI (fun E => ∃ y10 : SV, E = ⟨[.no, .v .tape, .v (.lst (ns.map .str)), .v (.tup [.tup (ts.map Tb.d), .tup [], .tup []]), .v (.dk (liK l)), y5, .v (.str (dkP (liK l)).shown), .v (.tup (cs.map .str)), .od false (dueK cs l), .v (.tup (es.map .str)), y10, y11, .no, .no], 999000⟩) ?_ ?_
        · intro N hN
          walk_at "wh"
          refine ⟨by show 0 ≤ 1000; decide, ?_⟩
          walk_at "wh"
          refine withD_of a0 ?_
          walk_at "wh"
          refine ⟨.inr t1.name, rfl, ?_⟩
          refine ⟨by unfold dueK; rw [List.length_map]; omega, ?_⟩
          exact hN _ ⟨_, rfl⟩
        rintro _ ⟨y10, rfl⟩
        walk_at "wh"
        refine ⟨fun i E => Iv (∃ (y5 y10 y11 : SV), E = ⟨[.no, .v .tape, .v (.lst (ns.map .str)), .v (.tup [.tup (ts.map Tb.d), .tup [], .tup []]), .v (.dk (liK l)), y5, .v (.str (dkP (liK l)).shown), .v (.tup (cs.map .str)), .od false (dueK cs l), .v (.tup (es.map .str)), y10, y11, .no, .no], 999000⟩), .a ⟨_, _, _, rfl⟩, ?_, ?_⟩
        · intro i d E ed iv
          obtain ⟨y5, y10, y11, rfl⟩ := iv.out
          obtain ⟨t, et, rfl⟩ := map_get ed
          have mt := List.mem_of_getElem? et
          have tt := tok t mt
          have tlen := tt.len
          obtain ⟨⟨x, ps⟩, ep, ex⟩ := at_both ln et
          have ex : x = t.name := ex
          subst ex
          have mp := List.mem_of_getElem? ep
          have P := lp _ mp
          have P : PrS ns ps := P
          have lk1 := look_li lnd mp
          have lk2 := look_due (cs := cs) lnd mp
          have ke := kept_congr P he
          clear iv ed
          refine seqI (fun E => E = ⟨[.no, .v .tape, .v (.lst (ns.map .str)), .v (.tup [.tup (ts.map Tb.d), .tup [], .tup []]), .v (.dk (liK l)), .v t.d, .v (.str (dkP (liK l)).shown), .v (.tup (cs.map .str)), .od false (dueK cs l), .v (.tup (es.map .str)), y10, .v (.tup (t.cols.map fun p => .str p.1)), .no, .no], 999000⟩) ?_ ?_
          · intro N hN
            walk_at "wh"
            refine ⟨by rw [List.length_map]; omega, fun j acc k => Iv (acc = (t.cols.take j).map (fun p => D.str p.1) ∧ k = 999000), .a ⟨rfl, rfl⟩, ?_, ?_⟩
            · intro j d acc k ed iv la
              obtain ⟨rfl, rfl⟩ := iv.out
              obtain ⟨p, ej, rfl⟩ := map_get ed
              refine wayT ?_
              walk_at "wh"
              refine .a ⟨?_, rfl⟩
              rw [take_more ej, List.map_append]
              rfl
            · intro acc k iv la
              obtain ⟨rfl, rfl⟩ := iv.out
              rw [List.length_map, List.take_length]
              walk_at "wh"
              exact hN _ rfl
          rintro _ rfl
          obtain ⟨w1, w2, w3, w4, w5⟩ := rel_shows (cols := t.cols) (cs := cs) tlen tt.tk P
          refine seqI (fun E => E = ⟨[.no, .v .tape, .v (.lst (ns.map .str)), .v (.tup [.tup (ts.map Tb.d), .tup [], .tup []]), .v (.dk (liK l)), .v t.d, .v (.str (dkP (liK l)).shown), .v (.tup (cs.map .str)), .od false (dueK cs l), .v (.tup (es.map .str)), .v (.tup [.tup (t.cols.map fun p => .str p.1), rowsD (kept cs ps)]), .v (.tup (t.cols.map fun p => .str p.1)), .no, .no], 999000⟩) ?_ ?_
          · intro N hN
            walk_at "wh"
            refine ⟨.inr t.name, rfl, ?_⟩
            refine withD_of lk1 ?_
            walk_at "wh"
            refine ⟨by show 2 ≤ 1000; decide, ?_⟩
            walk_at "wh"
            refine ⟨ns, ps, es, .tup (t.cols.map fun p => .str p.1), rfl, P, ?_⟩
            rw [ke]
            exact hN _ rfl
          rintro _ rfl
          walk_at "wh"
          refine ⟨w1, w2, w3, w4, w5, ?_⟩
          walk_at "wh"
          refine ⟨.inr t.name, rfl, ?_⟩
          refine withD_of lk2 ?_
          walk_at "wh"
          refine ⟨by show 2 ≤ 1000; decide, ?_⟩
          refine ⟨w1, w2, w3, w4, w5, ?_⟩
          walk_at "wh"
          refine both (fun e => ?_) (fun _ => ?_)
          · have e : (!decide ((D.tup [.tup (t.cols.map fun p => .str p.1), rowsD (kept cs ps)]).pd.shown = (D.tup [.tup (t.cols.map fun p => .str p.1), rowsD (kept cs ps)]).pd.shown)) = true := e
            rw [decide_eq_true rfl] at e
            cases e
          · exact .a ⟨_, _, _, rfl⟩
        · intro E iv
          obtain ⟨y5, y10, y11, rfl⟩ := iv.out
          exact .a ⟨_, _, _, _, rfl⟩
      · intro E iv
        obtain ⟨y5, y9, y10, y11, rfl⟩ := iv.out
        exact .a ⟨_, _, _, _, _, _, rfl⟩
    · intro E iv
      obtain ⟨y5, y7, y8, y9, y10, y11, rfl⟩ := iv.out
      exact hN _ ⟨y5, y7, y8, y9, y10, y11, rfl⟩
  rintro _ ⟨y5, y7, y8, y9, y10, y11, rfl⟩
  walk_at "wh"
  refine ⟨s1, s2, s3, s4, ?_⟩
  exact congrArg D.bl (decide_eq_true rfl)
end
end Va
set_option Elab.async false
set_option linter.all false
set_option maxRecDepth 100000
set_option maxHeartbeats 4000000
namespace Va
open PySem PySem.Spec PyProof.Rows L2 Ind RowK
section
variable {P : Program} {w : World} {K : PySem.W.Frag} {mg : PySem.Str → Option Value} {base : Heap}
theorem all_mk {l : PySem.W.OpenLaw} {w : World} {K : PySem.W.Frag} {h : Heap} {mg : Str → Option Value} {fa : Addr} (X : K.In h) (G : h.Ns mainGlobals mg) (hfa : mg "law" = some (.ref fa))
    {f0 : Addr} {od0 an0 : Option Addr} {sl0 : Array (Option Value)} {oc0 kV0 dc0 pm0 ct0 : Value} {cc0 pp0 : Addr}
    {f1 : Addr} {od1 an1 : Option Addr} {sl1 : Array (Option Value)} {oc1 kV1 dc1 pm1 cd1 ct1 : Value}
    {f2 : Addr} {od2 an2 : Option Addr} {sl2 : Array (Option Value)} {oc2 kV2 dc2 pm2 cd2 ct2 : Value}
    {f3 : Addr} {od3 an3 : Option Addr} {sl3 : Array (Option Value)} {oc3 kV3 dc3 pm3 cd3 ct3 : Value}
    {f4 : Addr} {od4 an4 : Option Addr} {sl4 : Array (Option Value)} {oc4 kV4 dc4 pm4 cd4 ct4 : Value}
    {f5 : Addr} {od5 an5 : Option Addr} {sl5 : Array (Option Value)} {oc5 kV5 dc5 pm5 cd5 ct5 : Value}
    {f6 : Addr} {od6 an6 : Option Addr} {sl6 : Array (Option Value)} {oc6 kV6 dc6 pm6 cd6 ct6 : Value}
    {f7 : Addr} {od7 an7 : Option Addr} {sl7 : Array (Option Value)} {oc7 kV7 dc7 pm7 cd7 ct7 : Value}
    {f8 : Addr} {od8 an8 : Option Addr} {sl8 : Array (Option Value)} {oc8 kV8 dc8 pm8 cd8 ct8 : Value}
    {f9 : Addr} {od9 an9 : Option Addr} {sl9 : Array (Option Value)} {oc9 kV9 dc9 pm9 cd9 ct9 : Value}
    {f10 : Addr} {od10 an10 : Option Addr} {sl10 : Array (Option Value)} {oc10 kV10 dc10 pm10 cd10 ct10 : Value}
    {f11 : Addr} {od11 an11 : Option Addr} {sl11 : Array (Option Value)} {oc11 kV11 dc11 pm11 cd11 ct11 : Value}
    {f12 : Addr} {od12 an12 : Option Addr} {sl12 : Array (Option Value)} {oc12 kV12 dc12 pm12 cd12 ct12 : Value}
    {f13 : Addr} {od13 an13 : Option Addr} {sl13 : Array (Option Value)} {oc13 kV13 dc13 pm13 cd13 ct13 : Value}
    {f14 : Addr} {od14 an14 : Option Addr} {sl14 : Array (Option Value)} {oc14 kV14 dc14 pm14 cd14 ct14 : Value}
    {f15 : Addr} {od15 an15 : Option Addr} {sl15 : Array (Option Value)} {oc15 kV15 dc15 pm15 cd15 ct15 : Value}
    {f16 : Addr} {od16 an16 : Option Addr} {sl16 : Array (Option Value)} {oc16 kV16 dc16 pm16 cd16 ct16 : Value}
    {f17 : Addr} {od17 an17 : Option Addr} {sl17 : Array (Option Value)} {oc17 kV17 dc17 pm17 cd17 ct17 : Value}
    {f18 : Addr} {od18 an18 : Option Addr} {sl18 : Array (Option Value)} {oc18 kV18 dc18 pm18 cd18 ct18 : Value}
    {f19 : Addr} {od19 an19 : Option Addr} {sl19 : Array (Option Value)} {oc19 kV19 dc19 pm19 cd19 ct19 : Value}
    (a0 : PySem.W.nsIn K mainGlobals "holds" = some (some (.ref f0))) (l0 : K.lookup f0 = some ⟨oc0, od0, .func (PySem.W.fnOf "holds" "holds" (defArgs s_holds) (defBody s_holds) (defScope s_holds) .none kV0 dc0 pm0 an0 (.ref cc0) ct0), sl0⟩) (c0 : PySem.W.codeIn K (.ref cc0) "holds" = true) (k0 : PySem.W.keepIn K (.ref f0) = true)
    (a1 : PySem.W.nsIn K mainGlobals "relation_for" = some (some (.ref f1))) (l1 : K.lookup f1 = some ⟨oc1, od1, .func (PySem.W.fnOf "relation_for" "relation_for" (defArgs s_relation_for) (defBody s_relation_for) (defScope s_relation_for) .none kV1 dc1 pm1 an1 cd1 ct1), sl1⟩) (c1 : PySem.W.codeIn K cd1 "relation_for" = true) (k1 : PySem.W.keepIn K (.ref f1) = true)
    (a2 : PySem.W.nsIn K mainGlobals "tables_for" = some (some (.ref f2))) (l2 : K.lookup f2 = some ⟨oc2, od2, .func (PySem.W.fnOf "tables_for" "tables_for" (defArgs s_tables_for) (defBody s_tables_for) (defScope s_tables_for) .none kV2 dc2 pm2 an2 cd2 ct2), sl2⟩) (c2 : PySem.W.codeIn K cd2 "tables_for" = true) (k2 : PySem.W.keepIn K (.ref f2) = true)
    (a3 : PySem.W.nsIn K mainGlobals "_rows_for" = some (some (.ref f3))) (l3 : K.lookup f3 = some ⟨oc3, od3, .func (PySem.W.fnOf "_rows_for" "_rows_for" (defArgs s__rows_for) (defBody s__rows_for) (defScope s__rows_for) .none kV3 dc3 pm3 an3 cd3 ct3), sl3⟩) (c3 : PySem.W.codeIn K cd3 "_rows_for" = true) (k3 : PySem.W.keepIn K (.ref f3) = true)
    (a4 : PySem.W.nsIn K mainGlobals "_law_tape" = some (some (.ref f4))) (l4 : K.lookup f4 = some ⟨oc4, od4, .func (PySem.W.fnOf "_law_tape" "_law_tape" (defArgs s__law_tape) (defBody s__law_tape) (defScope s__law_tape) .none kV4 dc4 pm4 an4 cd4 ct4), sl4⟩) (c4 : PySem.W.codeIn K cd4 "_law_tape" = true) (k4 : PySem.W.keepIn K (.ref f4) = true)
    (a5 : PySem.W.nsIn K mainGlobals "_law_draw" = some (some (.ref f5))) (l5 : K.lookup f5 = some ⟨oc5, od5, .func (PySem.W.fnOf "_law_draw" "_law_draw" (defArgs s__law_draw) (defBody s__law_draw) (defScope s__law_draw) .none kV5 dc5 pm5 an5 cd5 ct5), sl5⟩) (c5 : PySem.W.codeIn K cd5 "_law_draw" = true) (k5 : PySem.W.keepIn K (.ref f5) = true)
    (a6 : PySem.W.nsIn K mainGlobals "_law_name" = some (some (.ref f6))) (l6 : K.lookup f6 = some ⟨oc6, od6, .func (PySem.W.fnOf "_law_name" "_law_name" (defArgs s__law_name) (defBody s__law_name) (defScope s__law_name) .none kV6 dc6 pm6 an6 cd6 ct6), sl6⟩) (c6 : PySem.W.codeIn K cd6 "_law_name" = true) (k6 : PySem.W.keepIn K (.ref f6) = true)
    (a7 : PySem.W.nsIn K mainGlobals "_law_names" = some (some (.ref f7))) (l7 : K.lookup f7 = some ⟨oc7, od7, .func (PySem.W.fnOf "_law_names" "_law_names" (defArgs s__law_names) (defBody s__law_names) (defScope s__law_names) .none kV7 dc7 pm7 an7 cd7 ct7), sl7⟩) (c7 : PySem.W.codeIn K cd7 "_law_names" = true) (k7 : PySem.W.keepIn K (.ref f7) = true)
    (a8 : PySem.W.nsIn K mainGlobals "_law_signs" = some (some (.ref f8))) (l8 : K.lookup f8 = some ⟨oc8, od8, .func (PySem.W.fnOf "_law_signs" "_law_signs" (defArgs s__law_signs) (defBody s__law_signs) (defScope s__law_signs) .none kV8 dc8 pm8 an8 cd8 ct8), sl8⟩) (c8 : PySem.W.codeIn K cd8 "_law_signs" = true) (k8 : PySem.W.keepIn K (.ref f8) = true)
    (a9 : PySem.W.nsIn K mainGlobals "_law_text" = some (some (.ref f9))) (l9 : K.lookup f9 = some ⟨oc9, od9, .func (PySem.W.fnOf "_law_text" "_law_text" (defArgs s__law_text) (defBody s__law_text) (defScope s__law_text) .none kV9 dc9 pm9 an9 cd9 ct9), sl9⟩) (c9 : PySem.W.codeIn K cd9 "_law_text" = true) (k9 : PySem.W.keepIn K (.ref f9) = true)
    (a10 : PySem.W.nsIn K mainGlobals "_law_value" = some (some (.ref f10))) (l10 : K.lookup f10 = some ⟨oc10, od10, .func (PySem.W.fnOf "_law_value" "_law_value" (defArgs s__law_value) (defBody s__law_value) (defScope s__law_value) .none kV10 dc10 pm10 an10 cd10 ct10), sl10⟩) (c10 : PySem.W.codeIn K cd10 "_law_value" = true) (k10 : PySem.W.keepIn K (.ref f10) = true)
    (a11 : PySem.W.nsIn K mainGlobals "_law_some" = some (some (.ref f11))) (l11 : K.lookup f11 = some ⟨oc11, od11, .func (PySem.W.fnOf "_law_some" "_law_some" (defArgs s__law_some) (defBody s__law_some) (defScope s__law_some) .none kV11 dc11 pm11 an11 cd11 ct11), sl11⟩) (c11 : PySem.W.codeIn K cd11 "_law_some" = true) (k11 : PySem.W.keepIn K (.ref f11) = true)
    (a12 : PySem.W.nsIn K mainGlobals "_law_row" = some (some (.ref f12))) (l12 : K.lookup f12 = some ⟨oc12, od12, .func (PySem.W.fnOf "_law_row" "_law_row" (defArgs s__law_row) (defBody s__law_row) (defScope s__law_row) .none kV12 dc12 pm12 an12 cd12 ct12), sl12⟩) (c12 : PySem.W.codeIn K cd12 "_law_row" = true) (k12 : PySem.W.keepIn K (.ref f12) = true)
    (a13 : PySem.W.nsIn K mainGlobals "_law_kinds" = some (some (.ref f13))) (l13 : K.lookup f13 = some ⟨oc13, od13, .func (PySem.W.fnOf "_law_kinds" "_law_kinds" (defArgs s__law_kinds) (defBody s__law_kinds) (defScope s__law_kinds) .none kV13 dc13 pm13 an13 cd13 ct13), sl13⟩) (c13 : PySem.W.codeIn K cd13 "_law_kinds" = true) (k13 : PySem.W.keepIn K (.ref f13) = true)
    (a14 : PySem.W.nsIn K mainGlobals "_law_plain_tables" = some (some (.ref f14))) (l14 : K.lookup f14 = some ⟨oc14, od14, .func (PySem.W.fnOf "_law_plain_tables" "_law_plain_tables" (defArgs s__law_plain_tables) (defBody s__law_plain_tables) (defScope s__law_plain_tables) .none kV14 dc14 pm14 an14 cd14 ct14), sl14⟩) (c14 : PySem.W.codeIn K cd14 "_law_plain_tables" = true) (k14 : PySem.W.keepIn K (.ref f14) = true)
    (a15 : PySem.W.nsIn K mainGlobals "_law_fact" = some (some (.ref f15))) (l15 : K.lookup f15 = some ⟨oc15, od15, .func (PySem.W.fnOf "_law_fact" "_law_fact" (defArgs s__law_fact) (defBody s__law_fact) (defScope s__law_fact) .none kV15 dc15 pm15 an15 cd15 ct15), sl15⟩) (c15 : PySem.W.codeIn K cd15 "_law_fact" = true) (k15 : PySem.W.keepIn K (.ref f15) = true)
    (a16 : PySem.W.nsIn K mainGlobals "_law_true" = some (some (.ref f16))) (l16 : K.lookup f16 = some ⟨oc16, od16, .func (PySem.W.fnOf "_law_true" "_law_true" (defArgs s__law_true) (defBody s__law_true) (defScope s__law_true) .none kV16 dc16 pm16 an16 cd16 ct16), sl16⟩) (c16 : PySem.W.codeIn K cd16 "_law_true" = true) (k16 : PySem.W.keepIn K (.ref f16) = true)
    (a17 : PySem.W.nsIn K mainGlobals "_law_all" = some (some (.ref f17))) (l17 : K.lookup f17 = some ⟨oc17, od17, .func (PySem.W.fnOf "_law_all" "_law_all" (defArgs s__law_all) (defBody s__law_all) (defScope s__law_all) .none kV17 dc17 pm17 an17 cd17 ct17), sl17⟩) (c17 : PySem.W.codeIn K cd17 "_law_all" = true) (k17 : PySem.W.keepIn K (.ref f17) = true)
    (a18 : PySem.W.nsIn K mainGlobals "_law_pairs" = some (some (.ref f18))) (l18 : K.lookup f18 = some ⟨oc18, od18, .func (PySem.W.fnOf "_law_pairs" "_law_pairs" (defArgs s__law_pairs) (defBody s__law_pairs) (defScope s__law_pairs) .none kV18 dc18 pm18 an18 cd18 ct18), sl18⟩) (c18 : PySem.W.codeIn K cd18 "_law_pairs" = true) (k18 : PySem.W.keepIn K (.ref f18) = true)
    (a19 : PySem.W.nsIn K mainGlobals "law" = some (some (.ref f19))) (l19 : K.lookup f19 = some ⟨oc19, od19, .func (PySem.W.fnOf "law" "law" (defArgs s_law) (defBody s_law) (defScope s_law) .none kV19 dc19 pm19 an19 cd19 ct19), sl19⟩) (c19 : PySem.W.codeIn K cd19 "law" = true) (k19 : PySem.W.keepIn K (.ref f19) = true)
    (z_abs : PySem.W.nsIn K mainGlobals "abs" = some none)
    (z_all : PySem.W.nsIn K mainGlobals "all" = some none)
    (z_any : PySem.W.nsIn K mainGlobals "any" = some none)
    (z_dict : PySem.W.nsIn K mainGlobals "dict" = some none)
    (z_int : PySem.W.nsIn K mainGlobals "int" = some none)
    (z_isinstance : PySem.W.nsIn K mainGlobals "isinstance" = some none)
    (z_len : PySem.W.nsIn K mainGlobals "len" = some none)
    (z_list : PySem.W.nsIn K mainGlobals "list" = some none)
    (z_max : PySem.W.nsIn K mainGlobals "max" = some none)
    (z_min : PySem.W.nsIn K mainGlobals "min" = some none)
    (z_range : PySem.W.nsIn K mainGlobals "range" = some none)
    (z_repr : PySem.W.nsIn K mainGlobals "repr" = some none)
    (z_reversed : PySem.W.nsIn K mainGlobals "reversed" = some none)
    (z_sorted : PySem.W.nsIn K mainGlobals "sorted" = some none)
    (z_tuple : PySem.W.nsIn K mainGlobals "tuple" = some none)
    {om0 : Value} {odm0 : Option Addr} {vm0 : Array Value} {slm0 : Array (Option Value)} (m0 : K.lookup cc0 = some ⟨om0, odm0, .fields vm0, slm0⟩) (p0 : (vm0[11]? : Option Value) = some (.ref pp0)) (ti0 : PySem.W.tabIn K "holds" = some (cc0, pp0) → PySem.W.CodeHd h cc0 pp0 ∧ h.get? pp0 = some { cls := .none, data := .fields #[] }) :
  List.lookup pp0 K = none → ∃ cs : List (Addr × Addr), (∀ p ∈ cs, h.get? p.2 = some { cls := .none, data := .fields #[] }) ∧ (∀ p ∈ cs, List.lookup p.2 K = none) ∧ (∀ p ∈ cs, PySem.W.CodeHd h p.1 p.2) ∧
    ∀ (base : Heap) (s : Shared) (H : Hp) (a : Addr) (ns : List Int), K.In base → base.Ns mainGlobals mg → (∀ p ∈ cs, GxR.TabB base mg p.1 p.2) → Env0 l.prog w K mg base callerA [] s H → ns.length ≤ 63 → SqL K H a (ns.map V.int) → (∀ p ∈ cs, H p.2 = some (.tbl #[])) →
      codeAny (model l.prog w) callerA (.call (.ref fa) ⟨[.ref a], []⟩) (CR CX0 [] l.prog w H s (fun v _ => v = .bl true) E0) s := by
  intro np0
  have tq0 : PySem.W.tabIn K "holds" = some (cc0, pp0) := by
    unfold PySem.W.tabIn
    rw [a0]
    simp only [l0, m0, p0, PySem.W.fnOf]
  obtain ⟨hd0, ht0⟩ := ti0 tq0
  have e := hfa.symm.trans (PySem.W.mg_of X G a19)
  cases e
  have F0 := fun_mk (st := s_holds) l0 c0 k0
  have b0 := F0.binds (ps := ["fact", "committed"]) fun _ _ _ _ _ _ us hl => match us, hl with | [_, _], _ => rfl
  have F1 := fun_mk (st := s_relation_for) l1 c1 k1
  have b1 := F1.binds (ps := ["lifted", "committed"]) fun _ _ _ _ _ _ us hl => match us, hl with | [_, _], _ => rfl
  have F2 := fun_mk (st := s_tables_for) l2 c2 k2
  have b2 := F2.binds (ps := ["tables", "committed"]) fun _ _ _ _ _ _ us hl => match us, hl with | [_, _], _ => rfl
  have F3 := fun_mk (st := s__rows_for) l3 c3 k3
  have b3 := F3.binds (ps := ["pairs", "committed"]) fun _ _ _ _ _ _ us hl => match us, hl with | [_, _], _ => rfl
  have F4 := fun_mk (st := s__law_tape) l4 c4 k4
  have b4 := F4.binds (ps := ["script"]) fun _ _ _ _ _ _ us hl => match us, hl with | [_], _ => rfl
  have F5 := fun_mk (st := s__law_draw) l5 c5 k5
  have b5 := F5.binds (ps := ["tape", "many"]) fun _ _ _ _ _ _ us hl => match us, hl with | [_, _], _ => rfl
  have F6 := fun_mk (st := s__law_name) l6 c6 k6
  have b6 := F6.binds (ps := ["tape"]) fun _ _ _ _ _ _ us hl => match us, hl with | [_], _ => rfl
  have F7 := fun_mk (st := s__law_names) l7 c7 k7
  have b7 := F7.binds (ps := ["tape", "many"]) fun _ _ _ _ _ _ us hl => match us, hl with | [_, _], _ => rfl
  have F8 := fun_mk (st := s__law_signs) l8 c8 k8
  have b8 := F8.binds (ps := []) fun _ _ _ _ _ _ us hl => match us, hl with | [], _ => rfl
  have F9 := fun_mk (st := s__law_text) l9 c9 k9
  have b9 := F9.binds (ps := ["tape"]) fun _ _ _ _ _ _ us hl => match us, hl with | [_], _ => rfl
  have F10 := fun_mk (st := s__law_value) l10 c10 k10
  have b10 := F10.binds (ps := ["tape", "kind"]) fun _ _ _ _ _ _ us hl => match us, hl with | [_, _], _ => rfl
  have F11 := fun_mk (st := s__law_some) l11 c11 k11
  have b11 := F11.binds (ps := ["tape", "names"]) fun _ _ _ _ _ _ us hl => match us, hl with | [_, _], _ => rfl
  have F12 := fun_mk (st := s__law_row) l12 c12 k12
  have b12 := F12.binds (ps := ["tape", "columns"]) fun _ _ _ _ _ _ us hl => match us, hl with | [_, _], _ => rfl
  have F13 := fun_mk (st := s__law_kinds) l13 c13 k13
  have b13 := F13.binds (ps := ["columns"]) fun _ _ _ _ _ _ us hl => match us, hl with | [_], _ => rfl
  have F14 := fun_mk (st := s__law_plain_tables) l14 c14 k14
  have b14 := F14.binds (ps := ["tape", "names"]) fun _ _ _ _ _ _ us hl => match us, hl with | [_, _], _ => rfl
  have F15 := fun_mk (st := s__law_fact) l15 c15 k15
  have b15 := F15.binds (ps := ["tape", "names", "depth"]) fun _ _ _ _ _ _ us hl => match us, hl with | [_, _, _], _ => rfl
  have F16 := fun_mk (st := s__law_true) l16 c16 k16
  have b16 := F16.binds (ps := ["fact", "committed"]) fun _ _ _ _ _ _ us hl => match us, hl with | [_, _], _ => rfl
  have F17 := fun_mk (st := s__law_all) l17 c17 k17
  have b17 := F17.binds (ps := ["names"]) fun _ _ _ _ _ _ us hl => match us, hl with | [_], _ => rfl
  have F18 := fun_mk (st := s__law_pairs) l18 c18 k18
  have b18 := F18.binds (ps := ["tape", "columns", "names", "many"]) fun _ _ _ _ _ _ us hl => match us, hl with | [_, _, _, _], _ => rfl
  have F19 := fun_mk (st := s_law) l19 c19 k19
  have b19 := F19.binds (ps := ["script"]) fun _ _ _ _ _ _ us hl => match us, hl with | [_], _ => rfl
  let T : Txt l.prog w K mg := ⟨f0, _, F0, b0, PySem.W.mg_of X G a0, f1, _, F1, b1, PySem.W.mg_of X G a1, f2, _, F2, b2, PySem.W.mg_of X G a2, f3, _, F3, b3, PySem.W.mg_of X G a3, f4, _, F4, b4, PySem.W.mg_of X G a4, f5, _, F5, b5, PySem.W.mg_of X G a5, f6, _, F6, b6, PySem.W.mg_of X G a6, f7, _, F7, b7, PySem.W.mg_of X G a7, f8, _, F8, b8, PySem.W.mg_of X G a8, f9, _, F9, b9, PySem.W.mg_of X G a9, f10, _, F10, b10, PySem.W.mg_of X G a10, f11, _, F11, b11, PySem.W.mg_of X G a11, f12, _, F12, b12, PySem.W.mg_of X G a12, f13, _, F13, b13, PySem.W.mg_of X G a13, f14, _, F14, b14, PySem.W.mg_of X G a14, f15, _, F15, b15, PySem.W.mg_of X G a15, f16, _, F16, b16, PySem.W.mg_of X G a16, f17, _, F17, b17, PySem.W.mg_of X G a17, f18, _, F18, b18, PySem.W.mg_of X G a18, fa, _, F19, b19, PySem.W.mg_of X G a19, cc0, pp0, ⟨_, _, _, _, _, _, _, _, rfl, l0, c0⟩, PySem.W.mg_none_of X G z_abs, PySem.W.mg_none_of X G z_all, PySem.W.mg_none_of X G z_any, PySem.W.mg_none_of X G z_dict, PySem.W.mg_none_of X G z_int, PySem.W.mg_none_of X G z_isinstance, PySem.W.mg_none_of X G z_len, PySem.W.mg_none_of X G z_list, PySem.W.mg_none_of X G z_max, PySem.W.mg_none_of X G z_min, PySem.W.mg_none_of X G z_range, PySem.W.mg_none_of X G z_repr, PySem.W.mg_none_of X G z_reversed, PySem.W.mg_none_of X G z_sorted, PySem.W.mg_none_of X G z_tuple⟩
  have e1 : ∀ p ∈ ([(cc0, pp0)] : List (Addr × Addr)), h.get? p.2 = some { cls := .none, data := .fields #[] } := by
    intro p hp
    simp only [List.mem_cons, List.not_mem_nil, or_false] at hp
    rcases hp with rfl
    · exact ht0
  have e2 : ∀ p ∈ ([(cc0, pp0)] : List (Addr × Addr)), List.lookup p.2 K = none := by
    intro p hp
    simp only [List.mem_cons, List.not_mem_nil, or_false] at hp
    rcases hp with rfl
    · exact np0
  have e3 : ∀ p ∈ ([(cc0, pp0)] : List (Addr × Addr)), PySem.W.CodeHd h p.1 p.2 := by
    intro p hp
    simp only [List.mem_cons, List.not_mem_nil, or_false] at hp
    rcases hp with rfl
    · exact hd0
  exact ⟨[(cc0, pp0)], e1, e2, e3, fun base s H a ns _ _ tb e0 hl hS ht => IndEnd.fun_at (us := [.ref a]) (vs := [.ref a]) F19 sc_law (k := 49) ⟨rfl, by decide, by decide⟩ e0 (.of_eq rfl) (.cons rfl .nil) rfl fun cdv hr => law_body (P := l.prog) (w := w) (base := base) T ⟨(tb (cc0, pp0) (by simp)).code, (tb (cc0, pp0) (by simp)).bm, (tb (cc0, pp0) (by simp)).gP⟩ hS hl (fun P hP => by
    simp only [List.mem_cons, List.not_mem_nil, or_false] at hP
    have e0 := hP
    · rw [e0]; exact ⟨#[], ht (cc0, pp0) (by simp), trivial⟩) cdv hr⟩
end
end Va
open PySem PySem.W PyProof.Rows
set_option maxHeartbeats 0 in
theorem PySem.Challenge.cw_indoubt_k50_what_lifted_rows_become_holds : PySem.Challenge.rw_indoubt_k50_what_lifted_rows_become.Holds := by
  w_on; o_law; k_head; (case hw => w_witness2)
  k_fill
  refine IndEnd.walk_at_tabs (l := PySem.Challenge.rw_indoubt_k50_what_lifted_rows_become) (n := 63) rfl (by decide) rfl (fun w h Y => PySem.W.kIn_of Y) ?F
  case F =>
    intro w mg fa h KX G hmg tabs
    refine' Va.all_mk KX G hmg ?a0 ?l0 ?c0 ?k0 ?a1 ?l1 ?c1 ?k1 ?a2 ?l2 ?c2 ?k2 ?a3 ?l3 ?c3 ?k3 ?a4 ?l4 ?c4 ?k4 ?a5 ?l5 ?c5 ?k5 ?a6 ?l6 ?c6 ?k6 ?a7 ?l7 ?c7 ?k7 ?a8 ?l8 ?c8 ?k8 ?a9 ?l9 ?c9 ?k9 ?a10 ?l10 ?c10 ?k10 ?a11 ?l11 ?c11 ?k11 ?a12 ?l12 ?c12 ?k12 ?a13 ?l13 ?c13 ?k13 ?a14 ?l14 ?c14 ?k14 ?a15 ?l15 ?c15 ?k15 ?a16 ?l16 ?c16 ?k16 ?a17 ?l17 ?c17 ?k17 ?a18 ?l18 ?c18 ?k18 ?a19 ?l19 ?c19 ?k19  ?z_abs ?z_all ?z_any ?z_dict ?z_int ?z_isinstance ?z_len ?z_list ?z_max ?z_min ?z_range ?z_repr ?z_reversed ?z_sorted ?z_tuple ?um0 ?up0 (fun z => tabs "holds" _ _ _ (by rfl) z) ?np0
    (case a0 => k_is); (case l0 => k_is); (case c0 => k_is); (case k0 => k_is); (case a1 => k_is); (case l1 => k_is); (case c1 => k_is); (case k1 => k_is); (case a2 => k_is); (case l2 => k_is); (case c2 => k_is); (case k2 => k_is); (case a3 => k_is); (case l3 => k_is); (case c3 => k_is); (case k3 => k_is); (case a4 => k_is); (case l4 => k_is); (case c4 => k_is); (case k4 => k_is); (case a5 => k_is); (case l5 => k_is); (case c5 => k_is); (case k5 => k_is); (case a6 => k_is); (case l6 => k_is); (case c6 => k_is); (case k6 => k_is); (case a7 => k_is); (case l7 => k_is); (case c7 => k_is); (case k7 => k_is); (case a8 => k_is); (case l8 => k_is); (case c8 => k_is); (case k8 => k_is); (case a9 => k_is); (case l9 => k_is); (case c9 => k_is); (case k9 => k_is); (case a10 => k_is); (case l10 => k_is); (case c10 => k_is); (case k10 => k_is); (case a11 => k_is); (case l11 => k_is); (case c11 => k_is); (case k11 => k_is); (case a12 => k_is); (case l12 => k_is); (case c12 => k_is); (case k12 => k_is); (case a13 => k_is); (case l13 => k_is); (case c13 => k_is); (case k13 => k_is); (case a14 => k_is); (case l14 => k_is); (case c14 => k_is); (case k14 => k_is); (case a15 => k_is); (case l15 => k_is); (case c15 => k_is); (case k15 => k_is); (case a16 => k_is); (case l16 => k_is); (case c16 => k_is); (case k16 => k_is); (case a17 => k_is); (case l17 => k_is); (case c17 => k_is); (case k17 => k_is); (case a18 => k_is); (case l18 => k_is); (case c18 => k_is); (case k18 => k_is); (case a19 => k_is); (case l19 => k_is); (case c19 => k_is); (case k19 => k_is); (case z_abs => k_is); (case z_all => k_is); (case z_any => k_is); (case z_dict => k_is); (case z_int => k_is); (case z_isinstance => k_is); (case z_len => k_is); (case z_list => k_is); (case z_max => k_is); (case z_min => k_is); (case z_range => k_is); (case z_repr => k_is); (case z_reversed => k_is); (case z_sorted => k_is); (case z_tuple => k_is)
    case um0 => k_is
    case up0 => rfl
    case np0 => first | kernel_rfl | rfl | decide +kernel
