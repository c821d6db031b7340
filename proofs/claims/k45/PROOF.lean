import PyProof.Rows.All
import Wide.All
import OpenK.AllK
import Wide.FinOn
import PyProof.GenQ
import HandS.GenOver
import PyProof.ConsumeS
import HandS.Base
import HandS.Call
import HandS.List
import HandS.Ends
import HandS.Words
import HandS.WordsList
import HandS.Text
import HandS.Comp
import HandS.Iter
import HandS.Wide
import HandS.Exc
import HandS.RaiseOp
import HandS.StrMore
import HandS.TupLe
import HandS.Zip0
import HandS.AnyAll
import HandS.Replace
import PyProof.Rows.RuleB_bool
import PyProof.FString5
import HandS.IsInst
import HandS.Dict
import KE.KDictPairs
import KE.KIndexOf
import PyProof.ReprRoads
import PyProof.FitsInt
import PyProof.ReprLen
import PyProof.StrLawsRepr
import HandS.TupAny
import HandS.Zip
import HandS.Rev
import HandS.Deep
import HandS.Conv
import HandS.WordsDict
import PyProof.P3In
import HandS.ExcOwn
import HandS.ExcIs
import HandS.WordsExc
import KE.KDictList
import HandS.RevTup
import HandS.More
import HandS.ListItems
import HandS.Style
import HandS.SortRule
import KE.KExcSuper
import KE.KExcInit
import HandS.FStr
import HandS.ExcField
import KE.KExcIs
import PyProof.FString
import HandS.TryMany
import HandS.EndTab
import KE.KNest
import PyProof.ReprBulk
import PyProof.Rows.StrMeet
import KE.LtSeq
import KE.LtData
import HandS.Keys
import KE.SortCalls
import HandS.SortKw
import HandS.SetTxt0
import HandS.Set
import HandS.SetFor
import HandS.SetBool
import HandS.TupSets
import PyProof.FactsAll.set_2
import HandS.DictComp
import KE.KSortRegAny
import KE.KDictWalk
import PyProof.DictMoreH
import HandS.CallLocal
import HandS.DictTup
import KE.GoesZip
import KE.GoesEnum
import KE.GoesMore
import HandS.Sort
import KE.SortData
import KE.DatumOrd
import KE.DataMinMax
import HandS.ReplaceLit
import HandS.ReplaceList
import KE.KIntText
import KE.KeyNested
import KE.KDictKeyed
import KE.KDictDisplayH
import KE.KDictItemsList
import HandS.WideBits
import PySem.Challenge.RW_indoubt_k45_condition_is_exact
set_option Elab.async false
set_option linter.all false
set_option maxRecDepth 100000
namespace IndG
open PySem PySem.Spec GenW
abbrev MM (prog : Program) (w : World) : Model := model prog w
structure Stage (prog : Program) (w : World) (Ag : Around) (cenv : Env) (target elt : Expr) (I : Addr) (n : Nat) (tr : Nat → Bool) (V : Nat → Shared → Prop) (F : Shared → Prop) : Prop where
  still : ∀ j s g t, V j s → (∀ y ∈ g, y.bare = true) → V j { s with gens := g, toks := t }
  bare : ∀ j s, V j s → ∀ y ∈ s.gens, y.bare = true
  item : ∀ j s E, j < n → V j s → wpAny (MM prog w) Ag (pyNext (.ref I)) (fun r s1 => ∃ v, r = some v ∧
    wpAny (MM prog w) Ag (letOwnedTupleGo target (.ref I) v) (fun _ s2 => wpAny (MM prog w) Ag (assign target cenv v) (fun _ s3 =>
      wpAny (MM prog w) Ag (eval elt cenv) (fun y s4 => y = .bool (tr j) ∧ V (j + 1) s4) E s3) E s2) E s1) E s
  done : ∀ s E, V n s → wpAny (MM prog w) Ag (pyNext (.ref I)) (fun r s1 => r = none ∧ F s1) E s
def prot (n : Nat) (tr : Nat → Bool) (V : Nat → Shared → Prop) : Protocol := fun m s₀ v s kap =>
  m < n ∧ v = .bool (tr (n - 1 - m)) ∧ V (n - m) s ∧ s₀.gens.size ≤ s.gens.size ∧ ∀ z, V (n - m) z → kap (.send .none) z
def fin (F : Shared → Prop) : GenEnd := fun m s₀ r s => r = .ok .next ∧ (m = 0 ∧ s₀.gens.size ≤ s.gens.size ∧ F s)
section
variable {prog : Program} {w : World} {A : Around} {target elt iter : Expr} {scope : Scope} {pos : Pos} {I : Addr} {cenv : Env} {n : Nat} {tr : Nat → Bool} {V : Nat → Shared → Prop} {F : Shared → Prop}
abbrev gx (elt target iter : Expr) (scope : Scope) (pos : Pos) : Expr := .GeneratorExp elt [⟨target, iter, [], 0⟩] scope pos
theorem turns (S : Stage prog w (A.over (.compLoop (gx elt target iter scope pos) 0 (.ref I) .none cenv) []) cenv target elt I n tr V F) (hco : cenv.scope.isCoroutine = false) :
    ∀ (k j : Nat) (s₀ s : Shared), n - j = k → j ≤ n → V j s → s₀.gens.size ≤ s.gens.size →
      Seg (MM prog w) A (fin F) (prot n tr V) k s₀ (.compLoop (gx elt target iter scope pos) 0 (.ref I) .none cenv) ((MM prog w).den (.compLoop (gx elt target iter scope pos) 0 (.ref I) .none cenv)) [] s := by
  intro k
  induction k with
  | zero =>
    intro j s₀ s hk hj hV hg
    have e : j = n := by omega
    subst e
    show Seg _ A _ _ _ s₀ _ ((compTurn (gx elt target iter scope pos) 0 (.ref I) .none cenv).onRaise (leaving cenv)) [] s
    rw [compTurn_gen]
    rw [Sem.onRaise_eq_wrap]
    refine seg_bind_wrap (wpAny_standAt ?_)
    refine seg_bind_wrap (wpAny_gsz hg (wpAny_mono (S.done s _ hV) (fun r s1 h1 h2 => ?_) fun _ _ x _ => x))
    obtain ⟨rfl, hF⟩ := h1
    exact seg_end (.ok .next) ⟨rfl, rfl, h2, hF⟩
  | succ k ih =>
    intro j s₀ s hk hj hV hg
    have hlt : j < n := by omega
    show Seg _ A _ _ _ s₀ _ ((compTurn (gx elt target iter scope pos) 0 (.ref I) .none cenv).onRaise (leaving cenv)) [] s
    rw [compTurn_gen]
    rw [Sem.onRaise_eq_wrap]
    refine seg_bind_wrap (wpAny_standAt ?_)
    refine seg_bind_wrap (wpAny_gsz hg (wpAny_mono (S.item j s _ hlt hV) (fun r s1 h1 g1 => ?_) fun _ _ x _ => x))
    obtain ⟨v, rfl, h1⟩ := h1
    refine seg_bind_wrap (wpAny_gsz g1 (wpAny_mono h1 (fun _ s2 h2 g2 => ?_) fun _ _ x _ => x))
    refine seg_bind_wrap (wpAny_gsz g2 (wpAny_mono h2 (fun _ s3 h3 g3 => ?_) fun _ _ x _ => x))
    simp only [List.forIn_nil]
    refine seg_bind_wrap (wpAny_pure ?_)
    simp only [if_true]
    have out : ∀ v, yieldOut cenv v = yieldValue v := by
      intro v
      simp only [yieldOut, hco, Bool.false_eq_true, if_false]
    simp only [out]
    iterate 2 rw [Sem.bind_eq_wrap']
    iterate 2 rw [Sem.wrap_wrap]
    refine seg_wrap (wpAny_gsz g3 (wpAny_mono h3 (fun y s4 h4 g4 => ?_) fun _ _ x _ => x))
    obtain ⟨rfl, hV4⟩ := h4
    have ek : n - k = j + 1 := by omega
    have et : n - 1 - k = j := by omega
    refine seg_at (seg_yield rfl rfl rfl ⟨by omega, by rw [et], by rw [ek]; exact hV4, g4, fun z hz => ?_⟩)
    rw [ek] at hz
    exact seg_again rfl (ih (j + 1) z z (by omega) hlt hz (Nat.le_refl _))
theorem wakes (S : Stage prog w (A.over (.compLoop (gx elt target iter scope pos) 0 (.ref I) .none cenv) []) cenv target elt I n tr V F) (hco : cenv.scope.isCoroutine = false)
    (same : A.over (.compStart (gx elt target iter scope pos) 0 (.ref I) .none cenv) [] = A.over (.compLoop (gx elt target iter scope pos) 0 (.ref I) .none cenv) [])
    (self : ∀ s Q E, V 0 s → Q (.ref I) s → wpAny (MM prog w) (A.over (.compStart (gx elt target iter scope pos) 0 (.ref I) .none cenv) []) (pyIter (.ref I)) Q E s) :
    ∀ (s₀ s : Shared), V 0 s → s₀.gens.size ≤ s.gens.size →
      Seg (MM prog w) A (fin F) (prot n tr V) n s₀ (.compStart (gx elt target iter scope pos) 0 (.ref I) .none cenv) ((MM prog w).den (.compStart (gx elt target iter scope pos) 0 (.ref I) .none cenv)) [] s := by
  intro s₀ s hV hg
  have go := turns (iter := iter) (scope := scope) (pos := pos) S hco n 0 s₀ s (by omega) (Nat.zero_le _) hV hg
  show Seg _ A _ _ _ s₀ _ ((compStart (gx elt target iter scope pos) 0 (.ref I) .none cenv).onRaise (leaving cenv)) [] s
  unfold compStart
  rw [Sem.onRaise_eq_wrap]
  show Seg _ A _ _ _ s₀ _ (((ask) >>= _).wrap _ _ _ _) [] s
  refine seg_bind_wrap (wpAny_askSetting ?_)
  split
  · exact seg_again rfl go
  · refine seg_bind_wrap (wpAny_rule ?_)
    show Seg _ A _ _ _ s₀ _ (((standAt iter.pos) >>= _).wrap _ _ _ _) [] s
    refine seg_bind_wrap (wpAny_standAt ?_)
    refine seg_bind_wrap (self s _ _ hV ?_)
    exact seg_again rfl go
end
end IndG
set_option Elab.async false
set_option linter.all false
set_option maxRecDepth 100000
namespace IndG
open PySem PySem.Spec GenW
structure Held (a : Addr) (g : Nat) (V : Nat → Shared → Prop) (F : Shared → Prop) : Prop where
  gen : ∀ j s, V j s → s.heap.IsGen a g ∧ s.heap.NoLimit
  fbare : ∀ s, F s → ∀ y ∈ s.gens, y.bare = true
def Asleep (prog : Program) (w : World) (A : Around) (g n : Nat) (tr : Nat → Bool) (V : Nat → Shared → Prop) (F : Shared → Prop) (j : Nat) (s : Shared) : Prop :=
  V j s ∧ ∃ gs, s.gens[g]? = some gs ∧ ∀ z, V j z → gs.Goes (MM prog w) A.in1 (fin F) (prot n tr V) (n - j) (.send .none) z
def Left (V : Nat → Shared → Prop) (F : Shared → Prop) (s : Shared) : Prop :=
  (∃ j, V j s) ∨ ∃ s1 g' h', F s1 ∧ s = { s1 with gens := g', heap := h' } ∧ (∀ y ∈ g', y.bare = true) ∧ ∀ b o, s1.heap.get? b = some o → h'.get? b = some o
section
variable {prog : Program} {w : World} {A : Around} {a : Addr} {g n : Nat} {tr : Nat → Bool} {V : Nat → Shared → Prop} {F : Shared → Prop}
theorem setGen_bare {s : Shared} {x : GenState} (h : ∀ y ∈ s.gens, y.bare = true) (hx : x.bare = true) : ∀ y ∈ (s.setGen g x).gens, y.bare = true := by
  intro y hy
  have hy : y ∈ s.gens.setIfInBounds g x := hy
  obtain ⟨i, hi, e⟩ := Array.mem_iff_getElem.mp hy
  have hi2 : i < s.gens.size := by simpa using hi
  rw [Array.getElem_setIfInBounds hi2] at e
  split at e
  · rw [← e]; exact hx
  · rw [← e]
    exact h _ (Array.getElem_mem hi2)
theorem setGen_at {s : Shared} {x : GenState} (h : g < s.gens.size) : (s.setGen g x).gens[g]? = some x := by
  simp [Shared.setGen, h]
theorem step (still : ∀ j s g' t, V j s → (∀ y ∈ g', y.bare = true) → V j { s with gens := g', toks := t }) (bare : ∀ j s, V j s → ∀ y ∈ s.gens, y.bare = true) (K : Held a g V F)
    (hh : A.handled = none) (room : A.depth < recursionLimit) {j : Nat} {s : Shared} (h : Asleep prog w A g n tr V F j s) (hlt : j < n) {Q : Option Value → Shared → Prop} {E : Value → Shared → Prop}
    (hQ : ∀ z, Asleep prog w A g n tr V F (j + 1) z → Q (some (.bool (tr j))) z) : wpAny (MM prog w) A (pyNext (.ref a)) Q E s := by
  obtain ⟨hV, gs, hgs, go⟩ := h
  obtain ⟨hg, hl⟩ := K.gen _ _ hV
  have hsz : g < s.gens.size := (Array.getElem?_eq_some_iff.mp hgs).1
  have hV2 : V j (s.setGen g .running) := still j s _ s.toks hV (setGen_bare (g := g) (bare _ _ hV) rfl)
  refine wpAny_pyNext_genexpQ (n := n - j) (P := fun m s₀ s₁ => m = 0 ∧ s₀.gens.size ≤ s₁.gens.size ∧ F s₁) hh hl room hg hgs (go _ hV2) (fun v s1 gs' hb hy => ?_) (fun s1 hp h' hk => ?_)
  · obtain ⟨m, em⟩ : ∃ m, n - j = m + 1 := ⟨n - j - 1, by omega⟩
    rw [em] at hy
    obtain ⟨y1, y2, y3, y4, y5⟩ := hy
    have e1 : n - 1 - (m + 1 - 1) = j := by omega
    have e2 : n - (m + 1 - 1) = j + 1 := by omega
    rw [e1] at y2
    rw [e2] at y3 y5
    subst y2
    have hsz1 : g < s1.gens.size := by
      have : (s.setGen g .running).gens.size = s.gens.size := by simp [Shared.setGen]
      omega
    refine hQ _ ⟨still _ s1 _ s1.toks y3 (setGen_bare (g := g) (bare _ _ y3) hb), gs', setGen_at hsz1, fun z hz => ?_⟩
    rw [show n - (j + 1) = m by omega]
    exact y5 z hz
  · have := hp.1
    omega
theorem stop (still : ∀ j s g' t, V j s → (∀ y ∈ g', y.bare = true) → V j { s with gens := g', toks := t }) (bare : ∀ j s, V j s → ∀ y ∈ s.gens, y.bare = true) (K : Held a g V F)
    (hh : A.handled = none) (room : A.depth < recursionLimit) {s : Shared} (h : Asleep prog w A g n tr V F n s) {Q : Option Value → Shared → Prop} {E : Value → Shared → Prop}
    (hQ : ∀ z, Left V F z → Q none z) : wpAny (MM prog w) A (pyNext (.ref a)) Q E s := by
  obtain ⟨hV, gs, hgs, go⟩ := h
  obtain ⟨hg, hl⟩ := K.gen _ _ hV
  have hV2 : V n (s.setGen g .running) := still n s _ s.toks hV (setGen_bare (g := g) (bare _ _ hV) rfl)
  refine wpAny_pyNext_genexpQ (n := n - n) (P := fun m s₀ s₁ => m = 0 ∧ s₀.gens.size ≤ s₁.gens.size ∧ F s₁) hh hl room hg hgs (go _ hV2) (fun v s1 gs' hb hy => ?_) (fun s1 hp h' hk => ?_)
  · rw [Nat.sub_self] at hy
    obtain ⟨_, _, y3, _, y5⟩ := hy
    exact (y5 _ y3).elim
  · refine hQ _ (.inr ⟨s1, (s1.setGen g .finished).gens, h', hp.2.2, rfl, setGen_bare (g := g) (K.fbare _ hp.2.2) rfl, hk⟩)
theorem all_turns (still : ∀ j s g' t, V j s → (∀ y ∈ g', y.bare = true) → V j { s with gens := g', toks := t }) (bare : ∀ j s, V j s → ∀ y ∈ s.gens, y.bare = true) (K : Held a g V F)
    (hh : A.handled = none) (room : A.depth < recursionLimit) {R : Result → Shared → Prop} : ∀ (k j : Nat) (s : Shared), n - j = k → j ≤ n → Asleep prog w A.in1 g n tr V F j s →
      (∀ z, Left V F z → R (.ok (.ret (.bool (((List.range n).drop j).all tr)))) z) → codeAny (MM prog w) A (.builtin "all.loop" ⟨[.ref a], []⟩) R s := by
  intro k
  induction k with
  | zero =>
    intro j s hk hj h hR
    have e : j = n := by omega
    subst e
    refine codeAny_builtin PySem.F.entry_all_loop ?_
    rw [Around.under_plainId PySem.F.plain_all_loop _]
    show wpAny _ A.in1 ((pyNext (.ref a)) >>= _) _ _ s
    refine wpAny_bind (stop (A := A.in1) still bare K hh room h fun z hz => ?_)
    refine wpAny_bind (wpAny_rule (wpAny_pure ?_))
    have q := hR z hz
    rw [List.drop_of_length_le (by simp)] at q
    exact q
  | succ k ih =>
    intro j s hk hj h hR
    have hlt : j < n := by omega
    have hd : (List.range n).drop j = j :: (List.range n).drop (j + 1) := by
      rw [List.drop_eq_getElem_cons (by simpa using hlt)]
      simp
    rw [hd] at hR
    refine codeAny_builtin PySem.F.entry_all_loop ?_
    rw [Around.under_plainId PySem.F.plain_all_loop _]
    show wpAny _ A.in1 ((pyNext (.ref a)) >>= _) _ _ s
    refine wpAny_bind (step (A := A.in1) still bare K hh room h hlt fun z hz => ?_)
    refine wpAny_bind (wpAny_holding (wpAny_truthy_bool ?_))
    refine wpAny_bind (wpAny_letGo ?_)
    cases hb : tr j with
    | true =>
      simp only [if_true]
      refine wpAny_pure ⟨plainId_quiet PySem.F.plain_all_loop _, ih (j + 1) z (by omega) hlt hz fun y hy => ?_⟩
      have q := hR y hy
      rw [List.all_cons, hb] at q
      exact q
    | false =>
      simp only [Bool.false_eq_true, if_false]
      refine wpAny_bind (wpAny_rule (wpAny_pure ?_))
      have q := hR z (.inl ⟨_, hz.1⟩)
      rw [List.all_cons, hb] at q
      exact q
theorem any_turns (still : ∀ j s g' t, V j s → (∀ y ∈ g', y.bare = true) → V j { s with gens := g', toks := t }) (bare : ∀ j s, V j s → ∀ y ∈ s.gens, y.bare = true) (K : Held a g V F)
    (hh : A.handled = none) (room : A.depth < recursionLimit) {R : Result → Shared → Prop} : ∀ (k j : Nat) (s : Shared), n - j = k → j ≤ n → Asleep prog w A.in1 g n tr V F j s →
      (∀ z, Left V F z → R (.ok (.ret (.bool (((List.range n).drop j).any tr)))) z) → codeAny (MM prog w) A (.builtin "any.loop" ⟨[.ref a], []⟩) R s := by
  intro k
  induction k with
  | zero =>
    intro j s hk hj h hR
    have e : j = n := by omega
    subst e
    refine codeAny_builtin PySem.F.entry_any_loop ?_
    rw [Around.under_plainId PySem.F.plain_any_loop _]
    show wpAny _ A.in1 ((pyNext (.ref a)) >>= _) _ _ s
    refine wpAny_bind (stop (A := A.in1) still bare K hh room h fun z hz => ?_)
    refine wpAny_bind (wpAny_rule (wpAny_pure ?_))
    have q := hR z hz
    rw [List.drop_of_length_le (by simp)] at q
    exact q
  | succ k ih =>
    intro j s hk hj h hR
    have hlt : j < n := by omega
    have hd : (List.range n).drop j = j :: (List.range n).drop (j + 1) := by
      rw [List.drop_eq_getElem_cons (by simpa using hlt)]
      simp
    rw [hd] at hR
    refine codeAny_builtin PySem.F.entry_any_loop ?_
    rw [Around.under_plainId PySem.F.plain_any_loop _]
    show wpAny _ A.in1 ((pyNext (.ref a)) >>= _) _ _ s
    refine wpAny_bind (step (A := A.in1) still bare K hh room h hlt fun z hz => ?_)
    refine wpAny_bind (wpAny_holding (wpAny_truthy_bool ?_))
    refine wpAny_bind (wpAny_letGo ?_)
    cases hb : tr j with
    | false =>
      simp only [Bool.false_eq_true, if_false]
      refine wpAny_pure ⟨plainId_quiet PySem.F.plain_any_loop _, ih (j + 1) z (by omega) hlt hz fun y hy => ?_⟩
      have q := hR y hy
      rw [List.any_cons, hb] at q
      exact q
    | true =>
      simp only [if_true]
      refine wpAny_bind (wpAny_rule (wpAny_pure ?_))
      have q := hR z (.inl ⟨_, hz.1⟩)
      rw [List.any_cons, hb] at q
      exact q
theorem call_all (still : ∀ j s g' t, V j s → (∀ y ∈ g', y.bare = true) → V j { s with gens := g', toks := t }) (bare : ∀ j s, V j s → ∀ y ∈ s.gens, y.bare = true) (K : Held a g V F)
    (hh : A.handled = none) (room : A.depth < recursionLimit) {s : Shared} {Q : Value → Shared → Prop} {E : Value → Shared → Prop} (h : Asleep prog w A.in1 g n tr V F 0 s)
    (hQ : ∀ z, Left V F z → Q (.bool ((List.range n).all tr)) z) : wpAny (MM prog w) A (call (.builtin "all") [.ref a]) Q E s := by
  refine call_function_tree PySem.F.kind_all PySem.F.plain_all PySem.F.entry_all (PySem.F.args_all1 _) ?_
  unfold Builtin.«all»
  refine wpAny_bind (m := oneArg "all" _) (wpAny_pure ?_)
  refine wpAny_bind (wpAny_pyIter_gen (K.gen _ _ h.1).1 ?_)
  refine wpAny_pure ⟨plainId_quiet PySem.F.plain_all_loop _, ?_⟩
  refine all_turns (A := A) still bare K hh room n 0 s rfl (Nat.zero_le _) h fun z hz => ?_
  simpa using hQ z hz
theorem call_any (still : ∀ j s g' t, V j s → (∀ y ∈ g', y.bare = true) → V j { s with gens := g', toks := t }) (bare : ∀ j s, V j s → ∀ y ∈ s.gens, y.bare = true) (K : Held a g V F)
    (hh : A.handled = none) (room : A.depth < recursionLimit) {s : Shared} {Q : Value → Shared → Prop} {E : Value → Shared → Prop} (h : Asleep prog w A.in1 g n tr V F 0 s)
    (hQ : ∀ z, Left V F z → Q (.bool ((List.range n).any tr)) z) : wpAny (MM prog w) A (call (.builtin "any") [.ref a]) Q E s := by
  refine call_function_tree PySem.F.kind_any PySem.F.plain_any PySem.F.entry_any (PySem.F.args_any1 _) ?_
  unfold Builtin.«any»
  refine wpAny_bind (m := oneArg "any" _) (wpAny_pure ?_)
  refine wpAny_bind (wpAny_pyIter_gen (K.gen _ _ h.1).1 ?_)
  refine wpAny_pure ⟨plainId_quiet PySem.F.plain_any_loop _, ?_⟩
  refine any_turns (A := A) still bare K hh room n 0 s rfl (Nat.zero_le _) h fun z hz => ?_
  simpa using hQ z hz
end
end IndG
set_option Elab.async false
set_option linter.all false
set_option maxRecDepth 100000
set_option maxHeartbeats 4000000
namespace Ind
open PySem PySem.Spec PyProof.Rows L2
def Fz (t : Addr) (H H' : Hp) : Prop := ∀ b o, b ≠ t → H b = some o → H' b = some o
theorem Fz.refl {t : Addr} {H : Hp} : Fz t H H := fun _ _ _ h => h
theorem Fz.trans {t : Addr} {H H1 H2 : Hp} (a : Fz t H H1) (b : Fz t H1 H2) : Fz t H H2 := fun c o n h => b c o n (a c o n h)
theorem Fz.of {t : Addr} {H H' : Hp} (a : Same H H') : Fz t H H' := fun b o _ h => a b o h
theorem Fz.upd {t : Addr} {H H' : Hp} {o : HO} (a : Fz t H H') : Fz t H (upd H' t o) := fun b u n h => by rw [upd_ne n]; exact a b u n h
theorem Fz.new {t p : Addr} {H H' : Hp} {o : HO} (a : Fz t H H') (n : H' p = none) : Fz t H (L2.upd H' p o) := fun b u nb h => by
  have e := a b u nb h
  rw [upd_ne (ne_of_none e n)]; exact e
theorem same_upd {H : Hp} {p : Addr} {o : HO} (h : H p = none) : Same H (upd H p o) := fun b x e => by
  rw [upd_ne (ne_of_none e h)]; exact e
theorem Same.new {p : Addr} {H H' : Hp} {o : HO} (a : Same H H') (n : H' p = none) : Same H (L2.upd H' p o) := a.trans (same_upd n)
theorem line {n : Nat} (h : n ≤ 1000) : n ≤ sizeLine := Nat.le_trans h (by decide)
inductive Iv (p : Prop) : Prop
  | a (h : p) : Iv p
  | b (h : False) : Iv p
theorem Iv.out {p : Prop} (h : Iv p) : p := by cases h with | a h => exact h | b h => exact h.elim
structure Tp where
  a : Addr
  l : Addr
def TapeAt (H : Hp) (t : Tp) : Prop := ∃ (ns : List Int) (p n s : Int),
  H t.a = some (.lst [.ref t.l, .int p, .int n, .int s]) ∧ H t.l = some (.lst (ns.map V.int)) ∧ ns.length ≤ 1000 ∧ 0 ≤ p ∧ 0 ≤ n ∧ 0 ≤ s ∧ s < 2147483647
theorem Tape.ne {H : Hp} {t l : Addr} {ns : List Int} {p n s : Int} (h : H t = some (.lst [.ref l, .int p, .int n, .int s])) (h' : H l = some (.lst (ns.map V.int))) : l ≠ t := fun e => by
  rw [e, h] at h'
  injection h' with h'
  injection h' with h'
  cases ns with
  | nil => cases h'
  | cons a r => injection h' with a1 a2; cases a1
theorem TapeAt.same {H H' : Hp} {t : Tp} (h : TapeAt H t) (e : Same H H') : TapeAt H' t := by
  obtain ⟨ns, p, n, s, h1, h2, h3⟩ := h
  exact ⟨ns, p, n, s, e _ _ h1, e _ _ h2, h3⟩
theorem TapeAt.new {H : Hp} {t : Tp} {p : Addr} {o : HO} (h : TapeAt H t) (n : H p = none) : TapeAt (upd H p o) t := h.same (same_upd n)
theorem TapeAt.there {H : Hp} {t : Tp} (h : TapeAt H t) : (∃ o, H t.a = some o) ∧ ∃ o, H t.l = some o := by
  obtain ⟨ns, p, n, s, h1, h2, _⟩ := h
  exact ⟨⟨_, h1⟩, ⟨_, h2⟩⟩
structure Off (t : Tp) (b : Addr) : Prop where
  a : b ≠ t.a
  l : b ≠ t.l
theorem TapeAt.off {H : Hp} {t : Tp} {b : Addr} (h : TapeAt H t) (e : H b = none) : Off t b := by
  obtain ⟨⟨o, q⟩, ⟨u, r⟩⟩ := h.there
  refine ⟨?_, ?_⟩
  · intro z; rw [z, q] at e; cases e
  · intro z; rw [z, r] at e; cases e
theorem TapeAt.upd {H : Hp} {t : Tp} {b : Addr} {o : HO} (h : TapeAt H t) (e : Off t b) : TapeAt (L2.upd H b o) t := by
  obtain ⟨ns, p, n, s, h1, h2, h3⟩ := h
  exact ⟨ns, p, n, s, by rw [upd_ne e.a.symm]; exact h1, by rw [upd_ne e.l.symm]; exact h2, h3⟩
theorem Fz.upd' {t p : Addr} {H H' : Hp} {o : HO} (a : Fz t H H') (n : H p = none) : Fz t H (L2.upd H' p o) := fun b u nb h => by
  rw [upd_ne (ne_of_none h n)]; exact a b u nb h
theorem rd {K : PySem.W.Frag} {H : Hp} {p : Addr} {xs : List V} {Q : VK} (h : H p = some (.lst xs)) (j : Nat) {v : V} (e : xs[j]? = some v) (q : Q v H) : rIxL K (.ref p) (.int (j : Int)) H Q := ⟨_, _, _, _, rfl, rfl, .of h, atI_nat e, q⟩
theorem wr {H : Hp} {p : Addr} {xs : List V} {Q : Hp → Prop} {v : V} (h : H p = some (.lst xs)) (j : Nat) (e : ixN xs.length (j : Int) = some j) (q : Q (upd H p (.lst (xs.set j v)))) : rSetL (.ref p) (.int (j : Int)) v H Q := ⟨_, _, _, _, rfl, rfl, h, e, q⟩
def Dm (m : Int) : Prop := ∀ x : Int, CDivW x (if (2 : Int) > m then 2 else m)
theorem dm {m : Int} (h : m < 1606938044258990275541962092341162602522202993782792835301376) : Dm m := fun x => by
  refine wide_div (b := 200) ?_ ?_ (by decide) (by decide)
  · split <;> omega
  · have e : (2 : Nat) ^ 200 = 1606938044258990275541962092341162602522202993782792835301376 := by decide +kernel
    rw [e]
    split <;> omega
end Ind
set_option Elab.async false
set_option linter.all false
set_option maxRecDepth 100000
set_option maxHeartbeats 4000000
namespace IndG
open PySem PySem.Spec PyProof.Rows L2 GenW
theorem over_gen {A : Around} {elt target iter : Expr} {scope : Scope} {pos : Pos} {it v : Value} {env : Env} : A.over (.compLoop (gx elt target iter scope pos) 0 it v env) [] = A.deeper env := by
  first
    | rfl
    | (obtain ⟨hd, d, fr, gs, u⟩ := A; simp [Around.over, Around.deeper, marksOver, frameCount, unitsOf, envsOf, guardsOf, pushEnvs, pushGuards, Code.envs, Code.env?, Code.isFrame, Code.guards, Code.isGuard, Code.weight, Code.frames, Code.isCreation, Code.isCaller, Code.cUnits])
theorem over_gen0 {A : Around} {elt target iter : Expr} {scope : Scope} {pos : Pos} {it v : Value} {env : Env} : A.over (.compStart (gx elt target iter scope pos) 0 it v env) [] = A.deeper env := by
  first
    | rfl
    | (obtain ⟨hd, d, fr, gs, u⟩ := A; simp [Around.over, Around.deeper, marksOver, frameCount, unitsOf, envsOf, guardsOf, pushEnvs, pushGuards, Code.envs, Code.env?, Code.isFrame, Code.guards, Code.isGuard, Code.weight, Code.frames, Code.isCreation, Code.isCaller, Code.cUnits])
abbrev genC (X : Cx) (env : Env) (s : Shared) (H : Hp) (fp : List Addr) : Cx :=
  { X with A := X.A.in1.in1.deeper env, s_0 := s, H_0 := H, env := env, outer := X.stack, stack := env :: X.stack, ex := fp, fn := fun _ => false, calm := true, pn := [], xe := fun _ _ => False }
theorem room_gen {X : Cx} {env : Env} {k : Nat} (r : Room (k + 1) X.A) : Room k (X.A.in1.in1.deeper env) := by
  refine ⟨r.hd, ?_, ?_⟩
  · have := r.dp
    show X.A.depth + 1 + 3 * k + 5 < _
    omega
  · have := r.un
    show X.A.units + 1 + 1 + 3 + 16 * k + 200 < _
    omega
theorem nodup_inj {α : Type} : ∀ {l : List α} {i j : Nat} {a : α}, l.Nodup → l[i]? = some a → l[j]? = some a → i = j
  | [], i, _, _, _, e, _ => by simp at e
  | x :: l, 0, 0, _, _, _, _ => rfl
  | x :: l, 0, j + 1, a, nd, e1, e2 => by
    simp only [List.getElem?_cons_zero, Option.some.injEq] at e1
    subst e1
    rw [List.getElem?_cons_succ] at e2
    exact absurd (List.mem_of_getElem? e2) (List.nodup_cons.mp nd).1
  | x :: l, i + 1, 0, a, nd, e1, e2 => by
    simp only [List.getElem?_cons_zero, Option.some.injEq] at e2
    subst e2
    rw [List.getElem?_cons_succ] at e1
    exact absurd (List.mem_of_getElem? e1) (List.nodup_cons.mp nd).1
  | x :: l, i + 1, j + 1, a, nd, e1, e2 => by
    rw [List.getElem?_cons_succ] at e1 e2
    rw [nodup_inj (List.nodup_cons.mp nd).2 e1 e2]
section
variable {X : Cx} {pins : List (Addr × Obj)} {σ : L2.St} {H : Hp} {s : Shared}
theorem taken (I : Inv X pins σ H s) {scope : Scope} (free : ∀ y ∈ scope.names, y.2 = .free → ∃ c, X.env.cells.lookup y.1 = some c) {y : Str} {c : Addr} (m : (y, c) ∈ cloFrom X.env.cells scope.names []) :
    (y, NameKind.free) ∈ scope.names ∧ X.env.cells.lookup y = some c ∧ c < s.heap.objs.size := by
  rcases cloFrom_mem m with m | ⟨h1, rfl⟩
  · cases m
  · obtain ⟨c, hc⟩ := free _ h1 rfl
    obtain ⟨v, z⟩ := I.cell _ _ hc
    rw [hc]
    exact ⟨h1, rfl, z.lt⟩
theorem gen_start {scope : Scope} {own : List (Str × Nat)} {fp : List Addr} {env : Env} {code it : Value} {h' : Heap} {go : Obj} {gs : GenState} {tk : Nat} (hc : X.calm = true) (hN : X.N.Nodup)
    (I : Inv X pins σ H s) (ok : BlkOk X.N X.env.scope scope own) (nocell : ∀ y ∈ scope.names, y.2 ≠ .cell) (eEnv : env = genEnv scope (cloFrom X.env.cells scope.names []) s.heap.objs.size code builtinsNs X.env)
    (hfp : ∀ b ∈ fp, FpOk X pins H b ∧ b < s.heap.objs.size) (hn : h'.Ns s.heap.objs.size (fun y => if y = ".0" then some it else none)) (hs : Heap.SameBut s.heap.objs.size (s.heap.push { cls := .type "frame", data := .dict #[] }) h')
    (hg : gs.bare = true) (hgo : ∀ v, go.data ≠ .cell v) (hgf : go.isFreed = false) :
    Inv (genC X env s H fp) [(h'.objs.size, go)] (wipe σ (own.map (·.2))) H { s with gens := s.gens.push gs, toks := tk, heap := h'.push go } := by
  have free : ∀ y ∈ scope.names, y.2 = .free → ∃ c, X.env.cells.lookup y.1 = some c := fun y hy e => (ok.free y hy e).elim (fun k => I.ok.has _ (.inl k)) (fun k => I.ok.has _ (.inr k))
  have eL : env.locals = s.heap.objs.size := by rw [eEnv]; rfl
  have eC : env.cells = cloFrom X.env.cells scope.names [] := by rw [eEnv]; rfl
  have eS : env.scope = scope := by rw [eEnv]; rfl
  have eF : env.frame = some env.locals := by rw [eEnv]; rfl
  have sz : h'.objs.size = s.heap.objs.size + 1 := by rw [hs.1, Heap.size_push]
  have kp : ∀ b o, s.heap.get? b = some o → (h'.push go).get? b = some o := fun b o e =>
    Heap.get?_push_of_some _ (hs.extBut b o (Nat.ne_of_lt (Heap.lt_size e)) (Heap.get?_push_of_some _ e))
  have cm : ∀ {y c}, env.cells.lookup y = some c → (y, NameKind.free) ∈ scope.names ∧ X.env.cells.lookup y = some c ∧ c < s.heap.objs.size := fun {y c} e => by
    rw [eC] at e
    exact taken I free (PySem.mem_of_lookup e)
  have look : ∀ {y}, (y, NameKind.free) ∈ scope.names → ∃ c, env.cells.lookup y = some c ∧ X.env.cells.lookup y = some c := fun {y} m => by
    obtain ⟨c', e'⟩ := mem_lookup (cloFrom_has (cells := X.env.cells) (acc := []) m)
    rw [← eC] at e'
    exact ⟨c', e', (cm e').2.1⟩
  have kinds : ∀ {y k}, env.kindOf y = some k → (y, k) ∈ scope.names := fun {y k} e => by
    unfold Env.kindOf at e
    rw [eS] at e
    exact PySem.mem_of_lookup e
  have okG : (genC X env s H fp).Ok := by
    refine ⟨I.ok.mod, ?_, ?_, ?_, ?_, ?_, ?_, ?_, ?_, ?_, ?_, ?_, I.bs, Nat.le_trans I.ok.bsz I.sz, ?_, ?_, I.stack, I.stkFree⟩
    · show env.scope.kind = _
      rw [eS]; exact ok.kind
    · show env.globals = _
      rw [eEnv]; exact I.ok.glob
    · show env.builtins = _
      rw [eEnv]; rfl
    · show s.heap.objs.size ≤ env.locals
      rw [eL]; exact Nat.le_refl _
    · intro y z c e1 e2
      exact I.ok.inj y z c (cm e1).2.1 (cm e2).2.1
    · intro y hy
      rcases hy with hy | hy
      · exact absurd rfl (nocell _ (kinds hy))
      · obtain ⟨c, e, _⟩ := look (kinds hy)
        exact ⟨c, e⟩
    · intro y c z
      exact absurd (show (false : Bool) = true from z) (by decide)
    · intro _
      exact I.ok.hd hc
    · exact Around.frames_deeper (show X.A.in1.in1.frames = some X.stack from I.ok.frames)
    · exact .inr ⟨rfl, eF⟩
    · intro b hb
      refine ⟨?_, fun y c e z => (hfp b hb).1.2.2.2.2.1 y c (cm e).2.1 z⟩
      show b ≠ env.locals
      rw [eL]
      exact Nat.ne_of_lt (hfp b hb).2
    · intro b o e hb
      rcases (hfp b hb).1.2.2.2.1 with z | z
      · exact I.ok.noex b o e z
      · exact absurd (Nat.lt_of_lt_of_le (Heap.lt_size e) (Nat.le_trans I.ok.bsz z)) (Nat.lt_irrefl _)
    · intro b hb z
      rcases List.mem_cons.mp (I.stkSub b z) with z | z
      · exact (hfp b hb).1.2.1 z
      · exact (hfp b hb).1.2.2.1 z
  refine ⟨okG, rfl, I.bare.push hg, Un.kept kp, ⟨fun y => if y = ".0" then some it else none, ?_, fun i y v e1 e2 e3 => ?_⟩, fun y c e => ?_, ?_, fun y c e => ?_, fun p hp => ?_, I.hok.kept kp, by rw [wipe_length]; exact I.len⟩
  · show (h'.push go).Ns env.locals _
    rw [eL]
    exact hn.push _
  · obtain ⟨e2, hne⟩ := wipe_some e2
    have notown : y ∉ own.map (·.1) := fun z => by
      obtain ⟨p, hp, ep⟩ := List.mem_map.mp z
      have ix := ok.ix p hp
      rw [ep] at ix
      have : p.2 = i := nodup_inj hN ix (show X.N[i]? = some y from e1)
      exact hne (List.mem_map.mpr ⟨p, hp, this⟩)
    have e3 : Vis scope y := by
      have z : Vis env.scope y := e3
      rw [eS] at z
      exact z
    have yN : y ∈ X.N := List.mem_of_getElem? (show X.N[i]? = some y from e1)
    have fr : (y, NameKind.free) ∈ scope.names := by
      rcases e3 with z | z | z
      · exact ((ok.own _ (PySem.mem_of_lookup z) (.inl rfl)).elim (fun q => absurd q notown) (fun q => absurd yN q))
      · exact absurd rfl (nocell _ (PySem.mem_of_lookup z))
      · exact PySem.mem_of_lookup z
    obtain ⟨c, l1, l2⟩ := look fr
    have vis : X.env.scope.names.lookup y = some .cell ∨ X.env.scope.names.lookup y = some .free := ok.free _ fr rfl
    obtain ⟨m, _, lc⟩ := I.loc
    obtain ⟨u, ru, lk⟩ := lc i y v e1 e2 (.inr vis)
    rcases lk with ⟨z, _⟩ | ⟨_, c2, z1, z2⟩
    · have z : X.env.scope.names.lookup y = some .local := z
      rcases vis with q | q <;> (rw [z] at q; cases q)
    · rw [l2] at z1
      cases z1
      refine ⟨u, ru, .inr ⟨.inr ?_, c, l1, z2.keeps kp⟩⟩
      show env.kindOf y = some .free
      unfold Env.kindOf
      rw [eS]
      exact ok.uniq _ fr
  · obtain ⟨v, z⟩ := I.cell y c (cm e).2.1
    exact ⟨v, z.keeps kp⟩
  · show H env.locals = none
    rw [eL]
    exact I.hok.fresh (Nat.le_refl _)
  · exact I.freeC y c (cm e).2.1
  · have hp : p = (h'.objs.size, go) := by simpa using hp
    subst hp
    refine ⟨Heap.get?_push_size _ hgf, I.hok.fresh (by omega), ?_, fun z => ?_, hgo⟩
    · show h'.objs.size ≠ env.locals
      rw [eL]
      omega
    · have z : h'.objs.size ∈ frs X.stack := z
      have big : s.heap.objs.size ≤ h'.objs.size := by omega
      rcases List.mem_cons.mp (I.stkSub _ z) with q | q
      · have := I.lt
        rw [← q] at this
        exact Nat.lt_irrefl _ (Nat.lt_of_lt_of_le this big)
      · exact I.nofs big q
end
end IndG
set_option Elab.async false
set_option linter.all false
set_option maxRecDepth 100000
set_option maxHeartbeats 4000000
namespace IndG
open PySem PySem.Spec PyProof.Rows L2 GenW
section
variable {X : Cx} {pins : List (Addr × Obj)} {σ : L2.St} {H0 : Hp} {s0 : Shared} {env : Env} {fp : List Addr} {a it : Addr} {go : Obj} {own : List (Str × Nat)} {target elt iter : Expr} {scope : Scope} {pos : Pos} {J : It} {tn : Nat → Heap → Prop} {n : Nat} {tr : Nat → Bool} {Pv : Nat → Hp → Prop} {g : TG} {te : TE}
def GV (X : Cx) (σ : L2.St) (H0 : Hp) (s0 : Shared) (env : Env) (fp : List Addr) (a : Addr) (go : Obj) (own : List (Str × Nat)) (tn : Nat → Heap → Prop) (Pv : Nat → Hp → Prop) (j : Nat) (s : Shared) : Prop :=
  ∃ H, Inv (genC X env s0 H0 fp) [(a, go)] (wipe σ (own.map (·.2))) H s ∧ tn j s.heap ∧ (∀ b ∈ fp, H b = none) ∧ Pv j H
def GF (X : Cx) (σ : L2.St) (H0 : Hp) (s0 : Shared) (env : Env) (fp : List Addr) (a : Addr) (go : Obj) (own : List (Str × Nat)) (Pv : Nat → Hp → Prop) (n : Nat) (s : Shared) : Prop :=
  ∃ H, Inv (genC X env s0 H0 fp) [(a, go)] (wipe σ (own.map (·.2))) H s ∧ Pv n H
theorem inv_still {Y : Cx} {pins : List (Addr × Obj)} {σ : L2.St} {H : Hp} {s : Shared} {g' : Array GenState} {t : Nat} (I : Inv Y pins σ H s) (b : ∀ y ∈ g', y.bare = true) : Inv Y pins σ H { s with gens := g', toks := t } :=
  ⟨I.ok, I.os, b, I.base, I.loc, I.cell, I.free, I.freeC, I.pin, I.hok, I.len⟩
theorem gen_stage (T : Turn X.prog X.w X.K target J fp it tn) (apart : ∀ b ∈ fp, a ≠ b)
    (hg : PG (genC X env s0 H0 fp) target g) (he : PE (genC X env s0 H0 fp) elt te)
    (turn : ∀ j H, j < n → Pv j H → J.go j H ∧ ∀ x H', J.yld j H x H' → g x (wipe σ (own.map (·.2))) H' fun σ2 H2 => wipe σ2 (own.map (·.2)) = wipe σ (own.map (·.2)) ∧ te σ2 H2 fun y H3 => y = .bl (tr j) ∧ Pv (j + 1) H3)
    (stop : ∀ H, Pv n H → J.stop n H) :
    Stage X.prog X.w (X.A.in1.in1.deeper env) env target elt it n tr (GV X σ H0 s0 env fp a go own tn Pv) (GF X σ H0 s0 env fp a go own Pv n) := by
  have ok : ∀ {σ' : L2.St} {H' : Hp} {s' : Shared}, Inv (genC X env s0 H0 fp) [(a, go)] σ' H' s' → (∀ b ∈ fp, H' b = none) → ∀ b ∈ fp, FpOk (genC X env s0 H0 fp) [(a, go)] H' b := fun {σ' H' s'} I' hn b hb =>
    ⟨hn b hb, (I'.ok.exf b hb).1, I'.ok.exfs b hb, .inl hb, fun x c e => (I'.ok.exf b hb).2 x c e, fun p hp => by
      have hp : p = (a, go) := by simpa using hp
      subst hp
      exact apart b hb⟩
  refine ⟨?_, ?_, ?_, ?_⟩
  · rintro j s g' t ⟨H, I, st, no, pv⟩ b
    exact ⟨H, inv_still I b, st, no, pv⟩
  · rintro j s ⟨H, I, _⟩
    exact I.bare
  · rintro j s E hj ⟨H, I, st, no, pv⟩
    obtain ⟨go', yl⟩ := turn j H hj pv
    refine wpAny_mono (T.item (genC X env s0 H0 fp) rfl rfl rfl rfl j [(a, go)] s _ H E I (ok I no) st go') (fun r s1 h1 => ?_) fun _ _ x => x
    obtain ⟨u, er, h1⟩ := h1
    refine ⟨u, er, wpAny_mono h1 (fun _ s2 h2 => ?_) fun _ _ x => x⟩
    obtain ⟨x, H2, I2, r2, y2, st2, no2⟩ := h2
    have I2p := I2.pinned (ok I2 no2) (T.obj _ _ st2)
    refine thnF (hg.run _ s2 _ H2 x u _ I2p r2 (yl x H2 y2)) fun _ s3 h3 => ?_
    obtain ⟨σ3, H3, I3, w3, q3⟩ := h3
    refine thnF (he.run _ s3 σ3 H3 _ I3 q3) fun y s4 h4 => ?_
    obtain ⟨v, H4, I4, r4, ev, pv4⟩ := h4
    subst ev
    have ey : y = Value.bool (tr j) := r4
    have pin : ∀ b ∈ fp, ∀ o, s2.heap.get? b = some o → s4.heap.get? b = some o ∧ H4 b = none := fun b hb o e => by
      have z := I4.pin (b, o) (List.mem_append_right _ (List.mem_append_right _ (mem_pinsAt hb e)))
      exact ⟨z.1, z.2.1⟩
    have ln : (wipe σ (own.map (·.2))).length = σ3.length := by rw [← w3, wipe_length]
    refine ⟨ey, H4, (I4.unpinned (pins := [(a, go)])).weak ln (fun i v e => ?_), T.keep _ _ _ st2 (fun b hb o e => (pin b hb o e).1), fun b hb => ?_, pv4⟩
    · rw [← w3] at e
      exact (wipe_some e).1
    · obtain ⟨o, e, _⟩ := T.obj _ _ st2 b hb
      exact (pin b hb o e).2
  · rintro s E ⟨H, I, st, no, pv⟩
    refine wpAny_mono (T.done (genC X env s0 H0 fp) rfl rfl rfl rfl n [(a, go)] s _ H E I (ok I no) st (stop H pv)) (fun r s1 h1 => ?_) fun _ _ x => x
    exact ⟨h1.1, H, h1.2, pv⟩
theorem gen_left {σ0 : L2.St} (I0 : Inv X pins σ0 H0 s0) (hfp : ∀ b ∈ fp, FpOk X pins H0 b) {s : Shared} (h : Left (GV X σ H0 s0 env fp a go own tn Pv) (GF X σ H0 s0 env fp a go own Pv n) s) : ∃ j H, Pv j H ∧ Inv X pins σ0 H s := by
  have back : ∀ {H : Hp} {z : Shared}, Inv (genC X env s0 H0 fp) [(a, go)] (wipe σ (own.map (·.2))) H z → Inv X pins σ0 H z := fun {H z} I =>
    I0.call' (ch := fp) I.os I.base I.hok I.bare fun b hb => ⟨(hfp b hb).2.2.2.1, (hfp b hb).2.1, (hfp b hb).2.2.2.2.1, (hfp b hb).2.2.2.2.2⟩
  rcases h with ⟨j, H, I, _, _, pv⟩ | ⟨s1, g', h', ⟨H, I, pv⟩, rfl, b, k⟩
  · exact ⟨j, H, pv, back I⟩
  · refine ⟨n, H, pv, ?_⟩
    have I1 := (back I).kept (t' := s1.toks) k
    exact inv_still (g' := g') (t := s1.toks) I1 b
end
end IndG
set_option Elab.async false
set_option linter.all false
set_option maxRecDepth 100000
set_option maxHeartbeats 4000000
namespace IndG
open PySem PySem.Spec PyProof.Rows L2 GenW GxR
section
variable {X : Cx} {pins : List (Addr × Obj)} {σ : L2.St} {H : Hp} {s : Shared} {own : List (Str × Nat)} {target elt iter : Expr} {scope : Scope} {pos gpos : Pos} {g : TG} {te : TE} {wi : TI} {c P : Addr}
def genR (P : Addr) (wi : TI) (g : TG) (te : TE) (vs : List Nat) (ans : List Nat → (Nat → Bool) → Bool) : TE := fun σ H Q => wi σ H fun J H1 => TabG H1 P ∧ ∀ H2, Tabbed P H1 H2 →
  ∃ (n : Nat) (tr : Nat → Bool) (Pv : Nat → Hp → Prop), Pv 0 H2 ∧ (∀ j H3, j < n → Pv j H3 → J.go j H3 ∧ ∀ x H4, J.yld j H3 x H4 → g x (wipe σ vs) H4 fun σ2 H5 => wipe σ2 vs = wipe σ vs ∧ te σ2 H5 fun y H6 => y = .bl (tr j) ∧ Pv (j + 1) H6) ∧
    (∀ H3, Pv n H3 → J.stop n H3) ∧ ∀ j H3, Pv j H3 → Q (.bl (ans (List.range n) tr)) H3
theorem gen_made {k : Nat} {Q' : Value → Shared → Prop} {R : It → Hp → Prop} (hc : X.calm = true) (hN : X.N.Nodup) (hr : Room k X.A) (TB : TabB X.base X.mg c P) (hcode : X.env.code = .ref c) (ok : BlkOk X.N X.env.scope scope own)
    (nocell : ∀ y ∈ scope.names, y.2 ≠ .cell) (dot : scope.names.lookup (".0" : Str) = some NameKind.local) (hco : scope.isCoroutine = false) (hi : PI X target iter wi) (hs : ∀ v, genFold iter X.env v = pure v)
    (I : Inv X pins σ H s) (h : wi σ H fun J H1 => TabG H1 P ∧ ∀ H2, Tabbed P H1 H2 → R J H2)
    (hQ : ∀ (it : Addr) (fp : List Addr) (tn : Nat → Heap → Prop) (J : It) (H2 : Hp) (s4 : Shared) (code : Value) (a : Addr) (go : Obj) (s5 : Shared), R J H2 → Inv X pins σ H2 s4 → Turn X.prog X.w X.K target J fp it tn → (∀ b ∈ fp, FpOk X pins H2 b) → (∀ b ∈ fp, a ≠ b) →
      Inv (genC X (genEnv scope (cloFrom X.env.cells scope.names []) s4.heap.objs.size code builtinsNs X.env) s4 H2 fp) [(a, go)] (wipe σ (own.map (·.2))) H2 s5 → tn 0 s5.heap → (∀ b ∈ fp, H2 b = none) → s5.heap.IsGen a s4.gens.size → s5.gens[s4.gens.size]? = some (.fresh (.compStart (gx elt target iter scope gpos) 0 (.ref it) .none (genEnv scope (cloFrom X.env.cells scope.names []) s4.heap.objs.size code builtinsNs X.env))) →
      (∀ h : Heap, h.get? a = some go → h.IsGen a s4.gens.size) → Q' (.ref a) s5) :
    wpAny (model X.prog X.w) X.A (eval (gx elt target iter scope gpos) X.env) Q' X.xe s := by
  have free : ∀ y ∈ scope.names, y.2 = .free → ∃ c, X.env.cells.lookup y.1 = some c := fun y hy e => (ok.free y hy e).elim (fun k => I.ok.has _ (.inl k)) (fun k => I.ok.has _ (.inr k))
  refine wpAny_GeneratorExp_make hco (closure_ok free) nocell dot ok.kind (by have := hr.dp; omega) ?_ hs
  refine thn (hi.run pins s σ H _ I h) fun xv s1 h1 => thn h1 fun itv s2 h2 => ?_
  obtain ⟨it, fp, tn, J, H1, rfl, I2, T, st, fpk, ⟨ps, hP, ht⟩, q⟩ := h2
  have hPs : s2.heap.get? P = some { cls := .none, data := .fields ps } := I2.hok P _ hP
  have cd : PySem.W.CodeHd s2.heap c P := TB.code.keeps fun b u e => I2.bk b u e
  have nP : ∀ b ∈ fp, b ≠ P := fun b hb z => by
    have := (fpk b hb).1
    rw [z, hP] at this
    cases this
  obtain ⟨bm, ob, e1, e2, e3, e4, e5, e6, e7, e8⟩ := TB.bm
  have hcP : cStatics ≠ P := fun e => by
    obtain ⟨_, hns, _⟩ := I2.nolimit
    obtain ⟨o', es, ep, ho, hd, _⟩ := hns
    rw [e, hPs] at ho
    cases ho
    cases hd
  have cont : ∀ (code : Value) (h3 : Heap) (tk : Nat) (ps' : Array Value), Heap.ExtBut P s2.heap h3 → h3.get? P = some { cls := .none, data := .fields ps' } → (∃ more, ps' = ps ++ more) → TriplesOk ps'.toList →
      wpAny (model X.prog X.w) X.A (builtinsFor X.env.globals X.env.builtins) (fun bi s₄ => ∀ h', h'.Ns s₄.heap.objs.size (fun y => if y = ".0" then some (.ref it) else none) → Heap.SameBut s₄.heap.objs.size (s₄.heap.push { cls := .type "frame", data := .dict #[] }) h' →
        Q' (.ref h'.objs.size) { s₄ with
          gens := s₄.gens.push (.fresh (.compStart (gx elt target iter scope gpos) 0 (.ref it) .none (genEnv scope (cloFrom X.env.cells scope.names []) s₄.heap.objs.size code bi X.env))),
          toks := s₄.toks + 1 + 1 + 1,
          heap := h'.push { cls := .type "generator", data := .fields #[.int s₄.gens.size 0, .str "<genexpr>" (s₄.toks + 1), .str (X.env.qual ++ "<genexpr>") (s₄.toks + 1 + 1)] } }) X.xe { s2 with heap := h3, toks := tk } := by
    intro code h3 tk ps' hx hP3 hmore ht3
    obtain ⟨more, em⟩ := hmore
    have keep3 : ∀ b u, b ≠ P → s2.heap.get? b = some u → h3.get? b = some u := fun b u hb e => hx b u hb e
    refine wpAny_builtinsFor (m := X.mg) (by rw [I2.ok.glob]; exact (I2.mod.glob.keeps I2.bk).extBut hx TB.gP) e1 e2 (keep3 _ _ e4 (I2.bk _ _ e5)) e6 e7 e8 ?_
    intro h' hn' hs'
    have I3 : Inv X pins σ (upd H1 P (.tbl (ps ++ more))) { s2 with heap := h3, toks := tk } := inv_tab (more := more) (g' := s2.gens) (d' := s2.drawn) (t' := tk) I2 hP (fun b o hb e => keep3 b o hb e) (by rw [← em]; exact hP3) I2.bare
    have tabd : Tabbed P H1 (upd H1 P (.tbl (ps ++ more))) := ⟨⟨ps ++ more, upd_same, by rw [← em]; exact ht3⟩, fun b hb => upd_ne hb⟩
    have fpk3 : ∀ b ∈ fp, FpOk X pins (upd H1 P (.tbl (ps ++ more))) b := fun b hb => ⟨by rw [upd_ne (nP b hb)]; exact (fpk b hb).1, (fpk b hb).2⟩
    have st3 : tn 0 h3 := T.keep _ _ _ st fun b hb o e => keep3 b o (nP b hb) e
    have sz3 : ∀ b ∈ fp, b < h3.objs.size := fun b hb => by
      obtain ⟨o, e, _⟩ := T.obj _ _ st3 b hb
      exact Heap.lt_size e
    have szh : h'.objs.size = h3.objs.size + 1 := by rw [hs'.1, Heap.size_push]
    have ext : ∀ (go : Obj) b o, h3.get? b = some o → (h'.push go).get? b = some o := fun go b o e => Heap.get?_push_of_some _ (hs'.extBut b o (Nat.ne_of_lt (Heap.lt_size e)) (Heap.get?_push_of_some _ e))
    refine hQ it fp tn J _ _ code _ _ _ (q _ tabd) I3 T fpk3 (fun b hb z => ?_) (gen_start (code := code) (it := .ref it) hc hN I3 ok nocell rfl (fun b hb => ⟨fpk3 b hb, sz3 b hb⟩) hn' hs' rfl (fun v e => by cases e) rfl)
      (T.keep _ _ _ st3 fun b hb o e => ext _ b o e) (fun b hb => (fpk3 b hb).1) ⟨_, _, _, Heap.get?_push_size _ rfl, rfl, rfl, rfl⟩ (Array.getElem?_push_size ..) (fun hh e => ⟨_, _, _, e, rfl, rfl, rfl⟩)
    have := sz3 b hb
    have z : h'.objs.size = b := z
    have e9 : (h'.objs.size : Nat) = b := z
    rw [szh] at e9
    exact absurd this (by rw [← e9]; exact Nat.not_lt.mpr (Nat.le_succ _))
  refine ⟨I2.nolimit, ?_⟩
  cases hf : codeAmong gpos ps.toList with
  | some cv =>
    refine wpAny_genexprCode_hit hcode (cd.code hPs ht) hf ?_
    exact cont cv s2.heap s2.toks ps (Heap.ExtBut.refl _ _) hPs ⟨#[], by simp⟩ ht
  | none =>
    refine wpAny_genexprCodeX hcode (cd.code hPs ht) (cd.tab hPs) hf fun c' h' tk hx hge hlt isc' _ tab' _ => ?_
    obtain ⟨z1, z2, z3, z4, z5, z6, z7, z8, z9, z10, _, _, _, _, _, _, _, _, _, ztr, _⟩ := isc'
    exact cont _ h' tk _ hx tab'.2 ⟨_, rfl⟩ ztr
end
end IndG
set_option Elab.async false
set_option linter.all false
set_option maxRecDepth 100000
set_option maxHeartbeats 4000000
namespace IndG
open PySem PySem.Spec PyProof.Rows L2 GenW GxR
section
variable {X : Cx} {own : List (Str × Nat)} {target elt iter : Expr} {scope : Scope} {p pos gpos : Pos} {g : TG} {te : TE} {wi : TI} {c P : Addr} {k : Nat}
theorem gen_call {b : String} {ans : List Nat → (Nat → Bool) → Bool} {pins : List (Addr × Obj)} {σ : L2.St} {H : Hp} {s : Shared} {Q : VK} (hc : X.calm = true) (hN : X.N.Nodup) (hr : Room k X.A) (TB : TabB X.base X.mg c P) (hcode : X.env.code = .ref c) (ok : BlkOk X.N X.env.scope scope own)
    (nocell : ∀ y ∈ scope.names, y.2 ≠ .cell) (dot : scope.names.lookup (".0" : Str) = some NameKind.local) (hco : scope.isCoroutine = false) (hi : PI X target iter wi) (hs : ∀ v, genFold iter X.env v = pure v)
    (pg : ∀ (s : Shared) (H : Hp) (C : Addr) (cl : List (Str × Addr)) (code : Value) (fp : List Addr), PG (genC X (genEnv scope cl C code builtinsNs X.env) s H fp) target g)
    (pe : ∀ (s : Shared) (H : Hp) (C : Addr) (cl : List (Str × Addr)) (code : Value) (fp : List Addr), PE (genC X (genEnv scope cl C code builtinsNs X.env) s H fp) elt te)
    (I : Inv X pins σ H s) (h : genR P wi g te (own.map (·.2)) ans σ H Q)
    (run : ∀ {a : Addr} {gi n : Nat} {tr : Nat → Bool} {V : Nat → Shared → Prop} {F : Shared → Prop} (still : ∀ j s g' t, V j s → (∀ y ∈ g', y.bare = true) → V j { s with gens := g', toks := t }) (bare : ∀ j s, V j s → ∀ y ∈ s.gens, y.bare = true) (K : Held a gi V F) {s : Shared} {Q : Value → Shared → Prop} {E : Value → Shared → Prop},
      Asleep X.prog X.w X.A.in1 gi n tr V F 0 s → (∀ z, Left V F z → Q (.bool (ans (List.range n) tr)) z) → wpAny (MM X.prog X.w) X.A (call (.builtin b) [.ref a]) Q E s) :
    wpAny (model X.prog X.w) X.A (eval (gx elt target iter scope gpos) X.env) (fun v s1 => wpAny (model X.prog X.w) X.A (call (.builtin b) [v]) (EP X pins σ Q) X.xe s1) X.xe s := by
  refine gen_made (R := fun J H2 => ∃ (n : Nat) (tr : Nat → Bool) (Pv : Nat → Hp → Prop), Pv 0 H2 ∧ (∀ j H3, j < n → Pv j H3 → J.go j H3 ∧ ∀ x H4, J.yld j H3 x H4 → g x (wipe σ (own.map (·.2))) H4 fun σ2 H5 => wipe σ2 (own.map (·.2)) = wipe σ (own.map (·.2)) ∧ te σ2 H5 fun y H6 => y = .bl (tr j) ∧ Pv (j + 1) H6) ∧
    (∀ H3, Pv n H3 → J.stop n H3) ∧ ∀ j H3, Pv j H3 → Q (.bl (ans (List.range n) tr)) H3) hc hN hr TB hcode ok nocell dot hco hi hs I h ?_
  intro it fp tn J H2 s4 code a go s5 hR I4 T fpk apart I5 st5 no5 gen5 gs5 isg
  obtain ⟨n, tr, Pv, pv0, turn, stop, fin'⟩ := hR
  have St := gen_stage (s0 := s4) (H0 := H2) (env := genEnv scope (cloFrom X.env.cells scope.names []) s4.heap.objs.size code builtinsNs X.env) (go := go) (σ := σ) (own := own) (n := n) (tr := tr) (Pv := Pv) T apart (pg _ _ _ _ _ _) (pe _ _ _ _ _ _) turn stop
  have V0 : GV X σ H2 s4 (genEnv scope (cloFrom X.env.cells scope.names []) s4.heap.objs.size code builtinsNs X.env) fp a go own tn Pv 0 s5 := ⟨H2, I5, st5, no5, pv0⟩
  have K : Held a s4.gens.size (GV X σ H2 s4 (genEnv scope (cloFrom X.env.cells scope.names []) s4.heap.objs.size code builtinsNs X.env) fp a go own tn Pv) (GF X σ H2 s4 (genEnv scope (cloFrom X.env.cells scope.names []) s4.heap.objs.size code builtinsNs X.env) fp a go own Pv n) := by
    refine ⟨?_, ?_⟩
    · rintro j z ⟨H3, I3, _⟩
      exact ⟨isg _ (I3.pin (a, go) (by simp)).1, I3.nolimit⟩
    · rintro z ⟨H3, I3, _⟩
      exact I3.bare
  have wk := fun z hz => wakes (prog := X.prog) (w := X.w) (A := X.A.in1.in1) (iter := iter) (scope := scope) (pos := gpos) (by rw [over_gen]; exact St) hco (by rw [over_gen, over_gen0]) (fun s Q E hV hQ => by
    obtain ⟨H3, I3, st3, _⟩ := hV
    exact T.self _ 0 s Q E st3 hQ) z z hz (Nat.le_refl _)
  refine run (n := n) (tr := tr) St.still St.bare K ⟨V0, _, gs5, fun z hz => ⟨rfl, ?_⟩⟩ fun z hz => ?_
  · rw [Nat.sub_zero]
    exact wk z hz
  · obtain ⟨j, H3, pv, I3⟩ := gen_left I4 fpk hz
    exact ⟨.bl _, H3, I3, rfl, fin' j H3 pv⟩
theorem pe_allG (hc : X.calm = true) (hN : X.N.Nodup) (hr : Room k X.A) (TB : TabB X.base X.mg c P) (hcode : X.env.code = .ref c) (hg : Gl X "all") (hm : X.mg "all" = none) (hb : bootBuiltins "all" = some (.builtin "all")) (ok : BlkOk X.N X.env.scope scope own)
    (nocell : ∀ y ∈ scope.names, y.2 ≠ .cell) (dot : scope.names.lookup (".0" : Str) = some NameKind.local) (hco : scope.isCoroutine = false) (hi : PI X target iter wi) (hs : ∀ v, genFold iter X.env v = pure v)
    (pg : ∀ (s : Shared) (H : Hp) (C : Addr) (cl : List (Str × Addr)) (code : Value) (fp : List Addr), PG (genC X (genEnv scope cl C code builtinsNs X.env) s H fp) target g)
    (pe : ∀ (s : Shared) (H : Hp) (C : Addr) (cl : List (Str × Addr)) (code : Value) (fp : List Addr), PE (genC X (genEnv scope cl C code builtinsNs X.env) s H fp) elt te)
    (he : starEach [gx elt target iter scope gpos] X.env = (false, eval (gx elt target iter scope gpos) X.env) :: starEach [] X.env := by rfl) :
    PE X (.Call (.Name "all" p) [gx elt target iter scope gpos] [] pos) (genR P wi g te (own.map (·.2)) List.all) := by
  constructor
  intro pins s σ H Q I h
  refine wpAny_Call_Name_kw (ld_blt I hg hm hb ?_)
  refine PyProof.Rows.callWith_builtin1 ?_ he (by rfl)
  rw [he]
  show wpAny _ _ (spliced ((false, eval (gx elt target iter scope gpos) X.env) :: (backTo pos (starEach [] X.env)))) _ _ s
  refine Calls.spliced_cons (thn (gen_call (b := "all") hc hN hr TB hcode ok nocell dot hco hi hs pg pe I h @fun a gi n tr V F still bare K s Q E h1 h2 => call_all still bare K (I.ok.hd hc) (by have := hr.dp; omega) h1 h2) fun v s1 h1 => ?_)
  exact Calls.spliced_nil h1
theorem pe_anyG (hc : X.calm = true) (hN : X.N.Nodup) (hr : Room k X.A) (TB : TabB X.base X.mg c P) (hcode : X.env.code = .ref c) (hg : Gl X "any") (hm : X.mg "any" = none) (hb : bootBuiltins "any" = some (.builtin "any")) (ok : BlkOk X.N X.env.scope scope own)
    (nocell : ∀ y ∈ scope.names, y.2 ≠ .cell) (dot : scope.names.lookup (".0" : Str) = some NameKind.local) (hco : scope.isCoroutine = false) (hi : PI X target iter wi) (hs : ∀ v, genFold iter X.env v = pure v)
    (pg : ∀ (s : Shared) (H : Hp) (C : Addr) (cl : List (Str × Addr)) (code : Value) (fp : List Addr), PG (genC X (genEnv scope cl C code builtinsNs X.env) s H fp) target g)
    (pe : ∀ (s : Shared) (H : Hp) (C : Addr) (cl : List (Str × Addr)) (code : Value) (fp : List Addr), PE (genC X (genEnv scope cl C code builtinsNs X.env) s H fp) elt te)
    (he : starEach [gx elt target iter scope gpos] X.env = (false, eval (gx elt target iter scope gpos) X.env) :: starEach [] X.env := by rfl) :
    PE X (.Call (.Name "any" p) [gx elt target iter scope gpos] [] pos) (genR P wi g te (own.map (·.2)) List.any) := by
  constructor
  intro pins s σ H Q I h
  refine wpAny_Call_Name_kw (ld_blt I hg hm hb ?_)
  refine PyProof.Rows.callWith_builtin1 ?_ he (by rfl)
  rw [he]
  show wpAny _ _ (spliced ((false, eval (gx elt target iter scope gpos) X.env) :: (backTo pos (starEach [] X.env)))) _ _ s
  refine Calls.spliced_cons (thn (gen_call (b := "any") hc hN hr TB hcode ok nocell dot hco hi hs pg pe I h @fun a gi n tr V F still bare K s Q E h1 h2 => call_any still bare K (I.ok.hd hc) (by have := hr.dp; omega) h1 h2) fun v s1 h1 => ?_)
  exact Calls.spliced_nil h1
end
end IndG
set_option Elab.async false
set_option linter.all false
set_option maxRecDepth 100000
set_option maxHeartbeats 4000000
namespace Ind
open PySem PySem.Spec PyProof.Rows L2
theorem small_div {x j : Int} (h : 0 < j) (h2 : j < 1606938044258990275541962092341162602522202993782792835301376) : CDivW x j := by
  refine wide_div (b := 200) h ?_ (by decide) (by decide)
  have e : (2 : Nat) ^ 200 = 1606938044258990275541962092341162602522202993782792835301376 := by decide +kernel
  rw [e]
  omega
theorem codes_app (a y : PySem.Str) : (a ++ y).cps.toList = a.cps.toList ++ y.cps.toList := by
  cases a; cases y
  show (_ ++ _ : Array Nat).toList = _
  simp
theorem codes_len (a : PySem.Str) : a.length = a.cps.toList.length := (Array.length_toList).symm
theorem codes_one (c : Nat) : (⟨#[c]⟩ : PySem.Str).cps.toList = [c] := rfl
def Sgn (c : Nat) : Prop := 32 ≤ c ∧ c ≤ 126 ∧ c ≠ 37
instance (c : Nat) : Decidable (Sgn c) := inferInstanceAs (Decidable (32 ≤ c ∧ c ≤ 126 ∧ c ≠ 37))
def Sgns (x : PySem.Str) : Prop := ∀ c ∈ x.cps.toList, Sgn c
def TxtOk (x : PySem.Str) : Prop := x.length ≤ 20 ∧ Sgns x
theorem Sgns.app {x y : PySem.Str} (a : Sgns x) (b : Sgns y) : Sgns (x ++ y) := fun c h => by
  rw [codes_app] at h
  exact (List.mem_append.mp h).elim (a c) (b c)
theorem Sgns.one {c : Nat} (h : Sgn c) : Sgns ⟨#[c]⟩ := fun d hd => by
  have e : d = c := by simpa [codes_one] using hd
  rw [e]; exact h
theorem len_app (x y : PySem.Str) : (x ++ y).length = x.length + y.length := by
  rw [codes_len, codes_len, codes_len, codes_app, List.length_append]
theorem len_one (c : Nat) : (⟨#[c]⟩ : PySem.Str).length = 1 := rfl
abbrev sgA : PySem.Str := " !\"#$&'()*+,-./0123456789:;<=>?@ABCDEFGHIJKLMNOPQRSTUVWXYZ[\\]^_`"
abbrev sgB : PySem.Str := "abcdefghijklmnopqrstuvwxyz{|}~"
def sg : PySem.Str := sgA ++ sgB
def ValOk : V → Prop
  | .int _ => True
  | .str x => TxtOk x
  | _ => False
theorem ValOk.cases {v : V} (h : ValOk v) : (∃ i, v = .int i) ∨ ∃ x, v = .str x ∧ TxtOk x := by
  cases v with
  | int i => exact .inl ⟨i, rfl⟩
  | str x => exact .inr ⟨x, rfl, h⟩
  | _ => exact h.elim
end Ind
set_option Elab.async false
set_option linter.all false
set_option maxRecDepth 100000
set_option maxHeartbeats 4000000
namespace IndCmp
open PySem PySem.SeqAt Ob
open PySem.AutoSeq1 (wpAny_loadPart')
open PySem.MeetsSeq PySem.MeetsSeq2 PySem.MeetsSeq3
end IndCmp
set_option Elab.async false
set_option linter.all false
set_option maxRecDepth 100000
set_option maxHeartbeats 4000000
namespace Ind
open PySem PySem.Spec PyProof.Rows L2
section
variable {X : Cx}
end
end Ind
set_option Elab.async false
set_option linter.all false
set_option maxRecDepth 100000
set_option maxHeartbeats 4000000
namespace Ind
open PySem PySem.Spec PyProof.Rows L2
theorem qb {Q : VK} {b : Bool} {H : Hp} (e : b = true) (q : ∀ H', Q (.bl true) H') : Q (.bl b) H := by rw [e]; exact q H
end Ind
set_option Elab.async false
set_option linter.all false
set_option maxRecDepth 100000
set_option maxHeartbeats 4000000
namespace Ind
open PySem PySem.Spec PyProof.Rows L2
mutual
def tuplesOnly : PyData → Bool
  | .none => true
  | .bool _ => true
  | .int _ => true
  | .str _ => true
  | .tuple xs => tuplesOnlyAll xs
  | _ => false
def tuplesOnlyAll : List PyData → Bool
  | [] => true
  | x :: xs => tuplesOnly x && tuplesOnlyAll xs
end
structure Kp (H H' : Hp) : Prop where
  tup : ∀ b xs, H b = some (.tup xs) → H' b = some (.tup xs)
  frz : ∀ b o xs, H b = some (.frz o (.tup xs)) → H' b = some (.frz o (.tup xs))
theorem Kp.refl (H : Hp) : Kp H H := ⟨fun _ _ h => h, fun _ _ _ h => h⟩
theorem Kp.trans {H H1 H2 : Hp} (a : Kp H H1) (b : Kp H1 H2) : Kp H H2 := ⟨fun c x h => b.tup c x (a.tup c x h), fun c o x h => b.frz c o x (a.frz c o x h)⟩
theorem Same.kp {H H' : Hp} (s : Same H H') : Kp H H' := ⟨fun c x h => s _ _ h, fun c o x h => s _ _ h⟩
theorem Fz.kp {t : Tp} {H H' : Hp} (s : Fz t.a H H') (T : TapeAt H t) : Kp H H' := by
  obtain ⟨ns, p, n, z, h1, _⟩ := T
  refine ⟨fun c x h => s _ _ ?_ h, fun c o x h => s _ _ ?_ h⟩ <;> (intro e; rw [e, h1] at h; cases h)
theorem Kp.upd {H : Hp} {l : Addr} {xs : List V} {o : HO} (h : H l = some (.lst xs)) : Kp H (upd H l o) := by
  refine ⟨fun c x e => ?_, fun c u x e => ?_⟩ <;> (rw [upd_ne (ne_of e h (by intro z; cases z))]; exact e)
theorem Kp.new {H : Hp} {l : Addr} {o : HO} (h : H l = none) : Kp H (L2.upd H l o) := Same.kp (same_upd h)
theorem Kp.sqT {K : PySem.W.Frag} {H H' : Hp} {a : Addr} {xs : List V} (k : Kp H H') (h : SqT K H a xs) : SqT K H' a xs := by
  rcases h with (h | ⟨o, h⟩) | h
  · exact .inl (.inl (k.tup _ _ h))
  · exact .inl (.inr ⟨o, k.frz _ _ _ h⟩)
  · exact .inr h
mutual
theorem Dp.kp {K : PySem.W.Frag} {H H' : Hp} (k : Kp H H') : ∀ (d : PyData) (v : V), tuplesOnly d = true → Dp K H v d → Dp K H' v d
  | .none, _, _, h => by cases h; exact .non
  | .bool _, _, _, h => by cases h; exact .bl _
  | .int _, _, _, h => by cases h; exact .int _
  | .str _, _, _, h => by cases h; exact .str _
  | .list _, _, t, _ => by simp [tuplesOnly] at t
  | .dict _, _, t, _ => by simp [tuplesOnly] at t
  | .tuple ds, _, t, h => by
    cases h with
    | tup hs ha => exact .tup (k.sqT hs) (DpAll.kp k ds _ (by simpa [tuplesOnly] using t) ha)
theorem DpAll.kp {K : PySem.W.Frag} {H H' : Hp} (k : Kp H H') : ∀ (ds : List PyData) (vs : List V), tuplesOnlyAll ds = true → DpAll K H vs ds → DpAll K H' vs ds
  | [], _, _, h => by cases h; exact .nil
  | d :: ds, _, t, h => by
    cases h with
    | cons h1 h2 =>
      have t' : tuplesOnly d = true ∧ tuplesOnlyAll ds = true := by simpa [tuplesOnlyAll] using t
      exact .cons (Dp.kp k d _ t'.1 h1) (DpAll.kp k ds _ t'.2 h2)
end
end Ind
namespace L2
open PySem PySem.Spec PyProof.Rows
theorem DpAll.len {K : PySem.W.Frag} {H : Hp} : ∀ {ds : List PyData} {vs : List V}, DpAll K H vs ds → vs.length = ds.length
  | [], _, h => by cases h; rfl
  | d :: ds, _, h => by
    cases h with
    | cons _ h2 => rw [List.length_cons, List.length_cons, DpAll.len h2]
theorem DpAll.get {K : PySem.W.Frag} {H : Hp} : ∀ {ds : List PyData} {vs : List V} {i : Nat} {d : PyData}, DpAll K H vs ds → ds[i]? = some d → ∃ v, vs[i]? = some v ∧ Dp K H v d
  | [], _, _, _, _, e => by simp at e
  | d :: ds, _, 0, _, h, e => by
    cases h with
    | cons h1 _ =>
      simp only [List.getElem?_cons_zero, Option.some.injEq] at e
      subst e
      exact ⟨_, rfl, h1⟩
  | d :: ds, _, i + 1, _, h, e => by
    cases h with
    | cons _ h2 =>
      obtain ⟨v, q, r⟩ := DpAll.get h2 (show ds[i]? = some _ by simpa using e)
      exact ⟨v, by simpa using q, r⟩
theorem DpAll.app {K : PySem.W.Frag} {H : Hp} : ∀ {ds es : List PyData} {vs ws : List V}, DpAll K H vs ds → DpAll K H ws es → DpAll K H (vs ++ ws) (ds ++ es)
  | [], _, _, _, h, g => by cases h; exact g
  | d :: ds, _, _, _, h, g => by
    cases h with
    | cons h1 h2 => exact .cons h1 (DpAll.app h2 g)
theorem Dp.tup_inv {K : PySem.W.Frag} {H : Hp} {v : V} {ds : List PyData} (h : Dp K H v (.tuple ds)) : ∃ a xs, v = .ref a ∧ SqT K H a xs ∧ DpAll K H xs ds := by
  cases h with
  | tup hs ha => exact ⟨_, _, rfl, hs, ha⟩
theorem Dp.str_inv {K : PySem.W.Frag} {H : Hp} {v : V} {x : PySem.Str} (h : Dp K H v (.str x)) : v = .str x := by cases h; rfl
theorem Dp.int_inv {K : PySem.W.Frag} {H : Hp} {v : V} {x : Int} (h : Dp K H v (.int x)) : v = .int x := by cases h; rfl
end L2
namespace Ind
open PySem PySem.Spec PyProof.Rows L2
section
variable {X : Cx}
theorem call_tupleZ : CallR X (.type "tuple") (fun xs H Q => ∃ p ys, xs = [.ref p] ∧ SqL X.K H p ys ∧ ∀ l o, H l = none → o.dict = none → Q (.ref l) (upd H l (.frz o (.tup ys)))) := by
  intro pins s σ H xs us Q I r h
  obtain ⟨p, ys, rfl, hq, q⟩ := h
  obtain ⟨u, rfl, rx⟩ := vals1 r
  cases rx
  obtain ⟨its, rv, pl, small⟩ := I.list hq
  have same := rv.length
  apply call_tuple_list pl.isList
  · intro h' kp
    have I1 : Inv X pins σ H { s with heap := h' } := I.kept (t' := s.toks) kp
    let o : Obj := { cls := .type "tuple", data := .seq its.toArray }
    have at_ : (h'.push o).get? h'.objs.size = some o := Heap.get?_push_size _ rfl
    have I2 : Inv X pins σ (upd H h'.objs.size (.frz o (.tup ys))) { s with heap := h'.push o } := by
      apply I1.laid (t' := s.toks) (fun b ob e => Heap.get?_push_of_some _ e) (Nat.le_refl _)
      exact ⟨at_, small, its, rv, IsTup.new _ _⟩
    exact ⟨.ref h'.objs.size, _, I2, rfl, q _ o (I1.hok.fresh (Nat.le_refl _)) rfl⟩
def rTIndex (K : PySem.W.Frag) : V → List V → Hp → VK → Prop := fun x xs H Q => ∃ (a : Addr) (ys : List PySem.Str) (y : PySem.Str), x = .ref a ∧ xs = [.str y] ∧ SqT K H a (ys.map V.str) ∧ y ∈ ys ∧ Q (.int (ys.idxOf y : Nat)) H
theorem mt_tindex : MtR X "tuple.index" (rTIndex X.K) := by
  intro pins s σ H x xs v us Q I rx rxs h
  obtain ⟨a, ys, y, rfl, rfl, hs, hy, q⟩ := h
  cases rx
  obtain ⟨u, rfl, ru⟩ := vals1 rxs
  obtain ⟨t, rfl⟩ := (show ∃ t, u = Value.str y t from ru)
  obtain ⟨its, rv, pl, _⟩ := I.tuple hs
  have sa := Vals.strs rv
  exact SeqAt.call_tuple_index pl (SeqAt.ItemsEq.strs sa) hy ⟨.int _, H, I.tok _, ⟨_, rfl⟩, q⟩
end
end Ind
set_option Elab.async false
set_option linter.all false
set_option maxRecDepth 100000
set_option maxHeartbeats 4000000
namespace IndEnd
open PySem PySem.Spec PyProof.Rows L2
end IndEnd
set_option Elab.async false
set_option linter.all false
set_option maxRecDepth 100000
set_option maxHeartbeats 4000000
namespace Ind
open PySem PySem.Spec PyProof.Rows L2
abbrev S := PySem.Str
inductive Op where
  | col (n : S)
  | num (i : Int)
  | txt (x : S)
def Op.d : Op → PyData
  | .col n => .tuple [.str "column", .str n]
  | .num i => .tuple [.str "integer", .int i]
  | .txt x => .tuple [.str "string", .str x]
abbrev Kd := Option Int
def kdD : Kd → PyData
  | none => .tuple [.str "string"]
  | some b => .tuple [.str "integer", .int b]
abbrev Col := S × Kd
def colD (c : Col) : PyData := .tuple [.str c.1, kdD c.2]
structure Tm where
  plus : Bool
  op : Op
def sgS : Bool → S
  | true => "+"
  | false => "-"
def Tm.d (t : Tm) : PyData := .tuple [.str (sgS t.plus), t.op.d]
def exD (ts : List Tm) : PyData := .tuple (ts.map Tm.d)
theorem tO_kd (k : Kd) : tuplesOnly (kdD k) = true := by cases k <;> rfl
theorem tO_col (c : Col) : tuplesOnly (colD c) = true := by
  show (true && (tuplesOnly (kdD c.2) && true)) = true
  rw [tO_kd]; rfl
theorem tO_all {α : Type} (f : α → PyData) (h : ∀ a, tuplesOnly (f a) = true) : ∀ l : List α, tuplesOnlyAll (l.map f) = true
  | [] => rfl
  | a :: l => by
    show (tuplesOnly (f a) && tuplesOnlyAll (l.map f)) = true
    rw [h, tO_all f h l]; rfl
def KdOk : Kd → Prop
  | none => True
  | some b => 0 ≤ b ∧ b ≤ 1000000000000
structure ColsOk (cs : List Col) : Prop where
  nd : (cs.map (·.1)).Nodup
  kd : ∀ c ∈ cs, KdOk c.2
  len : cs.length ≤ 10
  nm : ∀ c ∈ cs, TxtOk c.1
def ColsAt (K : PySem.W.Frag) (H : Hp) (v : V) (cs : List Col) : Prop := ∃ (a : Addr) (o : Obj) (ps : List Addr), v = .ref a ∧ H a = some (.frz o (.tup (ps.map V.ref))) ∧ o.dict = none ∧ DpAll K H (ps.map V.ref) (cs.map colD)
theorem ColsAt.kp {K : PySem.W.Frag} {H H' : Hp} {v : V} {cs : List Col} (k : Kp H H') (h : ColsAt K H v cs) : ColsAt K H' v cs := by
  obtain ⟨a, o, ps, e, h1, h2, h3⟩ := h
  exact ⟨a, o, ps, e, k.frz _ _ _ h1, h2, DpAll.kp k _ _ (tO_all _ tO_col cs) h3⟩
def opBound (cs : List Col) : Op → Int
  | .num i => if i < 0 then -i else i
  | .txt _ => 0
  | .col n => match cs.find? (fun c => decide (c.1 = n) && c.2.isSome) with
    | some (_, some b) => b
    | _ => 0
def OpInt (cs : List Col) : Op → Prop
  | .num i => -1000000 ≤ i ∧ i ≤ 1000000
  | .txt _ => False
  | .col n => ∃ b, (n, some b) ∈ cs
def OpTxt (cs : List Col) : Op → Prop
  | .num _ => False
  | .txt x => TxtOk x
  | .col n => (n, none) ∈ cs
def OpOk (cs : List Col) (word : Bool) (o : Op) : Prop := if word then OpTxt cs o else OpInt cs o
def wordS : Bool → S
  | true => "string"
  | false => "integer"
structure ExOk (cs : List Col) (word : Bool) (ts : List Tm) : Prop where
  ne : ts ≠ []
  first : ∀ t, ts.head? = some t → t.plus = true
  ops : ∀ t ∈ ts, OpOk cs word t.op
  one : word = true → ts.length = 1
  sum : (ts.map fun t => opBound cs t.op).sum ≤ 1000000000000
  len : ts.length ≤ 20
def ValIn : Kd → V → Prop
  | none, .str x => TxtOk x
  | some b, .int i => -b ≤ i ∧ i ≤ b
  | _, _ => False
inductive RowIn : List Col → List V → Prop
  | nil : RowIn [] []
  | cons {c : Col} {v : V} {cs : List Col} {vs : List V} : ValIn c.2 v → RowIn cs vs → RowIn (c :: cs) (v :: vs)
theorem RowIn.len {cs : List Col} {vs : List V} (h : RowIn cs vs) : vs.length = cs.length := by induction h <;> simp_all
theorem RowIn.get : ∀ {cs : List Col} {vs : List V} {i : Nat} {c : Col}, RowIn cs vs → cs[i]? = some c → ∃ v, vs[i]? = some v ∧ ValIn c.2 v
  | _, _, _, _, .nil, e => by simp at e
  | _, _, 0, _, .cons h _, e => by
    simp only [List.getElem?_cons_zero, Option.some.injEq] at e
    subst e
    exact ⟨_, rfl, h⟩
  | _, _, i + 1, _, .cons _ t, e => by
    obtain ⟨v, q, r⟩ := RowIn.get t (show _ = some _ by simpa using e)
    exact ⟨v, by simpa using q, r⟩
theorem RowIn.snoc : ∀ {cs : List Col} {vs : List V} {c : Col} {v : V}, RowIn cs vs → ValIn c.2 v → RowIn (cs ++ [c]) (vs ++ [v])
  | _, _, _, _, .nil, h => .cons h .nil
  | _, _, _, _, .cons a t, h => .cons a (RowIn.snoc t h)
def NamesAt (K : PySem.W.Frag) (H : Hp) (v : V) (cs : List Col) : Prop := ∃ (a : Addr) (o : Obj), v = .ref a ∧ H a = some (.frz o (.tup (cs.map fun c => V.str c.1))) ∧ o.dict = none
structure Straight (cs : List Col) (ts : List Tm) : Prop where
  nd : (ts.filterMap fun t => match t.op with | .col n => some n | _ => none).Nodup
  signs : ∀ t ∈ ts, ∀ i, t.op = .num i → if t.plus then 0 ≤ i else i ≤ 0
end Ind
set_option Elab.async false
set_option linter.all false
set_option maxRecDepth 100000
set_option maxHeartbeats 4000000
namespace Ind
open PySem PySem.Spec PyProof.Rows L2
end Ind
set_option Elab.async false
set_option linter.all false
set_option maxRecDepth 100000
set_option maxHeartbeats 4000000
namespace Ind
open PySem PySem.Spec PyProof.Rows L2
variable {K : PySem.W.Frag} {H : Hp}
def wk : Kd → S
  | none => "string"
  | some _ => "integer"
def Op.word : Op → S
  | .col _ => "column"
  | .num _ => "integer"
  | .txt _ => "string"
def Op.cont : Op → V
  | .col n => .str n
  | .num i => .int i
  | .txt x => .str x
theorem map_get {α β : Type} {f : α → β} {l : List α} {i : Nat} {x : β} (h : (l.map f)[i]? = some x) : ∃ a, l[i]? = some a ∧ x = f a := by
  rw [List.getElem?_map] at h
  cases e : l[i]? with
  | none => rw [e] at h; cases h
  | some a => rw [e] at h; exact ⟨a, rfl, by cases h; rfl⟩
theorem take_more {α : Type} {l : List α} {i : Nat} {a : α} (h : l[i]? = some a) : l.take (i + 1) = l.take i ++ [a] := by
  rw [List.take_add_one, h]; rfl
theorem ColsAt.tup {c : V} {cs : List Col} (h : ColsAt K H c cs) : ∃ (a : Addr) (ps : List Addr), c = .ref a ∧ SqT K H a (ps.map V.ref) ∧ DpAll K H (ps.map V.ref) (cs.map colD) := by
  obtain ⟨a, o, ps, e, h1, h2, h3⟩ := h
  exact ⟨a, ps, e, .inl (.inr ⟨o, h1⟩), h3⟩
theorem OpOk.str {cs : List Col} {b : Bool} {o : Op} (ok : ColsOk cs) (h : OpOk cs b o) : (∃ i, o = .num i) ∨ ∃ x, TxtOk x ∧ (o = .txt x ∨ o = .col x) := by
  cases o with
  | num i => exact .inl ⟨i, rfl⟩
  | txt x =>
    cases b with
    | true => exact .inr ⟨x, h, .inl rfl⟩
    | false => exact h.elim
  | col x =>
    refine .inr ⟨x, ?_, .inr rfl⟩
    cases b with
    | true => exact ok.nm _ (show (x, none) ∈ cs from h)
    | false =>
      obtain ⟨k, hk⟩ := (show ∃ k, (x, some k) ∈ cs from h)
      exact ok.nm _ hk
theorem Same.upd' {p : Addr} {H H' : Hp} {o : HO} (a : Same H H') (n : H p = none) : Same H (L2.upd H' p o) := fun b u h => by
  rw [upd_ne (ne_of_none h n)]; exact a b u h
theorem Fz.none {t b : Addr} {H H' : Hp} (f : Fz t H H') (n : b ≠ t) (e : H' b = Option.none) : H b = Option.none := by
  cases h : H b with
  | none => rfl
  | some o => rw [f b o n h] at e; cases e
theorem OpOk.mem {cs : List Col} {b : Bool} {n : S} (h : OpOk cs b (.col n)) : n ∈ cs.map (·.1) := by
  cases b with
  | true => exact List.mem_map.mpr ⟨_, (show (n, none) ∈ cs from h), rfl⟩
  | false =>
    obtain ⟨k, hk⟩ := (show ∃ k, (n, some k) ∈ cs from h)
    exact List.mem_map.mpr ⟨_, hk, rfl⟩
end Ind
set_option Elab.async false
set_option linter.all false
set_option maxRecDepth 100000
set_option maxHeartbeats 4000000
namespace Ind
open PySem PySem.Spec PyProof.Rows L2
def tyZ (x : V) (H : Hp) : Prop := ∃ (p : Addr) (o : Obj) (xs : List V), x = .ref p ∧ H p = some (.frz o (.tup xs)) ∧ o.dict = none
def tBMZ (r : V → List V → Hp → VK → Prop) (to : TE) (t : TA) : TE := fun σ H Q =>
  to σ H fun x H1 => tyZ x H1 ∧ t σ H1 fun xs H2 => r x xs H2 Q
section
variable {X : Cx} {σ : L2.St} {H : Hp}
theorem tyZ_is {pins : List (Addr × Obj)} {s : Shared} {x : V} {v : Value} (I : Inv X pins σ H s) (r : RelV x v) (z : tyZ x H) :
    s.TypeIs v "tuple" ∧ ∀ a, v = .ref a → ∃ ob, s.heap.get? a = some ob ∧ ob.dict = none := by
  obtain ⟨p, o, xs, rfl, hp, nd⟩ := z
  cases r
  obtain ⟨h1, h2, its, rv, o', h3, hc, n, hd⟩ := I.hok p _ hp
  rw [h1] at h3
  cases h3
  exact ⟨⟨o, h1, hc⟩, fun a e => by cases e; exact ⟨o, h1, nd⟩⟩
variable {o e : Expr} {name : Str} {apos cpos : Pos} {id : String} {to : TE} {t : TA} {r : V → List V → Hp → VK → Prop}
theorem pe_bmZ (slot : Slot "tuple" name id) (hty : typeOf (.builtin id) = pure (.type "method_descriptor")) (hm : MtR X id r) (ho : PE X o to) (ha : PA X [e] t)
    (h1 : attributeBase o name X.env (eval o X.env) = eval o X.env := by rfl)
    (h2 : ((backTo cpos (starEach [e] X.env)).all (fun x => !x.1) && (backToKw cpos (keywordEach [] X.env)).all (fun x => x.1.isSome) && decide ([e].length + ([] : List Keyword).length + (if ([] : List Keyword).isEmpty then 0 else 1) < 30)) = true := by rfl)
    (h3 : (apos.endLine == cpos.line) = true := by rfl)
    (h4 : starEach [e] X.env = (false, eval e X.env) :: starEach [] X.env := by rfl)
    (h5 : (backTo cpos (starEach [] X.env)).any (·.1) = false := by rfl) : PE X (.Call (.Attribute o name apos) [e] [] cpos) (tBMZ r to t) := by
  constructor
  intro pins s σ H Q I h
  refine wpAny_Call_method_late h1 h2 h3 rfl ?_
  refine thn (ho.run pins s σ H _ I h) fun v s1 ⟨x, H1, I1, r1, ty, q1⟩ => ?_
  have tz := tyZ_is I1 r1 ty
  refine ⟨"tuple", id, PySem.F.plainAttrs_tuple, slot, hty, tz.1, tz.2, ?_⟩
  have run := ha.run cpos pins s1 σ H1 _ I1 q1
  rw [h4] at run ⊢
  refine Calls.callWith_builtin ?_ (Calls.evalArgs_plain (thn run fun us s2 ⟨vs, H2, I2, r2, q2⟩ => hm pins s2 σ H2 x vs v us Q I2 r1 r2 q2))
  show (false || (backTo cpos (starEach [] X.env)).any (·.1)) = false
  rw [h5] <;> rfl
end
end Ind
set_option Elab.async false
set_option linter.all false
set_option maxRecDepth 100000
set_option maxHeartbeats 4000000
namespace Ind
open PySem PySem.Spec PyProof.Rows L2
theorem Same.none {b : Addr} {H H' : Hp} (f : Same H H') (e : H' b = Option.none) : H b = Option.none := by
  cases h : H b with
  | none => rfl
  | some o => rw [f b o h] at e; cases e
end Ind
set_option Elab.async false
set_option linter.all false
set_option maxRecDepth 100000
set_option maxHeartbeats 4000000
namespace Ind
open PySem PySem.Spec PyProof.Rows L2
theorem meet {c : Prop} [Decidable c] {tb : TS} {D : Ends} {σ0 : L2.St} {H0 : Hp} (G : L2.St → Hp → Prop) (rest : ∀ σ H, G σ H → D.nx σ H)
    (h1 : (∀ σ H, G σ H → D.nx σ H) → c → tb D σ0 H0) (h2 : ¬ c → G σ0 H0) : if c then tb D σ0 H0 else tNext D σ0 H0 := by
  by_cases h : c
  · rw [if_pos h]; exact h1 rest h
  · rw [if_neg h]; exact rest _ _ (h2 h)
theorem leave {D : Ends} {σ : L2.St} {H : Hp} (h : D.nx σ H) : tNext D σ H := h
def colN (t : Tm) : Option S := match t.op with
  | .col n => some n
  | _ => none
structure StI (cs : List Col) (ts : List Tm) (fs : List S) (n : Int) (i : Nat) : Prop where
  ne : 0 < i → ts ≠ []
  first : ∀ t, ts.head? = some t → t.plus = true
  ops : ∀ t ∈ ts, OpOk cs false t.op
  sum : (ts.map fun t => opBound cs t.op).sum = n
  low : n ≤ 1000000000000
  len : ts.length ≤ i
  nd : (ts.filterMap colN).Nodup
  signs : ∀ t ∈ ts, ∀ j, t.op = .num j → if t.plus then 0 ≤ j else j ≤ 0
  left : ∀ f ∈ fs, ∃ b, (f, some b) ∈ cs
  fnd : fs.Nodup
  apart : ∀ f ∈ fs, f ∉ ts.filterMap colN
  few : fs.length ≤ 10
structure Nxt (cs : List Col) (ts : List Tm) (fs : List S) (pl : Bool) (o : Op) : Prop where
  ok : OpOk cs false o
  sign : ∀ j, o = .num j → if pl then 0 ≤ j else j ≤ 0
  apart : ∀ n, o = .col n → n ∉ fs ∧ n ∉ ts.filterMap colN
theorem StI.same {cs : List Col} {ts : List Tm} {fs : List S} {n : Int} {i : Nat} (h : StI cs ts fs n i) (ne : ts ≠ []) : StI cs ts fs n (i + 1) :=
  ⟨fun _ => ne, h.first, h.ops, h.sum, h.low, Nat.le_succ_of_le h.len, h.nd, h.signs, h.left, h.fnd, h.apart, h.few⟩
theorem StI.add {cs : List Col} {ts : List Tm} {fs : List S} {n : Int} {i : Nat} {pl : Bool} {o : Op} (h : StI cs ts fs n i) (x : Nxt cs ts fs pl o) (hp : i = 0 → pl = true) (l : n + opBound cs o ≤ 1000000000000) : StI cs (ts ++ [⟨pl, o⟩]) fs (n + opBound cs o) (i + 1) := by
  refine ⟨fun _ => by simp, ?_, ?_, ?_, l, ?_, ?_, ?_, h.left, h.fnd, ?_, h.few⟩
  · intro t ht
    cases ts with
    | nil =>
      have hi : i = 0 ∨ 0 < i := by omega
      rcases hi with hi | hi
      · cases ht; exact hp hi
      · exact absurd rfl (h.ne hi)
    | cons a r => exact h.first t ht
  · intro t ht
    rcases List.mem_append.mp ht with m | m
    · exact h.ops t m
    · cases List.mem_singleton.mp m; exact x.ok
  · rw [List.map_append, List.sum_append, h.sum]; simp
  · have := h.len
    simp; omega
  · rw [List.filterMap_append, List.nodup_append]
    refine ⟨h.nd, ?_, ?_⟩
    · cases o with
      | col m => exact (by show [m].Nodup; simp)
      | num j => exact (show ([] : List S).Nodup from List.nodup_nil)
      | txt y => exact (show ([] : List S).Nodup from List.nodup_nil)
    · intro a ha b hb e
      subst e
      cases o with
      | col m =>
        have : a = m := by simpa [colN] using hb
        subst this
        exact (x.apart a rfl).2 ha
      | num j => simp [colN] at hb
      | txt y => simp [colN] at hb
  · intro t ht j ej
    rcases List.mem_append.mp ht with m | m
    · exact h.signs t m j ej
    · cases List.mem_singleton.mp m; exact x.sign j ej
  · intro f hf
    rw [List.filterMap_append, List.mem_append, not_or]
    refine ⟨h.apart f hf, ?_⟩
    cases o with
    | col m =>
      intro hb
      have : f = m := by simpa [colN] using hb
      subst this
      exact (x.apart f rfl).1 hf
    | num j => simp [colN]
    | txt y => simp [colN]
theorem StI.out {cs : List Col} {ts : List Tm} {fs : List S} {n : Int} {i : Nat} (h : StI cs ts fs n i) (hi : 0 < i ∧ i ≤ 20) : ExOk cs false ts ∧ Straight cs ts :=
  ⟨⟨h.ne hi.1, h.first, h.ops, (fun e => by cases e), by rw [h.sum]; exact h.low, Nat.le_trans h.len hi.2⟩, ⟨h.nd, h.signs⟩⟩
end Ind
set_option Elab.async false
set_option linter.all false
set_option maxRecDepth 100000
set_option maxHeartbeats 4000000
namespace Ind
open PySem PySem.Spec PyProof.Rows L2
end Ind
set_option Elab.async false
set_option linter.all false
set_option maxRecDepth 100000
set_option maxHeartbeats 4000000
namespace Ind
open PySem PySem.Spec PyProof.Rows L2
inductive KvOf (K : PySem.W.Frag) (H : Hp) : List Col → List (Key × V) → Prop
  | nil : KvOf K H [] []
  | cons {c : Col} {u : V} {cs : List Col} {kvs : List (Key × V)} : Dp K H u (kdD c.2) → KvOf K H cs kvs → KvOf K H (c :: cs) ((.inr c.1, u) :: kvs)
variable {K : PySem.W.Frag} {H H' : Hp}
theorem KvOf.keys {cs : List Col} {kvs : List (Key × V)} (h : KvOf K H cs kvs) : kvs.map (·.1) = cs.map (fun c => (.inr c.1 : Key)) := by
  induction h with
  | nil => rfl
  | cons _ _ ih => rw [List.map_cons, List.map_cons, ih]
theorem KvOf.kp {cs : List Col} {kvs : List (Key × V)} (k : Kp H H') (h : KvOf K H cs kvs) : KvOf K H' cs kvs := by
  induction h with
  | nil => exact .nil
  | cons d _ ih => exact .cons (Dp.kp k _ _ (tO_kd _) d) ih
theorem KvOf.get {cs : List Col} {kvs : List (Key × V)} (h : KvOf K H cs kvs) (nd : (cs.map (·.1)).Nodup) {n : S} {k : Kd} (m : (n, k) ∈ cs) : ∃ u, valV kvs (.inr n) = some u ∧ Dp K H u (kdD k) := by
  induction h with
  | nil => cases m
  | cons d r ih =>
    rename_i c u cs kvs
    rw [List.map_cons, List.nodup_cons] at nd
    rcases List.mem_cons.mp m with e | m'
    · subst e
      exact ⟨u, valV_pos rfl, d⟩
    · obtain ⟨u', e1, d1⟩ := ih nd.2 m'
      have ne : ¬ ((.inr c.1 : Key)) = .inr n := fun e => by
        injection e with e
        exact nd.1 (e ▸ List.mem_map.mpr ⟨_, m', rfl⟩)
      refine ⟨u', ?_, d1⟩
      rw [valV_neg (p := ((.inr c.1 : Key), u)) ne]
      exact e1
theorem merge_new : ∀ (more acc : List (Key × V)), ((acc ++ more).map (·.1)).Nodup → mergeK acc more = acc ++ more
  | [], acc, _ => by rw [List.append_nil]; rfl
  | p :: r, acc, nd => by
    have e0 : acc ++ p :: r = (acc ++ [p]) ++ r := by simp
    have ih := merge_new r (acc ++ [p]) (by rw [← e0]; exact nd)
    have hp : putK acc p.1 p.2 = acc ++ [p] := by
      unfold putK
      rw [if_neg]
      intro e
      rw [List.any_eq_true] at e
      obtain ⟨x, hx, ex⟩ := e
      rw [List.map_append, List.nodup_append] at nd
      exact nd.2.2 x.1 (List.mem_map.mpr ⟨x, hx, rfl⟩) p.1 (by simp) (of_decide_eq_true ex)
    show mergeK (putK acc p.1 p.2) r = _
    rw [hp, ih, e0]
def DictAt (K : PySem.W.Frag) (H : Hp) (d : Addr) (cs : List Col) : Prop := ∃ kvs, H d = some (.dK kvs) ∧ KvOf K H cs kvs
theorem DictAt.same {d : Addr} {cs : List Col} (h : DictAt K H d cs) (s : Same H H') : DictAt K H' d cs := by
  obtain ⟨kvs, h1, h2⟩ := h
  exact ⟨kvs, s _ _ h1, h2.kp (Same.kp s)⟩
end Ind
set_option Elab.async false
set_option linter.all false
set_option maxRecDepth 100000
set_option maxHeartbeats 4000000
namespace Ind
open PySem PySem.Spec PyProof.Rows L2
end Ind
set_option Elab.async false
set_option linter.all false
set_option maxRecDepth 100000
set_option maxHeartbeats 4000000
namespace Ind
open PySem PySem.Spec PyProof.Rows L2
theorem fits {n : Nat} (h : n ≤ 1000) : n ≤ sizeLine := Nat.le_trans h (by decide)
structure Lw (K : PySem.W.Frag) (H : Hp) (t : Tp) (ca na : Addr) (cs : List Col) : Prop where
  tp : TapeAt H t
  cols : ColsAt K H (.ref ca) cs
  nm : NamesAt K H (.ref na) cs
theorem Lw.kp {K : PySem.W.Frag} {H H' : Hp} {t : Tp} {ca na : Addr} {cs : List Col} (h : Lw K H t ca na cs) (k : Kp H H') (T : TapeAt H' t) : Lw K H' t ca na cs := by
  obtain ⟨a, o, e, h1, h2⟩ := h.nm
  exact ⟨T, h.cols.kp k, ⟨a, o, e, k.frz _ _ _ h1, h2⟩⟩
structure Shw (K : PySem.W.Frag) (v : V) (d : PyData) : Prop where
  dp : ∀ H, Dp K H v d
  able : d.showable = true
  nod : d.hasDict = false
  dep : d.depth ≤ 60
  len : d.shown.length ≤ sizeLine
end Ind
set_option Elab.async false
set_option linter.all false
set_option maxRecDepth 100000
set_option maxHeartbeats 4000000
namespace Va
open PySem PySem.Spec PyProof.Rows L2 Ind
abbrev Tx := PySem.Str
def FzL (_ : PySem.W.Frag) (H : Hp) (a : Addr) (xs : List V) : Prop := ∃ o, H a = some (.frz o (.lst xs))
theorem FzL.sq {K : PySem.W.Frag} {H : Hp} {a : Addr} {xs : List V} (h : FzL K H a xs) : SqL K H a xs := by
  obtain ⟨o, h⟩ := h
  exact .inl (.inr ⟨o, h⟩)
structure Kq (H H' : Hp) : Prop where
  tup : ∀ b xs, H b = some (.tup xs) → H' b = some (.tup xs)
  frz : ∀ b o u, H b = some (.frz o u) → H' b = some (.frz o u)
theorem Kq.refl (H : Hp) : Kq H H := ⟨fun _ _ h => h, fun _ _ _ h => h⟩
theorem Kq.trans {H H1 H2 : Hp} (a : Kq H H1) (b : Kq H1 H2) : Kq H H2 := ⟨fun c x h => b.tup c x (a.tup c x h), fun c o x h => b.frz c o x (a.frz c o x h)⟩
theorem Kq.same {H H' : Hp} (s : Same H H') : Kq H H' := ⟨fun c x h => s _ _ h, fun c o x h => s _ _ h⟩
theorem Kq.sqT {K : PySem.W.Frag} {H H' : Hp} {a : Addr} {xs : List V} (k : Kq H H') (h : SqT K H a xs) : SqT K H' a xs := by
  rcases h with (h | ⟨o, h⟩) | h
  · exact .inl (.inl (k.tup _ _ h))
  · exact .inl (.inr ⟨o, k.frz _ _ _ h⟩)
  · exact .inr h
theorem Kq.fzL {K : PySem.W.Frag} {H H' : Hp} {a : Addr} {xs : List V} (k : Kq H H') (h : FzL K H a xs) : FzL K H' a xs := by
  obtain ⟨o, h⟩ := h
  exact ⟨o, k.frz _ _ _ h⟩
theorem Kq.upd {H : Hp} {l : Addr} {u o : HO} (h : H l = some u) (mu : Mut (some u)) : Kq H (upd H l o) := by
  refine ⟨fun c x e => ?_, fun c q x e => ?_⟩ <;> (rw [upd_ne (ne_of e h (by intro z; subst z; exact mu))]; exact e)
theorem Kq.new {H : Hp} {l : Addr} {o : HO} (h : H l = none) : Kq H (L2.upd H l o) := Kq.same (same_upd h)
structure Stb where
  P : PySem.W.Frag → Option Tp → Hp → V → Prop
  st : ∀ (K : PySem.W.Frag) (tp : Option Tp) (H H' : Hp) (v : V), Kq H H' → P K tp H v → P K tp H' v
inductive D where
  | non
  | bl (b : Bool)
  | int (i : Int)
  | str (x : Tx)
  | tup (xs : List D)
  | ptp (xs : List D)
  | lst (xs : List D)
  | dk (kvs : List (Key × D))
  | tape
  | ty (n : String)
  | ob (b : Stb)
mutual
inductive Rp (K : PySem.W.Frag) (tp : Option Tp) (H : Hp) : V → D → Prop
  | non : Rp K tp H .non .non
  | bl (b : Bool) : Rp K tp H (.bl b) (.bl b)
  | int (i : Int) : Rp K tp H (.int i) (.int i)
  | str (x : Tx) : Rp K tp H (.str x) (.str x)
  | tup {a : Addr} {xs : List V} {ds : List D} : SqT K H a xs → RpL K tp H xs ds → Rp K tp H (.ref a) (.tup ds)
  | ptp {a : Addr} {o : Obj} {xs : List V} {ds : List D} : H a = some (.frz o (.tup xs)) → o.dict = none → RpL K tp H xs ds → Rp K tp H (.ref a) (.ptp ds)
  | lst {a : Addr} {xs : List V} {ds : List D} : FzL K H a xs → RpL K tp H xs ds → Rp K tp H (.ref a) (.lst ds)
  | dk {a : Addr} {o : Obj} {kv : List (Key × V)} {ds : List (Key × D)} : H a = some (.frz o (.dK kv)) → RpK K tp H kv ds → Rp K tp H (.ref a) (.dk ds)
  | tape {t : Tp} : tp = some t → Rp K tp H (.ref t.a) .tape
  | ty (n : String) : Rp K tp H (.ty n) (.ty n)
  | ob {a : Addr} {b : Stb} : b.P K tp H (.ref a) → Rp K tp H (.ref a) (.ob b)
inductive RpL (K : PySem.W.Frag) (tp : Option Tp) (H : Hp) : List V → List D → Prop
  | nil : RpL K tp H [] []
  | cons {v : V} {vs : List V} {d : D} {ds : List D} : Rp K tp H v d → RpL K tp H vs ds → RpL K tp H (v :: vs) (d :: ds)
inductive RpK (K : PySem.W.Frag) (tp : Option Tp) (H : Hp) : List (Key × V) → List (Key × D) → Prop
  | nil : RpK K tp H [] []
  | cons {k : Key} {v : V} {vs : List (Key × V)} {d : D} {ds : List (Key × D)} : Rp K tp H v d → RpK K tp H vs ds → RpK K tp H ((k, v) :: vs) ((k, d) :: ds)
end
section
variable {K : PySem.W.Frag} {tp : Option Tp} {H H' : Hp}
mutual
theorem Rp.kq (k : Kq H H') : ∀ (d : D) (v : V), Rp K tp H v d → Rp K tp H' v d
  | .non, _, h => by cases h; exact .non
  | .bl _, _, h => by cases h; exact .bl _
  | .int _, _, h => by cases h; exact .int _
  | .str _, _, h => by cases h; exact .str _
  | .tup ds, _, h => by
    cases h with
    | tup hs ha => exact .tup (k.sqT hs) (RpL.kq k ds _ ha)
  | .ptp ds, _, h => by
    cases h with
    | ptp hs nd ha => exact .ptp (k.frz _ _ _ hs) nd (RpL.kq k ds _ ha)
  | .lst ds, _, h => by
    cases h with
    | lst hs ha => exact .lst (k.fzL hs) (RpL.kq k ds _ ha)
  | .dk ds, _, h => by
    cases h with
    | dk hs ha => exact .dk (k.frz _ _ _ hs) (RpK.kq k ds _ ha)
  | .tape, _, h => by
    cases h with
    | tape e => exact .tape e
  | .ty _, _, h => by cases h; exact .ty _
  | .ob b, _, h => by
    cases h with
    | ob hb => exact .ob (b.st _ _ _ _ _ k hb)
theorem RpL.kq (k : Kq H H') : ∀ (ds : List D) (vs : List V), RpL K tp H vs ds → RpL K tp H' vs ds
  | [], _, h => by cases h; exact .nil
  | d :: ds, _, h => by
    cases h with
    | cons h1 h2 => exact .cons (Rp.kq k d _ h1) (RpL.kq k ds _ h2)
theorem RpK.kq (k : Kq H H') : ∀ (ds : List (Key × D)) (vs : List (Key × V)), RpK K tp H vs ds → RpK K tp H' vs ds
  | [], _, h => by cases h; exact .nil
  | (x, d) :: ds, _, h => by
    cases h with
    | cons h1 h2 => exact .cons (Rp.kq k d _ h1) (RpK.kq k ds _ h2)
end
theorem RpL.len : ∀ {ds : List D} {vs : List V}, RpL K tp H vs ds → vs.length = ds.length
  | [], _, h => by cases h; rfl
  | d :: ds, _, h => by
    cases h with
    | cons _ h2 => rw [List.length_cons, List.length_cons, RpL.len h2]
theorem RpL.get : ∀ {ds : List D} {vs : List V} {i : Nat} {d : D}, RpL K tp H vs ds → ds[i]? = some d → ∃ v, vs[i]? = some v ∧ Rp K tp H v d
  | [], _, _, _, _, e => by simp at e
  | d :: ds, _, 0, _, h, e => by
    cases h with
    | cons h1 _ =>
      simp only [List.getElem?_cons_zero, Option.some.injEq] at e
      subst e
      exact ⟨_, rfl, h1⟩
  | d :: ds, _, i + 1, _, h, e => by
    cases h with
    | cons _ h2 =>
      obtain ⟨v, q, r⟩ := RpL.get h2 (show ds[i]? = some _ by simpa using e)
      exact ⟨v, by simpa using q, r⟩
theorem RpL.getV {ds : List D} {vs : List V} {i : Nat} {v : V} (h : RpL K tp H vs ds) (e : vs[i]? = some v) : ∃ d, ds[i]? = some d ∧ Rp K tp H v d := by
  have hl : i < ds.length := by rw [← h.len]; exact (List.getElem?_eq_some_iff.mp e).1
  obtain ⟨v', e', r⟩ := h.get (List.getElem?_eq_getElem hl)
  rw [e] at e'
  cases e'
  exact ⟨_, List.getElem?_eq_getElem hl, r⟩
theorem RpL.app : ∀ {ds es : List D} {vs ws : List V}, RpL K tp H vs ds → RpL K tp H ws es → RpL K tp H (vs ++ ws) (ds ++ es)
  | [], _, _, _, h, g => by cases h; exact g
  | d :: ds, _, _, _, h, g => by
    cases h with
    | cons h1 h2 => exact .cons h1 (RpL.app h2 g)
theorem RpL.drop : ∀ {vs : List V} {ds : List D} (k : Nat), RpL K tp H vs ds → RpL K tp H (vs.drop k) (ds.drop k)
  | _, _, 0, h => h
  | _, _, _ + 1, .nil => .nil
  | _, _, k + 1, .cons _ t => RpL.drop k t
theorem RpL.take : ∀ {vs : List V} {ds : List D} (k : Nat), RpL K tp H vs ds → RpL K tp H (vs.take k) (ds.take k)
  | _, _, 0, _ => .nil
  | _, _, _ + 1, .nil => .nil
  | _, _, k + 1, .cons h t => .cons h (RpL.take k t)
theorem RpL.set {v : V} {d : D} (r : Rp K tp H v d) : ∀ {vs : List V} {ds : List D} (k : Nat), RpL K tp H vs ds → RpL K tp H (vs.set k v) (ds.set k d)
  | _, _, _, .nil => .nil
  | _, _, 0, .cons _ t => .cons r t
  | _, _, k + 1, .cons h t => .cons h (RpL.set r k t)
theorem Rp.tup_inv {v : V} {ds : List D} (h : Rp K tp H v (.tup ds)) : ∃ a xs, v = .ref a ∧ SqT K H a xs ∧ RpL K tp H xs ds := by
  cases h with
  | tup hs ha => exact ⟨_, _, rfl, hs, ha⟩
theorem Rp.ptp_inv {v : V} {ds : List D} (h : Rp K tp H v (.ptp ds)) : ∃ a o xs, v = .ref a ∧ H a = some (.frz o (.tup xs)) ∧ o.dict = none ∧ RpL K tp H xs ds := by
  cases h with
  | ptp hs nd ha => exact ⟨_, _, _, rfl, hs, nd, ha⟩
def D.un : D → D
  | .ptp ds => .tup ds
  | d => d
theorem Rp.un {v : V} {d : D} (h : Rp K tp H v d) : Rp K tp H v d.un := by
  cases h with
  | ptp hs nd ha => exact .tup (.inl (.inr ⟨_, hs⟩)) ha
  | non => exact .non
  | bl b => exact .bl b
  | int i => exact .int i
  | str x => exact .str x
  | tup hs ha => exact .tup hs ha
  | lst hs ha => exact .lst hs ha
  | dk hs ha => exact .dk hs ha
  | tape e => exact .tape e
  | ty n => exact .ty n
  | ob hb => exact .ob hb
theorem Rp.lst_inv {v : V} {ds : List D} (h : Rp K tp H v (.lst ds)) : ∃ a xs, v = .ref a ∧ FzL K H a xs ∧ RpL K tp H xs ds := by
  cases h with
  | lst hs ha => exact ⟨_, _, rfl, hs, ha⟩
theorem Rp.dk_inv {v : V} {ds : List (Key × D)} (h : Rp K tp H v (.dk ds)) : ∃ a o kv, v = .ref a ∧ H a = some (.frz o (.dK kv)) ∧ RpK K tp H kv ds := by
  cases h with
  | dk hs ha => exact ⟨_, _, _, rfl, hs, ha⟩
theorem Rp.ob_inv {v : V} {b : Stb} (h : Rp K tp H v (.ob b)) : ∃ a, v = .ref a ∧ b.P K tp H (.ref a) := by
  cases h with
  | ob hb => exact ⟨_, rfl, hb⟩
theorem Rp.int_inv {v : V} {i : Int} (h : Rp K tp H v (.int i)) : v = .int i := by cases h; rfl
theorem Rp.str_inv {v : V} {x : Tx} (h : Rp K tp H v (.str x)) : v = .str x := by cases h; rfl
theorem Rp.bl_inv {v : V} {b : Bool} (h : Rp K tp H v (.bl b)) : v = .bl b := by cases h; rfl
theorem Rp.tape_inv {v : V} (h : Rp K tp H v .tape) : ∃ t, tp = some t ∧ v = .ref t.a := by
  cases h with
  | tape e => exact ⟨_, e, rfl⟩
theorem RpK.val : ∀ {ds : List (Key × D)} {vs : List (Key × V)} {k : Key}, RpK K tp H vs ds → match (ds.find? fun p => decide (p.1 = k)) with
    | some p => ∃ v, valV vs k = some v ∧ Rp K tp H v p.2
    | none => valV vs k = none
  | [], _, _, h => by cases h; rfl
  | (x, d) :: ds, _, k, h => by
    cases h with
    | @cons _ v vs _ _ h1 h2 =>
      by_cases e : x = k
      · rw [List.find?_cons_of_pos (by simp [e])]
        exact ⟨v, valV_pos e, h1⟩
      · rw [List.find?_cons_of_neg (by simp [e])]
        have ih := RpK.val (k := k) h2
        rw [valV_neg (p := (x, v)) (show ¬ (x, v).1 = k from e)]
        exact ih
theorem RpK.keys : ∀ {ds : List (Key × D)} {vs : List (Key × V)}, RpK K tp H vs ds → vs.map (·.1) = ds.map (·.1)
  | [], _, h => by cases h; rfl
  | (x, d) :: ds, _, h => by
    cases h with
    | cons h1 h2 => simp [RpK.keys h2]
theorem RpK.app : ∀ {ds es : List (Key × D)} {vs ws : List (Key × V)}, RpK K tp H vs ds → RpK K tp H ws es → RpK K tp H (vs ++ ws) (ds ++ es)
  | [], _, _, _, h, g => by cases h; exact g
  | (x, d) :: ds, _, _, _, h, g => by
    cases h with
    | cons h1 h2 => exact .cons h1 (RpK.app h2 g)
end
structure Obx where
  R : PySem.W.Frag → Option Tp → Hp → Addr → HO → Prop
  mu : ∀ K tp H a u, R K tp H a u → Mut (some u)
  st : ∀ K tp H H' a u, Kq H H' → R K tp H a u → R K tp H' a u
inductive Cn where
  | ls (ds : List D)
  | dk (kvs : List (Key × D))
  | ob (b : Obx)
def Cn.R (K : PySem.W.Frag) (tp : Option Tp) (H : Hp) (a : Addr) (u : HO) : Cn → Prop
  | .ls ds => ∃ xs, u = .lst xs ∧ RpL K tp H xs ds
  | .dk kvs => ∃ kv, u = .dK kv ∧ RpK K tp H kv kvs
  | .ob b => b.R K tp H a u
theorem Cn.mu {K : PySem.W.Frag} {tp : Option Tp} {H : Hp} {a : Addr} {u : HO} : ∀ {c : Cn}, c.R K tp H a u → Mut (some u)
  | .ls _, ⟨_, e, _⟩ => by rw [e]; trivial
  | .dk _, ⟨_, e, _⟩ => by rw [e]; trivial
  | .ob b, h => b.mu _ _ _ _ _ h
theorem Cn.kq {K : PySem.W.Frag} {tp : Option Tp} {H H' : Hp} {a : Addr} {u : HO} (k : Kq H H') : ∀ {c : Cn}, c.R K tp H a u → c.R K tp H' a u
  | .ls _, ⟨xs, e, h⟩ => ⟨xs, e, RpL.kq k _ _ h⟩
  | .dk _, ⟨kv, e, h⟩ => ⟨kv, e, RpK.kq k _ _ h⟩
  | .ob b, h => b.st _ _ _ _ _ _ k h
inductive SV where
  | no
  | v (d : D)
  | ol (ds : List D)
  | od (io : Bool) (kvs : List (Key × D))
  | ex (a : Addr) (pl : Option (Addr × Tx × D))
  | q (b : Stb)
  | ow (k : Option Nat) (c : Cn)
structure En where
  l : List SV
  c : Nat
def En.set (E : En) (i : Nat) (s : SV) : En := ⟨E.l.set i s, E.c⟩
def Few (tp : Option Tp) (c : Nat) (H : Hp) : Prop := ∀ t xs, tp = some t → H t.l = some (.lst xs) → xs.length + c ≤ 1000000
def SV.own : SV → Bool
  | .ol _ => true
  | .od _ _ => true
  | .ow _ _ => true
  | _ => false
def TapeV (b : Bool) (H : Hp) (t : Tp) : Prop := ∃ (ns : List Int) (p n s : Int), H t.a = some (.lst [.ref t.l, .int p, .int n, .int s]) ∧ H t.l = some (.lst (ns.map V.int)) ∧ (b = true → p ≤ (ns.length : Int)) ∧ 0 ≤ p ∧ 0 ≤ n ∧ 0 ≤ s ∧ s < 2147483647
theorem TapeV.same {b : Bool} {H H' : Hp} {t : Tp} (h : TapeV b H t) (e : Same H H') : TapeV b H' t := by
  obtain ⟨ns, p, n, s, h1, h2, h3⟩ := h
  exact ⟨ns, p, n, s, e _ _ h1, e _ _ h2, h3⟩
theorem TapeV.upd {b : Bool} {H : Hp} {t : Tp} {p : Addr} {o : HO} (h : TapeV b H t) (e : Off t p) : TapeV b (L2.upd H p o) t := by
  obtain ⟨ns, q, n, s, h1, h2, h3⟩ := h
  exact ⟨ns, q, n, s, by rw [upd_ne e.a.symm]; exact h1, by rw [upd_ne e.l.symm]; exact h2, h3⟩
structure Gm where
  K : PySem.W.Frag
  b : Bool
  tp : Option Tp
  tabs : List Addr
  io : List Addr
  H0 : Hp
def Gm.sp (Γ : Gm) (b : Addr) : Prop := (∃ t, Γ.tp = some t ∧ (b = t.a ∨ b = t.l)) ∨ b ∈ Γ.tabs
structure Base (Γ : Gm) (H : Hp) : Prop where
  ext : ∀ b o, ¬ Γ.sp b → b ∉ Γ.io → Γ.H0 b = some o → H b = some o
  kq : Kq Γ.H0 H
  tape : ∀ t, Γ.tp = some t → TapeV Γ.b H t
  tabs : ∀ P ∈ Γ.tabs, GxR.TabG H P
structure Free (Γ : Gm) (a : Addr) : Prop where
  young : Γ.H0 a = none ∨ a ∈ Γ.io
  nsp : ¬ Γ.sp a
abbrev Gm.Rp (Γ : Gm) (H : Hp) (v : V) (d : D) : Prop := Va.Rp Γ.K Γ.tp H v d
abbrev Gm.RpL (Γ : Gm) (H : Hp) (v : List V) (d : List D) : Prop := Va.RpL Γ.K Γ.tp H v d
def RepS (Γ : Gm) (H : Hp) (o : Option V) : SV → Prop
  | .no => True
  | .v d => ∃ v, o = some v ∧ Γ.Rp H v d
  | .ol ds => ∃ a xs, o = some (.ref a) ∧ H a = some (.lst xs) ∧ Γ.RpL H xs ds ∧ Free Γ a
  | .od b kvs => ∃ a kv, o = some (.ref a) ∧ H a = some (.dK kv) ∧ RpK Γ.K Γ.tp H kv kvs ∧ Free Γ a ∧ (b = true → a ∈ Γ.io)
  | .ex a pl => o = some (.ref a) ∧ ∀ p, pl = some p → ∃ ob v, H p.1 = some (.frz ob (.xd [(p.2.1, v)])) ∧ Γ.Rp H v p.2.2
  | .q b => ∃ v, o = some v ∧ b.P Γ.K Γ.tp H v
  | .ow k c => ∃ a u, o = some (.ref a) ∧ H a = some u ∧ c.R Γ.K Γ.tp H a u ∧ Free Γ a ∧ ∀ i, k = some i → Γ.io[i]? = some a
structure Rep (Γ : Gm) (E : En) (σ : L2.St) (H : Hp) : Prop where
  base : Base Γ H
  len : E.l.length = σ.length
  few : Few Γ.tp E.c H
  sl : ∀ (i : Nat) (s : SV), E.l[i]? = some s → ∃ o, σ[i]? = some o ∧ RepS Γ H o s
  dis : ∀ (i j : Nat) (s t : SV) (a : Addr), E.l[i]? = some s → E.l[j]? = some t → s.own = true → t.own = true → σ[i]? = some (some (.ref a)) → σ[j]? = some (some (.ref a)) → i = j
def Lone (E : En) (σ : L2.St) (a : Addr) : Prop := ∀ (j : Nat) (s : SV), E.l[j]? = some s → s.own = true → σ[j]? ≠ some (some (.ref a))
section
variable {Γ : Gm} {E : En} {σ : L2.St} {H H' : Hp}
theorem RepS.own_at {o : Option V} {s : SV} (h : RepS Γ H o s) (e : s.own = true) : ∃ a u, o = some (.ref a) ∧ H a = some u ∧ Mut (some u) ∧ Free Γ a := by
  cases s with
  | no => cases e
  | v d => cases e
  | ol ds =>
    obtain ⟨a, xs, h1, h2, _, h3⟩ := h
    exact ⟨a, _, h1, h2, trivial, h3⟩
  | od b ds =>
    obtain ⟨a, xs, h1, h2, _, h3, _⟩ := h
    exact ⟨a, _, h1, h2, trivial, h3⟩
  | ex a pl => cases e
  | q b => cases e
  | ow k c =>
    obtain ⟨a, u, h1, h2, h3, h4, _⟩ := h
    exact ⟨a, u, h1, h2, Cn.mu h3, h4⟩
theorem RepS.stay {o : Option V} {s : SV} (h : RepS Γ H o s) (k : Kq H H') (ow : ∀ a u, s.own = true → o = some (.ref a) → H a = some u → H' a = some u) : RepS Γ H' o s := by
  cases s with
  | no => trivial
  | v d =>
    obtain ⟨v, h1, h2⟩ := h
    exact ⟨v, h1, Rp.kq k _ _ h2⟩
  | ol ds =>
    obtain ⟨a, xs, h1, h2, h3, h4⟩ := h
    exact ⟨a, xs, h1, ow a _ rfl h1 h2, RpL.kq k _ _ h3, h4⟩
  | od b ds =>
    obtain ⟨a, xs, h1, h2, h3, h4⟩ := h
    exact ⟨a, xs, h1, ow a _ rfl h1 h2, RpK.kq k _ _ h3, h4⟩
  | ex a pl =>
    obtain ⟨h1, h2⟩ := h
    exact ⟨h1, fun p hp => by
      obtain ⟨ob, v, h3, h4⟩ := h2 p hp
      exact ⟨ob, v, k.frz _ _ _ h3, Rp.kq k _ _ h4⟩⟩
  | q b =>
    obtain ⟨v, h1, h2⟩ := h
    exact ⟨v, h1, b.st _ _ _ _ _ k h2⟩
  | ow kk c =>
    obtain ⟨a, u, h1, h2, h3, h4⟩ := h
    exact ⟨a, u, h1, ow a _ rfl h1 h2, Cn.kq k h3, h4⟩
theorem Base.same (b : Base Γ H) (s : Same H H') : Base Γ H' :=
  ⟨fun c o n1 n2 h => s _ _ (b.ext c o n1 n2 h), b.kq.trans (.same s), fun t e => (b.tape t e).same s, fun P hP => by
    obtain ⟨ps, h, k⟩ := b.tabs P hP
    exact ⟨ps, s _ _ h, k⟩⟩
theorem few_same {b : Bool} {tp : Option Tp} {c : Nat} (f : Few tp c H) (tape : ∀ t, tp = some t → TapeV b H t) (s : ∀ t, tp = some t → ∀ o, H t.l = some o → H' t.l = some o) : Few tp c H' := fun t xs e h => by
  obtain ⟨ns, p, n, z, h1, h2, _⟩ := tape t e
  have := s t e _ h2
  rw [h] at this
  cases this
  exact f t _ e h2
theorem Rep.same (r : Rep Γ E σ H) (s : Same H H') : Rep Γ E σ H' :=
  ⟨r.base.same s, r.len, few_same r.few r.base.tape fun t _ o h => s _ _ h, fun i x e => by
    obtain ⟨o, h1, h2⟩ := r.sl i x e
    exact ⟨o, h1, h2.stay (.same s) fun a u _ _ h => s _ _ h⟩, r.dis⟩
structure Ext (Γ : Gm) (c : Nat) (H H' : Hp) : Prop where
  ext : ∀ b o, ¬ Γ.sp b → H b = some o → H' b = some o
  tape : ∀ t, Γ.tp = some t → TapeV Γ.b H' t
  few : Few Γ.tp c H'
  tabs : ∀ P ∈ Γ.tabs, GxR.TabG H' P
theorem Base.sp_lst (b : Base Γ H) {a : Addr} (h : Γ.sp a) : (∃ xs, H a = some (.lst xs)) ∨ ∃ ps, H a = some (.tbl ps) := by
  rcases h with ⟨t, e, h⟩ | h
  · obtain ⟨ns, p, n, s, h1, h2, _⟩ := b.tape t e
    rcases h with rfl | rfl
    · exact .inl ⟨_, h1⟩
    · exact .inl ⟨_, h2⟩
  · obtain ⟨ps, h1, _⟩ := b.tabs a h
    exact .inr ⟨ps, h1⟩
theorem Ext.kq {c : Nat} (b : Base Γ H) (x : Ext Γ c H H') : Kq H H' := by
  refine ⟨fun c u h => x.ext _ _ ?_ h, fun c o u h => x.ext _ _ ?_ h⟩ <;>
  · intro z
    rcases b.sp_lst z with ⟨_, e⟩ | ⟨_, e⟩ <;> (rw [e] at h; cases h)
theorem Rep.call {c : Nat} (r : Rep Γ E σ H) (x : Ext Γ c H H') : Rep Γ ⟨E.l, c⟩ σ H' := by
  have k := x.kq r.base
  refine ⟨⟨fun c o n1 n2 h => x.ext _ _ n1 (r.base.ext c o n1 n2 h), r.base.kq.trans k, x.tape, x.tabs⟩, r.len, x.few, fun i s e => ?_, r.dis⟩
  obtain ⟨o, h1, h2⟩ := r.sl i s e
  refine ⟨o, h1, h2.stay k fun a u ow eo h => ?_⟩
  obtain ⟨b, _, e1, _, _, fr⟩ := h2.own_at ow
  rw [e1] at eo
  cases eo
  exact x.ext _ _ fr.nsp h
theorem Rep.fresh (r : Rep Γ E σ H) {p : Addr} (n : H p = none) : Free Γ p ∧ Lone E σ p := by
  refine ⟨⟨?_, fun z => ?_⟩, fun j s e ow eo => ?_⟩
  · cases h : Γ.H0 p with
    | none => exact .inl rfl
    | some o =>
      by_cases hio : p ∈ Γ.io
      · exact .inr hio
      · refine absurd (r.base.ext p o (fun z => ?_) hio h) (by rw [n]; intro z; cases z)
        rcases r.base.sp_lst z with ⟨_, e⟩ | ⟨_, e⟩ <;> (rw [n] at e; cases e)
  · rcases r.base.sp_lst z with ⟨_, e⟩ | ⟨_, e⟩ <;> (rw [n] at e; cases e)
  · obtain ⟨o, h1, h2⟩ := r.sl j s e
    obtain ⟨b, u, e1, e2, _⟩ := h2.own_at ow
    rw [h1, e1] at eo
    cases eo
    rw [n] at e2
    cases e2
theorem get_set {α : Type} {l : List α} {i j : Nat} {x y : α} (h : (l.set i x)[j]? = some y) : (i = j ∧ x = y ∧ i < l.length) ∨ (i ≠ j ∧ l[j]? = some y) := by
  by_cases e : i = j
  · subst e
    by_cases hi : i < l.length
    · rw [List.getElem?_set_self hi] at h
      cases h
      exact .inl ⟨rfl, rfl, hi⟩
    · rw [List.getElem?_eq_none (by simpa using hi)] at h
      cases h
  · rw [List.getElem?_set_ne e] at h
    exact .inr ⟨e, h⟩
theorem Rep.set (r : Rep Γ E σ H) (i : Nat) {v : V} {d : D} (h : Γ.Rp H v d) : Rep Γ (E.set i (.v d)) (σ.set i (some v)) H := by
  refine ⟨r.base, by simp [En.set, r.len], r.few, fun j s e => ?_, fun j k s t a e1 e2 o1 o2 h1 h2 => ?_⟩
  · rcases get_set e with ⟨rfl, rfl, hi⟩ | ⟨ne, e⟩
    · exact ⟨some v, List.getElem?_set_self (by rw [← r.len]; exact hi), v, rfl, h⟩
    · rw [List.getElem?_set_ne ne]
      exact r.sl j s e
  · rcases get_set e1 with ⟨_, rfl, _⟩ | ⟨n1, e1⟩
    · cases o1
    · rcases get_set e2 with ⟨_, rfl, _⟩ | ⟨n2, e2⟩
      · cases o2
      · rw [List.getElem?_set_ne n1] at h1
        rw [List.getElem?_set_ne n2] at h2
        exact r.dis j k s t a e1 e2 o1 o2 h1 h2
theorem Rep.setO (r : Rep Γ E σ H) (i : Nat) {p : Addr} {s : SV} (h : RepS Γ H (some (.ref p)) s) (lo : Lone E σ p) : Rep Γ (E.set i s) (σ.set i (some (.ref p))) H := by
  refine ⟨r.base, by simp [En.set, r.len], r.few, fun j s' e => ?_, fun j k s' t a e1 e2 o1 o2 h1 h2 => ?_⟩
  · rcases get_set e with ⟨rfl, rfl, hi⟩ | ⟨ne, e⟩
    · exact ⟨_, List.getElem?_set_self (by rw [← r.len]; exact hi), h⟩
    · rw [List.getElem?_set_ne ne]
      exact r.sl j s' e
  · rcases get_set e1 with ⟨rfl, rfl, hi⟩ | ⟨n1, e1⟩
    · rcases get_set e2 with ⟨rfl, _, _⟩ | ⟨n2, e2⟩
      · rfl
      · rw [List.getElem?_set_self (by rw [← r.len]; exact hi)] at h1
        rw [List.getElem?_set_ne n2] at h2
        cases h1
        exact absurd h2 (lo k t e2 o2)
    · rcases get_set e2 with ⟨rfl, rfl, hi⟩ | ⟨n2, e2⟩
      · rw [List.getElem?_set_self (by rw [← r.len]; exact hi)] at h2
        rw [List.getElem?_set_ne n1] at h1
        cases h2
        exact absurd h1 (lo j s' e1 o1)
      · rw [List.getElem?_set_ne n1] at h1
        rw [List.getElem?_set_ne n2] at h2
        exact r.dis j k s' t a e1 e2 o1 o2 h1 h2
theorem Rep.wr (r : Rep Γ E σ H) {i : Nat} {s s' : SV} {p : Addr} {u u' : HO} (e : E.l[i]? = some s) (ow : s.own = true) (eo : σ[i]? = some (some (.ref p))) (hp : H p = some u) (mu : Mut (some u))
    (h : RepS Γ (upd H p u') (some (.ref p)) s') : Rep Γ (E.set i s') σ (upd H p u') := by
  obtain ⟨o, h1, h2⟩ := r.sl i s e
  obtain ⟨b, u0, e1, e2, m0, fr⟩ := h2.own_at ow
  rw [h1] at eo
  cases eo
  cases e1
  rw [hp] at e2
  cases e2
  have hi := (List.getElem?_eq_some_iff.mp e).1
  have nsp : ∀ c, Γ.sp c → c ≠ p := fun c z q => fr.nsp (q ▸ z)
  refine ⟨⟨fun c o n1 n2 hc => ?_, r.base.kq.trans (Kq.upd hp mu), fun t et => ?_, fun P hP => ?_⟩, by simp [En.set, r.len], few_same r.few r.base.tape (fun t et o h => by rw [upd_ne (nsp t.l (.inl ⟨t, et, .inr rfl⟩))]; exact h), fun j s2 ej => ?_, fun j k s2 t a e1 e2 o1 o2 h3 h4 => ?_⟩
  · rw [upd_ne ?_]
    · exact r.base.ext c o n1 n2 hc
    · rintro rfl
      rcases fr.young with z | z
      · rw [z] at hc; cases hc
      · exact n2 z
  · have := r.base.tape t et
    refine this.upd ⟨?_, ?_⟩
    · exact fun q => nsp t.a (.inl ⟨t, et, .inl rfl⟩) q.symm
    · exact fun q => nsp t.l (.inl ⟨t, et, .inr rfl⟩) q.symm
  · obtain ⟨ps, h3, k⟩ := r.base.tabs P hP
    exact ⟨ps, by rw [upd_ne (nsp P (.inr hP))]; exact h3, k⟩
  · rcases get_set ej with ⟨rfl, rfl, _⟩ | ⟨ne, ej⟩
    · exact ⟨_, h1, h⟩
    · obtain ⟨o3, h3, h4⟩ := r.sl j s2 ej
      refine ⟨o3, h3, h4.stay (Kq.upd hp mu) fun a w ow2 eo2 ha => ?_⟩
      rw [upd_ne ?_]
      · exact ha
      · rintro rfl
        rw [eo2] at h3
        exact ne (r.dis i j s s2 _ e ej ow ow2 h1 h3)
  · have own : ∀ (j : Nat) (s3 : SV), (E.set i s').l[j]? = some s3 → s3.own = true → ∃ s4, E.l[j]? = some s4 ∧ s4.own = true := fun j s3 e3 o3 => by
      rcases get_set e3 with ⟨rfl, rfl, _⟩ | ⟨ne, e3⟩
      · exact ⟨s, e, ow⟩
      · exact ⟨s3, e3, o3⟩
    obtain ⟨s5, e5, o5⟩ := own j s2 e1 o1
    obtain ⟨s6, e6, o6⟩ := own k t e2 o2
    exact r.dis j k s5 s6 a e5 e6 o5 o6 h3 h4
end
end Va
set_option Elab.async false
set_option linter.all false
set_option maxRecDepth 100000
set_option maxHeartbeats 4000000
namespace Va
open PySem PySem.Spec PyProof.Rows L2 Ind
structure Sg where
  K : PySem.W.Frag
  b : Bool
  tabs : List Addr
structure Gm.Ok (Γ : Gm) (S : Sg) : Prop where
  k : Γ.K = S.K
  b : Γ.b = S.b
  t : Γ.tabs = S.tabs
inductive RV where
  | v (d : D)
  | fl (ds : List D)
  | fd (kvs : List (Key × D))
def RV.d : RV → D
  | .v d => d
  | .fl ds => .lst ds
  | .fd kvs => .dk kvs
def RV.sv : RV → SV
  | .v d => .v d
  | .fl ds => .ol ds
  | .fd kvs => .od false kvs
def RepR (Γ : Gm) (E : En) (σ : L2.St) (H : Hp) (v : V) : RV → Prop
  | .v d => Γ.Rp H v d
  | .fl ds => ∃ a, v = .ref a ∧ RepS Γ H (some (.ref a)) (.ol ds) ∧ Lone E σ a
  | .fd kvs => ∃ a, v = .ref a ∧ RepS Γ H (some (.ref a)) (.od false kvs) ∧ Lone E σ a
abbrev VT := En → (D → En → Prop) → Prop
abbrev FT := En → (RV → En → Prop) → Prop
abbrev VTT := En → (Bool → En → Prop) → Prop
abbrev VTA := En → (List D → En → Prop) → Prop
inductive RpW (Γ : Gm) (H : Hp) : V → D → Prop
  | v {v : V} {d : D} : Γ.Rp H v d → RpW Γ H v d
  | l {a : Addr} {xs : List V} {ds : List D} : H a = some (.lst xs) → Γ.RpL H xs ds → RpW Γ H (.ref a) (.lst ds)
  | k {a : Addr} {kv : List (Key × V)} {ds : List (Key × D)} : H a = some (.dK kv) → RpK Γ.K Γ.tp H kv ds → RpW Γ H (.ref a) (.dk ds)
def liftV (S : Sg) (t : VT) : TE := fun σ H Q => ∃ (Γ : Gm) (E : En) (Q0 : D → En → Prop), Γ.Ok S ∧ Rep Γ E σ H ∧ t E Q0 ∧ ∀ d E', Q0 d E' → ∀ v H', Kq H H' → Rep Γ E' σ H' → Γ.Rp H' v d → Q v H'
def liftB (S : Sg) (t : VT) : TE := fun σ H Q => ∃ (Γ : Gm) (E : En) (Q0 : D → En → Prop), Γ.Ok S ∧ Rep Γ E σ H ∧ t E Q0 ∧ ∀ d E', Q0 d E' → ∀ v H', Kq H H' → Rep Γ E' σ H' → RpW Γ H' v d → Q v H'
def liftF (S : Sg) (t : FT) : TE := fun σ H Q => ∃ (Γ : Gm) (E : En) (Q0 : RV → En → Prop), Γ.Ok S ∧ Rep Γ E σ H ∧ t E Q0 ∧ ∀ r E', Q0 r E' → ∀ v H', Kq H H' → Rep Γ E' σ H' → RepR Γ E' σ H' v r → Q v H'
def liftT (S : Sg) (t : VTT) : TT := fun σ H Q => ∃ (Γ : Gm) (E : En) (Q0 : Bool → En → Prop), Γ.Ok S ∧ Rep Γ E σ H ∧ t E Q0 ∧ ∀ b E', Q0 b E' → ∀ H', Kq H H' → Rep Γ E' σ H' → Q b H'
def liftA (S : Sg) (t : VTA) : TA := fun σ H Q => ∃ (Γ : Gm) (E : En) (Q0 : List D → En → Prop), Γ.Ok S ∧ Rep Γ E σ H ∧ t E Q0 ∧ ∀ ds E', Q0 ds E' → ∀ vs H', Kq H H' → Rep Γ E' σ H' → Γ.RpL H' vs ds → Q vs H'
abbrev VE (S : Sg) (X : Cx) (e : Expr) (t : VT) : Prop := PE X e (liftV S t)
abbrev BE (S : Sg) (X : Cx) (e : Expr) (t : VT) : Prop := PE X e (liftB S t)
abbrev FE (S : Sg) (X : Cx) (e : Expr) (t : FT) : Prop := PE X e (liftF S t)
abbrev VB (S : Sg) (X : Cx) (e : Expr) (t : VTT) : Prop := PT X e (liftT S t)
abbrev VA (S : Sg) (X : Cx) (es : List Expr) (t : VTA) : Prop := PA X es (liftA S t)
section
variable {X : Cx} {S : Sg} {e a b : Expr}
theorem pe_weak {t t' : TE} (h : PE X e t) (w : ∀ σ H Q, t' σ H Q → t σ H Q) : PE X e t' := ⟨fun pins s σ H Q I q => h.run pins s σ H Q I (w _ _ _ q)⟩
theorem pt_weak {t t' : TT} (h : PT X e t) (w : ∀ σ H Q, t' σ H Q → t σ H Q) : PT X e t' := ⟨fun pins s σ H Q I q => h.run pins s σ H Q I (w _ _ _ q)⟩
theorem pa_weak {es : List Expr} {t t' : TA} (h : PA X es t) (w : ∀ σ H Q, t' σ H Q → t σ H Q) : PA X es t' := ⟨fun pos pins s σ H Q I q => h.run pos pins s σ H Q I (w _ _ _ q)⟩
theorem ps_weak {st : Stmt} {t t' : TS} (h : PS X st t) (w : ∀ D σ H, t' D σ H → t D σ H) : PS X st t' := ⟨fun pins s σ H D I q => h.run pins s σ H D I (w _ _ _ q)⟩
theorem pss_weak {st : List Stmt} {t t' : TS} (h : PSs X st t) (w : ∀ D σ H, t' D σ H → t D σ H) : PSs X st t' := ⟨fun pins s σ H D I q => h.run pins s σ H D I (w _ _ _ q)⟩
theorem pe_frz {t : TE} (h : PE X e t) : PE X e (fun σ H Q => t σ H fun v H' => Q v H' ∨ ∃ a u, v = .ref a ∧ H' a = some u ∧ Mut (some u) ∧ ∀ o, Q v (upd H' a (.frz o u))) := by
  refine ⟨fun pins s σ H Q I q => ?_⟩
  refine thn (h.run pins s σ H _ I q) fun v s1 ⟨x, H1, I1, r1, q1⟩ => ?_
  rcases q1 with q1 | ⟨a, u, rfl, hu, mu, q1⟩
  · exact ⟨x, H1, I1, r1, q1⟩
  · obtain ⟨o, I2⟩ := I1.lock hu mu
    exact ⟨_, _, I2, r1, q1 o⟩
theorem pe_lockS {t : TE} (i : Nat) (h : PE X e t) : PE X e (fun σ H Q => t σ H Q ∨ ∃ a u, σ[i]? = some (some (.ref a)) ∧ H a = some u ∧ Mut (some u) ∧ ∀ o, t σ (upd H a (.frz o u)) Q) := by
  refine ⟨fun pins s σ H Q I q => ?_⟩
  rcases q with q | ⟨a, u, _, hu, mu, q⟩
  · exact h.run pins s σ H Q I q
  · obtain ⟨o, I2⟩ := I.lock hu mu
    exact h.run pins s σ _ Q I2 (q o)
end
section
variable {Γ : Gm} {E : En} {σ : L2.St} {H H' : Hp}
theorem Rep.lone (r : Rep Γ E σ H) {p : Addr} {u u' : HO} (hp : H p = some u) (mu : Mut (some u)) (fr : Free Γ p) (lo : Lone E σ p) : Rep Γ E σ (upd H p u') := by
  have nsp : ∀ c, Γ.sp c → c ≠ p := fun c z q => fr.nsp (q ▸ z)
  refine ⟨⟨fun c o n1 n2 hc => ?_, r.base.kq.trans (Kq.upd hp mu), fun t et => ?_, fun P hP => ?_⟩, r.len, few_same r.few r.base.tape (fun t et o h => by rw [upd_ne (nsp t.l (.inl ⟨t, et, .inr rfl⟩))]; exact h), fun j s2 ej => ?_, r.dis⟩
  · rw [upd_ne ?_]
    · exact r.base.ext c o n1 n2 hc
    · rintro rfl
      rcases fr.young with z | z
      · rw [z] at hc; cases hc
      · exact n2 z
  · exact (r.base.tape t et).upd ⟨fun q => nsp t.a (.inl ⟨t, et, .inl rfl⟩) q.symm, fun q => nsp t.l (.inl ⟨t, et, .inr rfl⟩) q.symm⟩
  · obtain ⟨ps, h3, k⟩ := r.base.tabs P hP
    exact ⟨ps, by rw [upd_ne (nsp P (.inr hP))]; exact h3, k⟩
  · obtain ⟨o3, h3, h4⟩ := r.sl j s2 ej
    refine ⟨o3, h3, h4.stay (Kq.upd hp mu) fun a w ow2 eo2 ha => ?_⟩
    rw [upd_ne ?_]
    · exact ha
    · rintro rfl
      rw [eo2] at h3
      exact lo j s2 ej ow2 h3
def SV.fz : SV → SV
  | .ol ds => .v (.lst ds)
  | .od _ kvs => .v (.dk kvs)
  | s => s
def SV.lk : SV → Bool
  | .ol _ => true
  | .od _ _ => true
  | _ => false
def pkD : SV → Option D
  | .no => none
  | .v d => some d
  | .ol ds => some (.lst ds)
  | .od _ kvs => some (.dk kvs)
  | .ex _ _ => none
  | .q _ => none
  | .ow _ (.ls ds) => some (.lst ds)
  | .ow _ (.dk kvs) => some (.dk kvs)
  | .ow _ (.ob _) => none
theorem Rep.lock (r : Rep Γ E σ H) {i : Nat} {s : SV} {p : Addr} {u : HO} {o : Obj} (e : E.l[i]? = some s) (ow : s.lk = true) (eo : σ[i]? = some (some (.ref p))) (hp : H p = some u) (mu : Mut (some u)) :
    Rep Γ (E.set i s.fz) σ (upd H p (.frz o u)) ∧ ∃ d, s.fz = .v d ∧ Γ.Rp (upd H p (.frz o u)) (.ref p) d := by
  obtain ⟨o1, h1, h2⟩ := r.sl i s e
  rw [eo] at h1
  cases h1
  have kq : Kq H (upd H p (.frz o u)) := Kq.upd hp mu
  have key : ∃ d, s.fz = .v d ∧ Γ.Rp (upd H p (.frz o u)) (.ref p) d := by
    cases s with
    | no => cases ow
    | v d => cases ow
    | ol ds =>
      obtain ⟨a, xs, h3, h4, h5, h6⟩ := h2
      cases h3
      rw [hp] at h4
      cases h4
      exact ⟨_, rfl, .lst ⟨o, upd_same⟩ (RpL.kq kq _ _ h5)⟩
    | od b ds =>
      obtain ⟨a, xs, h3, h4, h5, h6⟩ := h2
      cases h3
      rw [hp] at h4
      cases h4
      exact ⟨_, rfl, .dk (o := o) upd_same (RpK.kq kq _ _ h5)⟩
    | ex b pl => cases ow
    | q b => cases ow
    | ow k c => cases ow
  have ow2 : s.own = true := by
    cases s with
    | ol ds => rfl
    | od b ds => rfl
    | _ => cases ow
  refine ⟨r.wr e ow2 eo hp mu ?_, key⟩
  obtain ⟨d, e1, e2⟩ := key
  rw [e1]
  exact ⟨_, rfl, e2⟩
theorem RepR.lock {v : V} {x : RV} (r : Rep Γ E σ H) (h : RepR Γ E σ H v x) : (Γ.Rp H v x.d) ∨ ∃ a u, v = .ref a ∧ H a = some u ∧ Mut (some u) ∧ ∀ o, Rep Γ E σ (upd H a (.frz o u)) ∧ Kq H (upd H a (.frz o u)) ∧ Γ.Rp (upd H a (.frz o u)) v x.d := by
  cases x with
  | v d => exact .inl h
  | fl ds =>
    obtain ⟨a, rfl, ⟨a', xs, h3, h4, h5, h6⟩, lo⟩ := h
    cases h3
    have kq : ∀ o, Kq H (upd H a (.frz o (.lst xs))) := fun o => Kq.upd h4 trivial
    exact .inr ⟨a, _, rfl, h4, trivial, fun o => ⟨r.lone h4 trivial h6 lo, kq o, .lst ⟨o, upd_same⟩ (RpL.kq (kq o) _ _ h5)⟩⟩
  | fd ds =>
    obtain ⟨a, rfl, ⟨a', xs, h3, h4, h5, h6, _⟩, lo⟩ := h
    cases h3
    have kq : ∀ o, Kq H (upd H a (.frz o (.dK xs))) := fun o => Kq.upd h4 trivial
    exact .inr ⟨a, _, rfl, h4, trivial, fun o => ⟨r.lone h4 trivial h6 lo, kq o, .dk (o := o) upd_same (RpK.kq (kq o) _ _ h5)⟩⟩
theorem RepS.rpW {o : Option V} {s : SV} {d : D} (h : RepS Γ H o s) (e : pkD s = some d) : ∃ v, o = some v ∧ RpW Γ H v d := by
  cases s with
  | no => cases e
  | v d =>
    cases e
    obtain ⟨v, rfl, h⟩ := h
    exact ⟨v, rfl, .v h⟩
  | ol ds =>
    cases e
    obtain ⟨a, xs, rfl, h4, h5, h6⟩ := h
    exact ⟨_, rfl, .l h4 h5⟩
  | od b ds =>
    cases e
    obtain ⟨a, xs, rfl, h4, h5, h6⟩ := h
    exact ⟨_, rfl, .k h4 h5⟩
  | ex b pl => cases e
  | q b => cases e
  | ow k c =>
    cases c with
    | ls ds =>
      cases e
      obtain ⟨a, u, rfl, h4, ⟨xs, rfl, h5⟩, h6⟩ := h
      exact ⟨_, rfl, .l h4 h5⟩
    | dk kvs =>
      cases e
      obtain ⟨a, u, rfl, h4, ⟨xs, rfl, h5⟩, h6⟩ := h
      exact ⟨_, rfl, .k h4 h5⟩
    | ob b => cases e
end
section
variable {X : Cx} {S : Sg} {e a b : Expr}
def peek (E : En) (i : Nat) : Option D := (E.l[i]?).bind pkD
def withD (o : Option D) (Q : D → Prop) : Prop := match o with
  | some d => Q d
  | none => False
def withP (o : Option D) (Q : D → Prop) : Prop := match o with
  | some d => Q d
  | none => False
def vName (i : Nat) : VT := fun E Q => match E.l[i]? with
  | some (.v d) => Q d E
  | some (.ol ds) => Q (.lst ds) (E.set i (.v (.lst ds)))
  | some (.od _ kvs) => Q (.dk kvs) (E.set i (.v (.dk kvs)))
  | _ => False
def bName (i : Nat) : VT := fun E Q => withP (peek E i) fun d => Q d E
theorem peek_at {Γ : Gm} {E : En} {σ : L2.St} {H : Hp} {i : Nat} {d : D} (r : Rep Γ E σ H) (e : peek E i = some d) : ∃ v, σ[i]? = some (some v) ∧ RpW Γ H v d := by
  unfold peek at e
  cases h : E.l[i]? with
  | none => rw [h] at e; cases e
  | some s =>
    rw [h] at e
    obtain ⟨o, h1, h2⟩ := r.sl i s h
    obtain ⟨v, rfl, w⟩ := h2.rpW (d := d) e
    exact ⟨v, h1, w⟩
theorem be_name {i : Nat} (h : PE X e (tVar i)) : BE S X e (bName i) := by
  refine pe_weak h ?_
  rintro σ H Q ⟨Γ, E, Q0, ok, r, ht, k⟩
  unfold bName withP at ht
  cases hp : peek E i with
  | none => rw [hp] at ht; exact ht.elim
  | some d =>
    rw [hp] at ht
    obtain ⟨v, h1, w⟩ := peek_at r hp
    exact ⟨v, h1, k d E ht v H (Kq.refl _) r w⟩
theorem ve_name {i : Nat} (h : PE X e (tVar i)) : VE S X e (vName i) := by
  refine pe_weak (pe_frz h) ?_
  rintro σ H Q ⟨Γ, E, Q0, ok, r, ht, k⟩
  unfold vName at ht
  cases hE : E.l[i]? with
  | none => rw [hE] at ht; exact ht.elim
  | some s =>
    rw [hE] at ht
    obtain ⟨o, h1, h2⟩ := r.sl i s hE
    have own : s.lk = true → Q0 (match s.fz with | .v d => d | _ => .non) (E.set i s.fz) → tVar i σ H fun v H' => Q v H' ∨ ∃ a u, v = .ref a ∧ H' a = some u ∧ Mut (some u) ∧ ∀ o, Q v (upd H' a (.frz o u)) := by
      intro ow hq
      have ow2 : s.own = true := by
        cases s with
        | ol ds => rfl
        | od b ds => rfl
        | _ => cases ow
      obtain ⟨p, u, rfl, hu, mu, fr⟩ := h2.own_at ow2
      refine ⟨_, h1, .inr ⟨p, u, rfl, hu, mu, fun o => ?_⟩⟩
      obtain ⟨r2, d, e1, e2⟩ := r.lock (o := o) hE ow h1 hu mu
      rw [e1] at hq r2
      exact k d _ hq _ _ (Kq.upd hu mu) r2 e2
    cases s with
    | no => exact ht.elim
    | v d =>
      obtain ⟨v, rfl, hv⟩ := h2
      exact ⟨v, h1, .inl (k d E ht v H (Kq.refl _) r hv)⟩
    | ol ds => exact own rfl ht
    | od b kvs => exact own rfl ht
    | ex b pl => exact ht.elim
    | q b => exact ht.elim
    | ow k c => exact ht.elim
def vC (d : D) : VT := fun E Q => Q d E
theorem ve_c {v : V} {d : D} (h : PE X e (tC v)) (r : ∀ Γ H, Gm.Rp Γ H v d) : VE S X e (vC d) := by
  refine pe_weak h ?_
  rintro σ H Q ⟨Γ, E, Q0, ok, rp, ht, k⟩
  exact k d E ht v H (Kq.refl _) rp (r Γ H)
theorem ve_int {i j pos} : VE S X (.Constant (.int i) j pos) (vC (.int i)) := ve_c pe_int fun _ _ => .int i
theorem ve_bl {b j pos} : VE S X (.Constant (.bool b) j pos) (vC (.bl b)) := ve_c pe_bl fun _ _ => .bl b
theorem ve_non {j pos} : VE S X (.Constant .none j pos) (vC .non) := ve_c pe_non fun _ _ => .non
theorem ve_str {x j pos} : VE S X (.Constant (.str x) j pos) (vC (.str x)) := ve_c pe_str fun _ _ => .str x
def fz (t : FT) : VT := fun E Q => t E fun r E' => Q r.d E'
def ff (t : VT) : FT := fun E Q => t E fun d E' => Q (.v d) E'
theorem ve_of {t : FT} (h : FE S X e t) : VE S X e (fz t) := by
  refine pe_weak (pe_frz h) ?_
  rintro σ H Q ⟨Γ, E, Q0, ok, r, ht, k⟩
  refine ⟨Γ, E, _, ok, r, ht, fun x E' hq v H' kq r' hv => ?_⟩
  rcases hv.lock r' with h1 | ⟨p, u, rfl, hu, mu, h1⟩
  · exact .inl (k _ _ hq _ _ kq r' h1)
  · exact .inr ⟨p, u, rfl, hu, mu, fun o => k _ _ hq _ _ (kq.trans (h1 o).2.1) (h1 o).1 (h1 o).2.2⟩
theorem fe_of {t : VT} (h : VE S X e t) : FE S X e (ff t) := by
  refine pe_weak h ?_
  rintro σ H Q ⟨Γ, E, Q0, ok, r, ht, k⟩
  exact ⟨Γ, E, _, ok, r, ht, fun d E' hq v H' kq r' hv => k _ _ hq v H' kq r' hv⟩
theorem be_of {t : VT} (h : VE S X e t) : BE S X e t := by
  refine pe_weak h ?_
  rintro σ H Q ⟨Γ, E, Q0, ok, r, ht, k⟩
  exact ⟨Γ, E, _, ok, r, ht, fun d E' hq v H' kq r' hv => k _ _ hq v H' kq r' (.v hv)⟩
abbrev VO := D → D → (RV → Prop) → Prop
def RpN (Γ : Gm) (H H' : Hp) (v : V) : RV → Prop
  | .v d => Γ.Rp H' v d
  | .fl ds => ∃ a xs, v = .ref a ∧ H a = none ∧ H' a = some (.lst xs) ∧ Γ.RpL H' xs ds
  | .fd kvs => ∃ a kv, v = .ref a ∧ H a = none ∧ H' a = some (.dK kv) ∧ RpK Γ.K Γ.tp H' kv kvs
theorem RpN.rep {Γ : Gm} {E : En} {σ : L2.St} {H H' : Hp} {v : V} {x : RV} (r : Rep Γ E σ H) (s : Same H H') (h : RpN Γ H H' v x) : RepR Γ E σ H' v x := by
  cases x with
  | v d => exact h
  | fl ds =>
    obtain ⟨p, xs, rfl, n, h1, h2⟩ := h
    obtain ⟨f, l⟩ := r.fresh n
    exact ⟨p, rfl, ⟨p, xs, rfl, h1, h2, f⟩, l⟩
  | fd ds =>
    obtain ⟨p, xs, rfl, n, h1, h2⟩ := h
    obtain ⟨f, l⟩ := r.fresh n
    exact ⟨p, rfl, ⟨p, xs, rfl, h1, h2, f, fun z => by cases z⟩, l⟩
structure OpV (S : Sg) (X : Cx) (f : Value → Value → Sem Value) (g : VO) : Prop where
  ex : ∃ r : R2, OpR X f r ∧ ∀ (Γ : Gm) (H : Hp) (x y : V) (d e : D) (Q : VK) (Q0 : RV → Prop), Γ.K = S.K → RpW Γ H x d → RpW Γ H y e → g d e Q0 → (∀ z, Q0 z → ∀ v H', Same H H' → RpN Γ H H' v z → Q v H') → r x y H Q
def vOp (g : VO) (ta tb : VT) : FT := fun E Q => ta E fun d E1 => tb E1 fun e E2 => g d e fun z => Q z E2
theorem fe_op {op : Operator} {g : VO} {ta tb : VT} {pos : Pos} (ho : OpV S X (binaryOp op) g) (ha : VE S X a ta) (hb : BE S X b tb) : FE S X (.BinOp a op b pos) (vOp g ta tb) := by
  obtain ⟨r, h1, h2⟩ := ho.ex
  refine pe_weak (pe_op h1 ha hb) ?_
  rintro σ H Q ⟨Γ, E, Q0, ok, rp, ht, k⟩
  refine ⟨Γ, E, _, ok, rp, ht, fun d E1 hq x H1 kq1 rp1 hx => ?_⟩
  refine ⟨Γ, E1, _, ok, rp1, hq, fun e E2 hq2 y H2 kq2 rp2 hy => ?_⟩
  refine h2 Γ H2 x y d e _ _ ok.k (.v (Rp.kq kq2 _ _ hx)) hy hq2 fun z hz v H' sm hn => ?_
  exact k _ _ hz v H' ((kq1.trans kq2).trans (Kq.same sm)) (rp2.same sm) (hn.rep rp2 sm)
theorem fe_cmp {op : CmpOp} {g : VO} {ta tb : VT} {pos : Pos} (ho : OpV S X (compareOp op) g) (ha : VE S X a ta) (hb : BE S X b tb) (hm : behindInMarks op b = false) : FE S X (.Compare a [op] [b] pos) (vOp g ta tb) := by
  obtain ⟨r, h1, h2⟩ := ho.ex
  refine pe_weak (pe_cmpR h1 ha hb hm) ?_
  rintro σ H Q ⟨Γ, E, Q0, ok, rp, ht, k⟩
  refine ⟨Γ, E, _, ok, rp, ht, fun d E1 hq x H1 kq1 rp1 hx => ?_⟩
  refine ⟨Γ, E1, _, ok, rp1, hq, fun e E2 hq2 y H2 kq2 rp2 hy => ?_⟩
  refine h2 Γ H2 x y d e _ _ ok.k (.v (Rp.kq kq2 _ _ hx)) hy hq2 fun z hz v H' sm hn => ?_
  exact k _ _ hz v H' ((kq1.trans kq2).trans (Kq.same sm)) (rp2.same sm) (hn.rep rp2 sm)
def asB (d : D) (Q : Bool → Prop) : Prop := match d with
  | .bl b => Q b
  | _ => False
def vTest (t : VT) : VTT := fun E Q => t E fun d E' => asB d fun b => Q b E'
theorem asB_inv {d : D} {Q : Bool → Prop} (h : asB d Q) : ∃ b, d = .bl b ∧ Q b := by
  cases d with
  | bl b => exact ⟨b, rfl, h⟩
  | _ => exact h.elim
theorem vb_cmp {op : CmpOp} {g : VO} {ta tb : VT} {pos : Pos} (ho : OpV S X (compareOp op) g) (ha : VE S X a ta) (hb : BE S X b tb) (hm : behindInMarks op b = false) : VB S X (.Compare a [op] [b] pos) (vTest (fz (vOp g ta tb))) := by
  obtain ⟨r, h1, h2⟩ := ho.ex
  refine pt_weak (pt_cmpR h1 ha hb hm) ?_
  rintro σ H Q ⟨Γ, E, Q0, ok, rp, ht, k⟩
  refine ⟨Γ, E, _, ok, rp, ht, fun d E1 hq x H1 kq1 rp1 hx => ?_⟩
  refine ⟨Γ, E1, _, ok, rp1, hq, fun e E2 hq2 y H2 kq2 rp2 hy => ?_⟩
  refine h2 Γ H2 x y d e _ _ ok.k (.v (Rp.kq kq2 _ _ hx)) hy hq2 fun z hz v H' sm hn => ?_
  obtain ⟨b, e1, hb⟩ := asB_inv hz
  cases z with
  | v d =>
    cases e1
    cases hn
    exact ⟨b, rfl, k _ _ hb _ ((kq1.trans kq2).trans (Kq.same sm)) (rp2.same sm)⟩
  | fl ds => cases e1
  | fd ds => cases e1
def truD : D → Option Bool
  | .non => some false
  | .bl b => some b
  | .int i => some (i != 0)
  | .str x => if x.length ≤ sizeLine then some ((x.length : Int) != 0) else none
  | .tup xs => some (!xs.isEmpty)
  | .ptp _ => none
  | .lst xs => some (!xs.isEmpty)
  | .dk _ => none
  | .tape => none
  | .ty _ => none
  | .ob _ => none
def withB (o : Option Bool) (Q : Bool → Prop) : Prop := match o with
  | some d => Q d
  | none => False
def vTru (t : VT) : VTT := fun E Q => t E fun d E' => withB (truD d) fun b => Q b E'
theorem empty_len {α β : Type} {xs : List α} {ys : List β} (h : xs.length = ys.length) : xs.isEmpty = ys.isEmpty := by
  cases xs <;> cases ys <;> first | rfl | (simp at h)
theorem RpK.len {K : PySem.W.Frag} {tp : Option Tp} {H : Hp} {kv : List (Key × V)} {ds : List (Key × D)} (h : RpK K tp H kv ds) : kv.length = ds.length := by
  have := congrArg List.length h.keys
  simpa using this
theorem tru_of {Γ : Gm} {H : Hp} {v : V} {d : D} {b : Bool} (ok : Γ.K = X.K) (h : RpW Γ H v d) (e : truD d = some b) : TruV X.K v H b := by
  cases h with
  | l h1 h2 =>
    cases e
    exact .inl ⟨_, .of h1, by rw [empty_len h2.len]⟩
  | k h1 h2 => cases e
  | v h =>
    cases d with
    | non => cases h; cases e; exact rfl
    | bl b => cases h; cases e; exact rfl
    | int i => cases h; cases e; exact rfl
    | str x =>
      cases h
      have e : (if x.length ≤ sizeLine then some ((x.length : Int) != 0) else none) = some b := e
      by_cases hl : x.length ≤ sizeLine
      · rw [if_pos hl] at e; cases e; exact ⟨hl, rfl⟩
      · rw [if_neg hl] at e; cases e
    | tup ds =>
      obtain ⟨p, xs, rfl, h1, h2⟩ := h.tup_inv
      cases e
      exact .inr (.inl ⟨_, by rw [← ok]; exact h1, by rw [empty_len h2.len]⟩)
    | lst ds =>
      obtain ⟨p, xs, rfl, h1, h2⟩ := h.lst_inv
      cases e
      exact .inl ⟨_, by rw [← ok]; exact h1.sq, by rw [empty_len h2.len]⟩
    | dk ds =>
      cases e
    | ptp ds => cases e
    | tape => cases e
    | ty n => cases e
    | ob b => cases e
theorem withB_inv {d : Option Bool} {Q : Bool → Prop} (h : withB d Q) : ∃ b, d = some b ∧ Q b := by
  cases d with
  | none => exact h.elim
  | some b => exact ⟨b, rfl, h⟩
theorem vb_tru {t : VT} (hK : S.K = X.K) (h : BE S X e t) (he : ∀ whole, isTrue e X.env whole = (do let v ← whole; standAt e.pos; holding [v] (truthy v)) := by intro _; rfl) : VB S X e (vTru t) := by
  refine pt_weak (pt_truth h he) ?_
  rintro σ H Q ⟨Γ, E, Q0, ok, rp, ht, k⟩
  refine ⟨Γ, E, _, ok, rp, ht, fun d E1 hq x H1 kq1 rp1 hx => ?_⟩
  obtain ⟨b, e1, hb⟩ := withB_inv hq
  exact ⟨b, tru_of (ok.k.trans hK) hx e1, k _ _ hb _ kq1 rp1⟩
def vAnd (t u : VTT) : VTT := fun E Q => t E fun c E1 => (c = true → u E1 Q) ∧ (c = false → Q false E1)
def vOr (t u : VTT) : VTT := fun E Q => t E fun c E1 => (c = true → Q true E1) ∧ (c = false → u E1 Q)
def vNot (t : VTT) : VTT := fun E Q => t E fun c E1 => Q (!c) E1
abbrev VW (S : Sg) (X : Cx) (e : Expr) (t : VTT) : Prop := PW X e (liftT S t)
theorem pw_weak {t t' : TT} (h : PW X e t) (w : ∀ σ H Q, t' σ H Q → t σ H Q) : PW X e t' := ⟨fun wh pins s σ H Q I q => h.run wh pins s σ H Q I (w _ _ _ q)⟩
variable {rest : List Expr} {pos : Pos}
theorem vw_and1 {t : VTT} (ha : VB S X a t) : VW S X (.BoolOp .And [a] pos) t := pw_and1 ha
theorem vw_or1 {t : VTT} (ha : VB S X a t) : VW S X (.BoolOp .Or [a] pos) t := pw_or1 ha
theorem vw_and {t u : VTT} (ha : VB S X a t) (hb : VW S X (.BoolOp .And (b :: rest) pos) u) : VW S X (.BoolOp .And (a :: b :: rest) pos) (vAnd t u) := by
  refine pw_weak (pw_and ha hb) ?_
  rintro σ H Q ⟨Γ, E, Q0, ok, rp, ht, k⟩
  refine ⟨Γ, E, _, ok, rp, ht, fun c E1 hq H1 kq1 rp1 => ?_⟩
  cases c with
  | true =>
    refine iteT ?_
    exact ⟨Γ, E1, _, ok, rp1, hq.1 rfl, fun c E2 hq2 H2 kq2 rp2 => k _ _ hq2 _ (kq1.trans kq2) rp2⟩
  | false =>
    refine iteF ?_
    exact k _ _ (hq.2 rfl) _ kq1 rp1
theorem vw_or {t u : VTT} (ha : VB S X a t) (hb : VW S X (.BoolOp .Or (b :: rest) pos) u) : VW S X (.BoolOp .Or (a :: b :: rest) pos) (vOr t u) := by
  refine pw_weak (pw_or ha hb) ?_
  rintro σ H Q ⟨Γ, E, Q0, ok, rp, ht, k⟩
  refine ⟨Γ, E, _, ok, rp, ht, fun c E1 hq H1 kq1 rp1 => ?_⟩
  cases c with
  | true =>
    refine iteT ?_
    exact k _ _ (hq.1 rfl) _ kq1 rp1
  | false =>
    refine iteF ?_
    exact ⟨Γ, E1, _, ok, rp1, hq.2 rfl, fun c E2 hq2 H2 kq2 rp2 => k _ _ hq2 _ (kq1.trans kq2) rp2⟩
theorem vb_w {t : VTT} (h : VW S X e t) : VB S X e t := h.pt
theorem vb_not {t : VTT} (ha : VB S X a t) : VB S X (.UnaryOp .Not a pos) (vNot t) := by
  refine pt_weak (pt_not ha) ?_
  rintro σ H Q ⟨Γ, E, Q0, ok, rp, ht, k⟩
  exact ⟨Γ, E, _, ok, rp, ht, fun c E1 hq H1 kq1 rp1 => k _ _ hq _ kq1 rp1⟩
def vAndV (t u : VT) : VT := fun E Q => t E fun d E1 => asB d fun c => (c = true → u E1 Q) ∧ (c = false → Q (.bl false) E1)
def vNotV (t : VT) : VT := fun E Q => t E fun d E1 => asB d fun c => Q (.bl (!c)) E1
theorem ve_one {op} {t : VT} (h : VE S X a t) : VE S X (.BoolOp op [a] pos) t := pe_one h
theorem ve_and {t u : VT} (ha : VE S X a t) (hb : VE S X (.BoolOp .And (b :: rest) pos) u) : VE S X (.BoolOp .And (a :: b :: rest) pos) (vAndV t u) := by
  refine pe_weak (pe_and ha hb) ?_
  rintro σ H Q ⟨Γ, E, Q0, ok, rp, ht, k⟩
  refine ⟨Γ, E, _, ok, rp, ht, fun d E1 hq v H1 kq1 rp1 hv => ?_⟩
  obtain ⟨c, rfl, hc⟩ := asB_inv hq
  cases hv
  refine ⟨c, rfl, ?_⟩
  cases c with
  | true => exact iteT ⟨Γ, E1, _, ok, rp1, hc.1 rfl, fun c E2 hq2 v2 H2 kq2 rp2 hv2 => k _ _ hq2 _ _ (kq1.trans kq2) rp2 hv2⟩
  | false => exact iteF (k _ _ (hc.2 rfl) _ _ kq1 rp1 (.bl false))
theorem ve_not {t : VT} (ha : VE S X a t) : VE S X (.UnaryOp .Not a pos) (vNotV t) := by
  refine pe_weak (pe_not ha) ?_
  rintro σ H Q ⟨Γ, E, Q0, ok, rp, ht, k⟩
  refine ⟨Γ, E, _, ok, rp, ht, fun d E1 hq v H1 kq1 rp1 hv => ?_⟩
  obtain ⟨c, rfl, hc⟩ := asB_inv hq
  cases hv
  exact ⟨c, rfl, k _ _ hc _ _ kq1 rp1 (.bl _)⟩
def aNil : VTA := fun E Q => Q [] E
def aCons (t : VT) (u : VTA) : VTA := fun E Q => t E fun d E1 => u E1 fun ds E2 => Q (d :: ds) E2
variable {es : List Expr}
theorem va_nil : VA S X [] aNil := by
  refine pa_weak pa_nil ?_
  rintro σ H Q ⟨Γ, E, Q0, ok, rp, ht, k⟩
  exact k _ _ ht _ _ (Kq.refl _) rp .nil
theorem va_cons {t : VT} {u : VTA} (ha : VE S X e t) (hr : VA S X es u) (hs : starEach (e :: es) X.env = (false, eval e X.env) :: starEach es X.env := by rfl) : VA S X (e :: es) (aCons t u) := by
  refine pa_weak (pa_cons ha hr hs) ?_
  rintro σ H Q ⟨Γ, E, Q0, ok, rp, ht, k⟩
  refine ⟨Γ, E, _, ok, rp, ht, fun d E1 hq v H1 kq1 rp1 hv => ?_⟩
  refine ⟨Γ, E1, _, ok, rp1, hq, fun ds E2 hq2 vs H2 kq2 rp2 hvs => ?_⟩
  exact k _ _ hq2 _ _ (kq1.trans kq2) rp2 (.cons (Rp.kq kq2 _ _ hv) hvs)
def vTup (t : VTA) : VT := fun E Q => t E fun ds E1 => ds.length ≤ 1000 ∧ Q (.tup ds) E1
def vLst (t : VTA) : FT := fun E Q => t E fun ds E1 => ds.length ≤ 1000 ∧ Q (.fl ds) E1
theorem ve_tup {x1} {t : VTA} (h : VA S X es t) : VE S X (.Tuple es x1 pos) (vTup t) := by
  refine pe_weak (pe_tup h) ?_
  rintro σ H Q ⟨Γ, E, Q0, ok, rp, ht, k⟩
  refine ⟨Γ, E, _, ok, rp, ht, fun ds E1 hq vs H1 kq1 rp1 hvs => ⟨line (by rw [hvs.len]; exact hq.1), fun p np => ?_⟩⟩
  have sm := same_upd (o := .tup vs) np
  exact k _ _ hq.2 _ _ (kq1.trans (Kq.same sm)) (rp1.same sm) (.tup (.of upd_same) (RpL.kq (Kq.same sm) _ _ hvs))
theorem fe_lst {t : VTA} (h : VA S X es t) : FE S X (.List es pos) (vLst t) := by
  refine pe_weak (pe_lst h) ?_
  rintro σ H Q ⟨Γ, E, Q0, ok, rp, ht, k⟩
  refine ⟨Γ, E, _, ok, rp, ht, fun ds E1 hq vs H1 kq1 rp1 hvs => ⟨line (by rw [hvs.len]; exact hq.1), fun p np => ?_⟩⟩
  have sm := same_upd (o := .lst vs) np
  refine k _ _ hq.2 _ _ (kq1.trans (Kq.same sm)) (rp1.same sm) (RpN.rep (x := .fl ds) rp1 sm ⟨p, vs, rfl, np, upd_same, RpL.kq (Kq.same sm) _ _ hvs⟩)
end
end Va
set_option Elab.async false
set_option linter.all false
set_option maxRecDepth 100000
set_option maxHeartbeats 4000000
namespace Ind
open PySem PySem.Spec PyProof.Rows L2 IndG
theorem boot_all : bootBuiltins "all" = some (.builtin "all") := by first | rfl | decide | exact PyProof.Rows.Boot.«all»
structure FunC (K : PySem.W.Frag) (x qual : Str) (st : Stmt) (f : Addr) (fd : FuncData) (c : Addr) : Prop where
  ex : ∃ (oc : Value) (od : Option Addr) (kV doc pm : Value) (an : Option Addr) (ct : Value) (osl : Array (Option Value)),
    fd = PySem.W.fnOf x qual (defArgs st) (defBody st) (defScope st) .none kV doc pm an (.ref c) ct ∧ K.lookup f = some ⟨oc, od, .func fd, osl⟩ ∧ PySem.W.codeIn K (.ref c) qual = true
theorem FunC.okC {P : Program} {w : World} {K : PySem.W.Frag} {mg : Str → Option Value} {base : Heap} {x qual : Str} {st : Stmt} {f c : Addr} {fd : FuncData} {N ps : List Str} {k : Nat} {sp : Sp} (F : FunC K x qual st f fd c) (S : FnScope N ps (defScope st))
    (len : ∀ vs H Q E, sp vs H Q E → vs.length = ps.length)
    (body : ∀ (A : Around) (outer : List Env) (s : Shared) (H : Hp) (vs : List V) (Q : VK) (E : XK), Room k (A.deeper (envOfC qual (defScope st) s.heap.objs.size f (.ref c))) → sp vs H Q E →
      ∃ t, PSs (cxOf CX0 P w K mg base N qual (defScope st) f (.ref c) A outer s H E).nox (defBody st) t ∧ t { nx := fun _ H' => Q .non H', rt := Q } (start N vs) H) : FnOk P w K mg base CX0 (k + 1) f fd ps sp := by
  obtain ⟨oc, od, kV, doc, pm, an, ct, osl, rfl, lk, hcd⟩ := F.ex
  refine fn_of lk hcd S len fun A outer s H vs Q E hr h => ?_
  obtain ⟨t, ht, q⟩ := body A outer s H vs Q E hr h
  exact ⟨t, ht.nox, q⟩
structure Tb where
  name : S
  cols : List (S × Bool)
  key : PyData
  limit : Int
def cwD (c : S × Bool) : PyData := .tuple [.str c.1, .str (wordS c.2)]
def Pv : V → Prop
  | .int _ => True
  | .str _ => True
  | _ => False
def fitsB (v : V) (b : Bool) : Bool := match v with
  | .int i => !b && (decide (-1000000 ≤ i) && decide (i ≤ 1000000))
  | .str _ => b
  | _ => false
structure Mv (P : Addr) (H H' : Hp) : Prop where
  st : ∀ b o, b ≠ P → H b = some o → H' b = some o
  tab : GxR.TabG H' P
theorem Mv.kp {P : Addr} {H H' : Hp} (t : GxR.TabG H P) (m : Mv P H H') : Kp H H' := by
  obtain ⟨ps, hp, _⟩ := t
  refine ⟨fun c x h => m.st _ _ ?_ h, fun c o x h => m.st _ _ ?_ h⟩ <;> (intro e; rw [e, hp] at h; cases h)
theorem Mv.of {P : Addr} {H H' : Hp} (t : GxR.Tabbed P H H') : Mv P H H' := ⟨fun b o n h => by rw [t.2 b n]; exact h, t.1⟩
theorem Mv.refl {P : Addr} {H : Hp} (t : GxR.TabG H P) : Mv P H H := ⟨fun _ _ _ h => h, t⟩
theorem Mv.trans {P : Addr} {H H1 H2 : Hp} (a : Mv P H H1) (b : Mv P H1 H2) : Mv P H H2 := ⟨fun c o n h => b.st c o n (a.st c o n h), b.tab⟩
theorem Mv.new {P a : Addr} {H H' : Hp} {o : HO} (m : Mv P H H') (n : H' a = none) : Mv P H (L2.upd H' a o) := by
  refine ⟨fun b u nb h => ?_, ?_⟩
  · have e := m.st b u nb h
    rw [upd_ne (ne_of_none e n)]; exact e
  · obtain ⟨ps, hp, t⟩ := m.tab
    exact ⟨ps, by rw [upd_ne (ne_of_none hp n)]; exact hp, t⟩
def fitAt (vs : List V) (cs : List (S × Bool)) (j : Nat) : Bool := match (vs.zip cs)[j]? with
  | some p => fitsB p.1 p.2.2
  | none => true
theorem fit_at {vs : List V} {cs : List (S × Bool)} {j : Nat} {v : V} {c : S × Bool} (h1 : vs[j]? = some v) (h2 : cs[j]? = some c) : fitAt vs cs j = fitsB v c.2 := by
  unfold fitAt
  rw [show (vs.zip cs)[j]? = some (v, c) from List.getElem?_zip_eq_some.mpr ⟨h1, h2⟩]
theorem cut_whole {xs : List V} {lo hi : Option Int} (h : HT.sIx xs.length 0 lo = 0 ∧ HT.sIx xs.length xs.length hi = xs.length) : cutV xs lo hi = xs := by
  unfold cutV
  rw [h.1, h.2, List.drop_zero, Nat.sub_zero, List.take_of_length_le (Nat.le_refl _)]
end Ind
set_option Elab.async false
set_option linter.all false
set_option maxRecDepth 100000
set_option maxHeartbeats 4000000
namespace Va
open PySem PySem.Spec PyProof.Rows L2 Ind
structure Ve where
  nx : En → Prop
  rt : D → En → Prop
  bk : En → Prop := fun _ => False
  ct : En → Prop := fun _ => False
abbrev VS := Ve → En → Prop
structure EndsOk (Γ : Gm) (V : Ve) (D : Ends) (H : Hp) : Prop where
  nx : ∀ E, V.nx E → ∀ σ' H', Kq H H' → Rep Γ E σ' H' → D.nx σ' H'
  rt : ∀ d E, V.rt d E → ∀ v σ' H', Kq H H' → Rep Γ E σ' H' → Γ.Rp H' v d → D.rt v H'
  bk : ∀ E, V.bk E → ∀ σ' H', Kq H H' → Rep Γ E σ' H' → D.bk σ' H'
  ct : ∀ E, V.ct E → ∀ σ' H', Kq H H' → Rep Γ E σ' H' → D.ct σ' H'
theorem EndsOk.kq {Γ : Gm} {V : Ve} {D : Ends} {H H' : Hp} (k : EndsOk Γ V D H) (q : Kq H H') : EndsOk Γ V D H' :=
  ⟨fun E h σ H2 q2 r => k.nx E h σ H2 (q.trans q2) r, fun d E h v σ H2 q2 r rv => k.rt d E h v σ H2 (q.trans q2) r rv, fun E h σ H2 q2 r => k.bk E h σ H2 (q.trans q2) r, fun E h σ H2 q2 r => k.ct E h σ H2 (q.trans q2) r⟩
def liftS (S : Sg) (t : VS) : TS := fun D σ H => ∃ (Γ : Gm) (E : En) (V : Ve), Γ.Ok S ∧ Rep Γ E σ H ∧ t V E ∧ EndsOk Γ V D H
abbrev VSt (S : Sg) (X : Cx) (st : Stmt) (t : VS) : Prop := PS X st (liftS S t)
abbrev VSs (S : Sg) (X : Cx) (st : List Stmt) (t : VS) : Prop := PSs X st (liftS S t)
def sNx : VS := fun V E => V.nx E
def sSeq (t u : VS) : VS := fun V E => t { V with nx := u V } E
section
variable {X : Cx} {S : Sg} {e : Expr} {st : Stmt} {rest : List Stmt} {pos : Pos}
theorem vss_nil : VSs S X [] sNx := by
  refine pss_weak pss_nil ?_
  rintro D σ H ⟨Γ, E, V, ok, r, h, k⟩
  exact k.nx E h σ H (Kq.refl _) r
theorem vss_one {t : VS} (h : VSt S X st t) : VSs S X [st] t := pss_one h
theorem vss_cons {t u : VS} (h : VSt S X st t) (g : VSs S X rest u) : VSs S X (st :: rest) (sSeq t u) := by
  refine pss_weak (pss_cons h g) ?_
  rintro D σ H ⟨Γ, E, V, ok, r, h, k⟩
  exact ⟨Γ, E, _, ok, r, h, fun E1 h1 σ1 H1 q1 r1 => ⟨Γ, E1, V, ok, r1, h1, k.kq q1⟩, k.rt, k.bk, k.ct⟩
def sRt (t : VT) : VS := fun V E => t E fun d E1 => V.rt d E1
theorem vs_ret {t : VT} (he : VE S X e t) : VSt S X (.Return (some e) pos) (sRt t) := by
  refine ps_weak (ps_ret he) ?_
  rintro D σ H ⟨Γ, E, V, ok, r, h, k⟩
  exact ⟨Γ, E, _, ok, r, h, fun d E1 h1 v H1 q1 r1 hv => k.rt d E1 h1 v σ H1 q1 r1 hv⟩
def sIf (c : VTT) (t u : VS) : VS := fun V E => c E fun b E1 => (b = true → t V E1) ∧ (b = false → u V E1)
theorem vs_if {c : Expr} {a b : List Stmt} {tc : VTT} {t u : VS} (hc : VB S X c tc) (ha : VSs S X a t) (hb : VSs S X b u) : VSt S X (.If c a b pos) (sIf tc t u) := by
  refine ps_weak (ps_if hc ha hb) ?_
  rintro D σ H ⟨Γ, E, V, ok, r, h, k⟩
  refine ⟨Γ, E, _, ok, r, h, fun b E1 h1 H1 q1 r1 => ?_⟩
  cases b with
  | true => exact iteT ⟨Γ, E1, V, ok, r1, h1.1 rfl, k.kq q1⟩
  | false => exact iteF ⟨Γ, E1, V, ok, r1, h1.2 rfl, k.kq q1⟩
def sSet (i : Nat) (t : FT) : VS := fun V E => t E fun r E1 => V.nx (E1.set i r.sv)
theorem RepR.set {Γ : Gm} {E : En} {σ : L2.St} {H : Hp} {v : V} {x : RV} (r : Rep Γ E σ H) (h : RepR Γ E σ H v x) (i : Nat) : Rep Γ (E.set i x.sv) (σ.set i (some v)) H := by
  cases x with
  | v d => exact r.set i h
  | fl ds =>
    obtain ⟨p, rfl, h1, h2⟩ := h
    exact r.setO i h1 h2
  | fd ds =>
    obtain ⟨p, rfl, h1, h2⟩ := h
    exact r.setO i h1 h2
theorem vs_set {i : Nat} {x : PySem.Str} {t : FT} {pos' : Pos} (hN : X.N.Nodup) (hi : X.N[i]? = some x) (hx : Loc X.env.scope x) (he : FE S X e t) (hs : swapsWith e (some (.Name x pos')) pos.line X.env = pure false := by rfl) (hf : X.fn x = true ∨ X.env.scope.names.lookup x = some .local := by first | exact .inl rfl | exact .inr rfl | assumption) :
    VSt S X (.Assign [.Name x pos'] e pos) (sSet i t) := by
  refine ps_weak (ps_set hN hi hx he hs hf) ?_
  rintro D σ H ⟨Γ, E, V, ok, r, h, k⟩
  exact ⟨Γ, E, _, ok, r, h, fun d E1 h1 v H1 q1 r1 hv => k.nx _ h1 _ H1 q1 (hv.set r1 i)⟩
abbrev VG := D → En → (En → Prop) → Prop
abbrev VGs := List D → En → (En → Prop) → Prop
structure Only (is : List Nat) (σ σ' : L2.St) : Prop where
  len : σ'.length = σ.length
  at_ : ∀ j, j ∉ is → σ'[j]? = σ[j]?
theorem Only.refl {is : List Nat} {σ : L2.St} : Only is σ σ := ⟨rfl, fun _ _ => rfl⟩
theorem Only.trans {is : List Nat} {σ σ1 σ2 : L2.St} (a : Only is σ σ1) (b : Only is σ1 σ2) : Only is σ σ2 := ⟨b.len.trans a.len, fun j h => (b.at_ j h).trans (a.at_ j h)⟩
theorem Only.mono {is js : List Nat} {σ σ' : L2.St} (a : Only is σ σ') (h : ∀ i ∈ is, i ∈ js) : Only js σ σ' := ⟨a.len, fun j hj => a.at_ j fun z => hj (h j z)⟩
def liftG (S : Sg) (is : List Nat) (g : VG) : TG := fun v σ H Q => ∃ (Γ : Gm) (E : En) (d : D) (Q0 : En → Prop), Γ.Ok S ∧ Rep Γ E σ H ∧ Γ.Rp H v d ∧ g d E Q0 ∧ ∀ E', Q0 E' → ∀ σ', Rep Γ E' σ' H → Only is σ σ' → Q σ' H
def liftGs (S : Sg) (is : List Nat) (g : VGs) : TGs := fun vs σ H Q => ∃ (Γ : Gm) (E : En) (ds : List D) (Q0 : En → Prop), Γ.Ok S ∧ Rep Γ E σ H ∧ Γ.RpL H vs ds ∧ g ds E Q0 ∧ ∀ E', Q0 E' → ∀ σ', Rep Γ E' σ' H → Only is σ σ' → Q σ' H
theorem pg_weak {t t' : TG} (h : PG X e t) (w : ∀ v σ H Q, t' v σ H Q → t v σ H Q) : PG X e t' := ⟨fun pins s σ H v u Q I r q => h.run pins s σ H v u Q I r (w _ _ _ _ q)⟩
theorem pgs_weak {es : List Expr} {t t' : TGs} (h : PGs X es t) (w : ∀ v σ H Q, t' v σ H Q → t v σ H Q) : PGs X es t' := ⟨fun pins s σ H v u Q I r q => h.run pins s σ H v u Q I r (w _ _ _ _ q)⟩
def gN (i : Nat) : VG := fun d E Q => Q (E.set i (.v d))
theorem vg_name {i : Nat} {x : PySem.Str} (is : List Nat) (hm : i ∈ is) (hN : X.N.Nodup) (hi : X.N[i]? = some x) (hx : Loc X.env.scope x) (hf : X.fn x = true ∨ X.env.scope.names.lookup x = some .local := by first | exact .inl rfl | exact .inr rfl | assumption) : PG X (.Name x pos) (liftG S is (gN i)) := by
  refine pg_weak (pg_name hN hi hx hf) ?_
  rintro v σ H Q ⟨Γ, E, d, Q0, ok, r, hv, hg, k⟩
  refine k _ hg _ (r.set i hv) ⟨by simp, fun j hj => ?_⟩
  rw [List.getElem?_set_ne]
  rintro rfl
  exact hj hm
def gsNil : VGs := fun ds E Q => match ds with
  | [] => Q E
  | _ => False
def gsCons (g : VG) (u : VGs) : VGs := fun ds E Q => match ds with
  | d :: r => g d E fun E1 => u r E1 Q
  | [] => False
theorem vgs_nil (is : List Nat) : PGs X [] (liftGs S is gsNil) := by
  refine pgs_weak pgs_nil ?_
  rintro v σ H Q ⟨Γ, E, ds, Q0, ok, r, hv, hg, k⟩
  cases ds with
  | nil => cases hv; exact ⟨rfl, k _ hg _ r .refl⟩
  | cons d ds => exact hg.elim
theorem vgs_cons {is : List Nat} {es : List Expr} {g : VG} {u : VGs} (h1 : PG X e (liftG S is g)) (h2 : PGs X es (liftGs S is u))
    (hs : (assignEach (e :: es) X.env).map (·.2) = assign e X.env :: (assignEach es X.env).map (·.2) := by rfl) : PGs X (e :: es) (liftGs S is (gsCons g u)) := by
  refine pgs_weak (pgs_cons h1 h2 hs) ?_
  rintro v σ H Q ⟨Γ, E, ds, Q0, ok, r, hv, hg, k⟩
  cases ds with
  | nil => exact hg.elim
  | cons d ds =>
    cases hv with
    | cons hv1 hv2 =>
      exact ⟨_, _, rfl, Γ, E, d, _, ok, r, hv1, hg, fun E1 q1 σ1 r1 o1 => ⟨Γ, E1, ds, _, ok, r1, hv2, q1, fun E2 q2 σ2 r2 o2 => k _ q2 _ r2 (o1.trans o2)⟩⟩
def gT (n : Nat) (u : VGs) : VG := fun d E Q => match d with
  | .tup ds => ds.length = n ∧ u ds E Q
  | _ => False
theorem vg_tup {is : List Nat} {es : List Expr} {k : Nat} {u : VGs} (n : Nat) (hK : S.K = X.K) (hc : X.calm = true) (h : PGs X es (liftGs S is u)) (hn : (assignEach es X.env).length = n) (hst : (assignEach es X.env).findIdx? (·.1) = none) : PG X (.Tuple es k pos) (liftG S is (gT n u)) := by
  refine pg_weak (pg_tup hc h hn hst) ?_
  rintro v σ H Q ⟨Γ, E, d, Q0, ok, r, hv, hg, k⟩
  cases d with
  | tup ds =>
    obtain ⟨a, xs, rfl, h1, h2⟩ := hv.tup_inv
    exact ⟨a, xs, rfl, by rw [← hK, ← ok.k]; exact h1, h2.len.trans hg.1, Γ, E, ds, _, ok, r, h2, hg.2, k⟩
  | _ => exact hg.elim
abbrev VI := En → (List D → En → Prop) → Prop
structure ItOk (Γ : Gm) (J : It) (ds : List D) (Hb : Hp) : Prop where
  go : ∀ i H, i < ds.length → Kq Hb H → J.go i H
  yld : ∀ i H x H', i < ds.length → Kq Hb H → J.yld i H x H' → ∃ d, ds[i]? = some d ∧ Γ.Rp H' x d ∧ Same H H'
  stop : ∀ H, Kq Hb H → J.stop ds.length H
def liftI (S : Sg) (t : VI) : TI := fun σ H R => ∃ (Γ : Gm) (E : En) (Q0 : List D → En → Prop), Γ.Ok S ∧ Rep Γ E σ H ∧ t E Q0 ∧ ∀ ds E', Q0 ds E' → ∀ J H', Kq H H' → Rep Γ E' σ H' → ItOk Γ J ds H' → R J H'
abbrev VIt (S : Sg) (X : Cx) (tg e : Expr) (t : VI) : Prop := PI X tg e (liftI S t)
theorem pi_weak {tg : Expr} {t t' : TI} (h : PI X tg e t) (w : ∀ σ H Q, t' σ H Q → t σ H Q) : PI X tg e t' := ⟨fun pins s σ H Q I q => h.run pins s σ H Q I (w _ _ _ q)⟩
theorem it_tup {Γ : Gm} {H : Hp} {a : Addr} {xs : List V} {ds : List D} (h : SqT Γ.K H a xs) (r : Γ.RpL H xs ds) : ItOk Γ (Itt Γ.K a) ds H := by
  refine ⟨fun i H1 hi q => ?_, fun i H1 x H2 hi q y => ?_, fun H1 q => ⟨xs, q.sqT h, by rw [r.len]; exact Nat.le_refl _⟩⟩
  · obtain ⟨v, e, _⟩ := r.get (List.getElem?_eq_getElem hi)
    exact ⟨xs, v, q.sqT h, e⟩
  · obtain ⟨rfl, y⟩ := y
    obtain ⟨v, e, rv⟩ := r.get (List.getElem?_eq_getElem hi)
    have := y xs (q.sqT h)
    rw [e] at this
    cases this
    exact ⟨_, List.getElem?_eq_getElem hi, Rp.kq q _ _ rv, fun _ _ z => z⟩
theorem it_lst {Γ : Gm} {H : Hp} {a : Addr} {xs : List V} {ds : List D} (h : FzL Γ.K H a xs) (r : Γ.RpL H xs ds) : ItOk Γ (Itl Γ.K a) ds H := by
  refine ⟨fun i H1 hi q => ?_, fun i H1 x H2 hi q y => ?_, fun H1 q => ⟨xs, (q.fzL h).sq, by rw [r.len]; exact Nat.le_refl _⟩⟩
  · obtain ⟨v, e, _⟩ := r.get (List.getElem?_eq_getElem hi)
    exact ⟨xs, v, (q.fzL h).sq, e⟩
  · obtain ⟨rfl, y⟩ := y
    obtain ⟨v, e, rv⟩ := r.get (List.getElem?_eq_getElem hi)
    have := y xs (q.fzL h).sq
    rw [e] at this
    cases this
    exact ⟨_, List.getElem?_eq_getElem hi, Rp.kq q _ _ rv, fun _ _ z => z⟩
def one (c : Nat) : D := .str ⟨#[c]⟩
def signs (x : Tx) : List D := x.cps.toList.map one
theorem it_str {Γ : Gm} {H : Hp} (x : Tx) : ItOk Γ (Its x) (signs x) H := by
  have sz : (signs x).length = x.cps.size := by unfold signs; rw [List.length_map, Array.length_toList]
  refine ⟨fun i H1 hi q => by rw [sz] at hi; exact hi, fun i H1 v H2 hi q y => ?_, fun H1 q => by rw [sz]; exact Nat.le_refl _⟩
  obtain ⟨rfl, c, ec, rfl⟩ := y
  refine ⟨one c, ?_, .str _, fun _ _ z => z⟩
  unfold signs
  rw [List.getElem?_map, Array.getElem?_toList, ec]
  rfl
def key : Key → D
  | .inl i => .int i
  | .inr x => .str x
theorem key_rp {Γ : Gm} {H : Hp} (k : Key) : Γ.Rp H (kV k) (key k) := by
  cases k with
  | inl i => exact .int i
  | inr x => exact .str x
theorem it_dk {Γ : Gm} {H : Hp} {a : Addr} {o : Obj} {kv : List (Key × V)} {ds : List (Key × D)} (h : H a = some (.frz o (.dK kv))) (r : RpK Γ.K Γ.tp H kv ds) : ItOk Γ (Itk a o kv) (ds.map fun p => key p.1) H := by
  have len : (ds.map fun p => key p.1).length = kv.length := by rw [List.length_map, r.len]
  refine ⟨fun i H1 hi q => ⟨q.frz _ _ _ h, by rw [← len]; exact hi⟩, fun i H1 x H2 hi q y => ?_, fun H1 q => ⟨q.frz _ _ _ h, by rw [len]; exact Nat.le_refl _⟩⟩
  obtain ⟨rfl, k, v, ek, rfl⟩ := y
  have e2 : (kv.map (·.1))[i]? = some k := by rw [List.getElem?_map, ek]; rfl
  rw [r.keys, List.getElem?_map] at e2
  refine ⟨key k, ?_, key_rp k, fun _ _ z => z⟩
  rw [List.getElem?_map]
  cases ed : ds[i]? with
  | none => rw [ed] at e2; cases e2
  | some p => rw [ed] at e2; cases e2; rfl
theorem pi_any {tg : Expr} {te : TE} (hl : PE X e te) : PI X tg e (fun σ H R => te σ H fun x H1 => (∃ a xs, x = .ref a ∧ SqL X.K H1 a xs ∧ R (Itl X.K a) H1) ∨ (∃ a xs, x = .ref a ∧ SqT X.K H1 a xs ∧ R (Itt X.K a) H1) ∨ (∃ z, x = .str z ∧ R (Its z) H1) ∨
    ∃ d o kvs, x = .ref d ∧ H1 d = some (.frz o (.dK kvs)) ∧ R (Itk d o kvs) H1) := by
  constructor
  intro pins s σ H R I h
  refine thn (hl.run pins s σ H _ I h) ?_
  rintro v s1 ⟨x, H1, I1, r1, ⟨p, xs, rfl, hq, q⟩ | ⟨p, xs, rfl, hq, q⟩ | ⟨z, rfl, q⟩ | ⟨p, o, kvs, rfl, hd, q⟩⟩
  · cases r1
    obtain ⟨its, rv, pl, hz⟩ := I1.list hq
    exact wpAny_pyIter_list pl.isList (pi_one (tk := s1.toks) I1 _ (turn_list p _) ⟨_, Heap.get?_push_size _ rfl, rfl, rfl⟩ q)
  · cases r1
    obtain ⟨its, rv, pl, hz⟩ := I1.tuple hq
    exact wpAny_pyIter_tuple (show s1.heap.IsTuple p its.toArray from pl) (pi_one (tk := s1.toks) I1 _ (turn_tuple p _) ⟨_, Heap.get?_push_size _ rfl, rfl, rfl⟩ q)
  · obtain ⟨t, rfl⟩ := r1
    by_cases ha : z.cps.all (· < 128) = true
    · exact wpAny_pyIter_ascii ha (pi_one (tk := s1.toks) I1 _ (turn_str _ z t "str_ascii_iterator" (.inl rfl)) ⟨_, Heap.get?_push_size _ rfl, rfl, rfl⟩ q)
    · exact wpAny_pyIter_wide (by simpa using ha) (pi_one (tk := s1.toks) I1 _ (turn_str _ z t "str_iterator" (.inr rfl)) ⟨_, Heap.get?_push_size _ rfl, rfl, rfl⟩ q)
  · cases (show v = Value.ref p from r1)
    obtain ⟨z1, z2, z3, es, ep, vs, hdt, hsz, kv, hm⟩ := I1.frzK hd
    refine iter_keys z1 z2 z3 hdt (pi_one (tk := s1.toks) I1 _ (turn_keys _ hdt) ⟨_, Heap.get?_push_size _ rfl, rfl, ?_⟩ q)
    rw [hsz] <;> rfl
def itD (d : D) (Q : List D → Prop) : Prop := match d with
  | .lst ds => Q ds
  | .tup ds => Q ds
  | .ptp ds => Q ds
  | .str x => Q (signs x)
  | .dk kvs => Q (kvs.map fun p => key p.1)
  | _ => False
def vIt (t : VT) : VI := fun E Q => t E fun d E1 => itD d fun ds => Q ds E1
theorem vi_any {tg : Expr} {t : VT} (hK : S.K = X.K) (h : VE S X e t) : VIt S X tg e (vIt t) := by
  refine pi_weak (pi_any h) ?_
  rintro σ H Q ⟨Γ, E, Q0, ok, rp, ht, k⟩
  refine ⟨Γ, E, _, ok, rp, ht, fun d E1 hq x H1 kq1 rp1 hx => ?_⟩
  have eK : X.K = Γ.K := (ok.k.trans hK).symm
  cases d with
  | lst ds =>
    obtain ⟨p, xs, rfl, h1, h2⟩ := hx.lst_inv
    exact .inl ⟨p, xs, rfl, by rw [eK]; exact h1.sq, k _ _ hq _ _ kq1 rp1 (by rw [eK]; exact it_lst h1 h2)⟩
  | tup ds =>
    obtain ⟨p, xs, rfl, h1, h2⟩ := hx.tup_inv
    exact .inr (.inl ⟨p, xs, rfl, by rw [eK]; exact h1, k _ _ hq _ _ kq1 rp1 (by rw [eK]; exact it_tup h1 h2)⟩)
  | ptp ds =>
    obtain ⟨p, o, xs, rfl, h1, _, h2⟩ := hx.ptp_inv
    have h1 : SqT Γ.K H1 p xs := .inl (.inr ⟨o, h1⟩)
    exact .inr (.inl ⟨p, xs, rfl, by rw [eK]; exact h1, k _ _ hq _ _ kq1 rp1 (by rw [eK]; exact it_tup h1 h2)⟩)
  | str z =>
    cases hx
    exact .inr (.inr (.inl ⟨z, rfl, k _ _ hq _ _ kq1 rp1 (it_str z)⟩))
  | dk ds =>
    obtain ⟨p, o, kv, rfl, h1, h2⟩ := hx.dk_inv
    exact .inr (.inr (.inr ⟨p, o, kv, rfl, h1, k _ _ hq _ _ kq1 rp1 (it_dk h1 h2)⟩))
  | _ => exact hq.elim
def rng (lo : Int) (n : Nat) : List D := (List.range n).map fun i => .int (lo + (i : Nat))
theorem it_rng {Γ : Gm} {H : Hp} (lo : Int) (n : Nat) : ItOk Γ (Itr lo n) (rng lo n) H := by
  have sz : (rng lo n).length = n := by simp [rng]
  refine ⟨fun i H1 hi q => by rw [sz] at hi; exact hi, fun i H1 v H2 hi q y => ?_, fun H1 q => by rw [sz]; exact Nat.le_refl _⟩
  obtain ⟨rfl, rfl⟩ := y
  rw [sz] at hi
  exact ⟨.int (lo + i), by simp [rng, hi], .int _, fun _ _ z => z⟩
def vR1 (t : VTA) : VI := fun E Q => t E fun ds E1 => match ds with
  | [.int j] => (-(2 ^ 62) ≤ j ∧ j < 2 ^ 62) ∧ Q (rng 0 j.toNat) E1
  | _ => False
variable {a b : Expr} {p : Pos}
theorem vi_range1 {tg : Expr} {t : VTA} (hg : Gl X "range") (hm : X.mg "range" = none) (ha : VA S X [a] t) (hs : starEach [a] X.env = [(false, eval a X.env)] := by rfl) : VIt S X tg (.Call (.Name "range" p) [a] [] pos) (vR1 t) := by
  refine pi_weak (pi_range1 hg hm ha hs) ?_
  rintro σ H Q ⟨Γ, E, Q0, ok, rp, ht, k⟩
  refine ⟨Γ, E, _, ok, rp, ht, fun ds E1 hq vs H1 kq1 rp1 hvs => ?_⟩
  match ds, hq, hvs with
  | [.int j], hq, .cons h1 .nil =>
    cases h1
    exact ⟨j, rfl, hq.1.1, hq.1.2, k _ _ hq.2 _ _ kq1 rp1 (it_rng 0 _)⟩
def sFor (vi : VI) (g : VG) (tb : VS) : VS := fun V E => vi E fun ds E1 => ∃ P : Nat → En → Prop, P 0 E1 ∧ (∀ i d E, ds[i]? = some d → P i E → g d E fun E2 => tb { V with nx := P (i + 1), ct := P (i + 1), bk := V.nx } E2) ∧ ∀ E, P ds.length E → V.nx E
theorem vs_for {is : List Nat} {tg iter : Expr} {body : List Stmt} {vi : VI} {g : VG} {tb : VS} (hp : PassesOwn (model X.prog X.w) X.A X.env X.xe) (hc : X.calm = true) (hi : VIt S X tg iter vi) (hg : PG X tg (liftG S is g)) (hb : VSs S X body tb) (hs : ∀ x, foldedSetIterable iter X.env x = pure x := by intro _; rfl) : VSt S X (.For tg iter body [] pos) (sFor vi g tb) := by
  refine ps_weak (ps_for hp hc hi hg hb hs) ?_
  rintro D σ H ⟨Γ, E, V, ok, rp, ht, k⟩
  refine ⟨Γ, E, _, ok, rp, ht, fun ds E1 ⟨P, p0, ps, pn⟩ J H1 kq1 rp1 it => ?_⟩
  refine ⟨fun i m σ' H' => m = ds.length - i ∧ i ≤ ds.length ∧ ∃ E', P i E' ∧ Rep Γ E' σ' H' ∧ Kq H1 H', ⟨_, rfl, Nat.zero_le _, E1, p0, rp1, Kq.refl _⟩, ?_⟩
  rintro i m σ' H' ⟨rfl, hi, E', pi, rp', kq'⟩
  by_cases hlt : i < ds.length
  · refine .inr ⟨it.go i H' hlt kq', fun σ2 H2 => i + 1 ≤ ds.length ∧ ∃ E2, P (i + 1) E2 ∧ Rep Γ E2 σ2 H2 ∧ Kq H1 H2, fun σ2 H2 h => ⟨_, by omega, rfl, h⟩, fun x H2 y => ?_⟩
    obtain ⟨d, ed, rd, sm⟩ := it.yld i H' x H2 hlt kq' y
    have kq2 := kq'.trans (Kq.same sm)
    refine ⟨Γ, E', d, _, ok, rp'.same sm, rd, ps i d E' ed pi, fun E3 q3 σ3 r3 _ => ?_⟩
    refine ⟨Γ, E3, _, ok, r3, q3, fun E4 h4 σ4 H4 q4 r4 => ⟨hlt, E4, h4, r4, kq2.trans q4⟩, fun d4 E4 h4 v4 σ4 H4 q4 r4 rv4 => k.rt d4 E4 h4 v4 σ4 H4 ((kq1.trans kq2).trans q4) r4 rv4, fun E4 h4 σ4 H4 q4 r4 => k.nx E4 h4 σ4 H4 ((kq1.trans kq2).trans q4) r4, fun E4 h4 σ4 H4 q4 r4 => ⟨hlt, E4, h4, r4, kq2.trans q4⟩⟩
  · have e : i = ds.length := by omega
    subst e
    exact .inl ⟨it.stop H' kq', k.nx E' (pn E' pi) σ' H' (kq1.trans kq') rp'⟩
abbrev VM := List D → Nat → (D → Nat → Prop) → Prop
def spV (S : Sg) (m : VM) : Sp := fun vs H Q _ => ∃ (tp : Option Tp) (ds : List D) (c : Nat) (Q0 : D → Nat → Prop), RpL S.K tp H vs ds ∧ (∀ t, tp = some t → TapeV S.b H t) ∧ Few tp c H ∧ (∀ P ∈ S.tabs, GxR.TabG H P) ∧ m ds c Q0 ∧ ∀ d c', Q0 d c' → ∀ v H', Ext ⟨S.K, S.b, tp, S.tabs, [], H⟩ c' H H' → Rp S.K tp H' v d → Q v H'
def vCall (m : VM) (t : VTA) : VT := fun E Q => t E fun ds E1 => m ds E1.c fun d c => Q d ⟨E1.l, c⟩
theorem spV_of {Γ : Gm} {E : En} {σ : L2.St} {H : Hp} {m : VM} {vs : List V} {ds : List D} {Q : VK} {Ex : XK} {Q0 : D → Nat → Prop} (ok : Γ.Ok S) (r : Rep Γ E σ H) (hv : Γ.RpL H vs ds) (h : m ds E.c Q0) (k : ∀ d c, Q0 d c → ∀ v H', Kq H H' → Rep Γ ⟨E.l, c⟩ σ H' → Γ.Rp H' v d → Q v H') : spV S m vs H Q Ex := by
  obtain ⟨eK, eB, eT⟩ := ok
  refine ⟨Γ.tp, ds, E.c, Q0, by rw [← eK]; exact hv, by rw [← eB]; exact r.base.tape, r.few, by rw [← eT]; exact r.base.tabs, h, fun d c hd v H' x rv => ?_⟩
  have x' : Ext Γ c H H' := ⟨fun b o n => x.ext b o fun z => n (by
    rcases z with z | z
    · exact .inl z
    · exact .inr (by rw [eT]; exact z)), by rw [eB]; exact x.tape, x.few, by rw [eT]; exact x.tabs⟩
  exact k d c hd v H' (x'.kq r.base) (r.call x') (by rw [← eK] at rv; exact rv)
variable {k : Nat} {f : Addr} {fd : FuncData} {ps : List PySem.Str} {m : VM} {x : PySem.Str} {es : List Expr}
theorem ve_call {t : VTA} (F : FnOk X.prog X.w X.K X.mg X.base CX0 k f fd ps (spV S m)) (hr : Room k X.A) (hg : Gl X x) (hm : X.mg x = some (.ref f)) (hk : PySem.W.keepIn X.K (.ref f) = true) (hb : Binds X.K fd ps [])
    (ha : VA S X (e :: es) t) (hdb : (x == ("__debug__" : PySem.Str)) = false := by decide) (he : starEach (e :: es) X.env = (false, eval e X.env) :: starEach es X.env := by rfl) (hpl : (backTo pos (starEach es X.env)).any (·.1) = false := by rfl) :
    VE S X (.Call (.Name x p) (e :: es) [] pos) (vCall m t) := by
  refine pe_weak (pe_call F hr hg hm hk hb .nil pass0 ha hdb he hpl) ?_
  rintro σ H Q ⟨Γ, E, Q0, ok, rp, ht, k⟩
  refine ⟨Γ, E, _, ok, rp, ht, fun ds E1 hq vs H1 kq1 rp1 hvs => ?_⟩
  show spV S m (vs ++ []) H1 Q E0
  rw [List.append_nil]
  exact spV_of ok rp1 hvs hq fun d c hd v H' q' r' rv => k _ _ hd _ _ (kq1.trans q') r' rv
end
def startL (N : List PySem.Str) (ds : List D) : List SV := ds.map .v ++ List.replicate (N.length - ds.length) .no
def startV (N : List PySem.Str) (ds : List D) (c : Nat) : En := ⟨startL N ds, c⟩
def endV (Q : D → Nat → Prop) : Ve := { nx := fun E => Q .non E.c, rt := fun d E => Q d E.c }
theorem rep_start {K : PySem.W.Frag} {tp : Option Tp} {tabs : List Addr} {N : List PySem.Str} {vs : List V} {ds : List D} {H : Hp} {b : Bool} {c : Nat} (h : RpL K tp H vs ds) (ht : ∀ t, tp = some t → TapeV b H t) (hf : Few tp c H) (hp : ∀ P ∈ tabs, GxR.TabG H P) : Rep ⟨K, b, tp, tabs, [], H⟩ (startV N ds c) (L2.start N vs) H := by
  have len : vs.length = ds.length := h.len
  have notown : ∀ (j : Nat) (s : SV), (startL N ds)[j]? = some s → s.own = false := by
    intro j s e
    unfold startL at e
    rcases Nat.lt_or_ge j ds.length with hj | hj
    · rw [List.getElem?_append_left (by simpa using hj), List.getElem?_map, List.getElem?_eq_getElem hj] at e
      cases e
      rfl
    · rw [List.getElem?_append_right (by simpa using hj), List.getElem?_replicate] at e
      split at e
      · cases e; rfl
      · cases e
  refine ⟨⟨fun _ _ _ _ z => z, Kq.refl _, ht, hp⟩, by simp [startV, startL, L2.start, len], hf, fun i s e => ?_, fun i j s t a e1 e2 o1 _ _ _ => ?_⟩
  · have e : (startL N ds)[i]? = some s := e
    unfold startL at e
    rcases Nat.lt_or_ge i ds.length with hj | hj
    · rw [List.getElem?_append_left (by simpa using hj), List.getElem?_map, List.getElem?_eq_getElem hj] at e
      cases e
      obtain ⟨v, ev, rv⟩ := h.get (List.getElem?_eq_getElem hj)
      refine ⟨some v, ?_, v, rfl, rv⟩
      unfold L2.start
      rw [List.getElem?_append_left (by rw [List.length_map, len]; exact hj), List.getElem?_map, ev]
      rfl
    · rw [List.getElem?_append_right (by simpa using hj), List.getElem?_replicate] at e
      split at e
      · rename_i hl
        cases e
        refine ⟨none, ?_, trivial⟩
        unfold L2.start
        rw [List.getElem?_append_right (by rw [List.length_map, len]; exact hj), List.getElem?_replicate, if_pos (by rw [List.length_map, len]; rw [List.length_map] at hl; exact hl)]
      · cases e
  · rw [notown i s e1] at o1; cases o1
section
variable {P : Program} {w : World} {K : PySem.W.Frag} {mg : PySem.Str → Option Value} {base : Heap} {S : Sg} {x qual : PySem.Str} {st : Stmt} {f : Addr} {fd : FuncData} {N ps : List PySem.Str} {k : Nat} {m : VM} {T : VS}
theorem body_v (hK : S.K = K) {X : Cx} {body : List Stmt} {vs : List V} {H : Hp} {Q : VK} {E : XK} (hb : VSs S X body T) (h : ∀ ds c Q, m ds c Q → T (endV Q) (startV N ds c)) (sp : spV S m vs H Q E) :
    ∃ t, PSs X body t ∧ t { nx := fun _ H' => Q .non H', rt := Q } (L2.start N vs) H := by
  obtain ⟨tp, ds, c, Q0, hv, ht, hf, hp, hm, k⟩ := sp
  refine ⟨_, hb, ⟨S.K, S.b, tp, S.tabs, [], H⟩, startV N ds c, _, ⟨rfl, rfl, rfl⟩, rep_start hv ht hf hp, h ds c Q0 hm, fun E1 h1 σ1 H1 q1 r1 => ?_, fun d E1 h1 v σ1 H1 q1 r1 rv => ?_, fun _ z => z.elim, fun _ z => z.elim⟩
  · exact k _ _ h1 _ _ ⟨fun b o n e => r1.base.ext b o n (by simp) e, r1.base.tape, r1.few, r1.base.tabs⟩ .non
  · exact k _ _ h1 _ _ ⟨fun b o n e => r1.base.ext b o n (by simp) e, r1.base.tape, r1.few, r1.base.tabs⟩ rv
theorem def_v (F : Fun K x qual st f fd) (sc : FnScope N ps (defScope st)) (hK : S.K = K) (len : ∀ ds c Q, m ds c Q → ds.length = ps.length)
    (hb : ∀ (cdv : Value) (A : Around) (outer : List Env) (s : Shared) (H : Hp) (E : XK), Room k (A.deeper (envOfC qual (defScope st) s.heap.objs.size f cdv)) → VSs S (cxOf CX0 P w K mg base N qual (defScope st) f cdv A outer s H E).nox (defBody st) T)
    (h : ∀ ds c Q, m ds c Q → T (endV Q) (startV N ds c)) : FnOk P w K mg base CX0 (k + 1) f fd ps (spV S m) := by
  refine F.ok sc (fun vs H Q E sp => ?_) (fun cdv A outer s H vs Q E hr sp => body_v hK (hb cdv A outer s H E hr) h sp)
  obtain ⟨tp, ds, c, Q0, hv, _, _, _, hm, _⟩ := sp
  rw [hv.len]
  exact len ds c Q0 hm
theorem def_vC {c : Addr} (F : FunC K x qual st f fd c) (sc : FnScope N ps (defScope st)) (hK : S.K = K) (len : ∀ ds c Q, m ds c Q → ds.length = ps.length)
    (hb : ∀ (A : Around) (outer : List Env) (s : Shared) (H : Hp) (E : XK), Room k (A.deeper (envOfC qual (defScope st) s.heap.objs.size f (.ref c))) → VSs S (cxOf CX0 P w K mg base N qual (defScope st) f (.ref c) A outer s H E).nox (defBody st) T)
    (h : ∀ ds c Q, m ds c Q → T (endV Q) (startV N ds c)) : FnOk P w K mg base CX0 (k + 1) f fd ps (spV S m) := by
  refine F.okC sc (fun vs H Q E sp => ?_) (fun A outer s H vs Q E hr sp => body_v hK (hb A outer s H E hr) h sp)
  obtain ⟨tp, ds, c, Q0, hv, _, _, _, hm, _⟩ := sp
  rw [hv.len]
  exact len ds c Q0 hm
end
end Va
set_option Elab.async false
set_option linter.all false
set_option maxRecDepth 100000
set_option maxHeartbeats 4000000
namespace Va
open PySem PySem.Spec PyProof.Rows L2 Ind
mutual
def D.pd : D → PyData
  | .non => .none
  | .bl b => .bool b
  | .int i => .int i
  | .str x => .str x
  | .tup xs => .tuple (pdL xs)
  | .ptp xs => .tuple (pdL xs)
  | .lst xs => .list (pdL xs)
  | .dk _ => .dict []
  | .tape => .dict []
  | .ty _ => .dict []
  | .ob _ => .dict []
def pdL : List D → List PyData
  | [] => []
  | x :: xs => x.pd :: pdL xs
end
theorem pdL_map : ∀ xs : List D, pdL xs = xs.map D.pd
  | [] => rfl
  | x :: xs => by show x.pd :: pdL xs = x.pd :: xs.map D.pd; rw [pdL_map xs]
section
variable {K : PySem.W.Frag} {tp : Option Tp} {H : Hp}
mutual
theorem Rp.dp : ∀ (d : D) (v : V), d.pd.canLay0 = true → Rp K tp H v d → Dp K H v d.pd
  | .non, _, _, h => by cases h; exact .non
  | .bl _, _, _, h => by cases h; exact .bl _
  | .int _, _, _, h => by cases h; exact .int _
  | .str _, _, _, h => by cases h; exact .str _
  | .tup ds, _, c, h => by
    cases h with
    | tup hs ha => exact .tup hs (RpL.dp ds _ (by simpa [D.pd, PyData.canLay0] using c) ha)
  | .ptp ds, _, c, h => by
    cases h with
    | ptp hs _ ha => exact .tup (.inl (.inr ⟨_, hs⟩)) (RpL.dp ds _ (by simpa [D.pd, PyData.canLay0] using c) ha)
  | .lst ds, _, c, h => by
    cases h with
    | lst hs ha => exact .lst hs.sq (RpL.dp ds _ (by simpa [D.pd, PyData.canLay0] using c) ha)
  | .dk ds, _, c, _ => by simp [D.pd, PyData.canLay0] at c
  | .tape, _, c, _ => by simp [D.pd, PyData.canLay0] at c
  | .ty _, _, c, _ => by simp [D.pd, PyData.canLay0] at c
  | .ob _, _, c, _ => by simp [D.pd, PyData.canLay0] at c
theorem RpL.dp : ∀ (ds : List D) (vs : List V), PyData.canLayAll0 (pdL ds) = true → RpL K tp H vs ds → DpAll K H vs (pdL ds)
  | [], _, _, h => by cases h; exact .nil
  | d :: ds, _, c, h => by
    cases h with
    | cons h1 h2 =>
      have c' : d.pd.canLay0 = true ∧ PyData.canLayAll0 (pdL ds) = true := by simpa [pdL, PyData.canLayAll0] using c
      exact .cons (Rp.dp d _ c'.1 h1) (RpL.dp ds _ c'.2 h2)
end
end
theorem RpW.dp {Γ : Gm} {H : Hp} {v : V} {d : D} (c : SeqAt.shaped d.pd = true) (h : RpW Γ H v d) : Dp Γ.K H v d.pd := by
  have c0 := SeqAt.canLay_of_shaped c
  cases h with
  | v h => exact Rp.dp d v c0 h
  | l h1 h2 => exact .lst (.of h1) (RpL.dp _ _ (by simpa [D.pd, PyData.canLay0] using c0) h2)
  | k h1 h2 => simp [D.pd, PyData.canLay0] at c0
theorem RpW.seq {Γ : Gm} {H : Hp} {v : V} {ds : List D} (h : RpW Γ H v (.lst ds)) : ∃ a xs, v = .ref a ∧ SqL Γ.K H a xs ∧ Γ.RpL H xs ds := by
  cases h with
  | v h =>
    obtain ⟨a, xs, rfl, h1, h2⟩ := h.lst_inv
    exact ⟨a, xs, rfl, h1.sq, h2⟩
  | l h1 h2 => exact ⟨_, _, rfl, .of h1, h2⟩
theorem RpW.rd {Γ : Gm} {H : Hp} {v : V} {ds : List D} (h : RpW Γ H v (.lst ds)) : ∃ a xs, v = .ref a ∧ Rd H a (.lst xs) ∧ Γ.RpL H xs ds := by
  cases h with
  | v h =>
    obtain ⟨a, xs, rfl, ⟨o, h1⟩, h2⟩ := h.lst_inv
    exact ⟨a, xs, rfl, .inr ⟨o, h1⟩, h2⟩
  | l h1 h2 => exact ⟨_, _, rfl, .inl h1, h2⟩
theorem RpW.dk {Γ : Gm} {H : Hp} {v : V} {ds : List (Key × D)} (h : RpW Γ H v (.dk ds)) : ∃ a kv, v = .ref a ∧ Rd H a (.dK kv) ∧ RpK Γ.K Γ.tp H kv ds := by
  cases h with
  | v h =>
    obtain ⟨a, o, xs, rfl, h1, h2⟩ := h.dk_inv
    exact ⟨a, xs, rfl, .inr ⟨o, h1⟩, h2⟩
  | k h1 h2 => exact ⟨_, _, rfl, .inl h1, h2⟩
theorem RpW.tup {Γ : Gm} {H : Hp} {v : V} {ds : List D} (h : RpW Γ H v (.tup ds)) : ∃ a xs, v = .ref a ∧ SqT Γ.K H a xs ∧ Γ.RpL H xs ds := by
  cases h with
  | v h => exact h.tup_inv
theorem RpW.int {Γ : Gm} {H : Hp} {v : V} {i : Int} (h : RpW Γ H v (.int i)) : v = .int i := by
  cases h with
  | v h => exact h.int_inv
theorem RpW.str {Γ : Gm} {H : Hp} {v : V} {i : Tx} (h : RpW Γ H v (.str i)) : v = .str i := by
  cases h with
  | v h => exact h.str_inv
theorem RpW.bl {Γ : Gm} {H : Hp} {v : V} {i : Bool} (h : RpW Γ H v (.bl i)) : v = .bl i := by
  cases h with
  | v h => exact h.bl_inv
theorem RpW.non {Γ : Gm} {H : Hp} {v : V} (h : RpW Γ H v .non) : v = .non := by
  cases h with
  | v h => cases h; rfl
theorem million {n : Nat} (h : n ≤ 1000000) : n ≤ sizeLine := Nat.le_trans h (by decide)
theorem millionL {n : Nat} (h : n < 1000000) : n < sizeLine := Nat.lt_of_lt_of_le h (by decide)
section
variable {X : Cx} {S : Sg}
def addG : VO := fun d e Q => match d, e with
  | .int i, .int j => Q (.v (.int (i + j)))
  | .str x, .str y => x.length + y.length ≤ 1000000 ∧ Q (.v (.str (x ++ y)))
  | .lst xs, .lst ys => xs.length + ys.length ≤ 1000000 ∧ Q (.fl (xs ++ ys))
  | .tup xs, .tup ys => xs.length + ys.length ≤ 1000000 ∧ Q (.v (.tup (xs ++ ys)))
  | _, _ => False
theorem op_catL : OpR X (binaryOp .Add) (fun x y H Q => ∃ l b xs zs, x = .ref l ∧ y = .ref b ∧ Rd H l (.lst xs) ∧ Rd H b (.lst zs) ∧ xs.length + zs.length ≤ sizeLine ∧ ∀ p, H p = none → Q (.ref p) (upd H p (.lst (xs ++ zs)))) := by
  rintro pins s σ H x y v u Q I rx ry ⟨l, b, xs, zs, rfl, rfl, hl, hb, hz, q⟩
  cases (show v = Value.ref l from rx)
  cases (show u = Value.ref b from ry)
  obtain ⟨_, its, n, r, e1⟩ := hl.ok I.hok
  obtain ⟨_, its2, n2, r2, e2⟩ := hb.ok I.hok
  have k1 := r.length
  have k2 := r2.length
  refine PySem.P.add_list e1 e2 ?_ (by simp only [List.size_toArray]; omega)
  rw [show its.toArray ++ its2.toArray = (its ++ its2).toArray by simp]
  exact ⟨.ref _, _, I.lnew (t' := s.toks) (r.append r2) (by simp; omega), rfl, q _ I.fresh⟩
theorem o_add (hK : S.K = X.K) : OpV S X (binaryOp .Add) addG := by
  refine ⟨_, ((op_add.or op_add_str).or (op_catL.or op_catA)), ?_⟩
  intro Γ H x y d e Q Q0 eK hx hy hg k
  have eK' : X.K = Γ.K := (eK.trans hK).symm
  unfold addG at hg
  split at hg
  · exact .inl (.inl ⟨_, _, hx.int, hy.int, k _ hg _ _ (Same.refl _) (.int _)⟩)
  · exact .inl (.inr ⟨_, _, hx.str, hy.str, million hg.1, k _ hg.2 _ _ (Same.refl _) (.str _)⟩)
  · obtain ⟨a, xs, rfl, h1, h2⟩ := hx.rd
    obtain ⟨b, ys, rfl, h3, h4⟩ := hy.rd
    refine .inr (.inl ⟨a, b, xs, ys, rfl, rfl, h1, h3, million (by rw [h2.len, h4.len]; exact hg.1), fun p np => ?_⟩)
    have sm := same_upd (o := .lst (xs ++ ys)) np
    exact k _ hg.2 _ _ sm ⟨p, _, rfl, np, upd_same, RpL.kq (.same sm) _ _ (h2.app h4)⟩
  · obtain ⟨a, xs, rfl, h1, h2⟩ := hx.tup
    obtain ⟨b, ys, rfl, h3, h4⟩ := hy.tup
    rw [eK']
    refine .inr (.inr ⟨a, b, xs, ys, rfl, rfl, h1, h3, million (by rw [h2.len, h4.len]; exact hg.1), fun e => ?_, fun _ e => ?_, fun _ _ p np => ?_⟩)
    · subst e
      cases h2
      exact k _ hg.2 _ _ (Same.refl _) (.tup h3 h4)
    · subst e
      cases h4
      refine k _ hg.2 _ _ (Same.refl _) ?_
      rw [List.append_nil]
      exact .tup h1 h2
    · have sm := same_upd (o := .tup (xs ++ ys)) np
      exact k _ hg.2 _ _ sm (.tup (.of upd_same) (RpL.kq (.same sm) _ _ (h2.app h4)))
  · exact hg.elim
def int2 (C : Int → Int → Prop) (f : Int → Int → D) : VO := fun d e Q => match d, e with
  | .int i, .int j => C i j ∧ Q (.v (f i j))
  | _, _ => False
def int0 (f : Int → Int → D) : VO := fun d e Q => match d, e with
  | .int i, .int j => Q (.v (f i j))
  | _, _ => False
theorem o_int {f : Value → Value → Sem Value} {C : Int → Int → Prop} {g : Int → Int → Int} (h : OpR X f (rI C fun i j => .int (g i j))) : OpV S X f (int2 C fun i j => .int (g i j)) := by
  refine ⟨_, h, ?_⟩
  intro Γ H x y d e Q Q0 eK hx hy hg k
  unfold int2 at hg
  split at hg
  · exact ⟨_, _, hx.int, hy.int, hg.1, k _ hg.2 _ _ (Same.refl _) (.int _)⟩
  · exact hg.elim
theorem o_int0 {f : Value → Value → Sem Value} {g : Int → Int → Int} (h : OpR X f (rI0 fun i j => .int (g i j))) : OpV S X f (int0 fun i j => .int (g i j)) := by
  refine ⟨_, h, ?_⟩
  intro Γ H x y d e Q Q0 eK hx hy hg k
  unfold int0 at hg
  split at hg
  · exact ⟨_, _, hx.int, hy.int, k _ hg _ _ (Same.refl _) (.int _)⟩
  · exact hg.elim
theorem o_sub : OpV S X (binaryOp .Sub) (int0 fun i j => .int (i - j)) := o_int0 op_sub
theorem o_fdiv : OpV S X (binaryOp .FloorDiv) (int2 CDivW fun i j => .int (i / j)) := o_int op_fdivW
theorem o_mod : OpV S X (binaryOp .Mod) (int2 (fun _ j => 0 < j) fun i j => .int (i % j)) := o_int op_mod
theorem dS {x y : Tx} : decide (V.str x = V.str y) = decide (x = y) := decide_eq_decide.mpr ⟨fun e => by injection e, fun e => by rw [e]⟩
theorem dI {x y : Int} : decide (V.int x = V.int y) = decide (x = y) := decide_eq_decide.mpr ⟨fun e => by injection e, fun e => by rw [e]⟩
theorem dB {x y : Bool} : decide (V.bl x = V.bl y) = decide (x = y) := decide_eq_decide.mpr ⟨fun e => by injection e, fun e => by rw [e]⟩
def eqD (d e : D) (f : Bool → RV) (Q : RV → Prop) : Prop := match d, e with
  | .str x, .str y => Q (f (decide (x = y)))
  | .int i, .int j => Q (f (decide (i = j)))
  | .bl a, .bl b => Q (f (decide (a = b)))
  | .non, .non => Q (f true)
  | .str _, .int _ => Q (f false)
  | .int _, .str _ => Q (f false)
  | .str _, .bl _ => Q (f false)
  | .bl _, .str _ => Q (f false)
  | .non, .str _ => Q (f false)
  | .str _, .non => Q (f false)
  | .non, .int _ => Q (f false)
  | .int _, .non => Q (f false)
  | d, e => SeqAt.shaped d.pd = true ∧ SeqAt.shaped e.pd = true ∧ Q (f (PyData.eqv d.pd e.pd))
def eqG : VO := fun d e Q => eqD d e (fun b => .v (.bl b)) Q
def neG : VO := fun d e Q => eqD d e (fun b => .v (.bl (!b))) Q
theorem o_eq (hK : S.K = X.K) (hu : X.A.units + 64 < cLine) : OpV S X (compareOp .Eq) eqG := by
  refine ⟨_, op_eq.or (op_eqD hu), ?_⟩
  intro Γ H x y d e Q Q0 eK hx hy hg k
  have eK' : X.K = Γ.K := (eK.trans hK).symm
  unfold eqG eqD at hg
  split at hg
  · rw [hx.str, hy.str]
    refine .inl ⟨rfl, ?_⟩
    rw [dS]
    exact k _ hg _ _ (Same.refl _) (.bl _)
  · rw [hx.int, hy.int]
    refine .inl ⟨rfl, ?_⟩
    rw [dI]
    exact k _ hg _ _ (Same.refl _) (.bl _)
  · rw [hx.bl, hy.bl]
    refine .inl ⟨rfl, ?_⟩
    rw [dB]
    exact k _ hg _ _ (Same.refl _) (.bl _)
  · rw [hx.non, hy.non]
    exact .inl ⟨rfl, k _ hg _ _ (Same.refl _) (.bl _)⟩
  · rw [hx.str, hy.int]; exact .inl ⟨rfl, k _ hg _ _ (Same.refl _) (.bl _)⟩
  · rw [hx.int, hy.str]; exact .inl ⟨rfl, k _ hg _ _ (Same.refl _) (.bl _)⟩
  · rw [hx.str, hy.bl]; exact .inl ⟨rfl, k _ hg _ _ (Same.refl _) (.bl _)⟩
  · rw [hx.bl, hy.str]; exact .inl ⟨rfl, k _ hg _ _ (Same.refl _) (.bl _)⟩
  · rw [hx.non, hy.str]; exact .inl ⟨rfl, k _ hg _ _ (Same.refl _) (.bl _)⟩
  · rw [hx.str, hy.non]; exact .inl ⟨rfl, k _ hg _ _ (Same.refl _) (.bl _)⟩
  · rw [hx.non, hy.int]; exact .inl ⟨rfl, k _ hg _ _ (Same.refl _) (.bl _)⟩
  · rw [hx.int, hy.non]; exact .inl ⟨rfl, k _ hg _ _ (Same.refl _) (.bl _)⟩
  · rw [eK']
    exact .inr ⟨_, _, hx.dp hg.1, hy.dp hg.2.1, hg.1, hg.2.1, k _ hg.2.2 _ _ (Same.refl _) (.bl _)⟩
theorem o_ne (hK : S.K = X.K) (hu : X.A.units + 64 < cLine) : OpV S X (compareOp .NotEq) neG := by
  refine ⟨_, op_ne.or (op_neD hu), ?_⟩
  intro Γ H x y d e Q Q0 eK hx hy hg k
  have eK' : X.K = Γ.K := (eK.trans hK).symm
  unfold neG eqD at hg
  split at hg
  · rw [hx.str, hy.str]
    refine .inl ⟨rfl, ?_⟩
    rw [dS]
    exact k _ hg _ _ (Same.refl _) (.bl _)
  · rw [hx.int, hy.int]
    refine .inl ⟨rfl, ?_⟩
    rw [dI]
    exact k _ hg _ _ (Same.refl _) (.bl _)
  · rw [hx.bl, hy.bl]
    refine .inl ⟨rfl, ?_⟩
    rw [dB]
    exact k _ hg _ _ (Same.refl _) (.bl _)
  · rw [hx.non, hy.non]
    exact .inl ⟨rfl, k _ hg _ _ (Same.refl _) (.bl _)⟩
  · rw [hx.str, hy.int]; exact .inl ⟨rfl, k _ hg _ _ (Same.refl _) (.bl _)⟩
  · rw [hx.int, hy.str]; exact .inl ⟨rfl, k _ hg _ _ (Same.refl _) (.bl _)⟩
  · rw [hx.str, hy.bl]; exact .inl ⟨rfl, k _ hg _ _ (Same.refl _) (.bl _)⟩
  · rw [hx.bl, hy.str]; exact .inl ⟨rfl, k _ hg _ _ (Same.refl _) (.bl _)⟩
  · rw [hx.non, hy.str]; exact .inl ⟨rfl, k _ hg _ _ (Same.refl _) (.bl _)⟩
  · rw [hx.str, hy.non]; exact .inl ⟨rfl, k _ hg _ _ (Same.refl _) (.bl _)⟩
  · rw [hx.non, hy.int]; exact .inl ⟨rfl, k _ hg _ _ (Same.refl _) (.bl _)⟩
  · rw [hx.int, hy.non]; exact .inl ⟨rfl, k _ hg _ _ (Same.refl _) (.bl _)⟩
  · rw [eK']
    exact .inr ⟨_, _, hx.dp hg.1, hy.dp hg.2.1, hg.1, hg.2.1, k _ hg.2.2 _ _ (Same.refl _) (.bl _)⟩
def ordG (p : Int → Int → Bool) (q : List Nat → List Nat → Bool) : VO := fun d e Q => match d, e with
  | .int i, .int j => Q (.v (.bl (p i j)))
  | .str x, .str y => Q (.v (.bl (q x.cps.toList y.cps.toList)))
  | _, _ => False
theorem o_ord {f : Value → Value → Sem Value} {p : Int → Int → Bool} {q : List Nat → List Nat → Bool} (h : OpR X f (rI0 fun i j => .bl (p i j))) (h2 : OpR X f (fun x y H Q => ∃ i j, x = .str i ∧ y = .str j ∧ Q (.bl (q i.cps.toList j.cps.toList)) H)) : OpV S X f (ordG p q) := by
  refine ⟨_, h.or h2, ?_⟩
  intro Γ H x y d e Q Q0 eK hx hy hg k
  unfold ordG at hg
  split at hg
  · exact .inl ⟨_, _, hx.int, hy.int, k _ hg _ _ (Same.refl _) (.bl _)⟩
  · exact .inr ⟨_, _, hx.str, hy.str, k _ hg _ _ (Same.refl _) (.bl _)⟩
  · exact hg.elim
abbrev ltG : VO := ordG (fun i j => decide (i < j)) fun x y => decide (x < y)
abbrev leG : VO := ordG (fun i j => decide (i ≤ j)) fun x y => !decide (y < x)
abbrev gtG : VO := ordG (fun i j => decide (j < i)) fun x y => decide (y < x)
theorem o_lt : OpV S X (compareOp .Lt) ltG := o_ord op_lt op_lt_str
theorem o_le : OpV S X (compareOp .LtE) leG := o_ord op_le op_le_str
theorem o_gt : OpV S X (compareOp .Gt) gtG := o_ord op_gt op_gt_str
def isNon : D → Bool
  | .non => true
  | _ => false
def isNG (f : Bool → Bool) : VO := fun d e Q => match e with
  | .non => Q (.v (.bl (f (isNon d))))
  | _ => False
theorem RpW.none_iff {Γ : Gm} {H : Hp} {v : V} {d : D} (h : RpW Γ H v d) : decide (v = .non) = isNon d := by
  cases h with
  | v h => cases h <;> rfl
  | l _ _ => rfl
  | k _ _ => rfl
theorem o_isN : OpV S X (compareOp .Is) (isNG id) := by
  refine ⟨_, op_isN, ?_⟩
  intro Γ H x y d e Q Q0 eK hx hy hg k
  unfold isNG at hg
  split at hg
  · refine ⟨hy.non, ?_⟩
    rw [hx.none_iff]
    exact k _ hg _ _ (Same.refl _) (.bl _)
  · exact hg.elim
def D.flat : D → Bool
  | .non => true
  | .bl _ => true
  | .int _ => true
  | .str _ => true
  | _ => false
def D.eqf : D → D → Bool
  | .non, .non => true
  | .bl a, .bl b => a == b
  | .bl a, .int b => (if a then 1 else 0) == b
  | .int a, .bl b => a == (if b then 1 else 0)
  | .int a, .int b => a == b
  | .str a, .str b => a == b
  | _, _ => false
def keyOf : D → Option Key
  | .int i => some (.inl i)
  | .str x => some (.inr x)
  | _ => none
def look (kvs : List (Key × D)) (k : Key) : Option D := (kvs.find? fun p => decide (p.1 = k)).map (·.2)
def inSeq (d : D) (ys : List D) (f : Bool → RV) (Q : RV → Prop) : Prop := match d with
  | .tup _ => SeqAt.shaped d.pd = true ∧ SeqAt.shaped (.list (pdL ys)) = true ∧ Q (f (ys.any fun y => PyData.eqv y.pd d.pd))
  | _ => d.flat = true ∧ ys.all D.flat = true ∧ Q (f (ys.any fun y => D.eqf y d))
def inD (d e : D) (f : Bool → RV) (Q : RV → Prop) : Prop := match e with
  | .lst ys => inSeq d ys f Q
  | .tup ys => inSeq d ys f Q
  | .str z => ∃ c, d = one c ∧ Q (f (decide (c ∈ z.cps.toList)))
  | .dk kvs => ∃ k, keyOf d = some k ∧ Q (f (look kvs k).isSome)
  | _ => False
def inG : VO := fun d e Q => inD d e (fun b => .v (.bl b)) Q
def ninG : VO := fun d e Q => inD d e (fun b => .v (.bl (!b))) Q
theorem Rp.flatV {K : PySem.W.Frag} {tp : Option Tp} {H : Hp} {v : V} {d : D} (h : Rp K tp H v d) (f : d.flat = true) : flatV v = true := by
  cases h <;> first | rfl | cases f
theorem Rp.eqV {K : PySem.W.Frag} {tp : Option Tp} {H : Hp} {v u : V} {d e : D} (h : Rp K tp H v d) (h' : Rp K tp H u e) (f : d.flat = true) (f' : e.flat = true) : eqV v u = d.eqf e := by
  cases h <;> first | (cases f; done) | (cases h' <;> first | rfl | cases f')
theorem RpL.flatV {K : PySem.W.Frag} {tp : Option Tp} {H : Hp} : ∀ {vs : List V} {ds : List D}, RpL K tp H vs ds → ds.all D.flat = true → vs.all flatV = true
  | _, _, .nil, _ => rfl
  | _, _, .cons h t, f => by
    simp only [List.all_cons, Bool.and_eq_true] at f ⊢
    exact ⟨h.flatV f.1, RpL.flatV t f.2⟩
theorem RpL.inV {K : PySem.W.Frag} {tp : Option Tp} {H : Hp} {x : V} {d : D} (h : Rp K tp H x d) (f : d.flat = true) : ∀ {vs : List V} {ds : List D}, RpL K tp H vs ds → ds.all D.flat = true → inV x vs = ds.any fun y => y.eqf d
  | _, _, .nil, _ => rfl
  | _, _, .cons (v := v) (vs := vs) (d := e) (ds := ds) h1 t, g => by
    simp only [List.all_cons, Bool.and_eq_true] at g
    show (L2.eqV v x || L2.inV x vs) = (e.eqf d || ds.any fun y => y.eqf d)
    rw [h1.eqV h g.1 f, RpL.inV h f t g.2]
theorem RpW.flat {Γ : Gm} {H : Hp} {v : V} {d : D} (h : RpW Γ H v d) (f : d.flat = true) : Γ.Rp H v d := by
  cases h with
  | v h => exact h
  | l _ _ => cases f
  | k _ _ => cases f
theorem look_val {K : PySem.W.Frag} {tp : Option Tp} {H : Hp} {kv : List (Key × V)} {ds : List (Key × D)} (r : RpK K tp H kv ds) (k : Key) : match look ds k with
    | some d => ∃ v, valV kv k = some v ∧ Rp K tp H v d
    | none => valV kv k = none := by
  have := r.val (k := k)
  unfold look
  cases h : ds.find? fun p => decide (p.1 = k) with
  | none => rw [h] at this; exact this
  | some p => rw [h] at this; exact this
theorem look_some {K : PySem.W.Frag} {tp : Option Tp} {H : Hp} {kv : List (Key × V)} {ds : List (Key × D)} (r : RpK K tp H kv ds) (k : Key) : (valV kv k).isSome = (look ds k).isSome := by
  have := look_val r k
  cases h : look ds k with
  | none => rw [h] at this; rw [show valV kv k = none from this]; rfl
  | some d => rw [h] at this; obtain ⟨v, e, _⟩ := this; rw [e]; rfl
theorem keyOf_rp {Γ : Gm} {H : Hp} {v : V} {d : D} {k : Key} (h : RpW Γ H v d) (e : keyOf d = some k) : v = kV k := by
  cases d with
  | int i => cases e; exact h.int
  | str x => cases e; exact h.str
  | _ => cases e
def rInAny (K : PySem.W.Frag) (neg : Bool) : R2 := fun x y H Q => ∃ d ds, Dp K H x d ∧ (Dp K H y (.list ds) ∨ Dp K H y (.tuple ds)) ∧ SeqAt.shaped d = true ∧ SeqAt.shaped (.list ds) = true ∧ Q (.bl (if neg then !ds.any fun z => PyData.eqv z d else ds.any fun z => PyData.eqv z d)) H
theorem op_inAny (hu : X.A.units + 65 < cLine) : OpR X (compareOp .In) (rInAny X.K false) := by
  rintro pins s σ H x y v u Q I rx ry ⟨d, ds, hd, he, sd, se, q⟩
  obtain ⟨as, r1⟩ := Dp.reads I d x v hd rx
  rcases he with he | he
  · obtain ⟨bs, r2⟩ := Dp.reads I _ y u he ry
    exact SeqAt.in_list_reads r2 r1 (SeqAt.canLay_of_shaped se) (SeqAt.canLay_of_shaped sd) (room_in_shaped sd hu) ⟨.bl _, H, I, rfl, q⟩
  · obtain ⟨bs, r2⟩ := Dp.reads I _ y u he ry
    exact SeqAt.in_tuple_reads r2 r1 (SeqAt.canLay_of_shaped se) (SeqAt.canLay_of_shaped sd) (room_in_shaped sd hu) ⟨.bl _, H, I, rfl, q⟩
theorem op_ninAny (hu : X.A.units + 65 < cLine) : OpR X (compareOp .NotIn) (rInAny X.K true) := by
  rintro pins s σ H x y v u Q I rx ry ⟨d, ds, hd, he, sd, se, q⟩
  obtain ⟨as, r1⟩ := Dp.reads I d x v hd rx
  rcases he with he | he
  · obtain ⟨bs, r2⟩ := Dp.reads I _ y u he ry
    exact SeqAt.notIn_list_reads r2 r1 (SeqAt.canLay_of_shaped se) (SeqAt.canLay_of_shaped sd) (room_in_shaped sd hu) ⟨.bl _, H, I, rfl, q⟩
  · obtain ⟨bs, r2⟩ := Dp.reads I _ y u he ry
    exact SeqAt.notIn_tuple_reads r2 r1 (SeqAt.canLay_of_shaped se) (SeqAt.canLay_of_shaped sd) (room_in_shaped sd hu) ⟨.bl _, H, I, rfl, q⟩
theorem op_inD' (hu : X.A.units + 1 < cLine) : OpR X (compareOp .In) (fun x y H Q => ∃ a o, y = .ref a ∧ DGet H a x o ∧ Q (.bl o.isSome) H) := by
  rintro pins s σ H x y v u Q I rx ry ⟨a, o, rfl, g, q⟩
  cases (show u = Value.ref a from ry)
  exact d_in hu I g rx fun s3 I3 => ⟨.bl _, H, I3, rfl, q⟩
theorem op_ninD' (hu : X.A.units + 1 < cLine) : OpR X (compareOp .NotIn) (fun x y H Q => ∃ a o, y = .ref a ∧ DGet H a x o ∧ Q (.bl (!o.isSome)) H) := by
  rintro pins s σ H x y v u Q I rx ry ⟨a, o, rfl, g, q⟩
  cases (show u = Value.ref a from ry)
  exact d_notIn hu I g rx fun s3 I3 => ⟨.bl _, H, I3, rfl, q⟩
theorem rd_get {Γ : Gm} {H : Hp} {a : Addr} {kv : List (Key × V)} {k : Key} (h : Rd H a (.dK kv)) : DGet H a (kV k) (valV kv k) := .inl ⟨kv, k, h, rfl, rfl⟩
theorem pdL_any (ys : List D) (z : PyData) : ((pdL ys).any fun y => PyData.eqv y z) = ys.any fun y => PyData.eqv y.pd z := by
  rw [pdL_map, List.any_map]; rfl
theorem in_core (hK : S.K = X.K) {neg : Bool} {f : Value → Value → Sem Value} {r1 r2 r3 r4 : R2} {Γ : Gm} {H : Hp} {x y : V} {d e : D} {Q : VK} {Q0 : RV → Prop} (eK : Γ.K = S.K) (hx : RpW Γ H x d) (hy : RpW Γ H y e)
    (hg : inD d e (fun b => .v (.bl (if neg then !b else b))) Q0) (k : ∀ z, Q0 z → ∀ v H', Same H H' → RpN Γ H H' v z → Q v H') :
    (rIn X.K neg x y H Q ∨ rInAny X.K neg x y H Q) ∨ (∃ (c : Nat) (z : Tx), x = .str ⟨#[c]⟩ ∧ y = .str z ∧ Q (.bl (if neg then !decide (c ∈ z.cps.toList) else decide (c ∈ z.cps.toList))) H) ∨ ∃ a o, y = .ref a ∧ DGet H a x o ∧ Q (.bl (if neg then !o.isSome else o.isSome)) H := by
  have eK' : X.K = Γ.K := (eK.trans hK).symm
  have seq : ∀ (ys : List D) (p : Addr) (xs : List V), y = .ref p → (SqL Γ.K H p xs ∨ SqT Γ.K H p xs) → Γ.RpL H xs ys → (∀ c : PyData.canLayAll0 (pdL ys) = true, Dp Γ.K H y (.list (pdL ys)) ∨ Dp Γ.K H y (.tuple (pdL ys))) →
      inSeq d ys (fun b => .v (.bl (if neg then !b else b))) Q0 → rIn X.K neg x y H Q ∨ rInAny X.K neg x y H Q := by
    intro ys p xs ey hs hr hd h
    have deep : SeqAt.shaped d.pd = true ∧ SeqAt.shaped (.list (pdL ys)) = true ∧ Q0 (.v (.bl (if neg then !(ys.any fun y => PyData.eqv y.pd d.pd) else (ys.any fun y => PyData.eqv y.pd d.pd)))) → rInAny X.K neg x y H Q := by
      intro h
      refine ⟨d.pd, pdL ys, by rw [eK']; exact hx.dp h.1, by rw [eK']; exact hd (SeqAt.canLay_of_shaped h.2.1), h.1, h.2.1, ?_⟩
      rw [pdL_any]
      exact k _ h.2.2 _ _ (Same.refl _) (.bl _)
    have flat : d.flat = true ∧ ys.all D.flat = true ∧ Q0 (.v (.bl (if neg then !(ys.any fun y => D.eqf y d) else (ys.any fun y => D.eqf y d)))) → rIn X.K neg x y H Q := by
      intro h
      refine ⟨p, xs, ey, by rw [eK']; exact hs, (hx.flat h.1).flatV h.1, hr.flatV h.2.1, ?_⟩
      rw [RpL.inV (hx.flat h.1) h.1 hr h.2.1]
      exact k _ h.2.2 _ _ (Same.refl _) (.bl _)
    cases d with
    | tup ds => exact .inr (deep h)
    | _ => exact .inl (flat h)
  cases e with
  | lst ys =>
    obtain ⟨p, xs, rfl, h1, h2⟩ := hy.seq
    exact .inl (seq ys p xs rfl (.inl h1) h2 (fun c => .inl (.lst h1 (RpL.dp _ _ c h2))) hg)
  | tup ys =>
    obtain ⟨p, xs, rfl, h1, h2⟩ := hy.tup
    exact .inl (seq ys p xs rfl (.inr h1) h2 (fun c => .inr (.tup h1 (RpL.dp _ _ c h2))) hg)
  | str z =>
    obtain ⟨c, rfl, hq⟩ := hg
    exact .inr (.inl ⟨c, z, hx.str, hy.str, k _ hq _ _ (Same.refl _) (.bl _)⟩)
  | dk kvs =>
    obtain ⟨kk, ek, hq⟩ := hg
    obtain ⟨a, kv, rfl, h1, h2⟩ := hy.dk
    refine .inr (.inr ⟨a, _, rfl, by rw [keyOf_rp hx ek]; exact rd_get (Γ := Γ) h1, ?_⟩)
    rw [look_some h2]
    exact k _ hq _ _ (Same.refl _) (.bl _)
  | _ => exact hg.elim
theorem o_in (hK : S.K = X.K) (hu : X.A.units + 65 < cLine) : OpV S X (compareOp .In) inG := by
  refine ⟨_, (op_in_seq.or (op_inAny hu)).or (op_in_sign.or (op_inD' (by omega))), ?_⟩
  intro Γ H x y d e Q Q0 eK hx hy hg k
  exact in_core (neg := false) hK (f := compareOp .In) (r1 := rEq) (r2 := rEq) (r3 := rEq) (r4 := rEq) eK hx hy hg k
theorem o_nin (hK : S.K = X.K) (hu : X.A.units + 65 < cLine) : OpV S X (compareOp .NotIn) ninG := by
  refine ⟨_, (op_notIn_seq.or (op_ninAny hu)).or (op_notIn_sign.or (op_ninD' (by omega))), ?_⟩
  intro Γ H x y d e Q Q0 eK hx hy hg k
  exact in_core (neg := true) hK (f := compareOp .NotIn) (r1 := rEq) (r2 := rEq) (r3 := rEq) (r4 := rEq) eK hx hy hg k
structure IxV (S : Sg) (X : Cx) (g : VO) : Prop where
  ex : ∃ r : R2, IxR X r ∧ ∀ (Γ : Gm) (H : Hp) (x y : V) (d e : D) (Q : VK) (Q0 : RV → Prop), Γ.K = S.K → RpW Γ H x d → RpW Γ H y e → g d e Q0 → (∀ z, Q0 z → ∀ v H', Same H H' → RpN Γ H H' v z → Q v H') → r x y H Q
def ixG : VO := fun d e Q => match d with
  | .lst xs => match e with
    | .int i => withD (atI xs i) fun z => Q (.v z)
    | _ => False
  | .tup xs => match e with
    | .int i => withD (atI xs i) fun z => Q (.v z)
    | _ => False
  | .str x => match e with
    | .int i => x.length ≤ 1000000 ∧ ∃ c, atI x.cps.toList i = some c ∧ Q (.v (one c))
    | _ => False
  | .dk kvs => ∃ k, keyOf e = some k ∧ withD (look kvs k) fun z => Q (.v z)
  | _ => False
theorem withD_inv {d : Option D} {Q : D → Prop} (h : withD d Q) : ∃ b, d = some b ∧ Q b := by
  cases d with
  | none => exact h.elim
  | some b => exact ⟨b, rfl, h⟩
theorem withD_of {o : Option D} {d : D} {Q : D → Prop} (e : o = some d) (h : Q d) : withD o Q := by rw [e]; exact h
theorem ix_dict (hu : X.A.units + 1 < cLine) : IxR X (fun x y H Q => ∃ a v, x = .ref a ∧ DGet H a y (some v) ∧ Q v H) := by
  rintro value slice pins s σ H x y v u Q I rx ry ⟨a, z, rfl, g, q⟩ hs
  cases (show v = Value.ref a from rx)
  exact tail_any (dict_typeIs I g) PySem.F.slot_dict_getitem.lookup (d_getItem hu I g ry fun w' s3 I3 rw' => ⟨z, H, I3, rw', q⟩) hs
theorem RpL.atI {K : PySem.W.Frag} {tp : Option Tp} {H : Hp} {vs : List V} {ds : List D} {i : Int} {d : D} (r : RpL K tp H vs ds) (e : atI ds i = some d) : ∃ v, L2.atI vs i = some v ∧ Rp K tp H v d := by
  unfold L2.atI at e ⊢
  rw [r.len]
  cases h : ixN ds.length i with
  | none => rw [h] at e; cases e
  | some j =>
    rw [h] at e
    exact r.get e
theorem i_ix (hK : S.K = X.K) (hu : X.A.units + 1 < cLine) : IxV S X ixG := by
  refine ⟨_, ix_seq.or (ix_dict hu), ?_⟩
  intro Γ H x y d e Q Q0 eK hx hy hg k
  have eK' : X.K = Γ.K := (eK.trans hK).symm
  cases d with
  | lst xs =>
    cases e with
    | int i =>
      obtain ⟨z, ez, hq⟩ := withD_inv hg
      obtain ⟨a, vs, rfl, h1, h2⟩ := hx.seq
      obtain ⟨v, ev, rv⟩ := h2.atI ez
      exact .inl (.inl ⟨a, vs, i, v, rfl, hy.int, by rw [eK']; exact h1, ev, k _ hq _ _ (Same.refl _) rv⟩)
    | _ => exact hg.elim
  | tup xs =>
    cases e with
    | int i =>
      obtain ⟨z, ez, hq⟩ := withD_inv hg
      obtain ⟨a, vs, rfl, h1, h2⟩ := hx.tup
      obtain ⟨v, ev, rv⟩ := h2.atI ez
      exact .inl (.inr (.inl ⟨a, vs, i, v, rfl, hy.int, by rw [eK']; exact h1, ev, k _ hq _ _ (Same.refl _) rv⟩))
    | _ => exact hg.elim
  | str z =>
    cases e with
    | int i =>
      obtain ⟨hl, c, ec, hq⟩ := hg
      exact .inl (.inr (.inr ⟨z, i, c, hx.str, hy.int, million hl, ec, k _ hq _ _ (Same.refl _) (.str _)⟩))
    | _ => exact hg.elim
  | dk kvs =>
    obtain ⟨kk, ek, hg⟩ := hg
    obtain ⟨z, ez, hq⟩ := withD_inv hg
    obtain ⟨a, kv, rfl, h1, h2⟩ := hx.dk
    have := look_val h2 kk
    rw [ez] at this
    obtain ⟨v, ev, rv⟩ := this
    refine .inr ⟨a, v, rfl, ?_, k _ hq _ _ (Same.refl _) rv⟩
    rw [keyOf_rp hy ek, ← ev]
    exact rd_get (Γ := Γ) h1
  | _ => exact hg.elim
variable {a b : Expr} {pos : Pos}
theorem fe_ix {g : VO} {ta tb : VT} (ho : IxV S X g) (ha : VE S X a ta) (hb : BE S X b tb) (hs : PlainIx b) : FE S X (.Subscript a b pos) (vOp g ta tb) := by
  obtain ⟨r, h1, h2⟩ := ho.ex
  refine pe_weak (pe_ix h1 ha hb hs) ?_
  rintro σ H Q ⟨Γ, E, Q0, ok, rp, ht, k⟩
  refine ⟨Γ, E, _, ok, rp, ht, fun d E1 hq x H1 kq1 rp1 hx => ?_⟩
  refine ⟨Γ, E1, _, ok, rp1, hq, fun e E2 hq2 y H2 kq2 rp2 hy => ?_⟩
  refine h2 Γ H2 x y d e _ _ ok.k (.v (Rp.kq kq2 _ _ hx)) hy hq2 fun z hz v H' sm hn => ?_
  exact k _ _ hz v H' ((kq1.trans kq2).trans (Kq.same sm)) (rp2.same sm) (hn.rep rp2 sm)
theorem withP_inv {d : Option D} {Q : D → Prop} (h : withP d Q) : ∃ b, d = some b ∧ Q b := by
  cases d with
  | none => exact h.elim
  | some b => exact ⟨b, rfl, h⟩
def vIxN (g : VO) (i : Nat) (tb : VT) : FT := fun E Q => withP (peek E i) fun _ => tb E fun e E2 => withP (peek E2 i) fun d => g d e fun z => Q z E2
theorem fe_ixN {g : VO} {i : Nat} {tb : VT} (ho : IxV S X g) (ha : PE X a (tVar i)) (hb : BE S X b tb) (hs : PlainIx b) : FE S X (.Subscript a b pos) (vIxN g i tb) := by
  obtain ⟨r, h1, h2⟩ := ho.ex
  refine pe_weak (pe_ix h1 ha hb hs) ?_
  rintro σ H Q ⟨Γ, E, Q0, ok, rp, ht, k⟩
  obtain ⟨d0, e0, ht⟩ := withP_inv ht
  obtain ⟨v, hv, _⟩ := peek_at rp e0
  refine ⟨v, hv, ?_⟩
  refine ⟨Γ, E, _, ok, rp, ht, fun e E2 hq2 y H2 kq2 rp2 hy => ?_⟩
  obtain ⟨d, ed, hq2⟩ := withP_inv hq2
  obtain ⟨v', hv', hx⟩ := peek_at rp2 ed
  rw [hv] at hv'
  cases hv'
  refine h2 Γ H2 v y d e _ _ ok.k hx hy hq2 fun z hz v H' sm hn => ?_
  exact k _ _ hz v H' (kq2.trans (Kq.same sm)) (rp2.same sm) (hn.rep rp2 sm)
end
end Va
set_option Elab.async false
set_option linter.all false
set_option maxRecDepth 100000
set_option maxHeartbeats 4000000
namespace Va
open PySem PySem.Spec PyProof.Rows L2 Ind
section
variable {X : Cx} {S : Sg} {e a b : Expr} {es : List Expr} {pos p : Pos}
abbrev VOp := En → (Option Int → En → Prop) → Prop
def liftO (S : Sg) (t : VOp) : TO := fun σ H Q => ∃ (Γ : Gm) (E : En) (Q0 : Option Int → En → Prop), Γ.Ok S ∧ Rep Γ E σ H ∧ t E Q0 ∧ ∀ o E', Q0 o E' → ∀ H', Kq H H' → Rep Γ E' σ H' → Q o H'
theorem po_weak {x : Option Expr} {t t' : TO} (h : PO X x t) (w : ∀ σ H Q, t' σ H Q → t σ H Q) : PO X x t' := ⟨fun pins s σ H Q I q => h.run pins s σ H Q I (w _ _ _ q)⟩
def oNo : VOp := fun E Q => Q none E
def oSo (t : VT) : VOp := fun E Q => t E fun d E1 => match d with
  | .int i => Q (some i) E1
  | _ => False
theorem vo_none : PO X none (liftO S oNo) := by
  refine po_weak po_none ?_
  rintro σ H Q ⟨Γ, E, Q0, ok, rp, ht, k⟩
  exact k _ _ ht _ (Kq.refl _) rp
theorem vo_some {t : VT} (h : VE S X e t) : PO X (some e) (liftO S (oSo t)) := by
  refine po_weak (po_some h) ?_
  rintro σ H Q ⟨Γ, E, Q0, ok, rp, ht, k⟩
  refine ⟨Γ, E, _, ok, rp, ht, fun d E1 hq v H1 kq1 rp1 hv => ?_⟩
  cases d with
  | int i => cases hv; exact ⟨i, rfl, k _ _ hq _ kq1 rp1⟩
  | _ => exact hq.elim
def cutD {α : Type} (xs : List α) (lo hi : Option Int) : List α := (xs.drop (HT.sIx xs.length 0 lo)).take (HT.sIx xs.length xs.length hi - HT.sIx xs.length 0 lo)
def slG (d : D) (lo hi : Option Int) (Q : RV → Prop) : Prop := match d with
  | .lst xs => Q (.fl (cutD xs lo hi))
  | .tup xs => Q (.v (.tup (cutD xs lo hi)))
  | .str x => x.length ≤ 1000000 ∧ Q (.v (.str (cutS x lo hi)))
  | _ => False
theorem RpL.cut {K : PySem.W.Frag} {tp : Option Tp} {H : Hp} {vs : List V} {ds : List D} (h : RpL K tp H vs ds) (lo hi : Option Int) : RpL K tp H (cutV vs lo hi) (cutD ds lo hi) := by
  unfold cutV cutD
  rw [h.len]
  exact (h.drop _).take _
def vSl (t : VT) (l u : VOp) : FT := fun E Q => t E fun d E1 => l E1 fun lo E2 => u E2 fun hi E3 => slG d lo hi fun z => Q z E3
theorem fe_slice {lo hi : Option Expr} {t : VT} {l u : VOp} {p2 : Pos} (hK : S.K = X.K) (he : VE S X e t) (hl : PO X lo (liftO S l)) (hu : PO X hi (liftO S u)) : FE S X (.Subscript e (.Slice lo hi none p2) pos) (vSl t l u) := by
  refine pe_weak (pe_slice (sl_list.or (sl_tupA.or sl_str)) he hl hu) ?_
  rintro σ H Q ⟨Γ, E, Q0, ok, rp, ht, k⟩
  have eK : X.K = Γ.K := (ok.k.trans hK).symm
  refine ⟨Γ, E, _, ok, rp, ht, fun d E1 hq v H1 kq1 rp1 hv => ?_⟩
  refine ⟨Γ, E1, _, ok, rp1, hq, fun lo E2 hq2 H2 kq2 rp2 => ?_⟩
  refine ⟨Γ, E2, _, ok, rp2, hq2, fun hi E3 hq3 H3 kq3 rp3 => ?_⟩
  have hv3 := Rp.kq (kq2.trans kq3) _ _ hv
  have kq := (kq1.trans kq2).trans kq3
  unfold slG at hq3
  split at hq3
  · obtain ⟨p, xs, rfl, h1, h2⟩ := hv3.lst_inv
    refine .inl ⟨p, xs, rfl, by rw [eK]; exact h1.sq, fun q nq => ?_⟩
    have sm := same_upd (o := .lst (cutV xs lo hi)) nq
    exact k _ _ hq3 _ _ (kq.trans (.same sm)) (rp3.same sm) (RpN.rep (x := .fl _) rp3 sm ⟨q, _, rfl, nq, upd_same, RpL.kq (.same sm) _ _ (h2.cut lo hi)⟩)
  · obtain ⟨p, xs, rfl, h1, h2⟩ := hv3.tup_inv
    refine .inr (.inl ⟨p, xs, rfl, by rw [eK]; exact h1, fun w => ?_, fun _ q nq => ?_⟩)
    · refine k _ _ hq3 _ _ kq rp3 ?_
      have e2 : cutV xs lo hi = xs := cut_whole w
      have := h2.cut lo hi
      rw [e2] at this
      exact .tup h1 this
    · have sm := same_upd (o := .tup (cutV xs lo hi)) nq
      exact k _ _ hq3 _ _ (kq.trans (.same sm)) (rp3.same sm) (.tup (.of upd_same) (RpL.kq (.same sm) _ _ (h2.cut lo hi)))
  · cases hv3
    exact .inr (.inr ⟨_, rfl, million hq3.1, k _ _ hq3.2 _ _ kq rp3 (.str _)⟩)
  · exact hq3.elim
abbrev VC := List D → (RV → Prop) → Prop
inductive RpWL (Γ : Gm) (H : Hp) : List V → List D → Prop
  | nil : RpWL Γ H [] []
  | cons {v : V} {d : D} {vs : List V} {ds : List D} : RpW Γ H v d → RpWL Γ H vs ds → RpWL Γ H (v :: vs) (d :: ds)
theorem RpWL.of {Γ : Gm} {H : Hp} : ∀ {vs : List V} {ds : List D}, Γ.RpL H vs ds → RpWL Γ H vs ds
  | _, _, .nil => .nil
  | _, _, .cons h t => .cons (.v h) (RpWL.of t)
structure CallV (S : Sg) (X : Cx) (f : Value) (g : VC) : Prop where
  ex : ∃ r : List V → Hp → VK → Prop, CallR X f r ∧ ∀ (Γ : Gm) (H : Hp) (xs : List V) (ds : List D) (Q : VK) (Q0 : RV → Prop), Γ.K = S.K → RpWL Γ H xs ds → g ds Q0 → (∀ z, Q0 z → ∀ v H', Same H H' → RpN Γ H H' v z → Q v H') → r xs H Q
def vCB (g : VC) (t : VTA) : FT := fun E Q => t E fun ds E1 => g ds fun z => Q z E1
def vCB1 (g : VC) (t : VT) : FT := fun E Q => t E fun d E1 => g [d] fun z => Q z E1
theorem pe_CB {f : Value} {g : VC} {t : VTA} (hc : CallV S X f g) (mk : ∀ {r : List V → Hp → VK → Prop} {t : TA}, CallR X f r → PA X es t → PE X e (tCB r t)) (ha : VA S X es t) : FE S X e (vCB g t) := by
  obtain ⟨r, h1, h2⟩ := hc.ex
  refine pe_weak (mk h1 ha) ?_
  rintro σ H Q ⟨Γ, E, Q0, ok, rp, ht, k⟩
  refine ⟨Γ, E, _, ok, rp, ht, fun ds E1 hq vs H1 kq1 rp1 hvs => ?_⟩
  exact h2 Γ H1 vs ds _ _ ok.k (.of hvs) hq fun z hz v H' sm hn => k _ _ hz v H' (kq1.trans (.same sm)) (rp1.same sm) (hn.rep rp1 sm)
def liftBA (S : Sg) (t : VT) : TA := fun σ H Q => ∃ (Γ : Gm) (E : En) (Q0 : D → En → Prop), Γ.Ok S ∧ Rep Γ E σ H ∧ t E Q0 ∧ ∀ d E', Q0 d E' → ∀ v H', Kq H H' → Rep Γ E' σ H' → RpW Γ H' v d → Q [v] H'
theorem ba_one {t : VT} (h : BE S X a t) (hs : starEach [a] X.env = (false, eval a X.env) :: starEach [] X.env := by rfl) : PA X [a] (liftBA S t) := by
  refine pa_weak (pa_cons h pa_nil hs) ?_
  rintro σ H Q ⟨Γ, E, Q0, ok, rp, ht, k⟩
  exact ⟨Γ, E, _, ok, rp, ht, fun d E1 hq v H1 kq1 rp1 hv => k _ _ hq v H1 kq1 rp1 hv⟩
theorem pe_CB1 {f : Value} {g : VC} {t : VT} (hc : CallV S X f g) (mk : ∀ {r : List V → Hp → VK → Prop} {t : TA}, CallR X f r → PA X [a] t → PE X e (tCB r t)) (ha : BE S X a t) (hs : starEach [a] X.env = (false, eval a X.env) :: starEach [] X.env := by rfl) : FE S X e (vCB1 g t) := by
  obtain ⟨r, h1, h2⟩ := hc.ex
  refine pe_weak (mk h1 (ba_one ha hs)) ?_
  rintro σ H Q ⟨Γ, E, Q0, ok, rp, ht, k⟩
  refine ⟨Γ, E, _, ok, rp, ht, fun d E1 hq v H1 kq1 rp1 hv => ?_⟩
  exact h2 Γ H1 [v] [d] _ _ ok.k (.cons hv .nil) hq fun z hz v H' sm hn => k _ _ hz v H' (kq1.trans (.same sm)) (rp1.same sm) (hn.rep rp1 sm)
def lenG : VC := fun ds Q => match ds with
  | [.lst xs] => Q (.v (.int xs.length))
  | [.tup xs] => Q (.v (.int xs.length))
  | [.str x] => x.length ≤ 1000000 ∧ Q (.v (.int x.length))
  | _ => False
theorem c_len (hK : S.K = X.K) : CallV S X (.builtin "len") lenG := by
  refine ⟨_, call_len_seq.or call_len_str, ?_⟩
  intro Γ H xs ds Q Q0 eK hx hg k
  have eK' : X.K = Γ.K := (eK.trans hK).symm
  unfold lenG at hg
  split at hg
  · match hx with
    | .cons h .nil =>
      obtain ⟨p, ys, rfl, h1, h2⟩ := h.seq
      refine .inl ⟨p, ys, rfl, .inl (by rw [eK']; exact h1), ?_⟩
      rw [h2.len]
      exact k _ hg _ _ (Same.refl _) (.int _)
  · match hx with
    | .cons h .nil =>
      obtain ⟨p, ys, rfl, h1, h2⟩ := h.tup
      refine .inl ⟨p, ys, rfl, .inr (by rw [eK']; exact h1), ?_⟩
      rw [h2.len]
      exact k _ hg _ _ (Same.refl _) (.int _)
  · match hx with
    | .cons h .nil =>
      cases h.str
      exact .inr ⟨_, rfl, million hg.1, k _ hg.2 _ _ (Same.refl _) (.int _)⟩
  · exact hg.elim
def intG : VC := fun ds Q => match ds with
  | [.int i] => Q (.v (.int i))
  | [.bl b] => Q (.v (.int (if b then 1 else 0)))
  | _ => False
theorem c_int : CallV S X (.type "int") intG := by
  refine ⟨_, call_int1, ?_⟩
  intro Γ H xs ds Q Q0 eK hx hg k
  unfold intG at hg
  split at hg
  · match hx with
    | .cons h .nil => cases h.int; exact .inl ⟨_, rfl, k _ hg _ _ (Same.refl _) (.int _)⟩
  · match hx with
    | .cons h .nil => cases h.bl; exact .inr ⟨_, rfl, k _ hg _ _ (Same.refl _) (.int _)⟩
  · exact hg.elim
def sumG : VC := fun ds Q => match ds with
  | [.lst xs] => ∃ ns : List Int, xs = ns.map .int ∧ Q (.v (.int ns.sum))
  | _ => False
theorem RpL.ints {K : PySem.W.Frag} {tp : Option Tp} {H : Hp} : ∀ {ns : List Int} {vs : List V}, RpL K tp H vs (ns.map .int) → vs = ns.map V.int
  | [], _, h => by cases h; rfl
  | n :: ns, _, h => by
    cases h with
    | cons h1 h2 => cases h1; rw [RpL.ints h2]; rfl
theorem c_sum (hK : S.K = X.K) (hc : X.calm = true) : CallV S X (.builtin "sum") sumG := by
  refine ⟨_, cr_sum hc, ?_⟩
  intro Γ H xs ds Q Q0 eK hx hg k
  have eK' : X.K = Γ.K := (eK.trans hK).symm
  unfold sumG at hg
  split at hg
  · obtain ⟨ns, rfl, hq⟩ := hg
    match hx with
    | .cons h .nil =>
      obtain ⟨p, ys, rfl, h1, h2⟩ := h.seq
      cases h2.ints
      exact ⟨p, ns, rfl, by rw [eK']; exact h1, k _ hq _ _ (Same.refl _) (.int _)⟩
  · exact hg.elim
def D.tyS : D → String
  | .non => "NoneType"
  | .bl _ => "bool"
  | .int _ => "int"
  | .str _ => "str"
  | .tup _ => "tuple"
  | .ptp _ => "tuple"
  | .lst _ => "list"
  | .dk _ => "dict"
  | .tape => "list"
  | .ty _ => "type"
  | .ob _ => "object"
def D.typed : D → Bool
  | .tape => false
  | .ty _ => false
  | .ob _ => false
  | _ => true
def tyNames : List D → Option (List String)
  | [] => some []
  | .ty n :: r => (tyNames r).map (n :: ·)
  | _ => none
def kitAll (t : String) : List String → Option Bool
  | [] => some false
  | n :: r => match kitB t n with
    | some true => some true
    | some false => kitAll t r
    | none => none
def isiG : VC := fun ds Q => match ds with
  | [d, .ty n] => d.typed = true ∧ withB (kitAll d.tyS [n]) fun b => Q (.v (.bl b))
  | [d, .tup ts] => d.typed = true ∧ ∃ ns, tyNames ts = some ns ∧ withB (kitAll d.tyS ns) fun b => Q (.v (.bl b))
  | _ => False
theorem RpW.tyX {Γ : Gm} {H : Hp} {v : V} {d : D} (eK : Γ.K = X.K) (h : RpW Γ H v d) (t : d.typed = true) : TyX X.K H v (.type d.tyS) := by
  cases h with
  | l h1 _ => exact .base (.lst h1)
  | k h1 _ => exact .base (.dK h1)
  | v h =>
    cases h with
    | non => exact .base .non
    | bl b => exact .base (.bl b)
    | int i => exact .base (.int i)
    | str x => exact .base (.str x)
    | tup hs ha =>
      rcases hs with (hs | ⟨o, hs⟩) | ⟨o, its, n, hk, hc, _⟩
      · exact .base (.tup hs)
      · exact .fTuple hs
      · exact .kTuple (by rw [← eK]; exact hk) hc
    | ptp hs _ ha => exact .fTuple hs
    | lst hs ha =>
      obtain ⟨o, hs⟩ := hs
      exact .base (.frz hs)
    | dk hs ha => exact .fDict hs
    | tape _ => cases t
    | ty _ => cases t
    | ob _ => cases t
theorem kitAll_any {K : PySem.W.Frag} {t : String} : ∀ {ns : List String} {b : Bool}, kitAll t ns = some b → PySem.W.kitAny K (.type t) (ns.map Value.type) = some b
  | [], b, h => by cases h; exact kitAny_nil
  | n :: r, b, h => by
    unfold kitAll at h
    cases e : kitB t n with
    | none => rw [e] at h; cases h
    | some c =>
      rw [e] at h
      cases c with
      | true => cases h; exact kitAny_cons (kit_ty e) (fun z => by cases z) (fun _ => rfl)
      | false => exact kitAny_cons (kit_ty e) (fun _ => kitAll_any h) (fun z => by cases z)
theorem kitAll_one {K : PySem.W.Frag} {t n : String} {b : Bool} (h : kitAll t [n] = some b) : PySem.W.kitOne K (.type t) (.type n) = some b := by
  unfold kitAll at h
  cases e : kitB t n with
  | none => rw [e] at h; cases h
  | some c =>
    rw [e] at h
    cases c with
    | true => cases h; exact kit_ty e
    | false => cases h; exact kit_ty e
theorem tyNames_vals {Γ : Gm} {H : Hp} : ∀ {ts : List D} {ns : List String} {vs : List V}, tyNames ts = some ns → Γ.RpL H vs ts → ∀ {us : List Value}, Vals vs us → us = ns.map Value.type
  | [], _, _, e, h, us, r => by cases e; cases h; cases r; rfl
  | .ty n :: ts, ns, _, e, h, us, r => by
    cases h with
    | cons h1 h2 =>
      cases h1
      cases r with
      | cons r1 r2 =>
        unfold tyNames at e
        cases e2 : tyNames ts with
        | none => rw [e2] at e; cases e
        | some ms =>
          rw [e2] at e
          cases e
          rw [show _ = Value.type n from r1, tyNames_vals e2 h2 r2]
          rfl
  | .non :: _, _, _, e, _, _, _ => by cases e
  | .bl _ :: _, _, _, e, _, _, _ => by cases e
  | .int _ :: _, _, _, e, _, _, _ => by cases e
  | .str _ :: _, _, _, e, _, _, _ => by cases e
  | .tup _ :: _, _, _, e, _, _, _ => by cases e
  | .ptp _ :: _, _, _, e, _, _, _ => by cases e
  | .lst _ :: _, _, _, e, _, _, _ => by cases e
  | .dk _ :: _, _, _, e, _, _, _ => by cases e
  | .tape :: _, _, _, e, _, _, _ => by cases e
  | .ob _ :: _, _, _, e, _, _, _ => by cases e
theorem call_isiS : CallR X (.builtin "isinstance") (fun xs H Q => ∃ (x : V) (tp : Addr) (cs : List V) (t : Value) (b : Bool), xs = [x, .ref tp] ∧ SqT X.K H tp cs ∧ TyX X.K H x t ∧ (∀ us, Vals cs us → PySem.W.kitAny X.K t us = some b) ∧ Q (.bl b) H) := by
  rintro pins s σ H xs us Q I r ⟨x, tp, cs, t, b, rfl, hT, ty, hk, q⟩
  obtain ⟨u1, u2, rfl, r1, r2⟩ := vals2 r
  cases (show u2 = Value.ref tp from r2)
  obtain ⟨P, Z, pz, hx⟩ := kit_of I r1 ty
  obtain ⟨its, rv, ⟨⟨oc, od, dt, sl⟩, h1, h2, n, h3⟩, hz⟩ := I.tuple hT
  simp only at h2 h3
  subst h2 h3
  exact PySem.W.kia_tup Z I.kIn pz h1 (by simpa using hk its rv) hx fun tk => ⟨.bl b, H, I.tok tk, rfl, q⟩
theorem c_isi (hK : S.K = X.K) : CallV S X (.builtin "isinstance") isiG := by
  refine ⟨_, call_isi.or call_isiS, ?_⟩
  intro Γ H xs ds Q Q0 eK hx hg k
  have eK' : Γ.K = X.K := eK.trans hK
  unfold isiG at hg
  split at hg
  · match hx with
    | .cons h (.cons h' .nil) =>
      cases h' with
      | v h' =>
        cases h'
        obtain ⟨b, e, hq⟩ := withB_inv hg.2
        exact .inl ⟨_, _, _, _, b, rfl, .ty _, h.tyX eK' hg.1, kitAll_one e, k _ hq _ _ (Same.refl _) (.bl _)⟩
  · match hx with
    | .cons h (.cons h' .nil) =>
      obtain ⟨p, ys, rfl, h1, h2⟩ := h'.tup
      obtain ⟨ns, en, hg2⟩ := hg.2
      obtain ⟨b, e, hq⟩ := withB_inv hg2
      refine .inr ⟨_, p, ys, _, b, rfl, by rw [← eK']; exact h1, h.tyX eK' hg.1, fun us hv => ?_, k _ hq _ _ (Same.refl _) (.bl _)⟩
      rw [tyNames_vals en h2 hv]
      exact kitAll_any e
  · exact hg.elim
theorem ve_ty {n : String} {x : PySem.Str} (h : PE X e (tC (.ty n))) : VE S X e (vC (.ty n)) := ve_c h fun _ _ => .ty n
def onL (s : Option SV) (Q : List D → Prop) : Prop := match s with
  | some (.ol ds) => Q ds
  | _ => False
theorem onL_inv {s : Option SV} {Q : List D → Prop} (h : onL s Q) : ∃ ds, s = some (.ol ds) ∧ Q ds := by
  unfold onL at h
  split at h
  · exact ⟨_, rfl, h⟩
  · exact h.elim
def sApp (i : Nat) (t : VT) : VS := fun V E => onL E.l[i]? fun _ => t E fun d E1 => onL E1.l[i]? fun ds => ds.length < 1000000 ∧ V.nx (E1.set i (.ol (ds ++ [d])))
theorem own_list {Γ : Gm} {E : En} {σ : L2.St} {H : Hp} {i : Nat} {ds : List D} (r : Rep Γ E σ H) (e : E.l[i]? = some (.ol ds)) : ∃ a xs, σ[i]? = some (some (.ref a)) ∧ H a = some (.lst xs) ∧ Γ.RpL H xs ds ∧ Free Γ a := by
  obtain ⟨o, h1, a, xs, rfl, h2, h3, h4⟩ := r.sl i _ e
  exact ⟨a, xs, h1, h2, h3, h4⟩
theorem Rep.wrL {Γ : Gm} {E : En} {σ : L2.St} {H : Hp} {i : Nat} {ds ds' : List D} {a : Addr} {xs xs' : List V} (r : Rep Γ E σ H) (e : E.l[i]? = some (.ol ds)) (eo : σ[i]? = some (some (.ref a))) (h : H a = some (.lst xs)) (fr : Free Γ a) (h' : Γ.RpL H xs' ds') :
    Kq H (upd H a (.lst xs')) ∧ Rep Γ (E.set i (.ol ds')) σ (upd H a (.lst xs')) := by
  have kq : Kq H (upd H a (.lst xs')) := Kq.upd h trivial
  exact ⟨kq, r.wr e rfl eo h trivial ⟨a, xs', rfl, upd_same, RpL.kq kq _ _ h', fr⟩⟩
theorem vs_append {i : Nat} {o : Expr} {t : VT} {apos cpos : Pos} (hK : S.K = X.K) (ho : PE X o (tVar i)) (he : VE S X e t) (hw : swapsWith (.Call (.Attribute o "append" apos) [e] [] cpos) none pos.line X.env = pure false := by rfl)
    (hbase : attributeBase o "append" X.env (eval o X.env) = eval o X.env := by rfl)
    (hfew : ((backTo cpos (starEach [e] X.env)).all (fun x => !x.1) && (backToKw cpos (keywordEach [] X.env)).all (fun x => x.1.isSome)
      && decide (([e] : List Expr).length + ([] : List Keyword).length + (if ([] : List Keyword).isEmpty then 0 else 1) < 30)) = true := by rfl)
    (hline : (apos.endLine == cpos.line) = true := by rfl) (hs : starEach [e] X.env = (false, eval e X.env) :: starEach [] X.env := by rfl) (hplain : (backTo cpos (starEach [] X.env)).any (·.1) = false := by rfl) :
    VSt S X (.Expr (.Call (.Attribute o "append" apos) [e] [] cpos) pos) (sApp i t) := by
  refine ps_weak (ps_expr (pe_bm PySem.F.plainAttrs_list PySem.F.slot_list_append PySem.F.type_list_append mt_append ho (va_cons (S := S) he va_nil hs) hbase hfew hline hs hplain) hw) ?_
  rintro D0 σ H ⟨Γ, E, V, ok, rp, ht, k⟩
  obtain ⟨ds0, e0, ht⟩ := onL_inv ht
  obtain ⟨p, xs0, hv, hl0, _, _⟩ := own_list rp e0
  refine ⟨_, hv, .inl ⟨rfl, xs0, .of hl0⟩, ?_⟩
  refine ⟨Γ, E, fun ds E1 => match ds with
    | [d] => onL E1.l[i]? fun ds => ds.length < 1000000 ∧ V.nx (E1.set i (.ol (ds ++ [d])))
    | _ => False, ok, rp, ht, fun ds E1 hq vs H1 kq1 rp1 hvs => ?_⟩
  · match ds, hq, vs, hvs with
    | [d], hq, [u], .cons hu .nil =>
      obtain ⟨ds1, e1, hsz, hq⟩ := onL_inv hq
      obtain ⟨p1, xs1, hv1, hl1, hr1, fr1⟩ := own_list rp1 e1
      rw [hv] at hv1
      cases hv1
      obtain ⟨kq2, rp2⟩ := rp1.wrL e1 hv hl1 fr1 (hr1.app (.cons hu .nil))
      refine ⟨p, xs1, u, rfl, rfl, hl1, millionL (by rw [hr1.len]; exact hsz), ?_⟩
      exact k.nx _ hq σ _ (kq1.trans kq2) rp2
end
end Va
set_option Elab.async false
set_option linter.all false
set_option maxRecDepth 100000
set_option maxHeartbeats 4000000
namespace Va
open PySem PySem.Spec PyProof.Rows L2 Ind GenW
def SV.shut (s : SV) : SV := if s.own then .no else s
def wipeE (E : En) : List Nat → En
  | [] => E
  | v :: vs => (wipeE E vs).set v .no
def shutE (E : En) : En := ⟨E.l.map SV.shut, E.c⟩
def blkE (E : En) (vs : List Nat) : En := wipeE (shutE E) vs
def fzE (E : En) (i : Nat) : En := match E.l[i]? with
  | some s => E.set i s.fz
  | none => E
section
variable {Γ : Gm} {E : En} {σ : L2.St} {H H' : Hp}
theorem Rep.setNo (r : Rep Γ E σ H) (i : Nat) (o : Option V) : Rep Γ (E.set i .no) (σ.set i o) H := by
  refine ⟨r.base, by simp [En.set, r.len], r.few, fun j s e => ?_, fun j k s t a e1 e2 o1 o2 h1 h2 => ?_⟩
  · rcases get_set e with ⟨rfl, rfl, hi⟩ | ⟨ne, e⟩
    · exact ⟨o, List.getElem?_set_self (by rw [← r.len]; exact hi), trivial⟩
    · rw [List.getElem?_set_ne ne]
      exact r.sl j s e
  · rcases get_set e1 with ⟨_, rfl, _⟩ | ⟨n1, e1⟩
    · cases o1
    · rcases get_set e2 with ⟨_, rfl, _⟩ | ⟨n2, e2⟩
      · cases o2
      · rw [List.getElem?_set_ne n1] at h1
        rw [List.getElem?_set_ne n2] at h2
        exact r.dis j k s t a e1 e2 o1 o2 h1 h2
theorem Rep.wipe (r : Rep Γ E σ H) : ∀ vs : List Nat, Rep Γ (wipeE E vs) (L2.wipe σ vs) H
  | [] => r
  | v :: vs => (Rep.wipe r vs).setNo v none
abbrev Gm.blk (Γ : Gm) (H : Hp) : Gm := { Γ with io := [], H0 := H }
theorem shut_own {s : SV} : s.shut.own = false := by
  cases s <;> rfl
theorem Rep.enter (r : Rep Γ E σ H) : Rep (Γ.blk H) (shutE E) σ H := by
  refine ⟨⟨fun _ _ _ _ z => z, Kq.refl _, r.base.tape, r.base.tabs⟩, by simp [shutE, r.len], r.few, fun i s e => ?_, fun i j s t a e1 _ o1 _ _ _ => ?_⟩
  · have e : (E.l.map SV.shut)[i]? = some s := e
    rw [List.getElem?_map] at e
    cases h : E.l[i]? with
    | none => rw [h] at e; cases e
    | some s0 =>
      rw [h] at e
      cases e
      obtain ⟨o, h1, h2⟩ := r.sl i s0 h
      refine ⟨o, h1, ?_⟩
      cases s0 with
      | no => trivial
      | v d => exact h2
      | ol ds => trivial
      | od b ds => trivial
      | ex b pl => exact h2
      | q b => exact h2
      | ow k c => trivial
  · have e1 : (E.l.map SV.shut)[i]? = some s := e1
    rw [List.getElem?_map] at e1
    cases h : E.l[i]? with
    | none => rw [h] at e1; cases e1
    | some s0 =>
      rw [h] at e1
      cases e1
      rw [shut_own] at o1
      cases o1
theorem Rep.leave {c : Nat} (r : Rep Γ E σ H) (b : Base (Γ.blk H) H') (f : Few Γ.tp c H') : Rep Γ ⟨E.l, c⟩ σ H' := by
  refine ⟨⟨fun c o n1 n2 h => b.ext c o n1 (by simp) (r.base.ext c o n1 n2 h), r.base.kq.trans b.kq, b.tape, b.tabs⟩, r.len, f, fun i s e => ?_, r.dis⟩
  obtain ⟨o, h1, h2⟩ := r.sl i s e
  refine ⟨o, h1, h2.stay b.kq fun a u ow eo h => ?_⟩
  obtain ⟨c, _, e1, _, _, fr⟩ := h2.own_at ow
  rw [e1] at eo
  cases eo
  exact b.ext _ _ fr.nsp (by simp) h
theorem wipe_in : ∀ {vs : List Nat} {σ : L2.St} {j : Nat}, j ∈ vs → j < σ.length → (L2.wipe σ vs)[j]? = some none
  | v :: vs, σ, j, hj, hl => by
    show ((L2.wipe σ vs).set v none)[j]? = some none
    by_cases e : v = j
    · subst e
      rw [List.getElem?_set_self (by rw [wipe_length]; exact hl)]
    · rw [List.getElem?_set_ne e]
      rcases List.mem_cons.mp hj with h | h
      · exact absurd h.symm e
      · exact wipe_in h hl
theorem wipe_only {vs : List Nat} {σ σ' : L2.St} (o : Only vs (L2.wipe σ vs) σ') : L2.wipe σ' vs = L2.wipe σ vs := by
  have len : σ'.length = σ.length := by rw [o.len, wipe_length]
  apply List.ext_getElem?
  intro j
  by_cases hj : j ∈ vs
  · by_cases hl : j < σ.length
    · rw [wipe_in hj hl, wipe_in hj (by rw [len]; exact hl)]
    · rw [List.getElem?_eq_none (by rw [wipe_length]; omega), List.getElem?_eq_none (by rw [wipe_length]; omega)]
  · rw [wipe_out hj, o.at_ j hj]
end
section
variable {X : Cx} {S : Sg}
def cYes : VTT := fun E Q => Q true E
abbrev VTs (S : Sg) (X : Cx) (ifs : List Expr) (t : VTT) : Prop := PTs X ifs (liftT S t)
theorem vts_nil : VTs S X [] cYes := by
  refine ⟨fun pins s σ H Q I h => ?_⟩
  obtain ⟨Γ, E, Q0, ok, rp, ht, k⟩ := h
  exact (pts_nil (X := X)).run pins s σ H Q I (k true E ht H (Kq.refl _) rp)
theorem vts_one {c : Expr} {t : VTT} (h : VB S X c t) : VTs S X [c] t := pts_one h
def vLc (vi : VI) (g : VG) (c : VTT) (el : VT) (vs : List Nat) : FT := fun E Q => vi E fun ds E1 => ds.length < 1000000 ∧ ∃ P : Nat → List D → Nat → Prop, P 0 [] E1.c ∧
  (∀ i d acc k, ds[i]? = some d → P i acc k → acc.length ≤ i → g d (blkE ⟨E1.l, k⟩ vs) fun E2 => c E2 fun b E3 => (b = true → el E3 fun x E4 => P (i + 1) (acc ++ [x]) E4.c) ∧ (b = false → P (i + 1) acc E3.c)) ∧
  ∀ acc k, P ds.length acc k → acc.length ≤ ds.length → Q (.fl acc) ⟨E1.l, k⟩
theorem lc_lift {vi : VI} {g : VG} {c : VTT} {el : VT} {vs : List Nat} {σ : L2.St} {H : Hp} {Q : VK} (h : liftF S (vLc vi g c el vs) σ H Q) : tLc (liftI S vi) (liftG S vs g) (liftT S c) (liftV S el) vs σ H Q := by
  obtain ⟨Γ, E, Q0, ok, rp, ht, k⟩ := h
  refine ⟨Γ, E, _, ok, rp, ht, fun ds E1 ⟨hsz, P, p0, ps, pn⟩ J H1 kq1 rp1 it A nA => ?_⟩
  obtain ⟨frA, loA⟩ := rp1.fresh nA
  have sm0 := same_upd (o := .lst []) nA
  refine ⟨fun i m H' => m = ds.length - i ∧ i ≤ ds.length ∧ ∃ acc xs q, P i acc q ∧ acc.length ≤ i ∧ H' A = some (.lst xs) ∧ Γ.RpL H' xs acc ∧ Kq H1 H' ∧ Rep Γ ⟨E1.l, q⟩ σ H', ⟨_, rfl, Nat.zero_le _, [], [], E1.c, p0, Nat.le_refl _, upd_same, .nil, Kq.same sm0, rp1.same sm0⟩, ?_⟩
  rintro i m H' ⟨rfl, hi, acc, xs, q0, pi, la, hA, hx, kq', rp'⟩
  by_cases hlt : i < ds.length
  · refine .inr ⟨it.go i H' hlt kq', fun H2 => i + 1 ≤ ds.length ∧ ∃ acc xs q, P (i + 1) acc q ∧ acc.length ≤ i + 1 ∧ H2 A = some (.lst xs) ∧ Γ.RpL H2 xs acc ∧ Kq H1 H2 ∧ Rep Γ ⟨E1.l, q⟩ σ H2, fun H2 h => ⟨_, by omega, rfl, h⟩, fun x H2 y => ?_⟩
    obtain ⟨d, ed, rd, sm⟩ := it.yld i H' x H2 hlt kq' y
    have rp2 := rp'.same sm
    have okb : (Γ.blk H2).Ok S := ⟨ok.k, ok.b, ok.t⟩
    refine ⟨Γ.blk H2, blkE ⟨E1.l, q0⟩ vs, d, _, okb, rp2.enter.wipe vs, rd, ps i d acc q0 ed pi la, fun E2 q2 σ2 r2 o2 => ⟨wipe_only o2, ?_⟩⟩
    refine ⟨Γ.blk H2, E2, _, okb, r2, q2, fun b E3 q3 H3 kq3 r3 => ?_⟩
    have kq2 := kq'.trans (Kq.same sm)
    cases b with
    | true =>
      refine iteT ⟨Γ.blk H2, E3, _, okb, r3, q3.1 rfl, fun z E4 q4 v H4 kq4 r4 hv => ?_⟩
      have hA4 : H4 A = some (.lst xs) := r4.base.ext A _ frA.nsp (by simp) (sm _ _ hA)
      have rpl := rp2.leave r4.base r4.few
      have kqu : Kq H4 (upd H4 A (.lst (xs ++ [v]))) := Kq.upd hA4 trivial
      have kq4' := (kq3.trans kq4)
      have hx4 : Γ.RpL H4 xs acc := RpL.kq ((Kq.same sm).trans kq4') _ _ hx
      refine ⟨xs, hA4, millionL (by rw [hx4.len]; omega), hlt, acc ++ [z], xs ++ [v], E4.c, q4, by simp; omega, upd_same, RpL.kq kqu _ _ (hx4.app (.cons hv .nil)), (kq2.trans kq4').trans kqu, rpl.lone hA4 trivial frA loA⟩
    | false =>
      refine iteF ⟨hlt, acc, xs, E3.c, q3.2 rfl, by omega, r3.base.ext A _ frA.nsp (by simp) (sm _ _ hA), RpL.kq ((Kq.same sm).trans kq3) _ _ hx, kq2.trans kq3, rp2.leave r3.base r3.few⟩
  · have e : i = ds.length := by omega
    subst e
    exact .inl ⟨it.stop H' kq', k _ _ (pn acc q0 pi la) _ _ (kq1.trans kq') rp' ⟨A, rfl, ⟨A, xs, rfl, hA, hx, frA⟩, loA⟩⟩
variable {elt tg iter : Expr} {ifs : List Expr} {scope : Scope} {own : List (PySem.Str × Nat)} {pos spos py : Pos} {vi : VI} {g : VG} {c : VTT} {el : VT}
theorem fe_lc (hc : X.calm = true) (hN : X.N.Nodup) (hi : VIt S X tg iter vi) (ok : BlkOk X.N X.env.scope scope own)
    (hg : ∀ (s : Shared) (H : Hp) (C : Addr) (cl : List (PySem.Str × Addr)) (fp : List Addr), PG (X.blk s H scope (compEnvC scope cl C X.env) fp) tg (liftG S (own.map (·.2)) g))
    (ht : ∀ (s : Shared) (H : Hp) (C : Addr) (cl : List (PySem.Str × Addr)) (fp : List Addr), VTs S (X.blk s H scope (compEnvC scope cl C X.env) fp) ifs c)
    (he : ∀ (s : Shared) (H : Hp) (C : Addr) (cl : List (PySem.Str × Addr)) (fp : List Addr), VE S (X.blk s H scope (compEnvC scope cl C X.env) fp) elt el) (hs : ∀ x, foldedSetIterable iter X.env x = pure x := by intro _; rfl) :
    FE S X (.ListComp elt [⟨tg, iter, ifs, 0⟩] scope pos) (vLc vi g c el (own.map (·.2))) := pe_weak (pe_lc hc hN hi ok hg ht he hs) fun _ _ _ h => lc_lift h
theorem vs_setLc {i : Nat} {y : PySem.Str} (hc : X.calm = true) (hN : X.N.Nodup) (hy : X.N[i]? = some y) (hyl : X.env.scope.names.lookup y = some .local)
    (hsw : swapsWith (.ListComp elt [⟨tg, iter, ifs, 0⟩] scope pos) (some (.Name y py)) spos.line X.env = pure true) (hi : VIt S X tg iter vi) (ok : BlkOk X.N X.env.scope scope own)
    (hg : ∀ (s : Shared) (H : Hp) (C : Addr) (cl : List (PySem.Str × Addr)) (fp : List Addr), PG (X.blk s H scope (compEnvC scope cl C X.env) fp) tg (liftG S (own.map (·.2)) g))
    (ht : ∀ (s : Shared) (H : Hp) (C : Addr) (cl : List (PySem.Str × Addr)) (fp : List Addr), VTs S (X.blk s H scope (compEnvC scope cl C X.env) fp) ifs c)
    (he : ∀ (s : Shared) (H : Hp) (C : Addr) (cl : List (PySem.Str × Addr)) (fp : List Addr), VE S (X.blk s H scope (compEnvC scope cl C X.env) fp) elt el) (hs : ∀ x, foldedSetIterable iter X.env x = pure x := by intro _; rfl) :
    VSt S X (.Assign [.Name y py] (.ListComp elt [⟨tg, iter, ifs, 0⟩] scope pos) spos) (sSet i (vLc vi g c el (own.map (·.2)))) := by
  refine ps_weak (ps_setLc hc hN hy hyl hsw hi ok hg ht he hs) ?_
  rintro D σ H ⟨Γ, E, V, ok, r, h, k⟩
  refine lc_lift ⟨Γ, E, _, ok, r, h, fun d E1 h1 v H1 q1 r1 hv => ?_⟩
  exact k.nx _ h1 _ H1 q1 (hv.set r1 i)
theorem fz_any {Γ : Gm} {E : En} {σ : L2.St} {H : Hp} (r : Rep Γ E σ H) (i : Nat) : (Rep Γ (fzE E i) σ H) ∨ ∃ a u, σ[i]? = some (some (.ref a)) ∧ H a = some u ∧ Mut (some u) ∧ ∀ o, Rep Γ (fzE E i) σ (upd H a (.frz o u)) := by
  unfold fzE
  cases h : E.l[i]? with
  | none => exact .inl r
  | some s =>
    obtain ⟨o, h1, h2⟩ := r.sl i s h
    have hi := (List.getElem?_eq_some_iff.mp h)
    have same : E.set i s = E := by
      show (⟨E.l.set i s, E.c⟩ : En) = E
      rw [show E.l.set i s = E.l from ?_]
      apply List.ext_getElem?
      intro j
      by_cases e : i = j
      · subst e
        rw [List.getElem?_set_self hi.1, h]
      · rw [List.getElem?_set_ne e]
    cases s with
    | no => exact .inl (by show Rep Γ (E.set i .no) σ H; rw [same]; exact r)
    | v d => exact .inl (by show Rep Γ (E.set i (.v d)) σ H; rw [same]; exact r)
    | ex b pl => exact .inl (by show Rep Γ (E.set i (.ex b pl)) σ H; rw [same]; exact r)
    | q b => exact .inl (by show Rep Γ (E.set i (.q b)) σ H; rw [same]; exact r)
    | ow k c => exact .inl (by show Rep Γ (E.set i (.ow k c)) σ H; rw [same]; exact r)
    | ol ds =>
      obtain ⟨p, u, rfl, hu, mu, fr⟩ := h2.own_at rfl
      exact .inr ⟨p, u, h1, hu, mu, fun o => (r.lock h rfl h1 hu mu).1⟩
    | od b ds =>
      obtain ⟨p, u, rfl, hu, mu, fr⟩ := h2.own_at rfl
      exact .inr ⟨p, u, h1, hu, mu, fun o => (r.lock h rfl h1 hu mu).1⟩
def vFz (i : Nat) (t : FT) : FT := fun E Q => t (fzE E i) Q
theorem fe_fz {e : Expr} {t : FT} (i : Nat) (h : FE S X e t) : FE S X e (vFz i t) := by
  refine pe_weak (pe_lockS i h) ?_
  rintro σ H Q ⟨Γ, E, Q0, ok, rp, ht, k⟩
  rcases fz_any rp i with r | ⟨p, u, h1, h2, h3, h4⟩
  · exact .inl ⟨Γ, _, Q0, ok, r, ht, k⟩
  · exact .inr ⟨p, u, h1, h2, h3, fun o => ⟨Γ, _, Q0, ok, h4 o, ht, fun r E' q v H' kq => k r E' q v H' ((Kq.upd h2 h3).trans kq)⟩⟩
def vFzV (i : Nat) (t : VT) : VT := fun E Q => t (fzE E i) Q
theorem ve_fz {e : Expr} {t : VT} (i : Nat) (h : VE S X e t) : VE S X e (vFzV i t) := by
  refine pe_weak (pe_lockS i h) ?_
  rintro σ H Q ⟨Γ, E, Q0, ok, rp, ht, k⟩
  rcases fz_any rp i with r | ⟨p, u, h1, h2, h3, h4⟩
  · exact .inl ⟨Γ, _, Q0, ok, r, ht, k⟩
  · exact .inr ⟨p, u, h1, h2, h3, fun o => ⟨Γ, _, Q0, ok, h4 o, ht, fun r E' q v H' kq => k r E' q v H' ((Kq.upd h2 h3).trans kq)⟩⟩
theorem ps_lockS {st : Stmt} {t : TS} (i : Nat) (h : PS X st t) : PS X st (fun D σ H => t D σ H ∨ ∃ a u, σ[i]? = some (some (.ref a)) ∧ H a = some u ∧ Mut (some u) ∧ ∀ o, t D σ (upd H a (.frz o u))) := by
  refine ⟨fun pins s σ H D I q => ?_⟩
  rcases q with q | ⟨a, u, _, hu, mu, q⟩
  · exact h.run pins s σ H D I q
  · obtain ⟨o, I2⟩ := I.lock hu mu
    exact h.run pins s σ _ D I2 (q o)
def sFz (i : Nat) (t : VS) : VS := fun V E => t V (fzE E i)
theorem vs_fz {st : Stmt} {t : VS} (i : Nat) (h : VSt S X st t) : VSt S X st (sFz i t) := by
  refine ps_weak (ps_lockS i h) ?_
  rintro D σ H ⟨Γ, E, V, ok, rp, ht, k⟩
  rcases fz_any rp i with r | ⟨p, u, h1, h2, h3, h4⟩
  · exact .inl ⟨Γ, _, V, ok, r, ht, k⟩
  · exact .inr ⟨p, u, h1, h2, h3, fun o => ⟨Γ, _, V, ok, h4 o, ht, k.kq (Kq.upd h2 h3)⟩⟩
def vGen (vi : VI) (g : VG) (el : VT) (vs : List Nat) (ans : List Nat → (Nat → Bool) → Bool) : VT := fun E Q => vi E fun ds E1 => ∃ f : Nat → Bool, (∀ i d, ds[i]? = some d → g d (blkE E1 vs) fun E2 => el E2 fun x E3 => x = .bl (f i) ∧ E3.c = E1.c) ∧ Q (.bl (ans (List.range ds.length) f)) E1
theorem gen_lift {P : Addr} {vs : List Nat} {ans : List Nat → (Nat → Bool) → Bool} (hP : P ∈ S.tabs) {σ : L2.St} {H : Hp} {Q : VK} (h : liftV S (vGen vi g el vs ans) σ H Q) : IndG.genR P (liftI S vi) (liftG S vs g) (liftV S el) vs ans σ H Q := by
  obtain ⟨Γ, E, Q0, ok, rp, ht, k⟩ := h
  refine ⟨Γ, E, _, ok, rp, ht, fun ds E1 ⟨f, hf, hq⟩ J H1 kq1 rp1 it => ⟨rp1.base.tabs P (by rw [ok.t]; exact hP), fun H2 tb => ?_⟩⟩
  have hPg : P ∈ Γ.tabs := by rw [ok.t]; exact hP
  have x2 : Ext Γ E1.c H1 H2 := by
    have ne : ∀ b, ¬ Γ.sp b → b ≠ P := fun b n e => n (.inr (e ▸ hPg))
    obtain ⟨ps0, hp0, _⟩ := rp1.base.tabs P hPg
    refine ⟨fun b o n h => by rw [tb.2 b (ne b n)]; exact h, fun t e => ?_, few_same rp1.few rp1.base.tape fun t e o h => by
      obtain ⟨ns, p, n, s, h1, h2, h3⟩ := rp1.base.tape t e
      rw [tb.2 t.l (ne_of h2 hp0 (fun z => nomatch z))]; exact h, fun P' hP' => ?_⟩
    · obtain ⟨ns, p, n, s, h1, h2, h3⟩ := rp1.base.tape t e
      refine ⟨ns, p, n, s, by rw [tb.2 t.a (ne_of h1 hp0 (fun z => nomatch z))]; exact h1, by rw [tb.2 t.l (ne_of h2 hp0 (fun z => nomatch z))]; exact h2, h3⟩
    · by_cases e : P' = P
      · subst e; exact tb.1
      · obtain ⟨ps, h1, h2⟩ := rp1.base.tabs P' hP'
        exact ⟨ps, by rw [tb.2 P' e]; exact h1, h2⟩
  have kq2 := x2.kq rp1.base
  refine ⟨ds.length, f, fun j H3 => Kq H1 H3 ∧ Rep Γ E1 σ H3, ⟨kq2, rp1.call x2⟩, fun j H3 hj ⟨kq3, rp3⟩ => ⟨it.go j H3 hj kq3, fun x H4 y => ?_⟩, fun H3 ⟨kq3, rp3⟩ => it.stop H3 kq3, fun j H3 ⟨kq3, rp3⟩ => k _ _ hq _ _ (kq1.trans kq3) rp3 (.bl _)⟩
  obtain ⟨d, ed, rd, sm⟩ := it.yld j H3 x H4 hj kq3 y
  have rp4 := rp3.same sm
  have okb : (Γ.blk H4).Ok S := ⟨ok.k, ok.b, ok.t⟩
  refine ⟨Γ.blk H4, blkE E1 vs, d, _, okb, rp4.enter.wipe vs, rd, hf j d ed, fun E2 q2 σ2 r2 o2 => ⟨wipe_only o2, ?_⟩⟩
  refine ⟨Γ.blk H4, E2, _, okb, r2, q2, fun z E3 q3 v H5 kq5 r5 hv => ?_⟩
  obtain ⟨rfl, q3⟩ := q3
  cases hv
  have := rp4.leave r5.base r5.few
  rw [q3] at this
  exact ⟨rfl, (kq3.trans (Kq.same sm)).trans kq5, this⟩
variable {cc P : Addr} {k : Nat} {p gpos : Pos}
theorem ve_all (hP : P ∈ S.tabs) (hc : X.calm = true) (hN : X.N.Nodup) (hr : Room k X.A) (TB : GxR.TabB X.base X.mg cc P) (hcode : X.env.code = .ref cc) (hg : Gl X "all") (hm : X.mg "all" = none) (hb : bootBuiltins "all" = some (.builtin "all")) (ok : BlkOk X.N X.env.scope scope own)
    (nocell : ∀ y ∈ scope.names, y.2 ≠ .cell) (dot : scope.names.lookup (".0" : PySem.Str) = some NameKind.local) (hco : scope.isCoroutine = false) (hi : VIt S X tg iter vi) (hs : ∀ v, genFold iter X.env v = pure v)
    (pg : ∀ (s : Shared) (H : Hp) (C : Addr) (cl : List (PySem.Str × Addr)) (code : Value) (fp : List Addr), PG (IndG.genC X (genEnv scope cl C code builtinsNs X.env) s H fp) tg (liftG S (own.map (·.2)) g))
    (pe : ∀ (s : Shared) (H : Hp) (C : Addr) (cl : List (PySem.Str × Addr)) (code : Value) (fp : List Addr), VE S (IndG.genC X (genEnv scope cl C code builtinsNs X.env) s H fp) elt el)
    (he : starEach [IndG.gx elt tg iter scope gpos] X.env = (false, eval (IndG.gx elt tg iter scope gpos) X.env) :: starEach [] X.env := by rfl) :
    VE S X (.Call (.Name "all" p) [IndG.gx elt tg iter scope gpos] [] pos) (vGen vi g el (own.map (·.2)) List.all) := pe_weak (IndG.pe_allG hc hN hr TB hcode hg hm hb ok nocell dot hco hi hs pg pe he) fun _ _ _ h => gen_lift hP h
theorem ve_any (hP : P ∈ S.tabs) (hc : X.calm = true) (hN : X.N.Nodup) (hr : Room k X.A) (TB : GxR.TabB X.base X.mg cc P) (hcode : X.env.code = .ref cc) (hg : Gl X "any") (hm : X.mg "any" = none) (hb : bootBuiltins "any" = some (.builtin "any")) (ok : BlkOk X.N X.env.scope scope own)
    (nocell : ∀ y ∈ scope.names, y.2 ≠ .cell) (dot : scope.names.lookup (".0" : PySem.Str) = some NameKind.local) (hco : scope.isCoroutine = false) (hi : VIt S X tg iter vi) (hs : ∀ v, genFold iter X.env v = pure v)
    (pg : ∀ (s : Shared) (H : Hp) (C : Addr) (cl : List (PySem.Str × Addr)) (code : Value) (fp : List Addr), PG (IndG.genC X (genEnv scope cl C code builtinsNs X.env) s H fp) tg (liftG S (own.map (·.2)) g))
    (pe : ∀ (s : Shared) (H : Hp) (C : Addr) (cl : List (PySem.Str × Addr)) (code : Value) (fp : List Addr), VE S (IndG.genC X (genEnv scope cl C code builtinsNs X.env) s H fp) elt el)
    (he : starEach [IndG.gx elt tg iter scope gpos] X.env = (false, eval (IndG.gx elt tg iter scope gpos) X.env) :: starEach [] X.env := by rfl) :
    VE S X (.Call (.Name "any" p) [IndG.gx elt tg iter scope gpos] [] pos) (vGen vi g el (own.map (·.2)) List.any) := pe_weak (IndG.pe_anyG hc hN hr TB hcode hg hm hb ok nocell dot hco hi hs pg pe he) fun _ _ _ h => gen_lift hP h
end
end Va
set_option Elab.async false
set_option linter.all false
set_option maxRecDepth 100000
set_option maxHeartbeats 4000000
namespace Va
open PySem PySem.Spec PyProof.Rows L2 Ind
inductive Er where
  | own (C : Addr)
  | fld (C : Addr) (f : Tx) (d : D)
def Er.cls : Er → Addr
  | .own C => C
  | .fld C _ _ => C
def XRep (K : PySem.W.Frag) (tp : Option Tp) (H : Hp) (cls : Value) (d : Option Addr) : Er → Prop
  | .own C => cls = .ref C ∧ d = none
  | .fld C f x => cls = .ref C ∧ ∃ dd ob v, d = some dd ∧ H dd = some (.frz ob (.xd [(f, v)])) ∧ Rp K tp H v x
abbrev XQ := Er → En → Prop
def XOk (Γ : Gm) (W : WX) (Xq : XQ) (H : Hp) : Prop := ∀ e E, Xq e E → ∀ cls d σ' H', Kq H H' → Rep Γ E σ' H' → XRep Γ.K Γ.tp H' cls d e → W cls d σ' H'
theorem XOk.kq {Γ : Gm} {W : WX} {Xq : XQ} {H H' : Hp} (k : XOk Γ W Xq H) (q : Kq H H') : XOk Γ W Xq H' := fun e E h cls d σ2 H2 q2 r x => k e E h cls d σ2 H2 (q.trans q2) r x
abbrev VSX := Ve → XQ → En → Prop
section
variable {X : Cx} {S : Sg} {W : WX} {e : Expr} {st : Stmt} {rest : List Stmt} {pos : Pos}
variable {es : List Expr}
abbrev VMX := List D → Nat → (D → Nat → Prop) → (Er → Nat → Prop) → Prop
end
section
variable {P : Program} {w : World} {K : PySem.W.Frag} {mg : PySem.Str → Option Value} {base : Heap} {S : Sg} {x qual : PySem.Str} {st : Stmt} {f : Addr} {fd : FuncData} {N ps : List PySem.Str} {k : Nat} {m : VMX} {T : VSX}
end
section
variable {X : Cx} {S : Sg} {x n : PySem.Str} {c : Value} {i : Nat} {body suite : List Stmt} {b₀ : Stmt} {np pos pos' : Pos}
def Held (oe : Obj) (C : Addr) : Prop := oe.cls = .ref C ∧ (∃ vs, oe.data = .fields vs) ∧ oe.dict = none
end
section
variable {X : Cx} {S : Sg}
end
end Va
set_option Elab.async false
set_option linter.all false
set_option maxRecDepth 100000
set_option maxHeartbeats 4000000
namespace Va
open PySem PySem.Spec PyProof.Rows L2 Ind
section
variable {prog : Program} {w : World} {A : Around} {E : Value → Shared → Prop} {s : Shared} {T : String} {r d : Addr} {n : Nat} {P : Nat → Value → Prop} {OK : Heap → Prop}
theorem collect_src {Q : List Value → Shared → Prop} (K : PySem.W.KdlSrc prog w T r d n P OK) (hh : A.handled = none) (hok : OK s.heap) (hn : n ≤ sizeLine)
    (hQ : ∀ (h' : Heap) (tk : Nat) (acc : Array Value), (∀ b o, s.heap.get? b = some o → h'.get? b = some o) → ItemsOf P acc n → Q acc.toList { s with heap := h', toks := tk }) : wpAny (model prog w) A (collect (.ref r)) Q E s := by
  unfold collect; refine wpAny_bind (wpAny_runValue (codeAny_builtin F.entry_proto_collect ?_)); rw [Around.under_plainId F.plain_proto_collect _]
  show wpAny _ A.in1 (newList [] >>= fun l => again (.builtin "list.__iadd__" ⟨[l, .ref r], []⟩)) (_) _ s
  refine wpAny_bind (wpAny_newObj_type ?_)
  refine wpAny_pure ⟨plainId_quiet F.plain_list_iadd _, codeAny_builtin F.entry_list_iadd ?_⟩; rw [Around.under_plainId F.plain_list_iadd _]
  show wpAny _ A.in1 (Builtin.List.listExtendWith (.ref s.heap.objs.size) (.ref r) (.ref s.heap.objs.size)) (_) (_) _
  have hS : (s.heap.push { cls := .type "list", data := .seq ([] : List Value).toArray }).get? s.heap.objs.size = some { cls := .type "list", data := .seq #[] 0 } := by exact Heap.get?_push_size _ rfl
  have there := K.there _ hok
  have ok2 : OK (s.heap.push { cls := .type "list", data := .seq ([] : List Value).toArray }) := K.keep _ _ hok fun b _ o e => Heap.get?_push_of_some _ e
  refine wpAny_mono (PySem.W.kdl_extend (A := A) (s := { s with heap := s.heap.push { cls := .type "list", data := .seq ([] : List Value).toArray } }) (R := fun rr s' => rr = .ok (.ret (.ref s.heap.objs.size)) ∧ ∃ (h' : Heap) (tk : Nat) (acc : Array Value) (c' : Nat), s' = { s with heap := h', toks := tk } ∧
    (∀ b o, s.heap.get? b = some o → h'.get? b = some o) ∧ h'.get? s.heap.objs.size = some { cls := .type "list", dict := none, data := .seq acc c', slots := #[] } ∧ ItemsOf P acc n) K hh ok2 s.heap.objs.size (Nat.ne_of_gt there.1) (Nat.ne_of_gt there.2) (.ref s.heap.objs.size) 0 hS
    (fun h' tk acc c' hk e hi => ⟨rfl, h', tk, acc, c', rfl, fun b o q => hk b o (Nat.ne_of_lt (Heap.lt_size q)) (Heap.get?_push_of_some _ q), e, hi⟩) hn) (fun fin s' h => ?_) (fun e s' h => absurd h.1 (by simp))
  cases fin with
  | done f =>
    obtain ⟨e, h', tk, acc, c', rfl, hk, hS', hi⟩ := h
    cases e; show wpAny _ A (load s.heap.objs.size >>= _) _ _ _
    exact wpAny_bind (wpAny_load hS' (wpAny_pure (hQ h' tk acc hk hi)))
  | again c' =>
    refine ⟨h.1, codeAny_mono h.2 ?_⟩
    rintro rr s'' ⟨rfl, h', tk, acc, c', rfl, hk, hS', hi⟩
    show wpAny _ A (load s.heap.objs.size >>= _) _ _ _; exact wpAny_bind (wpAny_load hS' (wpAny_pure (hQ h' tk acc hk hi)))
theorem call_tuple_src {Q : Value → Shared → Prop} (K : PySem.W.KdlSrc prog w T r d n P OK) (hh : A.handled = none) (hok : OK s.heap) (hn : n ≤ sizeLine) (hty : s.TypeIs (.ref r) T)
    (cod : ∀ (A : Around) (Q₁ : Value → Shared → Prop), A.handled = none → (∀ (h' : Heap) (tk : Nat) (acc : Array Value), (∀ b o, s.heap.get? b = some o → h'.get? b = some o) → ItemsOf P acc n → Q₁ (.ref h'.objs.size) { s with heap := h'.push { cls := .type "tuple", data := .seq acc }, toks := tk }) →
      codeAny (model prog w) A (.call (.builtin "tuple.__new__") ⟨[.type "tuple", .ref r], []⟩) (wants Q₁ E) s)
    (hQ : ∀ (h' : Heap) (tk : Nat) (acc : Array Value), (∀ b o, s.heap.get? b = some o → h'.get? b = some o) → ItemsOf P acc n → Q (.ref h'.objs.size) { s with heap := h'.push { cls := .type "tuple", data := .seq acc }, toks := tk }) :
    wpAny (model prog w) A (call (.type "tuple") [.ref r]) Q E s := by
  refine callType_codes (Q₁ := fun obj s1 => s1.TypeIs obj "tuple" ∧ Q obj s1) F.called_tuple (F.typeCall_tuple_1 _) F.entry_object_init (cod A.in1 _ hh fun h' tk acc hk hacc => ⟨⟨_, Heap.get?_push_size _ rfl, rfl⟩, hQ h' tk acc hk hacc⟩) ?_
  intro obj s1 h1
  exact ⟨h1.1, F.args_object_init_2 obj _, object_init_meets F.called_tuple.init.lookup F.called_tuple.made (by decide) prog w A.in1 _ s1 ⟨h1.1, rfl, h1.2⟩⟩
theorem code_tuple_dict {Q₁ : Value → Shared → Prop} (K : PySem.W.KdlSrc prog w "dict" r d n P OK) (hh : A.handled = none) (hok : OK s.heap) (hn : n ≤ sizeLine)
    (h : ∀ (h' : Heap) (tk : Nat) (acc : Array Value), (∀ b o, s.heap.get? b = some o → h'.get? b = some o) → ItemsOf P acc n → Q₁ (.ref h'.objs.size) { s with heap := h'.push { cls := .type "tuple", data := .seq acc }, toks := tk }) :
    codeAny (model prog w) A (.call (.builtin "tuple.__new__") ⟨[.type "tuple", .ref r], []⟩) (wants Q₁ E) s := by
  refine codeAny_of_tree ?_
  show wpAny _ A.in1 (do checkBuiltinCall "tuple.__new__" ⟨[.type "tuple", .ref r], []⟩; again (.builtin "tuple.__new__" ⟨[.type "tuple", .ref r], []⟩)) (_) (_) s
  refine wpAny_bind (wpAny_of_eq (F.newCall_tuple_1 _) ?_)
  refine wpAny_pure ⟨plainId_quiet F.plain_tuple_new _, codeAny_builtin F.entry_tuple_new ?_⟩; rw [Around.under_plainId F.plain_tuple_new _]
  have z1 := sub_tuple_self; have z2 := init_tuple_lookup; have z3 := madeHere_tuple
  have hTI : s.TypeIs (.ref r) "dict" := K.type _ hok
  have hh1 : A.in1.handled = none := hh
  wp_walk using wpAny_typeOf hTI, collect_src (A := A.in1) K hh1 hok hn
  intro h' tk acc hk hacc
  show wpAny _ _ (Builtin.Tuple.tupleExact acc.toList.toArray >>= fun v => ret v) (_) _ _
  unfold Builtin.Tuple.tupleExact; refine wpAny_bind (wpAny_newObj_type ?_ (by show acc.toList.toArray.size ≤ sizeLine; simp only [Array.toArray_toList]; rw [hacc.1]; exact hn)); refine wpAny_pure ?_
  rw [show acc.toList.toArray = acc by simp]
  exact h h' tk acc hk hacc
end
section
variable {X : Cx} {S : Sg}
theorem call_tuple_dK (hc : X.calm = true) : CallR X (.type "tuple") (fun xs H Q => ∃ p kvs, xs = [.ref p] ∧ Rd H p (.dK kvs) ∧ ∀ q, H q = none → Q (.ref q) (upd H q (.tup (kvs.map fun kv => kV kv.1)))) := by
  rintro pins s σ H xs us Q I r ⟨p, kvs, rfl, hk, q⟩
  obtain ⟨u, rfl, rx⟩ := vals1 r
  cases (show u = Value.ref p from rx)
  obtain ⟨z, lo, vs, rk, hd⟩ := hk.ok I.hok
  obtain ⟨ep, hat⟩ := hd.dictAt
  have hl : kvs.length = vs.length := Paired.length rk
  have src := PySem.W.kdl_dict (prog := X.prog) (w := X.w) (knd := mixKind X.prog X.w) (kvs := vs) (ep := ep) lo
  have hz : vs.length ≤ sizeLine := by rw [← hl]; exact z
  refine call_tuple_src src (I.ok.hd hc) hat hz (src.type _ hat) (fun A Q1 hh h => code_tuple_dict src hh hat hz h) fun h' tk acc hkeep hacc => ?_
  have I2 : Inv X pins σ H { s with heap := h', toks := tk } := I.kept (t' := tk) hkeep
  refine ⟨.ref h'.objs.size, upd H h'.objs.size (.tup (kvs.map fun kv => kV kv.1)), I2.laid (t' := tk) (fun c o e => Heap.get?_push_of_some _ e) (Nat.le_refl _) (show ObjOk X.prog X.w _ _ _ (.tup (kvs.map fun kv => kV kv.1)) from ⟨by rw [List.length_map]; exact z, acc.toList, ?_, ?_⟩), rfl, q _ (I2.hok.fresh (Nat.le_refl _))⟩
  · have el : acc.toList.length = acc.size := by simp
    refine vals_of_at (by rw [List.length_map, el, hacc.1, hl]) fun j x v h1 h2 => ?_
    obtain ⟨k, y, hky, hi⟩ := hacc.2 j v (by rw [← Array.getElem?_toList]; exact h2)
    have e1 : (kvs.map (·.1))[j]? = some k := by
      rw [KV.keys rk, List.getElem?_map, hky]; rfl
    have e2 : (kvs.map fun kv => kV kv.1) = (kvs.map (·.1)).map kV := by simp
    rw [e2, List.getElem?_map, e1] at h1
    cases h1
    exact keyIs_rel hi
  · rw [Array.toArray_toList]
    exact IsTup.new _ _
def tupleDG : VC := fun ds Q => match ds with
  | [.lst xs] => Q (.v (.tup xs))
  | [.tup xs] => Q (.v (.tup xs))
  | [.dk kvs] => Q (.v (.tup (kvs.map fun p => key p.1)))
  | _ => False
theorem keys_rp {Γ : Gm} {H : Hp} : ∀ {kv : List (Key × V)} {ds : List (Key × D)}, RpK Γ.K Γ.tp H kv ds → ∀ {H' : Hp}, Γ.RpL H' (kv.map fun p => kV p.1) (ds.map fun p => key p.1)
  | _, [], h, _ => by cases h; exact .nil
  | _, (k, d) :: ds, h, _ => by
    cases h with
    | cons h1 h2 => exact .cons (key_rp k) (keys_rp h2)
theorem c_tupleD (hK : S.K = X.K) (hc : X.calm = true) : CallV S X (.type "tuple") tupleDG := by
  refine ⟨_, call_tuple_of.or (call_tuple_dK hc), ?_⟩
  intro Γ H xs ds Q Q0 eK hx hg k
  have eK' : X.K = Γ.K := (eK.trans hK).symm
  unfold tupleDG at hg
  split at hg
  · match hx with
    | .cons h .nil =>
      obtain ⟨p, ys, rfl, h1, h2⟩ := h.seq
      refine .inl ⟨p, ys, rfl, .inl ⟨by rw [eK']; exact h1, fun l nl => ?_⟩⟩
      have sm := same_upd (o := .tup ys) nl
      exact k _ hg _ _ sm (.tup (.of upd_same) (RpL.kq (.same sm) _ _ h2))
  · match hx with
    | .cons h .nil =>
      obtain ⟨p, ys, rfl, h1, h2⟩ := h.tup
      exact .inl ⟨p, ys, rfl, .inr ⟨by rw [eK']; exact h1, k _ hg _ _ (Same.refl _) (.tup h1 h2)⟩⟩
  · match hx with
    | .cons h .nil =>
      obtain ⟨p, kv, rfl, h1, h2⟩ := h.dk
      refine .inr ⟨p, kv, rfl, h1, fun l nl => ?_⟩
      have sm := same_upd (o := .tup (kv.map fun p => kV p.1)) nl
      exact k _ hg _ _ sm (.tup (.of upd_same) (keys_rp h2))
  · exact hg.elim
end
end Va
set_option Elab.async false
set_option linter.all false
set_option maxRecDepth 100000
set_option maxHeartbeats 4000000
namespace Va
open PySem PySem.Spec PyProof.Rows L2 Ind GenW
section
variable {X : Cx} {S : Sg} {e a b o i value : Expr} {es : List Expr} {pos pos' p : Pos}
def putD (kvs : List (Key × D)) (k : Key) (v : D) : List (Key × D) := if (kvs.any fun kv => decide (kv.1 = k)) = true then kvs.map fun kv => if kv.1 = k then (kv.1, v) else kv else kvs ++ [(k, v)]
theorem RpK.put {K : PySem.W.Frag} {tp : Option Tp} {H : Hp} {k : Key} {v : V} {d : D} (r : Rp K tp H v d) {kv : List (Key × V)} {ds : List (Key × D)} (h : RpK K tp H kv ds) : RpK K tp H (putK kv k v) (putD ds k d) := by
  have any : (kv.any fun x => decide (x.1 = k)) = ds.any fun x => decide (x.1 = k) := by
    have e1 : (kv.any fun x => decide (x.1 = k)) = (kv.map (·.1)).any fun x => decide (x = k) := by rw [List.any_map]; rfl
    have e2 : (ds.any fun x => decide (x.1 = k)) = (ds.map (·.1)).any fun x => decide (x = k) := by rw [List.any_map]; rfl
    rw [e1, e2, h.keys]
  have mp : ∀ {kv : List (Key × V)} {ds : List (Key × D)}, RpK K tp H kv ds → RpK K tp H (kv.map fun x => if x.1 = k then (x.1, v) else x) (ds.map fun x => if x.1 = k then (x.1, d) else x) := by
    intro kv ds h
    induction ds generalizing kv with
    | nil => cases h; exact .nil
    | cons q ds ih =>
      obtain ⟨j, e⟩ := q
      cases h with
      | cons h1 h2 =>
        rw [List.map_cons, List.map_cons]
        by_cases hj : j = k
        · rw [if_pos (show (j, _).1 = k from hj), if_pos (show (j, e).1 = k from hj)]
          exact .cons r (ih h2)
        · rw [if_neg (show ¬ (j, _).1 = k from hj), if_neg (show ¬ (j, e).1 = k from hj)]
          exact .cons h1 (ih h2)
  unfold putK putD
  rw [any]
  split
  · exact mp h
  · exact h.app (.cons r .nil)
abbrev VMd := D → List (Key × D) → (List (Key × D) → Prop) → Prop
variable {k : Nat} {f : Addr} {fd : FuncData} {ps : List PySem.Str} {m : VMd} {x : PySem.Str}
end
section
variable {P : Program} {w : World} {K : PySem.W.Frag} {mg : PySem.Str → Option Value} {base : Heap} {S : Sg} {x qual : PySem.Str} {st : Stmt} {f : Addr} {fd : FuncData} {N ps : List PySem.Str} {k : Nat} {m : VMd} {T : VS}
end
end Va
set_option Elab.async false
set_option linter.all false
set_option maxRecDepth 100000
set_option maxHeartbeats 4000000
namespace Va
open PySem PySem.Spec PyProof.Rows L2 Ind
def spTapeV (K : PySem.W.Frag) (b : Bool) : Sp := fun vs H Q _ => ∃ (a : Addr) (ns : List Int), vs = [.ref a] ∧ SqL K H a (ns.map V.int) ∧ ns.length ≤ 63 ∧
  ∀ H' (t : Tp) (ns' : List Int), Same H H' → H t.a = none → H t.l = none → TapeV b H' t → H' t.l = some (.lst (ns'.map V.int)) → ns'.length ≤ 63 → Q (.ref t.a) H'
def Fz2 (t : Tp) (H H' : Hp) : Prop := ∀ b o, b ≠ t.a → b ≠ t.l → H b = some o → H' b = some o
def nb (b : Bool) : Nat := if b then 1 else 0
def spDrawV (b : Bool) : Sp := fun vs H Q _ => ∃ (t : Tp) (m : Int) (ns : List Int), vs = [.ref t.a, .int m] ∧ TapeV b H t ∧ H t.l = some (.lst (ns.map V.int)) ∧ (b = true → ns.length < 1000000) ∧ Dm m ∧
  ∀ H' (r : Int) (ns' : List Int), Fz2 t H H' → TapeV b H' t → H' t.l = some (.lst (ns'.map V.int)) → ns'.length ≤ ns.length + nb b → 0 ≤ r → (r < m ∨ r < 1) → Q (.int r) H'
def drawM (b : Bool) : VM := fun ds c Q => ∃ m : Int, ds = [.tape, .int m] ∧ nb b ≤ c ∧ Dm m ∧ ∀ r : Nat, ((r : Int) < m ∨ r = 0) → Q (.int r) (c - nb b)
section
variable {P : Program} {w : World} {K : PySem.W.Frag} {mg : PySem.Str → Option Value} {base : Heap} {S : Sg} {f : Addr} {fd : FuncData} {ps : List PySem.Str} {k : Nat}
theorem draw_v {CX : CXT} (F : FnOk P w K mg base CX k f fd ps (spDrawV S.b)) : FnOk P w K mg base CX k f fd ps (spV S (drawM S.b)) := by
  refine F.imp fun vs H Q E h => ?_
  obtain ⟨tp, ds, c, Q0, hv, ht, hf, hp, ⟨m, rfl, hc, hm, hq⟩, kk⟩ := h
  match vs, hv with
  | [_, _], .cons h1 (.cons h2 .nil) =>
    cases h2
    obtain ⟨t, rfl, rfl⟩ := h1.tape_inv
    have tv := ht t rfl
    obtain ⟨ns, p, n, z, a1, a2, a3⟩ := id tv
    have few := hf t _ rfl a2
    rw [List.length_map] at few
    refine ⟨t, m, ns, rfl, tv, a2, fun e => ?_, hm, fun H' r ns' fz tv' l' len r0 r1 => ?_⟩
    · rw [e] at hc
      have : 1 ≤ c := hc
      omega
    · obtain ⟨r, rfl⟩ := Int.eq_ofNat_of_zero_le r0
      refine kk _ _ (hq r (by omega)) _ _ ⟨fun b o nsp hb => fz b o (fun e => nsp (.inl ⟨t, rfl, .inl e⟩)) (fun e => nsp (.inl ⟨t, rfl, .inr e⟩)) hb, fun t' e => by cases e; exact tv', fun t' xs e hx => ?_, fun P hP => ?_⟩ (.int _)
      · cases e
        rw [l'] at hx
        cases hx
        rw [List.length_map]
        omega
      · obtain ⟨q, b1, b2⟩ := hp P hP
        exact ⟨q, fz _ _ (ne_of b1 a1 (fun z => nomatch z)) (ne_of b1 a2 (fun z => nomatch z)) b1, b2⟩
def spLawT (K : PySem.W.Frag) (tabs : List Addr) : Sp := fun vs H Q _ => ∃ (a : Addr) (ns : List Int), vs = [.ref a] ∧ SqL K H a (ns.map V.int) ∧ ns.length ≤ 63 ∧ (∀ P ∈ tabs, GxR.TabG H P) ∧ ∀ H', Q (.bl true) H'
def endL : Ve := { nx := fun _ => False, rt := fun d _ => d = .bl true }
def lawE (N : List PySem.Str) : En := ⟨.no :: .v .tape :: List.replicate (N.length - 2) .no, 999000⟩
theorem law_rest {X : Cx} {rest : List Stmt} {T : VS} {N : List PySem.Str} {vs : List V} {H : Hp} {Q : VK} {E : XK} {first : Stmt} {i0 : Nat} (hK : S.K = X.K) (hN2 : 2 ≤ N.length)
    (h1 : PS X first (tAsg (tCall (spTapeV X.K S.b) [] E0 (tCons (tVar 0) tNil)) (gName 1))) (h2 : VSs S X rest T) (h : T endL (lawE N)) (sp : spLawT S.K S.tabs vs H Q E) :
    ∃ t, PSs X (first :: rest) t ∧ t { nx := fun _ H' => Q .non H', rt := Q } (L2.start N vs) H := by
  obtain ⟨a, ns, rfl, hS, hl, htb, hq⟩ := sp
  refine ⟨_, pss_cons h1 h2, ?_⟩
  have e0 : (L2.start N [V.ref a])[0]? = some (some (.ref a)) := rfl
  refine ⟨_, e0, a, ns, rfl, by rw [← hK]; exact hS, hl, fun H' t ns' sm n1 n2 tv l' len => ?_⟩
  refine ⟨⟨S.K, S.b, some t, S.tabs, [], H'⟩, lawE N, endL, ⟨rfl, rfl, rfl⟩, ?_, h, fun E1 z => z.elim, fun d E1 e v σ1 H1 q1 r1 rv => ?_, fun _ z => z.elim, fun _ z => z.elim⟩
  · refine ⟨⟨fun _ _ _ _ z => z, Kq.refl _, fun t' e => by cases e; exact tv, fun P hP => ?_⟩, ?_, fun t' xs e hx => ?_, fun i s e => ?_, fun i j s t' c e1 e2 o1 _ _ _ => ?_⟩
    · obtain ⟨q, b1, b2⟩ := htb P hP
      exact ⟨q, sm _ _ b1, b2⟩
    · simp [lawE, L2.start]
      omega
    · cases e
      rw [l'] at hx
      cases hx
      rw [List.length_map]
      show ns'.length + 999000 ≤ 1000000
      omega
    · match i with
      | 0 => cases e; exact ⟨some (.ref a), rfl, trivial⟩
      | 1 =>
        cases e
        refine ⟨some (.ref t.a), ?_, .ref t.a, rfl, .tape rfl⟩
        show ((L2.start N [V.ref a]).set 1 _)[1]? = _
        rw [List.getElem?_set_self]
        simp [L2.start]
        omega
      | i + 2 =>
        have e : (List.replicate (N.length - 2) SV.no)[i]? = some s := e
        rw [List.getElem?_replicate] at e
        split at e
        · rename_i hl2
          cases e
          refine ⟨none, ?_, trivial⟩
          show ((L2.start N [V.ref a]).set 1 _)[i + 2]? = _
          rw [List.getElem?_set_ne (by omega)]
          show (List.replicate (N.length - 1) none)[i + 1]? = some none
          rw [List.getElem?_replicate, if_pos (by omega)]
        · cases e
    · have nown : ∀ (i : Nat) (s : SV), (lawE N).l[i]? = some s → s.own = false := fun i s e => by
        match i with
        | 0 => cases e; rfl
        | 1 => cases e; rfl
        | i + 2 =>
          have e : (List.replicate (N.length - 2) SV.no)[i]? = some s := e
          rw [List.getElem?_replicate] at e
          split at e
          · cases e; rfl
          · cases e
      rw [nown i s e1] at o1
      cases o1
  · have e : d = .bl true := e
    subst e
    cases rv
    exact hq _
end
end Va
set_option Elab.async false
set_option linter.all false
set_option maxRecDepth 100000
set_option maxHeartbeats 4000000
namespace Va
open PySem PySem.Spec PyProof.Rows L2 Ind
section
variable {X : Cx} {S : Sg} {e a b o : Expr} {pos p : Pos}
def vNeg (t : VT) : VT := fun E Q => t E fun d E1 => match d with
  | .int i => Q (.int (-i)) E1
  | _ => False
theorem ve_neg {t : VT} (h : VE S X a t) : VE S X (.UnaryOp .USub a pos) (vNeg t) := by
  refine pe_weak (pe_un un_neg h) ?_
  rintro σ H Q ⟨Γ, E, Q0, ok, rp, ht, k⟩
  refine ⟨Γ, E, _, ok, rp, ht, fun d E1 hq v H1 kq1 rp1 hv => ?_⟩
  cases d with
  | int i => cases hv; exact ⟨i, rfl, k _ _ hq _ _ kq1 rp1 (.int _)⟩
  | _ => exact hq.elim
def vWords (t : VT) : FT := fun E Q => t E fun d E1 => match d with
  | .str x => x.length ≤ 900000 ∧ Q (.fl ((Txt.words x).map .str)) E1
  | _ => False
theorem strs_rp {Γ : Gm} {H : Hp} : ∀ xs : List Tx, Γ.RpL H (xs.map V.str) (xs.map D.str)
  | [] => .nil
  | x :: xs => .cons (.str x) (strs_rp xs)
theorem fe_words {t : VT} {apos : Pos} (h : VE S X o t) (hbase : attributeBase o "split" X.env (eval o X.env) = eval o X.env := by rfl) (hline : (apos.endLine == pos.line) = true := by rfl) : FE S X (.Call (.Attribute o "split" apos) [] [] pos) (vWords t) := by
  refine pe_weak (pe_words h hbase hline) ?_
  rintro σ H Q ⟨Γ, E, Q0, ok, rp, ht, k⟩
  refine ⟨Γ, E, _, ok, rp, ht, fun d E1 hq v H1 kq1 rp1 hv => ?_⟩
  cases d with
  | str x =>
    cases hv
    refine ⟨⟨x, rfl⟩, x, rfl, rfl, million (by omega), fun q nq => ?_⟩
    have sm := same_upd (o := .lst ((Txt.words x).map V.str)) nq
    exact k _ _ hq.2 _ _ (kq1.trans (.same sm)) (rp1.same sm) (RpN.rep (x := .fl _) rp1 sm ⟨q, _, rfl, nq, upd_same, strs_rp _⟩)
  | _ => exact hq.elim
theorem hu65 {A : Around} {k : Nat} (r : Room k A) : A.units + 65 < cLine := by have := r.un; omega
end
end Va
set_option Elab.async false
set_option linter.all false
set_option maxRecDepth 100000
set_option maxHeartbeats 4000000
namespace Va
open PySem PySem.Spec PyProof.Rows L2 Ind
theorem flat_strsD : ∀ xs : List Tx, (xs.map D.str).all D.flat = true
  | [] => rfl
  | _ :: xs => by show (true && (xs.map D.str).all D.flat) = true; rw [flat_strsD xs]; rfl
theorem in_strsD (x : Tx) : ∀ xs : List Tx, ((xs.map D.str).any fun y => D.eqf y (.str x)) = decide (x ∈ xs)
  | [] => rfl
  | y :: xs => by
    show (D.eqf (.str y) (.str x) || (xs.map D.str).any fun y => D.eqf y (.str x)) = _
    rw [in_strsD x xs]
    show ((y == x) || decide (x ∈ xs)) = _
    by_cases h : y = x
    · subst h
      simp
    · have h1 : (y == x) = false := beq_eq_false_iff_ne.mpr h
      rw [h1, Bool.false_or]
      exact decide_eq_decide.mpr ⟨fun m => List.mem_cons_of_mem _ m, fun m => (List.mem_cons.mp m).elim (fun e => absurd e.symm h) id⟩
theorem both {p : Bool} {A B : Prop} (h1 : p = true → A) (h2 : p = false → B) : (p = true → A) ∧ (p = false → B) := ⟨h1, h2⟩
theorem dT {p : Prop} [Decidable p] (h : decide p = true) : p := of_decide_eq_true h
theorem dF {p : Prop} [Decidable p] (h : decide p = false) : ¬ p := of_decide_eq_false h
theorem nT {b : Bool} (h : (!b) = true) : b = false := by cases b <;> simp_all
theorem nF {b : Bool} (h : (!b) = false) : b = true := by cases b <;> simp_all
def once : List Tx → List Tx → List Tx
  | acc, [] => acc
  | acc, x :: r => if x ∈ acc then once acc r else once (acc ++ [x]) r
end Va
namespace Va
open PySem PySem.Spec PyProof.Rows L2 Ind
theorem pickD {l : List D} {i : Nat} (h : i < l.length) : ∃ x, atI l (i : Int) = some x ∧ x ∈ l := ⟨l[i], atI_nat (List.getElem?_eq_getElem h), List.getElem_mem h⟩
theorem pickI {α : Type} {l : List α} {i : Int} (h0 : 0 ≤ i) (h : i < (l.length : Int)) : ∃ x, atI l i = some x ∧ x ∈ l := by
  obtain ⟨n, rfl⟩ := Int.eq_ofNat_of_zero_le h0
  exact ⟨l[n]'(by omega), atI_nat (List.getElem?_eq_getElem (by omega)), List.getElem_mem _⟩
theorem sign_at {x : Tx} {i : Int} (h0 : 0 ≤ i) (h : i < (x.length : Int)) : ∃ c, atI x.cps.toList i = some c := by
  obtain ⟨c, e, _⟩ := pickI (l := x.cps.toList) h0 (by rw [← codes_len]; exact h)
  exact ⟨c, e⟩
theorem cutS_le (z : Tx) (lo hi : Option Int) : (cutS z lo hi).length ≤ z.length := by
  rw [codes_len, codes_len]
  unfold cutS
  show (List.take _ _).toArray.toList.length ≤ _
  rw [List.length_take, List.length_drop]
  omega
theorem one_len (c : Nat) : (⟨#[c]⟩ : Tx).length = 1 := rfl
theorem str_mem {P : Tx → Prop} {x : D} {l : List D} (m : x ∈ l) (h : ∀ y ∈ l, ∃ s, y = .str s ∧ P s) : ∃ s, x = .str s ∧ P s := h x m
theorem int_mem {P : Int → Prop} {x : D} {l : List D} (m : x ∈ l) (h : ∀ y ∈ l, ∃ s, y = .int s ∧ P s) : ∃ s, x = .int s ∧ P s := h x m
end Va
namespace Va
open PySem PySem.Spec PyProof.Rows L2 Ind
section
variable {p A B : Prop} [Decidable p]
theorem skipT (h : ¬ p) (b : B) : (decide p = true → A) ∧ (decide p = false → B) := ⟨fun e => absurd (of_decide_eq_true e) h, fun _ => b⟩
theorem skipF (h : p) (a : A) : (decide p = true → A) ∧ (decide p = false → B) := ⟨fun _ => a, fun e => absurd h (of_decide_eq_false e)⟩
theorem bothD (h1 : p → A) (h2 : ¬ p → B) : (decide p = true → A) ∧ (decide p = false → B) := ⟨fun e => h1 (of_decide_eq_true e), fun e => h2 (of_decide_eq_false e)⟩
theorem wayT {A B : Prop} (a : A) : (true = true → A) ∧ (true = false → B) := ⟨fun _ => a, fun z => (by cases z)⟩
theorem wayF {A B : Prop} (b : B) : (false = true → A) ∧ (false = false → B) := ⟨fun z => (by cases z), fun _ => b⟩
end
end Va
set_option Elab.async false
set_option linter.all false
set_option maxRecDepth 100000
set_option maxHeartbeats 4000000
namespace Va
open PySem PySem.Spec PyProof.Rows L2 Ind
inductive Fc where
  | com (n : Tx)
  | one (ns : List Tx)
  | neg (f : Fc)
  | all (fs : List Fc)
  | any (fs : List Fc)
  | imp (a b : Fc)
  | tt
  | ff
mutual
def Fc.d : Fc → D
  | .com n => .tup [.str "commits", .str n]
  | .one ns => .tup [.str "one of", .tup (ns.map .str)]
  | .neg f => .tup [.str "not", f.d]
  | .all fs => .tup [.str "and", .tup (Fc.dL fs)]
  | .any fs => .tup [.str "or", .tup (Fc.dL fs)]
  | .imp a b => .tup [.str "implies", a.d, b.d]
  | .tt => .tup [.str "true"]
  | .ff => .tup [.str "false"]
def Fc.dL : List Fc → List D
  | [] => []
  | f :: fs => f.d :: Fc.dL fs
end
theorem Fc.dL_map : ∀ fs : List Fc, Fc.dL fs = fs.map Fc.d
  | [] => rfl
  | f :: fs => by show f.d :: Fc.dL fs = f.d :: fs.map Fc.d; rw [Fc.dL_map fs]
mutual
def Fc.dep : Fc → Nat
  | .com _ => 0
  | .one _ => 0
  | .neg f => f.dep + 1
  | .all fs => Fc.depL fs + 1
  | .any fs => Fc.depL fs + 1
  | .imp a b => max a.dep b.dep + 1
  | .tt => 0
  | .ff => 0
def Fc.depL : List Fc → Nat
  | [] => 0
  | f :: fs => max f.dep (Fc.depL fs)
end
theorem Fc.depL_le {n : Nat} : ∀ {fs : List Fc}, (∀ f ∈ fs, f.dep ≤ n) → Fc.depL fs ≤ n
  | [], _ => Nat.zero_le _
  | f :: fs, h => Nat.max_le.mpr ⟨h f (List.mem_cons_self ..), Fc.depL_le fun g hg => h g (List.mem_cons_of_mem _ hg)⟩
theorem Fc.dep_mem : ∀ {fs : List Fc} {f : Fc}, f ∈ fs → f.dep ≤ Fc.depL fs
  | g :: fs, f, h => by
    show f.dep ≤ max g.dep (Fc.depL fs)
    rcases List.mem_cons.mp h with rfl | h
    · exact Nat.le_max_left _ _
    · exact Nat.le_trans (Fc.dep_mem h) (Nat.le_max_right _ _)
mutual
def Fc.names : Fc → List Tx
  | .com n => [n]
  | .one ns => ns
  | .neg f => f.names
  | .all fs => Fc.namesL fs
  | .any fs => Fc.namesL fs
  | .imp a b => a.names ++ b.names
  | .tt => []
  | .ff => []
def Fc.namesL : List Fc → List Tx
  | [] => []
  | f :: fs => f.names ++ Fc.namesL fs
end
theorem fn_vac {P : Program} {w : World} {K : PySem.W.Frag} {mg : PySem.Str → Option Value} {base : Heap} {CX : CXT} {k : Nat} {f : Addr} {fd : FuncData} {ps : List PySem.Str} {S : Sg} {m : VM} (h : ∀ ds c Q, ¬ m ds c Q) : FnOk P w K mg base CX k f fd ps (spV S m) :=
  ⟨fun vs H Q E ⟨_, ds, c, Q0, _, _, _, _, hm, _⟩ => absurd hm (h ds c Q0), fun _ _ _ _ _ _ _ _ _ _ _ _ _ ⟨_, ds, c, Q0, _, _, _, _, hm, _⟩ => absurd hm (h ds c Q0)⟩
end Va
namespace Va
open PySem PySem.Spec PyProof.Rows L2 Ind
end Va
set_option Elab.async false
set_option linter.all false
set_option maxRecDepth 100000
set_option maxHeartbeats 4000000
namespace Va
open PySem PySem.Spec PyProof.Rows L2 Ind RT
section
variable {prog : Program} {w : World} {A : Around} {E : Value → Shared → Prop} {s : Shared} {I l : Addr} {xs : Array Value}
end
section
variable {X : Cx} {pins : List (Addr × Obj)} {σ : L2.St} {H : Hp} {s : Shared} {h' : Heap}
end
section
variable {X : Cx} {e : Expr} {te : TE} {p p2 pos pos2 : Pos}
end
section
variable {X : Cx} {S : Sg} {e tg : Expr} {t : VT} {p p2 pos pos2 : Pos}
theorem it_rev {Γ : Gm} {H : Hp} {a : Addr} {xs : List V} {ds : List D} (h : FzL Γ.K H a xs) (r : Γ.RpL H xs ds) : ItOk Γ (Itv Γ.K a xs.length) ds.reverse H := by
  have el : xs.length = ds.length := r.len
  have at_ : ∀ i, i < ds.length → ∃ v d, xs[xs.length - 1 - i]? = some v ∧ ds.reverse[i]? = some d ∧ Γ.Rp H v d := fun i hi => by
    have hj : ds.length - 1 - i < ds.length := by omega
    obtain ⟨v, e, rv⟩ := r.get (List.getElem?_eq_getElem hj)
    exact ⟨v, _, by rw [el]; exact e, by rw [List.getElem?_reverse hi]; exact List.getElem?_eq_getElem hj, rv⟩
  refine ⟨fun i H1 hi q => ?_, fun i H1 x H2 hi q y => ?_, fun H1 q => ?_⟩
  · rw [List.length_reverse] at hi
    obtain ⟨v, d, e1, _, _⟩ := at_ i hi
    exact ⟨by rw [el]; exact hi, xs, v, (q.fzL h).sq, e1⟩
  · rw [List.length_reverse] at hi
    obtain ⟨rfl, y⟩ := y
    obtain ⟨v, d, e1, e2, rv⟩ := at_ i hi
    have := y xs (q.fzL h).sq
    rw [e1] at this
    cases this
    exact ⟨d, e2, Rp.kq q _ _ rv, fun _ _ z => z⟩
  · rw [List.length_reverse]
    show xs.length ≤ ds.length
    omega
theorem it_revT {Γ : Gm} {H : Hp} {a : Addr} {xs : List V} {ds : List D} (h : SqT Γ.K H a xs) (r : Γ.RpL H xs ds) : ItOk Γ (RT.ItvT Γ.K a xs.length) ds.reverse H := by
  have el : xs.length = ds.length := r.len
  have at_ : ∀ i, i < ds.length → ∃ v d, xs[xs.length - 1 - i]? = some v ∧ ds.reverse[i]? = some d ∧ Γ.Rp H v d := fun i hi => by
    have hj : ds.length - 1 - i < ds.length := by omega
    obtain ⟨v, e, rv⟩ := r.get (List.getElem?_eq_getElem hj)
    exact ⟨v, _, by rw [el]; exact e, by rw [List.getElem?_reverse hi]; exact List.getElem?_eq_getElem hj, rv⟩
  refine ⟨fun i H1 hi q => ?_, fun i H1 x H2 hi q y => ?_, fun H1 q => ?_⟩
  · rw [List.length_reverse] at hi
    obtain ⟨v, d, e1, _, _⟩ := at_ i hi
    exact ⟨by rw [el]; exact hi, xs, v, q.sqT h, e1⟩
  · rw [List.length_reverse] at hi
    obtain ⟨rfl, y⟩ := y
    obtain ⟨v, d, e1, e2, rv⟩ := at_ i hi
    have := y xs (q.sqT h)
    rw [e1] at this
    cases this
    exact ⟨d, e2, Rp.kq q _ _ rv, fun _ _ z => z⟩
  · rw [List.length_reverse]
    show xs.length ≤ ds.length
    omega
def revD (d : D) (Q : List D → Prop) : Prop := match d with
  | .lst ds => Q ds.reverse
  | .tup ds => Q ds.reverse
  | _ => False
def vRev (t : VT) : VI := fun E Q => t E fun d E1 => revD d fun ds => Q ds E1
theorem vi_rev (hK : S.K = X.K) (hg : Gl X "reversed") (hm : X.mg "reversed" = none) (he : VE S X e t) (hs : starEach [e] X.env = (false, eval e X.env) :: starEach [] X.env := by rfl) : VIt S X tg (.Call (.Name "reversed" p) [e] [] pos) (vRev t) := by
  refine pi_weak (RT.pi_revA hg hm he hs) ?_
  rintro σ H Q ⟨Γ, E, Q0, ok, rp, ht, k⟩
  refine ⟨Γ, E, _, ok, rp, ht, fun d E1 hq x H1 kq1 rp1 hx => ?_⟩
  have eK : X.K = Γ.K := (ok.k.trans hK).symm
  cases d with
  | lst ds =>
    obtain ⟨q, xs, rfl, h1, h2⟩ := hx.lst_inv
    exact ⟨q, xs, rfl, .inl ⟨by rw [eK]; exact h1.sq, k _ _ hq _ _ kq1 rp1 (by rw [eK]; exact it_rev h1 h2)⟩⟩
  | tup ds =>
    obtain ⟨q, xs, rfl, h1, h2⟩ := hx.tup_inv
    exact ⟨q, xs, rfl, .inr ⟨by rw [eK]; exact h1, k _ _ hq _ _ kq1 rp1 (by rw [eK]; exact it_revT h1 h2)⟩⟩
  | _ => exact hq.elim
end
end Va
set_option Elab.async false
set_option linter.all false
set_option maxRecDepth 100000
set_option maxHeartbeats 4000000
namespace Va
open PySem PySem.Spec PyProof.Rows L2 Ind
mutual
def Fc.wid : Fc → Nat
  | .com _ => 0
  | .one ns => ns.length
  | .neg f => f.wid
  | .all fs => max fs.length (Fc.widL fs)
  | .any fs => max fs.length (Fc.widL fs)
  | .imp a b => max a.wid b.wid
  | .tt => 0
  | .ff => 0
def Fc.widL : List Fc → Nat
  | [] => 0
  | f :: fs => max f.wid (Fc.widL fs)
end
mutual
def Fc.tr (p : Tx → Bool) : Fc → Bool
  | .com n => p n
  | .one ns => decide ((ns.filter p).length = 1)
  | .neg f => !f.tr p
  | .all fs => Fc.trA p fs
  | .any fs => Fc.trO p fs
  | .imp a b => !a.tr p || b.tr p
  | .tt => true
  | .ff => false
def Fc.trA (p : Tx → Bool) : List Fc → Bool
  | [] => true
  | f :: fs => f.tr p && Fc.trA p fs
def Fc.trO (p : Tx → Bool) : List Fc → Bool
  | [] => false
  | f :: fs => f.tr p || Fc.trO p fs
end
theorem Fc.trA_all (p : Tx → Bool) : ∀ fs : List Fc, Fc.trA p fs = fs.all (Fc.tr p)
  | [] => rfl
  | f :: fs => by show (f.tr p && Fc.trA p fs) = (f.tr p && fs.all (Fc.tr p)); rw [Fc.trA_all p fs]
theorem Fc.trO_any (p : Tx → Bool) : ∀ fs : List Fc, Fc.trO p fs = fs.any (Fc.tr p)
  | [] => rfl
  | f :: fs => by show (f.tr p || Fc.trO p fs) = (f.tr p || fs.any (Fc.tr p)); rw [Fc.trO_any p fs]
def atB {α : Type} (g : α → Bool) (l : List α) (i : Nat) : Bool := match l[i]? with
  | some x => g x
  | none => false
theorem atB_of {α : Type} {g : α → Bool} {l : List α} {i : Nat} {x : α} (e : l[i]? = some x) : atB g l i = g x := by unfold atB; rw [e]
theorem all_range {α : Type} (g : α → Bool) (l : List α) : (List.range l.length).all (atB g l) = l.all g := by
  rw [Bool.eq_iff_iff, List.all_eq_true, List.all_eq_true]
  constructor
  · intro h x hx
    obtain ⟨i, e⟩ := List.getElem?_of_mem hx
    have := h i (List.mem_range.mpr (List.getElem?_eq_some_iff.mp e).1)
    rwa [atB_of e] at this
  · intro h i hi
    have hi := List.mem_range.mp hi
    rw [atB_of (List.getElem?_eq_getElem hi)]
    exact h _ (List.getElem_mem _)
theorem any_range {α : Type} (g : α → Bool) (l : List α) : (List.range l.length).any (atB g l) = l.any g := by
  rw [Bool.eq_iff_iff, List.any_eq_true, List.any_eq_true]
  constructor
  · rintro ⟨i, hi, h⟩
    have hi := List.mem_range.mp hi
    rw [atB_of (List.getElem?_eq_getElem hi)] at h
    exact ⟨_, List.getElem_mem _, h⟩
  · rintro ⟨x, hx, h⟩
    obtain ⟨i, e⟩ := List.getElem?_of_mem hx
    exact ⟨i, List.mem_range.mpr (List.getElem?_eq_some_iff.mp e).1, by rw [atB_of e]; exact h⟩
theorem rng_at {lo : Int} {n i : Nat} {d : D} (e : (rng lo n)[i]? = some d) : d = .int (lo + i) ∧ i < n := by
  have hi := (List.getElem?_eq_some_iff.mp e).1
  simp only [rng, List.length_map, List.length_range] at hi
  refine ⟨?_, hi⟩
  unfold rng at e
  rw [List.getElem?_map, List.getElem?_range hi] at e
  exact (Option.some.inj e).symm
end Va
set_option Elab.async false
set_option linter.all false
set_option maxRecDepth 100000
set_option maxHeartbeats 4000000
namespace Va
open PySem PySem.Spec PyProof.Rows L2 Ind
section
variable {X : Cx} {S : Sg} {e : Expr} {t : VT}
def vUn (t : VT) : VT := fun E Q => t E fun d E1 => Q d.un E1
theorem RpW.un {Γ : Gm} {H : Hp} {v : V} {d : D} (h : RpW Γ H v d) : RpW Γ H v d.un := by
  cases h with
  | v h => exact .v (Rp.un h)
  | l h1 h2 => exact .l h1 h2
  | k h1 h2 => exact .k h1 h2
theorem ve_un (h : VE S X e t) : VE S X e (vUn t) := by
  refine pe_weak h ?_
  rintro σ H Q ⟨Γ, E, Q0, ok, rp, ht, k⟩
  exact ⟨Γ, E, _, ok, rp, ht, fun d E1 hq v H1 kq rp1 hv => k _ _ hq _ _ kq rp1 (Rp.un hv)⟩
theorem be_un (h : BE S X e t) : BE S X e (vUn t) := by
  refine pe_weak h ?_
  rintro σ H Q ⟨Γ, E, Q0, ok, rp, ht, k⟩
  exact ⟨Γ, E, _, ok, rp, ht, fun d E1 hq v H1 kq rp1 hv => k _ _ hq _ _ kq rp1 hv.un⟩
def tuplePG : VC := fun ds Q => match ds with
  | [.lst xs] => Q (.v (.ptp xs))
  | _ => False
theorem c_tupleP (hK : S.K = X.K) : CallV S X (.type "tuple") tuplePG := by
  refine ⟨_, call_tupleZ, ?_⟩
  intro Γ H xs ds Q Q0 eK hx hg k
  have eK' : X.K = Γ.K := (eK.trans hK).symm
  unfold tuplePG at hg
  split at hg
  · match hx with
    | .cons h .nil =>
      obtain ⟨p, ys, rfl, h1, h2⟩ := h.seq
      refine ⟨p, ys, rfl, by rw [eK']; exact h1, fun l o nl nd => ?_⟩
      have sm := same_upd (o := .frz o (.tup ys)) nl
      exact k _ hg _ _ sm (.ptp upd_same nd (RpL.kq (.same sm) _ _ h2))
  · exact hg.elim
theorem strs_back {K : PySem.W.Frag} {tp : Option Tp} {H : Hp} : ∀ {ys : List Tx} {vs : List V}, RpL K tp H vs (ys.map .str) → vs = ys.map V.str
  | [], _, h => by cases h; rfl
  | y :: ys, _, h => by
    cases h with
    | cons h1 h2 => cases h1; rw [strs_back h2]; rfl
def vTix (t : VT) (a : VTA) : FT := fun E Q => t E fun d E1 => (∃ xs, d = .ptp xs) ∧ a E1 fun es E2 => ∃ (ys : List Tx) (y : Tx), d = .ptp (ys.map .str) ∧ es = [.str y] ∧ y ∈ ys ∧ Q (.v (.int (ys.idxOf y : Nat))) E2
theorem fe_tindex {o a : Expr} {apos cpos : Pos} {ta : VTA} (hK : S.K = X.K) (ho : VE S X o t) (ha : VA S X [a] ta)
    (h1 : attributeBase o "index" X.env (eval o X.env) = eval o X.env := by rfl)
    (h2 : ((backTo cpos (starEach [a] X.env)).all (fun x => !x.1) && (backToKw cpos (keywordEach [] X.env)).all (fun x => x.1.isSome) && decide ([a].length + ([] : List Keyword).length + (if ([] : List Keyword).isEmpty then 0 else 1) < 30)) = true := by rfl)
    (h3 : (apos.endLine == cpos.line) = true := by rfl) (h4 : starEach [a] X.env = (false, eval a X.env) :: starEach [] X.env := by rfl) (h5 : (backTo cpos (starEach [] X.env)).any (·.1) = false := by rfl) :
    FE S X (.Call (.Attribute o "index" apos) [a] [] cpos) (vTix t ta) := by
  refine pe_weak (pe_bmZ PySem.F.slot_tuple_index PySem.F.type_tuple_index mt_tindex ho ha h1 h2 h3 h4 h5) ?_
  rintro σ H Q ⟨Γ, E, Q0, ok, rp, ht, k⟩
  have eK : X.K = Γ.K := (ok.k.trans hK).symm
  refine ⟨Γ, E, _, ok, rp, ht, fun d E1 hq x H1 kq1 rp1 hx => ?_⟩
  · obtain ⟨⟨xs, rfl⟩, hq⟩ := hq
    obtain ⟨p, ob, vs, rfl, hf, nd, hr⟩ := hx.ptp_inv
    refine ⟨⟨p, ob, vs, rfl, hf, nd⟩, Γ, E1, _, ok, rp1, hq, fun es E2 hq2 us H2 kq2 rp2 hus => ?_⟩
    obtain ⟨ys, y, ed, rfl, my, hq3⟩ := hq2
    injection ed with ed
    subst ed
    have := strs_back hr
    subst this
    match us, hus with
    | [_], .cons h1 .nil =>
      cases h1
      refine ⟨p, ys, y, rfl, rfl, .inl (.inr ⟨ob, kq2.frz _ _ _ hf⟩), my, ?_⟩
      exact k _ _ hq3 _ _ (kq1.trans kq2) rp2 (.int _)
def okD : D → Prop
  | .int _ => True
  | .str _ => True
  | _ => False
def dLt : D → D → Bool
  | .int i, .int j => decide (i < j)
  | .int _, .str _ => true
  | .str x, .str y => decide (x.cps.toList < y.cps.toList)
  | _, _ => false
end
end Va
set_option Elab.async false
set_option linter.all false
set_option maxRecDepth 100000
set_option maxHeartbeats 4000000
namespace Va
open PySem PySem.Spec PyProof.Rows L2 Ind
inductive Cd where
  | s
  | n (b : Int)
def Cd.d : Cd → D
  | .s => .tup [.str "string"]
  | .n b => .tup [.str "integer", .int b]
def Cd.w : Cd → Tx
  | .s => "string"
  | .n _ => "integer"
def Cd.ok : Cd → Prop
  | .s => True
  | .n b => 0 ≤ b ∧ b ≤ 1000000000000
abbrev Col := Tx × Cd
def colD (p : Col) : D := .tup [.str p.1, p.2.d]
def valOk : Cd → D → Prop
  | .s, v => ∃ x, v = .str x
  | .n _, v => ∃ i, v = .int i
inductive Op where
  | col (n : Tx)
  | num (i : Int)
  | txt (x : Tx)
def Op.d : Op → D
  | .col n => .tup [.str "column", .str n]
  | .num i => .tup [.str "integer", .int i]
  | .txt x => .tup [.str "string", .str x]
def sgnD : Bool → Tx
  | true => "+"
  | false => "-"
abbrev Ex := List (Bool × Op)
def termD (t : Bool × Op) : D := .tup [.str (sgnD t.1), t.2.d]
def exD (e : Ex) : D := .tup (e.map termD)
def fits (cs : List Col) (w : Tx) : Op → Prop
  | .col n => ∃ k : Cd, (n, k) ∈ cs ∧ k.w = w
  | .num _ => w = "integer"
  | .txt _ => w = "string"
structure ExOk (cs : List Col) (w : Tx) (e : Ex) : Prop where
  ne : e ≠ []
  fit : ∀ t ∈ e, fits cs w t.2
  one : w = "string" → e.length = 1
  len : e.length ≤ 20
  word : w = "string" ∨ w = "integer"
inductive Fm where
  | cmp (sg : Tx) (l r : Ex)
  | neg (f : Fm)
  | all (fs : List Fm)
  | any (fs : List Fm)
  | imp (a b : Fm)
  | tt
  | ff
mutual
def Fm.d : Fm → D
  | .cmp sg l r => .tup [.str "compare", .str sg, exD l, exD r]
  | .neg f => .tup [.str "not", f.d]
  | .all fs => .tup [.str "and", .tup (Fm.dL fs)]
  | .any fs => .tup [.str "or", .tup (Fm.dL fs)]
  | .imp a b => .tup [.str "implies", a.d, b.d]
  | .tt => .tup [.str "true"]
  | .ff => .tup [.str "false"]
def Fm.dL : List Fm → List D
  | [] => []
  | f :: fs => f.d :: Fm.dL fs
end
theorem Fm.dL_map : ∀ fs : List Fm, Fm.dL fs = fs.map Fm.d
  | [] => rfl
  | f :: fs => by show f.d :: Fm.dL fs = f.d :: fs.map Fm.d; rw [Fm.dL_map fs]
mutual
def Fm.dep : Fm → Nat
  | .cmp _ _ _ => 0
  | .neg f => f.dep + 1
  | .all fs => Fm.depL fs + 1
  | .any fs => Fm.depL fs + 1
  | .imp a b => max a.dep b.dep + 1
  | .tt => 0
  | .ff => 0
def Fm.depL : List Fm → Nat
  | [] => 0
  | f :: fs => max f.dep (Fm.depL fs)
end
theorem Fm.depL_le {n : Nat} : ∀ {fs : List Fm}, (∀ f ∈ fs, f.dep ≤ n) → Fm.depL fs ≤ n
  | [], _ => Nat.zero_le _
  | f :: fs, h => Nat.max_le.mpr ⟨h f (List.mem_cons_self ..), Fm.depL_le fun g hg => h g (List.mem_cons_of_mem _ hg)⟩
theorem Fm.dep_mem : ∀ {fs : List Fm} {f : Fm}, f ∈ fs → f.dep ≤ Fm.depL fs
  | g :: fs, f, h => by
    show f.dep ≤ max g.dep (Fm.depL fs)
    rcases List.mem_cons.mp h with rfl | h
    · exact Nat.le_max_left _ _
    · exact Nat.le_trans (Fm.dep_mem h) (Nat.le_max_right _ _)
def ops : List Tx := ["=", "!=", "<", "<=", ">", ">="]
mutual
def Fm.ok (cs : List Col) : Fm → Prop
  | .cmp sg l r => sg ∈ ops ∧ ∃ w, ExOk cs w l ∧ ExOk cs w r
  | .neg f => f.ok cs
  | .all fs => fs.length ≤ 50 ∧ Fm.okL cs fs
  | .any fs => fs.length ≤ 50 ∧ Fm.okL cs fs
  | .imp a b => a.ok cs ∧ b.ok cs
  | .tt => True
  | .ff => True
def Fm.okL (cs : List Col) : List Fm → Prop
  | [] => True
  | f :: fs => f.ok cs ∧ Fm.okL cs fs
end
def intOf : D → Int
  | .int i => i
  | _ => 0
def ev (nm : List Tx) (row : List D) : Op → D
  | .col n => (row[nm.idxOf n]?).getD .non
  | .num i => .int i
  | .txt x => .str x
def sg1 (b : Bool) (i : Int) : Int := if b then i else -i
def sumV (nm : List Tx) (row : List D) : Ex → Int
  | [] => 0
  | t :: e => sg1 t.1 (intOf (ev nm row t.2)) + sumV nm row e
def exV (nm : List Tx) (row : List D) (e : Ex) : D := match e with
  | [t] => ev nm row t.2
  | e => .int (sumV nm row e)
def cmpI (l r : D) : Int := if dLt l r = true then -1 else if dLt r l = true then 1 else 0
def fitB (sg : Tx) (o : Int) : Bool :=
  if sg = "=" then decide (o = 0) else if sg = "!=" then decide (¬ o = 0) else if sg = "<" then decide (o < 0) else if sg = "<=" then decide (o ≤ 0) else if sg = ">" then decide (0 < o) else decide (0 ≤ o)
mutual
def Fm.tr (nm : List Tx) (row : List D) : Fm → Bool
  | .cmp sg l r => fitB sg (cmpI (exV nm row l) (exV nm row r))
  | .neg f => !f.tr nm row
  | .all fs => Fm.trA nm row fs
  | .any fs => Fm.trO nm row fs
  | .imp a b => !a.tr nm row || b.tr nm row
  | .tt => true
  | .ff => false
def Fm.trA (nm : List Tx) (row : List D) : List Fm → Bool
  | [] => true
  | f :: fs => f.tr nm row && Fm.trA nm row fs
def Fm.trO (nm : List Tx) (row : List D) : List Fm → Bool
  | [] => false
  | f :: fs => f.tr nm row || Fm.trO nm row fs
end
theorem Fm.trA_all (nm : List Tx) (row : List D) : ∀ fs : List Fm, Fm.trA nm row fs = fs.all (Fm.tr nm row)
  | [] => rfl
  | f :: fs => by show (f.tr nm row && Fm.trA nm row fs) = (f.tr nm row && fs.all (Fm.tr nm row)); rw [Fm.trA_all nm row fs]
theorem Fm.trO_any (nm : List Tx) (row : List D) : ∀ fs : List Fm, Fm.trO nm row fs = fs.any (Fm.tr nm row)
  | [] => rfl
  | f :: fs => by show (f.tr nm row || Fm.trO nm row fs) = (f.tr nm row || fs.any (Fm.tr nm row)); rw [Fm.trO_any nm row fs]
structure RowOk (cs : List Col) (row : List D) : Prop where
  nd : (cs.map (·.1)).Nodup
  len : row.length = cs.length
  val : ∀ (i : Nat) (p : Col) (v : D), cs[i]? = some p → row[i]? = some v → valOk p.2 v
def wordOk (w : Tx) (v : D) : Prop := (w = "string" ∧ ∃ x, v = .str x) ∨ (w = "integer" ∧ ∃ i, v = .int i)
end Va
namespace Va
open PySem PySem.Spec PyProof.Rows L2 Ind
def tOk (x : Tx) : Prop := ∀ c ∈ x.cps.toList, c < 0x110000
theorem tOk.ok {x : Tx} (h : tOk x) : PyData.strOk x = true := by
  unfold PyData.strOk
  rw [Array.all_eq_true']
  intro c hc
  exact decide_eq_true (h c (by simpa using hc))
theorem tOk_app {x y : Tx} (h : tOk x) (h2 : tOk y) : tOk (x ++ y) := fun c hc => by
  have hc : c ∈ (x.cps ++ y.cps).toList := hc
  rw [Array.toList_append] at hc
  rcases List.mem_append.mp hc with z | z
  · exact h c z
  · exact h2 c z
theorem atI_mem {α : Type} {l : List α} {i : Int} {x : α} (e : atI l i = some x) : x ∈ l := by
  unfold L2.atI at e
  cases h : ixN l.length i with
  | none => rw [h] at e; cases e
  | some j => rw [h] at e; exact List.mem_of_getElem? e
theorem tOk_one {x : Tx} {i : Int} {c : Nat} (h : tOk x) (e : atI x.cps.toList i = some c) : tOk ⟨#[c]⟩ := fun d hd => by
  have hd : d ∈ [c] := hd
  cases List.mem_singleton.mp hd
  exact h c (atI_mem e)
theorem tOk_of {x : Tx} (h : (x.cps.toList.all fun c => decide (c < 0x110000)) = true) : tOk x := fun c hc => of_decide_eq_true (List.all_eq_true.mp h c hc)
def Op.tok : Op → Prop
  | .col n => tOk n
  | .num _ => True
  | .txt x => tOk x
end Va
namespace Va
open PySem PySem.Spec PyProof.Rows L2 Ind
theorem wordOk.okD {w : Tx} {v : D} (h : wordOk w v) : okD v := by
  rcases h with ⟨_, x, rfl⟩ | ⟨_, i, rfl⟩ <;> trivial
end Va
namespace Va
open PySem PySem.Spec PyProof.Rows L2 Ind
end Va
set_option Elab.async false
set_option linter.all false
set_option maxRecDepth 100000
set_option maxHeartbeats 4000000
namespace Va
open PySem PySem.Spec PyProof.Rows L2 Ind
section
variable {X : Cx} {S : Sg} {e o a : Expr} {p p2 pos pos2 apos cpos : Pos}
theorem call_list_dR (hc : X.calm = true) : CallR X (.type "list") (fun xs H Q => ∃ p kvs, xs = [.ref p] ∧ Rd H p (.dK kvs) ∧ ∀ q, H q = none → Q (.ref q) (upd H q (.lst (kvs.map fun kv => kV kv.1)))) := by
  intro pins s σ H xs us Q I r h
  obtain ⟨p, kvs, ee, hk, q⟩ := h
  subst ee
  obtain ⟨u, eu, rx⟩ := vals1 r
  subst eu
  obtain rfl : u = Value.ref p := rx
  obtain ⟨z, lo, vs, rk, hd⟩ := hk.ok I.hok
  obtain ⟨ep, hat⟩ := hd.dictAt
  have hl : kvs.length = vs.length := Paired.length rk
  refine PySem.W.kdl_call (PySem.W.kdl_dict (knd := mixKind X.prog X.w) (kvs := vs) (ep := ep) lo) (I.ok.hd hc) hat (by rw [← hl]; exact z) fun h' tk acc' c' hkeep hS hacc => ?_
  refine ⟨.ref s.heap.objs.size, upd H s.heap.objs.size (.lst (kvs.map fun kv => kV kv.1)), I.laid hkeep (Nat.le_refl _) (show ObjOk X.prog X.w _ _ _ (.lst (kvs.map fun kv => kV kv.1)) from ⟨?_, acc'.toList, c', ?_, ?_⟩), rfl, q _ (I.hok.fresh (Nat.le_refl _))⟩
  · rw [List.length_map]; exact z
  · have el : acc'.toList.length = acc'.size := by simp
    refine vals_of_at (by rw [List.length_map, el, hacc.1, hl]) fun j x w h1 h2 => ?_
    obtain ⟨k, y, hky, hi⟩ := hacc.2 j w (by rw [← Array.getElem?_toList]; exact h2)
    have e1 : (kvs.map (·.1))[j]? = some k := by
      rw [KV.keys rk, List.getElem?_map, hky] <;> rfl
    have e2 : (kvs.map fun kv => kV kv.1)[j]? = some (kV k) := by
      have e3 : (kvs.map fun kv => kV kv.1) = (kvs.map (·.1)).map kV := by rw [List.map_map] <;> rfl
      rw [e3, List.getElem?_map, e1] <;> rfl
    rw [e2] at h1
    cases h1
    exact keyIs_rel hi
  · rw [Array.toArray_toList]; exact hS
theorem kv_at : ∀ {kvs : List (Key × V)} {vs : List (Key × Value)} {i : Nat} {y : Key × V} {k : Key} {w : Value}, KV kvs vs → kvs[i]? = some y → vs[i]? = some (k, w) → RelV y.2 w
  | _, _, _, _, _, _, .nil, h, _ => by simp at h
  | _, _, 0, _, _, _, .cons r _, h1, h2 => by
    simp only [List.getElem?_cons_zero, Option.some.injEq] at h1 h2
    subst h1; subst h2
    exact r.2
  | _, _, i + 1, _, _, _, .cons _ t, h1, h2 => kv_at (i := i) t (by simpa using h1) (by simpa using h2)
def tListVals (te : TE) : TE := fun σ H Q => te σ H fun x H1 => ∃ d kvs, x = .ref d ∧ Rd H1 d (.dK kvs) ∧ ∀ q, H1 q = none → Q (.ref q) (upd H1 q (.lst (kvs.map fun kv => kv.2)))
theorem pe_listVals {te : TE} (hc : X.calm = true) (he : PE X e te) (hg : Gl X "list") (hm : X.mg "list" = none) (hv : bootBuiltins "list" = some (.type "list")) (hbase : attributeBase e "values" X.env (eval e X.env) = eval e X.env := by rfl) (hline : (apos.endLine == cpos.line) = true := by rfl)
    (hs : starEach [.Call (.Attribute e "values" apos) [] [] cpos] X.env = (false, eval (.Call (.Attribute e "values" apos) [] [] cpos) X.env) :: starEach [] X.env := by rfl) :
    PE X (.Call (.Name "list" p) [.Call (.Attribute e "values" apos) [] [] cpos] [] pos) (tListVals te) := by
  refine ⟨fun pins s σ H Q I hq => ?_⟩
  refine wpAny_Call_Name_kw (ld_blt I hg hm hv ?_)
  refine PyProof.Rows.callWith_type1 ?_ hs rfl
  rw [hs]
  show wpAny _ _ (spliced ((false, eval (.Call (.Attribute e "values" apos) [] [] cpos) X.env) :: backTo pos (starEach [] X.env))) _ _ s
  refine Calls.spliced_cons ?_
  refine wpAny_Call_method (T := "dict") (id := "dict.values") hbase rfl hline F.plainAttrs_dict F.slot_dict_values F.type_dict_values (thn (he.run pins s σ H _ I hq) fun u s1 ⟨x, H1, I1, rx, d, kvs, ex, hd, q⟩ => ?_)
  subst ex
  obtain rfl : u = Value.ref d := rx
  obtain ⟨hz, hs0, vs, kv, hdo⟩ := hd.ok I1.hok
  obtain ⟨ep, hat⟩ := hdo.dictAt
  have lk : kvs.length = vs.length := Paired.length kv
  have I2 : Inv X pins σ H1 { s1 with heap := s1.heap.push { cls := .type "dict_values", data := .fields #[.ref d] } } := I1.kept (t' := s1.toks) fun b ob q => Heap.get?_push_of_some _ q
  refine ⟨hdo.typeIs, hdo.mapOf.noDict, ?_⟩
  show wpAny _ _ (callWith cpos (.builtin "dict.values") [.ref d] [] []) _ X.xe s1
  refine method_meetsIn F.slot_dict_values F.entry_dict_values rfl (PySem.evalArgs_none ⟨rfl, hdo.typeIs, F.args_dict_values_1 _, _, meets_dict_values (mixKind X.prog X.w) d hs0, ⟨vs, hdo⟩, ?_⟩)
  refine Calls.spliced_nil ?_
  refine PySem.W.kdl_call (PySem.W.kdl_values (knd := mixKind X.prog X.w) (r := s1.heap.objs.size) (d := d) (kvs := vs) (ep := ep)) (I1.ok.hd hc) ⟨⟨_, Heap.get?_push_size _ rfl, rfl, rfl⟩, hat.push _⟩ (by rw [← lk]; exact hz) fun h' tk acc' c' hkeep hS hacc => ?_
  refine ⟨.ref _, upd H1 (s1.heap.push { cls := .type "dict_values", data := .fields #[.ref d] }).objs.size (.lst (kvs.map fun kv => kv.2)), I2.laid hkeep (Nat.le_refl _) (show ObjOk X.prog X.w _ _ _ (.lst (kvs.map fun kv => kv.2)) from ⟨?_, acc'.toList, c', ?_, ?_⟩), rfl, q _ (I2.hok.fresh (Nat.le_refl _))⟩
  · rw [List.length_map]; exact hz
  · have el : acc'.toList.length = acc'.size := by simp
    refine vals_of_at (by rw [List.length_map, el, hacc.1, lk]) fun j x w h1 h2 => ?_
    obtain ⟨k, hky⟩ := hacc.2 j w (by rw [← Array.getElem?_toList]; exact h2)
    rw [List.getElem?_map] at h1
    obtain ⟨y, hy, rfl⟩ := Option.map_eq_some_iff.mp h1
    exact kv_at kv hy hky
  · rw [Array.toArray_toList]; exact hS
def listDG : VC := fun ds Q => match ds with
  | [.lst xs] => Q (.fl xs)
  | [.tup xs] => Q (.fl xs)
  | [.dk kvs] => Q (.fl (kvs.map fun p => key p.1))
  | _ => False
theorem c_listD (hK : S.K = X.K) (hc : X.calm = true) : CallV S X (.type "list") listDG := by
  refine ⟨_, call_list_of.or (call_list_dR hc), ?_⟩
  intro Γ H xs ds Q Q0 eK hx hg k
  have eK' : X.K = Γ.K := (eK.trans hK).symm
  have fin : ∀ (ys : List V) (zs : List D), Γ.RpL H ys zs → Q0 (.fl zs) → ∀ l, H l = none → Q (.ref l) (upd H l (.lst ys)) := fun ys zs h2 hq l nl => by
    have sm := same_upd (o := .lst ys) nl
    exact k _ hq _ _ sm ⟨l, _, rfl, nl, upd_same, RpL.kq (.same sm) _ _ h2⟩
  unfold listDG at hg
  split at hg
  · match hx with
    | .cons h .nil =>
      obtain ⟨p, ys, rfl, h1, h2⟩ := h.seq
      exact .inl ⟨p, ys, rfl, .inl (by rw [eK']; exact h1), fin _ _ h2 hg⟩
  · match hx with
    | .cons h .nil =>
      obtain ⟨p, ys, rfl, h1, h2⟩ := h.tup
      exact .inl ⟨p, ys, rfl, .inr (by rw [eK']; exact h1), fin _ _ h2 hg⟩
  · match hx with
    | .cons h .nil =>
      obtain ⟨p, kv, rfl, h1, h2⟩ := h.dk
      exact .inr ⟨p, kv, rfl, h1, fin _ _ (keys_rp h2) hg⟩
  · exact hg.elim
def dkD (d : D) (Q : List (Key × D) → Prop) : Prop := match d with
  | .dk kvs => Q kvs
  | _ => False
theorem vals_rp {Γ : Gm} {H : Hp} : ∀ {kv : List (Key × V)} {ds : List (Key × D)}, RpK Γ.K Γ.tp H kv ds → Γ.RpL H (kv.map fun p => p.2) (ds.map fun p => p.2)
  | _, [], h => by cases h; exact .nil
  | _, (k, d) :: ds, h => by
    cases h with
    | cons h1 h2 => exact .cons h1 (vals_rp h2)
def vLvals (t : VT) : FT := fun E Q => t E fun d E1 => dkD d fun kvs => Q (.fl (kvs.map fun p => p.2)) E1
theorem fe_listVals {t : VT} (hc : X.calm = true) (hg : Gl X "list") (hm : X.mg "list" = none) (he : VE S X e t) (hv : bootBuiltins "list" = some (.type "list") := by rfl)
    (hbase : attributeBase e "values" X.env (eval e X.env) = eval e X.env := by rfl) (hline : (apos.endLine == cpos.line) = true := by rfl)
    (hs : starEach [.Call (.Attribute e "values" apos) [] [] cpos] X.env = (false, eval (.Call (.Attribute e "values" apos) [] [] cpos) X.env) :: starEach [] X.env := by rfl) :
    FE S X (.Call (.Name "list" p) [.Call (.Attribute e "values" apos) [] [] cpos] [] pos) (vLvals t) := by
  refine pe_weak (pe_listVals hc he hg hm hv hbase hline hs) ?_
  rintro σ H Q ⟨Γ, E, Q0, ok, rp, ht, k⟩
  refine ⟨Γ, E, _, ok, rp, ht, fun d E1 hq x H1 kq1 rp1 hx => ?_⟩
  cases d with
  | dk ds =>
    obtain ⟨a, o, kv, rfl, h1, h2⟩ := hx.dk_inv
    refine ⟨a, kv, rfl, .inr ⟨o, h1⟩, fun q nq => ?_⟩
    have sm := same_upd (o := .lst (kv.map fun p => p.2)) nq
    exact k _ _ hq _ _ (kq1.trans (.same sm)) (rp1.same sm) (RpN.rep (x := .fl _) rp1 sm ⟨q, _, rfl, nq, upd_same, RpL.kq (.same sm) _ _ (vals_rp h2)⟩)
  | _ => exact hq.elim
end
end Va
set_option Elab.async false
set_option linter.all false
set_option maxRecDepth 100000
set_option maxHeartbeats 4000000
namespace Va
open PySem PySem.Spec PyProof.Rows L2 Ind
def D.sm : Nat → D → Prop
  | 0, _ => False
  | n + 1, d => match d with
    | .tup xs => xs.length < 1000000 ∧ ∀ x ∈ xs, D.sm n x
    | .lst xs => xs.length < 1000000 ∧ ∀ x ∈ xs, D.sm n x
    | .dk kvs => D.sm n (.lst (kvs.map fun p => key p.1)) ∧ D.sm n (.lst (kvs.map fun p => p.2))
    | .non => True
    | .bl _ => True
    | .int _ => True
    | .str _ => True
    | _ => False
theorem rng_len (lo : Int) (n : Nat) : (rng lo n).length = n := by simp [rng]
def strD (r : List Tx) : D := .tup (r.map .str)
def allR : List Tx → List (List Tx)
  | [] => [[]]
  | x :: xs => (allR xs).map (fun r => x :: r) ++ allR xs
theorem allR_len : ∀ ns : List Tx, (allR ns).length = 2 ^ ns.length
  | [] => rfl
  | x :: xs => by
    show ((allR xs).map (fun r => x :: r) ++ allR xs).length = 2 ^ (xs.length + 1)
    rw [List.length_append, List.length_map, allR_len xs, Nat.pow_succ]; omega
theorem allR_sub : ∀ {ns : List Tx} {r : List Tx}, r ∈ allR ns → r.Sublist ns
  | [], r, h => by cases List.mem_singleton.mp h; exact .slnil
  | x :: xs, r, h => by
    rcases List.mem_append.mp h with h | h
    · obtain ⟨r', h', rfl⟩ := List.mem_map.mp h
      exact .cons₂ _ (allR_sub h')
    · exact .cons _ (allR_sub h)
end Va
set_option Elab.async false
set_option linter.all false
set_option maxRecDepth 100000
set_option maxHeartbeats 4000000
namespace Va
open PySem PySem.Spec PyProof.Rows L2 Ind
section
variable {X : Cx} {S : Sg} {e o a b i value : Expr} {p p2 pos pos2 pos' apos cpos : Pos}
def sortedG : VC := fun ds Q => match ds with
  | [.lst xs] => ∃ ns : List Tx, xs = ns.map .str ∧ ns.length < 64 ∧ ∀ ms : List Tx, ms.Perm ns → sortedS ms = true → Q (.fl (ms.map .str))
  | _ => False
theorem strs_rp2 {K : PySem.W.Frag} {tp : Option Tp} {H : Hp} : ∀ ys : List Tx, RpL K tp H (ys.map V.str) (ys.map .str)
  | [] => .nil
  | y :: ys => .cons (.str y) (strs_rp2 ys)
theorem c_sortedS (hK : S.K = X.K) : CallV S X (.builtin "sorted") sortedG := by
  refine ⟨_, cr_sortedS, ?_⟩
  intro Γ H xs ds Q Q0 eK hx hg k
  have eK' : X.K = Γ.K := (eK.trans hK).symm
  unfold sortedG at hg
  split at hg
  · obtain ⟨ns, rfl, hl, hg⟩ := hg
    match hx with
    | .cons h .nil =>
      obtain ⟨q, ys, rfl, h1, h2⟩ := h.seq
      have ey := strs_back h2
      subst ey
      refine ⟨q, ns, rfl, by rw [eK']; exact h1, hl, fun ms l pm sm nl => ?_⟩
      exact k _ (hg ms pm sm) _ _ (same_upd nl) ⟨l, _, rfl, nl, upd_same, strs_rp2 ms⟩
  · exact hg.elim
theorem merge_new : ∀ (more kvs : List (Key × V)), (∀ p ∈ more, valV kvs p.1 = none) → (more.map (·.1)).Nodup → mergeK kvs more = kvs ++ more
  | [], kvs, _, _ => by simp [mergeK]
  | p :: more, kvs, h, nd => by
    have nd' := List.nodup_cons.mp nd
    show mergeK (putK kvs p.1 p.2) more = _
    rw [putK_new _ (h p (by simp)), merge_new more _ (fun r hr => ?_) nd'.2]
    · simp
    · rw [valV_snoc _ _ _ _ (h p (by simp)), if_neg (fun e => nd'.1 (by show p.1 ∈ _; rw [← e]; exact List.mem_map_of_mem hr))]
      exact h r (by simp [hr])
end
end Va
set_option Elab.async false
set_option linter.all false
set_option maxRecDepth 100000
set_option maxHeartbeats 4000000
namespace SrtB
open PySem PyProof.Rows Srt SrtO
section
variable {prog : Program} {w : World} {A : Around} {E : Value → Shared → Prop} {s : Shared}
def IsSB (h : Heap) (v : Value) (p : Str × Bool) : Prop := ∃ a o t n, v = .ref a ∧ h.get? a = some o ∧ o.cls = .type "tuple" ∧ o.data = .seq #[.str p.1 t, .bool p.2] n
theorem IsSB.keeps {h h' : Heap} {v : Value} {x : Str × Bool} (p : IsSB h v x) (k : ∀ b o, h.get? b = some o → o.cls = .type "tuple" → h'.get? b = some o) : IsSB h' v x := by
  obtain ⟨a, o, t, n, e, ho, hc, hd⟩ := p
  exact ⟨a, o, t, n, e, k _ _ ho hc, hc, hd⟩
theorem IsSB.inj {h : Heap} {v : Value} {p q : Str × Bool} (x : IsSB h v p) (y : IsSB h v q) : p = q := by
  obtain ⟨a, o, t, n, e, ho, hc, hd⟩ := x
  obtain ⟨a', o', t', n', e', ho', hc', hd'⟩ := y
  have ea : a = a' := Value.ref.inj (e.symm.trans e')
  subst ea
  have eo : o = o' := Option.some.inj (ho.symm.trans ho')
  subst eo
  have ed := (Data.seq.inj (hd.symm.trans hd')).1
  have el := congrArg Array.toList ed
  have e1 := (List.cons.inj el).1
  have e2 := (List.cons.inj (List.cons.inj el).2).1
  exact Prod.ext (Value.str.inj e1).1 (Value.bool.inj e2)
def ltS (a b : Str) : Bool := decide (a.cps.toList < b.cps.toList)
theorem swo_s {α : Type} (k : α → Str) : Swo fun v u => ltS (k v) (k u) := by
  refine ⟨fun x y h => ?_, fun x y z h1 h2 => ?_⟩
  · have a := of_decide_eq_true h
    exact decide_eq_false (fun b => List.lt_asymm a b)
  · have a := of_decide_eq_false h1
    have b := of_decide_eq_false h2
    refine decide_eq_false fun c => ?_
    have a' := List.not_lt.mp a
    have b' := List.not_lt.mp b
    exact List.not_lt.mpr (List.le_trans a' b') c
end
end SrtB
namespace L2
open PySem PySem.Spec PyProof.Rows SrtB
abbrev PrSB (K : PySem.W.Frag) (H : Hp) (v : V) (p : Str × Bool) : Prop := ∃ t, v = V.ref t ∧ SqT K H t [.str p.1, .bl p.2]
theorem paired_mem {α β : Type} {R : α → β → Prop} : ∀ {xs : List α} {ys : List β}, Paired R xs ys → ∀ x ∈ xs, ∃ y ∈ ys, R x y
  | _, _, .nil, x, h => by simp at h
  | _, _, .cons r t, x, h => by
    rcases List.mem_cons.mp h with rfl | h
    · exact ⟨_, List.mem_cons_self, r⟩
    · obtain ⟨y, hy, q⟩ := paired_mem t x h
      exact ⟨y, List.mem_cons_of_mem _ hy, q⟩
section
variable {X : Cx}
theorem Inv.sb {pins : List (Addr × Obj)} {σ : St} {H : Hp} {s : Shared} (I : Inv X pins σ H s) {v : V} {u : Value} {p : Str × Bool} (h : PrSB X.K H v p) (r : RelV v u) : IsSB s.heap u p := by
  obtain ⟨t, rfl, hs⟩ := h
  obtain ⟨its, rv, ⟨o, e, hc, n, hd⟩, _⟩ := I.tuple hs
  obtain rfl : u = Value.ref t := r
  obtain ⟨u1, u2, rfl, r1, r2⟩ := vals2 rv
  obtain ⟨t1, rfl⟩ := r1
  obtain rfl : u2 = Value.bool p.2 := r2
  exact ⟨t, o, t1, n, rfl, e, hc, hd⟩
end
end L2
namespace Va
open PySem PySem.Spec PyProof.Rows L2 Ind SrtB
section
variable {X : Cx} {S : Sg} {e o a b c i value : Expr} {p p2 pos pos2 : Pos}
def lcScope : Expr → Scope
  | .ListComp _ _ sc _ => sc
  | _ => { kind := .function, names := [], isGenerator := false, isCoroutine := false, more := [] }
def stVal : Stmt → Expr
  | .Assign _ e _ => e
  | .Return (some e) _ => e
  | _ => .Constant .none 0 ⟨0, 0, 0, 0⟩
def sbD (prs : List (Tx × Bool)) : List D := prs.map fun p => .tup [.str p.1, .bl p.2]
def vChain (g g' : VO) (ta tb tc : VT) : VTT := fun E Q => ta E fun d E1 => tb E1 fun e E2 => g d e fun z => asB z.d fun k => (k = true → tc E2 fun c E3 => g' e c fun z => asB z.d fun k => Q k E3) ∧ (k = false → Q false E2)
theorem vb_chain {op op' : CmpOp} {g g' : VO} {ta tb tc : VT} (ho : OpV S X (compareOp op) g) (ho' : OpV S X (compareOp op') g') (ha : VE S X a ta) (hb : VE S X b tb) (hc : VE S X c tc) (hm : lastMarks [op, op'] [b, c] = false := by rfl) : VB S X (.Compare a [op, op'] [b, c] pos) (vChain g g' ta tb tc) := by
  obtain ⟨r, h1, h2⟩ := ho.ex
  obtain ⟨r', h1', h2'⟩ := ho'.ex
  refine pt_weak (pt_chain h1 h1' ha hb hc (hm := hm)) ?_
  rintro σ H Q ⟨Γ, E, Q0, ok, rp, ht, k⟩
  refine ⟨Γ, E, _, ok, rp, ht, fun d E1 hq x H1 kq1 rp1 hx => ?_⟩
  refine ⟨Γ, E1, _, ok, rp1, hq, fun e E2 hq2 y H2 kq2 rp2 hy => ?_⟩
  refine h2 Γ H2 x y d e _ _ ok.k (.v (Rp.kq kq2 _ _ hx)) (.v hy) hq2 fun z hz v H' sm hn => ?_
  obtain ⟨b, e1, hb⟩ := asB_inv hz
  cases z with
  | v d =>
    cases e1
    cases hn
    refine ⟨b, rfl, ?_⟩
    have q3 := (kq1.trans kq2).trans (Kq.same sm)
    cases b with
    | false => exact iteF ⟨false, rfl, k _ _ (hb.2 rfl) _ q3 (rp2.same sm)⟩
    | true =>
      refine iteT ⟨Γ, E2, _, ok, rp2.same sm, hb.1 rfl, fun c E3 hq3 w H4 kq4 rp4 hw => ?_⟩
      refine h2' Γ H4 y w e c _ _ ok.k (.v (Rp.kq ((Kq.same sm).trans kq4) _ _ hy)) (.v hw) hq3 fun z hz v H' sm' hn => ?_
      obtain ⟨b, e1, hb⟩ := asB_inv hz
      cases z with
      | v d =>
        cases e1
        cases hn
        exact ⟨b, rfl, k _ _ hb _ ((q3.trans kq4).trans (Kq.same sm')) (rp4.same sm')⟩
      | fl ds => cases e1
      | fd ds => cases e1
  | fl ds => cases e1
  | fd ds => cases e1
end
end Va
set_option Elab.async false
set_option linter.all false
set_option maxRecDepth 100000
set_option maxHeartbeats 4000000
namespace SupE
open PySem PySem.W PySem.Calls PyProof.Rows PySem.HandSPX
abbrev tailV : List Value := [.type "ValueError", .type "Exception", .type "BaseException", .type "object"]
def parm (f : Str) (p1 p2 : Pos) : Arguments := { posonlyargs := [], args := [⟨"self", none, p1⟩, ⟨f, none, p2⟩], vararg := none, kwonlyargs := [], kw_defaults := [], kwarg := none, defaults := [] }
structure Ps where
  a : Pos
  b : Pos
  c : Pos
  d : Pos
  e : Pos
  g : Pos
  q1 : Pos
  q2 : Pos
  q3 : Pos
  q4 : Pos
def bodyI (f : Str) (vs : List Expr) (p : Ps) : List Stmt := [.Expr (.Call (.Attribute (.Call (.Name "super" p.a) [] [] p.b) "__init__" p.c) [.JoinedStr vs p.d] [] p.e) p.g, .Assign [.Attribute (.Name "self" p.q1) f p.q2] (.Name f p.q3) p.q4]
def scI (f : Str) : Scope := { kind := .function, names := [("self", .local), (f, .local), ("__class__", .free), ("super", .globalImplicit)], isGenerator := false, isCoroutine := false, more := [] }
structure Cl (prog : Program) (K : Frag) (C fI : Addr) (f : Str) (vs : List Expr) (p : Ps) : Prop where
  cls : ∃ nm q N bs bm sn sub ab col dd k0 k1 k2 k3 k5, K.lookup C = some (excClassObj nm q C N bs bm true sn sub ab col dd k0 k1 k2 k3 k5 "ValueError.__new__") ∧ refsVE bm = true
  sa : findIn K (.ref C) "__setattr__" = some (some (.builtin "object.__setattr__"))
  ga : findIn K (.ref C) "__getattribute__" = some (some (.builtin "BaseException.__getattribute__"))
  gg : findIn K (.ref C) "__getattr__" = some none
  no : findIn K (.ref C) f = some none
  iC : findIn K (.ref C) "__init__" = some (some (.ref fI))
  tI : typeIn K (.ref fI) = some (.type "function")
  kC : keepIn K (.ref C) = true
  bC : subIn K (.ref C) (.type "BaseException") = some true
  tC : typeIn K (.ref C) = some (.type "type")
  hd : hasDictIn K C = true
  su : ks_superIn K C C "__init__" = some (some (.builtin "ValueError.__init__"))
  ve : subIn K (.ref C) (.type "ValueError") = some true
  qi : excInitIn K C tailV "ValueError.__new__" = true
  mm : mroIn K C (.ref C) = some true
  th : nsIn K cStatics "thirdparty.any" = some none
  call : ∀ env : Env, ∃ pl : Sem Bool, eval (.Call (.Attribute (.Call (.Name "super" p.a) [] [] p.b) "__init__" p.c) [.JoinedStr vs p.d] [] p.e) env = (do
    let ov ← attributeBase (.Call (.Name "super" p.a) [] [] p.b) "__init__" env (eval (.Call (.Name "super" p.a) [] [] p.b) env)
    standAt p.c.atName
    let (g, first) ← holding [ov] (getMethod ov "__init__" pl)
    callWith p.e g first (backTo p.e (starEach [.JoinedStr vs p.d] env)) [])
  top : (prog.main.scope.names.lookup ("super" : Str)).isSome = false
  fn : ∃ (oc : Value) (od : Option Addr) (qual : Str) (p1 p2 : Pos) (doc pm : Value) (an : Option Addr) (cda : Addr) (ct : Value) (cc : Addr) (osl : Array (Option Value)) (ccl : Value) (cdd : Option Addr) (fv : Array Value) (ccs : Array (Option Value)) (file : Str) (tf : Tok) (cl : Value) (cld : Option Addr) (csl : Array (Option Value)),
    K.lookup fI = some ⟨oc, od, .func (ksFn "__init__" qual (parm f p1 p2) (bodyI f vs p) (scI f) .none .none doc pm an (.ref cda) ct cc), osl⟩ ∧ codeIn K (.ref cda) qual = true ∧ K.lookup cda = some ⟨ccl, cdd, .fields fv, ccs⟩ ∧ fv[2]? = some (.str file tf) ∧ ((prog.main.file : Str) == file) = true ∧ K.lookup cc = some ⟨cl, cld, .cell (some (.ref C)), csl⟩
structure Left (h h' : Heap) (x C dx : Addr) (f : Str) (v : Value) : Prop where
  keep : ∀ b o, b ≠ x → h.get? b = some o → h'.get? b = some o
  obj : ∃ t1, h'.get? x = some { cls := .ref C, dict := some dx, data := .fields #[.ref t1, .none, .none, .none, .bool false, .none] }
  big : h.objs.size ≤ dx
  ne : dx ≠ x
  ns : h'.Ns1 dx (fun y => if y = f then some v else none)
section
variable {prog : Program} {w : World} {A : Around} {E : Value → Shared → Prop} {R : Result → Shared → Prop} {s : Shared} {K : Frag} {mg : Str → Option Value} {C fI : Addr} {f : Str} {vs : List Expr} {p : Ps}
structure Made (h h' : Heap) (e C d : Addr) (f : Str) (v : Value) : Prop where
  keep : ∀ b o, h.get? b = some o → h'.get? b = some o
  new : h.objs.size ≤ e
  obj : ∃ oe vs, h'.get? e = some oe ∧ oe.cls = .ref C ∧ oe.dict = some d ∧ oe.data = .fields vs ∧ vs[1]? = some .none
  big : h.objs.size ≤ d
  ne : d ≠ e
  ns : h'.Ns1 d (fun y => if y = f then some v else none)
end
end SupE
namespace L2
open PySem PySem.Spec PyProof.Rows SupE
section
variable {X : Cx} {C fI : Addr} {vs : List Expr} {ps : Ps}
end
end L2
set_option Elab.async false
set_option linter.all false
set_option maxRecDepth 100000
set_option maxHeartbeats 4000000
namespace Va
open PySem PySem.Spec PyProof.Rows L2 Ind
section
variable {X : Cx} {S : Sg} {W : WX} {e : Expr} {es : List Expr} {pos : Pos}
structure HeldX (K : PySem.W.Frag) (oe : Obj) (C : Addr) (d : Option Addr) : Prop where
  cls : oe.cls = .ref C
  fv : ∃ vs, oe.data = .fields vs
  dict : oe.dict = d
  ex : ExcC K C
end
end Va
namespace Va
open PySem PySem.Spec PyProof.Rows L2 Ind
section
variable {X : Cx} {S : Sg} {x n : PySem.Str} {c : Value} {i : Nat} {body suite : List Stmt} {b₀ : Stmt} {np pos pos' : Pos}
end
section
variable {X : Cx} {S : Sg} {W : WX} {pos : Pos}
end
end Va
set_option Elab.async false
set_option linter.all false
set_option maxRecDepth 100000
set_option maxHeartbeats 4000000
namespace SupE
open PySem PySem.W PySem.Calls PyProof.Rows PySem.HandSPX
section
variable {prog : Program} {w : World} {A : Around} {E : Value → Shared → Prop} {R : Result → Shared → Prop} {s : Shared} {K : Frag} {mg : Str → Option Value} {C fI : Addr} {f : Str} {vs : List Expr} {p : Ps}
end
end SupE
namespace L2
open PySem PySem.Spec PyProof.Rows SupE
section
variable {X : Cx} {C fI : Addr} {vs : List Expr} {ps : Ps}
end
end L2
namespace Va
open PySem PySem.Spec PyProof.Rows L2 Ind
section
variable {X : Cx} {S : Sg} {W : WX} {e : Expr} {es : List Expr} {pos : Pos}
end
end Va
set_option Elab.async false
set_option linter.all false
set_option maxRecDepth 100000
set_option maxHeartbeats 4000000
namespace L2
open PySem PySem.Spec PyProof.Rows
abbrev Clau : Type := Bool × Value × (Addr → Value → Option Addr → TS)
def Ends.off (D : Ends) (i : Nat) : Ends := { nx := fun τ G => D.nx (τ.set i none) G, rt := D.rt, bk := fun τ G => D.bk (τ.set i none) G, ct := fun τ G => D.ct (τ.set i none) G }
inductive Clauses (X : Cx) (n : Str) : List ExceptHandler → List Clau → Prop
  | nil : Clauses X n [] []
  | cons (nm : Bool) {x : Str} {c : Value} {ts : Addr → Value → Option Addr → TS} {b₀ : Stmt} {suite : List Stmt} {p1 p2 : Pos} {hs : List ExceptHandler} {l : List Clau} (names : Names X x c)
      (run : ∀ (a : Addr) (ob : Obj) (cls : Value) (d : Option Addr) (pn : List (Addr × Obj)), Zc cls d ob → (∃ vs, ob.data = .fields vs) → PSs (X.suite a ((a, ob) :: pn)) (b₀ :: suite) (ts a cls d)) (rest : Clauses X n hs l) :
      Clauses X n (.ExceptHandler (some (.Name x p1)) (if nm = true then some n else none) (b₀ :: suite) p2 :: hs) ((nm, c, ts) :: l)
section
variable {X : Cx} {n : Str} {i : Nat} {body : List Stmt} {c₀ : ExceptHandler} {cs : List ExceptHandler} {l : List Clau} {pos : Pos} {tb : WX → TS} {out : WX}
end
end L2
set_option Elab.async false
set_option linter.all false
set_option maxRecDepth 100000
set_option maxHeartbeats 4000000
namespace Va
open PySem PySem.Spec PyProof.Rows L2 Ind
structure VCl where
  nm : Bool
  c : Value
  mt : Er → Bool
  ts : Addr → Option Addr → Er → VS
def toCl (S : Sg) (okE : Er → Prop) (k : VCl) : Clau := (k.nm, k.c, fun a cls d D σ H => ∃ e : Er, okE e ∧ cls = .ref e.cls ∧ liftS S (k.ts a d e) D σ H)
section
variable {X : Cx} {S : Sg} {n : PySem.Str} {i : Nat} {body : List Stmt} {c₀ : ExceptHandler} {cs : List ExceptHandler} {l : List VCl} {pos : Pos}
inductive VClauses (X : Cx) (S : Sg) (n : PySem.Str) (okE : Er → Prop) : List ExceptHandler → List VCl → Prop
  | nil : VClauses X S n okE [] []
  | cons (nm : Bool) (mt : Er → Bool) {x : PySem.Str} {c : Value} {ts : Addr → Option Addr → Er → VS} {b₀ : Stmt} {suite : List Stmt} {p1 p2 : Pos} {hs : List ExceptHandler} {l : List VCl} (names : Names X x c)
      (hx : ∀ e, okE e → PySem.W.exmOne X.K (.ref e.cls) c = some (mt e))
      (run : ∀ (e : Er) (a : Addr) (d : Option Addr) (oe : Obj) (pn : List (Addr × Obj)), HeldX X.K oe e.cls d → VSs S (X.suite a ((a, oe) :: pn)) (b₀ :: suite) (ts a d e)) (rest : VClauses X S n okE hs l) :
      VClauses X S n okE (.ExceptHandler (some (.Name x p1)) (if nm = true then some n else none) (b₀ :: suite) p2 :: hs) (⟨nm, c, mt, ts⟩ :: l)
theorem VClauses.to {okE : Er → Prop} (hE : ∀ e, okE e → ExcC X.K e.cls) {hs : List ExceptHandler} (h : VClauses X S n okE hs l) : Clauses X n hs (l.map (toCl S okE)) := by
  induction h with
  | nil => exact .nil
  | cons nm mt names hx run rest ih =>
    refine .cons nm names (fun a ob cls d pn hz hfl => ⟨fun pins s σ H D I h => ?_⟩) ih
    obtain ⟨e, oke, ec, h⟩ := h
    exact (run e a d ob pn ⟨hz.1.trans ec, hfl, hz.2, hE e oke⟩).run pins s σ H D I h
end
end Va
namespace Va
end Va
set_option Elab.async false
set_option linter.all false
set_option maxRecDepth 100000
set_option maxHeartbeats 4000000
namespace Va
open PySem PySem.Spec PyProof.Rows L2 Ind
inductive Stg where
  | res (i : Int)
  | ask (x : Tx) (a b : Stg)
def Stg.d : Stg → D
  | .res i => .tup [.str "result", .int i]
  | .ask x a b => .tup [.str "ask", .str x, a.d, b.d]
def Stg.dep : Stg → Nat
  | .res _ => 0
  | .ask _ a b => max a.dep b.dep + 1
def Stg.to (r : List Tx) : Stg → Int
  | .res i => i
  | .ask x a b => if x ∈ r then a.to r else b.to r
end Va
set_option Elab.async false
set_option linter.all false
set_option maxRecDepth 100000
set_option maxHeartbeats 4000000
namespace IndEnd
open PySem PySem.Spec PyProof.Rows L2
end IndEnd
set_option Elab.async false
set_option linter.all false
set_option maxRecDepth 100000
set_option maxHeartbeats 4000000
namespace Va
open PySem PySem.Spec PyProof.Rows L2 Ind
section
variable {X : Cx} {S : Sg} {e o a b i value : Expr} {p p2 pos pos2 pos' apos cpos : Pos}
end
end Va
set_option Elab.async false
set_option linter.all false
set_option maxRecDepth 100000
set_option maxHeartbeats 4000000
namespace Va
open PySem PySem.Spec PyProof.Rows L2 Ind
abbrev Cm := Tx × Ex × Ex
def Cm.d (p : Cm) : D := (Fm.cmp p.1 p.2.1 p.2.2).d
mutual
def Fm.cms : Fm → List Cm
  | .cmp sg l r => [(sg, l, r)]
  | .neg f => f.cms
  | .all fs => Fm.cmsL fs
  | .any fs => Fm.cmsL fs
  | .imp a b => a.cms ++ b.cms
  | .tt => []
  | .ff => []
def Fm.cmsL : List Fm → List Cm
  | [] => []
  | f :: fs => f.cms ++ Fm.cmsL fs
end
def exCols (e : Ex) : List Tx := e.filterMap fun t => match t.2 with
  | .col n => some n
  | _ => none
def cmCols (p : Cm) : List Tx := exCols (p.2.1 ++ p.2.2)
def cmsCols (l : List Cm) : List Tx := l.flatMap cmCols
def Fm.cols (f : Fm) : List Tx := cmsCols f.cms
end Va
set_option Elab.async false
set_option linter.all false
set_option maxRecDepth 100000
set_option maxHeartbeats 4000000
namespace Va
open PySem PySem.Spec PyProof.Rows L2 Ind
end Va
set_option Elab.async false
set_option linter.all false
set_option maxRecDepth 100000
set_option maxHeartbeats 4000000
namespace Va
open PySem PySem.Spec PyProof.Rows L2 Ind
theorem shaped_names {xs : List Tx} (h : ∀ x ∈ xs, tOk x) : SeqAt.shaped (D.tup (xs.map .str)).pd = true := by
  have e : (D.tup (xs.map .str)).pd = .tuple (xs.map PyData.str) := by
    show PyData.tuple (pdL (xs.map D.str)) = _
    rw [pdL_map, List.map_map]; rfl
  rw [e]
  have l : ∀ ys : List Tx, (∀ y ∈ ys, tOk y) → PyData.canLayAll0 (ys.map PyData.str) = true := fun ys hy => by
    induction ys with
    | nil => simp [PyData.canLayAll0]
    | cons y ys ih => simp [PyData.canLayAll0, PyData.canLay0, ih fun z hz => hy z (List.mem_cons_of_mem _ hz), (hy y (List.mem_cons_self ..)).ok]
  have d : ∀ ys : List Tx, PyData.depthAll (ys.map PyData.str) ≤ 1 := fun ys => by
    induction ys with
    | nil => simp [PyData.depthAll]
    | cons y ys ih => simp [PyData.depthAll, PyData.depth] at *; omega
  have := d xs
  simp [SeqAt.shaped, PyData.canLay0, PyData.depth, l xs h]
  omega
end Va
set_option Elab.async false
set_option linter.all false
set_option maxRecDepth 100000
set_option maxHeartbeats 4000000
namespace Va
open PySem PySem.Spec PyProof.Rows L2 Ind
mutual
def Fc.gd : Fc → Prop
  | .com _ => True
  | .one ns => ns.length ≤ 6
  | .neg f => f.gd
  | .all fs => fs ≠ [] ∧ fs.length ≤ 6 ∧ Fc.gdL fs
  | .any fs => fs ≠ [] ∧ fs.length ≤ 6 ∧ Fc.gdL fs
  | .imp a b => a.gd ∧ b.gd
  | .tt => True
  | .ff => True
def Fc.gdL : List Fc → Prop
  | [] => True
  | f :: fs => f.gd ∧ Fc.gdL fs
end
abbrev B3 := Option Bool
def not3 (a : B3) : B3 := a.map (!·)
def allB (l : List B3) : B3 := if some false ∈ l then some false else if none ∈ l then none else some true
def anyB (l : List B3) : B3 := if some true ∈ l then some true else if none ∈ l then none else some false
mutual
def Fc.op (p : Tx → B3) : Fc → B3
  | .com n => p n
  | .one ns => if 1 < ((ns.map p).filter (· = some true)).length then some false else if none ∈ ns.map p then none else some (decide (some true ∈ ns.map p))
  | .neg f => not3 (f.op p)
  | .all fs => allB (Fc.opL p fs)
  | .any fs => anyB (Fc.opL p fs)
  | .imp a b => anyB [not3 (a.op p), b.op p]
  | .tt => some true
  | .ff => some false
def Fc.opL (p : Tx → B3) : List Fc → List B3
  | [] => []
  | f :: fs => f.op p :: Fc.opL p fs
end
mutual
def Fc.mu : Fc → Nat
  | .com _ => 0
  | .one _ => 0
  | .neg f => f.mu + 1
  | .all fs => Fc.muL fs + 1
  | .any fs => Fc.muL fs + 2
  | .imp a b => max (a.mu + 1) b.mu + 3
  | .tt => 0
  | .ff => 0
def Fc.muL : List Fc → Nat
  | [] => 0
  | f :: fs => max f.mu (Fc.muL fs)
end
end Va
set_option Elab.async false
set_option linter.all false
set_option maxRecDepth 100000
set_option maxHeartbeats 4000000
namespace Va
open PySem PySem.Spec PyProof.Rows L2 Ind
def pa (as : List (Tx × Bool)) (x : Tx) : B3 := (as.find? fun p => decide (p.1 = x)).map (·.2)
theorem atE {t : En → Prop} {E E' : En} (h : E = E') (q : t E') : t E := h ▸ q
end Va
set_option Elab.async false
set_option linter.all false
set_option maxRecDepth 100000
set_option maxHeartbeats 4000000
namespace Va
open PySem PySem.Spec PyProof.Rows L2 Ind SrtB
abbrev SrtdN (l : List Tx) : Prop := l.Pairwise fun x y => ltS y x = false
theorem ltS_swo : SrtO.Swo ltS := swo_s id
theorem rising_pw : ∀ (l : List Tx) (p : Tx), risingS p l = true → SrtdN (p :: l)
  | [], p, _ => List.pairwise_singleton _ _
  | x :: r, p, h => by
    have h : (!ltCps x.cps.toList p.cps.toList && risingS x r) = true := h
    rw [Bool.and_eq_true] at h
    have h1 : ltS x p = false := by
      have := h.1
      rw [ltCps_eq] at this
      unfold ltS
      simpa using this
    have ih := rising_pw r x h.2
    refine List.pairwise_cons.mpr ⟨fun y hy => ?_, ih⟩
    rcases List.mem_cons.mp hy with rfl | hy
    · exact h1
    · exact ltS_swo.tr p x y h1 ((List.pairwise_cons.mp ih).1 y hy)
theorem sortedS_pw {l : List Tx} (h : sortedS l = true) : SrtdN l := by
  cases l with
  | nil => exact .nil
  | cons x r => exact rising_pw r x h
theorem ltS_tri {x y : Tx} (h1 : ltS x y = false) (h2 : ltS y x = false) : x = y := by
  have a := List.not_lt.mp (of_decide_eq_false h1)
  have b := List.not_lt.mp (of_decide_eq_false h2)
  have e := List.le_antisymm b a
  cases x; cases y
  have e2 := Array.toList_inj.mp e
  first | exact congrArg _ e2 | (cases e2; rfl) | (simp at e2; rw [e2])
theorem srtd_uniq {α : Type} {k : α → Tx} : ∀ {l m : List α}, SrtdN (l.map k) → SrtdN (m.map k) → l.Perm m → (∀ x ∈ l, ∀ y ∈ l, k x = k y → x = y) → l = m
  | [], m, _, _, p, _ => (List.Perm.eq_nil p.symm).symm
  | x :: l, [], _, _, p, _ => absurd p.length_eq (by simp)
  | x :: l, y :: m, hl, hm, p, inj => by
    have hl' : SrtdN (k x :: l.map k) := hl
    have hm' : SrtdN (k y :: m.map k) := hm
    have mx : x ∈ y :: m := p.mem_iff.mp List.mem_cons_self
    have my : y ∈ x :: l := p.mem_iff.mpr List.mem_cons_self
    have e : x = y := by
      rcases List.mem_cons.mp mx with e | hx
      · exact e
      · rcases List.mem_cons.mp my with e | hy
        · exact e.symm
        · have h1 := (List.pairwise_cons.mp hm').1 (k x) (List.mem_map_of_mem hx)
          have h2 := (List.pairwise_cons.mp hl').1 (k y) (List.mem_map_of_mem hy)
          exact inj x List.mem_cons_self y my (ltS_tri h1 h2)
    subst e
    rw [srtd_uniq (List.pairwise_cons.mp hl').2 (List.pairwise_cons.mp hm').2 p.cons_inv fun a ha b hb => inj a (List.mem_cons_of_mem _ ha) b (List.mem_cons_of_mem _ hb)]
abbrev Row := List Tx
def cnt (n : Tx) (ws : List Row) : Nat := (ws.filter fun w => decide (n ∈ w)).length
def sure (ws : List Row) (n : Tx) : Bool := decide (cnt n ws = 0) || decide (cnt n ws = ws.length)
def decs (ms : List Tx) (ws : List Row) : List (Tx × Bool) := (ms.filter fun n => sure ws n).map fun n => (n, decide (0 < cnt n ws))
def opens (ms : List Tx) (ws : List Row) : List Tx := ms.filter fun n => !sure ws n
def seenR (ns : List Tx) (w : Row) : Row := ns.filter fun n => decide (n ∈ w)
def rowsOf (ms : List Tx) (ws : List Row) : List Row := (allR (opens ms ws)).filter fun r => decide (r ∈ ws.map (seenR (opens ms ws)))
def knownD (ms : List Tx) (ws : List Row) : D := .tup [.tup (sbD (decs ms ws)), .tup ((opens ms ws).map .str), .tup ((rowsOf ms ws).map strD)]
theorem cnt_le (n : Tx) (ws : List Row) : cnt n ws ≤ ws.length := List.length_filter_le _ _
theorem cnt_zero {n : Tx} {ws : List Row} : cnt n ws = 0 ↔ ∀ w ∈ ws, n ∉ w := by
  unfold cnt
  rw [List.length_eq_zero_iff, List.filter_eq_nil_iff]
  simp
theorem cnt_all {n : Tx} {ws : List Row} : cnt n ws = ws.length ↔ ∀ w ∈ ws, n ∈ w := by
  unfold cnt
  rw [List.length_filter_eq_length_iff]
  simp
theorem sure_iff {n : Tx} {ws : List Row} : sure ws n = true ↔ (∀ w ∈ ws, n ∉ w) ∨ ∀ w ∈ ws, n ∈ w := by
  unfold sure
  rw [Bool.or_eq_true, decide_eq_true_eq, decide_eq_true_eq, cnt_zero, cnt_all]
theorem opens_sub (ms : List Tx) (ws : List Row) : (opens ms ws).Sublist ms := List.filter_sublist
theorem rows_sub {ms : List Tx} {ws : List Row} {r : Row} (h : r ∈ rowsOf ms ws) : r.Sublist (opens ms ws) := allR_sub (List.mem_filter.mp h).1
theorem pos_cnt {n : Tx} {ws : List Row} (w : Row) (hw : w ∈ ws) (hs : sure ws n = true) : decide (0 < cnt n ws) = decide (n ∈ w) := by
  refine decide_eq_decide.mpr ⟨fun h => ?_, fun h => ?_⟩
  · rcases sure_iff.mp hs with z | z
    · rw [cnt_zero.mpr z] at h
      exact absurd h (Nat.lt_irrefl _)
    · exact z w hw
  · refine Nat.pos_of_ne_zero fun z => ?_
    exact cnt_zero.mp z w hw h
section kept
variable {ms : List Tx} {ws os : List Row}
theorem mem_seenR {K : List Tx} {w : Row} {n : Tx} : n ∈ seenR K w ↔ n ∈ K ∧ n ∈ w := by
  unfold seenR
  rw [List.mem_filter, decide_eq_true_eq]
end kept
theorem pd_strD (r : Row) : (strD r).pd = .tuple (r.map PyData.str) := by
  show PyData.tuple (pdL (r.map D.str)) = _
  rw [pdL_map, List.map_map]; rfl
theorem eqvAll_strs (a : Row) : ∀ b : Row, PyData.eqvAll (a.map PyData.str) (b.map PyData.str) = decide (a = b) := by
  induction a with
  | nil =>
    intro b
    cases b with
    | nil => rw [List.map_nil, PyData.eqvAll, decide_eq_true rfl]
    | cons y b => rw [List.map_nil, List.map_cons, PyData.eqvAll, decide_eq_false (fun z => nomatch z)]
  | cons x a ih =>
    intro b
    cases b with
    | nil => rw [List.map_nil, List.map_cons, PyData.eqvAll, decide_eq_false (fun z => nomatch z)]
    | cons y b =>
      rw [List.map_cons, List.map_cons, PyData.eqvAll, PyData.eqv, ih b, Bool.eq_iff_iff, Bool.and_eq_true, beq_iff_eq, decide_eq_true_eq, decide_eq_true_eq]
      exact ⟨fun h => by rw [h.1, h.2], fun h => ⟨(List.cons.inj h).1, (List.cons.inj h).2⟩⟩
theorem eqv_rows (a b : Row) : PyData.eqv (strD a).pd (strD b).pd = decide (a = b) := by
  rw [pd_strD, pd_strD]
  rw [PyData.eqv]
  exact eqvAll_strs a b
theorem in_rows (r : Row) (rs : List Row) : ((rs.map strD).any fun y => PyData.eqv y.pd (strD r).pd) = decide (r ∈ rs) := by
  induction rs with
  | nil => rfl
  | cons x rs ih =>
    rw [List.map_cons, List.any_cons, ih, eqv_rows, Bool.eq_iff_iff, Bool.or_eq_true, decide_eq_true_eq, decide_eq_true_eq, decide_eq_true_eq, List.mem_cons]
    exact ⟨fun h => h.elim (fun e => .inl e.symm) .inr, fun h => h.elim (fun e => .inl e.symm) .inr⟩
theorem shaped_rows {rs : List Row} (h : ∀ r ∈ rs, ∀ x ∈ r, tOk x) : SeqAt.shaped (.list (pdL (rs.map strD))) = true := by
  have e : pdL (rs.map strD) = rs.map fun r => PyData.tuple (r.map PyData.str) := by
    rw [pdL_map, List.map_map]
    exact List.map_congr_left fun r _ => pd_strD r
  rw [e]
  have l : ∀ ys : List Tx, (∀ y ∈ ys, tOk y) → PyData.canLayAll0 (ys.map PyData.str) = true := fun ys hy => by
    induction ys with
    | nil => simp [PyData.canLayAll0]
    | cons y ys ih => simp [PyData.canLayAll0, PyData.canLay0, ih fun z hz => hy z (List.mem_cons_of_mem _ hz), (hy y (List.mem_cons_self ..)).ok]
  have d : ∀ ys : List Tx, PyData.depthAll (ys.map PyData.str) ≤ 1 := fun ys => by
    induction ys with
    | nil => simp [PyData.depthAll]
    | cons y ys ih => simp [PyData.depthAll, PyData.depth] at *; omega
  have l2 : ∀ rs : List Row, (∀ r ∈ rs, ∀ x ∈ r, tOk x) → PyData.canLayAll0 (rs.map fun r => PyData.tuple (r.map PyData.str)) = true := fun rs hr => by
    induction rs with
    | nil => simp [PyData.canLayAll0]
    | cons y ys ih => simp [PyData.canLayAll0, PyData.canLay0, ih fun z hz => hr z (List.mem_cons_of_mem _ hz), l y (hr y (List.mem_cons_self ..))]
  have d2 : ∀ rs : List Row, PyData.depthAll (rs.map fun r => PyData.tuple (r.map PyData.str)) ≤ 2 := fun rs => by
    induction rs with
    | nil => simp [PyData.depthAll]
    | cons y ys ih => have := d y; simp [PyData.depthAll, PyData.depth] at *; omega
  have := d2 rs
  simp [SeqAt.shaped, PyData.canLay0, PyData.depth, l2 rs h]
  omega
theorem shaped_row {r : Row} (h : ∀ x ∈ r, tOk x) : SeqAt.shaped (strD r).pd = true := shaped_names h
theorem filt_T {α : Type} {l : List α} {i : Nat} {x : α} {p : α → Bool} (e : l[i]? = some x) (h : p x = true) : (l.take (i + 1)).filter p = (l.take i).filter p ++ [x] := by
  rw [take_more e, List.filter_append, List.filter_cons_of_pos h, List.filter_nil]
theorem filt_F {α : Type} {l : List α} {i : Nat} {x : α} {p : α → Bool} (e : l[i]? = some x) (h : p x = false) : (l.take (i + 1)).filter p = (l.take i).filter p := by
  rw [take_more e, List.filter_append, List.filter_cons_of_neg (by rw [h]; exact Bool.false_ne_true), List.filter_nil, List.append_nil]
end Va
set_option Elab.async false
set_option linter.all false
set_option maxRecDepth 100000
set_option maxHeartbeats 4000000
namespace RowK
open PySem PySem.Spec PyProof.Rows SrtO SrtB PySem.W
abbrev Cell := Int ⊕ Str
def isS : Cell → Bool
  | .inl _ => false
  | .inr _ => true
def ltC : Cell → Cell → Bool
  | .inl i, .inl j => decide (i < j)
  | .inl _, .inr _ => true
  | .inr _, .inl _ => false
  | .inr x, .inr y => ltS x y
def ltR : List Cell → List Cell → Bool
  | [], [] => false
  | [], _ :: _ => true
  | _ :: _, [] => false
  | x :: r, y :: q => if x = y then ltR r q else ltC x y
theorem ltS_irr (x : Str) : ltS x x = false := decide_eq_false (List.lt_irrefl _)
theorem ltS_trans {x y z : Str} (h1 : ltS x y = true) (h2 : ltS y z = true) : ltS x z = true :=
  decide_eq_true (List.lt_trans (of_decide_eq_true h1) (of_decide_eq_true h2))
theorem ltC_irr : ∀ x : Cell, ltC x x = false
  | .inl i => decide_eq_false (Int.lt_irrefl i)
  | .inr x => ltS_irr x
theorem ltC_tri : ∀ {x y : Cell}, ltC x y = false → ltC y x = false → x = y
  | .inl i, .inl j, h1, h2 => by
    have a := of_decide_eq_false h1
    have b := of_decide_eq_false h2
    congr 1
    omega
  | .inl _, .inr _, h1, _ => nomatch h1
  | .inr _, .inl _, _, h2 => nomatch h2
  | .inr x, .inr y, h1, h2 => by rw [Va.ltS_tri h1 h2]
theorem ltC_trans : ∀ {x y z : Cell}, ltC x y = true → ltC y z = true → ltC x z = true
  | .inl i, .inl j, .inl k, h1, h2 => by
    have a := of_decide_eq_true h1
    have b := of_decide_eq_true h2
    exact decide_eq_true (by omega)
  | .inl _, .inl _, .inr _, _, _ => rfl
  | .inl _, .inr _, .inr _, _, _ => rfl
  | .inl _, .inr _, .inl _, _, h => nomatch h
  | .inr _, .inl _, _, h, _ => nomatch h
  | .inr _, .inr _, .inl _, _, h => nomatch h
  | .inr _, .inr _, .inr _, h1, h2 => ltS_trans h1 h2
theorem ltR_irr : ∀ r : List Cell, ltR r r = false
  | [] => rfl
  | x :: r => by
    show (if x = x then ltR r r else ltC x x) = false
    rw [if_pos rfl]
    exact ltR_irr r
theorem ltR_tri : ∀ {r q : List Cell}, ltR r q = false → ltR q r = false → r = q
  | [], [], _, _ => rfl
  | [], _ :: _, h, _ => nomatch h
  | _ :: _, [], _, h => nomatch h
  | x :: r, y :: q, h1, h2 => by
    have h1 : (if x = y then ltR r q else ltC x y) = false := h1
    have h2 : (if y = x then ltR q r else ltC y x) = false := h2
    by_cases e : x = y
    · subst e
      rw [if_pos rfl] at h1 h2
      rw [ltR_tri h1 h2]
    · rw [if_neg e] at h1
      rw [if_neg fun z => e z.symm] at h2
      exact absurd (ltC_tri h1 h2) e
theorem ltR_trans : ∀ {r q p : List Cell}, ltR r q = true → ltR q p = true → ltR r p = true
  | [], [], _, h, _ => nomatch h
  | [], _ :: _, [], _, h => nomatch h
  | [], _ :: _, _ :: _, _, _ => rfl
  | _ :: _, [], _, h, _ => nomatch h
  | _ :: _, _ :: _, [], _, h => nomatch h
  | x :: r, y :: q, z :: p, h1, h2 => by
    have h1 : (if x = y then ltR r q else ltC x y) = true := h1
    have h2 : (if y = z then ltR q p else ltC y z) = true := h2
    show (if x = z then ltR r p else ltC x z) = true
    by_cases e : x = y
    · subst e
      rw [if_pos rfl] at h1
      by_cases f : x = z
      · subst f
        rw [if_pos rfl] at h2 ⊢
        exact ltR_trans h1 h2
      · rw [if_neg f] at h2 ⊢
        exact h2
    · rw [if_neg e] at h1
      by_cases f : y = z
      · subst f
        rw [if_neg e]
        exact h1
      · rw [if_neg f] at h2
        have h3 := ltC_trans h1 h2
        by_cases g : x = z
        · subst g
          rw [ltC_irr] at h3
          cases h3
        · rw [if_neg g]
          exact h3
def CellVal (u : Value) : Cell → Prop
  | .inl i => ∃ t, u = .int i t
  | .inr x => ∃ t, u = .str x t
def IsCK (h : Heap) (v : Value) (c : Cell) : Prop := ∃ (a : Addr) (u : Value), v = .ref a ∧ IsTup h a #[.bool (isS c), u] ∧ CellVal u c
def IsRK (h : Heap) (v : Value) (r : List Cell) : Prop := ∃ (a : Addr) (its : List Value), v = .ref a ∧ IsTup h a its.toArray ∧ Paired (IsCK h) its r
theorem tup_keeps {h h' : Heap} {a : Addr} {its : Array Value} (x : IsTup h a its) (k : ∀ b o, h.get? b = some o → o.cls = .type "tuple" → h'.get? b = some o) : IsTup h' a its := by
  obtain ⟨o, ho, hc, r⟩ := x
  exact ⟨o, k _ _ ho hc, hc, r⟩
theorem IsCK.keeps {h h' : Heap} {v : Value} {c : Cell} (x : IsCK h v c) (k : ∀ b o, h.get? b = some o → o.cls = .type "tuple" → h'.get? b = some o) : IsCK h' v c := by
  obtain ⟨a, u, e, t, r⟩ := x
  exact ⟨a, u, e, tup_keeps t k, r⟩
theorem IsRK.keeps {h h' : Heap} {v : Value} {r : List Cell} (x : IsRK h v r) (k : ∀ b o, h.get? b = some o → o.cls = .type "tuple" → h'.get? b = some o) : IsRK h' v r := by
  obtain ⟨a, its, e, t, p⟩ := x
  exact ⟨a, its, e, tup_keeps t k, L2.Paired.mapP p fun _ _ q => IsCK.keeps q k⟩
section
variable {prog : Program} {w : World} {A : Around} {E : Value → Shared → Prop} {s : Shared}
open PySem.SeqAt
section
open PySem.AutoSeq1 (wpAny_loadPart')
open PySem.MeetsSeq PySem.MeetsSeq2 PySem.MeetsSeq3
end
end
end RowK
set_option Elab.async false
set_option linter.all false
set_option maxRecDepth 100000
set_option maxHeartbeats 4000000
namespace RowK
open PySem PySem.Spec PyProof.Rows
theorem CellVal.inj {u : Value} : ∀ {c d : Cell}, CellVal u c → CellVal u d → c = d
  | .inl i, .inl j, ⟨t, h⟩, ⟨t', h'⟩ => by rw [(Value.int.inj (h.symm.trans h')).1]
  | .inl i, .inr y, ⟨t, h⟩, ⟨t', h'⟩ => nomatch h.symm.trans h'
  | .inr x, .inl j, ⟨t, h⟩, ⟨t', h'⟩ => nomatch h.symm.trans h'
  | .inr x, .inr y, ⟨t, h⟩, ⟨t', h'⟩ => by rw [(Value.str.inj (h.symm.trans h')).1]
theorem tup_inj {h : Heap} {a : Addr} {i j : List Value} (x : IsTup h a i.toArray) (y : IsTup h a j.toArray) : i = j := by
  obtain ⟨o, ho, hc, n, hd⟩ := x
  obtain ⟨o', ho', hc', n', hd'⟩ := y
  have eo : o = o' := Option.some.inj (ho.symm.trans ho')
  subst eo
  have e := congrArg Array.toList (Data.seq.inj (hd.symm.trans hd')).1
  simpa using e
theorem IsCK.inj {h : Heap} {v : Value} {c d : Cell} (x : IsCK h v c) (y : IsCK h v d) : c = d := by
  obtain ⟨a, u, rfl, t, hc⟩ := x
  obtain ⟨b, u', e, t', hd⟩ := y
  cases e
  have q : [Value.bool (isS c), u] = [Value.bool (isS d), u'] := tup_inj (h := h) (a := a) t t'
  have e2 := (List.cons.inj (List.cons.inj q).2).1
  subst e2
  exact hc.inj hd
theorem cks_inj {h : Heap} : ∀ {us : List Value} {r q : List Cell}, Paired (IsCK h) us r → Paired (IsCK h) us q → r = q
  | _, _, _, .nil, .nil => rfl
  | _, _, _, .cons a p, .cons b q => by rw [a.inj b, cks_inj p q]
theorem IsRK.inj {h : Heap} {v : Value} {r q : List Cell} (x : IsRK h v r) (y : IsRK h v q) : r = q := by
  obtain ⟨a, its, rfl, t, p⟩ := x
  obtain ⟨b, its', e, t', p'⟩ := y
  cases e
  have e2 := tup_inj t t'
  subst e2
  exact cks_inj p p'
end RowK
namespace L2
open PySem PySem.Spec PyProof.Rows SrtO RowK PySem.W
section
variable {X : Cx} {pins : List (Addr × Obj)} {σ : St} {H : Hp} {s : Shared}
theorem run_in2 {k : Nat} {f : Addr} {fd : FuncData} {ps : List Str} {sp : Sp} {Q : VK} {E0 : XK} {us : List Value} {vs : List V} (F : FnOk X.prog X.w X.K X.mg X.base CX0 k f fd ps sp) (hr : Room (k + 2) X.A) (hb : Binds X.K fd ps [])
    (I : Inv X pins σ H s) (r : Vals vs us) (h : sp vs H Q E0) : wpAny (model X.prog X.w) X.A.in1.in1 (call (.ref f) us) (EP X pins σ Q) (fun _ _ => False) s := by
  have hl : (us ++ []).length = ps.length := by rw [List.append_nil, ← r.length]; exact F.len _ _ _ _ h
  have hbt := hb s us I.kIn hl
  rw [List.append_nil] at hbt
  refine wpAny_call (codeAny_mono (F.run X.A.in1.in1 X.stack s H ⟨us, []⟩ us vs Q E0 hr.in1.in1 I.env0.in1.in1 hbt r h) fun z s' hq => ?_)
  cases z with
  | error e => exact False.elim hq
  | ok fl =>
    cases fl with
    | ret u => exact I.after hq
    | next => exact False.elim hq
    | brk => exact False.elim hq
    | cont => exact False.elim hq
theorem Paired.vals {ys : List V} {us : List Value} (h : Paired RelV ys us) : Vals ys us := by
  induction h with
  | nil => exact .nil
  | cons a _ ih => exact .cons a ih
theorem Vals.paired : ∀ {ys : List V} {us : List Value}, Vals ys us → Paired RelV ys us
  | _, _, .nil => .nil
  | _, _, .cons a p => .cons a (Vals.paired p)
section
variable {a kS : Addr} {e1 e2 : Nat} {ks its : List Value} {rows : List (List Cell)} {xs : List V} {Q : VK} {E1 : Value → Shared → Prop}
theorem key_tail (I : Inv X pins σ H s) (fa : FpOk X pins H a) (fk : FpOk X pins H kS) (na : s.heap.get? a = some (seqObj "list" #[] e1)) (nk : s.heap.get? kS = some (seqObj "list" ks.toArray e2)) (hne : kS ≠ a)
    (hlen : ks.length = its.length) (hz : its.length ≤ sizeLine) {ys : List V} {st : SortSt} (hf : failedOf st = none) (hy : Vals ys ((arrOf st).toList.map (·.2))) (hyl : ys.length ≤ sizeLine) (q : Q (.ref a) (upd H a (.lst ys))) :
    wpAny (model X.prog X.w) X.A.in1.in1 (ksk_tail a false e1 (.ref kS) st) (fun f s' => f = .done (.ret .none) ∧ EP X pins σ Q (.ref a) s') E1 s := by
  have b1 := Heap.SameBut.update s.heap kS (Obj.mapSeq fun _ => (#[] : Array Value))
  have n1 : (s.heap.update kS (Obj.mapSeq fun _ => (#[] : Array Value))).get? a = some (seqObj "list" #[] e1) := (b1.2 a hne.symm).trans na
  have b2 := Heap.SameBut.update (s.heap.update kS (Obj.mapSeq fun _ => (#[] : Array Value))) a (Obj.mapSeq fun _ => (arrOf st).map (·.2))
  obtain ⟨c, hc⟩ : ∃ c, ((s.heap.update kS (Obj.mapSeq fun _ => (#[] : Array Value))).update a (Obj.mapSeq fun _ => (arrOf st).map (·.2))).get? a = some (seqObj "list" ((arrOf st).map (·.2)) c) := ⟨_, get?_update_seq n1 fun _ => (arrOf st).map (·.2)⟩
  have sz : ((arrOf st).map (·.2)).size ≤ sizeLine := by
    rw [← Array.length_toList, Array.toList_map, ← hy.length]
    exact hyl
  unfold ksk_tail
  try dsimp only
  refine wpAny_bind (listUpdate_at nk rfl ?_ (by rw [List.size_toArray]; omega) (Nat.zero_le _))
  refine wpAny_bind (wpAny_letGo (wpAny_bind (seqEpoch_at n1 rfl ?_)))
  refine wpAny_bind (listUpdate_at n1 rfl ?_ (Nat.zero_le _) (Nat.le_succ_of_le sz))
  rw [hf]
  simp only [bne_self_eq_false, Bool.false_eq_true, if_false]
  refine wpAny_pure ⟨rfl, .ref a, upd H a (.lst ys), ?_, rfl, q⟩
  have I1 := I.turnedL (t' := s.toks) (ch := [kS]) (h' := s.heap.update kS (Obj.mapSeq fun _ => (#[] : Array Value))) (fun b o hb e => (b1.2 b fun z => hb (by simp [z])).trans e) fun b hb => by
    rw [List.mem_singleton.mp hb]
    exact fk
  have I2 := Inv.take (t' := s.toks) (o := .lst ys) I1 (h' := (s.heap.update kS (Obj.mapSeq fun _ => (#[] : Array Value))).update a (Obj.mapSeq fun _ => (arrOf st).map (·.2))) (fun b o hb e => (b2.2 b hb).trans e) fa
    ⟨hyl, _, c, hy, by rw [hc, ← Array.toList_map, Array.toArray_toList]⟩
  exact I2
theorem paired_at {α β : Type} {R : α → β → Prop} {l : List α} {m : List β} (h : Paired R l m) : ∀ {j : Nat} {y : β}, m[j]? = some y → ∃ x, l[j]? = some x ∧ R x y := by
  induction h with
  | nil => intro j y e; simp at e
  | cons a _ ih =>
    intro j y e
    cases j with
    | zero =>
      simp at e
      subst e
      exact ⟨_, rfl, a⟩
    | succ j =>
      obtain ⟨x, h1, h2⟩ := ih (j := j) (y := y) (by simpa using e)
      exact ⟨x, by simpa using h1, h2⟩
theorem FpOk.now {H1 : Hp} {b : Addr} (f : FpOk X pins H b) (h : H1 b = none) : FpOk X pins H1 b := ⟨h, f.2.1, f.2.2.1, f.2.2.2.1, f.2.2.2.2.1, f.2.2.2.2.2⟩
theorem Inv.pin2 {b c : Addr} {ob oc : Obj} (I : Inv X pins σ H s) (fb : FpOk X pins H b) (fc : FpOk X pins H c) (eb : s.heap.get? b = some ob) (ec : s.heap.get? c = some oc) (db : ∀ v, ob.data ≠ .cell v) (dc : ∀ v, oc.data ≠ .cell v) :
    Inv X (pins ++ [(b, ob), (c, oc)]) σ H s := I.pins_of fun p hp => by
  rcases List.mem_append.mp hp with z | z
  · exact I.pin p (List.mem_append_right _ z)
  · rcases List.mem_cons.mp z with rfl | z
    · exact ⟨eb, fb.1, fb.2.1, fb.2.2.1, db⟩
    · rw [List.mem_singleton.mp z]
      exact ⟨ec, fc.1, fc.2.1, fc.2.2.1, dc⟩
end
end
end L2
set_option Elab.async false
set_option linter.all false
set_option maxRecDepth 100000
set_option maxHeartbeats 4000000
namespace L2
open PySem PySem.Spec PyProof.Rows SrtO RowK PySem.W
section
variable {X : Cx}
end
end L2
set_option Elab.async false
set_option linter.all false
set_option maxRecDepth 100000
set_option maxHeartbeats 4000000
namespace Va
open PySem PySem.Spec PyProof.Rows L2 Ind
section
variable {X : Cx} {S : Sg} {e : Expr}
end
end Va
set_option Elab.async false
set_option linter.all false
set_option maxRecDepth 100000
set_option maxHeartbeats 4000000
namespace Va
open PySem PySem.Spec PyProof.Rows L2 Ind RowK
def cellD : Cell → D
  | .inl i => .int i
  | .inr x => .str x
section
variable {K : PySem.W.Frag} {tp : Option Tp} {H : Hp}
end
section
variable {X : Cx} {S : Sg}
end
end Va
set_option Elab.async false
set_option linter.all false
set_option maxRecDepth 100000
set_option maxHeartbeats 4000000
namespace Va
open PySem PySem.Spec PyProof.Rows L2 Ind PySem.Froz
structure TSet (P : Program) (w : World) (D : SD) (l : List PySem.Str) : Prop where
  ok : TxOk P w D l
  nd : l.Nodup
  ris : Ris D.2.2.place.toList
  led : w.params.followText "set-order" = true ∨ D.2.2.led = true
  dum : D.2.2.dummies = #[]
theorem has_nil (j : Nat) : SetTable.has #[] j = false := by
  unfold SetTable.has
  simp
theorem put_dum {t : SetTable} (h : t.dummies = #[]) (j : Nat) : (t.put j).1.dummies = #[] := by
  show (if SetTable.has t.dummies j then SetTable.eraseAt t.dummies (SetTable.below t.dummies j) else t.dummies) = #[]
  rw [h, has_nil]
  rfl
theorem layNew_dum {t : SetTable} (h : t.dummies = #[]) (es : Array (Int × Value)) (k : Int) (x : Value) : (layNew t es k x).2.1.dummies = #[] := by
  unfold layNew
  cases hq : t.freeSlot k with
  | none => rfl
  | some q =>
    show ((t.put q.1).1.orStandIn _).dummies = #[]
    unfold SetTable.orStandIn
    split
    · exact put_dum h _
    · rfl
theorem laid_dum {mask finger moves : Nat} {led plain : Bool} {hs : Array Int} {q : SetTable × Array Nat} (e : SetTable.laid mask finger moves led plain hs = some q) : q.1.dummies = #[] := by
  unfold SetTable.laid at e
  cases hl : SetTable.layClean mask hs with
  | none => rw [hl] at e; first | (cases e; done) | (simp at e; done)
  | some ow =>
    rw [hl] at e
    have e1 := congrArg Prod.fst (Option.some.inj e)
    rw [← e1]
theorem relayAll_dum (t : SetTable) (es : Array (Int × Value)) (n : Nat) : (relayAll t es n).2.1.dummies = #[] := by
  unfold relayAll
  cases hq : t.relaid (es.map (·.1)) n with
  | none => rfl
  | some q =>
    dsimp only
    split
    · exact laid_dum hq
    · rfl
section
variable {P : Program} {w : World} {A : Around} {E : Value → Shared → Prop} {s : Shared} {D : SD} {l : List PySem.Str} {k : PySem.Str} {u : Tok}
theorem TSet.new (w : World) (ep fi mo : Nat) : TSet P w (#[], ep, .fresh fi mo (!w.params.followText "set-order")) [] := by
  refine ⟨TxOk.nil rfl, List.nodup_nil, List.Pairwise.nil, ?_, rfl⟩
  show _ ∨ (!w.params.followText "set-order") = true
  cases w.params.followText "set-order"
  · exact .inr rfl
  · exact .inl rfl
theorem off_ris {t : SetTable} (h : Ris t.place.toList) : Ris (if t.plain = true then { t with plain := false } else t).place.toList := by split <;> exact h
theorem off_led {t : SetTable} (h : t.led = true) : (if t.plain = true then { t with plain := false } else t).led = true := by split <;> exact h
theorem off_dum {t : SetTable} (h : t.dummies = #[]) : (if t.plain = true then { t with plain := false } else t).dummies = #[] := by split <;> exact h
theorem tail_ris {ep : Nat} {es : Array (Int × Value)} {t : SetTable} {b : Bool} (h : Ris t.place.toList) : Ris (tailTx ep es t b).2.2.place.toList := by
  unfold tailTx
  by_cases c : (!b && t.tooFull) = true
  · rw [if_pos c]; exact relayAll_ris _ _ _
  · rw [if_neg c]; exact h
theorem tail_led {ep : Nat} {es : Array (Int × Value)} {t : SetTable} {b : Bool} (h : t.led = true) : (tailTx ep es t b).2.2.led = true := by
  unfold tailTx
  by_cases c : (!b && t.tooFull) = true
  · rw [if_pos c]; exact (relayAll_led t es _).trans h
  · rw [if_neg c]; exact h
theorem tail_dum {ep : Nat} {es : Array (Int × Value)} {t : SetTable} {b : Bool} (h : t.dummies = #[]) : (tailTx ep es t b).2.2.dummies = #[] := by
  unfold tailTx
  by_cases c : (!b && t.tooFull) = true
  · rw [if_pos c]; exact relayAll_dum _ _ _
  · rw [if_neg c]; exact h
theorem TSet.add (u : Tok) (F : TSet P w D l) (hk : k ∉ l) : TSet P w (addTx (hashStr w k) (.str k u) D) (k :: l) := by
  obtain ⟨es, ep, t⟩ := D
  have r1 := layNew_ris t es (hashStr w k) (.str k u) F.ris
  have r2 := layNew_led t es (hashStr w k) (.str k u)
  have r3 := layNew_dum F.dum es (hashStr w k) (.str k u)
  refine ⟨add_ok u F.ok, List.nodup_cons.mpr ⟨hk, F.nd⟩, ?_, ?_, ?_⟩
  · exact tail_ris (off_ris r1)
  · exact F.led.imp id fun z => tail_led (off_led (r2.trans z))
  · exact tail_dum (off_dum r3)
end
end Va
set_option Elab.async false
set_option linter.all false
set_option maxRecDepth 100000
set_option maxHeartbeats 4000000
namespace Va
open PySem PySem.Spec PyProof.Rows L2 Ind PySem.Froz
section
variable {P : Program} {w : World} {A : Around} {E : Value → Shared → Prop} {s : Shared}
def Holds (P : Program) (w : World) (h : Heap) (S : Addr) (xs : List PySem.Str) : Prop := ∃ D l, h.get? S = some (sObj "set" D) ∧ TSet P w D l ∧ (∀ k, k ∈ l ↔ k ∈ xs) ∧ l.length ≤ xs.length
theorem Holds.at {h h' : Heap} {S : Addr} {xs : List PySem.Str} (q : Holds P w h S xs) (k : ∀ o, h.get? S = some o → h'.get? S = some o) : Holds P w h' S xs := by
  obtain ⟨D, l, e, r⟩ := q
  exact ⟨D, l, k _ e, r⟩
set_option maxHeartbeats 8000000 in
end
end Va
set_option Elab.async false
set_option linter.all false
set_option maxRecDepth 100000
set_option maxHeartbeats 4000000
namespace Va
open PySem PySem.Spec PyProof.Rows L2 Ind PySem.Froz
structure Own (m k : Nat) (ow : Array (Option Nat)) : Prop where
  sz : ow.size = m + 1
  pm : (ow.toList.filterMap id).Perm (List.range k)
theorem fill_perm {k : Nat} : ∀ {l : List (Option Nat)} {j : Nat}, l[j]? = some none → ((l.set j (some k)).filterMap id).Perm (k :: l.filterMap id)
  | [], j, h => by simp at h
  | x :: l, 0, h => by
    have e : x = none := by simpa using h
    subst e
    exact List.Perm.refl _
  | x :: l, j + 1, h => by
    have q := fill_perm (k := k) (l := l) (j := j) (by simpa using h)
    cases x with
    | none => exact q
    | some y => exact (q.cons y).trans (List.Perm.swap k y _)
theorem some_all : ∀ {l : List (Option Nat)}, (∀ x ∈ l, x ≠ none) → (l.filterMap id).length = l.length
  | [], _ => rfl
  | none :: l, h => absurd rfl (h none List.mem_cons_self)
  | some y :: l, h => congrArg (· + 1) (some_all fun x hx => h x (List.mem_cons_of_mem _ hx))
theorem Own.room {m k : Nat} {ow : Array (Option Nat)} (o : Own m k ow) (hk : k ≤ m) : ∃ j, j ≤ m ∧ ow.getD j (some 0) = none := by
  by_cases h : ∃ x ∈ ow.toList, x = none
  · obtain ⟨x, hx, rfl⟩ := h
    obtain ⟨j, hj⟩ := List.mem_iff_getElem?.mp hx
    have hl := (List.getElem?_eq_some_iff.mp hj).1
    refine ⟨j, by have := o.sz; rw [Array.length_toList] at hl; omega, ?_⟩
    rw [Array.getD_eq_getD_getElem?, ← Array.getElem?_toList, hj]
    rfl
  · have := some_all (l := ow.toList) fun x hx e => h ⟨x, hx, e⟩
    rw [o.pm.length_eq, List.length_range, Array.length_toList, o.sz] at this
    omega
theorem Own.put {m k j : Nat} {ow : Array (Option Nat)} (o : Own m k ow) (hj : ow.getD j (some 0) = none) : Own m (k + 1) (ow.setIfInBounds j (some k)) := by
  have hl : ow.toList[j]? = some none := by
    rw [Array.getD_eq_getD_getElem?] at hj
    rw [Array.getElem?_toList]
    cases h : ow[j]? with
    | none => rw [h] at hj; cases hj
    | some x => rw [h] at hj; cases hj; rfl
  refine ⟨by simp [o.sz], ?_⟩
  rw [Array.toList_setIfInBounds]
  refine (fill_perm hl).trans ((o.pm.cons k).trans ?_)
  rw [List.range_succ]
  exact (List.perm_append_singleton _ _).symm
end Va
set_option Elab.async false
set_option linter.all false
set_option maxRecDepth 100000
set_option maxHeartbeats 4000000
namespace Va
open PySem PySem.Spec PyProof.Rows L2 Ind PySem.Froz
def txV : Value → PySem.Str
  | .str x _ => x
  | _ => default
theorem perm_of_len {α : Type} : ∀ {l m : List α}, l.Nodup → (∀ x ∈ l, x ∈ m) → m.length ≤ l.length → m.Perm l
  | [], m, _, _, h => by
    have : m = [] := List.length_eq_zero_iff.mp (Nat.le_zero.mp h)
    rw [this]
  | x :: l, m, nd, sub, h => by
    obtain ⟨a, b, rfl⟩ := List.append_of_mem (sub x List.mem_cons_self)
    obtain ⟨n1, n2⟩ := List.nodup_cons.mp nd
    have q := perm_of_len (l := l) (m := a ++ b) n2 (fun y hy => by
      rcases List.mem_append.mp (sub y (List.mem_cons_of_mem _ hy)) with z | z
      · exact List.mem_append_left _ z
      · rcases List.mem_cons.mp z with rfl | z
        · exact absurd hy n1
        · exact List.mem_append_right _ z) (by simp at h ⊢; omega)
    exact List.perm_middle.trans (q.cons x)
section
variable {P : Program} {w : World} {A : Around} {E : Value → Shared → Prop} {s : Shared} {D : SD} {l : List PySem.Str}
theorem TSet.keys (F : TSet P w D l) : (D.1.toList.map fun e => txV e.2).Perm l := by
  refine perm_of_len F.nd (fun k hk => ?_) (by rw [List.length_map, Array.length_toList, show D.1.size = l.length from F.ok.sz]; exact Nat.le_refl _)
  obtain ⟨e, he, hek⟩ := (F.ok.mem k).mp hk
  obtain ⟨u, h3⟩ := Value.isStrOf_shape hek
  exact List.mem_map.mpr ⟨e, he, by rw [h3]; rfl⟩
end
end Va
set_option Elab.async false
set_option linter.all false
set_option maxRecDepth 100000
set_option maxHeartbeats 4000000
namespace Va
open PySem PySem.Spec PyProof.Rows L2 Ind PySem.Froz
section
variable {P : Program} {w : World} {A : Around} {E : Value → Shared → Prop} {s : Shared} {D : SD} {l : List PySem.Str}
end
end Va
set_option Elab.async false
set_option linter.all false
set_option maxRecDepth 100000
set_option maxHeartbeats 4000000
namespace Va
open PySem PySem.Spec PyProof.Rows L2 Ind PySem.Froz
structure TLoose (P : Program) (w : World) (D : SD) (l : List PySem.Str) : Prop where
  ok : TxOk P w D l
  nd : l.Nodup
  ris : Ris D.2.2.place.toList
  led : w.params.followText "set-order" = true ∨ D.2.2.led = true
section
variable {P : Program} {w : World} {A : Around} {E : Value → Shared → Prop} {s : Shared} {D : SD} {l : List PySem.Str}
theorem TSet.loose (F : TSet P w D l) : TLoose P w D l := ⟨F.ok, F.nd, F.ris, F.led⟩
theorem erase_list {α : Type} (es : Array α) (i : Nat) : (SetTable.eraseAt es i).toList = es.toList.eraseIdx i := by
  unfold SetTable.eraseAt
  rw [Array.toList_append, Array.toList_extract, Array.toList_extract, List.eraseIdx_eq_take_drop_succ, List.extract_eq_take_drop, List.extract_eq_take_drop]
  rw [Nat.sub_zero, List.drop_zero, List.take_of_length_le (l := List.drop (i + 1) es.toList) (by rw [List.length_drop, Array.length_toList]; exact Nat.le_refl _)]
theorem ris_erase {xs : Array Nat} (r : Ris xs.toList) (i : Nat) : Ris (SetTable.eraseAt xs i).toList := by
  rw [erase_list]
  exact List.Pairwise.sublist (List.eraseIdx_sublist _ _) r
theorem insert_size {α : Type} (xs : Array α) (p : Nat) (x : α) : (SetTable.insertAt xs p x).size = xs.size + 1 := by
  rw [← Array.length_toList, SetTable.toList_insertAt, List.length_append, List.length_cons, ← Array.length_toList, List.length_take, List.length_drop]
  omega
theorem erase_size {α : Type} {xs : Array α} {i : Nat} (h : i < xs.size) : (SetTable.eraseAt xs i).size + 1 = xs.size := by
  rw [← Array.length_toList, erase_list, List.length_eraseIdx_of_lt (by rw [Array.length_toList]; exact h), Array.length_toList]
  omega
def outS (k : PySem.Str) (l : List PySem.Str) : List PySem.Str := l.filter fun x => decide (x ≠ k)
theorem mem_outS {k x : PySem.Str} {l : List PySem.Str} : x ∈ outS k l ↔ x ∈ l ∧ x ≠ k := by
  unfold outS
  rw [List.mem_filter, decide_eq_true_eq]
theorem outS_len {k : PySem.Str} : ∀ {l : List PySem.Str}, l.Nodup → k ∈ l → (outS k l).length + 1 = l.length
  | [], _, h => by cases h
  | x :: l, nd, h => by
    obtain ⟨n1, n2⟩ := List.nodup_cons.mp nd
    unfold outS
    by_cases e : x = k
    · subst e
      rw [List.filter_cons_of_neg (by simp), List.filter_eq_self.mpr fun y hy => by
        rw [decide_eq_true_eq]
        rintro rfl
        exact n1 hy]
      rfl
    · rw [List.filter_cons_of_pos (by simpa using e)]
      have := outS_len n2 ((List.mem_cons.mp h).resolve_left fun z => e z.symm)
      unfold outS at this
      rw [List.length_cons, List.length_cons, this]
theorem TLoose.drop {k : PySem.Str} {u : Tok} {i : Nat} {es : Array (Int × Value)} {ep ep' : Nat} {t : SetTable} (F : TLoose P w (es, ep, t) l) (hi : es[i]? = some (hashStr w k, .str k u)) :
    TLoose P w (SetTable.eraseAt es i, ep', t.drop i) (outS k l) ∧ (t.drop i).mask = t.mask ∧ (t.drop i).dummies.size = t.dummies.size + 1 := by
  obtain ⟨hl, hx⟩ := Array.getElem?_eq_some_iff.mp hi
  have hfit : t.fits es.size = true := F.ok.fit
  have hfit2 : t.place.size = es.size ∧ t.fill ≤ t.mask := by simpa [SetTable.fits] using hfit
  have hp : i < t.place.size := by omega
  have ed : t.drop i = { t with place := SetTable.eraseAt t.place i, dummies := SetTable.insertAt t.dummies (SetTable.below t.dummies t.place[i]) t.place[i] } := by
    unfold SetTable.drop
    rw [Array.getElem?_eq_getElem hp]
  have hk : k ∈ l := (F.ok.mem k).mpr ⟨es[i], Array.getElem_mem_toList hl, by rw [hx]; exact is_str k u⟩
  have len := outS_len F.nd hk
  have sz : es.size = l.length := F.ok.sz
  have pm : (es[i] :: es.toList.eraseIdx i).Perm es.toList := erase_perm _ _ _ (by rw [Array.getElem?_toList]; exact Array.getElem?_eq_getElem hl)
  have el : ∀ e ∈ es.toList, _ := F.ok.el
  -- no other has the key
  have other : ∀ e ∈ es.toList.eraseIdx i, (strKind P w).is k e.2 = false := fun e he => by
    cases q : (strKind P w).is k e.2 with
    | false => rfl
    | true =>
      exfalso
      obtain ⟨u2, e2⟩ := Value.isStrOf_shape q
      have F2 : (es.toList.map fun e => txV e.2).Perm l := perm_of_len F.nd (fun k hk => by
        obtain ⟨e, he, hek⟩ := (F.ok.mem k).mp hk
        obtain ⟨u, h3⟩ := Value.isStrOf_shape hek
        exact List.mem_map.mpr ⟨e, he, by rw [h3]; rfl⟩) (by rw [List.length_map, Array.length_toList, sz]; exact Nat.le_refl _)
      have nd2 := (((pm.map fun e => txV e.2).trans F2).nodup_iff).mpr F.nd
      rw [List.map_cons, hx] at nd2
      exact (List.nodup_cons.mp nd2).1 (List.mem_map.mpr ⟨e, he, by rw [e2]; rfl⟩)
  refine ⟨⟨⟨fun e he => ?_, fun x => ?_, ?_, ?_⟩, F.nd.filter _, ?_, ?_⟩, ?_, ?_⟩
  · have he : e ∈ (SetTable.eraseAt es i).toList := he
    rw [erase_list] at he
    exact el e (pm.mem_iff.mp (List.mem_cons_of_mem _ he))
  · show _ ↔ ∃ e ∈ (SetTable.eraseAt es i).toList, _
    rw [mem_outS, F.ok.mem x, erase_list]
    constructor
    · rintro ⟨⟨e, he, hek⟩, ne⟩
      refine ⟨e, (List.mem_cons.mp (pm.mem_iff.mpr he)).resolve_left fun z => ne ?_, hek⟩
      rw [z, hx] at hek
      exact (strKind P w).inj (.str k u) x k hek (is_str k u)
    · rintro ⟨e, he, hek⟩
      refine ⟨⟨e, pm.mem_iff.mp (List.mem_cons_of_mem _ he), hek⟩, fun z => ?_⟩
      rw [z, other e he] at hek
      cases hek
  · show (SetTable.eraseAt es i).size = _
    have := erase_size hl
    omega
  · show (t.drop i).fits (SetTable.eraseAt es i).size = true
    have a1 := erase_size hl
    have a2 := erase_size hp
    have a3 : t.place.size + t.dummies.size ≤ t.mask := hfit2.2
    rw [ed]
    simp only [SetTable.fits, SetTable.fill, insert_size, Bool.and_eq_true, beq_iff_eq, decide_eq_true_eq]
    omega
  · show Ris (t.drop i).place.toList
    rw [ed]
    exact ris_erase F.ris i
  · show _ ∨ (t.drop i).led = true
    rw [ed]
    exact F.led
  · rw [ed]
  · rw [ed]
    exact insert_size _ _ _
end
end Va
set_option Elab.async false
set_option linter.all false
set_option maxRecDepth 100000
set_option maxHeartbeats 4000000
namespace Va
open PySem PySem.Spec PyProof.Rows L2 Ind PySem.Froz
section
variable {P : Program} {w : World} {A : Around} {E : Value → Shared → Prop} {s : Shared} {D : SD} {l : List PySem.Str}
structure Bare (w : World) (m : Nat) (D : SD) : Prop where
  es : D.1 = #[]
  pl : D.2.2.place = #[]
  du : D.2.2.dummies = #[]
  ma : D.2.2.mask = m
  le : D.2.2.led = !w.params.followText "set-order"
theorem Bare.fits {m : Nat} (b : Bare w m D) : D.2.2.fits D.1.size = true := by
  unfold SetTable.fits SetTable.fill
  rw [b.es, b.pl, b.du]
  simp
end
end Va
set_option Elab.async false
set_option linter.all false
set_option maxRecDepth 100000
set_option maxHeartbeats 4000000
namespace Va
open PySem PySem.Spec PyProof.Rows L2 Ind PySem.Froz
section
variable {P : Program} {w : World} {A : Around} {E : Value → Shared → Prop} {s : Shared} {D : SD} {l : List PySem.Str}
end
end Va
set_option Elab.async false
set_option linter.all false
set_option maxRecDepth 100000
set_option maxHeartbeats 4000000
namespace Va
open PySem PySem.Spec PyProof.Rows L2 Ind PySem.Froz
def HoldsL (P : Program) (w : World) (h : Heap) (S : Addr) (xs : List PySem.Str) : Prop := ∃ D l, h.get? S = some (sObj "set" D) ∧ TLoose P w D l ∧ (∀ k, k ∈ l ↔ k ∈ xs) ∧ l.length < 1000
theorem HoldsL.at {P : Program} {w : World} {h h' : Heap} {S : Addr} {xs : List PySem.Str} (q : HoldsL P w h S xs) (k : ∀ o, h.get? S = some o → h'.get? S = some o) : HoldsL P w h' S xs := by
  obtain ⟨D, l, e, r⟩ := q
  exact ⟨D, l, k _ e, r⟩
section
variable {X : Cx} {pins : List (Addr × Obj)} {σ : L2.St} {H : Hp} {s : Shared} {a : Addr} {xs : List PySem.Str}
end
section
variable {X : Cx} {elt tg iter : Expr} {scope : Scope} {own : List (PySem.Str × Nat)} {pos : Pos} {wi : TI} {g : TG} {te : TE}
abbrev cellsAt (X : Cx) (scope : Scope) (n : Nat) : List (PySem.Str × Addr) := cellsFrom (n + 1) scope.names (cloFrom X.env.cells scope.names [])
end
end Va
set_option Elab.async false
set_option linter.all false
set_option maxRecDepth 100000
set_option maxHeartbeats 4000000
namespace L2
open PySem PySem.Spec PyProof.Rows
def KeysIn (K : PySem.W.Frag) (H : Hp) (xs : List (List Key × Addr × Value)) : Prop := ∀ x ∈ xs, SqT K H x.2.1 (x.1.map kV)
section
variable {X : Cx} {pins : List (Addr × Obj)} {σ : St} {H : Hp} {s : Shared} {D b : Addr} {xs : List (List Key × Addr × Value)} {r : List Key}
end
end L2
set_option Elab.async false
set_option linter.all false
set_option maxRecDepth 100000
set_option maxHeartbeats 4000000
namespace Va
open PySem PySem.Spec PyProof.Rows L2 Ind
abbrev ob1 : Obj := { cls := .type "dict", data := .dict #[] }
section
variable {X : Cx} {kx vx tg iter : Expr} {scope : Scope} {own : List (PySem.Str × Nat)} {pos : Pos} {wi : TI} {g : TG} {tk tv : TE}
end
end Va
set_option Elab.async false
set_option linter.all false
set_option maxRecDepth 100000
set_option maxHeartbeats 4000000
namespace Va
open PySem PySem.Spec PyProof.Rows L2 Ind PySem.Froz
section
variable {X : Cx}
end
end Va
set_option Elab.async false
set_option linter.all false
set_option maxRecDepth 100000
set_option maxHeartbeats 4000000
namespace Va
open PySem PySem.Spec PyProof.Rows L2 Ind
section
variable {X : Cx} {S : Sg} {e elt tg iter : Expr} {scope : Scope} {own : List (PySem.Str × Nat)} {p0 p1 pos1 pos2 pos3 pos4 : Pos} {tv : VT} {vi : VI} {g : VG} {el : VT}
end
end Va
set_option Elab.async false
set_option linter.all false
set_option maxRecDepth 100000
set_option maxHeartbeats 4000000
namespace Va
open PySem PySem.Spec PyProof.Rows L2 Ind RowK
def onc {α : Type} [DecidableEq α] : List α → List α → List α
  | acc, [] => acc
  | acc, r :: l => if r ∈ acc then onc acc l else onc (acc ++ [r]) l
theorem onc_mem {α : Type} [DecidableEq α] {r : α} : ∀ {l acc : List α}, r ∈ onc acc l ↔ r ∈ acc ∨ r ∈ l
  | [], acc => by
    show r ∈ acc ↔ _
    simp
  | x :: l, acc => by
    show r ∈ (if x ∈ acc then onc acc l else onc (acc ++ [x]) l) ↔ _
    by_cases h : x ∈ acc
    · rw [if_pos h, onc_mem, List.mem_cons]
      exact ⟨fun z => z.imp id .inr, fun z => z.elim .inl fun z => z.elim (fun e => .inl (e ▸ h)) .inr⟩
    · rw [if_neg h, onc_mem, List.mem_append, List.mem_singleton, List.mem_cons, or_assoc]
section
variable {K : PySem.W.Frag} {tp : Option Tp} {H H' : Hp} {D b : Addr} {xs : List (List Key × Addr × Value)} {r : List Key} {v : Value}
theorem KeysIn.kq (k : Kq H H') (h : KeysIn K H xs) : KeysIn K H' xs := fun x hx => k.sqT (h x hx)
end
theorem onc_le {α : Type} [DecidableEq α] : ∀ (l acc : List α), (onc acc l).length ≤ acc.length + l.length
  | [], acc => Nat.le_refl _
  | x :: l, acc => by
    show (if x ∈ acc then onc acc l else onc (acc ++ [x]) l).length ≤ _
    split
    · have := onc_le l acc
      rw [List.length_cons]
      omega
    · have := onc_le l (acc ++ [x])
      rw [List.length_append] at this
      rw [List.length_cons]
      simp at this
      omega
section
variable {X : Cx} {S : Sg} {kx tg iter : Expr} {scope : Scope} {own : List (PySem.Str × Nat)} {p0 pos2 pos4 : Pos} {bv : Bool} {bj : Nat} {bp : Pos} {vi : VI} {g : VG} {kl : VT}
end
end Va
set_option Elab.async false
set_option linter.all false
set_option maxRecDepth 100000
set_option maxHeartbeats 4000000
namespace Va
open PySem PySem.Spec PyProof.Rows L2 Ind
section
variable {X : Cx} {S : Sg} {e : Expr} {pos : Pos}
end
end Va
set_option Elab.async false
set_option linter.all false
set_option maxRecDepth 100000
set_option maxHeartbeats 4000000
namespace Va
open PySem PySem.Spec PyProof.Rows L2 Ind
section
variable {X : Cx} {S : Sg}
end
end Va
set_option Elab.async false
set_option linter.all false
set_option maxRecDepth 100000
set_option maxHeartbeats 4000000
namespace Va
open PySem PySem.Spec PyProof.Rows L2 Ind
section
variable {X : Cx} {S : Sg} {o a : Expr} {t : VT} {ta : VTA} {apos cpos : Pos}
end
end Va
set_option Elab.async false
set_option linter.all false
set_option maxRecDepth 100000
set_option maxHeartbeats 4000000
namespace Va
open PySem PySem.Spec PyProof.Rows L2 Ind
section
variable {X : Cx} {S : Sg} {a b : Expr} {ta : VT} {pos : Pos}
end
end Va
set_option Elab.async false
set_option linter.all false
set_option maxRecDepth 100000
set_option maxHeartbeats 4000000
namespace Va
open PySem PySem.Spec PyProof.Rows L2 Ind GenW
section
variable {X : Cx} {S : Sg} {g : VG} {c : VTT} {el : VT} {vs : List Nat} {i : Nat}
variable {elt tg iter : Expr} {ifs : List Expr} {scope : Scope} {own : List (PySem.Str × Nat)} {pos : Pos}
end
end Va
set_option Elab.async false
set_option linter.all false
set_option maxRecDepth 100000
set_option maxHeartbeats 4000000
namespace Va
open PySem PySem.Spec PyProof.Rows L2 Ind
def Shows (d : D) : Prop := SeqAt.shaped d.pd = true ∧ d.pd.showable = true ∧ d.pd.hasDict = false ∧ d.pd.depth ≤ 60 ∧ d.pd.shown.length ≤ 1000000
structure Smal (d : PyData) (k m : Nat) : Prop where
  lay : d.canLay0 = true
  sho : d.showable = true
  nod : d.hasDict = false
  dep : d.depth ≤ k
  leaf : d.leavesShort 80 = true
  bulk : d.bulk ≤ m
theorem Smal.mono {d : PyData} {k m k' m' : Nat} (s : Smal d k m) (hk : k ≤ k') (hm : m ≤ m') : Smal d k' m' := ⟨s.lay, s.sho, s.nod, Nat.le_trans s.dep hk, s.leaf, Nat.le_trans s.bulk hm⟩
theorem Smal.shows {d : D} {k m : Nat} (s : Smal d.pd k m) (hk : k ≤ 10) (hm : m ≤ 12000) : Shows d := by
  have h1 := PyData.shown_le_bulk 80 (by decide) d.pd s.leaf
  have h2 := s.bulk
  have h3 := s.dep
  refine ⟨?_, s.sho, s.nod, by omega, by omega⟩
  simp [SeqAt.shaped, s.lay]
  omega
end Va
set_option Elab.async false
set_option linter.all false
set_option maxRecDepth 100000
set_option maxHeartbeats 4000000
namespace L2
open PySem PySem.Spec PyProof.Rows
section
variable {X : Cx} {pins : List (Addr × Obj)} {σ : St} {H : Hp} {s : Shared} {a b : Addr} {xs : List (List Key × Addr × Value)} {r : List Key}
end
section
variable {X : Cx} {o e f : Expr} {td ty tz : TE} {apos cpos : Pos}
end
def ValsIn (xs : List (List Key × Addr × Value)) : Prop := ∀ x ∈ xs, ∃ v : V, RelV v x.2.2
section
variable {P : Program} {w : World} {K : PySem.W.Frag} {d : Addr} {o : Obj} {es : Array DictEntry} {ep : Nat} {xs : List (List Key × Addr × Value)}
end
section
variable {X : Cx} {tg e : Expr} {td : TE} {apos cpos : Pos}
end
end L2
set_option Elab.async false
set_option linter.all false
set_option maxRecDepth 100000
set_option maxHeartbeats 4000000
namespace L2
open PySem PySem.Spec PyProof.Rows
def SqK (k : Bool) (K : PySem.W.Frag) (H : Hp) (a : Addr) (xs : List V) : Prop := match k with
  | true => SqT K H a xs
  | false => SqL K H a xs
def itK (k : Bool) (it l : Addr) (i : Nat) (h : Heap) : Prop := match k with
  | true => h.IsTupleIter it l i
  | false => h.IsListIter it l i
def isK (k : Bool) (h : Heap) (l : Addr) (items : Array Value) : Prop := match k with
  | true => h.IsTuple l items
  | false => h.IsList l items
def itO (k : Bool) (l : Addr) : Obj := match k with
  | true => { cls := .type "tuple_iterator", data := .fields #[.ref l, .int 0 0] }
  | false => { cls := .type "list_iterator", data := .fields #[.ref l, .int 0 0] }
theorem beginsK (k : Bool) (l : Addr) (items : Array Value) : Begins (.ref l) (itO k l) (fun h => isK k h l items) := match k with
  | true => begins_tuple l items
  | false => begins_list l items
theorem drawsK {prog : Program} {w : World} {A : Around} (k : Bool) (hh : A.handled = none) (it l : Addr) (hne : l ≠ it) (items : Array Value) :
    Draws prog w A it [it, l] items.size (fun i v => items[i]? = some v) (fun i h => itK k it l i h ∧ isK k h l items) := match k with
  | true => Draws.tuple hh it l hne items
  | false => Draws.list hh it l hne items
theorem itK_keep {k : Bool} {it l : Addr} {i : Nat} {h h' : Heap} (x : itK k it l i h) (e : ∀ o, h.get? it = some o → h'.get? it = some o) : itK k it l i h' := match k, x with
  | true, x => Heap.IsTupleIter.at x e
  | false, x => Heap.IsListIter.at x e
theorem itK_obj {k : Bool} {it l : Addr} {i : Nat} {h : Heap} (x : itK k it l i h) : ∃ o, h.get? it = some o ∧ ∃ fs, o.data = .fields fs := match k, x with
  | true, ⟨o, e, _, d⟩ => ⟨o, e, _, d⟩
  | false, ⟨o, e, _, d⟩ => ⟨o, e, _, d⟩
section
variable {X : Cx} {pins : List (Addr × Obj)} {σ : St} {H : Hp} {s : Shared}
theorem Inv.sqK {k : Bool} {a : Addr} {xs : List V} (I : Inv X pins σ H s) (h : SqK k X.K H a xs) : ∃ its : List Value, Vals xs its ∧ isK k s.heap a its.toArray ∧ a < s.heap.objs.size := match k, h with
  | true, h => by
    obtain ⟨its, rv, p, _⟩ := I.tuple h
    obtain ⟨o, ho, _⟩ := id p
    exact ⟨its, rv, p, Heap.lt_size ho⟩
  | false, h => by
    obtain ⟨its, rv, p, _⟩ := I.list h
    exact ⟨its, rv, p.isList, p.lt⟩
theorem Inv.sqK_inj {k : Bool} {a : Addr} {xs ys : List V} (I : Inv X pins σ H s) (h : SqK k X.K H a xs) (h' : SqK k X.K H a ys) : xs = ys := match k, h, h' with
  | true, h, h' => I.tuple_inj h h'
  | false, h, h' => I.list_inj h h'
end
end L2
set_option Elab.async false
set_option linter.all false
set_option maxRecDepth 100000
set_option maxHeartbeats 4000000
namespace Va
open PySem PySem.Spec PyProof.Rows L2 Ind RowK
theorem seqOf {Γ : Gm} {H : Hp} {v : V} {d : D} {xs : List D} (h : Γ.Rp H v d) (hd : itD d (fun z => z = xs)) (n1 : ∀ x, d ≠ .str x) (n2 : ∀ x, d ≠ .dk x) : ∃ k a vs, v = .ref a ∧ Γ.RpL H vs xs ∧ ∀ H', Kq H H' → SqK k Γ.K H' a vs := by
  cases d with
  | lst ds =>
    obtain ⟨a, vs, rfl, h1, h2⟩ := h.lst_inv
    cases hd
    exact ⟨false, a, vs, rfl, h2, fun H' q => (q.fzL h1).sq⟩
  | tup ds =>
    obtain ⟨a, vs, rfl, h1, h2⟩ := h.tup_inv
    cases hd
    exact ⟨true, a, vs, rfl, h2, fun H' q => q.sqT h1⟩
  | ptp ds =>
    obtain ⟨a, o, vs, rfl, h1, _, h2⟩ := h.ptp_inv
    cases hd
    exact ⟨true, a, vs, rfl, h2, fun H' q => q.sqT (.inl (.inr ⟨o, h1⟩))⟩
  | str x => exact absurd rfl (n1 x)
  | dk x => exact absurd rfl (n2 x)
  | _ => exact hd.elim
theorem itD_eq {d : D} {Q : List D → Prop} (h : itD d Q) : ∃ xs, itD d (fun z => z = xs) ∧ Q xs := by
  cases d with
  | lst ds => exact ⟨_, rfl, h⟩
  | tup ds => exact ⟨_, rfl, h⟩
  | ptp ds => exact ⟨_, rfl, h⟩
  | str x => exact ⟨_, rfl, h⟩
  | dk x => exact ⟨_, rfl, h⟩
  | _ => exact h.elim
section
variable {X : Cx} {S : Sg} {a b e o : Expr} {p pos tpos apos cpos : Pos}
inductive FrzTo (N : Hp → Prop) : Hp → Prop
  | done {H : Hp} : N H → FrzTo N H
  | lock {H : Hp} {a : Addr} {u : HO} : H a = some u → Mut (some u) → (∀ o, FrzTo N (upd H a (.frz o u))) → FrzTo N H
theorem Rep.drop {Γ : Gm} {E : En} {σ : L2.St} {H : Hp} (r : Rep Γ E σ H) (i : Nat) : Rep Γ (E.set i .no) σ H := by
  refine ⟨r.base, by simp [En.set, r.len], r.few, fun j s e => ?_, fun j k s t a e1 e2 o1 o2 h1 h2 => ?_⟩
  · rcases get_set e with ⟨rfl, rfl, hi⟩ | ⟨ne, e⟩
    · exact ⟨σ[i]'(by rw [← r.len]; exact hi), List.getElem?_eq_getElem _, trivial⟩
    · exact r.sl j s e
  · rcases get_set e1 with ⟨_, rfl, _⟩ | ⟨n1, e1⟩
    · cases o1
    · rcases get_set e2 with ⟨_, rfl, _⟩ | ⟨n2, e2⟩
      · cases o2
      · exact r.dis j k s t a e1 e2 o1 o2 h1 h2
end
end Va
set_option Elab.async false
set_option linter.all false
set_option maxRecDepth 100000
set_option maxHeartbeats 4000000
namespace Va
open PySem PySem.Spec PyProof.Rows L2 Ind RowK
inductive GrR (K : PySem.W.Frag) (tp : Option Tp) (H : Hp) : List (List Key × Addr × Value) → List (List Cell × List D) → Prop
  | nil : GrR K tp H [] []
  | cons {k : List Cell} {b q : Addr} {vs : List V} {ds : List D} {xs : List (List Key × Addr × Value)} {kvs : List (List Cell × List D)} : FzL K H q vs → RpL K tp H vs ds → GrR K tp H xs kvs → GrR K tp H ((k, b, .ref q) :: xs) ((k, ds) :: kvs)
theorem GrR.kq {K : PySem.W.Frag} {tp : Option Tp} {H H' : Hp} (k : Kq H H') : ∀ {xs : List (List Key × Addr × Value)} {kvs : List (List Cell × List D)}, GrR K tp H xs kvs → GrR K tp H' xs kvs := by
  intro xs kvs h
  induction h with
  | nil => exact .nil
  | cons h1 h2 _ ih => exact .cons (k.fzL h1) (RpL.kq k _ _ h2) ih
theorem GrR.keys {K : PySem.W.Frag} {tp : Option Tp} {H : Hp} {xs : List (List Key × Addr × Value)} {kvs : List (List Cell × List D)} (h : GrR K tp H xs kvs) : xs.map (·.1) = kvs.map (·.1) := by
  induction h with
  | nil => rfl
  | cons h1 h2 _ ih => rw [List.map_cons, List.map_cons, ih]
theorem GrR.vals {K : PySem.W.Frag} {tp : Option Tp} {H : Hp} {xs : List (List Key × Addr × Value)} {kvs : List (List Cell × List D)} (h : GrR K tp H xs kvs) : ValsIn xs := by
  induction h with
  | nil => exact fun x hx => nomatch hx
  | cons h1 h2 _ ih =>
    intro x hx
    rcases List.mem_cons.mp hx with rfl | hx
    · exact ⟨.ref _, rfl⟩
    · exact ih x hx
theorem GrR.get {K : PySem.W.Frag} {tp : Option Tp} {H : Hp} {xs : List (List Key × Addr × Value)} {kvs : List (List Cell × List D)} (h : GrR K tp H xs kvs) : ∀ {i : Nat} {x : List Key × Addr × Value}, xs[i]? = some x → ∃ q vs ds, x.2.2 = .ref q ∧ FzL K H q vs ∧ RpL K tp H vs ds ∧ kvs[i]? = some (x.1, ds) := by
  induction h with
  | nil => intro i x e; simp at e
  | cons h1 h2 _ ih =>
    intro i x e
    cases i with
    | zero => cases e; exact ⟨_, _, _, rfl, h1, h2, rfl⟩
    | succ i => exact ih e
def lookG (kvs : List (List Cell × List D)) (r : List Cell) : List D := ((kvs.find? fun p => decide (p.1 = r)).map (·.2)).getD []
theorem GrR.at {K : PySem.W.Frag} {tp : Option Tp} {H : Hp} {xs : List (List Key × Addr × Value)} {kvs : List (List Cell × List D)} (h : GrR K tp H xs kvs) (r : List Cell) : (∀ p, atKey xs r = some p → ∃ q vs, p.2 = .ref q ∧ FzL K H q vs ∧ RpL K tp H vs (lookG kvs r)) ∧ (atKey xs r = none → lookG kvs r = []) := by
  induction h with
  | nil => exact ⟨(fun p e => nomatch e), fun _ => rfl⟩
  | @cons k b q vs ds xs kvs h1 h2 _ ih =>
    unfold atKey lookG at *
    by_cases e : k = r
    · rw [List.find?_cons_of_pos (by simpa using e), List.find?_cons_of_pos (by simpa using e)]
      exact ⟨fun p z => by cases z; exact ⟨_, _, rfl, h1, h2⟩, fun z => nomatch z⟩
    · rw [List.find?_cons_of_neg (by simpa using e), List.find?_cons_of_neg (by simpa using e)]
      exact ih
def memB {α : Type} [DecidableEq α] (r : α) (l : List α) : Bool := decide (r ∈ l)
theorem memB_iff {α : Type} [DecidableEq α] {r : α} {l : List α} : memB r l = true ↔ r ∈ l := decide_eq_true_iff
section
variable {X : Cx} {S : Sg} {a b e o : Expr} {p pos tpos apos cpos : Pos}
end
end Va
set_option Elab.async false
set_option linter.all false
set_option maxRecDepth 100000
set_option maxHeartbeats 4000000
namespace Va
open PySem PySem.Spec PyProof.Rows L2 Ind RowK
theorem lone_shut {E : En} {σ : L2.St} {a : Addr} (h : ∀ (j : Nat) (s : SV), E.l[j]? = some s → s.own = false) : Lone E σ a := fun j s e o => by rw [h j s e] at o; cases o
section
variable {X : Cx} {S : Sg} {kx tg iter : Expr} {scope : Scope} {own : List (PySem.Str × Nat)} {pos2 : Pos} {bv : Bool} {bj : Nat} {bp : Pos} {vi : VI} {g : VG} {kl : VT} {i : Nat} {x : PySem.Str} {spos pos' : Pos}
end
end Va
set_option Elab.async false
set_option linter.all false
set_option maxRecDepth 100000
set_option maxHeartbeats 4000000
namespace L2
open PySem PySem.Spec PyProof.Rows
end L2
namespace Va
open PySem PySem.Spec PyProof.Rows L2 Ind RowK
inductive GrM (Γ : Gm) (a : Addr) (m : Nat) (H : Hp) : List (List Key × Addr × Value) → List (List Cell × List D) → Prop
  | nil : GrM Γ a m H [] []
  | cons {k : List Cell} {b q : Addr} {vs : List V} {ds : List D} {xs : List (List Key × Addr × Value)} {kvs : List (List Cell × List D)} : H q = some (.lst vs) → Γ.RpL H vs ds → Free Γ q → q ≠ a → (∀ x ∈ xs, x.2.2 ≠ .ref q) → vs.length ≤ m → GrM Γ a m H xs kvs → GrM Γ a m H ((k, b, .ref q) :: xs) ((k, ds) :: kvs)
section
variable {Γ : Gm} {a : Addr} {m : Nat} {H H' : Hp} {xs : List (List Key × Addr × Value)} {kvs : List (List Cell × List D)}
theorem GrM.keys (h : GrM Γ a m H xs kvs) : xs.map (·.1) = kvs.map (·.1) := by
  induction h with
  | nil => rfl
  | cons _ _ _ _ _ _ _ ih => rw [List.map_cons, List.map_cons, ih]
theorem GrM.stay (kq : Kq H H') (h : GrM Γ a m H xs kvs) (k : ∀ q vs, Free Γ q → q ≠ a → H q = some (.lst vs) → H' q = some (.lst vs)) : GrM Γ a m H' xs kvs := by
  induction h with
  | nil => exact .nil
  | cons h1 h2 h3 h4 h5 h6 _ ih => exact .cons (k _ _ h3 h4 h1) (RpL.kq kq _ _ h2) h3 h4 h5 h6 ih
theorem GrM.mono {m' : Nat} (hm : m ≤ m') (h : GrM Γ a m H xs kvs) : GrM Γ a m' H xs kvs := by
  induction h with
  | nil => exact .nil
  | cons h1 h2 h3 h4 h5 h6 _ ih => exact .cons h1 h2 h3 h4 h5 (Nat.le_trans h6 hm) ih
theorem GrM.push {k : List Cell} {b q : Addr} {vs : List V} {ds : List D} (h : GrM Γ a m H xs kvs) (h1 : H q = some (.lst vs)) (h2 : Γ.RpL H vs ds) (h3 : Free Γ q) (h4 : q ≠ a) (h6 : vs.length ≤ m) (h5 : ∀ x ∈ xs, x.2.2 ≠ .ref q) : GrM Γ a m H (xs ++ [(k, b, .ref q)]) (kvs ++ [(k, ds)]) := by
  induction h with
  | nil => exact .cons h1 h2 h3 h4 (fun x hx => nomatch hx) h6 .nil
  | @cons k2 b2 q2 vs2 ds2 xs2 kvs2 g1 g2 g3 g4 g5 g6 _ ih =>
    refine .cons g1 g2 g3 g4 (fun x hx => ?_) g6 (ih fun x hx => h5 x (List.mem_cons_of_mem _ hx))
    rcases List.mem_append.mp hx with hx | hx
    · exact g5 x hx
    · rw [List.mem_singleton.mp hx]
      intro e
      cases e
      exact h5 _ (List.mem_cons_self ..) rfl
theorem GrM.lock {E : En} {σ : L2.St} {N : Hp → Prop} (ow : ∀ (j : Nat) (s : SV), E.l[j]? = some s → s.own = false) (h : GrM Γ a m H xs kvs) (r : Rep Γ E σ H)
    (k : ∀ H', Kq H H' → Rep Γ E σ H' → GrR Γ.K Γ.tp H' xs kvs → H' a = H a → FrzTo N H') : FrzTo N H := by
  induction xs generalizing kvs H with
  | nil =>
    cases h
    exact k H (Kq.refl _) r .nil rfl
  | cons x xs ih =>
    cases h with
    | @cons k2 b2 q2 vs2 ds2 _ kvs2 g1 g2 g3 g4 g5 g6 g7 =>
      refine .lock g1 trivial fun o => ?_
      have kq1 : Kq H (upd H q2 (.frz o (.lst vs2))) := .upd g1 trivial
      have r1 : Rep Γ E σ (upd H q2 (.frz o (.lst vs2))) := r.lone g1 trivial g3 (lone_shut ow)
      have keep : ∀ {ys : List (List Key × Addr × Value)} {ks : List (List Cell × List D)}, GrM Γ a m H ys ks → (∀ x ∈ ys, x.2.2 ≠ .ref q2) → GrM Γ a m (upd H q2 (.frz o (.lst vs2))) ys ks := fun {ys ks} g => by
        induction g with
        | nil => exact fun _ => .nil
        | @cons k3 b3 q3 vs3 ds3 xs3 kvs3 f1 f2 f3 f4 f5 f6 _ ih =>
          intro hx
          have ne : q3 ≠ q2 := fun z => hx _ (List.mem_cons_self ..) (by rw [z])
          exact .cons (by rw [upd_ne ne]; exact f1) (RpL.kq kq1 _ _ f2) f3 f4 f5 f6 (ih fun x h => hx x (List.mem_cons_of_mem _ h))
      refine ih (keep g7 g5) r1 fun H' kq' r' gr ea => ?_
      refine k H' (kq1.trans kq') r' (.cons (kq'.fzL ⟨o, upd_same⟩) (RpL.kq (kq1.trans kq') _ _ g2) gr) ?_
      rw [ea, upd_ne (Ne.symm g4)]
end
end Va
set_option Elab.async false
set_option linter.all false
set_option maxRecDepth 100000
set_option maxHeartbeats 4000000
namespace Va
open PySem PySem.Spec PyProof.Rows L2 Ind RowK
abbrev Gm.loop (Γ : Gm) (a : Addr) (H : Hp) : Gm := { Γ with io := [a], H0 := H }
section
variable {X : Cx} {S : Sg} {iter ox key nt : Expr} {rest : List Stmt} {i j : Nat} {x t : PySem.Str} {vi : VI} {tk : VT} {u : VS} {p1 p2 p3 p4 lpos apos cpos apos2 cpos2 epos fpos : Pos}
end
end Va
set_option Elab.async false
set_option linter.all false
set_option maxRecDepth 100000
set_option maxHeartbeats 4000000
namespace L2
open PySem PySem.Spec PyProof.Rows
end L2
namespace Va
open PySem PySem.Spec PyProof.Rows L2 Ind RowK
structure HeldV (S : Sg) (X : Cx) (k : Nat) (d : Addr) (z : Tx) (m : VM) : Prop where
  ex : ∃ k', k' ≤ k ∧ ∃ (f : Addr) (fd : FuncData) (ps : List PySem.Str), PySem.W.nsIn X.K d z = some (some (.ref f)) ∧ FnOk X.prog X.w X.K X.mg X.base CX0 k' f fd ps (spV S m) ∧ PySem.W.keepIn X.K (.ref f) = true ∧ Binds X.K fd ps []
structure HeldI (S : Sg) (X : Cx) (k : Nat) (d : Addr) (M : List (Tx × VM)) where
  z : Tx
  m : VM
  f : Addr
  fd : FuncData
  ps : List PySem.Str
  k' : Nat
  le : k' ≤ k
  inM : (z, m) ∈ M
  ns : PySem.W.nsIn X.K d z = some (some (.ref f))
  ok : FnOk X.prog X.w X.K X.mg X.base CX0 k' f fd ps (spV S m)
  kp : PySem.W.keepIn X.K (.ref f) = true
  bd : Binds X.K fd ps []
section
variable {X : Cx} {S : Sg} {dx ix e : Expr} {es : List Expr} {i j k : Nat} {d : Addr} {ds : Array DictEntry} {n : Nat} {x : PySem.Str} {ta : VTA} {M : List (Tx × VM)} {p1 p2 p3 p4 p5 p6 : Pos}
end
end Va
set_option Elab.async false
set_option linter.all false
set_option maxRecDepth 100000
set_option maxHeartbeats 4000000
namespace Va
open PySem PySem.Spec PyProof.Rows L2 Ind RowK
section
variable {X : Cx} {S : Sg}
end
def likeC : Cell → Cell → Bool
  | .inl _, .inl _ => true
  | .inr _, .inr _ => true
  | _, _ => false
end Va
namespace L2
open PySem PySem.Spec PyProof.Rows Va RowK
end L2
set_option Elab.async false
set_option linter.all false
set_option maxRecDepth 100000
set_option maxHeartbeats 4000000
namespace Va
open PySem PySem.Spec PyProof.Rows L2 Ind RowK
section
variable {X : Cx} {S : Sg}
def rOk (r : List Cell) : Prop := ∀ x : Tx, Sum.inr x ∈ r → tOk x
def dPairs : List (Tx × VT) → En → (List (Tx × D) → En → Prop) → Prop
  | [], E, Q => Q [] E
  | (x, t) :: r, E, Q => t E fun d E1 => dPairs r E1 fun ps E2 => Q ((x, d) :: ps) E2
def prsV (ps : List (Tx × D)) (us : List V) : List (V × V) := List.zipWith (fun p u => (V.str p.1, u)) ps us
structure DPs (S : Sg) (X : Cx) (pos : Pos) (keys : List (Option Expr)) (values : List Expr) (ts : List (Tx × VT)) : Prop where
  ex : ∃ trs, PPs X pos keys values trs ∧ ∀ (Γ : Gm) (E : En) (σ : L2.St) (H : Hp) (Q : List (V × V) → Hp → Prop) (Q0 : List (Tx × D) → En → Prop), Γ.Ok S → Rep Γ E σ H → dPairs ts E Q0 →
    (∀ ps E', Q0 ps E' → ∀ us H', Kq H H' → Rep Γ E' σ H' → Γ.RpL H' us (ps.map (·.2)) → Q (prsV ps us) H') → tPairs trs σ H Q
  sk : keys.all (·.isSome) = true
  ln : keys.length = values.length
variable {pos pos2 : Pos} {k e : Expr} {keys : List (Option Expr)} {values : List Expr} {ts : List (Tx × VT)} {t : VT} {x : Tx} {j : Nat}
end
end Va
set_option Elab.async false
set_option linter.all false
set_option maxRecDepth 100000
set_option maxHeartbeats 4000000
namespace Va
open PySem PySem.Spec PyProof.Rows L2 Ind RowK
structure RelOk (ns : List Tx) (rs : List (List Cell)) : Prop where
  nd : ns.Nodup
  ne : ns ≠ []
  few : ns.length ≤ 100
  len : ∀ r ∈ rs, r.length = ns.length
  ok : ∀ r ∈ rs, rOk r
def idxs (ws ns : List Tx) : List Nat := ws.map fun x => ns.idxOf x
def pickR (r : List Cell) (is : List Nat) : List Cell := is.map fun i => (r[i]?).getD (.inl 0)
def com (ns ms : List Tx) : List Tx := ms.filter fun x => memB x ns
def furth (ns ms : List Tx) : List Tx := ms.filter fun x => !memB x ns
def mates (ns ms : List Tx) (r : List Cell) (qs : List (List Cell)) : List (List Cell) := qs.filter fun q => memB (pickR q (idxs (com ns ms) ms)) [pickR r (idxs (com ns ms) ns)]
def joined (ns ms : List Tx) (rs qs : List (List Cell)) : List (List Cell) := rs.flatMap fun r => (mates ns ms r qs).map fun q => r ++ pickR q (idxs (furth ns ms) ms)
end Va
set_option Elab.async false
set_option linter.all false
set_option maxRecDepth 100000
set_option maxHeartbeats 4000000
namespace Va
open PySem PySem.Spec PyProof.Rows L2 Ind RowK
theorem onc_nd {α : Type} [DecidableEq α] : ∀ (l acc : List α), acc.Nodup → (onc acc l).Nodup
  | [], acc, h => h
  | x :: l, acc, h => by
    show (if x ∈ acc then onc acc l else onc (acc ++ [x]) l).Nodup
    by_cases hx : x ∈ acc
    · rw [if_pos hx]
      exact onc_nd l acc h
    · rw [if_neg hx]
      exact onc_nd l _ (List.nodup_append.mpr ⟨h, by simp, fun a ha b hb e => hx (by rw [List.mem_singleton] at hb; rw [← hb, ← e]; exact ha)⟩)
abbrev SrtR (l : List (List Cell)) : Prop := l.Pairwise fun x y => ltR y x = false
theorem srtR_one : ∀ {l m : List (List Cell)}, SrtR l → SrtR m → l.Perm m → l = m
  | [], m, _, _, p => (List.Perm.eq_nil p.symm).symm
  | x :: l, [], _, _, p => absurd p.length_eq (by simp)
  | x :: l, y :: m, hl, hm, p => by
    have mx : x ∈ y :: m := p.mem_iff.mp List.mem_cons_self
    have my : y ∈ x :: l := p.mem_iff.mpr List.mem_cons_self
    have e : x = y := by
      rcases List.mem_cons.mp mx with e | hx
      · exact e
      · rcases List.mem_cons.mp my with e | hy
        · exact e.symm
        · exact ltR_tri ((List.pairwise_cons.mp hm).1 x hx) ((List.pairwise_cons.mp hl).1 y hy)
    subst e
    rw [srtR_one (List.pairwise_cons.mp hl).2 (List.pairwise_cons.mp hm).2 p.cons_inv]
def cellFit : Cd → Cell → Prop
  | .s, .inr x => tOk x ∧ x.length ≤ 21
  | .n b, .inl i => -b ≤ i ∧ i ≤ b ∧ b ≤ 1000000000000
  | _, _ => False
def rowFit (cs : List Col) (r : List Cell) : Prop := r.length = cs.length ∧ ∀ (i : Nat) (x : Cell) (p : Col), r[i]? = some x → cs[i]? = some p → cellFit p.2 x
end Va
set_option Elab.async false
set_option linter.all false
set_option maxRecDepth 100000
set_option maxHeartbeats 4000000
namespace Va
open PySem PySem.Spec PyProof.Rows L2 Ind RowK
def atN (r : List Cell) (ns : List Tx) (x : Tx) : Cell := (r[ns.idxOf x]?).getD (.inl 0)
theorem pickR_at (r : List Cell) (ws ns : List Tx) : pickR r (idxs ws ns) = ws.map (atN r ns) := by
  unfold pickR idxs
  rw [List.map_map]
  rfl
theorem mem_mates {ns ms : List Tx} {r q : List Cell} {qs : List (List Cell)} : q ∈ mates ns ms r qs ↔ q ∈ qs ∧ ∀ x ∈ ms, x ∈ ns → atN q ms x = atN r ns x := by
  unfold mates
  rw [List.mem_filter, memB_iff, List.mem_singleton, pickR_at, pickR_at]
  constructor
  · rintro ⟨h1, h2⟩
    exact ⟨h1, fun x a b => List.map_inj_left.mp h2 x (List.mem_filter.mpr ⟨a, memB_iff.mpr b⟩)⟩
  · rintro ⟨h1, h2⟩
    exact ⟨h1, List.map_inj_left.mpr fun x hx => h2 x (List.mem_filter.mp hx).1 (memB_iff.mp (List.mem_filter.mp hx).2)⟩
theorem mem_joined {ns ms : List Tx} {rs qs : List (List Cell)} {z : List Cell} : z ∈ joined ns ms rs qs ↔ ∃ r ∈ rs, ∃ q ∈ qs, (∀ x ∈ ms, x ∈ ns → atN q ms x = atN r ns x) ∧ z = r ++ (furth ns ms).map (atN q ms) := by
  unfold joined
  rw [List.mem_flatMap]
  constructor
  · rintro ⟨r, hr, h⟩
    obtain ⟨q, hq, rfl⟩ := List.mem_map.mp h
    obtain ⟨h1, h2⟩ := mem_mates.mp hq
    exact ⟨r, hr, q, h1, h2, by rw [pickR_at]⟩
  · rintro ⟨r, hr, q, h1, h2, rfl⟩
    exact ⟨r, hr, List.mem_map.mpr ⟨q, mem_mates.mpr ⟨h1, h2⟩, by rw [pickR_at]⟩⟩
theorem joined_len {ns ms : List Tx} {rs qs : List (List Cell)} : (joined ns ms rs qs).length ≤ rs.length * qs.length := by
  unfold joined
  induction rs with
  | nil => simp
  | cons r rs ih =>
    rw [List.flatMap_cons, List.length_append, List.length_cons, Nat.succ_mul, List.length_map]
    have : (mates ns ms r qs).length ≤ qs.length := List.length_filter_le _ _
    omega
theorem onc_mem0 {α : Type} [DecidableEq α] {l : List α} {x : α} : x ∈ onc [] l ↔ x ∈ l := by
  rw [onc_mem]
  simp
end Va
set_option Elab.async false
set_option linter.all false
set_option maxRecDepth 100000
set_option maxHeartbeats 4000000
namespace Va
open PySem PySem.Spec PyProof.Rows L2 Ind RowK
def minC (x : Cell) (xs : List Cell) : Cell := xs.foldl (fun a y => if ltC y a then y else a) x
def maxC (x : Cell) (xs : List Cell) : Cell := xs.foldl (fun a y => if ltC a y then y else a) x
section
variable {X : Cx} {S : Sg}
end
end Va
set_option Elab.async false
set_option linter.all false
set_option maxRecDepth 100000
set_option maxHeartbeats 4000000
namespace Va
open PySem PySem.Spec PyProof.Rows L2 Ind RowK
inductive Ag where
  | cnt (nm : Tx)
  | su (nm x : Tx)
  | mi (nm x : Tx)
  | ma (nm x : Tx)
def Ag.nm : Ag → Tx
  | .cnt n => n
  | .su n _ => n
  | .mi n _ => n
  | .ma n _ => n
def Ag.d : Ag → D
  | .cnt n => .tup [.str n, .str "count", .non]
  | .su n x => .tup [.str n, .str "sum", .str x]
  | .mi n x => .tup [.str n, .str "least", .str x]
  | .ma n x => .tup [.str n, .str "greatest", .str x]
def intC : Cell → Int
  | .inl i => i
  | .inr _ => 0
def valsN (ns : List Tx) (x : Tx) (rows : List (List Cell)) : List Cell := rows.map fun r => atN r ns x
def headC (f : Cell → List Cell → Cell) : List Cell → Cell
  | [] => .inl 0
  | c :: cs => f c cs
def Ag.val (ns : List Tx) (rows : List (List Cell)) : Ag → Cell
  | .cnt _ => .inl rows.length
  | .su _ x => .inl ((valsN ns x rows).map intC).sum
  | .mi _ x => headC minC (valsN ns x rows)
  | .ma _ x => headC maxC (valsN ns x rows)
def Ag.ok (ns : List Tx) (rows : List (List Cell)) : Ag → Prop
  | .cnt _ => True
  | .su _ x => x ∈ ns ∧ ∀ c ∈ valsN ns x rows, ∃ i, c = Sum.inl i
  | .mi _ x => x ∈ ns ∧ ∀ c ∈ valsN ns x rows, ∀ d ∈ valsN ns x rows, likeC c d = true
  | .ma _ x => x ∈ ns ∧ ∀ c ∈ valsN ns x rows, ∀ d ∈ valsN ns x rows, likeC c d = true
end Va
set_option Elab.async false
set_option linter.all false
set_option maxRecDepth 100000
set_option maxHeartbeats 4000000
namespace Va
open PySem PySem.Spec PyProof.Rows L2 Ind RowK
section
variable {X : Cx} {S : Sg}
end
end Va
set_option Elab.async false
set_option linter.all false
set_option maxRecDepth 100000
set_option maxHeartbeats 4000000
namespace Va
open PySem PySem.Spec PyProof.Rows L2 Ind RowK
def grpd (g : List Cell → List Cell) (qs : List (List Cell)) : List (List Cell × List (List Cell)) := (onc [] (qs.map g)).map fun k => (k, qs.filter fun q => memB (g q) [k])
end Va
set_option Elab.async false
set_option linter.all false
set_option maxRecDepth 100000
set_option maxHeartbeats 4000000
namespace Va
open PySem PySem.Spec PyProof.Rows L2 Ind RowK
theorem fit_at {cs : List Col} {r : List Cell} {x : Tx} {k : Cd} (h : rowFit cs r) (nd : (cs.map (·.1)).Nodup) (m : (x, k) ∈ cs) : cellFit k (atN r (cs.map (·.1)) x) := by
  obtain ⟨i, hi, e⟩ := List.mem_iff_getElem.mp m
  have hi2 : i < (cs.map (·.1)).length := by rw [List.length_map]; exact hi
  have ex : (cs.map (·.1)).idxOf x = i := by
    have := List.Nodup.idxOf_getElem nd i hi2
    rw [List.getElem_map, e] at this
    exact this
  have hr : i < r.length := by rw [h.1]; exact hi
  unfold atN
  rw [ex, List.getElem?_eq_getElem hr]
  exact h.2 i r[i] (x, k) (List.getElem?_eq_getElem hr) (by rw [List.getElem?_eq_getElem hi, e])
theorem cell_like {k : Cd} {c d : Cell} (h1 : cellFit k c) (h2 : cellFit k d) : likeC c d = true := by
  cases k <;> cases c <;> cases d <;> first | exact h1.elim | exact h2.elim | rfl
def agFit (cs : List Col) : Ag → Prop
  | .cnt _ => True
  | .su _ x => ∃ b, (x, Cd.n b) ∈ cs
  | .mi _ x => ∃ k, (x, k) ∈ cs
  | .ma _ x => ∃ k, (x, k) ∈ cs
theorem agFit.ok {cs : List Col} {a : Ag} {rows : List (List Cell)} (h : agFit cs a) (nd : (cs.map (·.1)).Nodup) (hr : ∀ r ∈ rows, rowFit cs r) : a.ok (cs.map (·.1)) rows := by
  have like : ∀ (x : Tx) (k : Cd), (x, k) ∈ cs → x ∈ cs.map (·.1) ∧ ∀ c ∈ valsN (cs.map (·.1)) x rows, cellFit k c := fun x k m => by
    refine ⟨List.mem_map.mpr ⟨_, m, rfl⟩, fun c hc => ?_⟩
    obtain ⟨r, h1, rfl⟩ := List.mem_map.mp hc
    exact fit_at (hr r h1) nd m
  cases a with
  | cnt n => trivial
  | su n x =>
    obtain ⟨b, m⟩ := h
    obtain ⟨h1, h2⟩ := like x _ m
    refine ⟨h1, fun c hc => ?_⟩
    have := h2 c hc
    cases c with
    | inl i => exact ⟨i, rfl⟩
    | inr y => exact this.elim
  | mi n x =>
    obtain ⟨k, m⟩ := h
    obtain ⟨h1, h2⟩ := like x _ m
    exact ⟨h1, fun c hc d hd => cell_like (h2 c hc) (h2 d hd)⟩
  | ma n x =>
    obtain ⟨k, m⟩ := h
    obtain ⟨h1, h2⟩ := like x _ m
    exact ⟨h1, fun c hc d hd => cell_like (h2 c hc) (h2 d hd)⟩
theorem minC_least (xs : List Cell) : ∀ x : Cell, minC x xs ∈ x :: xs ∧ ∀ y ∈ x :: xs, ltC y (minC x xs) = false := by
  induction xs with
  | nil => exact fun x => ⟨List.mem_singleton.mpr rfl, fun y hy => by rw [List.mem_singleton.mp hy]; exact ltC_irr _⟩
  | cons y xs ih =>
    intro x
    have e : minC x (y :: xs) = minC (if ltC y x then y else x) xs := rfl
    rw [e]
    cases h : ltC y x with
    | true =>
      obtain ⟨a, b⟩ := ih y
      refine ⟨List.mem_cons_of_mem _ a, fun z hz => ?_⟩
      rcases List.mem_cons.mp hz with rfl | hz
      · cases h2 : ltC z (minC y xs) with
        | false => exact h2
        | true => have := b y List.mem_cons_self; rw [ltC_trans h h2] at this; cases this
      · exact b z hz
    | false =>
      obtain ⟨a, b⟩ := ih x
      refine ⟨?_, fun z hz => ?_⟩
      · rcases List.mem_cons.mp a with a | a
        · show minC x xs ∈ x :: y :: xs
          rw [a]; exact List.mem_cons_self
        · exact List.mem_cons_of_mem _ (List.mem_cons_of_mem _ a)
      · have bx := b x List.mem_cons_self
        rcases List.mem_cons.mp hz with rfl | hz
        · exact bx
        · rcases List.mem_cons.mp hz with rfl | hz
          · cases h2 : ltC z (minC x xs) with
            | false => exact h2
            | true =>
              cases h3 : ltC (minC x xs) x with
              | true => rw [ltC_trans h2 h3] at h; cases h
              | false =>
                have := ltC_tri bx h3
                rw [← this] at h2
                rw [h2] at h
                cases h
          · exact b z (List.mem_cons_of_mem _ hz)
theorem maxC_most (xs : List Cell) : ∀ x : Cell, maxC x xs ∈ x :: xs ∧ ∀ y ∈ x :: xs, ltC (maxC x xs) y = false := by
  induction xs with
  | nil => exact fun x => ⟨List.mem_singleton.mpr rfl, fun y hy => by rw [List.mem_singleton.mp hy]; exact ltC_irr _⟩
  | cons y xs ih =>
    intro x
    have e : maxC x (y :: xs) = maxC (if ltC x y then y else x) xs := rfl
    rw [e]
    cases h : ltC x y with
    | true =>
      obtain ⟨a, b⟩ := ih y
      refine ⟨List.mem_cons_of_mem _ a, fun z hz => ?_⟩
      rcases List.mem_cons.mp hz with rfl | hz
      · cases h2 : ltC (maxC y xs) z with
        | false => exact h2
        | true => have := b y List.mem_cons_self; rw [ltC_trans h2 h] at this; cases this
      · exact b z hz
    | false =>
      obtain ⟨a, b⟩ := ih x
      refine ⟨?_, fun z hz => ?_⟩
      · rcases List.mem_cons.mp a with a | a
        · show maxC x xs ∈ x :: y :: xs
          rw [a]; exact List.mem_cons_self
        · exact List.mem_cons_of_mem _ (List.mem_cons_of_mem _ a)
      · have bx := b x List.mem_cons_self
        rcases List.mem_cons.mp hz with rfl | hz
        · exact bx
        · rcases List.mem_cons.mp hz with rfl | hz
          · cases h2 : ltC (maxC x xs) z with
            | false => exact h2
            | true =>
              cases h3 : ltC x (maxC x xs) with
              | true => rw [ltC_trans h3 h2] at h; cases h
              | false =>
                have := ltC_tri h3 bx
                rw [← this] at h2
                rw [h2] at h
                cases h
          · exact b z (List.mem_cons_of_mem _ hz)
def cellSm : Cell → Prop
  | .inl i => -(2 ^ 200) ≤ i ∧ i ≤ 2 ^ 200
  | .inr x => tOk x ∧ x.length ≤ 30
theorem fit_sm {k : Cd} {c : Cell} (h : cellFit k c) : cellSm c := by
  cases k with
  | s =>
    cases c with
    | inl i => exact h.elim
    | inr x => exact ⟨h.1, Nat.le_trans h.2 (by decide)⟩
  | n b =>
    cases c with
    | inl i =>
      obtain ⟨h1, h2, h3⟩ := h
      have e : (2 : Int) ^ 200 = 1606938044258990275541962092341162602522202993782792835301376 := by decide +kernel
      exact ⟨by rw [e]; omega, by rw [e]; omega⟩
    | inr x => exact h.elim
theorem sum_sm {b : Int} {l : List Cell} (h : ∀ c ∈ l, cellFit (.n b) c) : -(1000000000000 * (l.length : Int)) ≤ (l.map intC).sum ∧ (l.map intC).sum ≤ 1000000000000 * (l.length : Int) := by
  induction l with
  | nil => exact ⟨by decide, by decide⟩
  | cons c l ih =>
    obtain ⟨h1, h2⟩ := ih fun d hd => h d (List.mem_cons_of_mem _ hd)
    have hc := h c List.mem_cons_self
    rw [List.map_cons, List.sum_cons, List.length_cons]
    cases c with
    | inl i =>
      obtain ⟨a1, a2, a3⟩ := hc
      show _ ≤ i + _ ∧ i + _ ≤ _
      constructor <;> omega
    | inr x => exact hc.elim
theorem agFit.sm {cs : List Col} {a : Ag} {rows : List (List Cell)} (h : agFit cs a) (nd : (cs.map (·.1)).Nodup) (hr : ∀ r ∈ rows, rowFit cs r) (r0 : rows ≠ []) (hl : rows.length ≤ 1000) : cellSm (a.val (cs.map (·.1)) rows) := by
  have e : (2 : Int) ^ 200 = 1606938044258990275541962092341162602522202993782792835301376 := by decide +kernel
  have like : ∀ (x : Tx) (k : Cd), (x, k) ∈ cs → ∀ c ∈ valsN (cs.map (·.1)) x rows, cellFit k c := fun x k m c hc => by
    obtain ⟨r, h1, rfl⟩ := List.mem_map.mp hc
    exact fit_at (hr r h1) nd m
  have n0 : ∀ x, valsN (cs.map (·.1)) x rows ≠ [] := fun x z => r0 (List.map_eq_nil_iff.mp z)
  cases a with
  | cnt n => exact ⟨by show _ ≤ ((rows.length : Nat) : Int); rw [e]; omega, by show ((rows.length : Nat) : Int) ≤ _; rw [e]; omega⟩
  | su n x =>
    obtain ⟨b, m⟩ := h
    have := sum_sm (like x _ m)
    have vl : (valsN (cs.map (·.1)) x rows).length ≤ 1000 := by unfold valsN; rw [List.length_map]; exact hl
    show _ ≤ ((valsN (cs.map (·.1)) x rows).map intC).sum ∧ ((valsN (cs.map (·.1)) x rows).map intC).sum ≤ _
    rw [e]
    omega
  | mi n x =>
    obtain ⟨k, m⟩ := h
    have al := like x _ m
    have z := n0 x
    show cellSm (headC minC (valsN (cs.map (·.1)) x rows))
    generalize valsN (cs.map (·.1)) x rows = l at al z ⊢
    match l, z with
    | c :: l, _ => exact fit_sm (al _ (minC_least l c).1)
  | ma n x =>
    obtain ⟨k, m⟩ := h
    have al := like x _ m
    have z := n0 x
    show cellSm (headC maxC (valsN (cs.map (·.1)) x rows))
    generalize valsN (cs.map (·.1)) x rows = l at al z ⊢
    match l, z with
    | c :: l, _ => exact fit_sm (al _ (maxC_most l c).1)
end Va
set_option Elab.async false
set_option linter.all false
set_option maxRecDepth 100000
set_option maxHeartbeats 4000000
namespace Va
open PySem PySem.Spec PyProof.Rows L2 Ind RowK
section
variable {X : Cx} {S : Sg}
end
end Va
set_option Elab.async false
set_option linter.all false
set_option maxRecDepth 100000
set_option maxHeartbeats 4000000
namespace Va
open PySem PySem.Spec PyProof.Rows L2 Ind RowK
def unD : D → Cell
  | .str x => .inr x
  | .int i => .inl i
  | _ => .inl 0
theorem un_cell (x : Cell) : unD (cellD x) = x := by cases x <;> rfl
def exC (ns : List Tx) (e : Ex) (r : List Cell) : Cell := unD (exV ns (r.map cellD) e)
theorem rowFit.row {cs : List Col} {r : List Cell} (h : rowFit cs r) (nd : (cs.map (·.1)).Nodup) : RowOk cs (r.map cellD) := by
  refine ⟨nd, by rw [List.length_map]; exact h.1, fun i p v e1 e2 => ?_⟩
  obtain ⟨x, ex, rfl⟩ := map_get e2
  have := h.2 i x p ex e1
  obtain ⟨nm, k⟩ := p
  cases k <;> cases x <;> first | exact this.elim | exact ⟨_, rfl⟩
abbrev It8 := Tx × Ex
def itD8 (p : It8) : D := .tup [.str p.1, exD p.2]
def selR (ns : List Tx) (its : List It8) (r : List Cell) : List Cell := its.map fun p => exC ns p.2 r
end Va
set_option Elab.async false
set_option linter.all false
set_option maxRecDepth 100000
set_option maxHeartbeats 4000000
namespace Va
open PySem PySem.Spec PyProof.Rows L2 Ind RowK
end Va
set_option Elab.async false
set_option linter.all false
set_option maxRecDepth 100000
set_option maxHeartbeats 4000000
namespace Va
open PySem PySem.Spec PyProof.Rows L2 Ind RowK
inductive Tw where
  | joi
  | uni
  | mnu
  | mat
  | wou
def Tw.w : Tw → Tx
  | .joi => "join"
  | .uni => "union"
  | .mnu => "minus"
  | .mat => "matching"
  | .wou => "without"
inductive Qy where
  | nm (x : Tx)
  | whr (q : Qy) (F : Fm)
  | sel (q : Qy) (its : List It8)
  | grp (q : Qy) (ks : List Tx) (as : List Ag)
  | two (w : Tw) (p q : Qy)
def Qy.d : Qy → D
  | .nm x => .tup [.str "name", .str x]
  | .whr q F => .tup [.str "where", q.d, F.d]
  | .sel q its => .tup [.str "select", q.d, .tup (its.map itD8)]
  | .grp q ks as => .tup [.str "group", q.d, .ptp (ks.map .str), .tup (as.map Ag.d)]
  | .two w p q => .tup [.str w.w, p.d, q.d]
def Qy.dep : Qy → Nat
  | .nm _ => 0
  | .whr q _ => q.dep + 1
  | .sel q _ => q.dep + 1
  | .grp q _ _ => q.dep + 1
  | .two _ p q => max p.dep q.dep + 1
abbrev Shp := List Col × Int
def colK (cs : List Col) (n : Tx) : Option Cd := (cs.find? fun p => decide (p.1 = n)).map (·.2)
def opK (cs : List Col) : Op → Option Cd
  | .col n => colK cs n
  | .num i => some (.n (if 0 ≤ i then i else -i))
  | .txt _ => some .s
def bndK : Option Cd → Option Int
  | some (.n b) => some b
  | _ => none
def sumK (cs : List Col) : Ex → Option Int
  | [] => some 0
  | t :: e => match bndK (opK cs t.2), sumK cs e with
    | some a, some b => some (a + b)
    | _, _ => none
def exK (cs : List Col) (e : Ex) : Option Cd := match e with
  | [t] => opK cs t.2
  | e => match sumK cs e with
    | some b => if b ≤ 1000000000000 then some (.n b) else none
    | none => none
def bigK : Cd → Bool
  | .s => false
  | .n b => decide (1000000000000 < b)
def sized (cs : List Col) (m : Int) : Option Shp := if 3000 < m then none else if cs.any (fun p => bigK p.2) then none else some (cs, m)
def gK {α : Type} (f : α → Option Cd) (g : α → Tx) : List α → List Col → Option (List Col)
  | [], found => some found
  | p :: l, found => match f p with
    | some k => if memB (g p) (found.map (·.1)) = true then none else gK f g l (found ++ [(g p, k)])
    | none => none
def selK (cs : List Col) (its : List It8) (found : List Col) : Option (List Col) := gK (fun p : It8 => exK cs p.2) (fun p => p.1) its found
def keyK (cs : List Col) (ks : List Tx) (found : List Col) : Option (List Col) := gK (colK cs) (fun x => x) ks found
def agKd (cs : List Col) (m : Int) : Ag → Option Cd
  | .cnt _ => some (.n m)
  | .su _ x => match colK cs x with
    | some (.n b) => some (.n (b * m))
    | _ => none
  | .mi _ x => colK cs x
  | .ma _ x => colK cs x
def aggK (cs : List Col) (m : Int) (as : List Ag) (found : List Col) : Option (List Col) := gK (agKd cs m) Ag.nm as found
def maxK : Cd → Cd → Cd
  | .n a, .n b => .n (if b ≤ a then a else b)
  | k, _ => k
def twoK (w : Tw) (cs : List Col) (m : Int) (ds : List Col) (n : Int) : Option Shp := match w with
  | .uni => if (ds.map fun p => (p.1, p.2.w)) = (cs.map fun p => (p.1, p.2.w)) then sized ((cs.zip ds).map fun p => (p.1.1, maxK p.1.2 p.2.2)) (m + n) else none
  | .mnu => if (ds.map fun p => (p.1, p.2.w)) = (cs.map fun p => (p.1, p.2.w)) then some (cs, m) else none
  | .joi => if ds.all (fun p => match colK cs p.1 with | some k => decide (k.w = p.2.w) | none => true) then sized (cs ++ ds.filter fun p => !memB p.1 (cs.map (·.1))) (m * n) else none
  | _ => if ds.all (fun p => match colK cs p.1 with | some k => decide (k.w = p.2.w) | none => true) then some (cs, m) else none
mutual
def fmK (cs : List Col) : Fm → Bool
  | .cmp _ l r => match exK cs l, exK cs r with
    | some a, some b => decide (a.w = b.w)
    | _, _ => false
  | .neg f => fmK cs f
  | .all fs => fmKL cs fs
  | .any fs => fmKL cs fs
  | .imp a b => fmK cs a && fmK cs b
  | .tt => true
  | .ff => true
def fmKL (cs : List Col) : List Fm → Bool
  | [] => true
  | f :: fs => fmK cs f && fmKL cs fs
end
def tyQ (sh : List (Tx × Shp)) : Qy → Option Shp
  | .nm x => (sh.find? fun p => decide (p.1 = x)).map (·.2)
  | .whr q F => match tyQ sh q with
    | some (cs, m) => if fmK cs F = true then some (cs, m) else none
    | none => none
  | .sel q its => match tyQ sh q with
    | some (cs, m) => match selK cs its [] with
      | some ds => sized ds m
      | none => none
    | none => none
  | .grp q ks as => match tyQ sh q with
    | some (cs, m) => match keyK cs ks [] with
      | some found => match aggK cs m as found with
        | some ds => sized ds m
        | none => none
      | none => none
    | none => none
  | .two w p q => match tyQ sh p, tyQ sh q with
    | some (cs, m), some (ds, n) => twoK w cs m ds n
    | _, _ => none
def insR (x : List Cell) : List (List Cell) → List (List Cell)
  | [] => [x]
  | y :: l => if ltR y x = true then y :: insR x l else x :: y :: l
def srtL : List (List Cell) → List (List Cell)
  | [] => []
  | x :: l => insR x (srtL l)
theorem insR_perm (x : List Cell) : ∀ l, (insR x l).Perm (x :: l)
  | [] => List.Perm.refl _
  | y :: l => by
    unfold insR
    split
    · exact (List.Perm.cons y (insR_perm x l)).trans (List.Perm.swap x y l)
    · exact List.Perm.refl _
theorem srtL_perm : ∀ l, (srtL l).Perm l
  | [] => List.Perm.refl _
  | x :: l => (insR_perm x _).trans (List.Perm.cons x (srtL_perm l))
theorem insR_srt (x : List Cell) : ∀ {l}, SrtR l → SrtR (insR x l)
  | [], _ => List.pairwise_cons.mpr ⟨fun _ h => (nomatch h), .nil⟩
  | y :: l, h => by
    obtain ⟨h1, h2⟩ := List.pairwise_cons.mp h
    unfold insR
    split
    · rename_i e
      refine List.pairwise_cons.mpr ⟨fun z hz => ?_, insR_srt x h2⟩
      rcases List.mem_cons.mp ((insR_perm x l).mem_iff.mp hz) with rfl | hz
      · cases g : ltR z y with
        | false => rfl
        | true => have := ltR_trans e g; rw [ltR_irr] at this; cases this
      · exact h1 z hz
    · rename_i e
      have e : ltR y x = false := by simpa using e
      refine List.pairwise_cons.mpr ⟨fun z hz => ?_, h⟩
      rcases List.mem_cons.mp hz with rfl | hz
      · exact e
      · have a := h1 z hz
        cases g : ltR z x with
        | false => rfl
        | true =>
          cases g2 : ltR x y with
          | true => have := ltR_trans g g2; rw [a] at this; cases this
          | false =>
            have := ltR_tri e g2
            rw [this] at a
            rw [a] at g
            cases g
theorem srtL_srt : ∀ l, SrtR (srtL l)
  | [] => .nil
  | x :: l => insR_srt x (srtL_srt l)
def stR (l : List (List Cell)) : List (List Cell) := srtL (onc [] l)
theorem stR_mem {l : List (List Cell)} {r : List Cell} : r ∈ stR l ↔ r ∈ l := by
  unfold stR
  rw [(srtL_perm _).mem_iff]
  exact onc_mem0
theorem stR_nd (l : List (List Cell)) : (stR l).Nodup := (srtL_perm _).nodup_iff.mpr (onc_nd _ [] List.nodup_nil)
theorem stR_srt (l : List (List Cell)) : SrtR (stR l) := srtL_srt _
theorem stR_len (l : List (List Cell)) : (stR l).length ≤ l.length := by
  unfold stR
  rw [(srtL_perm _).length_eq]
  have := onc_le l []
  simpa using this
def keyN (ks ns : List Tx) (r : List Cell) : List Cell := pickR r (idxs ks ns)
def madeR (ks ns : List Tx) (as : List Ag) (rs : List (List Cell)) : List (List Cell) := (grpd (keyN ks ns) rs).map fun p => p.1 ++ as.map (Ag.val ns p.2)
def joinR (w : Tw) (ns ms : List Tx) (rs qs : List (List Cell)) : List Tx × List (List Cell) := match w with
  | .joi => (ns ++ furth ns ms, stR (joined ns ms rs qs))
  | .uni => (ns, stR (rs ++ qs))
  | .mnu => (ns, rs.filter fun r => !memB r qs)
  | .mat => (ns, rs.filter fun r => !(mates ns ms r qs).isEmpty)
  | .wou => (ns, rs.filter fun r => (mates ns ms r qs).isEmpty)
abbrev Rl := List Tx × List (List Cell)
def ansR (rl : List (Tx × Rl)) : Qy → Rl
  | .nm x => ((rl.find? fun p => decide (p.1 = x)).map (·.2)).getD ([], [])
  | .whr q F => ((ansR rl q).1, (ansR rl q).2.filter fun r => F.tr (ansR rl q).1 (r.map cellD))
  | .sel q its => (its.map (·.1), stR ((ansR rl q).2.map (selR (ansR rl q).1 its)))
  | .grp q ks as => (ks ++ as.map Ag.nm, stR (madeR ks (ansR rl q).1 as (ansR rl q).2))
  | .two w p q => joinR w (ansR rl p).1 (ansR rl q).1 (ansR rl p).2 (ansR rl q).2
end Va
set_option Elab.async false
set_option linter.all false
set_option maxRecDepth 100000
set_option maxHeartbeats 4000000
namespace Va
open PySem PySem.Spec PyProof.Rows L2 Ind RowK
def opS : Op → Prop
  | .col n => tOk n
  | .num _ => True
  | .txt x => tOk x ∧ x.length ≤ 21
structure exS (e : Ex) : Prop where
  ne : e ≠ []
  len : e.length ≤ 20
  op : ∀ t ∈ e, opS t.2
theorem colK_mem {cs : List Col} {n : Tx} {k : Cd} (h : colK cs n = some k) : (n, k) ∈ cs := by
  unfold colK at h
  cases e : cs.find? fun p => decide (p.1 = n) with
  | none => rw [e] at h; cases h
  | some p =>
    rw [e] at h
    cases h
    have h1 := List.find?_some e
    have h2 := List.mem_of_find?_eq_some e
    have h1 : p.1 = n := of_decide_eq_true h1
    rw [← h1]
    exact h2
theorem ev_cell {cs : List Col} {r : List Cell} (h : rowFit cs r) (nd : (cs.map (·.1)).Nodup) {n : Tx} {k : Cd} (m : (n, k) ∈ cs) : ∃ x : Cell, ev (cs.map (·.1)) (r.map cellD) (.col n) = cellD x ∧ cellFit k x := by
  have a := fit_at h nd m
  refine ⟨_, ?_, a⟩
  show ((r.map cellD)[(cs.map (·.1)).idxOf n]?).getD .non = cellD (atN r (cs.map (·.1)) n)
  unfold atN
  rw [List.getElem?_map]
  have hi : (cs.map (·.1)).idxOf n < r.length := by
    rw [h.1, ← List.length_map (as := cs) (f := fun p : Col => p.1)]
    exact List.idxOf_lt_length_of_mem (List.mem_map.mpr ⟨_, m, rfl⟩)
  rw [List.getElem?_eq_getElem hi]
  rfl
theorem sumK_bound {cs : List Col} {r : List Cell} (h : rowFit cs r) (nd : (cs.map (·.1)).Nodup) : ∀ {e : Ex} {b : Int}, sumK cs e = some b → -b ≤ sumV (cs.map (·.1)) (r.map cellD) e ∧ sumV (cs.map (·.1)) (r.map cellD) e ≤ b
  | [], b, e => by
    have e : some (0 : Int) = some b := e
    cases e
    exact ⟨Int.le_refl 0, Int.le_refl 0⟩
  | t :: e, b, g => by
    unfold sumK at g
    cases h1 : bndK (opK cs t.2) with
    | none => rw [h1] at g; cases g
    | some a =>
      rw [h1] at g
      cases h2 : sumK cs e with
      | none => rw [h2] at g; cases g
      | some b2 =>
        rw [h2] at g
        have g : some (a + b2) = some b := g
        cases g
        obtain ⟨i1, i2⟩ := sumK_bound h nd h2
        have one : -a ≤ intOf (ev (cs.map (·.1)) (r.map cellD) t.2) ∧ intOf (ev (cs.map (·.1)) (r.map cellD) t.2) ≤ a := by
          cases ho : t.2 with
          | num i =>
            rw [ho] at h1
            have h1 : some (if 0 ≤ i then i else -i) = some a := h1
            cases h1
            show -(if 0 ≤ i then i else -i) ≤ i ∧ i ≤ (if 0 ≤ i then i else -i)
            split <;> omega
          | txt x => rw [ho] at h1; cases h1
          | col n =>
            rw [ho] at h1
            cases hk : colK cs n with
            | none =>
              have h1 : bndK (colK cs n) = some a := h1
              rw [hk] at h1; cases h1
            | some k =>
              have h1 : bndK (colK cs n) = some a := h1
              rw [hk] at h1
              cases k with
              | s => cases h1
              | n c =>
                cases h1
                obtain ⟨x, ex, fx⟩ := ev_cell h nd (colK_mem hk)
                rw [ex]
                cases x with
                | inl i => exact ⟨fx.1, fx.2.1⟩
                | inr y => exact fx.elim
        show -(a + b2) ≤ sg1 t.1 (intOf (ev (cs.map (·.1)) (r.map cellD) t.2)) + sumV (cs.map (·.1)) (r.map cellD) e ∧ sg1 t.1 (intOf (ev (cs.map (·.1)) (r.map cellD) t.2)) + sumV (cs.map (·.1)) (r.map cellD) e ≤ a + b2
        cases t.1 with
        | true => show _ ≤ intOf _ + _ ∧ intOf _ + _ ≤ _; omega
        | false => show _ ≤ -intOf _ + _ ∧ -intOf _ + _ ≤ _; omega
theorem exC_fit {cs : List Col} {r : List Cell} (h : rowFit cs r) (nd : (cs.map (·.1)).Nodup) {e : Ex} {k : Cd} (hk : exK cs e = some k) (s : exS e) (big : bigK k = false) : cellFit k (exC (cs.map (·.1)) e r) := by
  match e, hk, s with
  | [], _, s => exact absurd rfl s.ne
  | [t], hk, s =>
    have hk : opK cs t.2 = some k := hk
    show cellFit k (unD (ev (cs.map (·.1)) (r.map cellD) t.2))
    have st := s.op t (by simp)
    cases ho : t.2 with
    | num i =>
      rw [ho] at hk
      have hk : some (Cd.n (if 0 ≤ i then i else -i)) = some k := hk
      cases hk
      have big : decide (1000000000000 < (if 0 ≤ i then i else -i)) = false := big
      have big := of_decide_eq_false big
      show -(if 0 ≤ i then i else -i) ≤ i ∧ i ≤ (if 0 ≤ i then i else -i) ∧ (if 0 ≤ i then i else -i) ≤ 1000000000000
      split at big <;> simp_all <;> omega
    | txt x =>
      rw [ho] at hk st
      have hk : some Cd.s = some k := hk
      cases hk
      exact st
    | col n =>
      rw [ho] at hk
      obtain ⟨x, ex, fx⟩ := ev_cell h nd (colK_mem hk)
      rw [ex, un_cell]
      exact fx
  | t :: u :: e, hk, s =>
    have hk : (match sumK cs (t :: u :: e) with | some b => if b ≤ 1000000000000 then some (Cd.n b) else none | none => none) = some k := hk
    cases h1 : sumK cs (t :: u :: e) with
    | none => rw [h1] at hk; cases hk
    | some b =>
      rw [h1] at hk
      dsimp only at hk
      split at hk
      · rename_i hb
        cases hk
        obtain ⟨b1, b2⟩ := sumK_bound h nd h1
        exact ⟨b1, b2, hb⟩
      · cases hk
end Va
set_option Elab.async false
set_option linter.all false
set_option maxRecDepth 100000
set_option maxHeartbeats 4000000
namespace Va
open PySem PySem.Spec PyProof.Rows L2 Ind RowK
def kNN : Cd → Prop
  | .s => True
  | .n b => 0 ≤ b
structure ShOk (cs : List Col) (m : Int) : Prop where
  nd : (cs.map (·.1)).Nodup
  ne : cs ≠ []
  nn : ∀ p ∈ cs, kNN p.2
  sm : ∀ p ∈ cs, bigK p.2 = false
  m0 : 0 ≤ m
structure RlOk (cs : List Col) (m : Int) (r : Rl) : Prop where
  nm : r.1 = cs.map (·.1)
  fit : ∀ x ∈ r.2, rowFit cs x
  srt : SrtR r.2
  nd : r.2.Nodup
  len : (r.2.length : Int) ≤ m
theorem sized_some {cs : List Col} {m : Int} {s : Shp} (h : sized cs m = some s) : s = (cs, m) ∧ m ≤ 3000 ∧ ∀ p ∈ cs, bigK p.2 = false := by
  unfold sized at h
  split at h
  · cases h
  · rename_i h1
    split at h
    · cases h
    · rename_i h2
      cases h
      refine ⟨rfl, by omega, fun p hp => ?_⟩
      cases e : bigK p.2 with
      | false => rfl
      | true => exact absurd (List.any_eq_true.mpr ⟨p, hp, e⟩) h2
theorem gK_ex {α : Type} {f : α → Option Cd} {g : α → Tx} : ∀ {l : List α} {found ds : List Col}, gK f g l found = some ds → (found.map (·.1)).Nodup → (ds.map (·.1)).Nodup ∧ ∃ news : List Col, ds = found ++ news ∧ news.map (·.1) = l.map g ∧ ∀ (i : Nat) (p : α) (q : Col), l[i]? = some p → news[i]? = some q → f p = some q.2
  | [], found, ds, h, nd => by
    have h : some found = some ds := h
    cases h
    exact ⟨nd, [], by simp, rfl, fun i p q e => by simp at e⟩
  | p :: l, found, ds, h, nd => by
    unfold gK at h
    cases e : f p with
    | none => rw [e] at h; cases h
    | some k =>
      rw [e] at h
      dsimp only at h
      split at h
      · cases h
      · rename_i hm
        have nd2 : ((found ++ [(g p, k)]).map (·.1)).Nodup := by
          rw [List.map_append]
          exact List.nodup_append.mpr ⟨nd, by simp, fun a ha b hb eq => hm (memB_iff.mpr (by
            have : b = g p := by simpa using hb
            rw [← this, ← eq]; exact ha))⟩
        obtain ⟨a, news, rfl, e2, e3⟩ := gK_ex h nd2
        refine ⟨a, (g p, k) :: news, by simp, by rw [List.map_cons, List.map_cons, e2], fun i x q h1 h2 => ?_⟩
        cases i with
        | zero =>
          simp at h1 h2
          rw [← h1, ← h2]
          exact e
        | succ i =>
          simp at h1 h2
          exact e3 i x q h1 h2
theorem fit_app {cs ds : List Col} {r q : List Cell} (h1 : rowFit cs r) (h2 : rowFit ds q) : rowFit (cs ++ ds) (r ++ q) := by
  have l1 := h1.1
  have l2 := h2.1
  refine ⟨by rw [List.length_append, List.length_append]; omega, fun i x p e1 e2 => ?_⟩
  by_cases hi : i < r.length
  · rw [List.getElem?_append_left hi] at e1
    rw [List.getElem?_append_left (by omega)] at e2
    exact h1.2 i x p e1 e2
  · rw [List.getElem?_append_right (by omega)] at e1
    rw [List.getElem?_append_right (by omega), ← l1] at e2
    exact h2.2 _ x p e1 e2
theorem pick_fit {ds es : List Col} {q : List Cell} (h : rowFit ds q) (nd : (ds.map (·.1)).Nodup) (hm : ∀ p ∈ es, p ∈ ds) : rowFit es ((es.map (·.1)).map (atN q (ds.map (·.1)))) := by
  refine ⟨by rw [List.length_map, List.length_map], fun i x p e1 e2 => ?_⟩
  rw [List.map_map, List.getElem?_map, e2] at e1
  have e1 : some (atN q (ds.map (·.1)) p.1) = some x := e1
  cases e1
  exact fit_at h nd (hm p (List.mem_of_getElem? e2))
theorem sel_fit {cs news : List Col} {its : List It8} {r : List Cell} (h : rowFit cs r) (nd : (cs.map (·.1)).Nodup) (en : news.map (·.1) = its.map fun p => p.1) (hk : ∀ (i : Nat) (p : It8) (q : Col), its[i]? = some p → news[i]? = some q → exK cs p.2 = some q.2) (hs : ∀ p ∈ its, exS p.2) (hb : ∀ q ∈ news, bigK q.2 = false) : rowFit news (selR (cs.map (·.1)) its r) := by
  have el : news.length = its.length := by
    have := congrArg List.length en
    rwa [List.length_map, List.length_map] at this
  unfold selR
  refine ⟨by rw [List.length_map]; exact el.symm, fun i x q e1 e2 => ?_⟩
  rw [List.getElem?_map] at e1
  cases e : its[i]? with
  | none => rw [e] at e1; cases e1
  | some p =>
    rw [e] at e1
    have e1 : some (exC (cs.map (·.1)) p.2 r) = some x := e1
    cases e1
    exact exC_fit h nd (hk i p q e e2) (hs p (List.mem_of_getElem? e)) (hb q (List.mem_of_getElem? e2))
theorem sumB {b : Int} {l : List Cell} (h : ∀ c ∈ l, cellFit (.n b) c) : -(b * (l.length : Int)) ≤ (l.map intC).sum ∧ (l.map intC).sum ≤ b * (l.length : Int) := by
  induction l with
  | nil => simp
  | cons c l ih =>
    obtain ⟨h1, h2⟩ := ih fun d hd => h d (List.mem_cons_of_mem _ hd)
    have hc := h c List.mem_cons_self
    rw [List.map_cons, List.sum_cons, List.length_cons]
    have e : b * ((l.length + 1 : Nat) : Int) = b * (l.length : Int) + b := by
      rw [Int.natCast_add, Int.mul_add]
      simp
    rw [e]
    cases c with
    | inl i =>
      obtain ⟨a1, a2, a3⟩ := hc
      show _ ≤ i + _ ∧ i + _ ≤ _
      constructor <;> omega
    | inr x => exact hc.elim
theorem agg_fit {cs : List Col} {m : Int} {a : Ag} {k : Cd} {rows : List (List Cell)} (ha : agKd cs m a = some k) (nd : (cs.map (·.1)).Nodup) (nn : ∀ p ∈ cs, kNN p.2) (hr : ∀ r ∈ rows, rowFit cs r) (r0 : rows ≠ []) (hl : (rows.length : Int) ≤ m) (hb : bigK k = false) : cellFit k (a.val (cs.map (·.1)) rows) := by
  have col : ∀ (x : Tx) (k : Cd), colK cs x = some k → ∀ c ∈ valsN (cs.map (·.1)) x rows, cellFit k c := fun x k e c hc => by
    obtain ⟨r, h1, rfl⟩ := List.mem_map.mp hc
    exact fit_at (hr r h1) nd (colK_mem e)
  have n0 : ∀ x, valsN (cs.map (·.1)) x rows ≠ [] := fun x z => r0 (List.map_eq_nil_iff.mp z)
  cases a with
  | cnt n =>
    have ha : some (Cd.n m) = some k := ha
    cases ha
    have hb : decide (1000000000000 < m) = false := hb
    have hb := of_decide_eq_false hb
    show -m ≤ ((rows.length : Nat) : Int) ∧ ((rows.length : Nat) : Int) ≤ m ∧ m ≤ 1000000000000
    omega
  | su n x =>
    have ha : (match colK cs x with | some (.n b) => some (Cd.n (b * m)) | _ => none) = some k := ha
    cases hx : colK cs x with
    | none => rw [hx] at ha; cases ha
    | some k2 =>
      rw [hx] at ha
      cases k2 with
      | s => cases ha
      | n b =>
        cases ha
        have al := col x _ hx
        obtain ⟨s1, s2⟩ := sumB al
        have vl : (valsN (cs.map (·.1)) x rows).length = rows.length := by unfold valsN; rw [List.length_map]
        rw [vl] at s1 s2
        have b0 : 0 ≤ b := nn _ (colK_mem hx)
        have hb : decide (1000000000000 < b * m) = false := hb
        have hb := of_decide_eq_false hb
        have mo : b * (rows.length : Int) ≤ b * m := Int.mul_le_mul_of_nonneg_left hl b0
        show -(b * m) ≤ ((valsN (cs.map (·.1)) x rows).map intC).sum ∧ ((valsN (cs.map (·.1)) x rows).map intC).sum ≤ b * m ∧ b * m ≤ 1000000000000
        omega
  | mi n x =>
    have ha : colK cs x = some k := ha
    have al := col x _ ha
    have z := n0 x
    show cellFit k (headC minC (valsN (cs.map (·.1)) x rows))
    generalize valsN (cs.map (·.1)) x rows = l at al z ⊢
    match l, z with
    | c :: l, _ => exact al _ (minC_least l c).1
  | ma n x =>
    have ha : colK cs x = some k := ha
    have al := col x _ ha
    have z := n0 x
    show cellFit k (headC maxC (valsN (cs.map (·.1)) x rows))
    generalize valsN (cs.map (·.1)) x rows = l at al z ⊢
    match l, z with
    | c :: l, _ => exact al _ (maxC_most l c).1
end Va
set_option Elab.async false
set_option linter.all false
set_option maxRecDepth 100000
set_option maxHeartbeats 4000000
namespace Va
open PySem PySem.Spec PyProof.Rows L2 Ind RowK
theorem opK_nn {cs : List Col} (nn : ∀ p ∈ cs, kNN p.2) {o : Op} {k : Cd} (h : opK cs o = some k) : kNN k := by
  cases o with
  | num i =>
    have h : some (Cd.n (if 0 ≤ i then i else -i)) = some k := h
    cases h
    show 0 ≤ (if 0 ≤ i then i else -i)
    split <;> omega
  | txt x => cases h; trivial
  | col n => exact nn _ (colK_mem h)
theorem sumK_nn {cs : List Col} (nn : ∀ p ∈ cs, kNN p.2) : ∀ {e : Ex} {b : Int}, sumK cs e = some b → 0 ≤ b
  | [], b, h => by
    have h : some (0 : Int) = some b := h
    cases h
    exact Int.le_refl 0
  | t :: e, b, h => by
    unfold sumK at h
    cases h1 : opK cs t.2 with
    | none => rw [h1] at h; cases h
    | some k =>
      rw [h1] at h
      have k0 := opK_nn nn h1
      cases k with
      | s => cases h
      | n a =>
        cases h2 : sumK cs e with
        | none => rw [h2] at h; cases h
        | some b2 =>
          rw [h2] at h
          have h : some (a + b2) = some b := h
          cases h
          have := sumK_nn nn h2
          have k0 : 0 ≤ a := k0
          omega
theorem exK_nn {cs : List Col} (nn : ∀ p ∈ cs, kNN p.2) {e : Ex} {k : Cd} (h : exK cs e = some k) : kNN k := by
  have multi : ∀ e : Ex, (match sumK cs e with | some b => if b ≤ 1000000000000 then some (Cd.n b) else none | none => none) = some k → kNN k := fun e h => by
    cases h1 : sumK cs e with
    | none => rw [h1] at h; cases h
    | some b =>
      rw [h1] at h
      dsimp only at h
      split at h
      · cases h; exact sumK_nn nn h1
      · cases h
  match e, h with
  | [], h => exact multi [] h
  | [t], h => exact opK_nn nn h
  | t :: u :: e, h => exact multi (t :: u :: e) h
theorem agKd_nn {cs : List Col} (nn : ∀ p ∈ cs, kNN p.2) {m : Int} (m0 : 0 ≤ m) {a : Ag} {k : Cd} (h : agKd cs m a = some k) : kNN k := by
  cases a with
  | cnt n =>
    have h : some (Cd.n m) = some k := h
    cases h
    exact m0
  | su n x =>
    have h : (match colK cs x with | some (.n b) => some (Cd.n (b * m)) | _ => none) = some k := h
    cases hx : colK cs x with
    | none => rw [hx] at h; cases h
    | some k2 =>
      rw [hx] at h
      cases k2 with
      | s => cases h
      | n b =>
        cases h
        have b0 : 0 ≤ b := nn _ (colK_mem hx)
        exact Int.mul_nonneg b0 m0
  | mi n x => exact nn _ (colK_mem h)
  | ma n x => exact nn _ (colK_mem h)
theorem grpd_mem {g : List Cell → List Cell} {rs : List (List Cell)} {p : List Cell × List (List Cell)} (h : p ∈ grpd g rs) : (∃ r ∈ rs, g r = p.1) ∧ p.2 ≠ [] ∧ p.2.length ≤ rs.length ∧ ∀ q ∈ p.2, q ∈ rs ∧ g q = p.1 := by
  obtain ⟨k, hk, rfl⟩ := List.mem_map.mp h
  obtain ⟨r, hr, e⟩ := List.mem_map.mp (onc_mem0.mp hk)
  refine ⟨⟨r, hr, e⟩, fun z => ?_, List.length_filter_le _ _, fun q hq => ?_⟩
  · have : r ∈ rs.filter fun q => memB (g q) [k] := List.mem_filter.mpr ⟨hr, memB_iff.mpr (List.mem_singleton.mpr e)⟩
    have z : (rs.filter fun q => memB (g q) [k]) = [] := z
    rw [z] at this
    cases this
  · obtain ⟨h1, h2⟩ := List.mem_filter.mp hq
    exact ⟨h1, List.mem_singleton.mp (memB_iff.mp h2)⟩
theorem grpd_len (g : List Cell → List Cell) (rs : List (List Cell)) : (grpd g rs).length ≤ rs.length := by
  unfold grpd
  rw [List.length_map]
  have := onc_le (rs.map g) []
  simp at this
  omega
def qyS : Qy → Prop
  | .nm _ => True
  | .whr q _ => qyS q
  | .sel q its => qyS q ∧ its ≠ [] ∧ ∀ p ∈ its, exS p.2
  | .grp q _ as => qyS q ∧ as ≠ []
  | .two _ p q => qyS p ∧ qyS q
theorem sel_sound {cs ds : List Col} {m : Int} {its : List It8} {r : Rl} {s : Shp} (H : ShOk cs m) (R : RlOk cs m r) (h : selK cs its [] = some ds) (h2 : sized ds m = some s) (i0 : its ≠ []) (hs : ∀ p ∈ its, exS p.2) : ShOk s.1 s.2 ∧ RlOk s.1 s.2 (its.map (·.1), stR (r.2.map (selR r.1 its))) := by
  obtain ⟨rfl, _, hb⟩ := sized_some h2
  obtain ⟨nd, news, e1, en, hk⟩ := gK_ex h List.nodup_nil
  have e1 : ds = news := e1
  subst e1
  have nn : ∀ q ∈ ds, kNN q.2 := fun q hq => by
    obtain ⟨i, hi, e⟩ := List.mem_iff_getElem.mp hq
    have el := congrArg List.length en
    rw [List.length_map, List.length_map] at el
    have := hk i its[i] q (List.getElem?_eq_getElem (by omega)) (by rw [List.getElem?_eq_getElem hi, e])
    exact exK_nn H.nn this
  refine ⟨⟨nd, fun z => i0 ?_, nn, hb, H.m0⟩, ⟨en.symm, fun x hx => ?_, stR_srt _, stR_nd _, ?_⟩⟩
  · have el := congrArg List.length en
    have z : ds = [] := z
    rw [List.length_map, List.length_map, z] at el
    exact List.eq_nil_of_length_eq_zero el.symm
  · obtain ⟨y, hy, rfl⟩ := List.mem_map.mp (stR_mem.mp hx)
    rw [R.nm]
    exact sel_fit (R.fit y hy) H.nd en hk hs hb
  · have a := stR_len (r.2.map (selR r.1 its))
    rw [List.length_map] at a
    have b := R.len
    show ((stR _).length : Int) ≤ m
    omega
theorem grp_sound {cs found ds : List Col} {m : Int} {ks : List Tx} {as : List Ag} {r : Rl} {s : Shp} (H : ShOk cs m) (R : RlOk cs m r) (h : keyK cs ks [] = some found) (h1 : aggK cs m as found = some ds) (h2 : sized ds m = some s) (a0 : as ≠ []) : ShOk s.1 s.2 ∧ RlOk s.1 s.2 (ks ++ as.map Ag.nm, stR (madeR ks r.1 as r.2)) := by
  obtain ⟨rfl, _, hb⟩ := sized_some h2
  obtain ⟨nd1, nk, e1, en1, hk1⟩ := gK_ex h List.nodup_nil
  have e1 : found = nk := e1
  subst e1
  obtain ⟨nd, na, rfl, en, hk⟩ := gK_ex h1 nd1
  have en1 : found.map (·.1) = ks := by rw [en1, List.map_id']
  have fm : ∀ q ∈ found, q ∈ cs := fun q hq => by
    obtain ⟨i, hi, e⟩ := List.mem_iff_getElem.mp hq
    have el := congrArg List.length en1
    rw [List.length_map] at el
    have ek : ks[i]? = some q.1 := by
      rw [← en1, List.getElem?_map, List.getElem?_eq_getElem hi, e]
      rfl
    have := hk1 i q.1 q ek (by rw [List.getElem?_eq_getElem hi, e])
    exact colK_mem this
  have ela : na.length = as.length := by
    have := congrArg List.length en
    rwa [List.length_map, List.length_map] at this
  have nn : ∀ q ∈ found ++ na, kNN q.2 := fun q hq => by
    rcases List.mem_append.mp hq with hq | hq
    · exact H.nn q (fm q hq)
    · obtain ⟨i, hi, e⟩ := List.mem_iff_getElem.mp hq
      have := hk i as[i] q (List.getElem?_eq_getElem (by omega)) (by rw [List.getElem?_eq_getElem hi, e])
      exact agKd_nn H.nn H.m0 this
  have rl := R.len
  refine ⟨⟨nd, fun z => a0 ?_, nn, hb, H.m0⟩, ⟨by rw [List.map_append, en1, en], fun x hx => ?_, stR_srt _, stR_nd _, ?_⟩⟩
  · have : na = [] := (List.append_eq_nil_iff.mp z).2
    rw [this] at ela
    exact List.eq_nil_of_length_eq_zero ela.symm
  · obtain ⟨p, hp, rfl⟩ := List.mem_map.mp (stR_mem.mp hx)
    obtain ⟨⟨y, hy, ey⟩, p0, pl, pm⟩ := grpd_mem hp
    refine fit_app ?_ ?_
    · rw [← ey]
      unfold keyN
      rw [pickR_at, R.nm, ← en1]
      exact pick_fit (R.fit y hy) H.nd fm
    · refine ⟨by rw [List.length_map]; exact ela.symm, fun i c q e1 e2 => ?_⟩
      rw [List.getElem?_map] at e1
      cases e : as[i]? with
      | none => rw [e] at e1; cases e1
      | some a =>
        rw [e] at e1
        have e1 : some (a.val r.1 p.2) = some c := e1
        cases e1
        rw [R.nm]
        exact agg_fit (hk i a q e e2) H.nd H.nn (fun z hz => R.fit z (pm z hz).1) p0 (by omega) (hb q (List.mem_append_right _ (List.mem_of_getElem? e2)))
  · have a := stR_len (madeR ks r.1 as r.2)
    have b : (madeR ks r.1 as r.2).length ≤ r.2.length := by
      unfold madeR
      rw [List.length_map]
      exact grpd_len _ _
    show ((stR _).length : Int) ≤ m
    omega
end Va
set_option Elab.async false
set_option linter.all false
set_option maxRecDepth 100000
set_option maxHeartbeats 4000000
namespace Va
open PySem PySem.Spec PyProof.Rows L2 Ind RowK
theorem max_fit {a b : Cd} {c : Cell} (hw : b.w = a.w) (big : bigK (maxK a b) = false) (h : cellFit a c ∨ cellFit b c) : cellFit (maxK a b) c := by
  cases a with
  | s =>
    cases b with
    | s => rcases h with h | h <;> exact h
    | n b => exact absurd (show ("integer" : Tx) = "string" from hw) (by decide)
  | n a =>
    cases b with
    | s => exact absurd (show ("string" : Tx) = "integer" from hw) (by decide)
    | n b =>
      cases c with
      | inr x => rcases h with h | h <;> exact h.elim
      | inl i =>
        have big : decide (1000000000000 < (if b ≤ a then a else b)) = false := big
        have big := of_decide_eq_false big
        show -(if b ≤ a then a else b) ≤ i ∧ i ≤ (if b ≤ a then a else b) ∧ (if b ≤ a then a else b) ≤ 1000000000000
        rcases h with ⟨h1, h2, _⟩ | ⟨h1, h2, _⟩
        · split at big <;> simp_all <;> omega
        · split at big <;> simp_all <;> omega
theorem max_nn {a b : Cd} (h1 : kNN a) (h2 : kNN b) : kNN (maxK a b) := by
  cases a with
  | s => exact trivial
  | n a =>
    cases b with
    | s => exact h1
    | n b =>
      have h1 : 0 ≤ a := h1
      have h2 : 0 ≤ b := h2
      show 0 ≤ (if b ≤ a then a else b)
      split <;> omega
theorem filt_ok {cs : List Col} {m : Int} {r : Rl} (R : RlOk cs m r) (f : List Cell → Bool) : RlOk cs m (r.1, r.2.filter f) := by
  have := List.length_filter_le f r.2
  have l := R.len
  exact ⟨R.nm, fun x hx => R.fit x (List.mem_filter.mp hx).1, List.Pairwise.filter _ R.srt, R.nd.filter _, by show ((r.2.filter f).length : Int) ≤ m; omega⟩
theorem two_sound {w : Tw} {cs ds : List Col} {m n : Int} {r q : Rl} {s : Shp} (H : ShOk cs m) (R : RlOk cs m r) (G : ShOk ds n) (Q : RlOk ds n q) (h : twoK w cs m ds n = some s) : ShOk s.1 s.2 ∧ RlOk s.1 s.2 (joinR w r.1 q.1 r.2 q.2) := by
  have rl := R.len
  have ql := Q.len
  cases w with
  | uni =>
    have h : (if (ds.map fun p => (p.1, p.2.w)) = (cs.map fun p => (p.1, p.2.w)) then sized ((cs.zip ds).map fun p => (p.1.1, maxK p.1.2 p.2.2)) (m + n) else none) = some s := h
    split at h
    · rename_i e
      obtain ⟨rfl, _, hb⟩ := sized_some h
      have el : ds.length = cs.length := by
        have := congrArg List.length e
        rwa [List.length_map, List.length_map] at this
      have same : ∀ (i : Nat) (p q : Col), cs[i]? = some p → ds[i]? = some q → q.1 = p.1 ∧ q.2.w = p.2.w := fun i p q e1 e2 => by
        have := congrArg (fun l => l[i]?) e
        rw [List.getElem?_map, List.getElem?_map, e1, e2] at this
        have : some (q.1, q.2.w) = some (p.1, p.2.w) := this
        injection this with this
        injection this with a b
        exact ⟨a, b⟩
      have zg : ∀ (i : Nat) (z : Col), ((cs.zip ds).map fun p => (p.1.1, maxK p.1.2 p.2.2))[i]? = some z → ∃ p q, cs[i]? = some p ∧ ds[i]? = some q ∧ z = (p.1, maxK p.2 q.2) := fun i z e => by
        obtain ⟨p, ep, e2⟩ := map_get e
        obtain ⟨e3, e4⟩ := List.getElem?_zip_eq_some.mp ep
        exact ⟨p.1, p.2, e3, e4, e2⟩
      have en0 : ∀ zs : List Col, zs = ((cs.zip ds).map fun p => (p.1.1, maxK p.1.2 p.2.2)) → zs.map (·.1) = cs.map (·.1) := fun zs ez => by
        apply List.ext_getElem?
        intro i
        rw [List.getElem?_map, List.getElem?_map]
        cases e1 : cs[i]? with
        | none =>
          have : zs[i]? = none := by
            rw [ez]
            rw [List.getElem?_eq_none_iff] at e1 ⊢
            rw [List.length_map, List.length_zip]
            omega
          rw [this, Option.map_none]
        | some p =>
          have hi := (List.getElem?_eq_some_iff.mp e1).1
          have hz : i < zs.length := by rw [ez, List.length_map, List.length_zip]; omega
          obtain ⟨p2, q2, e3, e4, e5⟩ := zg i zs[i] (by rw [← ez]; exact List.getElem?_eq_getElem hz)
          rw [List.getElem?_eq_getElem hz, e5]
          rw [e1] at e3
          cases e3
          rfl
      have en := en0 _ rfl
      have lz : ((cs.zip ds).map fun p => ((p.1.1, maxK p.1.2 p.2.2) : Col)).length = cs.length := by rw [List.length_map, List.length_zip]; omega
      refine ⟨⟨by show (List.map _ _).Nodup; rw [en]; exact H.nd, fun z => H.ne ?_, fun z hz => ?_, hb, by have := H.m0; have := G.m0; show 0 ≤ m + n; omega⟩, ⟨by show r.1 = _; rw [en]; exact R.nm, fun x hx => ?_, stR_srt _, stR_nd _, ?_⟩⟩
      · have z := congrArg List.length z
        have z : ((cs.zip ds).map fun p => ((p.1.1, maxK p.1.2 p.2.2) : Col)).length = 0 := z
        exact List.eq_nil_of_length_eq_zero (by omega)
      · obtain ⟨i, hi, e1⟩ := List.mem_iff_getElem.mp hz
        obtain ⟨p, q, e3, e4, rfl⟩ := zg i z (by rw [List.getElem?_eq_getElem hi, e1])
        exact max_nn (H.nn p (List.mem_of_getElem? e3)) (G.nn q (List.mem_of_getElem? e4))
      · have key : ∀ x : List Cell, x.length = cs.length → (∀ (i : Nat) (c : Cell) (p q : Col), x[i]? = some c → cs[i]? = some p → ds[i]? = some q → cellFit p.2 c ∨ cellFit q.2 c) → rowFit ((cs.zip ds).map fun p => (p.1.1, maxK p.1.2 p.2.2)) x := fun x hl hx => by
          refine ⟨by rw [lz]; exact hl, fun i c z e1 e2 => ?_⟩
          obtain ⟨p, q, e3, e4, rfl⟩ := zg i z e2
          exact max_fit (same i p q e3 e4).2 (hb _ (List.mem_of_getElem? e2)) (hx i c p q e1 e3 e4)
        rcases List.mem_append.mp (stR_mem.mp hx) with hx | hx
        · have f := R.fit x hx
          exact key x f.1 fun i c p q e1 e2 _ => .inl (f.2 i c p e1 e2)
        · have f := Q.fit x hx
          exact key x (by rw [f.1, el]) fun i c p q e1 _ e2 => .inr (f.2 i c q e1 e2)
      · have a := stR_len (r.2 ++ q.2)
        rw [List.length_append] at a
        show ((stR _).length : Int) ≤ m + n
        omega
    · cases h
  | mnu =>
    have h : (if (ds.map fun p => (p.1, p.2.w)) = (cs.map fun p => (p.1, p.2.w)) then some (cs, m) else none) = some s := h
    split at h
    · cases h
      exact ⟨H, filt_ok R _⟩
    · cases h
  | joi =>
    have h : (if ds.all (fun p => match colK cs p.1 with | some k => decide (k.w = p.2.w) | none => true) then sized (cs ++ ds.filter fun p => !memB p.1 (cs.map (·.1))) (m * n) else none) = some s := h
    split at h
    · obtain ⟨rfl, _, hb⟩ := sized_some h
      have ef : furth r.1 q.1 = (ds.filter fun p => !memB p.1 (cs.map (·.1))).map (·.1) := by
        unfold furth
        rw [Q.nm, R.nm, List.filter_map]
        rfl
      have em : ∀ p ∈ ds.filter (fun p => !memB p.1 (cs.map (·.1))), p ∈ ds := fun p hp => (List.mem_filter.mp hp).1
      have mn : 0 ≤ m * n := Int.mul_nonneg H.m0 G.m0
      refine ⟨⟨?_, fun z => H.ne (List.append_eq_nil_iff.mp z).1, fun p hp => ?_, hb, mn⟩, ⟨by show r.1 ++ furth r.1 q.1 = List.map _ (_ ++ _); rw [List.map_append, ← ef, R.nm], fun x hx => ?_, stR_srt _, stR_nd _, ?_⟩⟩
      · show (List.map _ (_ ++ _)).Nodup
        rw [List.map_append]
        refine List.nodup_append.mpr ⟨H.nd, (List.filter_sublist.map _).nodup G.nd, fun a ha b hb e => ?_⟩
        obtain ⟨p, hp, rfl⟩ := List.mem_map.mp hb
        have := (List.mem_filter.mp hp).2
        rw [← e, memB_iff.mpr ha] at this
        cases this
      · rcases List.mem_append.mp hp with hp | hp
        · exact H.nn p hp
        · exact G.nn p (em p hp)
      · obtain ⟨y, hy, z, hz, _, rfl⟩ := mem_joined.mp (stR_mem.mp hx)
        refine fit_app (R.fit y hy) ?_
        rw [ef, Q.nm]
        exact pick_fit (Q.fit z hz) G.nd em
      · have a := stR_len (joined r.1 q.1 r.2 q.2)
        have b := joined_len (ns := r.1) (ms := q.1) (rs := r.2) (qs := q.2)
        have c : (r.2.length : Int) * (q.2.length : Int) ≤ m * n := Int.mul_le_mul rl ql (by omega) H.m0
        have d : ((r.2.length * q.2.length : Nat) : Int) = (r.2.length : Int) * (q.2.length : Int) := Int.natCast_mul _ _
        show ((stR _).length : Int) ≤ m * n
        omega
    · cases h
  | mat =>
    have h : (if ds.all (fun p => match colK cs p.1 with | some k => decide (k.w = p.2.w) | none => true) then some (cs, m) else none) = some s := h
    split at h
    · cases h
      exact ⟨H, filt_ok R _⟩
    · cases h
  | wou =>
    have h : (if ds.all (fun p => match colK cs p.1 with | some k => decide (k.w = p.2.w) | none => true) then some (cs, m) else none) = some s := h
    split at h
    · cases h
      exact ⟨H, filt_ok R _⟩
    · cases h
def ShsOk (sh : List (Tx × Shp)) (rl : List (Tx × Rl)) : Prop := ∀ (x : Tx) (s : Shp), (sh.find? fun p => decide (p.1 = x)).map (·.2) = some s → ShOk s.1 s.2 ∧ ∃ r, (rl.find? fun p => decide (p.1 = x)).map (·.2) = some r ∧ RlOk s.1 s.2 r
theorem sound {sh : List (Tx × Shp)} {rl : List (Tx × Rl)} (hs : ShsOk sh rl) : ∀ (q : Qy) (s : Shp), tyQ sh q = some s → qyS q → ShOk s.1 s.2 ∧ RlOk s.1 s.2 (ansR rl q)
  | .nm x, s, h, _ => by
    obtain ⟨a, r, e, b⟩ := hs x s h
    refine ⟨a, ?_⟩
    show RlOk s.1 s.2 (((rl.find? fun p => decide (p.1 = x)).map (·.2)).getD ([], []))
    rw [e]
    exact b
  | .whr q F, s, h, hq => by
    have h : (match tyQ sh q with | some (cs, m) => if fmK cs F = true then some (cs, m) else none | none => none) = some s := h
    cases e : tyQ sh q with
    | none => rw [e] at h; cases h
    | some t =>
      obtain ⟨cs, m⟩ := t
      rw [e] at h
      dsimp only at h
      split at h
      · cases h
        obtain ⟨a, b⟩ := sound hs q _ e hq
        exact ⟨a, filt_ok b _⟩
      · cases h
  | .sel q its, s, h, hq => by
    have h : (match tyQ sh q with | some (cs, m) => (match selK cs its [] with | some ds => sized ds m | none => none) | none => none) = some s := h
    cases e : tyQ sh q with
    | none => rw [e] at h; cases h
    | some t =>
      obtain ⟨cs, m⟩ := t
      rw [e] at h
      dsimp only at h
      obtain ⟨a, b⟩ := sound hs q _ e hq.1
      cases e2 : selK cs its [] with
      | none => rw [e2] at h; cases h
      | some ds =>
        rw [e2] at h
        exact sel_sound a b e2 h hq.2.1 hq.2.2
  | .grp q ks as, s, h, hq => by
    have h : (match tyQ sh q with | some (cs, m) => (match keyK cs ks [] with | some found => (match aggK cs m as found with | some ds => sized ds m | none => none) | none => none) | none => none) = some s := h
    cases e : tyQ sh q with
    | none => rw [e] at h; cases h
    | some t =>
      obtain ⟨cs, m⟩ := t
      rw [e] at h
      dsimp only at h
      obtain ⟨a, b⟩ := sound hs q _ e hq.1
      cases e2 : keyK cs ks [] with
      | none => rw [e2] at h; cases h
      | some found =>
        rw [e2] at h
        dsimp only at h
        cases e3 : aggK cs m as found with
        | none => rw [e3] at h; cases h
        | some ds =>
          rw [e3] at h
          exact grp_sound a b e2 e3 h hq.2
  | .two w p q, s, h, hq => by
    have h : (match tyQ sh p, tyQ sh q with | some (cs, m), some (ds, n) => twoK w cs m ds n | _, _ => none) = some s := h
    cases e : tyQ sh p with
    | none => rw [e] at h; cases h
    | some t =>
      obtain ⟨cs, m⟩ := t
      rw [e] at h
      cases e2 : tyQ sh q with
      | none => rw [e2] at h; cases h
      | some u =>
        obtain ⟨ds, n⟩ := u
        rw [e2] at h
        dsimp only at h
        obtain ⟨a, b⟩ := sound hs p _ e hq.1
        obtain ⟨c, d⟩ := sound hs q _ e2 hq.2
        exact two_sound a b c d h
end Va
set_option Elab.async false
set_option linter.all false
set_option maxRecDepth 100000
set_option maxHeartbeats 4000000
namespace Va
open PySem PySem.Spec PyProof.Rows L2 Ind RowK
def Qy.wid : Qy → Nat
  | .nm _ => 4
  | .whr q _ => q.wid
  | .sel _ its => its.length
  | .grp _ ks as => ks.length + as.length
  | .two .joi p q => p.wid + q.wid
  | .two _ p _ => p.wid
def ShsS (sh : List (Tx × Shp)) : Prop := ∀ (x : Tx) (s : Shp), (sh.find? fun p => decide (p.1 = x)).map (·.2) = some s → s.1.length ≤ 4 ∧ s.2 ≤ 3000
end Va
set_option Elab.async false
set_option linter.all false
set_option maxRecDepth 100000
set_option maxHeartbeats 4000000
namespace Va
open PySem PySem.Spec PyProof.Rows L2 Ind RowK
theorem inv_whr {sh : List (Tx × Shp)} {q : Qy} {F : Fm} {s : Shp} (h : tyQ sh (.whr q F) = some s) : tyQ sh q = some s ∧ fmK s.1 F = true := by
  have h : (match tyQ sh q with | some (cs, m) => if fmK cs F = true then some (cs, m) else none | none => none) = some s := h
  cases e : tyQ sh q with
  | none => rw [e] at h; cases h
  | some t =>
    obtain ⟨cs, m⟩ := t
    rw [e] at h
    dsimp only at h
    split at h
    · rename_i hf
      cases h
      exact ⟨rfl, hf⟩
    · cases h
theorem inv_sel {sh : List (Tx × Shp)} {q : Qy} {its : List It8} {s : Shp} (h : tyQ sh (.sel q its) = some s) : ∃ t ds, tyQ sh q = some t ∧ selK t.1 its [] = some ds ∧ sized ds t.2 = some s := by
  have h : (match tyQ sh q with | some (cs, m) => (match selK cs its [] with | some ds => sized ds m | none => none) | none => none) = some s := h
  cases e : tyQ sh q with
  | none => rw [e] at h; cases h
  | some t =>
    obtain ⟨cs, m⟩ := t
    rw [e] at h
    dsimp only at h
    cases e2 : selK cs its [] with
    | none => rw [e2] at h; cases h
    | some ds =>
      rw [e2] at h
      exact ⟨_, ds, rfl, e2, h⟩
theorem inv_grp {sh : List (Tx × Shp)} {q : Qy} {ks : List Tx} {as : List Ag} {s : Shp} (h : tyQ sh (.grp q ks as) = some s) : ∃ t found ds, tyQ sh q = some t ∧ keyK t.1 ks [] = some found ∧ aggK t.1 t.2 as found = some ds ∧ sized ds t.2 = some s := by
  have h : (match tyQ sh q with | some (cs, m) => (match keyK cs ks [] with | some found => (match aggK cs m as found with | some ds => sized ds m | none => none) | none => none) | none => none) = some s := h
  cases e : tyQ sh q with
  | none => rw [e] at h; cases h
  | some t =>
    obtain ⟨cs, m⟩ := t
    rw [e] at h
    dsimp only at h
    cases e2 : keyK cs ks [] with
    | none => rw [e2] at h; cases h
    | some found =>
      rw [e2] at h
      dsimp only at h
      cases e3 : aggK cs m as found with
      | none => rw [e3] at h; cases h
      | some ds =>
        rw [e3] at h
        exact ⟨_, found, ds, rfl, e2, e3, h⟩
theorem inv_two {sh : List (Tx × Shp)} {w : Tw} {p q : Qy} {s : Shp} (h : tyQ sh (.two w p q) = some s) : ∃ t u, tyQ sh p = some t ∧ tyQ sh q = some u ∧ twoK w t.1 t.2 u.1 u.2 = some s := by
  have h : (match tyQ sh p, tyQ sh q with | some (cs, m), some (ds, n) => twoK w cs m ds n | _, _ => none) = some s := h
  cases e : tyQ sh p with
  | none => rw [e] at h; cases h
  | some t =>
    obtain ⟨cs, m⟩ := t
    rw [e] at h
    cases e2 : tyQ sh q with
    | none => rw [e2] at h; cases h
    | some u =>
      obtain ⟨ds, n⟩ := u
      rw [e2] at h
      exact ⟨_, _, rfl, rfl, h⟩
end Va
set_option Elab.async false
set_option linter.all false
namespace Va
open PySem PySem.Spec PyProof.Rows L2 Ind
def nL (x : Tx) : Prop := x.length ≤ 20 ∧ (x.length ≤ 4 ∨ 14 ≤ x.length)
end Va
set_option Elab.async false
set_option linter.all false
set_option maxRecDepth 100000
set_option maxHeartbeats 4000000
namespace Va
open PySem PySem.Spec PyProof.Rows L2 Ind RowK
def tD (x : Tx) : Prop := tOk x ∧ nL x
structure CsW (cs : List Col) : Prop where
  nd : (cs.map (·.1)).Nodup
  tk : ∀ p ∈ cs, tOk p.1
  nn : ∀ p ∈ cs, kNN p.2
  sm : ∀ p ∈ cs, bigK p.2 = false
  len : cs.length ≤ 100
  tl : ∀ p ∈ cs, p.1.length ≤ 20
structure CsOk (cs : List Col) : Prop where
  nd : (cs.map (·.1)).Nodup
  tk : ∀ p ∈ cs, tOk p.1
  nn : ∀ p ∈ cs, kNN p.2
  sm : ∀ p ∈ cs, bigK p.2 = false
  len : cs.length ≤ 100
  tl : ∀ p ∈ cs, nL p.1
end Va
set_option Elab.async false
set_option linter.all false
set_option maxRecDepth 100000
set_option maxHeartbeats 4000000
namespace Va
open PySem PySem.Spec PyProof.Rows L2 Ind RowK
def Qy.named : Qy → List Tx
  | .nm x => [x]
  | .whr q _ => q.named
  | .sel q _ => q.named
  | .grp q _ _ => q.named
  | .two _ p q => p.named ++ q.named
def Qy.sides : Qy → List Tx × List Tx
  | .nm x => ([x], [])
  | .whr q _ => q.sides
  | .sel q _ => q.sides
  | .grp q _ _ => (q.named, q.named)
  | .two .mnu p q => (p.sides.1 ++ q.sides.2, p.sides.2 ++ q.sides.1)
  | .two .wou p q => (p.sides.1 ++ q.sides.2, p.sides.2 ++ q.sides.1)
  | .two _ p q => (p.sides.1 ++ q.sides.1, p.sides.2 ++ q.sides.2)
def getR (rl : List (Tx × Rl)) (x : Tx) : Rl := ((rl.find? fun p => decide (p.1 = x)).map (·.2)).getD ([], [])
def leR (rl rl' : List (Tx × Rl)) (x : Tx) : Prop := ∀ r ∈ (getR rl x).2, r ∈ (getR rl' x).2
theorem sides_named : ∀ (q : Qy) (x : Tx), x ∈ q.sides.1 ∨ x ∈ q.sides.2 → x ∈ q.named
  | .nm y, x, h => by
    rcases h with h | h
    · exact h
    · cases h
  | .whr q _, x, h => sides_named q x h
  | .sel q _, x, h => sides_named q x h
  | .grp q _ _, x, h => by rcases h with h | h <;> exact h
  | .two w p q, x, h => by
    have ip := sides_named p x
    have iq := sides_named q x
    show x ∈ p.named ++ q.named
    rw [List.mem_append]
    cases w <;> (simp only [Qy.sides, List.mem_append] at h; rcases h with (h | h) | (h | h) <;> first | exact .inl (ip (.inl h)) | exact .inl (ip (.inr h)) | exact .inr (iq (.inl h)) | exact .inr (iq (.inr h)))
theorem mono {sh : List (Tx × Shp)} : ∀ (q : Qy) (s : Shp) (rl rl' : List (Tx × Rl)), ShsOk sh rl → ShsOk sh rl' → tyQ sh q = some s → qyS q → (∀ x ∈ q.sides.1, leR rl rl' x) → (∀ x ∈ q.sides.2, leR rl' rl x) → ∀ r ∈ (ansR rl q).2, r ∈ (ansR rl' q).2
  | .nm x, s, rl, rl', hs, hs', ht, hq, hp, hn, r, hr => hp x (List.mem_singleton.mpr rfl) r hr
  | .whr q F, s, rl, rl', hs, hs', ht, hq, hp, hn, r, hr => by
    obtain ⟨et, _⟩ := inv_whr ht
    obtain ⟨_, R⟩ := sound hs q _ et hq
    obtain ⟨_, R'⟩ := sound hs' q _ et hq
    have hr : r ∈ (ansR rl q).2.filter fun r => F.tr (ansR rl q).1 (r.map cellD) := hr
    show r ∈ (ansR rl' q).2.filter fun r => F.tr (ansR rl' q).1 (r.map cellD)
    rw [R.nm] at hr
    rw [R'.nm]
    obtain ⟨a, b⟩ := List.mem_filter.mp hr
    exact List.mem_filter.mpr ⟨mono q s rl rl' hs hs' et hq hp hn r a, b⟩
  | .sel q its, s, rl, rl', hs, hs', ht, hq, hp, hn, r, hr => by
    obtain ⟨t, ds, et, _, _⟩ := inv_sel ht
    obtain ⟨_, R⟩ := sound hs q _ et hq.1
    obtain ⟨_, R'⟩ := sound hs' q _ et hq.1
    have hr : r ∈ stR ((ansR rl q).2.map (selR (ansR rl q).1 its)) := hr
    show r ∈ stR ((ansR rl' q).2.map (selR (ansR rl' q).1 its))
    rw [R.nm] at hr
    rw [R'.nm]
    obtain ⟨y, hy, e⟩ := List.mem_map.mp (stR_mem.mp hr)
    exact stR_mem.mpr (List.mem_map.mpr ⟨y, mono q t rl rl' hs hs' et hq.1 hp hn y hy, e⟩)
  | .grp q ks as, s, rl, rl', hs, hs', ht, hq, hp, hn, r, hr => by
    obtain ⟨t, found, ds, et, _, _, _⟩ := inv_grp ht
    obtain ⟨_, R⟩ := sound hs q _ et hq.1
    obtain ⟨_, R'⟩ := sound hs' q _ et hq.1
    have hp : ∀ x ∈ q.named, leR rl rl' x := hp
    have hn : ∀ x ∈ q.named, leR rl' rl x := hn
    have s1 := fun x h => sides_named q x (.inl h)
    have s2 := fun x h => sides_named q x (.inr h)
    have same : (ansR rl q).2 = (ansR rl' q).2 := srtR_one R.srt R'.srt ((List.perm_ext_iff_of_nodup R.nd R'.nd).mpr fun a => ⟨mono q t rl rl' hs hs' et hq.1 (fun x h => hp x (s1 x h)) (fun x h => hn x (s2 x h)) a, mono q t rl' rl hs' hs et hq.1 (fun x h => hn x (s1 x h)) (fun x h => hp x (s2 x h)) a⟩)
    have hr : r ∈ stR (madeR ks (ansR rl q).1 as (ansR rl q).2) := hr
    show r ∈ stR (madeR ks (ansR rl' q).1 as (ansR rl' q).2)
    rw [R.nm, same] at hr
    rw [R'.nm]
    exact hr
  | .two w p q, s, rl, rl', hs, hs', ht, hq, hp, hn, r, hr => by
    obtain ⟨t, u, et, eu, _⟩ := inv_two ht
    obtain ⟨_, R⟩ := sound hs p _ et hq.1
    obtain ⟨_, R'⟩ := sound hs' p _ et hq.1
    obtain ⟨_, G⟩ := sound hs q _ eu hq.2
    obtain ⟨_, G'⟩ := sound hs' q _ eu hq.2
    have mp := mono p t rl rl' hs hs' et hq.1
    have mq := mono q u rl rl' hs hs' eu hq.2
    have mq' := mono q u rl' rl hs' hs eu hq.2
    have hr : r ∈ (joinR w (ansR rl p).1 (ansR rl q).1 (ansR rl p).2 (ansR rl q).2).2 := hr
    show r ∈ (joinR w (ansR rl' p).1 (ansR rl' q).1 (ansR rl' p).2 (ansR rl' q).2).2
    rw [R.nm, G.nm] at hr
    rw [R'.nm, G'.nm]
    generalize t.1.map (·.1) = ns at hr ⊢
    generalize u.1.map (·.1) = ms at hr ⊢
    cases w with
    | joi =>
      have mp := mp (fun x h => hp x (List.mem_append_left _ h)) (fun x h => hn x (List.mem_append_left _ h))
      have mq := mq (fun x h => hp x (List.mem_append_right _ h)) (fun x h => hn x (List.mem_append_right _ h))
      obtain ⟨a, ha, b, hb, ag, e⟩ := mem_joined.mp (stR_mem.mp hr)
      exact stR_mem.mpr (mem_joined.mpr ⟨a, mp a ha, b, mq b hb, ag, e⟩)
    | uni =>
      have mp := mp (fun x h => hp x (List.mem_append_left _ h)) (fun x h => hn x (List.mem_append_left _ h))
      have mq := mq (fun x h => hp x (List.mem_append_right _ h)) (fun x h => hn x (List.mem_append_right _ h))
      refine stR_mem.mpr ?_
      rcases List.mem_append.mp (stR_mem.mp hr) with h | h
      · exact List.mem_append_left _ (mp r h)
      · exact List.mem_append_right _ (mq r h)
    | mat =>
      have mp := mp (fun x h => hp x (List.mem_append_left _ h)) (fun x h => hn x (List.mem_append_left _ h))
      have mq := mq (fun x h => hp x (List.mem_append_right _ h)) (fun x h => hn x (List.mem_append_right _ h))
      obtain ⟨a, b⟩ := List.mem_filter.mp hr
      refine List.mem_filter.mpr ⟨mp r a, ?_⟩
      cases e : mates ns ms r (ansR rl q).2 with
      | nil => rw [e] at b; cases b
      | cons y l =>
        have hy : y ∈ mates ns ms r (ansR rl q).2 := by rw [e]; exact List.mem_cons_self
        obtain ⟨y1, y2⟩ := mem_mates.mp hy
        have hz := mem_mates.mpr (And.intro (mq y y1) y2)
        cases e2 : mates ns ms r (ansR rl' q).2 with
        | nil => rw [e2] at hz; cases hz
        | cons _ _ => rfl
    | mnu =>
      have mp := mp (fun x h => hp x (List.mem_append_left _ h)) (fun x h => hn x (List.mem_append_left _ h))
      have mq' := mq' (fun x h => hn x (List.mem_append_right _ h)) (fun x h => hp x (List.mem_append_right _ h))
      obtain ⟨a, b⟩ := List.mem_filter.mp hr
      refine List.mem_filter.mpr ⟨mp r a, ?_⟩
      cases e : memB r (ansR rl' q).2 with
      | false => rfl
      | true =>
        rw [memB_iff.mpr (mq' r (memB_iff.mp e))] at b
        cases b
    | wou =>
      have mp := mp (fun x h => hp x (List.mem_append_left _ h)) (fun x h => hn x (List.mem_append_left _ h))
      have mq' := mq' (fun x h => hn x (List.mem_append_right _ h)) (fun x h => hp x (List.mem_append_right _ h))
      obtain ⟨a, b⟩ := List.mem_filter.mp hr
      refine List.mem_filter.mpr ⟨mp r a, ?_⟩
      cases e : mates ns ms r (ansR rl' q).2 with
      | nil => rfl
      | cons y l =>
        have hy : y ∈ mates ns ms r (ansR rl' q).2 := by rw [e]; exact List.mem_cons_self
        obtain ⟨y1, y2⟩ := mem_mates.mp hy
        have hz := mem_mates.mpr (And.intro (mq' y y1) y2)
        cases e2 : mates ns ms r (ansR rl q).2 with
        | nil => rw [e2] at hz; cases hz
        | cons _ _ => rw [e2] at b; cases b
structure ShT (s : Shp) : Prop where
  ok : ShOk s.1 s.2
  len : s.1.length ≤ 4
  few : s.2 ≤ 3000
  tk : ∀ p ∈ s.1, tD p.1
def ShsT (sh : List (Tx × Shp)) : Prop := ∀ (x : Tx) (s : Shp), (sh.find? fun p => decide (p.1 = x)).map (·.2) = some s → ShT s
theorem ShsT.none {sh : List (Tx × Shp)} (T : ShsT sh) : ShsOk sh (sh.map fun p => (p.1, p.2.1.map (·.1), [])) := fun x s h => by
  refine ⟨(T x s h).ok, (s.1.map (·.1), []), ?_, ⟨rfl, (fun _ h => nomatch h), .nil, List.nodup_nil, (T x s h).ok.m0⟩⟩
  rw [List.find?_map]
  cases e : sh.find? fun p => decide (p.1 = x) with
  | none => rw [e] at h; cases h
  | some p =>
    rw [e] at h
    cases h
    have e2 : List.find? ((fun p : Tx × Rl => decide (p.1 = x)) ∘ fun p : Tx × Shp => (p.1, p.2.1.map (·.1), ([] : List (List Cell)))) sh = some p := e
    rw [e2]
    rfl
theorem ShsT.small {sh : List (Tx × Shp)} (T : ShsT sh) : ShsS sh := fun x s h => ⟨(T x s h).len, (T x s h).few⟩
end Va
set_option Elab.async false
set_option linter.all false
set_option maxRecDepth 100000
set_option maxHeartbeats 4000000
namespace Va
open PySem PySem.Spec PyProof.Rows L2 Ind RowK
def cwD (p : Col) : D := .tup [.str p.1, .str p.2.w]
end Va
set_option Elab.async false
set_option linter.all false
set_option maxRecDepth 100000
set_option maxHeartbeats 4000000
namespace Va
open PySem PySem.Spec PyProof.Rows L2 Ind RowK
def ShowsW (d : D) : Prop := SeqAt.shaped d.pd = true ∧ d.pd.showable = true ∧ d.pd.hasDict = false ∧ d.pd.depth ≤ 60 ∧ d.pd.shown.length ≤ 16000000
structure Sm16 (d : PyData) (k m : Nat) : Prop where
  lay : d.canLay0 = true
  sho : d.showable = true
  nod : d.hasDict = false
  dep : d.depth ≤ k
  leaf : d.leavesShort 16 = true
  bulk : d.bulk ≤ m
theorem Sm16.mono {d : PyData} {k m k' m' : Nat} (s : Sm16 d k m) (hk : k ≤ k') (hm : m ≤ m') : Sm16 d k' m' := ⟨s.lay, s.sho, s.nod, Nat.le_trans s.dep hk, s.leaf, Nat.le_trans s.bulk hm⟩
theorem Sm16.shows {d : D} {k m : Nat} (s : Sm16 d.pd k m) (hk : k ≤ 10) (hm : m ≤ 800000) : ShowsW d := by
  have h1 := PyData.shown_le_bulk 16 (by decide) d.pd s.leaf
  have h2 := s.bulk
  have h3 := s.dep
  refine ⟨?_, s.sho, s.nod, by omega, by omega⟩
  simp [SeqAt.shaped, s.lay]
  omega
section
variable {X : Cx} {S : Sg}
end
end Va
set_option Elab.async false
set_option linter.all false
set_option maxRecDepth 100000
set_option maxHeartbeats 4000000
namespace Va
open PySem PySem.Spec PyProof.Rows L2 Ind RowK
section
variable {α κ : Type} [DecidableEq κ]
end
end Va
set_option Elab.async false
set_option linter.all false
set_option maxRecDepth 100000
set_option maxHeartbeats 4000000
namespace Va
open PySem PySem.Spec PyProof.Rows L2 Ind RowK
section
variable {sh : List (Tx × Shp)} {rl : List (Tx × Rl)} {q o : Qy} {s u : Shp}
structure TwoOk (rl : List (Tx × Rl)) (q o : Qy) (cs ds : List Col) : Prop where
  n1 : (ansR rl q).1 = cs.map (·.1)
  n2 : (ansR rl o).1 = ds.map (·.1)
  d1 : (cs.map (·.1)).Nodup
  d2 : (ds.map (·.1)).Nodup
  l1 : ∀ r ∈ (ansR rl q).2, r.length = (cs.map (·.1)).length
  l2 : ∀ r ∈ (ansR rl o).2, r.length = (ds.map (·.1)).length
variable {cs ds : List Col} (W : TwoOk rl q o cs ds)
include W
omit W
include W
end
end Va
set_option Elab.async false
set_option linter.all false
set_option maxRecDepth 100000
set_option maxHeartbeats 4000000
namespace Va
open PySem PySem.Spec PyProof.Rows L2 Ind RowK
section
variable {ns ks fs : List Tx} {rs : List (List Cell)} {b : Bool} {y1 y2 : Tx}
end
end Va
set_option Elab.async false
set_option linter.all false
set_option maxRecDepth 100000
set_option maxHeartbeats 4000000
namespace Va
open PySem PySem.Spec PyProof.Rows L2 Ind RowK
section
variable {sh : List (Tx × Shp)} {q : Qy} {t : Shp}
end
end Va
set_option Elab.async false
set_option linter.all false
set_option maxRecDepth 100000
set_option maxHeartbeats 4000000
namespace Va
open PySem PySem.Spec PyProof.Rows L2 Ind RowK
end Va
set_option Elab.async false
set_option linter.all false
set_option maxRecDepth 100000
set_option maxHeartbeats 4000000
namespace Va
open PySem PySem.Spec PyProof.Rows L2 Ind RowK
section
variable {X : Cx} {S : Sg}
end
end Va
set_option Elab.async false
set_option linter.all false
set_option maxRecDepth 100000
set_option maxHeartbeats 4000000
namespace Va
open PySem PySem.Spec PyProof.Rows L2 Ind RowK
section
variable {X : Cx} {S : Sg}
variable {kx vx tg iter : Expr} {ifs : List Expr} {scope : Scope} {own : List (PySem.Str × Nat)} {pos : Pos} {vi : VI} {g : VG} {c : VTT} {tk tv : VT}
end
end Va
set_option Elab.async false
set_option linter.all false
set_option maxRecDepth 100000
set_option maxHeartbeats 4000000
namespace Va
open PySem PySem.Spec PyProof.Rows L2 Ind
section
variable {X : Cx} {S : Sg} {t : VT}
end
end Va
set_option Elab.async false
set_option linter.all false
set_option maxRecDepth 100000
set_option maxHeartbeats 4000000
namespace Va
open PySem PySem.Spec PyProof.Rows L2 Ind RowK
section
variable {X : Cx} {S : Sg} {o : Expr} {p pos apos cpos : Pos}
end
end Va
set_option Elab.async false
set_option linter.all false
set_option maxRecDepth 100000
set_option maxHeartbeats 4000000
namespace Va
open PySem PySem.Spec PyProof.Rows L2 Ind RowK
section
variable {X : Cx} {S : Sg} {o : Expr} {apos cpos tpos : Pos}
end
end Va
set_option Elab.async false
set_option linter.all false
set_option maxRecDepth 100000
set_option maxHeartbeats 4000000
namespace Va
open PySem PySem.Spec PyProof.Rows L2 Ind RowK
section
variable {X : Cx} {S : Sg} {e a b : Expr}
end
end Va
set_option Elab.async false
set_option linter.all false
set_option maxRecDepth 100000
set_option maxHeartbeats 4000000
namespace L2
open PySem PySem.Spec PyProof.Rows
section
variable {X : Cx} {o i value : Expr} {td ty tv : TE} {pos' pos : Pos}
end
end L2
namespace Va
open PySem PySem.Spec PyProof.Rows L2 Ind RowK
section
variable {X : Cx} {S : Sg} {o : Expr} {p0 cpos : Pos}
end
section
variable {X : Cx} {S : Sg} {iter ox key : Expr} {rest : List Stmt} {i j : Nat} {x t : PySem.Str} {vi : VI} {tk : VT} {u : VS} {p1 p2 p3 p4 spos epos fpos bp : Pos} {bv : Bool} {bj : Nat}
end
end Va
set_option Elab.async false
set_option linter.all false
set_option maxRecDepth 100000
set_option maxHeartbeats 4000000
namespace Va
open PySem PySem.Spec PyProof.Rows L2 Ind RowK
section
variable {X : Cx} {S : Sg} {iter ox key kn gn nt : Expr} {rest : List Stmt} {i j jk jg : Nat} {x t xk xg : PySem.Str} {vi : VI} {tk : VT} {u : VS} {p1 p2 p3 p4 p5 p6 p7 p8 lpos apos cpos apos2 cpos2 epos fpos : Pos}
end
end Va
set_option Elab.async false
set_option linter.all false
set_option maxRecDepth 100000
set_option maxHeartbeats 4000000
namespace L2
open PySem PySem.Spec PyProof.Rows
section
variable {P : Program} {w : World} {K : PySem.W.Frag} {d : Addr} {o : Obj} {es : Array DictEntry} {ep : Nat} {xs : List (List Key × Addr × Value)} {tg : Expr}
end
section
variable {X : Cx} {tg e o i : Expr} {td ty : TE} {pos : Pos}
end
end L2
namespace Va
open PySem PySem.Spec PyProof.Rows L2 Ind RowK
section
variable {X : Cx} {S : Sg} {o e tg : Expr} {pos : Pos}
end
end Va
set_option Elab.async false
set_option linter.all false
set_option maxRecDepth 100000
set_option maxHeartbeats 4000000
namespace Va
open PySem PySem.Spec PyProof.Rows L2 Ind
theorem RpL.strs {K : PySem.W.Frag} {tp : Option Tp} {H : Hp} : ∀ {ys : List Tx} {vs : List V}, RpL K tp H vs (ys.map .str) → vs = ys.map V.str
  | [], _, h => by cases h; rfl
  | y :: ys, _, h => by
    cases h with
    | cons h1 h2 => cases h1; rw [RpL.strs h2]; rfl
section
variable {X : Cx} {S : Sg} {o a b : Expr} {t : VT} {ta : VTA} {apos cpos : Pos}
end
end Va
set_option Elab.async false
set_option linter.all false
set_option maxRecDepth 100000
set_option maxHeartbeats 4000000
namespace Va
open PySem PySem.Spec PyProof.Rows L2 Ind
def cl (x : Tx) : List Nat := x.cps.toList
def chLet : Tx := "abcdefghijklmnopqrstuvwxyz"
def chDig : Tx := "0123456789"
def chWrd : Tx := "abcdefghijklmnopqrstuvwxyz_0123456789"
def chBln : Tx := " \n"
def symbs : List Tx := ["!=", "<=", ">=", "(", ")", ",", ";", "|", "=", "<", ">", "+", "-", ":"]
inductive Tk where
  | wd (x : Tx)
  | nu (n : Int) (x : Tx)
  | st (x : Tx)
  | sy (x : Tx)
def quo (l : List Nat) : List Nat := l.flatMap fun c => if c = 39 then [39, 39] else [c]
def Tk.cl : Tk → List Nat
  | .wd x => Va.cl x
  | .nu _ x => Va.cl x
  | .st x => 39 :: (quo (Va.cl x) ++ [39])
  | .sy x => Va.cl x
def Tk.kind : Tk → Tx
  | .wd _ => "word"
  | .nu _ _ => "number"
  | .st _ => "string"
  | .sy _ => "symbol"
def Tk.val : Tk → D
  | .wd x => .str x
  | .nu n _ => .int n
  | .st x => .str x
  | .sy x => .str x
def Tk.ok : Tk → Prop
  | .wd x => (∃ c r, Va.cl x = c :: r ∧ c ∈ Va.cl chLet) ∧ (∀ c ∈ Va.cl x, c ∈ Va.cl chWrd) ∧ x.length ≤ 16
  | .nu n x => Va.cl x ≠ [] ∧ (∀ c ∈ Va.cl x, c ∈ Va.cl chDig) ∧ x.length ≤ 7 ∧ n = (PySem.NumText.digitsVal (Va.cl x) : Nat) ∧ n ≤ 1000000
  | .st x => x.length ≤ 20 ∧ ∀ c ∈ Va.cl x, c ≠ 10
  | .sy x => x ∈ symbs
abbrev Pc := List Nat × Tk
def blank (b : List Nat) : Prop := ∀ c ∈ b, c ∈ cl chBln
def partB : Tk → Tk → Bool
  | .sy x, .sy y => (decide (x = "<") || decide (x = ">")) && decide (y = "=")
  | .sy _, _ => false
  | .wd _, .wd _ => true
  | .wd _, .nu _ _ => true
  | .nu _ _, .nu _ _ => true
  | .st _, .st _ => true
  | _, _ => false
def okP : List Pc → Prop
  | [] => True
  | [q] => q.2.ok ∧ blank q.1
  | q :: r :: qs => q.2.ok ∧ blank q.1 ∧ (r.1 = [] → partB q.2 r.2 = false) ∧ okP (r :: qs)
theorem okP.snoc : ∀ {qs : List Pc} {q : Pc}, okP qs → q.2.ok → blank q.1 → (∀ r, qs.getLast? = some r → q.1 = [] → partB r.2 q.2 = false) → okP (qs ++ [q])
  | [], q, _, h1, h2, _ => ⟨h1, h2⟩
  | [r], q, h, h1, h2, h3 => ⟨h.1, h.2, h3 r rfl, h1, h2⟩
  | r :: s :: qs, q, h, h1, h2, h3 => ⟨h.1, h.2.1, h.2.2.1, okP.snoc (qs := s :: qs) h.2.2.2 h1 h2 fun t ht => h3 t (by rw [List.getLast?_cons_cons]; exact ht)⟩
end Va
set_option Elab.async false
set_option linter.all false
set_option maxRecDepth 100000
set_option maxHeartbeats 4000000
namespace Va
open PySem PySem.Spec PyProof.Rows L2 Ind
section
variable {X : Cx} {S : Sg}
end
end Va
set_option Elab.async false
set_option linter.all false
set_option maxRecDepth 100000
set_option maxHeartbeats 4000000
namespace Va
open PySem PySem.Spec PyProof.Rows L2 Ind
mutual
def D.nodk : D → Bool
  | .tup xs => nodkL xs
  | .ptp xs => nodkL xs
  | .lst xs => nodkL xs
  | .dk _ => false
  | .ob _ => false
  | _ => true
def nodkL : List D → Bool
  | [] => true
  | d :: ds => d.nodk && nodkL ds
end
section
variable {K : PySem.W.Frag} {tp : Option Tp} {H : Hp} {a : Addr} {u : HO}
end
def SV.nodk : SV → Bool
  | .ol ds => nodkL ds
  | .od _ _ => false
  | .ow _ _ => false
  | _ => true
section
variable {X : Cx} {S : Sg} {e : Expr}
end
end Va
set_option Elab.async false
set_option linter.all false
set_option maxRecDepth 100000
set_option maxHeartbeats 4000000
namespace Va
open PySem PySem.Spec PyProof.Rows L2 Ind
mutual
def D.nk : D → Option NestedKey
  | .non => some .none
  | .bl b => some (.num (if b = true then 1 else 0))
  | .int i => some (.num i)
  | .str x => some (.text x)
  | .tup ds => (nkL ds).map .tup
  | .ptp ds => (nkL ds).map .tup
  | _ => none
def nkL : List D → Option (List NestedKey)
  | [] => some []
  | d :: ds => match d.nk, nkL ds with
    | some k, some ks => some (k :: ks)
    | _, _ => none
end
theorem nkL_cons {d : D} {ds : List D} {ks : List NestedKey} (h : nkL (d :: ds) = some ks) : ∃ k r, d.nk = some k ∧ nkL ds = some r ∧ ks = k :: r := by
  have h : (match d.nk, nkL ds with | some k, some ks => some (k :: ks) | _, _ => none) = some ks := h
  cases e1 : d.nk with
  | none => rw [e1] at h; cases h
  | some k =>
    cases e2 : nkL ds with
    | none => rw [e1, e2] at h; cases h
    | some r => rw [e1, e2] at h; cases h; exact ⟨k, r, rfl, rfl, rfl⟩
section
variable {X : Cx} {pins : List (Addr × Obj)} {σ : L2.St} {H : Hp} {s : Shared} {tp : Option Tp}
mutual
theorem nk_is (I : Inv X pins σ H s) : ∀ (d : D) (v : V) (u : Value) (k : NestedKey), Rp X.K tp H v d → RelV v u → d.nk = some k → NestedIs s.heap k u
  | .non, _, _, _, h, r, e => by cases h; cases e; cases r; exact .none
  | .bl b, _, _, _, h, r, e => by cases h; cases e; cases r; exact .bool rfl
  | .int i, _, _, _, h, r, e => by cases h; cases e; obtain ⟨t, rfl⟩ := r; exact .int i t
  | .str x, _, _, _, h, r, e => by cases h; cases e; obtain ⟨t, rfl⟩ := r; exact .text x t
  | .tup ds, _, _, k, h, r, e => by
    obtain ⟨a, xs, rfl, h1, h2⟩ := h.tup_inv
    obtain rfl : _ = Value.ref a := r
    have e : (nkL ds).map NestedKey.tup = some k := e
    cases e1 : nkL ds with
    | none => rw [e1] at e; cases e
    | some ks =>
      rw [e1] at e
      cases e
      obtain ⟨its, rv, ⟨o, ho, hc, n, hd⟩, _⟩ := I.tuple h1
      exact .tup ho hc hd (by rw [show its.toArray.toList = its from rfl]; exact nk_isL I ds xs its ks h2 rv e1)
  | .ptp ds, _, _, k, h, r, e => by
    obtain ⟨a, o1, xs, rfl, h1, _, h2⟩ := h.ptp_inv
    obtain rfl : _ = Value.ref a := r
    have e : (nkL ds).map NestedKey.tup = some k := e
    cases e1 : nkL ds with
    | none => rw [e1] at e; cases e
    | some ks =>
      rw [e1] at e
      cases e
      obtain ⟨its, rv, ⟨o, ho, hc, n, hd⟩, _⟩ := I.tuple (.inl (.inr ⟨_, h1⟩))
      exact .tup ho hc hd (by rw [show its.toArray.toList = its from rfl]; exact nk_isL I ds xs its ks h2 rv e1)
  | .lst _, _, _, _, _, _, e => by cases e
  | .dk _, _, _, _, _, _, e => by cases e
  | .tape, _, _, _, _, _, e => by cases e
  | .ty _, _, _, _, _, _, e => by cases e
  | .ob _, _, _, _, _, _, e => by cases e
theorem nk_isL (I : Inv X pins σ H s) : ∀ (ds : List D) (vs : List V) (us : List Value) (ks : List NestedKey), RpL X.K tp H vs ds → Vals vs us → nkL ds = some ks → NestedAll s.heap ks us
  | [], _, _, _, h, r, e => by cases h; cases e; cases r; exact .nil
  | d :: ds, _, _, _, h, r, e => by
    obtain ⟨k, ks, e1, e2, rfl⟩ := nkL_cons e
    cases h with
    | cons h1 h2 =>
      cases r with
      | cons r1 r2 => exact .cons (nk_is I d _ _ k h1 r1 e1) (nk_isL I ds _ _ ks h2 r2 e2)
end
end
def D.isT : D → Bool
  | .tup _ => true
  | .ptp _ => true
  | _ => false
theorem isT_ref {K : PySem.W.Frag} {tp : Option Tp} {H : Hp} {v : V} {d : D} (h : Rp K tp H v d) (t : d.isT = true) : ∃ a, v = .ref a := by
  cases d with
  | tup ds => obtain ⟨a, _, e, _⟩ := h.tup_inv; exact ⟨a, e⟩
  | ptp ds => obtain ⟨a, _, _, e, _⟩ := h.ptp_inv; exact ⟨a, e⟩
  | _ => cases t
structure nkey (d : D) (k : NestedKey) : Prop where
  nk : d.nk = some k
  dep : k.depth ≤ 8
  t : d.isT = true
abbrev nsK (P : Program) (w : World) := nestedKind P w
def RawN (P : Program) (w : World) (h : Heap) (D : Addr) (xs : List (NestedKey × Addr × Value)) : Prop := (D == sysModules) = false ∧ ∃ o es ep, h.get? D = some o ∧ o.ExactDict ∧ o.data = .dict es ep ∧ es.toList = xs.map (entryOfKey (nsK P w)) ∧ (xs.map (·.1)).Nodup
def NkO (P : Program) (w : World) (D : Addr) (xs : List (NestedKey × Addr × Value)) : HO := .ext fun h => RawN P w h D xs
theorem nkO_ok {P : Program} {w : World} {H : Hp} {h : Heap} {D : Addr} {xs : List (NestedKey × Addr × Value)} (q : RawN P w h D xs) : ObjOk P w H h D (NkO P w D xs) :=
  ⟨q, (let ⟨_, _, _, _, e, _⟩ := q; ⟨_, e⟩), fun _ _ p k => let ⟨y, o, es, ep, e, r⟩ := p; ⟨y, o, es, ep, k _ e, r⟩⟩
inductive EnR (K : PySem.W.Frag) (tp : Option Tp) (H : Hp) : List (NestedKey × Addr × Value) → List (D × D) → Prop
  | nil : EnR K tp H [] []
  | cons {k : NestedKey} {b : Addr} {u : Value} {v : V} {d e : D} {xs : List (NestedKey × Addr × Value)} {es : List (D × D)} : nkey d k → Rp K tp H (.ref b) d → RelV v u → Rp K tp H v e → EnR K tp H xs es → EnR K tp H ((k, b, u) :: xs) ((d, e) :: es)
theorem EnR.kq {K : PySem.W.Frag} {tp : Option Tp} {H H' : Hp} (k : Kq H H') {xs : List (NestedKey × Addr × Value)} {es : List (D × D)} (h : EnR K tp H xs es) : EnR K tp H' xs es := by
  induction h with
  | nil => exact .nil
  | cons h1 h2 h3 h4 _ ih => exact .cons h1 (Rp.kq k _ _ h2) h3 (Rp.kq k _ _ h4) ih
theorem EnR.len {K : PySem.W.Frag} {tp : Option Tp} {H : Hp} {xs : List (NestedKey × Addr × Value)} {es : List (D × D)} (h : EnR K tp H xs es) : xs.length = es.length := by
  induction h with
  | nil => rfl
  | cons _ _ _ _ _ ih => rw [List.length_cons, List.length_cons, ih]
def lookK (es : List (D × D)) (d : D) : Option D := (es.find? fun p => decide (p.1.nk = d.nk)).map (·.2)
def putK (es : List (D × D)) (d e : D) : List (D × D) := if es.any (fun p => decide (p.1.nk = d.nk)) then es.map fun p => if p.1.nk = d.nk then (p.1, e) else p else es ++ [(d, e)]
theorem EnR.at {K : PySem.W.Frag} {tp : Option Tp} {H : Hp} {xs : List (NestedKey × Addr × Value)} {es : List (D × D)} (h : EnR K tp H xs es) {d : D} {k : NestedKey} (hk : nkey d k) : match lookK es d with
    | some e => ∃ p v, atKey xs k = some p ∧ RelV v p.2 ∧ Rp K tp H v e
    | none => atKey xs k = none := by
  induction h with
  | nil => rfl
  | @cons k2 b u v d2 e xs es h1 h2 h3 h4 _ ih =>
    unfold lookK atKey at *
    by_cases c : k2 = k
    · have c2 : d2.nk = d.nk := by rw [h1.nk, hk.nk, c]
      rw [List.find?_cons_of_pos (by simpa using c2), List.find?_cons_of_pos (by simpa using c)]
      exact ⟨_, v, rfl, h3, h4⟩
    · have c2 : ¬ d2.nk = d.nk := fun z => c (by rw [h1.nk, hk.nk] at z; cases z; rfl)
      rw [List.find?_cons_of_neg (by simpa using c2), List.find?_cons_of_neg (by simpa using c)]
      exact ih
def NkS (P : Program) (w : World) (es : List (D × D)) : Stb where
  P := fun K tp H v => ∃ a o xs, v = .ref a ∧ H a = some (.frz o (NkO P w a xs)) ∧ EnR K tp H xs es
  st := fun K tp H H' v k ⟨a, o, xs, e, h1, h2⟩ => ⟨a, o, xs, e, k.frz _ _ _ h1, h2.kq k⟩
def NkX (P : Program) (w : World) (es : List (D × D)) : Obx where
  R := fun K tp H a u => ∃ xs, u = NkO P w a xs ∧ EnR K tp H xs es
  mu := fun K tp H a u ⟨xs, e, _⟩ => by rw [e]; trivial
  st := fun K tp H H' a u k ⟨xs, e, h⟩ => ⟨xs, e, h.kq k⟩
def nkAt (P : Program) (w : World) (E : En) (i : Nat) (es : List (D × D)) : Prop := E.l[i]? = some (.v (.ob (NkS P w es))) ∨ ∃ k, E.l[i]? = some (.ow k (.ob (NkX P w es)))
section
variable {X : Cx} {pins : List (Addr × Obj)} {σ : L2.St} {H : Hp} {s : Shared}
def RdN (P : Program) (w : World) (H : Hp) (a : Addr) (xs : List (NestedKey × Addr × Value)) : Prop := H a = some (NkO P w a xs) ∨ ∃ o, H a = some (.frz o (NkO P w a xs))
theorem Inv.rawN (I : Inv X pins σ H s) {a : Addr} {xs : List (NestedKey × Addr × Value)} (e : RdN X.prog X.w H a xs) : RawN X.prog X.w s.heap a xs := by
  rcases e with e | ⟨o, e⟩
  · exact (I.hok a _ e).1
  · exact (I.hok a _ e).2.1
theorem enR_is (I : Inv X pins σ H s) {tp : Option Tp} {xs : List (NestedKey × Addr × Value)} {es : List (D × D)} (h : EnR X.K tp H xs es) : ∀ x ∈ xs, (nsK X.prog X.w).is s.heap x.1 x.2.1 := by
  induction h with
  | nil => exact fun x hx => nomatch hx
  | cons h1 h2 h3 h4 _ ih =>
    intro x hx
    rcases List.mem_cons.mp hx with rfl | hx
    · exact ⟨nk_is I _ _ _ _ h2 rfl h1.nk, h1.dep⟩
    · exact ih x hx
theorem Inv.dictN (I : Inv X pins σ H s) {tp : Option Tp} {a : Addr} {xs : List (NestedKey × Addr × Value)} {es : List (D × D)} (e : RdN X.prog X.w H a xs) (h : EnR X.K tp H xs es) : (a == sysModules) = false ∧ s.heap.DictOfH (nsK X.prog X.w) a xs := by
  obtain ⟨z, o, es2, ep, h1, h2, h3, h4, h5⟩ := Inv.rawN I e
  exact ⟨z, o, es2, ep, h1, h2, h3, h4, enR_is I h, h5⟩
end
theorem nk_slot {P : Program} {w : World} {Γ : Gm} {E : En} {σ : L2.St} {H : Hp} {i : Nat} {es : List (D × D)} (r : Rep Γ E σ H) (h : nkAt P w E i es) : ∃ a xs, σ[i]? = some (some (.ref a)) ∧ RdN P w H a xs ∧ EnR Γ.K Γ.tp H xs es := by
  rcases h with h | ⟨k, h⟩
  · obtain ⟨o, h1, v, rfl, h2⟩ := r.sl i _ h
    obtain ⟨a, rfl, a2, o2, xs, e, h3, h4⟩ := Rp.ob_inv h2
    cases e
    exact ⟨a, xs, h1, .inr ⟨o2, h3⟩, h4⟩
  · obtain ⟨o, h1, a, u, rfl, h2, ⟨xs, rfl, h3⟩, _⟩ := r.sl i _ h
    exact ⟨a, xs, h1, .inl h2, h3⟩
end Va
set_option Elab.async false
set_option linter.all false
set_option maxRecDepth 100000
set_option maxHeartbeats 4000000
namespace Va
open PySem PySem.Spec PyProof.Rows L2 Ind RowK
def tIxN (P : Program) (w : World) (K : PySem.W.Frag) (td ty : TE) : TE := fun σ H Q => td σ H fun x H1 => ty σ H1 fun y H2 => ∃ (tp : Option Tp) (a b : Addr) (d : D) (k : NestedKey) (xs : List (NestedKey × Addr × Value)) (es : List (D × D)) (p : Addr × Value) (v : V), x = .ref a ∧ y = .ref b ∧ RdN P w H2 a xs ∧ EnR K tp H2 xs es ∧ Rp K tp H2 (.ref b) d ∧ nkey d k ∧ atKey xs k = some p ∧ RelV v p.2 ∧ Q v H2
def rInN (P : Program) (w : World) (K : PySem.W.Frag) (neg : Bool) : R2 := fun x y H Q => ∃ (tp : Option Tp) (a b : Addr) (d : D) (k : NestedKey) (xs : List (NestedKey × Addr × Value)) (es : List (D × D)), x = .ref b ∧ y = .ref a ∧ RdN P w H a xs ∧ EnR K tp H xs es ∧ Rp K tp H (.ref b) d ∧ nkey d k ∧ Q (.bl (if neg then !(atKey xs k).isSome else (atKey xs k).isSome)) H
section
variable {X : Cx} {tg e o i : Expr} {td ty : TE} {pos : Pos}
theorem key_is {pins : List (Addr × Obj)} {σ : L2.St} {H : Hp} {s : Shared} (I : Inv X pins σ H s) {tp : Option Tp} {b : Addr} {d : D} {k : NestedKey} (h : Rp X.K tp H (.ref b) d) (hk : nkey d k) : (nsK X.prog X.w).is s.heap k b := ⟨nk_is I _ _ _ _ h rfl hk.nk, hk.dep⟩
theorem pe_ixN (hu : X.A.units + 64 < cLine) (ho : PE X o td) (hi : PE X i ty) (hs : NoSl i) : PE X (.Subscript o i pos) (tIxN X.prog X.w X.K td ty) := by
  refine ⟨fun pins s σ H Q I h => ?_⟩
  refine subD_of PySem.F.slot_dict_getitem.lookup hs (thn (ho.run pins s σ H _ I h) fun u s1 ⟨x, H1, I1, rx, q1⟩ => thn (hi.run pins s1 σ H1 _ I1 q1) fun iv s2 ⟨y, H2, I2, ry, tp, a, b, d, k, xs, es, p, v, ex, ey, hd, he, hb, hk, hp, rv, hq⟩ => ?_)
  subst ex ey
  obtain rfl : u = Value.ref a := rx
  obtain rfl : iv = Value.ref b := ry
  obtain ⟨z, dd⟩ := Inv.dictN I2 hd he
  exact ⟨dd.typeIs, wpAny_getItem_heap (knd := nsK X.prog X.w) (by show X.A.units + 1 + 8 < cLine; omega) (key_is I2 hb hk) dd hp ⟨v, H2, I2.tok _, rv, hq⟩⟩
theorem op_ninN (hu : X.A.units + 64 < cLine) : OpR X (compareOp .NotIn) (rInN X.prog X.w X.K true) := by
  rintro pins s σ H x y v u Q I rx ry ⟨tp, a, b, d, k, xs, es, rfl, rfl, hd, he, hb, hk, q⟩
  obtain rfl : v = Value.ref b := rx
  obtain rfl : u = Value.ref a := ry
  obtain ⟨z, dd⟩ := Inv.dictN I hd he
  exact wpAny_notIn_heap (knd := nsK X.prog X.w) (by show X.A.units + 1 + 8 < cLine; omega) (key_is I hb hk) z dd ⟨.bl _, H, I.tok _, rfl, q⟩
end
def vIxK (P : Program) (w : World) (i : Nat) (tk : VT) : VT := fun E Q => ∃ es, nkAt P w E i es ∧ tk E fun d E1 => nkAt P w E1 i es ∧ ∃ k v, nkey d k ∧ lookK es d = some v ∧ Q v E1
theorem EnR.look {K : PySem.W.Frag} {tp : Option Tp} {H : Hp} {xs : List (NestedKey × Addr × Value)} {es : List (D × D)} (h : EnR K tp H xs es) {d : D} {k : NestedKey} (hk : nkey d k) : (atKey xs k).isSome = (lookK es d).isSome := by
  have := h.at hk
  cases e : lookK es d with
  | none =>
    rw [e] at this
    have this : atKey xs k = none := this
    rw [this]
    rfl
  | some v =>
    rw [e] at this
    obtain ⟨p, v2, h1, _⟩ := this
    rw [h1]
    rfl
theorem EnR.has {K : PySem.W.Frag} {tp : Option Tp} {H : Hp} {xs : List (NestedKey × Addr × Value)} {es : List (D × D)} (h : EnR K tp H xs es) {d v : D} {k : NestedKey} (hk : nkey d k) (e : lookK es d = some v) : ∃ p u, atKey xs k = some p ∧ RelV u p.2 ∧ Rp K tp H u v := by
  have := h.at hk
  rw [e] at this
  exact this
section
variable {X : Cx} {S : Sg} {a b o e tg : Expr} {pos p : Pos}
theorem ve_ixK {P : Program} {w : World} (hP : X.prog = P) (hW : X.w = w) {i : Nat} {tk : VT} (hK : S.K = X.K) (hu : X.A.units + 64 < cLine) (ho : PE X o (tVar i)) (he : VE S X e tk) (hs : NoSl e) : VE S X (.Subscript o e pos) (vIxK P w i tk) := by
  subst hP hW
  refine pe_weak (pe_ixN hu ho he hs) ?_
  rintro σ H Q ⟨Γ, E, Q0, ok, rp, ⟨es, e0, ht⟩, k⟩
  have eK : X.K = Γ.K := (ok.k.trans hK).symm
  obtain ⟨a0, xs0, hv, _⟩ := nk_slot rp e0
  refine ⟨_, hv, ?_⟩
  refine ⟨Γ, E, _, ok, rp, ht, fun d E1 ⟨e1, kk, v, hk, hl, hq⟩ u H1 kq1 rp1 hu1 => ?_⟩
  obtain ⟨a1, xs, hv1, hd, hn⟩ := nk_slot rp1 e1
  rw [hv] at hv1
  cases hv1
  obtain ⟨b1, rfl⟩ := isT_ref hu1 hk.t
  obtain ⟨p1, v1, g1, g2, g3⟩ := hn.has hk hl
  exact ⟨Γ.tp, _, b1, d, kk, xs, es, p1, v1, rfl, rfl, hd, by rw [eK]; exact hn, by rw [eK]; exact hu1, hk, g1, g2, k _ _ hq _ _ kq1 rp1 g3⟩
end
end Va
set_option Elab.async false
set_option linter.all false
set_option maxRecDepth 100000
set_option maxHeartbeats 4000000
namespace Va
open PySem PySem.Spec PyProof.Rows L2 Ind RowK
theorem dictN_none {h : Heap} {P : Program} {w : World} {a : Addr} {xs : List (NestedKey × Addr × Value)} (hm : h.DictOfH (nsK P w) a xs) : ∀ b, Value.ref a = .ref b → ∃ ob, h.get? b = some ob ∧ ob.dict = none :=
  fun b e => by injection e with e; subst e; exact let ⟨o, _, _, ho, hc, _⟩ := hm; ⟨o, ho, hc.2.1⟩
def ItiN (P : Program) (w : World) (d : Addr) (o : Obj) (xs : List (NestedKey × Addr × Value)) : It :=
  ⟨fun i H => H d = some (.frz o (NkO P w d xs)) ∧ i < xs.length, fun i H x H' => ∃ T k b u v, xs[i]? = some (k, b, u) ∧ RelV v u ∧ x = .ref T ∧ H T = none ∧ H' = upd H T (.tup [.ref b, v]), fun i H => H d = some (.frz o (NkO P w d xs)) ∧ xs.length ≤ i⟩
def ValsN (xs : List (NestedKey × Addr × Value)) : Prop := ∀ x ∈ xs, ∃ v : V, RelV v x.2.2
theorem rawN_of {P : Program} {w : World} {h : Heap} {d : Addr} {o : Obj} {es : Array DictEntry} {ep : Nat} {xs : List (NestedKey × Addr × Value)} (r : RawN P w h d xs) (ho : h.get? d = some o) (hod : o.data = .dict es ep) : h.DictRaw d es ep ∧ es.size = xs.length ∧ ∀ (i : Nat) (hi : i < es.size) (k : NestedKey) (b : Addr) (u : Value), xs[i]? = some (k, b, u) → es[i].key = .ref b ∧ es[i].val = u := by
  obtain ⟨_, o', es', ep', h1, h2, h3, h4, _⟩ := r
  rw [ho] at h1
  cases h1
  rw [hod] at h3
  cases h3
  refine ⟨⟨o, ho, h2, hod⟩, size_of_entries h4, fun i hi k b u e => ?_⟩
  have q := entry_at h4 i
  rw [Array.getElem?_eq_getElem hi, e] at q
  have q := Option.some.inj q
  rw [q]
  exact ⟨rfl, rfl⟩
section
variable {P : Program} {w : World} {K : PySem.W.Frag} {d : Addr} {o : Obj} {es : Array DictEntry} {ep : Nat} {xs : List (NestedKey × Addr × Value)}
theorem turn_itemsN {elts : List Expr} {kk : Nat} {tpos : Pos} (it : Addr) (hod : o.data = .dict es ep) (hsz : es.size = xs.length) (hv : ValsN xs) :
    Turn P w K (.Tuple elts kk tpos) (ItiN P w d o xs) [it] it (fun i h => ∃ ok ov, IsItemIter h it d i es.size ep ok ov) where
  mem := by simp
  obj := fun i h st b hb => by
    have e : b = it := by simpa using hb
    subst e
    obtain ⟨ok, ov, e⟩ := st
    exact ⟨_, e, fun v z => nomatch z⟩
  keep := fun i h h' st k => let ⟨ok, ov, e⟩ := st; ⟨ok, ov, k it (by simp) _ e⟩
  item := by
    intro X hP hw hK hc i pins s σ H E I hf st hg
    subst hP hw hK
    obtain ⟨hd, hi⟩ := hg
    have hgd := (I.hok d _ hd).1
    obtain ⟨hm, hs2, hent⟩ := rawN_of (Inv.rawN I (.inr ⟨o, hd⟩)) hgd hod
    obtain ⟨⟨k, b, u⟩, hx⟩ : ∃ p, xs[i]? = some p := ⟨xs[i], List.getElem?_eq_getElem hi⟩
    have hi2 : i < es.size := by omega
    obtain ⟨ek, ev⟩ := hent i hi2 k b u hx
    obtain ⟨v, rv⟩ := hv _ (List.mem_of_getElem? hx)
    obtain ⟨ok, ov, he⟩ := st
    have hlt : it < s.heap.objs.size := Heap.lt_size he
    refine wpAny_pyNext_items_item_raw he hm hi2 fun h' ho hT hz hk => ?_
    rw [ek, ev] at hT ho
    refine ⟨_, rfl, wpAny_letOwnedTupleGo_items (s := { s with heap := h' }) ho fun h'' he' sb => ?_⟩
    have hT2 : h''.get? s.heap.objs.size = some { cls := .type "tuple", data := .seq #[.ref b, u] } := (sb.2 _ (Nat.ne_of_gt hlt)).trans hT
    have new : ObjOk X.prog X.w (upd H s.heap.objs.size (.tup [.ref b, v])) h'' s.heap.objs.size (.tup [.ref b, v]) :=
      ⟨by show 2 ≤ sizeLine; decide, [.ref b, u], .cons rfl (.cons rv .nil), ⟨_, hT2, rfl, _, rfl⟩⟩
    have I1 : Inv X pins σ (upd H s.heap.objs.size (.tup [.ref b, v])) { s with heap := h'' } :=
      I.turnedNew (t' := s.toks) (ch := [it]) (fun b ob hb e => (sb.2 b (by simpa using hb)).trans (hk b ob (by simpa using hb) e)) hf (Nat.le_refl _) new
    refine ⟨.ref s.heap.objs.size, _, I1, rfl, ⟨_, k, b, u, v, hx, rv, rfl, I.hok.fresh (Nat.le_refl _), rfl⟩, ⟨.ref b, u, he'⟩, fun b hb => ?_⟩
    have e : b = it := by simpa using hb
    rw [e, upd_ne (Nat.ne_of_lt hlt)]
    exact (hf it (by simp)).1
  done := by
    intro X hP hw hK hc i pins s σ H E I hf st hg
    subst hP hw hK
    obtain ⟨hd, hi⟩ := hg
    obtain ⟨f0, f1, f2, f3, f4, f5⟩ := hf it (by simp)
    have hgd := (I.hok d _ hd).1
    obtain ⟨hm, hs2, hent⟩ := rawN_of (Inv.rawN I (.inr ⟨o, hd⟩)) hgd hod
    obtain ⟨ok, ov, he⟩ := st
    exact wpAny_pyNext_items_end_raw (I.ok.hd hc) he hm (by omega) fun h' eb => ⟨rfl, I.turned (t' := s.toks) (fun b ob hb e => eb b ob hb e) f0 f1 f3 f4 f5⟩
  self := fun A i s Q E st h => let ⟨_, _, e⟩ := st; PySem.W.kcp_self e h
end
def iItemsN (P : Program) (w : World) (K : PySem.W.Frag) (td : TE) : TI := fun σ H R => td σ H fun x H1 => ∃ d o xs, x = .ref d ∧ H1 d = some (.frz o (NkO P w d xs)) ∧ (∃ tp es, EnR K tp H1 xs es) ∧ ValsN xs ∧ R (ItiN P w d o xs) H1
section
variable {X : Cx} {tg e : Expr} {td : TE} {apos cpos : Pos}
theorem pi_itemsN {elts : List Expr} {kk : Nat} {tpos : Pos} (he : PE X e td) (hbase : attributeBase e "items" X.env (eval e X.env) = eval e X.env := by rfl) (hline : (apos.endLine == cpos.line) = true := by rfl) :
    PI X (.Tuple elts kk tpos) (.Call (.Attribute e "items" apos) [] [] cpos) (iItemsN X.prog X.w X.K td) := by
  refine ⟨fun pins s σ H R I h => ?_⟩
  refine wpAny_Call_method (T := "dict") (id := "dict.items") hbase rfl hline F.plainAttrs_dict F.slot_dict_items F.type_dict_items (thn (he.run pins s σ H _ I h) fun u s1 ⟨x, H1, I1, rx, d, o, xs, ex, hd, ks, hv, q⟩ => ?_)
  subst ex
  obtain rfl : u = Value.ref d := rx
  obtain ⟨tp0, es0, ks⟩ := ks
  obtain ⟨z0, dd⟩ := Inv.dictN I1 (.inr ⟨o, hd⟩) ks
  have hgd := (I1.hok d _ hd).1
  obtain ⟨_, o', es, ep, h1, h2, h3, h4, h5⟩ := Inv.rawN I1 (.inr ⟨o, hd⟩)
  rw [hgd] at h1
  cases h1
  refine ⟨dd.typeIs, dictN_none dd, ?_⟩
  have raw : s1.heap.DictRaw d es ep := ⟨o, hgd, h2, h3⟩
  have I2 : Inv X pins σ H1 { s1 with heap := s1.heap.push { cls := .type "dict_items", data := .fields #[.ref d] } } := I1.kept (t' := s1.toks) fun b ob q => Heap.get?_push_of_some _ q
  have fin : wpAny (model X.prog X.w) X.A (pyIter (.ref s1.heap.objs.size)) (PIE X pins σ (.Tuple elts kk tpos) R) X.xe { s1 with heap := s1.heap.push { cls := .type "dict_items", data := .fields #[.ref d] } } := by
    refine wpAny_pyIter_items_raw (d := d) ⟨_, Heap.get?_push_size _ rfl, rfl, rfl⟩ (raw.at fun o e => Heap.get?_push_of_some _ e) (pi_one (tk := s1.toks) I2 _ (turn_itemsN _ h3 (size_of_entries h4) hv) ⟨.none, .none, ?_⟩ q)
    exact Heap.get?_push_size _ rfl
  show wpAny _ _ (callWith cpos (.builtin "dict.items") [.ref d] [] []) _ X.xe s1
  exact method_meetsIn F.slot_dict_items F.entry_dict_items rfl (PySem.evalArgs_none ⟨rfl, dd.typeIs, F.args_dict_items_1 _, _, _root_.DT.meetsItems (es := es) (ep := ep) z0, ⟨o, hgd, h2, h3⟩, fin⟩)
end
def ItkN (P : Program) (w : World) (d : Addr) (o : Obj) (xs : List (NestedKey × Addr × Value)) : It :=
  ⟨fun i H => H d = some (.frz o (NkO P w d xs)) ∧ i < xs.length, fun i H x H' => H' = H ∧ ∃ k b u, xs[i]? = some (k, b, u) ∧ x = .ref b, fun i H => H d = some (.frz o (NkO P w d xs)) ∧ xs.length ≤ i⟩
section
variable {P : Program} {w : World} {K : PySem.W.Frag} {d : Addr} {o : Obj} {es : Array DictEntry} {ep : Nat} {xs : List (NestedKey × Addr × Value)} {tg : Expr}
theorem turn_keysN (it : Addr) (hod : o.data = .dict es ep) (hsz : es.size = xs.length) : Turn P w K tg (ItkN P w d o xs) [it] it (fun i h => h.IsKeyIter it d i es.size ep) where
  mem := by simp
  obj := fun i h st b hb => by
    have e : b = it := by simpa using hb
    subst e
    obtain ⟨oi, e, c, dd⟩ := st
    exact ⟨oi, e, fun v z => by rw [dd] at z; cases z⟩
  keep := fun i h h' st k => st.at fun oi e => k it (by simp) oi e
  item := by
    intro X hP hw hK hc i pins s σ H E I hf st hg
    subst hP hw hK
    obtain ⟨hd, hi⟩ := hg
    obtain ⟨f0, f1, f2, f3, f4, f5⟩ := hf it (by simp)
    have hgd := (I.hok d _ hd).1
    obtain ⟨hm, hs2, hent⟩ := rawN_of (Inv.rawN I (.inr ⟨o, hd⟩)) hgd hod
    obtain ⟨⟨k, b, u⟩, hx⟩ : ∃ p, xs[i]? = some p := ⟨xs[i], List.getElem?_eq_getElem hi⟩
    have hi2 : i < es.size := by omega
    obtain ⟨ek, ev⟩ := hent i hi2 k b u hx
    refine wpAny_pyNext_keys_item_raw st hm hi2 fun h' st' sb => ?_
    rw [ek]
    have I1 : Inv X pins σ H { s with heap := h' } := I.turned (t' := s.toks) (fun b ob hb e => (sb.2 b hb).trans e) f0 f1 f3 f4 f5
    obtain ⟨oi, e, c, dd⟩ := id st'
    exact ⟨.ref b, rfl, go_of (s := { s with heap := h' }) e c dd (by decide) ⟨V.ref b, H, I1, rfl, ⟨rfl, k, b, u, hx, rfl⟩, st', fun b hb => (hf b hb).1⟩⟩
  done := by
    intro X hP hw hK hc i pins s σ H E I hf st hg
    subst hP hw hK
    obtain ⟨hd, hi⟩ := hg
    obtain ⟨f0, f1, f2, f3, f4, f5⟩ := hf it (by simp)
    have hgd := (I.hok d _ hd).1
    obtain ⟨hm, hs2, hent⟩ := rawN_of (Inv.rawN I (.inr ⟨o, hd⟩)) hgd hod
    exact wpAny_pyNext_keys_end_raw (I.ok.hd hc) st hm (by omega) fun h' eb => ⟨rfl, I.turned (t' := s.toks) (fun b ob hb e => eb b ob hb e) f0 f1 f3 f4 f5⟩
  self := fun A i s Q E st h => wpAny_pyIter_keyiter st h
end
def iKeysN (P : Program) (w : World) (K : PySem.W.Frag) (td : TE) : TI := fun σ H R => td σ H fun x H1 => ∃ d o xs, x = .ref d ∧ H1 d = some (.frz o (NkO P w d xs)) ∧ (∃ tp es, EnR K tp H1 xs es) ∧ R (ItkN P w d o xs) H1
section
variable {X : Cx} {tg e o i : Expr} {td ty : TE} {pos : Pos}
theorem pi_keysN (he : PE X e td) : PI X tg e (iKeysN X.prog X.w X.K td) := by
  refine ⟨fun pins s σ H R I h => ?_⟩
  refine thn (he.run pins s σ H _ I h) fun u s1 ⟨x, H1, I1, rx, d, o, xs, ex, hd, ks, q⟩ => ?_
  subst ex
  obtain rfl : u = Value.ref d := rx
  have hgd := (I1.hok d _ hd).1
  obtain ⟨hs, o', es, ep, h1, h2, h3, h4, h5⟩ := Inv.rawN I1 (.inr ⟨o, hd⟩)
  rw [hgd] at h1
  cases h1
  have raw : s1.heap.DictRaw d es ep := ⟨o, hgd, h2, h3⟩
  exact wpAny_pyIter_dict_raw hs raw (pi_one (tk := s1.toks) I1 _ (turn_keysN _ h3 (size_of_entries h4)) ⟨_, Heap.get?_push_size _ rfl, rfl, rfl⟩ q)
end
theorem EnR.get {K : PySem.W.Frag} {tp : Option Tp} {H : Hp} {xs : List (NestedKey × Addr × Value)} {es : List (D × D)} (h : EnR K tp H xs es) : ∀ {i : Nat} {k : NestedKey} {b : Addr} {u : Value}, xs[i]? = some (k, b, u) → ∃ d e v, es[i]? = some (d, e) ∧ nkey d k ∧ Rp K tp H (.ref b) d ∧ RelV v u ∧ Rp K tp H v e := by
  induction h with
  | nil => intro i k b u e; simp at e
  | cons h1 h2 h3 h4 _ ih =>
    intro i k b u e
    cases i with
    | zero => cases e; exact ⟨_, _, _, rfl, h1, h2, h3, h4⟩
    | succ i => exact ih e
theorem EnR.vals {K : PySem.W.Frag} {tp : Option Tp} {H : Hp} {xs : List (NestedKey × Addr × Value)} {es : List (D × D)} (h : EnR K tp H xs es) : ValsN xs := fun x hx => by
  obtain ⟨i, hi, e⟩ := List.mem_iff_getElem.mp hx
  obtain ⟨k, b, u⟩ := x
  obtain ⟨_, _, v, _, _, _, rv, _⟩ := h.get (i := i) (k := k) (b := b) (u := u) (by rw [List.getElem?_eq_getElem hi, e])
  exact ⟨v, rv⟩
def vKeysK (P : Program) (w : World) (i : Nat) : VI := fun E Q => ∃ es, E.l[i]? = some (.v (.ob (NkS P w es))) ∧ Q (es.map fun p => p.1) E
def vItemsK2 (P : Program) (w : World) (i : Nat) : VI := fun E Q => ∃ es, E.l[i]? = some (.v (.ob (NkS P w es))) ∧ Q (es.map fun p => .tup [p.1, p.2]) E
theorem nk_lock {P : Program} {w : World} {Γ : Gm} {E : En} {σ : L2.St} {H : Hp} {i : Nat} {es : List (D × D)} (r : Rep Γ E σ H) (h : E.l[i]? = some (.v (.ob (NkS P w es)))) : ∃ a o xs, σ[i]? = some (some (.ref a)) ∧ H a = some (.frz o (NkO P w a xs)) ∧ EnR Γ.K Γ.tp H xs es := by
  obtain ⟨o, h1, v, rfl, h2⟩ := r.sl i _ h
  obtain ⟨a, rfl, a2, o2, xs, e, h3, h4⟩ := Rp.ob_inv h2
  cases e
  exact ⟨a, o2, xs, h1, h3, h4⟩
section
variable {X : Cx} {S : Sg} {o e tg : Expr} {pos tpos apos cpos : Pos}
theorem vi_keysK {P : Program} {w : World} (hP : X.prog = P) (hW : X.w = w) {i : Nat} (hK : S.K = X.K) (ho : PE X o (tVar i)) : VIt S X tg o (vKeysK P w i) := by
  subst hP hW
  refine pi_weak (pi_keysN ho) ?_
  rintro σ H Q ⟨Γ, E, Q0, ok, rp, ⟨es, e0, hq⟩, k⟩
  have eK : X.K = Γ.K := (ok.k.trans hK).symm
  obtain ⟨a, ob, xs, hv, h1, h3⟩ := nk_lock rp e0
  refine ⟨_, hv, a, ob, xs, rfl, h1, ⟨Γ.tp, es, by rw [eK]; exact h3⟩, k _ _ hq _ _ (Kq.refl _) rp ?_⟩
  have ln := h3.len
  refine ⟨fun j H' hj q => ⟨q.frz _ _ _ h1, by rw [List.length_map] at hj; omega⟩, fun j H' x H2 hj q y => ?_, fun H' q => ⟨q.frz _ _ _ h1, by rw [List.length_map]; omega⟩⟩
  obtain ⟨rfl, kk2, b2, u, ex, rfl⟩ := y
  obtain ⟨d, e2, v, ee, _, f1, _, _⟩ := h3.get ex
  exact ⟨d, by rw [List.getElem?_map, ee]; rfl, Rp.kq q _ _ f1, fun b o h => h⟩
theorem vi_itemsK2 {P : Program} {w : World} (hP : X.prog = P) (hW : X.w = w) {i : Nat} {elts : List Expr} {kk : Nat} (hK : S.K = X.K) (ho : PE X o (tVar i)) (hbase : attributeBase o "items" X.env (eval o X.env) = eval o X.env := by rfl) (hline : (apos.endLine == cpos.line) = true := by rfl) :
    VIt S X (.Tuple elts kk tpos) (.Call (.Attribute o "items" apos) [] [] cpos) (vItemsK2 P w i) := by
  subst hP hW
  refine pi_weak (pi_itemsN ho hbase hline) ?_
  rintro σ H Q ⟨Γ, E, Q0, ok, rp, ⟨es, e0, hq⟩, k⟩
  have eK : X.K = Γ.K := (ok.k.trans hK).symm
  obtain ⟨a, ob, xs, hv, h1, h3⟩ := nk_lock rp e0
  refine ⟨_, hv, a, ob, xs, rfl, h1, ⟨Γ.tp, es, by rw [eK]; exact h3⟩, h3.vals, k _ _ hq _ _ (Kq.refl _) rp ?_⟩
  have ln := h3.len
  refine ⟨fun j H' hj q => ⟨q.frz _ _ _ h1, by rw [List.length_map] at hj; omega⟩, fun j H' x H2 hj q y => ?_, fun H' q => ⟨q.frz _ _ _ h1, by rw [List.length_map]; omega⟩⟩
  obtain ⟨T, kk2, b2, u, v2, ex, rv, rfl, nT, rfl⟩ := y
  obtain ⟨d, e2, v, ee, _, f1, rv2, f2⟩ := h3.get ex
  have ev := rv.inj rv2
  subst ev
  have sm := same_upd (o := .tup [V.ref b2, v2]) nT
  have kq2 : Kq H (upd H' T (.tup [V.ref b2, v2])) := q.trans (.same sm)
  exact ⟨.tup [d, e2], by rw [List.getElem?_map, ee]; rfl, .tup (.of upd_same) (.cons (Rp.kq kq2 _ _ f1) (.cons (Rp.kq kq2 _ _ f2) .nil)), sm⟩
end
end Va
set_option Elab.async false
set_option linter.all false
set_option maxRecDepth 100000
set_option maxHeartbeats 4000000
namespace Va
open PySem PySem.Spec PyProof.Rows L2 Ind RowK
theorem find_any {α : Type} (p : α → Bool) : ∀ l : List α, (l.find? p).isSome = l.any p
  | [] => rfl
  | a :: l => by
    rw [List.find?_cons, List.any_cons]
    cases h : p a with
    | true => rfl
    | false => rw [Bool.false_or]; exact find_any p l
theorem lookK_any (es : List (D × D)) (d : D) : (lookK es d).isSome = es.any fun p => decide (p.1.nk = d.nk) := by
  unfold lookK
  rw [Option.isSome_map, find_any]
theorem EnR.put {K : PySem.W.Frag} {tp : Option Tp} {H : Hp} {xs : List (NestedKey × Addr × Value)} {es : List (D × D)} (h : EnR K tp H xs es) {d e : D} {k : NestedKey} {b : Addr} {v : V} {u : Value} (hk : nkey d k) (hb : Rp K tp H (.ref b) d) (ru : RelV v u) (hv : Rp K tp H v e) :
    EnR K tp H (storedH xs k b u) (putK es d e) := by
  have mp : ∀ {xs : List (NestedKey × Addr × Value)} {es : List (D × D)}, EnR K tp H xs es → EnR K tp H (xs.map (putAt k u)) (es.map fun p => if p.1.nk = d.nk then (p.1, e) else p) := by
    intro xs es h
    induction h with
    | nil => exact .nil
    | @cons k2 b2 u2 v2 d2 e2 xs es h1 h2 h3 h4 _ ih =>
      rw [List.map_cons, List.map_cons]
      by_cases c : k2 = k
      · have c2 : d2.nk = d.nk := by rw [h1.nk, hk.nk, c]
        rw [if_pos c2, show putAt k u (k2, b2, u2) = (k2, b2, u) from if_pos c]
        exact .cons h1 h2 ru hv ih
      · have c2 : ¬ d2.nk = d.nk := fun z => c (by rw [h1.nk, hk.nk] at z; cases z; rfl)
        rw [if_neg c2, show putAt k u (k2, b2, u2) = (k2, b2, u2) from if_neg c]
        exact .cons h1 h2 h3 h4 ih
  have ap : ∀ {xs : List (NestedKey × Addr × Value)} {es : List (D × D)}, EnR K tp H xs es → EnR K tp H (xs ++ [(k, b, u)]) (es ++ [(d, e)]) := by
    intro xs es h
    induction h with
    | nil => exact .cons hk hb ru hv .nil
    | cons h1 h2 h3 h4 _ ih => exact .cons h1 h2 h3 h4 ih
  have hs := h.look hk
  rw [lookK_any] at hs
  unfold storedH putK
  rw [hs]
  split
  · exact mp h
  · exact ap h
theorem putK_len (es : List (D × D)) (d e : D) : (putK es d e).length ≤ es.length + 1 := by
  unfold putK
  split
  · rw [List.length_map]; omega
  · rw [List.length_append]; exact Nat.le_refl _
section
variable {X : Cx} {pins : List (Addr × Obj)} {σ : L2.St} {H : Hp} {s : Shared} {tp : Option Tp} {a b : Addr} {d : D} {k : NestedKey} {xs : List (NestedKey × Addr × Value)} {es : List (D × D)}
theorem Inv.wroteN (I : Inv X pins σ H s) (ha : H a = some (NkO X.prog X.w a xs)) {h' : Heap} {t' : Nat} {ys : List (NestedKey × Addr × Value)} (hd : h'.DictOfH (nsK X.prog X.w) a ys) (sb : Heap.SameBut a s.heap h') : Inv X pins σ (upd H a (NkO X.prog X.w a ys)) { s with heap := h', toks := t' } := by
  obtain ⟨z, _⟩ := Inv.rawN I (.inl ha)
  obtain ⟨ob, es, ep, g1, g2, g3, g4, g5, g6⟩ := hd
  exact I.write (e := a) (t' := t') (by rw [ha]; trivial) (.inl rfl) (fun c ob hc q => (sb.2 c hc).trans q) ⟨_, g1⟩ (nkO_ok ⟨z, ob, es, ep, g1, g2, g3, g4, g6⟩)
end
def sNPut (P : Program) (w : World) (K : PySem.W.Frag) (td ty tv : TE) : TS := fun T σ H => tv σ H fun v H1 => td σ H1 fun x H2 => ty σ H2 fun y H3 => ∃ (tp : Option Tp) (a b : Addr) (d : D) (k : NestedKey) (xs : List (NestedKey × Addr × Value)) (es : List (D × D)), x = .ref a ∧ y = .ref b ∧ H3 a = some (NkO P w a xs) ∧ EnR K tp H3 xs es ∧ Rp K tp H3 (.ref b) d ∧ nkey d k ∧ xs.length ≤ sizeLine ∧ ∀ u : Value, RelV v u → T.nx σ (upd H3 a (NkO P w a (storedH xs k b u)))
section
variable {X : Cx} {o i value : Expr} {td ty tv : TE} {pos' pos : Pos}
theorem ps_nput (hu : X.A.units + 64 < cLine) (ho : PE X o td) (hi : PE X i ty) (hv : PE X value tv) (hs : swapsWith value (some (.Subscript o i pos')) pos.line X.env = pure false) :
    PS X (.Assign [.Subscript o i pos'] value pos) (sNPut X.prog X.w X.K td ty tv) := by
  refine ⟨fun pins s σ H T I h => ?_⟩
  refine wpAny_Assign_Subscript (thn (hv.run pins s σ H _ I h) fun r s1 ⟨v, H1, I1, rv, q1⟩ => thn (ho.run pins s1 σ H1 _ I1 q1) fun u s2 ⟨x, H2, I2, rx, q2⟩ => thn (hi.run pins s2 σ H2 _ I2 q2) fun iv s3 ⟨y, H3, I3, ry, tp, a, b, d, k, xs, es, ex, ey, hd, he, hb, hk, hl, q3⟩ => ?_) hs
  subst ex ey
  obtain rfl : u = Value.ref a := rx
  obtain rfl : iv = Value.ref b := ry
  obtain ⟨z3, dd3⟩ := Inv.dictN I3 (.inl hd) he
  refine wpAny_setItem_heap (knd := nsK X.prog X.w) (hsz := hl) (by show X.A.units + 1 + 8 < cLine; omega) (key_is I3 hb hk) dd3 fun h' hd' sb => ?_
  exact ⟨σ, _, Inv.wroteN I3 hd hd' sb, q3 r rv⟩
end
def sPutK (P : Program) (w : World) (i : Nat) (tk tv : VT) : VS := fun V E => tv E fun v E1 => (∃ kk es, E1.l[i]? = some (.ow kk (.ob (NkX P w es)))) ∧ tk E1 fun kd E2 => ∃ kk es k, E2.l[i]? = some (.ow kk (.ob (NkX P w es))) ∧ nkey kd k ∧ es.length < 1000000 ∧ V.nx (E2.set i (.ow kk (.ob (NkX P w (putK es kd v)))))
theorem nk_own {P : Program} {w : World} {Γ : Gm} {E : En} {σ : L2.St} {H : Hp} {i : Nat} {kk : Option Nat} {es : List (D × D)} (r : Rep Γ E σ H) (h : E.l[i]? = some (.ow kk (.ob (NkX P w es)))) : ∃ a xs, σ[i]? = some (some (.ref a)) ∧ H a = some (NkO P w a xs) ∧ EnR Γ.K Γ.tp H xs es ∧ Free Γ a ∧ ∀ j, kk = some j → Γ.io[j]? = some a := by
  obtain ⟨o, h1, a, u, rfl, h2, ⟨xs, rfl, h3⟩, h4, h5⟩ := r.sl i _ h
  exact ⟨a, xs, h1, h2, h3, h4, h5⟩
section
variable {X : Cx} {S : Sg} {o i value : Expr} {pos' pos : Pos}
theorem vs_putK {P : Program} {w : World} (hP : X.prog = P) (hW : X.w = w) {j : Nat} {tk tv : VT} (hK : S.K = X.K) (hu : X.A.units + 64 < cLine) (ho : PE X o (tVar j)) (hi : VE S X i tk) (hv : VE S X value tv) (hs : swapsWith value (some (.Subscript o i pos')) pos.line X.env = pure false := by rfl) :
    VSt S X (.Assign [.Subscript o i pos'] value pos) (sPutK P w j tk tv) := by
  subst hP hW
  refine ps_weak (ps_nput hu ho hi hv hs) ?_
  rintro D0 σ H ⟨Γ, E, V, ok, rp, ht, k⟩
  have eK : X.K = Γ.K := (ok.k.trans hK).symm
  refine ⟨Γ, E, _, ok, rp, ht, fun d E1 hq v H1 kq1 rp1 hv1 => ?_⟩
  obtain ⟨⟨kk1, es1, e1⟩, hq⟩ := hq
  obtain ⟨p1, xs1, hs1, _⟩ := nk_own rp1 e1
  refine ⟨_, hs1, ?_⟩
  refine ⟨Γ, E1, _, ok, rp1, hq, fun kd E2 hq2 y H2 kq2 rp2 hy => ?_⟩
  obtain ⟨kk2, es2, ky, e2, hk, hsz, hq3⟩ := hq2
  obtain ⟨p2, xs2, hs2, hd2, hn2, fr2, io2⟩ := nk_own rp2 e2
  rw [hs1] at hs2
  cases hs2
  obtain ⟨b, rfl⟩ := isT_ref hy hk.t
  refine ⟨Γ.tp, p1, b, kd, ky, xs2, es2, rfl, rfl, hd2, by rw [eK]; exact hn2, by rw [eK]; exact hy, hk, Nat.le_of_lt (millionL (by rw [hn2.len]; exact hsz)), fun u ru => ?_⟩
  have mu : Mut (some (NkO X.prog X.w p1 xs2)) := trivial
  have kq3 : Kq H2 (upd H2 p1 (NkO X.prog X.w p1 (storedH xs2 ky b u))) := .upd hd2 mu
  have hn3 := (hn2.put hk hy ru (Rp.kq kq2 _ _ hv1)).kq kq3
  exact k.nx _ hq3 σ _ ((kq1.trans kq2).trans kq3) (rp2.wr e2 rfl hs1 hd2 mu ⟨p1, _, rfl, upd_same, ⟨_, rfl, hn3⟩, fr2, io2⟩)
end
end Va
set_option Elab.async false
set_option linter.all false
set_option maxRecDepth 100000
set_option maxHeartbeats 4000000
namespace Va
open PySem PySem.Spec PyProof.Rows L2 Ind RowK
section
variable {X : Cx} {pins : List (Addr × Obj)} {σ : L2.St} {H : Hp} {s : Shared} {tp : Option Tp} {a b : Addr} {d : D} {k : NestedKey} {xs : List (NestedKey × Addr × Value)} {es : List (D × D)}
theorem putN_ok {E : Value → Shared → Prop} {v : Value} {Q : Unit → Shared → Prop} (I : Inv X pins σ H s) (ha : H a = some (NkO X.prog X.w a xs)) (he : EnR X.K tp H xs es) (hb : Rp X.K tp H (.ref b) d) (hk : nkey d k) (few : xs.length ≤ sizeLine) (hu : X.A.units + 64 < cLine)
    (kk : ∀ s', Inv X pins σ (upd H a (NkO X.prog X.w a (storedH xs k b v))) s' → Q () s') : wpAny (model X.prog X.w) X.A (dictSet a (.ref b) v) Q E s := by
  obtain ⟨z, dd⟩ := Inv.dictN I (.inl ha) he
  exact wpAny_dictSet_heap (knd := nsK X.prog X.w) (by show X.A.units + 8 < cLine; omega) (key_is I hb hk) dd (fun h' hd sb => kk _ (Inv.wroteN I ha hd sb)) few
end
def tDcN (P : Program) (w : World) (K : PySem.W.Frag) (wi : TI) (g : TG) (tt : TT) (tk tv : TE) (vs : List Nat) : TE := fun σ H Q => wi σ H fun J H1 => ∀ A, H1 A = none → ∃ W : Nat → Nat → Hp → Prop, (∃ m, W 0 m (upd H1 A (NkO P w A []))) ∧ ∀ i m H, W i m H →
  (J.stop i H ∧ Q (.ref A) H) ∨ (J.go i H ∧ ∃ Nx : Hp → Prop, (∀ H', Nx H' → ∃ m', m' < m ∧ W (i + 1) m' H') ∧ ∀ x H', J.yld i H x H' → g x (wipe σ vs) H' fun σ2 H2 => wipe σ2 vs = wipe σ vs ∧ tt σ2 H2 fun b H3 =>
    if b = true then tk σ2 H3 fun y H4 => tv σ2 H4 fun z H5 => ∃ (tp : Option Tp) (b : Addr) (d : D) (ky : NestedKey) (xs : List (NestedKey × Addr × Value)) (es : List (D × D)), y = .ref b ∧ Rp K tp H5 (.ref b) d ∧ nkey d ky ∧ H5 A = some (NkO P w A xs) ∧ EnR K tp H5 xs es ∧ xs.length ≤ sizeLine ∧ ∀ u : Value, RelV z u → Nx (upd H5 A (NkO P w A (storedH xs ky b u))) else Nx H3)
section
variable {X : Cx} {kx vx tg iter : Expr} {ifs : List Expr} {tt : TT} {scope : Scope} {own : List (PySem.Str × Nat)} {pos : Pos} {wi : TI} {g : TG} {tk tv : TE}
theorem pe_dcN (calm : X.calm = true) (hN : X.N.Nodup) (hi : PI X tg iter wi) (ok : BlkOk X.N X.env.scope scope own)
    (hg : ∀ (s : Shared) (H : Hp) (C : Addr) (cl : List (PySem.Str × Addr)) (fp : List Addr), PG (X.blk s H scope (compEnvC scope cl C X.env) fp) tg g)
    (ht : ∀ (s : Shared) (H : Hp) (C : Addr) (cl : List (PySem.Str × Addr)) (fp : List Addr), PTs (X.blk s H scope (compEnvC scope cl C X.env) fp) ifs tt)
    (hk : ∀ (s : Shared) (H : Hp) (C : Addr) (cl : List (PySem.Str × Addr)) (fp : List Addr), PE (X.blk s H scope (compEnvC scope cl C X.env) fp) kx tk)
    (he : ∀ (s : Shared) (H : Hp) (C : Addr) (cl : List (PySem.Str × Addr)) (fp : List Addr), PE (X.blk s H scope (compEnvC scope cl C X.env) fp) vx tv) (hu : X.A.units + 64 < cLine) (hs : ∀ x, foldedSetIterable iter X.env x = pure x := by intro _; rfl) :
    PE X (.DictComp kx vx [⟨tg, iter, ifs, 0⟩] scope pos) (tDcN X.prog X.w X.K wi g tt tk tv (own.map (·.2))) := by
  refine ⟨fun pins s0 σ H0 Q I0 h => ?_⟩
  rw [arm_eval_DictComp]
  have reach : ∀ y ∈ scope.names, y.2 = .free → ∃ c, X.env.cells.lookup y.1 = some c := fun y hy e => (ok.free y hy e).elim (fun z => I0.ok.has _ (.inl z)) fun z => I0.ok.has _ (.inr z)
  refine wpAny_comprehension_free (use := none) rfl hs (closure_ok reach) ok.kind (fun y hy e => (ok.uniq y hy).trans (congrArg some e)) (thn (hi.run pins s0 σ H0 _ I0 h) fun _ sA hA => thn hA fun _ sB hB => ?_)
  obtain ⟨it, fp, tn, J, HB, rfl, IB, T, tB, fB, body⟩ := hB
  refine wpAny_newObj_type (newEnv_comp ?_)
  obtain ⟨D, hD⟩ : ∃ D, D = sB.heap.objs.size := ⟨_, rfl⟩
  rw [← hD]
  obtain ⟨W, ⟨m0, w0⟩, turn⟩ := body D (IB.hok.fresh (Nat.le_of_eq hD.symm))
  obtain ⟨sC, hC⟩ : ∃ sC : Shared, sC = { sB with heap := sB.heap.push ob1 } := ⟨_, rfl⟩
  have keepC : ∀ b o, sB.heap.get? b = some o → sC.heap.get? b = some o := fun b o e => by rw [hC]; exact Heap.get?_push_of_some _ e
  have sizeC : sC.heap.objs.size = D + 1 := by rw [hC, hD]; exact Heap.size_push ..
  have IC : Inv X pins σ (upd HB D (NkO X.prog X.w D [])) sC := by
    have at_ : (sB.heap.push ob1).get? D = some ob1 := by rw [hD]; exact Heap.get?_push_size _ rfl
    have q := IB.laid (a := D) (t' := sB.toks) (h' := sB.heap.push ob1) (fun b o e => Heap.get?_push_of_some _ e) (Nat.le_of_eq hD.symm) (nkO_ok (xs := []) ⟨beq_eq_false_iff_ne.mpr (by rw [hD]; exact Ne.symm (Nat.ne_of_lt IB.big)), _, #[], 0, at_, ⟨rfl, rfl, rfl⟩, rfl, rfl, List.nodup_nil⟩)
    rw [hC]
    exact q
  have younger : ∀ b ∈ fp, b < sB.heap.objs.size := fun b hb => let ⟨_, e, _⟩ := T.obj _ _ tB b hb; Heap.lt_size e
  obtain ⟨HC, hHC⟩ : ∃ HC, HC = upd HB D (NkO X.prog X.w D []) := ⟨_, rfl⟩
  rw [← hHC] at IC w0
  have fC : ∀ b ∈ fp, FpOk X pins HC b ∧ b < sC.heap.objs.size := fun b hb => by
    have lt := younger b hb
    have off : HC b = none := by
      rw [hHC, upd_ne (by rw [hD]; exact Nat.ne_of_lt lt)]
      exact (fB b hb).1
    exact ⟨⟨off, (fB b hb).2⟩, by rw [sizeC, hD]; exact Nat.lt_succ_of_lt lt⟩
  have tC : tn 0 sC.heap := T.keep _ _ _ tB fun b _ o e => keepC b o e
  have ID := block_start IC ok hN fC
  have pg := hg sC HC sC.heap.objs.size (cellsAt X scope sC.heap.objs.size) fp
  have pt := ht sC HC sC.heap.objs.size (cellsAt X scope sC.heap.objs.size) fp
  have pk := hk sC HC sC.heap.objs.size (cellsAt X scope sC.heap.objs.size) fp
  have pe := he sC HC sC.heap.objs.size (cellsAt X scope sC.heap.objs.size) fp
  have goal : codeAny (model X.prog X.w) X.A (.compStart (.DictComp kx vx [⟨tg, iter, ifs, 0⟩] scope pos) 0 (.ref it) (.ref D) (compEnvC scope (cellsAt X scope sC.heap.objs.size) sC.heap.objs.size X.env))
      (compPost (model X.prog X.w) X.A X.xe none (EP X pins σ Q) (.ref D) sC.heap.objs.size) { sC with heap := pushCells (sC.heap.push { cls := .type "dict", data := .dict #[] }) scope.names } := by
    obtain ⟨ce, hce⟩ : ∃ ce, ce = compEnvC scope (cellsAt X scope sC.heap.objs.size) sC.heap.objs.size X.env := ⟨_, rfl⟩
    rw [← hce] at ID pg pt pk pe ⊢
    have cL : ce.locals = sC.heap.objs.size := by rw [hce]; rfl
    obtain ⟨sD, hsD⟩ : ∃ sD : Shared, sD = { sC with heap := pushCells (sC.heap.push { cls := .type "dict", data := .dict #[] }) scope.names } := ⟨_, rfl⟩
    rw [← hsD] at ID ⊢
    have tD : tn 0 sD.heap := T.keep _ _ _ tC fun b _ o e => by rw [hsD]; exact pushCells_keeps _ _ _ _ (Heap.get?_push_of_some _ e)
    have own_fp : ∀ {σ' : L2.St} {H' : Hp} {s' : Shared}, Inv (X.blk sC HC scope ce fp) [] σ' H' s' → (∀ b ∈ fp, H' b = none) → ∀ b ∈ fp, FpOk (X.blk sC HC scope ce fp) [] H' b := fun {σ' H' s'} I' off b hb => by
      obtain ⟨x1, x2⟩ := I'.ok.exf b hb
      exact ⟨off b hb, x1, I'.ok.exfs b hb, .inl hb, fun x c e => x2 x c e, fun p hp => absurd (show p ∈ ([] : List (Addr × Obj)) ++ [] from hp) (by simp)⟩
    have loop : codeAny (model X.prog X.w) X.A (.compLoop (.DictComp kx vx [⟨tg, iter, ifs, 0⟩] scope pos) 0 (.ref it) (.ref D) ce) (compPost (model X.prog X.w) X.A X.xe none (EP X pins σ Q) (.ref D) sC.heap.objs.size) sD := by
      refine compLoop_anyD (fun n s' => ∃ i H', Inv (X.blk sC HC scope ce fp) [] (wipe σ (own.map (·.2))) H' s' ∧ tn i s'.heap ∧ (∀ b ∈ fp, H' b = none) ∧ W i n H') ?_ m0 ⟨0, HC, ID, tD, fun b hb => (fC b hb).1.1, w0⟩
      rintro n s5 ⟨i, H5, I5, t5, o5, w5⟩
      rcases turn i n H5 w5 with ⟨stop, fin⟩ | ⟨go, Nx, next, step⟩
      · refine thnF (T.done (X.blk sC HC scope ce fp) rfl rfl rfl calm i [] s5 _ H5 (fun _ _ => False) I5 (own_fp I5 o5) t5 stop) fun r s6 ⟨hr, I6⟩ => ?_
        subst hr
        have I7 : Inv X pins σ H5 s6 := IC.call' (ch := fp) I6.os I6.base I6.hok I6.bare fun b hb => by
          obtain ⟨⟨_, y1, _, y2, y3, y4⟩, _⟩ := fC b hb
          exact ⟨y2, y1, y3, y4⟩
        have free : H5 sC.heap.objs.size = none := by
          have z : H5 ce.locals = none := I6.free
          rwa [cL] at z
        obtain ⟨m, ns, _⟩ := I6.loc
        have ns : s6.heap.Ns ce.locals m := ns
        rw [cL] at ns
        obtain ⟨f0, f1, _, f3, f4, f5⟩ := IC.fpOk (Nat.le_refl _) free
        exact ⟨m, ns, fun h'' sb => ⟨.ref D, H5, I7.turned (t' := s6.toks) (fun b o hb e => (sb.2 b hb).trans e) f0 f1 f3 f4 f5, rfl, fin⟩⟩
      · refine thnF (T.item (X.blk sC HC scope ce fp) rfl rfl rfl calm i [] s5 _ H5 (fun _ _ => False) I5 (own_fp I5 o5) t5 go) fun r s6 ⟨u, hr, h6⟩ => ?_
        subst hr
        refine thnF h6 fun _ s7 ⟨x, H7, I7, r7, y7, t7, o7⟩ => ?_
        refine thnF (pg.run _ s7 _ H7 x u _ (I7.pinned (own_fp I7 o7) (T.obj _ _ t7)) r7 (step x H7 y7)) fun _ s8 ⟨σ8, H8, I8, hw8, q8⟩ => ?_
        refine thnF (pt.run _ s8 σ8 H8 _ I8 q8) fun b s9 ⟨H9, I9, q9⟩ => ?_
        have fin : ∀ {s' : Shared} {H' : Hp}, Inv (X.blk sC HC scope ce fp) ([] ++ pinsAt fp s7.heap) σ8 H' s' → Nx H' → ∃ m, m < n ∧ ∃ i H', Inv (X.blk sC HC scope ce fp) [] (wipe σ (own.map (·.2))) H' s' ∧ tn i s'.heap ∧ (∀ b ∈ fp, H' b = none) ∧ W i m H' := fun {s' H'} I' nx => by
          obtain ⟨m', lt, w'⟩ := next H' nx
          have still : ∀ b ∈ fp, ∀ o, s7.heap.get? b = some o → s'.heap.get? b = some o ∧ H' b = none := fun b hb o e =>
            let z := I'.pin (b, o) (List.mem_append_right _ (List.mem_append_right _ (mem_pinsAt hb e)))
            ⟨z.1, z.2.1⟩
          have hl : (wipe σ (own.map (·.2))).length = σ8.length := (congrArg List.length hw8.symm).trans (wipe_length ..)
          refine ⟨m', lt, i + 1, H', (I'.unpinned (pins := [])).weak hl (fun j v e => ?_), T.keep _ _ _ t7 fun b hb o e => (still b hb o e).1, fun b hb => ?_, w'⟩
          · exact (wipe_some (by rw [hw8]; exact e)).1
          · obtain ⟨o, e, _⟩ := T.obj _ _ t7 b hb
            exact (still b hb o e).2
        cases b with
        | false =>
          simp only [Bool.false_eq_true, if_false] at q9 ⊢
          exact fin I9 q9
        | true =>
          simp only [if_true] at q9 ⊢
          refine thnF (pk.run _ s9 σ8 H9 _ I9 q9) fun z s10 ⟨yk, H10, I10, r10, q10⟩ => ?_
          refine thnF (pe.run _ s10 σ8 H10 _ I10 q10) fun z2 s11 ⟨yv, H11, I11, r11, tp, b1, d1, ky, xs, es, ek, hb1, hky, hx, hes, few, nx⟩ => ?_
          subst ek
          obtain rfl : z = Value.ref b1 := r10
          exact putN_ok (X := X.blk sC HC scope ce fp) I11 hx hes hb1 hky few hu fun s12 I12 => fin I12 (nx z2 r11)
    exact codeAny_compStart_dict loop (T.self X.A 0 _ _ _ tD loop)
  rw [hC] at goal
  exact goal
end
section
variable {X : Cx} {S : Sg}
def vDcN (P : Program) (w : World) (vi : VI) (g : VG) (c : VTT) (tk tv : VT) (vs : List Nat) : VT := fun E Q => vi E fun ds E1 => ds.length < 1000000 ∧ ∃ T : Nat → List (D × D) → Nat → Prop, T 0 [] E1.c ∧
  (∀ i d acc k, ds[i]? = some d → T i acc k → acc.length ≤ i → g d (blkE ⟨E1.l, k⟩ vs) fun E2 => c E2 fun b E3 => (b = true → tk E3 fun kd E4 => tv E4 fun x E5 => ∃ ky, nkey kd ky ∧ T (i + 1) (putK acc kd x) E5.c) ∧ (b = false → T (i + 1) acc E3.c)) ∧
  ∀ acc k, T ds.length acc k → acc.length ≤ ds.length → Q (.ob (NkS P w acc)) ⟨E1.l, k⟩
theorem dcN_lift {P : Program} {w : World} {K : PySem.W.Frag} (hK : S.K = K) {vi : VI} {g : VG} {c : VTT} {tk tv : VT} {vs : List Nat} {σ : L2.St} {H : Hp} {Q : VK} (h : liftV S (vDcN P w vi g c tk tv vs) σ H Q) :
    tDcN P w K (liftI S vi) (liftG S vs g) (liftT S c) (liftV S tk) (liftV S tv) vs σ H (fun v H' => Q v H' ∨ ∃ a u, v = .ref a ∧ H' a = some u ∧ Mut (some u) ∧ ∀ o, Q v (upd H' a (.frz o u))) := by
  obtain ⟨Γ, E, Q0, ok, rp, ht, k⟩ := h
  have eK : K = Γ.K := (ok.k.trans hK).symm
  refine ⟨Γ, E, _, ok, rp, ht, fun ds E1 ⟨hsz, T, p0, ps, pn⟩ J H1 kq1 rp1 it A nA => ?_⟩
  obtain ⟨frA, loA⟩ := rp1.fresh nA
  have sm0 := same_upd (o := NkO P w A []) nA
  refine ⟨fun i m H' => m = ds.length - i ∧ i ≤ ds.length ∧ ∃ acc xs q, T i acc q ∧ acc.length ≤ i ∧ H' A = some (NkO P w A xs) ∧ EnR Γ.K Γ.tp H' xs acc ∧ Kq H1 H' ∧ Rep Γ ⟨E1.l, q⟩ σ H', ⟨_, rfl, Nat.zero_le _, [], [], E1.c, p0, Nat.le_refl _, upd_same, .nil, Kq.same sm0, rp1.same sm0⟩, ?_⟩
  rintro i m H' ⟨rfl, hi, acc, xs, q0, pi, la, hA, hx, kq', rp'⟩
  by_cases hlt : i < ds.length
  · refine .inr ⟨it.go i H' hlt kq', fun H2 => i + 1 ≤ ds.length ∧ ∃ acc xs q, T (i + 1) acc q ∧ acc.length ≤ i + 1 ∧ H2 A = some (NkO P w A xs) ∧ EnR Γ.K Γ.tp H2 xs acc ∧ Kq H1 H2 ∧ Rep Γ ⟨E1.l, q⟩ σ H2, fun H2 h => ⟨_, by omega, rfl, h⟩, fun x H2 y => ?_⟩
    obtain ⟨d, ed, rd, sm⟩ := it.yld i H' x H2 hlt kq' y
    have rp2 := rp'.same sm
    have okb : (Γ.blk H2).Ok S := ⟨ok.k, ok.b, ok.t⟩
    refine ⟨Γ.blk H2, blkE ⟨E1.l, q0⟩ vs, d, _, okb, rp2.enter.wipe vs, rd, ps i d acc q0 ed pi la, fun E2 q2 σ2 r2 o2 => ⟨wipe_only o2, ?_⟩⟩
    refine ⟨Γ.blk H2, E2, _, okb, r2, q2, fun b E3 q3 H3 kq3 r3 => ?_⟩
    have kq2 := kq'.trans (Kq.same sm)
    cases b with
    | true =>
      refine iteT ⟨Γ.blk H2, E3, _, okb, r3, q3.1 rfl, fun kd E4 q4 yk H4 kq4 r4 hy => ?_⟩
      refine ⟨Γ.blk H2, E4, _, okb, r4, q4, fun z E5 q5 v H5 kq5 r5 hv => ?_⟩
      obtain ⟨ky, hky, q5⟩ := q5
      obtain ⟨bk, rfl⟩ := isT_ref hy hky.t
      have hA5 : H5 A = some (NkO P w A xs) := r5.base.ext A _ frA.nsp (by simp) (sm _ _ hA)
      have rpl := rp2.leave r5.base r5.few
      have mu : Mut (some (NkO P w A xs)) := trivial
      have kq5' := ((kq3.trans kq4).trans kq5)
      have hx5 : EnR Γ.K Γ.tp H5 xs acc := EnR.kq ((Kq.same sm).trans kq5') hx
      have hy5 : Rp Γ.K Γ.tp H5 (.ref bk) kd := Rp.kq kq5 _ _ hy
      have el : xs.length = acc.length := hx5.len
      refine ⟨Γ.tp, bk, kd, ky, xs, acc, rfl, by rw [eK]; exact hy5, hky, hA5, by rw [eK]; exact hx5, Nat.le_of_lt (millionL (by omega)), fun u ru => ?_⟩
      have kqu : Kq H5 (upd H5 A (NkO P w A (storedH xs ky bk u))) := Kq.upd hA5 mu
      exact ⟨hlt, putK acc kd z, _, E5.c, q5, by have := putK_len acc kd z; omega, upd_same, EnR.kq kqu (hx5.put hky hy5 ru hv), (kq2.trans kq5').trans kqu, rpl.lone hA5 mu frA loA⟩
    | false =>
      refine iteF ⟨hlt, acc, xs, E3.c, q3.2 rfl, by omega, r3.base.ext A _ frA.nsp (by simp) (sm _ _ hA), EnR.kq ((Kq.same sm).trans kq3) hx, kq2.trans kq3, rp2.leave r3.base r3.few⟩
  · have e : i = ds.length := by omega
    subst e
    have mu : Mut (some (NkO P w A xs)) := trivial
    refine .inl ⟨it.stop H' kq', .inr ⟨A, _, rfl, hA, mu, fun o => ?_⟩⟩
    have kqf : Kq H' (upd H' A (.frz o (NkO P w A xs))) := .upd hA mu
    exact k _ _ (pn acc q0 pi la) _ _ ((kq1.trans kq').trans kqf) (rp'.lone hA mu frA loA) (.ob ⟨A, o, xs, rfl, upd_same, EnR.kq kqf hx⟩)
variable {kx vx tg iter : Expr} {ifs : List Expr} {scope : Scope} {own : List (PySem.Str × Nat)} {pos : Pos} {vi : VI} {g : VG} {c : VTT} {tk tv : VT}
theorem ve_dcN {P : Program} {w : World} (hP : X.prog = P) (hW : X.w = w) (hK : S.K = X.K) (hu : X.A.units + 64 < cLine) (hc : X.calm = true) (hN : X.N.Nodup) (hi : VIt S X tg iter vi) (ok : BlkOk X.N X.env.scope scope own)
    (hg : ∀ (s : Shared) (H : Hp) (C : Addr) (cl : List (PySem.Str × Addr)) (fp : List Addr), PG (X.blk s H scope (compEnvC scope cl C X.env) fp) tg (liftG S (own.map (·.2)) g)) (ht : ∀ (s : Shared) (H : Hp) (C : Addr) (cl : List (PySem.Str × Addr)) (fp : List Addr), VTs S (X.blk s H scope (compEnvC scope cl C X.env) fp) ifs c)
    (hk : ∀ (s : Shared) (H : Hp) (C : Addr) (cl : List (PySem.Str × Addr)) (fp : List Addr), VE S (X.blk s H scope (compEnvC scope cl C X.env) fp) kx tk)
    (he : ∀ (s : Shared) (H : Hp) (C : Addr) (cl : List (PySem.Str × Addr)) (fp : List Addr), VE S (X.blk s H scope (compEnvC scope cl C X.env) fp) vx tv) (hs : ∀ x, foldedSetIterable iter X.env x = pure x := by intro _; rfl) :
    VE S X (.DictComp kx vx [⟨tg, iter, ifs, 0⟩] scope pos) (vDcN P w vi g c tk tv (own.map (·.2))) := by
  subst hP hW
  exact pe_weak (pe_frz (pe_dcN hc hN hi ok hg ht hk he hu hs)) fun _ _ _ h => dcN_lift hK h
end
end Va
set_option Elab.async false
set_option linter.all false
set_option maxRecDepth 100000
set_option maxHeartbeats 4000000
namespace Va
open PySem PySem.Spec PyProof.Rows L2 Ind RowK
theorem nk_new {P : Program} {w : World} {H : Hp} (h : Heap) (hb : sysModules < h.objs.size) : ObjOk P w H (h.push { cls := .type "dict", data := .dict #[] }) h.objs.size (NkO P w h.objs.size []) :=
  nkO_ok (xs := []) ⟨beq_eq_false_iff_ne.mpr (Ne.symm (Nat.ne_of_lt hb)), _, #[], 0, Heap.get?_push_size _ rfl, ⟨rfl, rfl, rfl⟩, rfl, rfl, List.nodup_nil⟩
def tDisp1 (P : Program) (w : World) (K : PySem.W.Frag) (tk tv : TE) : TE := fun σ H Q => ∀ p, H p = none → tk σ (upd H p (NkO P w p [])) fun x H1 => tv σ H1 fun v H2 => ∃ (tp : Option Tp) (b : Addr) (d : D) (k : NestedKey), x = .ref b ∧ H2 p = some (NkO P w p []) ∧ Rp K tp H2 (.ref b) d ∧ nkey d k ∧ ∀ u : Value, RelV v u → Q (.ref p) (upd H2 p (NkO P w p [(k, b, u)]))
section
variable {X : Cx} {k v : Expr} {pos : Pos} {tk tv : TE}
theorem pe_disp1 (hu : X.A.units + 64 < cLine) (hk : PE X k tk) (hv : PE X v tv) : PE X (.Dict [some k] [v] pos) (tDisp1 X.prog X.w X.K tk tv) := by
  refine ⟨fun pins s σ H Q I q => ?_⟩
  have hn := I.hok.fresh (Nat.le_refl s.heap.objs.size)
  have I1 := I.laid (a := s.heap.objs.size) (o := NkO X.prog X.w s.heap.objs.size []) (h' := s.heap.push { cls := .type "dict", data := .dict #[] }) (t' := s.toks) (fun _ _ q => Heap.get?_push_of_some _ q) (Nat.le_refl _) (nk_new s.heap I.big)
  have hl := pairTrees_length [some k] [v] X.env pos rfl rfl
  rw [arm_eval_Dict, zip_pairTrees [some k] [v] X.env pos rfl rfl, dictDisplay_pairs (pairTrees [some k] [v] X.env pos) (fun e => by rw [e] at hl; cases hl) (by rw [hl]; exact (by decide : 1 < 17))]
  refine wpAny_bind (wpAny_standAt (wpAny_bind (wpAny_subDictH (knd := nsK X.prog X.w) (Q := fun d s' => wpAny (model X.prog X.w) X.A (pure (Value.ref d)) _ X.xe s') (by show X.A.units + 8 < cLine; omega) (by rw [hl]; exact (by decide : 1 ≤ 15)) ?_)))
  refine pairTrees_cons_walk (thn (hk.run pins _ σ _ _ I1 (q _ hn)) fun u s1 ⟨x, H1, I2, rx, q1⟩ => thn (hv.run pins s1 σ H1 _ I2 q1) fun w2 s2 ⟨y, H2, I3, ry, tp, b, d, ky, ex, hp, hb, hk, q2⟩ => pairTrees_nil_walk ?_)
  subst ex
  obtain rfl : u = Value.ref b := rx
  obtain ⟨z, dd⟩ := Inv.dictN I3 (tp := tp) (.inl hp) .nil
  have e : storedAllH [] [(ky, b, w2)] = [(ky, b, w2)] := storedH_new (xs := []) (k := ky) rfl b w2
  refine ⟨[(ky, b, w2)], ⟨rfl, rfl, key_is I3 hb hk, trivial⟩, dd, fun h' tk hd sb => wpAny_pure ⟨.ref _, _, Inv.wroteN I3 hp (ys := [(ky, b, w2)]) (by rw [e] at hd; exact hd) sb, rfl, q2 _ ry⟩⟩
end
def sSetN1 (P : Program) (w : World) (i : Nat) (tk tv : VT) : VS := fun V E => tk (shutE E) fun kd E1 => tv E1 fun v E2 => ∃ k, nkey kd k ∧ V.nx ((⟨E.l, E2.c⟩ : En).set i (.ow none (.ob (NkX P w [(kd, v)]))))
section
variable {X : Cx} {S : Sg} {k v : Expr} {i : Nat} {x : PySem.Str} {spos pos pos' : Pos} {tk tv : VT}
theorem vs_setN1 {P : Program} {w : World} (hP : X.prog = P) (hW : X.w = w) (hK : S.K = X.K) (hN : X.N.Nodup) (hi0 : X.N[i]? = some x) (hx : Loc X.env.scope x) (hu : X.A.units + 64 < cLine) (hk : VE S X k tk) (hv : VE S X v tv)
    (hsw : swapsWith (.Dict [some k] [v] pos) (some (.Name x pos')) spos.line X.env = pure false := by rfl) (hf : X.fn x = true ∨ X.env.scope.names.lookup x = some .local := by first | exact .inl rfl | exact .inr rfl | assumption) :
    VSt S X (.Assign [.Name x pos'] (.Dict [some k] [v] pos) spos) (sSetN1 P w i tk tv) := by
  subst hP hW
  refine ps_weak (ps_set hN hi0 hx (pe_disp1 hu hk hv) hsw hf) ?_
  rintro V0 σ H1 ⟨Γ, E1, V, okΓ, rp1, ht, k⟩
  have eK : X.K = Γ.K := hK.symm.trans okΓ.k.symm
  intro p np
  obtain ⟨fr, lo⟩ := rp1.fresh np
  have sm := same_upd (o := NkO X.prog X.w p []) np
  have rp2 := rp1.same sm
  have okb : (Γ.blk (upd H1 p (NkO X.prog X.w p []))).Ok S := ⟨okΓ.k, okΓ.b, okΓ.t⟩
  refine ⟨Γ.blk _, shutE E1, _, okb, rp2.enter, ht, fun kd E2 h2 y H2 kq2 r2 hy => ?_⟩
  refine ⟨Γ.blk _, E2, _, okb, r2, h2, fun vd E3 h3 z H3 kq3 r3 hz => ?_⟩
  obtain ⟨ky, hky, fin⟩ := h3
  obtain ⟨b, rfl⟩ := isT_ref hy hky.t
  have at3 : H3 p = some (NkO X.prog X.w p []) := r3.base.ext p _ fr.nsp (by simp) upd_same
  have rp3 : Rep Γ ⟨E1.l, E3.c⟩ σ H3 := rp2.leave r3.base r3.few
  have mu : Mut (some (NkO X.prog X.w p [])) := trivial
  have hy3 : Rp Γ.K Γ.tp H3 (.ref b) kd := Rp.kq kq3 _ _ hy
  refine ⟨Γ.tp, b, kd, ky, rfl, at3, by rw [eK]; exact hy3, hky, fun u ru => ?_⟩
  have kq4 : Kq H3 (upd H3 p (NkO X.prog X.w p [(ky, b, u)])) := .upd at3 mu
  refine k.nx _ fin _ _ ((((Kq.same sm).trans kq2).trans kq3).trans kq4) ((rp3.lone at3 mu fr lo).setO i ⟨p, _, rfl, upd_same, ⟨_, rfl, EnR.kq kq4 (.cons hky hy3 ru hz .nil)⟩, fr, fun _ z => nomatch z⟩ lo)
end
def vLockN (P : Program) (w : World) (i : Nat) : VT := fun E Q => ∃ es, E.l[i]? = some (.ow none (.ob (NkX P w es))) ∧ Q (.ob (NkS P w es)) (E.set i (.v (.ob (NkS P w es))))
section
variable {X : Cx} {S : Sg} {e : Expr}
theorem ve_lockN {P : Program} {w : World} {i : Nat} (he : PE X e (tVar i)) : VE S X e (vLockN P w i) := by
  refine pe_weak (pe_frz he) ?_
  rintro σ H Q ⟨Γ, E, Q0, ok, rp, ⟨es, e0, hq⟩, k⟩
  obtain ⟨p, xs, hs, hd, hn, fr, io⟩ := nk_own rp e0
  refine ⟨_, hs, .inr ⟨p, _, rfl, hd, trivial, fun o => ?_⟩⟩
  have mu : Mut (some (NkO P w p xs)) := trivial
  have kq : Kq H (upd H p (.frz o (NkO P w p xs))) := .upd hd mu
  have hr : Γ.Rp (upd H p (.frz o (NkO P w p xs))) (.ref p) (.ob (NkS P w es)) := .ob ⟨p, o, xs, rfl, upd_same, EnR.kq kq hn⟩
  exact k _ _ hq _ _ kq (rp.wr e0 rfl hs hd mu ⟨_, rfl, hr⟩) hr
end
end Va
set_option Elab.async false
set_option linter.all false
set_option maxRecDepth 100000
set_option maxHeartbeats 4000000
namespace Va
open PySem PySem.Spec PyProof.Rows L2 Ind RowK LiI
def putP : Hp → List Addr → List (V × V) → Hp
  | H, a :: as, p :: ps => putP (upd H a (.tup [p.1, p.2])) as ps
  | H, _, _ => H
theorem putP_off {b : Addr} : ∀ {as : List Addr} {ps : List (V × V)} {H : Hp}, b ∉ as → putP H as ps b = H b
  | [], _, _, _ => rfl
  | _ :: _, [], _, _ => rfl
  | a :: as, p :: ps, H, h => by
    rw [List.mem_cons, not_or] at h
    show putP (upd H a (.tup [p.1, p.2])) as ps b = H b
    rw [putP_off h.2, upd_ne h.1]
theorem putP_at : ∀ {as : List Addr} {ps : List (V × V)} {H : Hp}, as.Nodup → ∀ {j : Nat} {a : Addr} {p : V × V}, as[j]? = some a → ps[j]? = some p → putP H as ps a = some (.tup [p.1, p.2])
  | [], _, _, _, j, a, p, e1, _ => by simp at e1
  | _ :: _, [], _, _, j, a, p, _, e2 => by simp at e2
  | c :: as, q :: ps, H, nd, 0, a, p, e1, e2 => by
    cases e1
    cases e2
    show putP (upd H c (.tup [q.1, q.2])) as ps c = _
    rw [putP_off (List.nodup_cons.mp nd).1, upd_same]
  | c :: as, q :: ps, H, nd, j + 1, a, p, e1, e2 => putP_at (H := upd H c (.tup [q.1, q.2])) (List.nodup_cons.mp nd).2 (j := j) e1 e2
section
variable {X : Cx}
theorem pairs_laid {pins : List (Addr × Obj)} {σ : L2.St} {H : Hp} {s : Shared} {h' : Heap} {tk : Nat} {ps : List (V × V)} {es : Array DictEntry} {acc : Array Value} {c : Nat} {as : List Addr} (I : Inv X pins σ H s) (hz : ps.length ≤ sizeLine) (hp : ∀ j p, ps[j]? = some p → ∀ hj : j < es.size, RelV p.1 es[j].key ∧ RelV p.2 es[j].val) (ln : ps.length = es.size)
    (hk : ∀ b o, s.heap.get? b = some o → h'.get? b = some o) (hS : h'.get? s.heap.objs.size = some { cls := .type "list", dict := none, data := .seq acc c, slots := #[] }) (hl : as.length = es.size) (hG : PySem.W.DilG es s.heap.objs.size h' as) (hacc : acc.toList = as.map Value.ref) :
    ∃ H' : Hp, (∀ b o, H b = some o → H' b = some o) ∧ H s.heap.objs.size = none ∧ H' s.heap.objs.size = some (.lst (as.map V.ref)) ∧ (∀ (j : Nat) (a : Addr) (p : V × V), as[j]? = some a → ps[j]? = some p → H' a = some (.tup [p.1, p.2])) ∧ Inv X pins σ H' { s with heap := h', toks := tk } := by
  have hSn : s.heap.objs.size ∉ as := fun z => Nat.lt_irrefl _ (hG.above _ z)
  have nd : as.Nodup := List.Pairwise.imp (fun {a b} (h : a < b) => Nat.ne_of_lt h) hG.rise
  have new : ∀ t ∈ as, H t = none := fun t ht => I.hok.fresh (Nat.le_of_lt (hG.above t ht))
  have newS : H s.heap.objs.size = none := I.hok.fresh (Nat.le_refl _)
  obtain ⟨H1, hH1⟩ : ∃ H1, H1 = putP (upd H s.heap.objs.size (.lst (as.map V.ref))) as ps := ⟨_, rfl⟩
  have atP : ∀ (j : Nat) (a : Addr) (p : V × V), as[j]? = some a → ps[j]? = some p → H1 a = some (.tup [p.1, p.2]) := fun j a p e1 e2 => by rw [hH1]; exact putP_at nd e1 e2
  have off : ∀ b, b ∉ as → b ≠ s.heap.objs.size → H1 b = H b := fun b h1 h2 => by rw [hH1, putP_off h1, upd_ne h2]
  have low : ∀ b o, s.heap.get? b = some o → b ∉ as ∧ b ≠ s.heap.objs.size := fun b o e => ⟨fun z => absurd (Heap.lt_size e) (Nat.not_lt.mpr (Nat.le_of_lt (hG.above b z))), Nat.ne_of_lt (Heap.lt_size e)⟩
  have kp : ∀ b u, H b = some u → H1 b = some u := fun b u e => by
    rw [off b (fun z => by rw [new b z] at e; cases e) (fun z => by rw [z, newS] at e; cases e)]
    exact e
  have eS : H1 s.heap.objs.size = some (.lst (as.map V.ref)) := by rw [hH1, putP_off hSn, upd_same]
  refine ⟨H1, kp, newS, eS, atP, ?_⟩
  refine I.call' (ch := []) rfl ⟨fun b o q _ _ _ => hk b o q, fun b o q _ _ _ => ⟨o.slots, hk b o q⟩, fun b o q n _ => ?_, fun b o q _ => ⟨o, hk b o q⟩, fun b xs q => kp b _ q, fun b o u q => kp b _ q, fun b ps q => ⟨#[], by rw [kp b _ q]; simp⟩⟩ (fun b u q => ?_) I.bare fun b z => by simp at z
  · obtain ⟨z1, z2⟩ := low b o q
    rw [off b z1 z2]
    exact n
  · by_cases hb : b ∈ as
    · obtain ⟨j, hj, ej⟩ := List.mem_iff_getElem.mp hb
      have e1 : as[j]? = some b := by rw [List.getElem?_eq_getElem hj, ej]
      have hj2 : j < ps.length := by omega
      have e2 : ps[j]? = some ps[j] := List.getElem?_eq_getElem hj2
      rw [atP j b _ e1 e2] at q
      cases q
      obtain ⟨hj3, f3⟩ := hG.pairs j b e1
      obtain ⟨g1, g2⟩ := hp j _ e2 hj3
      exact ⟨by show 2 ≤ sizeLine; decide, [es[j].key, es[j].val], .cons g1 (.cons g2 .nil), ⟨_, f3, rfl, _, rfl⟩⟩
    · by_cases hb2 : b = s.heap.objs.size
      · rw [hb2] at q ⊢
        rw [eS] at q
        cases q
        refine ⟨by rw [List.length_map]; omega, acc.toList, c, by rw [hacc]; exact LiI.vals_refs as, ?_⟩
        rw [Array.toArray_toList]
        exact hS
      · rw [off b hb hb2] at q
        exact (I.hok b u q).stay (fun d v _ y => hk d v y) (fun d y => kp d _ y) fun d xs y => kp d _ y
end
theorem EnR.vps {K : PySem.W.Frag} {tp : Option Tp} {H : Hp} {xs : List (NestedKey × Addr × Value)} {es : List (D × D)} (h : EnR K tp H xs es) : ∃ ps : List (V × V), ps.length = xs.length ∧ (∀ (j : Nat) (p : V × V) (k : NestedKey) (b : Addr) (u : Value), ps[j]? = some p → xs[j]? = some (k, b, u) → p.1 = V.ref b ∧ RelV p.2 u) ∧ ∀ (j : Nat) (p : V × V) (e : D × D), ps[j]? = some p → es[j]? = some e → Rp K tp H p.1 e.1 ∧ Rp K tp H p.2 e.2 := by
  induction h with
  | nil => exact ⟨[], rfl, fun j p k b u e _ => by simp at e, fun j p e e1 _ => by simp at e1⟩
  | @cons k b u v d e xs es h1 h2 h3 h4 _ ih =>
    obtain ⟨ps, l, f, g⟩ := ih
    refine ⟨(.ref b, v) :: ps, by simp [l], fun j p k2 b2 u2 e1 e2 => ?_, fun j p e3 e1 e2 => ?_⟩
    · cases j with
      | zero => cases e1; cases e2; exact ⟨rfl, h3⟩
      | succ j => exact f j p k2 b2 u2 e1 e2
    · cases j with
      | zero => cases e1; cases e2; exact ⟨h2, h4⟩
      | succ j => exact g j p e3 e1 e2
def tListItN (P : Program) (w : World) (K : PySem.W.Frag) (te : TE) : TE := fun σ H Q => te σ H fun x H1 => ∃ (tp : Option Tp) (d : Addr) (xs : List (NestedKey × Addr × Value)) (es : List (D × D)), x = .ref d ∧ RdN P w H1 d xs ∧ EnR K tp H1 xs es ∧ xs.length ≤ sizeLine ∧
  ∀ (H' : Hp) (p : Addr) (ts : List Addr) (ps : List (V × V)), (∀ b o, H1 b = some o → H' b = some o) → H1 p = none → H' p = some (.lst (ts.map V.ref)) → ts.length = xs.length → ps.length = xs.length → (∀ (j : Nat) (a : Addr) (q : V × V), ts[j]? = some a → ps[j]? = some q → H' a = some (.tup [q.1, q.2])) →
    (∀ (j : Nat) (q : V × V) (e : D × D), ps[j]? = some q → es[j]? = some e → Rp K tp H1 q.1 e.1 ∧ Rp K tp H1 q.2 e.2) → Q (.ref p) H'
section
variable {X : Cx} {e : Expr} {te : TE} {p apos cpos pos : Pos}
theorem pe_listItN (hc : X.calm = true) (he : PE X e te) (hg : Gl X "list") (hm : X.mg "list" = none) (hv : bootBuiltins "list" = some (.type "list")) (hbase : attributeBase e "items" X.env (eval e X.env) = eval e X.env := by rfl) (hline : (apos.endLine == cpos.line) = true := by rfl)
    (hs : starEach [.Call (.Attribute e "items" apos) [] [] cpos] X.env = (false, eval (.Call (.Attribute e "items" apos) [] [] cpos) X.env) :: starEach [] X.env := by rfl) :
    PE X (.Call (.Name "list" p) [.Call (.Attribute e "items" apos) [] [] cpos] [] pos) (tListItN X.prog X.w X.K te) := by
  refine ⟨fun pins s σ H Q I hq => ?_⟩
  refine wpAny_Call_Name_kw (ld_blt I hg hm hv ?_)
  refine PyProof.Rows.callWith_type1 ?_ hs rfl
  rw [hs]
  show wpAny _ _ (spliced ((false, eval (.Call (.Attribute e "items" apos) [] [] cpos) X.env) :: backTo pos (starEach [] X.env))) _ _ s
  refine Calls.spliced_cons ?_
  refine wpAny_Call_method (T := "dict") (id := "dict.items") hbase rfl hline F.plainAttrs_dict F.slot_dict_items F.type_dict_items (thn (he.run pins s σ H _ I hq) fun u s1 ⟨x, H1, I1, rx, tp, d, xs, es, ex, hd, hn, hz, q⟩ => ?_)
  subst ex
  obtain rfl : u = Value.ref d := rx
  obtain ⟨hs0, dd⟩ := Inv.dictN I1 hd hn
  obtain ⟨_, o, en, ep, h1, h2, h3, h4, h5⟩ := Inv.rawN I1 hd
  have raw : s1.heap.DictRaw d en ep := ⟨o, h1, h2, h3⟩
  have l1 : en.size = xs.length := size_of_entries h4
  have I2 : Inv X pins σ H1 { s1 with heap := s1.heap.push { cls := .type "dict_items", data := .fields #[.ref d] } } := I1.kept (t' := s1.toks) fun b ob q => Heap.get?_push_of_some _ q
  refine ⟨dd.typeIs, dictN_none dd, ?_⟩
  show wpAny _ _ (callWith cpos (.builtin "dict.items") [.ref d] [] []) _ X.xe s1
  refine method_meetsIn F.slot_dict_items F.entry_dict_items rfl (PySem.evalArgs_none ⟨rfl, dd.typeIs, F.args_dict_items_1 _, _, _root_.DT.meetsItems (es := en) (ep := ep) hs0, ⟨o, h1, h2, h3⟩, ?_⟩)
  refine Calls.spliced_nil ?_
  obtain ⟨ps, pl, pf, pg⟩ := hn.vps
  refine PySem.W.dil_call (es := en) (ep := ep) (I1.ok.hd hc) ⟨_, Heap.get?_push_size _ rfl, rfl, rfl⟩ (raw.at fun o e => Heap.get?_push_of_some _ e) (by omega) fun h' tk acc c as hk hS hl hG hacc => ?_
  obtain ⟨H', k1, k2, k3, k4, J⟩ := pairs_laid (tk := tk) I2 (ps := ps) (es := en) (by omega) (fun j p e1 hj => by
    have hj2 : j < xs.length := by omega
    have qe := entry_at h4 j
    rw [Array.getElem?_eq_getElem hj, List.getElem?_eq_getElem hj2] at qe
    have qe := Option.some.inj qe
    obtain ⟨f1, f2⟩ := pf j p _ _ _ e1 (List.getElem?_eq_getElem hj2)
    rw [qe, f1]
    exact ⟨rfl, f2⟩) (by omega) hk hS hl hG hacc
  exact ⟨.ref _, H', J, rfl, q H' _ as ps k1 k2 k3 (by omega) pl k4 pg⟩
end
def vLitemsK (P : Program) (w : World) (i : Nat) : FT := fun E Q => ∃ es, nkAt P w E i es ∧ es.length < 1000000 ∧ Q (.fl (es.map fun p => .tup [p.1, p.2])) E
theorem itsN_rp {K : PySem.W.Frag} {tp : Option Tp} {H H' : Hp} (kq : Kq H H') : ∀ {ts : List Addr} {ps : List (V × V)} {es : List (D × D)}, ts.length = es.length → ps.length = es.length → (∀ (j : Nat) (a : Addr) (q : V × V), ts[j]? = some a → ps[j]? = some q → H' a = some (.tup [q.1, q.2])) → (∀ (j : Nat) (q : V × V) (e : D × D), ps[j]? = some q → es[j]? = some e → Rp K tp H q.1 e.1 ∧ Rp K tp H q.2 e.2) → RpL K tp H' (ts.map V.ref) (es.map fun p => .tup [p.1, p.2])
  | [], _, [], _, _, _, _ => .nil
  | [], _, _ :: _, h, _, _, _ => by cases h
  | _ :: _, _, [], h, _, _, _ => by cases h
  | _ :: _, [], _ :: _, _, h, _, _ => by cases h
  | t :: ts, p :: ps, e :: es, l1, l2, h1, h2 => by
    obtain ⟨g1, g2⟩ := h2 0 p e rfl rfl
    exact .cons (.tup (.of (h1 0 t p rfl rfl)) (.cons (Rp.kq kq _ _ g1) (.cons (Rp.kq kq _ _ g2) .nil))) (itsN_rp kq (Nat.succ.inj l1) (Nat.succ.inj l2) (fun j => h1 (j + 1)) (fun j => h2 (j + 1)))
section
variable {X : Cx} {S : Sg} {o : Expr} {p pos apos cpos : Pos}
theorem fe_listItN {P : Program} {w : World} (hP : X.prog = P) (hW : X.w = w) {i : Nat} (hK : S.K = X.K) (hc : X.calm = true) (hg : Gl X "list") (hm : X.mg "list" = none) (ho : PE X o (tVar i)) (hv : bootBuiltins "list" = some (.type "list") := by rfl)
    (hbase : attributeBase o "items" X.env (eval o X.env) = eval o X.env := by rfl) (hline : (apos.endLine == cpos.line) = true := by rfl)
    (hs : starEach [.Call (.Attribute o "items" apos) [] [] cpos] X.env = (false, eval (.Call (.Attribute o "items" apos) [] [] cpos) X.env) :: starEach [] X.env := by rfl) :
    FE S X (.Call (.Name "list" p) [.Call (.Attribute o "items" apos) [] [] cpos] [] pos) (vLitemsK P w i) := by
  subst hP hW
  refine pe_weak (pe_listItN hc ho hg hm hv hbase hline hs) ?_
  rintro σ H Q ⟨Γ, E, Q0, ok, rp, ⟨es, e0, hz, hq⟩, k⟩
  have eK : X.K = Γ.K := (ok.k.trans hK).symm
  obtain ⟨a, xs, h1, hd, hn⟩ := nk_slot rp e0
  have ln := hn.len
  refine ⟨_, h1, Γ.tp, a, xs, es, rfl, hd, by rw [eK]; exact hn, Nat.le_of_lt (millionL (by omega)), fun H' q ts ps k1 k2 k3 k4 k5 k6 k7 => ?_⟩
  rw [eK] at k7
  have sm : Same H H' := k1
  have kq : Kq H H' := .same sm
  exact k _ _ hq _ _ kq (rp.same sm) (RpN.rep (x := .fl (es.map fun p => .tup [p.1, p.2])) rp sm ⟨q, ts.map V.ref, rfl, k2, k3, itsN_rp kq (by omega) (by omega) k6 k7⟩)
end
end Va
set_option Elab.async false
set_option linter.all false
set_option maxRecDepth 100000
set_option maxHeartbeats 4000000
namespace RowK
open PySem PySem.Spec PyProof.Rows SrtO SrtB PySem.W
theorem swo_d {α : Type} (k : α → PyData) : Swo fun v u => dataLt (k v) (k u) := by
  refine ⟨fun x y h => ?_, fun x y z h1 h2 => ?_⟩
  · cases h2 : dataLt (k y) (k x) with
    | false => rfl
    | true =>
      have := (listOrd itemOrd).trans _ _ _ h h2
      rw [(listOrd itemOrd).irrefl] at this
      cases this
  · cases h3 : dataLt (k z) (k x) with
    | false => rfl
    | true =>
      exfalso
      rcases (listOrd itemOrd).negTrans _ (keyToks (k y)) _ h3 with h | h
      · have h : dataLt (k z) (k y) = true := h
        rw [h2] at h
        cases h
      · have h : dataLt (k y) (k x) = true := h
        rw [h1] at h
        cases h
theorem dk_ex (h : Heap) {rows : List PyData} (al : AllAlike rows) : ∃ f : Value → PyData, ∀ v r as, r ∈ rows → Reads h v r as → f v = r := by
  classical
  refine ⟨fun v => if x : ∃ r, r ∈ rows ∧ ∃ as, Reads h v r as then Classical.choose x else .none, fun v r as hr x => ?_⟩
  have y : ∃ r, r ∈ rows ∧ ∃ as, Reads h v r as := ⟨r, hr, as, x⟩
  show (if x : ∃ r, r ∈ rows ∧ ∃ as, Reads h v r as then Classical.choose x else .none) = r
  rw [dif_pos y]
  obtain ⟨h1, as2, h2⟩ := Classical.choose_spec y
  exact alike_unique _ _ v _ _ (al _ h1 _ hr) h2 x
theorem paired_mapM {α β : Type} {R S : α → β → Prop} : ∀ {xs : List α} {ys : List β}, Paired R xs ys → (∀ x y, y ∈ ys → R x y → S x y) → Paired S xs ys
  | _, _, .nil, _ => .nil
  | _, _, .cons a p, h => .cons (h _ _ (List.mem_cons_self ..) a) (paired_mapM p fun x y m => h x y (List.mem_cons_of_mem _ m))
theorem eachOf {α β : Type} {R : α → β → Prop} : ∀ {xs : List α} {ys : List β}, Paired R xs ys → EachIs R xs ys
  | _, _, .nil => .nil
  | _, _, .cons a p => .cons a (eachOf p)
theorem dk_cmp {prog : Program} {w : World} {A : Around} {s : Shared} {rows : List PyData} {kd : SortKind} {ks : List Value} {k : Value → PyData} (hlt : PyProof.Rows.H.LtAt prog w A s (dataKind s.heap rows) kd) (hk : ∀ v r as, r ∈ rows → Reads s.heap v r as → k v = r)
    (hm : ∀ u ∈ ks, ∃ r ∈ rows, ∃ as, Reads s.heap u r as) (al : AllAlike rows) : Cmp prog w A s kd (fun p => p.1 ∈ ks) (lt2 fun v u => dataLt (k v) (k u)) := by
  intro p q h1 h2
  obtain ⟨r1, m1, as1, g1⟩ := hm _ h1
  obtain ⟨r2, m2, as2, g2⟩ := hm _ h2
  refine hlt _ p.1 q.1 _ _ (dataKind_some al m1 g1) (dataKind_some al m2 g2) ⟨rfl, ?_⟩
  show _ = dataLt (k p.1) (k q.1)
  rw [hk _ _ _ m1 g1, hk _ _ _ m2 g2]
  rfl
theorem out_liftD {α : Type} {R : α → Value → Prop} {k : Value → PyData} {ks its : List Value} {rows : List (PyData)} {xs : List α} (hk : Paired (fun u r => k u = r) ks rows) (hx : Paired R xs its)
    {out : List (Value × Value)} (hp : out.Perm (ks.zip its)) (hl : ks.length = its.length) (hs : out.Pairwise fun p q => dataLt (k q.1) (k p.1) = false) :
    ∃ ps : List (PyData × α), ps.Perm (rows.zip xs) ∧ (ps.Pairwise fun p q => dataLt q.1 p.1 = false) ∧ Paired R (ps.map (·.2)) (out.map (·.2)) := by
  have zz : ∀ {ks its : List Value} {rows : List (PyData)} {xs : List α}, Paired (fun u r => k u = r) ks rows → Paired R xs its → ks.length = its.length →
      ∃ L : List ((Value × Value) × (PyData × α)), L.map (·.1) = ks.zip its ∧ L.map (·.2) = rows.zip xs ∧ ∀ z ∈ L, k z.1.1 = z.2.1 ∧ R z.2.2 z.1.2 := by
    intro ks
    induction ks with
    | nil =>
      intro its rows xs a b e
      cases a
      exact ⟨[], by simp, by simp, by simp⟩
    | cons u ks ih =>
      intro its rows xs a b e
      cases a with
      | cons a1 a2 =>
        cases b with
        | nil => cases e
        | cons b1 b2 =>
          obtain ⟨L, h1, h2, h3⟩ := ih a2 b2 (by simpa using e)
          refine ⟨((u, _), (_, _)) :: L, by rw [List.map_cons, h1]; rfl, by rw [List.map_cons, h2]; rfl, fun z hz => ?_⟩
          rcases List.mem_cons.mp hz with rfl | hz
          · exact ⟨a1, b1⟩
          · exact h3 z hz
  obtain ⟨L, h1, h2, h3⟩ := zz hk hx hl
  obtain ⟨M, pm, em⟩ := L2.perm_lift (·.1) hp L h1
  refine ⟨M.map (·.2), by rw [← h2]; exact pm.map _, ?_, ?_⟩
  · rw [← em, List.pairwise_map] at hs
    rw [List.pairwise_map]
    refine List.Pairwise.imp_of_mem (fun {x y} hx hy h => ?_) hs
    rw [← (h3 x (pm.mem_iff.mp hx)).1, ← (h3 y (pm.mem_iff.mp hy)).1]
    exact h
  · rw [← em, List.map_map, List.map_map]
    have : ∀ M : List ((Value × Value) × (PyData × α)), (∀ z ∈ M, R z.2.2 z.1.2) → Paired R (M.map ((·.2) ∘ (·.2))) (M.map ((·.2) ∘ (·.1))) := fun M => by
      induction M with
      | nil => exact fun _ => .nil
      | cons z M ih => exact fun h => .cons (h z List.mem_cons_self) (ih fun y hy => h y (List.mem_cons_of_mem _ hy))
    exact this M fun z hz => (h3 z (pm.mem_iff.mp hz)).2
end RowK
namespace L2
open PySem PySem.Spec PyProof.Rows SrtO RowK PySem.W
def SortOutD (rows : List PyData) (xs : List V) (H : Hp) (Q : VK) : Prop :=
  ∀ (ps : List (PyData × V)) p, ps.Perm (rows.zip xs) → (ps.Pairwise fun x y => dataLt y.1 x.1 = false) → H p = none → Q (.ref p) (upd H p (.lst (ps.map (·.2))))
section
variable {X : Cx} {pins : List (Addr × Obj)} {σ : St} {H : Hp} {s : Shared}
theorem dps_read (I : Inv X pins σ H s) : ∀ {vs : List V} {us : List Value} {rs : List PyData}, Paired (Dp X.K H) vs rs → Vals vs us → Paired (fun u d => ∃ as, Reads s.heap u d as) us rs
  | _, _, _, .nil, .nil => .nil
  | _, _, _, .cons a p, .cons b q => .cons (Dp.reads I _ _ _ a b) (dps_read I p q)
section
variable {a kS : Addr} {e1 e2 : Nat} {ks its : List Value} {rows : List PyData} {xs : List V} {Q : VK} {E1 : Value → Shared → Prop}
theorem key_endD (I : Inv X pins σ H s) (fa : FpOk X pins H a) (fk : FpOk X pins H kS) (na : s.heap.get? a = some (seqObj "list" #[] e1)) (nk : s.heap.get? kS = some (seqObj "list" ks.toArray e2)) (hne : kS ≠ a)
    (hlen : ks.length = its.length) (hz : its.length ≤ sizeLine) (hu : X.A.units + 16 < cLine) (hk : Paired (fun u d => ∃ as, Reads s.heap u d as) ks rows) (al : AllAlike rows) (so : Sortable rows) (dp : ∀ d ∈ rows, d.depth ≤ 8) (hx : Vals xs its) (q : SortOutD rows xs H Q) :
    wpAny (model X.prog X.w) X.A.in1.in1 (ksk_end a false its.toArray e1 (.ref kS) ks.toArray) (fun f s' => f = .done (.ret .none) ∧ EP X pins σ Q (.ref a) s') E1 s := by
  obtain ⟨k, hkk⟩ := dk_ex s.heap al
  have hkr : Paired (fun u r => k u = r) ks rows := paired_mapM hk fun u r hr ⟨as, h⟩ => hkk u r as hr h
  have hmem : ∀ u ∈ ks, ∃ r ∈ rows, ∃ as, Reads s.heap u r as := fun u hu => paired_mem hk u hu
  have hsa : SortsAt X.prog X.w X.A.in1.in1 s (dataKind s.heap rows) ks := SortsAt.data (eachOf hk) al so fun d hd => by
    have := dp d hd
    show X.A.units + 1 + 1 + d.depth < cLine
    omega
  obtain ⟨kd, hlt, hkind⟩ := hsa.kind
  have fin : ∀ st : SortSt, Srtd (lt2 fun v u => dataLt (k v) (k u)) (arrOf st).toList → Stb (lt2 fun v u => dataLt (k v) (k u)) (arrOf st).toList (ks.zip its) → failedOf st = none →
      wpAny (model X.prog X.w) X.A.in1.in1 (ksk_tail a false e1 (.ref kS) st) (fun f s' => f = .done (.ret .none) ∧ EP X pins σ Q (.ref a) s') E1 s := fun st h1 h2 hf => by
    obtain ⟨ps, p1, p2, p3⟩ := out_liftD (R := RelV) hkr hx.paired h2.perm hlen h1
    have l1 : (ps.map (·.2)).length ≤ sizeLine := by
      rw [List.length_map, p1.length_eq, List.length_zip]
      have := hx.length
      omega
    exact key_tail I fa fk na nk hne hlen hz hf (L2.Paired.vals p3) l1 (q ps a p1 p2 fa.1)
  unfold ksk_end
  try dsimp only
  simp only [Bool.false_eq_true, if_false]
  have zl : (ks.toArray.zip its.toArray).toList = ks.zip its := by simp
  by_cases hl : its.toArray.size < 2
  · rw [if_pos hl, if_pos hl]
    refine wpAny_bind (wpAny_pure ?_)
    rw [StateT.run_pure]
    refine wpAny_bind (wpAny_pure (fin _ ?_ ?_ rfl))
    · show Srtd (lt2 fun v u => dataLt (k v) (k u)) (ks.toArray.zip its.toArray).toList
      rw [zl]
      rw [List.size_toArray] at hl
      match ks, its, hl, hlen with
      | [], _, _, _ => exact List.Pairwise.nil
      | [u], [v], _, _ => exact List.pairwise_singleton _ _
      | _ :: _ :: _, its, hl, he => exact absurd hl (by rw [← he]; simp)
    · show Stb _ (ks.toArray.zip its.toArray).toList _
      rw [zl]
      exact Stb.refl _
  · rw [if_neg hl, if_neg hl]
    rw [List.size_toArray] at hl
    refine wpAny_bind (hkind (by omega) _ ?_)
    have all : AllL (fun p : Keyed => p.1 ∈ ks) (ks.toArray.zip its.toArray).toList := fun p hm => by
      rw [zl] at hm
      exact (List.of_mem_zip hm).1
    refine wpAny_bind (wpAny_mono (wpS_sortO (st0 := SortSt.mk' kd (ks.toArray.zip its.toArray) #[] 7 none)
      (Q := fun _ st => Srtd (lt2 fun v u => dataLt (k v) (k u)) (arrOf st).toList ∧ Stb (lt2 fun v u => dataLt (k v) (k u)) (arrOf st).toList (ks.toArray.zip its.toArray).toList ∧ failedOf st = none) (swo2 (swo_d k)) (dk_cmp hlt hkk hmem al) rfl all rfl rfl fun st a1 a2 a3 => ⟨a1, a2, a3⟩) ?_ fun _ _ e => e)
    rintro ⟨⟨⟩, st⟩ s1 ⟨rfl, h1, h2, hf⟩
    rw [zl] at h2
    exact fin st h1 h2 hf
theorem key_restD {kk : Nat} {f : Addr} {fd : FuncData} {pn : List Str} {sp : Sp} {E0 : XK} {P : Nat → Hp → List V → Prop} (I : Inv X pins σ H s) (fa : FpOk X pins H a) (fk : FpOk X pins H kS) (na : s.heap.get? a = some (seqObj "list" #[] e1))
    (nk : s.heap.get? kS = some (seqObj "list" #[] 0)) (hne : kS ≠ a) (hz : its.length ≤ sizeLine) (hu : X.A.units + 16 < cLine) (al : AllAlike rows) (so : Sortable rows) (dp : ∀ d ∈ rows, d.depth ≤ 8) (hx : Vals xs its) (F : FnOk X.prog X.w X.K X.mg X.base CX0 kk f fd pn sp) (hr : Room (kk + 2) X.A)
    (hb : Binds X.K fd pn []) (p0 : P 0 H []) (turn : ∀ i x H1 kv, xs[i]? = some x → P i H1 kv → sp [x] H1 (fun v H2 => P (i + 1) H2 (kv ++ [v])) E0)
    (done : ∀ H1 kv, P xs.length H1 kv → Paired (Dp X.K H1) kv rows ∧ SortOutD rows xs H1 Q) :
    wpAny (model X.prog X.w) X.A.in1.in1 (ksk_rest a (.ref f) false its.toArray e1 (.ref kS)) (fun g s' => g = .done (.ret .none) ∧ EP X pins σ Q (.ref a) s') E1 s := by
  unfold ksk_rest
  refine wpAny_bind (wpAny_rule ?_)
  first
    | rw [List.forIn_toArray]
    | rw [← Array.forIn_toList]
  have hxl := hx.length
  refine wpAny_bind (ksk_fold (fun i s1 => ∃ H1 ks kv e, Inv X pins σ H1 s1 ∧ FpOk X pins H1 a ∧ FpOk X pins H1 kS ∧ s1.heap.get? a = some (seqObj "list" #[] e1) ∧ s1.heap.get? kS = some (seqObj "list" (List.toArray ks) e) ∧ Vals kv ks ∧ ks.length = i ∧ P i H1 kv) its 0 s
    ⟨H, [], [], 0, I, fa, fk, na, nk, .nil, rfl, p0⟩ ?one ?all)
  case one =>
    rintro j u s1 hu1 ⟨H1, ks, kv, e, I1, fa1, fk1, na1, nk1, hv, hl, hP⟩
    simp only [Nat.zero_add] at hl hP ⊢
    obtain ⟨x, hx1, rx⟩ : ∃ x, xs[j]? = some x ∧ RelV x u := paired_at (L2.Vals.paired hx) hu1
    have hj := (List.getElem?_eq_some_iff.mp hu1).1
    have I2 := I1.pin2 fa1 fk1 na1 nk1 (fun v z => nomatch z) (fun v z => nomatch z)
    refine wpAny_bind (wpAny_attempt (wpAny_mono (run_in2 F hr hb I2 (.cons rx .nil) (turn j x H1 kv hx1 hP)) (fun y s2 he => ?_) fun _ _ z => z.elim))
    obtain ⟨v, H2, I3, rv, hP2⟩ := he
    try dsimp only
    obtain ⟨na2, ha2, _⟩ := I3.pin (a, seqObj "list" #[] e1) (by simp)
    obtain ⟨nk2, hk2, _⟩ := I3.pin (kS, seqObj "list" (List.toArray ks) e) (by simp)
    have I4 : Inv X pins σ H2 s2 := I3.unpinned
    have b1 := Heap.SameBut.update s2.heap kS (Obj.mapSeq fun z : Array Value => z.push y)
    obtain ⟨e3, he3⟩ : ∃ e3, (s2.heap.update kS (Obj.mapSeq fun z : Array Value => z.push y)).get? kS = some (seqObj "list" ((List.toArray ks).push y) e3) := ⟨_, get?_update_seq nk2 fun z : Array Value => z.push y⟩
    refine wpAny_bind (listUpdate_at nk2 rfl ?_ (by rw [List.size_toArray]; omega) (by rw [Array.size_push, List.size_toArray]; omega))
    refine wpAny_pure ⟨rfl, H2, ks ++ [y], kv ++ [v], e3, ?_, fa1.now ha2, fk1.now hk2, (b1.2 a hne.symm).trans na2, ?_, hv.append (.cons rv .nil), by simp [hl], hP2⟩
    · exact I4.turnedL (t' := s2.toks) (ch := [kS]) (fun b o hb1 e => (b1.2 b fun z => hb1 (by simp [z])).trans e) fun b hb1 => by
        rw [List.mem_singleton.mp hb1]
        exact fk1.now hk2
    · have : (List.toArray ks).push y = List.toArray (ks ++ [y]) := by simp
      rw [← this]
      exact he3
  case all =>
    rintro s1 ⟨H1, ks, kv, e, I1, fa1, fk1, na1, nk1, hv, hl, hP⟩
    simp only [Nat.zero_add] at hl hP
    rw [← hxl] at hP
    obtain ⟨hk, q⟩ := done H1 kv hP
    try dsimp only
    refine wpAny_bind (listItems_at nk1 rfl ?_)
    exact key_endD I1 fa1 fk1 na1 nk1 hne hl hz hu (dps_read I1 hk hv) al so dp hx q
end
end
section
variable {X : Cx}
def rSortDefD (K : PySem.W.Frag) (f : Addr) (sp : Sp) : List V → List V → Hp → VK → Prop := fun vs zs H Q => ∃ (b : Addr) (xs : List V) (P : Nat → Hp → List V → Prop) (E0 : XK) (rows : List PyData), vs = [V.ref b] ∧ zs = [V.ref f] ∧ SqL K H b xs ∧ AllAlike rows ∧ Sortable rows ∧ (∀ d ∈ rows, d.depth ≤ 8) ∧ P 0 H [] ∧
  (∀ i x H1 kv, xs[i]? = some x → P i H1 kv → sp [x] H1 (fun v H2 => P (i + 1) H2 (kv ++ [v])) E0) ∧ ∀ H1 kv, P xs.length H1 kv → Paired (Dp K H1) kv rows ∧ SortOutD rows xs H1 Q
theorem cr_sortedDefD {kk : Nat} {f : Addr} {fd : FuncData} {pn : List Str} {sp : Sp} (F : FnOk X.prog X.w X.K X.mg X.base CX0 kk f fd pn sp) (hr : Room (kk + 2) X.A) (hb : Binds X.K fd pn []) : CallRK X (.builtin "sorted") [Str.ofString "key"] (rSortDefD X.K f sp) := by
  intro pins s σ H vs zs us ws Q I r rz h
  obtain ⟨b, xs, P, E0, rows, rfl, rfl, hs, al, so, dp, p0, turn, done⟩ := h
  obtain rfl := Vals.ref1 r
  obtain ⟨w1, rfl, e1⟩ := vals1 rz
  obtain rfl : w1 = Value.ref f := e1
  obtain ⟨its, rv, hl, hz⟩ := I.list hs
  rw [rv.length] at hz
  refine sorted_of_sort hl.isList hz (ksk_s1 _ _) (fun _ => ksk_l1 _ _) fun E' => ?_
  rw [show ([PySem.Str.ofString "key"].zip [Value.ref f]) = [(PySem.Str.ofString "key", Value.ref f)] from rfl, ksk_t1]
  have ha := copyHeap_at s.heap its
  have lta : s.heap.objs.size + 1 < (copyHeap s.heap its).objs.size := Heap.lt_size ha
  have I1 : Inv X pins σ H { s with heap := copyHeap s.heap its, toks := s.toks } := I.kept fun _ _ e => copyHeap_old e
  have fa : FpOk X pins H (s.heap.objs.size + 1) := I.fpOk (Nat.le_succ _) (I.hok.fresh (Nat.le_succ _))
  have b1 := Heap.SameBut.update (copyHeap s.heap its) (s.heap.objs.size + 1) (Obj.mapSeq fun _ => (#[] : Array Value))
  have sz1 : ((copyHeap s.heap its).update (s.heap.objs.size + 1) (Obj.mapSeq fun _ => (#[] : Array Value))).objs.size = (copyHeap s.heap its).objs.size := Heap.size_update ..
  obtain ⟨e2, ho1⟩ : ∃ e2, ((copyHeap s.heap its).update (s.heap.objs.size + 1) (Obj.mapSeq fun _ => (#[] : Array Value))).get? (s.heap.objs.size + 1) = some (seqObj "list" #[] e2) := ⟨_, get?_update_seq ha fun _ => #[]⟩
  have I2 := I1.turnedL (t' := s.toks) (ch := [s.heap.objs.size + 1]) (h' := (copyHeap s.heap its).update (s.heap.objs.size + 1) (Obj.mapSeq fun _ => (#[] : Array Value))) (fun c o hc e => (b1.2 c fun z => hc (by simp [z])).trans e) fun c hc => by
    rw [List.mem_singleton.mp hc]
    exact fa
  generalize hg : (copyHeap s.heap its).update (s.heap.objs.size + 1) (Obj.mapSeq fun _ => (#[] : Array Value)) = g at sz1 ho1 I2
  have I3 : Inv X pins σ H { s with heap := (g.push (seqObj "tuple" its.toArray 0)).push (seqObj "list" #[] 0), toks := s.toks } := I2.kept fun _ _ e => Heap.get?_push_of_some _ (Heap.get?_push_of_some _ e)
  have szk : (g.push (seqObj "tuple" its.toArray 0)).objs.size = g.objs.size + 1 := size_push' ..
  have fk : FpOk X pins H (g.push (seqObj "tuple" its.toArray 0)).objs.size := I.fpOk (by omega) (I.hok.fresh (by omega))
  unfold ksk_tree
  refine wpAny_bind (listItems_at ha rfl (wpAny_bind (listUpdate_at ha rfl ?_ (by rw [List.size_toArray]; exact hz) (Nat.zero_le _))))
  rw [hg]
  refine wpAny_bind (seqEpoch_at ho1 rfl (wpAny_bind (wpAny_newTuple ?_ hz)))
  refine wpAny_bind (wpAny_newList (wpAny_holding ?_) (Nat.zero_le _))
  have hun := hr.un
  have hne : (g.push (seqObj "tuple" its.toArray 0)).objs.size ≠ s.heap.objs.size + 1 := by omega
  have hun2 : X.A.units + 16 < cLine := by omega
  exact key_restD I3 fa fk (Heap.get?_push_of_some _ (Heap.get?_push_of_some _ ho1)) (Heap.get?_push_size _ rfl) hne hz hun2 al so dp rv F hr hb p0 turn done
end
end L2
set_option Elab.async false
set_option linter.all false
set_option maxRecDepth 100000
set_option maxHeartbeats 4000000
namespace Va
open PySem PySem.Spec PyProof.Rows L2 Ind RowK PySem.W
def ltD (d e : D) : Bool := dataLt d.pd e.pd
def sortQD (m : VM) (Q : RV → En → Prop) (d : D) (E : En) : Prop := match d with
  | .lst ds => ∃ ks : List D, ks.length = ds.length ∧ (∀ k ∈ ks, k.pd.canLay0 = true ∧ k.pd.depth ≤ 8) ∧ AllAlike (ks.map D.pd) ∧ Sortable (ks.map D.pd) ∧ (∀ (i : Nat) (d k : D), ds[i]? = some d → ks[i]? = some k → m [d] E.c fun r c => r = k ∧ c = E.c) ∧
      ∀ ps : List (D × D), ps.Perm (ks.zip ds) → (ps.Pairwise fun x y => ltD y.1 x.1 = false) → Q (.fl (ps.map (·.2))) E
  | _ => False
def vSortDefD (m : VM) (t : VT) : FT := fun E Q => t E (sortQD m Q)
section
variable {K : PySem.W.Frag} {tp : Option Tp} {H : Hp}
theorem keyDs_of : ∀ {ks : List D} {vs : List V}, (∀ k ∈ ks, k.pd.canLay0 = true) → RpL K tp H vs ks → Paired (Dp K H) vs (ks.map D.pd)
  | [], _, _, h => by cases h; exact .nil
  | k :: ks, _, c, h => by
    cases h with
    | cons h1 h2 => exact .cons (Rp.dp k _ (c k (List.mem_cons_self ..)) h1) (keyDs_of (fun x m => c x (List.mem_cons_of_mem _ m)) h2)
theorem sort_liftD {ks : List D} {ys : List V} {ds : List D} (h : RpL K tp H ys ds) {ps : List (PyData × V)} (hp : ps.Perm ((ks.map D.pd).zip ys)) (hw : ps.Pairwise fun x y => dataLt y.1 x.1 = false) :
    ∃ qs : List (D × D), qs.Perm (ks.zip ds) ∧ (qs.Pairwise fun x y => ltD y.1 x.1 = false) ∧ RpL K tp H (ps.map (·.2)) (qs.map (·.2)) := by
  have zz : ∀ {ds : List D} {ys : List V} {ks : List D}, RpL K tp H ys ds → ∃ L : List ((PyData × V) × (D × D)), L.map (·.1) = (ks.map D.pd).zip ys ∧ L.map (·.2) = ks.zip ds ∧ ∀ z ∈ L, Rp K tp H z.1.2 z.2.2 ∧ z.1.1 = z.2.1.pd := by
    intro ds
    induction ds with
    | nil =>
      intro ys ks a
      cases a
      exact ⟨[], by simp, by simp, by simp⟩
    | cons d ds ih =>
      intro ys ks a
      cases a with
      | cons a1 a2 =>
        cases ks with
        | nil => exact ⟨[], by simp, by simp, by simp⟩
        | cons r ks =>
          obtain ⟨L, h1, h2, h3⟩ := ih (ks := ks) a2
          refine ⟨((r.pd, _), (r, d)) :: L, by rw [List.map_cons, h1]; rfl, by rw [List.map_cons, h2]; rfl, fun z hz => ?_⟩
          rcases List.mem_cons.mp hz with rfl | hz
          · exact ⟨a1, rfl⟩
          · exact h3 z hz
  obtain ⟨L, h1, h2, h3⟩ := zz (ks := ks) h
  obtain ⟨M, pm, em⟩ := L2.perm_lift (·.1) hp L h1
  refine ⟨M.map (·.2), by rw [← h2]; exact pm.map _, ?_, ?_⟩
  · rw [← em, List.pairwise_map] at hw
    rw [List.pairwise_map]
    refine List.Pairwise.imp_of_mem (fun {x y} hx hy h => ?_) hw
    show dataLt _ _ = false
    rw [← (h3 x (pm.mem_iff.mp hx)).2, ← (h3 y (pm.mem_iff.mp hy)).2]
    exact h
  · rw [← em, List.map_map, List.map_map]
    have : ∀ M : List ((PyData × V) × (D × D)), (∀ z ∈ M, Rp K tp H z.1.2 z.2.2) → RpL K tp H (M.map ((·.2) ∘ (·.1))) (M.map ((·.2) ∘ (·.2))) := fun M => by
      induction M with
      | nil => exact fun _ => .nil
      | cons z M ih => exact fun h => .cons (h z List.mem_cons_self) (ih fun y hy => h y (List.mem_cons_of_mem _ hy))
    exact this M fun z hz => (h3 z (pm.mem_iff.mp hz)).1
end
section
variable {X : Cx} {S : Sg}
theorem fe_sortedDefD {k : Nat} {f : Addr} {fd : FuncData} {ps : List PySem.Str} {m : VM} {fx : PySem.Str} {p pf kpos pos : Pos} {e : Expr} {t : VT} (hK : S.K = X.K) (F : FnOk X.prog X.w X.K X.mg X.base CX0 k f fd ps (spV S m)) (hr : Room (k + 2) X.A) (hb : Binds X.K fd ps [])
    (hg : Gl X "sorted") (hm : X.mg "sorted" = none) (hgf : Gl X fx) (hmf : X.mg fx = some (.ref f)) (he : VE S X e t) (hdb : (fx == ("__debug__" : PySem.Str)) = false := by decide)
    (hs : starEach [e] X.env = (false, eval e X.env) :: starEach [] X.env := by rfl)
    (h1 : backTo pos (starEach [e] X.env) = (false, eval e X.env) :: backTo pos (starEach [] X.env) := by rfl) (h2 : (backTo pos (starEach [e] X.env)).any (·.1) = false := by rfl)
    (h3 : (backToKw pos (keywordEach [⟨some "key", .Name fx pf, kpos⟩] X.env)).all (·.1.isSome) = true := by rfl) (h4 : (backToKw pos (keywordEach [⟨some "key", .Name fx pf, kpos⟩] X.env)).any (·.1.isNone) = false := by rfl)
    (h5 : (backToKw pos (keywordEach [⟨some "key", .Name fx pf, kpos⟩] X.env)).filterMap (·.1) = [PySem.Str.ofString "key"] := by rfl) :
    FE S X (.Call (.Name "sorted" p) [e] [⟨some "key", .Name fx pf, kpos⟩] pos) (vSortDefD m t) := by
  refine pe_weak (pe_callBK (cr_sortedDefD F hr hb) hg hm boot_sorted (va_cons (S := S) he va_nil hs) (pk_cons (pe_glob (v := .ref f) hgf hmf rfl hdb) pk_nil) (by decide) (by decide) h1 h2 h3 h4 h5) ?_
  rintro σ H Q ⟨Γ, E, Q0, ok, rp, ht, kk⟩
  refine ⟨Γ, E, fun ds E1 => match ds with
    | [d] => sortQD m Q0 d E1
    | _ => False, ok, rp, ht, fun ds E1 hq vs H1 kq1 rp1 hvs => ?_⟩
  match ds, hq, vs, hvs with
  | [d], hq, [v], .cons hv .nil =>
    have hd : ∃ xs, d = .lst xs := by cases d <;> first | exact ⟨_, rfl⟩ | exact hq.elim
    obtain ⟨ds, rfl⟩ := hd
    obtain ⟨ks, hlen, kc, al, so, hm2, hq⟩ := hq
    obtain ⟨b, ys, rfl, hs1, hys⟩ := (RpW.v hv).seq
    have eK : X.K = Γ.K := hK.symm.trans ok.k.symm
    have yl := hys.len
    refine ⟨b, ys, fun i H2 kv => Kq H1 H2 ∧ Rep Γ E1 σ H2 ∧ Γ.RpL H2 kv (ks.take i), E0, ks.map D.pd, rfl, rfl, by rw [eK]; exact hs1, al, so, fun d hd => ?_, ⟨Kq.refl _, rp1, .nil⟩, fun i y H2 kv hy ⟨q2, r2, k2⟩ => ?_, fun H2 kv ⟨q2, r2, k2⟩ => ?_⟩
    · obtain ⟨k, hk, rfl⟩ := List.mem_map.mp hd
      exact (kc k hk).2
    · obtain ⟨d, ed, hd⟩ := hys.getV hy
      have hi := (List.getElem?_eq_some_iff.mp ed).1
      obtain ⟨r, er⟩ : ∃ r, ks[i]? = some r := ⟨ks[i]'(by omega), List.getElem?_eq_getElem (by omega)⟩
      refine spV_of ok r2 (.cons (Rp.kq q2 _ _ hd) .nil) (hm2 i d r ed er) fun d' c' h v H3 q3 r3 rv => ?_
      obtain ⟨rfl, rfl⟩ := h
      refine ⟨q2.trans q3, r3, ?_⟩
      rw [take_more er]
      exact (RpL.kq q3 _ _ k2).app (.cons rv .nil)
    · rw [List.take_of_length_le (by omega)] at k2
      refine ⟨by rw [eK]; exact keyDs_of (fun k hk => (kc k hk).1) k2, fun ps p hp hw hn => ?_⟩
      obtain ⟨qs, g1, g2, g3⟩ := sort_liftD (RpL.kq q2 _ _ hys) hp hw
      have sm := same_upd (o := .lst (ps.map (·.2))) hn
      exact kk _ _ (hq qs g1 g2) _ _ ((kq1.trans q2).trans (.same sm)) (r2.same sm) (RpN.rep r2 sm ⟨p, _, rfl, hn, upd_same, RpL.kq (.same sm) _ _ g3⟩)
end
end Va
set_option Elab.async false
set_option linter.all false
set_option maxRecDepth 100000
set_option maxHeartbeats 4000000
namespace Va
open PySem PySem.Spec PyProof.Rows L2 Ind RowK PySem.W
section
variable {prog : Program} {w : World} {A : Around} {d r : Addr} {es : Array DictEntry} {ep : Nat}
theorem walksV (hh : A.handled = none) (I d : Addr) (hne : d ≠ I) (es : Array DictEntry) (ep : Nat) :
    Walks prog w A I [I, d] [I] es.size (fun i v => ∃ h : i < es.size, v = es[i].val) (fun i h => h.IsValIter I d i es.size ep ∧ h.DictRaw d es ep) where
  sub := fun b hb => by simp at hb; simp [hb]
  frame := fun _ _ _ st hk => ⟨st.1.at fun o e => hk I (by simp) o e, st.2.at fun o e => hk d (by simp) o e⟩
  item := fun i s Q E hi st hQ => by
    refine wpAny_pyNext_values_item_raw st.1 st.2 hi fun h' hit' hs' => ?_
    exact hQ _ h' s.toks ⟨hi, rfl⟩ ⟨hit', st.2.at fun o e => (hs'.2 d hne).trans e⟩ fun b o hb e => (hs'.2 b (fun h => hb (by simp [h]))).trans e
  done := fun s Q E st hQ => wpAny_pyNext_values_end_raw hh st.1 st.2 (Nat.le_refl _) fun h' he' => hQ h' s.toks fun b o hb e => he' b o (fun h => hb (by simp [h])) e
  self := fun _ _ _ _ st hQ => wpAny_pyIter_valiter st.1 hQ
theorem kdl_valuesR : KdlSrc prog w "dict_values" r d es.size (fun i v => ∃ h : i < es.size, v = es[i].val) (fun h => h.IsValuesView r d ∧ h.DictRaw d es ep) where
  type := fun _ hm => hm.1.typeIs
  there := fun _ hm => ⟨let ⟨_, ho, _⟩ := hm.1; Heap.lt_size ho, hm.2.lt_size⟩
  keep := fun _ _ hm hk => ⟨let ⟨o, ho, x⟩ := hm.1; ⟨o, hk r (.inl rfl) o ho, x⟩, hm.2.at fun o e => hk d (.inr rfl) o e⟩
  notList := by decide
  notTuple := by decide
  hint := fun _ _ _ _ hm hq => kdl_hint_values hm.1.typeIs hq
  iter := fun _ _ hh hm => ⟨_, _, (fun _ _ hq => wpAny_pyIter_values_raw hm.1 hm.2 hq), walksV hh _ d (Nat.ne_of_lt hm.2.lt_size) es ep, ⟨⟨_, Heap.get?_push_size _ rfl, rfl, rfl⟩, hm.2.at fun o e => Heap.get?_push_of_some _ e⟩⟩
end
def tListValN (P : Program) (w : World) (K : PySem.W.Frag) (te : TE) : TE := fun σ H Q => te σ H fun x H1 => ∃ (tp : Option Tp) (d : Addr) (xs : List (NestedKey × Addr × Value)) (es : List (D × D)), x = .ref d ∧ RdN P w H1 d xs ∧ EnR K tp H1 xs es ∧ xs.length ≤ sizeLine ∧
  ∀ (q : Addr) (ps : List (V × V)), H1 q = none → ps.length = xs.length → (∀ (j : Nat) (q : V × V) (e : D × D), ps[j]? = some q → es[j]? = some e → Rp K tp H1 q.1 e.1 ∧ Rp K tp H1 q.2 e.2) → Q (.ref q) (upd H1 q (.lst (ps.map (·.2))))
section
variable {X : Cx} {e : Expr} {te : TE} {p apos cpos pos : Pos}
theorem pe_listValN (hc : X.calm = true) (he : PE X e te) (hg : Gl X "list") (hm : X.mg "list" = none) (hv : bootBuiltins "list" = some (.type "list")) (hbase : attributeBase e "values" X.env (eval e X.env) = eval e X.env := by rfl) (hline : (apos.endLine == cpos.line) = true := by rfl)
    (hs : starEach [.Call (.Attribute e "values" apos) [] [] cpos] X.env = (false, eval (.Call (.Attribute e "values" apos) [] [] cpos) X.env) :: starEach [] X.env := by rfl) :
    PE X (.Call (.Name "list" p) [.Call (.Attribute e "values" apos) [] [] cpos] [] pos) (tListValN X.prog X.w X.K te) := by
  refine ⟨fun pins s σ H Q I hq => ?_⟩
  refine wpAny_Call_Name_kw (ld_blt I hg hm hv ?_)
  refine PyProof.Rows.callWith_type1 ?_ hs rfl
  rw [hs]
  show wpAny _ _ (spliced ((false, eval (.Call (.Attribute e "values" apos) [] [] cpos) X.env) :: backTo pos (starEach [] X.env))) _ _ s
  refine Calls.spliced_cons ?_
  refine wpAny_Call_method (T := "dict") (id := "dict.values") hbase rfl hline F.plainAttrs_dict F.slot_dict_values F.type_dict_values (thn (he.run pins s σ H _ I hq) fun u s1 ⟨x, H1, I1, rx, tp, d, xs, es, ex, hd, hn, hz, q⟩ => ?_)
  subst ex
  obtain rfl : u = Value.ref d := rx
  obtain ⟨hs0, dd⟩ := Inv.dictN I1 hd hn
  obtain ⟨_, o, en, ep, h1, h2, h3, h4, h5⟩ := Inv.rawN I1 hd
  have raw : s1.heap.DictRaw d en ep := ⟨o, h1, h2, h3⟩
  have l1 : en.size = xs.length := size_of_entries h4
  have I2 : Inv X pins σ H1 { s1 with heap := s1.heap.push { cls := .type "dict_values", data := .fields #[.ref d] } } := I1.kept (t' := s1.toks) fun b ob q => Heap.get?_push_of_some _ q
  refine ⟨dd.typeIs, dictN_none dd, ?_⟩
  show wpAny _ _ (callWith cpos (.builtin "dict.values") [.ref d] [] []) _ X.xe s1
  refine method_meetsIn F.slot_dict_values F.entry_dict_values rfl (PySem.evalArgs_none ⟨rfl, dd.typeIs, F.args_dict_values_1 _, _, meets_dict_values_raw d hs0, ⟨_, _, raw⟩, ?_⟩)
  refine Calls.spliced_nil ?_
  obtain ⟨ps, pl, pf, pg⟩ := hn.vps
  refine PySem.W.kdl_call (kdl_valuesR (r := s1.heap.objs.size) (d := d) (es := en) (ep := ep)) (I1.ok.hd hc) ⟨⟨_, Heap.get?_push_size _ rfl, rfl, rfl⟩, raw.at fun o e => Heap.get?_push_of_some _ e⟩ (by omega) fun h' tk acc' c' hkeep hS hacc => ?_
  refine ⟨.ref _, upd H1 (s1.heap.push { cls := .type "dict_values", data := .fields #[.ref d] }).objs.size (.lst (ps.map (·.2))), I2.laid hkeep (Nat.le_refl _) (show ObjOk X.prog X.w _ _ _ (.lst (ps.map (·.2))) from ⟨?_, acc'.toList, c', ?_, ?_⟩), rfl, q _ ps (I2.hok.fresh (Nat.le_refl _)) pl pg⟩
  · rw [List.length_map]; omega
  · have el : acc'.toList.length = acc'.size := by simp
    refine vals_of_at (by rw [List.length_map, el, hacc.1]; omega) fun j x w h1 h2 => ?_
    obtain ⟨hj, rfl⟩ := hacc.2 j w (by rw [← Array.getElem?_toList]; exact h2)
    rw [List.getElem?_map] at h1
    obtain ⟨y, hy, rfl⟩ := Option.map_eq_some_iff.mp h1
    have hj2 : j < xs.length := by omega
    have qe := entry_at h4 j
    rw [Array.getElem?_eq_getElem hj, List.getElem?_eq_getElem hj2] at qe
    have qe := Option.some.inj qe
    obtain ⟨f1, f2⟩ := pf j y _ _ _ hy (List.getElem?_eq_getElem hj2)
    rw [qe]
    exact f2
  · rw [Array.toArray_toList]; exact hS
end
def vLvalsK (P : Program) (w : World) (i : Nat) : FT := fun E Q => ∃ es, nkAt P w E i es ∧ es.length < 1000000 ∧ Q (.fl (es.map fun p => p.2)) E
theorem valsN_rp {K : PySem.W.Frag} {tp : Option Tp} {H : Hp} : ∀ {ps : List (V × V)} {es : List (D × D)}, ps.length = es.length → (∀ (j : Nat) (q : V × V) (e : D × D), ps[j]? = some q → es[j]? = some e → Rp K tp H q.1 e.1 ∧ Rp K tp H q.2 e.2) → RpL K tp H (ps.map (·.2)) (es.map fun p => p.2)
  | [], [], _, _ => .nil
  | [], _ :: _, h, _ => by cases h
  | _ :: _, [], h, _ => by cases h
  | p :: ps, e :: es, l, h => .cons (h 0 p e rfl rfl).2 (valsN_rp (Nat.succ.inj l) fun j => h (j + 1))
section
variable {X : Cx} {S : Sg} {o : Expr} {p pos apos cpos : Pos}
theorem fe_listValN {P : Program} {w : World} (hP : X.prog = P) (hW : X.w = w) {i : Nat} (hK : S.K = X.K) (hc : X.calm = true) (hg : Gl X "list") (hm : X.mg "list" = none) (ho : PE X o (tVar i)) (hv : bootBuiltins "list" = some (.type "list") := by rfl)
    (hbase : attributeBase o "values" X.env (eval o X.env) = eval o X.env := by rfl) (hline : (apos.endLine == cpos.line) = true := by rfl)
    (hs : starEach [.Call (.Attribute o "values" apos) [] [] cpos] X.env = (false, eval (.Call (.Attribute o "values" apos) [] [] cpos) X.env) :: starEach [] X.env := by rfl) :
    FE S X (.Call (.Name "list" p) [.Call (.Attribute o "values" apos) [] [] cpos] [] pos) (vLvalsK P w i) := by
  subst hP hW
  refine pe_weak (pe_listValN hc ho hg hm hv hbase hline hs) ?_
  rintro σ H Q ⟨Γ, E, Q0, ok, rp, ⟨es, e0, hz, hq⟩, k⟩
  have eK : X.K = Γ.K := (ok.k.trans hK).symm
  obtain ⟨a, xs, h1, hd, hn⟩ := nk_slot rp e0
  have ln := hn.len
  refine ⟨_, h1, Γ.tp, a, xs, es, rfl, hd, by rw [eK]; exact hn, Nat.le_of_lt (millionL (by omega)), fun q ps nq pl pg => ?_⟩
  rw [eK] at pg
  have sm := same_upd (o := .lst (ps.map (·.2))) nq
  exact k _ _ hq _ _ (.same sm) (rp.same sm) (RpN.rep (x := .fl (es.map fun p => p.2)) rp sm ⟨q, _, rfl, nq, upd_same, RpL.kq (.same sm) _ _ (valsN_rp (by omega) pg)⟩)
theorem o_and : OpV S X (binaryOp .BitAnd) (int0 fun i j => .int (Builtin.bitAnd i j)) := o_int0 op_and
theorem o_or : OpV S X (binaryOp .BitOr) (int0 fun i j => .int (Builtin.bitOr i j)) := o_int0 op_or
theorem o_shl : OpV S X (binaryOp .LShift) (int2 CPow fun i j => .int (i * 2 ^ j.toNat)) := o_int op_shl
end
def num (p : Nat → Bool) : Nat → Nat
  | 0 => 0
  | n + 1 => num p n + if p n then 2 ^ n else 0
theorem num_lt (p : Nat → Bool) : ∀ n, num p n < 2 ^ n
  | 0 => by show 0 < 1; omega
  | n + 1 => by
    have h := num_lt p n
    show num p n + (if p n then 2 ^ n else 0) < 2 ^ (n + 1)
    rw [Nat.pow_succ]
    split <;> omega
theorem num_bit (p : Nat → Bool) : ∀ n i, (num p n).testBit i = (decide (i < n) && p i)
  | 0, i => by show Nat.testBit 0 i = _; simp
  | n + 1, i => by
    have ih := num_bit p n i
    have hl := num_lt p n
    show (num p n + (if p n then 2 ^ n else 0)).testBit i = _
    by_cases hp : p n = true
    · rw [if_pos hp]
      have e : num p n + 2 ^ n = 2 ^ n * 1 + num p n := by omega
      rw [e, Nat.two_pow_add_eq_or_of_lt hl 1, Nat.testBit_or, ih, Nat.mul_one, Nat.testBit_two_pow]
      by_cases hi : i < n
      · simp [hi, show ¬ n = i by omega, show i < n + 1 by omega]
      · by_cases he : n = i
        · subst he
          simp [hp]
        · simp [hi, he, show ¬ i < n + 1 by omega]
    · rw [if_neg hp, Nat.add_zero, ih]
      by_cases hi : i < n
      · simp [hi, show i < n + 1 by omega]
      · by_cases he : n = i
        · subst he
          simp [hp]
        · simp [hi, show ¬ i < n + 1 by omega]
theorem num_and (p q : Nat → Bool) (n : Nat) : num p n &&& num q n = num (fun i => p i && q i) n := by
  apply Nat.eq_of_testBit_eq
  intro i
  rw [Nat.testBit_and, num_bit, num_bit, num_bit]
  cases decide (i < n) <;> cases p i <;> cases q i <;> rfl
theorem num_or (p q : Nat → Bool) (n : Nat) : num p n ||| num q n = num (fun i => p i || q i) n := by
  apply Nat.eq_of_testBit_eq
  intro i
  rw [Nat.testBit_or, num_bit, num_bit, num_bit]
  cases decide (i < n) <;> cases p i <;> cases q i <;> rfl
theorem num_cmp (p : Nat → Bool) : ∀ n, num p n + num (fun i => !p i) n = num (fun _ => true) n
  | 0 => rfl
  | n + 1 => by
    have ih := num_cmp p n
    show (num p n + (if p n then 2 ^ n else 0)) + (num (fun i => !p i) n + (if !p n then 2 ^ n else 0)) = num (fun _ => true) n + (if true then 2 ^ n else 0)
    cases p n <;> simp <;> omega
theorem num_congr {p q : Nat → Bool} {n : Nat} (h : ∀ i, i < n → p i = q i) : num p n = num q n := by
  induction n with
  | zero => rfl
  | succ n ih =>
    show num p n + _ = num q n + _
    rw [ih fun i hi => h i (by omega), h n (by omega)]
theorem num_inj {p q : Nat → Bool} {n : Nat} (h : num p n = num q n) : ∀ i, i < n → p i = q i := fun i hi => by
  have := num_bit p n i
  rw [h, num_bit] at this
  simpa [hi] using this.symm
theorem num_zero {p : Nat → Bool} {n : Nat} : num p n = 0 ↔ ∀ i, i < n → p i = false := by
  constructor
  · intro h i hi
    have := num_bit p n i
    rw [h, Nat.zero_testBit] at this
    simpa [hi] using this.symm
  · intro h
    have : num p n = num (fun _ => false) n := num_congr h
    rw [this]
    clear h this
    induction n with
    | zero => rfl
    | succ n ih => show num _ n + 0 = 0; rw [ih]
theorem num_sub (p q : Nat → Bool) (n : Nat) : (num p n ||| num q n = num q n) ↔ ∀ i, i < n → p i = true → q i = true := by
  rw [num_or]
  constructor
  · intro h i hi hp
    have := num_inj h i hi
    simpa [hp] using this.symm
  · intro h
    apply num_congr
    intro i hi
    cases hp : p i with
    | false => rfl
    | true => rw [h i hi hp]; rfl
theorem bAnd (p q : Nat → Bool) (n : Nat) : Builtin.bitAnd (num p n : Int) (num q n : Int) = (num (fun i => p i && q i) n : Int) := by
  rw [bitAnd_pp (Int.natCast_nonneg _) (Int.natCast_nonneg _), Int.toNat_natCast, Int.toNat_natCast, num_and]
theorem bOr (p q : Nat → Bool) (n : Nat) : Builtin.bitOr (num p n : Int) (num q n : Int) = (num (fun i => p i || q i) n : Int) := by
  rw [bitOr_nn (Int.natCast_nonneg _) (Int.natCast_nonneg _), Int.toNat_natCast, Int.toNat_natCast, num_or]
theorem num_rest (q : Nat → Bool) (n : Nat) : (num (fun _ => true) n : Int) - (num q n : Int) = (num (fun i => !q i) n : Int) := by
  have := num_cmp q n
  omega
end Va
set_option Elab.async false
set_option linter.all false
set_option maxRecDepth 100000
set_option maxHeartbeats 4000000
namespace Va
open PySem PySem.Spec PyProof.Rows L2 Ind RowK
def inKG (P : Program) (w : World) (neg : Bool) : VO := fun d e Q => ∃ es k, e = .ob (NkS P w es) ∧ nkey d k ∧ Q (.v (.bl (if neg then !(lookK es d).isSome else (lookK es d).isSome)))
section
variable {X : Cx} {S : Sg}
theorem o_ninN {P : Program} {w : World} (hP : X.prog = P) (hW : X.w = w) (hK : S.K = X.K) (hu : X.A.units + 64 < cLine) : OpV S X (compareOp .NotIn) (inKG P w true) := by
  subst hP hW
  refine ⟨_, op_ninN hu, ?_⟩
  intro Γ H x y d e Q Q0 eK hx hy hg k
  have eK' : X.K = Γ.K := (eK.trans hK).symm
  obtain ⟨es, kk, rfl, hk, hq⟩ := hg
  have hy : Rp Γ.K Γ.tp H y (.ob (NkS X.prog X.w es)) := by cases hy with | v h => exact h
  obtain ⟨a, rfl, a2, o, xs, e, h1, h2⟩ := hy.ob_inv
  cases e
  have hx : Rp Γ.K Γ.tp H x d := by
    cases hx with
    | v h => exact h
    | l h1 h2 => cases hk.t
    | k h1 h2 => cases hk.t
  obtain ⟨b1, rfl⟩ := isT_ref hx hk.t
  refine ⟨Γ.tp, a, b1, d, kk, xs, es, rfl, rfl, .inr ⟨o, h1⟩, by rw [eK']; exact h2, by rw [eK']; exact hx, hk, ?_⟩
  rw [h2.look hk]
  exact k _ hq _ _ (Same.refl _) (.bl _)
end
end Va
set_option Elab.async false
set_option linter.all false
set_option maxRecDepth 100000
set_option maxHeartbeats 4000000
namespace Va
open PySem PySem.Spec PyProof.Rows L2 Ind
end Va
set_option Elab.async false
set_option linter.all false
set_option maxRecDepth 100000
set_option maxHeartbeats 4000000
namespace Va
open PySem PySem.Spec PyProof.Rows L2 Ind
def top (i : Nat) : Stmt := PySem.Challenge.pw_indoubt_k45_condition_is_exact.main.body.getD i (.Pass ⟨0, 0, 0, 0⟩)
abbrev s_condition_of : Stmt := top 1
abbrev N_condition_of : List Str := ["undecided", "possible", "chosen", "digits", "wanted", "agreeing", "implying", "minimal", "place", "outcome", "case", "found"]
theorem sc_condition_of : FnScope N_condition_of ["undecided", "possible", "chosen"] (defScope s_condition_of) := ⟨rfl, rfl, rfl, by decide +kernel, rfl, by decide +kernel, by decide +kernel⟩
abbrev s_holds_in : Stmt := top 2
abbrev N_holds_in : List Str := ["condition", "outcome", "case"]
theorem sc_holds_in : FnScope N_holds_in ["condition", "outcome"] (defScope s_holds_in) := ⟨rfl, rfl, rfl, by decide +kernel, rfl, by decide +kernel, by decide +kernel⟩
abbrev s__agreeing_outcomes : Stmt := top 3
abbrev N__agreeing_outcomes : List Str := ["undecided", "digits", "everything", "agreeing", "name", "commits", "case", "found", "outcome", "digit"]
theorem sc__agreeing_outcomes : FnScope N__agreeing_outcomes ["undecided", "digits"] (defScope s__agreeing_outcomes) := ⟨rfl, rfl, rfl, by decide +kernel, rfl, by decide +kernel, by decide +kernel⟩
abbrev s__is_minimal : Stmt := top 4
abbrev N__is_minimal : List Str := ["case", "implying", "place"]
theorem sc__is_minimal : FnScope N__is_minimal ["case", "implying"] (defScope s__is_minimal) := ⟨rfl, rfl, rfl, by decide +kernel, rfl, by decide +kernel, by decide +kernel⟩
abbrev s__place_of_case : Stmt := top 5
abbrev N__place_of_case : List Str := ["case", "name", "commits"]
theorem sc__place_of_case : FnScope N__place_of_case ["case"] (defScope s__place_of_case) := ⟨rfl, rfl, rfl, by decide +kernel, rfl, by decide +kernel, by decide +kernel⟩
abbrev s__needed_cases : Stmt := top 6
abbrev N__needed_cases : List Str := ["minimal", "agreeing", "kept", "case", "other", "others", "covered"]
theorem sc__needed_cases : FnScope N__needed_cases ["minimal", "agreeing"] (defScope s__needed_cases) := ⟨rfl, rfl, rfl, by decide +kernel, rfl, by decide +kernel, by decide +kernel⟩
abbrev s__agrees : Stmt := top 7
abbrev N__agrees : List Str := ["outcome", "case", "name", "commits"]
theorem sc__agrees : FnScope N__agrees ["outcome", "case"] (defScope s__agrees) := ⟨rfl, rfl, rfl, by decide +kernel, rfl, by decide +kernel, by decide +kernel⟩
abbrev s__law_tape : Stmt := top 9
abbrev N__law_tape : List Str := ["script", "total", "cell"]
theorem sc__law_tape : FnScope N__law_tape ["script"] (defScope s__law_tape) := ⟨rfl, rfl, rfl, by decide +kernel, rfl, by decide +kernel, by decide +kernel⟩
abbrev s__law_draw : Stmt := top 10
abbrev N__law_draw : List Str := ["tape", "many", "cells", "place", "number"]
theorem sc__law_draw : FnScope N__law_draw ["tape", "many"] (defScope s__law_draw) := ⟨rfl, rfl, rfl, by decide +kernel, rfl, by decide +kernel, by decide +kernel⟩
abbrev s__law_names : Stmt := top 11
abbrev N__law_names : List Str := ["tape", "most", "signs", "share", "names", "k", "number", "more", "name", "at", "plain"]
theorem sc__law_names : FnScope N__law_names ["tape", "most"] (defScope s__law_names) := ⟨rfl, rfl, rfl, by decide +kernel, rfl, by decide +kernel, by decide +kernel⟩
abbrev s__law_same : Stmt := top 12
abbrev N__law_same : List Str := ["told", "due", "keys", "k"]
theorem sc__law_same : FnScope N__law_same ["told", "due"] (defScope s__law_same) := ⟨rfl, rfl, rfl, by decide +kernel, rfl, by decide +kernel, by decide +kernel⟩
abbrev s__law_all : Stmt := top 13
abbrev N__law_all : List Str := ["names", "rows", "name", "row"]
theorem sc__law_all : FnScope N__law_all ["names"] (defScope s__law_all) := ⟨rfl, rfl, rfl, by decide +kernel, rfl, by decide +kernel, by decide +kernel⟩
abbrev s__law_picked : Stmt := top 14
abbrev N__law_picked : List Str := ["tape", "rows", "one", "picked", "row"]
theorem sc__law_picked : FnScope N__law_picked ["tape", "rows", "one"] (defScope s__law_picked) := ⟨rfl, rfl, rfl, by decide +kernel, rfl, by decide +kernel, by decide +kernel⟩
abbrev s__law_seen : Stmt := top 15
abbrev N__law_seen : List Str := ["row", "names", "name"]
theorem sc__law_seen : FnScope N__law_seen ["row", "names"] (defScope s__law_seen) := ⟨rfl, rfl, rfl, by decide +kernel, rfl, by decide +kernel, by decide +kernel⟩
abbrev s__law_known : Stmt := top 16
abbrev N__law_known : List Str := ["names", "worlds", "counts", "decided", "kept", "seen", "name", "pair", "world", "row"]
theorem sc__law_known : FnScope N__law_known ["names", "worlds"] (defScope s__law_known) := ⟨rfl, rfl, rfl, by decide +kernel, rfl, by decide +kernel, by decide +kernel⟩
abbrev s__law_agrees : Stmt := top 17
abbrev N__law_agrees : List Str := ["case", "row", "pair"]
theorem sc__law_agrees : FnScope N__law_agrees ["case", "row"] (defScope s__law_agrees) := ⟨rfl, rfl, rfl, by decide +kernel, rfl, by decide +kernel, by decide +kernel⟩
abbrev s__law_worlds : Stmt := top 18
abbrev N__law_worlds : List Str := ["tape", "names", "rows", "share", "picked"]
theorem sc__law_worlds : FnScope N__law_worlds ["tape", "names"] (defScope s__law_worlds) := ⟨rfl, rfl, rfl, by decide +kernel, rfl, by decide +kernel, by decide +kernel⟩
abbrev s__law_exact : Stmt := top 19
abbrev N__law_exact : List Str := ["cases", "possible", "chosen", "row", "told", "case"]
theorem sc__law_exact : FnScope N__law_exact ["cases", "possible", "chosen"] (defScope s__law_exact) := ⟨rfl, rfl, rfl, by decide +kernel, rfl, by decide +kernel, by decide +kernel⟩
abbrev s__law_is_case : Stmt := top 20
abbrev N__law_is_case : List Str := ["case", "names", "last", "pair"]
theorem sc__law_is_case : FnScope N__law_is_case ["case", "names"] (defScope s__law_is_case) := ⟨rfl, rfl, rfl, by decide +kernel, rfl, by decide +kernel, by decide +kernel⟩
abbrev s__law_lets_in : Stmt := top 21
abbrev N__law_lets_in : List Str := ["case", "possible", "chosen", "row"]
theorem sc__law_lets_in : FnScope N__law_lets_in ["case", "possible", "chosen"] (defScope s__law_lets_in) := ⟨rfl, rfl, rfl, by decide +kernel, rfl, by decide +kernel, by decide +kernel⟩
abbrev s__law_needed : Stmt := top 22
abbrev N__law_needed : List Str := ["cases", "possible", "chosen", "k", "i"]
theorem sc__law_needed : FnScope N__law_needed ["cases", "possible", "chosen"] (defScope s__law_needed) := ⟨rfl, rfl, rfl, by decide +kernel, rfl, by decide +kernel, by decide +kernel⟩
abbrev s_law : Stmt := top 23
abbrev N_law : List Str := ["script", "tape", "names", "worlds", "known", "chosen", "cases", "case", "row"]
theorem sc_law : FnScope N_law ["script"] (defScope s_law) := ⟨rfl, rfl, rfl, by decide +kernel, rfl, by decide +kernel, by decide +kernel⟩
structure Txt (P : Program) (K : PySem.W.Frag) (mg : Str → Option Value) where
  a_condition_of : Addr
  d_condition_of : FuncData
  F_condition_of : Fun K "condition_of" "condition_of" s_condition_of a_condition_of d_condition_of
  b_condition_of : Binds K d_condition_of ["undecided", "possible", "chosen"] []
  g_condition_of : mg "condition_of" = some (.ref a_condition_of)
  a_holds_in : Addr
  d_holds_in : FuncData
  F_holds_in : Fun K "holds_in" "holds_in" s_holds_in a_holds_in d_holds_in
  b_holds_in : Binds K d_holds_in ["condition", "outcome"] []
  g_holds_in : mg "holds_in" = some (.ref a_holds_in)
  a__agreeing_outcomes : Addr
  d__agreeing_outcomes : FuncData
  F__agreeing_outcomes : Fun K "_agreeing_outcomes" "_agreeing_outcomes" s__agreeing_outcomes a__agreeing_outcomes d__agreeing_outcomes
  b__agreeing_outcomes : Binds K d__agreeing_outcomes ["undecided", "digits"] []
  g__agreeing_outcomes : mg "_agreeing_outcomes" = some (.ref a__agreeing_outcomes)
  a__is_minimal : Addr
  d__is_minimal : FuncData
  F__is_minimal : Fun K "_is_minimal" "_is_minimal" s__is_minimal a__is_minimal d__is_minimal
  b__is_minimal : Binds K d__is_minimal ["case", "implying"] []
  g__is_minimal : mg "_is_minimal" = some (.ref a__is_minimal)
  a__place_of_case : Addr
  d__place_of_case : FuncData
  F__place_of_case : Fun K "_place_of_case" "_place_of_case" s__place_of_case a__place_of_case d__place_of_case
  b__place_of_case : Binds K d__place_of_case ["case"] []
  g__place_of_case : mg "_place_of_case" = some (.ref a__place_of_case)
  a__needed_cases : Addr
  d__needed_cases : FuncData
  F__needed_cases : Fun K "_needed_cases" "_needed_cases" s__needed_cases a__needed_cases d__needed_cases
  b__needed_cases : Binds K d__needed_cases ["minimal", "agreeing"] []
  g__needed_cases : mg "_needed_cases" = some (.ref a__needed_cases)
  a__agrees : Addr
  d__agrees : FuncData
  F__agrees : Fun K "_agrees" "_agrees" s__agrees a__agrees d__agrees
  b__agrees : Binds K d__agrees ["outcome", "case"] []
  g__agrees : mg "_agrees" = some (.ref a__agrees)
  a__law_tape : Addr
  d__law_tape : FuncData
  F__law_tape : Fun K "_law_tape" "_law_tape" s__law_tape a__law_tape d__law_tape
  b__law_tape : Binds K d__law_tape ["script"] []
  g__law_tape : mg "_law_tape" = some (.ref a__law_tape)
  a__law_draw : Addr
  d__law_draw : FuncData
  F__law_draw : Fun K "_law_draw" "_law_draw" s__law_draw a__law_draw d__law_draw
  b__law_draw : Binds K d__law_draw ["tape", "many"] []
  g__law_draw : mg "_law_draw" = some (.ref a__law_draw)
  a__law_names : Addr
  d__law_names : FuncData
  F__law_names : Fun K "_law_names" "_law_names" s__law_names a__law_names d__law_names
  b__law_names : Binds K d__law_names ["tape", "most"] []
  g__law_names : mg "_law_names" = some (.ref a__law_names)
  a__law_same : Addr
  d__law_same : FuncData
  F__law_same : Fun K "_law_same" "_law_same" s__law_same a__law_same d__law_same
  b__law_same : Binds K d__law_same ["told", "due"] []
  g__law_same : mg "_law_same" = some (.ref a__law_same)
  a__law_all : Addr
  d__law_all : FuncData
  F__law_all : Fun K "_law_all" "_law_all" s__law_all a__law_all d__law_all
  b__law_all : Binds K d__law_all ["names"] []
  g__law_all : mg "_law_all" = some (.ref a__law_all)
  a__law_picked : Addr
  d__law_picked : FuncData
  F__law_picked : Fun K "_law_picked" "_law_picked" s__law_picked a__law_picked d__law_picked
  b__law_picked : Binds K d__law_picked ["tape", "rows", "one"] []
  g__law_picked : mg "_law_picked" = some (.ref a__law_picked)
  a__law_seen : Addr
  d__law_seen : FuncData
  F__law_seen : Fun K "_law_seen" "_law_seen" s__law_seen a__law_seen d__law_seen
  b__law_seen : Binds K d__law_seen ["row", "names"] []
  g__law_seen : mg "_law_seen" = some (.ref a__law_seen)
  a__law_known : Addr
  d__law_known : FuncData
  F__law_known : Fun K "_law_known" "_law_known" s__law_known a__law_known d__law_known
  b__law_known : Binds K d__law_known ["names", "worlds"] []
  g__law_known : mg "_law_known" = some (.ref a__law_known)
  a__law_agrees : Addr
  d__law_agrees : FuncData
  F__law_agrees : Fun K "_law_agrees" "_law_agrees" s__law_agrees a__law_agrees d__law_agrees
  b__law_agrees : Binds K d__law_agrees ["case", "row"] []
  g__law_agrees : mg "_law_agrees" = some (.ref a__law_agrees)
  a__law_worlds : Addr
  d__law_worlds : FuncData
  F__law_worlds : Fun K "_law_worlds" "_law_worlds" s__law_worlds a__law_worlds d__law_worlds
  b__law_worlds : Binds K d__law_worlds ["tape", "names"] []
  g__law_worlds : mg "_law_worlds" = some (.ref a__law_worlds)
  a__law_exact : Addr
  d__law_exact : FuncData
  F__law_exact : Fun K "_law_exact" "_law_exact" s__law_exact a__law_exact d__law_exact
  b__law_exact : Binds K d__law_exact ["cases", "possible", "chosen"] []
  g__law_exact : mg "_law_exact" = some (.ref a__law_exact)
  a__law_is_case : Addr
  d__law_is_case : FuncData
  F__law_is_case : Fun K "_law_is_case" "_law_is_case" s__law_is_case a__law_is_case d__law_is_case
  b__law_is_case : Binds K d__law_is_case ["case", "names"] []
  g__law_is_case : mg "_law_is_case" = some (.ref a__law_is_case)
  a__law_lets_in : Addr
  d__law_lets_in : FuncData
  F__law_lets_in : Fun K "_law_lets_in" "_law_lets_in" s__law_lets_in a__law_lets_in d__law_lets_in
  b__law_lets_in : Binds K d__law_lets_in ["case", "possible", "chosen"] []
  g__law_lets_in : mg "_law_lets_in" = some (.ref a__law_lets_in)
  a__law_needed : Addr
  d__law_needed : FuncData
  F__law_needed : Fun K "_law_needed" "_law_needed" s__law_needed a__law_needed d__law_needed
  b__law_needed : Binds K d__law_needed ["cases", "possible", "chosen"] []
  g__law_needed : mg "_law_needed" = some (.ref a__law_needed)
  a_law : Addr
  d_law : FuncData
  F_law : Fun K "law" "law" s_law a_law d_law
  b_law : Binds K d_law ["script"] []
  g_law : mg "law" = some (.ref a_law)
  cc_holds_in : Addr
  pp_holds_in : Addr
  C_holds_in : FunC K "holds_in" "holds_in" s_holds_in a_holds_in d_holds_in cc_holds_in
  cc__is_minimal : Addr
  pp__is_minimal : Addr
  C__is_minimal : FunC K "_is_minimal" "_is_minimal" s__is_minimal a__is_minimal d__is_minimal cc__is_minimal
  cc__agrees : Addr
  pp__agrees : Addr
  C__agrees : FunC K "_agrees" "_agrees" s__agrees a__agrees d__agrees cc__agrees
  z_abs : mg "abs" = none
  z_all : mg "all" = none
  z_any : mg "any" = none
  z_bool : mg "bool" = none
  z_dict : mg "dict" = none
  z_enumerate : mg "enumerate" = none
  z_int : mg "int" = none
  z_isinstance : mg "isinstance" = none
  z_len : mg "len" = none
  z_list : mg "list" = none
  z_max : mg "max" = none
  z_range : mg "range" = none
  z_reversed : mg "reversed" = none
  z_sorted : mg "sorted" = none
  z_str : mg "str" = none
  z_sum : mg "sum" = none
  z_tuple : mg "tuple" = none
abbrev Sx {P : Program} {K : PySem.W.Frag} {mg : PySem.Str → Option Value} (T : Txt P K mg) : Sg := ⟨K, true, [T.pp_holds_in, T.pp__is_minimal, T.pp__agrees]⟩
end Va
set_option Elab.async false
set_option linter.all false
set_option maxRecDepth 100000
set_option maxHeartbeats 4000000
namespace Va
open PySem PySem.Spec PyProof.Rows L2 Ind
local macro_rules | `(tactic| walk_at "cn") => `(tactic| first
  | assumption
  | omega
  | exact dm (by omega)
  | exact line (by simp)
  | exact line (by omega)
  | exact line (by simp only [len_app, len_one]; omega)
  | exact small_div (by omega) (by omega)
  | solve_by_elim
  | exact Or.inr ⟨by omega, by omega⟩
  | exact Or.inl ⟨by omega, by omega⟩
  | exact ⟨by omega, by omega⟩
  | decide)
local macro_rules | `(tactic| walk_at "st") => `(tactic| repeat (first
  | refine ⟨_, rfl, ?_⟩
  | refine ⟨_, _, rfl, rfl, ?_⟩
  | refine ⟨_, _, rfl, ?_⟩
  | refine .inl ⟨_, rfl, ?_⟩
  | refine And.intro rfl ?_
  | refine And.intro (by walk_at "cn") ?_))
local macro_rules | `(tactic| walk_at "fz") => `(tactic| repeat (first | exact Fz.refl | apply Fz.upd))
local macro_rules | `(tactic| walk_at "hl") => `(tactic| ((repeat rw [upd_ne (by assumption)]); assumption))
local macro_rules | `(tactic| walk_at "fy") => `(tactic| (intro b o n1 h; (repeat rw [upd_ne n1]); exact h))
local macro_rules | `(tactic| walk_at "wh") => `(tactic| (conv => whnf))
local macro_rules | `(tactic| walk_at "cv") => `(tactic| first
  | rfl
  | assumption
  | omega
  | exact dm (by omega)
  | exact small_div (by omega) (by omega)
  | (simp only [len_app, one_len, len_one, List.length_append, List.length_map, List.length_cons, List.length_nil]; omega)
  | exact Or.inr ⟨by omega, by omega⟩
  | exact Or.inl ⟨by omega, by omega⟩
  | exact ⟨by omega, by omega⟩
  | decide)
local macro_rules | `(tactic| walk_at "vv") => `(tactic| repeat (refine And.intro (by walk_at "cv") ?_))
local macro_rules | `(tactic| walk_at "sk") => `(tactic| repeat (first
  | refine wayT ?_
  | refine wayF ?_
  | refine skipT (by omega) ?_
  | refine skipF (by omega) ?_
  | refine skipT (by decide) ?_
  | refine skipF (by decide) ?_
  | refine ⟨_, (show tyNames _ = some _ from rfl), ?_⟩
  | refine And.intro (by walk_at "cv") ?_))
local macro_rules | `(tactic| walk_at "s0") => `(tactic| first
  | refine wayT ?_
  | refine wayF ?_
  | refine skipT (by omega) ?_
  | refine skipF (by omega) ?_
  | refine skipT (by decide) ?_
  | refine skipF (by decide) ?_
  | refine ⟨_, (show tyNames _ = some _ from rfl), ?_⟩
  | refine And.intro (by walk_at "cv") ?_)
local macro_rules | `(tactic| walk_at "s1") => `(tactic| try (walk_at "s0"; walk_at "wh"))
local macro_rules | `(tactic| walk_at "go") => `(tactic| (walk_at "wh"; repeat (walk_at "s0"; walk_at "wh")))
section
variable {P : Program} {w : World} {K : PySem.W.Frag} {mg : PySem.Str → Option Value} {base : Heap}
theorem ok__law_tape (T : Txt P K mg) : FnOk P w K mg base CX0 1 T.a__law_tape T.d__law_tape ["script"] (spTapeV K true) := by
  refine T.F__law_tape.ok sc__law_tape (fun vs H Q E h => ?_) (fun cdv A outer s H vs Q E hr h => ?_)
  · obtain ⟨a, ns, rfl, _⟩ := h
    rfl
  · obtain ⟨a, ns, rfl, hS, hl, q⟩ := h
    refine ⟨_, (pss_cons (ps_set (i := 1) sc__law_tape.nd rfl (.inl rfl) pe_int)
      (pss_cons (ps_for PassesOwn.never rfl (pi_list (pv 0)) (pg_name (i := 2) sc__law_tape.nd rfl (.inl rfl))
      (pss_one (ps_set (i := 1) sc__law_tape.nd rfl (.inl rfl) (pe_op op_mod (pe_callTy call_int1 (by rfl) T.z_int boot_int (pa_cons (pe_op op_add (pe_op op_mul (pv 1) pe_int) (pe_callB call_abs (by rfl) T.z_abs boot_abs (pa_cons (pe_callTy call_int1 (by rfl) T.z_int boot_int (pa_cons (pv 2) pa_nil)) pa_nil))) pa_nil)) pe_int))))
      (pss_one (ps_ret (pe_lst (pa_cons (pe_callTy call_list_of (by rfl) T.z_list boot_list (pa_cons (pv 0) pa_nil)) (pa_cons pe_int (pa_cons pe_int (pa_cons (pv 1) pa_nil))))))))), ?_⟩
    refine ⟨_, rfl, a, rfl, ⟨_, hS⟩, for_list (K := K) (a := a) (xs := ns.map V.int) (fun i σ H' => ∃ z y, σ = [some (.ref a), some (.int z), y] ∧ H' = H ∧ 0 ≤ z ∧ z < 2147483647)
      ⟨7, none, rfl, rfl, by decide, by decide⟩ (fun i σ H' _ ⟨_, _, _, e, _⟩ => by rw [e]; exact hS) ?_ ?_⟩
    · rintro i x σ H' hi ⟨z, y, rfl, rfl, h0, h1⟩
      obtain ⟨u, rfl⟩ : ∃ u, x = V.int u := by
        rw [List.getElem?_map] at hi
        cases e : ns[i]? with
        | none => rw [e] at hi; cases hi
        | some u => rw [e] at hi; exact ⟨u, (Option.some.inj hi).symm⟩
      walk_at "st"
      omega
    · rintro σ H' ⟨z, y, rfl, rfl, h0, h1⟩
      refine ⟨_, rfl, _, _, rfl, .inl hS, fun l nl => ⟨_, rfl, line (by simp), fun t nt => ?_⟩⟩
      have nlt : l ≠ t := fun e => by rw [← e, upd_same] at nt; cases nt
      have ntH : H' t = none := by rw [upd_ne nlt.symm] at nt; exact nt
      have hl2 : upd (upd H' l (.lst (ns.map V.int))) t (.lst [.ref l, .int 0, .int 0, .int z]) l = some (.lst (ns.map V.int)) := by rw [upd_ne nlt, upd_same]
      exact q _ ⟨t, l⟩ ns ((same_upd nl).trans (same_upd nt)) ntH nl ⟨ns, 0, 0, z, upd_same, hl2, fun _ => by omega, by decide, by decide, h0, h1⟩ hl2 hl
theorem ok__law_draw (T : Txt P K mg) : FnOk P w K mg base CX0 1 T.a__law_draw T.d__law_draw ["tape", "many"] (spDrawV true) := by
  refine T.F__law_draw.ok sc__law_draw (fun vs H Q E h => ?_) (fun cdv A outer s H vs Q E hr h => ?_)
  · obtain ⟨a, m, ns, rfl, _⟩ := h
    rfl
  · obtain ⟨⟨t, l⟩, m, ns, rfl, ⟨ns0, p, n, z, ht, hL0, hpl, hp, hn, hz, hz2⟩, hL, hfew, hm, q⟩ := h
    refine ⟨_, (pss_cons (ps_if (pt_cmpR op_eq (pe_ix ix_list (pv 0) pe_int (fun _ _ => rfl)) pe_int (nomark _)) (pss_cons (ps_set (i := 2) sc__law_draw.nd rfl (.inl rfl) (pe_ix ix_list (pv 0) pe_int (fun _ _ => rfl)))
      (pss_cons (ps_set (i := 3) sc__law_draw.nd rfl (.inl rfl) (pe_ix ix_list (pv 0) pe_int (fun _ _ => rfl)))
      (pss_cons (ps_if (pt_cmpR op_eq (pv 3) (pe_callB call_len_seq (by rfl) T.z_len boot_len (pa_cons (pv 2) pa_nil)) (nomark _)) (pss_cons (ps_asg (pe_op op_mod (pe_callTy call_int1 (by rfl) T.z_int boot_int (pa_cons (pe_op op_add (pe_op op_add (pe_op op_mul (pe_ix ix_list (pv 0) pe_int (fun _ _ => rfl)) pe_int) (pv 3)) pe_int) pa_nil)) pe_int) (pg_sub (pv 0) pe_int set_list))
      (pss_one (ps_expr (pe_bm PySem.F.plainAttrs_list PySem.F.slot_list_append PySem.F.type_list_append mt_append (pv 2) (pa_cons (pe_ix ix_list (pv 0) pe_int (fun _ _ => rfl)) pa_nil))))) pss_nil)
      (pss_cons (ps_asg (pe_op op_add (pv 3) pe_int) (pg_sub (pv 0) pe_int set_list))
      (pss_cons (ps_set (i := 4) sc__law_draw.nd rfl (.inl rfl) (pe_callB call_abs (by rfl) T.z_abs boot_abs (pa_cons (pe_callTy call_int1 (by rfl) T.z_int boot_int (pa_cons (pe_ix ix_list (pv 2) (pv 3) (fun _ _ => rfl)) pa_nil)) pa_nil)))
      (pss_cons (ps_if (pt_cmpR op_lt (pv 4) (pe_op op_pow pe_int pe_int) (nomark _)) (pss_cons (ps_set (i := 4) sc__law_draw.nd rfl (.inl rfl) (pe_op op_mod (pe_callTy call_int1 (by rfl) T.z_int boot_int (pa_cons (pe_op op_add (pe_op op_add (pe_op op_mul (pv 4) pe_int) (pe_op op_mul (pv 3) pe_int)) pe_int) pa_nil)) pe_int))
      (pss_cons (ps_set (i := 4) sc__law_draw.nd rfl (.inl rfl) (pe_op op_mod (pe_callTy call_int1 (by rfl) T.z_int boot_int (pa_cons (pe_op op_mul (pv 4) pe_int) pa_nil)) pe_int))
      (pss_one (ps_ret (pe_op op_mod (pe_callTy call_int1 (by rfl) T.z_int boot_int (pa_cons (pv 4) pa_nil)) (pe_callB (call_max2 rfl) (by rfl) T.z_max boot_max (pa_cons (pv 1) (pa_cons pe_int pa_nil)))))))) pss_nil)
      (pss_one (ps_asg (pv 4) (pg_sub (pv 0) pe_int set_list))))))))) pss_nil)
      (pss_cons (ps_set (i := 4) sc__law_draw.nd rfl (.inl rfl) (pe_ix ix_list (pv 0) pe_int (fun _ _ => rfl)))
      (pss_cons (ps_asg (pe_op op_fdivW (pv 4) (pe_callB (call_max2 rfl) (by rfl) T.z_max boot_max (pa_cons (pv 1) (pa_cons pe_int pa_nil)))) (pg_sub (pv 0) pe_int set_list))
      (pss_one (ps_ret (pe_op op_mod (pe_callTy call_int1 (by rfl) T.z_int boot_int (pa_cons (pv 4) pa_nil)) (pe_callB (call_max2 rfl) (by rfl) T.z_max boot_max (pa_cons (pv 1) (pa_cons pe_int pa_nil))))))))), ?_⟩
    have ht : H t = some (.lst [.ref l, .int p, .int n, .int z]) := ht
    have hL : H l = some (.lst (ns.map V.int)) := hL
    have ens : ns0.length = ns.length := by
      have hL0 : H l = some (.lst (ns0.map V.int)) := hL0
      rw [hL] at hL0
      injection hL0 with hL0
      injection hL0 with hL0
      have := congrArg List.length hL0
      simpa using this.symm
    have hfew := hfew rfl
    have hpl : p ≤ (ns.length : Int) := by rw [← ens]; exact hpl rfl
    have nlt : l ≠ t := Tape.ne ht hL
    have many1 : 0 < if (1 : Int) > m then 1 else m := by split <;> omega
    have many2 : ∀ x : Int, CDivW x (if (2 : Int) > m then 2 else m) := hm
    have lt1 : ∀ x : Int, (x % if (1 : Int) > m then 1 else m) < m ∨ (x % if (1 : Int) > m then 1 else m) < 1 := fun x => by
      have q1 := Int.emod_lt_of_pos x many1
      revert q1
      split <;> intro q1 <;> omega
    have fin : ∀ {H' : Hp} {r : Int} {p' n' z' : Int} {ns' : List Int}, (∀ b o, b ≠ t → b ≠ l → H b = some o → H' b = some o) → H' t = some (.lst [.ref l, .int p', .int n', .int z']) → H' l = some (.lst (ns'.map V.int)) → ns'.length ≤ ns.length + 1 → p' ≤ (ns'.length : Int) → 0 ≤ p' → 0 ≤ n' → 0 ≤ z' → z' < 2147483647 → 0 ≤ r → (r < m ∨ r < 1) → Q (.int r) H' := by
      intro H' r p' n' z' ns' st h1 h2 h3 h4 h5 h6 h7 h8 h9 h10
      exact q H' r ns' st ⟨ns', p', n', z', h1, h2, (fun _ => h4), h5, h6, h7, h8⟩ h2 h3 h9 h10
    have later : ∀ (ns' : List Int) (H1 : Hp) (z' : Int), H1 t = some (.lst [.ref l, .int p, .int n, .int z']) → H1 l = some (.lst (ns'.map V.int)) → (∀ b o, b ≠ t → b ≠ l → H b = some o → H1 b = some o) → ns'.length ≤ ns.length + 1 → p < (ns'.length : Int) → 0 ≤ z' → z' < 2147483647 →
        ∀ u : Int, ns'[p.toNat]? = some u → True := fun _ _ _ _ _ _ _ _ _ _ _ _ => trivial
    walk_at "st"
    refine ⟨_, _, _, _, rfl, rfl, .of ht, atI_nat (j := 2) rfl, ?_⟩
    walk_at "st"
    refine ite2 (fun e => ?_) (fun e => ?_)
    · walk_at "st"
      refine ⟨_, _, _, _, rfl, rfl, .of ht, atI_nat (j := 0) rfl, ?_⟩
      walk_at "st"
      refine ⟨_, _, _, _, rfl, rfl, .of ht, atI_nat (j := 1) rfl, ?_⟩
      walk_at "st"
      refine ⟨l, _, rfl, .inl (.of hL), ?_⟩
      rw [List.length_map]
      walk_at "st"
      refine meet (fun σ H1 => Iv (∃ (ns' : List Int) (z' : Int) (y : Option V), σ = [some (.ref t), some (.int m), some (.ref l), some (.int p), y] ∧ H1 t = some (.lst [.ref l, .int p, .int n, .int z']) ∧ H1 l = some (.lst (ns'.map V.int)) ∧ (∀ b o, b ≠ t → b ≠ l → H b = some o → H1 b = some o) ∧ ns'.length ≤ ns.length + 1 ∧ p < (ns'.length : Int) ∧ 0 ≤ z' ∧ z' < 2147483647)) ?_ (fun rest e2 => ?_) (fun e2 => ?_)
      · rintro σ H1 iv
        obtain ⟨ns', z', y, rfl, ht1, hL1, st1, len1, lt2, z0, z1⟩ := iv.out
        have hlt : p.toNat < ns'.length := by omega
        walk_at "st"
        refine ⟨_, _, _, 1, rfl, rfl, ht1, rfl, ?_⟩
        walk_at "st"
        refine ⟨_, _, _, _, rfl, rfl, .of (by rw [upd_ne nlt]; exact hL1), at_of (show p = (p.toNat : Int) by omega) (show (ns'.map V.int)[p.toNat]? = some (.int ns'[p.toNat]) by rw [List.getElem?_map, List.getElem?_eq_getElem hlt]; rfl), ?_⟩
        have hnum : 0 ≤ (if ns'[p.toNat] < 0 then -ns'[p.toNat] else ns'[p.toNat]) := by split <;> omega
        walk_at "st"
        refine ite2 (fun e3 => ?_) (fun e3 => ?_)
        · walk_at "st"
          refine fin (ns' := ns') (fun b o n1 n2 h => by rw [upd_ne n1]; exact st1 b o n1 n2 h) upd_same (by rw [upd_ne nlt]; exact hL1) len1 (by omega) (by omega) hn z0 z1 (Int.emod_nonneg _ (by omega)) (lt1 _)
        · walk_at "st"
          refine ⟨_, _, _, 2, rfl, rfl, upd_same, rfl, ?_⟩
          walk_at "st"
          refine ⟨_, _, _, _, rfl, rfl, .of upd_same, atI_nat (j := 2) rfl, ?_⟩
          walk_at "st"
          refine ⟨_, _, _, 2, rfl, rfl, upd_same, rfl, ?_⟩
          walk_at "st"
          refine fin (ns' := ns') (fun b o n1 n2 h => by (repeat rw [upd_ne n1]); exact st1 b o n1 n2 h) upd_same (by (repeat rw [upd_ne nlt]); exact hL1) len1 (by omega) (by omega) (Int.ediv_nonneg hnum ?_) z0 z1 (Int.emod_nonneg _ (by omega)) (lt1 _)
          split <;> omega
      · walk_at "st"
        refine ⟨_, _, _, _, rfl, rfl, .of ht, atI_nat (j := 3) rfl, ?_⟩
        walk_at "st"
        refine ⟨_, _, _, 3, rfl, rfl, ht, rfl, ?_⟩
        walk_at "st"
        refine ⟨.inl ⟨rfl, _, .of (by rw [upd_ne nlt]; exact hL)⟩, ?_⟩
        walk_at "st"
        refine ⟨_, _, _, _, rfl, rfl, .of upd_same, atI_nat (j := 3) rfl, ?_⟩
        refine ⟨_, _, _, rfl, rfl, by rw [upd_ne nlt]; exact hL, ?_, ?_⟩
        · rw [List.length_map]
          exact Va.millionL (by omega)
        refine rest _ _ (.a ⟨ns ++ [(z * 48271 + p + 1) % 2147483647], _, _, rfl, by rw [upd_ne (Ne.symm nlt)]; exact upd_same, ?_, ?_, ?_, ?_, ?_, ?_⟩)
        · rw [upd_same, List.map_append]; rfl
        · intro b o n1 n2 h
          rw [upd_ne n2, upd_ne n1]; exact h
        · simp
        · have : p = (ns.length : Int) := by simpa using e2
          simp; omega
        · omega
        · omega
      · have : ¬ p = (ns.length : Int) := by simpa using e2
        exact .a ⟨ns, z, _, rfl, ht, hL, fun b o _ _ h => h, by omega, by omega, hz, hz2⟩
    · walk_at "st"
      refine ⟨_, _, _, _, rfl, rfl, .of ht, atI_nat (j := 2) rfl, ?_⟩
      walk_at "st"
      refine ⟨_, _, _, 2, rfl, rfl, ht, rfl, ?_⟩
      walk_at "st"
      refine fin (ns' := ns) (fun b o n1 n2 h => by rw [upd_ne n1]; exact h) upd_same (by rw [upd_ne nlt]; exact hL) (by omega) hpl hp ?_ hz hz2 (Int.emod_nonneg _ (by omega)) (lt1 _)
      refine Int.ediv_nonneg hn ?_
      split <;> omega
end
end Va
set_option Elab.async false
set_option linter.all false
set_option maxRecDepth 100000
set_option maxHeartbeats 4000000
namespace Va
open PySem PySem.Spec PyProof.Rows L2 Ind SrtB
def extW (ws : List Row) (fresh : List Tx) : List Row := (allR fresh).flatMap fun r => ws.map fun w => w ++ r
theorem mem_extW {ws : List Row} {fr : List Tx} {x : Row} : x ∈ extW ws fr ↔ ∃ r ∈ allR fr, ∃ w ∈ ws, x = w ++ r := by
  unfold extW
  rw [List.mem_flatMap]
  constructor
  · rintro ⟨r, hr, h⟩
    obtain ⟨w, hw, rfl⟩ := List.mem_map.mp h
    exact ⟨r, hr, w, hw, rfl⟩
  · rintro ⟨r, hr, w, hw, rfl⟩
    exact ⟨r, hr, List.mem_map.mpr ⟨w, hw, rfl⟩⟩
theorem allR_of : ∀ {K r : List Tx}, r.Sublist K → r ∈ allR K
  | [], r, h => by
    cases List.sublist_nil.mp h
    exact List.mem_singleton.mpr rfl
  | x :: K, r, h => by
    show r ∈ (allR K).map (fun r => x :: r) ++ allR K
    rcases List.sublist_cons_iff.mp h with h2 | ⟨q, rfl, h2⟩
    · exact List.mem_append_right _ (allR_of h2)
    · exact List.mem_append_left _ (List.mem_map_of_mem (allR_of h2))
theorem sorted_one {l m : List Tx} (hl : SrtdN l) (hm : SrtdN m) (nl : l.Nodup) (nm : m.Nodup) (h : ∀ k, k ∈ l ↔ k ∈ m) : l = m :=
  srtd_uniq (k := id) (by rw [List.map_id]; exact hl) (by rw [List.map_id]; exact hm) ((List.perm_ext_iff_of_nodup nl nm).mpr h) fun _ _ _ _ e => e
theorem sub_filter {r ss : List Tx} (nd : ss.Nodup) (h : r.Sublist ss) : ss.filter (fun n => decide (n ∈ r)) = r := by
  induction h with
  | slnil => rfl
  | @cons l1 l2 a h ih =>
    have n2 := List.nodup_cons.mp nd
    rw [List.filter_cons_of_neg (by simpa using fun z => n2.1 (h.subset z))]
    exact ih n2.2
  | @cons_cons l1 l2 a h ih =>
    have n2 := List.nodup_cons.mp nd
    rw [List.filter_cons_of_pos (by simp)]
    congr 1
    rw [← ih n2.2]
    refine List.filter_congr fun n hn => decide_eq_decide.mpr ?_
    rw [ih n2.2]
    exact ⟨fun z => (List.mem_cons.mp z).resolve_left fun e => n2.1 (e ▸ hn), List.mem_cons_of_mem _⟩
section
variable {ms fr ms2 ss : List Tx} {ws : List Row}
structure Grows (ms : List Tx) (ws : List Row) (fr : List Tx) : Prop where
  nd : ms.Nodup
  st : SrtdN ms
  ne : ws ≠ []
  sub : ∀ w ∈ ws, ∀ n ∈ w, n ∈ ms
  fnd : fr.Nodup
  off : ∀ n ∈ fr, n ∉ ms
theorem Grows.some (g : Grows ms ws fr) : ∃ w, w ∈ ws := List.exists_mem_of_ne_nil _ g.ne
theorem Grows.old (g : Grows ms ws fr) {n : Tx} (hn : n ∈ ms) {w r : Row} (hr : r ∈ allR fr) : n ∈ w ++ r ↔ n ∈ w := by
  rw [List.mem_append]
  exact ⟨fun h => h.elim id fun z => absurd hn (g.off n ((allR_sub hr).subset z)), .inl⟩
theorem Grows.sure_old (g : Grows ms ws fr) {n : Tx} (hn : n ∈ ms) : sure (extW ws fr) n = sure ws n := by
  rw [Bool.eq_iff_iff, sure_iff, sure_iff]
  have e0 : ([] : Row) ∈ allR fr := allR_of (List.nil_sublist _)
  constructor
  · rintro (h | h)
    · exact .inl fun w hw z => h _ (mem_extW.mpr ⟨[], e0, w, hw, rfl⟩) (List.mem_append_left _ z)
    · exact .inr fun w hw => (g.old hn e0).mp (h _ (mem_extW.mpr ⟨[], e0, w, hw, rfl⟩))
  · rintro (h | h)
    · refine .inl fun x hx z => ?_
      obtain ⟨r, hr, w, hw, rfl⟩ := mem_extW.mp hx
      exact h w hw ((g.old hn hr).mp z)
    · refine .inr fun x hx => ?_
      obtain ⟨r, hr, w, hw, rfl⟩ := mem_extW.mp hx
      exact List.mem_append_left _ (h w hw)
theorem Grows.sure_new (g : Grows ms ws fr) {n : Tx} (hn : n ∈ fr) : sure (extW ws fr) n = false := by
  cases h : sure (extW ws fr) n with
  | false => rfl
  | true =>
    exfalso
    obtain ⟨w, hw⟩ := g.some
    rcases sure_iff.mp h with h | h
    · exact h _ (mem_extW.mpr ⟨fr, allR_of (List.Sublist.refl _), w, hw, rfl⟩) (List.mem_append_right _ hn)
    · have := h _ (mem_extW.mpr ⟨[], allR_of (List.nil_sublist _), w, hw, rfl⟩)
      rw [List.append_nil] at this
      exact g.off n hn (g.sub w hw n this)
structure Names2 (ms fr ms2 : List Tx) : Prop where
  nd : ms2.Nodup
  st : SrtdN ms2
  mem : ∀ n, n ∈ ms2 ↔ n ∈ ms ∨ n ∈ fr
theorem Grows.sures (g : Grows ms ws fr) (q : Names2 ms fr ms2) : (ms2.filter fun n => sure (extW ws fr) n) = ms.filter fun n => sure ws n := by
  refine sorted_one (q.st.sublist List.filter_sublist) (g.st.sublist List.filter_sublist) (q.nd.filter _) (g.nd.filter _) fun k => ?_
  rw [List.mem_filter, List.mem_filter, q.mem]
  constructor
  · rintro ⟨h | h, z⟩
    · exact ⟨h, by rw [← g.sure_old h]; exact z⟩
    · rw [g.sure_new h] at z; cases z
  · rintro ⟨h, z⟩
    exact ⟨.inl h, by rw [g.sure_old h]; exact z⟩
theorem Grows.decs (g : Grows ms ws fr) (q : Names2 ms fr ms2) : decs ms2 (extW ws fr) = decs ms ws := by
  unfold Va.decs
  rw [g.sures q]
  refine List.map_congr_left fun n hn => ?_
  obtain ⟨h1, h2⟩ := List.mem_filter.mp hn
  obtain ⟨w, hw⟩ := g.some
  have hx : w ++ [] ∈ extW ws fr := mem_extW.mpr ⟨[], allR_of (List.nil_sublist _), w, hw, rfl⟩
  rw [pos_cnt w hw h2, pos_cnt (w ++ []) hx (by rw [g.sure_old h1]; exact h2), List.append_nil]
structure Open2 (ms : List Tx) (ws : List Row) (fr ss : List Tx) : Prop where
  nd : ss.Nodup
  st : SrtdN ss
  mem : ∀ n, n ∈ ss ↔ n ∈ opens ms ws ∨ n ∈ fr
theorem Grows.opens (g : Grows ms ws fr) (q : Names2 ms fr ms2) (o : Open2 ms ws fr ss) : opens ms2 (extW ws fr) = ss := by
  refine sorted_one (q.st.sublist List.filter_sublist) o.st (q.nd.filter _) o.nd fun k => ?_
  rw [o.mem]
  unfold Va.opens
  rw [List.mem_filter, List.mem_filter, q.mem]
  constructor
  · rintro ⟨h | h, z⟩
    · exact .inl ⟨h, by rw [← g.sure_old h]; exact z⟩
    · exact .inr h
  · rintro (⟨h, z⟩ | h)
    · exact ⟨.inl h, by rw [g.sure_old h]; exact z⟩
    · exact ⟨.inr h, by rw [g.sure_new h]; rfl⟩
theorem Open2.len (g : Grows ms ws fr) (o : Open2 ms ws fr ss) : ss.length = (Va.opens ms ws).length + fr.length := by
  have p : ss.Perm (Va.opens ms ws ++ fr) := (List.perm_ext_iff_of_nodup o.nd (List.nodup_append.mpr ⟨g.nd.filter _, g.fnd, fun a ha b hb e => g.off b hb (e ▸ (opens_sub ms ws).subset ha)⟩)).mpr fun k => by
    rw [o.mem, List.mem_append]
    exact Iff.rfl
  rw [p.length_eq, List.length_append]
theorem Open2.cut (g : Grows ms ws fr) (o : Open2 ms ws fr ss) : ss.filter (fun n => decide (n ∈ Va.opens ms ws)) = Va.opens ms ws := by
  refine sorted_one (o.st.sublist List.filter_sublist) (g.st.sublist List.filter_sublist) (o.nd.filter _) (g.nd.filter _) fun k => ?_
  rw [List.mem_filter, o.mem, decide_eq_true_eq]
  exact ⟨fun h => h.2, fun h => ⟨.inl h, h⟩⟩
theorem Grows.rows (g : Grows ms ws fr) (q : Names2 ms fr ms2) (o : Open2 ms ws fr ss) : rowsOf ms2 (extW ws fr) = (allR ss).filter fun r => decide (seenR r (Va.opens ms ws) ∈ rowsOf ms ws) := by
  have eo := g.opens q o
  have swap : ∀ r : Row, r.Sublist ss → seenR r (Va.opens ms ws) = (Va.opens ms ws).filter fun n => decide (n ∈ r) := fun r hr => by
    unfold seenR
    rw [← o.cut g, List.filter_filter, ← sub_filter o.nd hr, List.filter_filter]
    refine List.filter_congr fun n hn => ?_
    rw [sub_filter o.nd hr, o.cut g]
    exact Bool.and_comm _ _
  unfold rowsOf
  rw [eo]
  refine List.filter_congr fun r hr => decide_eq_decide.mpr ?_
  have hs := allR_sub hr
  rw [swap r hs, List.mem_filter, decide_eq_true_eq]
  constructor
  · intro h
    obtain ⟨x, hx, rfl⟩ := List.mem_map.mp h
    obtain ⟨p, hp, w, hw, rfl⟩ := mem_extW.mp hx
    have e : ((Va.opens ms ws).filter fun n => decide (n ∈ seenR ss (w ++ p))) = seenR (Va.opens ms ws) w := by
      unfold seenR
      refine List.filter_congr fun n hn => decide_eq_decide.mpr ?_
      rw [List.mem_filter, decide_eq_true_eq, g.old ((opens_sub ms ws).subset hn) hp]
      exact ⟨fun z => z.2, fun z => ⟨(o.mem n).mpr (.inl hn), z⟩⟩
    rw [e]
    exact ⟨allR_of List.filter_sublist, List.mem_map.mpr ⟨w, hw, rfl⟩⟩
  · rintro ⟨_, h⟩
    obtain ⟨w, hw, ew⟩ := List.mem_map.mp h
    refine List.mem_map.mpr ⟨w ++ fr.filter fun n => decide (n ∈ r), mem_extW.mpr ⟨_, allR_of List.filter_sublist, w, hw, rfl⟩, ?_⟩
    rw [← sub_filter o.nd hs]
    unfold seenR
    refine List.filter_congr fun n hn => decide_eq_decide.mpr ?_
    rw [sub_filter o.nd hs, List.mem_append, List.mem_filter, decide_eq_true_eq]
    rcases (o.mem n).mp hn with z | z
    · have key : n ∈ w ↔ n ∈ r := by
        have : n ∈ seenR (Va.opens ms ws) w ↔ n ∈ (Va.opens ms ws).filter fun n => decide (n ∈ r) := by rw [ew]
        rw [mem_seenR, List.mem_filter, decide_eq_true_eq] at this
        exact ⟨fun a => (this.mp ⟨z, a⟩).2, fun a => (this.mpr ⟨z, a⟩).2⟩
      rw [key]
      exact ⟨fun a => a.elim id fun a => a.2, .inl⟩
    · have nw : n ∉ w := fun a => g.off n z (g.sub w hw n a)
      exact ⟨fun a => a.elim (fun a => absurd a nw) fun a => a.2, fun a => .inr ⟨z, a⟩⟩
theorem Grows.known (g : Grows ms ws fr) (q : Names2 ms fr ms2) (o : Open2 ms ws fr ss) : knownD ms2 (extW ws fr) = .tup [.tup (sbD (Va.decs ms ws)), .tup (ss.map .str), .tup (((allR ss).filter fun r => decide (seenR r (Va.opens ms ws) ∈ rowsOf ms ws)).map strD)] := by
  unfold knownD
  rw [g.decs q, g.opens q o, g.rows q o]
end
theorem once_spec : ∀ (l acc : List Tx), acc.Nodup → (once acc l).Nodup ∧ (∀ x, x ∈ once acc l ↔ x ∈ acc ∨ x ∈ l) ∧ (once acc l).length ≤ acc.length + l.length
  | [], acc, h => ⟨h, fun x => by unfold once; simp, Nat.le_refl _⟩
  | x :: l, acc, h => by
    unfold once
    split
    · rename_i hx
      obtain ⟨a1, a2, a3⟩ := once_spec l acc h
      refine ⟨a1, fun y => ?_, by rw [List.length_cons]; omega⟩
      rw [a2, List.mem_cons]
      exact ⟨fun z => z.imp id .inr, fun z => z.elim .inl fun z => z.elim (fun e => .inl (e ▸ hx)) .inr⟩
    · rename_i hx
      obtain ⟨a1, a2, a3⟩ := once_spec l (acc ++ [x]) (List.nodup_append.mpr ⟨h, by simp, fun a ha b hb e => hx (by rw [List.mem_singleton] at hb; rw [← hb, ← e]; exact ha)⟩)
      refine ⟨a1, fun y => ?_, by rw [List.length_append] at a3; rw [List.length_cons]; simp at a3; omega⟩
      rw [a2, List.mem_append, List.mem_singleton, List.mem_cons, or_assoc]
theorem once_inY {l : List Tx} {x : Tx} : x ∈ once [] l ↔ x ∈ l := by
  rw [(once_spec l [] List.nodup_nil).2.1]
  simp
theorem once_nd (l : List Tx) : (once [] l).Nodup := (once_spec l [] List.nodup_nil).1
end Va
set_option Elab.async false
set_option linter.all false
set_option maxRecDepth 100000
set_option maxHeartbeats 4000000
namespace Va
open PySem PySem.Spec PyProof.Rows L2 Ind SrtB
def inW (r : Row) (n : Tx) : Bool := decide (n ∈ r)
def sureC (ms : List Tx) (ws : List Row) : List Tx := ((decs ms ws).filter fun p => p.2).map (·.1)
theorem mem_sureC {ms : List Tx} {ws : List Row} {n : Tx} : n ∈ sureC ms ws ↔ n ∈ ms ∧ sure ws n = true ∧ 0 < cnt n ws := by
  unfold sureC decs
  rw [List.mem_map]
  constructor
  · rintro ⟨p, hp, rfl⟩
    obtain ⟨h1, h2⟩ := List.mem_filter.mp hp
    obtain ⟨m, hm, rfl⟩ := List.mem_map.mp h1
    obtain ⟨h3, h4⟩ := List.mem_filter.mp hm
    exact ⟨h3, h4, of_decide_eq_true h2⟩
  · rintro ⟨h1, h2, h3⟩
    exact ⟨(n, decide (0 < cnt n ws)), List.mem_filter.mpr ⟨List.mem_map.mpr ⟨n, List.mem_filter.mpr ⟨h1, h2⟩, rfl⟩, by simpa using h3⟩, rfl⟩
section
variable {ms : List Tx} {ws : List Row} {F : Fc}
theorem row_world {w : Row} (hw : w ∈ ws) {n : Tx} (hn : n ∈ ms) : inW (seenR (opens ms ws) w ++ sureC ms ws) n = inW w n := by
  unfold inW
  refine decide_eq_decide.mpr ?_
  rw [List.mem_append, mem_seenR, mem_sureC]
  have ho : n ∈ opens ms ws ↔ sure ws n = false := by
    unfold opens
    rw [List.mem_filter]
    simp [hn]
  cases hs : sure ws n with
  | false =>
    rw [hs] at ho
    constructor
    · rintro (h | h)
      · exact h.2
      · exact absurd h.2.1 Bool.false_ne_true
    · exact fun h => .inl ⟨ho.mpr rfl, h⟩
  | true =>
    rw [hs] at ho
    have hp := pos_cnt w hw hs
    constructor
    · rintro (h | h)
      · exact h.2
      · exact of_decide_eq_true (hp.symm.trans (decide_eq_true h.2.2))
    · exact fun h => .inr ⟨hn, rfl, of_decide_eq_true (hp.trans (decide_eq_true h))⟩
theorem seen_row {w : Row} (hw : w ∈ ws) : seenR (opens ms ws) w ∈ rowsOf ms ws :=
  List.mem_filter.mpr ⟨allR_of List.filter_sublist, decide_eq_true (List.mem_map.mpr ⟨w, hw, rfl⟩)⟩
end
end Va
set_option Elab.async false
set_option linter.all false
set_option maxRecDepth 100000
set_option maxHeartbeats 4000000
namespace Va
open PySem PySem.Spec PyProof.Rows L2 Ind
local macro_rules | `(tactic| walk_at "cn") => `(tactic| first
  | assumption
  | omega
  | exact dm (by omega)
  | exact line (by simp)
  | exact line (by omega)
  | exact line (by simp only [len_app, len_one]; omega)
  | exact small_div (by omega) (by omega)
  | solve_by_elim
  | exact Or.inr ⟨by omega, by omega⟩
  | exact Or.inl ⟨by omega, by omega⟩
  | exact ⟨by omega, by omega⟩
  | decide)
local macro_rules | `(tactic| walk_at "st") => `(tactic| repeat (first
  | refine ⟨_, rfl, ?_⟩
  | refine ⟨_, _, rfl, rfl, ?_⟩
  | refine ⟨_, _, rfl, ?_⟩
  | refine .inl ⟨_, rfl, ?_⟩
  | refine And.intro rfl ?_
  | refine And.intro (by walk_at "cn") ?_))
local macro_rules | `(tactic| walk_at "fz") => `(tactic| repeat (first | exact Fz.refl | apply Fz.upd))
local macro_rules | `(tactic| walk_at "hl") => `(tactic| ((repeat rw [upd_ne (by assumption)]); assumption))
local macro_rules | `(tactic| walk_at "fy") => `(tactic| (intro b o n1 h; (repeat rw [upd_ne n1]); exact h))
local macro_rules | `(tactic| walk_at "wh") => `(tactic| (conv => whnf))
local macro_rules | `(tactic| walk_at "cv") => `(tactic| first
  | rfl
  | assumption
  | omega
  | exact dm (by omega)
  | exact small_div (by omega) (by omega)
  | (simp only [len_app, one_len, len_one, List.length_append, List.length_map, List.length_cons, List.length_nil]; omega)
  | exact Or.inr ⟨by omega, by omega⟩
  | exact Or.inl ⟨by omega, by omega⟩
  | exact ⟨by omega, by omega⟩
  | decide)
local macro_rules | `(tactic| walk_at "vv") => `(tactic| repeat (refine And.intro (by walk_at "cv") ?_))
local macro_rules | `(tactic| walk_at "sk") => `(tactic| repeat (first
  | refine wayT ?_
  | refine wayF ?_
  | refine skipT (by omega) ?_
  | refine skipF (by omega) ?_
  | refine skipT (by decide) ?_
  | refine skipF (by decide) ?_
  | refine ⟨_, (show tyNames _ = some _ from rfl), ?_⟩
  | refine And.intro (by walk_at "cv") ?_))
local macro_rules | `(tactic| walk_at "s0") => `(tactic| first
  | refine wayT ?_
  | refine wayF ?_
  | refine skipT (by omega) ?_
  | refine skipF (by omega) ?_
  | refine skipT (by decide) ?_
  | refine skipF (by decide) ?_
  | refine ⟨_, (show tyNames _ = some _ from rfl), ?_⟩
  | refine And.intro (by walk_at "cv") ?_)
local macro_rules | `(tactic| walk_at "s1") => `(tactic| try (walk_at "s0"; walk_at "wh"))
local macro_rules | `(tactic| walk_at "go") => `(tactic| (walk_at "wh"; repeat (walk_at "s0"; walk_at "wh")))
def mAll : VM := fun ds c Q => ∃ ns : List Tx, ds = [.lst (ns.map .str)] ∧ ns.length ≤ 9 ∧ Q (.lst ((allR ns).map strD)) c
section
variable {P : Program} {w : World} {K : PySem.W.Frag} {mg : PySem.Str → Option Value} {base : Heap}
theorem ok__law_all (T : Txt P K mg) : FnOk P w K mg base CX0 1 T.a__law_all T.d__law_all ["names"] (spV (Sx T) mAll) := by
  refine def_v (S := Sx T) (N := N__law_all) T.F__law_all sc__law_all rfl (fun ds c Q h => by obtain ⟨ns, rfl, _⟩ := h; first | rfl | assumption) (fun cdv A outer s H E hr => (vss_cons (vs_set (i := 1) sc__law_all.nd rfl (.inl rfl) (fe_lst (va_cons (ve_tup va_nil) va_nil)))
      (vss_cons (vs_for PassesOwn.never rfl (vi_rev rfl (by rfl) T.z_reversed (ve_of (pe_CB1 (c_listD rfl rfl) (fun hc ha => pe_callTy hc (by rfl) T.z_list boot_list ha) (be_name (pv 0))))) (vg_name (i := 2) [2] (by decide) sc__law_all.nd rfl (.inr rfl))
      (vss_one (vs_set (i := 1) sc__law_all.nd rfl (.inl rfl) (fe_op (o_add rfl) (ve_of (fe_fz 2 (fe_lc (own := [("row", 3)]) rfl sc__law_all.nd (vi_any rfl (ve_name (pv 1))) (blkOk_by (own := [("row", 3)]) (N := N__law_all) (sc := defScope s__law_all) (by decide +kernel)) (fun _ _ _ _ _ => (vg_name (i := 3) [3] (by decide) sc__law_all.nd rfl (.inl rfl))) (fun _ _ _ _ _ => vts_nil) (fun _ _ _ _ _ => (ve_of (fe_op (o_add rfl) (ve_tup (va_cons (ve_name (pv 2)) va_nil)) (be_name (pv 3)))))))) (be_name (pv 1))))))
      (vss_one (vs_ret (ve_name (pv 1))))))) ?_
  rintro ds c Q ⟨ns, rfl, hl, q⟩
  walk_at "go"
  have pw : ∀ i, i ≤ ns.length → 2 ^ i ≤ 2 ^ 9 := fun i hi => Nat.pow_le_pow_right (by decide) (by omega)
  have h4 : (2 : Nat) ^ 9 = 512 := by decide
  refine ⟨fun i E => Iv (∃ (y z : SV), E = ⟨[.v (.lst (ns.map .str)), .ol ((allR (ns.reverse.take i).reverse).map strD), y, z], c⟩), .a ⟨_, _, rfl⟩, ?_, ?_⟩
  · intro i d E ed iv
    obtain ⟨y, z, rfl⟩ := iv.out
    rw [← List.map_reverse] at ed
    have hi := (List.getElem?_eq_some_iff.mp ed).1
    rw [List.length_map, List.length_reverse] at hi
    obtain ⟨x, ex, rfl⟩ := map_get ed
    have h3 := pw i (by omega)
    have e1 : allR (ns.reverse.take (i + 1)).reverse = (allR (ns.reverse.take i).reverse).map (fun r => x :: r) ++ allR (ns.reverse.take i).reverse := by
      rw [take_more ex, List.reverse_append]; rfl
    have hlen := allR_len (ns.reverse.take i).reverse
    have hsub : ∀ r ∈ allR (ns.reverse.take i).reverse, r.length ≤ 9 := fun r hr => by
      have := (allR_sub hr).length_le
      rw [List.length_reverse, List.length_take, List.length_reverse] at this
      omega
    rw [List.length_reverse, List.length_take, List.length_reverse, Nat.min_eq_left (by omega)] at hlen
    generalize allR (ns.reverse.take i).reverse = rs at hlen hsub e1 ⊢
    refine ⟨by rw [List.length_map]; omega, fun j acc k => Iv (acc = ((rs.take j).map fun r => x :: r).map strD ∧ k = c), .a ⟨rfl, rfl⟩, ?_, ?_⟩
    · intro j d acc k ed iv la
      obtain ⟨rfl, rfl⟩ := iv.out
      obtain ⟨r, er, rfl⟩ := map_get ed
      have hr := hsub r (List.mem_of_getElem? er)
      refine wayT ?_
      refine ⟨by show 1 ≤ 1000; decide, ?_⟩
      refine ⟨by show 1 + (r.map D.str).length ≤ 1000000; rw [List.length_map]; omega, ?_⟩
      refine .a ⟨?_, rfl⟩
      rw [take_more er, List.map_append, List.map_append]
      rfl
    · intro acc k iv la
      obtain ⟨rfl, rfl⟩ := iv.out
      rw [List.length_map, List.take_length]
      refine ⟨by rw [List.length_map, List.length_map, List.length_map]; omega, ?_⟩
      refine .a ⟨.v (.str x), z, ?_⟩
      rw [e1, List.map_append]
      rfl
  · intro E iv
    obtain ⟨y, z, rfl⟩ := iv.out
    have e : ((ns.map D.str).reverse).length = ns.reverse.length := by rw [List.length_reverse, List.length_map, List.length_reverse]
    rw [e, List.take_length, List.reverse_reverse]
    exact q
end
def mSame (n : Nat) : VM := fun ds c Q => ∃ d : D, ds = [d, d] ∧ d.sm n ∧ Q (.bl true) c
section
variable {P : Program} {w : World} {K : PySem.W.Frag} {mg : PySem.Str → Option Value} {base : Heap}
theorem rec__law_same (T : Txt P K mg) : ∀ n : Nat, FnOk P w K mg base CX0 (n + 1) T.a__law_same T.d__law_same ["told", "due"] (spV (Sx T) (mSame n))
  | 0 => fn_vac fun ds c Q ⟨_, _, h, _⟩ => h
  | n + 1 => by
    have G__law_same := rec__law_same T n
    refine def_v (S := Sx T) (N := N__law_same) T.F__law_same sc__law_same rfl (fun ds c Q h => by obtain ⟨d, rfl, _⟩ := h; first | rfl | assumption) (fun cdv A outer s H E hr => (vss_cons (vs_if (vb_tru rfl (be_of (ve_of (pe_CB (c_isi rfl) (fun hc ha => pe_callB hc (by rfl) T.z_isinstance boot_isinstance ha) (va_cons (ve_name (pv 1)) (va_cons (ve_ty (x := "") (pe_bltn (v := .ty "dict") (by rfl) T.z_dict boot_dict rfl)) va_nil)))))) (vss_cons (vs_set (i := 2) sc__law_same.nd rfl (.inl rfl) (fe_of (ve_and (ve_of (pe_CB (c_isi rfl) (fun hc ha => pe_callB hc (by rfl) T.z_isinstance boot_isinstance ha) (va_cons (ve_name (pv 0)) (va_cons (ve_ty (x := "") (pe_bltn (v := .ty "dict") (by rfl) T.z_dict boot_dict rfl)) va_nil)))) (ve_one (ve_call G__law_same (hr.mono (by omega)) (by rfl) T.g__law_same T.F__law_same.kp T.b__law_same (va_cons (ve_of (pe_CB1 (c_listD rfl rfl) (fun hc ha => pe_callTy hc (by rfl) T.z_list boot_list ha) (be_name (pv 0)))) (va_cons (ve_of (pe_CB1 (c_listD rfl rfl) (fun hc ha => pe_callTy hc (by rfl) T.z_list boot_list ha) (be_name (pv 1)))) va_nil)))))))
      (vss_one (vs_ret (ve_and (ve_name (pv 2)) (ve_one (ve_call G__law_same (hr.mono (by omega)) (by rfl) T.g__law_same T.F__law_same.kp T.b__law_same (va_cons (ve_of (fe_listVals rfl (by rfl) T.z_list (ve_name (pv 0)))) (va_cons (ve_of (fe_listVals rfl (by rfl) T.z_list (ve_name (pv 1)))) va_nil)))))))) vss_nil)
      (vss_cons (vs_if (vb_tru rfl (be_of (ve_of (pe_CB (c_isi rfl) (fun hc ha => pe_callB hc (by rfl) T.z_isinstance boot_isinstance ha) (va_cons (ve_name (pv 1)) (va_cons (ve_tup (va_cons (ve_ty (x := "") (pe_bltn (v := .ty "list") (by rfl) T.z_list boot_list rfl)) (va_cons (ve_ty (x := "") (pe_bltn (v := .ty "tuple") (by rfl) T.z_tuple boot_tuple rfl)) va_nil))) va_nil)))))) (vss_cons (vs_if (vb_w (vw_or (vb_cmp (o_ne rfl hr.units) (ve_of (pe_CB (c_isi rfl) (fun hc ha => pe_callB hc (by rfl) T.z_isinstance boot_isinstance ha) (va_cons (ve_name (pv 0)) (va_cons (ve_ty (x := "") (pe_bltn (v := .ty "list") (by rfl) T.z_list boot_list rfl)) va_nil)))) (be_of (ve_of (pe_CB (c_isi rfl) (fun hc ha => pe_callB hc (by rfl) T.z_isinstance boot_isinstance ha) (va_cons (ve_name (pv 1)) (va_cons (ve_ty (x := "") (pe_bltn (v := .ty "list") (by rfl) T.z_list boot_list rfl)) va_nil))))) (nomark _)) (vw_or1 (vb_cmp (o_ne rfl hr.units) (ve_of (pe_CB (c_isi rfl) (fun hc ha => pe_callB hc (by rfl) T.z_isinstance boot_isinstance ha) (va_cons (ve_name (pv 0)) (va_cons (ve_ty (x := "") (pe_bltn (v := .ty "tuple") (by rfl) T.z_tuple boot_tuple rfl)) va_nil)))) (be_of (ve_of (pe_CB (c_isi rfl) (fun hc ha => pe_callB hc (by rfl) T.z_isinstance boot_isinstance ha) (va_cons (ve_name (pv 1)) (va_cons (ve_ty (x := "") (pe_bltn (v := .ty "tuple") (by rfl) T.z_tuple boot_tuple rfl)) va_nil))))) (nomark _))))) (vss_one (vs_ret ve_bl)) vss_nil)
      (vss_one (vs_ret (ve_and (ve_of (fe_cmp (o_eq rfl hr.units) (ve_of (pe_CB1 (c_len rfl) (fun hc ha => pe_callB hc (by rfl) T.z_len boot_len ha) (be_name (pv 0)))) (be_of (ve_of (pe_CB1 (c_len rfl) (fun hc ha => pe_callB hc (by rfl) T.z_len boot_len ha) (be_name (pv 1))))) (nomark _))) (ve_one (ve_of (fe_cmp (o_eq rfl hr.units) (ve_of (pe_CB1 (c_len rfl) (fun hc ha => pe_callB hc (by rfl) T.z_len boot_len ha) (be_of (ve_of (fe_fz 1 (fe_fz 0 (fe_lc (own := [("k", 3)]) rfl sc__law_same.nd (vi_range1 (by rfl) T.z_range (va_cons (ve_of (pe_CB1 (c_len rfl) (fun hc ha => pe_callB hc (by rfl) T.z_len boot_len ha) (be_name (pv 1)))) va_nil)) (blkOk_by (own := [("k", 3)]) (N := N__law_same) (sc := defScope s__law_same) (by decide +kernel)) (fun _ _ _ _ _ => (vg_name (i := 3) [3] (by decide) sc__law_same.nd rfl (.inl rfl))) (fun _ _ _ _ _ => (vts_one (vb_not (vb_tru rfl (be_of (ve_call G__law_same (hr.mono (by omega)) (by rfl) T.g__law_same T.F__law_same.kp T.b__law_same (va_cons (ve_of (fe_ixN (i_ix rfl (hu_of hr)) (pv 0) (be_name (pv 3)) (fun _ _ => rfl))) (va_cons (ve_of (fe_ixN (i_ix rfl (hu_of hr)) (pv 1) (be_name (pv 3)) (fun _ _ => rfl))) va_nil)))))))) (fun _ _ _ _ _ => (ve_name (pv 3)))))))))) (be_of ve_int) (nomark _)))))))) vss_nil)
      (vss_cons (vs_if (vb_cmp o_isN (ve_name (pv 1)) (be_of ve_non) (nomark _)) (vss_one (vs_ret (ve_of (fe_cmp o_isN (ve_name (pv 0)) (be_of ve_non) (nomark _))))) vss_nil)
      (vss_cons (vs_if (vb_w (vw_or (vb_not (vb_tru rfl (be_of (ve_of (pe_CB (c_isi rfl) (fun hc ha => pe_callB hc (by rfl) T.z_isinstance boot_isinstance ha) (va_cons (ve_name (pv 0)) (va_cons (ve_tup (va_cons (ve_ty (x := "") (pe_bltn (v := .ty "int") (by rfl) T.z_int boot_int rfl)) (va_cons (ve_ty (x := "") (pe_bltn (v := .ty "str") (by rfl) T.z_str boot_str rfl)) va_nil))) va_nil))))))) (vw_or1 (vb_cmp (o_ne rfl hr.units) (ve_of (pe_CB (c_isi rfl) (fun hc ha => pe_callB hc (by rfl) T.z_isinstance boot_isinstance ha) (va_cons (ve_name (pv 0)) (va_cons (ve_ty (x := "") (pe_bltn (v := .ty "bool") (by rfl) T.z_bool boot_bool rfl)) va_nil)))) (be_of (ve_of (pe_CB (c_isi rfl) (fun hc ha => pe_callB hc (by rfl) T.z_isinstance boot_isinstance ha) (va_cons (ve_name (pv 1)) (va_cons (ve_ty (x := "") (pe_bltn (v := .ty "bool") (by rfl) T.z_bool boot_bool rfl)) va_nil))))) (nomark _))))) (vss_one (vs_ret ve_bl)) vss_nil)
      (vss_one (vs_ret (ve_of (fe_cmp (o_eq rfl hr.units) (ve_name (pv 0)) (be_name (pv 1)) (nomark _)))))))))) ?_
    rintro ds c Q ⟨d, rfl, h, q⟩
    have seq : ∀ (xs : List D), xs.length < 1000000 → (∀ x ∈ xs, D.sm n x) → ∀ {l : List SV} {R : D → Nat → Prop}, R (.bl true) c →
        ∀ {i : Nat} {d : D}, (rng 0 xs.length)[i]? = some d → atI xs (0 + (i : Int)) = xs[i]? ∧ i < xs.length ∧ d = .int (0 + (i : Int)) := by
      intro xs hl hx l R r i d ed
      obtain ⟨rfl, hi⟩ := rng_at ed
      refine ⟨?_, hi, rfl⟩
      rw [Int.zero_add]
      rw [List.getElem?_eq_getElem hi]
      exact atI_nat (List.getElem?_eq_getElem hi)
    cases d with
    | non => walk_at "go"; exact q
    | bl b =>
      walk_at "go"
      show Q (.bl (decide (b = b))) c
      rw [decide_eq_true rfl]
      exact q
    | int b =>
      walk_at "go"
      show Q (.bl (decide (b = b))) c
      rw [decide_eq_true rfl]
      exact q
    | str b =>
      walk_at "go"
      show Q (.bl (decide (b = b))) c
      rw [decide_eq_true rfl]
      exact q
    | ptp _ => exact h.elim
    | tape => exact h.elim
    | ty _ => exact h.elim
    | ob _ => exact h.elim
    | dk kvs =>
      obtain ⟨h1, h2⟩ := h
      walk_at "wh"
      iterate 4 walk_at "s1"
      refine ⟨_, rfl, h1, ?_⟩
      walk_at "wh"
      iterate 4 walk_at "s1"
      refine ⟨_, rfl, h2, ?_⟩
      exact q
    | tup xs =>
      obtain ⟨hl, hx⟩ := h
      walk_at "wh"
      iterate 13 walk_at "s1"
      refine ⟨⟨by omega, by omega⟩, by simp only [rng, List.length_map, List.length_range]; omega, fun i acc k => Iv (acc = [] ∧ k = c), .a ⟨rfl, rfl⟩, ?_, ?_⟩
      · intro i e acc k ed iv la
        obtain ⟨rfl, rfl⟩ := iv.out
        obtain ⟨ex, hi, rfl⟩ := seq xs hl hx (l := []) (R := Q) q ed
        rw [List.getElem?_eq_getElem hi] at ex
        walk_at "wh"
        refine withD_of ex ?_
        walk_at "wh"
        refine withD_of ex ?_
        refine ⟨_, rfl, hx _ (List.getElem_mem hi), ?_⟩
        walk_at "wh"
        refine wayF ?_
        exact .a ⟨rfl, rfl⟩
      · intro acc k iv la
        obtain ⟨rfl, rfl⟩ := iv.out
        walk_at "go"
        exact q
    | lst xs =>
      obtain ⟨hl, hx⟩ := h
      walk_at "wh"
      iterate 13 walk_at "s1"
      refine ⟨⟨by omega, by omega⟩, by simp only [rng, List.length_map, List.length_range]; omega, fun i acc k => Iv (acc = [] ∧ k = c), .a ⟨rfl, rfl⟩, ?_, ?_⟩
      · intro i e acc k ed iv la
        obtain ⟨rfl, rfl⟩ := iv.out
        obtain ⟨ex, hi, rfl⟩ := seq xs hl hx (l := []) (R := Q) q ed
        rw [List.getElem?_eq_getElem hi] at ex
        walk_at "wh"
        refine withD_of ex ?_
        walk_at "wh"
        refine withD_of ex ?_
        refine ⟨_, rfl, hx _ (List.getElem_mem hi), ?_⟩
        walk_at "wh"
        refine wayF ?_
        exact .a ⟨rfl, rfl⟩
      · intro acc k iv la
        obtain ⟨rfl, rfl⟩ := iv.out
        walk_at "go"
        exact q
end
end Va
set_option Elab.async false
set_option linter.all false
set_option maxRecDepth 100000
set_option maxHeartbeats 4000000
namespace Va
open PySem PySem.Spec PyProof.Rows L2 Ind
local macro_rules | `(tactic| walk_at "cn") => `(tactic| first
  | assumption
  | omega
  | exact dm (by omega)
  | exact line (by simp)
  | exact line (by omega)
  | exact line (by simp only [len_app, len_one]; omega)
  | exact small_div (by omega) (by omega)
  | solve_by_elim
  | exact Or.inr ⟨by omega, by omega⟩
  | exact Or.inl ⟨by omega, by omega⟩
  | exact ⟨by omega, by omega⟩
  | decide)
local macro_rules | `(tactic| walk_at "st") => `(tactic| repeat (first
  | refine ⟨_, rfl, ?_⟩
  | refine ⟨_, _, rfl, rfl, ?_⟩
  | refine ⟨_, _, rfl, ?_⟩
  | refine .inl ⟨_, rfl, ?_⟩
  | refine And.intro rfl ?_
  | refine And.intro (by walk_at "cn") ?_))
local macro_rules | `(tactic| walk_at "fz") => `(tactic| repeat (first | exact Fz.refl | apply Fz.upd))
local macro_rules | `(tactic| walk_at "hl") => `(tactic| ((repeat rw [upd_ne (by assumption)]); assumption))
local macro_rules | `(tactic| walk_at "fy") => `(tactic| (intro b o n1 h; (repeat rw [upd_ne n1]); exact h))
local macro_rules | `(tactic| walk_at "wh") => `(tactic| (conv => whnf))
local macro_rules | `(tactic| walk_at "cv") => `(tactic| first
  | rfl
  | assumption
  | omega
  | exact dm (by omega)
  | exact small_div (by omega) (by omega)
  | (simp only [len_app, one_len, len_one, List.length_append, List.length_map, List.length_cons, List.length_nil]; omega)
  | exact Or.inr ⟨by omega, by omega⟩
  | exact Or.inl ⟨by omega, by omega⟩
  | exact ⟨by omega, by omega⟩
  | decide)
local macro_rules | `(tactic| walk_at "vv") => `(tactic| repeat (refine And.intro (by walk_at "cv") ?_))
local macro_rules | `(tactic| walk_at "sk") => `(tactic| repeat (first
  | refine wayT ?_
  | refine wayF ?_
  | refine skipT (by omega) ?_
  | refine skipF (by omega) ?_
  | refine skipT (by decide) ?_
  | refine skipF (by decide) ?_
  | refine ⟨_, (show tyNames _ = some _ from rfl), ?_⟩
  | refine And.intro (by walk_at "cv") ?_))
local macro_rules | `(tactic| walk_at "s0") => `(tactic| first
  | refine wayT ?_
  | refine wayF ?_
  | refine skipT (by omega) ?_
  | refine skipF (by omega) ?_
  | refine skipT (by decide) ?_
  | refine skipF (by decide) ?_
  | refine ⟨_, (show tyNames _ = some _ from rfl), ?_⟩
  | refine And.intro (by walk_at "cv") ?_)
local macro_rules | `(tactic| walk_at "s1") => `(tactic| try (walk_at "s0"; walk_at "wh"))
local macro_rules | `(tactic| walk_at "go") => `(tactic| (walk_at "wh"; repeat (walk_at "s0"; walk_at "wh")))
def mSeen : VM := fun ds c Q => ∃ (row ns : List Tx) (d : D), ds = [strD row, d] ∧ (d = .lst (ns.map .str) ∨ d = .tup (ns.map .str)) ∧ ns.length < 1000 ∧ Q (strD (seenR ns row)) c
def mPickL : VM := fun ds c Q => ∃ (xs : List D) (d : D) (m : Nat), ds = [.tape, d, .int m] ∧ (d = .lst xs ∨ d = .tup xs) ∧ m < 100 ∧ xs.length ≤ 1000 ∧ xs.length ≤ c ∧ ∀ ys c', ys.Sublist xs → c ≤ c' + xs.length → Q (.lst ys) c'
section
variable {P : Program} {w : World} {K : PySem.W.Frag} {mg : PySem.Str → Option Value} {base : Heap}
theorem ok__law_seen (T : Txt P K mg) : FnOk P w K mg base CX0 1 T.a__law_seen T.d__law_seen ["row", "names"] (spV (Sx T) mSeen) := by
  refine def_v (S := Sx T) (N := N__law_seen) T.F__law_seen sc__law_seen rfl (fun ds c Q h => by obtain ⟨row, ns, d, rfl, _⟩ := h; first | rfl | assumption) (fun cdv A outer s H E hr => (vss_one (vs_ret (ve_of (pe_CB1 (c_tupleD rfl rfl) (fun hc ha => pe_callTy hc (by rfl) T.z_tuple boot_tuple ha) (be_of (ve_of (fe_fz 0 (fe_lc (own := [("name", 2)]) rfl sc__law_seen.nd (vi_any rfl (ve_name (pv 1))) (blkOk_by (own := [("name", 2)]) (N := N__law_seen) (sc := defScope s__law_seen) (by decide +kernel)) (fun _ _ _ _ _ => (vg_name (i := 2) [2] (by decide) sc__law_seen.nd rfl (.inl rfl))) (fun _ _ _ _ _ => (vts_one (vb_cmp (o_in rfl (hu65 hr)) (ve_name (pv 2)) (be_name (pv 0)) (by rfl)))) (fun _ _ _ _ _ => (ve_name (pv 2)))))))))))) ?_
  rintro ds c Q ⟨row, ns, d, rfl, hd, hl, q⟩
  rcases hd with rfl | rfl
  all_goals
    walk_at "wh"
    refine ⟨by rw [List.length_map]; omega, fun i acc k => Iv (acc = ((ns.take i).filter fun n => decide (n ∈ row)).map .str ∧ k = c), .a ⟨rfl, rfl⟩, ?_, ?_⟩
    · intro i d acc k ed iv la
      obtain ⟨rfl, rfl⟩ := iv.out
      obtain ⟨x, ex, rfl⟩ := map_get ed
      refine ⟨rfl, flat_strsD _, ?_⟩
      rw [in_strsD]
      refine both (fun e => .a ⟨?_, rfl⟩) (fun e => .a ⟨?_, rfl⟩)
      · rw [filt_T ex e, List.map_append]; rfl
      · rw [filt_F ex e]
    · intro acc k iv la
      obtain ⟨rfl, rfl⟩ := iv.out
      rw [List.length_map, List.take_length]
      exact q
theorem ok__law_picked (T : Txt P K mg) : FnOk P w K mg base CX0 2 T.a__law_picked T.d__law_picked ["tape", "rows", "one"] (spV (Sx T) mPickL) := by
  have G__law_draw := draw_v (S := Sx T) (ok__law_draw (P := P) (w := w) (base := base) T)
  refine def_v (S := Sx T) (N := N__law_picked) T.F__law_picked sc__law_picked rfl (fun ds c Q h => by obtain ⟨xs, d, m, rfl, _⟩ := h; first | rfl | assumption) (fun cdv A outer s H E hr => (vss_cons (vs_set (i := 3) sc__law_picked.nd rfl (.inl rfl) (fe_lst va_nil))
      (vss_cons (vs_for PassesOwn.never rfl (vi_any rfl (ve_name (pv 1))) (vg_name (i := 4) [4] (by decide) sc__law_picked.nd rfl (.inl rfl))
      (vss_one (vs_if (vb_cmp (o_eq rfl hr.units) (ve_call G__law_draw hr (by rfl) T.g__law_draw T.F__law_draw.kp T.b__law_draw (va_cons (ve_name (pv 0)) (va_cons (ve_name (pv 2)) va_nil))) (be_of ve_int) (nomark _)) (vss_one (vs_append rfl (pv 3) (ve_name (pv 4)))) vss_nil)))
      (vss_one (vs_ret (ve_name (pv 3))))))) ?_
  rintro ds c Q ⟨xs, d, m, rfl, hd, hm, hl, hc, q⟩
  rcases hd with rfl | rfl
  all_goals
    walk_at "wh"
    iterate 2 walk_at "s1"
    refine ⟨fun i E => Iv (∃ (ys : List D) (y : SV) (k : Nat), E = ⟨[.v .tape, _, .v (.int m), .ol ys, y], k⟩ ∧ ys.Sublist (xs.take i) ∧ c ≤ k + i), .a ⟨[], _, _, rfl, List.nil_sublist _, Nat.le_refl _⟩, ?_, ?_⟩
    · intro i d E ed iv
      obtain ⟨ys, y, k, rfl, h1, h2⟩ := iv.out
      have hi := (List.getElem?_eq_some_iff.mp ed).1
      have hlen := h1.length_le
      rw [List.length_take] at hlen
      refine ⟨m, rfl, by show 1 ≤ k; omega, dm (by omega), fun r hr => ?_⟩
      walk_at "wh"
      refine bothD (fun e => ?_) (fun e => ?_)
      · walk_at "wh"
        refine ⟨by omega, .a ⟨ys ++ [d], _, k - 1, rfl, ?_, by omega⟩⟩
        rw [take_more ed]
        exact h1.append_right _
      · walk_at "wh"
        refine .a ⟨ys, _, k - 1, rfl, ?_, by omega⟩
        rw [take_more ed]
        exact h1.trans (List.sublist_append_left _ _)
    · intro E iv
      obtain ⟨ys, y, k, rfl, h1, h2⟩ := iv.out
      rw [List.take_length] at h1
      exact q _ _ h1 h2
end
end Va
set_option Elab.async false
set_option linter.all false
set_option maxRecDepth 100000
set_option maxHeartbeats 4000000
namespace Va
open PySem PySem.Spec PyProof.Rows L2 Ind
local macro_rules | `(tactic| walk_at "cn") => `(tactic| first
  | assumption
  | omega
  | exact dm (by omega)
  | exact line (by simp)
  | exact line (by omega)
  | exact line (by simp only [len_app, len_one]; omega)
  | exact small_div (by omega) (by omega)
  | solve_by_elim
  | exact Or.inr ⟨by omega, by omega⟩
  | exact Or.inl ⟨by omega, by omega⟩
  | exact ⟨by omega, by omega⟩
  | decide)
local macro_rules | `(tactic| walk_at "st") => `(tactic| repeat (first
  | refine ⟨_, rfl, ?_⟩
  | refine ⟨_, _, rfl, rfl, ?_⟩
  | refine ⟨_, _, rfl, ?_⟩
  | refine .inl ⟨_, rfl, ?_⟩
  | refine And.intro rfl ?_
  | refine And.intro (by walk_at "cn") ?_))
local macro_rules | `(tactic| walk_at "fz") => `(tactic| repeat (first | exact Fz.refl | apply Fz.upd))
local macro_rules | `(tactic| walk_at "hl") => `(tactic| ((repeat rw [upd_ne (by assumption)]); assumption))
local macro_rules | `(tactic| walk_at "fy") => `(tactic| (intro b o n1 h; (repeat rw [upd_ne n1]); exact h))
local macro_rules | `(tactic| walk_at "wh") => `(tactic| (conv => whnf))
local macro_rules | `(tactic| walk_at "cv") => `(tactic| first
  | rfl
  | assumption
  | omega
  | exact dm (by omega)
  | exact small_div (by omega) (by omega)
  | (simp only [len_app, one_len, len_one, List.length_append, List.length_map, List.length_cons, List.length_nil]; omega)
  | exact Or.inr ⟨by omega, by omega⟩
  | exact Or.inl ⟨by omega, by omega⟩
  | exact ⟨by omega, by omega⟩
  | decide)
local macro_rules | `(tactic| walk_at "vv") => `(tactic| repeat (refine And.intro (by walk_at "cv") ?_))
local macro_rules | `(tactic| walk_at "sk") => `(tactic| repeat (first
  | refine wayT ?_
  | refine wayF ?_
  | refine skipT (by omega) ?_
  | refine skipF (by omega) ?_
  | refine skipT (by decide) ?_
  | refine skipF (by decide) ?_
  | refine ⟨_, (show tyNames _ = some _ from rfl), ?_⟩
  | refine And.intro (by walk_at "cv") ?_))
local macro_rules | `(tactic| walk_at "s0") => `(tactic| first
  | refine wayT ?_
  | refine wayF ?_
  | refine skipT (by omega) ?_
  | refine skipF (by omega) ?_
  | refine skipT (by decide) ?_
  | refine skipF (by decide) ?_
  | refine ⟨_, (show tyNames _ = some _ from rfl), ?_⟩
  | refine And.intro (by walk_at "cv") ?_)
local macro_rules | `(tactic| walk_at "s1") => `(tactic| try (walk_at "s0"; walk_at "wh"))
local macro_rules | `(tactic| walk_at "go") => `(tactic| (walk_at "wh"; repeat (walk_at "s0"; walk_at "wh")))
def mWorlds : VM := fun ds c Q => ∃ ns : List Tx, ds = [.tape, .lst (ns.map .str)] ∧ ns.length ≤ 9 ∧ 600 ≤ c ∧ ∀ (ws : List Row) c', ws ≠ [] → ws.length ≤ 2 ^ ns.length → (∀ w ∈ ws, w.length ≤ ns.length ∧ ∀ n ∈ w, n ∈ ns) → c ≤ c' + 600 → Q (.lst (ws.map strD)) c'
section
variable {P : Program} {w : World} {K : PySem.W.Frag} {mg : PySem.Str → Option Value} {base : Heap}
theorem ok__law_worlds (T : Txt P K mg) : FnOk P w K mg base CX0 3 T.a__law_worlds T.d__law_worlds ["tape", "names"] (spV (Sx T) mWorlds) := by
  have G__law_all := ok__law_all (P := P) (w := w) (base := base) T
  have G__law_draw := draw_v (S := Sx T) (ok__law_draw (P := P) (w := w) (base := base) T)
  have G__law_picked := ok__law_picked (P := P) (w := w) (base := base) T
  refine def_v (S := Sx T) (N := N__law_worlds) T.F__law_worlds sc__law_worlds rfl (fun ds c Q h => by obtain ⟨ns, rfl, _⟩ := h; first | rfl | assumption) (fun cdv A outer s H E hr => (vss_cons (vs_set (i := 2) sc__law_worlds.nd rfl (.inl rfl) (fe_of (ve_call G__law_all (hr.mono (by omega)) (by rfl) T.g__law_all T.F__law_all.kp T.b__law_all (va_cons (ve_of (pe_CB1 (c_sortedS rfl) (fun hc ha => pe_callB hc (by rfl) T.z_sorted boot_sorted ha) (be_name (pv 1)))) va_nil))))
      (vss_cons (vs_set (i := 3) sc__law_worlds.nd rfl (.inl rfl) (fe_of (ve_call G__law_draw (hr.mono (by omega)) (by rfl) T.g__law_draw T.F__law_draw.kp T.b__law_draw (va_cons (ve_name (pv 0)) (va_cons ve_int va_nil)))))
      (vss_cons (vs_if (vb_cmp (o_eq rfl hr.units) (ve_name (pv 3)) (be_of ve_int) (nomark _)) (vss_one (vs_ret (ve_name (pv 2)))) vss_nil)
      (vss_cons (vs_set (i := 4) sc__law_worlds.nd rfl (.inl rfl) (fe_of (ve_call G__law_picked hr (by rfl) T.g__law_picked T.F__law_picked.kp T.b__law_picked (va_cons (ve_name (pv 0)) (va_cons (ve_name (pv 2)) (va_cons (ve_of (fe_ix (i_ix rfl (hu_of hr)) (ve_of (fe_lst (va_cons ve_int (va_cons ve_int (va_cons ve_int (va_cons ve_int va_nil)))))) (be_name (pv 3)) (fun _ _ => rfl))) va_nil))))))
      (vss_cons (vs_if (vb_not (vb_tru rfl (be_name (pv 4)))) (vss_one (vs_ret (ve_of (fe_lst (va_cons (ve_of (fe_ixN (i_ix rfl (hu_of hr)) (pv 2) (be_of (ve_call G__law_draw (hr.mono (by omega)) (by rfl) T.g__law_draw T.F__law_draw.kp T.b__law_draw (va_cons (ve_name (pv 0)) (va_cons (ve_of (pe_CB1 (c_len rfl) (fun hc ha => pe_callB hc (by rfl) T.z_len boot_len ha) (be_name (pv 2)))) va_nil)))) (fun _ _ => rfl))) va_nil))))) vss_nil)
      (vss_one (vs_ret (ve_name (pv 4)))))))))) ?_
  rintro ds c Q ⟨ns, rfl, hn, hc, q⟩
  walk_at "wh"
  refine ⟨ns, rfl, by omega, fun ms pm sm => ?_⟩
  have hm : ms.length ≤ 9 := by rw [pm.length_eq]; exact hn
  have hal := allR_len ms
  have hp9 : 2 ^ ms.length ≤ 2 ^ 9 := Nat.pow_le_pow_right (by decide) hm
  have hpm : 2 ^ ms.length = 2 ^ ns.length := by rw [pm.length_eq]
  have hp0 : 0 < 2 ^ ms.length := Nat.pow_pos (by decide)
  have h512 : (2 : Nat) ^ 9 = 512 := by decide
  refine ⟨ms, rfl, hm, ?_⟩
  refine ⟨4, rfl, by show 1 ≤ c; omega, dm (by decide), fun r hr => ?_⟩
  walk_at "wh"
  refine bothD (fun e => ?_) (fun e => ?_)
  · exact q (allR ms) _ (fun z => by rw [z] at hal; simp at hal; omega) (by omega) (fun w hw => ⟨by rw [← pm.length_eq]; exact (allR_sub hw).length_le, fun n hn => pm.mem_iff.mp ((allR_sub hw).subset hn)⟩) (by show c ≤ c - 1 + 600; omega)
  · obtain ⟨d4, ed4, md4⟩ := pickD (l := [D.int 2, .int 2, .int 2, .int 7]) (i := r) (by simp; omega)
    obtain ⟨z, rfl, hz⟩ := int_mem (P := fun i => i = 2 ∨ i = 7) md4 (by simp)
    walk_at "wh"
    refine ⟨by show 4 ≤ 1000; decide, ?_⟩
    refine withD_of ed4 ?_
    obtain ⟨z, rfl⟩ : ∃ n : Nat, z = (n : Int) := ⟨z.toNat, by omega⟩
    refine ⟨(allR ms).map strD, _, z, rfl, .inl rfl, by omega, by rw [List.length_map]; omega, by rw [List.length_map]; show _ ≤ c - 1; omega, fun ys c' hs hc' => ?_⟩
    rw [List.length_map] at hc'
    have hc' : c - 1 ≤ c' + (allR ms).length := hc'
    obtain ⟨rs, hrs, rfl⟩ := List.sublist_map_iff.mp hs
    have hrl := hrs.length_le
    walk_at "wh"
    cases rs with
    | nil =>
      refine wayT ?_
      walk_at "wh"
      refine ⟨((allR ms).map strD).length, rfl, by show 1 ≤ c'; omega, dm (by rw [List.length_map]; omega), fun r3 hr3 => ?_⟩
      rw [List.length_map] at hr3
      have hr3 : r3 < (allR ms).length := by omega
      walk_at "wh"
      refine withD_of (d := strD ((allR ms)[r3]'hr3)) (atI_nat (by rw [List.getElem?_map, List.getElem?_eq_getElem hr3]; rfl)) ?_
      exact ⟨by show 1 ≤ 1000; decide, q [(allR ms)[r3]'hr3] _ (by simp) (by show 1 ≤ _; omega) (fun w hw => by
        rw [List.mem_singleton.mp hw]
        exact ⟨by rw [← pm.length_eq]; exact (allR_sub (List.getElem_mem hr3)).length_le, fun n hn => pm.mem_iff.mp ((allR_sub (List.getElem_mem hr3)).subset hn)⟩) (by show c ≤ c' - 1 + 600; omega)⟩
    | cons o rs =>
      refine wayF ?_
      exact q (o :: rs) _ (by simp) (by omega) (fun w hw => ⟨by rw [← pm.length_eq]; exact (allR_sub (hrs.subset hw)).length_le, fun n hn => pm.mem_iff.mp ((allR_sub (hrs.subset hw)).subset hn)⟩) (by show c ≤ c' + 600; omega)
end
end Va
set_option Elab.async false
set_option linter.all false
set_option maxRecDepth 100000
set_option maxHeartbeats 4000000
namespace Va
open PySem PySem.Spec PyProof.Rows L2 Ind
abbrev Case := List (Tx × Bool)
def pairD (p : Tx × Bool) : D := .tup [.str p.1, .bl p.2]
def caseD (c : Case) : D := .tup (c.map pairD)
def agr (c : Case) (o : Row) : Bool := c.all fun p => decide (p.1 ∈ o) == p.2
def bt (os : List Row) (c : Case) (i : Nat) : Bool := match os[i]? with
  | some o => agr c o
  | none => false
def lit (os : List Row) (n : Tx) (i : Nat) : Bool := match os[i]? with
  | some o => decide (n ∈ o)
  | none => false
theorem agr_iff {c : Case} {o : Row} : agr c o = true ↔ ∀ p ∈ c, (p.1 ∈ o ↔ p.2 = true) := by
  unfold agr
  rw [List.all_eq_true]
  refine forall_congr' fun p => forall_congr' fun _ => ?_
  rcases p with ⟨n, b⟩
  cases b <;> simp
theorem agr_app {c d : Case} {o : Row} : agr (c ++ d) o = (agr c o && agr d o) := by unfold agr; rw [List.all_append]
theorem agr_one {n : Tx} {b : Bool} {o : Row} : agr [(n, b)] o = (decide (n ∈ o) == b) := by unfold agr; simp
theorem agr_sub {c d : Case} {o : Row} (h : ∀ p ∈ d, p ∈ c) (a : agr c o = true) : agr d o = true := agr_iff.mpr fun p hp => agr_iff.mp a p (h p hp)
theorem bt_iff {os : List Row} {c : Case} : (∃ i, i < os.length ∧ bt os c i = true) ↔ ∃ o ∈ os, agr c o = true := by
  constructor
  · rintro ⟨i, hi, h⟩
    unfold bt at h
    rw [List.getElem?_eq_getElem hi] at h
    exact ⟨_, List.getElem_mem hi, h⟩
  · rintro ⟨o, ho, h⟩
    obtain ⟨i, hi, rfl⟩ := List.mem_iff_getElem.mp ho
    refine ⟨i, hi, ?_⟩
    unfold bt
    rw [List.getElem?_eq_getElem hi]
    exact h
theorem bt_snoc (os : List Row) (c : Case) (n : Tx) (b : Bool) {i : Nat} (hi : i < os.length) : bt os (c ++ [(n, b)]) i = (bt os c i && (lit os n i == b)) := by
  unfold bt lit
  rw [List.getElem?_eq_getElem hi]
  show agr _ _ = _
  rw [agr_app, agr_one]
def ext (os : List Row) (n : Tx) (c : Case) : List Case := [c ++ [(n, true)], c ++ [(n, false)]].filter fun d => os.any fun o => agr d o
def ags (os : List Row) : List Tx → List Case
  | [] => [[]]
  | n :: ns => ags os ns ++ (ags os ns).flatMap (ext os n)
theorem mem_ext {os : List Row} {n : Tx} {c d : Case} : d ∈ ext os n c ↔ (∃ b, d = c ++ [(n, b)]) ∧ ∃ o ∈ os, agr d o = true := by
  unfold ext
  rw [List.mem_filter, List.any_eq_true]
  refine and_congr_left fun _ => ?_
  constructor
  · intro h
    rcases List.mem_cons.mp h with h | h
    · exact ⟨true, h⟩
    · exact ⟨false, List.mem_singleton.mp h⟩
  · rintro ⟨b, rfl⟩
    cases b
    · exact List.mem_cons_of_mem _ (List.mem_cons_self ..)
    · exact List.mem_cons_self ..
theorem mem_ags {os : List Row} (ho : os ≠ []) : ∀ {ns : List Tx} {c : Case}, c ∈ ags os ns ↔ (c.map (·.1)).Sublist ns.reverse ∧ ∃ o ∈ os, agr c o = true
  | [], c => by
    show c ∈ [[]] ↔ _
    rw [List.mem_singleton, List.reverse_nil, List.sublist_nil]
    constructor
    · rintro rfl
      obtain ⟨o, os, rfl⟩ := List.exists_cons_of_ne_nil ho
      exact ⟨rfl, o, List.mem_cons_self .., rfl⟩
    · rintro ⟨h, _⟩
      exact List.map_eq_nil_iff.mp h
  | n :: ns, c => by
    show c ∈ ags os ns ++ (ags os ns).flatMap (ext os n) ↔ _
    rw [List.mem_append, List.mem_flatMap, List.reverse_cons]
    constructor
    · rintro (h | ⟨d, hd, h⟩)
      · obtain ⟨h1, h2⟩ := (mem_ags ho).mp h
        exact ⟨h1.trans (List.sublist_append_left _ _), h2⟩
      · obtain ⟨⟨b, rfl⟩, h2⟩ := mem_ext.mp h
        obtain ⟨h1, _⟩ := (mem_ags ho).mp hd
        refine ⟨?_, h2⟩
        rw [List.map_append]
        exact h1.append_right _
    · rintro ⟨h1, h2⟩
      obtain ⟨l1, l2, e, s1, s2⟩ := List.sublist_append_iff.mp h1
      cases s2 with
      | cons _ s3 =>
        rw [List.sublist_nil] at s3
        subst s3
        rw [List.append_nil] at e
        exact .inl ((mem_ags ho).mpr ⟨by rw [e]; exact s1, h2⟩)
      | cons_cons _ s3 =>
        rw [List.sublist_nil] at s3
        subst s3
        obtain ⟨c1, c2, rfl, e1, e2⟩ := List.map_eq_append_iff.mp e
        obtain ⟨p, rfl⟩ : ∃ p, c2 = [p] := by
          match c2, e2 with
          | [p], _ => exact ⟨p, rfl⟩
        obtain ⟨m, b⟩ := p
        have e2 : m = n := by simpa using e2
        subst e2
        refine .inr ⟨c1, (mem_ags ho).mpr ⟨by rw [e1]; exact s1, ?_⟩, mem_ext.mpr ⟨⟨b, rfl⟩, h2⟩⟩
        obtain ⟨o, h3, h4⟩ := h2
        exact ⟨o, h3, agr_sub (fun p hp => List.mem_append_left _ hp) h4⟩
theorem ags_nd {os : List Row} : ∀ {ns : List Tx}, ns.Nodup → os ≠ [] → (ags os ns).Nodup
  | [], _, _ => by show ([[]] : List Case).Nodup; simp
  | n :: ns, nd, ho => by
    have nd2 := List.nodup_cons.mp nd
    have ih := ags_nd nd2.2 ho
    show (ags os ns ++ (ags os ns).flatMap (ext os n)).Nodup
    refine List.nodup_append.mpr ⟨ih, ?_, ?_⟩
    · refine List.pairwise_flatMap.mpr ⟨fun c _ => ?_, ?_⟩
      · unfold ext
        refine List.Pairwise.filter _ ?_
        refine List.nodup_cons.mpr ⟨fun h => ?_, by simp⟩
        have := List.append_cancel_left (List.mem_singleton.mp h)
        simp at this
      · refine List.Pairwise.imp (fun {a b} hab d ha e hb => ?_) ih
        rintro rfl
        obtain ⟨⟨b1, rfl⟩, _⟩ := mem_ext.mp ha
        obtain ⟨⟨b2, e⟩, _⟩ := mem_ext.mp hb
        exact hab (List.append_inj_left' e rfl)
    · rintro a ha b hb rfl
      obtain ⟨d, _, h⟩ := List.mem_flatMap.mp hb
      obtain ⟨⟨b1, rfl⟩, _⟩ := mem_ext.mp h
      have h1 := ((mem_ags ho).mp ha).1
      have : n ∈ ns.reverse := h1.subset (by simp)
      exact nd2.1 (List.mem_reverse.mp this)
theorem flat_len {α β : Type} {f : α → List β} {k : Nat} : ∀ {l : List α}, (∀ x ∈ l, (f x).length ≤ k) → (l.flatMap f).length ≤ k * l.length
  | [], _ => by simp
  | x :: l, h => by
    rw [List.flatMap_cons, List.length_append, List.length_cons, Nat.mul_succ]
    have h1 := h x (List.mem_cons_self ..)
    have h2 := flat_len (l := l) fun y hy => h y (List.mem_cons_of_mem _ hy)
    omega
theorem ext_len (os : List Row) (n : Tx) (c : Case) : (ext os n c).length ≤ 2 := List.length_filter_le _ _
theorem ags_len (os : List Row) : ∀ ns : List Tx, (ags os ns).length ≤ 3 ^ ns.length
  | [] => by show 1 ≤ 1; omega
  | n :: ns => by
    have ih := ags_len os ns
    have := flat_len (f := ext os n) (k := 2) (l := ags os ns) fun c _ => ext_len os n c
    show (ags os ns ++ (ags os ns).flatMap (ext os n)).length ≤ 3 ^ (ns.length + 1)
    rw [List.length_append, Nat.pow_succ]
    omega
def impl (os ch : List Row) (ns : List Tx) : List Case := (ags os ns).filter fun c => os.all fun o => !agr c o || decide (o ∈ ch)
def minl (os ch : List Row) (ns : List Tx) : List Case := (impl os ch ns).filter fun c => (List.range c.length).all fun i => !decide (c.eraseIdx i ∈ impl os ch ns)
theorem mem_impl {os ch : List Row} {ns : List Tx} (ho : os ≠ []) {c : Case} : c ∈ impl os ch ns ↔ ((c.map (·.1)).Sublist ns.reverse ∧ ∃ o ∈ os, agr c o = true) ∧ ∀ o ∈ os, agr c o = true → o ∈ ch := by
  unfold impl
  rw [List.mem_filter, mem_ags ho, List.all_eq_true]
  refine and_congr_right fun _ => forall_congr' fun o => forall_congr' fun _ => ?_
  cases agr c o <;> simp
theorem mem_minl {os ch : List Row} {ns : List Tx} {c : Case} : c ∈ minl os ch ns ↔ c ∈ impl os ch ns ∧ ∀ i, i < c.length → c.eraseIdx i ∉ impl os ch ns := by
  unfold minl
  rw [List.mem_filter, List.all_eq_true]
  simp
theorem min_below {os ch : List Row} {ns : List Tx} (ho : os ≠ []) {o : Row} (hoo : o ∈ os) : ∀ (k : Nat) (c : Case), c.length ≤ k → c ∈ impl os ch ns → agr c o = true → ∃ d ∈ minl os ch ns, agr d o = true
  | 0, c, hk, hc, ha => by
    have : c = [] := List.length_eq_zero_iff.mp (Nat.le_zero.mp hk)
    subst this
    exact ⟨[], mem_minl.mpr ⟨hc, fun i hi => absurd hi (Nat.not_lt_zero _)⟩, ha⟩
  | k + 1, c, hk, hc, ha => by
    by_cases h : ∀ i, i < c.length → c.eraseIdx i ∉ impl os ch ns
    · exact ⟨c, mem_minl.mpr ⟨hc, h⟩, ha⟩
    · obtain ⟨i, hi⟩ := Classical.not_forall.mp h
      obtain ⟨hi, h2⟩ := Classical.not_imp.mp hi
      have h2 := Classical.not_not.mp h2
      exact min_below ho hoo k (c.eraseIdx i) (by rw [List.length_eraseIdx_of_lt hi]; omega) h2 (agr_sub (fun p hp => (List.eraseIdx_sublist c i).subset hp) ha)
def full (ns : List Tx) (o : Row) : Case := ns.map fun n => (n, decide (n ∈ o))
theorem agr_full {ns : List Tx} {o q : Row} : agr (full ns o) q = true ↔ ∀ n ∈ ns, n ∈ q ↔ n ∈ o := by
  rw [agr_iff]
  unfold full
  constructor
  · intro h n hn
    have := h (n, decide (n ∈ o)) (List.mem_map.mpr ⟨n, hn, rfl⟩)
    simpa using this
  · intro h p hp
    obtain ⟨n, hn, rfl⟩ := List.mem_map.mp hp
    simpa using h n hn
theorem row_eq {ss : List Tx} (nd : ss.Nodup) {r q : Row} (hr : r.Sublist ss) (hq : q.Sublist ss) (h : ∀ n ∈ ss, n ∈ q ↔ n ∈ r) : q = r := by
  rw [← sub_filter nd hr, ← sub_filter nd hq]
  exact List.filter_congr fun n hn => decide_eq_decide.mpr (h n hn)
theorem min_exact {os ch : List Row} {ns : List Tx} (ho : os ≠ []) (nd : ns.Nodup) (hs : ∀ o ∈ os, o.Sublist ns.reverse) (hc : ∀ o ∈ ch, o ∈ os) {o : Row} (hoo : o ∈ os) : (∃ c ∈ minl os ch ns, agr c o = true) ↔ o ∈ ch := by
  constructor
  · rintro ⟨c, hm, ha⟩
    exact ((mem_impl ho).mp (mem_minl.mp hm).1).2 o hoo ha
  · intro h
    have hi : full ns.reverse o ∈ impl os ch ns := by
      refine (mem_impl ho).mpr ⟨⟨?_, o, hoo, agr_full.mpr fun n _ => Iff.rfl⟩, fun q hq ha => ?_⟩
      · have : (full ns.reverse o).map (·.1) = ns.reverse := by
          unfold full
          rw [List.map_map]
          exact List.map_id _
        rw [this]
        exact List.Sublist.refl _
      · rw [row_eq (ss := ns.reverse) ((List.reverse_perm ns).nodup_iff.mpr nd) (hs o hoo) (hs q hq) (agr_full.mp ha)]
        exact h
    exact min_below ho hoo _ _ (Nat.le_refl _) hi (agr_full.mpr fun n _ => Iff.rfl)
theorem min_lets {os ch : List Row} {ns : List Tx} (ho : os ≠ []) {c : Case} (hm : c ∈ minl os ch ns) {i : Nat} (hi : i < c.length) : ∃ o ∈ os, agr (c.eraseIdx i) o = true ∧ o ∉ ch := by
  obtain ⟨h1, h2⟩ := mem_minl.mp hm
  obtain ⟨⟨h3, o, ho2, ha⟩, _⟩ := (mem_impl ho).mp h1
  have h4 := h2 i hi
  have hs := List.eraseIdx_sublist c i
  have hx : ¬ ∀ o ∈ os, agr (c.eraseIdx i) o = true → o ∈ ch := fun z => h4 ((mem_impl ho).mpr ⟨⟨(hs.map _).trans h3, o, ho2, agr_sub (fun p hp => hs.subset hp) ha⟩, z⟩)
  obtain ⟨q, hq⟩ := Classical.not_forall.mp hx
  obtain ⟨hq1, hq2⟩ := Classical.not_imp.mp hq
  obtain ⟨hq2, hq3⟩ := Classical.not_imp.mp hq2
  exact ⟨q, hq1, hq2, hq3⟩
structure Kept (os : List Row) (M K done : List Case) : Prop where
  sub : K.Sublist M
  cov : ∀ o ∈ os, (∃ c ∈ M, agr c o = true) → ∃ c ∈ K, agr c o = true
  need : ∀ c ∈ done, c ∈ K → ∃ o ∈ os, agr c o = true ∧ ∀ d ∈ K, d ≠ c → agr d o = false
def rest (K : List Case) (c : Case) : List Case := K.filter fun d => !decide (d = c)
theorem mem_rest {K : List Case} {c d : Case} : d ∈ rest K c ↔ d ∈ K ∧ d ≠ c := by
  unfold rest
  rw [List.mem_filter]
  simp
theorem Kept.init (os : List Row) (M : List Case) : Kept os M M [] := ⟨List.Sublist.refl _, fun _ _ h => h, fun c h => nomatch h⟩
theorem Kept.drop {os : List Row} {M K done : List Case} (k : Kept os M K done) {c : Case} (h : ∀ o ∈ os, agr c o = true → ∃ d ∈ rest K c, agr d o = true) : Kept os M (rest K c) (done ++ [c]) := by
  refine ⟨List.filter_sublist.trans k.sub, fun o ho hm => ?_, fun d hd hk => ?_⟩
  · obtain ⟨e, he, ha⟩ := k.cov o ho hm
    by_cases q : e = c
    · subst q
      exact h o ho ha
    · exact ⟨e, mem_rest.mpr ⟨he, q⟩, ha⟩
  · rcases List.mem_append.mp hd with hd | hd
    · obtain ⟨o, h1, h2, h3⟩ := k.need d hd (mem_rest.mp hk).1
      exact ⟨o, h1, h2, fun e he => h3 e (mem_rest.mp he).1⟩
    · exact absurd (List.mem_singleton.mp hd) (mem_rest.mp hk).2
theorem Kept.keep {os : List Row} {M K done : List Case} (k : Kept os M K done) {c : Case} (h : ∃ o ∈ os, agr c o = true ∧ ∀ d ∈ rest K c, agr d o = false) : Kept os M K (done ++ [c]) := by
  refine ⟨k.sub, k.cov, fun d hd hk => ?_⟩
  rcases List.mem_append.mp hd with hd | hd
  · exact k.need d hd hk
  · rw [List.mem_singleton.mp hd]
    obtain ⟨o, h1, h2, h3⟩ := h
    exact ⟨o, h1, h2, fun e he ne => h3 e (mem_rest.mpr ⟨he, ne⟩)⟩
def caseK (c : Case) : NestedKey := .tup (c.map fun p => .tup [.text p.1, .num (if p.2 = true then 1 else 0)])
theorem nkL_map {α : Type} {f : α → D} {g : α → NestedKey} : ∀ (l : List α), (∀ x ∈ l, (f x).nk = some (g x)) → nkL (l.map f) = some (l.map g)
  | [], _ => rfl
  | x :: l, h => by
    show (match (f x).nk, nkL (l.map f) with | some k, some ks => some (k :: ks) | _, _ => none) = _
    rw [h x (List.mem_cons_self ..), nkL_map l fun y hy => h y (List.mem_cons_of_mem _ hy)]
    rfl
theorem caseD_nk (c : Case) : (caseD c).nk = some (caseK c) := by
  show (nkL (c.map pairD)).map NestedKey.tup = _
  rw [nkL_map (g := fun p => .tup [.text p.1, .num (if p.2 = true then 1 else 0)]) c fun p _ => rfl]
  rfl
theorem depthAll_le {k : Nat} : ∀ {l : List NestedKey}, (∀ x ∈ l, x.depth ≤ k) → NestedKey.depthAll l ≤ k
  | [], _ => by show 0 ≤ k; omega
  | x :: l, h => by
    show max x.depth (NestedKey.depthAll l) ≤ k
    have := depthAll_le (l := l) fun y hy => h y (List.mem_cons_of_mem _ hy)
    have := h x (List.mem_cons_self ..)
    omega
theorem caseD_key (c : Case) : nkey (caseD c) (caseK c) := by
  refine ⟨caseD_nk c, ?_, rfl⟩
  show NestedKey.depthAll _ + 1 ≤ 8
  have := depthAll_le (k := 2) (l := c.map fun p => NestedKey.tup [.text p.1, .num (if p.2 = true then 1 else 0)]) fun x hx => by
    obtain ⟨p, _, rfl⟩ := List.mem_map.mp hx
    simp [NestedKey.depth, NestedKey.depthAll]
  omega
theorem caseD_inj {c d : Case} (h : (caseD c).nk = (caseD d).nk) : c = d := by
  rw [caseD_nk, caseD_nk] at h
  have h := NestedKey.tup.inj (Option.some.inj h)
  refine (List.map_inj_right (fun x y e => ?_)).mp h
  rcases x with ⟨n, a⟩
  rcases y with ⟨m, b⟩
  have e := NestedKey.tup.inj e
  simp only [List.cons.injEq, NestedKey.text.injEq, NestedKey.num.injEq, and_true] at e
  obtain ⟨rfl, e2⟩ := e
  cases a <;> cases b <;> first | rfl | simp at e2
end Va
set_option Elab.async false
set_option linter.all false
set_option maxRecDepth 100000
set_option maxHeartbeats 4000000
namespace Va
open PySem PySem.Spec PyProof.Rows L2 Ind
theorem lookK_none {es : List (D × D)} {d : D} (h : ∀ p ∈ es, p.1.nk ≠ d.nk) : lookK es d = none := by
  unfold lookK
  rw [List.find?_eq_none.mpr fun p hp => by simpa using h p hp]
  rfl
theorem putK_new {es : List (D × D)} {d e : D} (h : ∀ p ∈ es, p.1.nk ≠ d.nk) : putK es d e = es ++ [(d, e)] := by
  unfold putK
  rw [if_neg]
  intro z
  obtain ⟨p, hp, q⟩ := List.any_eq_true.mp z
  exact h p hp (of_decide_eq_true q)
theorem lookK_mem : ∀ {es : List (D × D)} {d e : D}, (es.map fun p => p.1.nk).Nodup → (d, e) ∈ es → lookK es d = some e
  | [], _, _, _, h => nomatch h
  | p :: es, d, e, nd, h => by
    have nd := List.nodup_cons.mp nd
    unfold lookK
    by_cases c : p.1.nk = d.nk
    · rw [List.find?_cons_of_pos (by simpa using c)]
      rcases List.mem_cons.mp h with rfl | h
      · rfl
      · exact absurd (List.mem_map.mpr ⟨(d, e), h, c.symm⟩) nd.1
    · rw [List.find?_cons_of_neg (by simpa using c)]
      rcases List.mem_cons.mp h with rfl | h
      · exact absurd rfl c
      · exact lookK_mem nd.2 h
def ents (os : List Row) (L : List Case) : List (D × D) := L.map fun c => (caseD c, .int (num (bt os c) os.length))
theorem ents_app (os : List Row) (L M : List Case) : ents os (L ++ M) = ents os L ++ ents os M := List.map_append
theorem ents_nk (os : List Row) {L : List Case} (nd : L.Nodup) : ((ents os L).map fun p => p.1.nk).Nodup := by
  unfold ents
  rw [List.map_map]
  exact List.Pairwise.map _ (fun a b h e => h (caseD_inj e)) nd
theorem ents_mem {os : List Row} {L : List Case} {c : Case} (nd : L.Nodup) (h : c ∈ L) : lookK (ents os L) (caseD c) = some (.int (num (bt os c) os.length)) :=
  lookK_mem (ents_nk os nd) (List.mem_map.mpr ⟨c, h, rfl⟩)
theorem ents_not {os : List Row} {L : List Case} {c : Case} (h : c ∉ L) : ∀ p ∈ ents os L, p.1.nk ≠ (caseD c).nk := fun p hp e => by
  obtain ⟨d, hd, rfl⟩ := List.mem_map.mp hp
  exact h (caseD_inj e ▸ hd)
theorem ents_put {os : List Row} {L : List Case} {c : Case} (h : c ∉ L) : putK (ents os L) (caseD c) (.int (num (bt os c) os.length)) = ents os (L ++ [c]) := by
  rw [putK_new (ents_not h), ents_app]
  rfl
theorem ents_has {os : List Row} {L : List Case} {c : Case} (nd : L.Nodup) : (lookK (ents os L) (caseD c)).isSome = decide (c ∈ L) := by
  by_cases h : c ∈ L
  · rw [ents_mem nd h, decide_eq_true h]; rfl
  · rw [lookK_none (ents_not h), decide_eq_false h]; rfl
theorem ents_len (os : List Row) (L : List Case) : (ents os L).length = L.length := List.length_map _
theorem caseD_app (c d : Case) : caseD (c ++ d) = .tup (c.map pairD ++ d.map pairD) := by unfold caseD; rw [List.map_append]
def rowK2 (r : Row) : NestedKey := .tup (r.map .text)
theorem strD_key (r : Row) : nkey (strD r) (rowK2 r) := by
  refine ⟨?_, ?_, rfl⟩
  · show (nkL (r.map D.str)).map NestedKey.tup = _
    rw [nkL_map (g := NestedKey.text) r fun p _ => rfl]
    rfl
  · show NestedKey.depthAll _ + 1 ≤ 8
    have := depthAll_le (k := 2) (l := r.map NestedKey.text) fun x hx => by
      obtain ⟨p, _, rfl⟩ := List.mem_map.mp hx
      simp [NestedKey.depth]
    omega
theorem strD_inj {r q : Row} (h : (strD r).nk = (strD q).nk) : r = q := by
  rw [(strD_key r).nk, (strD_key q).nk] at h
  exact (List.map_inj_right fun x y e => NestedKey.text.inj e).mp (NestedKey.tup.inj (Option.some.inj h))
def digs (os : List Row) (k : Nat) : List (D × D) := (os.take k).zipIdx.map fun p => (strD p.1, .int ((2 ^ p.2 : Nat) : Int))
theorem digs_succ {os : List Row} {k : Nat} {o : Row} (h : os[k]? = some o) : digs os (k + 1) = digs os k ++ [(strD o, .int ((2 ^ k : Nat) : Int))] := by
  have hk := (List.getElem?_eq_some_iff.mp h).1
  unfold digs
  rw [take_more h, List.zipIdx_append, List.map_append, List.length_take, Nat.min_eq_left (Nat.le_of_lt hk)]
  simp
theorem digs_len {os : List Row} {k : Nat} (h : k ≤ os.length) : (digs os k).length = k := by
  unfold digs
  rw [List.length_map, List.length_zipIdx, List.length_take, Nat.min_eq_left h]
theorem digs_get {os : List Row} {i : Nat} {o : Row} (h : os[i]? = some o) : (digs os os.length)[i]? = some (strD o, .int ((2 ^ i : Nat) : Int)) := by
  unfold digs
  rw [List.take_length, List.getElem?_map, List.getElem?_zipIdx, h]
  simp
theorem digs_keys (os : List Row) (k : Nat) : (digs os k).map (fun p => p.1.nk) = (os.take k).map fun o => (strD o).nk := by
  unfold digs
  rw [List.map_map]
  have : ∀ (l : List Row) (n : Nat), (l.zipIdx n).map ((fun p : D × D => p.1.nk) ∘ fun p : Row × Nat => (strD p.1, D.int ((2 ^ p.2 : Nat) : Int))) = l.map fun o => (strD o).nk := by
    intro l
    induction l with
    | nil => intro n; rfl
    | cons x l ih => intro n; rw [List.zipIdx_cons, List.map_cons, ih]; rfl
  exact this _ _
theorem digs_nk {os : List Row} (nd : os.Nodup) : ((digs os os.length).map fun p => p.1.nk).Nodup := by
  rw [digs_keys, List.take_length]
  exact List.Pairwise.map _ (fun a b h e => h (strD_inj e)) nd
theorem digs_look {os : List Row} (nd : os.Nodup) {i : Nat} {o : Row} (h : os[i]? = some o) : lookK (digs os os.length) (strD o) = some (.int ((2 ^ i : Nat) : Int)) :=
  lookK_mem (digs_nk nd) (List.mem_of_getElem? (digs_get h))
theorem digs_put {os : List Row} (nd : os.Nodup) {k : Nat} {o : Row} (h : os[k]? = some o) : putK (digs os k) (strD o) (.int ((2 ^ k : Nat) : Int)) = digs os (k + 1) := by
  rw [digs_succ h]
  refine putK_new fun p hp e => ?_
  have : (strD o).nk ∈ (digs os k).map fun p => p.1.nk := by rw [← e]; exact List.mem_map.mpr ⟨p, hp, rfl⟩
  rw [digs_keys] at this
  obtain ⟨q, hq, e2⟩ := List.mem_map.mp this
  rw [strD_inj e2] at hq
  obtain ⟨j, hj, e3⟩ := List.mem_iff_getElem.mp hq
  rw [List.length_take] at hj
  have hk := (List.getElem?_eq_some_iff.mp h)
  rw [List.getElem_take] at e3
  exact (List.pairwise_iff_getElem.mp nd j k (by omega) hk.1 (by omega)) (e3.trans hk.2.symm)
def places (q : Nat → Bool) (k : Nat) : List Nat := ((List.range k).filter q).map fun i => 2 ^ i
theorem places_sum (q : Nat → Bool) : ∀ k, (places q k).sum = num q k
  | 0 => rfl
  | k + 1 => by
    unfold places
    rw [List.range_succ, List.filter_append, List.map_append, List.sum_append]
    have ih := places_sum q k
    unfold places at ih
    rw [ih]
    show num q k + _ = num q k + _
    cases h : q k with
    | true => rw [List.filter_cons_of_pos h]; simp
    | false => rw [List.filter_cons_of_neg (by rw [h]; simp)]; simp
theorem places_succ (q : Nat → Bool) (k : Nat) : places q (k + 1) = if q k = true then places q k ++ [2 ^ k] else places q k := by
  unfold places
  rw [List.range_succ, List.filter_append, List.map_append]
  cases h : q k with
  | true => rw [List.filter_cons_of_pos h]; simp
  | false => rw [List.filter_cons_of_neg (by rw [h]; simp)]; simp
end Va
namespace Va
open PySem PySem.Spec PyProof.Rows L2 Ind
theorem int_sum : ∀ l : List Nat, (l.map fun x : Nat => (x : Int)).sum = ((l.sum : Nat) : Int)
  | [] => rfl
  | x :: l => by rw [List.map_cons, List.sum_cons, List.sum_cons, int_sum l]; omega
theorem places_int (q : Nat → Bool) (k : Nat) : (((places q k).map fun x : Nat => (x : Int))).sum = (num q k : Int) := by rw [int_sum, places_sum]
def plD (q : Nat → Bool) (k : Nat) : List D := (places q k).map fun x : Nat => D.int (x : Int)
theorem plD_map (q : Nat → Bool) (k : Nat) : plD q k = ((places q k).map fun x : Nat => (x : Int)).map D.int := by unfold plD; rw [List.map_map]; rfl
theorem plD_T {q : Nat → Bool} {k : Nat} (h : q k = true) : plD q (k + 1) = plD q k ++ [.int ((2 ^ k : Nat) : Int)] := by unfold plD; rw [places_succ, if_pos h, List.map_append]; rfl
theorem plD_F {q : Nat → Bool} {k : Nat} (h : q k = false) : plD q (k + 1) = plD q k := by unfold plD; rw [places_succ, if_neg (by rw [h]; simp)]
theorem digs_vals (os : List Row) : ∀ k, k ≤ os.length → (digs os k).map (fun p => p.2) = plD (fun _ => true) k
  | 0, _ => rfl
  | k + 1, h => by
    rw [digs_succ (List.getElem?_eq_getElem (by omega)), List.map_append, digs_vals os k (by omega), plD_T rfl]
    rfl
theorem ents_zero (os : List Row) : [(D.tup [], D.int (num (fun _ => true) os.length : Int))] = ents os (ags os []) := by
  show _ = [(caseD [], D.int (num (bt os []) os.length : Int))]
  rw [show num (bt os []) os.length = num (fun _ => true) os.length from num_congr fun i hi => by unfold bt; rw [List.getElem?_eq_getElem hi]; rfl]
  rfl
theorem rev_take {ns : List Tx} {i : Nat} {n : Tx} (h : ns[i]? = some n) : (ns.take (i + 1)).reverse = n :: (ns.take i).reverse := by rw [take_more h, List.reverse_append]; rfl
theorem ags_step (os : List Row) (n : Tx) (ms : List Tx) : ags os (n :: ms) = ags os ms ++ (ags os ms).flatMap (ext os n) := rfl
theorem flat_more {α β : Type} {f : α → List β} {l : List α} {j : Nat} {x : α} (h : l[j]? = some x) : (l.take (j + 1)).flatMap f = (l.take j).flatMap f ++ f x := by rw [take_more h, List.flatMap_append]; simp
theorem bit_ex {os : List Row} {c : Case} {n : Tx} {b : Bool} : ((num (fun i => bt os c i && (lit os n i == b)) os.length : Int) != 0) = os.any fun o => agr (c ++ [(n, b)]) o := by
  rw [Bool.eq_iff_iff, List.any_eq_true, ← bt_iff]
  constructor
  · intro h
    apply Classical.byContradiction
    intro z
    have : num (fun i => bt os c i && (lit os n i == b)) os.length = 0 := num_zero.mpr fun i hi => by
      cases e : (bt os c i && (lit os n i == b)) with
      | false => rfl
      | true => exact absurd ⟨i, hi, by rw [bt_snoc os c n b hi]; exact e⟩ z
    rw [this] at h
    simp at h
  · rintro ⟨i, hi, h⟩
    rw [bt_snoc os c n b hi] at h
    have : num (fun i => bt os c i && (lit os n i == b)) os.length ≠ 0 := fun z => by
      have := num_zero.mp z i hi
      rw [h] at this
      cases this
    simp only [bne_iff_ne, ne_eq]
    omega
theorem num_snoc (os : List Row) (c : Case) (n : Tx) (b : Bool) : num (fun i => bt os c i && (lit os n i == b)) os.length = num (bt os (c ++ [(n, b)])) os.length := num_congr fun i hi => (bt_snoc os c n b hi).symm
theorem andT (os : List Row) (c : Case) (n : Tx) : Builtin.bitAnd (num (bt os c) os.length : Int) (num (lit os n) os.length : Int) = (num (fun i => bt os c i && (lit os n i == true)) os.length : Int) := by
  rw [bAnd]
  congr 2
  funext i
  cases lit os n i <;> simp
theorem andF (os : List Row) (c : Case) (n : Tx) : Builtin.bitAnd (num (bt os c) os.length : Int) ((num (fun _ => true) os.length : Int) - (num (lit os n) os.length : Int)) = (num (fun i => bt os c i && (lit os n i == false)) os.length : Int) := by
  rw [num_rest, bAnd]
  congr 2
  funext i
  cases lit os n i <;> simp
end Va
namespace Va
open PySem PySem.Spec PyProof.Rows L2 Ind
theorem new_case {os : List Row} {ms : List Tx} {n : Tx} (ho : os ≠ []) (nd : (n :: ms).Nodup) {j : Nat} {cc : Case} (ec : (ags os ms)[j]? = some cc) (b : Bool) : cc ++ [(n, b)] ∉ ags os ms ++ ((ags os ms).take j).flatMap (ext os n) := by
  have nd2 := List.nodup_cons.mp nd
  intro h
  rcases List.mem_append.mp h with h | h
  · have h1 := ((mem_ags ho).mp h).1
    have : n ∈ ms.reverse := h1.subset (by simp)
    exact nd2.1 (List.mem_reverse.mp this)
  · obtain ⟨d, hd, h⟩ := List.mem_flatMap.mp h
    obtain ⟨⟨b2, e⟩, _⟩ := mem_ext.mp h
    have e := List.append_inj_left' e rfl
    subst e
    obtain ⟨i, hi, e3⟩ := List.mem_iff_getElem.mp hd
    rw [List.length_take] at hi
    rw [List.getElem_take] at e3
    have hk := List.getElem?_eq_some_iff.mp ec
    exact (List.pairwise_iff_getElem.mp (ags_nd nd2.2 ho) i j (by omega) hk.1 (by omega)) (e3.trans hk.2.symm)
theorem case_len {os : List Row} {ms : List Tx} (ho : os ≠ []) {c : Case} (h : c ∈ ags os ms) : c.length ≤ ms.length := by
  have := ((mem_ags ho).mp h).1.length_le
  rwa [List.length_map, List.length_reverse] at this
theorem caseD_snoc (c : Case) (n : Tx) (b : Bool) : D.tup (c.map pairD ++ [.tup [.str n, .bl b]]) = caseD (c ++ [(n, b)]) := (caseD_app c [(n, b)]).symm
end Va
set_option Elab.async false
set_option linter.all false
set_option maxRecDepth 100000
set_option maxHeartbeats 4000000
namespace Va
open PySem PySem.Spec PyProof.Rows L2 Ind
local macro_rules | `(tactic| walk_at "cn") => `(tactic| first
  | assumption
  | omega
  | exact dm (by omega)
  | exact line (by simp)
  | exact line (by omega)
  | exact line (by simp only [len_app, len_one]; omega)
  | exact small_div (by omega) (by omega)
  | solve_by_elim
  | exact Or.inr ⟨by omega, by omega⟩
  | exact Or.inl ⟨by omega, by omega⟩
  | exact ⟨by omega, by omega⟩
  | decide)
local macro_rules | `(tactic| walk_at "st") => `(tactic| repeat (first
  | refine ⟨_, rfl, ?_⟩
  | refine ⟨_, _, rfl, rfl, ?_⟩
  | refine ⟨_, _, rfl, ?_⟩
  | refine .inl ⟨_, rfl, ?_⟩
  | refine And.intro rfl ?_
  | refine And.intro (by walk_at "cn") ?_))
local macro_rules | `(tactic| walk_at "fz") => `(tactic| repeat (first | exact Fz.refl | apply Fz.upd))
local macro_rules | `(tactic| walk_at "hl") => `(tactic| ((repeat rw [upd_ne (by assumption)]); assumption))
local macro_rules | `(tactic| walk_at "fy") => `(tactic| (intro b o n1 h; (repeat rw [upd_ne n1]); exact h))
local macro_rules | `(tactic| walk_at "wh") => `(tactic| (conv => whnf))
local macro_rules | `(tactic| walk_at "cv") => `(tactic| first
  | rfl
  | assumption
  | omega
  | exact dm (by omega)
  | exact small_div (by omega) (by omega)
  | (simp only [len_app, one_len, len_one, List.length_append, List.length_map, List.length_cons, List.length_nil]; omega)
  | exact Or.inr ⟨by omega, by omega⟩
  | exact Or.inl ⟨by omega, by omega⟩
  | exact ⟨by omega, by omega⟩
  | decide)
local macro_rules | `(tactic| walk_at "vv") => `(tactic| repeat (refine And.intro (by walk_at "cv") ?_))
local macro_rules | `(tactic| walk_at "sk") => `(tactic| repeat (first
  | refine wayT ?_
  | refine wayF ?_
  | refine skipT (by omega) ?_
  | refine skipF (by omega) ?_
  | refine skipT (by decide) ?_
  | refine skipF (by decide) ?_
  | refine ⟨_, (show tyNames _ = some _ from rfl), ?_⟩
  | refine And.intro (by walk_at "cv") ?_))
local macro_rules | `(tactic| walk_at "s0") => `(tactic| first
  | refine wayT ?_
  | refine wayF ?_
  | refine skipT (by omega) ?_
  | refine skipF (by omega) ?_
  | refine skipT (by decide) ?_
  | refine skipF (by decide) ?_
  | refine ⟨_, (show tyNames _ = some _ from rfl), ?_⟩
  | refine And.intro (by walk_at "cv") ?_)
local macro_rules | `(tactic| walk_at "s1") => `(tactic| try (walk_at "s0"; walk_at "wh"))
local macro_rules | `(tactic| walk_at "go") => `(tactic| (walk_at "wh"; repeat (walk_at "s0"; walk_at "wh")))
def mAgreeing (P : Program) (w : World) : VM := fun ds c Q => ∃ (ns : List Tx) (os : List Row), ds = [.tup (ns.map .str), .ob (NkS P w (digs os os.length))] ∧ ns.Nodup ∧ ns.length ≤ 9 ∧ os.length ≤ 1000 ∧ os ≠ [] ∧ Q (.ob (NkS P w (ents os (ags os ns.reverse)))) c
theorem seqI {s u : VS} {V : Ve} {E : En} (I : En → Prop) (h : ∀ N : En → Prop, (∀ E1, I E1 → N E1) → s { V with nx := N } E) (k : ∀ E1, I E1 → u V E1) : sSeq s u V E := h _ k
def extB (os : List Row) (n : Tx) (c : Case) (b : Bool) : List Case := if (os.any fun o => agr (c ++ [(n, b)]) o) = true then [c ++ [(n, b)]] else []
theorem ext_eq (os : List Row) (n : Tx) (c : Case) : ext os n c = extB os n c true ++ extB os n c false := by
  unfold ext extB
  rw [List.filter_cons, List.filter_cons, List.filter_nil]
  split <;> split <;> rfl
section
variable {P : Program} {w : World} {K : PySem.W.Frag} {mg : PySem.Str → Option Value} {base : Heap}
theorem ok__agreeing_outcomes (T : Txt P K mg) : FnOk P w K mg base CX0 1 T.a__agreeing_outcomes T.d__agreeing_outcomes ["undecided", "digits"] (spV (Sx T) (mAgreeing P w)) := by
  refine def_v (S := Sx T) (N := N__agreeing_outcomes) T.F__agreeing_outcomes sc__agreeing_outcomes rfl (fun ds c Q h => by obtain ⟨ns, os, rfl, _⟩ := h; first | rfl | assumption) (fun cdv A outer s H E hr => (vss_cons (vs_set (i := 2) sc__agreeing_outcomes.nd rfl (.inl rfl) (pe_CB1 (c_sum rfl rfl) (fun hc ha => pe_callB hc (by rfl) T.z_sum boot_sum ha) (be_of (ve_of (fe_listValN (P := P) (w := w) rfl rfl rfl rfl (by rfl) T.z_list (pv 1))))))
      (vss_cons (vs_setN1 (P := P) (w := w) (i := 3) rfl rfl rfl sc__agreeing_outcomes.nd rfl (.inl rfl) hr.units (ve_tup va_nil) (ve_name (pv 2)))
      (vss_cons (vs_for PassesOwn.never rfl (vi_any rfl (ve_name (pv 0))) (vg_name (i := 4) [4] (by decide) sc__agreeing_outcomes.nd rfl (.inr rfl))
      (vss_cons (vs_set (i := 5) sc__agreeing_outcomes.nd rfl (.inl rfl) (pe_CB1 (c_sum rfl rfl) (fun hc ha => pe_callB hc (by rfl) T.z_sum boot_sum ha) (be_of (ve_of (fe_fz 4 (fe_lc (own := [("outcome", 8), ("digit", 9)]) rfl sc__agreeing_outcomes.nd (vi_itemsK2 (P := P) (w := w) rfl rfl rfl (pv 1)) (blkOk_by (own := [("outcome", 8), ("digit", 9)]) (N := N__agreeing_outcomes) (sc := defScope s__agreeing_outcomes) (by decide +kernel)) (fun _ _ _ _ _ => (vg_tup 2 rfl rfl (vgs_cons (vg_name (i := 8) [8, 9] (by decide) sc__agreeing_outcomes.nd rfl (.inl rfl)) (vgs_cons (vg_name (i := 9) [8, 9] (by decide) sc__agreeing_outcomes.nd rfl (.inl rfl)) (vgs_nil [8, 9]))) (by rfl) (by rfl))) (fun _ _ _ _ _ => (vts_one (vb_cmp (o_in rfl (hu65 hr)) (ve_name (pv 4)) (be_name (pv 8)) (by rfl)))) (fun _ _ _ _ _ => (ve_name (pv 9)))))))))
      (vss_one (vs_for PassesOwn.never rfl (vi_any rfl (ve_of (fe_listItN (P := P) (w := w) rfl rfl rfl rfl (by rfl) T.z_list (pv 3)))) (vg_tup 2 rfl rfl (vgs_cons (vg_name (i := 6) [6, 7] (by decide) sc__agreeing_outcomes.nd rfl (.inl rfl)) (vgs_cons (vg_name (i := 7) [6, 7] (by decide) sc__agreeing_outcomes.nd rfl (.inl rfl)) (vgs_nil [6, 7]))) (by rfl) (by rfl))
      (vss_cons (vs_if (vb_tru rfl (be_of (ve_of (fe_op o_and (ve_name (pv 7)) (be_name (pv 5)))))) (vss_one (vs_putK (P := P) (w := w) rfl rfl rfl hr.units (pv 3) (ve_of (fe_op (o_add rfl) (ve_name (pv 6)) (be_of (ve_tup (va_cons (ve_tup (va_cons (ve_name (pv 4)) (va_cons ve_bl va_nil))) va_nil))))) (ve_of (fe_op o_and (ve_name (pv 7)) (be_name (pv 5)))))) vss_nil)
      (vss_one (vs_if (vb_tru rfl (be_of (ve_of (fe_op o_and (ve_name (pv 7)) (be_of (ve_of (fe_op o_sub (ve_name (pv 2)) (be_name (pv 5))))))))) (vss_one (vs_putK (P := P) (w := w) rfl rfl rfl hr.units (pv 3) (ve_of (fe_op (o_add rfl) (ve_name (pv 6)) (be_of (ve_tup (va_cons (ve_tup (va_cons (ve_name (pv 4)) (va_cons ve_bl va_nil))) va_nil))))) (ve_of (fe_op o_and (ve_name (pv 7)) (be_of (ve_of (fe_op o_sub (ve_name (pv 2)) (be_name (pv 5))))))))) vss_nil)))))))
      (vss_one (vs_ret (ve_lockN (P := P) (w := w) (pv 3)))))))) ?_
  rintro ds c Q ⟨ns, os, rfl, nd, hn, ho, ne, q⟩
  walk_at "wh"
  refine ⟨digs os os.length, .inl rfl, by rw [digs_len (Nat.le_refl _)]; omega, ?_⟩
  walk_at "wh"
  refine ⟨_, (digs_vals os _ (Nat.le_refl _)).trans (plD_map _ _), ?_⟩
  rw [places_int]
  walk_at "wh"
  refine ⟨by decide, ?_⟩
  walk_at "wh"
  refine ⟨caseK [], caseD_key [], ?_⟩
  walk_at "wh"
  refine ⟨fun i E => Iv (∃ (y4 y5 y6 y7 y8 y9 : SV), E = ⟨[.v (.tup (ns.map .str)), .v (.ob (NkS P w (digs os os.length))), .v (.int (num (fun _ => true) os.length : Int)), .ow none (.ob (NkX P w (ents os (ags os (ns.take i).reverse)))), y4, y5, y6, y7, y8, y9], c⟩), .a ⟨_, _, _, _, _, _, by rw [show (ns.take 0).reverse = [] from rfl, ← ents_zero]; rfl⟩, ?_, ?_⟩
  · intro i d E ed iv
    obtain ⟨y4, y5, y6, y7, y8, y9, rfl⟩ := iv.out
    obtain ⟨n, en, rfl⟩ := map_get ed
    walk_at "wh"
    have hdl := digs_len (os := os) (Nat.le_refl _)
    refine ⟨digs os os.length, rfl, by rw [List.length_map, hdl]; omega, fun i acc k => Iv (acc = plD (lit os n) i ∧ k = c), .a ⟨rfl, rfl⟩, ?_, ?_⟩
    · intro j d acc k ed iv la
      obtain ⟨rfl, rfl⟩ := iv.out
      have hj : j < os.length := by
        have := (List.getElem?_eq_some_iff.mp ed).1
        rw [List.length_map, hdl] at this
        exact this
      rw [List.getElem?_map, digs_get (List.getElem?_eq_getElem hj)] at ed
      cases ed
      refine ⟨rfl, ?_⟩
      walk_at "wh"
      refine ⟨rfl, flat_strsD _, ?_⟩
      rw [in_strsD]
      refine both (fun e => ?_) (fun e => ?_)
      · exact .a ⟨(plD_T (by unfold lit; rw [List.getElem?_eq_getElem hj]; exact e)).symm, rfl⟩
      · exact .a ⟨(plD_F (by unfold lit; rw [List.getElem?_eq_getElem hj]; exact e)).symm, rfl⟩
    · intro acc k iv la
      obtain ⟨rfl, rfl⟩ := iv.out
      rw [List.length_map, hdl]
      walk_at "wh"
      refine ⟨_, plD_map _ _, ?_⟩
      rw [places_int]
      walk_at "wh"
      generalize hms : (ns.take i).reverse = ms
      have hml : ms.length ≤ 9 := by rw [← hms, List.length_reverse, List.length_take]; omega
      have hal : (ags os ms).length ≤ 19683 := Nat.le_trans (ags_len os ms) (Nat.pow_le_pow_right (by omega) hml)
      have ndm : (n :: ms).Nodup := by
        rw [← hms, ← rev_take en]
        exact (List.reverse_perm _).nodup_iff.mpr (nd.sublist (List.take_sublist _ _))
      have hfl : ∀ j, (((ags os ms).take j).flatMap (ext os n)).length ≤ 2 * 19683 := fun j => by
        have h1 := flat_len (f := ext os n) (k := 2) (l := (ags os ms).take j) fun c _ => ext_len os n c
        have h2 := List.length_take_le j (ags os ms)
        have h3 : ((ags os ms).take j).length ≤ (ags os ms).length := by rw [List.length_take]; omega
        omega
      refine ⟨ents os (ags os ms), .inr ⟨none, rfl⟩, by rw [ents_len]; omega, ?_⟩
      walk_at "wh"
      refine ⟨fun j E => Iv (∃ (y6 y7 y8 y9 : SV), E = ⟨[.v (.tup (ns.map .str)), .v (.ob (NkS P w (digs os os.length))), .v (.int (num (fun _ => true) os.length : Int)), .ow none (.ob (NkX P w (ents os (ags os ms ++ ((ags os ms).take j).flatMap (ext os n))))), .v (.str n), .v (.int (num (lit os n) os.length : Int)), y6, y7, y8, y9], k⟩), .a ⟨_, _, _, _, by rw [List.take_zero, List.flatMap_nil, List.append_nil]; rfl⟩, ?_, ?_⟩
      · intro j d E ed iv
        obtain ⟨y6, y7, y8, y9, rfl⟩ := iv.out
        obtain ⟨⟨kd, vd⟩, e1, rfl⟩ := map_get ed
        obtain ⟨cc, ec, e2⟩ := map_get (f := fun c : Case => (caseD c, D.int (num (bt os c) os.length : Int))) e1
        cases e2
        have hcc := List.mem_of_getElem? ec
        have hcl := case_len ne hcc
        have hxl : (extB os n cc true).length ≤ 1 := by unfold extB; split <;> simp
        refine ⟨rfl, ?_⟩
        dsimp only [gsCons, gN, gsNil]
        refine seqI (fun E => E = ⟨[.v (.tup (ns.map .str)), .v (.ob (NkS P w (digs os os.length))), .v (.int (num (fun _ => true) os.length : Int)), .ow none (.ob (NkX P w (ents os (ags os ms ++ ((ags os ms).take j).flatMap (ext os n) ++ extB os n cc true)))), .v (.str n), .v (.int (num (lit os n) os.length : Int)), .v (caseD cc), .v (.int (num (bt os cc) os.length : Int)), y8, y9], k⟩) ?_ ?_
        · intro N hN
          walk_at "wh"
          rw [andT, bit_ex]
          refine both (fun e => ?_) (fun e => ?_)
          · walk_at "wh"
            refine ⟨⟨none, _, rfl⟩, ?_⟩
            walk_at "wh"
            refine ⟨by simp, ?_⟩
            walk_at "wh"
            refine ⟨by simp, ?_⟩
            walk_at "wh"
            refine ⟨by rw [List.length_map]; simp; omega, ?_⟩
            walk_at "wh"
            refine ⟨none, _, caseK (cc ++ [(n, true)]), rfl, by rw [caseD_snoc]; exact caseD_key _, by rw [ents_len, List.length_append]; have := hfl j; omega, ?_⟩
            refine hN _ ?_
            rw [caseD_snoc]
            dsimp only [RV.d]
            rw [andT, num_snoc, ents_put (new_case ne ndm ec true), show extB os n cc true = [cc ++ [(n, true)]] from if_pos e]
            rfl
          · walk_at "wh"
            refine hN _ ?_
            rw [show extB os n cc true = [] from if_neg (by rw [e]; simp), List.append_nil]
            rfl
        · rintro E1 rfl
          walk_at "wh"
          rw [andF, bit_ex]
          have hx : ents os (ags os ms ++ ((ags os ms).take (j + 1)).flatMap (ext os n)) = ents os (ags os ms ++ ((ags os ms).take j).flatMap (ext os n) ++ extB os n cc true ++ extB os n cc false) := by
            rw [flat_more ec, ext_eq]; simp only [List.append_assoc]
          refine both (fun e => ?_) (fun e => ?_)
          · walk_at "wh"
            refine ⟨⟨none, _, rfl⟩, ?_⟩
            walk_at "wh"
            refine ⟨by simp, ?_⟩
            walk_at "wh"
            refine ⟨by simp, ?_⟩
            walk_at "wh"
            refine ⟨by rw [List.length_map]; simp; omega, ?_⟩
            walk_at "wh"
            refine ⟨none, _, caseK (cc ++ [(n, false)]), rfl, by rw [caseD_snoc]; exact caseD_key _, by rw [ents_len, List.length_append, List.length_append]; have := hfl j; have := hxl; omega, ?_⟩
            refine .a ⟨.v (caseD cc), .v (.int (num (bt os cc) os.length : Int)), y8, y9, ?_⟩
            rw [caseD_snoc]
            dsimp only [RV.d]
            rw [andF, num_snoc, ents_put (fun h => by
              rcases List.mem_append.mp h with h | h
              · exact new_case ne ndm ec false h
              · unfold extB at h
                split at h
                · have := List.append_cancel_left (List.mem_singleton.mp h)
                  simp at this
                · cases h), hx, show extB os n cc false = [cc ++ [(n, false)]] from if_pos e]
            rfl
          · walk_at "wh"
            refine .a ⟨.v (caseD cc), .v (.int (num (bt os cc) os.length : Int)), y8, y9, ?_⟩
            rw [hx, show extB os n cc false = [] from if_neg (by rw [e]; simp), List.append_nil]
      · intro E iv
        obtain ⟨y6, y7, y8, y9, rfl⟩ := iv.out
        refine .a ⟨.v (.str n), .v (.int (num (lit os n) os.length : Int)), y6, y7, y8, y9, ?_⟩
        rw [rev_take en, hms, ags_step, List.length_map, ents_len, List.take_length]
  · intro E iv
    obtain ⟨y4, y5, y6, y7, y8, y9, rfl⟩ := iv.out
    walk_at "wh"
    refine ⟨_, rfl, ?_⟩
    rw [List.length_map, List.take_length]
    exact q
end
end Va
set_option Elab.async false
set_option linter.all false
set_option maxRecDepth 100000
set_option maxHeartbeats 4000000
namespace Va
open PySem PySem.Spec PyProof.Rows L2 Ind
local macro_rules | `(tactic| walk_at "cn") => `(tactic| first
  | assumption
  | omega
  | exact dm (by omega)
  | exact line (by simp)
  | exact line (by omega)
  | exact line (by simp only [len_app, len_one]; omega)
  | exact small_div (by omega) (by omega)
  | solve_by_elim
  | exact Or.inr ⟨by omega, by omega⟩
  | exact Or.inl ⟨by omega, by omega⟩
  | exact ⟨by omega, by omega⟩
  | decide)
local macro_rules | `(tactic| walk_at "st") => `(tactic| repeat (first
  | refine ⟨_, rfl, ?_⟩
  | refine ⟨_, _, rfl, rfl, ?_⟩
  | refine ⟨_, _, rfl, ?_⟩
  | refine .inl ⟨_, rfl, ?_⟩
  | refine And.intro rfl ?_
  | refine And.intro (by walk_at "cn") ?_))
local macro_rules | `(tactic| walk_at "fz") => `(tactic| repeat (first | exact Fz.refl | apply Fz.upd))
local macro_rules | `(tactic| walk_at "hl") => `(tactic| ((repeat rw [upd_ne (by assumption)]); assumption))
local macro_rules | `(tactic| walk_at "fy") => `(tactic| (intro b o n1 h; (repeat rw [upd_ne n1]); exact h))
local macro_rules | `(tactic| walk_at "wh") => `(tactic| (conv => whnf))
local macro_rules | `(tactic| walk_at "cv") => `(tactic| first
  | rfl
  | assumption
  | omega
  | exact dm (by omega)
  | exact small_div (by omega) (by omega)
  | (simp only [len_app, one_len, len_one, List.length_append, List.length_map, List.length_cons, List.length_nil]; omega)
  | exact Or.inr ⟨by omega, by omega⟩
  | exact Or.inl ⟨by omega, by omega⟩
  | exact ⟨by omega, by omega⟩
  | decide)
local macro_rules | `(tactic| walk_at "vv") => `(tactic| repeat (refine And.intro (by walk_at "cv") ?_))
local macro_rules | `(tactic| walk_at "sk") => `(tactic| repeat (first
  | refine wayT ?_
  | refine wayF ?_
  | refine skipT (by omega) ?_
  | refine skipF (by omega) ?_
  | refine skipT (by decide) ?_
  | refine skipF (by decide) ?_
  | refine ⟨_, (show tyNames _ = some _ from rfl), ?_⟩
  | refine And.intro (by walk_at "cv") ?_))
local macro_rules | `(tactic| walk_at "s0") => `(tactic| first
  | refine wayT ?_
  | refine wayF ?_
  | refine skipT (by omega) ?_
  | refine skipF (by omega) ?_
  | refine skipT (by decide) ?_
  | refine skipF (by decide) ?_
  | refine ⟨_, (show tyNames _ = some _ from rfl), ?_⟩
  | refine And.intro (by walk_at "cv") ?_)
local macro_rules | `(tactic| walk_at "s1") => `(tactic| try (walk_at "s0"; walk_at "wh"))
local macro_rules | `(tactic| walk_at "go") => `(tactic| (walk_at "wh"; repeat (walk_at "s0"; walk_at "wh")))
def mAgrees : VM := fun ds c Q => ∃ (o : Row) (cc : Case), ds = [strD o, caseD cc] ∧ cc.length ≤ 1000 ∧ Q (.bl (agr cc o)) c
def mLAgrees : VM := fun ds c Q => ∃ (o : Row) (cc : Case), ds = [caseD cc, strD o] ∧ cc.length ≤ 1000 ∧ Q (.bl (agr cc o)) c
def keyC (c : Case) : D := .tup [.int c.length, .lst (c.map fun p => .tup [.str p.1, .bl (!p.2)])]
def mPlace : VM := fun ds c Q => ∃ cc : Case, ds = [caseD cc] ∧ cc.length ≤ 1000 ∧ Q (keyC cc) c
def minB (L : List Case) (c : Case) : Bool := (List.range c.length).all fun i => !decide (c.eraseIdx i ∈ L)
def mIsMin (P : Program) (w : World) : VM := fun ds c Q => ∃ (os : List Row) (L : List Case) (cc : Case), ds = [caseD cc, .ob (NkS P w (ents os L))] ∧ L.Nodup ∧ cc.length ≤ 1000 ∧ Q (.bl (minB L cc)) c
theorem cutD_to {α : Type} (xs : List α) (k : Nat) : cutD xs none (some (k : Int)) = xs.take k := by
  unfold cutD
  rw [show HT.sIx xs.length xs.length (some (k : Int)) = min k xs.length from HT.sIx_nat _ _ _, HT.sIx_none, List.drop_zero, Nat.sub_zero]
  rcases Nat.le_total k xs.length with h | h
  · rw [Nat.min_eq_left h]
  · rw [Nat.min_eq_right h, List.take_of_length_le (Nat.le_refl _), List.take_of_length_le h]
theorem cutD_from {α : Type} (xs : List α) (k : Nat) : cutD xs (some (k : Int)) none = xs.drop k := by
  unfold cutD
  rw [show HT.sIx xs.length 0 (some (k : Int)) = min k xs.length from HT.sIx_nat _ _ _, HT.sIx_none]
  rcases Nat.le_total k xs.length with h | h
  · rw [Nat.min_eq_left h, List.take_of_length_le (by rw [List.length_drop]; omega)]
  · rw [Nat.min_eq_right h, List.drop_eq_nil_of_le (Nat.le_refl _), List.drop_eq_nil_of_le h, List.take_nil]
theorem without (c : Case) (i : Nat) : D.tup (cutD (c.map pairD) none (some (0 + (i : Int))) ++ cutD (c.map pairD) (some (0 + (i : Int) + 1)) none) = caseD (c.eraseIdx i) := by
  rw [show (0 + (i : Int)) = ((i : Nat) : Int) by omega, show ((i : Nat) : Int) + 1 = ((i + 1 : Nat) : Int) by omega, cutD_to, cutD_from]
  unfold caseD
  rw [List.eraseIdx_eq_take_drop_succ, List.map_append, List.map_take, List.map_drop]
theorem none_left (cc : Case) (o : Row) : decide ((((cc.filter fun p => !(decide (p.1 ∈ o) == p.2)).map pairD).length : Int) = 0) = agr cc o := by
  rw [List.length_map]
  unfold agr
  rw [Bool.eq_iff_iff, decide_eq_true_eq, List.all_eq_true]
  constructor
  · intro h p hp
    have : (cc.filter fun p => !(decide (p.1 ∈ o) == p.2)) = [] := List.length_eq_zero_iff.mp (by omega)
    have := List.filter_eq_nil_iff.mp this p hp
    simpa using this
  · intro h
    rw [List.filter_eq_nil_iff.mpr fun p hp => by rw [h p hp]; simp]
    rfl
section
variable {P : Program} {w : World} {K : PySem.W.Frag} {mg : PySem.Str → Option Value} {base : Heap}
theorem ok__agrees (T : Txt P K mg) (TB__agrees : GxR.TabB base mg T.cc__agrees T.pp__agrees) : FnOk P w K mg base CX0 3 T.a__agrees T.d__agrees ["outcome", "case"] (spV (Sx T) mAgrees) := by
  refine def_vC (S := Sx T) (N := N__agrees) T.C__agrees sc__agrees rfl (fun ds c Q h => by obtain ⟨o, cc, rfl, _⟩ := h; first | rfl | assumption) (fun A outer s H E hr => (vss_one (vs_ret (ve_fz 0 (ve_all (own := [("name", 2), ("commits", 3)]) (by simp) rfl sc__agrees.nd hr TB__agrees rfl (by rfl) T.z_all PyProof.Rows.boot_all (blkOk_by (own := [("name", 2), ("commits", 3)]) (N := N__agrees) (sc := defScope s__agrees) (by decide +kernel)) (by decide +kernel) (by rfl) rfl (vi_any rfl (ve_name (pv 1))) (fun _ => rfl) (fun _ _ _ _ _ _ => (vg_tup 2 rfl rfl (vgs_cons (vg_name (i := 2) [2, 3] (by decide) sc__agrees.nd rfl (.inl rfl)) (vgs_cons (vg_name (i := 3) [2, 3] (by decide) sc__agrees.nd rfl (.inl rfl)) (vgs_nil [2, 3]))) (by rfl) (by rfl))) (fun _ _ _ _ _ _ => (ve_of (fe_cmp (o_eq rfl (IndG.room_gen (k := 0) (hr.mono (by omega))).units) (ve_of (fe_cmp (o_in rfl (hu65 (IndG.room_gen (k := 0) (hr.mono (by omega))))) (ve_name (pv 2)) (be_name (pv 0)) (by rfl))) (be_name (pv 3)) (nomark _))))))))) ?_
  rintro ds c Q ⟨o, cc, rfl, hl, q⟩
  walk_at "wh"
  refine ⟨atB (fun p : Tx × Bool => decide (p.1 ∈ o) == p.2) cc, fun i d ed => ?_, ?_⟩
  · obtain ⟨p, ep, rfl⟩ := map_get ed
    rw [atB_of ep]
    refine ⟨rfl, ?_⟩
    walk_at "wh"
    refine ⟨rfl, flat_strsD _, ?_⟩
    rw [in_strsD]
    walk_at "wh"
    exact ⟨congrArg D.bl (by cases decide (p.1 ∈ o) <;> cases p.2 <;> rfl), rfl⟩
  · rw [List.length_map, all_range]
    exact q
theorem ok__place_of_case (T : Txt P K mg) : FnOk P w K mg base CX0 1 T.a__place_of_case T.d__place_of_case ["case"] (spV (Sx T) mPlace) := by
  refine def_v (S := Sx T) (N := N__place_of_case) T.F__place_of_case sc__place_of_case rfl (fun ds c Q h => by obtain ⟨cc, rfl, _⟩ := h; first | rfl | assumption) (fun cdv A outer s H E hr => (vss_one (vs_ret (ve_tup (va_cons (ve_of (pe_CB1 (c_len rfl) (fun hc ha => pe_callB hc (by rfl) T.z_len boot_len ha) (be_name (pv 0)))) (va_cons (ve_of (fe_lc (own := [("name", 1), ("commits", 2)]) rfl sc__place_of_case.nd (vi_any rfl (ve_name (pv 0))) (blkOk_by (own := [("name", 1), ("commits", 2)]) (N := N__place_of_case) (sc := defScope s__place_of_case) (by decide +kernel)) (fun _ _ _ _ _ => (vg_tup 2 rfl rfl (vgs_cons (vg_name (i := 1) [1, 2] (by decide) sc__place_of_case.nd rfl (.inl rfl)) (vgs_cons (vg_name (i := 2) [1, 2] (by decide) sc__place_of_case.nd rfl (.inl rfl)) (vgs_nil [1, 2]))) (by rfl) (by rfl))) (fun _ _ _ _ _ => vts_nil) (fun _ _ _ _ _ => (ve_tup (va_cons (ve_name (pv 1)) (va_cons (ve_not (ve_name (pv 2))) va_nil)))))) va_nil)))))) ?_
  rintro ds c Q ⟨cc, rfl, hl, q⟩
  walk_at "wh"
  refine ⟨by rw [List.length_map]; omega, fun i acc k => Iv (acc = ((cc.take i).map fun p => D.tup [.str p.1, .bl (!p.2)]) ∧ k = c), .a ⟨rfl, rfl⟩, ?_, ?_⟩
  · intro i d acc k ed iv la
    obtain ⟨rfl, rfl⟩ := iv.out
    obtain ⟨p, ep, rfl⟩ := map_get ed
    refine ⟨rfl, ?_⟩
    walk_at "wh"
    refine wayT ?_
    walk_at "wh"
    refine ⟨by simp, ?_⟩
    refine .a ⟨?_, rfl⟩
    rw [take_more ep, List.map_append]
    rfl
  · intro acc k iv la
    obtain ⟨rfl, rfl⟩ := iv.out
    rw [List.length_map, List.take_length]
    walk_at "wh"
    refine ⟨by simp, ?_⟩
    exact q
theorem ok__is_minimal (T : Txt P K mg) (TB__is_minimal : GxR.TabB base mg T.cc__is_minimal T.pp__is_minimal) : FnOk P w K mg base CX0 3 T.a__is_minimal T.d__is_minimal ["case", "implying"] (spV (Sx T) (mIsMin P w)) := by
  refine def_vC (S := Sx T) (N := N__is_minimal) T.C__is_minimal sc__is_minimal rfl (fun ds c Q h => by obtain ⟨os, L, cc, rfl, _⟩ := h; first | rfl | assumption) (fun A outer s H E hr => (vss_one (vs_ret (ve_fz 1 (ve_fz 0 (ve_all (own := [("place", 2)]) (by simp) rfl sc__is_minimal.nd hr TB__is_minimal rfl (by rfl) T.z_all PyProof.Rows.boot_all (blkOk_by (own := [("place", 2)]) (N := N__is_minimal) (sc := defScope s__is_minimal) (by decide +kernel)) (by decide +kernel) (by rfl) rfl (vi_range1 (by rfl) T.z_range (va_cons (ve_of (pe_CB1 (c_len rfl) (fun hc ha => pe_callB hc (by rfl) T.z_len boot_len ha) (be_name (pv 0)))) va_nil)) (fun _ => rfl) (fun _ _ _ _ _ _ => (vg_name (i := 2) [2] (by decide) sc__is_minimal.nd rfl (.inl rfl))) (fun _ _ _ _ _ _ => (ve_of (fe_cmp (o_ninN (P := P) (w := w) rfl rfl rfl (IndG.room_gen (k := 0) (hr.mono (by omega))).units) (ve_of (fe_op (o_add rfl) (ve_of (fe_slice rfl (ve_name (pv 0)) vo_none (vo_some (ve_name (pv 2))))) (be_of (ve_of (fe_slice rfl (ve_name (pv 0)) (vo_some (ve_of (fe_op (o_add rfl) (ve_name (pv 2)) (be_of ve_int)))) vo_none))))) (be_name (pv 1)) (by rfl)))))))))) ?_
  rintro ds c Q ⟨os, L, cc, rfl, nd, hl, q⟩
  walk_at "wh"
  have hlen : (cc.map pairD).length = cc.length := List.length_map _
  refine ⟨by rw [hlen]; omega, ?_⟩
  walk_at "wh"
  refine ⟨fun i => !decide (cc.eraseIdx i ∈ L), fun i d ed => ?_, ?_⟩
  · rw [Int.toNat_natCast] at ed
    obtain ⟨rfl, hi⟩ := rng_at ed
    walk_at "wh"
    refine ⟨by unfold cutD; simp only [List.length_take, List.length_drop, hlen]; omega, ?_⟩
    walk_at "wh"
    refine ⟨ents os L, caseK (cc.eraseIdx i), rfl, by rw [without]; exact caseD_key _, ?_⟩
    rw [without]
    refine ⟨?_, rfl⟩
    show D.bl (!(lookK (ents os L) (caseD (cc.eraseIdx i))).isSome) = _
    rw [ents_has nd]
  · rw [Int.toNat_natCast, rng_len, hlen]
    exact q
theorem ok__law_agrees (T : Txt P K mg) : FnOk P w K mg base CX0 1 T.a__law_agrees T.d__law_agrees ["case", "row"] (spV (Sx T) mLAgrees) := by
  refine def_v (S := Sx T) (N := N__law_agrees) T.F__law_agrees sc__law_agrees rfl (fun ds c Q h => by obtain ⟨o, cc, rfl, _⟩ := h; first | rfl | assumption) (fun cdv A outer s H E hr => (vss_one (vs_ret (ve_of (fe_cmp (o_eq rfl hr.units) (ve_of (pe_CB1 (c_len rfl) (fun hc ha => pe_callB hc (by rfl) T.z_len boot_len ha) (be_of (ve_of (fe_fz 1 (fe_lc (own := [("pair", 2)]) rfl sc__law_agrees.nd (vi_any rfl (ve_name (pv 0))) (blkOk_by (own := [("pair", 2)]) (N := N__law_agrees) (sc := defScope s__law_agrees) (by decide +kernel)) (fun _ _ _ _ _ => (vg_name (i := 2) [2] (by decide) sc__law_agrees.nd rfl (.inl rfl))) (fun _ _ _ _ _ => (vts_one (vb_cmp (o_ne rfl hr.units) (ve_of (fe_cmp (o_in rfl (hu65 hr)) (ve_of (fe_ixN (i_ix rfl (hu_of hr)) (pv 2) (be_of ve_int) (fun _ _ => rfl))) (be_name (pv 1)) (by rfl))) (be_of (ve_of (fe_ixN (i_ix rfl (hu_of hr)) (pv 2) (be_of ve_int) (fun _ _ => rfl)))) (nomark _)))) (fun _ _ _ _ _ => (ve_name (pv 2))))))))) (be_of ve_int) (nomark _)))))) ?_
  rintro ds c Q ⟨o, cc, rfl, hl, q⟩
  walk_at "wh"
  refine ⟨by rw [List.length_map]; omega, fun i acc k => Iv (acc = (((cc.take i).filter fun p => !(decide (p.1 ∈ o) == p.2)).map pairD) ∧ k = c), .a ⟨rfl, rfl⟩, ?_, ?_⟩
  · intro i d acc k ed iv la
    obtain ⟨rfl, rfl⟩ := iv.out
    obtain ⟨p, ep, rfl⟩ := map_get ed
    walk_at "wh"
    refine ⟨rfl, flat_strsD _, ?_⟩
    dsimp only [RV.d]
    rw [in_strsD]
    walk_at "wh"
    have eg : (!(decide (p.1 ∈ o) == p.2)) = (!decide (decide (p.1 ∈ o) = p.2)) := by cases decide (p.1 ∈ o) <;> cases p.2 <;> rfl
    refine both (fun e => .a ⟨?_, rfl⟩) (fun e => .a ⟨?_, rfl⟩)
    · rw [filt_T (p := fun p : Tx × Bool => !(decide (p.1 ∈ o) == p.2)) ep (eg.trans e), List.map_append]; rfl
    · rw [filt_F (p := fun p : Tx × Bool => !(decide (p.1 ∈ o) == p.2)) ep (eg.trans e)]
  · intro acc k iv la
    obtain ⟨rfl, rfl⟩ := iv.out
    rw [List.length_map, List.take_length]
    walk_at "wh"
    show Q (.bl (decide ((((cc.filter fun p => !(decide (p.1 ∈ o) == p.2)).map pairD).length : Int) = 0))) k
    rw [none_left]
    exact q
end
end Va
set_option Elab.async false
set_option linter.all false
set_option maxRecDepth 100000
set_option maxHeartbeats 4000000
namespace Va
open PySem PySem.Spec PyProof.Rows L2 Ind SrtB
def pD (p : Tx × Bool) : D := .tup [.str p.1, .bl p.2]
theorem sbD_map (ps : List (Tx × Bool)) : sbD ps = ps.map pD := rfl
theorem pd_pD (p : Tx × Bool) : (pD p).pd = .tuple [.str p.1, .bool p.2] := rfl
theorem eqv_pD (p q : Tx × Bool) : PyData.eqv (pD p).pd (pD q).pd = decide (p = q) := by
  rw [pd_pD, pd_pD, PyData.eqv, PyData.eqvAll, PyData.eqvAll, PyData.eqvAll, PyData.eqv, PyData.eqv, Bool.eq_iff_iff]
  obtain ⟨a, b⟩ := p
  obtain ⟨x, y⟩ := q
  simp
theorem shaped_pairs {ps : List (Tx × Bool)} (h : ∀ p ∈ ps, tOk p.1) : SeqAt.shaped (.list (pdL (sbD ps))) = true := by
  have e : pdL (sbD ps) = ps.map fun p => PyData.tuple [.str p.1, .bool p.2] := by
    rw [pdL_map, sbD_map, List.map_map]
    rfl
  rw [e]
  have l2 : ∀ rs : List (Tx × Bool), (∀ r ∈ rs, tOk r.1) → PyData.canLayAll0 (rs.map fun p => PyData.tuple [.str p.1, .bool p.2]) = true := fun rs hr => by
    induction rs with
    | nil => simp [PyData.canLayAll0]
    | cons y ys ih => simp [PyData.canLayAll0, PyData.canLay0, ih fun z hz => hr z (List.mem_cons_of_mem _ hz), (hr y (List.mem_cons_self ..)).ok]
  have d2 : ∀ rs : List (Tx × Bool), PyData.depthAll (rs.map fun p => PyData.tuple [.str p.1, .bool p.2]) ≤ 2 := fun rs => by
    induction rs with
    | nil => simp [PyData.depthAll]
    | cons y ys ih => simp [PyData.depthAll, PyData.depth] at *; omega
  have := d2 ps
  simp [SeqAt.shaped, PyData.canLay0, PyData.depth, l2 ps h]
  omega
structure Good (ms : List Tx) (ws : List Row) : Prop where
  nd : ms.Nodup
  st : SrtdN ms
  ne : ws ≠ []
  sub : ∀ w ∈ ws, ∀ n ∈ w, n ∈ ms
structure Step (ms : List Tx) (ws : List Row) (nm ms2 : List Tx) (ws2 : List Row) : Prop where
  mem : ∀ n, n ∈ ms2 ↔ n ∈ ms ∨ n ∈ nm
  back : ∀ x ∈ ws2, ∃ w ∈ ws, ∀ n ∈ ms, n ∈ x ↔ n ∈ w
section
variable {ms nm ms2 fr : List Tx} {ws ws2 : List Row}
theorem mem_decs {p : Tx × Bool} : p ∈ decs ms ws ↔ p.1 ∈ ms ∧ sure ws p.1 = true ∧ p.2 = decide (0 < cnt p.1 ws) := by
  unfold decs
  rw [List.mem_map]
  constructor
  · rintro ⟨n, hn, rfl⟩
    obtain ⟨h1, h2⟩ := List.mem_filter.mp hn
    exact ⟨h1, h2, rfl⟩
  · rintro ⟨h1, h2, h3⟩
    exact ⟨p.1, List.mem_filter.mpr ⟨h1, h2⟩, by rw [← h3]⟩
theorem Step.sure (s : Step ms ws nm ms2 ws2) {n : Tx} (hn : n ∈ ms) (h : sure ws n = true) : Va.sure ws2 n = true := by
  rw [sure_iff] at h ⊢
  rcases h with h | h
  · refine .inl fun x hx z => ?_
    obtain ⟨w, hw, e⟩ := s.back x hx
    exact h w hw ((e n hn).mp z)
  · refine .inr fun x hx => ?_
    obtain ⟨w, hw, e⟩ := s.back x hx
    exact (e n hn).mpr (h w hw)
theorem Step.decs (s : Step ms ws nm ms2 ws2) (ne : ws2 ≠ []) {p : Tx × Bool} (h : p ∈ decs ms ws) : p ∈ Va.decs ms2 ws2 := by
  obtain ⟨h1, h2, h3⟩ := mem_decs.mp h
  have h4 := s.sure h1 h2
  refine mem_decs.mpr ⟨(s.mem _).mpr (.inl h1), h4, ?_⟩
  obtain ⟨x, hx⟩ := List.exists_mem_of_ne_nil _ ne
  obtain ⟨w, hw, e⟩ := s.back x hx
  rw [h3, pos_cnt w hw h2, pos_cnt x hx h4]
  exact decide_eq_decide.mpr (e p.1 h1).symm
theorem decs_fst : (decs ms ws).map (·.1) = ms.filter fun n => sure ws n := by
  unfold decs
  rw [List.map_map]
  exact List.map_id' _
theorem parts_perm : ((decs ms ws).map (·.1) ++ opens ms ws).Perm ms := by
  rw [decs_fst]
  unfold opens
  exact List.filter_append_perm _ _
theorem Step.names (s : Step ms ws nm ms2 ws2) (g : Good ms ws) (g2 : Good ms2 ws2) {a b : List Tx} (pa : a.Perm (once [] ((Va.decs ms ws).map (·.1) ++ opens ms ws ++ nm))) (sa : sortedS a = true)
    (pb : b.Perm ((Va.decs ms2 ws2).map (·.1) ++ opens ms2 ws2)) (sb : sortedS b = true) : a = b := by
  have qb := pb.trans (parts_perm (ms := ms2) (ws := ws2))
  refine sorted_one (sortedS_pw sa) (sortedS_pw sb) (pa.nodup_iff.mpr (once_nd _)) (qb.nodup_iff.mpr g2.nd) fun k => ?_
  rw [pa.mem_iff, once_inY, List.mem_append, (parts_perm (ms := ms) (ws := ws)).mem_iff, qb.mem_iff, s.mem]
theorem Step.rows (s : Step ms ws nm ms2 ws2) {r : Row} (hr : r ∈ rowsOf ms2 ws2) : seenR (opens ms ws) (r ++ sureC ms2 ws2) ∈ rowsOf ms ws := by
  obtain ⟨x, hx, rfl⟩ := List.mem_map.mp (of_decide_eq_true (List.mem_filter.mp hr).2)
  obtain ⟨w, hw, e⟩ := s.back x hx
  have : seenR (opens ms ws) (seenR (opens ms2 ws2) x ++ sureC ms2 ws2) = seenR (opens ms ws) w := by
    unfold seenR
    refine List.filter_congr fun n hn => decide_eq_decide.mpr ?_
    have hm := (opens_sub ms ws).subset hn
    have h1 := row_world hx ((s.mem n).mpr (.inl hm))
    unfold inW at h1
    rw [← e n hm]
    exact decide_eq_decide.mp h1
  rw [this]
  exact seen_row hw
theorem Good.grows (g : Good ms ws) (fnd : fr.Nodup) (off : ∀ n ∈ fr, n ∉ ms) : Grows ms ws fr := ⟨g.nd, g.st, g.ne, g.sub, fnd, off⟩
theorem Good.ext (g : Good ms ws) (q : Names2 ms fr ms2) (ne : ws2 ≠ []) (sub : ∀ w ∈ ws2, w ∈ extW ws fr) : Good ms2 ws2 :=
  ⟨q.nd, q.st, ne, fun x hx n hn => by
    obtain ⟨r, hr, w, hw, rfl⟩ := mem_extW.mp (sub x hx)
    exact (q.mem n).mpr ((List.mem_append.mp hn).imp (g.sub w hw n) fun z => (allR_sub hr).subset z)⟩
theorem Step.ext (g : Grows ms ws fr) (mem : ∀ n, n ∈ ms2 ↔ n ∈ ms ∨ n ∈ nm) (sub : ∀ w ∈ ws2, w ∈ extW ws fr) : Step ms ws nm ms2 ws2 :=
  ⟨mem, fun x hx => by
    obtain ⟨r, hr, w, hw, rfl⟩ := mem_extW.mp (sub x hx)
    exact ⟨w, hw, fun n hn => g.old hn hr⟩⟩
def freshN (ms ns : List Tx) : List Tx := (once [] ns).filter fun n => !decide (n ∈ ms)
theorem mem_fresh {ns : List Tx} {x : Tx} : x ∈ freshN ms ns ↔ x ∈ ns ∧ x ∉ ms := by
  unfold freshN
  rw [List.mem_filter, once_inY]
  simp
theorem fresh_nd {ns : List Tx} : (freshN ms ns).Nodup := (once_nd ns).filter _
theorem Good.fresh (g : Good ms ws) (ns : List Tx) : Grows ms ws (freshN ms ns) := g.grows fresh_nd fun n h => (mem_fresh.mp h).2
end
end Va
set_option Elab.async false
set_option linter.all false
set_option maxRecDepth 100000
set_option maxHeartbeats 4000000
namespace Va
open PySem PySem.Spec PyProof.Rows L2 Ind
local macro_rules | `(tactic| walk_at "cn") => `(tactic| first
  | assumption
  | omega
  | exact dm (by omega)
  | exact line (by simp)
  | exact line (by omega)
  | exact line (by simp only [len_app, len_one]; omega)
  | exact small_div (by omega) (by omega)
  | solve_by_elim
  | exact Or.inr ⟨by omega, by omega⟩
  | exact Or.inl ⟨by omega, by omega⟩
  | exact ⟨by omega, by omega⟩
  | decide)
local macro_rules | `(tactic| walk_at "st") => `(tactic| repeat (first
  | refine ⟨_, rfl, ?_⟩
  | refine ⟨_, _, rfl, rfl, ?_⟩
  | refine ⟨_, _, rfl, ?_⟩
  | refine .inl ⟨_, rfl, ?_⟩
  | refine And.intro rfl ?_
  | refine And.intro (by walk_at "cn") ?_))
local macro_rules | `(tactic| walk_at "fz") => `(tactic| repeat (first | exact Fz.refl | apply Fz.upd))
local macro_rules | `(tactic| walk_at "hl") => `(tactic| ((repeat rw [upd_ne (by assumption)]); assumption))
local macro_rules | `(tactic| walk_at "fy") => `(tactic| (intro b o n1 h; (repeat rw [upd_ne n1]); exact h))
local macro_rules | `(tactic| walk_at "wh") => `(tactic| (conv => whnf))
local macro_rules | `(tactic| walk_at "cv") => `(tactic| first
  | rfl
  | assumption
  | omega
  | exact dm (by omega)
  | exact small_div (by omega) (by omega)
  | (simp only [len_app, one_len, len_one, List.length_append, List.length_map, List.length_cons, List.length_nil]; omega)
  | exact Or.inr ⟨by omega, by omega⟩
  | exact Or.inl ⟨by omega, by omega⟩
  | exact ⟨by omega, by omega⟩
  | decide)
local macro_rules | `(tactic| walk_at "vv") => `(tactic| repeat (refine And.intro (by walk_at "cv") ?_))
local macro_rules | `(tactic| walk_at "sk") => `(tactic| repeat (first
  | refine wayT ?_
  | refine wayF ?_
  | refine skipT (by omega) ?_
  | refine skipF (by omega) ?_
  | refine skipT (by decide) ?_
  | refine skipF (by decide) ?_
  | refine ⟨_, (show tyNames _ = some _ from rfl), ?_⟩
  | refine And.intro (by walk_at "cv") ?_))
local macro_rules | `(tactic| walk_at "s0") => `(tactic| first
  | refine wayT ?_
  | refine wayF ?_
  | refine skipT (by omega) ?_
  | refine skipF (by omega) ?_
  | refine skipT (by decide) ?_
  | refine skipF (by decide) ?_
  | refine ⟨_, (show tyNames _ = some _ from rfl), ?_⟩
  | refine And.intro (by walk_at "cv") ?_)
local macro_rules | `(tactic| walk_at "s1") => `(tactic| try (walk_at "s0"; walk_at "wh"))
local macro_rules | `(tactic| walk_at "go") => `(tactic| (walk_at "wh"; repeat (walk_at "s0"; walk_at "wh")))
def mNeeded (P : Program) (w : World) : VM := fun ds c Q => ∃ (os : List Row) (L M : List Case), ds = [.lst (M.map caseD), .ob (NkS P w (ents os L))] ∧ L.Nodup ∧ M.Nodup ∧ (∀ x ∈ M, x ∈ L) ∧ (∀ x ∈ M, ∀ p ∈ x, tOk p.1) ∧ M.length ≤ 20000 ∧ ∀ R, Kept os M R M.reverse → Q (.tup (R.map caseD)) c
theorem pd_case (c : Case) : (caseD c).pd = .tuple (c.map fun p => .tuple [.str p.1, .bool p.2]) := by
  show PyData.tuple (pdL (c.map pairD)) = _
  rw [pdL_map, List.map_map]
  rfl
theorem shaped_case {c : Case} (h : ∀ p ∈ c, tOk p.1) : SeqAt.shaped (caseD c).pd = true := by
  have e := shaped_pairs h
  rw [pd_case]
  have e2 : pdL (sbD c) = c.map fun p => PyData.tuple [.str p.1, .bool p.2] := by rw [pdL_map, sbD_map, List.map_map]; rfl
  rw [e2] at e
  simpa [SeqAt.shaped, PyData.canLay0, PyData.depth] using e
theorem eqvAll_pairs : ∀ (c d : Case), PyData.eqvAll (c.map fun p => PyData.tuple [.str p.1, .bool p.2]) (d.map fun p => PyData.tuple [.str p.1, .bool p.2]) = decide (c = d)
  | [], [] => by simp [PyData.eqvAll]
  | [], _ :: _ => by simp [PyData.eqvAll]
  | _ :: _, [] => by simp [PyData.eqvAll]
  | p :: c, q :: d => by
    rw [List.map_cons, List.map_cons, PyData.eqvAll, eqvAll_pairs c d]
    have := eqv_pD p q
    rw [pd_pD, pd_pD] at this
    rw [this, Bool.eq_iff_iff]
    simp
theorem eqv_case (c d : Case) : PyData.eqv (caseD c).pd (caseD d).pd = decide (c = d) := by
  rw [pd_case, pd_case, PyData.eqv, eqvAll_pairs]
def anyC (os : List Row) (rs : List Case) (i : Nat) : Bool := rs.any fun d => bt os d i
theorem any_more (os : List Row) {rs : List Case} {j : Nat} {d : Case} (h : rs[j]? = some d) : (Builtin.bitOr (num (anyC os (rs.take j)) os.length : Int) (num (bt os d) os.length : Int)) = (num (anyC os (rs.take (j + 1))) os.length : Int) := by
  rw [bOr, take_more h]
  congr 2
  funext i
  unfold anyC
  rw [List.any_append]
  simp
theorem any_none (os : List Row) : ((0 : Nat) : Int) = (num (anyC os []) os.length : Int) := by
  have : num (anyC os []) os.length = 0 := num_zero.mpr fun i _ => rfl
  rw [this]
theorem cov_iff {os : List Row} {c : Case} {rs : List Case} : (∀ i, i < os.length → bt os c i = true → anyC os rs i = true) ↔ ∀ o ∈ os, agr c o = true → ∃ d ∈ rs, agr d o = true := by
  constructor
  · intro h o ho ha
    obtain ⟨i, hi, rfl⟩ := List.mem_iff_getElem.mp ho
    have := h i hi (by unfold bt; rw [List.getElem?_eq_getElem hi]; exact ha)
    unfold anyC at this
    obtain ⟨d, hd, h2⟩ := List.any_eq_true.mp this
    unfold bt at h2
    rw [List.getElem?_eq_getElem hi] at h2
    exact ⟨d, hd, h2⟩
  · intro h i hi hb
    unfold bt at hb
    rw [List.getElem?_eq_getElem hi] at hb
    obtain ⟨d, hd, h2⟩ := h _ (List.getElem_mem hi) hb
    unfold anyC
    refine List.any_eq_true.mpr ⟨d, hd, ?_⟩
    unfold bt
    rw [List.getElem?_eq_getElem hi]
    exact h2
theorem cov_dec (os : List Row) (c : Case) (rs : List Case) : (Builtin.bitOr (num (bt os c) os.length : Int) (num (anyC os rs) os.length : Int) = (num (anyC os rs) os.length : Int)) ↔ ∀ o ∈ os, agr c o = true → ∃ d ∈ rs, agr d o = true := by
  rw [← cov_iff, ← num_sub, bitOr_nn (Int.natCast_nonneg _) (Int.natCast_nonneg _), Int.toNat_natCast, Int.toNat_natCast]
  omega
section
variable {P : Program} {w : World} {K : PySem.W.Frag} {mg : PySem.Str → Option Value} {base : Heap}
theorem ok__needed_cases (T : Txt P K mg) : FnOk P w K mg base CX0 1 T.a__needed_cases T.d__needed_cases ["minimal", "agreeing"] (spV (Sx T) (mNeeded P w)) := by
  refine def_v (S := Sx T) (N := N__needed_cases) T.F__needed_cases sc__needed_cases rfl (fun ds c Q h => by obtain ⟨os, L, M, rfl, _⟩ := h; first | rfl | assumption) (fun cdv A outer s H E hr => (vss_cons (vs_set (i := 2) sc__needed_cases.nd rfl (.inl rfl) (fe_of (ve_name (pv 0))))
      (vss_cons (vs_for PassesOwn.never rfl (vi_rev rfl (by rfl) T.z_reversed (ve_of (pe_CB1 (c_listD rfl rfl) (fun hc ha => pe_callTy hc (by rfl) T.z_list boot_list ha) (be_name (pv 0))))) (vg_name (i := 3) [3] (by decide) sc__needed_cases.nd rfl (.inr rfl))
      (vss_cons (vs_fz 3 (vs_setLc (i := 5) (own := [("other", 4)]) rfl sc__needed_cases.nd rfl rfl (sw_true rfl rfl rfl (by decide +kernel)) (vi_any rfl (ve_name (pv 2))) (blkOk_by (own := [("other", 4)]) (N := N__needed_cases) (sc := defScope s__needed_cases) (by decide +kernel)) (fun _ _ _ _ _ => (vg_name (i := 4) [4] (by decide) sc__needed_cases.nd rfl (.inl rfl))) (fun _ _ _ _ _ => (vts_one (vb_cmp (o_ne rfl hr.units) (ve_name (pv 4)) (be_name (pv 3)) (nomark _)))) (fun _ _ _ _ _ => (ve_name (pv 4)))))
      (vss_cons (vs_set (i := 6) sc__needed_cases.nd rfl (.inl rfl) (fe_of ve_int))
      (vss_cons (vs_for PassesOwn.never rfl (vi_any rfl (ve_name (pv 5))) (vg_name (i := 4) [4] (by decide) sc__needed_cases.nd rfl (.inl rfl))
      (vss_one (vs_set (i := 6) sc__needed_cases.nd rfl (.inl rfl) (fe_op o_or (ve_name (pv 6)) (be_of (ve_ixK (P := P) (w := w) rfl rfl rfl hr.units (pv 1) (ve_name (pv 4)) (fun _ _ => rfl)))))))
      (vss_one (vs_if (vb_cmp (o_eq rfl hr.units) (ve_of (fe_op o_or (ve_ixK (P := P) (w := w) rfl rfl rfl hr.units (pv 1) (ve_name (pv 3)) (fun _ _ => rfl)) (be_name (pv 6)))) (be_name (pv 6)) (nomark _)) (vss_one (vs_set (i := 2) sc__needed_cases.nd rfl (.inl rfl) (fe_of (ve_name (pv 5))))) vss_nil))))))
      (vss_one (vs_ret (ve_of (pe_CB1 (c_tupleD rfl rfl) (fun hc ha => pe_callTy hc (by rfl) T.z_tuple boot_tuple ha) (be_name (pv 2))))))))) ?_
  rintro ds c Q ⟨os, L, M, rfl, nd, ndM, hML, hok, hl, q⟩
  walk_at "wh"
  refine ⟨fun i E => Iv (∃ (Kp : List Case) (y3 y4 y5 y6 : SV), E = ⟨[.v (.lst (M.map caseD)), .v (.ob (NkS P w (ents os L))), .v (.lst (Kp.map caseD)), y3, y4, y5, y6], c⟩ ∧ Kept os M Kp (M.reverse.take i)), .a ⟨M, _, _, _, _, rfl, Kept.init os M⟩, ?_, ?_⟩
  · intro i d E ed iv
    obtain ⟨Kp, y3, y4, y5, y6, rfl, kp⟩ := iv.out
    rw [← List.map_reverse] at ed
    obtain ⟨cc, ec, rfl⟩ := map_get ed
    have hcM : cc ∈ M := List.mem_reverse.mp (List.mem_of_getElem? ec)
    have hKM : ∀ d ∈ Kp, d ∈ M := fun d hd => kp.sub.subset hd
    walk_at "wh"
    refine ⟨by rw [List.length_map]; have := kp.sub.length_le; omega, fun j acc k => Iv (acc = ((Kp.take j).filter fun d => !decide (d = cc)).map caseD ∧ k = c), .a ⟨rfl, rfl⟩, ?_, ?_⟩
    · intro j d acc k ed iv la
      obtain ⟨rfl, rfl⟩ := iv.out
      obtain ⟨dd, edd, rfl⟩ := map_get ed
      walk_at "wh"
      refine ⟨shaped_case (hok _ (hKM _ (List.mem_of_getElem? edd))), shaped_case (hok _ hcM), ?_⟩
      rw [eqv_case]
      walk_at "wh"
      refine both (fun e => .a ⟨?_, rfl⟩) (fun e => .a ⟨?_, rfl⟩)
      · rw [filt_T (p := fun d : Case => !decide (d = cc)) edd e, List.map_append]; rfl
      · rw [filt_F (p := fun d : Case => !decide (d = cc)) edd e]
    · intro acc k iv la
      obtain ⟨rfl, rfl⟩ := iv.out
      rw [List.length_map, List.take_length]
      walk_at "wh"
      refine ⟨fun j E => Iv (∃ y4 : SV, E = ⟨[.v (.lst (M.map caseD)), .v (.ob (NkS P w (ents os L))), .v (.lst (Kp.map caseD)), .v (caseD cc), y4, .v (.lst ((rest Kp cc).map caseD)), .v (.int (num (anyC os ((rest Kp cc).take j)) os.length : Int))], k⟩), .a ⟨_, by rw [show (rest Kp cc).take 0 = [] from rfl, ← any_none]; rfl⟩, ?_, ?_⟩
      · intro j d E ed iv
        obtain ⟨y4, rfl⟩ := iv.out
        obtain ⟨dd, edd, rfl⟩ := map_get ed
        have edd : (rest Kp cc)[j]? = some dd := edd
        have hdL : dd ∈ L := hML _ (hKM _ (mem_rest.mp (List.mem_of_getElem? edd)).1)
        walk_at "wh"
        refine ⟨ents os L, .inl rfl, ?_⟩
        walk_at "wh"
        refine ⟨.inl rfl, caseK dd, _, caseD_key dd, ents_mem nd hdL, ?_⟩
        walk_at "wh"
        refine .a ⟨.v (caseD dd), ?_⟩
        rw [← any_more os edd]
        rfl
      · intro E iv
        obtain ⟨y4, rfl⟩ := iv.out
        have hT : (rest Kp cc).take ((Kp.filter fun d => !decide (d = cc)).map caseD).length = rest Kp cc := by rw [List.length_map]; exact List.take_length
        rw [hT]
        walk_at "wh"
        refine ⟨ents os L, .inl rfl, ?_⟩
        walk_at "wh"
        refine ⟨.inl rfl, caseK cc, _, caseD_key cc, ents_mem nd (hML _ hcM), ?_⟩
        walk_at "wh"
        refine bothD (fun e => ?_) (fun e => ?_)
        · walk_at "wh"
          refine .a ⟨rest Kp cc, _, _, _, _, rfl, ?_⟩
          rw [take_more ec]
          exact kp.drop ((cov_dec os cc (rest Kp cc)).mp e)
        · walk_at "wh"
          refine .a ⟨Kp, _, _, _, _, rfl, ?_⟩
          rw [take_more ec]
          refine kp.keep ?_
          obtain ⟨o, h1⟩ := Classical.not_forall.mp fun h => e ((cov_dec os cc (rest Kp cc)).mpr h)
          obtain ⟨h1, h2⟩ := Classical.not_imp.mp h1
          obtain ⟨h2, h3⟩ := Classical.not_imp.mp h2
          refine ⟨o, h1, h2, fun d hd => ?_⟩
          cases ha : agr d o with
          | false => rfl
          | true => exact absurd ⟨d, hd, ha⟩ h3
  · intro E iv
    obtain ⟨Kp, y3, y4, y5, y6, rfl, kp⟩ := iv.out
    walk_at "wh"
    rw [show (M.map caseD).reverse.length = M.reverse.length by simp, List.take_length] at kp
    exact q Kp kp
end
end Va
set_option Elab.async false
set_option linter.all false
set_option maxRecDepth 100000
set_option maxHeartbeats 4000000
namespace L2
open PySem PySem.Spec PyProof.Rows
open PySem.AutoSeq1 (wpAny_loadPart')
theorem enum_made {v : Value} {o : Obj} {G : Heap → Prop} (B : Begins v o G) :
    Meets (Builtin.«enumerate.__new__» ⟨[.type "enumerate", v], []⟩) (fun _ R s => G s.heap ∧
      R (.ok (.ret (.ref (s.heap.push o).objs.size))) { s with heap := (s.heap.push o).push { cls := .type "enumerate", data := .fields #[.none, .bool false, .ref s.heap.objs.size, rawInt 0, .none, .none] } }) := by
  refine .of_wp fun prog w A R s hh => ?_
  obtain ⟨heap, g, d, tk, os⟩ := s
  obtain ⟨hg, hr⟩ := hh
  have sub := sub_enumerate
  have start : ∀ {A2 : Around} {E : Value → Shared → Prop} {Q : Value → Shared → Prop}, Q (.ref heap.objs.size) ⟨heap.push o, g, d, tk, os⟩ → wpAny (model prog w) A2 (pyIter v) Q E ⟨heap, g, d, tk, os⟩ := fun q => B.iter prog w _ _ ⟨heap, g, d, tk, os⟩ _ hg q
  wp_walk using start
  refine wpAny_stack_any fun st => wpAny_pure ?_
  split
  · rename_i c _ _ _ _ _
    cases (c == Value.type "enumerate") <;>
    · wp_walk using start
      exact ⟨_, rfl, hr⟩
  · wp_walk using start
    exact ⟨_, rfl, hr⟩
theorem enum_call {prog : Program} {w : World} {A : Around} {E : Value → Shared → Prop} {s : Shared} {v : Value} {o : Obj} {G : Heap → Prop} {Q : Value → Shared → Prop} (B : Begins v o G) (hg : G s.heap)
    (k : ∀ h', IsEnum h' (s.heap.objs.size + 1) s.heap.objs.size 0 .none → h'.get? s.heap.objs.size = some o → (∀ b o, s.heap.get? b = some o → h'.get? b = some o) → Q (.ref (s.heap.objs.size + 1)) { s with heap := h' }) :
    wpAny (model prog w) A (call (.type "enumerate") [v]) Q E s := by
  refine callType_new F.called_enumerate (by decide) (F.typeCall_enumerate_1 _) (F.newCall_enumerate_1 _) (fun obj => F.args_object_init_2 obj _) F.entry_enumerate_new (enum_made B) ⟨hg, ?_⟩
  have size : (s.heap.push o).objs.size = s.heap.objs.size + 1 := Heap.size_push ..
  show _ ∧ _
  rw [size]
  have made : IsEnum ((s.heap.push o).push { cls := .type "enumerate", data := .fields #[.none, .bool false, .ref s.heap.objs.size, rawInt 0, .none, .none] }) (s.heap.objs.size + 1) s.heap.objs.size 0 .none := by
    rw [← size]
    exact Heap.get?_push_size _ rfl
  exact ⟨⟨_, made, rfl⟩, k _ made (Heap.get?_push_of_some _ (Heap.get?_push_size _ B.free)) fun b o x => Heap.get?_push_of_some _ (Heap.get?_push_of_some _ x)⟩
def IteK (K : PySem.W.Frag) (k : Bool) (a : Addr) : It :=
  ⟨fun i H => ∃ (xs : List V) (x : V), SqK k K H a xs ∧ xs[i]? = some x, fun i H v H' => ∃ T x, v = .ref T ∧ H T = none ∧ H' = upd H T (.tup [.int (i : Nat), x]) ∧ ∀ xs, SqK k K H a xs → xs[i]? = some x, fun i H => ∃ xs : List V, SqK k K H a xs ∧ xs.length = i⟩
theorem turn_enumK {P : Program} {w : World} {K : PySem.W.Frag} {elts : List Expr} {kk : Nat} {tpos : Pos} {k : Bool} {a : Addr} {N : Nat} (ha : a < N) :
    Turn P w K (.Tuple elts kk tpos) (IteK K k a) [N + 1, N] (N + 1 : Nat) (fun i h => (∃ old, IsEnum h (N + 1 : Nat) N ((i : Nat) : Int) old) ∧ itK k N a i h) where
  mem := by simp
  obj := fun i h st b hb => by
    obtain ⟨⟨old, he⟩, h1⟩ := st
    have e' : b = N + 1 ∨ b = N := by simpa using hb
    rcases e' with z | z
    · rw [z]; exact ⟨_, he, fun v q => nomatch q⟩
    · rw [z]
      obtain ⟨o, e, fs, d⟩ := itK_obj h1
      exact ⟨o, e, fun v z => by rw [d] at z; cases z⟩
  keep := fun i h h' st k => let ⟨⟨old, he⟩, h1⟩ := st; ⟨⟨old, k _ (by simp) _ he⟩, itK_keep h1 fun o q => k _ (by simp) o q⟩
  item := by
    intro X eP eW eK calm i pins s σ H E I free st go
    subst eP eW eK
    obtain ⟨⟨old, he⟩, h1⟩ := st
    obtain ⟨xs, x, qx, ex⟩ := go
    obtain ⟨its, rv, p1, _⟩ := I.sqK qx
    obtain ⟨u, hu, ru⟩ := rv.get ex
    have el : (N + 1 : Nat) < s.heap.objs.size := Heap.lt_size he
    have dr := drawsK (prog := X.prog) (w := X.w) (A := X.A.in1) k (I.ok.hd calm) N a (Nat.ne_of_lt ha) its.toArray
    have l1 : i < its.toArray.size := by
      rw [List.size_toArray]
      exact (List.getElem?_eq_some_iff.mp hu).1
    have nf : (N + 1 : Nat) ∉ ([N, a] : List Addr) := fun hm => by
      have e' : N + 1 = N ∨ N + 1 = a := by simpa using hm
      rcases e' with z | z
      · exact Nat.succ_ne_self N z
      · rw [← z] at ha
        exact Nat.lt_irrefl N (Nat.lt_trans (Nat.lt_succ_self N) ha)
    refine wpAny_pyNext_enum_itemC dr he ⟨h1, p1⟩ l1 (Nat.succ_ne_self N) nf fun v1 h' tk e1 ho st1 hT hsz hk => ?_
    have e1 : v1 = u := by
      have : its.toArray[i]? = some u := by simpa using hu
      rw [this] at e1
      exact (Option.some.inj e1).symm
    subst e1
    refine ⟨_, rfl, wpAny_letOwnedTupleGo_enum (s := { s with heap := h', toks := tk + 1 }) ho fun h'' he' sb => ?_⟩
    have hT2 : h''.get? s.heap.objs.size = some { cls := .type "tuple", data := .seq #[.int i tk, v1] } := (sb.2 _ (Nat.ne_of_gt el)).trans hT
    have new : ObjOk X.prog X.w (upd H s.heap.objs.size (.tup [.int (i : Nat), x])) h'' s.heap.objs.size (.tup [.int (i : Nat), x]) :=
      ⟨by show 2 ≤ sizeLine; decide, [.int i tk, v1], .cons ⟨_, rfl⟩ (.cons ru .nil), ⟨_, hT2, rfl, _, rfl⟩⟩
    have I1 : Inv X pins σ (upd H s.heap.objs.size (.tup [.int (i : Nat), x])) { s with heap := h'', toks := tk + 1 } :=
      I.turnedNew (ch := [N + 1, N]) (fun b ob hb q => (sb.2 b (fun z => hb (by simp [z]))).trans (hk b ob (fun z => hb (by simp [z])) (fun z => hb (by simp [z])) q)) free (Nat.le_refl _) new
    refine ⟨.ref s.heap.objs.size, _, I1, rfl, ⟨_, x, rfl, I.hok.fresh (Nat.le_refl _), rfl, fun ys hy => by rw [I.sqK_inj hy qx]; exact ex⟩, ⟨⟨v1, ?_⟩, itK_keep st1.1 fun o q => (sb.2 N (Nat.ne_of_lt (Nat.lt_succ_self N))).trans q⟩, fun b hb => ?_⟩
    · have e1 : ((i + 1 : Nat) : Int) = (i : Int) + 1 := by omega
      rw [e1]; exact he'
    · have hb' : b < s.heap.objs.size := by
        have e' : b = N + 1 ∨ b = N := by simpa using hb
        have el : N + 1 < s.heap.objs.size := el
        rcases e' with z | z <;> rw [z]
        · exact el
        · exact Nat.lt_trans (by omega) el
      rw [upd_ne (Nat.ne_of_lt hb')]
      exact (free b hb).1
  done := by
    intro X eP eW eK calm i pins s σ H E I free st stop
    subst eP eW eK
    obtain ⟨⟨old, he⟩, h1⟩ := st
    obtain ⟨xs, qx, lx⟩ := stop
    obtain ⟨its, rv, p1, _⟩ := I.sqK qx
    have l1 := rv.length
    have dr := drawsK (prog := X.prog) (w := X.w) (A := X.A.in1) k (I.ok.hd calm) N a (Nat.ne_of_lt ha) its.toArray
    have ei : i = its.toArray.size := by rw [List.size_toArray]; omega
    subst ei
    obtain ⟨f0, f1, f2, f3, f4, f5⟩ := free N (by simp)
    exact wpAny_pyNext_enum_endD dr he ⟨h1, p1⟩ fun h' eb => ⟨rfl, I.turned (t' := s.toks) (fun b o hb q => eb b o hb q) f0 f1 f3 f4 f5⟩
  self := fun A i s Q E st h => let ⟨⟨_, he⟩, _⟩ := st; wpAny_pyIter_enum he h
def iEnumK (K : PySem.W.Frag) (ta : TA) : TI := fun σ H R => ta σ H fun vs H1 => ∃ k a xs, vs = [.ref a] ∧ SqK k K H1 a xs ∧ R (IteK K k a) H1
theorem pi_enumK {X : Cx} {e : Expr} {ta : TA} {p pos tpos : Pos} {elts : List Expr} {kk : Nat} (hg : Gl X "enumerate") (hm : X.mg "enumerate" = none) (ha : PA X [e] ta) (hs : starEach [e] X.env = [(false, eval e X.env)] := by rfl) :
    PI X (.Tuple elts kk tpos) (.Call (.Name "enumerate" p) [e] [] pos) (iEnumK X.K ta) := by
  refine ⟨fun pins s σ H R I h => ?_⟩
  refine Call_ (ld_blt I hg hm boot_enumerate (PyProof.Rows.callWith_type1 (thn (ha.run pos pins s σ H _ I h) fun us s1 ⟨vs, H1, I1, r1, q1⟩ => ?_) hs rfl))
  obtain ⟨k, a, xs, rfl, qx, q⟩ := q1
  obtain ⟨u, rfl, r⟩ := vals1 r1
  obtain rfl : u = Value.ref a := r
  obtain ⟨its, rv, p1, la⟩ := I1.sqK qx
  refine enum_call (beginsK k a its.toArray) p1 fun h' he g1 hk => wpAny_pyIter_enum he ?_
  have I2 : Inv X pins σ H1 { s1 with heap := h' } := I1.kept (t' := s1.toks) hk
  refine ⟨s1.heap.objs.size + 1, [s1.heap.objs.size + 1, s1.heap.objs.size], _, _, H1, rfl, I2, turn_enumK (K := X.K) (k := k) (a := a) (N := s1.heap.objs.size) la, ⟨⟨.none, he⟩, ?_⟩, fun b hb => ?_, q⟩
  · cases k with
    | true => exact ⟨_, g1, rfl, rfl⟩
    | false => exact ⟨_, g1, rfl, rfl⟩
  · have e' : b = s1.heap.objs.size + 1 ∨ b = s1.heap.objs.size := by simpa using hb
    have hle : s1.heap.objs.size ≤ b := by
      rcases e' with z | z
      · rw [z]; exact Nat.le_add_right _ _
      · rw [z]; exact Nat.le_refl _
    exact I1.fpOk hle (I1.hok.fresh hle)
end L2
namespace Va
open PySem PySem.Spec PyProof.Rows L2 Ind RowK
def enumD (xs : List D) : List D := xs.zipIdx.map fun p => .tup [.int (p.2 : Nat), p.1]
theorem enumD_get {xs : List D} {i : Nat} {d : D} (h : xs[i]? = some d) : (enumD xs)[i]? = some (.tup [.int (i : Nat), d]) := by
  unfold enumD
  rw [List.getElem?_map, List.getElem?_zipIdx, h]
  simp
theorem enumD_len (xs : List D) : (enumD xs).length = xs.length := by simp [enumD]
def vEnum (t : VTA) : VI := fun E Q => t E fun ds E1 => match ds with
  | [d] => itD d fun xs => (∀ x, d ≠ .str x) ∧ (∀ x, d ≠ .dk x) ∧ Q (enumD xs) E1
  | _ => False
section
variable {X : Cx} {S : Sg} {e : Expr} {p pos tpos : Pos}
theorem vi_enum {elts : List Expr} {kk : Nat} {t : VTA} (hK : S.K = X.K) (hg : Gl X "enumerate") (hm : X.mg "enumerate" = none) (ha : VA S X [e] t) (hs : starEach [e] X.env = [(false, eval e X.env)] := by rfl) :
    VIt S X (.Tuple elts kk tpos) (.Call (.Name "enumerate" p) [e] [] pos) (vEnum t) := by
  refine pi_weak (pi_enumK hg hm ha hs) ?_
  rintro σ H Q ⟨Γ, E, Q0, ok, rp, ht, k⟩
  refine ⟨Γ, E, _, ok, rp, ht, fun ds E1 hq vs H1 kq1 rp1 hvs => ?_⟩
  have eK : X.K = Γ.K := (ok.k.trans hK).symm
  match ds, hq, vs, hvs with
  | [d], hq, [v1], .cons h1 .nil =>
    obtain ⟨xs, ex, n1, n3, hq⟩ := itD_eq hq
    obtain ⟨k1, a1, us, rfl, r1, st1⟩ := seqOf h1 ex n1 n3
    refine ⟨k1, a1, us, rfl, by rw [eK]; exact st1 _ (Kq.refl _), k _ _ hq _ _ kq1 rp1 ?_⟩
    have lz := enumD_len xs
    refine ⟨fun i H' hi q => ?_, fun i H' x H2 hi q y => ?_, fun H' q => ?_⟩
    · have hx : i < us.length := by rw [r1.len]; omega
      exact ⟨us, _, by rw [eK]; exact st1 _ q, List.getElem?_eq_getElem hx⟩
    · obtain ⟨T, x1, rfl, nT, rfl, f1⟩ := y
      have g1 := f1 us (by rw [eK]; exact st1 _ q)
      obtain ⟨dx, e1, rx⟩ := r1.getV g1
      have sm := same_upd (o := .tup [V.int (i : Nat), x1]) nT
      have kq2 : Kq H1 (upd H' T (.tup [V.int (i : Nat), x1])) := q.trans (.same sm)
      exact ⟨.tup [.int (i : Nat), dx], enumD_get e1, .tup (.of upd_same) (.cons (.int _) (.cons (Rp.kq kq2 _ _ rx) .nil)), sm⟩
    · exact ⟨us, by rw [eK]; exact st1 _ q, by rw [lz, r1.len]⟩
end
end Va
set_option Elab.async false
set_option linter.all false
set_option maxRecDepth 100000
set_option maxHeartbeats 4000000
namespace Va
open PySem PySem.Spec PyProof.Rows L2 Ind RowK PySem.W
def inC (os ch : List Row) (i : Nat) : Bool := match os[i]? with
  | some o => decide (o ∈ ch)
  | none => false
def vOf (os : List Row) (o : Row) : D := (lookK (digs os os.length) (strD o)).getD .non
theorem vOf_at {os : List Row} (nd : os.Nodup) {i : Nat} {o : Row} (h : os[i]? = some o) : vOf os o = .int ((2 ^ i : Nat) : Int) := by
  unfold vOf
  rw [digs_look nd h]
  rfl
theorem chosen_pl {os ch : List Row} (nd : os.Nodup) : ∀ k, k ≤ os.length → ((os.take k).filter fun o => decide (o ∈ ch)).map (vOf os) = plD (inC os ch) k
  | 0, _ => rfl
  | k + 1, h => by
    have eo : os[k]? = some (os[k]'(by omega)) := List.getElem?_eq_getElem (by omega)
    have ih := chosen_pl (ch := ch) nd k (by omega)
    by_cases hc : os[k]'(by omega) ∈ ch
    · have hi : inC os ch k = true := by unfold inC; rw [eo]; exact decide_eq_true hc
      rw [filt_T (p := fun o => decide (o ∈ ch)) eo (decide_eq_true hc), List.map_append, ih, plD_T hi, ← vOf_at nd eo]
      rfl
    · have hi : inC os ch k = false := by unfold inC; rw [eo]; exact decide_eq_false hc
      rw [filt_F (p := fun o => decide (o ∈ ch)) eo (decide_eq_false hc), ih, plD_F hi]
theorem sub_rows {r ss : List Row} (nd : ss.Nodup) (h : r.Sublist ss) : ss.filter (fun n => decide (n ∈ r)) = r := by
  induction h with
  | slnil => rfl
  | @cons l1 l2 a hs ih =>
    have nd := List.nodup_cons.mp nd
    rw [List.filter_cons_of_neg (by simpa using fun z => nd.1 (hs.subset z)), ih nd.2]
  | @cons_cons l1 l2 a hs ih =>
    have nd := List.nodup_cons.mp nd
    rw [List.filter_cons_of_pos (by simp)]
    have e : (l2.filter fun n => decide (n ∈ a :: l1)) = l2.filter fun n => decide (n ∈ l1) := List.filter_congr fun n hn => decide_eq_decide.mpr ⟨fun h => by
      rcases List.mem_cons.mp h with rfl | h
      · exact absurd hn nd.1
      · exact h, List.mem_cons_of_mem _⟩
    rw [e, ih nd.2]
theorem chosen_all {os ch : List Row} (nd : os.Nodup) (hs : ch.Sublist os) : ch.map (vOf os) = plD (inC os ch) os.length := by
  have := chosen_pl (ch := ch) nd os.length (Nat.le_refl _)
  rwa [List.take_length, sub_rows nd hs] at this
def imB (os ch : List Row) (c : Case) : Bool := os.all fun o => !agr c o || decide (o ∈ ch)
theorem im_dec (os ch : List Row) (c : Case) : decide (Builtin.bitOr (num (bt os c) os.length : Int) (num (inC os ch) os.length : Int) = (num (inC os ch) os.length : Int)) = imB os ch c := by
  rw [Bool.eq_iff_iff, decide_eq_true_eq, bitOr_nn (Int.natCast_nonneg _) (Int.natCast_nonneg _), Int.toNat_natCast, Int.toNat_natCast]
  have e : ((num (bt os c) os.length ||| num (inC os ch) os.length : Nat) : Int) = (num (inC os ch) os.length : Int) ↔ num (bt os c) os.length ||| num (inC os ch) os.length = num (inC os ch) os.length := by omega
  rw [e, num_sub]
  unfold imB
  rw [List.all_eq_true]
  constructor
  · intro h o ho
    obtain ⟨i, hi, rfl⟩ := List.mem_iff_getElem.mp ho
    have := h i hi
    unfold bt inC at this
    rw [List.getElem?_eq_getElem hi] at this
    cases ha : agr c os[i] with
    | false => rfl
    | true => simpa [ha] using this ha
  · intro h i hi hb
    unfold bt at hb
    unfold inC
    rw [List.getElem?_eq_getElem hi] at hb ⊢
    have := h _ (List.getElem_mem hi)
    have hb : agr c os[i] = true := hb
    simpa [hb] using this
theorem pd_key (c : Case) : (D.tup [.int c.length, .lst (c.map fun p => D.tup [.str p.1, .bl (!p.2)])]).pd = .tuple [.int c.length, .list (c.map fun p => .tuple [.str p.1, .bool (!p.2)])] := by
  show PyData.tuple [.int c.length, .list (pdL (c.map fun p => D.tup [.str p.1, .bl (!p.2)]))] = _
  rw [pdL_map, List.map_map]
  rfl
theorem alike_ps : ∀ (c d : Case), alikeAll (c.map fun p => PyData.tuple [.str p.1, .bool (!p.2)]) (d.map fun p => PyData.tuple [.str p.1, .bool (!p.2)]) = true
  | [], _ => by simp [alikeAll]
  | _ :: _, [] => by simp [alikeAll]
  | p :: c, q :: d => by
    rw [List.map_cons, List.map_cons, alikeAll, alike_ps c d]
    simp [alike, alikeAll]
theorem depth_ps : ∀ c : Case, PyData.depthAll (c.map fun p => PyData.tuple [.str p.1, .bool (!p.2)]) ≤ 2
  | [] => by simp [PyData.depthAll]
  | p :: c => by
    have := depth_ps c
    rw [List.map_cons]
    simp [PyData.depthAll, PyData.depth]
    omega
end Va
namespace Va
open PySem PySem.Spec PyProof.Rows L2 Ind
theorem not_take {α : Type} {A : List α} (nd : A.Nodup) {i : Nat} {x : α} (e : A[i]? = some x) : x ∉ A.take i := fun h => by
  obtain ⟨j, hj, e3⟩ := List.mem_iff_getElem.mp h
  rw [List.length_take] at hj
  rw [List.getElem_take] at e3
  have hk := List.getElem?_eq_some_iff.mp e
  exact (List.pairwise_iff_getElem.mp nd j i (by omega) hk.1 (by omega)) (e3.trans hk.2.symm)
end Va
set_option Elab.async false
set_option linter.all false
set_option maxRecDepth 100000
set_option maxHeartbeats 2000000
namespace Va
open PySem PySem.Spec PyProof.Rows L2 Ind
local macro_rules | `(tactic| walk_at "cn") => `(tactic| first
  | assumption
  | omega
  | exact dm (by omega)
  | exact line (by simp)
  | exact line (by omega)
  | exact line (by simp only [len_app, len_one]; omega)
  | exact small_div (by omega) (by omega)
  | solve_by_elim
  | exact Or.inr ⟨by omega, by omega⟩
  | exact Or.inl ⟨by omega, by omega⟩
  | exact ⟨by omega, by omega⟩
  | decide)
local macro_rules | `(tactic| walk_at "st") => `(tactic| repeat (first
  | refine ⟨_, rfl, ?_⟩
  | refine ⟨_, _, rfl, rfl, ?_⟩
  | refine ⟨_, _, rfl, ?_⟩
  | refine .inl ⟨_, rfl, ?_⟩
  | refine And.intro rfl ?_
  | refine And.intro (by walk_at "cn") ?_))
local macro_rules | `(tactic| walk_at "fz") => `(tactic| repeat (first | exact Fz.refl | apply Fz.upd))
local macro_rules | `(tactic| walk_at "hl") => `(tactic| ((repeat rw [upd_ne (by assumption)]); assumption))
local macro_rules | `(tactic| walk_at "fy") => `(tactic| (intro b o n1 h; (repeat rw [upd_ne n1]); exact h))
local macro_rules | `(tactic| walk_at "wh") => `(tactic| (conv => whnf))
local macro_rules | `(tactic| walk_at "cv") => `(tactic| first
  | rfl
  | assumption
  | omega
  | exact dm (by omega)
  | exact small_div (by omega) (by omega)
  | (simp only [len_app, one_len, len_one, List.length_append, List.length_map, List.length_cons, List.length_nil]; omega)
  | exact Or.inr ⟨by omega, by omega⟩
  | exact Or.inl ⟨by omega, by omega⟩
  | exact ⟨by omega, by omega⟩
  | decide)
local macro_rules | `(tactic| walk_at "vv") => `(tactic| repeat (refine And.intro (by walk_at "cv") ?_))
local macro_rules | `(tactic| walk_at "sk") => `(tactic| repeat (first
  | refine wayT ?_
  | refine wayF ?_
  | refine skipT (by omega) ?_
  | refine skipF (by omega) ?_
  | refine skipT (by decide) ?_
  | refine skipF (by decide) ?_
  | refine ⟨_, (show tyNames _ = some _ from rfl), ?_⟩
  | refine And.intro (by walk_at "cv") ?_))
local macro_rules | `(tactic| walk_at "s0") => `(tactic| first
  | refine wayT ?_
  | refine wayF ?_
  | refine skipT (by omega) ?_
  | refine skipF (by omega) ?_
  | refine skipT (by decide) ?_
  | refine skipF (by decide) ?_
  | refine ⟨_, (show tyNames _ = some _ from rfl), ?_⟩
  | refine And.intro (by walk_at "cv") ?_)
local macro_rules | `(tactic| walk_at "s1") => `(tactic| try (walk_at "s0"; walk_at "wh"))
local macro_rules | `(tactic| walk_at "go") => `(tactic| (walk_at "wh"; repeat (walk_at "s0"; walk_at "wh")))
def mCond : VM := fun ds c Q => ∃ (ns : List Tx) (os ch : List Row), ds = [.tup (ns.map .str), .tup (os.map strD), .tup (ch.map strD)] ∧ ns.Nodup ∧ ns.length ≤ 9 ∧ os.length ≤ 1000 ∧ os ≠ [] ∧ os.Nodup ∧ ch.Sublist os ∧ (∀ n ∈ ns, tOk n) ∧ ∀ M R, M.Perm (minl os ch ns.reverse) → Kept os M R M.reverse → Q (.tup (R.map caseD)) c
theorem lay_ps : ∀ {c : Case}, (∀ p ∈ c, tOk p.1) → PyData.canLayAll0 (c.map fun p => PyData.tuple [.str p.1, .bool (!p.2)]) = true
  | [], _ => by simp [PyData.canLayAll0]
  | p :: c, h => by
    have ih := lay_ps (c := c) fun q hq => h q (List.mem_cons_of_mem _ hq)
    simp [PyData.canLayAll0, PyData.canLay0, ih, (h p (List.mem_cons_self ..)).ok]
theorem key_pd (c : Case) : (keyC c).pd = .tuple [.int c.length, .list (c.map fun p => .tuple [.str p.1, .bool (!p.2)])] := pd_key c
theorem key_lay {c : Case} (h : ∀ p ∈ c, tOk p.1) : (keyC c).pd.canLay0 = true ∧ (keyC c).pd.depth ≤ 8 := by
  have h1 := lay_ps h
  have h2 := depth_ps c
  rw [key_pd]
  refine ⟨by simp [PyData.canLay0, PyData.canLayAll0, h1], ?_⟩
  simp [PyData.depth, PyData.depthAll]
  omega
theorem key_alike (c d : Case) : W.alike (keyC c).pd (keyC d).pd = true := by
  rw [key_pd, key_pd]
  simp [W.alike, W.alikeAll, alike_ps]
theorem case_lift {M0 : List Case} {ps : List (D × D)} (h : ps.Perm ((M0.map keyC).zip (M0.map caseD))) : ∃ M : List Case, M.Perm M0 ∧ M.map caseD = ps.map fun x => x.2 := by
  obtain ⟨M, pm, em⟩ := L2.perm_lift (fun c => (keyC c, caseD c)) h M0 (by rw [List.zip_map']; )
  refine ⟨M, pm, ?_⟩
  rw [← em, List.map_map]
  rfl
section
variable {P : Program} {w : World} {K : PySem.W.Frag} {mg : PySem.Str → Option Value} {base : Heap}
theorem ok_condition_of (T : Txt P K mg) (TB__is_minimal : GxR.TabB base mg T.cc__is_minimal T.pp__is_minimal) : FnOk P w K mg base CX0 4 T.a_condition_of T.d_condition_of ["undecided", "possible", "chosen"] (spV (Sx T) mCond) := by
  have G__agreeing_outcomes := ok__agreeing_outcomes (P := P) (w := w) (base := base) T
  have G__needed_cases := ok__needed_cases (P := P) (w := w) (base := base) T
  have G__is_minimal := ok__is_minimal (P := P) (w := w) (base := base) T TB__is_minimal
  have G__place_of_case := ok__place_of_case (P := P) (w := w) (base := base) T
  refine def_v (S := Sx T) (N := N_condition_of) T.F_condition_of sc_condition_of rfl (fun ds c Q h => by obtain ⟨ns, os, ch, rfl, _⟩ := h; first | rfl | assumption) (fun cdv A outer s H E hr => (vss_cons (vs_set (i := 3) sc_condition_of.nd rfl (.inr rfl) (fe_of (ve_dcN (P := P) (w := w) (own := [("place", 8), ("outcome", 9)]) rfl rfl rfl hr.units rfl sc_condition_of.nd (vi_enum rfl (by rfl) T.z_enumerate (va_cons (ve_name (pv 1)) va_nil)) (blkOk_by (own := [("place", 8), ("outcome", 9)]) (N := N_condition_of) (sc := defScope s_condition_of) (by decide +kernel)) (fun _ _ _ _ _ => (vg_tup 2 rfl rfl (vgs_cons (vg_name (i := 8) [8, 9] (by decide) sc_condition_of.nd rfl (.inl rfl)) (vgs_cons (vg_name (i := 9) [8, 9] (by decide) sc_condition_of.nd rfl (.inl rfl)) (vgs_nil [8, 9]))) (by rfl) (by rfl))) (fun _ _ _ _ _ => vts_nil) (fun _ _ _ _ _ => (ve_name (pv 9))) (fun _ _ _ _ _ => (ve_of (fe_op o_shl ve_int (be_name (pv 8))))))))
      (vss_cons (vs_set (i := 4) sc_condition_of.nd rfl (.inr rfl) (pe_CB1 (c_sum rfl rfl) (fun hc ha => pe_callB hc (by rfl) T.z_sum boot_sum ha) (be_of (ve_of (fe_fz 3 (fe_lc (own := [("outcome", 9)]) rfl sc_condition_of.nd (vi_any rfl (ve_name (pv 2))) (blkOk_by (own := [("outcome", 9)]) (N := N_condition_of) (sc := defScope s_condition_of) (by decide +kernel)) (fun _ _ _ _ _ => (vg_name (i := 9) [9] (by decide) sc_condition_of.nd rfl (.inl rfl))) (fun _ _ _ _ _ => vts_nil) (fun _ _ _ _ _ => (ve_ixK (P := P) (w := w) rfl rfl rfl hr.units (pv 3) (ve_name (pv 9)) (fun _ _ => rfl)))))))))
      (vss_cons (vs_set (i := 5) sc_condition_of.nd rfl (.inl rfl) (fe_of (ve_call G__agreeing_outcomes (hr.mono (by omega)) (by rfl) T.g__agreeing_outcomes T.F__agreeing_outcomes.kp T.b__agreeing_outcomes (va_cons (ve_name (pv 0)) (va_cons (ve_name (pv 3)) va_nil)))))
      (vss_cons (vs_set (i := 6) sc_condition_of.nd rfl (.inr rfl) (fe_of (ve_fz 4 (ve_dcN (P := P) (w := w) (own := [("case", 10), ("found", 11)]) rfl rfl rfl hr.units rfl sc_condition_of.nd (vi_itemsK2 (P := P) (w := w) rfl rfl rfl (pv 5)) (blkOk_by (own := [("case", 10), ("found", 11)]) (N := N_condition_of) (sc := defScope s_condition_of) (by decide +kernel)) (fun _ _ _ _ _ => (vg_tup 2 rfl rfl (vgs_cons (vg_name (i := 10) [10, 11] (by decide) sc_condition_of.nd rfl (.inl rfl)) (vgs_cons (vg_name (i := 11) [10, 11] (by decide) sc_condition_of.nd rfl (.inl rfl)) (vgs_nil [10, 11]))) (by rfl) (by rfl))) (fun _ _ _ _ _ => (vts_one (vb_cmp (o_eq rfl hr.units) (ve_of (fe_op o_or (ve_name (pv 11)) (be_name (pv 4)))) (be_name (pv 4)) (nomark _)))) (fun _ _ _ _ _ => (ve_name (pv 10))) (fun _ _ _ _ _ => (ve_name (pv 11)))))))
      (vss_cons (vs_fz 6 (vs_setLc (i := 7) (own := [("case", 10)]) rfl sc_condition_of.nd rfl rfl (sw_true rfl rfl rfl (by decide +kernel)) (vi_keysK (P := P) (w := w) rfl rfl rfl (pv 6)) (blkOk_by (own := [("case", 10)]) (N := N_condition_of) (sc := defScope s_condition_of) (by decide +kernel)) (fun _ _ _ _ _ => (vg_name (i := 10) [10] (by decide) sc_condition_of.nd rfl (.inl rfl))) (fun _ _ _ _ _ => (vts_one (vb_tru rfl (be_of (ve_call G__is_minimal hr (by rfl) T.g__is_minimal T.F__is_minimal.kp T.b__is_minimal (va_cons (ve_name (pv 10)) (va_cons (ve_name (pv 6)) va_nil))))))) (fun _ _ _ _ _ => (ve_name (pv 10)))))
      (vss_one (vs_ret (ve_call G__needed_cases (hr.mono (by omega)) (by rfl) T.g__needed_cases T.F__needed_cases.kp T.b__needed_cases (va_cons (ve_of (fe_sortedDefD rfl G__place_of_case hr T.b__place_of_case (by rfl) T.z_sorted (by rfl) T.g__place_of_case (ve_name (pv 7)))) (va_cons (ve_name (pv 6)) va_nil))))))))))) ?_
  rintro ds c Q ⟨ns, os, ch, rfl, nd, hn, ho, ne, ndo, hs, hok, q⟩
  have hel : (enumD (os.map strD)).length = os.length := by rw [enumD_len, List.length_map]
  have hcl : ch.length ≤ os.length := hs.length_le
  obtain ⟨A, hA⟩ : ∃ A, A = ags os ns.reverse := ⟨_, rfl⟩
  have ndA : A.Nodup := by rw [hA]; exact ags_nd ((List.reverse_perm _).nodup_iff.mpr nd) ne
  have hAl : A.length ≤ 19683 := by
    rw [hA]
    have h1 := ags_len os ns.reverse
    have h2 : 3 ^ ns.reverse.length ≤ 3 ^ 9 := Nat.pow_le_pow_right (by decide) (by rw [List.length_reverse]; exact hn)
    have h3 : (3 : Nat) ^ 9 = 19683 := by decide
    rw [h3] at h2
    exact Nat.le_trans h1 h2
  have hcl2 : ∀ x ∈ A, x.length ≤ 9 := fun x hx => by
    have := case_len (os := os) (ms := ns.reverse) ne (by rw [← hA]; exact hx)
    rw [List.length_reverse] at this
    omega
  obtain ⟨I, hI⟩ : ∃ I, I = A.filter (imB os ch) := ⟨_, rfl⟩
  have ndI : I.Nodup := by rw [hI]; exact List.Pairwise.filter _ ndA
  have hIA : ∀ x ∈ I, x ∈ A := fun x hx => by rw [hI] at hx; exact (List.mem_filter.mp hx).1
  have hIl : I.length ≤ 19683 := by rw [hI]; exact Nat.le_trans (List.length_filter_le _ _) hAl
  refine seqI (fun E => E = ⟨[.v (.tup (ns.map .str)), .v (.tup (os.map strD)), .v (.tup (ch.map strD)), .v (.ob (NkS P w (digs os os.length))), .no, .no, .no, .no, .no, .no, .no, .no], c⟩) ?_ ?_
  · intro N hN
    walk_at "wh"
    refine ⟨nofun, nofun, by rw [hel]; omega, fun i acc k => Iv (acc = digs os i ∧ k = c), .a ⟨rfl, rfl⟩, ?_, ?_⟩
    · intro i d acc k ed iv la
      obtain ⟨rfl, rfl⟩ := iv.out
      have hi : i < os.length := by rw [← hel]; exact (List.getElem?_eq_some_iff.mp ed).1
      have eo : os[i]? = some os[i] := List.getElem?_eq_getElem hi
      rw [enumD_get (by rw [List.getElem?_map, eo]; rfl)] at ed
      cases ed
      refine ⟨rfl, ?_⟩
      walk_at "wh"
      refine wayT ?_
      walk_at "wh"
      refine ⟨⟨by omega, by omega, by decide⟩, ?_⟩
      walk_at "wh"
      refine ⟨rowK2 os[i], strD_key _, .a ⟨?_, rfl⟩⟩
      have e2 : (1 : Int) * 2 ^ ((i : Nat) : Int).toNat = ((2 ^ i : Nat) : Int) := by rw [Int.toNat_natCast, Int.one_mul, Int.natCast_pow]; rfl
      dsimp only [RV.d]
      rw [e2, digs_put ndo eo]
    · intro acc k iv la
      obtain ⟨rfl, rfl⟩ := iv.out
      rw [hel]
      exact hN _ rfl
  rintro E rfl
  refine seqI (fun E => E = ⟨[.v (.tup (ns.map .str)), .v (.tup (os.map strD)), .v (.tup (ch.map strD)), .v (.ob (NkS P w (digs os os.length))), .v (.int (num (inC os ch) os.length : Int)), .no, .no, .no, .no, .no, .no, .no], c⟩) ?_ ?_
  · intro N hN
    walk_at "wh"
    refine ⟨by rw [List.length_map]; omega, fun i acc q => Iv (acc = (ch.take i).map (vOf os) ∧ q = c), .a ⟨rfl, rfl⟩, ?_, ?_⟩
    · intro i d acc q2 ed iv la2
      obtain ⟨rfl, rfl⟩ := iv.out
      obtain ⟨o, eo, rfl⟩ := map_get ed
      obtain ⟨j, hj, ej⟩ := List.mem_iff_getElem.mp (hs.subset (List.mem_of_getElem? eo))
      have ej2 : os[j]? = some o := by rw [List.getElem?_eq_getElem hj, ej]
      walk_at "wh"
      refine wayT ?_
      walk_at "wh"
      refine ⟨digs os os.length, .inl rfl, ?_⟩
      walk_at "wh"
      refine ⟨.inl rfl, rowK2 o, _, strD_key o, digs_look ndo ej2, .a ⟨?_, rfl⟩⟩
      rw [take_more eo, List.map_append, ← vOf_at ndo ej2]
      rfl
    · intro acc q2 iv la2
      obtain ⟨rfl, rfl⟩ := iv.out
      rw [List.length_map, List.take_length, chosen_all ndo hs]
      walk_at "wh"
      refine ⟨_, plD_map _ _, ?_⟩
      rw [places_int]
      exact hN _ rfl
  rintro E rfl
  refine seqI (fun E => E = ⟨[.v (.tup (ns.map .str)), .v (.tup (os.map strD)), .v (.tup (ch.map strD)), .v (.ob (NkS P w (digs os os.length))), .v (.int (num (inC os ch) os.length : Int)), .v (.ob (NkS P w (ents os A))), .no, .no, .no, .no, .no, .no], c⟩) ?_ ?_
  · intro N hN
    walk_at "wh"
    refine ⟨ns, os, rfl, nd, hn, ho, ne, ?_⟩
    rw [← hA]
    exact hN _ rfl
  rintro E rfl
  refine seqI (fun E => E = ⟨[.v (.tup (ns.map .str)), .v (.tup (os.map strD)), .v (.tup (ch.map strD)), .v (.ob (NkS P w (digs os os.length))), .v (.int (num (inC os ch) os.length : Int)), .v (.ob (NkS P w (ents os A))), .v (.ob (NkS P w (ents os I))), .no, .no, .no, .no, .no], c⟩) ?_ ?_
  · intro N hN
    walk_at "wh"
    refine ⟨ents os A, rfl, by rw [List.length_map, ents_len]; omega, fun i acc q3 => Iv (acc = ents os ((A.take i).filter (imB os ch)) ∧ q3 = c), .a ⟨rfl, rfl⟩, ?_, ?_⟩
    · intro i d acc q3 ed iv la3
      obtain ⟨rfl, rfl⟩ := iv.out
      obtain ⟨⟨kd, vd⟩, e1, rfl⟩ := map_get ed
      obtain ⟨cc, ec, e2⟩ := map_get (f := fun c : Case => (caseD c, D.int (num (bt os c) os.length : Int))) e1
      cases e2
      refine ⟨rfl, ?_⟩
      walk_at "wh"
      rw [im_dec]
      refine both (fun e => ?_) (fun e => ?_)
      · walk_at "wh"
        refine ⟨caseK cc, caseD_key cc, .a ⟨?_, rfl⟩⟩
        rw [filt_T ec e]
        exact ents_put fun h => not_take ndA ec (List.mem_filter.mp h).1
      · exact .a ⟨by rw [filt_F ec e], rfl⟩
    · intro acc q3 iv la3
      obtain ⟨rfl, rfl⟩ := iv.out
      rw [List.length_map, ents_len, List.take_length, ← hI]
      exact hN _ rfl
  rintro E rfl
  refine seqI (fun E => E = ⟨[.v (.tup (ns.map .str)), .v (.tup (os.map strD)), .v (.tup (ch.map strD)), .v (.ob (NkS P w (digs os os.length))), .v (.int (num (inC os ch) os.length : Int)), .v (.ob (NkS P w (ents os A))), .v (.ob (NkS P w (ents os I))), .ol ((I.filter (minB I)).map caseD), .no, .no, .no, .no], c⟩) ?_ ?_
  · intro N hN
    walk_at "wh"
    refine ⟨ents os I, rfl, by rw [List.length_map, ents_len]; omega, fun i acc q4 => Iv (acc = ((I.take i).filter (minB I)).map caseD ∧ q4 = c), .a ⟨rfl, rfl⟩, ?_, ?_⟩
    · intro i d acc q4 ed iv la4
      obtain ⟨rfl, rfl⟩ := iv.out
      obtain ⟨⟨kd, vd⟩, e1, rfl⟩ := map_get ed
      obtain ⟨cc, ec, e2⟩ := map_get (f := fun c : Case => (caseD c, D.int (num (bt os c) os.length : Int))) e1
      cases e2
      have hcc := hcl2 _ (hIA _ (List.mem_of_getElem? ec))
      walk_at "wh"
      refine ⟨os, I, cc, rfl, ndI, by omega, ?_⟩
      walk_at "wh"
      refine both (fun e => ?_) (fun e => ?_)
      · walk_at "wh"
        refine .a ⟨?_, rfl⟩
        rw [filt_T ec e, List.map_append]
        rfl
      · refine .a ⟨?_, rfl⟩
        rw [filt_F ec e]
    · intro acc q4 iv la4
      obtain ⟨rfl, rfl⟩ := iv.out
      rw [List.length_map, ents_len, List.take_length]
      exact hN _ rfl
  rintro E rfl
  walk_at "wh"
  have hMA : ∀ x ∈ I.filter (minB I), x ∈ A := fun x hx => hIA _ (List.mem_filter.mp hx).1
  have hMok : ∀ x ∈ I.filter (minB I), ∀ p ∈ x, tOk p.1 := fun x hx p hp => by
    have h1 := ((mem_ags (os := os) (ns := ns.reverse) ne).mp (by rw [← hA]; exact hMA x hx)).1
    rw [List.reverse_reverse] at h1
    exact hok _ (h1.subset (List.mem_map_of_mem hp))
  have hMm : I.filter (minB I) = minl os ch ns.reverse := by
    rw [hI, hA]
    rfl
  have hMl : (I.filter (minB I)).length ≤ 19683 := Nat.le_trans (List.length_filter_le _ _) hIl
  have ndM : (I.filter (minB I)).Nodup := List.Pairwise.filter _ ndI
  have hMI : ∀ x ∈ I.filter (minB I), x ∈ I := fun x hx => (List.mem_filter.mp hx).1
  generalize hM0 : I.filter (minB I) = M0 at *
  refine ⟨M0.map keyC, by rw [List.length_map, List.length_map], fun k hk => ?_, fun d hd d' hd' => ?_, .inl fun d hd => ?_, fun i d k ed ek => ?_, fun ps hp hw => ?_⟩
  · obtain ⟨x, hx, rfl⟩ := List.mem_map.mp hk
    exact key_lay (hMok x hx)
  · rw [List.map_map] at hd hd'
    obtain ⟨x, _, rfl⟩ := List.mem_map.mp hd
    obtain ⟨y, _, rfl⟩ := List.mem_map.mp hd'
    exact key_alike x y
  · rw [List.map_map] at hd
    obtain ⟨x, _, rfl⟩ := List.mem_map.mp hd
    exact ⟨_, _, key_pd x⟩
  · obtain ⟨x, ex, rfl⟩ := map_get ed
    obtain ⟨y, ey, rfl⟩ := map_get ek
    rw [ex] at ey
    cases ey
    have := hcl2 _ (hMA _ (List.mem_of_getElem? ex))
    exact ⟨x, rfl, by omega, rfl, rfl⟩
  · obtain ⟨M, pm, em⟩ := case_lift hp
    rw [← em]
    walk_at "wh"
    refine ⟨os, I, M, rfl, ndI, pm.nodup_iff.mpr ndM, fun x hx => hMI _ (pm.mem_iff.mp hx), fun x hx => hMok _ (pm.mem_iff.mp hx), by rw [pm.length_eq]; omega, fun R hR => ?_⟩
    exact q M R (by rw [← hMm]; exact pm) hR
end
end Va
set_option Elab.async false
set_option linter.all false
set_option maxRecDepth 100000
set_option maxHeartbeats 2000000
namespace Va
open PySem PySem.Spec PyProof.Rows L2 Ind
local macro_rules | `(tactic| walk_at "cn") => `(tactic| first
  | assumption
  | omega
  | exact dm (by omega)
  | exact line (by simp)
  | exact line (by omega)
  | exact line (by simp only [len_app, len_one]; omega)
  | exact small_div (by omega) (by omega)
  | solve_by_elim
  | exact Or.inr ⟨by omega, by omega⟩
  | exact Or.inl ⟨by omega, by omega⟩
  | exact ⟨by omega, by omega⟩
  | decide)
local macro_rules | `(tactic| walk_at "st") => `(tactic| repeat (first
  | refine ⟨_, rfl, ?_⟩
  | refine ⟨_, _, rfl, rfl, ?_⟩
  | refine ⟨_, _, rfl, ?_⟩
  | refine .inl ⟨_, rfl, ?_⟩
  | refine And.intro rfl ?_
  | refine And.intro (by walk_at "cn") ?_))
local macro_rules | `(tactic| walk_at "fz") => `(tactic| repeat (first | exact Fz.refl | apply Fz.upd))
local macro_rules | `(tactic| walk_at "hl") => `(tactic| ((repeat rw [upd_ne (by assumption)]); assumption))
local macro_rules | `(tactic| walk_at "fy") => `(tactic| (intro b o n1 h; (repeat rw [upd_ne n1]); exact h))
local macro_rules | `(tactic| walk_at "wh") => `(tactic| (conv => whnf))
local macro_rules | `(tactic| walk_at "cv") => `(tactic| first
  | rfl
  | assumption
  | omega
  | exact dm (by omega)
  | exact small_div (by omega) (by omega)
  | (simp only [len_app, one_len, len_one, List.length_append, List.length_map, List.length_cons, List.length_nil]; omega)
  | exact Or.inr ⟨by omega, by omega⟩
  | exact Or.inl ⟨by omega, by omega⟩
  | exact ⟨by omega, by omega⟩
  | decide)
local macro_rules | `(tactic| walk_at "vv") => `(tactic| repeat (refine And.intro (by walk_at "cv") ?_))
local macro_rules | `(tactic| walk_at "sk") => `(tactic| repeat (first
  | refine wayT ?_
  | refine wayF ?_
  | refine skipT (by omega) ?_
  | refine skipF (by omega) ?_
  | refine skipT (by decide) ?_
  | refine skipF (by decide) ?_
  | refine ⟨_, (show tyNames _ = some _ from rfl), ?_⟩
  | refine And.intro (by walk_at "cv") ?_))
local macro_rules | `(tactic| walk_at "s0") => `(tactic| first
  | refine wayT ?_
  | refine wayF ?_
  | refine skipT (by omega) ?_
  | refine skipF (by omega) ?_
  | refine skipT (by decide) ?_
  | refine skipF (by decide) ?_
  | refine ⟨_, (show tyNames _ = some _ from rfl), ?_⟩
  | refine And.intro (by walk_at "cv") ?_)
local macro_rules | `(tactic| walk_at "s1") => `(tactic| try (walk_at "s0"; walk_at "wh"))
local macro_rules | `(tactic| walk_at "go") => `(tactic| (walk_at "wh"; repeat (walk_at "s0"; walk_at "wh")))
def casesD (R : List Case) : D := .tup (R.map caseD)
def mHolds : VM := fun ds c Q => ∃ (R : List Case) (o : Row), ds = [casesD R, strD o] ∧ (∀ x ∈ R, x.length ≤ 1000) ∧ Q (.bl (R.any fun x => agr x o)) c
def exB (R : List Case) (ch : List Row) (o : Row) : Bool := (R.any fun x => agr x o) == decide (o ∈ ch)
def mExact : VM := fun ds c Q => ∃ (R : List Case) (os ch : List Row), ds = [casesD R, .tup (os.map strD), .lst (ch.map strD)] ∧ R.length ≤ 20000 ∧ (∀ x ∈ R, x.length ≤ 1000) ∧ (∀ o ∈ os, ∀ n ∈ o, tOk n) ∧ (∀ o ∈ ch, ∀ n ∈ o, tOk n) ∧ Q (.bl (os.all (exB R ch))) c
theorem some_left (R : List Case) (o : Row) : decide ((((R.filter fun x => agr x o).map caseD).length : Int) > 0) = R.any fun x => agr x o := by
  rw [List.length_map, Bool.eq_iff_iff, decide_eq_true_eq, List.any_eq_true]
  constructor
  · intro h
    obtain ⟨x, hx⟩ := List.exists_mem_of_length_pos (l := R.filter fun x => agr x o) (by omega)
    obtain ⟨h1, h2⟩ := List.mem_filter.mp hx
    exact ⟨x, h1, h2⟩
  · rintro ⟨x, h1, h2⟩
    have := List.length_pos_of_mem (List.mem_filter.mpr ⟨h1, h2⟩ : x ∈ R.filter fun x => agr x o)
    omega
def mLets : VM := fun ds c Q => ∃ (x : Case) (os ch : List Row), ds = [caseD x, .tup (os.map strD), .lst (ch.map strD)] ∧ x.length ≤ 1000 ∧ (∀ o ∈ os, ∀ n ∈ o, tOk n) ∧ (∀ o ∈ ch, ∀ n ∈ o, tOk n) ∧ (∃ o ∈ os, agr x o = true ∧ o ∉ ch) ∧ Q (.bl true) c
def mNeed2 : VM := fun ds c Q => ∃ (R : List Case) (os ch : List Row), ds = [casesD R, .tup (os.map strD), .lst (ch.map strD)] ∧ R.length ≤ 20000 ∧ (∀ x ∈ R, x.length ≤ 1000) ∧ (∀ o ∈ os, ∀ n ∈ o, tOk n) ∧ (∀ o ∈ ch, ∀ n ∈ o, tOk n) ∧ (∀ k x, R[k]? = some x → os.all (exB (R.eraseIdx k) ch) = false) ∧ (∀ x ∈ R, ∀ i, i < x.length → ∃ o ∈ os, agr (x.eraseIdx i) o = true ∧ o ∉ ch) ∧ Q (.bl true) c
theorem without2 (R : List Case) (i : Nat) : D.tup (cutD (R.map caseD) none (some (0 + (i : Int))) ++ cutD (R.map caseD) (some (0 + (i : Int) + 1)) none) = casesD (R.eraseIdx i) := by
  rw [show (0 + (i : Int)) = ((i : Nat) : Int) by omega, show ((i : Nat) : Int) + 1 = ((i + 1 : Nat) : Int) by omega, cutD_to, cutD_from]
  unfold casesD
  rw [List.eraseIdx_eq_take_drop_succ, List.map_append, List.map_take, List.map_drop]
section
variable {P : Program} {w : World} {K : PySem.W.Frag} {mg : PySem.Str → Option Value} {base : Heap}
theorem ok_holds_in (T : Txt P K mg) (TB_holds_in : GxR.TabB base mg T.cc_holds_in T.pp_holds_in) (TB__agrees : GxR.TabB base mg T.cc__agrees T.pp__agrees) : FnOk P w K mg base CX0 5 T.a_holds_in T.d_holds_in ["condition", "outcome"] (spV (Sx T) mHolds) := by
  have G__agrees := ok__agrees (P := P) (w := w) (base := base) T TB__agrees
  refine def_vC (S := Sx T) (N := N_holds_in) T.C_holds_in sc_holds_in rfl (fun ds c Q h => by obtain ⟨R, o, rfl, _⟩ := h; first | rfl | assumption) (fun A outer s H E hr => (vss_one (vs_ret (ve_fz 1 (ve_any (own := [("case", 2)]) (by simp) rfl sc_holds_in.nd hr TB_holds_in rfl (by rfl) T.z_any PyProof.Rows.boot_any (blkOk_by (own := [("case", 2)]) (N := N_holds_in) (sc := defScope s_holds_in) (by decide +kernel)) (by decide +kernel) (by rfl) rfl (vi_any rfl (ve_name (pv 0))) (fun _ => rfl) (fun _ _ _ _ _ _ => (vg_name (i := 2) [2] (by decide) sc_holds_in.nd rfl (.inl rfl))) (fun _ _ _ _ _ _ => (ve_call G__agrees (IndG.room_gen (hr.mono (by omega))) (by rfl) T.g__agrees T.F__agrees.kp T.b__agrees (va_cons (ve_name (pv 1)) (va_cons (ve_name (pv 2)) va_nil))))))))) ?_
  rintro ds c Q ⟨R, o, rfl, hl, q⟩
  walk_at "wh"
  refine ⟨atB (fun x : Case => agr x o) R, fun i d ed => ?_, ?_⟩
  · obtain ⟨x, ex, rfl⟩ := map_get ed
    rw [atB_of ex]
    exact ⟨o, x, rfl, hl _ (List.mem_of_getElem? ex), rfl, rfl⟩
  · rw [List.length_map, any_range]
    exact q
theorem ok__law_exact (T : Txt P K mg) : FnOk P w K mg base CX0 2 T.a__law_exact T.d__law_exact ["cases", "possible", "chosen"] (spV (Sx T) mExact) := by
  have G__law_agrees := ok__law_agrees (P := P) (w := w) (base := base) T
  refine def_v (S := Sx T) (N := N__law_exact) T.F__law_exact sc__law_exact rfl (fun ds c Q h => by obtain ⟨R, os, ch, rfl, _⟩ := h; first | rfl | assumption) (fun cdv A outer s H E hr => (vss_cons (vs_for PassesOwn.never rfl (vi_any rfl (ve_name (pv 1))) (vg_name (i := 3) [3] (by decide) sc__law_exact.nd rfl (.inr rfl))
      (vss_cons (vs_set (i := 4) sc__law_exact.nd rfl (.inl rfl) (fe_cmp o_gt (ve_of (pe_CB1 (c_len rfl) (fun hc ha => pe_callB hc (by rfl) T.z_len boot_len ha) (be_of (ve_of (fe_fz 3 (fe_lc (own := [("case", 5)]) rfl sc__law_exact.nd (vi_any rfl (ve_name (pv 0))) (blkOk_by (own := [("case", 5)]) (N := N__law_exact) (sc := defScope s__law_exact) (by decide +kernel)) (fun _ _ _ _ _ => (vg_name (i := 5) [5] (by decide) sc__law_exact.nd rfl (.inl rfl))) (fun _ _ _ _ _ => (vts_one (vb_tru rfl (be_of (ve_call G__law_agrees hr (by rfl) T.g__law_agrees T.F__law_agrees.kp T.b__law_agrees (va_cons (ve_name (pv 5)) (va_cons (ve_name (pv 3)) va_nil))))))) (fun _ _ _ _ _ => (ve_name (pv 5))))))))) (be_of ve_int) (nomark _)))
      (vss_one (vs_if (vb_cmp (o_ne rfl hr.units) (ve_name (pv 4)) (be_of (ve_of (fe_cmp (o_in rfl (hu65 hr)) (ve_name (pv 3)) (be_name (pv 2)) (by rfl)))) (nomark _)) (vss_one (vs_ret ve_bl)) vss_nil))))
      (vss_one (vs_ret ve_bl)))) ?_
  rintro ds c Q ⟨R, os, ch, rfl, hR, hl, ho, hc, q⟩
  walk_at "wh"
  refine ⟨fun i E => Iv (∃ (y3 y4 y5 : SV), E = ⟨[.v (casesD R), .v (.tup (os.map strD)), .v (.lst (ch.map strD)), y3, y4, y5], c⟩ ∧ (os.take i).all (exB R ch) = true), .a ⟨_, _, _, rfl, rfl⟩, ?_, ?_⟩
  · intro i d E ed iv
    obtain ⟨y3, y4, y5, rfl, hall⟩ := iv.out
    obtain ⟨o, eo, rfl⟩ := map_get ed
    refine seqI (fun E => E = ⟨[.v (casesD R), .v (.tup (os.map strD)), .v (.lst (ch.map strD)), .v (strD o), .v (.bl (R.any fun x => agr x o)), y5], c⟩) ?_ ?_
    · intro N hN
      walk_at "wh"
      refine ⟨by rw [List.length_map]; omega, fun j acc k => Iv (acc = ((R.take j).filter fun x => agr x o).map caseD ∧ k = c), .a ⟨rfl, rfl⟩, ?_, ?_⟩
      · intro j d acc k ed2 iv la
        obtain ⟨rfl, rfl⟩ := iv.out
        obtain ⟨x, ex, rfl⟩ := map_get ed2
        walk_at "wh"
        refine ⟨o, x, rfl, hl _ (List.mem_of_getElem? ex), ?_⟩
        walk_at "wh"
        refine both (fun e => ?_) (fun e => ?_)
        · walk_at "wh"
          refine .a ⟨?_, rfl⟩
          rw [filt_T ex e, List.map_append]
          rfl
        · refine .a ⟨?_, rfl⟩
          rw [filt_F ex e]
      · intro acc k iv la
        obtain ⟨rfl, rfl⟩ := iv.out
        rw [List.length_map, List.take_length]
        walk_at "wh"
        refine hN _ ?_
        rw [← some_left R o]
        rfl
    · rintro E rfl
      walk_at "wh"
      refine ⟨shaped_row (ho _ (List.mem_of_getElem? eo)), shaped_rows hc, ?_⟩
      have es := in_rows o ch
      walk_at "wh"
      refine both (fun e => ?_) (fun e => ?_)
      · walk_at "wh"
        have ef : exB R ch o = false := by
          unfold exB
          rw [es] at e
          revert e
          cases R.any (fun x => agr x o) <;> cases decide (o ∈ ch) <;> decide
        have hf : os.all (exB R ch) = false := by
          rw [Bool.eq_false_iff]
          intro z
          rw [List.all_eq_true.mp z o (List.mem_of_getElem? eo)] at ef
          cases ef
        rw [← hf]
        exact q
      · walk_at "wh"
        have ef : exB R ch o = true := by
          unfold exB
          rw [es] at e
          revert e
          cases R.any (fun x => agr x o) <;> cases decide (o ∈ ch) <;> decide
        refine .a ⟨_, _, _, rfl, ?_⟩
        rw [take_more eo, List.all_append, hall]
        simp [ef]
  · intro E iv
    obtain ⟨y3, y4, y5, rfl, hall⟩ := iv.out
    rw [List.length_map, List.take_length] at hall
    walk_at "wh"
    rw [← hall]
    exact q
theorem ok__law_lets_in (T : Txt P K mg) : FnOk P w K mg base CX0 2 T.a__law_lets_in T.d__law_lets_in ["case", "possible", "chosen"] (spV (Sx T) mLets) := by
  have G__law_agrees := ok__law_agrees (P := P) (w := w) (base := base) T
  refine def_v (S := Sx T) (N := N__law_lets_in) T.F__law_lets_in sc__law_lets_in rfl (fun ds c Q h => by obtain ⟨x, os, ch, rfl, _⟩ := h; first | rfl | assumption) (fun cdv A outer s H E hr => (vss_cons (vs_for PassesOwn.never rfl (vi_any rfl (ve_name (pv 1))) (vg_name (i := 3) [3] (by decide) sc__law_lets_in.nd rfl (.inl rfl))
      (vss_one (vs_if (vb_w (vw_and (vb_tru rfl (be_of (ve_call G__law_agrees hr (by rfl) T.g__law_agrees T.F__law_agrees.kp T.b__law_agrees (va_cons (ve_name (pv 0)) (va_cons (ve_name (pv 3)) va_nil))))) (vw_and1 (vb_cmp (o_nin rfl (hu65 hr)) (ve_name (pv 3)) (be_name (pv 2)) (by rfl))))) (vss_one (vs_ret ve_bl)) vss_nil)))
      (vss_one (vs_ret ve_bl)))) ?_
  rintro ds c Q ⟨x, os, ch, rfl, hl, ho, hc, hx, q⟩
  walk_at "wh"
  refine ⟨fun i E => Iv (∃ (y3 : SV), E = ⟨[.v (caseD x), .v (.tup (os.map strD)), .v (.lst (ch.map strD)), y3], c⟩ ∧ ∀ o ∈ os.take i, ¬ (agr x o = true ∧ o ∉ ch)), .a ⟨_, rfl, fun o h => nomatch h⟩, ?_, ?_⟩
  · intro i d E ed iv
    obtain ⟨y3, rfl, hall⟩ := iv.out
    obtain ⟨o, eo, rfl⟩ := map_get ed
    walk_at "wh"
    refine ⟨o, x, rfl, hl, ?_⟩
    walk_at "wh"
    refine both (fun e => ?_) (fun e => ?_)
    · walk_at "wh"
      refine ⟨shaped_row (ho _ (List.mem_of_getElem? eo)), shaped_rows hc, ?_⟩
      rw [in_rows]
      walk_at "wh"
      refine both (fun e2 => ?_) (fun e2 => ?_)
      · walk_at "wh"
        exact q
      · walk_at "wh"
        refine .a ⟨_, rfl, fun o2 ho2 => ?_⟩
        rw [take_more eo] at ho2
        rcases List.mem_append.mp ho2 with h | h
        · exact hall o2 h
        · rw [List.mem_singleton.mp h]
          rintro ⟨_, z⟩
          rw [decide_eq_false z] at e2
          cases e2
    · walk_at "wh"
      refine wayF ?_
      walk_at "wh"
      refine .a ⟨_, rfl, fun o2 ho2 => ?_⟩
      rw [take_more eo] at ho2
      rcases List.mem_append.mp ho2 with h | h
      · exact hall o2 h
      · rw [List.mem_singleton.mp h]
        rintro ⟨z, _⟩
        rw [e] at z
        cases z
  · intro E iv
    obtain ⟨y3, rfl, hall⟩ := iv.out
    rw [List.length_map, List.take_length] at hall
    obtain ⟨o, h1, h2⟩ := hx
    exact absurd h2 (hall o h1)
theorem ok__law_needed (T : Txt P K mg) : FnOk P w K mg base CX0 3 T.a__law_needed T.d__law_needed ["cases", "possible", "chosen"] (spV (Sx T) mNeed2) := by
  have G__law_exact := ok__law_exact (P := P) (w := w) (base := base) T
  have G__law_lets_in := ok__law_lets_in (P := P) (w := w) (base := base) T
  refine def_v (S := Sx T) (N := N__law_needed) T.F__law_needed sc__law_needed rfl (fun ds c Q h => by obtain ⟨R, os, ch, rfl, _⟩ := h; first | rfl | assumption) (fun cdv A outer s H E hr => (vss_cons (vs_for PassesOwn.never rfl (vi_range1 (by rfl) T.z_range (va_cons (ve_of (pe_CB1 (c_len rfl) (fun hc ha => pe_callB hc (by rfl) T.z_len boot_len ha) (be_name (pv 0)))) va_nil)) (vg_name (i := 3) [3] (by decide) sc__law_needed.nd rfl (.inl rfl))
      (vss_cons (vs_if (vb_tru rfl (be_of (ve_call G__law_exact hr (by rfl) T.g__law_exact T.F__law_exact.kp T.b__law_exact (va_cons (ve_of (fe_op (o_add rfl) (ve_of (fe_slice rfl (ve_name (pv 0)) vo_none (vo_some (ve_name (pv 3))))) (be_of (ve_of (fe_slice rfl (ve_name (pv 0)) (vo_some (ve_of (fe_op (o_add rfl) (ve_name (pv 3)) (be_of ve_int)))) vo_none))))) (va_cons (ve_name (pv 1)) (va_cons (ve_name (pv 2)) va_nil)))))) (vss_one (vs_ret ve_bl)) vss_nil)
      (vss_one (vs_for PassesOwn.never rfl (vi_range1 (by rfl) T.z_range (va_cons (ve_of (pe_CB1 (c_len rfl) (fun hc ha => pe_callB hc (by rfl) T.z_len boot_len ha) (be_of (ve_of (fe_ixN (i_ix rfl (hu_of hr)) (pv 0) (be_name (pv 3)) (fun _ _ => rfl)))))) va_nil)) (vg_name (i := 4) [4] (by decide) sc__law_needed.nd rfl (.inl rfl))
      (vss_one (vs_if (vb_not (vb_tru rfl (be_of (ve_call G__law_lets_in hr (by rfl) T.g__law_lets_in T.F__law_lets_in.kp T.b__law_lets_in (va_cons (ve_of (fe_op (o_add rfl) (ve_of (fe_slice rfl (ve_of (fe_ixN (i_ix rfl (hu_of hr)) (pv 0) (be_name (pv 3)) (fun _ _ => rfl))) vo_none (vo_some (ve_name (pv 4))))) (be_of (ve_of (fe_slice rfl (ve_of (fe_ixN (i_ix rfl (hu_of hr)) (pv 0) (be_name (pv 3)) (fun _ _ => rfl))) (vo_some (ve_of (fe_op (o_add rfl) (ve_name (pv 4)) (be_of ve_int)))) vo_none))))) (va_cons (ve_name (pv 1)) (va_cons (ve_name (pv 2)) va_nil))))))) (vss_one (vs_ret ve_bl)) vss_nil))))))
      (vss_one (vs_ret ve_bl)))) ?_
  rintro ds c Q ⟨R, os, ch, rfl, hR, hl, ho, hc, hn, hx, q⟩
  walk_at "wh"
  have hRl : (R.map caseD).length = R.length := List.length_map _
  refine ⟨by rw [hRl]; omega, ?_⟩
  walk_at "wh"
  rw [Int.toNat_natCast, hRl]
  refine ⟨fun i E => Iv (∃ (y3 y4 : SV), E = ⟨[.v (casesD R), .v (.tup (os.map strD)), .v (.lst (ch.map strD)), y3, y4], c⟩), .a ⟨_, _, rfl⟩, ?_, ?_⟩
  · intro i d E ed iv
    obtain ⟨y3, y4, rfl⟩ := iv.out
    obtain ⟨rfl, hi⟩ := rng_at ed
    have er : R[i]? = some R[i] := List.getElem?_eq_getElem hi
    have hxl := hl _ (List.getElem_mem hi)
    refine seqI (fun E => E = ⟨[.v (casesD R), .v (.tup (os.map strD)), .v (.lst (ch.map strD)), .v (.int (0 + (i : Int))), y4], c⟩) ?_ ?_
    · intro N hN
      walk_at "wh"
      refine ⟨by unfold cutD; simp only [List.length_take, List.length_drop, hRl]; omega, ?_⟩
      walk_at "wh"
      refine ⟨R.eraseIdx i, os, ch, by rw [← without2]; rfl, Nat.le_trans (List.eraseIdx_sublist R i).length_le hR, fun x hx2 => hl x ((List.eraseIdx_sublist R i).subset hx2), ho, hc, ?_⟩
      rw [hn i _ er]
      walk_at "wh"
      refine wayF ?_
      walk_at "wh"
      exact hN _ rfl
    · rintro E rfl
      walk_at "wh"
      have ea : atI (R.map caseD) (0 + (i : Int)) = some (caseD R[i]) := by
        rw [Int.zero_add]
        exact atI_nat (by rw [List.getElem?_map, er]; rfl)
      have hpl : (R[i].map pairD).length = R[i].length := List.length_map _
      rw [ea]
      walk_at "wh"
      refine ⟨by rw [hpl]; omega, ?_⟩
      walk_at "wh"
      rw [Int.toNat_natCast, hpl]
      refine ⟨fun j E => Iv (∃ (y4 : SV), E = ⟨[.v (casesD R), .v (.tup (os.map strD)), .v (.lst (ch.map strD)), .v (.int (0 + (i : Int))), y4], c⟩), .a ⟨_, rfl⟩, ?_, ?_⟩
      · intro j d E ed2 iv
        obtain ⟨y5, rfl⟩ := iv.out
        obtain ⟨rfl, hj⟩ := rng_at ed2
        walk_at "wh"
        rw [ea]
        walk_at "wh"
        rw [ea]
        walk_at "wh"
        refine ⟨by unfold cutD; simp only [List.length_take, List.length_drop, hpl]; omega, ?_⟩
        walk_at "wh"
        refine ⟨R[i].eraseIdx j, os, ch, by rw [← without]; rfl, Nat.le_trans (List.eraseIdx_sublist _ j).length_le hxl, ho, hc, hx _ (List.getElem_mem hi) j hj, ?_⟩
        walk_at "wh"
        refine wayF ?_
        walk_at "wh"
        exact .a ⟨_, rfl⟩
      · intro E iv
        obtain ⟨y5, rfl⟩ := iv.out
        exact .a ⟨_, _, rfl⟩
  · intro E iv
    obtain ⟨y3, y4, rfl⟩ := iv.out
    walk_at "wh"
    exact q
end
end Va
set_option Elab.async false
set_option linter.all false
set_option maxRecDepth 100000
set_option maxHeartbeats 2000000
namespace Va
open PySem PySem.Spec PyProof.Rows L2 Ind
local macro_rules | `(tactic| walk_at "cn") => `(tactic| first
  | assumption
  | omega
  | exact dm (by omega)
  | exact line (by simp)
  | exact line (by omega)
  | exact line (by simp only [len_app, len_one]; omega)
  | exact small_div (by omega) (by omega)
  | solve_by_elim
  | exact Or.inr ⟨by omega, by omega⟩
  | exact Or.inl ⟨by omega, by omega⟩
  | exact ⟨by omega, by omega⟩
  | decide)
local macro_rules | `(tactic| walk_at "st") => `(tactic| repeat (first
  | refine ⟨_, rfl, ?_⟩
  | refine ⟨_, _, rfl, rfl, ?_⟩
  | refine ⟨_, _, rfl, ?_⟩
  | refine .inl ⟨_, rfl, ?_⟩
  | refine And.intro rfl ?_
  | refine And.intro (by walk_at "cn") ?_))
local macro_rules | `(tactic| walk_at "fz") => `(tactic| repeat (first | exact Fz.refl | apply Fz.upd))
local macro_rules | `(tactic| walk_at "hl") => `(tactic| ((repeat rw [upd_ne (by assumption)]); assumption))
local macro_rules | `(tactic| walk_at "fy") => `(tactic| (intro b o n1 h; (repeat rw [upd_ne n1]); exact h))
local macro_rules | `(tactic| walk_at "wh") => `(tactic| (conv => whnf))
local macro_rules | `(tactic| walk_at "cv") => `(tactic| first
  | rfl
  | assumption
  | omega
  | exact dm (by omega)
  | exact small_div (by omega) (by omega)
  | (simp only [len_app, one_len, len_one, List.length_append, List.length_map, List.length_cons, List.length_nil]; omega)
  | exact Or.inr ⟨by omega, by omega⟩
  | exact Or.inl ⟨by omega, by omega⟩
  | exact ⟨by omega, by omega⟩
  | decide)
local macro_rules | `(tactic| walk_at "vv") => `(tactic| repeat (refine And.intro (by walk_at "cv") ?_))
local macro_rules | `(tactic| walk_at "sk") => `(tactic| repeat (first
  | refine wayT ?_
  | refine wayF ?_
  | refine skipT (by omega) ?_
  | refine skipF (by omega) ?_
  | refine skipT (by decide) ?_
  | refine skipF (by decide) ?_
  | refine ⟨_, (show tyNames _ = some _ from rfl), ?_⟩
  | refine And.intro (by walk_at "cv") ?_))
local macro_rules | `(tactic| walk_at "s0") => `(tactic| first
  | refine wayT ?_
  | refine wayF ?_
  | refine skipT (by omega) ?_
  | refine skipF (by omega) ?_
  | refine skipT (by decide) ?_
  | refine skipF (by decide) ?_
  | refine ⟨_, (show tyNames _ = some _ from rfl), ?_⟩
  | refine And.intro (by walk_at "cv") ?_)
local macro_rules | `(tactic| walk_at "s1") => `(tactic| try (walk_at "s0"; walk_at "wh"))
local macro_rules | `(tactic| walk_at "go") => `(tactic| (walk_at "wh"; repeat (walk_at "s0"; walk_at "wh")))
def mIsCase : VM := fun ds c Q => ∃ (x : Case) (ns : List Tx), ds = [caseD x, .ptp (ns.map .str)] ∧ (x.map (·.1)).Sublist ns ∧ ns.Nodup ∧ ns.length ≤ 9 ∧ x.length ≤ 9 ∧ Q (.bl true) c
theorem name_order {ns : List Tx} (nd : ns.Nodup) : ns.Pairwise fun a b => ∀ i j : Nat, ns[i]? = some a → ns[j]? = some b → i < j := by
  rw [List.pairwise_iff_getElem]
  intro i j hi hj hij i2 j2 e1 e2
  have u : ∀ {a b : Nat} {x : Tx}, ns[a]? = some x → ns[b]? = some x → a = b := fun {a b x} h1 h2 => by
    obtain ⟨ha, h1⟩ := List.getElem?_eq_some_iff.mp h1
    obtain ⟨hb, h2⟩ := List.getElem?_eq_some_iff.mp h2
    rcases Nat.lt_trichotomy a b with h | h | h
    · exact absurd (h1.trans h2.symm) (List.pairwise_iff_getElem.mp nd a b ha hb h)
    · exact h
    · exact absurd (h2.trans h1.symm) (List.pairwise_iff_getElem.mp nd b a hb ha h)
  rw [u e1 (List.getElem?_eq_getElem hi), u e2 (List.getElem?_eq_getElem hj)]
  exact hij
section
variable {P : Program} {w : World} {K : PySem.W.Frag} {mg : PySem.Str → Option Value} {base : Heap}
theorem ok__law_is_case (T : Txt P K mg) : FnOk P w K mg base CX0 1 T.a__law_is_case T.d__law_is_case ["case", "names"] (spV (Sx T) mIsCase) := by
  refine def_v (S := Sx T) (N := N__law_is_case) T.F__law_is_case sc__law_is_case rfl (fun ds c Q h => by obtain ⟨x, ns, rfl, _⟩ := h; first | rfl | assumption) (fun cdv A outer s H E hr => (vss_cons (vs_if (vb_not (vb_tru rfl (be_of (ve_of (pe_CB (c_isi rfl) (fun hc ha => pe_callB hc (by rfl) T.z_isinstance boot_isinstance ha) (va_cons (ve_name (pv 0)) (va_cons (ve_ty (x := "") (pe_bltn (v := .ty "tuple") (by rfl) T.z_tuple boot_tuple rfl)) va_nil))))))) (vss_one (vs_ret ve_bl)) vss_nil)
      (vss_cons (vs_set (i := 2) sc__law_is_case.nd rfl (.inl rfl) (fe_of (ve_neg ve_int)))
      (vss_cons (vs_for PassesOwn.never rfl (vi_any rfl (ve_name (pv 0))) (vg_name (i := 3) [3] (by decide) sc__law_is_case.nd rfl (.inl rfl))
      (vss_cons (vs_if (vb_w (vw_or (vb_not (vb_tru rfl (be_of (ve_of (pe_CB (c_isi rfl) (fun hc ha => pe_callB hc (by rfl) T.z_isinstance boot_isinstance ha) (va_cons (ve_name (pv 3)) (va_cons (ve_ty (x := "") (pe_bltn (v := .ty "tuple") (by rfl) T.z_tuple boot_tuple rfl)) va_nil))))))) (vw_or (vb_cmp (o_ne rfl hr.units) (ve_of (pe_CB1 (c_len rfl) (fun hc ha => pe_callB hc (by rfl) T.z_len boot_len ha) (be_name (pv 3)))) (be_of ve_int) (nomark _)) (vw_or1 (vb_not (vb_tru rfl (be_of (ve_of (pe_CB (c_isi rfl) (fun hc ha => pe_callB hc (by rfl) T.z_isinstance boot_isinstance ha) (va_cons (ve_of (fe_ixN (i_ix rfl (hu_of hr)) (pv 3) (be_of ve_int) (fun _ _ => rfl))) (va_cons (ve_ty (x := "") (pe_bltn (v := .ty "bool") (by rfl) T.z_bool boot_bool rfl)) va_nil))))))))))) (vss_one (vs_ret ve_bl)) vss_nil)
      (vss_cons (vs_if (vb_w (vw_or (vb_not (vb_tru rfl (be_of (ve_of (pe_CB (c_isi rfl) (fun hc ha => pe_callB hc (by rfl) T.z_isinstance boot_isinstance ha) (va_cons (ve_of (fe_ixN (i_ix rfl (hu_of hr)) (pv 3) (be_of ve_int) (fun _ _ => rfl))) (va_cons (ve_ty (x := "") (pe_bltn (v := .ty "str") (by rfl) T.z_str boot_str rfl)) va_nil))))))) (vw_or (vb_cmp (o_nin rfl (hu65 hr)) (ve_of (fe_ixN (i_ix rfl (hu_of hr)) (pv 3) (be_of ve_int) (fun _ _ => rfl))) (be_un (be_name (pv 1))) (by rfl)) (vw_or1 (vb_cmp o_le (ve_of (fe_tindex rfl (ve_name (pv 1)) (va_cons (ve_of (fe_ixN (i_ix rfl (hu_of hr)) (pv 3) (be_of ve_int) (fun _ _ => rfl))) va_nil))) (be_name (pv 2)) (nomark _)))))) (vss_one (vs_ret ve_bl)) vss_nil)
      (vss_one (vs_set (i := 2) sc__law_is_case.nd rfl (.inl rfl) (fe_tindex rfl (ve_name (pv 1)) (va_cons (ve_of (fe_ixN (i_ix rfl (hu_of hr)) (pv 3) (be_of ve_int) (fun _ _ => rfl))) va_nil)))))))
      (vss_one (vs_ret ve_bl)))))) ?_
  rintro ds c Q ⟨x, ns, rfl, hs, nd, hn, hx, q⟩
  walk_at "wh"
  refine ⟨rfl, ?_⟩
  walk_at "wh"
  refine wayF ?_
  walk_at "wh"
  refine ⟨fun i E => Iv (∃ (l : Int) (y3 : SV), E = ⟨[.v (caseD x), .v (.ptp (ns.map .str)), .v (.int l), y3], c⟩ ∧ ∀ p ∈ x.drop i, ∀ j : Nat, ns[j]? = some p.1 → l < j), .a ⟨-1, _, rfl, fun p hp j hj => by omega⟩, ?_, ?_⟩
  · intro i d E ed iv
    obtain ⟨l, y3, rfl, hlt⟩ := iv.out
    obtain ⟨p, ep, rfl⟩ := map_get ed
    walk_at "wh"
    refine ⟨rfl, ?_⟩
    walk_at "wh"
    refine wayF ?_
    walk_at "wh"
    refine wayF ?_
    walk_at "wh"
    refine ⟨rfl, ?_⟩
    walk_at "wh"
    refine wayF ?_
    walk_at "wh"
    refine ⟨rfl, ?_⟩
    walk_at "wh"
    refine wayF ?_
    walk_at "wh"
    have hmem : p ∈ x := List.mem_of_getElem? ep
    have hm : p.1 ∈ ns := hs.subset (List.mem_map_of_mem hmem)
    have hlt2 : ns.idxOf p.1 < ns.length := List.idxOf_lt_length_of_mem hm
    have hix : ns[ns.idxOf p.1]? = some p.1 := by rw [List.getElem?_eq_getElem hlt2, List.getElem_idxOf hlt2]
    have hdr : x.drop i = p :: x.drop (i + 1) := by
      obtain ⟨hi, e⟩ := List.getElem?_eq_some_iff.mp ep
      rw [List.drop_eq_getElem_cons hi, e]
    have hl := hlt p (by rw [hdr]; exact List.mem_cons_self ..) _ hix
    refine ⟨rfl, flat_strsD _, ?_⟩
    dsimp only [RV.d]
    rw [in_strsD, decide_eq_true hm]
    walk_at "wh"
    refine wayF ?_
    walk_at "wh"
    refine ⟨⟨_, rfl⟩, ?_⟩
    walk_at "wh"
    refine ⟨ns, p.1, rfl, rfl, hm, ?_⟩
    walk_at "wh"
    refine ⟨fun e => absurd (of_decide_eq_true e) (by omega), fun _ => ?_⟩
    walk_at "wh"
    refine ⟨⟨_, rfl⟩, ?_⟩
    walk_at "wh"
    refine ⟨ns, p.1, rfl, rfl, hm, ?_⟩
    walk_at "wh"
    refine .a ⟨((ns.idxOf p.1 : Nat) : Int), _, rfl, fun q hq j hj => ?_⟩
    have h1 := (name_order nd).sublist hs
    rw [List.pairwise_map, ← List.take_append_drop i x, hdr] at h1
    have h2 := (List.pairwise_cons.mp (List.pairwise_append.mp h1).2.1).1 q hq _ _ hix hj
    omega
  · intro E iv
    obtain ⟨l, y3, rfl, hlt⟩ := iv.out
    walk_at "wh"
    exact q
end
end Va
set_option Elab.async false
set_option linter.all false
set_option maxRecDepth 100000
set_option maxHeartbeats 2000000
namespace Va
open PySem PySem.Spec PyProof.Rows L2 Ind
theorem allR_nd : ∀ {ns : List Tx}, ns.Nodup → (allR ns).Nodup
  | [], _ => by show ([[]] : List (List Tx)).Nodup; simp
  | n :: ns, nd => by
    have nd := List.nodup_cons.mp nd
    have ih := allR_nd nd.2
    show ((allR ns).map (fun r => n :: r) ++ allR ns).Nodup
    refine List.nodup_append.mpr ⟨List.Pairwise.map _ (fun a b h e => h (List.cons.inj e).2) ih, ih, ?_⟩
    rintro a ha b hb rfl
    obtain ⟨r, hr, rfl⟩ := List.mem_map.mp ha
    exact nd.1 ((allR_sub hb).subset (List.mem_cons_self ..))
structure Good45 (ns : List Tx) (os ch : List Row) (R : List Case) : Prop where
  case : ∀ x ∈ R, (x.map (·.1)).Sublist ns
  ex : os.all (exB R ch) = true
  ho : ∀ o ∈ os, (R.any fun x => agr x o) = decide (o ∈ ch)
  need : ∀ k x, R[k]? = some x → os.all (exB (R.eraseIdx k) ch) = false
  lets : ∀ x ∈ R, ∀ i, i < x.length → ∃ o ∈ os, agr (x.eraseIdx i) o = true ∧ o ∉ ch
  len : R.length ≤ 19683
theorem good45 {ns : List Tx} {os ch : List Row} {M R : List Case} (ne : os ≠ []) (nd : ns.Nodup) (hn : ns.length ≤ 9) (hs : ∀ o ∈ os, o.Sublist ns) (hc : ∀ o ∈ ch, o ∈ os) (pm : M.Perm (minl os ch ns.reverse)) (hR : Kept os M R M.reverse) : Good45 ns os ch R := by
  have ndr : ns.reverse.Nodup := (List.reverse_perm _).nodup_iff.mpr nd
  have hRM : ∀ x ∈ R, x ∈ minl os ch ns.reverse := fun x hx => pm.mem_iff.mp (hR.sub.subset hx)
  have ndM : M.Nodup := pm.nodup_iff.mpr (List.Pairwise.filter _ (List.Pairwise.filter _ (ags_nd ndr ne)))
  have ndR : R.Nodup := ndM.sublist hR.sub
  have hex : ∀ o ∈ os, (∃ x ∈ R, agr x o = true) ↔ o ∈ ch := fun o ho => by
    rw [← min_exact ne ndr (fun o ho => by rw [List.reverse_reverse]; exact hs o ho) hc ho]
    constructor
    · rintro ⟨x, hx, h⟩
      exact ⟨x, hRM x hx, h⟩
    · rintro ⟨x, hx, h⟩
      exact hR.cov o ho ⟨x, pm.mem_iff.mpr hx, h⟩
  have hho : ∀ o ∈ os, (R.any fun x => agr x o) = decide (o ∈ ch) := fun o ho => by
    rw [Bool.eq_iff_iff, List.any_eq_true, decide_eq_true_eq]
    exact hex o ho
  refine ⟨fun x hx => ?_, ?_, hho, fun k x hk => ?_, fun x hx i hi => min_lets ne (hRM x hx) hi, ?_⟩
  · have h1 := ((mem_impl ne).mp (mem_minl.mp (hRM x hx)).1).1.1
    rwa [List.reverse_reverse] at h1
  · rw [List.all_eq_true]
    intro o ho
    unfold exB
    rw [hho o ho]
    cases decide (o ∈ ch) <;> rfl
  · have hx := List.mem_of_getElem? hk
    obtain ⟨o, h1, h2, h3⟩ := hR.need x (List.mem_reverse.mpr (hR.sub.subset hx)) hx
    rw [Bool.eq_false_iff]
    intro z
    have z := List.all_eq_true.mp z o h1
    unfold exB at z
    have hoc : o ∈ ch := (hex o h1).mp ⟨x, hx, h2⟩
    have hnone : ((R.eraseIdx k).any fun d => agr d o) = false := by
      rw [Bool.eq_false_iff]
      intro y
      obtain ⟨d, hd, hda⟩ := List.any_eq_true.mp y
      have hdR := (List.eraseIdx_sublist R k).subset hd
      have hne : d ≠ x := by
        rintro rfl
        obtain ⟨j, hj⟩ := List.mem_iff_getElem?.mp hd
        obtain ⟨hk1, hk2⟩ := List.getElem?_eq_some_iff.mp hk
        rw [List.getElem?_eraseIdx] at hj
        split at hj
        · obtain ⟨hj1, hj2⟩ := List.getElem?_eq_some_iff.mp hj
          exact (List.pairwise_iff_getElem.mp ndR j k hj1 hk1 (by omega)) (hj2.trans hk2.symm)
        · obtain ⟨hj1, hj2⟩ := List.getElem?_eq_some_iff.mp hj
          exact (List.pairwise_iff_getElem.mp ndR k (j + 1) hk1 hj1 (by omega)) (hk2.trans hj2.symm)
      rw [h3 d hdR hne] at hda
      cases hda
    rw [hnone, decide_eq_true hoc] at z
    cases z
  · have h1 := hR.sub.length_le
    rw [pm.length_eq] at h1
    have h2 : (minl os ch ns.reverse).length ≤ (ags os ns.reverse).length := Nat.le_trans (List.length_filter_le _ _) (List.length_filter_le _ _)
    have h3 := ags_len os ns.reverse
    have h4 : 3 ^ ns.reverse.length ≤ 3 ^ 9 := Nat.pow_le_pow_right (by decide) (by rw [List.length_reverse]; exact hn)
    have h5 : (3 : Nat) ^ 9 = 19683 := by decide
    omega
end Va
set_option Elab.async false
set_option linter.all false
set_option maxRecDepth 100000
set_option maxHeartbeats 4000000
namespace Va
open PySem PySem.Spec PyProof.Rows L2 Ind
local macro_rules | `(tactic| walk_at "cn") => `(tactic| first
  | assumption
  | omega
  | exact dm (by omega)
  | exact line (by simp)
  | exact line (by omega)
  | exact line (by simp only [len_app, len_one]; omega)
  | exact small_div (by omega) (by omega)
  | solve_by_elim
  | exact Or.inr ⟨by omega, by omega⟩
  | exact Or.inl ⟨by omega, by omega⟩
  | exact ⟨by omega, by omega⟩
  | decide)
local macro_rules | `(tactic| walk_at "st") => `(tactic| repeat (first
  | refine ⟨_, rfl, ?_⟩
  | refine ⟨_, _, rfl, rfl, ?_⟩
  | refine ⟨_, _, rfl, ?_⟩
  | refine .inl ⟨_, rfl, ?_⟩
  | refine And.intro rfl ?_
  | refine And.intro (by walk_at "cn") ?_))
local macro_rules | `(tactic| walk_at "fz") => `(tactic| repeat (first | exact Fz.refl | apply Fz.upd))
local macro_rules | `(tactic| walk_at "hl") => `(tactic| ((repeat rw [upd_ne (by assumption)]); assumption))
local macro_rules | `(tactic| walk_at "fy") => `(tactic| (intro b o n1 h; (repeat rw [upd_ne n1]); exact h))
local macro_rules | `(tactic| walk_at "wh") => `(tactic| (conv => whnf))
local macro_rules | `(tactic| walk_at "cv") => `(tactic| first
  | rfl
  | assumption
  | omega
  | exact dm (by omega)
  | exact small_div (by omega) (by omega)
  | (simp only [len_app, one_len, len_one, List.length_append, List.length_map, List.length_cons, List.length_nil]; omega)
  | exact Or.inr ⟨by omega, by omega⟩
  | exact Or.inl ⟨by omega, by omega⟩
  | exact ⟨by omega, by omega⟩
  | decide)
local macro_rules | `(tactic| walk_at "vv") => `(tactic| repeat (refine And.intro (by walk_at "cv") ?_))
local macro_rules | `(tactic| walk_at "sk") => `(tactic| repeat (first
  | refine wayT ?_
  | refine wayF ?_
  | refine skipT (by omega) ?_
  | refine skipF (by omega) ?_
  | refine skipT (by decide) ?_
  | refine skipF (by decide) ?_
  | refine ⟨_, (show tyNames _ = some _ from rfl), ?_⟩
  | refine And.intro (by walk_at "cv") ?_))
local macro_rules | `(tactic| walk_at "s0") => `(tactic| first
  | refine wayT ?_
  | refine wayF ?_
  | refine skipT (by omega) ?_
  | refine skipF (by omega) ?_
  | refine skipT (by decide) ?_
  | refine skipF (by decide) ?_
  | refine ⟨_, (show tyNames _ = some _ from rfl), ?_⟩
  | refine And.intro (by walk_at "cv") ?_)
local macro_rules | `(tactic| walk_at "s1") => `(tactic| try (walk_at "s0"; walk_at "wh"))
local macro_rules | `(tactic| walk_at "go") => `(tactic| (walk_at "wh"; repeat (walk_at "s0"; walk_at "wh")))
theorem tOk_cut {z : Tx} {lo hi : Option Int} (h : tOk z) : tOk (cutS z lo hi) := by
  intro c hc
  unfold cutS at hc
  have hc := List.mem_of_mem_take hc
  exact h c (List.mem_of_mem_drop hc)
abbrev plainT : Tx := "schema undecided prepared mentioned possible row when begin execute prepare learn"
theorem words_plain : Txt.words plainT = (["schema", "undecided", "prepared", "mentioned", "possible", "row", "when", "begin", "execute", "prepare", "learn"] : List Tx) := by decide +kernel
def mNames : VM := fun ds c Q => ∃ m : Nat, ds = [.tape, .int m] ∧ 1 ≤ m ∧ m ≤ 9 ∧ 12 ≤ c ∧ ∀ (ns : List Tx) c', c ≤ c' + 12 → ns ≠ [] → ns.length ≤ m → ns.Nodup → (∀ n ∈ ns, n.length ≤ 30) → (∀ n ∈ ns, tOk n) → Q (.lst (ns.map .str)) c'
section
variable {P : Program} {w : World} {K : PySem.W.Frag} {mg : PySem.Str → Option Value} {base : Heap}
theorem ok__law_names (T : Txt P K mg) : FnOk P w K mg base CX0 2 T.a__law_names T.d__law_names ["tape", "most"] (spV (Sx T) mNames) := by
  have G__law_draw := draw_v (S := Sx T) (ok__law_draw (P := P) (w := w) (base := base) T)
  refine def_v (S := Sx T) (N := N__law_names) T.F__law_names sc__law_names rfl (fun ds c Q h => by obtain ⟨ns, rfl, _⟩ := h; first | rfl | assumption) (fun cdv A outer s H E hr => (vss_cons (vs_set (i := 2) sc__law_names.nd rfl (.inl rfl) (fe_of ve_str))
      (vss_cons (vs_set (i := 3) sc__law_names.nd rfl (.inl rfl) (fe_of (ve_call G__law_draw hr (by rfl) T.g__law_draw T.F__law_draw.kp T.b__law_draw (va_cons (ve_name (pv 0)) (va_cons ve_int va_nil)))))
      (vss_cons (vs_set (i := 4) sc__law_names.nd rfl (.inl rfl) (fe_lst va_nil))
      (vss_cons (vs_for PassesOwn.never rfl (vi_range1 (by rfl) T.z_range (va_cons (ve_of (fe_op (o_add rfl) ve_int (be_of (ve_call G__law_draw hr (by rfl) T.g__law_draw T.F__law_draw.kp T.b__law_draw (va_cons (ve_name (pv 0)) (va_cons (ve_name (pv 1)) va_nil)))))) va_nil)) (vg_name (i := 5) [5] (by decide) sc__law_names.nd rfl (.inl rfl))
      (vss_cons (vs_set (i := 6) sc__law_names.nd rfl (.inl rfl) (fe_of (ve_call G__law_draw hr (by rfl) T.g__law_draw T.F__law_draw.kp T.b__law_draw (va_cons (ve_name (pv 0)) (va_cons ve_int va_nil)))))
      (vss_cons (vs_set (i := 7) sc__law_names.nd rfl (.inl rfl) (fe_op (o_add rfl) (ve_of (fe_ixN (i_ix rfl (hu_of hr)) (pv 2) (be_of (ve_of (fe_op o_mod (ve_of (pe_CB1 c_int (fun hc ha => pe_callTy hc (by rfl) T.z_int boot_int ha) (be_of (ve_of (fe_op o_fdiv (ve_name (pv 6)) (be_of ve_int)))))) (be_of ve_int)))) (fun _ _ => rfl))) (be_of (ve_of (fe_ixN (i_ix rfl (hu_of hr)) (pv 2) (be_of (ve_of (fe_op o_mod (ve_of (pe_CB1 c_int (fun hc ha => pe_callTy hc (by rfl) T.z_int boot_int ha) (be_of (ve_of (fe_op o_fdiv (ve_name (pv 6)) (be_of ve_int)))))) (be_of ve_int)))) (fun _ _ => rfl))))))
      (vss_cons (vs_set (i := 8) sc__law_names.nd rfl (.inl rfl) (fe_op (o_add rfl) (ve_of (fe_ixN (i_ix rfl (hu_of hr)) (pv 2) (be_of (ve_of (fe_op o_mod (ve_of (pe_CB1 c_int (fun hc ha => pe_callTy hc (by rfl) T.z_int boot_int ha) (be_name (pv 6)))) (be_of ve_int)))) (fun _ _ => rfl))) (be_of (ve_of (fe_slice rfl (ve_name (pv 7)) vo_none (vo_some (ve_of (fe_ix (i_ix rfl (hu_of hr)) (ve_of (fe_lst (va_cons ve_int (va_cons ve_int (va_cons ve_int (va_cons ve_int va_nil)))))) (be_of (ve_of (fe_op o_mod (ve_of (pe_CB1 c_int (fun hc ha => pe_callTy hc (by rfl) T.z_int boot_int ha) (be_of (ve_of (fe_op o_fdiv (ve_name (pv 6)) (be_of ve_int)))))) (be_of ve_int)))) (fun _ _ => rfl)))))))))
      (vss_cons (vs_set (i := 9) sc__law_names.nd rfl (.inl rfl) (fe_op o_mod (ve_of (pe_CB1 c_int (fun hc ha => pe_callTy hc (by rfl) T.z_int boot_int ha) (be_of (ve_of (fe_op o_fdiv (ve_name (pv 6)) (be_of ve_int)))))) (be_of ve_int)))
      (vss_cons (vs_set (i := 10) sc__law_names.nd rfl (.inl rfl) (fe_ix (i_ix rfl (hu_of hr)) (ve_of (fe_words ve_str)) (be_name (pv 9)) (fun _ _ => rfl)))
      (vss_cons (vs_set (i := 8) sc__law_names.nd rfl (.inl rfl) (fe_ix (i_ix rfl (hu_of hr)) (ve_of (fe_lst (va_cons (ve_name (pv 8)) (va_cons (ve_of (fe_op (o_add rfl) ve_str (be_name (pv 8)))) (va_cons (ve_of (fe_op (o_add rfl) (ve_of (fe_op (o_add rfl) (ve_of (fe_slice rfl ve_str vo_none (vo_some (ve_name (pv 9))))) (be_of (ve_of (fe_ixN (i_ix rfl (hu_of hr)) (pv 8) (be_of ve_int) (fun _ _ => rfl)))))) (be_of (ve_of (fe_slice rfl ve_str (vo_some (ve_of (fe_op (o_add rfl) (ve_name (pv 9)) (be_of ve_int)))) vo_none))))) (va_cons (ve_name (pv 10)) va_nil)))))) (be_name (pv 3)) (fun _ _ => rfl)))
      (vss_cons (vs_if (vb_cmp (o_in rfl (hu65 hr)) (ve_name (pv 8)) (be_of (ve_tup (va_cons ve_str (va_cons ve_str (va_cons ve_str (va_cons ve_str (va_cons ve_str (va_cons ve_str (va_cons ve_str (va_cons ve_str (va_cons ve_str (va_cons ve_str va_nil)))))))))))) (by rfl)) (vss_one (vs_set (i := 8) sc__law_names.nd rfl (.inl rfl) (fe_op (o_add rfl) (ve_name (pv 8)) (be_of ve_str)))) vss_nil)
      (vss_one (vs_if (vb_cmp (o_nin rfl (hu65 hr)) (ve_name (pv 8)) (be_name (pv 4)) (by rfl)) (vss_one (vs_append rfl (pv 4) (ve_name (pv 8)))) vss_nil))))))))))
      (vss_one (vs_ret (ve_name (pv 4))))))))) ?_
  rintro ds c Q ⟨m, rfl, m1, m9, hc, q⟩
  refine ⟨4, rfl, by show 1 ≤ c; omega, dm (by decide), fun r hr => ?_⟩
  refine ⟨by decide, ?_⟩
  refine ⟨m, rfl, by show 1 ≤ c - 1; omega, dm (by omega), fun r2 hr2 => ?_⟩
  refine ⟨by omega, ?_⟩
  refine ⟨fun i E => Iv (∃ (ns : List Tx) (c' : Nat) (y5 y6 y7 y8 y9 y10 : SV), E = ⟨[.v .tape, .v (.int m), .v (.str "abcdefghijklmnopqrstuvwxyz0123456789_"), .v (.int r), .ol (ns.map .str), y5, y6, y7, y8, y9, y10], c'⟩ ∧ c ≤ c' + 2 + i ∧ ns.length ≤ i ∧ (0 < i → ns ≠ []) ∧ ns.Nodup ∧ (∀ n ∈ ns, n.length ≤ 30) ∧ ∀ n ∈ ns, tOk n),
    .a ⟨[], _, _, _, _, _, _, _, rfl, by show c ≤ c - 1 - 1 + 2 + 0; omega, by simp, by simp, by simp, by simp, by simp⟩, ?_, ?_⟩
  · intro i d E ed iv
    obtain ⟨ns, c', y5, y6, y7, y8, y9, y10, rfl, hc', hl, h0, hnd, hln, hto⟩ := iv.out
    have hi : i < m := by
      have := (List.getElem?_eq_some_iff.mp ed).1
      simp [rng] at this
      omega
    refine ⟨1566136, rfl, by show 1 ≤ c'; omega, dm (by decide), fun r3 hr3 => ?_⟩
    have hr3 : r3 < 1566136 := by omega
    have sl : ("abcdefghijklmnopqrstuvwxyz0123456789_" : Tx).length = 37 := by decide
    walk_at "vv"
    obtain ⟨k1, hk1⟩ := sign_at (x := "abcdefghijklmnopqrstuvwxyz0123456789_") (i := (r3 : Int) / 104 % 37) (by omega) (by rw [sl]; omega)
    refine ⟨k1, hk1, ?_⟩
    walk_at "vv"
    obtain ⟨k2, hk2⟩ := sign_at (x := "abcdefghijklmnopqrstuvwxyz0123456789_") (i := (r3 : Int) / 3848 % 37) (by omega) (by rw [sl]; omega)
    refine ⟨k2, hk2, ?_⟩
    walk_at "vv"
    obtain ⟨k3, hk3⟩ := sign_at (x := "abcdefghijklmnopqrstuvwxyz0123456789_") (i := (r3 : Int) % 26) (by omega) (by rw [sl]; omega)
    refine ⟨k3, hk3, ?_⟩
    walk_at "vv"
    obtain ⟨d4, ed4, md4⟩ := pickI (l := [D.int 0, .int 0, .int 1, .int 2]) (i := (r3 : Int) / 26 % 4) (by omega) (by simp; omega)
    obtain ⟨z4, rfl, hz4⟩ := int_mem (P := fun i => 0 ≤ i ∧ i ≤ 2) md4 (by simp)
    refine withD_of ed4 ?_
    have lc4 := cutS_le (⟨#[k1]⟩ ++ ⟨#[k2]⟩) none (some z4)
    rw [len_app, one_len, one_len] at lc4
    walk_at "vv"
    have lnm : (⟨#[k3]⟩ ++ cutS (⟨#[k1]⟩ ++ ⟨#[k2]⟩) none (some z4) : Tx).length ≤ 3 ∧ 1 ≤ (⟨#[k3]⟩ ++ cutS (⟨#[k1]⟩ ++ ⟨#[k2]⟩) none (some z4) : Tx).length := by
      rw [len_app, one_len]
      omega
    have so : tOk "abcdefghijklmnopqrstuvwxyz0123456789_" := tOk_of (by decide)
    have tnm : tOk (⟨#[k3]⟩ ++ cutS (⟨#[k1]⟩ ++ ⟨#[k2]⟩) none (some z4) : Tx) := tOk_app (tOk_one so hk3) (tOk_cut (tOk_app (tOk_one so hk1) (tOk_one so hk2)))
    generalize (⟨#[k3]⟩ ++ cutS (⟨#[k1]⟩ ++ ⟨#[k2]⟩) none (some z4) : Tx) = nm at lnm tnm ⊢
    have lw : ((Txt.words plainT).map D.str).length = 11 := by rw [words_plain]; rfl
    obtain ⟨w9, ew9, mw9⟩ := pickI (l := (Txt.words plainT).map D.str) (i := (r3 : Int) / 142376 % 11) (by omega) (by rw [lw]; omega)
    obtain ⟨pl, rfl, hpl⟩ := str_mem (P := fun s => s.length ≤ 12 ∧ (s.cps.toList.all fun c => decide (c < 0x110000)) = true) mw9 (by rw [words_plain]; simp only [List.map_cons, List.map_nil, List.mem_cons, List.not_mem_nil, or_false]; intro x hx; rcases hx with h | h | h | h | h | h | h | h | h | h | h <;> exact ⟨_, h, by decide⟩)
    walk_at "wh"
    refine withD_of ew9 ?_
    have lr : ("reservation_x" : Tx).length = 13 := by decide
    have lt : ("transaction" : Tx).length = 11 := by decide
    walk_at "vv"
    obtain ⟨k5, hk5⟩ := sign_at (x := nm) (i := 0) (by omega) (by omega)
    refine ⟨k5, hk5, ?_⟩
    have lc5 := cutS_le "transaction" none (some ((r3 : Int) / 142376 % 11))
    have lc6 := cutS_le "transaction" (some ((r3 : Int) / 142376 % 11 + 1)) none
    walk_at "vv"
    have tb5 : tOk (⟨#[k5]⟩ : Tx) := tOk_one tnm hk5
    generalize hb : (⟨#[k5]⟩ : Tx) = bb at tb5 ⊢
    have lb : bb.length = 1 := by rw [← hb]; rfl
    obtain ⟨w3, ew3, mw3⟩ := pickD (l := [D.str nm, .str ("reservation_x" ++ nm), .str (cutS "transaction" none (some ((r3 : Int) / 142376 % 11)) ++ bb ++ cutS "transaction" (some ((r3 : Int) / 142376 % 11 + 1)) none), .str pl]) (i := r) (by simp; omega)
    have hpl1 := hpl.1
    obtain ⟨x, rfl, hx⟩ := str_mem (P := fun s => s.length ≤ 24 ∧ tOk s) mw3 (fun d hd => by
      simp only [List.mem_cons, List.not_mem_nil, or_false] at hd
      rcases hd with rfl | rfl | rfl | rfl
      · exact ⟨_, rfl, by omega, tnm⟩
      · exact ⟨_, rfl, by rw [len_app]; omega, tOk_app (tOk_of (by decide)) tnm⟩
      · exact ⟨_, rfl, by rw [len_app, len_app]; omega, tOk_app (tOk_app (tOk_cut (tOk_of (by decide))) tb5) (tOk_cut (tOk_of (by decide)))⟩
      · exact ⟨_, rfl, by omega, tOk_of hpl.2⟩)
    obtain ⟨hx, hxt⟩ := hx
    walk_at "wh"
    refine withD_of ew3 ?_
    walk_at "vv"
    have l1 : ("_" : Tx).length = 1 := by decide
    walk_at "wh"
    refine both (fun _ => ?t1) (fun _ => ?t2)
    all_goals
      walk_at "vv"
      refine And.intro (flat_strsD _) ?_
    case' t1 =>
      have hy : (x ++ ("_" : Tx)).length ≤ 30 := by rw [len_app]; omega
      have hyt : tOk (x ++ ("_" : Tx)) := tOk_app hxt (tOk_of (by decide))
      generalize x ++ ("_" : Tx) = y at hy hyt ⊢
    case' t2 =>
      have hy : x.length ≤ 30 := by omega
      have hyt := hxt
      generalize x = y at hy hyt ⊢
    all_goals
      rw [in_strsD]
      walk_at "wh"
      refine both (fun e => ?_) (fun e => ?_)
      · have nx := dF (nT e)
        walk_at "vv"
        refine .a ⟨ns ++ [y], c' - 1, _, _, _, _, _, _, by rw [List.map_append]; rfl, by omega, by simp; omega, fun _ => by simp, ?_, ?_, ?_⟩
        · exact List.nodup_append.mpr ⟨hnd, by simp, fun a ha b hb eq => by simp at hb; subst hb; subst eq; exact nx ha⟩
        · intro n hn
          rcases List.mem_append.mp hn with h | h
          · exact hln n h
          · cases List.mem_singleton.mp h; exact hy
        · intro n hn
          rcases List.mem_append.mp hn with h | h
          · exact hto n h
          · cases List.mem_singleton.mp h; exact hyt
      · have nx := dT (nF e)
        exact .a ⟨ns, c' - 1, _, _, _, _, _, _, rfl, by omega, by omega, fun _ z => (by rw [z] at nx; cases nx), hnd, hln, hto⟩
  · intro E iv
    obtain ⟨ns, c', y5, y6, y7, y8, y9, y10, rfl, hc', hl, h0, hnd, hln, hto⟩ := iv.out
    have e : (rng 0 (1 + (r2 : Int)).toNat).length = 1 + r2 := by simp [rng]; omega
    rw [e] at hc' hl h0
    exact q ns c' (by omega) (h0 (by omega)) (by omega) hnd hln hto
end
end Va
set_option Elab.async false
set_option linter.all false
set_option maxRecDepth 100000
set_option maxHeartbeats 4000000
namespace Va
open PySem PySem.Spec PyProof.Rows L2 Ind
local macro_rules | `(tactic| walk_at "cn") => `(tactic| first
  | assumption
  | omega
  | exact dm (by omega)
  | exact line (by simp)
  | exact line (by omega)
  | exact line (by simp only [len_app, len_one]; omega)
  | exact small_div (by omega) (by omega)
  | solve_by_elim
  | exact Or.inr ⟨by omega, by omega⟩
  | exact Or.inl ⟨by omega, by omega⟩
  | exact ⟨by omega, by omega⟩
  | decide)
local macro_rules | `(tactic| walk_at "st") => `(tactic| repeat (first
  | refine ⟨_, rfl, ?_⟩
  | refine ⟨_, _, rfl, rfl, ?_⟩
  | refine ⟨_, _, rfl, ?_⟩
  | refine .inl ⟨_, rfl, ?_⟩
  | refine And.intro rfl ?_
  | refine And.intro (by walk_at "cn") ?_))
local macro_rules | `(tactic| walk_at "fz") => `(tactic| repeat (first | exact Fz.refl | apply Fz.upd))
local macro_rules | `(tactic| walk_at "hl") => `(tactic| ((repeat rw [upd_ne (by assumption)]); assumption))
local macro_rules | `(tactic| walk_at "fy") => `(tactic| (intro b o n1 h; (repeat rw [upd_ne n1]); exact h))
local macro_rules | `(tactic| walk_at "wh") => `(tactic| (conv => whnf))
local macro_rules | `(tactic| walk_at "cv") => `(tactic| first
  | rfl
  | assumption
  | omega
  | exact dm (by omega)
  | exact small_div (by omega) (by omega)
  | (simp only [len_app, one_len, len_one, List.length_append, List.length_map, List.length_cons, List.length_nil]; omega)
  | exact Or.inr ⟨by omega, by omega⟩
  | exact Or.inl ⟨by omega, by omega⟩
  | exact ⟨by omega, by omega⟩
  | decide)
local macro_rules | `(tactic| walk_at "vv") => `(tactic| repeat (refine And.intro (by walk_at "cv") ?_))
local macro_rules | `(tactic| walk_at "sk") => `(tactic| repeat (first
  | refine wayT ?_
  | refine wayF ?_
  | refine skipT (by omega) ?_
  | refine skipF (by omega) ?_
  | refine skipT (by decide) ?_
  | refine skipF (by decide) ?_
  | refine ⟨_, (show tyNames _ = some _ from rfl), ?_⟩
  | refine And.intro (by walk_at "cv") ?_))
local macro_rules | `(tactic| walk_at "s0") => `(tactic| first
  | refine wayT ?_
  | refine wayF ?_
  | refine skipT (by omega) ?_
  | refine skipF (by omega) ?_
  | refine skipT (by decide) ?_
  | refine skipF (by decide) ?_
  | refine ⟨_, (show tyNames _ = some _ from rfl), ?_⟩
  | refine And.intro (by walk_at "cv") ?_)
local macro_rules | `(tactic| walk_at "s1") => `(tactic| try (walk_at "s0"; walk_at "wh"))
local macro_rules | `(tactic| walk_at "go") => `(tactic| (walk_at "wh"; repeat (walk_at "s0"; walk_at "wh")))
def knownP (ms : List Tx) (ws : List Row) : D := .tup [.tup (sbD (decs ms ws)), .ptp ((opens ms ws).map .str), .tup ((rowsOf ms ws).map strD)]
def mKnown : VM := fun ds c Q => ∃ (ns : List Tx) (ws : List Row), ds = [.lst (ns.map .str), .lst (ws.map strD)] ∧ ns.length ≤ 9 ∧ ws.length ≤ 1000 ∧ (∀ n ∈ ns, tOk n) ∧ ∀ ms, ms.Perm ns → sortedS ms = true → Q (knownP ms ws) c
def cntD (ws : List Row) (n : Tx) : D := .tup [.str n, .int (cnt n ws : Nat)]
section
variable {P : Program} {w : World} {K : PySem.W.Frag} {mg : PySem.Str → Option Value} {base : Heap}
theorem ok__law_known (T : Txt P K mg) : FnOk P w K mg base CX0 2 T.a__law_known T.d__law_known ["names", "worlds"] (spV (Sx T) mKnown) := by
  have G__law_seen := ok__law_seen (P := P) (w := w) (base := base) T
  have G__law_all := ok__law_all (P := P) (w := w) (base := base) T
  refine def_v (S := Sx T) (N := N__law_known) T.F__law_known sc__law_known rfl (fun ds c Q h => by obtain ⟨ns, ws, rfl, _⟩ := h; first | rfl | assumption) (fun cdv A outer s H E hr => (vss_cons (vs_fz 1 (vs_setLc (i := 2) (own := [("name", 6)]) rfl sc__law_known.nd rfl rfl (sw_true rfl rfl rfl (by decide +kernel)) (vi_any rfl (ve_of (pe_CB1 (c_sortedS rfl) (fun hc ha => pe_callB hc (by rfl) T.z_sorted boot_sorted ha) (be_name (pv 0))))) (blkOk_by (own := [("name", 6)]) (N := N__law_known) (sc := defScope s__law_known) (by decide +kernel)) (fun _ _ _ _ _ => (vg_name (i := 6) [6] (by decide) sc__law_known.nd rfl (.inr rfl))) (fun _ _ _ _ _ => vts_nil) (fun _ _ _ _ _ => (ve_tup (va_cons (ve_name (pv 6)) (va_cons (ve_of (pe_CB1 (c_len rfl) (fun hc ha => pe_callB hc (by rfl) T.z_len boot_len ha) (be_of (ve_of (fe_fz 6 (fe_lc (own := [("world", 8)]) rfl sc__law_known.nd (vi_any rfl (ve_name (pv 1))) (blkOk_by (own := [("world", 8)]) (N := N__law_known) (sc := relS (lcScope (stVal ((defBody s__law_known).getD 0 (.Pass ⟨0, 0, 0, 0⟩)))) (defScope s__law_known)) (by decide +kernel)) (fun _ _ _ _ _ => (vg_name (i := 8) [8] (by decide) sc__law_known.nd rfl (.inl rfl))) (fun _ _ _ _ _ => (vts_one (vb_cmp (o_in rfl (hu65 hr)) (ve_name (pv 6)) (be_name (pv 8)) (by rfl)))) (fun _ _ _ _ _ => (ve_name (pv 8))))))))) va_nil))))))
      (vss_cons (vs_fz 1 (vs_setLc (i := 3) (own := [("pair", 7)]) rfl sc__law_known.nd rfl rfl (sw_true rfl rfl rfl (by decide +kernel)) (vi_any rfl (ve_name (pv 2))) (blkOk_by (own := [("pair", 7)]) (N := N__law_known) (sc := defScope s__law_known) (by decide +kernel)) (fun _ _ _ _ _ => (vg_name (i := 7) [7] (by decide) sc__law_known.nd rfl (.inl rfl))) (fun _ _ _ _ _ => (vts_one (vb_cmp (o_in rfl (hu65 hr)) (ve_of (fe_ixN (i_ix rfl (hu_of hr)) (pv 7) (be_of ve_int) (fun _ _ => rfl))) (be_of (ve_tup (va_cons ve_int (va_cons (ve_of (pe_CB1 (c_len rfl) (fun hc ha => pe_callB hc (by rfl) T.z_len boot_len ha) (be_name (pv 1)))) va_nil)))) (by rfl)))) (fun _ _ _ _ _ => (ve_tup (va_cons (ve_of (fe_ixN (i_ix rfl (hu_of hr)) (pv 7) (be_of ve_int) (fun _ _ => rfl))) (va_cons (ve_of (fe_cmp o_gt (ve_of (fe_ixN (i_ix rfl (hu_of hr)) (pv 7) (be_of ve_int) (fun _ _ => rfl))) (be_of ve_int) (nomark _))) va_nil))))))
      (vss_cons (vs_set (i := 4) sc__law_known.nd rfl (.inr rfl) (fe_fz 1 (fe_lc (own := [("pair", 7)]) rfl sc__law_known.nd (vi_any rfl (ve_name (pv 2))) (blkOk_by (own := [("pair", 7)]) (N := N__law_known) (sc := defScope s__law_known) (by decide +kernel)) (fun _ _ _ _ _ => (vg_name (i := 7) [7] (by decide) sc__law_known.nd rfl (.inl rfl))) (fun _ _ _ _ _ => (vts_one (vb_chain o_lt o_lt ve_int (ve_of (fe_ixN (i_ix rfl (hu_of hr)) (pv 7) (be_of ve_int) (fun _ _ => rfl))) (ve_of (pe_CB1 (c_len rfl) (fun hc ha => pe_callB hc (by rfl) T.z_len boot_len ha) (be_name (pv 1))))))) (fun _ _ _ _ _ => (ve_of (fe_ixN (i_ix rfl (hu_of hr)) (pv 7) (be_of ve_int) (fun _ _ => rfl)))))))
      (vss_cons (vs_set (i := 5) sc__law_known.nd rfl (.inr rfl) (fe_fz 4 (fe_lc (own := [("world", 8)]) rfl sc__law_known.nd (vi_any rfl (ve_name (pv 1))) (blkOk_by (own := [("world", 8)]) (N := N__law_known) (sc := defScope s__law_known) (by decide +kernel)) (fun _ _ _ _ _ => (vg_name (i := 8) [8] (by decide) sc__law_known.nd rfl (.inl rfl))) (fun _ _ _ _ _ => vts_nil) (fun _ _ _ _ _ => (ve_call G__law_seen hr (by rfl) T.g__law_seen T.F__law_seen.kp T.b__law_seen (va_cons (ve_name (pv 8)) (va_cons (ve_name (pv 4)) va_nil)))))))
      (vss_one (vs_ret (ve_tup (va_cons (ve_of (pe_CB1 (c_tupleD rfl rfl) (fun hc ha => pe_callTy hc (by rfl) T.z_tuple boot_tuple ha) (be_name (pv 3)))) (va_cons (ve_of (pe_CB1 (c_tupleP rfl) (fun hc ha => pe_callTy hc (by rfl) T.z_tuple boot_tuple ha) (be_name (pv 4)))) (va_cons (ve_of (pe_CB1 (c_tupleD rfl rfl) (fun hc ha => pe_callTy hc (by rfl) T.z_tuple boot_tuple ha) (be_of (ve_of (fe_fz 5 (fe_lc (own := [("row", 9)]) rfl sc__law_known.nd (vi_any rfl (ve_call G__law_all hr (by rfl) T.g__law_all T.F__law_all.kp T.b__law_all (va_cons (ve_name (pv 4)) va_nil))) (blkOk_by (own := [("row", 9)]) (N := N__law_known) (sc := defScope s__law_known) (by decide +kernel)) (fun _ _ _ _ _ => (vg_name (i := 9) [9] (by decide) sc__law_known.nd rfl (.inl rfl))) (fun _ _ _ _ _ => (vts_one (vb_cmp (o_in rfl (hu65 hr)) (ve_name (pv 9)) (be_name (pv 5)) (by rfl)))) (fun _ _ _ _ _ => (ve_name (pv 9))))))))) va_nil))))))))))) ?_
  rintro ds c Q ⟨ns, ws, rfl, hn, hw, hto, q⟩
  walk_at "wh"
  refine ⟨ns, rfl, by omega, fun ms pm sm => ?_⟩
  have hm : ms.length ≤ 9 := by rw [pm.length_eq]; exact hn
  have hmt : ∀ n ∈ ms, tOk n := fun n h => hto n (pm.mem_iff.mp h)
  refine ⟨by rw [List.length_map]; omega, fun i acc k => Iv (acc = (ms.take i).map (cntD ws) ∧ k = c), .a ⟨rfl, rfl⟩, ?_, ?_⟩
  · intro i d acc k ed iv la
    obtain ⟨rfl, ek⟩ := iv.out
    subst k
    obtain ⟨x, ex, rfl⟩ := map_get ed
    refine wayT ?_
    walk_at "wh"
    refine ⟨by rw [List.length_map]; omega, fun i acc k => Iv (acc = ((ws.take i).filter fun w => decide (x ∈ w)).map strD ∧ k = c), .a ⟨rfl, rfl⟩, ?_, ?_⟩
    · intro i d acc k ed iv la
      obtain ⟨rfl, ek⟩ := iv.out
      subst k
      obtain ⟨y, ey, rfl⟩ := map_get ed
      refine ⟨rfl, flat_strsD _, ?_⟩
      rw [in_strsD]
      refine both (fun e => .a ⟨?_, rfl⟩) (fun e => .a ⟨?_, rfl⟩)
      · rw [filt_T ey e, List.map_append]; rfl
      · rw [filt_F ey e]
    · intro acc k iv la
      obtain ⟨rfl, ek⟩ := iv.out
      subst k
      rw [List.length_map, List.take_length]
      have hc := cnt_le x ws
      walk_at "wh"
      refine ⟨by show 2 ≤ 1000; decide, .a ⟨?_, rfl⟩⟩
      rw [take_more ex, List.map_append, List.length_map]
      rfl
  · intro acc k iv la
    obtain ⟨rfl, ek⟩ := iv.out
    subst k
    rw [List.length_map, List.take_length]
    refine atE (E' := ⟨[.v (.lst (ns.map .str)), .v (.lst (ws.map strD)), .ol (ms.map (cntD ws)), .no, .no, .no, .no, .no, .no, .no], c⟩) rfl ?_
    walk_at "wh"
    refine ⟨by rw [List.length_map]; omega, fun i acc k => Iv (acc = sbD (((ms.take i).filter fun n => sure ws n).map fun n => (n, decide (0 < cnt n ws))) ∧ k = c), .a ⟨rfl, rfl⟩, ?_, ?_⟩
    · intro i d acc k ed iv la
      obtain ⟨rfl, ek⟩ := iv.out
      subst k
      obtain ⟨x, ex, rfl⟩ := map_get ed
      have hc := cnt_le x ws
      have es : (List.any [D.int 0, D.int (((ws.map strD).length : Nat) : Int)] fun y => y.eqf (D.int ((cnt x ws : Nat) : Int))) = sure ws x := by
        show ((0 : Int) == ((cnt x ws : Nat) : Int) || (((((ws.map strD).length : Nat) : Int) == ((cnt x ws : Nat) : Int)) || false)) = _
        unfold sure
        rw [List.length_map, Bool.eq_iff_iff]
        simp
        omega
      walk_at "wh"
      refine ⟨by show 2 ≤ 1000; decide, ?_⟩
      walk_at "wh"
      refine ⟨rfl, rfl, ?_⟩
      walk_at "wh"
      refine both (fun e => ?_) (fun e => .a ⟨by rw [filt_F ex (es.symm.trans e)], rfl⟩)
      have e := es.symm.trans e
      walk_at "wh"
      refine ⟨by show 2 ≤ 1000; decide, .a ⟨?_, rfl⟩⟩
      rw [filt_T ex e, List.map_append]
      unfold sbD
      rw [List.map_append]
      refine congrArg _ ?_
      show [D.tup [.str x, .bl (decide (((cnt x ws : Nat) : Int) > 0))]] = [D.tup [.str x, .bl (decide (0 < cnt x ws))]]
      rw [show decide (((cnt x ws : Nat) : Int) > 0) = decide (0 < cnt x ws) from decide_eq_decide.mpr (by omega)]
    intro acc k iv la
    obtain ⟨rfl, ek⟩ := iv.out
    subst k
    rw [List.length_map, List.take_length]
    refine atE (E' := ⟨[.v (.lst (ns.map .str)), .v (.lst (ws.map strD)), .v (.lst (ms.map (cntD ws))), .ol (sbD (decs ms ws)), .no, .no, .no, .no, .no, .no], c⟩) rfl ?_
    walk_at "wh"
    refine ⟨by rw [List.length_map]; omega, fun i acc k => Iv (acc = (opens (ms.take i) ws).map .str ∧ k = c), .a ⟨rfl, rfl⟩, ?_, ?_⟩
    · intro i d acc k ed iv la
      obtain ⟨rfl, ek⟩ := iv.out
      subst k
      obtain ⟨x, ex, rfl⟩ := map_get ed
      have hc := cnt_le x ws
      walk_at "wh"
      refine both (fun e1 => ?_) (fun e1 => ?_)
      · have e1 : decide ((0 : Int) < ((cnt x ws : Nat) : Int)) = true := e1
        have h1 := of_decide_eq_true e1
        walk_at "wh"
        refine both (fun e2 => ?_) (fun e2 => ?_)
        · have e2 : decide (((cnt x ws : Nat) : Int) < (((ws.map strD).length : Nat) : Int)) = true := e2
          have h2 := of_decide_eq_true e2
          rw [List.length_map] at h2
          have ns : sure ws x = false := by
            unfold sure
            rw [decide_eq_false (by omega), decide_eq_false (by omega)]
            rfl
          walk_at "wh"
          refine .a ⟨?_, rfl⟩
          unfold opens
          rw [filt_T ex (by rw [ns]; rfl), List.map_append]
          rfl
        · have e2 : decide (((cnt x ws : Nat) : Int) < (((ws.map strD).length : Nat) : Int)) = false := e2
          have h2 := of_decide_eq_false e2
          rw [List.length_map] at h2
          have ns : sure ws x = true := by
            unfold sure
            rw [decide_eq_true (p := cnt x ws = ws.length) (by omega), Bool.or_true]
          refine .a ⟨?_, rfl⟩
          unfold opens
          rw [filt_F ex (by rw [ns]; rfl)]
      · have e1 : decide ((0 : Int) < ((cnt x ws : Nat) : Int)) = false := e1
        have h1 := of_decide_eq_false e1
        have ns : sure ws x = true := by
          unfold sure
          rw [decide_eq_true (p := cnt x ws = 0) (by omega), Bool.true_or]
        refine wayF ?_
        refine .a ⟨?_, rfl⟩
        unfold opens
        rw [filt_F ex (by rw [ns]; rfl)]
    intro acc k iv la
    obtain ⟨rfl, ek⟩ := iv.out
    subst k
    rw [List.length_map, List.take_length]
    have ho : (opens ms ws).length ≤ 9 := Nat.le_trans (opens_sub ms ws).length_le hm
    refine atE (E' := ⟨[.v (.lst (ns.map .str)), .v (.lst (ws.map strD)), .v (.lst (ms.map (cntD ws))), .ol (sbD (decs ms ws)), .ol ((opens ms ws).map .str), .no, .no, .no, .no, .no], c⟩) rfl ?_
    walk_at "wh"
    refine ⟨by rw [List.length_map]; omega, fun i acc k => Iv (acc = ((ws.take i).map (seenR (opens ms ws))).map strD ∧ k = c), .a ⟨rfl, rfl⟩, ?_, ?_⟩
    · intro i d acc k ed iv la
      obtain ⟨rfl, ek⟩ := iv.out
      subst k
      obtain ⟨y, ey, rfl⟩ := map_get ed
      refine wayT ?_
      refine ⟨y, opens ms ws, _, rfl, .inl rfl, by omega, ?_⟩
      refine .a ⟨?_, rfl⟩
      rw [take_more ey, List.map_append, List.map_append]
      rfl
    intro acc k iv la
    obtain ⟨rfl, ek⟩ := iv.out
    subst k
    rw [List.length_map, List.take_length]
    refine atE (E' := ⟨[.v (.lst (ns.map .str)), .v (.lst (ws.map strD)), .v (.lst (ms.map (cntD ws))), .ol (sbD (decs ms ws)), .v (.lst ((opens ms ws).map .str)), .ol ((ws.map (seenR (opens ms ws))).map strD), .no, .no, .no, .no], c⟩) rfl ?_
    walk_at "wh"
    refine ⟨opens ms ws, rfl, ho, ?_⟩
    have hal := allR_len (opens ms ws)
    have hp9 : 2 ^ (opens ms ws).length ≤ 2 ^ 9 := Nat.pow_le_pow_right (by decide) ho
    walk_at "wh"
    refine ⟨by rw [List.length_map]; omega, fun i acc k => Iv (acc = (((allR (opens ms ws)).take i).filter fun r => decide (r ∈ ws.map (seenR (opens ms ws)))).map strD ∧ k = c), .a ⟨rfl, rfl⟩, ?_, ?_⟩
    · intro i d acc k ed iv la
      obtain ⟨rfl, ek⟩ := iv.out
      subst k
      obtain ⟨r, er, rfl⟩ := map_get ed
      have hot : ∀ n ∈ opens ms ws, tOk n := fun n h => hmt n ((opens_sub ms ws).subset h)
      walk_at "wh"
      refine ⟨shaped_row fun n h => hot n ((allR_sub (List.mem_of_getElem? er)).subset h), shaped_rows (fun r hr n h => by
        obtain ⟨w, _, rfl⟩ := List.mem_map.mp hr
        exact hot n (List.mem_filter.mp h).1), ?_⟩
      have es := in_rows r (ws.map (seenR (opens ms ws)))
      refine both (fun e => .a ⟨?_, rfl⟩) (fun e => .a ⟨?_, rfl⟩)
      · rw [filt_T er (es.symm.trans e), List.map_append]; rfl
      · rw [filt_F er (es.symm.trans e)]
    intro acc k iv la
    obtain ⟨rfl, ek⟩ := iv.out
    subst k
    rw [List.length_map, List.take_length]
    walk_at "wh"
    exact ⟨by show 3 ≤ 1000; decide, q ms pm sm⟩
end
end Va
set_option Elab.async false
set_option linter.all false
set_option maxRecDepth 100000
set_option maxHeartbeats 4000000
namespace IndEnd
open PySem PySem.Spec PyProof.Rows L2
theorem walk_tabs {l : PySem.W.OpenLaw} {n k : Nat} {q : Program} {loose : List Str} {XP : (Str → Option Value) → Heap → Prop} {YP : World → Heap → Prop} {d : DefRec} {K : Params → PySem.W.Frag} {CX : World → CXT} {x : Str}
    (hn : l.most = some n) (hn2 : n ≤ sizeLine) (hdf : d.params.defaults = []) (room : Room k callerA) (hY : ∀ (w : World) (h : Heap), YP w h → (K w.params).In h)
    (F : ∀ (w : World) (mg : Str → Option Value) (fa : Addr) (h : Heap), (K w.params).In h → h.Ns mainGlobals mg → mg d.name = some (.ref fa) →
      (∀ (y : Str) (e : DefRec) (c P : Addr), (recsOf q).find? (fun r => r.name == y) = some e → PySem.W.tabIn (K w.params) y = some (c, P) → PySem.W.CodeHd h c P ∧ h.get? P = some { cls := .none, data := .fields #[] }) → LamX.LawAtS l w (K w.params) (CX w) k n x mg fa h)
    (no : ∀ (w : World) (H : Hp) (s : Shared) (e : Value) (s' : Shared), CX w [] H s (fun _ _ _ => False) e s' → False) :
    PySem.W.WalkO q loose XP YP l.row.toRowW d [] (fun f vs => PySem.call f vs) := by
  apply Att.attach_callB hn hdf
  intro w s₀ s₁ mg mb fa o pm cd doc a vs ns G Y ho hd hcd hmg hobj hints hlen hbits hg
  have KX := hY w _ Y
  obtain ⟨fd, cs, sp, t1, t2, t3, hb, hsp, hF⟩ := F w mg fa _ KX G.T.g hmg fun y e c P h1 h2 => PySem.W.tab_of G.T KX h1 h2
  exact LamX.law_callTs KX G.T.g G.T.b G.T.builtins G.T.nolimit hg t1 t2 t3 G.T.bmain hobj hints (Nat.le_trans hlen hn2) room hF hb (fun H hH hS => hsp H a ns hlen hbits hH hS) fun H e s' => no w H s₁ e s'
end IndEnd
set_option Elab.async false
set_option linter.all false
set_option maxRecDepth 100000
set_option maxHeartbeats 2000000
namespace Va
open PySem PySem.Spec PyProof.Rows L2 Ind
local macro_rules | `(tactic| walk_at "cn") => `(tactic| first
  | assumption
  | omega
  | exact dm (by omega)
  | exact line (by simp)
  | exact line (by omega)
  | exact line (by simp only [len_app, len_one]; omega)
  | exact small_div (by omega) (by omega)
  | solve_by_elim
  | exact Or.inr ⟨by omega, by omega⟩
  | exact Or.inl ⟨by omega, by omega⟩
  | exact ⟨by omega, by omega⟩
  | decide)
local macro_rules | `(tactic| walk_at "st") => `(tactic| repeat (first
  | refine ⟨_, rfl, ?_⟩
  | refine ⟨_, _, rfl, rfl, ?_⟩
  | refine ⟨_, _, rfl, ?_⟩
  | refine .inl ⟨_, rfl, ?_⟩
  | refine And.intro rfl ?_
  | refine And.intro (by walk_at "cn") ?_))
local macro_rules | `(tactic| walk_at "fz") => `(tactic| repeat (first | exact Fz.refl | apply Fz.upd))
local macro_rules | `(tactic| walk_at "hl") => `(tactic| ((repeat rw [upd_ne (by assumption)]); assumption))
local macro_rules | `(tactic| walk_at "fy") => `(tactic| (intro b o n1 h; (repeat rw [upd_ne n1]); exact h))
local macro_rules | `(tactic| walk_at "wh") => `(tactic| (conv => whnf))
local macro_rules | `(tactic| walk_at "cv") => `(tactic| first
  | rfl
  | assumption
  | omega
  | exact dm (by omega)
  | exact small_div (by omega) (by omega)
  | (simp only [len_app, one_len, len_one, List.length_append, List.length_map, List.length_cons, List.length_nil]; omega)
  | exact Or.inr ⟨by omega, by omega⟩
  | exact Or.inl ⟨by omega, by omega⟩
  | exact ⟨by omega, by omega⟩
  | decide)
local macro_rules | `(tactic| walk_at "vv") => `(tactic| repeat (refine And.intro (by walk_at "cv") ?_))
local macro_rules | `(tactic| walk_at "sk") => `(tactic| repeat (first
  | refine wayT ?_
  | refine wayF ?_
  | refine skipT (by omega) ?_
  | refine skipF (by omega) ?_
  | refine skipT (by decide) ?_
  | refine skipF (by decide) ?_
  | refine ⟨_, (show tyNames _ = some _ from rfl), ?_⟩
  | refine And.intro (by walk_at "cv") ?_))
local macro_rules | `(tactic| walk_at "s0") => `(tactic| first
  | refine wayT ?_
  | refine wayF ?_
  | refine skipT (by omega) ?_
  | refine skipF (by omega) ?_
  | refine skipT (by decide) ?_
  | refine skipF (by decide) ?_
  | refine ⟨_, (show tyNames _ = some _ from rfl), ?_⟩
  | refine And.intro (by walk_at "cv") ?_)
local macro_rules | `(tactic| walk_at "s1") => `(tactic| try (walk_at "s0"; walk_at "wh"))
local macro_rules | `(tactic| walk_at "go") => `(tactic| (walk_at "wh"; repeat (walk_at "s0"; walk_at "wh")))
section
variable {P : Program} {w : World} {K : PySem.W.Frag} {mg : PySem.Str → Option Value} {base : Heap}
theorem ok__law_same (T : Txt P K mg) : FnOk P w K mg base CX0 7 T.a__law_same T.d__law_same ["told", "due"] (spV (Sx T) (mSame 6)) := rec__law_same T 6
theorem ok_law (T : Txt P K mg) (TB_holds_in : GxR.TabB base mg T.cc_holds_in T.pp_holds_in) (TB__is_minimal : GxR.TabB base mg T.cc__is_minimal T.pp__is_minimal) (TB__agrees : GxR.TabB base mg T.cc__agrees T.pp__agrees) : FnOk P w K mg base CX0 8 T.a_law T.d_law ["script"] (spLawT K [T.pp_holds_in, T.pp__is_minimal, T.pp__agrees]) := by
  have G__law_tape := ok__law_tape (P := P) (w := w) (base := base) T
  have G__law_names := ok__law_names (P := P) (w := w) (base := base) T
  have G__law_worlds := ok__law_worlds (P := P) (w := w) (base := base) T
  have G__law_known := ok__law_known (P := P) (w := w) (base := base) T
  have G__law_picked := ok__law_picked (P := P) (w := w) (base := base) T
  have G_condition_of := ok_condition_of (P := P) (w := w) (base := base) T TB__is_minimal
  have G__law_draw := draw_v (S := Sx T) (ok__law_draw (P := P) (w := w) (base := base) T)
  have G__law_exact := ok__law_exact (P := P) (w := w) (base := base) T
  have G__law_needed := ok__law_needed (P := P) (w := w) (base := base) T
  have G__law_is_case := ok__law_is_case (P := P) (w := w) (base := base) T
  have G__law_same := ok__law_same (P := P) (w := w) (base := base) T
  have G_holds_in := ok_holds_in (P := P) (w := w) (base := base) T TB_holds_in TB__agrees
  refine T.F_law.ok sc_law (fun vs H Q E h => by obtain ⟨a, ns, rfl, _⟩ := h; rfl) (fun cdv A outer s H vs Q E hr h => ?_)
  refine law_rest (S := Sx T) (N := N_law) (i0 := 0) rfl (by decide) (ps_set (i := 1) sc_law.nd rfl (.inl rfl) (pe_call G__law_tape (hr.mono (by decide)) (by rfl) T.g__law_tape T.F__law_tape.kp T.b__law_tape .nil pass0 (pa_cons (pv 0) pa_nil)))
    (vss_cons (vs_set (i := 2) sc_law.nd rfl (.inl rfl) (fe_of (ve_call G__law_names (hr.mono (by omega)) (by rfl) T.g__law_names T.F__law_names.kp T.b__law_names (va_cons (ve_name (pv 1)) (va_cons ve_int va_nil)))))
      (vss_cons (vs_set (i := 3) sc_law.nd rfl (.inl rfl) (fe_of (ve_call G__law_worlds (hr.mono (by omega)) (by rfl) T.g__law_worlds T.F__law_worlds.kp T.b__law_worlds (va_cons (ve_name (pv 1)) (va_cons (ve_name (pv 2)) va_nil)))))
      (vss_cons (vs_if (vb_cmp (o_eq rfl hr.units) (ve_of (pe_CB1 (c_len rfl) (fun hc ha => pe_callB hc (by rfl) T.z_len boot_len ha) (be_name (pv 2)))) (be_of ve_int) (nomark _)) (vss_one (vs_set (i := 3) sc_law.nd rfl (.inl rfl) (fe_slice rfl (ve_name (pv 3)) vo_none (vo_some ve_int)))) vss_nil)
      (vss_cons (vs_set (i := 4) sc_law.nd rfl (.inl rfl) (fe_of (ve_call G__law_known (hr.mono (by omega)) (by rfl) T.g__law_known T.F__law_known.kp T.b__law_known (va_cons (ve_name (pv 2)) (va_cons (ve_name (pv 3)) va_nil)))))
      (vss_cons (vs_set (i := 5) sc_law.nd rfl (.inl rfl) (fe_of (ve_call G__law_picked (hr.mono (by omega)) (by rfl) T.g__law_picked T.F__law_picked.kp T.b__law_picked (va_cons (ve_name (pv 1)) (va_cons (ve_of (fe_ixN (i_ix rfl (hu_of hr)) (pv 4) (be_of ve_int) (fun _ _ => rfl))) (va_cons (ve_of (fe_ix (i_ix rfl (hu_of hr)) (ve_of (fe_lst (va_cons ve_int (va_cons ve_int (va_cons ve_int (va_cons ve_int (va_cons ve_int va_nil))))))) (be_of (ve_call G__law_draw (hr.mono (by omega)) (by rfl) T.g__law_draw T.F__law_draw.kp T.b__law_draw (va_cons (ve_name (pv 1)) (va_cons ve_int va_nil)))) (fun _ _ => rfl))) va_nil))))))
      (vss_cons (vs_if (vb_cmp (o_eq rfl hr.units) (ve_call G__law_draw (hr.mono (by omega)) (by rfl) T.g__law_draw T.F__law_draw.kp T.b__law_draw (va_cons (ve_name (pv 1)) (va_cons ve_int va_nil))) (be_of ve_int) (nomark _)) (vss_one (vs_set (i := 5) sc_law.nd rfl (.inl rfl) (fe_lst va_nil))) vss_nil)
      (vss_cons (vs_set (i := 6) sc_law.nd rfl (.inl rfl) (fe_of (ve_call G_condition_of (hr.mono (by omega)) (by rfl) T.g_condition_of T.F_condition_of.kp T.b_condition_of (va_cons (ve_un (ve_of (fe_ixN (i_ix rfl (hu_of hr)) (pv 4) (be_of ve_int) (fun _ _ => rfl)))) (va_cons (ve_of (fe_ixN (i_ix rfl (hu_of hr)) (pv 4) (be_of ve_int) (fun _ _ => rfl))) (va_cons (ve_of (pe_CB1 (c_tupleD rfl rfl) (fun hc ha => pe_callTy hc (by rfl) T.z_tuple boot_tuple ha) (be_name (pv 5)))) va_nil))))))
      (vss_cons (vs_if (vb_not (vb_tru rfl (be_of (ve_of (pe_CB (c_isi rfl) (fun hc ha => pe_callB hc (by rfl) T.z_isinstance boot_isinstance ha) (va_cons (ve_name (pv 6)) (va_cons (ve_ty (x := "") (pe_bltn (v := .ty "tuple") (by rfl) T.z_tuple boot_tuple rfl)) va_nil))))))) (vss_one (vs_ret ve_bl)) vss_nil)
      (vss_cons (vs_for PassesOwn.never rfl (vi_any rfl (ve_name (pv 6))) (vg_name (i := 7) [7] (by decide) sc_law.nd rfl (.inl rfl))
      (vss_one (vs_if (vb_not (vb_tru rfl (be_of (ve_call G__law_is_case (hr.mono (by omega)) (by rfl) T.g__law_is_case T.F__law_is_case.kp T.b__law_is_case (va_cons (ve_name (pv 7)) (va_cons (ve_of (fe_ixN (i_ix rfl (hu_of hr)) (pv 4) (be_of ve_int) (fun _ _ => rfl))) va_nil)))))) (vss_one (vs_ret ve_bl)) vss_nil)))
      (vss_cons (vs_for PassesOwn.never rfl (vi_any rfl (ve_of (fe_ixN (i_ix rfl (hu_of hr)) (pv 4) (be_of ve_int) (fun _ _ => rfl)))) (vg_name (i := 8) [8] (by decide) sc_law.nd rfl (.inl rfl))
      (vss_one (vs_if (vb_not (vb_tru rfl (be_of (ve_call G__law_same hr (by rfl) T.g__law_same T.F__law_same.kp T.b__law_same (va_cons (ve_call G_holds_in (hr.mono (by omega)) (by rfl) T.g_holds_in T.F_holds_in.kp T.b_holds_in (va_cons (ve_name (pv 6)) (va_cons (ve_name (pv 8)) va_nil))) (va_cons (ve_of (fe_cmp (o_in rfl (hu65 hr)) (ve_name (pv 8)) (be_name (pv 5)) (by rfl))) va_nil)))))) (vss_one (vs_ret ve_bl)) vss_nil)))
      (vss_one (vs_ret (ve_and (ve_call G__law_exact (hr.mono (by omega)) (by rfl) T.g__law_exact T.F__law_exact.kp T.b__law_exact (va_cons (ve_name (pv 6)) (va_cons (ve_of (fe_ixN (i_ix rfl (hu_of hr)) (pv 4) (be_of ve_int) (fun _ _ => rfl))) (va_cons (ve_name (pv 5)) va_nil)))) (ve_one (ve_call G__law_needed (hr.mono (by omega)) (by rfl) T.g__law_needed T.F__law_needed.kp T.b__law_needed (va_cons (ve_name (pv 6)) (va_cons (ve_of (fe_ixN (i_ix rfl (hu_of hr)) (pv 4) (be_of ve_int) (fun _ _ => rfl))) (va_cons (ve_name (pv 5)) va_nil)))))))))))))))))) ?_ h
  refine ⟨6, rfl, by decide, by decide, by decide, fun ns0 c' hc' hne0 hl0 hnd0 _ hto0 => ?_⟩
  have hc' : 999000 ≤ c' + 12 := hc'
  walk_at "wh"
  refine ⟨ns0, rfl, by omega, by show 600 ≤ c'; omega, fun ws0 c2 hwn hwl hws hc2 => ?_⟩
  have hc2 : 998000 ≤ c2 := by
    have h1 : c' ≤ c2 + 600 := hc2
    omega
  have hp : 2 ^ ns0.length ≤ 2 ^ 6 := Nat.pow_le_pow_right (by decide) (by omega)
  have h64 : (2 : Nat) ^ 6 = 64 := by decide
  rw [h64] at hp
  refine seqI (fun E => E = ⟨[.no, .v .tape, .v (.lst (ns0.map .str)), .v (.lst (ws0.map strD)), .no, .no, .no, .no, .no], c2⟩) ?_ ?_
  · intro N hN
    exact hN _ rfl
  rintro E rfl
  refine seqI (fun E => ∃ (ws : List Row) (s3 : SV), ws ≠ [] ∧ ws.length ≤ 64 ∧ (∀ w ∈ ws, w.length ≤ ns0.length ∧ ∀ n ∈ w, n ∈ ns0) ∧ (s3 = .v (.lst (ws.map strD)) ∨ s3 = .ol (ws.map strD)) ∧ E = ⟨[.no, .v .tape, .v (.lst (ns0.map .str)), s3, .no, .no, .no, .no, .no], c2⟩) ?_ ?_
  · intro N hN
    walk_at "wh"
    refine both (fun e => ?_) (fun e => ?_)
    · walk_at "wh"
      refine hN _ ⟨ws0.take 12, .ol ((ws0.take 12).map strD), ?_, ?_, fun w hw => hws w (List.mem_of_mem_take hw), .inr rfl, ?_⟩
      · intro z
        rcases List.take_eq_nil_iff.mp z with z | z
        · cases z
        · exact hwn z
      · rw [List.length_take]; omega
      · rw [show cutD (ws0.map strD) none (some 12) = (ws0.take 12).map strD by rw [show (12 : Int) = ((12 : Nat) : Int) from rfl, cutD_to, List.map_take]]
        rfl
    · walk_at "wh"
      exact hN _ ⟨ws0, _, hwn, by omega, hws, .inl rfl, rfl⟩
  rintro E ⟨ws, s3, hne, hwl2, hwo, hs3, rfl⟩
  refine seqI (fun E => ∃ ms : List Tx, ms.Perm ns0 ∧ E = ⟨[.no, .v .tape, .v (.lst (ns0.map .str)), .v (.lst (ws.map strD)), .v (knownP ms ws), .no, .no, .no, .no], c2⟩) ?_ ?_
  · intro N hN
    rcases hs3 with rfl | rfl
    all_goals
      walk_at "wh"
      refine ⟨ns0, ws, rfl, by omega, by omega, hto0, fun ms pm sm => ?_⟩
      exact hN _ ⟨ms, pm, rfl⟩
  rintro E ⟨ms, pm, rfl⟩
  refine seqI (fun E => ∃ (ch : List Row) (c3 : Nat), ch.Sublist (rowsOf ms ws) ∧ 900000 ≤ c3 ∧ E = ⟨[.no, .v .tape, .v (.lst (ns0.map .str)), .v (.lst (ws.map strD)), .v (knownP ms ws), .v (.lst (ch.map strD)), .no, .no, .no], c3⟩) ?_ ?_
  · intro N hN
    walk_at "wh"
    refine ⟨by decide, ?_⟩
    refine ⟨5, rfl, by show 1 ≤ c2; omega, dm (by decide), fun r1 hr1 => ?_⟩
    obtain ⟨z1, ez1, mz1⟩ := pickD (l := [D.int 1, .int 2, .int 2, .int 2, .int 4]) (i := r1) (by simp; omega)
    obtain ⟨z1, rfl, hz1⟩ := int_mem (P := fun i => 1 ≤ i ∧ i ≤ 4) mz1 (by simp)
    walk_at "wh"
    refine withD_of ez1 ?_
    walk_at "wh"
    have hml : ms.length = ns0.length := pm.length_eq
    have hrl : (rowsOf ms ws).length ≤ 64 := by
      have h1 : (rowsOf ms ws).length ≤ (allR (opens ms ws)).length := List.length_filter_le _ _
      have h2 := allR_len (opens ms ws)
      have h3 : (opens ms ws).length ≤ 6 := by have := (opens_sub ms ws).length_le; omega
      have h4 : 2 ^ (opens ms ws).length ≤ 2 ^ 6 := Nat.pow_le_pow_right (by decide) h3
      rw [h64] at h4
      omega
    refine ⟨(rowsOf ms ws).map strD, _, z1.toNat, by rw [Int.toNat_of_nonneg (by omega)]; rfl, .inr rfl, by omega, by rw [List.length_map]; omega, by show _ ≤ c2 - 1; rw [List.length_map]; omega, fun ys c3 hy hc3 => ?_⟩
    obtain ⟨ch, hch, rfl⟩ := List.sublist_map_iff.mp hy
    have hc3 : c2 - 1 ≤ c3 + ((rowsOf ms ws).map strD).length := hc3
    rw [List.length_map] at hc3
    exact hN _ ⟨ch, c3, hch, by omega, rfl⟩
  rintro E ⟨ch0, c3, hch0, hc3, rfl⟩
  refine seqI (fun E => ∃ (ch : List Row) (s5 : SV) (c4 : Nat), ch.Sublist (rowsOf ms ws) ∧ 800000 ≤ c4 ∧ (s5 = .v (.lst (ch.map strD)) ∨ s5 = .ol (ch.map strD)) ∧ E = ⟨[.no, .v .tape, .v (.lst (ns0.map .str)), .v (.lst (ws.map strD)), .v (knownP ms ws), s5, .no, .no, .no], c4⟩) ?_ ?_
  · intro N hN
    walk_at "wh"
    refine ⟨8, rfl, by show 1 ≤ c3; omega, dm (by decide), fun r1 hr1 => ?_⟩
    walk_at "wh"
    refine both (fun e => ?_) (fun e => ?_)
    · walk_at "wh"
      refine ⟨by decide, ?_⟩
      exact hN _ ⟨[], .ol [], _, List.nil_sublist _, (by show 800000 ≤ c3 - 1; omega), .inr rfl, rfl⟩
    · walk_at "wh"
      exact hN _ ⟨ch0, _, _, hch0, (by show 800000 ≤ c3 - 1; omega), .inl rfl, rfl⟩
  rintro E ⟨ch, s5, c4, hch, hc4, hs5, rfl⟩
  have ndo : (opens ms ws).Nodup := (pm.nodup_iff.mpr hnd0).sublist (opens_sub ms ws)
  have hol : (opens ms ws).length ≤ 9 := by have := (opens_sub ms ws).length_le; have := pm.length_eq; omega
  have hrl : (rowsOf ms ws).length ≤ 1000 := by
    have h1 : (rowsOf ms ws).length ≤ (allR (opens ms ws)).length := List.length_filter_le _ _
    have h2 := allR_len (opens ms ws)
    have h4 : 2 ^ (opens ms ws).length ≤ 2 ^ 9 := Nat.pow_le_pow_right (by decide) hol
    have h5 : (2 : Nat) ^ 9 = 512 := by decide
    omega
  have hrn : rowsOf ms ws ≠ [] := by
    obtain ⟨w0, ws', rfl⟩ := List.exists_cons_of_ne_nil hne
    exact List.ne_nil_of_mem (seen_row (List.mem_cons_self ..))
  have hrd : (rowsOf ms ws).Nodup := List.Pairwise.filter _ (allR_nd ndo)
  have hot : ∀ n ∈ opens ms ws, tOk n := fun n h => hto0 n (pm.mem_iff.mp ((opens_sub ms ws).subset h))
  have hrt : ∀ o ∈ rowsOf ms ws, ∀ n ∈ o, tOk n := fun o ho n h => hot n ((rows_sub ho).subset h)
  have hct : ∀ o ∈ ch, ∀ n ∈ o, tOk n := fun o ho => hrt o (hch.subset ho)
  refine seqI (fun E => ∃ R : List Case, Good45 (opens ms ws) (rowsOf ms ws) ch R ∧ E = ⟨[.no, .v .tape, .v (.lst (ns0.map .str)), .v (.lst (ws.map strD)), .v (knownP ms ws), s5, .v (casesD R), .no, .no], c4⟩) ?_ ?_
  · intro N hN
    rcases hs5 with rfl | rfl
    all_goals
      walk_at "wh"
      refine ⟨opens ms ws, rowsOf ms ws, ch, rfl, ndo, hol, hrl, hrn, hrd, hch, hot, fun M R pM hR => ?_⟩
      exact hN _ ⟨R, good45 hrn ndo hol (fun o ho => rows_sub ho) (fun o ho => hch.subset ho) pM hR, rfl⟩
  rintro E ⟨R, gd, rfl⟩
  have hxl : ∀ x ∈ R, x.length ≤ 9 := fun x hx => by have := (gd.case x hx).length_le; rw [List.length_map] at this; omega
  refine seqI (fun E => E = ⟨[.no, .v .tape, .v (.lst (ns0.map .str)), .v (.lst (ws.map strD)), .v (knownP ms ws), s5, .v (casesD R), .no, .no], c4⟩) ?_ ?_
  · intro N hN
    walk_at "wh"
    refine ⟨rfl, ?_⟩
    walk_at "wh"
    refine wayF ?_
    walk_at "wh"
    exact hN _ rfl
  rintro E rfl
  refine seqI (fun E => ∃ s7 : SV, E = ⟨[.no, .v .tape, .v (.lst (ns0.map .str)), .v (.lst (ws.map strD)), .v (knownP ms ws), s5, .v (casesD R), s7, .no], c4⟩) ?_ ?_
  · intro N hN
    walk_at "wh"
    refine ⟨fun i E => Iv (∃ s7 : SV, E = ⟨[.no, .v .tape, .v (.lst (ns0.map .str)), .v (.lst (ws.map strD)), .v (knownP ms ws), s5, .v (casesD R), s7, .no], c4⟩), .a ⟨_, rfl⟩, ?_, ?_⟩
    · intro i d E ed iv
      obtain ⟨s7, rfl⟩ := iv.out
      obtain ⟨x, ex, rfl⟩ := map_get ed
      have hx := List.mem_of_getElem? ex
      walk_at "wh"
      refine ⟨x, opens ms ws, rfl, gd.case x hx, ndo, hol, hxl x hx, ?_⟩
      walk_at "wh"
      refine wayF ?_
      walk_at "wh"
      exact .a ⟨_, rfl⟩
    · intro E iv
      obtain ⟨s7, rfl⟩ := iv.out
      exact hN _ ⟨_, rfl⟩
  rintro E ⟨s7, rfl⟩
  refine seqI (fun E => ∃ s8 : SV, E = ⟨[.no, .v .tape, .v (.lst (ns0.map .str)), .v (.lst (ws.map strD)), .v (knownP ms ws), s5, .v (casesD R), s7, s8], c4⟩) ?_ ?_
  · intro N hN
    walk_at "wh"
    refine ⟨fun i E => Iv (∃ s8 : SV, E = ⟨[.no, .v .tape, .v (.lst (ns0.map .str)), .v (.lst (ws.map strD)), .v (knownP ms ws), s5, .v (casesD R), s7, s8], c4⟩), .a ⟨_, rfl⟩, ?_, ?_⟩
    · intro i d E ed iv
      obtain ⟨s8, rfl⟩ := iv.out
      obtain ⟨o, eo, rfl⟩ := map_get ed
      have hoo := List.mem_of_getElem? eo
      rcases hs5 with rfl | rfl
      all_goals
        walk_at "wh"
        refine ⟨R, o, rfl, fun x hx => by have := hxl x hx; omega, ?_⟩
        walk_at "wh"
        refine ⟨shaped_row (hrt o hoo), shaped_rows hct, ?_⟩
        rw [in_rows, gd.ho o hoo]
        walk_at "wh"
        refine ⟨_, rfl, trivial, ?_⟩
        walk_at "wh"
        refine wayF ?_
        walk_at "wh"
        exact .a ⟨_, rfl⟩
    · intro E iv
      obtain ⟨s8, rfl⟩ := iv.out
      exact hN _ ⟨_, rfl⟩
  rintro E ⟨s8, rfl⟩
  have hlenR := gd.len
  rcases hs5 with rfl | rfl
  all_goals
    walk_at "wh"
    refine ⟨R, rowsOf ms ws, ch, rfl, by omega, fun x hx => by have := hxl x hx; omega, hrt, hct, ?_⟩
    rw [gd.ex]
    walk_at "wh"
    refine wayT ?_
    walk_at "wh"
    refine ⟨R, rowsOf ms ws, ch, rfl, by omega, fun x hx => by have := hxl x hx; omega, hrt, hct, gd.need, gd.lets, ?_⟩
    walk_at "wh"
end
end Va
set_option Elab.async false
set_option linter.all false
set_option maxRecDepth 100000
set_option maxHeartbeats 4000000
namespace Va
open PySem PySem.Spec PyProof.Rows L2 Ind SrtB
local macro_rules | `(tactic| walk_at "cn") => `(tactic| first
  | assumption
  | omega
  | exact dm (by omega)
  | exact line (by simp)
  | exact line (by omega)
  | exact line (by simp only [len_app, len_one]; omega)
  | exact small_div (by omega) (by omega)
  | solve_by_elim
  | exact Or.inr ⟨by omega, by omega⟩
  | exact Or.inl ⟨by omega, by omega⟩
  | exact ⟨by omega, by omega⟩
  | decide)
local macro_rules | `(tactic| walk_at "st") => `(tactic| repeat (first
  | refine ⟨_, rfl, ?_⟩
  | refine ⟨_, _, rfl, rfl, ?_⟩
  | refine ⟨_, _, rfl, ?_⟩
  | refine .inl ⟨_, rfl, ?_⟩
  | refine And.intro rfl ?_
  | refine And.intro (by walk_at "cn") ?_))
local macro_rules | `(tactic| walk_at "fz") => `(tactic| repeat (first | exact Fz.refl | apply Fz.upd))
local macro_rules | `(tactic| walk_at "hl") => `(tactic| ((repeat rw [upd_ne (by assumption)]); assumption))
local macro_rules | `(tactic| walk_at "fy") => `(tactic| (intro b o n1 h; (repeat rw [upd_ne n1]); exact h))
local macro_rules | `(tactic| walk_at "wh") => `(tactic| (conv => whnf))
local macro_rules | `(tactic| walk_at "cv") => `(tactic| first
  | rfl
  | assumption
  | omega
  | exact dm (by omega)
  | exact small_div (by omega) (by omega)
  | (simp only [len_app, one_len, len_one, List.length_append, List.length_map, List.length_cons, List.length_nil]; omega)
  | exact Or.inr ⟨by omega, by omega⟩
  | exact Or.inl ⟨by omega, by omega⟩
  | exact ⟨by omega, by omega⟩
  | decide)
local macro_rules | `(tactic| walk_at "vv") => `(tactic| repeat (refine And.intro (by walk_at "cv") ?_))
local macro_rules | `(tactic| walk_at "sk") => `(tactic| repeat (first
  | refine wayT ?_
  | refine wayF ?_
  | refine skipT (by omega) ?_
  | refine skipF (by omega) ?_
  | refine skipT (by decide) ?_
  | refine skipF (by decide) ?_
  | refine ⟨_, (show tyNames _ = some _ from rfl), ?_⟩
  | refine And.intro (by walk_at "cv") ?_))
local macro_rules | `(tactic| walk_at "s0") => `(tactic| first
  | refine wayT ?_
  | refine wayF ?_
  | refine skipT (by omega) ?_
  | refine skipF (by omega) ?_
  | refine skipT (by decide) ?_
  | refine skipF (by decide) ?_
  | refine ⟨_, (show tyNames _ = some _ from rfl), ?_⟩
  | refine And.intro (by walk_at "cv") ?_)
local macro_rules | `(tactic| walk_at "s1") => `(tactic| try (walk_at "s0"; walk_at "wh"))
local macro_rules | `(tactic| walk_at "go") => `(tactic| (walk_at "wh"; repeat (walk_at "s0"; walk_at "wh")))
section
variable {P : Program} {w : World} {K : PySem.W.Frag} {mg : PySem.Str → Option Value} {base : Heap}
theorem all_mk {l : PySem.W.OpenLaw} {w : World} {K : PySem.W.Frag} {h : Heap} {mg : Str → Option Value} {fa : Addr} (X : K.In h) (G : h.Ns mainGlobals mg) (hfa : mg "law" = some (.ref fa))
    {f0 : Addr} {od0 an0 : Option Addr} {sl0 : Array (Option Value)} {oc0 kV0 dc0 pm0 cd0 ct0 : Value}
    {f1 : Addr} {od1 an1 : Option Addr} {sl1 : Array (Option Value)} {oc1 kV1 dc1 pm1 ct1 : Value} {cc1 pp1 : Addr}
    {f2 : Addr} {od2 an2 : Option Addr} {sl2 : Array (Option Value)} {oc2 kV2 dc2 pm2 cd2 ct2 : Value}
    {f3 : Addr} {od3 an3 : Option Addr} {sl3 : Array (Option Value)} {oc3 kV3 dc3 pm3 ct3 : Value} {cc3 pp3 : Addr}
    {f4 : Addr} {od4 an4 : Option Addr} {sl4 : Array (Option Value)} {oc4 kV4 dc4 pm4 cd4 ct4 : Value}
    {f5 : Addr} {od5 an5 : Option Addr} {sl5 : Array (Option Value)} {oc5 kV5 dc5 pm5 cd5 ct5 : Value}
    {f6 : Addr} {od6 an6 : Option Addr} {sl6 : Array (Option Value)} {oc6 kV6 dc6 pm6 ct6 : Value} {cc6 pp6 : Addr}
    {f7 : Addr} {od7 an7 : Option Addr} {sl7 : Array (Option Value)} {oc7 kV7 dc7 pm7 cd7 ct7 : Value}
    {f8 : Addr} {od8 an8 : Option Addr} {sl8 : Array (Option Value)} {oc8 kV8 dc8 pm8 cd8 ct8 : Value}
    {f9 : Addr} {od9 an9 : Option Addr} {sl9 : Array (Option Value)} {oc9 kV9 dc9 pm9 cd9 ct9 : Value}
    {f10 : Addr} {od10 an10 : Option Addr} {sl10 : Array (Option Value)} {oc10 kV10 dc10 pm10 cd10 ct10 : Value}
    {f11 : Addr} {od11 an11 : Option Addr} {sl11 : Array (Option Value)} {oc11 kV11 dc11 pm11 cd11 ct11 : Value}
    {f12 : Addr} {od12 an12 : Option Addr} {sl12 : Array (Option Value)} {oc12 kV12 dc12 pm12 cd12 ct12 : Value}
    {f13 : Addr} {od13 an13 : Option Addr} {sl13 : Array (Option Value)} {oc13 kV13 dc13 pm13 cd13 ct13 : Value}
    {f14 : Addr} {od14 an14 : Option Addr} {sl14 : Array (Option Value)} {oc14 kV14 dc14 pm14 cd14 ct14 : Value}
    {f15 : Addr} {od15 an15 : Option Addr} {sl15 : Array (Option Value)} {oc15 kV15 dc15 pm15 cd15 ct15 : Value}
    {f16 : Addr} {od16 an16 : Option Addr} {sl16 : Array (Option Value)} {oc16 kV16 dc16 pm16 cd16 ct16 : Value}
    {f17 : Addr} {od17 an17 : Option Addr} {sl17 : Array (Option Value)} {oc17 kV17 dc17 pm17 cd17 ct17 : Value}
    {f18 : Addr} {od18 an18 : Option Addr} {sl18 : Array (Option Value)} {oc18 kV18 dc18 pm18 cd18 ct18 : Value}
    {f19 : Addr} {od19 an19 : Option Addr} {sl19 : Array (Option Value)} {oc19 kV19 dc19 pm19 cd19 ct19 : Value}
    {f20 : Addr} {od20 an20 : Option Addr} {sl20 : Array (Option Value)} {oc20 kV20 dc20 pm20 cd20 ct20 : Value}
    {f21 : Addr} {od21 an21 : Option Addr} {sl21 : Array (Option Value)} {oc21 kV21 dc21 pm21 cd21 ct21 : Value}
    (a0 : PySem.W.nsIn K mainGlobals "condition_of" = some (some (.ref f0))) (l0 : K.lookup f0 = some ⟨oc0, od0, .func (PySem.W.fnOf "condition_of" "condition_of" (defArgs s_condition_of) (defBody s_condition_of) (defScope s_condition_of) .none kV0 dc0 pm0 an0 cd0 ct0), sl0⟩) (c0 : PySem.W.codeIn K cd0 "condition_of" = true) (k0 : PySem.W.keepIn K (.ref f0) = true)
    (a1 : PySem.W.nsIn K mainGlobals "holds_in" = some (some (.ref f1))) (l1 : K.lookup f1 = some ⟨oc1, od1, .func (PySem.W.fnOf "holds_in" "holds_in" (defArgs s_holds_in) (defBody s_holds_in) (defScope s_holds_in) .none kV1 dc1 pm1 an1 (.ref cc1) ct1), sl1⟩) (c1 : PySem.W.codeIn K (.ref cc1) "holds_in" = true) (k1 : PySem.W.keepIn K (.ref f1) = true)
    (a2 : PySem.W.nsIn K mainGlobals "_agreeing_outcomes" = some (some (.ref f2))) (l2 : K.lookup f2 = some ⟨oc2, od2, .func (PySem.W.fnOf "_agreeing_outcomes" "_agreeing_outcomes" (defArgs s__agreeing_outcomes) (defBody s__agreeing_outcomes) (defScope s__agreeing_outcomes) .none kV2 dc2 pm2 an2 cd2 ct2), sl2⟩) (c2 : PySem.W.codeIn K cd2 "_agreeing_outcomes" = true) (k2 : PySem.W.keepIn K (.ref f2) = true)
    (a3 : PySem.W.nsIn K mainGlobals "_is_minimal" = some (some (.ref f3))) (l3 : K.lookup f3 = some ⟨oc3, od3, .func (PySem.W.fnOf "_is_minimal" "_is_minimal" (defArgs s__is_minimal) (defBody s__is_minimal) (defScope s__is_minimal) .none kV3 dc3 pm3 an3 (.ref cc3) ct3), sl3⟩) (c3 : PySem.W.codeIn K (.ref cc3) "_is_minimal" = true) (k3 : PySem.W.keepIn K (.ref f3) = true)
    (a4 : PySem.W.nsIn K mainGlobals "_place_of_case" = some (some (.ref f4))) (l4 : K.lookup f4 = some ⟨oc4, od4, .func (PySem.W.fnOf "_place_of_case" "_place_of_case" (defArgs s__place_of_case) (defBody s__place_of_case) (defScope s__place_of_case) .none kV4 dc4 pm4 an4 cd4 ct4), sl4⟩) (c4 : PySem.W.codeIn K cd4 "_place_of_case" = true) (k4 : PySem.W.keepIn K (.ref f4) = true)
    (a5 : PySem.W.nsIn K mainGlobals "_needed_cases" = some (some (.ref f5))) (l5 : K.lookup f5 = some ⟨oc5, od5, .func (PySem.W.fnOf "_needed_cases" "_needed_cases" (defArgs s__needed_cases) (defBody s__needed_cases) (defScope s__needed_cases) .none kV5 dc5 pm5 an5 cd5 ct5), sl5⟩) (c5 : PySem.W.codeIn K cd5 "_needed_cases" = true) (k5 : PySem.W.keepIn K (.ref f5) = true)
    (a6 : PySem.W.nsIn K mainGlobals "_agrees" = some (some (.ref f6))) (l6 : K.lookup f6 = some ⟨oc6, od6, .func (PySem.W.fnOf "_agrees" "_agrees" (defArgs s__agrees) (defBody s__agrees) (defScope s__agrees) .none kV6 dc6 pm6 an6 (.ref cc6) ct6), sl6⟩) (c6 : PySem.W.codeIn K (.ref cc6) "_agrees" = true) (k6 : PySem.W.keepIn K (.ref f6) = true)
    (a7 : PySem.W.nsIn K mainGlobals "_law_tape" = some (some (.ref f7))) (l7 : K.lookup f7 = some ⟨oc7, od7, .func (PySem.W.fnOf "_law_tape" "_law_tape" (defArgs s__law_tape) (defBody s__law_tape) (defScope s__law_tape) .none kV7 dc7 pm7 an7 cd7 ct7), sl7⟩) (c7 : PySem.W.codeIn K cd7 "_law_tape" = true) (k7 : PySem.W.keepIn K (.ref f7) = true)
    (a8 : PySem.W.nsIn K mainGlobals "_law_draw" = some (some (.ref f8))) (l8 : K.lookup f8 = some ⟨oc8, od8, .func (PySem.W.fnOf "_law_draw" "_law_draw" (defArgs s__law_draw) (defBody s__law_draw) (defScope s__law_draw) .none kV8 dc8 pm8 an8 cd8 ct8), sl8⟩) (c8 : PySem.W.codeIn K cd8 "_law_draw" = true) (k8 : PySem.W.keepIn K (.ref f8) = true)
    (a9 : PySem.W.nsIn K mainGlobals "_law_names" = some (some (.ref f9))) (l9 : K.lookup f9 = some ⟨oc9, od9, .func (PySem.W.fnOf "_law_names" "_law_names" (defArgs s__law_names) (defBody s__law_names) (defScope s__law_names) .none kV9 dc9 pm9 an9 cd9 ct9), sl9⟩) (c9 : PySem.W.codeIn K cd9 "_law_names" = true) (k9 : PySem.W.keepIn K (.ref f9) = true)
    (a10 : PySem.W.nsIn K mainGlobals "_law_same" = some (some (.ref f10))) (l10 : K.lookup f10 = some ⟨oc10, od10, .func (PySem.W.fnOf "_law_same" "_law_same" (defArgs s__law_same) (defBody s__law_same) (defScope s__law_same) .none kV10 dc10 pm10 an10 cd10 ct10), sl10⟩) (c10 : PySem.W.codeIn K cd10 "_law_same" = true) (k10 : PySem.W.keepIn K (.ref f10) = true)
    (a11 : PySem.W.nsIn K mainGlobals "_law_all" = some (some (.ref f11))) (l11 : K.lookup f11 = some ⟨oc11, od11, .func (PySem.W.fnOf "_law_all" "_law_all" (defArgs s__law_all) (defBody s__law_all) (defScope s__law_all) .none kV11 dc11 pm11 an11 cd11 ct11), sl11⟩) (c11 : PySem.W.codeIn K cd11 "_law_all" = true) (k11 : PySem.W.keepIn K (.ref f11) = true)
    (a12 : PySem.W.nsIn K mainGlobals "_law_picked" = some (some (.ref f12))) (l12 : K.lookup f12 = some ⟨oc12, od12, .func (PySem.W.fnOf "_law_picked" "_law_picked" (defArgs s__law_picked) (defBody s__law_picked) (defScope s__law_picked) .none kV12 dc12 pm12 an12 cd12 ct12), sl12⟩) (c12 : PySem.W.codeIn K cd12 "_law_picked" = true) (k12 : PySem.W.keepIn K (.ref f12) = true)
    (a13 : PySem.W.nsIn K mainGlobals "_law_seen" = some (some (.ref f13))) (l13 : K.lookup f13 = some ⟨oc13, od13, .func (PySem.W.fnOf "_law_seen" "_law_seen" (defArgs s__law_seen) (defBody s__law_seen) (defScope s__law_seen) .none kV13 dc13 pm13 an13 cd13 ct13), sl13⟩) (c13 : PySem.W.codeIn K cd13 "_law_seen" = true) (k13 : PySem.W.keepIn K (.ref f13) = true)
    (a14 : PySem.W.nsIn K mainGlobals "_law_known" = some (some (.ref f14))) (l14 : K.lookup f14 = some ⟨oc14, od14, .func (PySem.W.fnOf "_law_known" "_law_known" (defArgs s__law_known) (defBody s__law_known) (defScope s__law_known) .none kV14 dc14 pm14 an14 cd14 ct14), sl14⟩) (c14 : PySem.W.codeIn K cd14 "_law_known" = true) (k14 : PySem.W.keepIn K (.ref f14) = true)
    (a15 : PySem.W.nsIn K mainGlobals "_law_agrees" = some (some (.ref f15))) (l15 : K.lookup f15 = some ⟨oc15, od15, .func (PySem.W.fnOf "_law_agrees" "_law_agrees" (defArgs s__law_agrees) (defBody s__law_agrees) (defScope s__law_agrees) .none kV15 dc15 pm15 an15 cd15 ct15), sl15⟩) (c15 : PySem.W.codeIn K cd15 "_law_agrees" = true) (k15 : PySem.W.keepIn K (.ref f15) = true)
    (a16 : PySem.W.nsIn K mainGlobals "_law_worlds" = some (some (.ref f16))) (l16 : K.lookup f16 = some ⟨oc16, od16, .func (PySem.W.fnOf "_law_worlds" "_law_worlds" (defArgs s__law_worlds) (defBody s__law_worlds) (defScope s__law_worlds) .none kV16 dc16 pm16 an16 cd16 ct16), sl16⟩) (c16 : PySem.W.codeIn K cd16 "_law_worlds" = true) (k16 : PySem.W.keepIn K (.ref f16) = true)
    (a17 : PySem.W.nsIn K mainGlobals "_law_exact" = some (some (.ref f17))) (l17 : K.lookup f17 = some ⟨oc17, od17, .func (PySem.W.fnOf "_law_exact" "_law_exact" (defArgs s__law_exact) (defBody s__law_exact) (defScope s__law_exact) .none kV17 dc17 pm17 an17 cd17 ct17), sl17⟩) (c17 : PySem.W.codeIn K cd17 "_law_exact" = true) (k17 : PySem.W.keepIn K (.ref f17) = true)
    (a18 : PySem.W.nsIn K mainGlobals "_law_is_case" = some (some (.ref f18))) (l18 : K.lookup f18 = some ⟨oc18, od18, .func (PySem.W.fnOf "_law_is_case" "_law_is_case" (defArgs s__law_is_case) (defBody s__law_is_case) (defScope s__law_is_case) .none kV18 dc18 pm18 an18 cd18 ct18), sl18⟩) (c18 : PySem.W.codeIn K cd18 "_law_is_case" = true) (k18 : PySem.W.keepIn K (.ref f18) = true)
    (a19 : PySem.W.nsIn K mainGlobals "_law_lets_in" = some (some (.ref f19))) (l19 : K.lookup f19 = some ⟨oc19, od19, .func (PySem.W.fnOf "_law_lets_in" "_law_lets_in" (defArgs s__law_lets_in) (defBody s__law_lets_in) (defScope s__law_lets_in) .none kV19 dc19 pm19 an19 cd19 ct19), sl19⟩) (c19 : PySem.W.codeIn K cd19 "_law_lets_in" = true) (k19 : PySem.W.keepIn K (.ref f19) = true)
    (a20 : PySem.W.nsIn K mainGlobals "_law_needed" = some (some (.ref f20))) (l20 : K.lookup f20 = some ⟨oc20, od20, .func (PySem.W.fnOf "_law_needed" "_law_needed" (defArgs s__law_needed) (defBody s__law_needed) (defScope s__law_needed) .none kV20 dc20 pm20 an20 cd20 ct20), sl20⟩) (c20 : PySem.W.codeIn K cd20 "_law_needed" = true) (k20 : PySem.W.keepIn K (.ref f20) = true)
    (a21 : PySem.W.nsIn K mainGlobals "law" = some (some (.ref f21))) (l21 : K.lookup f21 = some ⟨oc21, od21, .func (PySem.W.fnOf "law" "law" (defArgs s_law) (defBody s_law) (defScope s_law) .none kV21 dc21 pm21 an21 cd21 ct21), sl21⟩) (c21 : PySem.W.codeIn K cd21 "law" = true) (k21 : PySem.W.keepIn K (.ref f21) = true)
    (z_abs : PySem.W.nsIn K mainGlobals "abs" = some none)
    (z_all : PySem.W.nsIn K mainGlobals "all" = some none)
    (z_any : PySem.W.nsIn K mainGlobals "any" = some none)
    (z_bool : PySem.W.nsIn K mainGlobals "bool" = some none)
    (z_dict : PySem.W.nsIn K mainGlobals "dict" = some none)
    (z_enumerate : PySem.W.nsIn K mainGlobals "enumerate" = some none)
    (z_int : PySem.W.nsIn K mainGlobals "int" = some none)
    (z_isinstance : PySem.W.nsIn K mainGlobals "isinstance" = some none)
    (z_len : PySem.W.nsIn K mainGlobals "len" = some none)
    (z_list : PySem.W.nsIn K mainGlobals "list" = some none)
    (z_max : PySem.W.nsIn K mainGlobals "max" = some none)
    (z_range : PySem.W.nsIn K mainGlobals "range" = some none)
    (z_reversed : PySem.W.nsIn K mainGlobals "reversed" = some none)
    (z_sorted : PySem.W.nsIn K mainGlobals "sorted" = some none)
    (z_str : PySem.W.nsIn K mainGlobals "str" = some none)
    (z_sum : PySem.W.nsIn K mainGlobals "sum" = some none)
    (z_tuple : PySem.W.nsIn K mainGlobals "tuple" = some none)
    {om1 : Value} {odm1 : Option Addr} {vm1 : Array Value} {slm1 : Array (Option Value)} (m1 : K.lookup cc1 = some ⟨om1, odm1, .fields vm1, slm1⟩) (p1 : (vm1[11]? : Option Value) = some (.ref pp1)) (ti1 : PySem.W.tabIn K "holds_in" = some (cc1, pp1) → PySem.W.CodeHd h cc1 pp1 ∧ h.get? pp1 = some { cls := .none, data := .fields #[] })
    {om3 : Value} {odm3 : Option Addr} {vm3 : Array Value} {slm3 : Array (Option Value)} (m3 : K.lookup cc3 = some ⟨om3, odm3, .fields vm3, slm3⟩) (p3 : (vm3[11]? : Option Value) = some (.ref pp3)) (ti3 : PySem.W.tabIn K "_is_minimal" = some (cc3, pp3) → PySem.W.CodeHd h cc3 pp3 ∧ h.get? pp3 = some { cls := .none, data := .fields #[] })
    {om6 : Value} {odm6 : Option Addr} {vm6 : Array Value} {slm6 : Array (Option Value)} (m6 : K.lookup cc6 = some ⟨om6, odm6, .fields vm6, slm6⟩) (p6 : (vm6[11]? : Option Value) = some (.ref pp6)) (ti6 : PySem.W.tabIn K "_agrees" = some (cc6, pp6) → PySem.W.CodeHd h cc6 pp6 ∧ h.get? pp6 = some { cls := .none, data := .fields #[] }) :
  List.lookup pp1 K = none → List.lookup pp3 K = none → List.lookup pp6 K = none → LamX.LawAtS l w K CX0 8 63 "script" mg fa h := by
  intro np1 np3 np6
  have tq1 : PySem.W.tabIn K "holds_in" = some (cc1, pp1) := by
    unfold PySem.W.tabIn
    rw [a1]
    simp only [l1, m1, p1, PySem.W.fnOf]
  obtain ⟨hd1, ht1⟩ := ti1 tq1
  have tq3 : PySem.W.tabIn K "_is_minimal" = some (cc3, pp3) := by
    unfold PySem.W.tabIn
    rw [a3]
    simp only [l3, m3, p3, PySem.W.fnOf]
  obtain ⟨hd3, ht3⟩ := ti3 tq3
  have tq6 : PySem.W.tabIn K "_agrees" = some (cc6, pp6) := by
    unfold PySem.W.tabIn
    rw [a6]
    simp only [l6, m6, p6, PySem.W.fnOf]
  obtain ⟨hd6, ht6⟩ := ti6 tq6
  have e := hfa.symm.trans (PySem.W.mg_of X G a21)
  cases e
  have F0 := fun_mk (st := s_condition_of) l0 c0 k0
  have b0 := F0.binds (ps := ["undecided", "possible", "chosen"]) fun _ _ _ _ _ _ us hl => match us, hl with | [_, _, _], _ => rfl
  have F1 := fun_mk (st := s_holds_in) l1 c1 k1
  have b1 := F1.binds (ps := ["condition", "outcome"]) fun _ _ _ _ _ _ us hl => match us, hl with | [_, _], _ => rfl
  have F2 := fun_mk (st := s__agreeing_outcomes) l2 c2 k2
  have b2 := F2.binds (ps := ["undecided", "digits"]) fun _ _ _ _ _ _ us hl => match us, hl with | [_, _], _ => rfl
  have F3 := fun_mk (st := s__is_minimal) l3 c3 k3
  have b3 := F3.binds (ps := ["case", "implying"]) fun _ _ _ _ _ _ us hl => match us, hl with | [_, _], _ => rfl
  have F4 := fun_mk (st := s__place_of_case) l4 c4 k4
  have b4 := F4.binds (ps := ["case"]) fun _ _ _ _ _ _ us hl => match us, hl with | [_], _ => rfl
  have F5 := fun_mk (st := s__needed_cases) l5 c5 k5
  have b5 := F5.binds (ps := ["minimal", "agreeing"]) fun _ _ _ _ _ _ us hl => match us, hl with | [_, _], _ => rfl
  have F6 := fun_mk (st := s__agrees) l6 c6 k6
  have b6 := F6.binds (ps := ["outcome", "case"]) fun _ _ _ _ _ _ us hl => match us, hl with | [_, _], _ => rfl
  have F7 := fun_mk (st := s__law_tape) l7 c7 k7
  have b7 := F7.binds (ps := ["script"]) fun _ _ _ _ _ _ us hl => match us, hl with | [_], _ => rfl
  have F8 := fun_mk (st := s__law_draw) l8 c8 k8
  have b8 := F8.binds (ps := ["tape", "many"]) fun _ _ _ _ _ _ us hl => match us, hl with | [_, _], _ => rfl
  have F9 := fun_mk (st := s__law_names) l9 c9 k9
  have b9 := F9.binds (ps := ["tape", "most"]) fun _ _ _ _ _ _ us hl => match us, hl with | [_, _], _ => rfl
  have F10 := fun_mk (st := s__law_same) l10 c10 k10
  have b10 := F10.binds (ps := ["told", "due"]) fun _ _ _ _ _ _ us hl => match us, hl with | [_, _], _ => rfl
  have F11 := fun_mk (st := s__law_all) l11 c11 k11
  have b11 := F11.binds (ps := ["names"]) fun _ _ _ _ _ _ us hl => match us, hl with | [_], _ => rfl
  have F12 := fun_mk (st := s__law_picked) l12 c12 k12
  have b12 := F12.binds (ps := ["tape", "rows", "one"]) fun _ _ _ _ _ _ us hl => match us, hl with | [_, _, _], _ => rfl
  have F13 := fun_mk (st := s__law_seen) l13 c13 k13
  have b13 := F13.binds (ps := ["row", "names"]) fun _ _ _ _ _ _ us hl => match us, hl with | [_, _], _ => rfl
  have F14 := fun_mk (st := s__law_known) l14 c14 k14
  have b14 := F14.binds (ps := ["names", "worlds"]) fun _ _ _ _ _ _ us hl => match us, hl with | [_, _], _ => rfl
  have F15 := fun_mk (st := s__law_agrees) l15 c15 k15
  have b15 := F15.binds (ps := ["case", "row"]) fun _ _ _ _ _ _ us hl => match us, hl with | [_, _], _ => rfl
  have F16 := fun_mk (st := s__law_worlds) l16 c16 k16
  have b16 := F16.binds (ps := ["tape", "names"]) fun _ _ _ _ _ _ us hl => match us, hl with | [_, _], _ => rfl
  have F17 := fun_mk (st := s__law_exact) l17 c17 k17
  have b17 := F17.binds (ps := ["cases", "possible", "chosen"]) fun _ _ _ _ _ _ us hl => match us, hl with | [_, _, _], _ => rfl
  have F18 := fun_mk (st := s__law_is_case) l18 c18 k18
  have b18 := F18.binds (ps := ["case", "names"]) fun _ _ _ _ _ _ us hl => match us, hl with | [_, _], _ => rfl
  have F19 := fun_mk (st := s__law_lets_in) l19 c19 k19
  have b19 := F19.binds (ps := ["case", "possible", "chosen"]) fun _ _ _ _ _ _ us hl => match us, hl with | [_, _, _], _ => rfl
  have F20 := fun_mk (st := s__law_needed) l20 c20 k20
  have b20 := F20.binds (ps := ["cases", "possible", "chosen"]) fun _ _ _ _ _ _ us hl => match us, hl with | [_, _, _], _ => rfl
  have F21 := fun_mk (st := s_law) l21 c21 k21
  have b21 := F21.binds (ps := ["script"]) fun _ _ _ _ _ _ us hl => match us, hl with | [_], _ => rfl
  let T : Txt l.prog K mg := ⟨f0, _, F0, b0, PySem.W.mg_of X G a0, f1, _, F1, b1, PySem.W.mg_of X G a1, f2, _, F2, b2, PySem.W.mg_of X G a2, f3, _, F3, b3, PySem.W.mg_of X G a3, f4, _, F4, b4, PySem.W.mg_of X G a4, f5, _, F5, b5, PySem.W.mg_of X G a5, f6, _, F6, b6, PySem.W.mg_of X G a6, f7, _, F7, b7, PySem.W.mg_of X G a7, f8, _, F8, b8, PySem.W.mg_of X G a8, f9, _, F9, b9, PySem.W.mg_of X G a9, f10, _, F10, b10, PySem.W.mg_of X G a10, f11, _, F11, b11, PySem.W.mg_of X G a11, f12, _, F12, b12, PySem.W.mg_of X G a12, f13, _, F13, b13, PySem.W.mg_of X G a13, f14, _, F14, b14, PySem.W.mg_of X G a14, f15, _, F15, b15, PySem.W.mg_of X G a15, f16, _, F16, b16, PySem.W.mg_of X G a16, f17, _, F17, b17, PySem.W.mg_of X G a17, f18, _, F18, b18, PySem.W.mg_of X G a18, f19, _, F19, b19, PySem.W.mg_of X G a19, f20, _, F20, b20, PySem.W.mg_of X G a20, fa, _, F21, b21, PySem.W.mg_of X G a21, cc1, pp1, ⟨_, _, _, _, _, _, _, _, rfl, l1, c1⟩, cc3, pp3, ⟨_, _, _, _, _, _, _, _, rfl, l3, c3⟩, cc6, pp6, ⟨_, _, _, _, _, _, _, _, rfl, l6, c6⟩, PySem.W.mg_none_of X G z_abs, PySem.W.mg_none_of X G z_all, PySem.W.mg_none_of X G z_any, PySem.W.mg_none_of X G z_bool, PySem.W.mg_none_of X G z_dict, PySem.W.mg_none_of X G z_enumerate, PySem.W.mg_none_of X G z_int, PySem.W.mg_none_of X G z_isinstance, PySem.W.mg_none_of X G z_len, PySem.W.mg_none_of X G z_list, PySem.W.mg_none_of X G z_max, PySem.W.mg_none_of X G z_range, PySem.W.mg_none_of X G z_reversed, PySem.W.mg_none_of X G z_sorted, PySem.W.mg_none_of X G z_str, PySem.W.mg_none_of X G z_sum, PySem.W.mg_none_of X G z_tuple⟩
  have e1 : ∀ p ∈ ([(cc1, pp1), (cc3, pp3), (cc6, pp6)] : List (Addr × Addr)), h.get? p.2 = some { cls := .none, data := .fields #[] } := by
    intro p hp
    simp only [List.mem_cons, List.not_mem_nil, or_false] at hp
    rcases hp with rfl | rfl | rfl
    · exact ht1
    · exact ht3
    · exact ht6
  have e2 : ∀ p ∈ ([(cc1, pp1), (cc3, pp3), (cc6, pp6)] : List (Addr × Addr)), List.lookup p.2 K = none := by
    intro p hp
    simp only [List.mem_cons, List.not_mem_nil, or_false] at hp
    rcases hp with rfl | rfl | rfl
    · exact np1
    · exact np3
    · exact np6
  have e3 : ∀ p ∈ ([(cc1, pp1), (cc3, pp3), (cc6, pp6)] : List (Addr × Addr)), PySem.W.CodeHd h p.1 p.2 := by
    intro p hp
    simp only [List.mem_cons, List.not_mem_nil, or_false] at hp
    rcases hp with rfl | rfl | rfl
    · exact hd1
    · exact hd3
    · exact hd6
  exact ⟨_, [(cc1, pp1), (cc3, pp3), (cc6, pp6)], spLawT K [pp1, pp3, pp6], e1, e2, e3, fun s v => .of_eq rfl, fun H a ns hl _ ht hS => ⟨a, ns, rfl, hS, hl, fun P hP => by
    simp only [List.mem_cons, List.not_mem_nil, or_false] at hP
    rcases hP with e0 | e0 | e0
    · rw [e0]; exact ⟨#[], ht (cc1, pp1) (by simp), trivial⟩
    · rw [e0]; exact ⟨#[], ht (cc3, pp3) (by simp), trivial⟩
    · rw [e0]; exact ⟨#[], ht (cc6, pp6) (by simp), trivial⟩, fun _ => rfl⟩, fun base _ _ tb => ok_law T ⟨(tb (cc1, pp1) (by simp)).code, (tb (cc1, pp1) (by simp)).bm, (tb (cc1, pp1) (by simp)).gP⟩ ⟨(tb (cc3, pp3) (by simp)).code, (tb (cc3, pp3) (by simp)).bm, (tb (cc3, pp3) (by simp)).gP⟩ ⟨(tb (cc6, pp6) (by simp)).code, (tb (cc6, pp6) (by simp)).bm, (tb (cc6, pp6) (by simp)).gP⟩⟩
end
end Va
open PySem PySem.W PyProof.Rows
set_option maxHeartbeats 0 in
theorem PySem.Challenge.cw_indoubt_k45_condition_is_exact_holds : PySem.Challenge.rw_indoubt_k45_condition_is_exact.Holds := by
  w_on; o_law; k_head; (case hw => w_witness2)
  k_fill
  refine IndEnd.walk_tabs (l := PySem.Challenge.rw_indoubt_k45_condition_is_exact) (n := 63) (k := 8) (x := "script") (CX := fun _ => L2.CX0) rfl (by decide) rfl ⟨rfl, by decide, by decide⟩ (fun w h Y => PySem.W.kIn_of Y) ?F (fun _ _ _ _ _ h => h)
  case F =>
    intro w mg fa h KX G hmg tabs
    refine' Va.all_mk KX G hmg ?a0 ?l0 ?c0 ?k0 ?a1 ?l1 ?c1 ?k1 ?a2 ?l2 ?c2 ?k2 ?a3 ?l3 ?c3 ?k3 ?a4 ?l4 ?c4 ?k4 ?a5 ?l5 ?c5 ?k5 ?a6 ?l6 ?c6 ?k6 ?a7 ?l7 ?c7 ?k7 ?a8 ?l8 ?c8 ?k8 ?a9 ?l9 ?c9 ?k9 ?a10 ?l10 ?c10 ?k10 ?a11 ?l11 ?c11 ?k11 ?a12 ?l12 ?c12 ?k12 ?a13 ?l13 ?c13 ?k13 ?a14 ?l14 ?c14 ?k14 ?a15 ?l15 ?c15 ?k15 ?a16 ?l16 ?c16 ?k16 ?a17 ?l17 ?c17 ?k17 ?a18 ?l18 ?c18 ?k18 ?a19 ?l19 ?c19 ?k19 ?a20 ?l20 ?c20 ?k20 ?a21 ?l21 ?c21 ?k21  ?z_abs ?z_all ?z_any ?z_bool ?z_dict ?z_enumerate ?z_int ?z_isinstance ?z_len ?z_list ?z_max ?z_range ?z_reversed ?z_sorted ?z_str ?z_sum ?z_tuple ?um1 ?up1 (fun z => tabs "holds_in" _ _ _ (by rfl) z) ?um3 ?up3 (fun z => tabs "_is_minimal" _ _ _ (by rfl) z) ?um6 ?up6 (fun z => tabs "_agrees" _ _ _ (by rfl) z) ?np1 ?np3 ?np6
    (case a0 => k_is); (case l0 => k_is); (case c0 => k_is); (case k0 => k_is); (case a1 => k_is); (case l1 => k_is); (case c1 => k_is); (case k1 => k_is); (case a2 => k_is); (case l2 => k_is); (case c2 => k_is); (case k2 => k_is); (case a3 => k_is); (case l3 => k_is); (case c3 => k_is); (case k3 => k_is); (case a4 => k_is); (case l4 => k_is); (case c4 => k_is); (case k4 => k_is); (case a5 => k_is); (case l5 => k_is); (case c5 => k_is); (case k5 => k_is); (case a6 => k_is); (case l6 => k_is); (case c6 => k_is); (case k6 => k_is); (case a7 => k_is); (case l7 => k_is); (case c7 => k_is); (case k7 => k_is); (case a8 => k_is); (case l8 => k_is); (case c8 => k_is); (case k8 => k_is); (case a9 => k_is); (case l9 => k_is); (case c9 => k_is); (case k9 => k_is); (case a10 => k_is); (case l10 => k_is); (case c10 => k_is); (case k10 => k_is); (case a11 => k_is); (case l11 => k_is); (case c11 => k_is); (case k11 => k_is); (case a12 => k_is); (case l12 => k_is); (case c12 => k_is); (case k12 => k_is); (case a13 => k_is); (case l13 => k_is); (case c13 => k_is); (case k13 => k_is); (case a14 => k_is); (case l14 => k_is); (case c14 => k_is); (case k14 => k_is); (case a15 => k_is); (case l15 => k_is); (case c15 => k_is); (case k15 => k_is); (case a16 => k_is); (case l16 => k_is); (case c16 => k_is); (case k16 => k_is); (case a17 => k_is); (case l17 => k_is); (case c17 => k_is); (case k17 => k_is); (case a18 => k_is); (case l18 => k_is); (case c18 => k_is); (case k18 => k_is); (case a19 => k_is); (case l19 => k_is); (case c19 => k_is); (case k19 => k_is); (case a20 => k_is); (case l20 => k_is); (case c20 => k_is); (case k20 => k_is); (case a21 => k_is); (case l21 => k_is); (case c21 => k_is); (case k21 => k_is); (case z_abs => k_is); (case z_all => k_is); (case z_any => k_is); (case z_bool => k_is); (case z_dict => k_is); (case z_enumerate => k_is); (case z_int => k_is); (case z_isinstance => k_is); (case z_len => k_is); (case z_list => k_is); (case z_max => k_is); (case z_range => k_is); (case z_reversed => k_is); (case z_sorted => k_is); (case z_str => k_is); (case z_sum => k_is); (case z_tuple => k_is)
    case um1 => k_is
    case up1 => rfl
    case um3 => k_is
    case up3 => rfl
    case um6 => k_is
    case up6 => rfl
    case np1 => first | kernel_rfl | rfl | decide +kernel
    case np3 => first | kernel_rfl | rfl | decide +kernel
    case np6 => first | kernel_rfl | rfl | decide +kernel
