import PyProof.Rows.All
import Wide.All
import OpenK.AllK
import Wide.FinOn
import PyProof.GenQ
import HandS.GenOver
import PyProof.ConsumeS
import HandS.Base
import HandS.Call
import HandS.List
import HandS.Ends
import HandS.Words
import HandS.WordsList
import HandS.Text
import HandS.Comp
import HandS.Iter
import HandS.Wide
import HandS.Exc
import HandS.RaiseOp
import HandS.StrMore
import HandS.TupLe
import HandS.Zip0
import HandS.AnyAll
import HandS.Replace
import PyProof.Rows.RuleB_bool
import PyProof.FString5
import HandS.IsInst
import HandS.Dict
import KE.KDictPairs
import KE.KIndexOf
import PyProof.ReprRoads
import PyProof.FitsInt
import PyProof.ReprLen
import PyProof.StrLawsRepr
import HandS.TupAny
import HandS.Zip
import HandS.Rev
import HandS.Deep
import HandS.Conv
import HandS.WordsDict
import PyProof.P3In
import HandS.ExcOwn
import HandS.ExcIs
import HandS.WordsExc
import KE.KDictList
import HandS.RevTup
import HandS.More
import HandS.ListItems
import HandS.Style
import HandS.SortRule
import HandS.EndTab
import KE.KNest
import PyProof.ReprBulk
import PyProof.Rows.StrMeet
import KE.LtSeq
import KE.LtData
import HandS.Keys
import KE.SortCalls
import HandS.SortKw
import KE.KExcSuper
import KE.KExcInit
import HandS.FStr
import HandS.ExcField
import KE.KExcIs
import PyProof.FString
import HandS.TryMany
import HandS.SetTxt0
import HandS.Set
import HandS.SetFor
import HandS.SetBool
import HandS.TupSets
import PyProof.FactsAll.set_2
import HandS.DictComp
import KE.KSortRegAny
import KE.KDictWalk
import PyProof.DictMoreH
import HandS.CallLocal
import HandS.DictTup
import KE.GoesZip
import KE.GoesEnum
import KE.GoesMore
import HandS.Sort
import KE.SortData
import KE.DatumOrd
import KE.DataMinMax
import HandS.ReplaceLit
import HandS.ReplaceList
import KE.KIntText
import PySem.Challenge.RW_indoubt_k77_tokens_of_a_text
set_option Elab.async false
set_option linter.all false
set_option maxRecDepth 100000
namespace IndG
open PySem PySem.Spec GenW
abbrev MM (prog : Program) (w : World) : Model := model prog w
structure Stage (prog : Program) (w : World) (Ag : Around) (cenv : Env) (target elt : Expr) (I : Addr) (n : Nat) (tr : Nat → Bool) (V : Nat → Shared → Prop) (F : Shared → Prop) : Prop where
  still : ∀ j s g t, V j s → (∀ y ∈ g, y.bare = true) → V j { s with gens := g, toks := t }
  bare : ∀ j s, V j s → ∀ y ∈ s.gens, y.bare = true
  item : ∀ j s E, j < n → V j s → wpAny (MM prog w) Ag (pyNext (.ref I)) (fun r s1 => ∃ v, r = some v ∧
    wpAny (MM prog w) Ag (letOwnedTupleGo target (.ref I) v) (fun _ s2 => wpAny (MM prog w) Ag (assign target cenv v) (fun _ s3 =>
      wpAny (MM prog w) Ag (eval elt cenv) (fun y s4 => y = .bool (tr j) ∧ V (j + 1) s4) E s3) E s2) E s1) E s
  done : ∀ s E, V n s → wpAny (MM prog w) Ag (pyNext (.ref I)) (fun r s1 => r = none ∧ F s1) E s
def prot (n : Nat) (tr : Nat → Bool) (V : Nat → Shared → Prop) : Protocol := fun m s₀ v s kap =>
  m < n ∧ v = .bool (tr (n - 1 - m)) ∧ V (n - m) s ∧ s₀.gens.size ≤ s.gens.size ∧ ∀ z, V (n - m) z → kap (.send .none) z
def fin (F : Shared → Prop) : GenEnd := fun m s₀ r s => r = .ok .next ∧ (m = 0 ∧ s₀.gens.size ≤ s.gens.size ∧ F s)
section
variable {prog : Program} {w : World} {A : Around} {target elt iter : Expr} {scope : Scope} {pos : Pos} {I : Addr} {cenv : Env} {n : Nat} {tr : Nat → Bool} {V : Nat → Shared → Prop} {F : Shared → Prop}
end
end IndG
set_option Elab.async false
set_option linter.all false
set_option maxRecDepth 100000
namespace IndG
open PySem PySem.Spec GenW
structure Held (a : Addr) (g : Nat) (V : Nat → Shared → Prop) (F : Shared → Prop) : Prop where
  gen : ∀ j s, V j s → s.heap.IsGen a g ∧ s.heap.NoLimit
  fbare : ∀ s, F s → ∀ y ∈ s.gens, y.bare = true
def Asleep (prog : Program) (w : World) (A : Around) (g n : Nat) (tr : Nat → Bool) (V : Nat → Shared → Prop) (F : Shared → Prop) (j : Nat) (s : Shared) : Prop :=
  V j s ∧ ∃ gs, s.gens[g]? = some gs ∧ ∀ z, V j z → gs.Goes (MM prog w) A.in1 (fin F) (prot n tr V) (n - j) (.send .none) z
def Left (V : Nat → Shared → Prop) (F : Shared → Prop) (s : Shared) : Prop :=
  (∃ j, V j s) ∨ ∃ s1 g' h', F s1 ∧ s = { s1 with gens := g', heap := h' } ∧ (∀ y ∈ g', y.bare = true) ∧ ∀ b o, s1.heap.get? b = some o → h'.get? b = some o
section
variable {prog : Program} {w : World} {A : Around} {a : Addr} {g n : Nat} {tr : Nat → Bool} {V : Nat → Shared → Prop} {F : Shared → Prop}
theorem setGen_bare {s : Shared} {x : GenState} (h : ∀ y ∈ s.gens, y.bare = true) (hx : x.bare = true) : ∀ y ∈ (s.setGen g x).gens, y.bare = true := by
  intro y hy
  have hy : y ∈ s.gens.setIfInBounds g x := hy
  obtain ⟨i, hi, e⟩ := Array.mem_iff_getElem.mp hy
  have hi2 : i < s.gens.size := by simpa using hi
  rw [Array.getElem_setIfInBounds hi2] at e
  split at e
  · rw [← e]; exact hx
  · rw [← e]
    exact h _ (Array.getElem_mem hi2)
theorem stop (still : ∀ j s g' t, V j s → (∀ y ∈ g', y.bare = true) → V j { s with gens := g', toks := t }) (bare : ∀ j s, V j s → ∀ y ∈ s.gens, y.bare = true) (K : Held a g V F)
    (hh : A.handled = none) (room : A.depth < recursionLimit) {s : Shared} (h : Asleep prog w A g n tr V F n s) {Q : Option Value → Shared → Prop} {E : Value → Shared → Prop}
    (hQ : ∀ z, Left V F z → Q none z) : wpAny (MM prog w) A (pyNext (.ref a)) Q E s := by
  obtain ⟨hV, gs, hgs, go⟩ := h
  obtain ⟨hg, hl⟩ := K.gen _ _ hV
  have hV2 : V n (s.setGen g .running) := still n s _ s.toks hV (setGen_bare (g := g) (bare _ _ hV) rfl)
  refine wpAny_pyNext_genexpQ (n := n - n) (P := fun m s₀ s₁ => m = 0 ∧ s₀.gens.size ≤ s₁.gens.size ∧ F s₁) hh hl room hg hgs (go _ hV2) (fun v s1 gs' hb hy => ?_) (fun s1 hp h' hk => ?_)
  · rw [Nat.sub_self] at hy
    obtain ⟨_, _, y3, _, y5⟩ := hy
    exact (y5 _ y3).elim
  · refine hQ _ (.inr ⟨s1, (s1.setGen g .finished).gens, h', hp.2.2, rfl, setGen_bare (g := g) (K.fbare _ hp.2.2) rfl, hk⟩)
end
end IndG
set_option Elab.async false
set_option linter.all false
set_option maxRecDepth 100000
set_option maxHeartbeats 4000000
namespace Ind
open PySem PySem.Spec PyProof.Rows L2
def Fz (t : Addr) (H H' : Hp) : Prop := ∀ b o, b ≠ t → H b = some o → H' b = some o
theorem Fz.refl {t : Addr} {H : Hp} : Fz t H H := fun _ _ _ h => h
theorem Fz.trans {t : Addr} {H H1 H2 : Hp} (a : Fz t H H1) (b : Fz t H1 H2) : Fz t H H2 := fun c o n h => b c o n (a c o n h)
theorem Fz.of {t : Addr} {H H' : Hp} (a : Same H H') : Fz t H H' := fun b o _ h => a b o h
theorem Fz.upd {t : Addr} {H H' : Hp} {o : HO} (a : Fz t H H') : Fz t H (upd H' t o) := fun b u n h => by rw [upd_ne n]; exact a b u n h
theorem Fz.new {t p : Addr} {H H' : Hp} {o : HO} (a : Fz t H H') (n : H' p = none) : Fz t H (L2.upd H' p o) := fun b u nb h => by
  have e := a b u nb h
  rw [upd_ne (ne_of_none e n)]; exact e
theorem same_upd {H : Hp} {p : Addr} {o : HO} (h : H p = none) : Same H (upd H p o) := fun b x e => by
  rw [upd_ne (ne_of_none e h)]; exact e
theorem Same.new {p : Addr} {H H' : Hp} {o : HO} (a : Same H H') (n : H' p = none) : Same H (L2.upd H' p o) := a.trans (same_upd n)
theorem line {n : Nat} (h : n ≤ 1000) : n ≤ sizeLine := Nat.le_trans h (by decide)
inductive Iv (p : Prop) : Prop
  | a (h : p) : Iv p
  | b (h : False) : Iv p
theorem Iv.out {p : Prop} (h : Iv p) : p := by cases h with | a h => exact h | b h => exact h.elim
structure Tp where
  a : Addr
  l : Addr
def TapeAt (H : Hp) (t : Tp) : Prop := ∃ (ns : List Int) (p n s : Int),
  H t.a = some (.lst [.ref t.l, .int p, .int n, .int s]) ∧ H t.l = some (.lst (ns.map V.int)) ∧ ns.length ≤ 1000 ∧ 0 ≤ p ∧ 0 ≤ n ∧ 0 ≤ s ∧ s < 2147483647
theorem Tape.ne {H : Hp} {t l : Addr} {ns : List Int} {p n s : Int} (h : H t = some (.lst [.ref l, .int p, .int n, .int s])) (h' : H l = some (.lst (ns.map V.int))) : l ≠ t := fun e => by
  rw [e, h] at h'
  injection h' with h'
  injection h' with h'
  cases ns with
  | nil => cases h'
  | cons a r => injection h' with a1 a2; cases a1
theorem TapeAt.same {H H' : Hp} {t : Tp} (h : TapeAt H t) (e : Same H H') : TapeAt H' t := by
  obtain ⟨ns, p, n, s, h1, h2, h3⟩ := h
  exact ⟨ns, p, n, s, e _ _ h1, e _ _ h2, h3⟩
theorem TapeAt.new {H : Hp} {t : Tp} {p : Addr} {o : HO} (h : TapeAt H t) (n : H p = none) : TapeAt (upd H p o) t := h.same (same_upd n)
theorem TapeAt.there {H : Hp} {t : Tp} (h : TapeAt H t) : (∃ o, H t.a = some o) ∧ ∃ o, H t.l = some o := by
  obtain ⟨ns, p, n, s, h1, h2, _⟩ := h
  exact ⟨⟨_, h1⟩, ⟨_, h2⟩⟩
structure Off (t : Tp) (b : Addr) : Prop where
  a : b ≠ t.a
  l : b ≠ t.l
theorem TapeAt.off {H : Hp} {t : Tp} {b : Addr} (h : TapeAt H t) (e : H b = none) : Off t b := by
  obtain ⟨⟨o, q⟩, ⟨u, r⟩⟩ := h.there
  refine ⟨?_, ?_⟩
  · intro z; rw [z, q] at e; cases e
  · intro z; rw [z, r] at e; cases e
theorem TapeAt.upd {H : Hp} {t : Tp} {b : Addr} {o : HO} (h : TapeAt H t) (e : Off t b) : TapeAt (L2.upd H b o) t := by
  obtain ⟨ns, p, n, s, h1, h2, h3⟩ := h
  exact ⟨ns, p, n, s, by rw [upd_ne e.a.symm]; exact h1, by rw [upd_ne e.l.symm]; exact h2, h3⟩
theorem Fz.upd' {t p : Addr} {H H' : Hp} {o : HO} (a : Fz t H H') (n : H p = none) : Fz t H (L2.upd H' p o) := fun b u nb h => by
  rw [upd_ne (ne_of_none h n)]; exact a b u nb h
theorem rd {K : PySem.W.Frag} {H : Hp} {p : Addr} {xs : List V} {Q : VK} (h : H p = some (.lst xs)) (j : Nat) {v : V} (e : xs[j]? = some v) (q : Q v H) : rIxL K (.ref p) (.int (j : Int)) H Q := ⟨_, _, _, _, rfl, rfl, .of h, atI_nat e, q⟩
theorem wr {H : Hp} {p : Addr} {xs : List V} {Q : Hp → Prop} {v : V} (h : H p = some (.lst xs)) (j : Nat) (e : ixN xs.length (j : Int) = some j) (q : Q (upd H p (.lst (xs.set j v)))) : rSetL (.ref p) (.int (j : Int)) v H Q := ⟨_, _, _, _, rfl, rfl, h, e, q⟩
def Dm (m : Int) : Prop := ∀ x : Int, CDivW x (if (2 : Int) > m then 2 else m)
theorem dm {m : Int} (h : m < 1606938044258990275541962092341162602522202993782792835301376) : Dm m := fun x => by
  refine wide_div (b := 200) ?_ ?_ (by decide) (by decide)
  · split <;> omega
  · have e : (2 : Nat) ^ 200 = 1606938044258990275541962092341162602522202993782792835301376 := by decide +kernel
    rw [e]
    split <;> omega
end Ind
set_option Elab.async false
set_option linter.all false
set_option maxRecDepth 100000
set_option maxHeartbeats 4000000
namespace IndG
open PySem PySem.Spec PyProof.Rows L2 GenW
section
variable {X : Cx} {pins : List (Addr × Obj)} {σ : L2.St} {H : Hp} {s : Shared}
end
end IndG
set_option Elab.async false
set_option linter.all false
set_option maxRecDepth 100000
set_option maxHeartbeats 4000000
namespace IndG
open PySem PySem.Spec PyProof.Rows L2 GenW
section
variable {X : Cx} {pins : List (Addr × Obj)} {σ : L2.St} {H0 : Hp} {s0 : Shared} {env : Env} {fp : List Addr} {a it : Addr} {go : Obj} {own : List (Str × Nat)} {target elt iter : Expr} {scope : Scope} {pos : Pos} {J : It} {tn : Nat → Heap → Prop} {n : Nat} {tr : Nat → Bool} {Pv : Nat → Hp → Prop} {g : TG} {te : TE}
end
end IndG
set_option Elab.async false
set_option linter.all false
set_option maxRecDepth 100000
set_option maxHeartbeats 4000000
namespace IndG
open PySem PySem.Spec PyProof.Rows L2 GenW GxR
section
variable {X : Cx} {pins : List (Addr × Obj)} {σ : L2.St} {H : Hp} {s : Shared} {own : List (Str × Nat)} {target elt iter : Expr} {scope : Scope} {pos gpos : Pos} {g : TG} {te : TE} {wi : TI} {c P : Addr}
end
end IndG
set_option Elab.async false
set_option linter.all false
set_option maxRecDepth 100000
set_option maxHeartbeats 4000000
namespace IndG
open PySem PySem.Spec PyProof.Rows L2 GenW GxR
section
variable {X : Cx} {own : List (Str × Nat)} {target elt iter : Expr} {scope : Scope} {p pos gpos : Pos} {g : TG} {te : TE} {wi : TI} {c P : Addr} {k : Nat}
end
end IndG
set_option Elab.async false
set_option linter.all false
set_option maxRecDepth 100000
set_option maxHeartbeats 4000000
namespace Ind
open PySem PySem.Spec PyProof.Rows L2
theorem small_div {x j : Int} (h : 0 < j) (h2 : j < 1606938044258990275541962092341162602522202993782792835301376) : CDivW x j := by
  refine wide_div (b := 200) h ?_ (by decide) (by decide)
  have e : (2 : Nat) ^ 200 = 1606938044258990275541962092341162602522202993782792835301376 := by decide +kernel
  rw [e]
  omega
theorem codes_app (a y : PySem.Str) : (a ++ y).cps.toList = a.cps.toList ++ y.cps.toList := by
  cases a; cases y
  show (_ ++ _ : Array Nat).toList = _
  simp
theorem codes_len (a : PySem.Str) : a.length = a.cps.toList.length := (Array.length_toList).symm
theorem codes_one (c : Nat) : (⟨#[c]⟩ : PySem.Str).cps.toList = [c] := rfl
def Sgn (c : Nat) : Prop := 32 ≤ c ∧ c ≤ 126 ∧ c ≠ 37
instance (c : Nat) : Decidable (Sgn c) := inferInstanceAs (Decidable (32 ≤ c ∧ c ≤ 126 ∧ c ≠ 37))
def Sgns (x : PySem.Str) : Prop := ∀ c ∈ x.cps.toList, Sgn c
def TxtOk (x : PySem.Str) : Prop := x.length ≤ 20 ∧ Sgns x
theorem Sgns.app {x y : PySem.Str} (a : Sgns x) (b : Sgns y) : Sgns (x ++ y) := fun c h => by
  rw [codes_app] at h
  exact (List.mem_append.mp h).elim (a c) (b c)
theorem Sgns.one {c : Nat} (h : Sgn c) : Sgns ⟨#[c]⟩ := fun d hd => by
  have e : d = c := by simpa [codes_one] using hd
  rw [e]; exact h
theorem len_app (x y : PySem.Str) : (x ++ y).length = x.length + y.length := by
  rw [codes_len, codes_len, codes_len, codes_app, List.length_append]
theorem len_one (c : Nat) : (⟨#[c]⟩ : PySem.Str).length = 1 := rfl
abbrev sgA : PySem.Str := " !\"#$&'()*+,-./0123456789:;<=>?@ABCDEFGHIJKLMNOPQRSTUVWXYZ[\\]^_`"
abbrev sgB : PySem.Str := "abcdefghijklmnopqrstuvwxyz{|}~"
def sg : PySem.Str := sgA ++ sgB
def ValOk : V → Prop
  | .int _ => True
  | .str x => TxtOk x
  | _ => False
theorem ValOk.cases {v : V} (h : ValOk v) : (∃ i, v = .int i) ∨ ∃ x, v = .str x ∧ TxtOk x := by
  cases v with
  | int i => exact .inl ⟨i, rfl⟩
  | str x => exact .inr ⟨x, rfl, h⟩
  | _ => exact h.elim
end Ind
set_option Elab.async false
set_option linter.all false
set_option maxRecDepth 100000
set_option maxHeartbeats 4000000
namespace IndCmp
open PySem PySem.SeqAt Ob
open PySem.AutoSeq1 (wpAny_loadPart')
open PySem.MeetsSeq PySem.MeetsSeq2 PySem.MeetsSeq3
end IndCmp
set_option Elab.async false
set_option linter.all false
set_option maxRecDepth 100000
set_option maxHeartbeats 4000000
namespace Ind
open PySem PySem.Spec PyProof.Rows L2
section
variable {X : Cx}
end
end Ind
set_option Elab.async false
set_option linter.all false
set_option maxRecDepth 100000
set_option maxHeartbeats 4000000
namespace Ind
open PySem PySem.Spec PyProof.Rows L2
end Ind
set_option Elab.async false
set_option linter.all false
set_option maxRecDepth 100000
set_option maxHeartbeats 4000000
namespace Ind
open PySem PySem.Spec PyProof.Rows L2
mutual
def tuplesOnly : PyData → Bool
  | .none => true
  | .bool _ => true
  | .int _ => true
  | .str _ => true
  | .tuple xs => tuplesOnlyAll xs
  | _ => false
def tuplesOnlyAll : List PyData → Bool
  | [] => true
  | x :: xs => tuplesOnly x && tuplesOnlyAll xs
end
structure Kp (H H' : Hp) : Prop where
  tup : ∀ b xs, H b = some (.tup xs) → H' b = some (.tup xs)
  frz : ∀ b o xs, H b = some (.frz o (.tup xs)) → H' b = some (.frz o (.tup xs))
theorem Kp.refl (H : Hp) : Kp H H := ⟨fun _ _ h => h, fun _ _ _ h => h⟩
theorem Kp.trans {H H1 H2 : Hp} (a : Kp H H1) (b : Kp H1 H2) : Kp H H2 := ⟨fun c x h => b.tup c x (a.tup c x h), fun c o x h => b.frz c o x (a.frz c o x h)⟩
theorem Same.kp {H H' : Hp} (s : Same H H') : Kp H H' := ⟨fun c x h => s _ _ h, fun c o x h => s _ _ h⟩
theorem Fz.kp {t : Tp} {H H' : Hp} (s : Fz t.a H H') (T : TapeAt H t) : Kp H H' := by
  obtain ⟨ns, p, n, z, h1, _⟩ := T
  refine ⟨fun c x h => s _ _ ?_ h, fun c o x h => s _ _ ?_ h⟩ <;> (intro e; rw [e, h1] at h; cases h)
theorem Kp.upd {H : Hp} {l : Addr} {xs : List V} {o : HO} (h : H l = some (.lst xs)) : Kp H (upd H l o) := by
  refine ⟨fun c x e => ?_, fun c u x e => ?_⟩ <;> (rw [upd_ne (ne_of e h (by intro z; cases z))]; exact e)
theorem Kp.new {H : Hp} {l : Addr} {o : HO} (h : H l = none) : Kp H (L2.upd H l o) := Same.kp (same_upd h)
theorem Kp.sqT {K : PySem.W.Frag} {H H' : Hp} {a : Addr} {xs : List V} (k : Kp H H') (h : SqT K H a xs) : SqT K H' a xs := by
  rcases h with (h | ⟨o, h⟩) | h
  · exact .inl (.inl (k.tup _ _ h))
  · exact .inl (.inr ⟨o, k.frz _ _ _ h⟩)
  · exact .inr h
mutual
theorem Dp.kp {K : PySem.W.Frag} {H H' : Hp} (k : Kp H H') : ∀ (d : PyData) (v : V), tuplesOnly d = true → Dp K H v d → Dp K H' v d
  | .none, _, _, h => by cases h; exact .non
  | .bool _, _, _, h => by cases h; exact .bl _
  | .int _, _, _, h => by cases h; exact .int _
  | .str _, _, _, h => by cases h; exact .str _
  | .list _, _, t, _ => by simp [tuplesOnly] at t
  | .dict _, _, t, _ => by simp [tuplesOnly] at t
  | .tuple ds, _, t, h => by
    cases h with
    | tup hs ha => exact .tup (k.sqT hs) (DpAll.kp k ds _ (by simpa [tuplesOnly] using t) ha)
theorem DpAll.kp {K : PySem.W.Frag} {H H' : Hp} (k : Kp H H') : ∀ (ds : List PyData) (vs : List V), tuplesOnlyAll ds = true → DpAll K H vs ds → DpAll K H' vs ds
  | [], _, _, h => by cases h; exact .nil
  | d :: ds, _, t, h => by
    cases h with
    | cons h1 h2 =>
      have t' : tuplesOnly d = true ∧ tuplesOnlyAll ds = true := by simpa [tuplesOnlyAll] using t
      exact .cons (Dp.kp k d _ t'.1 h1) (DpAll.kp k ds _ t'.2 h2)
end
end Ind
namespace L2
open PySem PySem.Spec PyProof.Rows
theorem DpAll.len {K : PySem.W.Frag} {H : Hp} : ∀ {ds : List PyData} {vs : List V}, DpAll K H vs ds → vs.length = ds.length
  | [], _, h => by cases h; rfl
  | d :: ds, _, h => by
    cases h with
    | cons _ h2 => rw [List.length_cons, List.length_cons, DpAll.len h2]
theorem DpAll.get {K : PySem.W.Frag} {H : Hp} : ∀ {ds : List PyData} {vs : List V} {i : Nat} {d : PyData}, DpAll K H vs ds → ds[i]? = some d → ∃ v, vs[i]? = some v ∧ Dp K H v d
  | [], _, _, _, _, e => by simp at e
  | d :: ds, _, 0, _, h, e => by
    cases h with
    | cons h1 _ =>
      simp only [List.getElem?_cons_zero, Option.some.injEq] at e
      subst e
      exact ⟨_, rfl, h1⟩
  | d :: ds, _, i + 1, _, h, e => by
    cases h with
    | cons _ h2 =>
      obtain ⟨v, q, r⟩ := DpAll.get h2 (show ds[i]? = some _ by simpa using e)
      exact ⟨v, by simpa using q, r⟩
theorem DpAll.app {K : PySem.W.Frag} {H : Hp} : ∀ {ds es : List PyData} {vs ws : List V}, DpAll K H vs ds → DpAll K H ws es → DpAll K H (vs ++ ws) (ds ++ es)
  | [], _, _, _, h, g => by cases h; exact g
  | d :: ds, _, _, _, h, g => by
    cases h with
    | cons h1 h2 => exact .cons h1 (DpAll.app h2 g)
theorem Dp.tup_inv {K : PySem.W.Frag} {H : Hp} {v : V} {ds : List PyData} (h : Dp K H v (.tuple ds)) : ∃ a xs, v = .ref a ∧ SqT K H a xs ∧ DpAll K H xs ds := by
  cases h with
  | tup hs ha => exact ⟨_, _, rfl, hs, ha⟩
theorem Dp.str_inv {K : PySem.W.Frag} {H : Hp} {v : V} {x : PySem.Str} (h : Dp K H v (.str x)) : v = .str x := by cases h; rfl
theorem Dp.int_inv {K : PySem.W.Frag} {H : Hp} {v : V} {x : Int} (h : Dp K H v (.int x)) : v = .int x := by cases h; rfl
end L2
namespace Ind
open PySem PySem.Spec PyProof.Rows L2
def rReprD (K : PySem.W.Frag) : List V → Hp → VK → Prop := fun xs H Q => ∃ x d, xs = [x] ∧ Dp K H x d ∧ d.showable = true ∧ d.hasDict = false ∧ d.depth ≤ 60 ∧ d.shown.length ≤ sizeLine ∧ Q (.str d.shown) H
section
variable {X : Cx}
theorem call_reprD (hg : X.A.guards = some []) (hu : X.A.units + 64 < cLine) : CallR X (.builtin "repr") (rReprD X.K) := by
  intro pins s σ H xs us Q I r h
  obtain ⟨x, d, rfl, hd, hs, nd, dep, len, q⟩ := h
  obtain ⟨u, rfl, ru⟩ := vals1 r
  cases x with
  | ref a =>
    obtain ⟨as, rd⟩ := Dp.reads I d _ u hd ru
    cases (show u = Value.ref a from ru)
    refine repr_of_reads' rd hs (fun e => by rw [nd] at e; cases e) hg (by omega) (fun _ _ e => e) (fun h' u' tk keep => ?_) len
    exact ⟨.str d.shown, H, I.kept keep, ⟨_, rfl⟩, q⟩
  | int i =>
    cases hd
    obtain ⟨t, rfl⟩ := (show ∃ t, u = Value.int i t from ru)
    exact PySem.P.repr_of_int (by simpa [PyData.showable] using hs) ⟨.str (toString i), H, I.tok _, ⟨_, rfl⟩, q⟩
  | str z =>
    cases hd
    obtain ⟨t, rfl⟩ := (show ∃ t, u = Value.str z t from ru)
    exact PySem.P.repr_of_str ⟨.str (reprText z), H, I.tok _, ⟨_, rfl⟩, q⟩ len
  | bl b =>
    cases hd
    cases (show u = Value.bool b from ru)
    exact PySem.P.repr_of_bool ⟨.str (if b then "True" else "False"), H, I.tok _, ⟨_, rfl⟩, q⟩
  | non =>
    cases hd
    cases (show u = Value.none from ru)
    exact PySem.P.repr_of_none ⟨.str "None", H, I.tok _, ⟨_, rfl⟩, q⟩
  | _ => cases hd
end
end Ind
set_option Elab.async false
set_option linter.all false
set_option maxRecDepth 100000
set_option maxHeartbeats 4000000
namespace IndEnd
open PySem PySem.Spec PyProof.Rows L2
theorem fun_at {P : Program} {w : World} {K : PySem.W.Frag} {mg : Str → Option Value} {base : Heap} {x qual : Str} {st : Stmt} {f : Addr} {fd : FuncData} {N ps : List Str} {k : Nat} {A : Around} {outer : List Env} {s : Shared} {H : Hp} {us : List Value} {vs : List V} {Q : VK}
    (F : Fun K x qual st f fd) (S : FnScope N ps (defScope st)) (room : Room (k + 1) A) (e0 : Env0 P w K mg base A outer s H) (bt : BindsTo s fd ⟨us, []⟩ (ps.zip us)) (rv : Vals vs us) (len : vs.length = ps.length)
    (body : ∀ cdv : Value, Room k (A.deeper (envOfC qual (defScope st) s.heap.objs.size f cdv)) →
      ∃ t, PSs (cxOf CX0 P w K mg base N qual (defScope st) f cdv A outer s H E0).nox (defBody st) t ∧ t { nx := fun _ H' => Q .non H', rt := Q } (start N vs) H) :
    codeAny (model P w) A (.call (.ref f) ⟨us, []⟩) (CR CX0 outer P w H s Q E0) s := by
  obtain ⟨oc, od, kV, doc, pm, an, cdv, ct, osl, rfl, lk, cin⟩ := F.ex
  have keep : ∀ b o, base.get? b = some o → s.heap.get? b = some o := fun b o e => (e0.bs b o e).1
  have KX : K.In s.heap := e0.mod.kin.keeps keep
  have kinds : ∀ y ∈ ps.zip us, (defScope st).names.lookup y.1 = some .local ∨ ((defScope st).names.lookup y.1 = some .cell ∧ ((cellsFrom (s.heap.objs.size + 1) (defScope st).names []).lookup y.1).isSome = true) := by
    rintro ⟨n, v⟩ hy
    have hn : n ∈ ps := (List.of_mem_zip hy).1
    cases S.par n hn with
    | inl q => exact .inl q
    | inr q => exact .inr ⟨q, PySem.W.cellsFrom_some _ _ _ (.inl q)⟩
  apply codeAny_call_function room.depth (KX _ _ lk) rfl S.co S.gen rfl (PySem.W.codeRec_of KX cin)
  apply bt
  apply wpAny_newFunctionEnv_cells S.kind kinds
  intro env he s1 ic
  subst he
  have lim := (e0.mod.nolimit.keeps keep).keeps ic.toInCall.keep
  refine ⟨lim, codeAny_func ?_⟩
  obtain ⟨t, ht, hq⟩ := body cdv (room.deeper _)
  have I := inv_start (CX := CX0) (E := E0) S room.hd e0 len rv ic
  refine wpAny_mono (ht.nox.run [] s1 _ H _ I hq) ?_ (fun _ _ z => z)
  intro fl s' hs
  cases fl with
  | ret u => obtain ⟨v, σ', H', J, r, q⟩ := hs; exact ⟨v, H', J.os, J.bare, J.base, J.hok, r, q⟩
  | next => obtain ⟨σ', H', J, q⟩ := hs; exact ⟨V.non, H', J.os, J.bare, J.base, J.hok, rfl, q⟩
  | brk => obtain ⟨_, _, _, q⟩ := hs; exact q.elim
  | cont => obtain ⟨_, _, _, q⟩ := hs; exact q.elim
def start0 (K : PySem.W.Frag) (a : Addr) (o : Obj) (ns : List Int) : Hp := fun b =>
  if b = a ∧ K.lookup a = none then some (.frz o (.lst (ns.map V.int))) else none
theorem start0_some {K : PySem.W.Frag} {a b : Addr} {o : Obj} {ns : List Int} {u : HO} (h : start0 K a o ns b = some u) : b = a ∧ K.lookup a = none ∧ u = .frz o (.lst (ns.map V.int)) := by
  unfold start0 at h
  split at h
  · rename_i c; cases h; exact ⟨c.1, c.2, rfl⟩
  · cases h
theorem law_go {P : Program} {w : World} {K : PySem.W.Frag} {mg mb : Str → Option Value} {fa a : Addr} {s₁ : Shared} {vs : List Value} {ns : List Int}
    (KX : K.In s₁.heap) (hns : s₁.heap.Ns mainGlobals mg) (hb : s₁.heap.Ns builtinsNs mb) (hbb : ∀ x : Str, x ≠ "__name__" → mb x = bootBuiltins x) (hlim : s₁.heap.NoLimit) (hg : s₁.gens = #[])
    (ha : s₁.heap.get? a = some { cls := .type "list", data := .seq vs.toArray }) (hi : IntsAre vs ns) (hl : ns.length ≤ sizeLine)
    (F : ∀ base : Heap, K.In base → base.Ns mainGlobals mg → ∀ H : Hp, Env0 P w K mg base callerA [] s₁ H → SqL K H a (ns.map V.int) →
      codeAny (model P w) callerA (.call (.ref fa) ⟨[.ref a], []⟩) (CR CX0 [] P w H s₁ (fun v _ => v = .bl true) E0) s₁) :
    codeAny (model P w) callerA (.call (.ref fa) ⟨[.ref a], []⟩) (fun r s' => r = .ok (.ret (.bool true)) ∧ OldK s₁.heap s'.heap ∧ s'.os = s₁.os ∧ AllBare s'.gens) s₁ := by
  have rv := vals_ints hi
  have hlen := hi.length
  let o : Obj := { cls := .type "list", data := .seq vs.toArray }
  let H := start0 K a o ns
  have SQ : SqL K H a (ns.map V.int) := by
    cases hk : K.lookup a with
    | none => exact .inl (.inr ⟨o, by show start0 K a o ns a = _; unfold start0; rw [if_pos ⟨rfl, hk⟩]⟩)
    | some o' =>
      have e := KX a o' hk
      rw [ha] at e
      cases e
      refine .inr ⟨_, vs.toArray, _, hk, rfl, rfl, rfl, ?_, ?_⟩
      · rw [List.size_toArray, hlen]; exact hl
      · simpa using rv
  have OK : HOk P w H s₁.heap := fun b u e => by
    obtain ⟨rfl, _, rfl⟩ := start0_some e
    exact ⟨ha, by rw [List.length_map]; exact hl, vs, _, rv, ha⟩
  have under : ∀ {b : Addr} {ob : Obj}, s₁.heap.get? b = some ob → H b = none → (hidT s₁.heap H).get? b = some ob := fun e n => hidT_get e n
  have nsp : ∀ {b : Addr} {m : Str → Option Value}, s₁.heap.Ns b m → (hidT s₁.heap H).Ns b m := by
    rintro b m ⟨ob, es, ep, e, d, r⟩
    refine ⟨ob, es, ep, under e ?_, d, r⟩
    cases q : H b with
    | none => rfl
    | some u =>
      obtain ⟨rfl, _, _⟩ := start0_some q
      rw [ha] at e
      cases e
      cases d
  have KB : K.In (hidT s₁.heap H) := fun b ob e => under (KX b ob e) (by
    cases q : H b with
    | none => rfl
    | some u =>
      obtain ⟨rfl, n, _⟩ := start0_some q
      rw [n] at e
      cases e)
  have lim2 : (hidT s₁.heap H).NoLimit := by
    obtain ⟨mc, h1, h2⟩ := hlim
    exact ⟨mc, nsp h1, h2⟩
  have e0 : Env0 P w K mg (hidT s₁.heap H) callerA [] s₁ H := by
    refine ⟨rfl, ⟨KB, nsp hns, ⟨mb, nsp hb, hbb⟩, lim2⟩, fun b ob e => of_hidT e, Nat.le_of_eq (hidT_size _ _), trivial, fun b z => ?_, OK, .of_eq hg⟩
    exact absurd (show b ∈ ([] : List Addr) from z) (by simp)
  refine codeAny_mono (F _ KB (nsp hns) H e0 SQ) fun r s' h => ?_
  match r, h with
  | .error e, h => exact h.elim
  | .ok (.next), h => exact False.elim h
  | .ok (.brk), h => exact False.elim h
  | .ok (.cont), h => exact False.elim h
  | .ok (.ret u), h =>
    obtain ⟨v, H', os, bare, un, ok', rel, q⟩ := h
    have q1 : v = .bl true := q
    subst q1
    have q2 : u = Value.bool true := rel
    subst q2
    refine ⟨rfl, OldK.of_keep fun b ob e => ?_, os, bare⟩
    cases q : H b with
    | none => exact un.keep b ob e q (fun z => absurd (show b ∈ ([] : List Addr) from z) (by simp)) (by simp)
    | some u =>
      obtain ⟨rfl, _, rfl⟩ := start0_some q
      obtain ⟨z, _⟩ := ok' b _ (un.frzs b _ _ q)
      rw [ha] at e
      cases e
      exact z
theorem walk_at_caller {l : PySem.W.OpenLaw} {n : Nat} {q : Program} {loose : List Str} {XP : (Str → Option Value) → Heap → Prop} {YP : World → Heap → Prop} {d : DefRec} {K : Params → PySem.W.Frag}
    (hn : l.most = some n) (hn2 : n ≤ sizeLine) (hdf : d.params.defaults = []) (hY : ∀ (w : World) (h : Heap), YP w h → (K w.params).In h)
    (F : ∀ (w : World) (mg : Str → Option Value) (fa : Addr) (h : Heap), (K w.params).In h → h.Ns mainGlobals mg → mg d.name = some (.ref fa) →
      ∀ (base : Heap) (s : Shared) (H : Hp) (a : Addr) (ns : List Int), (K w.params).In base → base.Ns mainGlobals mg → Env0 l.prog w (K w.params) mg base callerA [] s H → ns.length ≤ n → SqL (K w.params) H a (ns.map V.int) →
        codeAny (model l.prog w) callerA (.call (.ref fa) ⟨[.ref a], []⟩) (CR CX0 [] l.prog w H s (fun v _ => v = .bl true) E0) s) :
    PySem.W.WalkO q loose XP YP l.row.toRowW d [] (fun f vs => PySem.call f vs) := by
  apply Att.attach_call hn hdf
  intro w s₀ s₁ mg mb fa o pm cd doc a vs ns G Y ho hd hcd hmg hobj hints hlen hg
  have KX := hY w _ Y
  exact law_go KX G.T.g G.T.b G.T.builtins G.T.nolimit hg hobj hints (Nat.le_trans hlen hn2) fun base hk hb H e0 hS => F w mg fa _ KX G.T.g hmg base s₁ H a ns hk hb e0 hlen hS
end IndEnd
set_option Elab.async false
set_option linter.all false
set_option maxRecDepth 100000
set_option maxHeartbeats 4000000
namespace Ind
open PySem PySem.Spec PyProof.Rows L2
abbrev S := PySem.Str
inductive Op where
  | col (n : S)
  | num (i : Int)
  | txt (x : S)
def Op.d : Op → PyData
  | .col n => .tuple [.str "column", .str n]
  | .num i => .tuple [.str "integer", .int i]
  | .txt x => .tuple [.str "string", .str x]
abbrev Kd := Option Int
def kdD : Kd → PyData
  | none => .tuple [.str "string"]
  | some b => .tuple [.str "integer", .int b]
abbrev Col := S × Kd
def colD (c : Col) : PyData := .tuple [.str c.1, kdD c.2]
structure Tm where
  plus : Bool
  op : Op
def sgS : Bool → S
  | true => "+"
  | false => "-"
def Tm.d (t : Tm) : PyData := .tuple [.str (sgS t.plus), t.op.d]
def exD (ts : List Tm) : PyData := .tuple (ts.map Tm.d)
theorem tO_kd (k : Kd) : tuplesOnly (kdD k) = true := by cases k <;> rfl
theorem tO_col (c : Col) : tuplesOnly (colD c) = true := by
  show (true && (tuplesOnly (kdD c.2) && true)) = true
  rw [tO_kd]; rfl
theorem tO_all {α : Type} (f : α → PyData) (h : ∀ a, tuplesOnly (f a) = true) : ∀ l : List α, tuplesOnlyAll (l.map f) = true
  | [] => rfl
  | a :: l => by
    show (tuplesOnly (f a) && tuplesOnlyAll (l.map f)) = true
    rw [h, tO_all f h l]; rfl
def KdOk : Kd → Prop
  | none => True
  | some b => 0 ≤ b ∧ b ≤ 1000000000000
structure ColsOk (cs : List Col) : Prop where
  nd : (cs.map (·.1)).Nodup
  kd : ∀ c ∈ cs, KdOk c.2
  len : cs.length ≤ 10
  nm : ∀ c ∈ cs, TxtOk c.1
def ColsAt (K : PySem.W.Frag) (H : Hp) (v : V) (cs : List Col) : Prop := ∃ (a : Addr) (o : Obj) (ps : List Addr), v = .ref a ∧ H a = some (.frz o (.tup (ps.map V.ref))) ∧ o.dict = none ∧ DpAll K H (ps.map V.ref) (cs.map colD)
theorem ColsAt.kp {K : PySem.W.Frag} {H H' : Hp} {v : V} {cs : List Col} (k : Kp H H') (h : ColsAt K H v cs) : ColsAt K H' v cs := by
  obtain ⟨a, o, ps, e, h1, h2, h3⟩ := h
  exact ⟨a, o, ps, e, k.frz _ _ _ h1, h2, DpAll.kp k _ _ (tO_all _ tO_col cs) h3⟩
def opBound (cs : List Col) : Op → Int
  | .num i => if i < 0 then -i else i
  | .txt _ => 0
  | .col n => match cs.find? (fun c => decide (c.1 = n) && c.2.isSome) with
    | some (_, some b) => b
    | _ => 0
def OpInt (cs : List Col) : Op → Prop
  | .num i => -1000000 ≤ i ∧ i ≤ 1000000
  | .txt _ => False
  | .col n => ∃ b, (n, some b) ∈ cs
def OpTxt (cs : List Col) : Op → Prop
  | .num _ => False
  | .txt x => TxtOk x
  | .col n => (n, none) ∈ cs
def OpOk (cs : List Col) (word : Bool) (o : Op) : Prop := if word then OpTxt cs o else OpInt cs o
def wordS : Bool → S
  | true => "string"
  | false => "integer"
structure ExOk (cs : List Col) (word : Bool) (ts : List Tm) : Prop where
  ne : ts ≠ []
  first : ∀ t, ts.head? = some t → t.plus = true
  ops : ∀ t ∈ ts, OpOk cs word t.op
  one : word = true → ts.length = 1
  sum : (ts.map fun t => opBound cs t.op).sum ≤ 1000000000000
  len : ts.length ≤ 20
def ValIn : Kd → V → Prop
  | none, .str x => TxtOk x
  | some b, .int i => -b ≤ i ∧ i ≤ b
  | _, _ => False
inductive RowIn : List Col → List V → Prop
  | nil : RowIn [] []
  | cons {c : Col} {v : V} {cs : List Col} {vs : List V} : ValIn c.2 v → RowIn cs vs → RowIn (c :: cs) (v :: vs)
theorem RowIn.len {cs : List Col} {vs : List V} (h : RowIn cs vs) : vs.length = cs.length := by induction h <;> simp_all
theorem RowIn.get : ∀ {cs : List Col} {vs : List V} {i : Nat} {c : Col}, RowIn cs vs → cs[i]? = some c → ∃ v, vs[i]? = some v ∧ ValIn c.2 v
  | _, _, _, _, .nil, e => by simp at e
  | _, _, 0, _, .cons h _, e => by
    simp only [List.getElem?_cons_zero, Option.some.injEq] at e
    subst e
    exact ⟨_, rfl, h⟩
  | _, _, i + 1, _, .cons _ t, e => by
    obtain ⟨v, q, r⟩ := RowIn.get t (show _ = some _ by simpa using e)
    exact ⟨v, by simpa using q, r⟩
theorem RowIn.snoc : ∀ {cs : List Col} {vs : List V} {c : Col} {v : V}, RowIn cs vs → ValIn c.2 v → RowIn (cs ++ [c]) (vs ++ [v])
  | _, _, _, _, .nil, h => .cons h .nil
  | _, _, _, _, .cons a t, h => .cons a (RowIn.snoc t h)
def NamesAt (K : PySem.W.Frag) (H : Hp) (v : V) (cs : List Col) : Prop := ∃ (a : Addr) (o : Obj), v = .ref a ∧ H a = some (.frz o (.tup (cs.map fun c => V.str c.1))) ∧ o.dict = none
structure Straight (cs : List Col) (ts : List Tm) : Prop where
  nd : (ts.filterMap fun t => match t.op with | .col n => some n | _ => none).Nodup
  signs : ∀ t ∈ ts, ∀ i, t.op = .num i → if t.plus then 0 ≤ i else i ≤ 0
end Ind
set_option Elab.async false
set_option linter.all false
set_option maxRecDepth 100000
set_option maxHeartbeats 4000000
namespace Ind
open PySem PySem.Spec PyProof.Rows L2
end Ind
set_option Elab.async false
set_option linter.all false
set_option maxRecDepth 100000
set_option maxHeartbeats 4000000
namespace Ind
open PySem PySem.Spec PyProof.Rows L2
variable {K : PySem.W.Frag} {H : Hp}
def Op.word : Op → S
  | .col _ => "column"
  | .num _ => "integer"
  | .txt _ => "string"
def Op.cont : Op → V
  | .col n => .str n
  | .num i => .int i
  | .txt x => .str x
theorem map_get {α β : Type} {f : α → β} {l : List α} {i : Nat} {x : β} (h : (l.map f)[i]? = some x) : ∃ a, l[i]? = some a ∧ x = f a := by
  rw [List.getElem?_map] at h
  cases e : l[i]? with
  | none => rw [e] at h; cases h
  | some a => rw [e] at h; exact ⟨a, rfl, by cases h; rfl⟩
theorem ColsAt.tup {c : V} {cs : List Col} (h : ColsAt K H c cs) : ∃ (a : Addr) (ps : List Addr), c = .ref a ∧ SqT K H a (ps.map V.ref) ∧ DpAll K H (ps.map V.ref) (cs.map colD) := by
  obtain ⟨a, o, ps, e, h1, h2, h3⟩ := h
  exact ⟨a, ps, e, .inl (.inr ⟨o, h1⟩), h3⟩
theorem OpOk.str {cs : List Col} {b : Bool} {o : Op} (ok : ColsOk cs) (h : OpOk cs b o) : (∃ i, o = .num i) ∨ ∃ x, TxtOk x ∧ (o = .txt x ∨ o = .col x) := by
  cases o with
  | num i => exact .inl ⟨i, rfl⟩
  | txt x =>
    cases b with
    | true => exact .inr ⟨x, h, .inl rfl⟩
    | false => exact h.elim
  | col x =>
    refine .inr ⟨x, ?_, .inr rfl⟩
    cases b with
    | true => exact ok.nm _ (show (x, none) ∈ cs from h)
    | false =>
      obtain ⟨k, hk⟩ := (show ∃ k, (x, some k) ∈ cs from h)
      exact ok.nm _ hk
theorem Same.upd' {p : Addr} {H H' : Hp} {o : HO} (a : Same H H') (n : H p = none) : Same H (L2.upd H' p o) := fun b u h => by
  rw [upd_ne (ne_of_none h n)]; exact a b u h
theorem Fz.none {t b : Addr} {H H' : Hp} (f : Fz t H H') (n : b ≠ t) (e : H' b = Option.none) : H b = Option.none := by
  cases h : H b with
  | none => rfl
  | some o => rw [f b o n h] at e; cases e
theorem OpOk.mem {cs : List Col} {b : Bool} {n : S} (h : OpOk cs b (.col n)) : n ∈ cs.map (·.1) := by
  cases b with
  | true => exact List.mem_map.mpr ⟨_, (show (n, none) ∈ cs from h), rfl⟩
  | false =>
    obtain ⟨k, hk⟩ := (show ∃ k, (n, some k) ∈ cs from h)
    exact List.mem_map.mpr ⟨_, hk, rfl⟩
end Ind
set_option Elab.async false
set_option linter.all false
set_option maxRecDepth 100000
set_option maxHeartbeats 4000000
namespace Ind
open PySem PySem.Spec PyProof.Rows L2
section
variable {X : Cx} {σ : L2.St} {H : Hp}
variable {o e : Expr} {name : Str} {apos cpos : Pos} {id : String} {to : TE} {t : TA} {r : V → List V → Hp → VK → Prop}
end
end Ind
set_option Elab.async false
set_option linter.all false
set_option maxRecDepth 100000
set_option maxHeartbeats 4000000
namespace Ind
open PySem PySem.Spec PyProof.Rows L2
theorem Same.none {b : Addr} {H H' : Hp} (f : Same H H') (e : H' b = Option.none) : H b = Option.none := by
  cases h : H b with
  | none => rfl
  | some o => rw [f b o h] at e; cases e
end Ind
set_option Elab.async false
set_option linter.all false
set_option maxRecDepth 100000
set_option maxHeartbeats 4000000
namespace Ind
open PySem PySem.Spec PyProof.Rows L2
theorem leave {D : Ends} {σ : L2.St} {H : Hp} (h : D.nx σ H) : tNext D σ H := h
def colN (t : Tm) : Option S := match t.op with
  | .col n => some n
  | _ => none
structure StI (cs : List Col) (ts : List Tm) (fs : List S) (n : Int) (i : Nat) : Prop where
  ne : 0 < i → ts ≠ []
  first : ∀ t, ts.head? = some t → t.plus = true
  ops : ∀ t ∈ ts, OpOk cs false t.op
  sum : (ts.map fun t => opBound cs t.op).sum = n
  low : n ≤ 1000000000000
  len : ts.length ≤ i
  nd : (ts.filterMap colN).Nodup
  signs : ∀ t ∈ ts, ∀ j, t.op = .num j → if t.plus then 0 ≤ j else j ≤ 0
  left : ∀ f ∈ fs, ∃ b, (f, some b) ∈ cs
  fnd : fs.Nodup
  apart : ∀ f ∈ fs, f ∉ ts.filterMap colN
  few : fs.length ≤ 10
structure Nxt (cs : List Col) (ts : List Tm) (fs : List S) (pl : Bool) (o : Op) : Prop where
  ok : OpOk cs false o
  sign : ∀ j, o = .num j → if pl then 0 ≤ j else j ≤ 0
  apart : ∀ n, o = .col n → n ∉ fs ∧ n ∉ ts.filterMap colN
theorem StI.same {cs : List Col} {ts : List Tm} {fs : List S} {n : Int} {i : Nat} (h : StI cs ts fs n i) (ne : ts ≠ []) : StI cs ts fs n (i + 1) :=
  ⟨fun _ => ne, h.first, h.ops, h.sum, h.low, Nat.le_succ_of_le h.len, h.nd, h.signs, h.left, h.fnd, h.apart, h.few⟩
theorem StI.add {cs : List Col} {ts : List Tm} {fs : List S} {n : Int} {i : Nat} {pl : Bool} {o : Op} (h : StI cs ts fs n i) (x : Nxt cs ts fs pl o) (hp : i = 0 → pl = true) (l : n + opBound cs o ≤ 1000000000000) : StI cs (ts ++ [⟨pl, o⟩]) fs (n + opBound cs o) (i + 1) := by
  refine ⟨fun _ => by simp, ?_, ?_, ?_, l, ?_, ?_, ?_, h.left, h.fnd, ?_, h.few⟩
  · intro t ht
    cases ts with
    | nil =>
      have hi : i = 0 ∨ 0 < i := by omega
      rcases hi with hi | hi
      · cases ht; exact hp hi
      · exact absurd rfl (h.ne hi)
    | cons a r => exact h.first t ht
  · intro t ht
    rcases List.mem_append.mp ht with m | m
    · exact h.ops t m
    · cases List.mem_singleton.mp m; exact x.ok
  · rw [List.map_append, List.sum_append, h.sum]; simp
  · have := h.len
    simp; omega
  · rw [List.filterMap_append, List.nodup_append]
    refine ⟨h.nd, ?_, ?_⟩
    · cases o with
      | col m => exact (by show [m].Nodup; simp)
      | num j => exact (show ([] : List S).Nodup from List.nodup_nil)
      | txt y => exact (show ([] : List S).Nodup from List.nodup_nil)
    · intro a ha b hb e
      subst e
      cases o with
      | col m =>
        have : a = m := by simpa [colN] using hb
        subst this
        exact (x.apart a rfl).2 ha
      | num j => simp [colN] at hb
      | txt y => simp [colN] at hb
  · intro t ht j ej
    rcases List.mem_append.mp ht with m | m
    · exact h.signs t m j ej
    · cases List.mem_singleton.mp m; exact x.sign j ej
  · intro f hf
    rw [List.filterMap_append, List.mem_append, not_or]
    refine ⟨h.apart f hf, ?_⟩
    cases o with
    | col m =>
      intro hb
      have : f = m := by simpa [colN] using hb
      subst this
      exact (x.apart f rfl).1 hf
    | num j => simp [colN]
    | txt y => simp [colN]
theorem StI.out {cs : List Col} {ts : List Tm} {fs : List S} {n : Int} {i : Nat} (h : StI cs ts fs n i) (hi : 0 < i ∧ i ≤ 20) : ExOk cs false ts ∧ Straight cs ts :=
  ⟨⟨h.ne hi.1, h.first, h.ops, (fun e => by cases e), by rw [h.sum]; exact h.low, Nat.le_trans h.len hi.2⟩, ⟨h.nd, h.signs⟩⟩
end Ind
set_option Elab.async false
set_option linter.all false
set_option maxRecDepth 100000
set_option maxHeartbeats 4000000
namespace Ind
open PySem PySem.Spec PyProof.Rows L2
end Ind
set_option Elab.async false
set_option linter.all false
set_option maxRecDepth 100000
set_option maxHeartbeats 4000000
namespace Ind
open PySem PySem.Spec PyProof.Rows L2
inductive KvOf (K : PySem.W.Frag) (H : Hp) : List Col → List (Key × V) → Prop
  | nil : KvOf K H [] []
  | cons {c : Col} {u : V} {cs : List Col} {kvs : List (Key × V)} : Dp K H u (kdD c.2) → KvOf K H cs kvs → KvOf K H (c :: cs) ((.inr c.1, u) :: kvs)
variable {K : PySem.W.Frag} {H H' : Hp}
theorem KvOf.keys {cs : List Col} {kvs : List (Key × V)} (h : KvOf K H cs kvs) : kvs.map (·.1) = cs.map (fun c => (.inr c.1 : Key)) := by
  induction h with
  | nil => rfl
  | cons _ _ ih => rw [List.map_cons, List.map_cons, ih]
theorem KvOf.kp {cs : List Col} {kvs : List (Key × V)} (k : Kp H H') (h : KvOf K H cs kvs) : KvOf K H' cs kvs := by
  induction h with
  | nil => exact .nil
  | cons d _ ih => exact .cons (Dp.kp k _ _ (tO_kd _) d) ih
theorem KvOf.get {cs : List Col} {kvs : List (Key × V)} (h : KvOf K H cs kvs) (nd : (cs.map (·.1)).Nodup) {n : S} {k : Kd} (m : (n, k) ∈ cs) : ∃ u, valV kvs (.inr n) = some u ∧ Dp K H u (kdD k) := by
  induction h with
  | nil => cases m
  | cons d r ih =>
    rename_i c u cs kvs
    rw [List.map_cons, List.nodup_cons] at nd
    rcases List.mem_cons.mp m with e | m'
    · subst e
      exact ⟨u, valV_pos rfl, d⟩
    · obtain ⟨u', e1, d1⟩ := ih nd.2 m'
      have ne : ¬ ((.inr c.1 : Key)) = .inr n := fun e => by
        injection e with e
        exact nd.1 (e ▸ List.mem_map.mpr ⟨_, m', rfl⟩)
      refine ⟨u', ?_, d1⟩
      rw [valV_neg (p := ((.inr c.1 : Key), u)) ne]
      exact e1
theorem merge_new : ∀ (more acc : List (Key × V)), ((acc ++ more).map (·.1)).Nodup → mergeK acc more = acc ++ more
  | [], acc, _ => by rw [List.append_nil]; rfl
  | p :: r, acc, nd => by
    have e0 : acc ++ p :: r = (acc ++ [p]) ++ r := by simp
    have ih := merge_new r (acc ++ [p]) (by rw [← e0]; exact nd)
    have hp : putK acc p.1 p.2 = acc ++ [p] := by
      unfold putK
      rw [if_neg]
      intro e
      rw [List.any_eq_true] at e
      obtain ⟨x, hx, ex⟩ := e
      rw [List.map_append, List.nodup_append] at nd
      exact nd.2.2 x.1 (List.mem_map.mpr ⟨x, hx, rfl⟩) p.1 (by simp) (of_decide_eq_true ex)
    show mergeK (putK acc p.1 p.2) r = _
    rw [hp, ih, e0]
def DictAt (K : PySem.W.Frag) (H : Hp) (d : Addr) (cs : List Col) : Prop := ∃ kvs, H d = some (.dK kvs) ∧ KvOf K H cs kvs
theorem DictAt.same {d : Addr} {cs : List Col} (h : DictAt K H d cs) (s : Same H H') : DictAt K H' d cs := by
  obtain ⟨kvs, h1, h2⟩ := h
  exact ⟨kvs, s _ _ h1, h2.kp (Same.kp s)⟩
end Ind
set_option Elab.async false
set_option linter.all false
set_option maxRecDepth 100000
set_option maxHeartbeats 4000000
namespace Ind
open PySem PySem.Spec PyProof.Rows L2
end Ind
set_option Elab.async false
set_option linter.all false
set_option maxRecDepth 100000
set_option maxHeartbeats 4000000
namespace Ind
open PySem PySem.Spec PyProof.Rows L2
theorem fits {n : Nat} (h : n ≤ 1000) : n ≤ sizeLine := Nat.le_trans h (by decide)
structure Lw (K : PySem.W.Frag) (H : Hp) (t : Tp) (ca na : Addr) (cs : List Col) : Prop where
  tp : TapeAt H t
  cols : ColsAt K H (.ref ca) cs
  nm : NamesAt K H (.ref na) cs
theorem Lw.kp {K : PySem.W.Frag} {H H' : Hp} {t : Tp} {ca na : Addr} {cs : List Col} (h : Lw K H t ca na cs) (k : Kp H H') (T : TapeAt H' t) : Lw K H' t ca na cs := by
  obtain ⟨a, o, e, h1, h2⟩ := h.nm
  exact ⟨T, h.cols.kp k, ⟨a, o, e, k.frz _ _ _ h1, h2⟩⟩
structure Shw (K : PySem.W.Frag) (v : V) (d : PyData) : Prop where
  dp : ∀ H, Dp K H v d
  able : d.showable = true
  nod : d.hasDict = false
  dep : d.depth ≤ 60
  len : d.shown.length ≤ sizeLine
end Ind
set_option Elab.async false
set_option linter.all false
set_option maxRecDepth 100000
set_option maxHeartbeats 4000000
namespace Va
open PySem PySem.Spec PyProof.Rows L2 Ind
abbrev Tx := PySem.Str
inductive D where
  | non
  | bl (b : Bool)
  | int (i : Int)
  | str (x : Tx)
  | tup (xs : List D)
  | ptp (xs : List D)
  | lst (xs : List D)
  | dk (kvs : List (Key × D))
  | tape
  | ty (n : String)
def FzL (_ : PySem.W.Frag) (H : Hp) (a : Addr) (xs : List V) : Prop := ∃ o, H a = some (.frz o (.lst xs))
theorem FzL.sq {K : PySem.W.Frag} {H : Hp} {a : Addr} {xs : List V} (h : FzL K H a xs) : SqL K H a xs := by
  obtain ⟨o, h⟩ := h
  exact .inl (.inr ⟨o, h⟩)
mutual
inductive Rp (K : PySem.W.Frag) (tp : Option Tp) (H : Hp) : V → D → Prop
  | non : Rp K tp H .non .non
  | bl (b : Bool) : Rp K tp H (.bl b) (.bl b)
  | int (i : Int) : Rp K tp H (.int i) (.int i)
  | str (x : Tx) : Rp K tp H (.str x) (.str x)
  | tup {a : Addr} {xs : List V} {ds : List D} : SqT K H a xs → RpL K tp H xs ds → Rp K tp H (.ref a) (.tup ds)
  | ptp {a : Addr} {o : Obj} {xs : List V} {ds : List D} : H a = some (.frz o (.tup xs)) → o.dict = none → RpL K tp H xs ds → Rp K tp H (.ref a) (.ptp ds)
  | lst {a : Addr} {xs : List V} {ds : List D} : FzL K H a xs → RpL K tp H xs ds → Rp K tp H (.ref a) (.lst ds)
  | dk {a : Addr} {o : Obj} {kv : List (Key × V)} {ds : List (Key × D)} : H a = some (.frz o (.dK kv)) → RpK K tp H kv ds → Rp K tp H (.ref a) (.dk ds)
  | tape {t : Tp} : tp = some t → Rp K tp H (.ref t.a) .tape
  | ty (n : String) : Rp K tp H (.ty n) (.ty n)
inductive RpL (K : PySem.W.Frag) (tp : Option Tp) (H : Hp) : List V → List D → Prop
  | nil : RpL K tp H [] []
  | cons {v : V} {vs : List V} {d : D} {ds : List D} : Rp K tp H v d → RpL K tp H vs ds → RpL K tp H (v :: vs) (d :: ds)
inductive RpK (K : PySem.W.Frag) (tp : Option Tp) (H : Hp) : List (Key × V) → List (Key × D) → Prop
  | nil : RpK K tp H [] []
  | cons {k : Key} {v : V} {vs : List (Key × V)} {d : D} {ds : List (Key × D)} : Rp K tp H v d → RpK K tp H vs ds → RpK K tp H ((k, v) :: vs) ((k, d) :: ds)
end
structure Kq (H H' : Hp) : Prop where
  tup : ∀ b xs, H b = some (.tup xs) → H' b = some (.tup xs)
  frz : ∀ b o u, H b = some (.frz o u) → H' b = some (.frz o u)
theorem Kq.refl (H : Hp) : Kq H H := ⟨fun _ _ h => h, fun _ _ _ h => h⟩
theorem Kq.trans {H H1 H2 : Hp} (a : Kq H H1) (b : Kq H1 H2) : Kq H H2 := ⟨fun c x h => b.tup c x (a.tup c x h), fun c o x h => b.frz c o x (a.frz c o x h)⟩
theorem Kq.same {H H' : Hp} (s : Same H H') : Kq H H' := ⟨fun c x h => s _ _ h, fun c o x h => s _ _ h⟩
theorem Kq.sqT {K : PySem.W.Frag} {H H' : Hp} {a : Addr} {xs : List V} (k : Kq H H') (h : SqT K H a xs) : SqT K H' a xs := by
  rcases h with (h | ⟨o, h⟩) | h
  · exact .inl (.inl (k.tup _ _ h))
  · exact .inl (.inr ⟨o, k.frz _ _ _ h⟩)
  · exact .inr h
theorem Kq.fzL {K : PySem.W.Frag} {H H' : Hp} {a : Addr} {xs : List V} (k : Kq H H') (h : FzL K H a xs) : FzL K H' a xs := by
  obtain ⟨o, h⟩ := h
  exact ⟨o, k.frz _ _ _ h⟩
theorem Kq.upd {H : Hp} {l : Addr} {u o : HO} (h : H l = some u) (mu : Mut (some u)) : Kq H (upd H l o) := by
  refine ⟨fun c x e => ?_, fun c q x e => ?_⟩ <;> (rw [upd_ne (ne_of e h (by intro z; subst z; exact mu))]; exact e)
theorem Kq.new {H : Hp} {l : Addr} {o : HO} (h : H l = none) : Kq H (L2.upd H l o) := Kq.same (same_upd h)
section
variable {K : PySem.W.Frag} {tp : Option Tp} {H H' : Hp}
mutual
theorem Rp.kq (k : Kq H H') : ∀ (d : D) (v : V), Rp K tp H v d → Rp K tp H' v d
  | .non, _, h => by cases h; exact .non
  | .bl _, _, h => by cases h; exact .bl _
  | .int _, _, h => by cases h; exact .int _
  | .str _, _, h => by cases h; exact .str _
  | .tup ds, _, h => by
    cases h with
    | tup hs ha => exact .tup (k.sqT hs) (RpL.kq k ds _ ha)
  | .ptp ds, _, h => by
    cases h with
    | ptp hs nd ha => exact .ptp (k.frz _ _ _ hs) nd (RpL.kq k ds _ ha)
  | .lst ds, _, h => by
    cases h with
    | lst hs ha => exact .lst (k.fzL hs) (RpL.kq k ds _ ha)
  | .dk ds, _, h => by
    cases h with
    | dk hs ha => exact .dk (k.frz _ _ _ hs) (RpK.kq k ds _ ha)
  | .tape, _, h => by
    cases h with
    | tape e => exact .tape e
  | .ty _, _, h => by cases h; exact .ty _
theorem RpL.kq (k : Kq H H') : ∀ (ds : List D) (vs : List V), RpL K tp H vs ds → RpL K tp H' vs ds
  | [], _, h => by cases h; exact .nil
  | d :: ds, _, h => by
    cases h with
    | cons h1 h2 => exact .cons (Rp.kq k d _ h1) (RpL.kq k ds _ h2)
theorem RpK.kq (k : Kq H H') : ∀ (ds : List (Key × D)) (vs : List (Key × V)), RpK K tp H vs ds → RpK K tp H' vs ds
  | [], _, h => by cases h; exact .nil
  | (x, d) :: ds, _, h => by
    cases h with
    | cons h1 h2 => exact .cons (Rp.kq k d _ h1) (RpK.kq k ds _ h2)
end
theorem RpL.len : ∀ {ds : List D} {vs : List V}, RpL K tp H vs ds → vs.length = ds.length
  | [], _, h => by cases h; rfl
  | d :: ds, _, h => by
    cases h with
    | cons _ h2 => rw [List.length_cons, List.length_cons, RpL.len h2]
theorem RpL.get : ∀ {ds : List D} {vs : List V} {i : Nat} {d : D}, RpL K tp H vs ds → ds[i]? = some d → ∃ v, vs[i]? = some v ∧ Rp K tp H v d
  | [], _, _, _, _, e => by simp at e
  | d :: ds, _, 0, _, h, e => by
    cases h with
    | cons h1 _ =>
      simp only [List.getElem?_cons_zero, Option.some.injEq] at e
      subst e
      exact ⟨_, rfl, h1⟩
  | d :: ds, _, i + 1, _, h, e => by
    cases h with
    | cons _ h2 =>
      obtain ⟨v, q, r⟩ := RpL.get h2 (show ds[i]? = some _ by simpa using e)
      exact ⟨v, by simpa using q, r⟩
theorem RpL.app : ∀ {ds es : List D} {vs ws : List V}, RpL K tp H vs ds → RpL K tp H ws es → RpL K tp H (vs ++ ws) (ds ++ es)
  | [], _, _, _, h, g => by cases h; exact g
  | d :: ds, _, _, _, h, g => by
    cases h with
    | cons h1 h2 => exact .cons h1 (RpL.app h2 g)
theorem RpL.drop : ∀ {vs : List V} {ds : List D} (k : Nat), RpL K tp H vs ds → RpL K tp H (vs.drop k) (ds.drop k)
  | _, _, 0, h => h
  | _, _, _ + 1, .nil => .nil
  | _, _, k + 1, .cons _ t => RpL.drop k t
theorem RpL.take : ∀ {vs : List V} {ds : List D} (k : Nat), RpL K tp H vs ds → RpL K tp H (vs.take k) (ds.take k)
  | _, _, 0, _ => .nil
  | _, _, _ + 1, .nil => .nil
  | _, _, k + 1, .cons h t => .cons h (RpL.take k t)
theorem RpL.set {v : V} {d : D} (r : Rp K tp H v d) : ∀ {vs : List V} {ds : List D} (k : Nat), RpL K tp H vs ds → RpL K tp H (vs.set k v) (ds.set k d)
  | _, _, _, .nil => .nil
  | _, _, 0, .cons _ t => .cons r t
  | _, _, k + 1, .cons h t => .cons h (RpL.set r k t)
theorem Rp.tup_inv {v : V} {ds : List D} (h : Rp K tp H v (.tup ds)) : ∃ a xs, v = .ref a ∧ SqT K H a xs ∧ RpL K tp H xs ds := by
  cases h with
  | tup hs ha => exact ⟨_, _, rfl, hs, ha⟩
theorem Rp.ptp_inv {v : V} {ds : List D} (h : Rp K tp H v (.ptp ds)) : ∃ a o xs, v = .ref a ∧ H a = some (.frz o (.tup xs)) ∧ o.dict = none ∧ RpL K tp H xs ds := by
  cases h with
  | ptp hs nd ha => exact ⟨_, _, _, rfl, hs, nd, ha⟩
def D.un : D → D
  | .ptp ds => .tup ds
  | d => d
theorem Rp.un {v : V} {d : D} (h : Rp K tp H v d) : Rp K tp H v d.un := by
  cases h with
  | ptp hs nd ha => exact .tup (.inl (.inr ⟨_, hs⟩)) ha
  | non => exact .non
  | bl b => exact .bl b
  | int i => exact .int i
  | str x => exact .str x
  | tup hs ha => exact .tup hs ha
  | lst hs ha => exact .lst hs ha
  | dk hs ha => exact .dk hs ha
  | tape e => exact .tape e
  | ty n => exact .ty n
theorem Rp.lst_inv {v : V} {ds : List D} (h : Rp K tp H v (.lst ds)) : ∃ a xs, v = .ref a ∧ FzL K H a xs ∧ RpL K tp H xs ds := by
  cases h with
  | lst hs ha => exact ⟨_, _, rfl, hs, ha⟩
theorem Rp.dk_inv {v : V} {ds : List (Key × D)} (h : Rp K tp H v (.dk ds)) : ∃ a o kv, v = .ref a ∧ H a = some (.frz o (.dK kv)) ∧ RpK K tp H kv ds := by
  cases h with
  | dk hs ha => exact ⟨_, _, _, rfl, hs, ha⟩
theorem Rp.int_inv {v : V} {i : Int} (h : Rp K tp H v (.int i)) : v = .int i := by cases h; rfl
theorem Rp.str_inv {v : V} {x : Tx} (h : Rp K tp H v (.str x)) : v = .str x := by cases h; rfl
theorem Rp.bl_inv {v : V} {b : Bool} (h : Rp K tp H v (.bl b)) : v = .bl b := by cases h; rfl
theorem Rp.tape_inv {v : V} (h : Rp K tp H v .tape) : ∃ t, tp = some t ∧ v = .ref t.a := by
  cases h with
  | tape e => exact ⟨_, e, rfl⟩
theorem RpK.val : ∀ {ds : List (Key × D)} {vs : List (Key × V)} {k : Key}, RpK K tp H vs ds → match (ds.find? fun p => decide (p.1 = k)) with
    | some p => ∃ v, valV vs k = some v ∧ Rp K tp H v p.2
    | none => valV vs k = none
  | [], _, _, h => by cases h; rfl
  | (x, d) :: ds, _, k, h => by
    cases h with
    | @cons _ v vs _ _ h1 h2 =>
      by_cases e : x = k
      · rw [List.find?_cons_of_pos (by simp [e])]
        exact ⟨v, valV_pos e, h1⟩
      · rw [List.find?_cons_of_neg (by simp [e])]
        have ih := RpK.val (k := k) h2
        rw [valV_neg (p := (x, v)) (show ¬ (x, v).1 = k from e)]
        exact ih
theorem RpK.keys : ∀ {ds : List (Key × D)} {vs : List (Key × V)}, RpK K tp H vs ds → vs.map (·.1) = ds.map (·.1)
  | [], _, h => by cases h; rfl
  | (x, d) :: ds, _, h => by
    cases h with
    | cons h1 h2 => simp [RpK.keys h2]
theorem RpK.app : ∀ {ds es : List (Key × D)} {vs ws : List (Key × V)}, RpK K tp H vs ds → RpK K tp H ws es → RpK K tp H (vs ++ ws) (ds ++ es)
  | [], _, _, _, h, g => by cases h; exact g
  | (x, d) :: ds, _, _, _, h, g => by
    cases h with
    | cons h1 h2 => exact .cons h1 (RpK.app h2 g)
end
structure Stb where
  P : PySem.W.Frag → Option Tp → Hp → V → Prop
  st : ∀ (K : PySem.W.Frag) (tp : Option Tp) (H H' : Hp) (v : V), Kq H H' → P K tp H v → P K tp H' v
inductive SV where
  | no
  | v (d : D)
  | ol (ds : List D)
  | od (io : Bool) (kvs : List (Key × D))
  | ex (a : Addr) (pl : Option (Addr × Tx × D))
  | q (b : Stb)
structure En where
  l : List SV
  c : Nat
def En.set (E : En) (i : Nat) (s : SV) : En := ⟨E.l.set i s, E.c⟩
def Few (tp : Option Tp) (c : Nat) (H : Hp) : Prop := ∀ t xs, tp = some t → H t.l = some (.lst xs) → xs.length + c ≤ 1000000
def SV.own : SV → Bool
  | .ol _ => true
  | .od _ _ => true
  | _ => false
def TapeV (b : Bool) (H : Hp) (t : Tp) : Prop := ∃ (ns : List Int) (p n s : Int), H t.a = some (.lst [.ref t.l, .int p, .int n, .int s]) ∧ H t.l = some (.lst (ns.map V.int)) ∧ (b = true → p ≤ (ns.length : Int)) ∧ 0 ≤ p ∧ 0 ≤ n ∧ 0 ≤ s ∧ s < 2147483647
theorem TapeV.same {b : Bool} {H H' : Hp} {t : Tp} (h : TapeV b H t) (e : Same H H') : TapeV b H' t := by
  obtain ⟨ns, p, n, s, h1, h2, h3⟩ := h
  exact ⟨ns, p, n, s, e _ _ h1, e _ _ h2, h3⟩
theorem TapeV.upd {b : Bool} {H : Hp} {t : Tp} {p : Addr} {o : HO} (h : TapeV b H t) (e : Off t p) : TapeV b (L2.upd H p o) t := by
  obtain ⟨ns, q, n, s, h1, h2, h3⟩ := h
  exact ⟨ns, q, n, s, by rw [upd_ne e.a.symm]; exact h1, by rw [upd_ne e.l.symm]; exact h2, h3⟩
structure Gm where
  K : PySem.W.Frag
  b : Bool
  tp : Option Tp
  tabs : List Addr
  io : List Addr
  H0 : Hp
def Gm.sp (Γ : Gm) (b : Addr) : Prop := (∃ t, Γ.tp = some t ∧ (b = t.a ∨ b = t.l)) ∨ b ∈ Γ.tabs
structure Base (Γ : Gm) (H : Hp) : Prop where
  ext : ∀ b o, ¬ Γ.sp b → b ∉ Γ.io → Γ.H0 b = some o → H b = some o
  kq : Kq Γ.H0 H
  tape : ∀ t, Γ.tp = some t → TapeV Γ.b H t
  tabs : ∀ P ∈ Γ.tabs, GxR.TabG H P
structure Free (Γ : Gm) (a : Addr) : Prop where
  young : Γ.H0 a = none ∨ a ∈ Γ.io
  nsp : ¬ Γ.sp a
abbrev Gm.Rp (Γ : Gm) (H : Hp) (v : V) (d : D) : Prop := Va.Rp Γ.K Γ.tp H v d
abbrev Gm.RpL (Γ : Gm) (H : Hp) (v : List V) (d : List D) : Prop := Va.RpL Γ.K Γ.tp H v d
def RepS (Γ : Gm) (H : Hp) (o : Option V) : SV → Prop
  | .no => True
  | .v d => ∃ v, o = some v ∧ Γ.Rp H v d
  | .ol ds => ∃ a xs, o = some (.ref a) ∧ H a = some (.lst xs) ∧ Γ.RpL H xs ds ∧ Free Γ a
  | .od b kvs => ∃ a kv, o = some (.ref a) ∧ H a = some (.dK kv) ∧ RpK Γ.K Γ.tp H kv kvs ∧ Free Γ a ∧ (b = true → a ∈ Γ.io)
  | .ex a pl => o = some (.ref a) ∧ ∀ p, pl = some p → ∃ ob v, H p.1 = some (.frz ob (.xd [(p.2.1, v)])) ∧ Γ.Rp H v p.2.2
  | .q b => ∃ v, o = some v ∧ b.P Γ.K Γ.tp H v
structure Rep (Γ : Gm) (E : En) (σ : L2.St) (H : Hp) : Prop where
  base : Base Γ H
  len : E.l.length = σ.length
  few : Few Γ.tp E.c H
  sl : ∀ (i : Nat) (s : SV), E.l[i]? = some s → ∃ o, σ[i]? = some o ∧ RepS Γ H o s
  dis : ∀ (i j : Nat) (s t : SV) (a : Addr), E.l[i]? = some s → E.l[j]? = some t → s.own = true → t.own = true → σ[i]? = some (some (.ref a)) → σ[j]? = some (some (.ref a)) → i = j
def Lone (E : En) (σ : L2.St) (a : Addr) : Prop := ∀ (j : Nat) (s : SV), E.l[j]? = some s → s.own = true → σ[j]? ≠ some (some (.ref a))
section
variable {Γ : Gm} {E : En} {σ : L2.St} {H H' : Hp}
theorem RepS.own_at {o : Option V} {s : SV} (h : RepS Γ H o s) (e : s.own = true) : ∃ a u, o = some (.ref a) ∧ H a = some u ∧ Mut (some u) ∧ Free Γ a := by
  cases s with
  | no => cases e
  | v d => cases e
  | ol ds =>
    obtain ⟨a, xs, h1, h2, _, h3⟩ := h
    exact ⟨a, _, h1, h2, trivial, h3⟩
  | od b ds =>
    obtain ⟨a, xs, h1, h2, _, h3, _⟩ := h
    exact ⟨a, _, h1, h2, trivial, h3⟩
  | ex a pl => cases e
  | q b => cases e
theorem RepS.stay {o : Option V} {s : SV} (h : RepS Γ H o s) (k : Kq H H') (ow : ∀ a u, s.own = true → o = some (.ref a) → H a = some u → H' a = some u) : RepS Γ H' o s := by
  cases s with
  | no => trivial
  | v d =>
    obtain ⟨v, h1, h2⟩ := h
    exact ⟨v, h1, Rp.kq k _ _ h2⟩
  | ol ds =>
    obtain ⟨a, xs, h1, h2, h3, h4⟩ := h
    exact ⟨a, xs, h1, ow a _ rfl h1 h2, RpL.kq k _ _ h3, h4⟩
  | od b ds =>
    obtain ⟨a, xs, h1, h2, h3, h4⟩ := h
    exact ⟨a, xs, h1, ow a _ rfl h1 h2, RpK.kq k _ _ h3, h4⟩
  | ex a pl =>
    obtain ⟨h1, h2⟩ := h
    exact ⟨h1, fun p hp => by
      obtain ⟨ob, v, h3, h4⟩ := h2 p hp
      exact ⟨ob, v, k.frz _ _ _ h3, Rp.kq k _ _ h4⟩⟩
  | q b =>
    obtain ⟨v, h1, h2⟩ := h
    exact ⟨v, h1, b.st _ _ _ _ _ k h2⟩
theorem Base.same (b : Base Γ H) (s : Same H H') : Base Γ H' :=
  ⟨fun c o n1 n2 h => s _ _ (b.ext c o n1 n2 h), b.kq.trans (.same s), fun t e => (b.tape t e).same s, fun P hP => by
    obtain ⟨ps, h, k⟩ := b.tabs P hP
    exact ⟨ps, s _ _ h, k⟩⟩
theorem few_same {b : Bool} {tp : Option Tp} {c : Nat} (f : Few tp c H) (tape : ∀ t, tp = some t → TapeV b H t) (s : ∀ t, tp = some t → ∀ o, H t.l = some o → H' t.l = some o) : Few tp c H' := fun t xs e h => by
  obtain ⟨ns, p, n, z, h1, h2, _⟩ := tape t e
  have := s t e _ h2
  rw [h] at this
  cases this
  exact f t _ e h2
theorem Rep.same (r : Rep Γ E σ H) (s : Same H H') : Rep Γ E σ H' :=
  ⟨r.base.same s, r.len, few_same r.few r.base.tape fun t _ o h => s _ _ h, fun i x e => by
    obtain ⟨o, h1, h2⟩ := r.sl i x e
    exact ⟨o, h1, h2.stay (.same s) fun a u _ _ h => s _ _ h⟩, r.dis⟩
structure Ext (Γ : Gm) (c : Nat) (H H' : Hp) : Prop where
  ext : ∀ b o, ¬ Γ.sp b → H b = some o → H' b = some o
  tape : ∀ t, Γ.tp = some t → TapeV Γ.b H' t
  few : Few Γ.tp c H'
  tabs : ∀ P ∈ Γ.tabs, GxR.TabG H' P
theorem Base.sp_lst (b : Base Γ H) {a : Addr} (h : Γ.sp a) : (∃ xs, H a = some (.lst xs)) ∨ ∃ ps, H a = some (.tbl ps) := by
  rcases h with ⟨t, e, h⟩ | h
  · obtain ⟨ns, p, n, s, h1, h2, _⟩ := b.tape t e
    rcases h with rfl | rfl
    · exact .inl ⟨_, h1⟩
    · exact .inl ⟨_, h2⟩
  · obtain ⟨ps, h1, _⟩ := b.tabs a h
    exact .inr ⟨ps, h1⟩
theorem Ext.kq {c : Nat} (b : Base Γ H) (x : Ext Γ c H H') : Kq H H' := by
  refine ⟨fun c u h => x.ext _ _ ?_ h, fun c o u h => x.ext _ _ ?_ h⟩ <;>
  · intro z
    rcases b.sp_lst z with ⟨_, e⟩ | ⟨_, e⟩ <;> (rw [e] at h; cases h)
theorem Rep.call {c : Nat} (r : Rep Γ E σ H) (x : Ext Γ c H H') : Rep Γ ⟨E.l, c⟩ σ H' := by
  have k := x.kq r.base
  refine ⟨⟨fun c o n1 n2 h => x.ext _ _ n1 (r.base.ext c o n1 n2 h), r.base.kq.trans k, x.tape, x.tabs⟩, r.len, x.few, fun i s e => ?_, r.dis⟩
  obtain ⟨o, h1, h2⟩ := r.sl i s e
  refine ⟨o, h1, h2.stay k fun a u ow eo h => ?_⟩
  obtain ⟨b, _, e1, _, _, fr⟩ := h2.own_at ow
  rw [e1] at eo
  cases eo
  exact x.ext _ _ fr.nsp h
theorem Rep.fresh (r : Rep Γ E σ H) {p : Addr} (n : H p = none) : Free Γ p ∧ Lone E σ p := by
  refine ⟨⟨?_, fun z => ?_⟩, fun j s e ow eo => ?_⟩
  · cases h : Γ.H0 p with
    | none => exact .inl rfl
    | some o =>
      by_cases hio : p ∈ Γ.io
      · exact .inr hio
      · refine absurd (r.base.ext p o (fun z => ?_) hio h) (by rw [n]; intro z; cases z)
        rcases r.base.sp_lst z with ⟨_, e⟩ | ⟨_, e⟩ <;> (rw [n] at e; cases e)
  · rcases r.base.sp_lst z with ⟨_, e⟩ | ⟨_, e⟩ <;> (rw [n] at e; cases e)
  · obtain ⟨o, h1, h2⟩ := r.sl j s e
    obtain ⟨b, u, e1, e2, _⟩ := h2.own_at ow
    rw [h1, e1] at eo
    cases eo
    rw [n] at e2
    cases e2
theorem get_set {α : Type} {l : List α} {i j : Nat} {x y : α} (h : (l.set i x)[j]? = some y) : (i = j ∧ x = y ∧ i < l.length) ∨ (i ≠ j ∧ l[j]? = some y) := by
  by_cases e : i = j
  · subst e
    by_cases hi : i < l.length
    · rw [List.getElem?_set_self hi] at h
      cases h
      exact .inl ⟨rfl, rfl, hi⟩
    · rw [List.getElem?_eq_none (by simpa using hi)] at h
      cases h
  · rw [List.getElem?_set_ne e] at h
    exact .inr ⟨e, h⟩
theorem Rep.set (r : Rep Γ E σ H) (i : Nat) {v : V} {d : D} (h : Γ.Rp H v d) : Rep Γ (E.set i (.v d)) (σ.set i (some v)) H := by
  refine ⟨r.base, by simp [En.set, r.len], r.few, fun j s e => ?_, fun j k s t a e1 e2 o1 o2 h1 h2 => ?_⟩
  · rcases get_set e with ⟨rfl, rfl, hi⟩ | ⟨ne, e⟩
    · exact ⟨some v, List.getElem?_set_self (by rw [← r.len]; exact hi), v, rfl, h⟩
    · rw [List.getElem?_set_ne ne]
      exact r.sl j s e
  · rcases get_set e1 with ⟨_, rfl, _⟩ | ⟨n1, e1⟩
    · cases o1
    · rcases get_set e2 with ⟨_, rfl, _⟩ | ⟨n2, e2⟩
      · cases o2
      · rw [List.getElem?_set_ne n1] at h1
        rw [List.getElem?_set_ne n2] at h2
        exact r.dis j k s t a e1 e2 o1 o2 h1 h2
theorem Rep.setO (r : Rep Γ E σ H) (i : Nat) {p : Addr} {s : SV} (h : RepS Γ H (some (.ref p)) s) (lo : Lone E σ p) : Rep Γ (E.set i s) (σ.set i (some (.ref p))) H := by
  refine ⟨r.base, by simp [En.set, r.len], r.few, fun j s' e => ?_, fun j k s' t a e1 e2 o1 o2 h1 h2 => ?_⟩
  · rcases get_set e with ⟨rfl, rfl, hi⟩ | ⟨ne, e⟩
    · exact ⟨_, List.getElem?_set_self (by rw [← r.len]; exact hi), h⟩
    · rw [List.getElem?_set_ne ne]
      exact r.sl j s' e
  · rcases get_set e1 with ⟨rfl, rfl, hi⟩ | ⟨n1, e1⟩
    · rcases get_set e2 with ⟨rfl, _, _⟩ | ⟨n2, e2⟩
      · rfl
      · rw [List.getElem?_set_self (by rw [← r.len]; exact hi)] at h1
        rw [List.getElem?_set_ne n2] at h2
        cases h1
        exact absurd h2 (lo k t e2 o2)
    · rcases get_set e2 with ⟨rfl, rfl, hi⟩ | ⟨n2, e2⟩
      · rw [List.getElem?_set_self (by rw [← r.len]; exact hi)] at h2
        rw [List.getElem?_set_ne n1] at h1
        cases h2
        exact absurd h1 (lo j s' e1 o1)
      · rw [List.getElem?_set_ne n1] at h1
        rw [List.getElem?_set_ne n2] at h2
        exact r.dis j k s' t a e1 e2 o1 o2 h1 h2
theorem Rep.wr (r : Rep Γ E σ H) {i : Nat} {s s' : SV} {p : Addr} {u u' : HO} (e : E.l[i]? = some s) (ow : s.own = true) (eo : σ[i]? = some (some (.ref p))) (hp : H p = some u) (mu : Mut (some u))
    (h : RepS Γ (upd H p u') (some (.ref p)) s') : Rep Γ (E.set i s') σ (upd H p u') := by
  obtain ⟨o, h1, h2⟩ := r.sl i s e
  obtain ⟨b, u0, e1, e2, m0, fr⟩ := h2.own_at ow
  rw [h1] at eo
  cases eo
  cases e1
  rw [hp] at e2
  cases e2
  have hi := (List.getElem?_eq_some_iff.mp e).1
  have nsp : ∀ c, Γ.sp c → c ≠ p := fun c z q => fr.nsp (q ▸ z)
  refine ⟨⟨fun c o n1 n2 hc => ?_, r.base.kq.trans (Kq.upd hp mu), fun t et => ?_, fun P hP => ?_⟩, by simp [En.set, r.len], few_same r.few r.base.tape (fun t et o h => by rw [upd_ne (nsp t.l (.inl ⟨t, et, .inr rfl⟩))]; exact h), fun j s2 ej => ?_, fun j k s2 t a e1 e2 o1 o2 h3 h4 => ?_⟩
  · rw [upd_ne ?_]
    · exact r.base.ext c o n1 n2 hc
    · rintro rfl
      rcases fr.young with z | z
      · rw [z] at hc; cases hc
      · exact n2 z
  · have := r.base.tape t et
    refine this.upd ⟨?_, ?_⟩
    · exact fun q => nsp t.a (.inl ⟨t, et, .inl rfl⟩) q.symm
    · exact fun q => nsp t.l (.inl ⟨t, et, .inr rfl⟩) q.symm
  · obtain ⟨ps, h3, k⟩ := r.base.tabs P hP
    exact ⟨ps, by rw [upd_ne (nsp P (.inr hP))]; exact h3, k⟩
  · rcases get_set ej with ⟨rfl, rfl, _⟩ | ⟨ne, ej⟩
    · exact ⟨_, h1, h⟩
    · obtain ⟨o3, h3, h4⟩ := r.sl j s2 ej
      refine ⟨o3, h3, h4.stay (Kq.upd hp mu) fun a w ow2 eo2 ha => ?_⟩
      rw [upd_ne ?_]
      · exact ha
      · rintro rfl
        rw [eo2] at h3
        exact ne (r.dis i j s s2 _ e ej ow ow2 h1 h3)
  · have own : ∀ (j : Nat) (s3 : SV), (E.set i s').l[j]? = some s3 → s3.own = true → ∃ s4, E.l[j]? = some s4 ∧ s4.own = true := fun j s3 e3 o3 => by
      rcases get_set e3 with ⟨rfl, rfl, _⟩ | ⟨ne, e3⟩
      · exact ⟨s, e, ow⟩
      · exact ⟨s3, e3, o3⟩
    obtain ⟨s5, e5, o5⟩ := own j s2 e1 o1
    obtain ⟨s6, e6, o6⟩ := own k t e2 o2
    exact r.dis j k s5 s6 a e5 e6 o5 o6 h3 h4
end
end Va
set_option Elab.async false
set_option linter.all false
set_option maxRecDepth 100000
set_option maxHeartbeats 4000000
namespace Va
open PySem PySem.Spec PyProof.Rows L2 Ind
structure Sg where
  K : PySem.W.Frag
  b : Bool
  tabs : List Addr
structure Gm.Ok (Γ : Gm) (S : Sg) : Prop where
  k : Γ.K = S.K
  b : Γ.b = S.b
  t : Γ.tabs = S.tabs
inductive RV where
  | v (d : D)
  | fl (ds : List D)
  | fd (kvs : List (Key × D))
def RV.d : RV → D
  | .v d => d
  | .fl ds => .lst ds
  | .fd kvs => .dk kvs
def RV.sv : RV → SV
  | .v d => .v d
  | .fl ds => .ol ds
  | .fd kvs => .od false kvs
def RepR (Γ : Gm) (E : En) (σ : L2.St) (H : Hp) (v : V) : RV → Prop
  | .v d => Γ.Rp H v d
  | .fl ds => ∃ a, v = .ref a ∧ RepS Γ H (some (.ref a)) (.ol ds) ∧ Lone E σ a
  | .fd kvs => ∃ a, v = .ref a ∧ RepS Γ H (some (.ref a)) (.od false kvs) ∧ Lone E σ a
abbrev VT := En → (D → En → Prop) → Prop
abbrev FT := En → (RV → En → Prop) → Prop
abbrev VTT := En → (Bool → En → Prop) → Prop
abbrev VTA := En → (List D → En → Prop) → Prop
inductive RpW (Γ : Gm) (H : Hp) : V → D → Prop
  | v {v : V} {d : D} : Γ.Rp H v d → RpW Γ H v d
  | l {a : Addr} {xs : List V} {ds : List D} : H a = some (.lst xs) → Γ.RpL H xs ds → RpW Γ H (.ref a) (.lst ds)
  | k {a : Addr} {kv : List (Key × V)} {ds : List (Key × D)} : H a = some (.dK kv) → RpK Γ.K Γ.tp H kv ds → RpW Γ H (.ref a) (.dk ds)
def liftV (S : Sg) (t : VT) : TE := fun σ H Q => ∃ (Γ : Gm) (E : En) (Q0 : D → En → Prop), Γ.Ok S ∧ Rep Γ E σ H ∧ t E Q0 ∧ ∀ d E', Q0 d E' → ∀ v H', Kq H H' → Rep Γ E' σ H' → Γ.Rp H' v d → Q v H'
def liftB (S : Sg) (t : VT) : TE := fun σ H Q => ∃ (Γ : Gm) (E : En) (Q0 : D → En → Prop), Γ.Ok S ∧ Rep Γ E σ H ∧ t E Q0 ∧ ∀ d E', Q0 d E' → ∀ v H', Kq H H' → Rep Γ E' σ H' → RpW Γ H' v d → Q v H'
def liftF (S : Sg) (t : FT) : TE := fun σ H Q => ∃ (Γ : Gm) (E : En) (Q0 : RV → En → Prop), Γ.Ok S ∧ Rep Γ E σ H ∧ t E Q0 ∧ ∀ r E', Q0 r E' → ∀ v H', Kq H H' → Rep Γ E' σ H' → RepR Γ E' σ H' v r → Q v H'
def liftT (S : Sg) (t : VTT) : TT := fun σ H Q => ∃ (Γ : Gm) (E : En) (Q0 : Bool → En → Prop), Γ.Ok S ∧ Rep Γ E σ H ∧ t E Q0 ∧ ∀ b E', Q0 b E' → ∀ H', Kq H H' → Rep Γ E' σ H' → Q b H'
def liftA (S : Sg) (t : VTA) : TA := fun σ H Q => ∃ (Γ : Gm) (E : En) (Q0 : List D → En → Prop), Γ.Ok S ∧ Rep Γ E σ H ∧ t E Q0 ∧ ∀ ds E', Q0 ds E' → ∀ vs H', Kq H H' → Rep Γ E' σ H' → Γ.RpL H' vs ds → Q vs H'
abbrev VE (S : Sg) (X : Cx) (e : Expr) (t : VT) : Prop := PE X e (liftV S t)
abbrev BE (S : Sg) (X : Cx) (e : Expr) (t : VT) : Prop := PE X e (liftB S t)
abbrev FE (S : Sg) (X : Cx) (e : Expr) (t : FT) : Prop := PE X e (liftF S t)
abbrev VB (S : Sg) (X : Cx) (e : Expr) (t : VTT) : Prop := PT X e (liftT S t)
abbrev VA (S : Sg) (X : Cx) (es : List Expr) (t : VTA) : Prop := PA X es (liftA S t)
section
variable {X : Cx} {S : Sg} {e a b : Expr}
theorem pe_weak {t t' : TE} (h : PE X e t) (w : ∀ σ H Q, t' σ H Q → t σ H Q) : PE X e t' := ⟨fun pins s σ H Q I q => h.run pins s σ H Q I (w _ _ _ q)⟩
theorem pt_weak {t t' : TT} (h : PT X e t) (w : ∀ σ H Q, t' σ H Q → t σ H Q) : PT X e t' := ⟨fun pins s σ H Q I q => h.run pins s σ H Q I (w _ _ _ q)⟩
theorem pa_weak {es : List Expr} {t t' : TA} (h : PA X es t) (w : ∀ σ H Q, t' σ H Q → t σ H Q) : PA X es t' := ⟨fun pos pins s σ H Q I q => h.run pos pins s σ H Q I (w _ _ _ q)⟩
theorem ps_weak {st : Stmt} {t t' : TS} (h : PS X st t) (w : ∀ D σ H, t' D σ H → t D σ H) : PS X st t' := ⟨fun pins s σ H D I q => h.run pins s σ H D I (w _ _ _ q)⟩
theorem pss_weak {st : List Stmt} {t t' : TS} (h : PSs X st t) (w : ∀ D σ H, t' D σ H → t D σ H) : PSs X st t' := ⟨fun pins s σ H D I q => h.run pins s σ H D I (w _ _ _ q)⟩
theorem pe_frz {t : TE} (h : PE X e t) : PE X e (fun σ H Q => t σ H fun v H' => Q v H' ∨ ∃ a u, v = .ref a ∧ H' a = some u ∧ Mut (some u) ∧ ∀ o, Q v (upd H' a (.frz o u))) := by
  refine ⟨fun pins s σ H Q I q => ?_⟩
  refine thn (h.run pins s σ H _ I q) fun v s1 ⟨x, H1, I1, r1, q1⟩ => ?_
  rcases q1 with q1 | ⟨a, u, rfl, hu, mu, q1⟩
  · exact ⟨x, H1, I1, r1, q1⟩
  · obtain ⟨o, I2⟩ := I1.lock hu mu
    exact ⟨_, _, I2, r1, q1 o⟩
end
section
variable {Γ : Gm} {E : En} {σ : L2.St} {H H' : Hp}
theorem Rep.lone (r : Rep Γ E σ H) {p : Addr} {u u' : HO} (hp : H p = some u) (mu : Mut (some u)) (fr : Free Γ p) (lo : Lone E σ p) : Rep Γ E σ (upd H p u') := by
  have nsp : ∀ c, Γ.sp c → c ≠ p := fun c z q => fr.nsp (q ▸ z)
  refine ⟨⟨fun c o n1 n2 hc => ?_, r.base.kq.trans (Kq.upd hp mu), fun t et => ?_, fun P hP => ?_⟩, r.len, few_same r.few r.base.tape (fun t et o h => by rw [upd_ne (nsp t.l (.inl ⟨t, et, .inr rfl⟩))]; exact h), fun j s2 ej => ?_, r.dis⟩
  · rw [upd_ne ?_]
    · exact r.base.ext c o n1 n2 hc
    · rintro rfl
      rcases fr.young with z | z
      · rw [z] at hc; cases hc
      · exact n2 z
  · exact (r.base.tape t et).upd ⟨fun q => nsp t.a (.inl ⟨t, et, .inl rfl⟩) q.symm, fun q => nsp t.l (.inl ⟨t, et, .inr rfl⟩) q.symm⟩
  · obtain ⟨ps, h3, k⟩ := r.base.tabs P hP
    exact ⟨ps, by rw [upd_ne (nsp P (.inr hP))]; exact h3, k⟩
  · obtain ⟨o3, h3, h4⟩ := r.sl j s2 ej
    refine ⟨o3, h3, h4.stay (Kq.upd hp mu) fun a w ow2 eo2 ha => ?_⟩
    rw [upd_ne ?_]
    · exact ha
    · rintro rfl
      rw [eo2] at h3
      exact lo j s2 ej ow2 h3
def SV.fz : SV → SV
  | .ol ds => .v (.lst ds)
  | .od _ kvs => .v (.dk kvs)
  | s => s
theorem Rep.lock (r : Rep Γ E σ H) {i : Nat} {s : SV} {p : Addr} {u : HO} {o : Obj} (e : E.l[i]? = some s) (ow : s.own = true) (eo : σ[i]? = some (some (.ref p))) (hp : H p = some u) (mu : Mut (some u)) :
    Rep Γ (E.set i s.fz) σ (upd H p (.frz o u)) ∧ ∃ d, s.fz = .v d ∧ Γ.Rp (upd H p (.frz o u)) (.ref p) d := by
  obtain ⟨o1, h1, h2⟩ := r.sl i s e
  rw [eo] at h1
  cases h1
  have kq : Kq H (upd H p (.frz o u)) := Kq.upd hp mu
  have key : ∃ d, s.fz = .v d ∧ Γ.Rp (upd H p (.frz o u)) (.ref p) d := by
    cases s with
    | no => cases ow
    | v d => cases ow
    | ol ds =>
      obtain ⟨a, xs, h3, h4, h5, h6⟩ := h2
      cases h3
      rw [hp] at h4
      cases h4
      exact ⟨_, rfl, .lst ⟨o, upd_same⟩ (RpL.kq kq _ _ h5)⟩
    | od b ds =>
      obtain ⟨a, xs, h3, h4, h5, h6⟩ := h2
      cases h3
      rw [hp] at h4
      cases h4
      exact ⟨_, rfl, .dk (o := o) upd_same (RpK.kq kq _ _ h5)⟩
    | ex b pl => cases ow
    | q b => cases ow
  refine ⟨r.wr e ow eo hp mu ?_, key⟩
  obtain ⟨d, e1, e2⟩ := key
  rw [e1]
  exact ⟨_, rfl, e2⟩
theorem RepR.lock {v : V} {x : RV} (r : Rep Γ E σ H) (h : RepR Γ E σ H v x) : (Γ.Rp H v x.d) ∨ ∃ a u, v = .ref a ∧ H a = some u ∧ Mut (some u) ∧ ∀ o, Rep Γ E σ (upd H a (.frz o u)) ∧ Kq H (upd H a (.frz o u)) ∧ Γ.Rp (upd H a (.frz o u)) v x.d := by
  cases x with
  | v d => exact .inl h
  | fl ds =>
    obtain ⟨a, rfl, ⟨a', xs, h3, h4, h5, h6⟩, lo⟩ := h
    cases h3
    have kq : ∀ o, Kq H (upd H a (.frz o (.lst xs))) := fun o => Kq.upd h4 trivial
    exact .inr ⟨a, _, rfl, h4, trivial, fun o => ⟨r.lone h4 trivial h6 lo, kq o, .lst ⟨o, upd_same⟩ (RpL.kq (kq o) _ _ h5)⟩⟩
  | fd ds =>
    obtain ⟨a, rfl, ⟨a', xs, h3, h4, h5, h6, _⟩, lo⟩ := h
    cases h3
    have kq : ∀ o, Kq H (upd H a (.frz o (.dK xs))) := fun o => Kq.upd h4 trivial
    exact .inr ⟨a, _, rfl, h4, trivial, fun o => ⟨r.lone h4 trivial h6 lo, kq o, .dk (o := o) upd_same (RpK.kq (kq o) _ _ h5)⟩⟩
theorem RepS.rpW {o : Option V} {s : SV} {d : D} (h : RepS Γ H o s) (e : s = .v d ∨ (s.own = true ∧ s.fz = .v d)) : ∃ v, o = some v ∧ RpW Γ H v d := by
  rcases e with rfl | ⟨ow, e⟩
  · obtain ⟨v, rfl, h⟩ := h
    exact ⟨v, rfl, .v h⟩
  · cases s with
    | no => cases ow
    | v d => cases ow
    | ol ds =>
      cases e
      obtain ⟨a, xs, rfl, h4, h5, h6⟩ := h
      exact ⟨_, rfl, .l h4 h5⟩
    | od b ds =>
      cases e
      obtain ⟨a, xs, rfl, h4, h5, h6⟩ := h
      exact ⟨_, rfl, .k h4 h5⟩
    | ex b pl => cases ow
    | q b => cases ow
end
section
variable {X : Cx} {S : Sg} {e a b : Expr}
def pkD : SV → Option D
  | .no => none
  | .v d => some d
  | .ol ds => some (.lst ds)
  | .od _ kvs => some (.dk kvs)
  | .ex _ _ => none
  | .q _ => none
def peek (E : En) (i : Nat) : Option D := (E.l[i]?).bind pkD
def withD (o : Option D) (Q : D → Prop) : Prop := match o with
  | some d => Q d
  | none => False
def withP (o : Option D) (Q : D → Prop) : Prop := match o with
  | some d => Q d
  | none => False
def vName (i : Nat) : VT := fun E Q => match E.l[i]? with
  | some (.v d) => Q d E
  | some (.ol ds) => Q (.lst ds) (E.set i (.v (.lst ds)))
  | some (.od _ kvs) => Q (.dk kvs) (E.set i (.v (.dk kvs)))
  | _ => False
def bName (i : Nat) : VT := fun E Q => withP (peek E i) fun d => Q d E
theorem peek_at {Γ : Gm} {E : En} {σ : L2.St} {H : Hp} {i : Nat} {d : D} (r : Rep Γ E σ H) (e : peek E i = some d) : ∃ v, σ[i]? = some (some v) ∧ RpW Γ H v d := by
  unfold peek at e
  cases h : E.l[i]? with
  | none => rw [h] at e; cases e
  | some s =>
    rw [h] at e
    obtain ⟨o, h1, h2⟩ := r.sl i s h
    obtain ⟨v, rfl, w⟩ := h2.rpW (d := d) (by
      cases s with
      | no => cases e
      | v d => cases e; exact .inl rfl
      | ol ds => cases e; exact .inr ⟨rfl, rfl⟩
      | od b ds => cases e; exact .inr ⟨rfl, rfl⟩
      | ex b pl => cases e
      | q b => cases e)
    exact ⟨v, h1, w⟩
theorem be_name {i : Nat} (h : PE X e (tVar i)) : BE S X e (bName i) := by
  refine pe_weak h ?_
  rintro σ H Q ⟨Γ, E, Q0, ok, r, ht, k⟩
  unfold bName withP at ht
  cases hp : peek E i with
  | none => rw [hp] at ht; exact ht.elim
  | some d =>
    rw [hp] at ht
    obtain ⟨v, h1, w⟩ := peek_at r hp
    exact ⟨v, h1, k d E ht v H (Kq.refl _) r w⟩
theorem ve_name {i : Nat} (h : PE X e (tVar i)) : VE S X e (vName i) := by
  refine pe_weak (pe_frz h) ?_
  rintro σ H Q ⟨Γ, E, Q0, ok, r, ht, k⟩
  unfold vName at ht
  cases hE : E.l[i]? with
  | none => rw [hE] at ht; exact ht.elim
  | some s =>
    rw [hE] at ht
    obtain ⟨o, h1, h2⟩ := r.sl i s hE
    have own : s.own = true → Q0 (match s.fz with | .v d => d | _ => .non) (E.set i s.fz) → tVar i σ H fun v H' => Q v H' ∨ ∃ a u, v = .ref a ∧ H' a = some u ∧ Mut (some u) ∧ ∀ o, Q v (upd H' a (.frz o u)) := by
      intro ow hq
      obtain ⟨p, u, rfl, hu, mu, fr⟩ := h2.own_at ow
      refine ⟨_, h1, .inr ⟨p, u, rfl, hu, mu, fun o => ?_⟩⟩
      obtain ⟨r2, d, e1, e2⟩ := r.lock (o := o) hE ow h1 hu mu
      rw [e1] at hq r2
      exact k d _ hq _ _ (Kq.upd hu mu) r2 e2
    cases s with
    | no => exact ht.elim
    | v d =>
      obtain ⟨v, rfl, hv⟩ := h2
      exact ⟨v, h1, .inl (k d E ht v H (Kq.refl _) r hv)⟩
    | ol ds => exact own rfl ht
    | od b kvs => exact own rfl ht
    | ex b pl => exact ht.elim
    | q b => exact ht.elim
def vC (d : D) : VT := fun E Q => Q d E
theorem ve_c {v : V} {d : D} (h : PE X e (tC v)) (r : ∀ Γ H, Gm.Rp Γ H v d) : VE S X e (vC d) := by
  refine pe_weak h ?_
  rintro σ H Q ⟨Γ, E, Q0, ok, rp, ht, k⟩
  exact k d E ht v H (Kq.refl _) rp (r Γ H)
theorem ve_int {i j pos} : VE S X (.Constant (.int i) j pos) (vC (.int i)) := ve_c pe_int fun _ _ => .int i
theorem ve_bl {b j pos} : VE S X (.Constant (.bool b) j pos) (vC (.bl b)) := ve_c pe_bl fun _ _ => .bl b
theorem ve_str {x j pos} : VE S X (.Constant (.str x) j pos) (vC (.str x)) := ve_c pe_str fun _ _ => .str x
def fz (t : FT) : VT := fun E Q => t E fun r E' => Q r.d E'
def ff (t : VT) : FT := fun E Q => t E fun d E' => Q (.v d) E'
theorem ve_of {t : FT} (h : FE S X e t) : VE S X e (fz t) := by
  refine pe_weak (pe_frz h) ?_
  rintro σ H Q ⟨Γ, E, Q0, ok, r, ht, k⟩
  refine ⟨Γ, E, _, ok, r, ht, fun x E' hq v H' kq r' hv => ?_⟩
  rcases hv.lock r' with h1 | ⟨p, u, rfl, hu, mu, h1⟩
  · exact .inl (k _ _ hq _ _ kq r' h1)
  · exact .inr ⟨p, u, rfl, hu, mu, fun o => k _ _ hq _ _ (kq.trans (h1 o).2.1) (h1 o).1 (h1 o).2.2⟩
theorem fe_of {t : VT} (h : VE S X e t) : FE S X e (ff t) := by
  refine pe_weak h ?_
  rintro σ H Q ⟨Γ, E, Q0, ok, r, ht, k⟩
  exact ⟨Γ, E, _, ok, r, ht, fun d E' hq v H' kq r' hv => k _ _ hq v H' kq r' hv⟩
theorem be_of {t : VT} (h : VE S X e t) : BE S X e t := by
  refine pe_weak h ?_
  rintro σ H Q ⟨Γ, E, Q0, ok, r, ht, k⟩
  exact ⟨Γ, E, _, ok, r, ht, fun d E' hq v H' kq r' hv => k _ _ hq v H' kq r' (.v hv)⟩
abbrev VO := D → D → (RV → Prop) → Prop
def RpN (Γ : Gm) (H H' : Hp) (v : V) : RV → Prop
  | .v d => Γ.Rp H' v d
  | .fl ds => ∃ a xs, v = .ref a ∧ H a = none ∧ H' a = some (.lst xs) ∧ Γ.RpL H' xs ds
  | .fd kvs => ∃ a kv, v = .ref a ∧ H a = none ∧ H' a = some (.dK kv) ∧ RpK Γ.K Γ.tp H' kv kvs
theorem RpN.rep {Γ : Gm} {E : En} {σ : L2.St} {H H' : Hp} {v : V} {x : RV} (r : Rep Γ E σ H) (s : Same H H') (h : RpN Γ H H' v x) : RepR Γ E σ H' v x := by
  cases x with
  | v d => exact h
  | fl ds =>
    obtain ⟨p, xs, rfl, n, h1, h2⟩ := h
    obtain ⟨f, l⟩ := r.fresh n
    exact ⟨p, rfl, ⟨p, xs, rfl, h1, h2, f⟩, l⟩
  | fd ds =>
    obtain ⟨p, xs, rfl, n, h1, h2⟩ := h
    obtain ⟨f, l⟩ := r.fresh n
    exact ⟨p, rfl, ⟨p, xs, rfl, h1, h2, f, fun z => by cases z⟩, l⟩
structure OpV (S : Sg) (X : Cx) (f : Value → Value → Sem Value) (g : VO) : Prop where
  ex : ∃ r : R2, OpR X f r ∧ ∀ (Γ : Gm) (H : Hp) (x y : V) (d e : D) (Q : VK) (Q0 : RV → Prop), Γ.K = S.K → RpW Γ H x d → RpW Γ H y e → g d e Q0 → (∀ z, Q0 z → ∀ v H', Same H H' → RpN Γ H H' v z → Q v H') → r x y H Q
def vOp (g : VO) (ta tb : VT) : FT := fun E Q => ta E fun d E1 => tb E1 fun e E2 => g d e fun z => Q z E2
theorem fe_op {op : Operator} {g : VO} {ta tb : VT} {pos : Pos} (ho : OpV S X (binaryOp op) g) (ha : VE S X a ta) (hb : BE S X b tb) : FE S X (.BinOp a op b pos) (vOp g ta tb) := by
  obtain ⟨r, h1, h2⟩ := ho.ex
  refine pe_weak (pe_op h1 ha hb) ?_
  rintro σ H Q ⟨Γ, E, Q0, ok, rp, ht, k⟩
  refine ⟨Γ, E, _, ok, rp, ht, fun d E1 hq x H1 kq1 rp1 hx => ?_⟩
  refine ⟨Γ, E1, _, ok, rp1, hq, fun e E2 hq2 y H2 kq2 rp2 hy => ?_⟩
  refine h2 Γ H2 x y d e _ _ ok.k (.v (Rp.kq kq2 _ _ hx)) hy hq2 fun z hz v H' sm hn => ?_
  exact k _ _ hz v H' ((kq1.trans kq2).trans (Kq.same sm)) (rp2.same sm) (hn.rep rp2 sm)
theorem fe_cmp {op : CmpOp} {g : VO} {ta tb : VT} {pos : Pos} (ho : OpV S X (compareOp op) g) (ha : VE S X a ta) (hb : BE S X b tb) (hm : behindInMarks op b = false) : FE S X (.Compare a [op] [b] pos) (vOp g ta tb) := by
  obtain ⟨r, h1, h2⟩ := ho.ex
  refine pe_weak (pe_cmpR h1 ha hb hm) ?_
  rintro σ H Q ⟨Γ, E, Q0, ok, rp, ht, k⟩
  refine ⟨Γ, E, _, ok, rp, ht, fun d E1 hq x H1 kq1 rp1 hx => ?_⟩
  refine ⟨Γ, E1, _, ok, rp1, hq, fun e E2 hq2 y H2 kq2 rp2 hy => ?_⟩
  refine h2 Γ H2 x y d e _ _ ok.k (.v (Rp.kq kq2 _ _ hx)) hy hq2 fun z hz v H' sm hn => ?_
  exact k _ _ hz v H' ((kq1.trans kq2).trans (Kq.same sm)) (rp2.same sm) (hn.rep rp2 sm)
def asB (d : D) (Q : Bool → Prop) : Prop := match d with
  | .bl b => Q b
  | _ => False
def vTest (t : VT) : VTT := fun E Q => t E fun d E' => asB d fun b => Q b E'
theorem asB_inv {d : D} {Q : Bool → Prop} (h : asB d Q) : ∃ b, d = .bl b ∧ Q b := by
  cases d with
  | bl b => exact ⟨b, rfl, h⟩
  | _ => exact h.elim
theorem vb_cmp {op : CmpOp} {g : VO} {ta tb : VT} {pos : Pos} (ho : OpV S X (compareOp op) g) (ha : VE S X a ta) (hb : BE S X b tb) (hm : behindInMarks op b = false) : VB S X (.Compare a [op] [b] pos) (vTest (fz (vOp g ta tb))) := by
  obtain ⟨r, h1, h2⟩ := ho.ex
  refine pt_weak (pt_cmpR h1 ha hb hm) ?_
  rintro σ H Q ⟨Γ, E, Q0, ok, rp, ht, k⟩
  refine ⟨Γ, E, _, ok, rp, ht, fun d E1 hq x H1 kq1 rp1 hx => ?_⟩
  refine ⟨Γ, E1, _, ok, rp1, hq, fun e E2 hq2 y H2 kq2 rp2 hy => ?_⟩
  refine h2 Γ H2 x y d e _ _ ok.k (.v (Rp.kq kq2 _ _ hx)) hy hq2 fun z hz v H' sm hn => ?_
  obtain ⟨b, e1, hb⟩ := asB_inv hz
  cases z with
  | v d =>
    cases e1
    cases hn
    exact ⟨b, rfl, k _ _ hb _ ((kq1.trans kq2).trans (Kq.same sm)) (rp2.same sm)⟩
  | fl ds => cases e1
  | fd ds => cases e1
def truD : D → Option Bool
  | .non => some false
  | .bl b => some b
  | .int i => some (i != 0)
  | .str x => if x.length ≤ sizeLine then some ((x.length : Int) != 0) else none
  | .tup xs => some (!xs.isEmpty)
  | .ptp _ => none
  | .lst xs => some (!xs.isEmpty)
  | .dk _ => none
  | .tape => none
  | .ty _ => none
def withB (o : Option Bool) (Q : Bool → Prop) : Prop := match o with
  | some d => Q d
  | none => False
def vTru (t : VT) : VTT := fun E Q => t E fun d E' => withB (truD d) fun b => Q b E'
theorem empty_len {α β : Type} {xs : List α} {ys : List β} (h : xs.length = ys.length) : xs.isEmpty = ys.isEmpty := by
  cases xs <;> cases ys <;> first | rfl | (simp at h)
theorem RpK.len {K : PySem.W.Frag} {tp : Option Tp} {H : Hp} {kv : List (Key × V)} {ds : List (Key × D)} (h : RpK K tp H kv ds) : kv.length = ds.length := by
  have := congrArg List.length h.keys
  simpa using this
theorem tru_of {Γ : Gm} {H : Hp} {v : V} {d : D} {b : Bool} (ok : Γ.K = X.K) (h : RpW Γ H v d) (e : truD d = some b) : TruV X.K v H b := by
  cases h with
  | l h1 h2 =>
    cases e
    exact .inl ⟨_, .of h1, by rw [empty_len h2.len]⟩
  | k h1 h2 => cases e
  | v h =>
    cases d with
    | non => cases h; cases e; exact rfl
    | bl b => cases h; cases e; exact rfl
    | int i => cases h; cases e; exact rfl
    | str x =>
      cases h
      have e : (if x.length ≤ sizeLine then some ((x.length : Int) != 0) else none) = some b := e
      by_cases hl : x.length ≤ sizeLine
      · rw [if_pos hl] at e; cases e; exact ⟨hl, rfl⟩
      · rw [if_neg hl] at e; cases e
    | tup ds =>
      obtain ⟨p, xs, rfl, h1, h2⟩ := h.tup_inv
      cases e
      exact .inr (.inl ⟨_, by rw [← ok]; exact h1, by rw [empty_len h2.len]⟩)
    | lst ds =>
      obtain ⟨p, xs, rfl, h1, h2⟩ := h.lst_inv
      cases e
      exact .inl ⟨_, by rw [← ok]; exact h1.sq, by rw [empty_len h2.len]⟩
    | dk ds =>
      cases e
    | ptp ds => cases e
    | tape => cases e
    | ty n => cases e
theorem withB_inv {d : Option Bool} {Q : Bool → Prop} (h : withB d Q) : ∃ b, d = some b ∧ Q b := by
  cases d with
  | none => exact h.elim
  | some b => exact ⟨b, rfl, h⟩
theorem vb_tru {t : VT} (hK : S.K = X.K) (h : BE S X e t) (he : ∀ whole, isTrue e X.env whole = (do let v ← whole; standAt e.pos; holding [v] (truthy v)) := by intro _; rfl) : VB S X e (vTru t) := by
  refine pt_weak (pt_truth h he) ?_
  rintro σ H Q ⟨Γ, E, Q0, ok, rp, ht, k⟩
  refine ⟨Γ, E, _, ok, rp, ht, fun d E1 hq x H1 kq1 rp1 hx => ?_⟩
  obtain ⟨b, e1, hb⟩ := withB_inv hq
  exact ⟨b, tru_of (ok.k.trans hK) hx e1, k _ _ hb _ kq1 rp1⟩
def vAnd (t u : VTT) : VTT := fun E Q => t E fun c E1 => (c = true → u E1 Q) ∧ (c = false → Q false E1)
def vOr (t u : VTT) : VTT := fun E Q => t E fun c E1 => (c = true → Q true E1) ∧ (c = false → u E1 Q)
abbrev VW (S : Sg) (X : Cx) (e : Expr) (t : VTT) : Prop := PW X e (liftT S t)
theorem pw_weak {t t' : TT} (h : PW X e t) (w : ∀ σ H Q, t' σ H Q → t σ H Q) : PW X e t' := ⟨fun wh pins s σ H Q I q => h.run wh pins s σ H Q I (w _ _ _ q)⟩
variable {rest : List Expr} {pos : Pos}
theorem vw_and1 {t : VTT} (ha : VB S X a t) : VW S X (.BoolOp .And [a] pos) t := pw_and1 ha
theorem vw_or1 {t : VTT} (ha : VB S X a t) : VW S X (.BoolOp .Or [a] pos) t := pw_or1 ha
theorem vw_and {t u : VTT} (ha : VB S X a t) (hb : VW S X (.BoolOp .And (b :: rest) pos) u) : VW S X (.BoolOp .And (a :: b :: rest) pos) (vAnd t u) := by
  refine pw_weak (pw_and ha hb) ?_
  rintro σ H Q ⟨Γ, E, Q0, ok, rp, ht, k⟩
  refine ⟨Γ, E, _, ok, rp, ht, fun c E1 hq H1 kq1 rp1 => ?_⟩
  cases c with
  | true =>
    refine iteT ?_
    exact ⟨Γ, E1, _, ok, rp1, hq.1 rfl, fun c E2 hq2 H2 kq2 rp2 => k _ _ hq2 _ (kq1.trans kq2) rp2⟩
  | false =>
    refine iteF ?_
    exact k _ _ (hq.2 rfl) _ kq1 rp1
theorem vw_or {t u : VTT} (ha : VB S X a t) (hb : VW S X (.BoolOp .Or (b :: rest) pos) u) : VW S X (.BoolOp .Or (a :: b :: rest) pos) (vOr t u) := by
  refine pw_weak (pw_or ha hb) ?_
  rintro σ H Q ⟨Γ, E, Q0, ok, rp, ht, k⟩
  refine ⟨Γ, E, _, ok, rp, ht, fun c E1 hq H1 kq1 rp1 => ?_⟩
  cases c with
  | true =>
    refine iteT ?_
    exact k _ _ (hq.1 rfl) _ kq1 rp1
  | false =>
    refine iteF ?_
    exact ⟨Γ, E1, _, ok, rp1, hq.2 rfl, fun c E2 hq2 H2 kq2 rp2 => k _ _ hq2 _ (kq1.trans kq2) rp2⟩
theorem vb_w {t : VTT} (h : VW S X e t) : VB S X e t := h.pt
def vAndV (t u : VT) : VT := fun E Q => t E fun d E1 => asB d fun c => (c = true → u E1 Q) ∧ (c = false → Q (.bl false) E1)
theorem ve_one {op} {t : VT} (h : VE S X a t) : VE S X (.BoolOp op [a] pos) t := pe_one h
theorem ve_and {t u : VT} (ha : VE S X a t) (hb : VE S X (.BoolOp .And (b :: rest) pos) u) : VE S X (.BoolOp .And (a :: b :: rest) pos) (vAndV t u) := by
  refine pe_weak (pe_and ha hb) ?_
  rintro σ H Q ⟨Γ, E, Q0, ok, rp, ht, k⟩
  refine ⟨Γ, E, _, ok, rp, ht, fun d E1 hq v H1 kq1 rp1 hv => ?_⟩
  obtain ⟨c, rfl, hc⟩ := asB_inv hq
  cases hv
  refine ⟨c, rfl, ?_⟩
  cases c with
  | true => exact iteT ⟨Γ, E1, _, ok, rp1, hc.1 rfl, fun c E2 hq2 v2 H2 kq2 rp2 hv2 => k _ _ hq2 _ _ (kq1.trans kq2) rp2 hv2⟩
  | false => exact iteF (k _ _ (hc.2 rfl) _ _ kq1 rp1 (.bl false))
def aNil : VTA := fun E Q => Q [] E
def aCons (t : VT) (u : VTA) : VTA := fun E Q => t E fun d E1 => u E1 fun ds E2 => Q (d :: ds) E2
variable {es : List Expr}
theorem va_nil : VA S X [] aNil := by
  refine pa_weak pa_nil ?_
  rintro σ H Q ⟨Γ, E, Q0, ok, rp, ht, k⟩
  exact k _ _ ht _ _ (Kq.refl _) rp .nil
theorem va_cons {t : VT} {u : VTA} (ha : VE S X e t) (hr : VA S X es u) (hs : starEach (e :: es) X.env = (false, eval e X.env) :: starEach es X.env := by rfl) : VA S X (e :: es) (aCons t u) := by
  refine pa_weak (pa_cons ha hr hs) ?_
  rintro σ H Q ⟨Γ, E, Q0, ok, rp, ht, k⟩
  refine ⟨Γ, E, _, ok, rp, ht, fun d E1 hq v H1 kq1 rp1 hv => ?_⟩
  refine ⟨Γ, E1, _, ok, rp1, hq, fun ds E2 hq2 vs H2 kq2 rp2 hvs => ?_⟩
  exact k _ _ hq2 _ _ (kq1.trans kq2) rp2 (.cons (Rp.kq kq2 _ _ hv) hvs)
def vTup (t : VTA) : VT := fun E Q => t E fun ds E1 => ds.length ≤ 1000 ∧ Q (.tup ds) E1
def vLst (t : VTA) : FT := fun E Q => t E fun ds E1 => ds.length ≤ 1000 ∧ Q (.fl ds) E1
theorem ve_tup {x1} {t : VTA} (h : VA S X es t) : VE S X (.Tuple es x1 pos) (vTup t) := by
  refine pe_weak (pe_tup h) ?_
  rintro σ H Q ⟨Γ, E, Q0, ok, rp, ht, k⟩
  refine ⟨Γ, E, _, ok, rp, ht, fun ds E1 hq vs H1 kq1 rp1 hvs => ⟨line (by rw [hvs.len]; exact hq.1), fun p np => ?_⟩⟩
  have sm := same_upd (o := .tup vs) np
  exact k _ _ hq.2 _ _ (kq1.trans (Kq.same sm)) (rp1.same sm) (.tup (.of upd_same) (RpL.kq (Kq.same sm) _ _ hvs))
theorem fe_lst {t : VTA} (h : VA S X es t) : FE S X (.List es pos) (vLst t) := by
  refine pe_weak (pe_lst h) ?_
  rintro σ H Q ⟨Γ, E, Q0, ok, rp, ht, k⟩
  refine ⟨Γ, E, _, ok, rp, ht, fun ds E1 hq vs H1 kq1 rp1 hvs => ⟨line (by rw [hvs.len]; exact hq.1), fun p np => ?_⟩⟩
  have sm := same_upd (o := .lst vs) np
  refine k _ _ hq.2 _ _ (kq1.trans (Kq.same sm)) (rp1.same sm) (RpN.rep (x := .fl ds) rp1 sm ⟨p, vs, rfl, np, upd_same, RpL.kq (Kq.same sm) _ _ hvs⟩)
end
end Va
set_option Elab.async false
set_option linter.all false
set_option maxRecDepth 100000
set_option maxHeartbeats 4000000
namespace Ind
open PySem PySem.Spec PyProof.Rows L2 IndG
structure FunC (K : PySem.W.Frag) (x qual : Str) (st : Stmt) (f : Addr) (fd : FuncData) (c : Addr) : Prop where
  ex : ∃ (oc : Value) (od : Option Addr) (kV doc pm : Value) (an : Option Addr) (ct : Value) (osl : Array (Option Value)),
    fd = PySem.W.fnOf x qual (defArgs st) (defBody st) (defScope st) .none kV doc pm an (.ref c) ct ∧ K.lookup f = some ⟨oc, od, .func fd, osl⟩ ∧ PySem.W.codeIn K (.ref c) qual = true
structure Tb where
  name : S
  cols : List (S × Bool)
  key : PyData
  limit : Int
def cwD (c : S × Bool) : PyData := .tuple [.str c.1, .str (wordS c.2)]
def Pv : V → Prop
  | .int _ => True
  | .str _ => True
  | _ => False
def fitsB (v : V) (b : Bool) : Bool := match v with
  | .int i => !b && (decide (-1000000 ≤ i) && decide (i ≤ 1000000))
  | .str _ => b
  | _ => false
structure Mv (P : Addr) (H H' : Hp) : Prop where
  st : ∀ b o, b ≠ P → H b = some o → H' b = some o
  tab : GxR.TabG H' P
theorem Mv.kp {P : Addr} {H H' : Hp} (t : GxR.TabG H P) (m : Mv P H H') : Kp H H' := by
  obtain ⟨ps, hp, _⟩ := t
  refine ⟨fun c x h => m.st _ _ ?_ h, fun c o x h => m.st _ _ ?_ h⟩ <;> (intro e; rw [e, hp] at h; cases h)
theorem Mv.of {P : Addr} {H H' : Hp} (t : GxR.Tabbed P H H') : Mv P H H' := ⟨fun b o n h => by rw [t.2 b n]; exact h, t.1⟩
theorem Mv.refl {P : Addr} {H : Hp} (t : GxR.TabG H P) : Mv P H H := ⟨fun _ _ _ h => h, t⟩
theorem Mv.trans {P : Addr} {H H1 H2 : Hp} (a : Mv P H H1) (b : Mv P H1 H2) : Mv P H H2 := ⟨fun c o n h => b.st c o n (a.st c o n h), b.tab⟩
theorem Mv.new {P a : Addr} {H H' : Hp} {o : HO} (m : Mv P H H') (n : H' a = none) : Mv P H (L2.upd H' a o) := by
  refine ⟨fun b u nb h => ?_, ?_⟩
  · have e := m.st b u nb h
    rw [upd_ne (ne_of_none e n)]; exact e
  · obtain ⟨ps, hp, t⟩ := m.tab
    exact ⟨ps, by rw [upd_ne (ne_of_none hp n)]; exact hp, t⟩
def fitAt (vs : List V) (cs : List (S × Bool)) (j : Nat) : Bool := match (vs.zip cs)[j]? with
  | some p => fitsB p.1 p.2.2
  | none => true
theorem fit_at {vs : List V} {cs : List (S × Bool)} {j : Nat} {v : V} {c : S × Bool} (h1 : vs[j]? = some v) (h2 : cs[j]? = some c) : fitAt vs cs j = fitsB v c.2 := by
  unfold fitAt
  rw [show (vs.zip cs)[j]? = some (v, c) from List.getElem?_zip_eq_some.mpr ⟨h1, h2⟩]
theorem cut_whole {xs : List V} {lo hi : Option Int} (h : HT.sIx xs.length 0 lo = 0 ∧ HT.sIx xs.length xs.length hi = xs.length) : cutV xs lo hi = xs := by
  unfold cutV
  rw [h.1, h.2, List.drop_zero, Nat.sub_zero, List.take_of_length_le (Nat.le_refl _)]
end Ind
set_option Elab.async false
set_option linter.all false
set_option maxRecDepth 100000
set_option maxHeartbeats 4000000
namespace Va
open PySem PySem.Spec PyProof.Rows L2 Ind
structure Ve where
  nx : En → Prop
  rt : D → En → Prop
  bk : En → Prop := fun _ => False
  ct : En → Prop := fun _ => False
abbrev VS := Ve → En → Prop
structure EndsOk (Γ : Gm) (V : Ve) (D : Ends) (H : Hp) : Prop where
  nx : ∀ E, V.nx E → ∀ σ' H', Kq H H' → Rep Γ E σ' H' → D.nx σ' H'
  rt : ∀ d E, V.rt d E → ∀ v σ' H', Kq H H' → Rep Γ E σ' H' → Γ.Rp H' v d → D.rt v H'
  bk : ∀ E, V.bk E → ∀ σ' H', Kq H H' → Rep Γ E σ' H' → D.bk σ' H'
  ct : ∀ E, V.ct E → ∀ σ' H', Kq H H' → Rep Γ E σ' H' → D.ct σ' H'
theorem EndsOk.kq {Γ : Gm} {V : Ve} {D : Ends} {H H' : Hp} (k : EndsOk Γ V D H) (q : Kq H H') : EndsOk Γ V D H' :=
  ⟨fun E h σ H2 q2 r => k.nx E h σ H2 (q.trans q2) r, fun d E h v σ H2 q2 r rv => k.rt d E h v σ H2 (q.trans q2) r rv, fun E h σ H2 q2 r => k.bk E h σ H2 (q.trans q2) r, fun E h σ H2 q2 r => k.ct E h σ H2 (q.trans q2) r⟩
def liftS (S : Sg) (t : VS) : TS := fun D σ H => ∃ (Γ : Gm) (E : En) (V : Ve), Γ.Ok S ∧ Rep Γ E σ H ∧ t V E ∧ EndsOk Γ V D H
abbrev VSt (S : Sg) (X : Cx) (st : Stmt) (t : VS) : Prop := PS X st (liftS S t)
abbrev VSs (S : Sg) (X : Cx) (st : List Stmt) (t : VS) : Prop := PSs X st (liftS S t)
def sNx : VS := fun V E => V.nx E
def sSeq (t u : VS) : VS := fun V E => t { V with nx := u V } E
section
variable {X : Cx} {S : Sg} {e : Expr} {st : Stmt} {rest : List Stmt} {pos : Pos}
theorem vss_nil : VSs S X [] sNx := by
  refine pss_weak pss_nil ?_
  rintro D σ H ⟨Γ, E, V, ok, r, h, k⟩
  exact k.nx E h σ H (Kq.refl _) r
theorem vss_one {t : VS} (h : VSt S X st t) : VSs S X [st] t := pss_one h
theorem vss_cons {t u : VS} (h : VSt S X st t) (g : VSs S X rest u) : VSs S X (st :: rest) (sSeq t u) := by
  refine pss_weak (pss_cons h g) ?_
  rintro D σ H ⟨Γ, E, V, ok, r, h, k⟩
  exact ⟨Γ, E, _, ok, r, h, fun E1 h1 σ1 H1 q1 r1 => ⟨Γ, E1, V, ok, r1, h1, k.kq q1⟩, k.rt, k.bk, k.ct⟩
def sNever : VS := fun _ _ => False
theorem vs_never : VSt S X st sNever := by
  refine ps_weak ps_never ?_
  rintro D σ H ⟨Γ, E, V, ok, r, h, k⟩
  exact h
def sRt (t : VT) : VS := fun V E => t E fun d E1 => V.rt d E1
theorem vs_ret {t : VT} (he : VE S X e t) : VSt S X (.Return (some e) pos) (sRt t) := by
  refine ps_weak (ps_ret he) ?_
  rintro D σ H ⟨Γ, E, V, ok, r, h, k⟩
  exact ⟨Γ, E, _, ok, r, h, fun d E1 h1 v H1 q1 r1 hv => k.rt d E1 h1 v σ H1 q1 r1 hv⟩
def sIf (c : VTT) (t u : VS) : VS := fun V E => c E fun b E1 => (b = true → t V E1) ∧ (b = false → u V E1)
theorem vs_if {c : Expr} {a b : List Stmt} {tc : VTT} {t u : VS} (hc : VB S X c tc) (ha : VSs S X a t) (hb : VSs S X b u) : VSt S X (.If c a b pos) (sIf tc t u) := by
  refine ps_weak (ps_if hc ha hb) ?_
  rintro D σ H ⟨Γ, E, V, ok, r, h, k⟩
  refine ⟨Γ, E, _, ok, r, h, fun b E1 h1 H1 q1 r1 => ?_⟩
  cases b with
  | true => exact iteT ⟨Γ, E1, V, ok, r1, h1.1 rfl, k.kq q1⟩
  | false => exact iteF ⟨Γ, E1, V, ok, r1, h1.2 rfl, k.kq q1⟩
def sSet (i : Nat) (t : FT) : VS := fun V E => t E fun r E1 => V.nx (E1.set i r.sv)
theorem RepR.set {Γ : Gm} {E : En} {σ : L2.St} {H : Hp} {v : V} {x : RV} (r : Rep Γ E σ H) (h : RepR Γ E σ H v x) (i : Nat) : Rep Γ (E.set i x.sv) (σ.set i (some v)) H := by
  cases x with
  | v d => exact r.set i h
  | fl ds =>
    obtain ⟨p, rfl, h1, h2⟩ := h
    exact r.setO i h1 h2
  | fd ds =>
    obtain ⟨p, rfl, h1, h2⟩ := h
    exact r.setO i h1 h2
theorem vs_set {i : Nat} {x : PySem.Str} {t : FT} {pos' : Pos} (hN : X.N.Nodup) (hi : X.N[i]? = some x) (hx : Loc X.env.scope x) (he : FE S X e t) (hs : swapsWith e (some (.Name x pos')) pos.line X.env = pure false := by rfl) (hf : X.fn x = true ∨ X.env.scope.names.lookup x = some .local := by first | exact .inl rfl | exact .inr rfl | assumption) :
    VSt S X (.Assign [.Name x pos'] e pos) (sSet i t) := by
  refine ps_weak (ps_set hN hi hx he hs hf) ?_
  rintro D σ H ⟨Γ, E, V, ok, r, h, k⟩
  exact ⟨Γ, E, _, ok, r, h, fun d E1 h1 v H1 q1 r1 hv => k.nx _ h1 _ H1 q1 (hv.set r1 i)⟩
abbrev VG := D → En → (En → Prop) → Prop
abbrev VGs := List D → En → (En → Prop) → Prop
structure Only (is : List Nat) (σ σ' : L2.St) : Prop where
  len : σ'.length = σ.length
  at_ : ∀ j, j ∉ is → σ'[j]? = σ[j]?
theorem Only.refl {is : List Nat} {σ : L2.St} : Only is σ σ := ⟨rfl, fun _ _ => rfl⟩
theorem Only.trans {is : List Nat} {σ σ1 σ2 : L2.St} (a : Only is σ σ1) (b : Only is σ1 σ2) : Only is σ σ2 := ⟨b.len.trans a.len, fun j h => (b.at_ j h).trans (a.at_ j h)⟩
theorem Only.mono {is js : List Nat} {σ σ' : L2.St} (a : Only is σ σ') (h : ∀ i ∈ is, i ∈ js) : Only js σ σ' := ⟨a.len, fun j hj => a.at_ j fun z => hj (h j z)⟩
def liftG (S : Sg) (is : List Nat) (g : VG) : TG := fun v σ H Q => ∃ (Γ : Gm) (E : En) (d : D) (Q0 : En → Prop), Γ.Ok S ∧ Rep Γ E σ H ∧ Γ.Rp H v d ∧ g d E Q0 ∧ ∀ E', Q0 E' → ∀ σ', Rep Γ E' σ' H → Only is σ σ' → Q σ' H
def liftGs (S : Sg) (is : List Nat) (g : VGs) : TGs := fun vs σ H Q => ∃ (Γ : Gm) (E : En) (ds : List D) (Q0 : En → Prop), Γ.Ok S ∧ Rep Γ E σ H ∧ Γ.RpL H vs ds ∧ g ds E Q0 ∧ ∀ E', Q0 E' → ∀ σ', Rep Γ E' σ' H → Only is σ σ' → Q σ' H
theorem pg_weak {t t' : TG} (h : PG X e t) (w : ∀ v σ H Q, t' v σ H Q → t v σ H Q) : PG X e t' := ⟨fun pins s σ H v u Q I r q => h.run pins s σ H v u Q I r (w _ _ _ _ q)⟩
theorem pgs_weak {es : List Expr} {t t' : TGs} (h : PGs X es t) (w : ∀ v σ H Q, t' v σ H Q → t v σ H Q) : PGs X es t' := ⟨fun pins s σ H v u Q I r q => h.run pins s σ H v u Q I r (w _ _ _ _ q)⟩
def gN (i : Nat) : VG := fun d E Q => Q (E.set i (.v d))
theorem vg_name {i : Nat} {x : PySem.Str} (is : List Nat) (hm : i ∈ is) (hN : X.N.Nodup) (hi : X.N[i]? = some x) (hx : Loc X.env.scope x) (hf : X.fn x = true ∨ X.env.scope.names.lookup x = some .local := by first | exact .inl rfl | exact .inr rfl | assumption) : PG X (.Name x pos) (liftG S is (gN i)) := by
  refine pg_weak (pg_name hN hi hx hf) ?_
  rintro v σ H Q ⟨Γ, E, d, Q0, ok, r, hv, hg, k⟩
  refine k _ hg _ (r.set i hv) ⟨by simp, fun j hj => ?_⟩
  rw [List.getElem?_set_ne]
  rintro rfl
  exact hj hm
def gsNil : VGs := fun ds E Q => match ds with
  | [] => Q E
  | _ => False
def gsCons (g : VG) (u : VGs) : VGs := fun ds E Q => match ds with
  | d :: r => g d E fun E1 => u r E1 Q
  | [] => False
theorem vgs_nil (is : List Nat) : PGs X [] (liftGs S is gsNil) := by
  refine pgs_weak pgs_nil ?_
  rintro v σ H Q ⟨Γ, E, ds, Q0, ok, r, hv, hg, k⟩
  cases ds with
  | nil => cases hv; exact ⟨rfl, k _ hg _ r .refl⟩
  | cons d ds => exact hg.elim
theorem vgs_cons {is : List Nat} {es : List Expr} {g : VG} {u : VGs} (h1 : PG X e (liftG S is g)) (h2 : PGs X es (liftGs S is u))
    (hs : (assignEach (e :: es) X.env).map (·.2) = assign e X.env :: (assignEach es X.env).map (·.2) := by rfl) : PGs X (e :: es) (liftGs S is (gsCons g u)) := by
  refine pgs_weak (pgs_cons h1 h2 hs) ?_
  rintro v σ H Q ⟨Γ, E, ds, Q0, ok, r, hv, hg, k⟩
  cases ds with
  | nil => exact hg.elim
  | cons d ds =>
    cases hv with
    | cons hv1 hv2 =>
      exact ⟨_, _, rfl, Γ, E, d, _, ok, r, hv1, hg, fun E1 q1 σ1 r1 o1 => ⟨Γ, E1, ds, _, ok, r1, hv2, q1, fun E2 q2 σ2 r2 o2 => k _ q2 _ r2 (o1.trans o2)⟩⟩
def gT (n : Nat) (u : VGs) : VG := fun d E Q => match d with
  | .tup ds => ds.length = n ∧ u ds E Q
  | _ => False
theorem vg_tup {is : List Nat} {es : List Expr} {k : Nat} {u : VGs} (n : Nat) (hK : S.K = X.K) (hc : X.calm = true) (h : PGs X es (liftGs S is u)) (hn : (assignEach es X.env).length = n) (hst : (assignEach es X.env).findIdx? (·.1) = none) : PG X (.Tuple es k pos) (liftG S is (gT n u)) := by
  refine pg_weak (pg_tup hc h hn hst) ?_
  rintro v σ H Q ⟨Γ, E, d, Q0, ok, r, hv, hg, k⟩
  cases d with
  | tup ds =>
    obtain ⟨a, xs, rfl, h1, h2⟩ := hv.tup_inv
    exact ⟨a, xs, rfl, by rw [← hK, ← ok.k]; exact h1, h2.len.trans hg.1, Γ, E, ds, _, ok, r, h2, hg.2, k⟩
  | _ => exact hg.elim
def sAsg (t : VT) (g : VG) : VS := fun V E => t E fun d E1 => g d E1 V.nx
theorem vs_asg {is : List Nat} {tg : Expr} {t : VT} {g : VG} (he : VE S X e t) (hg : PG X tg (liftG S is g)) (hs : swapsWithSole [tg] e pos.line X.env = pure false := by rfl) (hw : swappedStores [tg] e X.env = pure none := by rfl) (h1 : (assignEach [tg] X.env).map (·.2) = [assign tg X.env] := by rfl) : VSt S X (.Assign [tg] e pos) (sAsg t g) := by
  refine ps_weak (ps_asg he hg hs hw h1) ?_
  rintro D σ H ⟨Γ, E, V, ok, r, h, k⟩
  exact ⟨Γ, E, _, ok, r, h, fun d E1 h1 v H1 q1 r1 hv => ⟨Γ, E1, d, _, ok, r1, hv, h1, fun E2 q2 σ2 r2 _ => k.nx _ q2 _ H1 q1 r2⟩⟩
abbrev VI := En → (List D → En → Prop) → Prop
structure ItOk (Γ : Gm) (J : It) (ds : List D) (Hb : Hp) : Prop where
  go : ∀ i H, i < ds.length → Kq Hb H → J.go i H
  yld : ∀ i H x H', i < ds.length → Kq Hb H → J.yld i H x H' → ∃ d, ds[i]? = some d ∧ Γ.Rp H' x d ∧ Same H H'
  stop : ∀ H, Kq Hb H → J.stop ds.length H
def liftI (S : Sg) (t : VI) : TI := fun σ H R => ∃ (Γ : Gm) (E : En) (Q0 : List D → En → Prop), Γ.Ok S ∧ Rep Γ E σ H ∧ t E Q0 ∧ ∀ ds E', Q0 ds E' → ∀ J H', Kq H H' → Rep Γ E' σ H' → ItOk Γ J ds H' → R J H'
abbrev VIt (S : Sg) (X : Cx) (tg e : Expr) (t : VI) : Prop := PI X tg e (liftI S t)
theorem pi_weak {tg : Expr} {t t' : TI} (h : PI X tg e t) (w : ∀ σ H Q, t' σ H Q → t σ H Q) : PI X tg e t' := ⟨fun pins s σ H Q I q => h.run pins s σ H Q I (w _ _ _ q)⟩
theorem it_tup {Γ : Gm} {H : Hp} {a : Addr} {xs : List V} {ds : List D} (h : SqT Γ.K H a xs) (r : Γ.RpL H xs ds) : ItOk Γ (Itt Γ.K a) ds H := by
  refine ⟨fun i H1 hi q => ?_, fun i H1 x H2 hi q y => ?_, fun H1 q => ⟨xs, q.sqT h, by rw [r.len]; exact Nat.le_refl _⟩⟩
  · obtain ⟨v, e, _⟩ := r.get (List.getElem?_eq_getElem hi)
    exact ⟨xs, v, q.sqT h, e⟩
  · obtain ⟨rfl, y⟩ := y
    obtain ⟨v, e, rv⟩ := r.get (List.getElem?_eq_getElem hi)
    have := y xs (q.sqT h)
    rw [e] at this
    cases this
    exact ⟨_, List.getElem?_eq_getElem hi, Rp.kq q _ _ rv, fun _ _ z => z⟩
theorem it_lst {Γ : Gm} {H : Hp} {a : Addr} {xs : List V} {ds : List D} (h : FzL Γ.K H a xs) (r : Γ.RpL H xs ds) : ItOk Γ (Itl Γ.K a) ds H := by
  refine ⟨fun i H1 hi q => ?_, fun i H1 x H2 hi q y => ?_, fun H1 q => ⟨xs, (q.fzL h).sq, by rw [r.len]; exact Nat.le_refl _⟩⟩
  · obtain ⟨v, e, _⟩ := r.get (List.getElem?_eq_getElem hi)
    exact ⟨xs, v, (q.fzL h).sq, e⟩
  · obtain ⟨rfl, y⟩ := y
    obtain ⟨v, e, rv⟩ := r.get (List.getElem?_eq_getElem hi)
    have := y xs (q.fzL h).sq
    rw [e] at this
    cases this
    exact ⟨_, List.getElem?_eq_getElem hi, Rp.kq q _ _ rv, fun _ _ z => z⟩
def one (c : Nat) : D := .str ⟨#[c]⟩
def signs (x : Tx) : List D := x.cps.toList.map one
theorem it_str {Γ : Gm} {H : Hp} (x : Tx) : ItOk Γ (Its x) (signs x) H := by
  have sz : (signs x).length = x.cps.size := by unfold signs; rw [List.length_map, Array.length_toList]
  refine ⟨fun i H1 hi q => by rw [sz] at hi; exact hi, fun i H1 v H2 hi q y => ?_, fun H1 q => by rw [sz]; exact Nat.le_refl _⟩
  obtain ⟨rfl, c, ec, rfl⟩ := y
  refine ⟨one c, ?_, .str _, fun _ _ z => z⟩
  unfold signs
  rw [List.getElem?_map, Array.getElem?_toList, ec]
  rfl
def key : Key → D
  | .inl i => .int i
  | .inr x => .str x
theorem key_rp {Γ : Gm} {H : Hp} (k : Key) : Γ.Rp H (kV k) (key k) := by
  cases k with
  | inl i => exact .int i
  | inr x => exact .str x
theorem it_dk {Γ : Gm} {H : Hp} {a : Addr} {o : Obj} {kv : List (Key × V)} {ds : List (Key × D)} (h : H a = some (.frz o (.dK kv))) (r : RpK Γ.K Γ.tp H kv ds) : ItOk Γ (Itk a o kv) (ds.map fun p => key p.1) H := by
  have len : (ds.map fun p => key p.1).length = kv.length := by rw [List.length_map, r.len]
  refine ⟨fun i H1 hi q => ⟨q.frz _ _ _ h, by rw [← len]; exact hi⟩, fun i H1 x H2 hi q y => ?_, fun H1 q => ⟨q.frz _ _ _ h, by rw [len]; exact Nat.le_refl _⟩⟩
  obtain ⟨rfl, k, v, ek, rfl⟩ := y
  have e2 : (kv.map (·.1))[i]? = some k := by rw [List.getElem?_map, ek]; rfl
  rw [r.keys, List.getElem?_map] at e2
  refine ⟨key k, ?_, key_rp k, fun _ _ z => z⟩
  rw [List.getElem?_map]
  cases ed : ds[i]? with
  | none => rw [ed] at e2; cases e2
  | some p => rw [ed] at e2; cases e2; rfl
theorem pi_any {tg : Expr} {te : TE} (hl : PE X e te) : PI X tg e (fun σ H R => te σ H fun x H1 => (∃ a xs, x = .ref a ∧ SqL X.K H1 a xs ∧ R (Itl X.K a) H1) ∨ (∃ a xs, x = .ref a ∧ SqT X.K H1 a xs ∧ R (Itt X.K a) H1) ∨ (∃ z, x = .str z ∧ R (Its z) H1) ∨
    ∃ d o kvs, x = .ref d ∧ H1 d = some (.frz o (.dK kvs)) ∧ R (Itk d o kvs) H1) := by
  constructor
  intro pins s σ H R I h
  refine thn (hl.run pins s σ H _ I h) ?_
  rintro v s1 ⟨x, H1, I1, r1, ⟨p, xs, rfl, hq, q⟩ | ⟨p, xs, rfl, hq, q⟩ | ⟨z, rfl, q⟩ | ⟨p, o, kvs, rfl, hd, q⟩⟩
  · cases r1
    obtain ⟨its, rv, pl, hz⟩ := I1.list hq
    exact wpAny_pyIter_list pl.isList (pi_one (tk := s1.toks) I1 _ (turn_list p _) ⟨_, Heap.get?_push_size _ rfl, rfl, rfl⟩ q)
  · cases r1
    obtain ⟨its, rv, pl, hz⟩ := I1.tuple hq
    exact wpAny_pyIter_tuple (show s1.heap.IsTuple p its.toArray from pl) (pi_one (tk := s1.toks) I1 _ (turn_tuple p _) ⟨_, Heap.get?_push_size _ rfl, rfl, rfl⟩ q)
  · obtain ⟨t, rfl⟩ := r1
    by_cases ha : z.cps.all (· < 128) = true
    · exact wpAny_pyIter_ascii ha (pi_one (tk := s1.toks) I1 _ (turn_str _ z t "str_ascii_iterator" (.inl rfl)) ⟨_, Heap.get?_push_size _ rfl, rfl, rfl⟩ q)
    · exact wpAny_pyIter_wide (by simpa using ha) (pi_one (tk := s1.toks) I1 _ (turn_str _ z t "str_iterator" (.inr rfl)) ⟨_, Heap.get?_push_size _ rfl, rfl, rfl⟩ q)
  · cases (show v = Value.ref p from r1)
    obtain ⟨z1, z2, z3, es, ep, vs, hdt, hsz, kv, hm⟩ := I1.frzK hd
    refine iter_keys z1 z2 z3 hdt (pi_one (tk := s1.toks) I1 _ (turn_keys _ hdt) ⟨_, Heap.get?_push_size _ rfl, rfl, ?_⟩ q)
    rw [hsz] <;> rfl
def itD (d : D) (Q : List D → Prop) : Prop := match d with
  | .lst ds => Q ds
  | .tup ds => Q ds
  | .ptp ds => Q ds
  | .str x => Q (signs x)
  | .dk kvs => Q (kvs.map fun p => key p.1)
  | _ => False
def vIt (t : VT) : VI := fun E Q => t E fun d E1 => itD d fun ds => Q ds E1
theorem vi_any {tg : Expr} {t : VT} (hK : S.K = X.K) (h : VE S X e t) : VIt S X tg e (vIt t) := by
  refine pi_weak (pi_any h) ?_
  rintro σ H Q ⟨Γ, E, Q0, ok, rp, ht, k⟩
  refine ⟨Γ, E, _, ok, rp, ht, fun d E1 hq x H1 kq1 rp1 hx => ?_⟩
  have eK : X.K = Γ.K := (ok.k.trans hK).symm
  cases d with
  | lst ds =>
    obtain ⟨p, xs, rfl, h1, h2⟩ := hx.lst_inv
    exact .inl ⟨p, xs, rfl, by rw [eK]; exact h1.sq, k _ _ hq _ _ kq1 rp1 (by rw [eK]; exact it_lst h1 h2)⟩
  | tup ds =>
    obtain ⟨p, xs, rfl, h1, h2⟩ := hx.tup_inv
    exact .inr (.inl ⟨p, xs, rfl, by rw [eK]; exact h1, k _ _ hq _ _ kq1 rp1 (by rw [eK]; exact it_tup h1 h2)⟩)
  | ptp ds =>
    obtain ⟨p, o, xs, rfl, h1, _, h2⟩ := hx.ptp_inv
    have h1 : SqT Γ.K H1 p xs := .inl (.inr ⟨o, h1⟩)
    exact .inr (.inl ⟨p, xs, rfl, by rw [eK]; exact h1, k _ _ hq _ _ kq1 rp1 (by rw [eK]; exact it_tup h1 h2)⟩)
  | str z =>
    cases hx
    exact .inr (.inr (.inl ⟨z, rfl, k _ _ hq _ _ kq1 rp1 (it_str z)⟩))
  | dk ds =>
    obtain ⟨p, o, kv, rfl, h1, h2⟩ := hx.dk_inv
    exact .inr (.inr (.inr ⟨p, o, kv, rfl, h1, k _ _ hq _ _ kq1 rp1 (it_dk h1 h2)⟩))
  | _ => exact hq.elim
def rng (lo : Int) (n : Nat) : List D := (List.range n).map fun i => .int (lo + (i : Nat))
theorem it_rng {Γ : Gm} {H : Hp} (lo : Int) (n : Nat) : ItOk Γ (Itr lo n) (rng lo n) H := by
  have sz : (rng lo n).length = n := by simp [rng]
  refine ⟨fun i H1 hi q => by rw [sz] at hi; exact hi, fun i H1 v H2 hi q y => ?_, fun H1 q => by rw [sz]; exact Nat.le_refl _⟩
  obtain ⟨rfl, rfl⟩ := y
  rw [sz] at hi
  exact ⟨.int (lo + i), by simp [rng, hi], .int _, fun _ _ z => z⟩
def vR1 (t : VTA) : VI := fun E Q => t E fun ds E1 => match ds with
  | [.int j] => (-(2 ^ 62) ≤ j ∧ j < 2 ^ 62) ∧ Q (rng 0 j.toNat) E1
  | _ => False
variable {a b : Expr} {p : Pos}
theorem vi_range1 {tg : Expr} {t : VTA} (hg : Gl X "range") (hm : X.mg "range" = none) (ha : VA S X [a] t) (hs : starEach [a] X.env = [(false, eval a X.env)] := by rfl) : VIt S X tg (.Call (.Name "range" p) [a] [] pos) (vR1 t) := by
  refine pi_weak (pi_range1 hg hm ha hs) ?_
  rintro σ H Q ⟨Γ, E, Q0, ok, rp, ht, k⟩
  refine ⟨Γ, E, _, ok, rp, ht, fun ds E1 hq vs H1 kq1 rp1 hvs => ?_⟩
  match ds, hq, hvs with
  | [.int j], hq, .cons h1 .nil =>
    cases h1
    exact ⟨j, rfl, hq.1.1, hq.1.2, k _ _ hq.2 _ _ kq1 rp1 (it_rng 0 _)⟩
def sFor (vi : VI) (g : VG) (tb : VS) : VS := fun V E => vi E fun ds E1 => ∃ P : Nat → En → Prop, P 0 E1 ∧ (∀ i d E, ds[i]? = some d → P i E → g d E fun E2 => tb { V with nx := P (i + 1), ct := P (i + 1), bk := V.nx } E2) ∧ ∀ E, P ds.length E → V.nx E
theorem vs_for {is : List Nat} {tg iter : Expr} {body : List Stmt} {vi : VI} {g : VG} {tb : VS} (hp : PassesOwn (model X.prog X.w) X.A X.env X.xe) (hc : X.calm = true) (hi : VIt S X tg iter vi) (hg : PG X tg (liftG S is g)) (hb : VSs S X body tb) (hs : ∀ x, foldedSetIterable iter X.env x = pure x := by intro _; rfl) : VSt S X (.For tg iter body [] pos) (sFor vi g tb) := by
  refine ps_weak (ps_for hp hc hi hg hb hs) ?_
  rintro D σ H ⟨Γ, E, V, ok, rp, ht, k⟩
  refine ⟨Γ, E, _, ok, rp, ht, fun ds E1 ⟨P, p0, ps, pn⟩ J H1 kq1 rp1 it => ?_⟩
  refine ⟨fun i m σ' H' => m = ds.length - i ∧ i ≤ ds.length ∧ ∃ E', P i E' ∧ Rep Γ E' σ' H' ∧ Kq H1 H', ⟨_, rfl, Nat.zero_le _, E1, p0, rp1, Kq.refl _⟩, ?_⟩
  rintro i m σ' H' ⟨rfl, hi, E', pi, rp', kq'⟩
  by_cases hlt : i < ds.length
  · refine .inr ⟨it.go i H' hlt kq', fun σ2 H2 => i + 1 ≤ ds.length ∧ ∃ E2, P (i + 1) E2 ∧ Rep Γ E2 σ2 H2 ∧ Kq H1 H2, fun σ2 H2 h => ⟨_, by omega, rfl, h⟩, fun x H2 y => ?_⟩
    obtain ⟨d, ed, rd, sm⟩ := it.yld i H' x H2 hlt kq' y
    have kq2 := kq'.trans (Kq.same sm)
    refine ⟨Γ, E', d, _, ok, rp'.same sm, rd, ps i d E' ed pi, fun E3 q3 σ3 r3 _ => ?_⟩
    refine ⟨Γ, E3, _, ok, r3, q3, fun E4 h4 σ4 H4 q4 r4 => ⟨hlt, E4, h4, r4, kq2.trans q4⟩, fun d4 E4 h4 v4 σ4 H4 q4 r4 rv4 => k.rt d4 E4 h4 v4 σ4 H4 ((kq1.trans kq2).trans q4) r4 rv4, fun E4 h4 σ4 H4 q4 r4 => k.nx E4 h4 σ4 H4 ((kq1.trans kq2).trans q4) r4, fun E4 h4 σ4 H4 q4 r4 => ⟨hlt, E4, h4, r4, kq2.trans q4⟩⟩
  · have e : i = ds.length := by omega
    subst e
    exact .inl ⟨it.stop H' kq', k.nx E' (pn E' pi) σ' H' (kq1.trans kq') rp'⟩
def sWhile (c : VTT) (tb : VS) : VS := fun V E => ∃ W : Nat → En → Prop, (∃ m, W m E) ∧ ∀ m E, W m E → c E fun b E1 => (b = true → tb { V with nx := fun E2 => ∃ m', m' < m ∧ W m' E2, ct := fun E2 => ∃ m', m' < m ∧ W m' E2, bk := V.nx } E1) ∧ (b = false → V.nx E1)
theorem vs_while {c : Expr} {body : List Stmt} {tc : VTT} {tb : VS} (hp : PassesOwn (model X.prog X.w) X.A X.env X.xe) (hc : VB S X c tc) (hb : VSs S X body tb) : VSt S X (.While c body [] pos) (sWhile tc tb) := by
  refine ps_weak (ps_while hp hc hb) ?_
  rintro D σ H ⟨Γ, E, V, ok, rp, ⟨W, ⟨m0, w0⟩, turn⟩, k⟩
  refine ⟨fun m σ' H' => ∃ E', W m E' ∧ Rep Γ E' σ' H' ∧ Kq H H', ⟨m0, E, w0, rp, Kq.refl _⟩, ?_⟩
  rintro m σ' H' ⟨E', w, rp', kq'⟩
  refine ⟨Γ, E', _, ok, rp', turn m E' w, fun b E1 h1 H1 q1 r1 => ?_⟩
  have kq2 := kq'.trans q1
  cases b with
  | true =>
    refine iteT ⟨fun σ2 H2 => ∃ m', m' < m ∧ ∃ E', W m' E' ∧ Rep Γ E' σ2 H2 ∧ Kq H H2, fun σ2 H2 h => h, ?_⟩
    refine ⟨Γ, E1, _, ok, r1, h1.1 rfl, fun E4 h4 σ4 H4 q4 r4 => ?_, fun d4 E4 h4 v4 σ4 H4 q4 r4 rv4 => k.rt d4 E4 h4 v4 σ4 H4 (kq2.trans q4) r4 rv4, fun E4 h4 σ4 H4 q4 r4 => k.nx E4 h4 σ4 H4 (kq2.trans q4) r4, fun E4 h4 σ4 H4 q4 r4 => ?_⟩
    · obtain ⟨m', lt, w'⟩ := h4
      exact ⟨m', lt, E4, w', r4, kq2.trans q4⟩
    · obtain ⟨m', lt, w'⟩ := h4
      exact ⟨m', lt, E4, w', r4, kq2.trans q4⟩
  | false => exact iteF (k.nx E1 (h1.2 rfl) σ' H1 kq2 r1)
abbrev VM := List D → Nat → (D → Nat → Prop) → Prop
def spV (S : Sg) (m : VM) : Sp := fun vs H Q _ => ∃ (tp : Option Tp) (ds : List D) (c : Nat) (Q0 : D → Nat → Prop), RpL S.K tp H vs ds ∧ (∀ t, tp = some t → TapeV S.b H t) ∧ Few tp c H ∧ (∀ P ∈ S.tabs, GxR.TabG H P) ∧ m ds c Q0 ∧ ∀ d c', Q0 d c' → ∀ v H', Ext ⟨S.K, S.b, tp, S.tabs, [], H⟩ c' H H' → Rp S.K tp H' v d → Q v H'
def vCall (m : VM) (t : VTA) : VT := fun E Q => t E fun ds E1 => m ds E1.c fun d c => Q d ⟨E1.l, c⟩
theorem spV_of {Γ : Gm} {E : En} {σ : L2.St} {H : Hp} {m : VM} {vs : List V} {ds : List D} {Q : VK} {Ex : XK} {Q0 : D → Nat → Prop} (ok : Γ.Ok S) (r : Rep Γ E σ H) (hv : Γ.RpL H vs ds) (h : m ds E.c Q0) (k : ∀ d c, Q0 d c → ∀ v H', Kq H H' → Rep Γ ⟨E.l, c⟩ σ H' → Γ.Rp H' v d → Q v H') : spV S m vs H Q Ex := by
  obtain ⟨eK, eB, eT⟩ := ok
  refine ⟨Γ.tp, ds, E.c, Q0, by rw [← eK]; exact hv, by rw [← eB]; exact r.base.tape, r.few, by rw [← eT]; exact r.base.tabs, h, fun d c hd v H' x rv => ?_⟩
  have x' : Ext Γ c H H' := ⟨fun b o n => x.ext b o fun z => n (by
    rcases z with z | z
    · exact .inl z
    · exact .inr (by rw [eT]; exact z)), by rw [eB]; exact x.tape, x.few, by rw [eT]; exact x.tabs⟩
  exact k d c hd v H' (x'.kq r.base) (r.call x') (by rw [← eK] at rv; exact rv)
variable {k : Nat} {f : Addr} {fd : FuncData} {ps : List PySem.Str} {m : VM} {x : PySem.Str} {es : List Expr}
theorem ve_call {t : VTA} (F : FnOk X.prog X.w X.K X.mg X.base CX0 k f fd ps (spV S m)) (hr : Room k X.A) (hg : Gl X x) (hm : X.mg x = some (.ref f)) (hk : PySem.W.keepIn X.K (.ref f) = true) (hb : Binds X.K fd ps [])
    (ha : VA S X (e :: es) t) (hdb : (x == ("__debug__" : PySem.Str)) = false := by decide) (he : starEach (e :: es) X.env = (false, eval e X.env) :: starEach es X.env := by rfl) (hpl : (backTo pos (starEach es X.env)).any (·.1) = false := by rfl) :
    VE S X (.Call (.Name x p) (e :: es) [] pos) (vCall m t) := by
  refine pe_weak (pe_call F hr hg hm hk hb .nil pass0 ha hdb he hpl) ?_
  rintro σ H Q ⟨Γ, E, Q0, ok, rp, ht, k⟩
  refine ⟨Γ, E, _, ok, rp, ht, fun ds E1 hq vs H1 kq1 rp1 hvs => ?_⟩
  show spV S m (vs ++ []) H1 Q E0
  rw [List.append_nil]
  exact spV_of ok rp1 hvs hq fun d c hd v H' q' r' rv => k _ _ hd _ _ (kq1.trans q') r' rv
theorem ve_call0 (F : FnOk X.prog X.w X.K X.mg X.base CX0 k f fd ps (spV S m)) (hr : Room k X.A) (hg : Gl X x) (hm : X.mg x = some (.ref f)) (hk : PySem.W.keepIn X.K (.ref f) = true) (hb : Binds X.K fd ps [])
    (hdb : (x == ("__debug__" : PySem.Str)) = false := by decide) : VE S X (.Call (.Name x p) [] [] pos) (vCall m aNil) := by
  refine pe_weak (pe_call0 F hr hg hm hk hb .nil pass0 hdb) ?_
  rintro σ H Q ⟨Γ, E, Q0, ok, rp, ht, k⟩
  exact spV_of (Ex := E0) ok rp .nil ht fun d c hd v H' q' r' rv => k _ _ hd _ _ q' r' rv
end
def startL (N : List PySem.Str) (ds : List D) : List SV := ds.map .v ++ List.replicate (N.length - ds.length) .no
def startV (N : List PySem.Str) (ds : List D) (c : Nat) : En := ⟨startL N ds, c⟩
def endV (Q : D → Nat → Prop) : Ve := { nx := fun E => Q .non E.c, rt := fun d E => Q d E.c }
theorem rep_start {K : PySem.W.Frag} {tp : Option Tp} {tabs : List Addr} {N : List PySem.Str} {vs : List V} {ds : List D} {H : Hp} {b : Bool} {c : Nat} (h : RpL K tp H vs ds) (ht : ∀ t, tp = some t → TapeV b H t) (hf : Few tp c H) (hp : ∀ P ∈ tabs, GxR.TabG H P) : Rep ⟨K, b, tp, tabs, [], H⟩ (startV N ds c) (L2.start N vs) H := by
  have len : vs.length = ds.length := h.len
  have notown : ∀ (j : Nat) (s : SV), (startL N ds)[j]? = some s → s.own = false := by
    intro j s e
    unfold startL at e
    rcases Nat.lt_or_ge j ds.length with hj | hj
    · rw [List.getElem?_append_left (by simpa using hj), List.getElem?_map, List.getElem?_eq_getElem hj] at e
      cases e
      rfl
    · rw [List.getElem?_append_right (by simpa using hj), List.getElem?_replicate] at e
      split at e
      · cases e; rfl
      · cases e
  refine ⟨⟨fun _ _ _ _ z => z, Kq.refl _, ht, hp⟩, by simp [startV, startL, L2.start, len], hf, fun i s e => ?_, fun i j s t a e1 e2 o1 _ _ _ => ?_⟩
  · have e : (startL N ds)[i]? = some s := e
    unfold startL at e
    rcases Nat.lt_or_ge i ds.length with hj | hj
    · rw [List.getElem?_append_left (by simpa using hj), List.getElem?_map, List.getElem?_eq_getElem hj] at e
      cases e
      obtain ⟨v, ev, rv⟩ := h.get (List.getElem?_eq_getElem hj)
      refine ⟨some v, ?_, v, rfl, rv⟩
      unfold L2.start
      rw [List.getElem?_append_left (by rw [List.length_map, len]; exact hj), List.getElem?_map, ev]
      rfl
    · rw [List.getElem?_append_right (by simpa using hj), List.getElem?_replicate] at e
      split at e
      · rename_i hl
        cases e
        refine ⟨none, ?_, trivial⟩
        unfold L2.start
        rw [List.getElem?_append_right (by rw [List.length_map, len]; exact hj), List.getElem?_replicate, if_pos (by rw [List.length_map, len]; rw [List.length_map] at hl; exact hl)]
      · cases e
  · rw [notown i s e1] at o1; cases o1
section
variable {P : Program} {w : World} {K : PySem.W.Frag} {mg : PySem.Str → Option Value} {base : Heap} {S : Sg} {x qual : PySem.Str} {st : Stmt} {f : Addr} {fd : FuncData} {N ps : List PySem.Str} {k : Nat} {m : VM} {T : VS}
theorem body_v (hK : S.K = K) {X : Cx} {body : List Stmt} {vs : List V} {H : Hp} {Q : VK} {E : XK} (hb : VSs S X body T) (h : ∀ ds c Q, m ds c Q → T (endV Q) (startV N ds c)) (sp : spV S m vs H Q E) :
    ∃ t, PSs X body t ∧ t { nx := fun _ H' => Q .non H', rt := Q } (L2.start N vs) H := by
  obtain ⟨tp, ds, c, Q0, hv, ht, hf, hp, hm, k⟩ := sp
  refine ⟨_, hb, ⟨S.K, S.b, tp, S.tabs, [], H⟩, startV N ds c, _, ⟨rfl, rfl, rfl⟩, rep_start hv ht hf hp, h ds c Q0 hm, fun E1 h1 σ1 H1 q1 r1 => ?_, fun d E1 h1 v σ1 H1 q1 r1 rv => ?_, fun _ z => z.elim, fun _ z => z.elim⟩
  · exact k _ _ h1 _ _ ⟨fun b o n e => r1.base.ext b o n (by simp) e, r1.base.tape, r1.few, r1.base.tabs⟩ .non
  · exact k _ _ h1 _ _ ⟨fun b o n e => r1.base.ext b o n (by simp) e, r1.base.tape, r1.few, r1.base.tabs⟩ rv
theorem def_v (F : Fun K x qual st f fd) (sc : FnScope N ps (defScope st)) (hK : S.K = K) (len : ∀ ds c Q, m ds c Q → ds.length = ps.length)
    (hb : ∀ (cdv : Value) (A : Around) (outer : List Env) (s : Shared) (H : Hp) (E : XK), Room k (A.deeper (envOfC qual (defScope st) s.heap.objs.size f cdv)) → VSs S (cxOf CX0 P w K mg base N qual (defScope st) f cdv A outer s H E).nox (defBody st) T)
    (h : ∀ ds c Q, m ds c Q → T (endV Q) (startV N ds c)) : FnOk P w K mg base CX0 (k + 1) f fd ps (spV S m) := by
  refine F.ok sc (fun vs H Q E sp => ?_) (fun cdv A outer s H vs Q E hr sp => body_v hK (hb cdv A outer s H E hr) h sp)
  obtain ⟨tp, ds, c, Q0, hv, _, _, _, hm, _⟩ := sp
  rw [hv.len]
  exact len ds c Q0 hm
end
end Va
set_option Elab.async false
set_option linter.all false
set_option maxRecDepth 100000
set_option maxHeartbeats 4000000
namespace Va
open PySem PySem.Spec PyProof.Rows L2 Ind
mutual
def D.pd : D → PyData
  | .non => .none
  | .bl b => .bool b
  | .int i => .int i
  | .str x => .str x
  | .tup xs => .tuple (pdL xs)
  | .ptp xs => .tuple (pdL xs)
  | .lst xs => .list (pdL xs)
  | .dk _ => .dict []
  | .tape => .dict []
  | .ty _ => .dict []
def pdL : List D → List PyData
  | [] => []
  | x :: xs => x.pd :: pdL xs
end
theorem pdL_map : ∀ xs : List D, pdL xs = xs.map D.pd
  | [] => rfl
  | x :: xs => by show x.pd :: pdL xs = x.pd :: xs.map D.pd; rw [pdL_map xs]
section
variable {K : PySem.W.Frag} {tp : Option Tp} {H : Hp}
mutual
theorem Rp.dp : ∀ (d : D) (v : V), d.pd.canLay0 = true → Rp K tp H v d → Dp K H v d.pd
  | .non, _, _, h => by cases h; exact .non
  | .bl _, _, _, h => by cases h; exact .bl _
  | .int _, _, _, h => by cases h; exact .int _
  | .str _, _, _, h => by cases h; exact .str _
  | .tup ds, _, c, h => by
    cases h with
    | tup hs ha => exact .tup hs (RpL.dp ds _ (by simpa [D.pd, PyData.canLay0] using c) ha)
  | .ptp ds, _, c, h => by
    cases h with
    | ptp hs _ ha => exact .tup (.inl (.inr ⟨_, hs⟩)) (RpL.dp ds _ (by simpa [D.pd, PyData.canLay0] using c) ha)
  | .lst ds, _, c, h => by
    cases h with
    | lst hs ha => exact .lst hs.sq (RpL.dp ds _ (by simpa [D.pd, PyData.canLay0] using c) ha)
  | .dk ds, _, c, _ => by simp [D.pd, PyData.canLay0] at c
  | .tape, _, c, _ => by simp [D.pd, PyData.canLay0] at c
  | .ty _, _, c, _ => by simp [D.pd, PyData.canLay0] at c
theorem RpL.dp : ∀ (ds : List D) (vs : List V), PyData.canLayAll0 (pdL ds) = true → RpL K tp H vs ds → DpAll K H vs (pdL ds)
  | [], _, _, h => by cases h; exact .nil
  | d :: ds, _, c, h => by
    cases h with
    | cons h1 h2 =>
      have c' : d.pd.canLay0 = true ∧ PyData.canLayAll0 (pdL ds) = true := by simpa [pdL, PyData.canLayAll0] using c
      exact .cons (Rp.dp d _ c'.1 h1) (RpL.dp ds _ c'.2 h2)
end
end
theorem RpW.dp {Γ : Gm} {H : Hp} {v : V} {d : D} (c : SeqAt.shaped d.pd = true) (h : RpW Γ H v d) : Dp Γ.K H v d.pd := by
  have c0 := SeqAt.canLay_of_shaped c
  cases h with
  | v h => exact Rp.dp d v c0 h
  | l h1 h2 => exact .lst (.of h1) (RpL.dp _ _ (by simpa [D.pd, PyData.canLay0] using c0) h2)
  | k h1 h2 => simp [D.pd, PyData.canLay0] at c0
theorem RpW.seq {Γ : Gm} {H : Hp} {v : V} {ds : List D} (h : RpW Γ H v (.lst ds)) : ∃ a xs, v = .ref a ∧ SqL Γ.K H a xs ∧ Γ.RpL H xs ds := by
  cases h with
  | v h =>
    obtain ⟨a, xs, rfl, h1, h2⟩ := h.lst_inv
    exact ⟨a, xs, rfl, h1.sq, h2⟩
  | l h1 h2 => exact ⟨_, _, rfl, .of h1, h2⟩
theorem RpW.rd {Γ : Gm} {H : Hp} {v : V} {ds : List D} (h : RpW Γ H v (.lst ds)) : ∃ a xs, v = .ref a ∧ Rd H a (.lst xs) ∧ Γ.RpL H xs ds := by
  cases h with
  | v h =>
    obtain ⟨a, xs, rfl, ⟨o, h1⟩, h2⟩ := h.lst_inv
    exact ⟨a, xs, rfl, .inr ⟨o, h1⟩, h2⟩
  | l h1 h2 => exact ⟨_, _, rfl, .inl h1, h2⟩
theorem RpW.dk {Γ : Gm} {H : Hp} {v : V} {ds : List (Key × D)} (h : RpW Γ H v (.dk ds)) : ∃ a kv, v = .ref a ∧ Rd H a (.dK kv) ∧ RpK Γ.K Γ.tp H kv ds := by
  cases h with
  | v h =>
    obtain ⟨a, o, xs, rfl, h1, h2⟩ := h.dk_inv
    exact ⟨a, xs, rfl, .inr ⟨o, h1⟩, h2⟩
  | k h1 h2 => exact ⟨_, _, rfl, .inl h1, h2⟩
theorem RpW.tup {Γ : Gm} {H : Hp} {v : V} {ds : List D} (h : RpW Γ H v (.tup ds)) : ∃ a xs, v = .ref a ∧ SqT Γ.K H a xs ∧ Γ.RpL H xs ds := by
  cases h with
  | v h => exact h.tup_inv
theorem RpW.int {Γ : Gm} {H : Hp} {v : V} {i : Int} (h : RpW Γ H v (.int i)) : v = .int i := by
  cases h with
  | v h => exact h.int_inv
theorem RpW.str {Γ : Gm} {H : Hp} {v : V} {i : Tx} (h : RpW Γ H v (.str i)) : v = .str i := by
  cases h with
  | v h => exact h.str_inv
theorem RpW.bl {Γ : Gm} {H : Hp} {v : V} {i : Bool} (h : RpW Γ H v (.bl i)) : v = .bl i := by
  cases h with
  | v h => exact h.bl_inv
theorem RpW.non {Γ : Gm} {H : Hp} {v : V} (h : RpW Γ H v .non) : v = .non := by
  cases h with
  | v h => cases h; rfl
theorem million {n : Nat} (h : n ≤ 1000000) : n ≤ sizeLine := Nat.le_trans h (by decide)
theorem millionL {n : Nat} (h : n < 1000000) : n < sizeLine := Nat.lt_of_lt_of_le h (by decide)
section
variable {X : Cx} {S : Sg}
def addG : VO := fun d e Q => match d, e with
  | .int i, .int j => Q (.v (.int (i + j)))
  | .str x, .str y => x.length + y.length ≤ 1000000 ∧ Q (.v (.str (x ++ y)))
  | .lst xs, .lst ys => xs.length + ys.length ≤ 1000000 ∧ Q (.fl (xs ++ ys))
  | .tup xs, .tup ys => xs.length + ys.length ≤ 1000000 ∧ Q (.v (.tup (xs ++ ys)))
  | _, _ => False
theorem op_catL : OpR X (binaryOp .Add) (fun x y H Q => ∃ l b xs zs, x = .ref l ∧ y = .ref b ∧ Rd H l (.lst xs) ∧ Rd H b (.lst zs) ∧ xs.length + zs.length ≤ sizeLine ∧ ∀ p, H p = none → Q (.ref p) (upd H p (.lst (xs ++ zs)))) := by
  rintro pins s σ H x y v u Q I rx ry ⟨l, b, xs, zs, rfl, rfl, hl, hb, hz, q⟩
  cases (show v = Value.ref l from rx)
  cases (show u = Value.ref b from ry)
  obtain ⟨_, its, n, r, e1⟩ := hl.ok I.hok
  obtain ⟨_, its2, n2, r2, e2⟩ := hb.ok I.hok
  have k1 := r.length
  have k2 := r2.length
  refine PySem.P.add_list e1 e2 ?_ (by simp only [List.size_toArray]; omega)
  rw [show its.toArray ++ its2.toArray = (its ++ its2).toArray by simp]
  exact ⟨.ref _, _, I.lnew (t' := s.toks) (r.append r2) (by simp; omega), rfl, q _ I.fresh⟩
theorem o_add (hK : S.K = X.K) : OpV S X (binaryOp .Add) addG := by
  refine ⟨_, ((op_add.or op_add_str).or (op_catL.or op_catA)), ?_⟩
  intro Γ H x y d e Q Q0 eK hx hy hg k
  have eK' : X.K = Γ.K := (eK.trans hK).symm
  unfold addG at hg
  split at hg
  · exact .inl (.inl ⟨_, _, hx.int, hy.int, k _ hg _ _ (Same.refl _) (.int _)⟩)
  · exact .inl (.inr ⟨_, _, hx.str, hy.str, million hg.1, k _ hg.2 _ _ (Same.refl _) (.str _)⟩)
  · obtain ⟨a, xs, rfl, h1, h2⟩ := hx.rd
    obtain ⟨b, ys, rfl, h3, h4⟩ := hy.rd
    refine .inr (.inl ⟨a, b, xs, ys, rfl, rfl, h1, h3, million (by rw [h2.len, h4.len]; exact hg.1), fun p np => ?_⟩)
    have sm := same_upd (o := .lst (xs ++ ys)) np
    exact k _ hg.2 _ _ sm ⟨p, _, rfl, np, upd_same, RpL.kq (.same sm) _ _ (h2.app h4)⟩
  · obtain ⟨a, xs, rfl, h1, h2⟩ := hx.tup
    obtain ⟨b, ys, rfl, h3, h4⟩ := hy.tup
    rw [eK']
    refine .inr (.inr ⟨a, b, xs, ys, rfl, rfl, h1, h3, million (by rw [h2.len, h4.len]; exact hg.1), fun e => ?_, fun _ e => ?_, fun _ _ p np => ?_⟩)
    · subst e
      cases h2
      exact k _ hg.2 _ _ (Same.refl _) (.tup h3 h4)
    · subst e
      cases h4
      refine k _ hg.2 _ _ (Same.refl _) ?_
      rw [List.append_nil]
      exact .tup h1 h2
    · have sm := same_upd (o := .tup (xs ++ ys)) np
      exact k _ hg.2 _ _ sm (.tup (.of upd_same) (RpL.kq (.same sm) _ _ (h2.app h4)))
  · exact hg.elim
def int2 (C : Int → Int → Prop) (f : Int → Int → D) : VO := fun d e Q => match d, e with
  | .int i, .int j => C i j ∧ Q (.v (f i j))
  | _, _ => False
def int0 (f : Int → Int → D) : VO := fun d e Q => match d, e with
  | .int i, .int j => Q (.v (f i j))
  | _, _ => False
theorem o_int {f : Value → Value → Sem Value} {C : Int → Int → Prop} {g : Int → Int → Int} (h : OpR X f (rI C fun i j => .int (g i j))) : OpV S X f (int2 C fun i j => .int (g i j)) := by
  refine ⟨_, h, ?_⟩
  intro Γ H x y d e Q Q0 eK hx hy hg k
  unfold int2 at hg
  split at hg
  · exact ⟨_, _, hx.int, hy.int, hg.1, k _ hg.2 _ _ (Same.refl _) (.int _)⟩
  · exact hg.elim
theorem o_int0 {f : Value → Value → Sem Value} {g : Int → Int → Int} (h : OpR X f (rI0 fun i j => .int (g i j))) : OpV S X f (int0 fun i j => .int (g i j)) := by
  refine ⟨_, h, ?_⟩
  intro Γ H x y d e Q Q0 eK hx hy hg k
  unfold int0 at hg
  split at hg
  · exact ⟨_, _, hx.int, hy.int, k _ hg _ _ (Same.refl _) (.int _)⟩
  · exact hg.elim
theorem o_sub : OpV S X (binaryOp .Sub) (int0 fun i j => .int (i - j)) := o_int0 op_sub
theorem o_fdiv : OpV S X (binaryOp .FloorDiv) (int2 CDivW fun i j => .int (i / j)) := o_int op_fdivW
theorem o_mod : OpV S X (binaryOp .Mod) (int2 (fun _ j => 0 < j) fun i j => .int (i % j)) := o_int op_mod
theorem dS {x y : Tx} : decide (V.str x = V.str y) = decide (x = y) := decide_eq_decide.mpr ⟨fun e => by injection e, fun e => by rw [e]⟩
theorem dI {x y : Int} : decide (V.int x = V.int y) = decide (x = y) := decide_eq_decide.mpr ⟨fun e => by injection e, fun e => by rw [e]⟩
theorem dB {x y : Bool} : decide (V.bl x = V.bl y) = decide (x = y) := decide_eq_decide.mpr ⟨fun e => by injection e, fun e => by rw [e]⟩
def eqD (d e : D) (f : Bool → RV) (Q : RV → Prop) : Prop := match d, e with
  | .str x, .str y => Q (f (decide (x = y)))
  | .int i, .int j => Q (f (decide (i = j)))
  | .bl a, .bl b => Q (f (decide (a = b)))
  | .non, .non => Q (f true)
  | .str _, .int _ => Q (f false)
  | .int _, .str _ => Q (f false)
  | .str _, .bl _ => Q (f false)
  | .bl _, .str _ => Q (f false)
  | .non, .str _ => Q (f false)
  | .str _, .non => Q (f false)
  | .non, .int _ => Q (f false)
  | .int _, .non => Q (f false)
  | d, e => SeqAt.shaped d.pd = true ∧ SeqAt.shaped e.pd = true ∧ Q (f (PyData.eqv d.pd e.pd))
def eqG : VO := fun d e Q => eqD d e (fun b => .v (.bl b)) Q
def neG : VO := fun d e Q => eqD d e (fun b => .v (.bl (!b))) Q
theorem o_eq (hK : S.K = X.K) (hu : X.A.units + 64 < cLine) : OpV S X (compareOp .Eq) eqG := by
  refine ⟨_, op_eq.or (op_eqD hu), ?_⟩
  intro Γ H x y d e Q Q0 eK hx hy hg k
  have eK' : X.K = Γ.K := (eK.trans hK).symm
  unfold eqG eqD at hg
  split at hg
  · rw [hx.str, hy.str]
    refine .inl ⟨rfl, ?_⟩
    rw [dS]
    exact k _ hg _ _ (Same.refl _) (.bl _)
  · rw [hx.int, hy.int]
    refine .inl ⟨rfl, ?_⟩
    rw [dI]
    exact k _ hg _ _ (Same.refl _) (.bl _)
  · rw [hx.bl, hy.bl]
    refine .inl ⟨rfl, ?_⟩
    rw [dB]
    exact k _ hg _ _ (Same.refl _) (.bl _)
  · rw [hx.non, hy.non]
    exact .inl ⟨rfl, k _ hg _ _ (Same.refl _) (.bl _)⟩
  · rw [hx.str, hy.int]; exact .inl ⟨rfl, k _ hg _ _ (Same.refl _) (.bl _)⟩
  · rw [hx.int, hy.str]; exact .inl ⟨rfl, k _ hg _ _ (Same.refl _) (.bl _)⟩
  · rw [hx.str, hy.bl]; exact .inl ⟨rfl, k _ hg _ _ (Same.refl _) (.bl _)⟩
  · rw [hx.bl, hy.str]; exact .inl ⟨rfl, k _ hg _ _ (Same.refl _) (.bl _)⟩
  · rw [hx.non, hy.str]; exact .inl ⟨rfl, k _ hg _ _ (Same.refl _) (.bl _)⟩
  · rw [hx.str, hy.non]; exact .inl ⟨rfl, k _ hg _ _ (Same.refl _) (.bl _)⟩
  · rw [hx.non, hy.int]; exact .inl ⟨rfl, k _ hg _ _ (Same.refl _) (.bl _)⟩
  · rw [hx.int, hy.non]; exact .inl ⟨rfl, k _ hg _ _ (Same.refl _) (.bl _)⟩
  · rw [eK']
    exact .inr ⟨_, _, hx.dp hg.1, hy.dp hg.2.1, hg.1, hg.2.1, k _ hg.2.2 _ _ (Same.refl _) (.bl _)⟩
theorem o_ne (hK : S.K = X.K) (hu : X.A.units + 64 < cLine) : OpV S X (compareOp .NotEq) neG := by
  refine ⟨_, op_ne.or (op_neD hu), ?_⟩
  intro Γ H x y d e Q Q0 eK hx hy hg k
  have eK' : X.K = Γ.K := (eK.trans hK).symm
  unfold neG eqD at hg
  split at hg
  · rw [hx.str, hy.str]
    refine .inl ⟨rfl, ?_⟩
    rw [dS]
    exact k _ hg _ _ (Same.refl _) (.bl _)
  · rw [hx.int, hy.int]
    refine .inl ⟨rfl, ?_⟩
    rw [dI]
    exact k _ hg _ _ (Same.refl _) (.bl _)
  · rw [hx.bl, hy.bl]
    refine .inl ⟨rfl, ?_⟩
    rw [dB]
    exact k _ hg _ _ (Same.refl _) (.bl _)
  · rw [hx.non, hy.non]
    exact .inl ⟨rfl, k _ hg _ _ (Same.refl _) (.bl _)⟩
  · rw [hx.str, hy.int]; exact .inl ⟨rfl, k _ hg _ _ (Same.refl _) (.bl _)⟩
  · rw [hx.int, hy.str]; exact .inl ⟨rfl, k _ hg _ _ (Same.refl _) (.bl _)⟩
  · rw [hx.str, hy.bl]; exact .inl ⟨rfl, k _ hg _ _ (Same.refl _) (.bl _)⟩
  · rw [hx.bl, hy.str]; exact .inl ⟨rfl, k _ hg _ _ (Same.refl _) (.bl _)⟩
  · rw [hx.non, hy.str]; exact .inl ⟨rfl, k _ hg _ _ (Same.refl _) (.bl _)⟩
  · rw [hx.str, hy.non]; exact .inl ⟨rfl, k _ hg _ _ (Same.refl _) (.bl _)⟩
  · rw [hx.non, hy.int]; exact .inl ⟨rfl, k _ hg _ _ (Same.refl _) (.bl _)⟩
  · rw [hx.int, hy.non]; exact .inl ⟨rfl, k _ hg _ _ (Same.refl _) (.bl _)⟩
  · rw [eK']
    exact .inr ⟨_, _, hx.dp hg.1, hy.dp hg.2.1, hg.1, hg.2.1, k _ hg.2.2 _ _ (Same.refl _) (.bl _)⟩
def ordG (p : Int → Int → Bool) (q : List Nat → List Nat → Bool) : VO := fun d e Q => match d, e with
  | .int i, .int j => Q (.v (.bl (p i j)))
  | .str x, .str y => Q (.v (.bl (q x.cps.toList y.cps.toList)))
  | _, _ => False
theorem o_ord {f : Value → Value → Sem Value} {p : Int → Int → Bool} {q : List Nat → List Nat → Bool} (h : OpR X f (rI0 fun i j => .bl (p i j))) (h2 : OpR X f (fun x y H Q => ∃ i j, x = .str i ∧ y = .str j ∧ Q (.bl (q i.cps.toList j.cps.toList)) H)) : OpV S X f (ordG p q) := by
  refine ⟨_, h.or h2, ?_⟩
  intro Γ H x y d e Q Q0 eK hx hy hg k
  unfold ordG at hg
  split at hg
  · exact .inl ⟨_, _, hx.int, hy.int, k _ hg _ _ (Same.refl _) (.bl _)⟩
  · exact .inr ⟨_, _, hx.str, hy.str, k _ hg _ _ (Same.refl _) (.bl _)⟩
  · exact hg.elim
abbrev ltG : VO := ordG (fun i j => decide (i < j)) fun x y => decide (x < y)
abbrev gtG : VO := ordG (fun i j => decide (j < i)) fun x y => decide (y < x)
abbrev geG : VO := ordG (fun i j => decide (j ≤ i)) fun x y => !decide (x < y)
theorem o_lt : OpV S X (compareOp .Lt) ltG := o_ord op_lt op_lt_str
theorem o_gt : OpV S X (compareOp .Gt) gtG := o_ord op_gt op_gt_str
theorem o_ge : OpV S X (compareOp .GtE) geG := o_ord op_ge op_ge_str
def D.flat : D → Bool
  | .non => true
  | .bl _ => true
  | .int _ => true
  | .str _ => true
  | _ => false
def D.eqf : D → D → Bool
  | .non, .non => true
  | .bl a, .bl b => a == b
  | .bl a, .int b => (if a then 1 else 0) == b
  | .int a, .bl b => a == (if b then 1 else 0)
  | .int a, .int b => a == b
  | .str a, .str b => a == b
  | _, _ => false
def keyOf : D → Option Key
  | .int i => some (.inl i)
  | .str x => some (.inr x)
  | _ => none
def look (kvs : List (Key × D)) (k : Key) : Option D := (kvs.find? fun p => decide (p.1 = k)).map (·.2)
def inSeq (d : D) (ys : List D) (f : Bool → RV) (Q : RV → Prop) : Prop := match d with
  | .tup _ => SeqAt.shaped d.pd = true ∧ SeqAt.shaped (.list (pdL ys)) = true ∧ Q (f (ys.any fun y => PyData.eqv y.pd d.pd))
  | _ => d.flat = true ∧ ys.all D.flat = true ∧ Q (f (ys.any fun y => D.eqf y d))
def inD (d e : D) (f : Bool → RV) (Q : RV → Prop) : Prop := match e with
  | .lst ys => inSeq d ys f Q
  | .tup ys => inSeq d ys f Q
  | .str z => ∃ c, d = one c ∧ Q (f (decide (c ∈ z.cps.toList)))
  | .dk kvs => ∃ k, keyOf d = some k ∧ Q (f (look kvs k).isSome)
  | _ => False
def inG : VO := fun d e Q => inD d e (fun b => .v (.bl b)) Q
theorem Rp.flatV {K : PySem.W.Frag} {tp : Option Tp} {H : Hp} {v : V} {d : D} (h : Rp K tp H v d) (f : d.flat = true) : flatV v = true := by
  cases h <;> first | rfl | cases f
theorem Rp.eqV {K : PySem.W.Frag} {tp : Option Tp} {H : Hp} {v u : V} {d e : D} (h : Rp K tp H v d) (h' : Rp K tp H u e) (f : d.flat = true) (f' : e.flat = true) : eqV v u = d.eqf e := by
  cases h <;> first | (cases f; done) | (cases h' <;> first | rfl | cases f')
theorem RpL.flatV {K : PySem.W.Frag} {tp : Option Tp} {H : Hp} : ∀ {vs : List V} {ds : List D}, RpL K tp H vs ds → ds.all D.flat = true → vs.all flatV = true
  | _, _, .nil, _ => rfl
  | _, _, .cons h t, f => by
    simp only [List.all_cons, Bool.and_eq_true] at f ⊢
    exact ⟨h.flatV f.1, RpL.flatV t f.2⟩
theorem RpL.inV {K : PySem.W.Frag} {tp : Option Tp} {H : Hp} {x : V} {d : D} (h : Rp K tp H x d) (f : d.flat = true) : ∀ {vs : List V} {ds : List D}, RpL K tp H vs ds → ds.all D.flat = true → inV x vs = ds.any fun y => y.eqf d
  | _, _, .nil, _ => rfl
  | _, _, .cons (v := v) (vs := vs) (d := e) (ds := ds) h1 t, g => by
    simp only [List.all_cons, Bool.and_eq_true] at g
    show (L2.eqV v x || L2.inV x vs) = (e.eqf d || ds.any fun y => y.eqf d)
    rw [h1.eqV h g.1 f, RpL.inV h f t g.2]
theorem RpW.flat {Γ : Gm} {H : Hp} {v : V} {d : D} (h : RpW Γ H v d) (f : d.flat = true) : Γ.Rp H v d := by
  cases h with
  | v h => exact h
  | l _ _ => cases f
  | k _ _ => cases f
theorem look_val {K : PySem.W.Frag} {tp : Option Tp} {H : Hp} {kv : List (Key × V)} {ds : List (Key × D)} (r : RpK K tp H kv ds) (k : Key) : match look ds k with
    | some d => ∃ v, valV kv k = some v ∧ Rp K tp H v d
    | none => valV kv k = none := by
  have := r.val (k := k)
  unfold look
  cases h : ds.find? fun p => decide (p.1 = k) with
  | none => rw [h] at this; exact this
  | some p => rw [h] at this; exact this
theorem look_some {K : PySem.W.Frag} {tp : Option Tp} {H : Hp} {kv : List (Key × V)} {ds : List (Key × D)} (r : RpK K tp H kv ds) (k : Key) : (valV kv k).isSome = (look ds k).isSome := by
  have := look_val r k
  cases h : look ds k with
  | none => rw [h] at this; rw [show valV kv k = none from this]; rfl
  | some d => rw [h] at this; obtain ⟨v, e, _⟩ := this; rw [e]; rfl
theorem keyOf_rp {Γ : Gm} {H : Hp} {v : V} {d : D} {k : Key} (h : RpW Γ H v d) (e : keyOf d = some k) : v = kV k := by
  cases d with
  | int i => cases e; exact h.int
  | str x => cases e; exact h.str
  | _ => cases e
def rInAny (K : PySem.W.Frag) (neg : Bool) : R2 := fun x y H Q => ∃ d ds, Dp K H x d ∧ (Dp K H y (.list ds) ∨ Dp K H y (.tuple ds)) ∧ SeqAt.shaped d = true ∧ SeqAt.shaped (.list ds) = true ∧ Q (.bl (if neg then !ds.any fun z => PyData.eqv z d else ds.any fun z => PyData.eqv z d)) H
theorem op_inAny (hu : X.A.units + 65 < cLine) : OpR X (compareOp .In) (rInAny X.K false) := by
  rintro pins s σ H x y v u Q I rx ry ⟨d, ds, hd, he, sd, se, q⟩
  obtain ⟨as, r1⟩ := Dp.reads I d x v hd rx
  rcases he with he | he
  · obtain ⟨bs, r2⟩ := Dp.reads I _ y u he ry
    exact SeqAt.in_list_reads r2 r1 (SeqAt.canLay_of_shaped se) (SeqAt.canLay_of_shaped sd) (room_in_shaped sd hu) ⟨.bl _, H, I, rfl, q⟩
  · obtain ⟨bs, r2⟩ := Dp.reads I _ y u he ry
    exact SeqAt.in_tuple_reads r2 r1 (SeqAt.canLay_of_shaped se) (SeqAt.canLay_of_shaped sd) (room_in_shaped sd hu) ⟨.bl _, H, I, rfl, q⟩
theorem op_inD' (hu : X.A.units + 1 < cLine) : OpR X (compareOp .In) (fun x y H Q => ∃ a o, y = .ref a ∧ DGet H a x o ∧ Q (.bl o.isSome) H) := by
  rintro pins s σ H x y v u Q I rx ry ⟨a, o, rfl, g, q⟩
  cases (show u = Value.ref a from ry)
  exact d_in hu I g rx fun s3 I3 => ⟨.bl _, H, I3, rfl, q⟩
theorem rd_get {Γ : Gm} {H : Hp} {a : Addr} {kv : List (Key × V)} {k : Key} (h : Rd H a (.dK kv)) : DGet H a (kV k) (valV kv k) := .inl ⟨kv, k, h, rfl, rfl⟩
theorem pdL_any (ys : List D) (z : PyData) : ((pdL ys).any fun y => PyData.eqv y z) = ys.any fun y => PyData.eqv y.pd z := by
  rw [pdL_map, List.any_map]; rfl
theorem in_core (hK : S.K = X.K) {neg : Bool} {f : Value → Value → Sem Value} {r1 r2 r3 r4 : R2} {Γ : Gm} {H : Hp} {x y : V} {d e : D} {Q : VK} {Q0 : RV → Prop} (eK : Γ.K = S.K) (hx : RpW Γ H x d) (hy : RpW Γ H y e)
    (hg : inD d e (fun b => .v (.bl (if neg then !b else b))) Q0) (k : ∀ z, Q0 z → ∀ v H', Same H H' → RpN Γ H H' v z → Q v H') :
    (rIn X.K neg x y H Q ∨ rInAny X.K neg x y H Q) ∨ (∃ (c : Nat) (z : Tx), x = .str ⟨#[c]⟩ ∧ y = .str z ∧ Q (.bl (if neg then !decide (c ∈ z.cps.toList) else decide (c ∈ z.cps.toList))) H) ∨ ∃ a o, y = .ref a ∧ DGet H a x o ∧ Q (.bl (if neg then !o.isSome else o.isSome)) H := by
  have eK' : X.K = Γ.K := (eK.trans hK).symm
  have seq : ∀ (ys : List D) (p : Addr) (xs : List V), y = .ref p → (SqL Γ.K H p xs ∨ SqT Γ.K H p xs) → Γ.RpL H xs ys → (∀ c : PyData.canLayAll0 (pdL ys) = true, Dp Γ.K H y (.list (pdL ys)) ∨ Dp Γ.K H y (.tuple (pdL ys))) →
      inSeq d ys (fun b => .v (.bl (if neg then !b else b))) Q0 → rIn X.K neg x y H Q ∨ rInAny X.K neg x y H Q := by
    intro ys p xs ey hs hr hd h
    have deep : SeqAt.shaped d.pd = true ∧ SeqAt.shaped (.list (pdL ys)) = true ∧ Q0 (.v (.bl (if neg then !(ys.any fun y => PyData.eqv y.pd d.pd) else (ys.any fun y => PyData.eqv y.pd d.pd)))) → rInAny X.K neg x y H Q := by
      intro h
      refine ⟨d.pd, pdL ys, by rw [eK']; exact hx.dp h.1, by rw [eK']; exact hd (SeqAt.canLay_of_shaped h.2.1), h.1, h.2.1, ?_⟩
      rw [pdL_any]
      exact k _ h.2.2 _ _ (Same.refl _) (.bl _)
    have flat : d.flat = true ∧ ys.all D.flat = true ∧ Q0 (.v (.bl (if neg then !(ys.any fun y => D.eqf y d) else (ys.any fun y => D.eqf y d)))) → rIn X.K neg x y H Q := by
      intro h
      refine ⟨p, xs, ey, by rw [eK']; exact hs, (hx.flat h.1).flatV h.1, hr.flatV h.2.1, ?_⟩
      rw [RpL.inV (hx.flat h.1) h.1 hr h.2.1]
      exact k _ h.2.2 _ _ (Same.refl _) (.bl _)
    cases d with
    | tup ds => exact .inr (deep h)
    | _ => exact .inl (flat h)
  cases e with
  | lst ys =>
    obtain ⟨p, xs, rfl, h1, h2⟩ := hy.seq
    exact .inl (seq ys p xs rfl (.inl h1) h2 (fun c => .inl (.lst h1 (RpL.dp _ _ c h2))) hg)
  | tup ys =>
    obtain ⟨p, xs, rfl, h1, h2⟩ := hy.tup
    exact .inl (seq ys p xs rfl (.inr h1) h2 (fun c => .inr (.tup h1 (RpL.dp _ _ c h2))) hg)
  | str z =>
    obtain ⟨c, rfl, hq⟩ := hg
    exact .inr (.inl ⟨c, z, hx.str, hy.str, k _ hq _ _ (Same.refl _) (.bl _)⟩)
  | dk kvs =>
    obtain ⟨kk, ek, hq⟩ := hg
    obtain ⟨a, kv, rfl, h1, h2⟩ := hy.dk
    refine .inr (.inr ⟨a, _, rfl, by rw [keyOf_rp hx ek]; exact rd_get (Γ := Γ) h1, ?_⟩)
    rw [look_some h2]
    exact k _ hq _ _ (Same.refl _) (.bl _)
  | _ => exact hg.elim
theorem o_in (hK : S.K = X.K) (hu : X.A.units + 65 < cLine) : OpV S X (compareOp .In) inG := by
  refine ⟨_, (op_in_seq.or (op_inAny hu)).or (op_in_sign.or (op_inD' (by omega))), ?_⟩
  intro Γ H x y d e Q Q0 eK hx hy hg k
  exact in_core (neg := false) hK (f := compareOp .In) (r1 := rEq) (r2 := rEq) (r3 := rEq) (r4 := rEq) eK hx hy hg k
structure IxV (S : Sg) (X : Cx) (g : VO) : Prop where
  ex : ∃ r : R2, IxR X r ∧ ∀ (Γ : Gm) (H : Hp) (x y : V) (d e : D) (Q : VK) (Q0 : RV → Prop), Γ.K = S.K → RpW Γ H x d → RpW Γ H y e → g d e Q0 → (∀ z, Q0 z → ∀ v H', Same H H' → RpN Γ H H' v z → Q v H') → r x y H Q
def ixG : VO := fun d e Q => match d with
  | .lst xs => match e with
    | .int i => withD (atI xs i) fun z => Q (.v z)
    | _ => False
  | .tup xs => match e with
    | .int i => withD (atI xs i) fun z => Q (.v z)
    | _ => False
  | .str x => match e with
    | .int i => x.length ≤ 1000000 ∧ ∃ c, atI x.cps.toList i = some c ∧ Q (.v (one c))
    | _ => False
  | .dk kvs => ∃ k, keyOf e = some k ∧ withD (look kvs k) fun z => Q (.v z)
  | _ => False
theorem withD_inv {d : Option D} {Q : D → Prop} (h : withD d Q) : ∃ b, d = some b ∧ Q b := by
  cases d with
  | none => exact h.elim
  | some b => exact ⟨b, rfl, h⟩
theorem withD_of {o : Option D} {d : D} {Q : D → Prop} (e : o = some d) (h : Q d) : withD o Q := by rw [e]; exact h
theorem ix_dict (hu : X.A.units + 1 < cLine) : IxR X (fun x y H Q => ∃ a v, x = .ref a ∧ DGet H a y (some v) ∧ Q v H) := by
  rintro value slice pins s σ H x y v u Q I rx ry ⟨a, z, rfl, g, q⟩ hs
  cases (show v = Value.ref a from rx)
  exact tail_any (dict_typeIs I g) PySem.F.slot_dict_getitem.lookup (d_getItem hu I g ry fun w' s3 I3 rw' => ⟨z, H, I3, rw', q⟩) hs
theorem RpL.atI {K : PySem.W.Frag} {tp : Option Tp} {H : Hp} {vs : List V} {ds : List D} {i : Int} {d : D} (r : RpL K tp H vs ds) (e : atI ds i = some d) : ∃ v, L2.atI vs i = some v ∧ Rp K tp H v d := by
  unfold L2.atI at e ⊢
  rw [r.len]
  cases h : ixN ds.length i with
  | none => rw [h] at e; cases e
  | some j =>
    rw [h] at e
    exact r.get e
theorem i_ix (hK : S.K = X.K) (hu : X.A.units + 1 < cLine) : IxV S X ixG := by
  refine ⟨_, ix_seq.or (ix_dict hu), ?_⟩
  intro Γ H x y d e Q Q0 eK hx hy hg k
  have eK' : X.K = Γ.K := (eK.trans hK).symm
  cases d with
  | lst xs =>
    cases e with
    | int i =>
      obtain ⟨z, ez, hq⟩ := withD_inv hg
      obtain ⟨a, vs, rfl, h1, h2⟩ := hx.seq
      obtain ⟨v, ev, rv⟩ := h2.atI ez
      exact .inl (.inl ⟨a, vs, i, v, rfl, hy.int, by rw [eK']; exact h1, ev, k _ hq _ _ (Same.refl _) rv⟩)
    | _ => exact hg.elim
  | tup xs =>
    cases e with
    | int i =>
      obtain ⟨z, ez, hq⟩ := withD_inv hg
      obtain ⟨a, vs, rfl, h1, h2⟩ := hx.tup
      obtain ⟨v, ev, rv⟩ := h2.atI ez
      exact .inl (.inr (.inl ⟨a, vs, i, v, rfl, hy.int, by rw [eK']; exact h1, ev, k _ hq _ _ (Same.refl _) rv⟩))
    | _ => exact hg.elim
  | str z =>
    cases e with
    | int i =>
      obtain ⟨hl, c, ec, hq⟩ := hg
      exact .inl (.inr (.inr ⟨z, i, c, hx.str, hy.int, million hl, ec, k _ hq _ _ (Same.refl _) (.str _)⟩))
    | _ => exact hg.elim
  | dk kvs =>
    obtain ⟨kk, ek, hg⟩ := hg
    obtain ⟨z, ez, hq⟩ := withD_inv hg
    obtain ⟨a, kv, rfl, h1, h2⟩ := hx.dk
    have := look_val h2 kk
    rw [ez] at this
    obtain ⟨v, ev, rv⟩ := this
    refine .inr ⟨a, v, rfl, ?_, k _ hq _ _ (Same.refl _) rv⟩
    rw [keyOf_rp hy ek, ← ev]
    exact rd_get (Γ := Γ) h1
  | _ => exact hg.elim
variable {a b : Expr} {pos : Pos}
theorem fe_ix {g : VO} {ta tb : VT} (ho : IxV S X g) (ha : VE S X a ta) (hb : BE S X b tb) (hs : PlainIx b) : FE S X (.Subscript a b pos) (vOp g ta tb) := by
  obtain ⟨r, h1, h2⟩ := ho.ex
  refine pe_weak (pe_ix h1 ha hb hs) ?_
  rintro σ H Q ⟨Γ, E, Q0, ok, rp, ht, k⟩
  refine ⟨Γ, E, _, ok, rp, ht, fun d E1 hq x H1 kq1 rp1 hx => ?_⟩
  refine ⟨Γ, E1, _, ok, rp1, hq, fun e E2 hq2 y H2 kq2 rp2 hy => ?_⟩
  refine h2 Γ H2 x y d e _ _ ok.k (.v (Rp.kq kq2 _ _ hx)) hy hq2 fun z hz v H' sm hn => ?_
  exact k _ _ hz v H' ((kq1.trans kq2).trans (Kq.same sm)) (rp2.same sm) (hn.rep rp2 sm)
theorem withP_inv {d : Option D} {Q : D → Prop} (h : withP d Q) : ∃ b, d = some b ∧ Q b := by
  cases d with
  | none => exact h.elim
  | some b => exact ⟨b, rfl, h⟩
def vIxN (g : VO) (i : Nat) (tb : VT) : FT := fun E Q => withP (peek E i) fun _ => tb E fun e E2 => withP (peek E2 i) fun d => g d e fun z => Q z E2
theorem fe_ixN {g : VO} {i : Nat} {tb : VT} (ho : IxV S X g) (ha : PE X a (tVar i)) (hb : BE S X b tb) (hs : PlainIx b) : FE S X (.Subscript a b pos) (vIxN g i tb) := by
  obtain ⟨r, h1, h2⟩ := ho.ex
  refine pe_weak (pe_ix h1 ha hb hs) ?_
  rintro σ H Q ⟨Γ, E, Q0, ok, rp, ht, k⟩
  obtain ⟨d0, e0, ht⟩ := withP_inv ht
  obtain ⟨v, hv, _⟩ := peek_at rp e0
  refine ⟨v, hv, ?_⟩
  refine ⟨Γ, E, _, ok, rp, ht, fun e E2 hq2 y H2 kq2 rp2 hy => ?_⟩
  obtain ⟨d, ed, hq2⟩ := withP_inv hq2
  obtain ⟨v', hv', hx⟩ := peek_at rp2 ed
  rw [hv] at hv'
  cases hv'
  refine h2 Γ H2 v y d e _ _ ok.k hx hy hq2 fun z hz v H' sm hn => ?_
  exact k _ _ hz v H' (kq2.trans (Kq.same sm)) (rp2.same sm) (hn.rep rp2 sm)
end
end Va
set_option Elab.async false
set_option linter.all false
set_option maxRecDepth 100000
set_option maxHeartbeats 4000000
namespace Va
open PySem PySem.Spec PyProof.Rows L2 Ind
section
variable {X : Cx} {S : Sg} {e a b : Expr} {es : List Expr} {pos p : Pos}
abbrev VOp := En → (Option Int → En → Prop) → Prop
def liftO (S : Sg) (t : VOp) : TO := fun σ H Q => ∃ (Γ : Gm) (E : En) (Q0 : Option Int → En → Prop), Γ.Ok S ∧ Rep Γ E σ H ∧ t E Q0 ∧ ∀ o E', Q0 o E' → ∀ H', Kq H H' → Rep Γ E' σ H' → Q o H'
theorem po_weak {x : Option Expr} {t t' : TO} (h : PO X x t) (w : ∀ σ H Q, t' σ H Q → t σ H Q) : PO X x t' := ⟨fun pins s σ H Q I q => h.run pins s σ H Q I (w _ _ _ q)⟩
def oSo (t : VT) : VOp := fun E Q => t E fun d E1 => match d with
  | .int i => Q (some i) E1
  | _ => False
theorem vo_some {t : VT} (h : VE S X e t) : PO X (some e) (liftO S (oSo t)) := by
  refine po_weak (po_some h) ?_
  rintro σ H Q ⟨Γ, E, Q0, ok, rp, ht, k⟩
  refine ⟨Γ, E, _, ok, rp, ht, fun d E1 hq v H1 kq1 rp1 hv => ?_⟩
  cases d with
  | int i => cases hv; exact ⟨i, rfl, k _ _ hq _ kq1 rp1⟩
  | _ => exact hq.elim
def cutD {α : Type} (xs : List α) (lo hi : Option Int) : List α := (xs.drop (HT.sIx xs.length 0 lo)).take (HT.sIx xs.length xs.length hi - HT.sIx xs.length 0 lo)
def slG (d : D) (lo hi : Option Int) (Q : RV → Prop) : Prop := match d with
  | .lst xs => Q (.fl (cutD xs lo hi))
  | .tup xs => Q (.v (.tup (cutD xs lo hi)))
  | .str x => x.length ≤ 1000000 ∧ Q (.v (.str (cutS x lo hi)))
  | _ => False
theorem RpL.cut {K : PySem.W.Frag} {tp : Option Tp} {H : Hp} {vs : List V} {ds : List D} (h : RpL K tp H vs ds) (lo hi : Option Int) : RpL K tp H (cutV vs lo hi) (cutD ds lo hi) := by
  unfold cutV cutD
  rw [h.len]
  exact (h.drop _).take _
def vSl (t : VT) (l u : VOp) : FT := fun E Q => t E fun d E1 => l E1 fun lo E2 => u E2 fun hi E3 => slG d lo hi fun z => Q z E3
theorem fe_slice {lo hi : Option Expr} {t : VT} {l u : VOp} {p2 : Pos} (hK : S.K = X.K) (he : VE S X e t) (hl : PO X lo (liftO S l)) (hu : PO X hi (liftO S u)) : FE S X (.Subscript e (.Slice lo hi none p2) pos) (vSl t l u) := by
  refine pe_weak (pe_slice (sl_list.or (sl_tupA.or sl_str)) he hl hu) ?_
  rintro σ H Q ⟨Γ, E, Q0, ok, rp, ht, k⟩
  have eK : X.K = Γ.K := (ok.k.trans hK).symm
  refine ⟨Γ, E, _, ok, rp, ht, fun d E1 hq v H1 kq1 rp1 hv => ?_⟩
  refine ⟨Γ, E1, _, ok, rp1, hq, fun lo E2 hq2 H2 kq2 rp2 => ?_⟩
  refine ⟨Γ, E2, _, ok, rp2, hq2, fun hi E3 hq3 H3 kq3 rp3 => ?_⟩
  have hv3 := Rp.kq (kq2.trans kq3) _ _ hv
  have kq := (kq1.trans kq2).trans kq3
  unfold slG at hq3
  split at hq3
  · obtain ⟨p, xs, rfl, h1, h2⟩ := hv3.lst_inv
    refine .inl ⟨p, xs, rfl, by rw [eK]; exact h1.sq, fun q nq => ?_⟩
    have sm := same_upd (o := .lst (cutV xs lo hi)) nq
    exact k _ _ hq3 _ _ (kq.trans (.same sm)) (rp3.same sm) (RpN.rep (x := .fl _) rp3 sm ⟨q, _, rfl, nq, upd_same, RpL.kq (.same sm) _ _ (h2.cut lo hi)⟩)
  · obtain ⟨p, xs, rfl, h1, h2⟩ := hv3.tup_inv
    refine .inr (.inl ⟨p, xs, rfl, by rw [eK]; exact h1, fun w => ?_, fun _ q nq => ?_⟩)
    · refine k _ _ hq3 _ _ kq rp3 ?_
      have e2 : cutV xs lo hi = xs := cut_whole w
      have := h2.cut lo hi
      rw [e2] at this
      exact .tup h1 this
    · have sm := same_upd (o := .tup (cutV xs lo hi)) nq
      exact k _ _ hq3 _ _ (kq.trans (.same sm)) (rp3.same sm) (.tup (.of upd_same) (RpL.kq (.same sm) _ _ (h2.cut lo hi)))
  · cases hv3
    exact .inr (.inr ⟨_, rfl, million hq3.1, k _ _ hq3.2 _ _ kq rp3 (.str _)⟩)
  · exact hq3.elim
abbrev VC := List D → (RV → Prop) → Prop
inductive RpWL (Γ : Gm) (H : Hp) : List V → List D → Prop
  | nil : RpWL Γ H [] []
  | cons {v : V} {d : D} {vs : List V} {ds : List D} : RpW Γ H v d → RpWL Γ H vs ds → RpWL Γ H (v :: vs) (d :: ds)
theorem RpWL.of {Γ : Gm} {H : Hp} : ∀ {vs : List V} {ds : List D}, Γ.RpL H vs ds → RpWL Γ H vs ds
  | _, _, .nil => .nil
  | _, _, .cons h t => .cons (.v h) (RpWL.of t)
structure CallV (S : Sg) (X : Cx) (f : Value) (g : VC) : Prop where
  ex : ∃ r : List V → Hp → VK → Prop, CallR X f r ∧ ∀ (Γ : Gm) (H : Hp) (xs : List V) (ds : List D) (Q : VK) (Q0 : RV → Prop), Γ.K = S.K → RpWL Γ H xs ds → g ds Q0 → (∀ z, Q0 z → ∀ v H', Same H H' → RpN Γ H H' v z → Q v H') → r xs H Q
def vCB1 (g : VC) (t : VT) : FT := fun E Q => t E fun d E1 => g [d] fun z => Q z E1
def liftBA (S : Sg) (t : VT) : TA := fun σ H Q => ∃ (Γ : Gm) (E : En) (Q0 : D → En → Prop), Γ.Ok S ∧ Rep Γ E σ H ∧ t E Q0 ∧ ∀ d E', Q0 d E' → ∀ v H', Kq H H' → Rep Γ E' σ H' → RpW Γ H' v d → Q [v] H'
theorem ba_one {t : VT} (h : BE S X a t) (hs : starEach [a] X.env = (false, eval a X.env) :: starEach [] X.env := by rfl) : PA X [a] (liftBA S t) := by
  refine pa_weak (pa_cons h pa_nil hs) ?_
  rintro σ H Q ⟨Γ, E, Q0, ok, rp, ht, k⟩
  exact ⟨Γ, E, _, ok, rp, ht, fun d E1 hq v H1 kq1 rp1 hv => k _ _ hq v H1 kq1 rp1 hv⟩
theorem pe_CB1 {f : Value} {g : VC} {t : VT} (hc : CallV S X f g) (mk : ∀ {r : List V → Hp → VK → Prop} {t : TA}, CallR X f r → PA X [a] t → PE X e (tCB r t)) (ha : BE S X a t) (hs : starEach [a] X.env = (false, eval a X.env) :: starEach [] X.env := by rfl) : FE S X e (vCB1 g t) := by
  obtain ⟨r, h1, h2⟩ := hc.ex
  refine pe_weak (mk h1 (ba_one ha hs)) ?_
  rintro σ H Q ⟨Γ, E, Q0, ok, rp, ht, k⟩
  refine ⟨Γ, E, _, ok, rp, ht, fun d E1 hq v H1 kq1 rp1 hv => ?_⟩
  exact h2 Γ H1 [v] [d] _ _ ok.k (.cons hv .nil) hq fun z hz v H' sm hn => k _ _ hz v H' (kq1.trans (.same sm)) (rp1.same sm) (hn.rep rp1 sm)
def lenG : VC := fun ds Q => match ds with
  | [.lst xs] => Q (.v (.int xs.length))
  | [.tup xs] => Q (.v (.int xs.length))
  | [.str x] => x.length ≤ 1000000 ∧ Q (.v (.int x.length))
  | _ => False
theorem c_len (hK : S.K = X.K) : CallV S X (.builtin "len") lenG := by
  refine ⟨_, call_len_seq.or call_len_str, ?_⟩
  intro Γ H xs ds Q Q0 eK hx hg k
  have eK' : X.K = Γ.K := (eK.trans hK).symm
  unfold lenG at hg
  split at hg
  · match hx with
    | .cons h .nil =>
      obtain ⟨p, ys, rfl, h1, h2⟩ := h.seq
      refine .inl ⟨p, ys, rfl, .inl (by rw [eK']; exact h1), ?_⟩
      rw [h2.len]
      exact k _ hg _ _ (Same.refl _) (.int _)
  · match hx with
    | .cons h .nil =>
      obtain ⟨p, ys, rfl, h1, h2⟩ := h.tup
      refine .inl ⟨p, ys, rfl, .inr (by rw [eK']; exact h1), ?_⟩
      rw [h2.len]
      exact k _ hg _ _ (Same.refl _) (.int _)
  · match hx with
    | .cons h .nil =>
      cases h.str
      exact .inr ⟨_, rfl, million hg.1, k _ hg.2 _ _ (Same.refl _) (.int _)⟩
  · exact hg.elim
def intG : VC := fun ds Q => match ds with
  | [.int i] => Q (.v (.int i))
  | [.bl b] => Q (.v (.int (if b then 1 else 0)))
  | _ => False
theorem c_int : CallV S X (.type "int") intG := by
  refine ⟨_, call_int1, ?_⟩
  intro Γ H xs ds Q Q0 eK hx hg k
  unfold intG at hg
  split at hg
  · match hx with
    | .cons h .nil => cases h.int; exact .inl ⟨_, rfl, k _ hg _ _ (Same.refl _) (.int _)⟩
  · match hx with
    | .cons h .nil => cases h.bl; exact .inr ⟨_, rfl, k _ hg _ _ (Same.refl _) (.int _)⟩
  · exact hg.elim
def strG : VC := fun ds Q => match ds with
  | [.int i] => i.natAbs.log2 < 1920 ∧ Q (.v (.str (toString i)))
  | _ => False
theorem c_str : CallV S X (.type "str") strG := by
  refine ⟨_, call_str_int, ?_⟩
  intro Γ H xs ds Q Q0 eK hx hg k
  unfold strG at hg
  split at hg
  · match hx with
    | .cons h .nil => cases h.int; exact ⟨_, rfl, hg.1, k _ hg.2 _ _ (Same.refl _) (.str _)⟩
  · exact hg.elim
def tyNames : List D → Option (List String)
  | [] => some []
  | .ty n :: r => (tyNames r).map (n :: ·)
  | _ => none
def onL (s : Option SV) (Q : List D → Prop) : Prop := match s with
  | some (.ol ds) => Q ds
  | _ => False
theorem onL_inv {s : Option SV} {Q : List D → Prop} (h : onL s Q) : ∃ ds, s = some (.ol ds) ∧ Q ds := by
  unfold onL at h
  split at h
  · exact ⟨_, rfl, h⟩
  · exact h.elim
def sApp (i : Nat) (t : VT) : VS := fun V E => onL E.l[i]? fun _ => t E fun d E1 => onL E1.l[i]? fun ds => ds.length < 1000000 ∧ V.nx (E1.set i (.ol (ds ++ [d])))
theorem own_list {Γ : Gm} {E : En} {σ : L2.St} {H : Hp} {i : Nat} {ds : List D} (r : Rep Γ E σ H) (e : E.l[i]? = some (.ol ds)) : ∃ a xs, σ[i]? = some (some (.ref a)) ∧ H a = some (.lst xs) ∧ Γ.RpL H xs ds ∧ Free Γ a := by
  obtain ⟨o, h1, a, xs, rfl, h2, h3, h4⟩ := r.sl i _ e
  exact ⟨a, xs, h1, h2, h3, h4⟩
theorem Rep.wrL {Γ : Gm} {E : En} {σ : L2.St} {H : Hp} {i : Nat} {ds ds' : List D} {a : Addr} {xs xs' : List V} (r : Rep Γ E σ H) (e : E.l[i]? = some (.ol ds)) (eo : σ[i]? = some (some (.ref a))) (h : H a = some (.lst xs)) (fr : Free Γ a) (h' : Γ.RpL H xs' ds') :
    Kq H (upd H a (.lst xs')) ∧ Rep Γ (E.set i (.ol ds')) σ (upd H a (.lst xs')) := by
  have kq : Kq H (upd H a (.lst xs')) := Kq.upd h trivial
  exact ⟨kq, r.wr e rfl eo h trivial ⟨a, xs', rfl, upd_same, RpL.kq kq _ _ h', fr⟩⟩
theorem vs_append {i : Nat} {o : Expr} {t : VT} {apos cpos : Pos} (hK : S.K = X.K) (ho : PE X o (tVar i)) (he : VE S X e t) (hw : swapsWith (.Call (.Attribute o "append" apos) [e] [] cpos) none pos.line X.env = pure false := by rfl)
    (hbase : attributeBase o "append" X.env (eval o X.env) = eval o X.env := by rfl)
    (hfew : ((backTo cpos (starEach [e] X.env)).all (fun x => !x.1) && (backToKw cpos (keywordEach [] X.env)).all (fun x => x.1.isSome)
      && decide (([e] : List Expr).length + ([] : List Keyword).length + (if ([] : List Keyword).isEmpty then 0 else 1) < 30)) = true := by rfl)
    (hline : (apos.endLine == cpos.line) = true := by rfl) (hs : starEach [e] X.env = (false, eval e X.env) :: starEach [] X.env := by rfl) (hplain : (backTo cpos (starEach [] X.env)).any (·.1) = false := by rfl) :
    VSt S X (.Expr (.Call (.Attribute o "append" apos) [e] [] cpos) pos) (sApp i t) := by
  refine ps_weak (ps_expr (pe_bm PySem.F.plainAttrs_list PySem.F.slot_list_append PySem.F.type_list_append mt_append ho (va_cons (S := S) he va_nil hs) hbase hfew hline hs hplain) hw) ?_
  rintro D0 σ H ⟨Γ, E, V, ok, rp, ht, k⟩
  obtain ⟨ds0, e0, ht⟩ := onL_inv ht
  obtain ⟨p, xs0, hv, hl0, _, _⟩ := own_list rp e0
  refine ⟨_, hv, .inl ⟨rfl, xs0, .of hl0⟩, ?_⟩
  refine ⟨Γ, E, fun ds E1 => match ds with
    | [d] => onL E1.l[i]? fun ds => ds.length < 1000000 ∧ V.nx (E1.set i (.ol (ds ++ [d])))
    | _ => False, ok, rp, ht, fun ds E1 hq vs H1 kq1 rp1 hvs => ?_⟩
  · match ds, hq, vs, hvs with
    | [d], hq, [u], .cons hu .nil =>
      obtain ⟨ds1, e1, hsz, hq⟩ := onL_inv hq
      obtain ⟨p1, xs1, hv1, hl1, hr1, fr1⟩ := own_list rp1 e1
      rw [hv] at hv1
      cases hv1
      obtain ⟨kq2, rp2⟩ := rp1.wrL e1 hv hl1 fr1 (hr1.app (.cons hu .nil))
      refine ⟨p, xs1, u, rfl, rfl, hl1, millionL (by rw [hr1.len]; exact hsz), ?_⟩
      exact k.nx _ hq σ _ (kq1.trans kq2) rp2
end
end Va
set_option Elab.async false
set_option linter.all false
set_option maxRecDepth 100000
set_option maxHeartbeats 4000000
namespace Va
open PySem PySem.Spec PyProof.Rows L2 Ind GenW
section
variable {Γ : Gm} {E : En} {σ : L2.St} {H H' : Hp}
abbrev Gm.blk (Γ : Gm) (H : Hp) : Gm := { Γ with io := [], H0 := H }
theorem Rep.leave {c : Nat} (r : Rep Γ E σ H) (b : Base (Γ.blk H) H') (f : Few Γ.tp c H') : Rep Γ ⟨E.l, c⟩ σ H' := by
  refine ⟨⟨fun c o n1 n2 h => b.ext c o n1 (by simp) (r.base.ext c o n1 n2 h), r.base.kq.trans b.kq, b.tape, b.tabs⟩, r.len, f, fun i s e => ?_, r.dis⟩
  obtain ⟨o, h1, h2⟩ := r.sl i s e
  refine ⟨o, h1, h2.stay b.kq fun a u ow eo h => ?_⟩
  obtain ⟨c, _, e1, _, _, fr⟩ := h2.own_at ow
  rw [e1] at eo
  cases eo
  exact b.ext _ _ fr.nsp (by simp) h
end
section
variable {X : Cx} {S : Sg}
variable {elt tg iter : Expr} {ifs : List Expr} {scope : Scope} {own : List (PySem.Str × Nat)} {pos spos py : Pos} {vi : VI} {g : VG} {c : VTT} {el : VT}
variable {cc P : Addr} {k : Nat} {p gpos : Pos}
end
end Va
set_option Elab.async false
set_option linter.all false
set_option maxRecDepth 100000
set_option maxHeartbeats 4000000
namespace Va
open PySem PySem.Spec PyProof.Rows L2 Ind
inductive Er where
  | own (C : Addr)
  | fld (C : Addr) (f : Tx) (d : D)
def Er.cls : Er → Addr
  | .own C => C
  | .fld C _ _ => C
def XRep (K : PySem.W.Frag) (tp : Option Tp) (H : Hp) (cls : Value) (d : Option Addr) : Er → Prop
  | .own C => cls = .ref C ∧ d = none
  | .fld C f x => cls = .ref C ∧ ∃ dd ob v, d = some dd ∧ H dd = some (.frz ob (.xd [(f, v)])) ∧ Rp K tp H v x
abbrev XQ := Er → En → Prop
def XOk (Γ : Gm) (W : WX) (Xq : XQ) (H : Hp) : Prop := ∀ e E, Xq e E → ∀ cls d σ' H', Kq H H' → Rep Γ E σ' H' → XRep Γ.K Γ.tp H' cls d e → W cls d σ' H'
theorem XOk.kq {Γ : Gm} {W : WX} {Xq : XQ} {H H' : Hp} (k : XOk Γ W Xq H) (q : Kq H H') : XOk Γ W Xq H' := fun e E h cls d σ2 H2 q2 r x => k e E h cls d σ2 H2 (q.trans q2) r x
abbrev VSX := Ve → XQ → En → Prop
section
variable {X : Cx} {S : Sg} {W : WX} {e : Expr} {st : Stmt} {rest : List Stmt} {pos : Pos}
variable {es : List Expr}
abbrev VMX := List D → Nat → (D → Nat → Prop) → (Er → Nat → Prop) → Prop
end
section
variable {P : Program} {w : World} {K : PySem.W.Frag} {mg : PySem.Str → Option Value} {base : Heap} {S : Sg} {x qual : PySem.Str} {st : Stmt} {f : Addr} {fd : FuncData} {N ps : List PySem.Str} {k : Nat} {m : VMX} {T : VSX}
end
section
variable {X : Cx} {S : Sg} {x n : PySem.Str} {c : Value} {i : Nat} {body suite : List Stmt} {b₀ : Stmt} {np pos pos' : Pos}
def Held (oe : Obj) (C : Addr) : Prop := oe.cls = .ref C ∧ (∃ vs, oe.data = .fields vs) ∧ oe.dict = none
end
section
variable {X : Cx} {S : Sg}
end
end Va
set_option Elab.async false
set_option linter.all false
set_option maxRecDepth 100000
set_option maxHeartbeats 4000000
namespace Va
open PySem PySem.Spec PyProof.Rows L2 Ind
section
variable {prog : Program} {w : World} {A : Around} {E : Value → Shared → Prop} {s : Shared} {T : String} {r d : Addr} {n : Nat} {P : Nat → Value → Prop} {OK : Heap → Prop}
theorem collect_src {Q : List Value → Shared → Prop} (K : PySem.W.KdlSrc prog w T r d n P OK) (hh : A.handled = none) (hok : OK s.heap) (hn : n ≤ sizeLine)
    (hQ : ∀ (h' : Heap) (tk : Nat) (acc : Array Value), (∀ b o, s.heap.get? b = some o → h'.get? b = some o) → ItemsOf P acc n → Q acc.toList { s with heap := h', toks := tk }) : wpAny (model prog w) A (collect (.ref r)) Q E s := by
  unfold collect; refine wpAny_bind (wpAny_runValue (codeAny_builtin F.entry_proto_collect ?_)); rw [Around.under_plainId F.plain_proto_collect _]
  show wpAny _ A.in1 (newList [] >>= fun l => again (.builtin "list.__iadd__" ⟨[l, .ref r], []⟩)) (_) _ s
  refine wpAny_bind (wpAny_newObj_type ?_)
  refine wpAny_pure ⟨plainId_quiet F.plain_list_iadd _, codeAny_builtin F.entry_list_iadd ?_⟩; rw [Around.under_plainId F.plain_list_iadd _]
  show wpAny _ A.in1 (Builtin.List.listExtendWith (.ref s.heap.objs.size) (.ref r) (.ref s.heap.objs.size)) (_) (_) _
  have hS : (s.heap.push { cls := .type "list", data := .seq ([] : List Value).toArray }).get? s.heap.objs.size = some { cls := .type "list", data := .seq #[] 0 } := by exact Heap.get?_push_size _ rfl
  have there := K.there _ hok
  have ok2 : OK (s.heap.push { cls := .type "list", data := .seq ([] : List Value).toArray }) := K.keep _ _ hok fun b _ o e => Heap.get?_push_of_some _ e
  refine wpAny_mono (PySem.W.kdl_extend (A := A) (s := { s with heap := s.heap.push { cls := .type "list", data := .seq ([] : List Value).toArray } }) (R := fun rr s' => rr = .ok (.ret (.ref s.heap.objs.size)) ∧ ∃ (h' : Heap) (tk : Nat) (acc : Array Value) (c' : Nat), s' = { s with heap := h', toks := tk } ∧
    (∀ b o, s.heap.get? b = some o → h'.get? b = some o) ∧ h'.get? s.heap.objs.size = some { cls := .type "list", dict := none, data := .seq acc c', slots := #[] } ∧ ItemsOf P acc n) K hh ok2 s.heap.objs.size (Nat.ne_of_gt there.1) (Nat.ne_of_gt there.2) (.ref s.heap.objs.size) 0 hS
    (fun h' tk acc c' hk e hi => ⟨rfl, h', tk, acc, c', rfl, fun b o q => hk b o (Nat.ne_of_lt (Heap.lt_size q)) (Heap.get?_push_of_some _ q), e, hi⟩) hn) (fun fin s' h => ?_) (fun e s' h => absurd h.1 (by simp))
  cases fin with
  | done f =>
    obtain ⟨e, h', tk, acc, c', rfl, hk, hS', hi⟩ := h
    cases e; show wpAny _ A (load s.heap.objs.size >>= _) _ _ _
    exact wpAny_bind (wpAny_load hS' (wpAny_pure (hQ h' tk acc hk hi)))
  | again c' =>
    refine ⟨h.1, codeAny_mono h.2 ?_⟩
    rintro rr s'' ⟨rfl, h', tk, acc, c', rfl, hk, hS', hi⟩
    show wpAny _ A (load s.heap.objs.size >>= _) _ _ _; exact wpAny_bind (wpAny_load hS' (wpAny_pure (hQ h' tk acc hk hi)))
theorem call_tuple_src {Q : Value → Shared → Prop} (K : PySem.W.KdlSrc prog w T r d n P OK) (hh : A.handled = none) (hok : OK s.heap) (hn : n ≤ sizeLine) (hty : s.TypeIs (.ref r) T)
    (cod : ∀ (A : Around) (Q₁ : Value → Shared → Prop), A.handled = none → (∀ (h' : Heap) (tk : Nat) (acc : Array Value), (∀ b o, s.heap.get? b = some o → h'.get? b = some o) → ItemsOf P acc n → Q₁ (.ref h'.objs.size) { s with heap := h'.push { cls := .type "tuple", data := .seq acc }, toks := tk }) →
      codeAny (model prog w) A (.call (.builtin "tuple.__new__") ⟨[.type "tuple", .ref r], []⟩) (wants Q₁ E) s)
    (hQ : ∀ (h' : Heap) (tk : Nat) (acc : Array Value), (∀ b o, s.heap.get? b = some o → h'.get? b = some o) → ItemsOf P acc n → Q (.ref h'.objs.size) { s with heap := h'.push { cls := .type "tuple", data := .seq acc }, toks := tk }) :
    wpAny (model prog w) A (call (.type "tuple") [.ref r]) Q E s := by
  refine callType_codes (Q₁ := fun obj s1 => s1.TypeIs obj "tuple" ∧ Q obj s1) F.called_tuple (F.typeCall_tuple_1 _) F.entry_object_init (cod A.in1 _ hh fun h' tk acc hk hacc => ⟨⟨_, Heap.get?_push_size _ rfl, rfl⟩, hQ h' tk acc hk hacc⟩) ?_
  intro obj s1 h1
  exact ⟨h1.1, F.args_object_init_2 obj _, object_init_meets F.called_tuple.init.lookup F.called_tuple.made (by decide) prog w A.in1 _ s1 ⟨h1.1, rfl, h1.2⟩⟩
theorem code_tuple_dict {Q₁ : Value → Shared → Prop} (K : PySem.W.KdlSrc prog w "dict" r d n P OK) (hh : A.handled = none) (hok : OK s.heap) (hn : n ≤ sizeLine)
    (h : ∀ (h' : Heap) (tk : Nat) (acc : Array Value), (∀ b o, s.heap.get? b = some o → h'.get? b = some o) → ItemsOf P acc n → Q₁ (.ref h'.objs.size) { s with heap := h'.push { cls := .type "tuple", data := .seq acc }, toks := tk }) :
    codeAny (model prog w) A (.call (.builtin "tuple.__new__") ⟨[.type "tuple", .ref r], []⟩) (wants Q₁ E) s := by
  refine codeAny_of_tree ?_
  show wpAny _ A.in1 (do checkBuiltinCall "tuple.__new__" ⟨[.type "tuple", .ref r], []⟩; again (.builtin "tuple.__new__" ⟨[.type "tuple", .ref r], []⟩)) (_) (_) s
  refine wpAny_bind (wpAny_of_eq (F.newCall_tuple_1 _) ?_)
  refine wpAny_pure ⟨plainId_quiet F.plain_tuple_new _, codeAny_builtin F.entry_tuple_new ?_⟩; rw [Around.under_plainId F.plain_tuple_new _]
  have z1 := sub_tuple_self; have z2 := init_tuple_lookup; have z3 := madeHere_tuple
  have hTI : s.TypeIs (.ref r) "dict" := K.type _ hok
  have hh1 : A.in1.handled = none := hh
  wp_walk using wpAny_typeOf hTI, collect_src (A := A.in1) K hh1 hok hn
  intro h' tk acc hk hacc
  show wpAny _ _ (Builtin.Tuple.tupleExact acc.toList.toArray >>= fun v => ret v) (_) _ _
  unfold Builtin.Tuple.tupleExact; refine wpAny_bind (wpAny_newObj_type ?_ (by show acc.toList.toArray.size ≤ sizeLine; simp only [Array.toArray_toList]; rw [hacc.1]; exact hn)); refine wpAny_pure ?_
  rw [show acc.toList.toArray = acc by simp]
  exact h h' tk acc hk hacc
end
section
variable {X : Cx} {S : Sg}
theorem call_tuple_dK (hc : X.calm = true) : CallR X (.type "tuple") (fun xs H Q => ∃ p kvs, xs = [.ref p] ∧ Rd H p (.dK kvs) ∧ ∀ q, H q = none → Q (.ref q) (upd H q (.tup (kvs.map fun kv => kV kv.1)))) := by
  rintro pins s σ H xs us Q I r ⟨p, kvs, rfl, hk, q⟩
  obtain ⟨u, rfl, rx⟩ := vals1 r
  cases (show u = Value.ref p from rx)
  obtain ⟨z, lo, vs, rk, hd⟩ := hk.ok I.hok
  obtain ⟨ep, hat⟩ := hd.dictAt
  have hl : kvs.length = vs.length := Paired.length rk
  have src := PySem.W.kdl_dict (prog := X.prog) (w := X.w) (knd := mixKind X.prog X.w) (kvs := vs) (ep := ep) lo
  have hz : vs.length ≤ sizeLine := by rw [← hl]; exact z
  refine call_tuple_src src (I.ok.hd hc) hat hz (src.type _ hat) (fun A Q1 hh h => code_tuple_dict src hh hat hz h) fun h' tk acc hkeep hacc => ?_
  have I2 : Inv X pins σ H { s with heap := h', toks := tk } := I.kept (t' := tk) hkeep
  refine ⟨.ref h'.objs.size, upd H h'.objs.size (.tup (kvs.map fun kv => kV kv.1)), I2.laid (t' := tk) (fun c o e => Heap.get?_push_of_some _ e) (Nat.le_refl _) (show ObjOk X.prog X.w _ _ _ (.tup (kvs.map fun kv => kV kv.1)) from ⟨by rw [List.length_map]; exact z, acc.toList, ?_, ?_⟩), rfl, q _ (I2.hok.fresh (Nat.le_refl _))⟩
  · have el : acc.toList.length = acc.size := by simp
    refine vals_of_at (by rw [List.length_map, el, hacc.1, hl]) fun j x v h1 h2 => ?_
    obtain ⟨k, y, hky, hi⟩ := hacc.2 j v (by rw [← Array.getElem?_toList]; exact h2)
    have e1 : (kvs.map (·.1))[j]? = some k := by
      rw [KV.keys rk, List.getElem?_map, hky]; rfl
    have e2 : (kvs.map fun kv => kV kv.1) = (kvs.map (·.1)).map kV := by simp
    rw [e2, List.getElem?_map, e1] at h1
    cases h1
    exact keyIs_rel hi
  · rw [Array.toArray_toList]
    exact IsTup.new _ _
def tupleDG : VC := fun ds Q => match ds with
  | [.lst xs] => Q (.v (.tup xs))
  | [.tup xs] => Q (.v (.tup xs))
  | [.dk kvs] => Q (.v (.tup (kvs.map fun p => key p.1)))
  | _ => False
theorem keys_rp {Γ : Gm} {H : Hp} : ∀ {kv : List (Key × V)} {ds : List (Key × D)}, RpK Γ.K Γ.tp H kv ds → ∀ {H' : Hp}, Γ.RpL H' (kv.map fun p => kV p.1) (ds.map fun p => key p.1)
  | _, [], h, _ => by cases h; exact .nil
  | _, (k, d) :: ds, h, _ => by
    cases h with
    | cons h1 h2 => exact .cons (key_rp k) (keys_rp h2)
theorem c_tupleD (hK : S.K = X.K) (hc : X.calm = true) : CallV S X (.type "tuple") tupleDG := by
  refine ⟨_, call_tuple_of.or (call_tuple_dK hc), ?_⟩
  intro Γ H xs ds Q Q0 eK hx hg k
  have eK' : X.K = Γ.K := (eK.trans hK).symm
  unfold tupleDG at hg
  split at hg
  · match hx with
    | .cons h .nil =>
      obtain ⟨p, ys, rfl, h1, h2⟩ := h.seq
      refine .inl ⟨p, ys, rfl, .inl ⟨by rw [eK']; exact h1, fun l nl => ?_⟩⟩
      have sm := same_upd (o := .tup ys) nl
      exact k _ hg _ _ sm (.tup (.of upd_same) (RpL.kq (.same sm) _ _ h2))
  · match hx with
    | .cons h .nil =>
      obtain ⟨p, ys, rfl, h1, h2⟩ := h.tup
      exact .inl ⟨p, ys, rfl, .inr ⟨by rw [eK']; exact h1, k _ hg _ _ (Same.refl _) (.tup h1 h2)⟩⟩
  · match hx with
    | .cons h .nil =>
      obtain ⟨p, kv, rfl, h1, h2⟩ := h.dk
      refine .inr ⟨p, kv, rfl, h1, fun l nl => ?_⟩
      have sm := same_upd (o := .tup (kv.map fun p => kV p.1)) nl
      exact k _ hg _ _ sm (.tup (.of upd_same) (keys_rp h2))
  · exact hg.elim
end
end Va
set_option Elab.async false
set_option linter.all false
set_option maxRecDepth 100000
set_option maxHeartbeats 4000000
namespace Va
open PySem PySem.Spec PyProof.Rows L2 Ind GenW
section
variable {X : Cx} {S : Sg} {e a b o i value : Expr} {es : List Expr} {pos pos' p : Pos}
def putD (kvs : List (Key × D)) (k : Key) (v : D) : List (Key × D) := if (kvs.any fun kv => decide (kv.1 = k)) = true then kvs.map fun kv => if kv.1 = k then (kv.1, v) else kv else kvs ++ [(k, v)]
theorem RpK.put {K : PySem.W.Frag} {tp : Option Tp} {H : Hp} {k : Key} {v : V} {d : D} (r : Rp K tp H v d) {kv : List (Key × V)} {ds : List (Key × D)} (h : RpK K tp H kv ds) : RpK K tp H (putK kv k v) (putD ds k d) := by
  have any : (kv.any fun x => decide (x.1 = k)) = ds.any fun x => decide (x.1 = k) := by
    have e1 : (kv.any fun x => decide (x.1 = k)) = (kv.map (·.1)).any fun x => decide (x = k) := by rw [List.any_map]; rfl
    have e2 : (ds.any fun x => decide (x.1 = k)) = (ds.map (·.1)).any fun x => decide (x = k) := by rw [List.any_map]; rfl
    rw [e1, e2, h.keys]
  have mp : ∀ {kv : List (Key × V)} {ds : List (Key × D)}, RpK K tp H kv ds → RpK K tp H (kv.map fun x => if x.1 = k then (x.1, v) else x) (ds.map fun x => if x.1 = k then (x.1, d) else x) := by
    intro kv ds h
    induction ds generalizing kv with
    | nil => cases h; exact .nil
    | cons q ds ih =>
      obtain ⟨j, e⟩ := q
      cases h with
      | cons h1 h2 =>
        rw [List.map_cons, List.map_cons]
        by_cases hj : j = k
        · rw [if_pos (show (j, _).1 = k from hj), if_pos (show (j, e).1 = k from hj)]
          exact .cons r (ih h2)
        · rw [if_neg (show ¬ (j, _).1 = k from hj), if_neg (show ¬ (j, e).1 = k from hj)]
          exact .cons h1 (ih h2)
  unfold putK putD
  rw [any]
  split
  · exact mp h
  · exact h.app (.cons r .nil)
abbrev VMd := D → List (Key × D) → (List (Key × D) → Prop) → Prop
variable {k : Nat} {f : Addr} {fd : FuncData} {ps : List PySem.Str} {m : VMd} {x : PySem.Str}
end
section
variable {P : Program} {w : World} {K : PySem.W.Frag} {mg : PySem.Str → Option Value} {base : Heap} {S : Sg} {x qual : PySem.Str} {st : Stmt} {f : Addr} {fd : FuncData} {N ps : List PySem.Str} {k : Nat} {m : VMd} {T : VS}
end
end Va
set_option Elab.async false
set_option linter.all false
set_option maxRecDepth 100000
set_option maxHeartbeats 4000000
namespace Va
open PySem PySem.Spec PyProof.Rows L2 Ind
def spTapeV (K : PySem.W.Frag) (b : Bool) : Sp := fun vs H Q _ => ∃ (a : Addr) (ns : List Int), vs = [.ref a] ∧ SqL K H a (ns.map V.int) ∧ ns.length ≤ 63 ∧
  ∀ H' (t : Tp) (ns' : List Int), Same H H' → H t.a = none → H t.l = none → TapeV b H' t → H' t.l = some (.lst (ns'.map V.int)) → ns'.length ≤ 63 → Q (.ref t.a) H'
def Fz2 (t : Tp) (H H' : Hp) : Prop := ∀ b o, b ≠ t.a → b ≠ t.l → H b = some o → H' b = some o
def nb (b : Bool) : Nat := if b then 1 else 0
def spDrawV (b : Bool) : Sp := fun vs H Q _ => ∃ (t : Tp) (m : Int) (ns : List Int), vs = [.ref t.a, .int m] ∧ TapeV b H t ∧ H t.l = some (.lst (ns.map V.int)) ∧ (b = true → ns.length < 1000000) ∧ Dm m ∧
  ∀ H' (r : Int) (ns' : List Int), Fz2 t H H' → TapeV b H' t → H' t.l = some (.lst (ns'.map V.int)) → ns'.length ≤ ns.length + nb b → 0 ≤ r → (r < m ∨ r < 1) → Q (.int r) H'
def drawM (b : Bool) : VM := fun ds c Q => ∃ m : Int, ds = [.tape, .int m] ∧ nb b ≤ c ∧ Dm m ∧ ∀ r : Nat, ((r : Int) < m ∨ r = 0) → Q (.int r) (c - nb b)
section
variable {P : Program} {w : World} {K : PySem.W.Frag} {mg : PySem.Str → Option Value} {base : Heap} {S : Sg} {f : Addr} {fd : FuncData} {ps : List PySem.Str} {k : Nat}
theorem draw_v {CX : CXT} (F : FnOk P w K mg base CX k f fd ps (spDrawV S.b)) : FnOk P w K mg base CX k f fd ps (spV S (drawM S.b)) := by
  refine F.imp fun vs H Q E h => ?_
  obtain ⟨tp, ds, c, Q0, hv, ht, hf, hp, ⟨m, rfl, hc, hm, hq⟩, kk⟩ := h
  match vs, hv with
  | [_, _], .cons h1 (.cons h2 .nil) =>
    cases h2
    obtain ⟨t, rfl, rfl⟩ := h1.tape_inv
    have tv := ht t rfl
    obtain ⟨ns, p, n, z, a1, a2, a3⟩ := id tv
    have few := hf t _ rfl a2
    rw [List.length_map] at few
    refine ⟨t, m, ns, rfl, tv, a2, fun e => ?_, hm, fun H' r ns' fz tv' l' len r0 r1 => ?_⟩
    · rw [e] at hc
      have : 1 ≤ c := hc
      omega
    · obtain ⟨r, rfl⟩ := Int.eq_ofNat_of_zero_le r0
      refine kk _ _ (hq r (by omega)) _ _ ⟨fun b o nsp hb => fz b o (fun e => nsp (.inl ⟨t, rfl, .inl e⟩)) (fun e => nsp (.inl ⟨t, rfl, .inr e⟩)) hb, fun t' e => by cases e; exact tv', fun t' xs e hx => ?_, fun P hP => ?_⟩ (.int _)
      · cases e
        rw [l'] at hx
        cases hx
        rw [List.length_map]
        omega
      · obtain ⟨q, b1, b2⟩ := hp P hP
        exact ⟨q, fz _ _ (ne_of b1 a1 (fun z => nomatch z)) (ne_of b1 a2 (fun z => nomatch z)) b1, b2⟩
def spLawT (K : PySem.W.Frag) (tabs : List Addr) : Sp := fun vs H Q _ => ∃ (a : Addr) (ns : List Int), vs = [.ref a] ∧ SqL K H a (ns.map V.int) ∧ ns.length ≤ 63 ∧ (∀ P ∈ tabs, GxR.TabG H P) ∧ ∀ H', Q (.bl true) H'
def endL : Ve := { nx := fun _ => False, rt := fun d _ => d = .bl true }
def lawE (N : List PySem.Str) : En := ⟨.no :: .v .tape :: List.replicate (N.length - 2) .no, 999000⟩
theorem law_rest {X : Cx} {rest : List Stmt} {T : VS} {N : List PySem.Str} {vs : List V} {H : Hp} {Q : VK} {E : XK} {first : Stmt} {i0 : Nat} (hK : S.K = X.K) (hN2 : 2 ≤ N.length)
    (h1 : PS X first (tAsg (tCall (spTapeV X.K S.b) [] E0 (tCons (tVar 0) tNil)) (gName 1))) (h2 : VSs S X rest T) (h : T endL (lawE N)) (sp : spLawT S.K S.tabs vs H Q E) :
    ∃ t, PSs X (first :: rest) t ∧ t { nx := fun _ H' => Q .non H', rt := Q } (L2.start N vs) H := by
  obtain ⟨a, ns, rfl, hS, hl, htb, hq⟩ := sp
  refine ⟨_, pss_cons h1 h2, ?_⟩
  have e0 : (L2.start N [V.ref a])[0]? = some (some (.ref a)) := rfl
  refine ⟨_, e0, a, ns, rfl, by rw [← hK]; exact hS, hl, fun H' t ns' sm n1 n2 tv l' len => ?_⟩
  refine ⟨⟨S.K, S.b, some t, S.tabs, [], H'⟩, lawE N, endL, ⟨rfl, rfl, rfl⟩, ?_, h, fun E1 z => z.elim, fun d E1 e v σ1 H1 q1 r1 rv => ?_, fun _ z => z.elim, fun _ z => z.elim⟩
  · refine ⟨⟨fun _ _ _ _ z => z, Kq.refl _, fun t' e => by cases e; exact tv, fun P hP => ?_⟩, ?_, fun t' xs e hx => ?_, fun i s e => ?_, fun i j s t' c e1 e2 o1 _ _ _ => ?_⟩
    · obtain ⟨q, b1, b2⟩ := htb P hP
      exact ⟨q, sm _ _ b1, b2⟩
    · simp [lawE, L2.start]
      omega
    · cases e
      rw [l'] at hx
      cases hx
      rw [List.length_map]
      show ns'.length + 999000 ≤ 1000000
      omega
    · match i with
      | 0 => cases e; exact ⟨some (.ref a), rfl, trivial⟩
      | 1 =>
        cases e
        refine ⟨some (.ref t.a), ?_, .ref t.a, rfl, .tape rfl⟩
        show ((L2.start N [V.ref a]).set 1 _)[1]? = _
        rw [List.getElem?_set_self]
        simp [L2.start]
        omega
      | i + 2 =>
        have e : (List.replicate (N.length - 2) SV.no)[i]? = some s := e
        rw [List.getElem?_replicate] at e
        split at e
        · rename_i hl2
          cases e
          refine ⟨none, ?_, trivial⟩
          show ((L2.start N [V.ref a]).set 1 _)[i + 2]? = _
          rw [List.getElem?_set_ne (by omega)]
          show (List.replicate (N.length - 1) none)[i + 1]? = some none
          rw [List.getElem?_replicate, if_pos (by omega)]
        · cases e
    · have nown : ∀ (i : Nat) (s : SV), (lawE N).l[i]? = some s → s.own = false := fun i s e => by
        match i with
        | 0 => cases e; rfl
        | 1 => cases e; rfl
        | i + 2 =>
          have e : (List.replicate (N.length - 2) SV.no)[i]? = some s := e
          rw [List.getElem?_replicate] at e
          split at e
          · cases e; rfl
          · cases e
      rw [nown i s e1] at o1
      cases o1
  · have e : d = .bl true := e
    subst e
    cases rv
    exact hq _
end
end Va
set_option Elab.async false
set_option linter.all false
set_option maxRecDepth 100000
set_option maxHeartbeats 4000000
namespace Va
open PySem PySem.Spec PyProof.Rows L2 Ind
section
variable {X : Cx} {S : Sg} {e a b o : Expr} {pos p : Pos}
theorem hu65 {A : Around} {k : Nat} (r : Room k A) : A.units + 65 < cLine := by have := r.un; omega
end
end Va
set_option Elab.async false
set_option linter.all false
set_option maxRecDepth 100000
set_option maxHeartbeats 4000000
namespace Va
open PySem PySem.Spec PyProof.Rows L2 Ind
theorem in_strsD (x : Tx) : ∀ xs : List Tx, ((xs.map D.str).any fun y => D.eqf y (.str x)) = decide (x ∈ xs)
  | [] => rfl
  | y :: xs => by
    show (D.eqf (.str y) (.str x) || (xs.map D.str).any fun y => D.eqf y (.str x)) = _
    rw [in_strsD x xs]
    show ((y == x) || decide (x ∈ xs)) = _
    by_cases h : y = x
    · subst h
      simp
    · have h1 : (y == x) = false := beq_eq_false_iff_ne.mpr h
      rw [h1, Bool.false_or]
      exact decide_eq_decide.mpr ⟨fun m => List.mem_cons_of_mem _ m, fun m => (List.mem_cons.mp m).elim (fun e => absurd e.symm h) id⟩
theorem both {p : Bool} {A B : Prop} (h1 : p = true → A) (h2 : p = false → B) : (p = true → A) ∧ (p = false → B) := ⟨h1, h2⟩
end Va
namespace Va
open PySem PySem.Spec PyProof.Rows L2 Ind
theorem pickD {l : List D} {i : Nat} (h : i < l.length) : ∃ x, atI l (i : Int) = some x ∧ x ∈ l := ⟨l[i], atI_nat (List.getElem?_eq_getElem h), List.getElem_mem h⟩
theorem pickI {α : Type} {l : List α} {i : Int} (h0 : 0 ≤ i) (h : i < (l.length : Int)) : ∃ x, atI l i = some x ∧ x ∈ l := by
  obtain ⟨n, rfl⟩ := Int.eq_ofNat_of_zero_le h0
  exact ⟨l[n]'(by omega), atI_nat (List.getElem?_eq_getElem (by omega)), List.getElem_mem _⟩
theorem sign_at {x : Tx} {i : Int} (h0 : 0 ≤ i) (h : i < (x.length : Int)) : ∃ c, atI x.cps.toList i = some c := by
  obtain ⟨c, e, _⟩ := pickI (l := x.cps.toList) h0 (by rw [← codes_len]; exact h)
  exact ⟨c, e⟩
theorem one_len (c : Nat) : (⟨#[c]⟩ : Tx).length = 1 := rfl
theorem str_mem {P : Tx → Prop} {x : D} {l : List D} (m : x ∈ l) (h : ∀ y ∈ l, ∃ s, y = .str s ∧ P s) : ∃ s, x = .str s ∧ P s := h x m
theorem int_mem {P : Int → Prop} {x : D} {l : List D} (m : x ∈ l) (h : ∀ y ∈ l, ∃ s, y = .int s ∧ P s) : ∃ s, x = .int s ∧ P s := h x m
end Va
namespace Va
open PySem PySem.Spec PyProof.Rows L2 Ind
section
variable {p A B : Prop} [Decidable p]
theorem skipT (h : ¬ p) (b : B) : (decide p = true → A) ∧ (decide p = false → B) := ⟨fun e => absurd (of_decide_eq_true e) h, fun _ => b⟩
theorem skipF (h : p) (a : A) : (decide p = true → A) ∧ (decide p = false → B) := ⟨fun _ => a, fun e => absurd h (of_decide_eq_false e)⟩
theorem bothD (h1 : p → A) (h2 : ¬ p → B) : (decide p = true → A) ∧ (decide p = false → B) := ⟨fun e => h1 (of_decide_eq_true e), fun e => h2 (of_decide_eq_false e)⟩
theorem wayT {A B : Prop} (a : A) : (true = true → A) ∧ (true = false → B) := ⟨fun _ => a, fun z => (by cases z)⟩
theorem wayF {A B : Prop} (b : B) : (false = true → A) ∧ (false = false → B) := ⟨fun z => (by cases z), fun _ => b⟩
end
end Va
set_option Elab.async false
set_option linter.all false
set_option maxRecDepth 100000
set_option maxHeartbeats 4000000
namespace Va
open PySem PySem.Spec PyProof.Rows L2 Ind
inductive Fc where
  | com (n : Tx)
  | one (ns : List Tx)
  | neg (f : Fc)
  | all (fs : List Fc)
  | any (fs : List Fc)
  | imp (a b : Fc)
  | tt
  | ff
mutual
def Fc.d : Fc → D
  | .com n => .tup [.str "commits", .str n]
  | .one ns => .tup [.str "one of", .tup (ns.map .str)]
  | .neg f => .tup [.str "not", f.d]
  | .all fs => .tup [.str "and", .tup (Fc.dL fs)]
  | .any fs => .tup [.str "or", .tup (Fc.dL fs)]
  | .imp a b => .tup [.str "implies", a.d, b.d]
  | .tt => .tup [.str "true"]
  | .ff => .tup [.str "false"]
def Fc.dL : List Fc → List D
  | [] => []
  | f :: fs => f.d :: Fc.dL fs
end
theorem Fc.dL_map : ∀ fs : List Fc, Fc.dL fs = fs.map Fc.d
  | [] => rfl
  | f :: fs => by show f.d :: Fc.dL fs = f.d :: fs.map Fc.d; rw [Fc.dL_map fs]
mutual
def Fc.dep : Fc → Nat
  | .com _ => 0
  | .one _ => 0
  | .neg f => f.dep + 1
  | .all fs => Fc.depL fs + 1
  | .any fs => Fc.depL fs + 1
  | .imp a b => max a.dep b.dep + 1
  | .tt => 0
  | .ff => 0
def Fc.depL : List Fc → Nat
  | [] => 0
  | f :: fs => max f.dep (Fc.depL fs)
end
theorem Fc.depL_le {n : Nat} : ∀ {fs : List Fc}, (∀ f ∈ fs, f.dep ≤ n) → Fc.depL fs ≤ n
  | [], _ => Nat.zero_le _
  | f :: fs, h => Nat.max_le.mpr ⟨h f (List.mem_cons_self ..), Fc.depL_le fun g hg => h g (List.mem_cons_of_mem _ hg)⟩
theorem Fc.dep_mem : ∀ {fs : List Fc} {f : Fc}, f ∈ fs → f.dep ≤ Fc.depL fs
  | g :: fs, f, h => by
    show f.dep ≤ max g.dep (Fc.depL fs)
    rcases List.mem_cons.mp h with rfl | h
    · exact Nat.le_max_left _ _
    · exact Nat.le_trans (Fc.dep_mem h) (Nat.le_max_right _ _)
mutual
def Fc.names : Fc → List Tx
  | .com n => [n]
  | .one ns => ns
  | .neg f => f.names
  | .all fs => Fc.namesL fs
  | .any fs => Fc.namesL fs
  | .imp a b => a.names ++ b.names
  | .tt => []
  | .ff => []
def Fc.namesL : List Fc → List Tx
  | [] => []
  | f :: fs => f.names ++ Fc.namesL fs
end
end Va
namespace Va
open PySem PySem.Spec PyProof.Rows L2 Ind
end Va
set_option Elab.async false
set_option linter.all false
set_option maxRecDepth 100000
set_option maxHeartbeats 4000000
namespace Va
open PySem PySem.Spec PyProof.Rows L2 Ind RT
section
variable {prog : Program} {w : World} {A : Around} {E : Value → Shared → Prop} {s : Shared} {I l : Addr} {xs : Array Value}
end
section
variable {X : Cx} {pins : List (Addr × Obj)} {σ : L2.St} {H : Hp} {s : Shared} {h' : Heap}
end
section
variable {X : Cx} {e : Expr} {te : TE} {p p2 pos pos2 : Pos}
end
section
variable {X : Cx} {S : Sg} {e tg : Expr} {t : VT} {p p2 pos pos2 : Pos}
end
end Va
set_option Elab.async false
set_option linter.all false
set_option maxRecDepth 100000
set_option maxHeartbeats 4000000
namespace Va
open PySem PySem.Spec PyProof.Rows L2 Ind
mutual
def Fc.wid : Fc → Nat
  | .com _ => 0
  | .one ns => ns.length
  | .neg f => f.wid
  | .all fs => max fs.length (Fc.widL fs)
  | .any fs => max fs.length (Fc.widL fs)
  | .imp a b => max a.wid b.wid
  | .tt => 0
  | .ff => 0
def Fc.widL : List Fc → Nat
  | [] => 0
  | f :: fs => max f.wid (Fc.widL fs)
end
mutual
def Fc.tr (p : Tx → Bool) : Fc → Bool
  | .com n => p n
  | .one ns => decide ((ns.filter p).length = 1)
  | .neg f => !f.tr p
  | .all fs => Fc.trA p fs
  | .any fs => Fc.trO p fs
  | .imp a b => !a.tr p || b.tr p
  | .tt => true
  | .ff => false
def Fc.trA (p : Tx → Bool) : List Fc → Bool
  | [] => true
  | f :: fs => f.tr p && Fc.trA p fs
def Fc.trO (p : Tx → Bool) : List Fc → Bool
  | [] => false
  | f :: fs => f.tr p || Fc.trO p fs
end
theorem Fc.trA_all (p : Tx → Bool) : ∀ fs : List Fc, Fc.trA p fs = fs.all (Fc.tr p)
  | [] => rfl
  | f :: fs => by show (f.tr p && Fc.trA p fs) = (f.tr p && fs.all (Fc.tr p)); rw [Fc.trA_all p fs]
theorem Fc.trO_any (p : Tx → Bool) : ∀ fs : List Fc, Fc.trO p fs = fs.any (Fc.tr p)
  | [] => rfl
  | f :: fs => by show (f.tr p || Fc.trO p fs) = (f.tr p || fs.any (Fc.tr p)); rw [Fc.trO_any p fs]
theorem rng_at {lo : Int} {n i : Nat} {d : D} (e : (rng lo n)[i]? = some d) : d = .int (lo + i) ∧ i < n := by
  have hi := (List.getElem?_eq_some_iff.mp e).1
  simp only [rng, List.length_map, List.length_range] at hi
  refine ⟨?_, hi⟩
  unfold rng at e
  rw [List.getElem?_map, List.getElem?_range hi] at e
  exact (Option.some.inj e).symm
end Va
set_option Elab.async false
set_option linter.all false
set_option maxRecDepth 100000
set_option maxHeartbeats 4000000
namespace Va
open PySem PySem.Spec PyProof.Rows L2 Ind
section
variable {X : Cx} {S : Sg} {e : Expr} {t : VT}
theorem RpW.un {Γ : Gm} {H : Hp} {v : V} {d : D} (h : RpW Γ H v d) : RpW Γ H v d.un := by
  cases h with
  | v h => exact .v (Rp.un h)
  | l h1 h2 => exact .l h1 h2
  | k h1 h2 => exact .k h1 h2
def okD : D → Prop
  | .int _ => True
  | .str _ => True
  | _ => False
def dLt : D → D → Bool
  | .int i, .int j => decide (i < j)
  | .int _, .str _ => true
  | .str x, .str y => decide (x.cps.toList < y.cps.toList)
  | _, _ => false
end
end Va
set_option Elab.async false
set_option linter.all false
set_option maxRecDepth 100000
set_option maxHeartbeats 4000000
namespace Va
open PySem PySem.Spec PyProof.Rows L2 Ind
inductive Cd where
  | s
  | n (b : Int)
def Cd.d : Cd → D
  | .s => .tup [.str "string"]
  | .n b => .tup [.str "integer", .int b]
def Cd.w : Cd → Tx
  | .s => "string"
  | .n _ => "integer"
def Cd.ok : Cd → Prop
  | .s => True
  | .n b => 0 ≤ b ∧ b ≤ 1000000000000
abbrev Col := Tx × Cd
def colD (p : Col) : D := .tup [.str p.1, p.2.d]
def valOk : Cd → D → Prop
  | .s, v => ∃ x, v = .str x
  | .n _, v => ∃ i, v = .int i
inductive Op where
  | col (n : Tx)
  | num (i : Int)
  | txt (x : Tx)
def Op.d : Op → D
  | .col n => .tup [.str "column", .str n]
  | .num i => .tup [.str "integer", .int i]
  | .txt x => .tup [.str "string", .str x]
def sgnD : Bool → Tx
  | true => "+"
  | false => "-"
abbrev Ex := List (Bool × Op)
def termD (t : Bool × Op) : D := .tup [.str (sgnD t.1), t.2.d]
def exD (e : Ex) : D := .tup (e.map termD)
def fits (cs : List Col) (w : Tx) : Op → Prop
  | .col n => ∃ k : Cd, (n, k) ∈ cs ∧ k.w = w
  | .num _ => w = "integer"
  | .txt _ => w = "string"
structure ExOk (cs : List Col) (w : Tx) (e : Ex) : Prop where
  ne : e ≠ []
  fit : ∀ t ∈ e, fits cs w t.2
  one : w = "string" → e.length = 1
  len : e.length ≤ 20
  word : w = "string" ∨ w = "integer"
inductive Fm where
  | cmp (sg : Tx) (l r : Ex)
  | neg (f : Fm)
  | all (fs : List Fm)
  | any (fs : List Fm)
  | imp (a b : Fm)
  | tt
  | ff
mutual
def Fm.d : Fm → D
  | .cmp sg l r => .tup [.str "compare", .str sg, exD l, exD r]
  | .neg f => .tup [.str "not", f.d]
  | .all fs => .tup [.str "and", .tup (Fm.dL fs)]
  | .any fs => .tup [.str "or", .tup (Fm.dL fs)]
  | .imp a b => .tup [.str "implies", a.d, b.d]
  | .tt => .tup [.str "true"]
  | .ff => .tup [.str "false"]
def Fm.dL : List Fm → List D
  | [] => []
  | f :: fs => f.d :: Fm.dL fs
end
theorem Fm.dL_map : ∀ fs : List Fm, Fm.dL fs = fs.map Fm.d
  | [] => rfl
  | f :: fs => by show f.d :: Fm.dL fs = f.d :: fs.map Fm.d; rw [Fm.dL_map fs]
mutual
def Fm.dep : Fm → Nat
  | .cmp _ _ _ => 0
  | .neg f => f.dep + 1
  | .all fs => Fm.depL fs + 1
  | .any fs => Fm.depL fs + 1
  | .imp a b => max a.dep b.dep + 1
  | .tt => 0
  | .ff => 0
def Fm.depL : List Fm → Nat
  | [] => 0
  | f :: fs => max f.dep (Fm.depL fs)
end
theorem Fm.depL_le {n : Nat} : ∀ {fs : List Fm}, (∀ f ∈ fs, f.dep ≤ n) → Fm.depL fs ≤ n
  | [], _ => Nat.zero_le _
  | f :: fs, h => Nat.max_le.mpr ⟨h f (List.mem_cons_self ..), Fm.depL_le fun g hg => h g (List.mem_cons_of_mem _ hg)⟩
theorem Fm.dep_mem : ∀ {fs : List Fm} {f : Fm}, f ∈ fs → f.dep ≤ Fm.depL fs
  | g :: fs, f, h => by
    show f.dep ≤ max g.dep (Fm.depL fs)
    rcases List.mem_cons.mp h with rfl | h
    · exact Nat.le_max_left _ _
    · exact Nat.le_trans (Fm.dep_mem h) (Nat.le_max_right _ _)
def ops : List Tx := ["=", "!=", "<", "<=", ">", ">="]
mutual
def Fm.ok (cs : List Col) : Fm → Prop
  | .cmp sg l r => sg ∈ ops ∧ ∃ w, ExOk cs w l ∧ ExOk cs w r
  | .neg f => f.ok cs
  | .all fs => fs.length ≤ 50 ∧ Fm.okL cs fs
  | .any fs => fs.length ≤ 50 ∧ Fm.okL cs fs
  | .imp a b => a.ok cs ∧ b.ok cs
  | .tt => True
  | .ff => True
def Fm.okL (cs : List Col) : List Fm → Prop
  | [] => True
  | f :: fs => f.ok cs ∧ Fm.okL cs fs
end
def intOf : D → Int
  | .int i => i
  | _ => 0
def ev (nm : List Tx) (row : List D) : Op → D
  | .col n => (row[nm.idxOf n]?).getD .non
  | .num i => .int i
  | .txt x => .str x
def sg1 (b : Bool) (i : Int) : Int := if b then i else -i
def sumV (nm : List Tx) (row : List D) : Ex → Int
  | [] => 0
  | t :: e => sg1 t.1 (intOf (ev nm row t.2)) + sumV nm row e
def exV (nm : List Tx) (row : List D) (e : Ex) : D := match e with
  | [t] => ev nm row t.2
  | e => .int (sumV nm row e)
def cmpI (l r : D) : Int := if dLt l r = true then -1 else if dLt r l = true then 1 else 0
def fitB (sg : Tx) (o : Int) : Bool :=
  if sg = "=" then decide (o = 0) else if sg = "!=" then decide (¬ o = 0) else if sg = "<" then decide (o < 0) else if sg = "<=" then decide (o ≤ 0) else if sg = ">" then decide (0 < o) else decide (0 ≤ o)
mutual
def Fm.tr (nm : List Tx) (row : List D) : Fm → Bool
  | .cmp sg l r => fitB sg (cmpI (exV nm row l) (exV nm row r))
  | .neg f => !f.tr nm row
  | .all fs => Fm.trA nm row fs
  | .any fs => Fm.trO nm row fs
  | .imp a b => !a.tr nm row || b.tr nm row
  | .tt => true
  | .ff => false
def Fm.trA (nm : List Tx) (row : List D) : List Fm → Bool
  | [] => true
  | f :: fs => f.tr nm row && Fm.trA nm row fs
def Fm.trO (nm : List Tx) (row : List D) : List Fm → Bool
  | [] => false
  | f :: fs => f.tr nm row || Fm.trO nm row fs
end
theorem Fm.trA_all (nm : List Tx) (row : List D) : ∀ fs : List Fm, Fm.trA nm row fs = fs.all (Fm.tr nm row)
  | [] => rfl
  | f :: fs => by show (f.tr nm row && Fm.trA nm row fs) = (f.tr nm row && fs.all (Fm.tr nm row)); rw [Fm.trA_all nm row fs]
theorem Fm.trO_any (nm : List Tx) (row : List D) : ∀ fs : List Fm, Fm.trO nm row fs = fs.any (Fm.tr nm row)
  | [] => rfl
  | f :: fs => by show (f.tr nm row || Fm.trO nm row fs) = (f.tr nm row || fs.any (Fm.tr nm row)); rw [Fm.trO_any nm row fs]
structure RowOk (cs : List Col) (row : List D) : Prop where
  nd : (cs.map (·.1)).Nodup
  len : row.length = cs.length
  val : ∀ (i : Nat) (p : Col) (v : D), cs[i]? = some p → row[i]? = some v → valOk p.2 v
def wordOk (w : Tx) (v : D) : Prop := (w = "string" ∧ ∃ x, v = .str x) ∨ (w = "integer" ∧ ∃ i, v = .int i)
end Va
namespace Va
open PySem PySem.Spec PyProof.Rows L2 Ind
def tOk (x : Tx) : Prop := ∀ c ∈ x.cps.toList, c < 0x110000
theorem tOk.ok {x : Tx} (h : tOk x) : PyData.strOk x = true := by
  unfold PyData.strOk
  rw [Array.all_eq_true']
  intro c hc
  exact decide_eq_true (h c (by simpa using hc))
theorem tOk_app {x y : Tx} (h : tOk x) (h2 : tOk y) : tOk (x ++ y) := fun c hc => by
  have hc : c ∈ (x.cps ++ y.cps).toList := hc
  rw [Array.toList_append] at hc
  rcases List.mem_append.mp hc with z | z
  · exact h c z
  · exact h2 c z
theorem atI_mem {α : Type} {l : List α} {i : Int} {x : α} (e : atI l i = some x) : x ∈ l := by
  unfold L2.atI at e
  cases h : ixN l.length i with
  | none => rw [h] at e; cases e
  | some j => rw [h] at e; exact List.mem_of_getElem? e
theorem tOk_one {x : Tx} {i : Int} {c : Nat} (h : tOk x) (e : atI x.cps.toList i = some c) : tOk ⟨#[c]⟩ := fun d hd => by
  have hd : d ∈ [c] := hd
  cases List.mem_singleton.mp hd
  exact h c (atI_mem e)
theorem tOk_of {x : Tx} (h : (x.cps.toList.all fun c => decide (c < 0x110000)) = true) : tOk x := fun c hc => of_decide_eq_true (List.all_eq_true.mp h c hc)
def Op.tok : Op → Prop
  | .col n => tOk n
  | .num _ => True
  | .txt x => tOk x
end Va
namespace Va
open PySem PySem.Spec PyProof.Rows L2 Ind
theorem wordOk.okD {w : Tx} {v : D} (h : wordOk w v) : okD v := by
  rcases h with ⟨_, x, rfl⟩ | ⟨_, i, rfl⟩ <;> trivial
end Va
namespace Va
open PySem PySem.Spec PyProof.Rows L2 Ind
end Va
set_option Elab.async false
set_option linter.all false
set_option maxRecDepth 100000
set_option maxHeartbeats 4000000
namespace Va
open PySem PySem.Spec PyProof.Rows L2 Ind
section
variable {X : Cx} {S : Sg} {e o a : Expr} {p p2 pos pos2 apos cpos : Pos}
end
end Va
set_option Elab.async false
set_option linter.all false
set_option maxRecDepth 100000
set_option maxHeartbeats 4000000
namespace Va
open PySem PySem.Spec PyProof.Rows L2 Ind
def D.sm : Nat → D → Prop
  | 0, _ => False
  | n + 1, d => match d with
    | .tup xs => xs.length < 1000000 ∧ ∀ x ∈ xs, D.sm n x
    | .lst xs => xs.length < 1000000 ∧ ∀ x ∈ xs, D.sm n x
    | .dk kvs => D.sm n (.lst (kvs.map fun p => key p.1)) ∧ D.sm n (.lst (kvs.map fun p => p.2))
    | .non => True
    | .bl _ => True
    | .int _ => True
    | .str _ => True
    | _ => False
end Va
set_option Elab.async false
set_option linter.all false
set_option maxRecDepth 100000
set_option maxHeartbeats 4000000
namespace Va
open PySem PySem.Spec PyProof.Rows L2 Ind
section
variable {X : Cx} {S : Sg} {e o a b i value : Expr} {p p2 pos pos2 pos' apos cpos : Pos}
theorem merge_new : ∀ (more kvs : List (Key × V)), (∀ p ∈ more, valV kvs p.1 = none) → (more.map (·.1)).Nodup → mergeK kvs more = kvs ++ more
  | [], kvs, _, _ => by simp [mergeK]
  | p :: more, kvs, h, nd => by
    have nd' := List.nodup_cons.mp nd
    show mergeK (putK kvs p.1 p.2) more = _
    rw [putK_new _ (h p (by simp)), merge_new more _ (fun r hr => ?_) nd'.2]
    · simp
    · rw [valV_snoc _ _ _ _ (h p (by simp)), if_neg (fun e => nd'.1 (by show p.1 ∈ _; rw [← e]; exact List.mem_map_of_mem hr))]
      exact h r (by simp [hr])
end
end Va
set_option Elab.async false
set_option linter.all false
set_option maxRecDepth 100000
set_option maxHeartbeats 4000000
namespace SrtB
open PySem PyProof.Rows Srt SrtO
section
variable {prog : Program} {w : World} {A : Around} {E : Value → Shared → Prop} {s : Shared}
def IsSB (h : Heap) (v : Value) (p : Str × Bool) : Prop := ∃ a o t n, v = .ref a ∧ h.get? a = some o ∧ o.cls = .type "tuple" ∧ o.data = .seq #[.str p.1 t, .bool p.2] n
theorem IsSB.keeps {h h' : Heap} {v : Value} {x : Str × Bool} (p : IsSB h v x) (k : ∀ b o, h.get? b = some o → o.cls = .type "tuple" → h'.get? b = some o) : IsSB h' v x := by
  obtain ⟨a, o, t, n, e, ho, hc, hd⟩ := p
  exact ⟨a, o, t, n, e, k _ _ ho hc, hc, hd⟩
theorem IsSB.inj {h : Heap} {v : Value} {p q : Str × Bool} (x : IsSB h v p) (y : IsSB h v q) : p = q := by
  obtain ⟨a, o, t, n, e, ho, hc, hd⟩ := x
  obtain ⟨a', o', t', n', e', ho', hc', hd'⟩ := y
  have ea : a = a' := Value.ref.inj (e.symm.trans e')
  subst ea
  have eo : o = o' := Option.some.inj (ho.symm.trans ho')
  subst eo
  have ed := (Data.seq.inj (hd.symm.trans hd')).1
  have el := congrArg Array.toList ed
  have e1 := (List.cons.inj el).1
  have e2 := (List.cons.inj (List.cons.inj el).2).1
  exact Prod.ext (Value.str.inj e1).1 (Value.bool.inj e2)
def ltS (a b : Str) : Bool := decide (a.cps.toList < b.cps.toList)
end
end SrtB
namespace L2
open PySem PySem.Spec PyProof.Rows SrtB
abbrev PrSB (K : PySem.W.Frag) (H : Hp) (v : V) (p : Str × Bool) : Prop := ∃ t, v = V.ref t ∧ SqT K H t [.str p.1, .bl p.2]
section
variable {X : Cx}
theorem Inv.sb {pins : List (Addr × Obj)} {σ : St} {H : Hp} {s : Shared} (I : Inv X pins σ H s) {v : V} {u : Value} {p : Str × Bool} (h : PrSB X.K H v p) (r : RelV v u) : IsSB s.heap u p := by
  obtain ⟨t, rfl, hs⟩ := h
  obtain ⟨its, rv, ⟨o, e, hc, n, hd⟩, _⟩ := I.tuple hs
  obtain rfl : u = Value.ref t := r
  obtain ⟨u1, u2, rfl, r1, r2⟩ := vals2 rv
  obtain ⟨t1, rfl⟩ := r1
  obtain rfl : u2 = Value.bool p.2 := r2
  exact ⟨t, o, t1, n, rfl, e, hc, hd⟩
end
end L2
namespace Va
open PySem PySem.Spec PyProof.Rows L2 Ind SrtB
section
variable {X : Cx} {S : Sg} {e o a b c i value : Expr} {p p2 pos pos2 : Pos}
end
end Va
set_option Elab.async false
set_option linter.all false
set_option maxRecDepth 100000
set_option maxHeartbeats 4000000
namespace Va
open PySem PySem.Spec PyProof.Rows L2 Ind
inductive Stg where
  | res (i : Int)
  | ask (x : Tx) (a b : Stg)
def Stg.d : Stg → D
  | .res i => .tup [.str "result", .int i]
  | .ask x a b => .tup [.str "ask", .str x, a.d, b.d]
def Stg.dep : Stg → Nat
  | .res _ => 0
  | .ask _ a b => max a.dep b.dep + 1
def Stg.to (r : List Tx) : Stg → Int
  | .res i => i
  | .ask x a b => if x ∈ r then a.to r else b.to r
end Va
set_option Elab.async false
set_option linter.all false
set_option maxRecDepth 100000
set_option maxHeartbeats 4000000
namespace IndEnd
open PySem PySem.Spec PyProof.Rows L2
end IndEnd
set_option Elab.async false
set_option linter.all false
set_option maxRecDepth 100000
set_option maxHeartbeats 4000000
namespace Va
open PySem PySem.Spec PyProof.Rows L2 Ind
section
variable {X : Cx} {S : Sg} {e o a b i value : Expr} {p p2 pos pos2 pos' apos cpos : Pos}
end
end Va
set_option Elab.async false
set_option linter.all false
set_option maxRecDepth 100000
set_option maxHeartbeats 4000000
namespace Va
open PySem PySem.Spec PyProof.Rows L2 Ind
abbrev Cm := Tx × Ex × Ex
def Cm.d (p : Cm) : D := (Fm.cmp p.1 p.2.1 p.2.2).d
mutual
def Fm.cms : Fm → List Cm
  | .cmp sg l r => [(sg, l, r)]
  | .neg f => f.cms
  | .all fs => Fm.cmsL fs
  | .any fs => Fm.cmsL fs
  | .imp a b => a.cms ++ b.cms
  | .tt => []
  | .ff => []
def Fm.cmsL : List Fm → List Cm
  | [] => []
  | f :: fs => f.cms ++ Fm.cmsL fs
end
def exCols (e : Ex) : List Tx := e.filterMap fun t => match t.2 with
  | .col n => some n
  | _ => none
def cmCols (p : Cm) : List Tx := exCols (p.2.1 ++ p.2.2)
def cmsCols (l : List Cm) : List Tx := l.flatMap cmCols
def Fm.cols (f : Fm) : List Tx := cmsCols f.cms
end Va
set_option Elab.async false
set_option linter.all false
set_option maxRecDepth 100000
set_option maxHeartbeats 4000000
namespace Va
open PySem PySem.Spec PyProof.Rows L2 Ind
end Va
set_option Elab.async false
set_option linter.all false
set_option maxRecDepth 100000
set_option maxHeartbeats 4000000
namespace Va
open PySem PySem.Spec PyProof.Rows L2 Ind
end Va
set_option Elab.async false
set_option linter.all false
set_option maxRecDepth 100000
set_option maxHeartbeats 4000000
namespace Va
open PySem PySem.Spec PyProof.Rows L2 Ind
abbrev B3 := Option Bool
def not3 (a : B3) : B3 := a.map (!·)
def allB (l : List B3) : B3 := if some false ∈ l then some false else if none ∈ l then none else some true
def anyB (l : List B3) : B3 := if some true ∈ l then some true else if none ∈ l then none else some false
mutual
def Fc.op (p : Tx → B3) : Fc → B3
  | .com n => p n
  | .one ns => if 1 < ((ns.map p).filter (· = some true)).length then some false else if none ∈ ns.map p then none else some (decide (some true ∈ ns.map p))
  | .neg f => not3 (f.op p)
  | .all fs => allB (Fc.opL p fs)
  | .any fs => anyB (Fc.opL p fs)
  | .imp a b => anyB [not3 (a.op p), b.op p]
  | .tt => some true
  | .ff => some false
def Fc.opL (p : Tx → B3) : List Fc → List B3
  | [] => []
  | f :: fs => f.op p :: Fc.opL p fs
end
mutual
def Fc.mu : Fc → Nat
  | .com _ => 0
  | .one _ => 0
  | .neg f => f.mu + 1
  | .all fs => Fc.muL fs + 1
  | .any fs => Fc.muL fs + 2
  | .imp a b => max (a.mu + 1) b.mu + 3
  | .tt => 0
  | .ff => 0
def Fc.muL : List Fc → Nat
  | [] => 0
  | f :: fs => max f.mu (Fc.muL fs)
end
end Va
set_option Elab.async false
set_option linter.all false
set_option maxRecDepth 100000
set_option maxHeartbeats 4000000
namespace Va
open PySem PySem.Spec PyProof.Rows L2 Ind
end Va
set_option Elab.async false
set_option linter.all false
set_option maxRecDepth 100000
set_option maxHeartbeats 4000000
namespace Va
open PySem PySem.Spec PyProof.Rows L2 Ind SrtB
theorem ltS_tri {x y : Tx} (h1 : ltS x y = false) (h2 : ltS y x = false) : x = y := by
  have a := List.not_lt.mp (of_decide_eq_false h1)
  have b := List.not_lt.mp (of_decide_eq_false h2)
  have e := List.le_antisymm b a
  cases x; cases y
  have e2 := Array.toList_inj.mp e
  first | exact congrArg _ e2 | (cases e2; rfl) | (simp at e2; rw [e2])
abbrev Row := List Tx
def cnt (n : Tx) (ws : List Row) : Nat := (ws.filter fun w => decide (n ∈ w)).length
section kept
variable {ms : List Tx} {ws os : List Row}
end kept
end Va
set_option Elab.async false
set_option linter.all false
set_option maxRecDepth 100000
set_option maxHeartbeats 4000000
namespace RowK
open PySem PySem.Spec PyProof.Rows SrtO SrtB PySem.W
abbrev Cell := Int ⊕ Str
def isS : Cell → Bool
  | .inl _ => false
  | .inr _ => true
def ltC : Cell → Cell → Bool
  | .inl i, .inl j => decide (i < j)
  | .inl _, .inr _ => true
  | .inr _, .inl _ => false
  | .inr x, .inr y => ltS x y
def ltR : List Cell → List Cell → Bool
  | [], [] => false
  | [], _ :: _ => true
  | _ :: _, [] => false
  | x :: r, y :: q => if x = y then ltR r q else ltC x y
theorem ltS_irr (x : Str) : ltS x x = false := decide_eq_false (List.lt_irrefl _)
theorem ltS_trans {x y z : Str} (h1 : ltS x y = true) (h2 : ltS y z = true) : ltS x z = true :=
  decide_eq_true (List.lt_trans (of_decide_eq_true h1) (of_decide_eq_true h2))
theorem ltC_irr : ∀ x : Cell, ltC x x = false
  | .inl i => decide_eq_false (Int.lt_irrefl i)
  | .inr x => ltS_irr x
theorem ltC_tri : ∀ {x y : Cell}, ltC x y = false → ltC y x = false → x = y
  | .inl i, .inl j, h1, h2 => by
    have a := of_decide_eq_false h1
    have b := of_decide_eq_false h2
    congr 1
    omega
  | .inl _, .inr _, h1, _ => nomatch h1
  | .inr _, .inl _, _, h2 => nomatch h2
  | .inr x, .inr y, h1, h2 => by rw [Va.ltS_tri h1 h2]
theorem ltC_trans : ∀ {x y z : Cell}, ltC x y = true → ltC y z = true → ltC x z = true
  | .inl i, .inl j, .inl k, h1, h2 => by
    have a := of_decide_eq_true h1
    have b := of_decide_eq_true h2
    exact decide_eq_true (by omega)
  | .inl _, .inl _, .inr _, _, _ => rfl
  | .inl _, .inr _, .inr _, _, _ => rfl
  | .inl _, .inr _, .inl _, _, h => nomatch h
  | .inr _, .inl _, _, h, _ => nomatch h
  | .inr _, .inr _, .inl _, _, h => nomatch h
  | .inr _, .inr _, .inr _, h1, h2 => ltS_trans h1 h2
theorem ltR_irr : ∀ r : List Cell, ltR r r = false
  | [] => rfl
  | x :: r => by
    show (if x = x then ltR r r else ltC x x) = false
    rw [if_pos rfl]
    exact ltR_irr r
theorem ltR_tri : ∀ {r q : List Cell}, ltR r q = false → ltR q r = false → r = q
  | [], [], _, _ => rfl
  | [], _ :: _, h, _ => nomatch h
  | _ :: _, [], _, h => nomatch h
  | x :: r, y :: q, h1, h2 => by
    have h1 : (if x = y then ltR r q else ltC x y) = false := h1
    have h2 : (if y = x then ltR q r else ltC y x) = false := h2
    by_cases e : x = y
    · subst e
      rw [if_pos rfl] at h1 h2
      rw [ltR_tri h1 h2]
    · rw [if_neg e] at h1
      rw [if_neg fun z => e z.symm] at h2
      exact absurd (ltC_tri h1 h2) e
theorem ltR_trans : ∀ {r q p : List Cell}, ltR r q = true → ltR q p = true → ltR r p = true
  | [], [], _, h, _ => nomatch h
  | [], _ :: _, [], _, h => nomatch h
  | [], _ :: _, _ :: _, _, _ => rfl
  | _ :: _, [], _, h, _ => nomatch h
  | _ :: _, _ :: _, [], _, h => nomatch h
  | x :: r, y :: q, z :: p, h1, h2 => by
    have h1 : (if x = y then ltR r q else ltC x y) = true := h1
    have h2 : (if y = z then ltR q p else ltC y z) = true := h2
    show (if x = z then ltR r p else ltC x z) = true
    by_cases e : x = y
    · subst e
      rw [if_pos rfl] at h1
      by_cases f : x = z
      · subst f
        rw [if_pos rfl] at h2 ⊢
        exact ltR_trans h1 h2
      · rw [if_neg f] at h2 ⊢
        exact h2
    · rw [if_neg e] at h1
      by_cases f : y = z
      · subst f
        rw [if_neg e]
        exact h1
      · rw [if_neg f] at h2
        have h3 := ltC_trans h1 h2
        by_cases g : x = z
        · subst g
          rw [ltC_irr] at h3
          cases h3
        · rw [if_neg g]
          exact h3
def CellVal (u : Value) : Cell → Prop
  | .inl i => ∃ t, u = .int i t
  | .inr x => ∃ t, u = .str x t
def IsCK (h : Heap) (v : Value) (c : Cell) : Prop := ∃ (a : Addr) (u : Value), v = .ref a ∧ IsTup h a #[.bool (isS c), u] ∧ CellVal u c
def IsRK (h : Heap) (v : Value) (r : List Cell) : Prop := ∃ (a : Addr) (its : List Value), v = .ref a ∧ IsTup h a its.toArray ∧ Paired (IsCK h) its r
theorem tup_keeps {h h' : Heap} {a : Addr} {its : Array Value} (x : IsTup h a its) (k : ∀ b o, h.get? b = some o → o.cls = .type "tuple" → h'.get? b = some o) : IsTup h' a its := by
  obtain ⟨o, ho, hc, r⟩ := x
  exact ⟨o, k _ _ ho hc, hc, r⟩
theorem IsCK.keeps {h h' : Heap} {v : Value} {c : Cell} (x : IsCK h v c) (k : ∀ b o, h.get? b = some o → o.cls = .type "tuple" → h'.get? b = some o) : IsCK h' v c := by
  obtain ⟨a, u, e, t, r⟩ := x
  exact ⟨a, u, e, tup_keeps t k, r⟩
theorem IsRK.keeps {h h' : Heap} {v : Value} {r : List Cell} (x : IsRK h v r) (k : ∀ b o, h.get? b = some o → o.cls = .type "tuple" → h'.get? b = some o) : IsRK h' v r := by
  obtain ⟨a, its, e, t, p⟩ := x
  exact ⟨a, its, e, tup_keeps t k, L2.Paired.mapP p fun _ _ q => IsCK.keeps q k⟩
section
variable {prog : Program} {w : World} {A : Around} {E : Value → Shared → Prop} {s : Shared}
open PySem.SeqAt
section
open PySem.AutoSeq1 (wpAny_loadPart')
open PySem.MeetsSeq PySem.MeetsSeq2 PySem.MeetsSeq3
end
end
end RowK
set_option Elab.async false
set_option linter.all false
set_option maxRecDepth 100000
set_option maxHeartbeats 4000000
namespace RowK
open PySem PySem.Spec PyProof.Rows
theorem CellVal.inj {u : Value} : ∀ {c d : Cell}, CellVal u c → CellVal u d → c = d
  | .inl i, .inl j, ⟨t, h⟩, ⟨t', h'⟩ => by rw [(Value.int.inj (h.symm.trans h')).1]
  | .inl i, .inr y, ⟨t, h⟩, ⟨t', h'⟩ => nomatch h.symm.trans h'
  | .inr x, .inl j, ⟨t, h⟩, ⟨t', h'⟩ => nomatch h.symm.trans h'
  | .inr x, .inr y, ⟨t, h⟩, ⟨t', h'⟩ => by rw [(Value.str.inj (h.symm.trans h')).1]
theorem tup_inj {h : Heap} {a : Addr} {i j : List Value} (x : IsTup h a i.toArray) (y : IsTup h a j.toArray) : i = j := by
  obtain ⟨o, ho, hc, n, hd⟩ := x
  obtain ⟨o', ho', hc', n', hd'⟩ := y
  have eo : o = o' := Option.some.inj (ho.symm.trans ho')
  subst eo
  have e := congrArg Array.toList (Data.seq.inj (hd.symm.trans hd')).1
  simpa using e
theorem IsCK.inj {h : Heap} {v : Value} {c d : Cell} (x : IsCK h v c) (y : IsCK h v d) : c = d := by
  obtain ⟨a, u, rfl, t, hc⟩ := x
  obtain ⟨b, u', e, t', hd⟩ := y
  cases e
  have q : [Value.bool (isS c), u] = [Value.bool (isS d), u'] := tup_inj (h := h) (a := a) t t'
  have e2 := (List.cons.inj (List.cons.inj q).2).1
  subst e2
  exact hc.inj hd
theorem cks_inj {h : Heap} : ∀ {us : List Value} {r q : List Cell}, Paired (IsCK h) us r → Paired (IsCK h) us q → r = q
  | _, _, _, .nil, .nil => rfl
  | _, _, _, .cons a p, .cons b q => by rw [a.inj b, cks_inj p q]
theorem IsRK.inj {h : Heap} {v : Value} {r q : List Cell} (x : IsRK h v r) (y : IsRK h v q) : r = q := by
  obtain ⟨a, its, rfl, t, p⟩ := x
  obtain ⟨b, its', e, t', p'⟩ := y
  cases e
  have e2 := tup_inj t t'
  subst e2
  exact cks_inj p p'
end RowK
namespace L2
open PySem PySem.Spec PyProof.Rows SrtO RowK PySem.W
section
variable {X : Cx} {pins : List (Addr × Obj)} {σ : St} {H : Hp} {s : Shared}
theorem Paired.vals {ys : List V} {us : List Value} (h : Paired RelV ys us) : Vals ys us := by
  induction h with
  | nil => exact .nil
  | cons a _ ih => exact .cons a ih
section
variable {a kS : Addr} {e1 e2 : Nat} {ks its : List Value} {rows : List (List Cell)} {xs : List V} {Q : VK} {E1 : Value → Shared → Prop}
end
end
end L2
set_option Elab.async false
set_option linter.all false
set_option maxRecDepth 100000
set_option maxHeartbeats 4000000
namespace L2
open PySem PySem.Spec PyProof.Rows SrtO RowK PySem.W
section
variable {X : Cx}
end
end L2
set_option Elab.async false
set_option linter.all false
set_option maxRecDepth 100000
set_option maxHeartbeats 4000000
namespace SupE
open PySem PySem.W PySem.Calls PyProof.Rows PySem.HandSPX
abbrev tailV : List Value := [.type "ValueError", .type "Exception", .type "BaseException", .type "object"]
def parm (f : Str) (p1 p2 : Pos) : Arguments := { posonlyargs := [], args := [⟨"self", none, p1⟩, ⟨f, none, p2⟩], vararg := none, kwonlyargs := [], kw_defaults := [], kwarg := none, defaults := [] }
structure Ps where
  a : Pos
  b : Pos
  c : Pos
  d : Pos
  e : Pos
  g : Pos
  q1 : Pos
  q2 : Pos
  q3 : Pos
  q4 : Pos
def bodyI (f : Str) (vs : List Expr) (p : Ps) : List Stmt := [.Expr (.Call (.Attribute (.Call (.Name "super" p.a) [] [] p.b) "__init__" p.c) [.JoinedStr vs p.d] [] p.e) p.g, .Assign [.Attribute (.Name "self" p.q1) f p.q2] (.Name f p.q3) p.q4]
def scI (f : Str) : Scope := { kind := .function, names := [("self", .local), (f, .local), ("__class__", .free), ("super", .globalImplicit)], isGenerator := false, isCoroutine := false, more := [] }
structure Cl (prog : Program) (K : Frag) (C fI : Addr) (f : Str) (vs : List Expr) (p : Ps) : Prop where
  cls : ∃ nm q N bs bm sn sub ab col dd k0 k1 k2 k3 k5, K.lookup C = some (excClassObj nm q C N bs bm true sn sub ab col dd k0 k1 k2 k3 k5 "ValueError.__new__") ∧ refsVE bm = true
  sa : findIn K (.ref C) "__setattr__" = some (some (.builtin "object.__setattr__"))
  ga : findIn K (.ref C) "__getattribute__" = some (some (.builtin "BaseException.__getattribute__"))
  gg : findIn K (.ref C) "__getattr__" = some none
  no : findIn K (.ref C) f = some none
  iC : findIn K (.ref C) "__init__" = some (some (.ref fI))
  tI : typeIn K (.ref fI) = some (.type "function")
  kC : keepIn K (.ref C) = true
  bC : subIn K (.ref C) (.type "BaseException") = some true
  tC : typeIn K (.ref C) = some (.type "type")
  hd : hasDictIn K C = true
  su : ks_superIn K C C "__init__" = some (some (.builtin "ValueError.__init__"))
  ve : subIn K (.ref C) (.type "ValueError") = some true
  qi : excInitIn K C tailV "ValueError.__new__" = true
  mm : mroIn K C (.ref C) = some true
  th : nsIn K cStatics "thirdparty.any" = some none
  call : ∀ env : Env, ∃ pl : Sem Bool, eval (.Call (.Attribute (.Call (.Name "super" p.a) [] [] p.b) "__init__" p.c) [.JoinedStr vs p.d] [] p.e) env = (do
    let ov ← attributeBase (.Call (.Name "super" p.a) [] [] p.b) "__init__" env (eval (.Call (.Name "super" p.a) [] [] p.b) env)
    standAt p.c.atName
    let (g, first) ← holding [ov] (getMethod ov "__init__" pl)
    callWith p.e g first (backTo p.e (starEach [.JoinedStr vs p.d] env)) [])
  top : (prog.main.scope.names.lookup ("super" : Str)).isSome = false
  fn : ∃ (oc : Value) (od : Option Addr) (qual : Str) (p1 p2 : Pos) (doc pm : Value) (an : Option Addr) (cda : Addr) (ct : Value) (cc : Addr) (osl : Array (Option Value)) (ccl : Value) (cdd : Option Addr) (fv : Array Value) (ccs : Array (Option Value)) (file : Str) (tf : Tok) (cl : Value) (cld : Option Addr) (csl : Array (Option Value)),
    K.lookup fI = some ⟨oc, od, .func (ksFn "__init__" qual (parm f p1 p2) (bodyI f vs p) (scI f) .none .none doc pm an (.ref cda) ct cc), osl⟩ ∧ codeIn K (.ref cda) qual = true ∧ K.lookup cda = some ⟨ccl, cdd, .fields fv, ccs⟩ ∧ fv[2]? = some (.str file tf) ∧ ((prog.main.file : Str) == file) = true ∧ K.lookup cc = some ⟨cl, cld, .cell (some (.ref C)), csl⟩
structure Left (h h' : Heap) (x C dx : Addr) (f : Str) (v : Value) : Prop where
  keep : ∀ b o, b ≠ x → h.get? b = some o → h'.get? b = some o
  obj : ∃ t1, h'.get? x = some { cls := .ref C, dict := some dx, data := .fields #[.ref t1, .none, .none, .none, .bool false, .none] }
  big : h.objs.size ≤ dx
  ne : dx ≠ x
  ns : h'.Ns1 dx (fun y => if y = f then some v else none)
section
variable {prog : Program} {w : World} {A : Around} {E : Value → Shared → Prop} {R : Result → Shared → Prop} {s : Shared} {K : Frag} {mg : Str → Option Value} {C fI : Addr} {f : Str} {vs : List Expr} {p : Ps}
structure Made (h h' : Heap) (e C d : Addr) (f : Str) (v : Value) : Prop where
  keep : ∀ b o, h.get? b = some o → h'.get? b = some o
  new : h.objs.size ≤ e
  obj : ∃ oe vs, h'.get? e = some oe ∧ oe.cls = .ref C ∧ oe.dict = some d ∧ oe.data = .fields vs ∧ vs[1]? = some .none
  big : h.objs.size ≤ d
  ne : d ≠ e
  ns : h'.Ns1 d (fun y => if y = f then some v else none)
end
end SupE
namespace L2
open PySem PySem.Spec PyProof.Rows SupE
section
variable {X : Cx} {C fI : Addr} {vs : List Expr} {ps : Ps}
end
end L2
set_option Elab.async false
set_option linter.all false
set_option maxRecDepth 100000
set_option maxHeartbeats 4000000
namespace Va
open PySem PySem.Spec PyProof.Rows L2 Ind
section
variable {X : Cx} {S : Sg} {W : WX} {e : Expr} {es : List Expr} {pos : Pos}
structure HeldX (K : PySem.W.Frag) (oe : Obj) (C : Addr) (d : Option Addr) : Prop where
  cls : oe.cls = .ref C
  fv : ∃ vs, oe.data = .fields vs
  dict : oe.dict = d
  ex : ExcC K C
end
end Va
namespace Va
open PySem PySem.Spec PyProof.Rows L2 Ind
section
variable {X : Cx} {S : Sg} {x n : PySem.Str} {c : Value} {i : Nat} {body suite : List Stmt} {b₀ : Stmt} {np pos pos' : Pos}
end
section
variable {X : Cx} {S : Sg} {W : WX} {pos : Pos}
end
end Va
set_option Elab.async false
set_option linter.all false
set_option maxRecDepth 100000
set_option maxHeartbeats 4000000
namespace SupE
open PySem PySem.W PySem.Calls PyProof.Rows PySem.HandSPX
section
variable {prog : Program} {w : World} {A : Around} {E : Value → Shared → Prop} {R : Result → Shared → Prop} {s : Shared} {K : Frag} {mg : Str → Option Value} {C fI : Addr} {f : Str} {vs : List Expr} {p : Ps}
end
end SupE
namespace L2
open PySem PySem.Spec PyProof.Rows SupE
section
variable {X : Cx} {C fI : Addr} {vs : List Expr} {ps : Ps}
end
end L2
namespace Va
open PySem PySem.Spec PyProof.Rows L2 Ind
section
variable {X : Cx} {S : Sg} {W : WX} {e : Expr} {es : List Expr} {pos : Pos}
end
end Va
set_option Elab.async false
set_option linter.all false
set_option maxRecDepth 100000
set_option maxHeartbeats 4000000
namespace L2
open PySem PySem.Spec PyProof.Rows
abbrev Clau : Type := Bool × Value × (Addr → Value → Option Addr → TS)
def Ends.off (D : Ends) (i : Nat) : Ends := { nx := fun τ G => D.nx (τ.set i none) G, rt := D.rt, bk := fun τ G => D.bk (τ.set i none) G, ct := fun τ G => D.ct (τ.set i none) G }
inductive Clauses (X : Cx) (n : Str) : List ExceptHandler → List Clau → Prop
  | nil : Clauses X n [] []
  | cons (nm : Bool) {x : Str} {c : Value} {ts : Addr → Value → Option Addr → TS} {b₀ : Stmt} {suite : List Stmt} {p1 p2 : Pos} {hs : List ExceptHandler} {l : List Clau} (names : Names X x c)
      (run : ∀ (a : Addr) (ob : Obj) (cls : Value) (d : Option Addr) (pn : List (Addr × Obj)), Zc cls d ob → (∃ vs, ob.data = .fields vs) → PSs (X.suite a ((a, ob) :: pn)) (b₀ :: suite) (ts a cls d)) (rest : Clauses X n hs l) :
      Clauses X n (.ExceptHandler (some (.Name x p1)) (if nm = true then some n else none) (b₀ :: suite) p2 :: hs) ((nm, c, ts) :: l)
section
variable {X : Cx} {n : Str} {i : Nat} {body : List Stmt} {c₀ : ExceptHandler} {cs : List ExceptHandler} {l : List Clau} {pos : Pos} {tb : WX → TS} {out : WX}
end
end L2
set_option Elab.async false
set_option linter.all false
set_option maxRecDepth 100000
set_option maxHeartbeats 4000000
namespace Va
open PySem PySem.Spec PyProof.Rows L2 Ind
structure VCl where
  nm : Bool
  c : Value
  mt : Er → Bool
  ts : Addr → Option Addr → Er → VS
def toCl (S : Sg) (okE : Er → Prop) (k : VCl) : Clau := (k.nm, k.c, fun a cls d D σ H => ∃ e : Er, okE e ∧ cls = .ref e.cls ∧ liftS S (k.ts a d e) D σ H)
section
variable {X : Cx} {S : Sg} {n : PySem.Str} {i : Nat} {body : List Stmt} {c₀ : ExceptHandler} {cs : List ExceptHandler} {l : List VCl} {pos : Pos}
inductive VClauses (X : Cx) (S : Sg) (n : PySem.Str) (okE : Er → Prop) : List ExceptHandler → List VCl → Prop
  | nil : VClauses X S n okE [] []
  | cons (nm : Bool) (mt : Er → Bool) {x : PySem.Str} {c : Value} {ts : Addr → Option Addr → Er → VS} {b₀ : Stmt} {suite : List Stmt} {p1 p2 : Pos} {hs : List ExceptHandler} {l : List VCl} (names : Names X x c)
      (hx : ∀ e, okE e → PySem.W.exmOne X.K (.ref e.cls) c = some (mt e))
      (run : ∀ (e : Er) (a : Addr) (d : Option Addr) (oe : Obj) (pn : List (Addr × Obj)), HeldX X.K oe e.cls d → VSs S (X.suite a ((a, oe) :: pn)) (b₀ :: suite) (ts a d e)) (rest : VClauses X S n okE hs l) :
      VClauses X S n okE (.ExceptHandler (some (.Name x p1)) (if nm = true then some n else none) (b₀ :: suite) p2 :: hs) (⟨nm, c, mt, ts⟩ :: l)
theorem VClauses.to {okE : Er → Prop} (hE : ∀ e, okE e → ExcC X.K e.cls) {hs : List ExceptHandler} (h : VClauses X S n okE hs l) : Clauses X n hs (l.map (toCl S okE)) := by
  induction h with
  | nil => exact .nil
  | cons nm mt names hx run rest ih =>
    refine .cons nm names (fun a ob cls d pn hz hfl => ⟨fun pins s σ H D I h => ?_⟩) ih
    obtain ⟨e, oke, ec, h⟩ := h
    exact (run e a d ob pn ⟨hz.1.trans ec, hfl, hz.2, hE e oke⟩).run pins s σ H D I h
end
end Va
namespace Va
end Va
set_option Elab.async false
set_option linter.all false
set_option maxRecDepth 100000
set_option maxHeartbeats 4000000
namespace Va
open PySem PySem.Spec PyProof.Rows L2 Ind
section
variable {X : Cx} {S : Sg} {e : Expr}
end
end Va
set_option Elab.async false
set_option linter.all false
set_option maxRecDepth 100000
set_option maxHeartbeats 4000000
namespace Va
open PySem PySem.Spec PyProof.Rows L2 Ind RowK
def cellD : Cell → D
  | .inl i => .int i
  | .inr x => .str x
section
variable {K : PySem.W.Frag} {tp : Option Tp} {H : Hp}
end
section
variable {X : Cx} {S : Sg}
end
end Va
set_option Elab.async false
set_option linter.all false
set_option maxRecDepth 100000
set_option maxHeartbeats 4000000
namespace Va
open PySem PySem.Spec PyProof.Rows L2 Ind PySem.Froz
structure TSet (P : Program) (w : World) (D : SD) (l : List PySem.Str) : Prop where
  ok : TxOk P w D l
  nd : l.Nodup
  ris : Ris D.2.2.place.toList
  led : w.params.followText "set-order" = true ∨ D.2.2.led = true
  dum : D.2.2.dummies = #[]
theorem has_nil (j : Nat) : SetTable.has #[] j = false := by
  unfold SetTable.has
  simp
theorem put_dum {t : SetTable} (h : t.dummies = #[]) (j : Nat) : (t.put j).1.dummies = #[] := by
  show (if SetTable.has t.dummies j then SetTable.eraseAt t.dummies (SetTable.below t.dummies j) else t.dummies) = #[]
  rw [h, has_nil]
  rfl
theorem layNew_dum {t : SetTable} (h : t.dummies = #[]) (es : Array (Int × Value)) (k : Int) (x : Value) : (layNew t es k x).2.1.dummies = #[] := by
  unfold layNew
  cases hq : t.freeSlot k with
  | none => rfl
  | some q =>
    show ((t.put q.1).1.orStandIn _).dummies = #[]
    unfold SetTable.orStandIn
    split
    · exact put_dum h _
    · rfl
theorem laid_dum {mask finger moves : Nat} {led plain : Bool} {hs : Array Int} {q : SetTable × Array Nat} (e : SetTable.laid mask finger moves led plain hs = some q) : q.1.dummies = #[] := by
  unfold SetTable.laid at e
  cases hl : SetTable.layClean mask hs with
  | none => rw [hl] at e; first | (cases e; done) | (simp at e; done)
  | some ow =>
    rw [hl] at e
    have e1 := congrArg Prod.fst (Option.some.inj e)
    rw [← e1]
theorem relayAll_dum (t : SetTable) (es : Array (Int × Value)) (n : Nat) : (relayAll t es n).2.1.dummies = #[] := by
  unfold relayAll
  cases hq : t.relaid (es.map (·.1)) n with
  | none => rfl
  | some q =>
    dsimp only
    split
    · exact laid_dum hq
    · rfl
section
variable {P : Program} {w : World} {A : Around} {E : Value → Shared → Prop} {s : Shared} {D : SD} {l : List PySem.Str} {k : PySem.Str} {u : Tok}
theorem TSet.new (w : World) (ep fi mo : Nat) : TSet P w (#[], ep, .fresh fi mo (!w.params.followText "set-order")) [] := by
  refine ⟨TxOk.nil rfl, List.nodup_nil, List.Pairwise.nil, ?_, rfl⟩
  show _ ∨ (!w.params.followText "set-order") = true
  cases w.params.followText "set-order"
  · exact .inr rfl
  · exact .inl rfl
theorem off_ris {t : SetTable} (h : Ris t.place.toList) : Ris (if t.plain = true then { t with plain := false } else t).place.toList := by split <;> exact h
theorem off_led {t : SetTable} (h : t.led = true) : (if t.plain = true then { t with plain := false } else t).led = true := by split <;> exact h
theorem off_dum {t : SetTable} (h : t.dummies = #[]) : (if t.plain = true then { t with plain := false } else t).dummies = #[] := by split <;> exact h
theorem tail_ris {ep : Nat} {es : Array (Int × Value)} {t : SetTable} {b : Bool} (h : Ris t.place.toList) : Ris (tailTx ep es t b).2.2.place.toList := by
  unfold tailTx
  by_cases c : (!b && t.tooFull) = true
  · rw [if_pos c]; exact relayAll_ris _ _ _
  · rw [if_neg c]; exact h
theorem tail_led {ep : Nat} {es : Array (Int × Value)} {t : SetTable} {b : Bool} (h : t.led = true) : (tailTx ep es t b).2.2.led = true := by
  unfold tailTx
  by_cases c : (!b && t.tooFull) = true
  · rw [if_pos c]; exact (relayAll_led t es _).trans h
  · rw [if_neg c]; exact h
theorem tail_dum {ep : Nat} {es : Array (Int × Value)} {t : SetTable} {b : Bool} (h : t.dummies = #[]) : (tailTx ep es t b).2.2.dummies = #[] := by
  unfold tailTx
  by_cases c : (!b && t.tooFull) = true
  · rw [if_pos c]; exact relayAll_dum _ _ _
  · rw [if_neg c]; exact h
theorem TSet.add (u : Tok) (F : TSet P w D l) (hk : k ∉ l) : TSet P w (addTx (hashStr w k) (.str k u) D) (k :: l) := by
  obtain ⟨es, ep, t⟩ := D
  have r1 := layNew_ris t es (hashStr w k) (.str k u) F.ris
  have r2 := layNew_led t es (hashStr w k) (.str k u)
  have r3 := layNew_dum F.dum es (hashStr w k) (.str k u)
  refine ⟨add_ok u F.ok, List.nodup_cons.mpr ⟨hk, F.nd⟩, ?_, ?_, ?_⟩
  · exact tail_ris (off_ris r1)
  · exact F.led.imp id fun z => tail_led (off_led (r2.trans z))
  · exact tail_dum (off_dum r3)
end
end Va
set_option Elab.async false
set_option linter.all false
set_option maxRecDepth 100000
set_option maxHeartbeats 4000000
namespace Va
open PySem PySem.Spec PyProof.Rows L2 Ind PySem.Froz
section
variable {P : Program} {w : World} {A : Around} {E : Value → Shared → Prop} {s : Shared}
def Holds (P : Program) (w : World) (h : Heap) (S : Addr) (xs : List PySem.Str) : Prop := ∃ D l, h.get? S = some (sObj "set" D) ∧ TSet P w D l ∧ (∀ k, k ∈ l ↔ k ∈ xs) ∧ l.length ≤ xs.length
theorem Holds.at {h h' : Heap} {S : Addr} {xs : List PySem.Str} (q : Holds P w h S xs) (k : ∀ o, h.get? S = some o → h'.get? S = some o) : Holds P w h' S xs := by
  obtain ⟨D, l, e, r⟩ := q
  exact ⟨D, l, k _ e, r⟩
set_option maxHeartbeats 8000000 in
end
end Va
set_option Elab.async false
set_option linter.all false
set_option maxRecDepth 100000
set_option maxHeartbeats 4000000
namespace Va
open PySem PySem.Spec PyProof.Rows L2 Ind PySem.Froz
structure Own (m k : Nat) (ow : Array (Option Nat)) : Prop where
  sz : ow.size = m + 1
  pm : (ow.toList.filterMap id).Perm (List.range k)
theorem fill_perm {k : Nat} : ∀ {l : List (Option Nat)} {j : Nat}, l[j]? = some none → ((l.set j (some k)).filterMap id).Perm (k :: l.filterMap id)
  | [], j, h => by simp at h
  | x :: l, 0, h => by
    have e : x = none := by simpa using h
    subst e
    exact List.Perm.refl _
  | x :: l, j + 1, h => by
    have q := fill_perm (k := k) (l := l) (j := j) (by simpa using h)
    cases x with
    | none => exact q
    | some y => exact (q.cons y).trans (List.Perm.swap k y _)
theorem some_all : ∀ {l : List (Option Nat)}, (∀ x ∈ l, x ≠ none) → (l.filterMap id).length = l.length
  | [], _ => rfl
  | none :: l, h => absurd rfl (h none List.mem_cons_self)
  | some y :: l, h => congrArg (· + 1) (some_all fun x hx => h x (List.mem_cons_of_mem _ hx))
theorem Own.room {m k : Nat} {ow : Array (Option Nat)} (o : Own m k ow) (hk : k ≤ m) : ∃ j, j ≤ m ∧ ow.getD j (some 0) = none := by
  by_cases h : ∃ x ∈ ow.toList, x = none
  · obtain ⟨x, hx, rfl⟩ := h
    obtain ⟨j, hj⟩ := List.mem_iff_getElem?.mp hx
    have hl := (List.getElem?_eq_some_iff.mp hj).1
    refine ⟨j, by have := o.sz; rw [Array.length_toList] at hl; omega, ?_⟩
    rw [Array.getD_eq_getD_getElem?, ← Array.getElem?_toList, hj]
    rfl
  · have := some_all (l := ow.toList) fun x hx e => h ⟨x, hx, e⟩
    rw [o.pm.length_eq, List.length_range, Array.length_toList, o.sz] at this
    omega
theorem Own.put {m k j : Nat} {ow : Array (Option Nat)} (o : Own m k ow) (hj : ow.getD j (some 0) = none) : Own m (k + 1) (ow.setIfInBounds j (some k)) := by
  have hl : ow.toList[j]? = some none := by
    rw [Array.getD_eq_getD_getElem?] at hj
    rw [Array.getElem?_toList]
    cases h : ow[j]? with
    | none => rw [h] at hj; cases hj
    | some x => rw [h] at hj; cases hj; rfl
  refine ⟨by simp [o.sz], ?_⟩
  rw [Array.toList_setIfInBounds]
  refine (fill_perm hl).trans ((o.pm.cons k).trans ?_)
  rw [List.range_succ]
  exact (List.perm_append_singleton _ _).symm
end Va
set_option Elab.async false
set_option linter.all false
set_option maxRecDepth 100000
set_option maxHeartbeats 4000000
namespace Va
open PySem PySem.Spec PyProof.Rows L2 Ind PySem.Froz
def txV : Value → PySem.Str
  | .str x _ => x
  | _ => default
theorem perm_of_len {α : Type} : ∀ {l m : List α}, l.Nodup → (∀ x ∈ l, x ∈ m) → m.length ≤ l.length → m.Perm l
  | [], m, _, _, h => by
    have : m = [] := List.length_eq_zero_iff.mp (Nat.le_zero.mp h)
    rw [this]
  | x :: l, m, nd, sub, h => by
    obtain ⟨a, b, rfl⟩ := List.append_of_mem (sub x List.mem_cons_self)
    obtain ⟨n1, n2⟩ := List.nodup_cons.mp nd
    have q := perm_of_len (l := l) (m := a ++ b) n2 (fun y hy => by
      rcases List.mem_append.mp (sub y (List.mem_cons_of_mem _ hy)) with z | z
      · exact List.mem_append_left _ z
      · rcases List.mem_cons.mp z with rfl | z
        · exact absurd hy n1
        · exact List.mem_append_right _ z) (by simp at h ⊢; omega)
    exact List.perm_middle.trans (q.cons x)
section
variable {P : Program} {w : World} {A : Around} {E : Value → Shared → Prop} {s : Shared} {D : SD} {l : List PySem.Str}
theorem TSet.keys (F : TSet P w D l) : (D.1.toList.map fun e => txV e.2).Perm l := by
  refine perm_of_len F.nd (fun k hk => ?_) (by rw [List.length_map, Array.length_toList, show D.1.size = l.length from F.ok.sz]; exact Nat.le_refl _)
  obtain ⟨e, he, hek⟩ := (F.ok.mem k).mp hk
  obtain ⟨u, h3⟩ := Value.isStrOf_shape hek
  exact List.mem_map.mpr ⟨e, he, by rw [h3]; rfl⟩
end
end Va
set_option Elab.async false
set_option linter.all false
set_option maxRecDepth 100000
set_option maxHeartbeats 4000000
namespace Va
open PySem PySem.Spec PyProof.Rows L2 Ind PySem.Froz
section
variable {P : Program} {w : World} {A : Around} {E : Value → Shared → Prop} {s : Shared} {D : SD} {l : List PySem.Str}
end
end Va
set_option Elab.async false
set_option linter.all false
set_option maxRecDepth 100000
set_option maxHeartbeats 4000000
namespace Va
open PySem PySem.Spec PyProof.Rows L2 Ind PySem.Froz
structure TLoose (P : Program) (w : World) (D : SD) (l : List PySem.Str) : Prop where
  ok : TxOk P w D l
  nd : l.Nodup
  ris : Ris D.2.2.place.toList
  led : w.params.followText "set-order" = true ∨ D.2.2.led = true
section
variable {P : Program} {w : World} {A : Around} {E : Value → Shared → Prop} {s : Shared} {D : SD} {l : List PySem.Str}
theorem TSet.loose (F : TSet P w D l) : TLoose P w D l := ⟨F.ok, F.nd, F.ris, F.led⟩
theorem erase_list {α : Type} (es : Array α) (i : Nat) : (SetTable.eraseAt es i).toList = es.toList.eraseIdx i := by
  unfold SetTable.eraseAt
  rw [Array.toList_append, Array.toList_extract, Array.toList_extract, List.eraseIdx_eq_take_drop_succ, List.extract_eq_take_drop, List.extract_eq_take_drop]
  rw [Nat.sub_zero, List.drop_zero, List.take_of_length_le (l := List.drop (i + 1) es.toList) (by rw [List.length_drop, Array.length_toList]; exact Nat.le_refl _)]
theorem ris_erase {xs : Array Nat} (r : Ris xs.toList) (i : Nat) : Ris (SetTable.eraseAt xs i).toList := by
  rw [erase_list]
  exact List.Pairwise.sublist (List.eraseIdx_sublist _ _) r
theorem insert_size {α : Type} (xs : Array α) (p : Nat) (x : α) : (SetTable.insertAt xs p x).size = xs.size + 1 := by
  rw [← Array.length_toList, SetTable.toList_insertAt, List.length_append, List.length_cons, ← Array.length_toList, List.length_take, List.length_drop]
  omega
theorem erase_size {α : Type} {xs : Array α} {i : Nat} (h : i < xs.size) : (SetTable.eraseAt xs i).size + 1 = xs.size := by
  rw [← Array.length_toList, erase_list, List.length_eraseIdx_of_lt (by rw [Array.length_toList]; exact h), Array.length_toList]
  omega
def outS (k : PySem.Str) (l : List PySem.Str) : List PySem.Str := l.filter fun x => decide (x ≠ k)
theorem mem_outS {k x : PySem.Str} {l : List PySem.Str} : x ∈ outS k l ↔ x ∈ l ∧ x ≠ k := by
  unfold outS
  rw [List.mem_filter, decide_eq_true_eq]
theorem outS_len {k : PySem.Str} : ∀ {l : List PySem.Str}, l.Nodup → k ∈ l → (outS k l).length + 1 = l.length
  | [], _, h => by cases h
  | x :: l, nd, h => by
    obtain ⟨n1, n2⟩ := List.nodup_cons.mp nd
    unfold outS
    by_cases e : x = k
    · subst e
      rw [List.filter_cons_of_neg (by simp), List.filter_eq_self.mpr fun y hy => by
        rw [decide_eq_true_eq]
        rintro rfl
        exact n1 hy]
      rfl
    · rw [List.filter_cons_of_pos (by simpa using e)]
      have := outS_len n2 ((List.mem_cons.mp h).resolve_left fun z => e z.symm)
      unfold outS at this
      rw [List.length_cons, List.length_cons, this]
theorem TLoose.drop {k : PySem.Str} {u : Tok} {i : Nat} {es : Array (Int × Value)} {ep ep' : Nat} {t : SetTable} (F : TLoose P w (es, ep, t) l) (hi : es[i]? = some (hashStr w k, .str k u)) :
    TLoose P w (SetTable.eraseAt es i, ep', t.drop i) (outS k l) ∧ (t.drop i).mask = t.mask ∧ (t.drop i).dummies.size = t.dummies.size + 1 := by
  obtain ⟨hl, hx⟩ := Array.getElem?_eq_some_iff.mp hi
  have hfit : t.fits es.size = true := F.ok.fit
  have hfit2 : t.place.size = es.size ∧ t.fill ≤ t.mask := by simpa [SetTable.fits] using hfit
  have hp : i < t.place.size := by omega
  have ed : t.drop i = { t with place := SetTable.eraseAt t.place i, dummies := SetTable.insertAt t.dummies (SetTable.below t.dummies t.place[i]) t.place[i] } := by
    unfold SetTable.drop
    rw [Array.getElem?_eq_getElem hp]
  have hk : k ∈ l := (F.ok.mem k).mpr ⟨es[i], Array.getElem_mem_toList hl, by rw [hx]; exact is_str k u⟩
  have len := outS_len F.nd hk
  have sz : es.size = l.length := F.ok.sz
  have pm : (es[i] :: es.toList.eraseIdx i).Perm es.toList := erase_perm _ _ _ (by rw [Array.getElem?_toList]; exact Array.getElem?_eq_getElem hl)
  have el : ∀ e ∈ es.toList, _ := F.ok.el
  -- no other has the key
  have other : ∀ e ∈ es.toList.eraseIdx i, (strKind P w).is k e.2 = false := fun e he => by
    cases q : (strKind P w).is k e.2 with
    | false => rfl
    | true =>
      exfalso
      obtain ⟨u2, e2⟩ := Value.isStrOf_shape q
      have F2 : (es.toList.map fun e => txV e.2).Perm l := perm_of_len F.nd (fun k hk => by
        obtain ⟨e, he, hek⟩ := (F.ok.mem k).mp hk
        obtain ⟨u, h3⟩ := Value.isStrOf_shape hek
        exact List.mem_map.mpr ⟨e, he, by rw [h3]; rfl⟩) (by rw [List.length_map, Array.length_toList, sz]; exact Nat.le_refl _)
      have nd2 := (((pm.map fun e => txV e.2).trans F2).nodup_iff).mpr F.nd
      rw [List.map_cons, hx] at nd2
      exact (List.nodup_cons.mp nd2).1 (List.mem_map.mpr ⟨e, he, by rw [e2]; rfl⟩)
  refine ⟨⟨⟨fun e he => ?_, fun x => ?_, ?_, ?_⟩, F.nd.filter _, ?_, ?_⟩, ?_, ?_⟩
  · have he : e ∈ (SetTable.eraseAt es i).toList := he
    rw [erase_list] at he
    exact el e (pm.mem_iff.mp (List.mem_cons_of_mem _ he))
  · show _ ↔ ∃ e ∈ (SetTable.eraseAt es i).toList, _
    rw [mem_outS, F.ok.mem x, erase_list]
    constructor
    · rintro ⟨⟨e, he, hek⟩, ne⟩
      refine ⟨e, (List.mem_cons.mp (pm.mem_iff.mpr he)).resolve_left fun z => ne ?_, hek⟩
      rw [z, hx] at hek
      exact (strKind P w).inj (.str k u) x k hek (is_str k u)
    · rintro ⟨e, he, hek⟩
      refine ⟨⟨e, pm.mem_iff.mp (List.mem_cons_of_mem _ he), hek⟩, fun z => ?_⟩
      rw [z, other e he] at hek
      cases hek
  · show (SetTable.eraseAt es i).size = _
    have := erase_size hl
    omega
  · show (t.drop i).fits (SetTable.eraseAt es i).size = true
    have a1 := erase_size hl
    have a2 := erase_size hp
    have a3 : t.place.size + t.dummies.size ≤ t.mask := hfit2.2
    rw [ed]
    simp only [SetTable.fits, SetTable.fill, insert_size, Bool.and_eq_true, beq_iff_eq, decide_eq_true_eq]
    omega
  · show Ris (t.drop i).place.toList
    rw [ed]
    exact ris_erase F.ris i
  · show _ ∨ (t.drop i).led = true
    rw [ed]
    exact F.led
  · rw [ed]
  · rw [ed]
    exact insert_size _ _ _
end
end Va
set_option Elab.async false
set_option linter.all false
set_option maxRecDepth 100000
set_option maxHeartbeats 4000000
namespace Va
open PySem PySem.Spec PyProof.Rows L2 Ind PySem.Froz
section
variable {P : Program} {w : World} {A : Around} {E : Value → Shared → Prop} {s : Shared} {D : SD} {l : List PySem.Str}
structure Bare (w : World) (m : Nat) (D : SD) : Prop where
  es : D.1 = #[]
  pl : D.2.2.place = #[]
  du : D.2.2.dummies = #[]
  ma : D.2.2.mask = m
  le : D.2.2.led = !w.params.followText "set-order"
theorem Bare.fits {m : Nat} (b : Bare w m D) : D.2.2.fits D.1.size = true := by
  unfold SetTable.fits SetTable.fill
  rw [b.es, b.pl, b.du]
  simp
end
end Va
set_option Elab.async false
set_option linter.all false
set_option maxRecDepth 100000
set_option maxHeartbeats 4000000
namespace Va
open PySem PySem.Spec PyProof.Rows L2 Ind PySem.Froz
section
variable {P : Program} {w : World} {A : Around} {E : Value → Shared → Prop} {s : Shared} {D : SD} {l : List PySem.Str}
end
end Va
set_option Elab.async false
set_option linter.all false
set_option maxRecDepth 100000
set_option maxHeartbeats 4000000
namespace Va
open PySem PySem.Spec PyProof.Rows L2 Ind PySem.Froz
def HoldsL (P : Program) (w : World) (h : Heap) (S : Addr) (xs : List PySem.Str) : Prop := ∃ D l, h.get? S = some (sObj "set" D) ∧ TLoose P w D l ∧ (∀ k, k ∈ l ↔ k ∈ xs) ∧ l.length < 1000
theorem HoldsL.at {P : Program} {w : World} {h h' : Heap} {S : Addr} {xs : List PySem.Str} (q : HoldsL P w h S xs) (k : ∀ o, h.get? S = some o → h'.get? S = some o) : HoldsL P w h' S xs := by
  obtain ⟨D, l, e, r⟩ := q
  exact ⟨D, l, k _ e, r⟩
section
variable {X : Cx} {pins : List (Addr × Obj)} {σ : L2.St} {H : Hp} {s : Shared} {a : Addr} {xs : List PySem.Str}
end
section
variable {X : Cx} {elt tg iter : Expr} {scope : Scope} {own : List (PySem.Str × Nat)} {pos : Pos} {wi : TI} {g : TG} {te : TE}
end
end Va
set_option Elab.async false
set_option linter.all false
set_option maxRecDepth 100000
set_option maxHeartbeats 4000000
namespace L2
open PySem PySem.Spec PyProof.Rows
def KeysIn (K : PySem.W.Frag) (H : Hp) (xs : List (List Key × Addr × Value)) : Prop := ∀ x ∈ xs, SqT K H x.2.1 (x.1.map kV)
section
variable {X : Cx} {pins : List (Addr × Obj)} {σ : St} {H : Hp} {s : Shared} {D b : Addr} {xs : List (List Key × Addr × Value)} {r : List Key}
end
end L2
set_option Elab.async false
set_option linter.all false
set_option maxRecDepth 100000
set_option maxHeartbeats 4000000
namespace Va
open PySem PySem.Spec PyProof.Rows L2 Ind
section
variable {X : Cx} {kx vx tg iter : Expr} {scope : Scope} {own : List (PySem.Str × Nat)} {pos : Pos} {wi : TI} {g : TG} {tk tv : TE}
end
end Va
set_option Elab.async false
set_option linter.all false
set_option maxRecDepth 100000
set_option maxHeartbeats 4000000
namespace Va
open PySem PySem.Spec PyProof.Rows L2 Ind PySem.Froz
section
variable {X : Cx}
end
end Va
set_option Elab.async false
set_option linter.all false
set_option maxRecDepth 100000
set_option maxHeartbeats 4000000
namespace Va
open PySem PySem.Spec PyProof.Rows L2 Ind
section
variable {X : Cx} {S : Sg} {e elt tg iter : Expr} {scope : Scope} {own : List (PySem.Str × Nat)} {p0 p1 pos1 pos2 pos3 pos4 : Pos} {tv : VT} {vi : VI} {g : VG} {el : VT}
end
end Va
set_option Elab.async false
set_option linter.all false
set_option maxRecDepth 100000
set_option maxHeartbeats 4000000
namespace Va
open PySem PySem.Spec PyProof.Rows L2 Ind RowK
def onc {α : Type} [DecidableEq α] : List α → List α → List α
  | acc, [] => acc
  | acc, r :: l => if r ∈ acc then onc acc l else onc (acc ++ [r]) l
theorem onc_mem {α : Type} [DecidableEq α] {r : α} : ∀ {l acc : List α}, r ∈ onc acc l ↔ r ∈ acc ∨ r ∈ l
  | [], acc => by
    show r ∈ acc ↔ _
    simp
  | x :: l, acc => by
    show r ∈ (if x ∈ acc then onc acc l else onc (acc ++ [x]) l) ↔ _
    by_cases h : x ∈ acc
    · rw [if_pos h, onc_mem, List.mem_cons]
      exact ⟨fun z => z.imp id .inr, fun z => z.elim .inl fun z => z.elim (fun e => .inl (e ▸ h)) .inr⟩
    · rw [if_neg h, onc_mem, List.mem_append, List.mem_singleton, List.mem_cons, or_assoc]
section
variable {K : PySem.W.Frag} {tp : Option Tp} {H H' : Hp} {D b : Addr} {xs : List (List Key × Addr × Value)} {r : List Key} {v : Value}
theorem KeysIn.kq (k : Kq H H') (h : KeysIn K H xs) : KeysIn K H' xs := fun x hx => k.sqT (h x hx)
end
theorem onc_le {α : Type} [DecidableEq α] : ∀ (l acc : List α), (onc acc l).length ≤ acc.length + l.length
  | [], acc => Nat.le_refl _
  | x :: l, acc => by
    show (if x ∈ acc then onc acc l else onc (acc ++ [x]) l).length ≤ _
    split
    · have := onc_le l acc
      rw [List.length_cons]
      omega
    · have := onc_le l (acc ++ [x])
      rw [List.length_append] at this
      rw [List.length_cons]
      simp at this
      omega
section
variable {X : Cx} {S : Sg} {kx tg iter : Expr} {scope : Scope} {own : List (PySem.Str × Nat)} {p0 pos2 pos4 : Pos} {bv : Bool} {bj : Nat} {bp : Pos} {vi : VI} {g : VG} {kl : VT}
end
end Va
set_option Elab.async false
set_option linter.all false
set_option maxRecDepth 100000
set_option maxHeartbeats 4000000
namespace Va
open PySem PySem.Spec PyProof.Rows L2 Ind
section
variable {X : Cx} {S : Sg} {e : Expr} {pos : Pos}
theorem ve_ct {a : Addr} {vs : List V} {ds : List D} (h : PE X e (tC (.ref a))) (hK : S.K = X.K) (q : ∀ H, SqT X.K H a vs) (r : ∀ (K : PySem.W.Frag) (tp : Option Tp) (H : Hp), RpL K tp H vs ds) : VE S X e (vC (.tup ds)) := by
  refine pe_weak h ?_
  rintro σ H Q ⟨Γ, E, Q0, ok, rp, ht, k⟩
  have eK : X.K = Γ.K := (ok.k.trans hK).symm
  exact k _ _ ht _ _ (Kq.refl _) rp (.tup (by rw [← eK]; exact q H) (r _ _ _))
end
end Va
set_option Elab.async false
set_option linter.all false
set_option maxRecDepth 100000
set_option maxHeartbeats 4000000
namespace Va
open PySem PySem.Spec PyProof.Rows L2 Ind
section
variable {X : Cx} {S : Sg}
def repT (x : Tx) (n : Nat) : Tx := ⟨(List.replicate n x.cps).foldl (· ++ ·) #[]⟩
theorem op_mulS : OpR X (binaryOp .Mult) (fun x y H Q => ∃ i n, x = .str i ∧ y = .int n ∧ 2 ≤ n ∧ n ≤ 1000 ∧ 1 ≤ i.length ∧ i.length ≤ 1000 ∧ (repT i n.toNat).length ≤ 1000000 ∧ Q (.str (repT i n.toNat)) H) := by
  intro pins s σ H x y v u Q I rx ry h
  obtain ⟨i, n, rfl, rfl, h1, h2, h3, h4, h5, q⟩ := h
  obtain ⟨t, rfl⟩ := rx
  obtain ⟨t', rfl⟩ := ry
  have c1 : ¬ n < 1 := by omega
  have c2 : (n == 1 || i.length == 0) = false := by
    rw [Bool.or_eq_false_iff]
    exact ⟨by rw [beq_eq_false_iff_ne]; omega, by rw [beq_eq_false_iff_ne]; omega⟩
  refine PySem.P.mul_str (by rw [decide_eq_false (by omega), decide_eq_false (by omega)]; rfl) (fun _ _ z => ?_) (fun _ _ => ?_) ?_
  · have : (1000 : Int) ≤ (2 ^ 63 - 1) / n := Int.le_ediv_of_mul_le (by omega) (by omega)
    omega
  · have : i.length * n.toNat ≤ 1000 * 1000 := Nat.mul_le_mul h4 (by omega)
    exact decide_eq_false (Nat.not_lt.mpr (million (by omega)))
  · rw [if_neg c1, if_neg (by rw [c2]; exact Bool.false_ne_true)]
    exact ⟨million h5, .str (repT i n.toNat), H, I.tok _, ⟨_, rfl⟩, q⟩
def mulS : VO := fun d e Q => match d, e with
  | .str x, .int n => 2 ≤ n ∧ n ≤ 1000 ∧ 1 ≤ x.length ∧ x.length ≤ 1000 ∧ (repT x n.toNat).length ≤ 1000000 ∧ Q (.v (.str (repT x n.toNat)))
  | _, _ => False
theorem o_mulS : OpV S X (binaryOp .Mult) mulS := by
  refine ⟨_, op_mulS, ?_⟩
  intro Γ H x y d e Q Q0 eK hx hy hg k
  unfold mulS at hg
  split at hg
  · exact ⟨_, _, hx.str, hy.int, hg.1, hg.2.1, hg.2.2.1, hg.2.2.2.1, hg.2.2.2.2.1, k _ hg.2.2.2.2.2 _ _ (Same.refl _) (.str _)⟩
  · exact hg.elim
end
end Va
set_option Elab.async false
set_option linter.all false
set_option maxRecDepth 100000
set_option maxHeartbeats 4000000
namespace Va
open PySem PySem.Spec PyProof.Rows L2 Ind
section
variable {X : Cx} {S : Sg} {o a : Expr} {t : VT} {ta : VTA} {apos cpos : Pos}
end
end Va
set_option Elab.async false
set_option linter.all false
set_option maxRecDepth 100000
set_option maxHeartbeats 4000000
namespace Va
open PySem PySem.Spec PyProof.Rows L2 Ind
section
variable {X : Cx} {S : Sg} {a b : Expr} {ta : VT} {pos : Pos}
end
end Va
set_option Elab.async false
set_option linter.all false
set_option maxRecDepth 100000
set_option maxHeartbeats 4000000
namespace Va
open PySem PySem.Spec PyProof.Rows L2 Ind GenW
section
variable {X : Cx} {S : Sg} {g : VG} {c : VTT} {el : VT} {vs : List Nat} {i : Nat}
variable {elt tg iter : Expr} {ifs : List Expr} {scope : Scope} {own : List (PySem.Str × Nat)} {pos : Pos}
end
end Va
set_option Elab.async false
set_option linter.all false
set_option maxRecDepth 100000
set_option maxHeartbeats 4000000
namespace Va
open PySem PySem.Spec PyProof.Rows L2 Ind
def Shows (d : D) : Prop := SeqAt.shaped d.pd = true ∧ d.pd.showable = true ∧ d.pd.hasDict = false ∧ d.pd.depth ≤ 60 ∧ d.pd.shown.length ≤ 1000000
structure Smal (d : PyData) (k m : Nat) : Prop where
  lay : d.canLay0 = true
  sho : d.showable = true
  nod : d.hasDict = false
  dep : d.depth ≤ k
  leaf : d.leavesShort 80 = true
  bulk : d.bulk ≤ m
theorem Smal.mono {d : PyData} {k m k' m' : Nat} (s : Smal d k m) (hk : k ≤ k') (hm : m ≤ m') : Smal d k' m' := ⟨s.lay, s.sho, s.nod, Nat.le_trans s.dep hk, s.leaf, Nat.le_trans s.bulk hm⟩
theorem Smal.shows {d : D} {k m : Nat} (s : Smal d.pd k m) (hk : k ≤ 10) (hm : m ≤ 12000) : Shows d := by
  have h1 := PyData.shown_le_bulk 80 (by decide) d.pd s.leaf
  have h2 := s.bulk
  have h3 := s.dep
  refine ⟨?_, s.sho, s.nod, by omega, by omega⟩
  simp [SeqAt.shaped, s.lay]
  omega
end Va
set_option Elab.async false
set_option linter.all false
set_option maxRecDepth 100000
set_option maxHeartbeats 4000000
namespace L2
open PySem PySem.Spec PyProof.Rows
section
variable {X : Cx} {pins : List (Addr × Obj)} {σ : St} {H : Hp} {s : Shared} {a b : Addr} {xs : List (List Key × Addr × Value)} {r : List Key}
end
section
variable {X : Cx} {o e f : Expr} {td ty tz : TE} {apos cpos : Pos}
end
def ValsIn (xs : List (List Key × Addr × Value)) : Prop := ∀ x ∈ xs, ∃ v : V, RelV v x.2.2
section
variable {P : Program} {w : World} {K : PySem.W.Frag} {d : Addr} {o : Obj} {es : Array DictEntry} {ep : Nat} {xs : List (List Key × Addr × Value)}
end
section
variable {X : Cx} {tg e : Expr} {td : TE} {apos cpos : Pos}
end
end L2
set_option Elab.async false
set_option linter.all false
set_option maxRecDepth 100000
set_option maxHeartbeats 4000000
namespace L2
open PySem PySem.Spec PyProof.Rows
section
variable {X : Cx} {pins : List (Addr × Obj)} {σ : St} {H : Hp} {s : Shared}
end
end L2
set_option Elab.async false
set_option linter.all false
set_option maxRecDepth 100000
set_option maxHeartbeats 4000000
namespace Va
open PySem PySem.Spec PyProof.Rows L2 Ind RowK
section
variable {X : Cx} {S : Sg} {a b e o : Expr} {p pos tpos apos cpos : Pos}
inductive FrzTo (N : Hp → Prop) : Hp → Prop
  | done {H : Hp} : N H → FrzTo N H
  | lock {H : Hp} {a : Addr} {u : HO} : H a = some u → Mut (some u) → (∀ o, FrzTo N (upd H a (.frz o u))) → FrzTo N H
theorem Rep.drop {Γ : Gm} {E : En} {σ : L2.St} {H : Hp} (r : Rep Γ E σ H) (i : Nat) : Rep Γ (E.set i .no) σ H := by
  refine ⟨r.base, by simp [En.set, r.len], r.few, fun j s e => ?_, fun j k s t a e1 e2 o1 o2 h1 h2 => ?_⟩
  · rcases get_set e with ⟨rfl, rfl, hi⟩ | ⟨ne, e⟩
    · exact ⟨σ[i]'(by rw [← r.len]; exact hi), List.getElem?_eq_getElem _, trivial⟩
    · exact r.sl j s e
  · rcases get_set e1 with ⟨_, rfl, _⟩ | ⟨n1, e1⟩
    · cases o1
    · rcases get_set e2 with ⟨_, rfl, _⟩ | ⟨n2, e2⟩
      · cases o2
      · exact r.dis j k s t a e1 e2 o1 o2 h1 h2
end
end Va
set_option Elab.async false
set_option linter.all false
set_option maxRecDepth 100000
set_option maxHeartbeats 4000000
namespace Va
open PySem PySem.Spec PyProof.Rows L2 Ind RowK
inductive GrR (K : PySem.W.Frag) (tp : Option Tp) (H : Hp) : List (List Key × Addr × Value) → List (List Cell × List D) → Prop
  | nil : GrR K tp H [] []
  | cons {k : List Cell} {b q : Addr} {vs : List V} {ds : List D} {xs : List (List Key × Addr × Value)} {kvs : List (List Cell × List D)} : FzL K H q vs → RpL K tp H vs ds → GrR K tp H xs kvs → GrR K tp H ((k, b, .ref q) :: xs) ((k, ds) :: kvs)
theorem GrR.kq {K : PySem.W.Frag} {tp : Option Tp} {H H' : Hp} (k : Kq H H') : ∀ {xs : List (List Key × Addr × Value)} {kvs : List (List Cell × List D)}, GrR K tp H xs kvs → GrR K tp H' xs kvs := by
  intro xs kvs h
  induction h with
  | nil => exact .nil
  | cons h1 h2 _ ih => exact .cons (k.fzL h1) (RpL.kq k _ _ h2) ih
theorem GrR.keys {K : PySem.W.Frag} {tp : Option Tp} {H : Hp} {xs : List (List Key × Addr × Value)} {kvs : List (List Cell × List D)} (h : GrR K tp H xs kvs) : xs.map (·.1) = kvs.map (·.1) := by
  induction h with
  | nil => rfl
  | cons h1 h2 _ ih => rw [List.map_cons, List.map_cons, ih]
theorem GrR.vals {K : PySem.W.Frag} {tp : Option Tp} {H : Hp} {xs : List (List Key × Addr × Value)} {kvs : List (List Cell × List D)} (h : GrR K tp H xs kvs) : ValsIn xs := by
  induction h with
  | nil => exact fun x hx => nomatch hx
  | cons h1 h2 _ ih =>
    intro x hx
    rcases List.mem_cons.mp hx with rfl | hx
    · exact ⟨.ref _, rfl⟩
    · exact ih x hx
theorem GrR.get {K : PySem.W.Frag} {tp : Option Tp} {H : Hp} {xs : List (List Key × Addr × Value)} {kvs : List (List Cell × List D)} (h : GrR K tp H xs kvs) : ∀ {i : Nat} {x : List Key × Addr × Value}, xs[i]? = some x → ∃ q vs ds, x.2.2 = .ref q ∧ FzL K H q vs ∧ RpL K tp H vs ds ∧ kvs[i]? = some (x.1, ds) := by
  induction h with
  | nil => intro i x e; simp at e
  | cons h1 h2 _ ih =>
    intro i x e
    cases i with
    | zero => cases e; exact ⟨_, _, _, rfl, h1, h2, rfl⟩
    | succ i => exact ih e
def lookG (kvs : List (List Cell × List D)) (r : List Cell) : List D := ((kvs.find? fun p => decide (p.1 = r)).map (·.2)).getD []
theorem GrR.at {K : PySem.W.Frag} {tp : Option Tp} {H : Hp} {xs : List (List Key × Addr × Value)} {kvs : List (List Cell × List D)} (h : GrR K tp H xs kvs) (r : List Cell) : (∀ p, atKey xs r = some p → ∃ q vs, p.2 = .ref q ∧ FzL K H q vs ∧ RpL K tp H vs (lookG kvs r)) ∧ (atKey xs r = none → lookG kvs r = []) := by
  induction h with
  | nil => exact ⟨(fun p e => nomatch e), fun _ => rfl⟩
  | @cons k b q vs ds xs kvs h1 h2 _ ih =>
    unfold atKey lookG at *
    by_cases e : k = r
    · rw [List.find?_cons_of_pos (by simpa using e), List.find?_cons_of_pos (by simpa using e)]
      exact ⟨fun p z => by cases z; exact ⟨_, _, rfl, h1, h2⟩, fun z => nomatch z⟩
    · rw [List.find?_cons_of_neg (by simpa using e), List.find?_cons_of_neg (by simpa using e)]
      exact ih
def memB {α : Type} [DecidableEq α] (r : α) (l : List α) : Bool := decide (r ∈ l)
theorem memB_iff {α : Type} [DecidableEq α] {r : α} {l : List α} : memB r l = true ↔ r ∈ l := decide_eq_true_iff
section
variable {X : Cx} {S : Sg} {a b e o : Expr} {p pos tpos apos cpos : Pos}
end
end Va
set_option Elab.async false
set_option linter.all false
set_option maxRecDepth 100000
set_option maxHeartbeats 4000000
namespace Va
open PySem PySem.Spec PyProof.Rows L2 Ind RowK
theorem lone_shut {E : En} {σ : L2.St} {a : Addr} (h : ∀ (j : Nat) (s : SV), E.l[j]? = some s → s.own = false) : Lone E σ a := fun j s e o => by rw [h j s e] at o; cases o
section
variable {X : Cx} {S : Sg} {kx tg iter : Expr} {scope : Scope} {own : List (PySem.Str × Nat)} {pos2 : Pos} {bv : Bool} {bj : Nat} {bp : Pos} {vi : VI} {g : VG} {kl : VT} {i : Nat} {x : PySem.Str} {spos pos' : Pos}
end
end Va
set_option Elab.async false
set_option linter.all false
set_option maxRecDepth 100000
set_option maxHeartbeats 4000000
namespace L2
open PySem PySem.Spec PyProof.Rows
end L2
namespace Va
open PySem PySem.Spec PyProof.Rows L2 Ind RowK
inductive GrM (Γ : Gm) (a : Addr) (m : Nat) (H : Hp) : List (List Key × Addr × Value) → List (List Cell × List D) → Prop
  | nil : GrM Γ a m H [] []
  | cons {k : List Cell} {b q : Addr} {vs : List V} {ds : List D} {xs : List (List Key × Addr × Value)} {kvs : List (List Cell × List D)} : H q = some (.lst vs) → Γ.RpL H vs ds → Free Γ q → q ≠ a → (∀ x ∈ xs, x.2.2 ≠ .ref q) → vs.length ≤ m → GrM Γ a m H xs kvs → GrM Γ a m H ((k, b, .ref q) :: xs) ((k, ds) :: kvs)
section
variable {Γ : Gm} {a : Addr} {m : Nat} {H H' : Hp} {xs : List (List Key × Addr × Value)} {kvs : List (List Cell × List D)}
theorem GrM.keys (h : GrM Γ a m H xs kvs) : xs.map (·.1) = kvs.map (·.1) := by
  induction h with
  | nil => rfl
  | cons _ _ _ _ _ _ _ ih => rw [List.map_cons, List.map_cons, ih]
theorem GrM.stay (kq : Kq H H') (h : GrM Γ a m H xs kvs) (k : ∀ q vs, Free Γ q → q ≠ a → H q = some (.lst vs) → H' q = some (.lst vs)) : GrM Γ a m H' xs kvs := by
  induction h with
  | nil => exact .nil
  | cons h1 h2 h3 h4 h5 h6 _ ih => exact .cons (k _ _ h3 h4 h1) (RpL.kq kq _ _ h2) h3 h4 h5 h6 ih
theorem GrM.mono {m' : Nat} (hm : m ≤ m') (h : GrM Γ a m H xs kvs) : GrM Γ a m' H xs kvs := by
  induction h with
  | nil => exact .nil
  | cons h1 h2 h3 h4 h5 h6 _ ih => exact .cons h1 h2 h3 h4 h5 (Nat.le_trans h6 hm) ih
theorem GrM.push {k : List Cell} {b q : Addr} {vs : List V} {ds : List D} (h : GrM Γ a m H xs kvs) (h1 : H q = some (.lst vs)) (h2 : Γ.RpL H vs ds) (h3 : Free Γ q) (h4 : q ≠ a) (h6 : vs.length ≤ m) (h5 : ∀ x ∈ xs, x.2.2 ≠ .ref q) : GrM Γ a m H (xs ++ [(k, b, .ref q)]) (kvs ++ [(k, ds)]) := by
  induction h with
  | nil => exact .cons h1 h2 h3 h4 (fun x hx => nomatch hx) h6 .nil
  | @cons k2 b2 q2 vs2 ds2 xs2 kvs2 g1 g2 g3 g4 g5 g6 _ ih =>
    refine .cons g1 g2 g3 g4 (fun x hx => ?_) g6 (ih fun x hx => h5 x (List.mem_cons_of_mem _ hx))
    rcases List.mem_append.mp hx with hx | hx
    · exact g5 x hx
    · rw [List.mem_singleton.mp hx]
      intro e
      cases e
      exact h5 _ (List.mem_cons_self ..) rfl
theorem GrM.lock {E : En} {σ : L2.St} {N : Hp → Prop} (ow : ∀ (j : Nat) (s : SV), E.l[j]? = some s → s.own = false) (h : GrM Γ a m H xs kvs) (r : Rep Γ E σ H)
    (k : ∀ H', Kq H H' → Rep Γ E σ H' → GrR Γ.K Γ.tp H' xs kvs → H' a = H a → FrzTo N H') : FrzTo N H := by
  induction xs generalizing kvs H with
  | nil =>
    cases h
    exact k H (Kq.refl _) r .nil rfl
  | cons x xs ih =>
    cases h with
    | @cons k2 b2 q2 vs2 ds2 _ kvs2 g1 g2 g3 g4 g5 g6 g7 =>
      refine .lock g1 trivial fun o => ?_
      have kq1 : Kq H (upd H q2 (.frz o (.lst vs2))) := .upd g1 trivial
      have r1 : Rep Γ E σ (upd H q2 (.frz o (.lst vs2))) := r.lone g1 trivial g3 (lone_shut ow)
      have keep : ∀ {ys : List (List Key × Addr × Value)} {ks : List (List Cell × List D)}, GrM Γ a m H ys ks → (∀ x ∈ ys, x.2.2 ≠ .ref q2) → GrM Γ a m (upd H q2 (.frz o (.lst vs2))) ys ks := fun {ys ks} g => by
        induction g with
        | nil => exact fun _ => .nil
        | @cons k3 b3 q3 vs3 ds3 xs3 kvs3 f1 f2 f3 f4 f5 f6 _ ih =>
          intro hx
          have ne : q3 ≠ q2 := fun z => hx _ (List.mem_cons_self ..) (by rw [z])
          exact .cons (by rw [upd_ne ne]; exact f1) (RpL.kq kq1 _ _ f2) f3 f4 f5 f6 (ih fun x h => hx x (List.mem_cons_of_mem _ h))
      refine ih (keep g7 g5) r1 fun H' kq' r' gr ea => ?_
      refine k H' (kq1.trans kq') r' (.cons (kq'.fzL ⟨o, upd_same⟩) (RpL.kq (kq1.trans kq') _ _ g2) gr) ?_
      rw [ea, upd_ne (Ne.symm g4)]
end
end Va
set_option Elab.async false
set_option linter.all false
set_option maxRecDepth 100000
set_option maxHeartbeats 4000000
namespace Va
open PySem PySem.Spec PyProof.Rows L2 Ind RowK
section
variable {X : Cx} {S : Sg} {iter ox key nt : Expr} {rest : List Stmt} {i j : Nat} {x t : PySem.Str} {vi : VI} {tk : VT} {u : VS} {p1 p2 p3 p4 lpos apos cpos apos2 cpos2 epos fpos : Pos}
end
end Va
set_option Elab.async false
set_option linter.all false
set_option maxRecDepth 100000
set_option maxHeartbeats 4000000
namespace L2
open PySem PySem.Spec PyProof.Rows
end L2
namespace Va
open PySem PySem.Spec PyProof.Rows L2 Ind RowK
structure HeldV (S : Sg) (X : Cx) (k : Nat) (d : Addr) (z : Tx) (m : VM) : Prop where
  ex : ∃ k', k' ≤ k ∧ ∃ (f : Addr) (fd : FuncData) (ps : List PySem.Str), PySem.W.nsIn X.K d z = some (some (.ref f)) ∧ FnOk X.prog X.w X.K X.mg X.base CX0 k' f fd ps (spV S m) ∧ PySem.W.keepIn X.K (.ref f) = true ∧ Binds X.K fd ps []
structure HeldI (S : Sg) (X : Cx) (k : Nat) (d : Addr) (M : List (Tx × VM)) where
  z : Tx
  m : VM
  f : Addr
  fd : FuncData
  ps : List PySem.Str
  k' : Nat
  le : k' ≤ k
  inM : (z, m) ∈ M
  ns : PySem.W.nsIn X.K d z = some (some (.ref f))
  ok : FnOk X.prog X.w X.K X.mg X.base CX0 k' f fd ps (spV S m)
  kp : PySem.W.keepIn X.K (.ref f) = true
  bd : Binds X.K fd ps []
section
variable {X : Cx} {S : Sg} {dx ix e : Expr} {es : List Expr} {i j k : Nat} {d : Addr} {ds : Array DictEntry} {n : Nat} {x : PySem.Str} {ta : VTA} {M : List (Tx × VM)} {p1 p2 p3 p4 p5 p6 : Pos}
end
end Va
set_option Elab.async false
set_option linter.all false
set_option maxRecDepth 100000
set_option maxHeartbeats 4000000
namespace Va
open PySem PySem.Spec PyProof.Rows L2 Ind RowK
section
variable {X : Cx} {S : Sg}
end
def likeC : Cell → Cell → Bool
  | .inl _, .inl _ => true
  | .inr _, .inr _ => true
  | _, _ => false
end Va
namespace L2
open PySem PySem.Spec PyProof.Rows Va RowK
end L2
set_option Elab.async false
set_option linter.all false
set_option maxRecDepth 100000
set_option maxHeartbeats 4000000
namespace Va
open PySem PySem.Spec PyProof.Rows L2 Ind RowK
section
variable {X : Cx} {S : Sg}
def rOk (r : List Cell) : Prop := ∀ x : Tx, Sum.inr x ∈ r → tOk x
def dPairs : List (Tx × VT) → En → (List (Tx × D) → En → Prop) → Prop
  | [], E, Q => Q [] E
  | (x, t) :: r, E, Q => t E fun d E1 => dPairs r E1 fun ps E2 => Q ((x, d) :: ps) E2
def prsV (ps : List (Tx × D)) (us : List V) : List (V × V) := List.zipWith (fun p u => (V.str p.1, u)) ps us
structure DPs (S : Sg) (X : Cx) (pos : Pos) (keys : List (Option Expr)) (values : List Expr) (ts : List (Tx × VT)) : Prop where
  ex : ∃ trs, PPs X pos keys values trs ∧ ∀ (Γ : Gm) (E : En) (σ : L2.St) (H : Hp) (Q : List (V × V) → Hp → Prop) (Q0 : List (Tx × D) → En → Prop), Γ.Ok S → Rep Γ E σ H → dPairs ts E Q0 →
    (∀ ps E', Q0 ps E' → ∀ us H', Kq H H' → Rep Γ E' σ H' → Γ.RpL H' us (ps.map (·.2)) → Q (prsV ps us) H') → tPairs trs σ H Q
  sk : keys.all (·.isSome) = true
  ln : keys.length = values.length
variable {pos pos2 : Pos} {k e : Expr} {keys : List (Option Expr)} {values : List Expr} {ts : List (Tx × VT)} {t : VT} {x : Tx} {j : Nat}
end
end Va
set_option Elab.async false
set_option linter.all false
namespace Va
open PySem PySem.Spec PyProof.Rows L2 Ind
def nL (x : Tx) : Prop := x.length ≤ 20 ∧ (x.length ≤ 4 ∨ 14 ≤ x.length)
end Va
set_option Elab.async false
set_option linter.all false
set_option maxRecDepth 100000
set_option maxHeartbeats 4000000
namespace Va
open PySem PySem.Spec PyProof.Rows L2 Ind RowK
structure RelOk (ns : List Tx) (rs : List (List Cell)) : Prop where
  nd : ns.Nodup
  ne : ns ≠ []
  few : ns.length ≤ 100
  len : ∀ r ∈ rs, r.length = ns.length
  ok : ∀ r ∈ rs, rOk r
def idxs (ws ns : List Tx) : List Nat := ws.map fun x => ns.idxOf x
def pickR (r : List Cell) (is : List Nat) : List Cell := is.map fun i => (r[i]?).getD (.inl 0)
def com (ns ms : List Tx) : List Tx := ms.filter fun x => memB x ns
def furth (ns ms : List Tx) : List Tx := ms.filter fun x => !memB x ns
def mates (ns ms : List Tx) (r : List Cell) (qs : List (List Cell)) : List (List Cell) := qs.filter fun q => memB (pickR q (idxs (com ns ms) ms)) [pickR r (idxs (com ns ms) ns)]
def joined (ns ms : List Tx) (rs qs : List (List Cell)) : List (List Cell) := rs.flatMap fun r => (mates ns ms r qs).map fun q => r ++ pickR q (idxs (furth ns ms) ms)
end Va
set_option Elab.async false
set_option linter.all false
set_option maxRecDepth 100000
set_option maxHeartbeats 4000000
namespace Va
open PySem PySem.Spec PyProof.Rows L2 Ind RowK
theorem onc_nd {α : Type} [DecidableEq α] : ∀ (l acc : List α), acc.Nodup → (onc acc l).Nodup
  | [], acc, h => h
  | x :: l, acc, h => by
    show (if x ∈ acc then onc acc l else onc (acc ++ [x]) l).Nodup
    by_cases hx : x ∈ acc
    · rw [if_pos hx]
      exact onc_nd l acc h
    · rw [if_neg hx]
      exact onc_nd l _ (List.nodup_append.mpr ⟨h, by simp, fun a ha b hb e => hx (by rw [List.mem_singleton] at hb; rw [← hb, ← e]; exact ha)⟩)
abbrev SrtR (l : List (List Cell)) : Prop := l.Pairwise fun x y => ltR y x = false
theorem srtR_one : ∀ {l m : List (List Cell)}, SrtR l → SrtR m → l.Perm m → l = m
  | [], m, _, _, p => (List.Perm.eq_nil p.symm).symm
  | x :: l, [], _, _, p => absurd p.length_eq (by simp)
  | x :: l, y :: m, hl, hm, p => by
    have mx : x ∈ y :: m := p.mem_iff.mp List.mem_cons_self
    have my : y ∈ x :: l := p.mem_iff.mpr List.mem_cons_self
    have e : x = y := by
      rcases List.mem_cons.mp mx with e | hx
      · exact e
      · rcases List.mem_cons.mp my with e | hy
        · exact e.symm
        · exact ltR_tri ((List.pairwise_cons.mp hm).1 x hx) ((List.pairwise_cons.mp hl).1 y hy)
    subst e
    rw [srtR_one (List.pairwise_cons.mp hl).2 (List.pairwise_cons.mp hm).2 p.cons_inv]
def cellFit : Cd → Cell → Prop
  | .s, .inr x => tOk x ∧ x.length ≤ 21
  | .n b, .inl i => -b ≤ i ∧ i ≤ b ∧ b ≤ 1000000000000
  | _, _ => False
def rowFit (cs : List Col) (r : List Cell) : Prop := r.length = cs.length ∧ ∀ (i : Nat) (x : Cell) (p : Col), r[i]? = some x → cs[i]? = some p → cellFit p.2 x
theorem rowFit.rok {cs : List Col} {r : List Cell} (h : rowFit cs r) : rOk r := by
  intro x hx
  obtain ⟨i, hi, e⟩ := List.mem_iff_getElem.mp hx
  have h1 := h.1
  have := h.2 i (.inr x) cs[i] (by rw [List.getElem?_eq_getElem hi, e]) (List.getElem?_eq_getElem (by omega))
  generalize (cs[i]).2 = k at this
  cases k with
  | s => exact this.1
  | n b => exact this.elim
end Va
set_option Elab.async false
set_option linter.all false
set_option maxRecDepth 100000
set_option maxHeartbeats 4000000
namespace Va
open PySem PySem.Spec PyProof.Rows L2 Ind RowK
def atN (r : List Cell) (ns : List Tx) (x : Tx) : Cell := (r[ns.idxOf x]?).getD (.inl 0)
theorem pickR_at (r : List Cell) (ws ns : List Tx) : pickR r (idxs ws ns) = ws.map (atN r ns) := by
  unfold pickR idxs
  rw [List.map_map]
  rfl
theorem mem_mates {ns ms : List Tx} {r q : List Cell} {qs : List (List Cell)} : q ∈ mates ns ms r qs ↔ q ∈ qs ∧ ∀ x ∈ ms, x ∈ ns → atN q ms x = atN r ns x := by
  unfold mates
  rw [List.mem_filter, memB_iff, List.mem_singleton, pickR_at, pickR_at]
  constructor
  · rintro ⟨h1, h2⟩
    exact ⟨h1, fun x a b => List.map_inj_left.mp h2 x (List.mem_filter.mpr ⟨a, memB_iff.mpr b⟩)⟩
  · rintro ⟨h1, h2⟩
    exact ⟨h1, List.map_inj_left.mpr fun x hx => h2 x (List.mem_filter.mp hx).1 (memB_iff.mp (List.mem_filter.mp hx).2)⟩
theorem mem_joined {ns ms : List Tx} {rs qs : List (List Cell)} {z : List Cell} : z ∈ joined ns ms rs qs ↔ ∃ r ∈ rs, ∃ q ∈ qs, (∀ x ∈ ms, x ∈ ns → atN q ms x = atN r ns x) ∧ z = r ++ (furth ns ms).map (atN q ms) := by
  unfold joined
  rw [List.mem_flatMap]
  constructor
  · rintro ⟨r, hr, h⟩
    obtain ⟨q, hq, rfl⟩ := List.mem_map.mp h
    obtain ⟨h1, h2⟩ := mem_mates.mp hq
    exact ⟨r, hr, q, h1, h2, by rw [pickR_at]⟩
  · rintro ⟨r, hr, q, h1, h2, rfl⟩
    exact ⟨r, hr, List.mem_map.mpr ⟨q, mem_mates.mpr ⟨h1, h2⟩, by rw [pickR_at]⟩⟩
theorem joined_len {ns ms : List Tx} {rs qs : List (List Cell)} : (joined ns ms rs qs).length ≤ rs.length * qs.length := by
  unfold joined
  induction rs with
  | nil => simp
  | cons r rs ih =>
    rw [List.flatMap_cons, List.length_append, List.length_cons, Nat.succ_mul, List.length_map]
    have : (mates ns ms r qs).length ≤ qs.length := List.length_filter_le _ _
    omega
theorem onc_mem0 {α : Type} [DecidableEq α] {l : List α} {x : α} : x ∈ onc [] l ↔ x ∈ l := by
  rw [onc_mem]
  simp
end Va
set_option Elab.async false
set_option linter.all false
set_option maxRecDepth 100000
set_option maxHeartbeats 4000000
namespace Va
open PySem PySem.Spec PyProof.Rows L2 Ind RowK
def minC (x : Cell) (xs : List Cell) : Cell := xs.foldl (fun a y => if ltC y a then y else a) x
def maxC (x : Cell) (xs : List Cell) : Cell := xs.foldl (fun a y => if ltC a y then y else a) x
section
variable {X : Cx} {S : Sg}
end
end Va
set_option Elab.async false
set_option linter.all false
set_option maxRecDepth 100000
set_option maxHeartbeats 4000000
namespace Va
open PySem PySem.Spec PyProof.Rows L2 Ind RowK
inductive Ag where
  | cnt (nm : Tx)
  | su (nm x : Tx)
  | mi (nm x : Tx)
  | ma (nm x : Tx)
def Ag.nm : Ag → Tx
  | .cnt n => n
  | .su n _ => n
  | .mi n _ => n
  | .ma n _ => n
def Ag.d : Ag → D
  | .cnt n => .tup [.str n, .str "count", .non]
  | .su n x => .tup [.str n, .str "sum", .str x]
  | .mi n x => .tup [.str n, .str "least", .str x]
  | .ma n x => .tup [.str n, .str "greatest", .str x]
def intC : Cell → Int
  | .inl i => i
  | .inr _ => 0
def valsN (ns : List Tx) (x : Tx) (rows : List (List Cell)) : List Cell := rows.map fun r => atN r ns x
def headC (f : Cell → List Cell → Cell) : List Cell → Cell
  | [] => .inl 0
  | c :: cs => f c cs
def Ag.val (ns : List Tx) (rows : List (List Cell)) : Ag → Cell
  | .cnt _ => .inl rows.length
  | .su _ x => .inl ((valsN ns x rows).map intC).sum
  | .mi _ x => headC minC (valsN ns x rows)
  | .ma _ x => headC maxC (valsN ns x rows)
def Ag.ok (ns : List Tx) (rows : List (List Cell)) : Ag → Prop
  | .cnt _ => True
  | .su _ x => x ∈ ns ∧ ∀ c ∈ valsN ns x rows, ∃ i, c = Sum.inl i
  | .mi _ x => x ∈ ns ∧ ∀ c ∈ valsN ns x rows, ∀ d ∈ valsN ns x rows, likeC c d = true
  | .ma _ x => x ∈ ns ∧ ∀ c ∈ valsN ns x rows, ∀ d ∈ valsN ns x rows, likeC c d = true
end Va
set_option Elab.async false
set_option linter.all false
set_option maxRecDepth 100000
set_option maxHeartbeats 4000000
namespace Va
open PySem PySem.Spec PyProof.Rows L2 Ind RowK
section
variable {X : Cx} {S : Sg}
end
end Va
set_option Elab.async false
set_option linter.all false
set_option maxRecDepth 100000
set_option maxHeartbeats 4000000
namespace Va
open PySem PySem.Spec PyProof.Rows L2 Ind RowK
def grpd (g : List Cell → List Cell) (qs : List (List Cell)) : List (List Cell × List (List Cell)) := (onc [] (qs.map g)).map fun k => (k, qs.filter fun q => memB (g q) [k])
end Va
set_option Elab.async false
set_option linter.all false
set_option maxRecDepth 100000
set_option maxHeartbeats 4000000
namespace Va
open PySem PySem.Spec PyProof.Rows L2 Ind RowK
theorem fit_at {cs : List Col} {r : List Cell} {x : Tx} {k : Cd} (h : rowFit cs r) (nd : (cs.map (·.1)).Nodup) (m : (x, k) ∈ cs) : cellFit k (atN r (cs.map (·.1)) x) := by
  obtain ⟨i, hi, e⟩ := List.mem_iff_getElem.mp m
  have hi2 : i < (cs.map (·.1)).length := by rw [List.length_map]; exact hi
  have ex : (cs.map (·.1)).idxOf x = i := by
    have := List.Nodup.idxOf_getElem nd i hi2
    rw [List.getElem_map, e] at this
    exact this
  have hr : i < r.length := by rw [h.1]; exact hi
  unfold atN
  rw [ex, List.getElem?_eq_getElem hr]
  exact h.2 i r[i] (x, k) (List.getElem?_eq_getElem hr) (by rw [List.getElem?_eq_getElem hi, e])
theorem cell_like {k : Cd} {c d : Cell} (h1 : cellFit k c) (h2 : cellFit k d) : likeC c d = true := by
  cases k <;> cases c <;> cases d <;> first | exact h1.elim | exact h2.elim | rfl
def agFit (cs : List Col) : Ag → Prop
  | .cnt _ => True
  | .su _ x => ∃ b, (x, Cd.n b) ∈ cs
  | .mi _ x => ∃ k, (x, k) ∈ cs
  | .ma _ x => ∃ k, (x, k) ∈ cs
theorem agFit.ok {cs : List Col} {a : Ag} {rows : List (List Cell)} (h : agFit cs a) (nd : (cs.map (·.1)).Nodup) (hr : ∀ r ∈ rows, rowFit cs r) : a.ok (cs.map (·.1)) rows := by
  have like : ∀ (x : Tx) (k : Cd), (x, k) ∈ cs → x ∈ cs.map (·.1) ∧ ∀ c ∈ valsN (cs.map (·.1)) x rows, cellFit k c := fun x k m => by
    refine ⟨List.mem_map.mpr ⟨_, m, rfl⟩, fun c hc => ?_⟩
    obtain ⟨r, h1, rfl⟩ := List.mem_map.mp hc
    exact fit_at (hr r h1) nd m
  cases a with
  | cnt n => trivial
  | su n x =>
    obtain ⟨b, m⟩ := h
    obtain ⟨h1, h2⟩ := like x _ m
    refine ⟨h1, fun c hc => ?_⟩
    have := h2 c hc
    cases c with
    | inl i => exact ⟨i, rfl⟩
    | inr y => exact this.elim
  | mi n x =>
    obtain ⟨k, m⟩ := h
    obtain ⟨h1, h2⟩ := like x _ m
    exact ⟨h1, fun c hc d hd => cell_like (h2 c hc) (h2 d hd)⟩
  | ma n x =>
    obtain ⟨k, m⟩ := h
    obtain ⟨h1, h2⟩ := like x _ m
    exact ⟨h1, fun c hc d hd => cell_like (h2 c hc) (h2 d hd)⟩
theorem minC_least (xs : List Cell) : ∀ x : Cell, minC x xs ∈ x :: xs ∧ ∀ y ∈ x :: xs, ltC y (minC x xs) = false := by
  induction xs with
  | nil => exact fun x => ⟨List.mem_singleton.mpr rfl, fun y hy => by rw [List.mem_singleton.mp hy]; exact ltC_irr _⟩
  | cons y xs ih =>
    intro x
    have e : minC x (y :: xs) = minC (if ltC y x then y else x) xs := rfl
    rw [e]
    cases h : ltC y x with
    | true =>
      obtain ⟨a, b⟩ := ih y
      refine ⟨List.mem_cons_of_mem _ a, fun z hz => ?_⟩
      rcases List.mem_cons.mp hz with rfl | hz
      · cases h2 : ltC z (minC y xs) with
        | false => exact h2
        | true => have := b y List.mem_cons_self; rw [ltC_trans h h2] at this; cases this
      · exact b z hz
    | false =>
      obtain ⟨a, b⟩ := ih x
      refine ⟨?_, fun z hz => ?_⟩
      · rcases List.mem_cons.mp a with a | a
        · show minC x xs ∈ x :: y :: xs
          rw [a]; exact List.mem_cons_self
        · exact List.mem_cons_of_mem _ (List.mem_cons_of_mem _ a)
      · have bx := b x List.mem_cons_self
        rcases List.mem_cons.mp hz with rfl | hz
        · exact bx
        · rcases List.mem_cons.mp hz with rfl | hz
          · cases h2 : ltC z (minC x xs) with
            | false => exact h2
            | true =>
              cases h3 : ltC (minC x xs) x with
              | true => rw [ltC_trans h2 h3] at h; cases h
              | false =>
                have := ltC_tri bx h3
                rw [← this] at h2
                rw [h2] at h
                cases h
          · exact b z (List.mem_cons_of_mem _ hz)
theorem maxC_most (xs : List Cell) : ∀ x : Cell, maxC x xs ∈ x :: xs ∧ ∀ y ∈ x :: xs, ltC (maxC x xs) y = false := by
  induction xs with
  | nil => exact fun x => ⟨List.mem_singleton.mpr rfl, fun y hy => by rw [List.mem_singleton.mp hy]; exact ltC_irr _⟩
  | cons y xs ih =>
    intro x
    have e : maxC x (y :: xs) = maxC (if ltC x y then y else x) xs := rfl
    rw [e]
    cases h : ltC x y with
    | true =>
      obtain ⟨a, b⟩ := ih y
      refine ⟨List.mem_cons_of_mem _ a, fun z hz => ?_⟩
      rcases List.mem_cons.mp hz with rfl | hz
      · cases h2 : ltC (maxC y xs) z with
        | false => exact h2
        | true => have := b y List.mem_cons_self; rw [ltC_trans h2 h] at this; cases this
      · exact b z hz
    | false =>
      obtain ⟨a, b⟩ := ih x
      refine ⟨?_, fun z hz => ?_⟩
      · rcases List.mem_cons.mp a with a | a
        · show maxC x xs ∈ x :: y :: xs
          rw [a]; exact List.mem_cons_self
        · exact List.mem_cons_of_mem _ (List.mem_cons_of_mem _ a)
      · have bx := b x List.mem_cons_self
        rcases List.mem_cons.mp hz with rfl | hz
        · exact bx
        · rcases List.mem_cons.mp hz with rfl | hz
          · cases h2 : ltC (maxC x xs) z with
            | false => exact h2
            | true =>
              cases h3 : ltC x (maxC x xs) with
              | true => rw [ltC_trans h3 h2] at h; cases h
              | false =>
                have := ltC_tri h3 bx
                rw [← this] at h2
                rw [h2] at h
                cases h
          · exact b z (List.mem_cons_of_mem _ hz)
def cellSm : Cell → Prop
  | .inl i => -(2 ^ 200) ≤ i ∧ i ≤ 2 ^ 200
  | .inr x => tOk x ∧ x.length ≤ 30
theorem fit_sm {k : Cd} {c : Cell} (h : cellFit k c) : cellSm c := by
  cases k with
  | s =>
    cases c with
    | inl i => exact h.elim
    | inr x => exact ⟨h.1, Nat.le_trans h.2 (by decide)⟩
  | n b =>
    cases c with
    | inl i =>
      obtain ⟨h1, h2, h3⟩ := h
      have e : (2 : Int) ^ 200 = 1606938044258990275541962092341162602522202993782792835301376 := by decide +kernel
      exact ⟨by rw [e]; omega, by rw [e]; omega⟩
    | inr x => exact h.elim
theorem sum_sm {b : Int} {l : List Cell} (h : ∀ c ∈ l, cellFit (.n b) c) : -(1000000000000 * (l.length : Int)) ≤ (l.map intC).sum ∧ (l.map intC).sum ≤ 1000000000000 * (l.length : Int) := by
  induction l with
  | nil => exact ⟨by decide, by decide⟩
  | cons c l ih =>
    obtain ⟨h1, h2⟩ := ih fun d hd => h d (List.mem_cons_of_mem _ hd)
    have hc := h c List.mem_cons_self
    rw [List.map_cons, List.sum_cons, List.length_cons]
    cases c with
    | inl i =>
      obtain ⟨a1, a2, a3⟩ := hc
      show _ ≤ i + _ ∧ i + _ ≤ _
      constructor <;> omega
    | inr x => exact hc.elim
theorem agFit.sm {cs : List Col} {a : Ag} {rows : List (List Cell)} (h : agFit cs a) (nd : (cs.map (·.1)).Nodup) (hr : ∀ r ∈ rows, rowFit cs r) (r0 : rows ≠ []) (hl : rows.length ≤ 1000) : cellSm (a.val (cs.map (·.1)) rows) := by
  have e : (2 : Int) ^ 200 = 1606938044258990275541962092341162602522202993782792835301376 := by decide +kernel
  have like : ∀ (x : Tx) (k : Cd), (x, k) ∈ cs → ∀ c ∈ valsN (cs.map (·.1)) x rows, cellFit k c := fun x k m c hc => by
    obtain ⟨r, h1, rfl⟩ := List.mem_map.mp hc
    exact fit_at (hr r h1) nd m
  have n0 : ∀ x, valsN (cs.map (·.1)) x rows ≠ [] := fun x z => r0 (List.map_eq_nil_iff.mp z)
  cases a with
  | cnt n => exact ⟨by show _ ≤ ((rows.length : Nat) : Int); rw [e]; omega, by show ((rows.length : Nat) : Int) ≤ _; rw [e]; omega⟩
  | su n x =>
    obtain ⟨b, m⟩ := h
    have := sum_sm (like x _ m)
    have vl : (valsN (cs.map (·.1)) x rows).length ≤ 1000 := by unfold valsN; rw [List.length_map]; exact hl
    show _ ≤ ((valsN (cs.map (·.1)) x rows).map intC).sum ∧ ((valsN (cs.map (·.1)) x rows).map intC).sum ≤ _
    rw [e]
    omega
  | mi n x =>
    obtain ⟨k, m⟩ := h
    have al := like x _ m
    have z := n0 x
    show cellSm (headC minC (valsN (cs.map (·.1)) x rows))
    generalize valsN (cs.map (·.1)) x rows = l at al z ⊢
    match l, z with
    | c :: l, _ => exact fit_sm (al _ (minC_least l c).1)
  | ma n x =>
    obtain ⟨k, m⟩ := h
    have al := like x _ m
    have z := n0 x
    show cellSm (headC maxC (valsN (cs.map (·.1)) x rows))
    generalize valsN (cs.map (·.1)) x rows = l at al z ⊢
    match l, z with
    | c :: l, _ => exact fit_sm (al _ (maxC_most l c).1)
end Va
set_option Elab.async false
set_option linter.all false
set_option maxRecDepth 100000
set_option maxHeartbeats 4000000
namespace Va
open PySem PySem.Spec PyProof.Rows L2 Ind RowK
section
variable {X : Cx} {S : Sg}
end
end Va
set_option Elab.async false
set_option linter.all false
set_option maxRecDepth 100000
set_option maxHeartbeats 4000000
namespace Va
open PySem PySem.Spec PyProof.Rows L2 Ind RowK
def unD : D → Cell
  | .str x => .inr x
  | .int i => .inl i
  | _ => .inl 0
theorem un_cell (x : Cell) : unD (cellD x) = x := by cases x <;> rfl
def exC (ns : List Tx) (e : Ex) (r : List Cell) : Cell := unD (exV ns (r.map cellD) e)
theorem rowFit.row {cs : List Col} {r : List Cell} (h : rowFit cs r) (nd : (cs.map (·.1)).Nodup) : RowOk cs (r.map cellD) := by
  refine ⟨nd, by rw [List.length_map]; exact h.1, fun i p v e1 e2 => ?_⟩
  obtain ⟨x, ex, rfl⟩ := map_get e2
  have := h.2 i x p ex e1
  obtain ⟨nm, k⟩ := p
  cases k <;> cases x <;> first | exact this.elim | exact ⟨_, rfl⟩
abbrev It8 := Tx × Ex
def itD8 (p : It8) : D := .tup [.str p.1, exD p.2]
def selR (ns : List Tx) (its : List It8) (r : List Cell) : List Cell := its.map fun p => exC ns p.2 r
end Va
set_option Elab.async false
set_option linter.all false
set_option maxRecDepth 100000
set_option maxHeartbeats 4000000
namespace Va
open PySem PySem.Spec PyProof.Rows L2 Ind RowK
end Va
set_option Elab.async false
set_option linter.all false
set_option maxRecDepth 100000
set_option maxHeartbeats 4000000
namespace Va
open PySem PySem.Spec PyProof.Rows L2 Ind RowK
inductive Tw where
  | joi
  | uni
  | mnu
  | mat
  | wou
def Tw.w : Tw → Tx
  | .joi => "join"
  | .uni => "union"
  | .mnu => "minus"
  | .mat => "matching"
  | .wou => "without"
inductive Qy where
  | nm (x : Tx)
  | whr (q : Qy) (F : Fm)
  | sel (q : Qy) (its : List It8)
  | grp (q : Qy) (ks : List Tx) (as : List Ag)
  | two (w : Tw) (p q : Qy)
def Qy.d : Qy → D
  | .nm x => .tup [.str "name", .str x]
  | .whr q F => .tup [.str "where", q.d, F.d]
  | .sel q its => .tup [.str "select", q.d, .tup (its.map itD8)]
  | .grp q ks as => .tup [.str "group", q.d, .ptp (ks.map .str), .tup (as.map Ag.d)]
  | .two w p q => .tup [.str w.w, p.d, q.d]
def Qy.dep : Qy → Nat
  | .nm _ => 0
  | .whr q _ => q.dep + 1
  | .sel q _ => q.dep + 1
  | .grp q _ _ => q.dep + 1
  | .two _ p q => max p.dep q.dep + 1
abbrev Shp := List Col × Int
def colK (cs : List Col) (n : Tx) : Option Cd := (cs.find? fun p => decide (p.1 = n)).map (·.2)
def opK (cs : List Col) : Op → Option Cd
  | .col n => colK cs n
  | .num i => some (.n (if 0 ≤ i then i else -i))
  | .txt _ => some .s
def bndK : Option Cd → Option Int
  | some (.n b) => some b
  | _ => none
def sumK (cs : List Col) : Ex → Option Int
  | [] => some 0
  | t :: e => match bndK (opK cs t.2), sumK cs e with
    | some a, some b => some (a + b)
    | _, _ => none
def exK (cs : List Col) (e : Ex) : Option Cd := match e with
  | [t] => opK cs t.2
  | e => match sumK cs e with
    | some b => if b ≤ 1000000000000 then some (.n b) else none
    | none => none
def bigK : Cd → Bool
  | .s => false
  | .n b => decide (1000000000000 < b)
def sized (cs : List Col) (m : Int) : Option Shp := if 3000 < m then none else if cs.any (fun p => bigK p.2) then none else some (cs, m)
def gK {α : Type} (f : α → Option Cd) (g : α → Tx) : List α → List Col → Option (List Col)
  | [], found => some found
  | p :: l, found => match f p with
    | some k => if memB (g p) (found.map (·.1)) = true then none else gK f g l (found ++ [(g p, k)])
    | none => none
def selK (cs : List Col) (its : List It8) (found : List Col) : Option (List Col) := gK (fun p : It8 => exK cs p.2) (fun p => p.1) its found
def keyK (cs : List Col) (ks : List Tx) (found : List Col) : Option (List Col) := gK (colK cs) (fun x => x) ks found
def agKd (cs : List Col) (m : Int) : Ag → Option Cd
  | .cnt _ => some (.n m)
  | .su _ x => match colK cs x with
    | some (.n b) => some (.n (b * m))
    | _ => none
  | .mi _ x => colK cs x
  | .ma _ x => colK cs x
def aggK (cs : List Col) (m : Int) (as : List Ag) (found : List Col) : Option (List Col) := gK (agKd cs m) Ag.nm as found
def maxK : Cd → Cd → Cd
  | .n a, .n b => .n (if b ≤ a then a else b)
  | k, _ => k
def twoK (w : Tw) (cs : List Col) (m : Int) (ds : List Col) (n : Int) : Option Shp := match w with
  | .uni => if (ds.map fun p => (p.1, p.2.w)) = (cs.map fun p => (p.1, p.2.w)) then sized ((cs.zip ds).map fun p => (p.1.1, maxK p.1.2 p.2.2)) (m + n) else none
  | .mnu => if (ds.map fun p => (p.1, p.2.w)) = (cs.map fun p => (p.1, p.2.w)) then some (cs, m) else none
  | .joi => if ds.all (fun p => match colK cs p.1 with | some k => decide (k.w = p.2.w) | none => true) then sized (cs ++ ds.filter fun p => !memB p.1 (cs.map (·.1))) (m * n) else none
  | _ => if ds.all (fun p => match colK cs p.1 with | some k => decide (k.w = p.2.w) | none => true) then some (cs, m) else none
mutual
def fmK (cs : List Col) : Fm → Bool
  | .cmp _ l r => match exK cs l, exK cs r with
    | some a, some b => decide (a.w = b.w)
    | _, _ => false
  | .neg f => fmK cs f
  | .all fs => fmKL cs fs
  | .any fs => fmKL cs fs
  | .imp a b => fmK cs a && fmK cs b
  | .tt => true
  | .ff => true
def fmKL (cs : List Col) : List Fm → Bool
  | [] => true
  | f :: fs => fmK cs f && fmKL cs fs
end
def tyQ (sh : List (Tx × Shp)) : Qy → Option Shp
  | .nm x => (sh.find? fun p => decide (p.1 = x)).map (·.2)
  | .whr q F => match tyQ sh q with
    | some (cs, m) => if fmK cs F = true then some (cs, m) else none
    | none => none
  | .sel q its => match tyQ sh q with
    | some (cs, m) => match selK cs its [] with
      | some ds => sized ds m
      | none => none
    | none => none
  | .grp q ks as => match tyQ sh q with
    | some (cs, m) => match keyK cs ks [] with
      | some found => match aggK cs m as found with
        | some ds => sized ds m
        | none => none
      | none => none
    | none => none
  | .two w p q => match tyQ sh p, tyQ sh q with
    | some (cs, m), some (ds, n) => twoK w cs m ds n
    | _, _ => none
def insR (x : List Cell) : List (List Cell) → List (List Cell)
  | [] => [x]
  | y :: l => if ltR y x = true then y :: insR x l else x :: y :: l
def srtL : List (List Cell) → List (List Cell)
  | [] => []
  | x :: l => insR x (srtL l)
theorem insR_perm (x : List Cell) : ∀ l, (insR x l).Perm (x :: l)
  | [] => List.Perm.refl _
  | y :: l => by
    unfold insR
    split
    · exact (List.Perm.cons y (insR_perm x l)).trans (List.Perm.swap x y l)
    · exact List.Perm.refl _
theorem srtL_perm : ∀ l, (srtL l).Perm l
  | [] => List.Perm.refl _
  | x :: l => (insR_perm x _).trans (List.Perm.cons x (srtL_perm l))
theorem insR_srt (x : List Cell) : ∀ {l}, SrtR l → SrtR (insR x l)
  | [], _ => List.pairwise_cons.mpr ⟨fun _ h => (nomatch h), .nil⟩
  | y :: l, h => by
    obtain ⟨h1, h2⟩ := List.pairwise_cons.mp h
    unfold insR
    split
    · rename_i e
      refine List.pairwise_cons.mpr ⟨fun z hz => ?_, insR_srt x h2⟩
      rcases List.mem_cons.mp ((insR_perm x l).mem_iff.mp hz) with rfl | hz
      · cases g : ltR z y with
        | false => rfl
        | true => have := ltR_trans e g; rw [ltR_irr] at this; cases this
      · exact h1 z hz
    · rename_i e
      have e : ltR y x = false := by simpa using e
      refine List.pairwise_cons.mpr ⟨fun z hz => ?_, h⟩
      rcases List.mem_cons.mp hz with rfl | hz
      · exact e
      · have a := h1 z hz
        cases g : ltR z x with
        | false => rfl
        | true =>
          cases g2 : ltR x y with
          | true => have := ltR_trans g g2; rw [a] at this; cases this
          | false =>
            have := ltR_tri e g2
            rw [this] at a
            rw [a] at g
            cases g
theorem srtL_srt : ∀ l, SrtR (srtL l)
  | [] => .nil
  | x :: l => insR_srt x (srtL_srt l)
def stR (l : List (List Cell)) : List (List Cell) := srtL (onc [] l)
theorem stR_mem {l : List (List Cell)} {r : List Cell} : r ∈ stR l ↔ r ∈ l := by
  unfold stR
  rw [(srtL_perm _).mem_iff]
  exact onc_mem0
theorem stR_nd (l : List (List Cell)) : (stR l).Nodup := (srtL_perm _).nodup_iff.mpr (onc_nd _ [] List.nodup_nil)
theorem stR_srt (l : List (List Cell)) : SrtR (stR l) := srtL_srt _
theorem stR_len (l : List (List Cell)) : (stR l).length ≤ l.length := by
  unfold stR
  rw [(srtL_perm _).length_eq]
  have := onc_le l []
  simpa using this
def keyN (ks ns : List Tx) (r : List Cell) : List Cell := pickR r (idxs ks ns)
def madeR (ks ns : List Tx) (as : List Ag) (rs : List (List Cell)) : List (List Cell) := (grpd (keyN ks ns) rs).map fun p => p.1 ++ as.map (Ag.val ns p.2)
def joinR (w : Tw) (ns ms : List Tx) (rs qs : List (List Cell)) : List Tx × List (List Cell) := match w with
  | .joi => (ns ++ furth ns ms, stR (joined ns ms rs qs))
  | .uni => (ns, stR (rs ++ qs))
  | .mnu => (ns, rs.filter fun r => !memB r qs)
  | .mat => (ns, rs.filter fun r => !(mates ns ms r qs).isEmpty)
  | .wou => (ns, rs.filter fun r => (mates ns ms r qs).isEmpty)
abbrev Rl := List Tx × List (List Cell)
def ansR (rl : List (Tx × Rl)) : Qy → Rl
  | .nm x => ((rl.find? fun p => decide (p.1 = x)).map (·.2)).getD ([], [])
  | .whr q F => ((ansR rl q).1, (ansR rl q).2.filter fun r => F.tr (ansR rl q).1 (r.map cellD))
  | .sel q its => (its.map (·.1), stR ((ansR rl q).2.map (selR (ansR rl q).1 its)))
  | .grp q ks as => (ks ++ as.map Ag.nm, stR (madeR ks (ansR rl q).1 as (ansR rl q).2))
  | .two w p q => joinR w (ansR rl p).1 (ansR rl q).1 (ansR rl p).2 (ansR rl q).2
end Va
set_option Elab.async false
set_option linter.all false
set_option maxRecDepth 100000
set_option maxHeartbeats 4000000
namespace Va
open PySem PySem.Spec PyProof.Rows L2 Ind RowK
def opS : Op → Prop
  | .col n => tOk n
  | .num _ => True
  | .txt x => tOk x ∧ x.length ≤ 21
structure exS (e : Ex) : Prop where
  ne : e ≠ []
  len : e.length ≤ 20
  op : ∀ t ∈ e, opS t.2
theorem colK_mem {cs : List Col} {n : Tx} {k : Cd} (h : colK cs n = some k) : (n, k) ∈ cs := by
  unfold colK at h
  cases e : cs.find? fun p => decide (p.1 = n) with
  | none => rw [e] at h; cases h
  | some p =>
    rw [e] at h
    cases h
    have h1 := List.find?_some e
    have h2 := List.mem_of_find?_eq_some e
    have h1 : p.1 = n := of_decide_eq_true h1
    rw [← h1]
    exact h2
theorem ev_cell {cs : List Col} {r : List Cell} (h : rowFit cs r) (nd : (cs.map (·.1)).Nodup) {n : Tx} {k : Cd} (m : (n, k) ∈ cs) : ∃ x : Cell, ev (cs.map (·.1)) (r.map cellD) (.col n) = cellD x ∧ cellFit k x := by
  have a := fit_at h nd m
  refine ⟨_, ?_, a⟩
  show ((r.map cellD)[(cs.map (·.1)).idxOf n]?).getD .non = cellD (atN r (cs.map (·.1)) n)
  unfold atN
  rw [List.getElem?_map]
  have hi : (cs.map (·.1)).idxOf n < r.length := by
    rw [h.1, ← List.length_map (as := cs) (f := fun p : Col => p.1)]
    exact List.idxOf_lt_length_of_mem (List.mem_map.mpr ⟨_, m, rfl⟩)
  rw [List.getElem?_eq_getElem hi]
  rfl
theorem sumK_bound {cs : List Col} {r : List Cell} (h : rowFit cs r) (nd : (cs.map (·.1)).Nodup) : ∀ {e : Ex} {b : Int}, sumK cs e = some b → -b ≤ sumV (cs.map (·.1)) (r.map cellD) e ∧ sumV (cs.map (·.1)) (r.map cellD) e ≤ b
  | [], b, e => by
    have e : some (0 : Int) = some b := e
    cases e
    exact ⟨Int.le_refl 0, Int.le_refl 0⟩
  | t :: e, b, g => by
    unfold sumK at g
    cases h1 : bndK (opK cs t.2) with
    | none => rw [h1] at g; cases g
    | some a =>
      rw [h1] at g
      cases h2 : sumK cs e with
      | none => rw [h2] at g; cases g
      | some b2 =>
        rw [h2] at g
        have g : some (a + b2) = some b := g
        cases g
        obtain ⟨i1, i2⟩ := sumK_bound h nd h2
        have one : -a ≤ intOf (ev (cs.map (·.1)) (r.map cellD) t.2) ∧ intOf (ev (cs.map (·.1)) (r.map cellD) t.2) ≤ a := by
          cases ho : t.2 with
          | num i =>
            rw [ho] at h1
            have h1 : some (if 0 ≤ i then i else -i) = some a := h1
            cases h1
            show -(if 0 ≤ i then i else -i) ≤ i ∧ i ≤ (if 0 ≤ i then i else -i)
            split <;> omega
          | txt x => rw [ho] at h1; cases h1
          | col n =>
            rw [ho] at h1
            cases hk : colK cs n with
            | none =>
              have h1 : bndK (colK cs n) = some a := h1
              rw [hk] at h1; cases h1
            | some k =>
              have h1 : bndK (colK cs n) = some a := h1
              rw [hk] at h1
              cases k with
              | s => cases h1
              | n c =>
                cases h1
                obtain ⟨x, ex, fx⟩ := ev_cell h nd (colK_mem hk)
                rw [ex]
                cases x with
                | inl i => exact ⟨fx.1, fx.2.1⟩
                | inr y => exact fx.elim
        show -(a + b2) ≤ sg1 t.1 (intOf (ev (cs.map (·.1)) (r.map cellD) t.2)) + sumV (cs.map (·.1)) (r.map cellD) e ∧ sg1 t.1 (intOf (ev (cs.map (·.1)) (r.map cellD) t.2)) + sumV (cs.map (·.1)) (r.map cellD) e ≤ a + b2
        cases t.1 with
        | true => show _ ≤ intOf _ + _ ∧ intOf _ + _ ≤ _; omega
        | false => show _ ≤ -intOf _ + _ ∧ -intOf _ + _ ≤ _; omega
theorem exC_fit {cs : List Col} {r : List Cell} (h : rowFit cs r) (nd : (cs.map (·.1)).Nodup) {e : Ex} {k : Cd} (hk : exK cs e = some k) (s : exS e) (big : bigK k = false) : cellFit k (exC (cs.map (·.1)) e r) := by
  match e, hk, s with
  | [], _, s => exact absurd rfl s.ne
  | [t], hk, s =>
    have hk : opK cs t.2 = some k := hk
    show cellFit k (unD (ev (cs.map (·.1)) (r.map cellD) t.2))
    have st := s.op t (by simp)
    cases ho : t.2 with
    | num i =>
      rw [ho] at hk
      have hk : some (Cd.n (if 0 ≤ i then i else -i)) = some k := hk
      cases hk
      have big : decide (1000000000000 < (if 0 ≤ i then i else -i)) = false := big
      have big := of_decide_eq_false big
      show -(if 0 ≤ i then i else -i) ≤ i ∧ i ≤ (if 0 ≤ i then i else -i) ∧ (if 0 ≤ i then i else -i) ≤ 1000000000000
      split at big <;> simp_all <;> omega
    | txt x =>
      rw [ho] at hk st
      have hk : some Cd.s = some k := hk
      cases hk
      exact st
    | col n =>
      rw [ho] at hk
      obtain ⟨x, ex, fx⟩ := ev_cell h nd (colK_mem hk)
      rw [ex, un_cell]
      exact fx
  | t :: u :: e, hk, s =>
    have hk : (match sumK cs (t :: u :: e) with | some b => if b ≤ 1000000000000 then some (Cd.n b) else none | none => none) = some k := hk
    cases h1 : sumK cs (t :: u :: e) with
    | none => rw [h1] at hk; cases hk
    | some b =>
      rw [h1] at hk
      dsimp only at hk
      split at hk
      · rename_i hb
        cases hk
        obtain ⟨b1, b2⟩ := sumK_bound h nd h1
        exact ⟨b1, b2, hb⟩
      · cases hk
end Va
set_option Elab.async false
set_option linter.all false
set_option maxRecDepth 100000
set_option maxHeartbeats 4000000
namespace Va
open PySem PySem.Spec PyProof.Rows L2 Ind RowK
def kNN : Cd → Prop
  | .s => True
  | .n b => 0 ≤ b
structure ShOk (cs : List Col) (m : Int) : Prop where
  nd : (cs.map (·.1)).Nodup
  ne : cs ≠ []
  nn : ∀ p ∈ cs, kNN p.2
  sm : ∀ p ∈ cs, bigK p.2 = false
  m0 : 0 ≤ m
structure RlOk (cs : List Col) (m : Int) (r : Rl) : Prop where
  nm : r.1 = cs.map (·.1)
  fit : ∀ x ∈ r.2, rowFit cs x
  srt : SrtR r.2
  nd : r.2.Nodup
  len : (r.2.length : Int) ≤ m
theorem sized_some {cs : List Col} {m : Int} {s : Shp} (h : sized cs m = some s) : s = (cs, m) ∧ m ≤ 3000 ∧ ∀ p ∈ cs, bigK p.2 = false := by
  unfold sized at h
  split at h
  · cases h
  · rename_i h1
    split at h
    · cases h
    · rename_i h2
      cases h
      refine ⟨rfl, by omega, fun p hp => ?_⟩
      cases e : bigK p.2 with
      | false => rfl
      | true => exact absurd (List.any_eq_true.mpr ⟨p, hp, e⟩) h2
theorem gK_ex {α : Type} {f : α → Option Cd} {g : α → Tx} : ∀ {l : List α} {found ds : List Col}, gK f g l found = some ds → (found.map (·.1)).Nodup → (ds.map (·.1)).Nodup ∧ ∃ news : List Col, ds = found ++ news ∧ news.map (·.1) = l.map g ∧ ∀ (i : Nat) (p : α) (q : Col), l[i]? = some p → news[i]? = some q → f p = some q.2
  | [], found, ds, h, nd => by
    have h : some found = some ds := h
    cases h
    exact ⟨nd, [], by simp, rfl, fun i p q e => by simp at e⟩
  | p :: l, found, ds, h, nd => by
    unfold gK at h
    cases e : f p with
    | none => rw [e] at h; cases h
    | some k =>
      rw [e] at h
      dsimp only at h
      split at h
      · cases h
      · rename_i hm
        have nd2 : ((found ++ [(g p, k)]).map (·.1)).Nodup := by
          rw [List.map_append]
          exact List.nodup_append.mpr ⟨nd, by simp, fun a ha b hb eq => hm (memB_iff.mpr (by
            have : b = g p := by simpa using hb
            rw [← this, ← eq]; exact ha))⟩
        obtain ⟨a, news, rfl, e2, e3⟩ := gK_ex h nd2
        refine ⟨a, (g p, k) :: news, by simp, by rw [List.map_cons, List.map_cons, e2], fun i x q h1 h2 => ?_⟩
        cases i with
        | zero =>
          simp at h1 h2
          rw [← h1, ← h2]
          exact e
        | succ i =>
          simp at h1 h2
          exact e3 i x q h1 h2
theorem fit_app {cs ds : List Col} {r q : List Cell} (h1 : rowFit cs r) (h2 : rowFit ds q) : rowFit (cs ++ ds) (r ++ q) := by
  have l1 := h1.1
  have l2 := h2.1
  refine ⟨by rw [List.length_append, List.length_append]; omega, fun i x p e1 e2 => ?_⟩
  by_cases hi : i < r.length
  · rw [List.getElem?_append_left hi] at e1
    rw [List.getElem?_append_left (by omega)] at e2
    exact h1.2 i x p e1 e2
  · rw [List.getElem?_append_right (by omega)] at e1
    rw [List.getElem?_append_right (by omega), ← l1] at e2
    exact h2.2 _ x p e1 e2
theorem pick_fit {ds es : List Col} {q : List Cell} (h : rowFit ds q) (nd : (ds.map (·.1)).Nodup) (hm : ∀ p ∈ es, p ∈ ds) : rowFit es ((es.map (·.1)).map (atN q (ds.map (·.1)))) := by
  refine ⟨by rw [List.length_map, List.length_map], fun i x p e1 e2 => ?_⟩
  rw [List.map_map, List.getElem?_map, e2] at e1
  have e1 : some (atN q (ds.map (·.1)) p.1) = some x := e1
  cases e1
  exact fit_at h nd (hm p (List.mem_of_getElem? e2))
theorem sel_fit {cs news : List Col} {its : List It8} {r : List Cell} (h : rowFit cs r) (nd : (cs.map (·.1)).Nodup) (en : news.map (·.1) = its.map fun p => p.1) (hk : ∀ (i : Nat) (p : It8) (q : Col), its[i]? = some p → news[i]? = some q → exK cs p.2 = some q.2) (hs : ∀ p ∈ its, exS p.2) (hb : ∀ q ∈ news, bigK q.2 = false) : rowFit news (selR (cs.map (·.1)) its r) := by
  have el : news.length = its.length := by
    have := congrArg List.length en
    rwa [List.length_map, List.length_map] at this
  unfold selR
  refine ⟨by rw [List.length_map]; exact el.symm, fun i x q e1 e2 => ?_⟩
  rw [List.getElem?_map] at e1
  cases e : its[i]? with
  | none => rw [e] at e1; cases e1
  | some p =>
    rw [e] at e1
    have e1 : some (exC (cs.map (·.1)) p.2 r) = some x := e1
    cases e1
    exact exC_fit h nd (hk i p q e e2) (hs p (List.mem_of_getElem? e)) (hb q (List.mem_of_getElem? e2))
theorem sumB {b : Int} {l : List Cell} (h : ∀ c ∈ l, cellFit (.n b) c) : -(b * (l.length : Int)) ≤ (l.map intC).sum ∧ (l.map intC).sum ≤ b * (l.length : Int) := by
  induction l with
  | nil => simp
  | cons c l ih =>
    obtain ⟨h1, h2⟩ := ih fun d hd => h d (List.mem_cons_of_mem _ hd)
    have hc := h c List.mem_cons_self
    rw [List.map_cons, List.sum_cons, List.length_cons]
    have e : b * ((l.length + 1 : Nat) : Int) = b * (l.length : Int) + b := by
      rw [Int.natCast_add, Int.mul_add]
      simp
    rw [e]
    cases c with
    | inl i =>
      obtain ⟨a1, a2, a3⟩ := hc
      show _ ≤ i + _ ∧ i + _ ≤ _
      constructor <;> omega
    | inr x => exact hc.elim
theorem agg_fit {cs : List Col} {m : Int} {a : Ag} {k : Cd} {rows : List (List Cell)} (ha : agKd cs m a = some k) (nd : (cs.map (·.1)).Nodup) (nn : ∀ p ∈ cs, kNN p.2) (hr : ∀ r ∈ rows, rowFit cs r) (r0 : rows ≠ []) (hl : (rows.length : Int) ≤ m) (hb : bigK k = false) : cellFit k (a.val (cs.map (·.1)) rows) := by
  have col : ∀ (x : Tx) (k : Cd), colK cs x = some k → ∀ c ∈ valsN (cs.map (·.1)) x rows, cellFit k c := fun x k e c hc => by
    obtain ⟨r, h1, rfl⟩ := List.mem_map.mp hc
    exact fit_at (hr r h1) nd (colK_mem e)
  have n0 : ∀ x, valsN (cs.map (·.1)) x rows ≠ [] := fun x z => r0 (List.map_eq_nil_iff.mp z)
  cases a with
  | cnt n =>
    have ha : some (Cd.n m) = some k := ha
    cases ha
    have hb : decide (1000000000000 < m) = false := hb
    have hb := of_decide_eq_false hb
    show -m ≤ ((rows.length : Nat) : Int) ∧ ((rows.length : Nat) : Int) ≤ m ∧ m ≤ 1000000000000
    omega
  | su n x =>
    have ha : (match colK cs x with | some (.n b) => some (Cd.n (b * m)) | _ => none) = some k := ha
    cases hx : colK cs x with
    | none => rw [hx] at ha; cases ha
    | some k2 =>
      rw [hx] at ha
      cases k2 with
      | s => cases ha
      | n b =>
        cases ha
        have al := col x _ hx
        obtain ⟨s1, s2⟩ := sumB al
        have vl : (valsN (cs.map (·.1)) x rows).length = rows.length := by unfold valsN; rw [List.length_map]
        rw [vl] at s1 s2
        have b0 : 0 ≤ b := nn _ (colK_mem hx)
        have hb : decide (1000000000000 < b * m) = false := hb
        have hb := of_decide_eq_false hb
        have mo : b * (rows.length : Int) ≤ b * m := Int.mul_le_mul_of_nonneg_left hl b0
        show -(b * m) ≤ ((valsN (cs.map (·.1)) x rows).map intC).sum ∧ ((valsN (cs.map (·.1)) x rows).map intC).sum ≤ b * m ∧ b * m ≤ 1000000000000
        omega
  | mi n x =>
    have ha : colK cs x = some k := ha
    have al := col x _ ha
    have z := n0 x
    show cellFit k (headC minC (valsN (cs.map (·.1)) x rows))
    generalize valsN (cs.map (·.1)) x rows = l at al z ⊢
    match l, z with
    | c :: l, _ => exact al _ (minC_least l c).1
  | ma n x =>
    have ha : colK cs x = some k := ha
    have al := col x _ ha
    have z := n0 x
    show cellFit k (headC maxC (valsN (cs.map (·.1)) x rows))
    generalize valsN (cs.map (·.1)) x rows = l at al z ⊢
    match l, z with
    | c :: l, _ => exact al _ (maxC_most l c).1
end Va
set_option Elab.async false
set_option linter.all false
set_option maxRecDepth 100000
set_option maxHeartbeats 4000000
namespace Va
open PySem PySem.Spec PyProof.Rows L2 Ind RowK
theorem opK_nn {cs : List Col} (nn : ∀ p ∈ cs, kNN p.2) {o : Op} {k : Cd} (h : opK cs o = some k) : kNN k := by
  cases o with
  | num i =>
    have h : some (Cd.n (if 0 ≤ i then i else -i)) = some k := h
    cases h
    show 0 ≤ (if 0 ≤ i then i else -i)
    split <;> omega
  | txt x => cases h; trivial
  | col n => exact nn _ (colK_mem h)
theorem sumK_nn {cs : List Col} (nn : ∀ p ∈ cs, kNN p.2) : ∀ {e : Ex} {b : Int}, sumK cs e = some b → 0 ≤ b
  | [], b, h => by
    have h : some (0 : Int) = some b := h
    cases h
    exact Int.le_refl 0
  | t :: e, b, h => by
    unfold sumK at h
    cases h1 : opK cs t.2 with
    | none => rw [h1] at h; cases h
    | some k =>
      rw [h1] at h
      have k0 := opK_nn nn h1
      cases k with
      | s => cases h
      | n a =>
        cases h2 : sumK cs e with
        | none => rw [h2] at h; cases h
        | some b2 =>
          rw [h2] at h
          have h : some (a + b2) = some b := h
          cases h
          have := sumK_nn nn h2
          have k0 : 0 ≤ a := k0
          omega
theorem exK_nn {cs : List Col} (nn : ∀ p ∈ cs, kNN p.2) {e : Ex} {k : Cd} (h : exK cs e = some k) : kNN k := by
  have multi : ∀ e : Ex, (match sumK cs e with | some b => if b ≤ 1000000000000 then some (Cd.n b) else none | none => none) = some k → kNN k := fun e h => by
    cases h1 : sumK cs e with
    | none => rw [h1] at h; cases h
    | some b =>
      rw [h1] at h
      dsimp only at h
      split at h
      · cases h; exact sumK_nn nn h1
      · cases h
  match e, h with
  | [], h => exact multi [] h
  | [t], h => exact opK_nn nn h
  | t :: u :: e, h => exact multi (t :: u :: e) h
theorem agKd_nn {cs : List Col} (nn : ∀ p ∈ cs, kNN p.2) {m : Int} (m0 : 0 ≤ m) {a : Ag} {k : Cd} (h : agKd cs m a = some k) : kNN k := by
  cases a with
  | cnt n =>
    have h : some (Cd.n m) = some k := h
    cases h
    exact m0
  | su n x =>
    have h : (match colK cs x with | some (.n b) => some (Cd.n (b * m)) | _ => none) = some k := h
    cases hx : colK cs x with
    | none => rw [hx] at h; cases h
    | some k2 =>
      rw [hx] at h
      cases k2 with
      | s => cases h
      | n b =>
        cases h
        have b0 : 0 ≤ b := nn _ (colK_mem hx)
        exact Int.mul_nonneg b0 m0
  | mi n x => exact nn _ (colK_mem h)
  | ma n x => exact nn _ (colK_mem h)
theorem grpd_mem {g : List Cell → List Cell} {rs : List (List Cell)} {p : List Cell × List (List Cell)} (h : p ∈ grpd g rs) : (∃ r ∈ rs, g r = p.1) ∧ p.2 ≠ [] ∧ p.2.length ≤ rs.length ∧ ∀ q ∈ p.2, q ∈ rs ∧ g q = p.1 := by
  obtain ⟨k, hk, rfl⟩ := List.mem_map.mp h
  obtain ⟨r, hr, e⟩ := List.mem_map.mp (onc_mem0.mp hk)
  refine ⟨⟨r, hr, e⟩, fun z => ?_, List.length_filter_le _ _, fun q hq => ?_⟩
  · have : r ∈ rs.filter fun q => memB (g q) [k] := List.mem_filter.mpr ⟨hr, memB_iff.mpr (List.mem_singleton.mpr e)⟩
    have z : (rs.filter fun q => memB (g q) [k]) = [] := z
    rw [z] at this
    cases this
  · obtain ⟨h1, h2⟩ := List.mem_filter.mp hq
    exact ⟨h1, List.mem_singleton.mp (memB_iff.mp h2)⟩
theorem grpd_len (g : List Cell → List Cell) (rs : List (List Cell)) : (grpd g rs).length ≤ rs.length := by
  unfold grpd
  rw [List.length_map]
  have := onc_le (rs.map g) []
  simp at this
  omega
def qyS : Qy → Prop
  | .nm _ => True
  | .whr q _ => qyS q
  | .sel q its => qyS q ∧ its ≠ [] ∧ ∀ p ∈ its, exS p.2
  | .grp q _ as => qyS q ∧ as ≠ []
  | .two _ p q => qyS p ∧ qyS q
theorem sel_sound {cs ds : List Col} {m : Int} {its : List It8} {r : Rl} {s : Shp} (H : ShOk cs m) (R : RlOk cs m r) (h : selK cs its [] = some ds) (h2 : sized ds m = some s) (i0 : its ≠ []) (hs : ∀ p ∈ its, exS p.2) : ShOk s.1 s.2 ∧ RlOk s.1 s.2 (its.map (·.1), stR (r.2.map (selR r.1 its))) := by
  obtain ⟨rfl, _, hb⟩ := sized_some h2
  obtain ⟨nd, news, e1, en, hk⟩ := gK_ex h List.nodup_nil
  have e1 : ds = news := e1
  subst e1
  have nn : ∀ q ∈ ds, kNN q.2 := fun q hq => by
    obtain ⟨i, hi, e⟩ := List.mem_iff_getElem.mp hq
    have el := congrArg List.length en
    rw [List.length_map, List.length_map] at el
    have := hk i its[i] q (List.getElem?_eq_getElem (by omega)) (by rw [List.getElem?_eq_getElem hi, e])
    exact exK_nn H.nn this
  refine ⟨⟨nd, fun z => i0 ?_, nn, hb, H.m0⟩, ⟨en.symm, fun x hx => ?_, stR_srt _, stR_nd _, ?_⟩⟩
  · have el := congrArg List.length en
    have z : ds = [] := z
    rw [List.length_map, List.length_map, z] at el
    exact List.eq_nil_of_length_eq_zero el.symm
  · obtain ⟨y, hy, rfl⟩ := List.mem_map.mp (stR_mem.mp hx)
    rw [R.nm]
    exact sel_fit (R.fit y hy) H.nd en hk hs hb
  · have a := stR_len (r.2.map (selR r.1 its))
    rw [List.length_map] at a
    have b := R.len
    show ((stR _).length : Int) ≤ m
    omega
theorem grp_sound {cs found ds : List Col} {m : Int} {ks : List Tx} {as : List Ag} {r : Rl} {s : Shp} (H : ShOk cs m) (R : RlOk cs m r) (h : keyK cs ks [] = some found) (h1 : aggK cs m as found = some ds) (h2 : sized ds m = some s) (a0 : as ≠ []) : ShOk s.1 s.2 ∧ RlOk s.1 s.2 (ks ++ as.map Ag.nm, stR (madeR ks r.1 as r.2)) := by
  obtain ⟨rfl, _, hb⟩ := sized_some h2
  obtain ⟨nd1, nk, e1, en1, hk1⟩ := gK_ex h List.nodup_nil
  have e1 : found = nk := e1
  subst e1
  obtain ⟨nd, na, rfl, en, hk⟩ := gK_ex h1 nd1
  have en1 : found.map (·.1) = ks := by rw [en1, List.map_id']
  have fm : ∀ q ∈ found, q ∈ cs := fun q hq => by
    obtain ⟨i, hi, e⟩ := List.mem_iff_getElem.mp hq
    have el := congrArg List.length en1
    rw [List.length_map] at el
    have ek : ks[i]? = some q.1 := by
      rw [← en1, List.getElem?_map, List.getElem?_eq_getElem hi, e]
      rfl
    have := hk1 i q.1 q ek (by rw [List.getElem?_eq_getElem hi, e])
    exact colK_mem this
  have ela : na.length = as.length := by
    have := congrArg List.length en
    rwa [List.length_map, List.length_map] at this
  have nn : ∀ q ∈ found ++ na, kNN q.2 := fun q hq => by
    rcases List.mem_append.mp hq with hq | hq
    · exact H.nn q (fm q hq)
    · obtain ⟨i, hi, e⟩ := List.mem_iff_getElem.mp hq
      have := hk i as[i] q (List.getElem?_eq_getElem (by omega)) (by rw [List.getElem?_eq_getElem hi, e])
      exact agKd_nn H.nn H.m0 this
  have rl := R.len
  refine ⟨⟨nd, fun z => a0 ?_, nn, hb, H.m0⟩, ⟨by rw [List.map_append, en1, en], fun x hx => ?_, stR_srt _, stR_nd _, ?_⟩⟩
  · have : na = [] := (List.append_eq_nil_iff.mp z).2
    rw [this] at ela
    exact List.eq_nil_of_length_eq_zero ela.symm
  · obtain ⟨p, hp, rfl⟩ := List.mem_map.mp (stR_mem.mp hx)
    obtain ⟨⟨y, hy, ey⟩, p0, pl, pm⟩ := grpd_mem hp
    refine fit_app ?_ ?_
    · rw [← ey]
      unfold keyN
      rw [pickR_at, R.nm, ← en1]
      exact pick_fit (R.fit y hy) H.nd fm
    · refine ⟨by rw [List.length_map]; exact ela.symm, fun i c q e1 e2 => ?_⟩
      rw [List.getElem?_map] at e1
      cases e : as[i]? with
      | none => rw [e] at e1; cases e1
      | some a =>
        rw [e] at e1
        have e1 : some (a.val r.1 p.2) = some c := e1
        cases e1
        rw [R.nm]
        exact agg_fit (hk i a q e e2) H.nd H.nn (fun z hz => R.fit z (pm z hz).1) p0 (by omega) (hb q (List.mem_append_right _ (List.mem_of_getElem? e2)))
  · have a := stR_len (madeR ks r.1 as r.2)
    have b : (madeR ks r.1 as r.2).length ≤ r.2.length := by
      unfold madeR
      rw [List.length_map]
      exact grpd_len _ _
    show ((stR _).length : Int) ≤ m
    omega
end Va
set_option Elab.async false
set_option linter.all false
set_option maxRecDepth 100000
set_option maxHeartbeats 4000000
namespace Va
open PySem PySem.Spec PyProof.Rows L2 Ind RowK
theorem max_fit {a b : Cd} {c : Cell} (hw : b.w = a.w) (big : bigK (maxK a b) = false) (h : cellFit a c ∨ cellFit b c) : cellFit (maxK a b) c := by
  cases a with
  | s =>
    cases b with
    | s => rcases h with h | h <;> exact h
    | n b => exact absurd (show ("integer" : Tx) = "string" from hw) (by decide)
  | n a =>
    cases b with
    | s => exact absurd (show ("string" : Tx) = "integer" from hw) (by decide)
    | n b =>
      cases c with
      | inr x => rcases h with h | h <;> exact h.elim
      | inl i =>
        have big : decide (1000000000000 < (if b ≤ a then a else b)) = false := big
        have big := of_decide_eq_false big
        show -(if b ≤ a then a else b) ≤ i ∧ i ≤ (if b ≤ a then a else b) ∧ (if b ≤ a then a else b) ≤ 1000000000000
        rcases h with ⟨h1, h2, _⟩ | ⟨h1, h2, _⟩
        · split at big <;> simp_all <;> omega
        · split at big <;> simp_all <;> omega
theorem max_nn {a b : Cd} (h1 : kNN a) (h2 : kNN b) : kNN (maxK a b) := by
  cases a with
  | s => exact trivial
  | n a =>
    cases b with
    | s => exact h1
    | n b =>
      have h1 : 0 ≤ a := h1
      have h2 : 0 ≤ b := h2
      show 0 ≤ (if b ≤ a then a else b)
      split <;> omega
theorem filt_ok {cs : List Col} {m : Int} {r : Rl} (R : RlOk cs m r) (f : List Cell → Bool) : RlOk cs m (r.1, r.2.filter f) := by
  have := List.length_filter_le f r.2
  have l := R.len
  exact ⟨R.nm, fun x hx => R.fit x (List.mem_filter.mp hx).1, List.Pairwise.filter _ R.srt, R.nd.filter _, by show ((r.2.filter f).length : Int) ≤ m; omega⟩
theorem two_sound {w : Tw} {cs ds : List Col} {m n : Int} {r q : Rl} {s : Shp} (H : ShOk cs m) (R : RlOk cs m r) (G : ShOk ds n) (Q : RlOk ds n q) (h : twoK w cs m ds n = some s) : ShOk s.1 s.2 ∧ RlOk s.1 s.2 (joinR w r.1 q.1 r.2 q.2) := by
  have rl := R.len
  have ql := Q.len
  cases w with
  | uni =>
    have h : (if (ds.map fun p => (p.1, p.2.w)) = (cs.map fun p => (p.1, p.2.w)) then sized ((cs.zip ds).map fun p => (p.1.1, maxK p.1.2 p.2.2)) (m + n) else none) = some s := h
    split at h
    · rename_i e
      obtain ⟨rfl, _, hb⟩ := sized_some h
      have el : ds.length = cs.length := by
        have := congrArg List.length e
        rwa [List.length_map, List.length_map] at this
      have same : ∀ (i : Nat) (p q : Col), cs[i]? = some p → ds[i]? = some q → q.1 = p.1 ∧ q.2.w = p.2.w := fun i p q e1 e2 => by
        have := congrArg (fun l => l[i]?) e
        rw [List.getElem?_map, List.getElem?_map, e1, e2] at this
        have : some (q.1, q.2.w) = some (p.1, p.2.w) := this
        injection this with this
        injection this with a b
        exact ⟨a, b⟩
      have zg : ∀ (i : Nat) (z : Col), ((cs.zip ds).map fun p => (p.1.1, maxK p.1.2 p.2.2))[i]? = some z → ∃ p q, cs[i]? = some p ∧ ds[i]? = some q ∧ z = (p.1, maxK p.2 q.2) := fun i z e => by
        obtain ⟨p, ep, e2⟩ := map_get e
        obtain ⟨e3, e4⟩ := List.getElem?_zip_eq_some.mp ep
        exact ⟨p.1, p.2, e3, e4, e2⟩
      have en0 : ∀ zs : List Col, zs = ((cs.zip ds).map fun p => (p.1.1, maxK p.1.2 p.2.2)) → zs.map (·.1) = cs.map (·.1) := fun zs ez => by
        apply List.ext_getElem?
        intro i
        rw [List.getElem?_map, List.getElem?_map]
        cases e1 : cs[i]? with
        | none =>
          have : zs[i]? = none := by
            rw [ez]
            rw [List.getElem?_eq_none_iff] at e1 ⊢
            rw [List.length_map, List.length_zip]
            omega
          rw [this, Option.map_none]
        | some p =>
          have hi := (List.getElem?_eq_some_iff.mp e1).1
          have hz : i < zs.length := by rw [ez, List.length_map, List.length_zip]; omega
          obtain ⟨p2, q2, e3, e4, e5⟩ := zg i zs[i] (by rw [← ez]; exact List.getElem?_eq_getElem hz)
          rw [List.getElem?_eq_getElem hz, e5]
          rw [e1] at e3
          cases e3
          rfl
      have en := en0 _ rfl
      have lz : ((cs.zip ds).map fun p => ((p.1.1, maxK p.1.2 p.2.2) : Col)).length = cs.length := by rw [List.length_map, List.length_zip]; omega
      refine ⟨⟨by show (List.map _ _).Nodup; rw [en]; exact H.nd, fun z => H.ne ?_, fun z hz => ?_, hb, by have := H.m0; have := G.m0; show 0 ≤ m + n; omega⟩, ⟨by show r.1 = _; rw [en]; exact R.nm, fun x hx => ?_, stR_srt _, stR_nd _, ?_⟩⟩
      · have z := congrArg List.length z
        have z : ((cs.zip ds).map fun p => ((p.1.1, maxK p.1.2 p.2.2) : Col)).length = 0 := z
        exact List.eq_nil_of_length_eq_zero (by omega)
      · obtain ⟨i, hi, e1⟩ := List.mem_iff_getElem.mp hz
        obtain ⟨p, q, e3, e4, rfl⟩ := zg i z (by rw [List.getElem?_eq_getElem hi, e1])
        exact max_nn (H.nn p (List.mem_of_getElem? e3)) (G.nn q (List.mem_of_getElem? e4))
      · have key : ∀ x : List Cell, x.length = cs.length → (∀ (i : Nat) (c : Cell) (p q : Col), x[i]? = some c → cs[i]? = some p → ds[i]? = some q → cellFit p.2 c ∨ cellFit q.2 c) → rowFit ((cs.zip ds).map fun p => (p.1.1, maxK p.1.2 p.2.2)) x := fun x hl hx => by
          refine ⟨by rw [lz]; exact hl, fun i c z e1 e2 => ?_⟩
          obtain ⟨p, q, e3, e4, rfl⟩ := zg i z e2
          exact max_fit (same i p q e3 e4).2 (hb _ (List.mem_of_getElem? e2)) (hx i c p q e1 e3 e4)
        rcases List.mem_append.mp (stR_mem.mp hx) with hx | hx
        · have f := R.fit x hx
          exact key x f.1 fun i c p q e1 e2 _ => .inl (f.2 i c p e1 e2)
        · have f := Q.fit x hx
          exact key x (by rw [f.1, el]) fun i c p q e1 _ e2 => .inr (f.2 i c q e1 e2)
      · have a := stR_len (r.2 ++ q.2)
        rw [List.length_append] at a
        show ((stR _).length : Int) ≤ m + n
        omega
    · cases h
  | mnu =>
    have h : (if (ds.map fun p => (p.1, p.2.w)) = (cs.map fun p => (p.1, p.2.w)) then some (cs, m) else none) = some s := h
    split at h
    · cases h
      exact ⟨H, filt_ok R _⟩
    · cases h
  | joi =>
    have h : (if ds.all (fun p => match colK cs p.1 with | some k => decide (k.w = p.2.w) | none => true) then sized (cs ++ ds.filter fun p => !memB p.1 (cs.map (·.1))) (m * n) else none) = some s := h
    split at h
    · obtain ⟨rfl, _, hb⟩ := sized_some h
      have ef : furth r.1 q.1 = (ds.filter fun p => !memB p.1 (cs.map (·.1))).map (·.1) := by
        unfold furth
        rw [Q.nm, R.nm, List.filter_map]
        rfl
      have em : ∀ p ∈ ds.filter (fun p => !memB p.1 (cs.map (·.1))), p ∈ ds := fun p hp => (List.mem_filter.mp hp).1
      have mn : 0 ≤ m * n := Int.mul_nonneg H.m0 G.m0
      refine ⟨⟨?_, fun z => H.ne (List.append_eq_nil_iff.mp z).1, fun p hp => ?_, hb, mn⟩, ⟨by show r.1 ++ furth r.1 q.1 = List.map _ (_ ++ _); rw [List.map_append, ← ef, R.nm], fun x hx => ?_, stR_srt _, stR_nd _, ?_⟩⟩
      · show (List.map _ (_ ++ _)).Nodup
        rw [List.map_append]
        refine List.nodup_append.mpr ⟨H.nd, (List.filter_sublist.map _).nodup G.nd, fun a ha b hb e => ?_⟩
        obtain ⟨p, hp, rfl⟩ := List.mem_map.mp hb
        have := (List.mem_filter.mp hp).2
        rw [← e, memB_iff.mpr ha] at this
        cases this
      · rcases List.mem_append.mp hp with hp | hp
        · exact H.nn p hp
        · exact G.nn p (em p hp)
      · obtain ⟨y, hy, z, hz, _, rfl⟩ := mem_joined.mp (stR_mem.mp hx)
        refine fit_app (R.fit y hy) ?_
        rw [ef, Q.nm]
        exact pick_fit (Q.fit z hz) G.nd em
      · have a := stR_len (joined r.1 q.1 r.2 q.2)
        have b := joined_len (ns := r.1) (ms := q.1) (rs := r.2) (qs := q.2)
        have c : (r.2.length : Int) * (q.2.length : Int) ≤ m * n := Int.mul_le_mul rl ql (by omega) H.m0
        have d : ((r.2.length * q.2.length : Nat) : Int) = (r.2.length : Int) * (q.2.length : Int) := Int.natCast_mul _ _
        show ((stR _).length : Int) ≤ m * n
        omega
    · cases h
  | mat =>
    have h : (if ds.all (fun p => match colK cs p.1 with | some k => decide (k.w = p.2.w) | none => true) then some (cs, m) else none) = some s := h
    split at h
    · cases h
      exact ⟨H, filt_ok R _⟩
    · cases h
  | wou =>
    have h : (if ds.all (fun p => match colK cs p.1 with | some k => decide (k.w = p.2.w) | none => true) then some (cs, m) else none) = some s := h
    split at h
    · cases h
      exact ⟨H, filt_ok R _⟩
    · cases h
def ShsOk (sh : List (Tx × Shp)) (rl : List (Tx × Rl)) : Prop := ∀ (x : Tx) (s : Shp), (sh.find? fun p => decide (p.1 = x)).map (·.2) = some s → ShOk s.1 s.2 ∧ ∃ r, (rl.find? fun p => decide (p.1 = x)).map (·.2) = some r ∧ RlOk s.1 s.2 r
theorem sound {sh : List (Tx × Shp)} {rl : List (Tx × Rl)} (hs : ShsOk sh rl) : ∀ (q : Qy) (s : Shp), tyQ sh q = some s → qyS q → ShOk s.1 s.2 ∧ RlOk s.1 s.2 (ansR rl q)
  | .nm x, s, h, _ => by
    obtain ⟨a, r, e, b⟩ := hs x s h
    refine ⟨a, ?_⟩
    show RlOk s.1 s.2 (((rl.find? fun p => decide (p.1 = x)).map (·.2)).getD ([], []))
    rw [e]
    exact b
  | .whr q F, s, h, hq => by
    have h : (match tyQ sh q with | some (cs, m) => if fmK cs F = true then some (cs, m) else none | none => none) = some s := h
    cases e : tyQ sh q with
    | none => rw [e] at h; cases h
    | some t =>
      obtain ⟨cs, m⟩ := t
      rw [e] at h
      dsimp only at h
      split at h
      · cases h
        obtain ⟨a, b⟩ := sound hs q _ e hq
        exact ⟨a, filt_ok b _⟩
      · cases h
  | .sel q its, s, h, hq => by
    have h : (match tyQ sh q with | some (cs, m) => (match selK cs its [] with | some ds => sized ds m | none => none) | none => none) = some s := h
    cases e : tyQ sh q with
    | none => rw [e] at h; cases h
    | some t =>
      obtain ⟨cs, m⟩ := t
      rw [e] at h
      dsimp only at h
      obtain ⟨a, b⟩ := sound hs q _ e hq.1
      cases e2 : selK cs its [] with
      | none => rw [e2] at h; cases h
      | some ds =>
        rw [e2] at h
        exact sel_sound a b e2 h hq.2.1 hq.2.2
  | .grp q ks as, s, h, hq => by
    have h : (match tyQ sh q with | some (cs, m) => (match keyK cs ks [] with | some found => (match aggK cs m as found with | some ds => sized ds m | none => none) | none => none) | none => none) = some s := h
    cases e : tyQ sh q with
    | none => rw [e] at h; cases h
    | some t =>
      obtain ⟨cs, m⟩ := t
      rw [e] at h
      dsimp only at h
      obtain ⟨a, b⟩ := sound hs q _ e hq.1
      cases e2 : keyK cs ks [] with
      | none => rw [e2] at h; cases h
      | some found =>
        rw [e2] at h
        dsimp only at h
        cases e3 : aggK cs m as found with
        | none => rw [e3] at h; cases h
        | some ds =>
          rw [e3] at h
          exact grp_sound a b e2 e3 h hq.2
  | .two w p q, s, h, hq => by
    have h : (match tyQ sh p, tyQ sh q with | some (cs, m), some (ds, n) => twoK w cs m ds n | _, _ => none) = some s := h
    cases e : tyQ sh p with
    | none => rw [e] at h; cases h
    | some t =>
      obtain ⟨cs, m⟩ := t
      rw [e] at h
      cases e2 : tyQ sh q with
      | none => rw [e2] at h; cases h
      | some u =>
        obtain ⟨ds, n⟩ := u
        rw [e2] at h
        dsimp only at h
        obtain ⟨a, b⟩ := sound hs p _ e hq.1
        obtain ⟨c, d⟩ := sound hs q _ e2 hq.2
        exact two_sound a b c d h
end Va
set_option Elab.async false
set_option linter.all false
set_option maxRecDepth 100000
set_option maxHeartbeats 4000000
namespace Va
open PySem PySem.Spec PyProof.Rows L2 Ind RowK
def Qy.wid : Qy → Nat
  | .nm _ => 4
  | .whr q _ => q.wid
  | .sel _ its => its.length
  | .grp _ ks as => ks.length + as.length
  | .two .joi p q => p.wid + q.wid
  | .two _ p _ => p.wid
theorem RlOk.rel {cs : List Col} {m : Int} {r : Rl} (R : RlOk cs m r) (H : ShOk cs m) (few : cs.length ≤ 100) : RelOk r.1 r.2 := by
  refine ⟨by rw [R.nm]; exact H.nd, fun z => H.ne ?_, by rw [R.nm, List.length_map]; exact few, fun x hx => by rw [R.nm, List.length_map]; exact (R.fit x hx).1, fun x hx => (R.fit x hx).rok⟩
  rw [R.nm] at z
  exact List.map_eq_nil_iff.mp z
end Va
set_option Elab.async false
set_option linter.all false
set_option maxRecDepth 100000
set_option maxHeartbeats 4000000
namespace Va
open PySem PySem.Spec PyProof.Rows L2 Ind RowK
theorem inv_whr {sh : List (Tx × Shp)} {q : Qy} {F : Fm} {s : Shp} (h : tyQ sh (.whr q F) = some s) : tyQ sh q = some s ∧ fmK s.1 F = true := by
  have h : (match tyQ sh q with | some (cs, m) => if fmK cs F = true then some (cs, m) else none | none => none) = some s := h
  cases e : tyQ sh q with
  | none => rw [e] at h; cases h
  | some t =>
    obtain ⟨cs, m⟩ := t
    rw [e] at h
    dsimp only at h
    split at h
    · rename_i hf
      cases h
      exact ⟨rfl, hf⟩
    · cases h
theorem inv_sel {sh : List (Tx × Shp)} {q : Qy} {its : List It8} {s : Shp} (h : tyQ sh (.sel q its) = some s) : ∃ t ds, tyQ sh q = some t ∧ selK t.1 its [] = some ds ∧ sized ds t.2 = some s := by
  have h : (match tyQ sh q with | some (cs, m) => (match selK cs its [] with | some ds => sized ds m | none => none) | none => none) = some s := h
  cases e : tyQ sh q with
  | none => rw [e] at h; cases h
  | some t =>
    obtain ⟨cs, m⟩ := t
    rw [e] at h
    dsimp only at h
    cases e2 : selK cs its [] with
    | none => rw [e2] at h; cases h
    | some ds =>
      rw [e2] at h
      exact ⟨_, ds, rfl, e2, h⟩
theorem inv_grp {sh : List (Tx × Shp)} {q : Qy} {ks : List Tx} {as : List Ag} {s : Shp} (h : tyQ sh (.grp q ks as) = some s) : ∃ t found ds, tyQ sh q = some t ∧ keyK t.1 ks [] = some found ∧ aggK t.1 t.2 as found = some ds ∧ sized ds t.2 = some s := by
  have h : (match tyQ sh q with | some (cs, m) => (match keyK cs ks [] with | some found => (match aggK cs m as found with | some ds => sized ds m | none => none) | none => none) | none => none) = some s := h
  cases e : tyQ sh q with
  | none => rw [e] at h; cases h
  | some t =>
    obtain ⟨cs, m⟩ := t
    rw [e] at h
    dsimp only at h
    cases e2 : keyK cs ks [] with
    | none => rw [e2] at h; cases h
    | some found =>
      rw [e2] at h
      dsimp only at h
      cases e3 : aggK cs m as found with
      | none => rw [e3] at h; cases h
      | some ds =>
        rw [e3] at h
        exact ⟨_, found, ds, rfl, e2, e3, h⟩
theorem inv_two {sh : List (Tx × Shp)} {w : Tw} {p q : Qy} {s : Shp} (h : tyQ sh (.two w p q) = some s) : ∃ t u, tyQ sh p = some t ∧ tyQ sh q = some u ∧ twoK w t.1 t.2 u.1 u.2 = some s := by
  have h : (match tyQ sh p, tyQ sh q with | some (cs, m), some (ds, n) => twoK w cs m ds n | _, _ => none) = some s := h
  cases e : tyQ sh p with
  | none => rw [e] at h; cases h
  | some t =>
    obtain ⟨cs, m⟩ := t
    rw [e] at h
    cases e2 : tyQ sh q with
    | none => rw [e2] at h; cases h
    | some u =>
      obtain ⟨ds, n⟩ := u
      rw [e2] at h
      exact ⟨_, _, rfl, rfl, h⟩
end Va
set_option Elab.async false
set_option linter.all false
set_option maxRecDepth 100000
set_option maxHeartbeats 4000000
namespace Va
open PySem PySem.Spec PyProof.Rows L2 Ind RowK
def tD (x : Tx) : Prop := tOk x ∧ nL x
structure CsW (cs : List Col) : Prop where
  nd : (cs.map (·.1)).Nodup
  tk : ∀ p ∈ cs, tOk p.1
  nn : ∀ p ∈ cs, kNN p.2
  sm : ∀ p ∈ cs, bigK p.2 = false
  len : cs.length ≤ 100
  tl : ∀ p ∈ cs, p.1.length ≤ 20
structure CsOk (cs : List Col) : Prop where
  nd : (cs.map (·.1)).Nodup
  tk : ∀ p ∈ cs, tOk p.1
  nn : ∀ p ∈ cs, kNN p.2
  sm : ∀ p ∈ cs, bigK p.2 = false
  len : cs.length ≤ 100
  tl : ∀ p ∈ cs, nL p.1
end Va
set_option Elab.async false
set_option linter.all false
set_option maxRecDepth 100000
set_option maxHeartbeats 4000000
namespace Va
open PySem PySem.Spec PyProof.Rows L2 Ind RowK
def Qy.named : Qy → List Tx
  | .nm x => [x]
  | .whr q _ => q.named
  | .sel q _ => q.named
  | .grp q _ _ => q.named
  | .two _ p q => p.named ++ q.named
def Qy.sides : Qy → List Tx × List Tx
  | .nm x => ([x], [])
  | .whr q _ => q.sides
  | .sel q _ => q.sides
  | .grp q _ _ => (q.named, q.named)
  | .two .mnu p q => (p.sides.1 ++ q.sides.2, p.sides.2 ++ q.sides.1)
  | .two .wou p q => (p.sides.1 ++ q.sides.2, p.sides.2 ++ q.sides.1)
  | .two _ p q => (p.sides.1 ++ q.sides.1, p.sides.2 ++ q.sides.2)
def getR (rl : List (Tx × Rl)) (x : Tx) : Rl := ((rl.find? fun p => decide (p.1 = x)).map (·.2)).getD ([], [])
def leR (rl rl' : List (Tx × Rl)) (x : Tx) : Prop := ∀ r ∈ (getR rl x).2, r ∈ (getR rl' x).2
theorem sides_named : ∀ (q : Qy) (x : Tx), x ∈ q.sides.1 ∨ x ∈ q.sides.2 → x ∈ q.named
  | .nm y, x, h => by
    rcases h with h | h
    · exact h
    · cases h
  | .whr q _, x, h => sides_named q x h
  | .sel q _, x, h => sides_named q x h
  | .grp q _ _, x, h => by rcases h with h | h <;> exact h
  | .two w p q, x, h => by
    have ip := sides_named p x
    have iq := sides_named q x
    show x ∈ p.named ++ q.named
    rw [List.mem_append]
    cases w <;> (simp only [Qy.sides, List.mem_append] at h; rcases h with (h | h) | (h | h) <;> first | exact .inl (ip (.inl h)) | exact .inl (ip (.inr h)) | exact .inr (iq (.inl h)) | exact .inr (iq (.inr h)))
theorem mono {sh : List (Tx × Shp)} : ∀ (q : Qy) (s : Shp) (rl rl' : List (Tx × Rl)), ShsOk sh rl → ShsOk sh rl' → tyQ sh q = some s → qyS q → (∀ x ∈ q.sides.1, leR rl rl' x) → (∀ x ∈ q.sides.2, leR rl' rl x) → ∀ r ∈ (ansR rl q).2, r ∈ (ansR rl' q).2
  | .nm x, s, rl, rl', hs, hs', ht, hq, hp, hn, r, hr => hp x (List.mem_singleton.mpr rfl) r hr
  | .whr q F, s, rl, rl', hs, hs', ht, hq, hp, hn, r, hr => by
    obtain ⟨et, _⟩ := inv_whr ht
    obtain ⟨_, R⟩ := sound hs q _ et hq
    obtain ⟨_, R'⟩ := sound hs' q _ et hq
    have hr : r ∈ (ansR rl q).2.filter fun r => F.tr (ansR rl q).1 (r.map cellD) := hr
    show r ∈ (ansR rl' q).2.filter fun r => F.tr (ansR rl' q).1 (r.map cellD)
    rw [R.nm] at hr
    rw [R'.nm]
    obtain ⟨a, b⟩ := List.mem_filter.mp hr
    exact List.mem_filter.mpr ⟨mono q s rl rl' hs hs' et hq hp hn r a, b⟩
  | .sel q its, s, rl, rl', hs, hs', ht, hq, hp, hn, r, hr => by
    obtain ⟨t, ds, et, _, _⟩ := inv_sel ht
    obtain ⟨_, R⟩ := sound hs q _ et hq.1
    obtain ⟨_, R'⟩ := sound hs' q _ et hq.1
    have hr : r ∈ stR ((ansR rl q).2.map (selR (ansR rl q).1 its)) := hr
    show r ∈ stR ((ansR rl' q).2.map (selR (ansR rl' q).1 its))
    rw [R.nm] at hr
    rw [R'.nm]
    obtain ⟨y, hy, e⟩ := List.mem_map.mp (stR_mem.mp hr)
    exact stR_mem.mpr (List.mem_map.mpr ⟨y, mono q t rl rl' hs hs' et hq.1 hp hn y hy, e⟩)
  | .grp q ks as, s, rl, rl', hs, hs', ht, hq, hp, hn, r, hr => by
    obtain ⟨t, found, ds, et, _, _, _⟩ := inv_grp ht
    obtain ⟨_, R⟩ := sound hs q _ et hq.1
    obtain ⟨_, R'⟩ := sound hs' q _ et hq.1
    have hp : ∀ x ∈ q.named, leR rl rl' x := hp
    have hn : ∀ x ∈ q.named, leR rl' rl x := hn
    have s1 := fun x h => sides_named q x (.inl h)
    have s2 := fun x h => sides_named q x (.inr h)
    have same : (ansR rl q).2 = (ansR rl' q).2 := srtR_one R.srt R'.srt ((List.perm_ext_iff_of_nodup R.nd R'.nd).mpr fun a => ⟨mono q t rl rl' hs hs' et hq.1 (fun x h => hp x (s1 x h)) (fun x h => hn x (s2 x h)) a, mono q t rl' rl hs' hs et hq.1 (fun x h => hn x (s1 x h)) (fun x h => hp x (s2 x h)) a⟩)
    have hr : r ∈ stR (madeR ks (ansR rl q).1 as (ansR rl q).2) := hr
    show r ∈ stR (madeR ks (ansR rl' q).1 as (ansR rl' q).2)
    rw [R.nm, same] at hr
    rw [R'.nm]
    exact hr
  | .two w p q, s, rl, rl', hs, hs', ht, hq, hp, hn, r, hr => by
    obtain ⟨t, u, et, eu, _⟩ := inv_two ht
    obtain ⟨_, R⟩ := sound hs p _ et hq.1
    obtain ⟨_, R'⟩ := sound hs' p _ et hq.1
    obtain ⟨_, G⟩ := sound hs q _ eu hq.2
    obtain ⟨_, G'⟩ := sound hs' q _ eu hq.2
    have mp := mono p t rl rl' hs hs' et hq.1
    have mq := mono q u rl rl' hs hs' eu hq.2
    have mq' := mono q u rl' rl hs' hs eu hq.2
    have hr : r ∈ (joinR w (ansR rl p).1 (ansR rl q).1 (ansR rl p).2 (ansR rl q).2).2 := hr
    show r ∈ (joinR w (ansR rl' p).1 (ansR rl' q).1 (ansR rl' p).2 (ansR rl' q).2).2
    rw [R.nm, G.nm] at hr
    rw [R'.nm, G'.nm]
    generalize t.1.map (·.1) = ns at hr ⊢
    generalize u.1.map (·.1) = ms at hr ⊢
    cases w with
    | joi =>
      have mp := mp (fun x h => hp x (List.mem_append_left _ h)) (fun x h => hn x (List.mem_append_left _ h))
      have mq := mq (fun x h => hp x (List.mem_append_right _ h)) (fun x h => hn x (List.mem_append_right _ h))
      obtain ⟨a, ha, b, hb, ag, e⟩ := mem_joined.mp (stR_mem.mp hr)
      exact stR_mem.mpr (mem_joined.mpr ⟨a, mp a ha, b, mq b hb, ag, e⟩)
    | uni =>
      have mp := mp (fun x h => hp x (List.mem_append_left _ h)) (fun x h => hn x (List.mem_append_left _ h))
      have mq := mq (fun x h => hp x (List.mem_append_right _ h)) (fun x h => hn x (List.mem_append_right _ h))
      refine stR_mem.mpr ?_
      rcases List.mem_append.mp (stR_mem.mp hr) with h | h
      · exact List.mem_append_left _ (mp r h)
      · exact List.mem_append_right _ (mq r h)
    | mat =>
      have mp := mp (fun x h => hp x (List.mem_append_left _ h)) (fun x h => hn x (List.mem_append_left _ h))
      have mq := mq (fun x h => hp x (List.mem_append_right _ h)) (fun x h => hn x (List.mem_append_right _ h))
      obtain ⟨a, b⟩ := List.mem_filter.mp hr
      refine List.mem_filter.mpr ⟨mp r a, ?_⟩
      cases e : mates ns ms r (ansR rl q).2 with
      | nil => rw [e] at b; cases b
      | cons y l =>
        have hy : y ∈ mates ns ms r (ansR rl q).2 := by rw [e]; exact List.mem_cons_self
        obtain ⟨y1, y2⟩ := mem_mates.mp hy
        have hz := mem_mates.mpr (And.intro (mq y y1) y2)
        cases e2 : mates ns ms r (ansR rl' q).2 with
        | nil => rw [e2] at hz; cases hz
        | cons _ _ => rfl
    | mnu =>
      have mp := mp (fun x h => hp x (List.mem_append_left _ h)) (fun x h => hn x (List.mem_append_left _ h))
      have mq' := mq' (fun x h => hn x (List.mem_append_right _ h)) (fun x h => hp x (List.mem_append_right _ h))
      obtain ⟨a, b⟩ := List.mem_filter.mp hr
      refine List.mem_filter.mpr ⟨mp r a, ?_⟩
      cases e : memB r (ansR rl' q).2 with
      | false => rfl
      | true =>
        rw [memB_iff.mpr (mq' r (memB_iff.mp e))] at b
        cases b
    | wou =>
      have mp := mp (fun x h => hp x (List.mem_append_left _ h)) (fun x h => hn x (List.mem_append_left _ h))
      have mq' := mq' (fun x h => hn x (List.mem_append_right _ h)) (fun x h => hp x (List.mem_append_right _ h))
      obtain ⟨a, b⟩ := List.mem_filter.mp hr
      refine List.mem_filter.mpr ⟨mp r a, ?_⟩
      cases e : mates ns ms r (ansR rl' q).2 with
      | nil => rfl
      | cons y l =>
        have hy : y ∈ mates ns ms r (ansR rl' q).2 := by rw [e]; exact List.mem_cons_self
        obtain ⟨y1, y2⟩ := mem_mates.mp hy
        have hz := mem_mates.mpr (And.intro (mq' y y1) y2)
        cases e2 : mates ns ms r (ansR rl q).2 with
        | nil => rw [e2] at hz; cases hz
        | cons _ _ => rw [e2] at b; cases b
structure ShT (s : Shp) : Prop where
  ok : ShOk s.1 s.2
  len : s.1.length ≤ 4
  few : s.2 ≤ 3000
  tk : ∀ p ∈ s.1, tD p.1
def ShsT (sh : List (Tx × Shp)) : Prop := ∀ (x : Tx) (s : Shp), (sh.find? fun p => decide (p.1 = x)).map (·.2) = some s → ShT s
theorem ShsT.none {sh : List (Tx × Shp)} (T : ShsT sh) : ShsOk sh (sh.map fun p => (p.1, p.2.1.map (·.1), [])) := fun x s h => by
  refine ⟨(T x s h).ok, (s.1.map (·.1), []), ?_, ⟨rfl, (fun _ h => nomatch h), .nil, List.nodup_nil, (T x s h).ok.m0⟩⟩
  rw [List.find?_map]
  cases e : sh.find? fun p => decide (p.1 = x) with
  | none => rw [e] at h; cases h
  | some p =>
    rw [e] at h
    cases h
    have e2 : List.find? ((fun p : Tx × Rl => decide (p.1 = x)) ∘ fun p : Tx × Shp => (p.1, p.2.1.map (·.1), ([] : List (List Cell)))) sh = some p := e
    rw [e2]
    rfl
end Va
set_option Elab.async false
set_option linter.all false
set_option maxRecDepth 100000
set_option maxHeartbeats 4000000
namespace Va
open PySem PySem.Spec PyProof.Rows L2 Ind RowK
def cwD (p : Col) : D := .tup [.str p.1, .str p.2.w]
end Va
set_option Elab.async false
set_option linter.all false
set_option maxRecDepth 100000
set_option maxHeartbeats 4000000
namespace Va
open PySem PySem.Spec PyProof.Rows L2 Ind RowK
def ShowsW (d : D) : Prop := SeqAt.shaped d.pd = true ∧ d.pd.showable = true ∧ d.pd.hasDict = false ∧ d.pd.depth ≤ 60 ∧ d.pd.shown.length ≤ 16000000
structure Sm16 (d : PyData) (k m : Nat) : Prop where
  lay : d.canLay0 = true
  sho : d.showable = true
  nod : d.hasDict = false
  dep : d.depth ≤ k
  leaf : d.leavesShort 16 = true
  bulk : d.bulk ≤ m
theorem sm16_int {i : Int} (h : -1000000000000 ≤ i ∧ i ≤ 1000000000000) (k m : Nat) : Sm16 (.int i) k m := by
  have a : i.natAbs < 10 ^ 13 := by
    have e : (10 : Nat) ^ 13 = 10000000000000 := by decide
    rw [e]
    omega
  have lg : i.natAbs.log2 < 1920 := by
    by_cases z : i.natAbs = 0
    · rw [z]
      decide
    · have e : (10 : Nat) ^ 13 ≤ 2 ^ 50 := by decide +kernel
      have := (Nat.log2_lt z).mpr (Nat.lt_of_lt_of_le a e)
      omega
  have lf : PyData.leavesShort 16 (.int i) = true := by
    simp only [PyData.leavesShort, decide_eq_true_eq]
    have e := PySem.int_text_length_le10 (a := i) (k := 13) (by decide) a
    show (PySem.Str.ofString (toString i)).length ≤ 16
    rw [PySem.ofString_length]
    omega
  exact ⟨by simp [PyData.canLay0], by simp [PyData.showable, lg], by simp [PyData.hasDict], by simp [PyData.depth], lf, by simp [PyData.bulk]⟩
theorem sm16_str {x : Tx} {k m : Nat} (h : tOk x) (hl : x.length ≤ m) : Sm16 (.str x) k m := by
  refine ⟨by simp [PyData.canLay0, h.ok], by simp [PyData.showable], by simp [PyData.hasDict], by simp [PyData.depth], ?_, by simp only [PyData.bulk]; exact hl⟩
  simp only [PyData.leavesShort, List.all_eq_true, decide_eq_true_eq]
  intro c hc
  have := h c hc
  omega
theorem Sm16.mono {d : PyData} {k m k' m' : Nat} (s : Sm16 d k m) (hk : k ≤ k') (hm : m ≤ m') : Sm16 d k' m' := ⟨s.lay, s.sho, s.nod, Nat.le_trans s.dep hk, s.leaf, Nat.le_trans s.bulk hm⟩
theorem sm16_all {ds : List PyData} {k m : Nat} (h : ∀ d ∈ ds, Sm16 d k m) : PyData.canLayAll0 ds = true ∧ PyData.showableAll ds = true ∧ PyData.hasDictAll ds = false ∧ PyData.depthAll ds ≤ k ∧ PyData.leavesShortAll 16 ds = true ∧ PyData.bulkAll ds ≤ (m + 1) * ds.length := by
  induction ds with
  | nil => simp [PyData.canLayAll0, PyData.showableAll, PyData.hasDictAll, PyData.depthAll, PyData.leavesShortAll, PyData.bulkAll]
  | cons d ds ih =>
    obtain ⟨a1, a2, a3, a4, a5, a6⟩ := ih fun e he => h e (List.mem_cons_of_mem _ he)
    have b := h d List.mem_cons_self
    refine ⟨by simp [PyData.canLayAll0, b.lay, a1], by simp [PyData.showableAll, b.sho, a2], by simp [PyData.hasDictAll, b.nod, a3], ?_, by simp [PyData.leavesShortAll, b.leaf, a5], ?_⟩
    · have := b.dep
      simp only [PyData.depthAll]
      omega
    · have := b.bulk
      simp only [PyData.bulkAll, List.length_cons]
      rw [Nat.mul_succ]
      omega
theorem sm16_tup {ds : List PyData} {k m : Nat} (h : ∀ d ∈ ds, Sm16 d k m) : Sm16 (.tuple ds) (k + 1) ((m + 1) * ds.length) := by
  obtain ⟨a1, a2, a3, a4, a5, a6⟩ := sm16_all h
  exact ⟨by simp [PyData.canLay0, a1], by simp [PyData.showable, a2], by simp [PyData.hasDict, a3], by simp only [PyData.depth]; omega, by simp [PyData.leavesShort, a5], by simp only [PyData.bulk]; exact a6⟩
theorem Sm16.shows {d : D} {k m : Nat} (s : Sm16 d.pd k m) (hk : k ≤ 10) (hm : m ≤ 800000) : ShowsW d := by
  have h1 := PyData.shown_le_bulk 16 (by decide) d.pd s.leaf
  have h2 := s.bulk
  have h3 := s.dep
  refine ⟨?_, s.sho, s.nod, by omega, by omega⟩
  simp [SeqAt.shaped, s.lay]
  omega
section
variable {X : Cx} {S : Sg}
def reprW : VC := fun ds Q => match ds with
  | [d] => SeqAt.shaped d.pd = true ∧ d.pd.showable = true ∧ d.pd.hasDict = false ∧ d.pd.depth ≤ 60 ∧ d.pd.shown.length ≤ 16000000 ∧ Q (.v (.str d.pd.shown))
  | _ => False
theorem c_reprW (hK : S.K = X.K) (hg : X.A.guards = some []) (hu : X.A.units + 64 < cLine) : CallV S X (.builtin "repr") reprW := by
  refine ⟨_, call_reprD hg hu, ?_⟩
  intro Γ H xs ds Q Q0 eK hx hg k
  have eK' : X.K = Γ.K := (eK.trans hK).symm
  unfold reprW at hg
  split at hg
  · obtain ⟨h1, h2, h3, h4, h5, hg⟩ := hg
    match hx with
    | .cons h .nil => exact ⟨_, _, rfl, by rw [eK']; exact h.dp h1, h2, h3, h4, Nat.le_trans h5 (by decide), k _ hg _ _ (Same.refl _) (.str _)⟩
  · exact hg.elim
end
end Va
set_option Elab.async false
set_option linter.all false
set_option maxRecDepth 100000
set_option maxHeartbeats 4000000
namespace Va
open PySem PySem.Spec PyProof.Rows L2 Ind RowK
section
variable {α κ : Type} [DecidableEq κ]
end
end Va
set_option Elab.async false
set_option linter.all false
set_option maxRecDepth 100000
set_option maxHeartbeats 4000000
namespace Va
open PySem PySem.Spec PyProof.Rows L2 Ind RowK
section
variable {sh : List (Tx × Shp)} {rl : List (Tx × Rl)} {q o : Qy} {s u : Shp}
structure TwoOk (rl : List (Tx × Rl)) (q o : Qy) (cs ds : List Col) : Prop where
  n1 : (ansR rl q).1 = cs.map (·.1)
  n2 : (ansR rl o).1 = ds.map (·.1)
  d1 : (cs.map (·.1)).Nodup
  d2 : (ds.map (·.1)).Nodup
  l1 : ∀ r ∈ (ansR rl q).2, r.length = (cs.map (·.1)).length
  l2 : ∀ r ∈ (ansR rl o).2, r.length = (ds.map (·.1)).length
variable {cs ds : List Col} (W : TwoOk rl q o cs ds)
include W
omit W
include W
end
end Va
set_option Elab.async false
set_option linter.all false
set_option maxRecDepth 100000
set_option maxHeartbeats 4000000
namespace Va
open PySem PySem.Spec PyProof.Rows L2 Ind RowK
section
variable {ns ks fs : List Tx} {rs : List (List Cell)} {b : Bool} {y1 y2 : Tx}
end
end Va
set_option Elab.async false
set_option linter.all false
set_option maxRecDepth 100000
set_option maxHeartbeats 4000000
namespace Va
open PySem PySem.Spec PyProof.Rows L2 Ind RowK
section
variable {sh : List (Tx × Shp)} {q : Qy} {t : Shp}
end
end Va
set_option Elab.async false
set_option linter.all false
set_option maxRecDepth 100000
set_option maxHeartbeats 4000000
namespace Va
open PySem PySem.Spec PyProof.Rows L2 Ind RowK
end Va
set_option Elab.async false
set_option linter.all false
set_option maxRecDepth 100000
set_option maxHeartbeats 4000000
namespace Va
open PySem PySem.Spec PyProof.Rows L2 Ind RowK
section
variable {X : Cx} {S : Sg}
end
end Va
set_option Elab.async false
set_option linter.all false
set_option maxRecDepth 100000
set_option maxHeartbeats 4000000
namespace Va
open PySem PySem.Spec PyProof.Rows L2 Ind RowK
section
variable {X : Cx} {S : Sg}
variable {kx vx tg iter : Expr} {ifs : List Expr} {scope : Scope} {own : List (PySem.Str × Nat)} {pos : Pos} {vi : VI} {g : VG} {c : VTT} {tk tv : VT}
end
end Va
set_option Elab.async false
set_option linter.all false
set_option maxRecDepth 100000
set_option maxHeartbeats 4000000
namespace Va
open PySem PySem.Spec PyProof.Rows L2 Ind
section
variable {X : Cx} {S : Sg} {t : VT}
end
end Va
set_option Elab.async false
set_option linter.all false
set_option maxRecDepth 100000
set_option maxHeartbeats 4000000
namespace Va
open PySem PySem.Spec PyProof.Rows L2 Ind RowK
section
variable {X : Cx} {S : Sg} {o : Expr} {p pos apos cpos : Pos}
end
end Va
set_option Elab.async false
set_option linter.all false
set_option maxRecDepth 100000
set_option maxHeartbeats 4000000
namespace Va
open PySem PySem.Spec PyProof.Rows L2 Ind RowK
section
variable {X : Cx} {S : Sg} {o : Expr} {apos cpos tpos : Pos}
end
end Va
set_option Elab.async false
set_option linter.all false
set_option maxRecDepth 100000
set_option maxHeartbeats 4000000
namespace Va
open PySem PySem.Spec PyProof.Rows L2 Ind RowK
section
variable {X : Cx} {S : Sg} {e a b : Expr}
end
end Va
set_option Elab.async false
set_option linter.all false
set_option maxRecDepth 100000
set_option maxHeartbeats 4000000
namespace L2
open PySem PySem.Spec PyProof.Rows
section
variable {X : Cx} {o i value : Expr} {td ty tv : TE} {pos' pos : Pos}
end
end L2
namespace Va
open PySem PySem.Spec PyProof.Rows L2 Ind RowK
section
variable {X : Cx} {S : Sg} {o : Expr} {p0 cpos : Pos}
end
section
variable {X : Cx} {S : Sg} {iter ox key : Expr} {rest : List Stmt} {i j : Nat} {x t : PySem.Str} {vi : VI} {tk : VT} {u : VS} {p1 p2 p3 p4 spos epos fpos bp : Pos} {bv : Bool} {bj : Nat}
end
end Va
set_option Elab.async false
set_option linter.all false
set_option maxRecDepth 100000
set_option maxHeartbeats 4000000
namespace Va
open PySem PySem.Spec PyProof.Rows L2 Ind RowK
section
variable {X : Cx} {S : Sg} {iter ox key kn gn nt : Expr} {rest : List Stmt} {i j jk jg : Nat} {x t xk xg : PySem.Str} {vi : VI} {tk : VT} {u : VS} {p1 p2 p3 p4 p5 p6 p7 p8 lpos apos cpos apos2 cpos2 epos fpos : Pos}
end
end Va
set_option Elab.async false
set_option linter.all false
set_option maxRecDepth 100000
set_option maxHeartbeats 4000000
namespace L2
open PySem PySem.Spec PyProof.Rows
section
variable {P : Program} {w : World} {K : PySem.W.Frag} {d : Addr} {o : Obj} {es : Array DictEntry} {ep : Nat} {xs : List (List Key × Addr × Value)} {tg : Expr}
end
section
variable {X : Cx} {tg e o i : Expr} {td ty : TE} {pos : Pos}
end
end L2
namespace Va
open PySem PySem.Spec PyProof.Rows L2 Ind RowK
section
variable {X : Cx} {S : Sg} {o e tg : Expr} {pos : Pos}
end
end Va
set_option Elab.async false
set_option linter.all false
set_option maxRecDepth 100000
set_option maxHeartbeats 4000000
namespace Va
open PySem PySem.Spec PyProof.Rows L2 Ind
def vStw (t : VT) (ta : VTA) : FT := fun E Q => t E fun d E1 => (∃ a : Tx, d = .str a) ∧ ta E1 fun es E2 => ∃ (a b : Tx) (i : Int), d = .str a ∧ es = [.str b, .int i] ∧ Q (.v (.bl (Txt.startswith3 a b i))) E2
def vJoi (t : VT) (ta : VTA) : FT := fun E Q => t E fun d E1 => (∃ a : Tx, d = .str a) ∧ ta E1 fun es E2 => ∃ (a : Tx) (ys : List Tx), d = .str a ∧ es = [.lst (ys.map .str)] ∧ (ys.map (·.length)).sum + ys.length * a.length ≤ 1000000 ∧ Q (.v (.str (Txt.join a ys))) E2
def vQuo (c y z : Tx) (t : VT) : FT := fun E Q => t E fun d E1 => ∃ a : Tx, d = .str a ∧ a.length + (a.length + 1) * z.length ≤ 1000000 ∧ c.length + (Txt.replace a y z).length ≤ 1000000 ∧ Q (.v (.str (c ++ Txt.replace a y z))) E1
def intTG : VC := fun ds Q => match ds with
  | [.str x] => ∃ n : Int, PySem.intText? x = some n ∧ x.length ≤ 640 ∧ Q (.v (.int n))
  | _ => False
theorem RpL.strs {K : PySem.W.Frag} {tp : Option Tp} {H : Hp} : ∀ {ys : List Tx} {vs : List V}, RpL K tp H vs (ys.map .str) → vs = ys.map V.str
  | [], _, h => by cases h; rfl
  | y :: ys, _, h => by
    cases h with
    | cons h1 h2 => cases h1; rw [RpL.strs h2]; rfl
section
variable {X : Cx} {S : Sg} {o a b : Expr} {t : VT} {ta : VTA} {apos cpos : Pos}
theorem fe_stw (ho : VE S X o t) (ha : VA S X [a, b] ta)
    (h1 : attributeBase o "startswith" X.env (eval o X.env) = eval o X.env := by rfl)
    (h2 : ((backTo cpos (starEach [a, b] X.env)).all (fun x => !x.1) && (backToKw cpos (keywordEach [] X.env)).all (fun x => x.1.isSome) && decide ([a, b].length + ([] : List Keyword).length + (if ([] : List Keyword).isEmpty then 0 else 1) < 30)) = true := by rfl)
    (h3 : (apos.endLine == cpos.line) = true := by rfl) (h4 : starEach [a, b] X.env = (false, eval a X.env) :: starEach [b] X.env := by rfl) (h5 : (backTo cpos (starEach [b] X.env)).any (·.1) = false := by rfl) :
    FE S X (.Call (.Attribute o "startswith" apos) [a, b] [] cpos) (vStw t ta) := by
  refine pe_weak (pe_bm PySem.F.plainAttrs_str PySem.F.slot_str_startswith PySem.F.type_str_startswith mt_startswith3 ho ha h1 h2 h3 h4 h5) ?_
  rintro σ H Q ⟨Γ, E, Q0, ok, rp, ht, k⟩
  refine ⟨Γ, E, _, ok, rp, ht, fun d E1 hq x H1 kq1 rp1 hx => ?_⟩
  obtain ⟨⟨a0, rfl⟩, hq⟩ := hq
  cases hx
  refine ⟨rfl, Γ, E1, _, ok, rp1, hq, fun es E2 hq2 us H2 kq2 rp2 hus => ?_⟩
  obtain ⟨a1, b1, i, ea, rfl, hq3⟩ := hq2
  cases ea
  match us, hus with
  | [_, _], .cons h1 (.cons h2 .nil) =>
    cases h1
    cases h2
    exact ⟨_, _, i, rfl, rfl, k _ _ hq3 _ _ (kq1.trans kq2) rp2 (.bl _)⟩
theorem fe_joi (ho : VE S X o t) (ha : VA S X [a] ta) (hK : S.K = X.K)
    (h1 : attributeBase o "join" X.env (eval o X.env) = eval o X.env := by rfl)
    (h2 : ((backTo cpos (starEach [a] X.env)).all (fun x => !x.1) && (backToKw cpos (keywordEach [] X.env)).all (fun x => x.1.isSome) && decide ([a].length + ([] : List Keyword).length + (if ([] : List Keyword).isEmpty then 0 else 1) < 30)) = true := by rfl)
    (h3 : (apos.endLine == cpos.line) = true := by rfl) (h4 : starEach [a] X.env = (false, eval a X.env) :: starEach [] X.env := by rfl) (h5 : (backTo cpos (starEach [] X.env)).any (·.1) = false := by rfl) :
    FE S X (.Call (.Attribute o "join" apos) [a] [] cpos) (vJoi t ta) := by
  refine pe_weak (pe_bm PySem.F.plainAttrs_str PySem.F.slot_str_join PySem.F.type_str_join mt_join ho ha h1 h2 h3 h4 h5) ?_
  rintro σ H Q ⟨Γ, E, Q0, ok, rp, ht, k⟩
  refine ⟨Γ, E, _, ok, rp, ht, fun d E1 hq x H1 kq1 rp1 hx => ?_⟩
  obtain ⟨⟨a0, rfl⟩, hq⟩ := hq
  cases hx
  refine ⟨rfl, Γ, E1, _, ok, rp1, hq, fun es E2 hq2 us H2 kq2 rp2 hus => ?_⟩
  obtain ⟨a1, ys, ea, rfl, hb, hq3⟩ := hq2
  cases ea
  have eK' : X.K = Γ.K := hK.symm.trans ok.k.symm
  match us, hus with
  | [_], .cons h1 .nil =>
    cases h1 with
    | lst h2 h3 =>
      have e := RpL.strs h3
      subst e
      rw [eK']
      exact ⟨_, _, ys, rfl, rfl, by exact .inl h2.sq, Nat.le_trans hb (by decide), k _ _ hq3 _ _ (kq1.trans kq2) rp2 (.str _)⟩
theorem c_intT : CallV S X (.type "int") intTG := by
  refine ⟨fun xs H Q => ∃ (x : Tx) (n : Int), xs = [.str x] ∧ PySem.intText? x = some n ∧ x.length ≤ 640 ∧ Q (.int n) H, ?_, ?_⟩
  · intro pins s σ H xs us Q I r h
    obtain ⟨x, n, rfl, h1, h2, q⟩ := h
    match us, r with
    | [_], .cons hr .nil =>
      obtain ⟨tk, rfl⟩ := hr
      exact PySem.W.KIN.call_text h1 h2 ⟨.int n, H, I.tok _, ⟨_, rfl⟩, q⟩
  · intro Γ H xs ds Q Q0 eK hx hg k
    unfold intTG at hg
    split at hg
    · obtain ⟨n, h1, h2, hg⟩ := hg
      match hx with
      | .cons h .nil => cases h.str; exact ⟨_, n, rfl, h1, h2, k _ hg _ _ (Same.refl _) (.int _)⟩
    · exact hg.elim
theorem fe_quo {c y z : Tx} {j0 j1 j2 : Nat} {p0 p1 p2 pos : Pos} (ho : VE S X o t) (hyz : (y == z) = false := by decide)
    (hst : starEach [.Constant (.str y) j1 p1, .Constant (.str z) j2 p2] X.env = [(false, eval (.Constant (.str y) j1 p1) X.env), (false, eval (.Constant (.str z) j2 p2) X.env)] := by rfl)
    (hbase : attributeBase o "replace" X.env (eval o X.env) = eval o X.env := by rfl) (hline : (apos.endLine == cpos.line) = true := by rfl) :
    FE S X (.BinOp (.Constant (.str c) j0 p0) .Add (.Call (.Attribute o "replace" apos) [.Constant (.str y) j1 p1, .Constant (.str z) j2 p2] [] cpos) pos) (vQuo c y z t) := by
  have pe : PE X (.BinOp (.Constant (.str c) j0 p0) .Add (.Call (.Attribute o "replace" apos) [.Constant (.str y) j1 p1, .Constant (.str z) j2 p2] [] cpos) pos) (fun σ H Q => CwR.tReplC (liftV S t) y z σ H fun v H1 => ∃ b, v = .str b ∧ c.length + b.length ≤ sizeLine ∧ Q (.str (c ++ b)) H1) := by
    refine ⟨fun pins s σ H Q I h => ?_⟩
    refine wpAny_BinOp (Calls.Constant_str ?_)
    refine thn (CwR.pet_replC (y := y) (z := z) ho hyz hst hbase hline pins { s with toks := s.toks + 1 } σ H _ (by show 1 ≤ s.toks + 1; omega) (I.tok _) h) fun u s2 ⟨v, H2, I2, r2, b, eb, hl, q⟩ => ?_
    subst eb
    exact op_add_str pins s2 σ H2 (.str c) (.str b) _ u Q I2 ⟨_, rfl⟩ r2 ⟨c, b, rfl, rfl, hl, q⟩
  refine pe_weak pe ?_
  rintro σ H Q ⟨Γ, E, Q0, ok, rp, ht, k⟩
  refine ⟨Γ, E, _, ok, rp, ht, fun d E1 hq x H1 kq1 rp1 hx => ?_⟩
  obtain ⟨a0, rfl, hb, hl, hq⟩ := hq
  cases hx
  exact ⟨a0, rfl, by omega, _, rfl, million hl, k _ _ hq _ _ kq1 rp1 (.str _)⟩
end
end Va
set_option Elab.async false
set_option linter.all false
set_option maxRecDepth 100000
set_option maxHeartbeats 4000000
namespace Va
open PySem PySem.Spec PyProof.Rows L2 Ind
def cl (x : Tx) : List Nat := x.cps.toList
theorem cl_app (x y : Tx) : cl (x ++ y) = cl x ++ cl y := by
  show (x ++ y).cps.toList = _
  rw [Str.cps_append, Array.toList_append]
  rfl
theorem cl_ext {x y : Tx} (h : cl x = cl y) : x = y := Str.ext' (Array.toList_inj.mp h)
theorem cl_len (x : Tx) : x.length = (cl x).length := codes_len x
def chLet : Tx := "abcdefghijklmnopqrstuvwxyz"
def chDig : Tx := "0123456789"
def chWrd : Tx := "abcdefghijklmnopqrstuvwxyz_0123456789"
def chBln : Tx := " \n"
def symbs : List Tx := ["!=", "<=", ">=", "(", ")", ",", ";", "|", "=", "<", ">", "+", "-", ":"]
inductive Tk where
  | wd (x : Tx)
  | nu (n : Int) (x : Tx)
  | st (x : Tx)
  | sy (x : Tx)
def quo (l : List Nat) : List Nat := l.flatMap fun c => if c = 39 then [39, 39] else [c]
def Tk.cl : Tk → List Nat
  | .wd x => Va.cl x
  | .nu _ x => Va.cl x
  | .st x => 39 :: (quo (Va.cl x) ++ [39])
  | .sy x => Va.cl x
def Tk.kind : Tk → Tx
  | .wd _ => "word"
  | .nu _ _ => "number"
  | .st _ => "string"
  | .sy _ => "symbol"
def Tk.val : Tk → D
  | .wd x => .str x
  | .nu n _ => .int n
  | .st x => .str x
  | .sy x => .str x
def triD (t : Tk) (p : Nat) : D := .tup [.str t.kind, t.val, .int p]
def Tk.ok : Tk → Prop
  | .wd x => (∃ c r, Va.cl x = c :: r ∧ c ∈ Va.cl chLet) ∧ (∀ c ∈ Va.cl x, c ∈ Va.cl chWrd) ∧ x.length ≤ 16
  | .nu n x => Va.cl x ≠ [] ∧ (∀ c ∈ Va.cl x, c ∈ Va.cl chDig) ∧ x.length ≤ 7 ∧ n = (PySem.NumText.digitsVal (Va.cl x) : Nat) ∧ n ≤ 1000000
  | .st x => x.length ≤ 20 ∧ ∀ c ∈ Va.cl x, c ≠ 10
  | .sy x => x ∈ symbs
def Tk.stops : Tk → List Nat → Prop
  | .wd _, rest => ∀ c r, rest = c :: r → c ∉ Va.cl chWrd
  | .nu _ _, rest => ∀ c r, rest = c :: r → c ∉ Va.cl chDig
  | .st _, rest => ∀ c r, rest = c :: r → c ≠ 39
  | .sy x, rest => (x = "<" ∨ x = ">") → ∀ c r, rest = c :: r → c ≠ 61
theorem quo_cons (c : Nat) (l : List Nat) : quo (c :: l) = (if c = 39 then [39, 39] else [c]) ++ quo l := rfl
theorem quo_app (l m : List Nat) : quo (l ++ m) = quo l ++ quo m := List.flatMap_append
theorem quo_len (l : List Nat) : l.length ≤ (quo l).length ∧ (quo l).length ≤ 2 * l.length := by
  induction l with
  | nil => exact ⟨Nat.le_refl _, Nat.le_refl _⟩
  | cons c l ih =>
    rw [quo_cons, List.length_append, List.length_cons]
    split <;> simp <;> omega
theorem rep_quo (x : Tx) : cl (Txt.replace x "'" "''") = quo (cl x) := by
  have h := PySem.StrLaws.replace_list (x := x) (y := "'") (z := "''") (by decide)
  show (Txt.replace x "'" "''").cps.toList = _
  rw [h]
  show PySem.StrLaws.replL [39] [39, 39] (cl x) = _
  generalize cl x = l
  induction l with
  | nil => exact PySem.StrLaws.replL_nil
  | cons c l ih =>
    by_cases e : c = 39
    · subst e
      rw [PySem.StrLaws.replL_hit (y := [39]) (by decide) rfl, quo_cons, if_pos rfl]
      show [39, 39] ++ PySem.StrLaws.replL [39] [39, 39] l = _
      rw [ih]
    · rw [PySem.StrLaws.replL_miss (y := [39]) (by intro z; injection z with z; exact e z), quo_cons, if_neg e, ih]
      rfl
def runL (chs : Tx) (l : List Nat) : Nat := (l.takeWhile fun c => decide (c ∈ cl chs)).length
theorem run_eq {chs : Tx} : ∀ {a rest : List Nat}, (∀ c ∈ a, c ∈ cl chs) → (∀ c r, rest = c :: r → c ∉ cl chs) → runL chs (a ++ rest) = a.length
  | [], rest, _, h => by
    cases rest with
    | nil => rfl
    | cons c r =>
      show (List.takeWhile _ (c :: r)).length = 0
      rw [List.takeWhile_cons_of_neg (by simpa using h c r rfl)]
      rfl
  | c :: a, rest, ha, h => by
    show (List.takeWhile _ (c :: (a ++ rest))).length = _
    rw [List.takeWhile_cons_of_pos (by simpa using ha c List.mem_cons_self), List.length_cons, List.length_cons]
    exact congrArg (· + 1) (run_eq (fun d hd => ha d (List.mem_cons_of_mem _ hd)) h)
theorem drop_at {l r : List Nat} {p c : Nat} (h : l.drop p = c :: r) : l[p]? = some c ∧ p < l.length := by
  have hl : p < l.length := by
    by_cases z : p < l.length
    · exact z
    · rw [List.drop_eq_nil_of_le (by omega)] at h
      cases h
  rw [List.drop_eq_getElem_cons hl] at h
  injection h with h1 h2
  exact ⟨by rw [List.getElem?_eq_getElem hl, h1], hl⟩
theorem drop_more {l a b : List Nat} {p : Nat} (h : l.drop p = a ++ b) : l.drop (p + a.length) = b := by
  rw [← List.drop_drop, h, List.drop_left]
theorem drop_len {l a : List Nat} {p : Nat} (h : l.drop p = a) (hp : p ≤ l.length) : p + a.length = l.length := by
  rw [← h, List.length_drop]
  omega
theorem sIx_cut {n d k : Nat} : HT.sIx n d (some (k : Int)) = min k n := by
  show (if (k : Int) < 0 then ((k : Int) + (n : Int)).toNat else min (k : Int).toNat n) = _
  rw [if_neg (by omega)]
  omega
theorem cl_cut (x : Tx) (p q : Nat) : cl (cutS x (some (p : Int)) (some (q : Int))) = ((cl x).drop p).take (q - p) := by
  show ((cl x).drop (HT.sIx x.length 0 (some (p : Int)))).take (HT.sIx x.length x.length (some (q : Int)) - HT.sIx x.length 0 (some (p : Int))) = _
  rw [sIx_cut, sIx_cut, cl_len]
  by_cases h1 : p ≤ (cl x).length
  · rw [Nat.min_eq_left h1]
    by_cases h2 : q ≤ (cl x).length
    · rw [Nat.min_eq_left h2]
    · rw [Nat.min_eq_right (by omega), List.take_of_length_le (by rw [List.length_drop]; exact Nat.le_refl _), List.take_of_length_le (by rw [List.length_drop]; omega)]
  · have d1 : (cl x).drop p = [] := List.drop_eq_nil_of_le (by omega)
    have d2 : (cl x).drop (min p (cl x).length) = [] := List.drop_eq_nil_of_le (by omega)
    rw [d1, d2, List.take_nil, List.take_nil]
theorem starts_at {x y : Tx} {p : Nat} (hp : p ≤ (cl x).length) : Txt.startswith3 x y (p : Int) = decide (((cl x).drop p).take (cl y).length = cl y) := by
  have fi : PySem.fromIndex x.length (p : Int) = p := by
    show (max 0 (if (p : Int) < 0 then (p : Int) + x.length else (p : Int))).toNat = p
    rw [if_neg (by omega)]
    omega
  show (decide (PySem.fromIndex x.length (p : Int) + y.length ≤ x.length) && Builtin.Str.subAt x y (PySem.fromIndex x.length (p : Int))) = _
  rw [fi]
  have sb : Builtin.Str.subAt x y p = decide (((cl x).drop p).take (cl y).length = cl y) := by
    show (x.cps.extract p (p + y.length) == y.cps) = _
    rw [Bool.eq_iff_iff, beq_iff_eq, decide_eq_true_iff, ← Array.toList_inj, Array.toList_extract]
    show List.extract (cl x) p (p + y.length) = cl y ↔ _
    rw [List.extract_eq_take_drop, Nat.add_sub_cancel_left, cl_len]
  rw [sb]
  by_cases h : ((cl x).drop p).take (cl y).length = cl y
  · have hl := congrArg List.length h
    rw [List.length_take, List.length_drop] at hl
    rw [decide_eq_true h, Bool.and_true]
    refine decide_eq_true ?_
    rw [cl_len, cl_len]
    omega
  · rw [decide_eq_false h, Bool.and_false]
abbrev Pc := List Nat × Tk
def blank (b : List Nat) : Prop := ∀ c ∈ b, c ∈ cl chBln
def rendr : List Pc → List Nat
  | [] => []
  | q :: qs => q.1 ++ q.2.cl ++ rendr qs
def trip : Nat → List Pc → List D
  | _, [] => []
  | p, q :: qs => triD q.2 (p + q.1.length) :: trip (p + q.1.length + q.2.cl.length) qs
theorem rendr_app : ∀ (l m : List Pc), rendr (l ++ m) = rendr l ++ rendr m
  | [], m => rfl
  | q :: l, m => by
    show q.1 ++ q.2.cl ++ rendr (l ++ m) = q.1 ++ q.2.cl ++ rendr l ++ rendr m
    rw [rendr_app, List.append_assoc]
    simp [List.append_assoc]
theorem trip_app : ∀ (p : Nat) (l m : List Pc), trip p (l ++ m) = trip p l ++ trip (p + (rendr l).length) m
  | p, [], m => rfl
  | p, q :: l, m => by
    show triD _ _ :: trip _ (l ++ m) = triD _ _ :: (trip _ l ++ _)
    rw [trip_app]
    congr 2
    show trip _ m = trip (p + (q.1 ++ q.2.cl ++ rendr l).length) m
    rw [List.length_append, List.length_append]
    congr 1
    omega
def partB : Tk → Tk → Bool
  | .sy x, .sy y => (decide (x = "<") || decide (x = ">")) && decide (y = "=")
  | .sy _, _ => false
  | .wd _, .wd _ => true
  | .wd _, .nu _ _ => true
  | .nu _ _, .nu _ _ => true
  | .st _, .st _ => true
  | _, _ => false
def okP : List Pc → Prop
  | [] => True
  | [q] => q.2.ok ∧ blank q.1
  | q :: r :: qs => q.2.ok ∧ blank q.1 ∧ (r.1 = [] → partB q.2 r.2 = false) ∧ okP (r :: qs)
theorem okP.head {q : Pc} {qs : List Pc} (h : okP (q :: qs)) : q.2.ok ∧ blank q.1 := by
  cases qs with
  | nil => exact h
  | cons r qs => exact ⟨h.1, h.2.1⟩
theorem okP.tail {q : Pc} {qs : List Pc} (h : okP (q :: qs)) : okP qs := by
  cases qs with
  | nil => trivial
  | cons r qs => exact h.2.2.2
theorem okP.blanks {b b2 : List Nat} {t : Tk} {qs : List Pc} (h : okP ((b, t) :: qs)) (hb : blank b2) : okP ((b2, t) :: qs) := by
  cases qs with
  | nil => exact ⟨h.1, hb⟩
  | cons r qs => exact ⟨h.1, hb, h.2.2.1, h.2.2.2⟩
theorem okP.snoc : ∀ {qs : List Pc} {q : Pc}, okP qs → q.2.ok → blank q.1 → (∀ r, qs.getLast? = some r → q.1 = [] → partB r.2 q.2 = false) → okP (qs ++ [q])
  | [], q, _, h1, h2, _ => ⟨h1, h2⟩
  | [r], q, h, h1, h2, h3 => ⟨h.1, h.2, h3 r rfl, h1, h2⟩
  | r :: s :: qs, q, h, h1, h2, h3 => ⟨h.1, h.2.1, h.2.2.1, okP.snoc (qs := s :: qs) h.2.2.2 h1 h2 fun t ht => h3 t (by rw [List.getLast?_cons_cons]; exact ht)⟩
theorem let_wrd : ∀ c ∈ cl chLet, c ∈ cl chWrd := by decide
theorem dig_wrd : ∀ c ∈ cl chDig, c ∈ cl chWrd := by decide
theorem let_dig : ∀ c ∈ cl chLet, c ∉ cl chDig := by decide
theorem bln_not : ∀ c ∈ cl chBln, c ∉ cl chWrd ∧ c ∉ cl chDig ∧ c ≠ 39 ∧ c ≠ 61 := by decide
theorem wrd_not : ∀ c ∈ cl chWrd, c ≠ 39 ∧ c ≠ 61 := by decide
theorem sym_not0 : ∀ x ∈ symbs, cl x ≠ [] ∧ (cl x).headD 0 ∉ cl chWrd ∧ (cl x).headD 0 ∉ cl chDig ∧ (cl x).headD 0 ≠ 39 ∧ ((cl x).headD 0 = 61 → x = "=") ∧ (cl x).headD 0 ∉ cl chBln := by decide
theorem sym_not : ∀ x ∈ symbs, ∃ c r, cl x = c :: r ∧ c ∉ cl chWrd ∧ c ∉ cl chDig ∧ c ≠ 39 ∧ (c = 61 → x = "=") ∧ c ∉ cl chBln := fun x hx => by
  obtain ⟨h0, h⟩ := sym_not0 x hx
  obtain ⟨c, r, e⟩ := List.exists_cons_of_ne_nil h0
  rw [e] at h
  exact ⟨c, r, e, h⟩
theorem Tk.starts : ∀ {t : Tk}, t.ok → ∃ c r, t.cl = c :: r ∧ c ∉ Va.cl chBln
  | .wd x, ⟨⟨c, r, e, h⟩, _⟩ => ⟨c, r, e, fun z => (bln_not c z).1 (let_wrd c h)⟩
  | .nu n x, ⟨ne, h, _⟩ => by
    obtain ⟨c, r, e⟩ := List.exists_cons_of_ne_nil ne
    exact ⟨c, r, e, fun z => (bln_not c z).2.1 (h c (by rw [e]; exact List.mem_cons_self))⟩
  | .st x, _ => ⟨39, _, rfl, by decide⟩
  | .sy x, h => by
    obtain ⟨c, r, e, _, _, _, _, n⟩ := sym_not x h
    exact ⟨c, r, e, n⟩
theorem stops_of {t : Tk} {qs : List Pc} {b e : List Nat} (h : okP ((b, t) :: qs)) (he : blank e) : t.stops (rendr qs ++ e) := by
  have bl : ∀ {c : Nat} {r l : List Nat}, blank l → l = c :: r → c ∉ cl chWrd ∧ c ∉ cl chDig ∧ c ≠ 39 ∧ c ≠ 61 := fun hb e => bln_not _ (hb _ (by rw [e]; exact List.mem_cons_self))
  cases qs with
  | nil =>
    show t.stops e
    cases t with
    | wd x => exact fun c r z => (bl he z).1
    | nu n x => exact fun c r z => (bl he z).2.1
    | st x => exact fun c r z => (bl he z).2.2.1
    | sy x => exact fun _ c r z => (bl he z).2.2.2
  | cons q qs =>
    obtain ⟨b2, u⟩ := q
    obtain ⟨_, _, hp, h2⟩ := h
    obtain ⟨uo, hb2⟩ := h2.head
    cases b2 with
    | cons c0 b2 =>
      have h0 := bln_not c0 (hb2 c0 List.mem_cons_self)
      have hd : ∀ (c : Nat) (r : List Nat), rendr ((c0 :: b2, u) :: qs) ++ e = c :: r → c = c0 := fun c r z => by
        have z : c0 :: (b2 ++ u.cl ++ rendr qs ++ e) = c :: r := z
        injection z with z
        exact z.symm
      cases t with
      | wd x => exact fun c r z => by rw [hd c r z]; exact h0.1
      | nu n x => exact fun c r z => by rw [hd c r z]; exact h0.2.1
      | st x => exact fun c r z => by rw [hd c r z]; exact h0.2.2.1
      | sy x => exact fun _ c r z => by rw [hd c r z]; exact h0.2.2.2
    | nil =>
      have hp := hp rfl
      have fst : ∀ {c0 : Nat} {r0 : List Nat}, u.cl = c0 :: r0 → ∀ (c : Nat) (r : List Nat), rendr (([], u) :: qs) ++ e = c :: r → c = c0 := fun {c0 r0} e0 c r z => by
        have z : u.cl ++ rendr qs ++ e = c :: r := z
        rw [e0] at z
        injection z with z
        exact z.symm
      cases t with
      | wd x =>
        intro c r z
        cases u with
        | wd y => exact absurd (show true = false from hp) (by decide)
        | nu n y => exact absurd (show true = false from hp) (by decide)
        | st y => rw [fst (c0 := 39) rfl c r z]; decide
        | sy y =>
          obtain ⟨c0, r0, e0, n0, _⟩ := sym_not y uo
          rw [fst (c0 := c0) (r0 := r0) e0 c r z]
          exact n0
      | nu n x =>
        intro c r z
        cases u with
        | wd y =>
          obtain ⟨⟨c0, r0, e0, l0⟩, _⟩ := uo
          rw [fst (c0 := c0) (r0 := r0) e0 c r z]
          exact let_dig c0 l0
        | nu n y => exact absurd (show true = false from hp) (by decide)
        | st y => rw [fst (c0 := 39) rfl c r z]; decide
        | sy y =>
          obtain ⟨c0, r0, e0, _, n0, _⟩ := sym_not y uo
          rw [fst (c0 := c0) (r0 := r0) e0 c r z]
          exact n0
      | st x =>
        intro c r z
        cases u with
        | wd y =>
          obtain ⟨⟨c0, r0, e0, l0⟩, _⟩ := uo
          rw [fst (c0 := c0) (r0 := r0) e0 c r z]
          exact (wrd_not c0 (let_wrd c0 l0)).1
        | nu n y =>
          obtain ⟨ne, hd, _⟩ := uo
          obtain ⟨c0, r0, e0⟩ := List.exists_cons_of_ne_nil ne
          rw [fst (c0 := c0) (r0 := r0) e0 c r z]
          exact (wrd_not c0 (dig_wrd c0 (hd c0 (by rw [e0]; exact List.mem_cons_self)))).1
        | st y => exact absurd (show true = false from hp) (by decide)
        | sy y =>
          obtain ⟨c0, r0, e0, _, _, n0, _⟩ := sym_not y uo
          rw [fst (c0 := c0) (r0 := r0) e0 c r z]
          exact n0
      | sy x =>
        intro hx c r z
        cases u with
        | wd y =>
          obtain ⟨⟨c0, r0, e0, l0⟩, _⟩ := uo
          rw [fst (c0 := c0) (r0 := r0) e0 c r z]
          exact (wrd_not c0 (let_wrd c0 l0)).2
        | nu n y =>
          obtain ⟨ne, hd, _⟩ := uo
          obtain ⟨c0, r0, e0⟩ := List.exists_cons_of_ne_nil ne
          rw [fst (c0 := c0) (r0 := r0) e0 c r z]
          exact (wrd_not c0 (dig_wrd c0 (hd c0 (by rw [e0]; exact List.mem_cons_self)))).2
        | st y => rw [fst (c0 := 39) rfl c r z]; decide
        | sy y =>
          obtain ⟨c0, r0, e0, _, _, _, n0, _⟩ := sym_not y uo
          rw [fst (c0 := c0) (r0 := r0) e0 c r z]
          intro e1
          have e2 := n0 e1
          have hp : ((decide (x = "<") || decide (x = ">")) && decide (y = "=")) = false := hp
          rw [decide_eq_true e2, Bool.and_true] at hp
          rcases hx with rfl | rfl <;> exact absurd hp (by decide)
end Va
set_option Elab.async false
set_option linter.all false
set_option maxRecDepth 100000
set_option maxHeartbeats 4000000
namespace Va
open PySem PySem.Spec PyProof.Rows L2 Ind RowK
def top (i : Nat) : Stmt := PySem.Challenge.pw_indoubt_k77_tokens_of_a_text.main.body.getD i (.Pass ⟨0, 0, 0, 0⟩)
abbrev s_tokens_of : Stmt := top 17
abbrev N_tokens_of : List Str := ["text", "tokens", "place", "token"]
theorem sc_tokens_of : FnScope N_tokens_of ["text"] (defScope s_tokens_of) := ⟨rfl, rfl, rfl, by decide +kernel, rfl, by decide +kernel, by decide +kernel⟩
abbrev s__token_at : Stmt := top 18
abbrev N__token_at : List Str := ["text", "place", "first", "symbol"]
theorem sc__token_at : FnScope N__token_at ["text", "place"] (defScope s__token_at) := ⟨rfl, rfl, rfl, by decide +kernel, rfl, by decide +kernel, by decide +kernel⟩
abbrev s__word_at : Stmt := top 19
abbrev N__word_at : List Str := ["text", "place", "end"]
theorem sc__word_at : FnScope N__word_at ["text", "place"] (defScope s__word_at) := ⟨rfl, rfl, rfl, by decide +kernel, rfl, by decide +kernel, by decide +kernel⟩
abbrev s__number_at : Stmt := top 20
abbrev N__number_at : List Str := ["text", "place", "end", "number"]
theorem sc__number_at : FnScope N__number_at ["text", "place"] (defScope s__number_at) := ⟨rfl, rfl, rfl, by decide +kernel, rfl, by decide +kernel, by decide +kernel⟩
abbrev s__string_at : Stmt := top 21
abbrev N__string_at : List Str := ["text", "place", "characters", "at"]
theorem sc__string_at : FnScope N__string_at ["text", "place"] (defScope s__string_at) := ⟨rfl, rfl, rfl, by decide +kernel, rfl, by decide +kernel, by decide +kernel⟩
abbrev s__end_of_run : Stmt := top 22
abbrev N__end_of_run : List Str := ["text", "place", "characters"]
theorem sc__end_of_run : FnScope N__end_of_run ["text", "place", "characters"] (defScope s__end_of_run) := ⟨rfl, rfl, rfl, by decide +kernel, rfl, by decide +kernel, by decide +kernel⟩
abbrev s__law_tape : Stmt := top 24
abbrev N__law_tape : List Str := ["script", "total", "cell"]
theorem sc__law_tape : FnScope N__law_tape ["script"] (defScope s__law_tape) := ⟨rfl, rfl, rfl, by decide +kernel, rfl, by decide +kernel, by decide +kernel⟩
abbrev s__law_draw : Stmt := top 25
abbrev N__law_draw : List Str := ["tape", "many", "place", "number"]
theorem sc__law_draw : FnScope N__law_draw ["tape", "many"] (defScope s__law_draw) := ⟨rfl, rfl, rfl, by decide +kernel, rfl, by decide +kernel, by decide +kernel⟩
abbrev s__law_name : Stmt := top 26
abbrev N__law_name : List Str := ["tape", "signs", "number", "name", "k"]
theorem sc__law_name : FnScope N__law_name ["tape"] (defScope s__law_name) := ⟨rfl, rfl, rfl, by decide +kernel, rfl, by decide +kernel, by decide +kernel⟩
abbrev s__law_signs : Stmt := top 27
abbrev N__law_signs : List Str := ["signs"]
theorem sc__law_signs : FnScope N__law_signs [] (defScope s__law_signs) := ⟨rfl, rfl, rfl, by decide +kernel, rfl, by decide +kernel, by decide +kernel⟩
abbrev s__law_text : Stmt := top 28
abbrev N__law_text : List Str := ["tape", "number", "share", "text", "k"]
theorem sc__law_text : FnScope N__law_text ["tape"] (defScope s__law_text) := ⟨rfl, rfl, rfl, by decide +kernel, rfl, by decide +kernel, by decide +kernel⟩
abbrev s__law_word : Stmt := top 29
abbrev N__law_word : List Str := ["tape", "words"]
theorem sc__law_word : FnScope N__law_word ["tape"] (defScope s__law_word) := ⟨rfl, rfl, rfl, by decide +kernel, rfl, by decide +kernel, by decide +kernel⟩
abbrev s__law_one : Stmt := top 30
abbrev N__law_one : List Str := ["tape", "share", "word", "number", "text", "symbols", "symbol"]
theorem sc__law_one : FnScope N__law_one ["tape"] (defScope s__law_one) := ⟨rfl, rfl, rfl, by decide +kernel, rfl, by decide +kernel, by decide +kernel⟩
abbrev s__law_parted : Stmt := top 31
abbrev N__law_parted : List Str := ["before", "after"]
theorem sc__law_parted : FnScope N__law_parted ["before", "after"] (defScope s__law_parted) := ⟨rfl, rfl, rfl, by decide +kernel, rfl, by decide +kernel, by decide +kernel⟩
abbrev s_law : Stmt := top 32
abbrev N_law : List Str := ["script", "tape", "text", "due", "last", "k", "one", "blanks"]
theorem sc_law : FnScope N_law ["script"] (defScope s_law) := ⟨rfl, rfl, rfl, by decide +kernel, rfl, by decide +kernel, by decide +kernel⟩
structure Txt (P : Program) (w : World) (K : PySem.W.Frag) (mg : Str → Option Value) where
  a_tokens_of : Addr
  d_tokens_of : FuncData
  F_tokens_of : Fun K "tokens_of" "tokens_of" s_tokens_of a_tokens_of d_tokens_of
  b_tokens_of : Binds K d_tokens_of ["text"] []
  g_tokens_of : mg "tokens_of" = some (.ref a_tokens_of)
  a__token_at : Addr
  d__token_at : FuncData
  F__token_at : Fun K "_token_at" "_token_at" s__token_at a__token_at d__token_at
  b__token_at : Binds K d__token_at ["text", "place"] []
  g__token_at : mg "_token_at" = some (.ref a__token_at)
  a__word_at : Addr
  d__word_at : FuncData
  F__word_at : Fun K "_word_at" "_word_at" s__word_at a__word_at d__word_at
  b__word_at : Binds K d__word_at ["text", "place"] []
  g__word_at : mg "_word_at" = some (.ref a__word_at)
  a__number_at : Addr
  d__number_at : FuncData
  F__number_at : Fun K "_number_at" "_number_at" s__number_at a__number_at d__number_at
  b__number_at : Binds K d__number_at ["text", "place"] []
  g__number_at : mg "_number_at" = some (.ref a__number_at)
  a__string_at : Addr
  d__string_at : FuncData
  F__string_at : Fun K "_string_at" "_string_at" s__string_at a__string_at d__string_at
  b__string_at : Binds K d__string_at ["text", "place"] []
  g__string_at : mg "_string_at" = some (.ref a__string_at)
  a__end_of_run : Addr
  d__end_of_run : FuncData
  F__end_of_run : Fun K "_end_of_run" "_end_of_run" s__end_of_run a__end_of_run d__end_of_run
  b__end_of_run : Binds K d__end_of_run ["text", "place", "characters"] []
  g__end_of_run : mg "_end_of_run" = some (.ref a__end_of_run)
  a__law_tape : Addr
  d__law_tape : FuncData
  F__law_tape : Fun K "_law_tape" "_law_tape" s__law_tape a__law_tape d__law_tape
  b__law_tape : Binds K d__law_tape ["script"] []
  g__law_tape : mg "_law_tape" = some (.ref a__law_tape)
  a__law_draw : Addr
  d__law_draw : FuncData
  F__law_draw : Fun K "_law_draw" "_law_draw" s__law_draw a__law_draw d__law_draw
  b__law_draw : Binds K d__law_draw ["tape", "many"] []
  g__law_draw : mg "_law_draw" = some (.ref a__law_draw)
  a__law_name : Addr
  d__law_name : FuncData
  F__law_name : Fun K "_law_name" "_law_name" s__law_name a__law_name d__law_name
  b__law_name : Binds K d__law_name ["tape"] []
  g__law_name : mg "_law_name" = some (.ref a__law_name)
  a__law_signs : Addr
  d__law_signs : FuncData
  F__law_signs : Fun K "_law_signs" "_law_signs" s__law_signs a__law_signs d__law_signs
  b__law_signs : Binds K d__law_signs [] []
  g__law_signs : mg "_law_signs" = some (.ref a__law_signs)
  a__law_text : Addr
  d__law_text : FuncData
  F__law_text : Fun K "_law_text" "_law_text" s__law_text a__law_text d__law_text
  b__law_text : Binds K d__law_text ["tape"] []
  g__law_text : mg "_law_text" = some (.ref a__law_text)
  a__law_word : Addr
  d__law_word : FuncData
  F__law_word : Fun K "_law_word" "_law_word" s__law_word a__law_word d__law_word
  b__law_word : Binds K d__law_word ["tape"] []
  g__law_word : mg "_law_word" = some (.ref a__law_word)
  a__law_one : Addr
  d__law_one : FuncData
  F__law_one : Fun K "_law_one" "_law_one" s__law_one a__law_one d__law_one
  b__law_one : Binds K d__law_one ["tape"] []
  g__law_one : mg "_law_one" = some (.ref a__law_one)
  a__law_parted : Addr
  d__law_parted : FuncData
  F__law_parted : Fun K "_law_parted" "_law_parted" s__law_parted a__law_parted d__law_parted
  b__law_parted : Binds K d__law_parted ["before", "after"] []
  g__law_parted : mg "_law_parted" = some (.ref a__law_parted)
  a_law : Addr
  d_law : FuncData
  F_law : Fun K "law" "law" s_law a_law d_law
  b_law : Binds K d_law ["script"] []
  g_law : mg "law" = some (.ref a_law)
  t_LETTERS : Tok
  c_LETTERS : mg "LETTERS" = some (.str "abcdefghijklmnopqrstuvwxyz" t_LETTERS)
  t_DIGITS : Tok
  c_DIGITS : mg "DIGITS" = some (.str "0123456789" t_DIGITS)
  t_WORD_CHARACTERS : Tok
  c_WORD_CHARACTERS : mg "WORD_CHARACTERS" = some (.str "abcdefghijklmnopqrstuvwxyz_0123456789" t_WORD_CHARACTERS)
  t_LONGEST_WORD : Tok
  c_LONGEST_WORD : mg "LONGEST_WORD" = some (.int 16 t_LONGEST_WORD)
  t_MOST_DIGITS : Tok
  c_MOST_DIGITS : mg "MOST_DIGITS" = some (.int 7 t_MOST_DIGITS)
  t_LARGEST_NUMBER : Tok
  c_LARGEST_NUMBER : mg "LARGEST_NUMBER" = some (.int 1000000 t_LARGEST_NUMBER)
  t_LONGEST_STRING : Tok
  c_LONGEST_STRING : mg "LONGEST_STRING" = some (.int 20 t_LONGEST_STRING)
  a_SYMBOLS : Addr
  c_SYMBOLS : mg "SYMBOLS" = some (.ref a_SYMBOLS)
  q_SYMBOLS : ∀ H, SqT K H a_SYMBOLS [.str "!=", .str "<=", .str ">=", .str "(", .str ")", .str ",", .str ";", .str "|", .str "=", .str "<", .str ">", .str "+", .str "-", .str ":"]
  z_abs : mg "abs" = none
  z_int : mg "int" = none
  z_len : mg "len" = none
  z_list : mg "list" = none
  z_max : mg "max" = none
  z_range : mg "range" = none
  z_repr : mg "repr" = none
  z_str : mg "str" = none
  z_tuple : mg "tuple" = none
abbrev Sx {P : Program} {w : World} {K : PySem.W.Frag} {mg : PySem.Str → Option Value} (T : Txt P w K mg) : Sg := ⟨K, false, []⟩
end Va
set_option Elab.async false
set_option linter.all false
set_option maxRecDepth 100000
set_option maxHeartbeats 4000000
namespace Va
open PySem PySem.Spec PyProof.Rows L2 Ind
local macro_rules | `(tactic| walk_at "cn") => `(tactic| first
  | assumption
  | omega
  | exact dm (by omega)
  | exact line (by simp)
  | exact line (by omega)
  | exact line (by simp only [len_app, len_one]; omega)
  | exact small_div (by omega) (by omega)
  | solve_by_elim
  | exact Or.inr ⟨by omega, by omega⟩
  | exact Or.inl ⟨by omega, by omega⟩
  | exact ⟨by omega, by omega⟩
  | decide)
local macro_rules | `(tactic| walk_at "st") => `(tactic| repeat (first
  | refine ⟨_, rfl, ?_⟩
  | refine ⟨_, _, rfl, rfl, ?_⟩
  | refine ⟨_, _, rfl, ?_⟩
  | refine .inl ⟨_, rfl, ?_⟩
  | refine And.intro rfl ?_
  | refine And.intro (by walk_at "cn") ?_))
local macro_rules | `(tactic| walk_at "fz") => `(tactic| repeat (first | exact Fz.refl | apply Fz.upd))
local macro_rules | `(tactic| walk_at "hl") => `(tactic| ((repeat rw [upd_ne (by assumption)]); assumption))
local macro_rules | `(tactic| walk_at "fy") => `(tactic| (intro b o n1 h; (repeat rw [upd_ne n1]); exact h))
local macro_rules | `(tactic| walk_at "wh") => `(tactic| (conv => whnf))
local macro_rules | `(tactic| walk_at "cv") => `(tactic| first
  | rfl
  | assumption
  | omega
  | exact dm (by omega)
  | exact small_div (by omega) (by omega)
  | (simp only [len_app, one_len, len_one, List.length_append, List.length_map, List.length_cons, List.length_nil]; omega)
  | exact Or.inr ⟨by omega, by omega⟩
  | exact Or.inl ⟨by omega, by omega⟩
  | exact ⟨by omega, by omega⟩
  | decide)
local macro_rules | `(tactic| walk_at "vv") => `(tactic| repeat (refine And.intro (by walk_at "cv") ?_))
local macro_rules | `(tactic| walk_at "sk") => `(tactic| repeat (first
  | refine wayT ?_
  | refine wayF ?_
  | refine skipT (by omega) ?_
  | refine skipF (by omega) ?_
  | refine skipT (by decide) ?_
  | refine skipF (by decide) ?_
  | refine ⟨_, (show tyNames _ = some _ from rfl), ?_⟩
  | refine And.intro (by walk_at "cv") ?_))
local macro_rules | `(tactic| walk_at "s0") => `(tactic| first
  | refine wayT ?_
  | refine wayF ?_
  | refine skipT (by omega) ?_
  | refine skipF (by omega) ?_
  | refine skipT (by decide) ?_
  | refine skipF (by decide) ?_
  | refine ⟨_, (show tyNames _ = some _ from rfl), ?_⟩
  | refine And.intro (by walk_at "cv") ?_)
local macro_rules | `(tactic| walk_at "s1") => `(tactic| try (walk_at "s0"; walk_at "wh"))
local macro_rules | `(tactic| walk_at "go") => `(tactic| (walk_at "wh"; repeat (walk_at "s0"; walk_at "wh")))
section
variable {P : Program} {w : World} {K : PySem.W.Frag} {mg : PySem.Str → Option Value} {base : Heap}
theorem ok__law_tape (T : Txt P w K mg) : FnOk P w K mg base CX0 1 T.a__law_tape T.d__law_tape ["script"] (spTapeV K false) := by
  refine T.F__law_tape.ok sc__law_tape (fun vs H Q E h => ?_) (fun cdv A outer s H vs Q E hr h => ?_)
  · obtain ⟨a, ns, rfl, _⟩ := h
    rfl
  · obtain ⟨a, ns, rfl, hS, hl, q⟩ := h
    refine ⟨_, (pss_cons (ps_set (i := 1) sc__law_tape.nd rfl (.inl rfl) pe_int)
      (pss_cons (ps_for PassesOwn.never rfl (pi_list (pv 0)) (pg_name (i := 2) sc__law_tape.nd rfl (.inl rfl))
      (pss_one (ps_set (i := 1) sc__law_tape.nd rfl (.inl rfl) (pe_op op_mod (pe_callTy call_int1 (by rfl) T.z_int boot_int (pa_cons (pe_op op_add (pe_op op_mul (pv 1) pe_int) (pe_callB call_abs (by rfl) T.z_abs boot_abs (pa_cons (pe_callTy call_int1 (by rfl) T.z_int boot_int (pa_cons (pv 2) pa_nil)) pa_nil))) pa_nil)) pe_int))))
      (pss_one (ps_ret (pe_lst (pa_cons (pe_callTy call_list_of (by rfl) T.z_list boot_list (pa_cons (pv 0) pa_nil)) (pa_cons pe_int (pa_cons pe_int (pa_cons (pv 1) pa_nil))))))))), ?_⟩
    refine ⟨_, rfl, a, rfl, ⟨_, hS⟩, for_list (K := K) (a := a) (xs := ns.map V.int) (fun i σ H' => ∃ z y, σ = [some (.ref a), some (.int z), y] ∧ H' = H ∧ 0 ≤ z ∧ z < 2147483647)
      ⟨7, none, rfl, rfl, by decide, by decide⟩ (fun i σ H' _ ⟨_, _, _, e, _⟩ => by rw [e]; exact hS) ?_ ?_⟩
    · rintro i x σ H' hi ⟨z, y, rfl, rfl, h0, h1⟩
      obtain ⟨u, rfl⟩ : ∃ u, x = V.int u := by
        rw [List.getElem?_map] at hi
        cases e : ns[i]? with
        | none => rw [e] at hi; cases hi
        | some u => rw [e] at hi; exact ⟨u, (Option.some.inj hi).symm⟩
      walk_at "st"
      omega
    · rintro σ H' ⟨z, y, rfl, rfl, h0, h1⟩
      refine ⟨_, rfl, _, _, rfl, .inl hS, fun l nl => ⟨_, rfl, line (by simp), fun t nt => ?_⟩⟩
      have nlt : l ≠ t := fun e => by rw [← e, upd_same] at nt; cases nt
      have ntH : H' t = none := by rw [upd_ne nlt.symm] at nt; exact nt
      have hl2 : upd (upd H' l (.lst (ns.map V.int))) t (.lst [.ref l, .int 0, .int 0, .int z]) l = some (.lst (ns.map V.int)) := by rw [upd_ne nlt, upd_same]
      exact q _ ⟨t, l⟩ ns ((same_upd nl).trans (same_upd nt)) ntH nl ⟨ns, 0, 0, z, upd_same, hl2, fun _ => by omega, by decide, by decide, h0, h1⟩ hl2 hl
theorem ok__law_draw (T : Txt P w K mg) : FnOk P w K mg base CX0 1 T.a__law_draw T.d__law_draw ["tape", "many"] (spDrawV false) := by
  refine T.F__law_draw.ok sc__law_draw (fun vs H Q E h => ?_) (fun cdv A outer s H vs Q E hr h => ?_)
  · obtain ⟨a, m, ns, rfl, _⟩ := h
    rfl
  · obtain ⟨⟨t, l⟩, m, ns', rfl, ⟨ns, p, n, z, ht, hL, _, hp, hn, hz, hz2⟩, hL', _, hm, q⟩ := h
    refine ⟨_, (pss_cons (ps_if (pt_cmpR op_eq (pe_ix ix_list (pv 0) pe_int (fun _ _ => rfl)) pe_int (nomark _)) (pss_cons (ps_set (i := 2) sc__law_draw.nd rfl (.inl rfl) (pe_ix ix_list (pv 0) pe_int (fun _ _ => rfl)))
      (pss_cons (ps_set (i := 3) sc__law_draw.nd rfl (.inl rfl) pe_int)
      (pss_cons (ps_if (pt_cmpR op_lt (pv 2) (pe_callB call_len_seq (by rfl) T.z_len boot_len (pa_cons (pe_ix ix_list (pv 0) pe_int (fun _ _ => rfl)) pa_nil)) (nomark _)) (pss_one (ps_set (i := 3) sc__law_draw.nd rfl (.inl rfl) (pe_callB call_abs (by rfl) T.z_abs boot_abs (pa_cons (pe_callTy call_int1 (by rfl) T.z_int boot_int (pa_cons (pe_ix ix_list (pe_ix ix_list (pv 0) pe_int (fun _ _ => rfl)) (pv 2) (fun _ _ => rfl)) pa_nil)) pa_nil)))) (pss_cons (ps_asg (pe_op op_mod (pe_callTy call_int1 (by rfl) T.z_int boot_int (pa_cons (pe_op op_add (pe_op op_add (pe_op op_mul (pe_ix ix_list (pv 0) pe_int (fun _ _ => rfl)) pe_int) (pv 2)) pe_int) pa_nil)) pe_int) (pg_sub (pv 0) pe_int set_list))
      (pss_one (ps_set (i := 3) sc__law_draw.nd rfl (.inl rfl) (pe_ix ix_list (pv 0) pe_int (fun _ _ => rfl))))))
      (pss_cons (ps_asg (pe_op op_add (pv 2) pe_int) (pg_sub (pv 0) pe_int set_list))
      (pss_cons (ps_if (pt_cmpR op_lt (pv 3) (pe_op op_pow pe_int pe_int) (nomark _)) (pss_cons (ps_set (i := 3) sc__law_draw.nd rfl (.inl rfl) (pe_op op_mod (pe_callTy call_int1 (by rfl) T.z_int boot_int (pa_cons (pe_op op_add (pe_op op_add (pe_op op_mul (pv 3) pe_int) (pe_op op_mul (pv 2) pe_int)) pe_int) pa_nil)) pe_int))
      (pss_cons (ps_set (i := 3) sc__law_draw.nd rfl (.inl rfl) (pe_op op_mod (pe_callTy call_int1 (by rfl) T.z_int boot_int (pa_cons (pe_op op_mul (pv 3) pe_int) pa_nil)) pe_int))
      (pss_one (ps_ret (pe_op op_mod (pe_callTy call_int1 (by rfl) T.z_int boot_int (pa_cons (pv 3) pa_nil)) (pe_callB (call_max2 rfl) (by rfl) T.z_max boot_max (pa_cons (pv 1) (pa_cons pe_int pa_nil)))))))) pss_nil)
      (pss_one (ps_asg (pv 3) (pg_sub (pv 0) pe_int set_list)))))))) pss_nil)
      (pss_cons (ps_set (i := 3) sc__law_draw.nd rfl (.inl rfl) (pe_ix ix_list (pv 0) pe_int (fun _ _ => rfl)))
      (pss_cons (ps_asg (pe_op op_fdivW (pv 3) (pe_callB (call_max2 rfl) (by rfl) T.z_max boot_max (pa_cons (pv 1) (pa_cons pe_int pa_nil)))) (pg_sub (pv 0) pe_int set_list))
      (pss_one (ps_ret (pe_op op_mod (pe_callTy call_int1 (by rfl) T.z_int boot_int (pa_cons (pv 3) pa_nil)) (pe_callB (call_max2 rfl) (by rfl) T.z_max boot_max (pa_cons (pv 1) (pa_cons pe_int pa_nil))))))))), ?_⟩
    have ht : H t = some (.lst [.ref l, .int p, .int n, .int z]) := ht
    have hL : H l = some (.lst (ns.map V.int)) := hL
    have ens : ns'.length = ns.length := by
      have hL' : H l = some (.lst (ns'.map V.int)) := hL'
      rw [hL] at hL'
      injection hL' with hL'
      injection hL' with hL'
      have := congrArg List.length hL'
      simpa using this.symm
    have nlt : l ≠ t := Tape.ne ht hL
    have many1 : 0 < if (1 : Int) > m then 1 else m := by split <;> omega
    have many2 : ∀ x : Int, CDivW x (if (2 : Int) > m then 2 else m) := hm
    have lt1 : ∀ x : Int, (x % if (1 : Int) > m then 1 else m) < m ∨ (x % if (1 : Int) > m then 1 else m) < 1 := fun x => by
      have q1 := Int.emod_lt_of_pos x many1
      revert q1
      split <;> intro q1 <;> omega
    have fin : ∀ {H' : Hp} {r : Int} {p' n' z' : Int}, (∀ b o, b ≠ t → H b = some o → H' b = some o) → H' t = some (.lst [.ref l, .int p', .int n', .int z']) → 0 ≤ p' → 0 ≤ n' → 0 ≤ z' → z' < 2147483647 → 0 ≤ r → (r < m ∨ r < 1) → Q (.int r) H' := by
      intro H' r p' n' z' st h1 h2 h3 h4 h5 h6 h7
      have hl' := st l _ nlt hL
      exact q H' r ns (fun b o n1 _ h => st b o n1 h) ⟨ns, p', n', z', h1, hl', (fun z => by cases z), h2, h3, h4, h5⟩ hl' (by omega) h6 h7
    walk_at "st"
    refine ⟨_, _, _, _, rfl, rfl, .of ht, atI_nat (j := 2) rfl, ?_⟩
    walk_at "st"
    refine ite2 (fun e => ?_) (fun e => ?_)
    · walk_at "st"
      refine ⟨_, _, _, _, rfl, rfl, .of ht, atI_nat (j := 1) rfl, ?_⟩
      walk_at "st"
      refine ⟨_, _, _, _, rfl, rfl, .of ht, atI_nat (j := 0) rfl, ?_⟩
      refine ⟨l, _, rfl, .inl (.of hL), ?_⟩
      walk_at "st"
      refine ite2 (fun e2 => ?a1) (fun e2 => ?a2)
      case' a1 =>
        have hlt : p.toNat < ns.length := by
          have := of_decide_eq_true e2
          rw [List.length_map] at this
          omega
        walk_at "st"
        refine ⟨_, _, _, _, rfl, rfl, .of ht, atI_nat (j := 0) rfl, ?_⟩
        walk_at "st"
        refine ⟨_, _, _, _, rfl, rfl, .of hL, at_of (show p = (p.toNat : Int) by omega) (show (ns.map V.int)[p.toNat]? = some (.int ns[p.toNat]) by rw [List.getElem?_map, List.getElem?_eq_getElem hlt]; rfl), ?_⟩
        have hnum : 0 ≤ (if ns[p.toNat] < 0 then -ns[p.toNat] else ns[p.toNat]) := by split <;> omega
      case' a2 =>
        walk_at "st"
        refine ⟨_, _, _, _, rfl, rfl, .of ht, atI_nat (j := 3) rfl, ?_⟩
        walk_at "st"
        refine ⟨_, _, _, 3, rfl, rfl, ht, rfl, ?_⟩
        walk_at "st"
        refine ⟨_, _, _, _, rfl, rfl, .of upd_same, atI_nat (j := 3) rfl, ?_⟩
        have hnum : 0 ≤ (z * 48271 + p + 1) % 2147483647 := by omega
        have hnum2 : (z * 48271 + p + 1) % 2147483647 < 2147483647 := by omega
      all_goals
        walk_at "st"
      case' a1 => refine ⟨_, _, _, 1, rfl, rfl, ht, rfl, ?_⟩
      case' a2 => refine ⟨_, _, _, 1, rfl, rfl, upd_same, rfl, ?_⟩
      all_goals
        walk_at "st"
        refine ite2 (fun e3 => ?_) (fun e3 => ?_)
        · walk_at "st"
          refine fin (by walk_at "fy") upd_same (by omega) hn ?_ ?_ (Int.emod_nonneg _ (by omega)) (lt1 _) <;> assumption
        · walk_at "st"
          refine ⟨_, _, _, 2, rfl, rfl, upd_same, rfl, ?_⟩
          walk_at "st"
          refine ⟨_, _, _, _, rfl, rfl, .of upd_same, atI_nat (j := 2) rfl, ?_⟩
          walk_at "st"
          refine ⟨_, _, _, 2, rfl, rfl, upd_same, rfl, ?_⟩
          walk_at "st"
          refine fin (by walk_at "fy") upd_same (by omega) (Int.ediv_nonneg hnum ?_) ?_ ?_ (Int.emod_nonneg _ (by omega)) (lt1 _) <;> first | assumption | (split <;> omega)
    · walk_at "st"
      refine ⟨_, _, _, _, rfl, rfl, .of ht, atI_nat (j := 2) rfl, ?_⟩
      walk_at "st"
      refine ⟨_, _, _, 2, rfl, rfl, ht, rfl, ?_⟩
      walk_at "st"
      refine fin (by walk_at "fy") upd_same hp ?_ hz hz2 (Int.emod_nonneg _ (by omega)) (lt1 _)
      refine Int.ediv_nonneg hn ?_
      split <;> omega
end
end Va
set_option Elab.async false
set_option linter.all false
set_option maxRecDepth 100000
set_option maxHeartbeats 4000000
namespace Va
open PySem PySem.Spec PyProof.Rows L2 Ind
local macro_rules | `(tactic| walk_at "cn") => `(tactic| first
  | assumption
  | omega
  | exact dm (by omega)
  | exact line (by simp)
  | exact line (by omega)
  | exact line (by simp only [len_app, len_one]; omega)
  | exact small_div (by omega) (by omega)
  | solve_by_elim
  | exact Or.inr ⟨by omega, by omega⟩
  | exact Or.inl ⟨by omega, by omega⟩
  | exact ⟨by omega, by omega⟩
  | decide)
local macro_rules | `(tactic| walk_at "st") => `(tactic| repeat (first
  | refine ⟨_, rfl, ?_⟩
  | refine ⟨_, _, rfl, rfl, ?_⟩
  | refine ⟨_, _, rfl, ?_⟩
  | refine .inl ⟨_, rfl, ?_⟩
  | refine And.intro rfl ?_
  | refine And.intro (by walk_at "cn") ?_))
local macro_rules | `(tactic| walk_at "fz") => `(tactic| repeat (first | exact Fz.refl | apply Fz.upd))
local macro_rules | `(tactic| walk_at "hl") => `(tactic| ((repeat rw [upd_ne (by assumption)]); assumption))
local macro_rules | `(tactic| walk_at "fy") => `(tactic| (intro b o n1 h; (repeat rw [upd_ne n1]); exact h))
local macro_rules | `(tactic| walk_at "wh") => `(tactic| (conv => whnf))
local macro_rules | `(tactic| walk_at "cv") => `(tactic| first
  | rfl
  | assumption
  | omega
  | exact dm (by omega)
  | exact small_div (by omega) (by omega)
  | (simp only [len_app, one_len, len_one, List.length_append, List.length_map, List.length_cons, List.length_nil]; omega)
  | exact Or.inr ⟨by omega, by omega⟩
  | exact Or.inl ⟨by omega, by omega⟩
  | exact ⟨by omega, by omega⟩
  | decide)
local macro_rules | `(tactic| walk_at "vv") => `(tactic| repeat (refine And.intro (by walk_at "cv") ?_))
local macro_rules | `(tactic| walk_at "sk") => `(tactic| repeat (first
  | refine wayT ?_
  | refine wayF ?_
  | refine skipT (by omega) ?_
  | refine skipF (by omega) ?_
  | refine skipT (by decide) ?_
  | refine skipF (by decide) ?_
  | refine ⟨_, (show tyNames _ = some _ from rfl), ?_⟩
  | refine And.intro (by walk_at "cv") ?_))
local macro_rules | `(tactic| walk_at "s0") => `(tactic| first
  | refine wayT ?_
  | refine wayF ?_
  | refine skipT (by omega) ?_
  | refine skipF (by omega) ?_
  | refine skipT (by decide) ?_
  | refine skipF (by decide) ?_
  | refine ⟨_, (show tyNames _ = some _ from rfl), ?_⟩
  | refine And.intro (by walk_at "cv") ?_)
local macro_rules | `(tactic| walk_at "s1") => `(tactic| try (walk_at "s0"; walk_at "wh"))
local macro_rules | `(tactic| walk_at "go") => `(tactic| (walk_at "wh"; repeat (walk_at "s0"; walk_at "wh")))
def mName : VM := fun ds c Q => ds = [.tape] ∧ ∀ x : Tx, (Tk.wd x).ok → tOk x → Q (.str x) c
def mText : VM := fun ds c Q => ds = [.tape] ∧ ∀ x : Tx, (Tk.st x).ok → tOk x → Q (.str x) c
def mSigns : VM := fun ds c Q => ds = [] ∧ ∀ x : Tx, 94 ≤ x.length → x.length ≤ 100 → tOk x → (∀ d ∈ cl x, d ≠ 10) → Q (.str x) c
theorem cl_in {x : Tx} {i : Int} {c : Nat} (e : atI x.cps.toList i = some c) : c ∈ cl x := atI_mem e
theorem let_in {i : Int} {c : Nat} (h0 : 0 ≤ i) (h : i < 26) (e : atI ("abcdefghijklmnopqrstuvwxyz0123456789_" : Tx).cps.toList i = some c) : c ∈ cl chLet := by
  obtain ⟨k, rfl⟩ := Int.eq_ofNat_of_zero_le h0
  have hk : k < 26 := by omega
  have all : ∀ k < 26, ∀ c, atI ("abcdefghijklmnopqrstuvwxyz0123456789_" : Tx).cps.toList ((k : Nat) : Int) = some c → c ∈ cl chLet := by
    intro k hk c e
    have e2 : ("abcdefghijklmnopqrstuvwxyz0123456789_" : Tx).cps.toList[k]? = some c := by
      rw [← e]
      unfold atI
      rw [show ixN ("abcdefghijklmnopqrstuvwxyz0123456789_" : Tx).cps.toList.length ((k : Nat) : Int) = some k from by
        unfold ixN
        rw [if_pos (by omega), if_pos (by rw [show ("abcdefghijklmnopqrstuvwxyz0123456789_" : Tx).cps.toList.length = 37 from by decide]; omega)]
        rfl]
      rfl
    have := List.mem_of_getElem? (l := ("abcdefghijklmnopqrstuvwxyz0123456789_" : Tx).cps.toList.take 26) (i := k) (a := c) (by rw [List.getElem?_take_of_lt hk]; exact e2)
    rw [show ("abcdefghijklmnopqrstuvwxyz0123456789_" : Tx).cps.toList.take 26 = cl chLet from by decide] at this
    exact this
  exact all k hk c e
theorem sig_wrd : ∀ c ∈ cl "abcdefghijklmnopqrstuvwxyz0123456789_", c ∈ cl chWrd := by decide
theorem abb_ok : ∀ c ∈ cl "abB' ", c ≠ 10 := by decide
section
variable {P : Program} {w : World} {K : PySem.W.Frag} {mg : PySem.Str → Option Value} {base : Heap}
theorem ok__law_name (T : Txt P w K mg) : FnOk P w K mg base CX0 2 T.a__law_name T.d__law_name ["tape"] (spV (Sx T) mName) := by
  have G__law_draw := draw_v (S := Sx T) (ok__law_draw (P := P) (w := w) (base := base) T)
  refine def_v (S := Sx T) (N := N__law_name) T.F__law_name sc__law_name rfl (fun ds c Q h => by obtain ⟨rfl, _⟩ := h; first | rfl | assumption) (fun cdv A outer s H E hr => (vss_cons (vs_set (i := 1) sc__law_name.nd rfl (.inl rfl) (fe_of ve_str))
      (vss_cons (vs_set (i := 2) sc__law_name.nd rfl (.inl rfl) (fe_of (ve_call G__law_draw hr (by rfl) T.g__law_draw T.F__law_draw.kp T.b__law_draw (va_cons (ve_name (pv 0)) (va_cons ve_int va_nil)))))
      (vss_cons (vs_set (i := 3) sc__law_name.nd rfl (.inl rfl) (fe_op (o_add rfl) (ve_of (fe_ix (i_ix rfl (hu_of hr)) (ve_of (fe_lst (va_cons ve_str (va_cons ve_str (va_cons ve_str (va_cons ve_str va_nil)))))) (be_of (ve_of (fe_op o_mod (ve_of (pe_CB1 c_int (fun hc ha => pe_callTy hc (by rfl) T.z_int boot_int ha) (be_name (pv 2)))) (be_of ve_int)))) (fun _ _ => rfl))) (be_of (ve_of (fe_ixN (i_ix rfl (hu_of hr)) (pv 1) (be_of (ve_of (fe_op o_mod (ve_of (pe_CB1 c_int (fun hc ha => pe_callTy hc (by rfl) T.z_int boot_int ha) (be_of (ve_of (fe_op o_fdiv (ve_name (pv 2)) (be_of ve_int)))))) (be_of ve_int)))) (fun _ _ => rfl))))))
      (vss_cons (vs_for PassesOwn.never rfl (vi_range1 (by rfl) T.z_range (va_cons (ve_of (fe_ix (i_ix rfl (hu_of hr)) (ve_of (fe_lst (va_cons ve_int (va_cons ve_int (va_cons ve_int (va_cons ve_int va_nil)))))) (be_of (ve_of (fe_op o_mod (ve_of (pe_CB1 c_int (fun hc ha => pe_callTy hc (by rfl) T.z_int boot_int ha) (be_of (ve_of (fe_op o_fdiv (ve_name (pv 2)) (be_of ve_int)))))) (be_of ve_int)))) (fun _ _ => rfl))) va_nil)) (vg_name (i := 4) [4] (by decide) sc__law_name.nd rfl (.inl rfl))
      (vss_one (vs_set (i := 3) sc__law_name.nd rfl (.inl rfl) (fe_op (o_add rfl) (ve_name (pv 3)) (be_of (ve_of (fe_ixN (i_ix rfl (hu_of hr)) (pv 1) (be_of (ve_of (fe_op o_mod (ve_of (pe_CB1 c_int (fun hc ha => pe_callTy hc (by rfl) T.z_int boot_int ha) (be_of (ve_of (fe_op o_fdiv (ve_name (pv 2)) (be_of (ve_of (fe_ix (i_ix rfl (hu_of hr)) (ve_of (fe_lst (va_cons ve_int (va_cons ve_int va_nil)))) (be_name (pv 4)) (fun _ _ => rfl))))))))) (be_of ve_int)))) (fun _ _ => rfl))))))))
      (vss_cons (vs_if (vb_cmp (o_in rfl (hu65 hr)) (ve_name (pv 3)) (be_of (ve_of (fe_lst (va_cons ve_str (va_cons ve_str (va_cons ve_str (va_cons ve_str (va_cons ve_str (va_cons ve_str (va_cons ve_str (va_cons ve_str (va_cons ve_str (va_cons ve_str va_nil))))))))))))) (by rfl)) (vss_one (vs_ret (ve_of (fe_op (o_add rfl) (ve_name (pv 3)) (be_of ve_str))))) vss_nil)
      (vss_one (vs_ret (ve_name (pv 3)))))))))) ?_
  rintro ds c Q ⟨rfl, q⟩
  refine ⟨569504, rfl, Nat.zero_le _, dm (by decide), fun r hr => ?_⟩
  have hr : r < 569504 := by omega
  have sl : ("abcdefghijklmnopqrstuvwxyz0123456789_" : Tx).length = 37 := by decide
  have lr : ("reservation_x" : Tx).length = 13 := by decide
  have l0 : ("" : Tx).length = 0 := by decide
  have so : tOk "abcdefghijklmnopqrstuvwxyz0123456789_" := tOk_of (by decide)
  have t0 : tOk "" := tOk_of (by decide)
  have t1 : tOk "reservation_x" := tOk_of (by decide)
  walk_at "vv"
  obtain ⟨d4, ed4, md4⟩ := pickI (l := [D.str "", .str "", .str "", .str "reservation_x"]) (i := (r : Int) % 4) (by omega) (by simp; omega)
  obtain ⟨z4, rfl, hz4⟩ := str_mem (P := fun s => s = "" ∨ s = "reservation_x") md4 (by simp)
  have z4l : z4.length = 0 ∨ z4.length = 13 := by
    rcases hz4 with rfl | rfl
    · exact .inl l0
    · exact .inr lr
  refine withD_of ed4 ?_
  walk_at "vv"
  obtain ⟨k1, hk1⟩ := sign_at (x := "abcdefghijklmnopqrstuvwxyz0123456789_") (i := (r : Int) / 16 % 26) (by omega) (by rw [sl]; omega)
  refine ⟨k1, hk1, ?_⟩
  walk_at "vv"
  obtain ⟨d5, ed5, md5⟩ := pickI (l := [D.int 0, .int 0, .int 1, .int 2]) (i := (r : Int) / 4 % 4) (by omega) (by simp; omega)
  obtain ⟨z5, rfl, hz5⟩ := int_mem (P := fun i => 0 ≤ i ∧ i ≤ 2) md5 (by simp)
  walk_at "vv"
  refine withD_of ed5 ?_
  walk_at "wh"
  refine ⟨⟨by omega, by omega⟩, ?_⟩
  have k1l := let_in (by omega) (by omega) hk1
  have z4o : tOk z4 ∧ z4.length ≤ 13 ∧ (∀ d ∈ cl z4, d ∈ cl chWrd) ∧ ∃ c r, cl (z4 ++ ⟨#[k1]⟩) = c :: r ∧ c ∈ cl chLet := by
    rcases hz4 with rfl | rfl
    · exact ⟨t0, by rw [l0]; decide, (by decide), k1, [], rfl, k1l⟩
    · refine ⟨t1, by rw [lr]; decide, (by decide), 114, cl "eservation_x" ++ [k1], ?_, by decide⟩
      rw [cl_app]
      rfl
  refine ⟨fun i E => Iv (∃ (x : Tx) (y : SV), E = ⟨[.v .tape, .v (.str "abcdefghijklmnopqrstuvwxyz0123456789_"), .v (.int r), .v (.str x), y], c⟩ ∧ x.length ≤ 14 + i ∧ ((∃ c r, cl x = c :: r ∧ c ∈ cl chLet) ∧ ∀ d ∈ cl x, d ∈ cl chWrd) ∧ tOk x), .a ⟨_, _, rfl, by rw [len_app, one_len]; omega, ⟨z4o.2.2.2, fun d hd => ?_⟩, tOk_app z4o.1 (tOk_one so hk1)⟩, ?_, ?_⟩
  · rw [cl_app] at hd
    rcases List.mem_append.mp hd with h | h
    · exact z4o.2.2.1 d h
    · rw [List.mem_singleton.mp h]
      exact let_wrd _ k1l
  · intro i d E ed iv
    obtain ⟨x, y, rfl, hx, hx3, hx2⟩ := iv.out
    obtain ⟨rfl, hi⟩ := rng_at ed
    have hi : i < 2 := by omega
    obtain ⟨d6, ed6, md6⟩ := pickI (l := [D.int 416, .int 15392]) (i := 0 + (i : Int)) (by omega) (by simp; omega)
    obtain ⟨z6, rfl, hz6⟩ := int_mem (P := fun i => i = 416 ∨ i = 15392) md6 (by simp)
    walk_at "vv"
    refine withD_of ed6 ?_
    have hz7 : 0 ≤ (r : Int) / z6 := by rcases hz6 with rfl | rfl <;> omega
    have dv : CDivW (r : Int) z6 := by rcases hz6 with rfl | rfl <;> exact small_div (by omega) (by omega)
    walk_at "vv"
    obtain ⟨k2, hk2⟩ := sign_at (x := "abcdefghijklmnopqrstuvwxyz0123456789_") (i := (r : Int) / z6 % 37) (by omega) (by rw [sl]; omega)
    refine ⟨k2, hk2, ?_⟩
    refine ⟨by rw [one_len]; omega, ?_⟩
    refine .a ⟨_, _, rfl, by rw [len_app, one_len]; omega, ⟨?_, fun d hd => ?_⟩, tOk_app hx2 (tOk_one so hk2)⟩
    · obtain ⟨c, r, e, h⟩ := hx3.1
      exact ⟨c, r ++ [k2], by rw [cl_app, e]; rfl, h⟩
    · rw [cl_app] at hd
      rcases List.mem_append.mp hd with h | h
      · exact hx3.2 d h
      · rw [List.mem_singleton.mp h]
        exact sig_wrd _ (cl_in hk2)
  · intro E iv
    obtain ⟨x, y, rfl, hx, hx3, hx2⟩ := iv.out
    have e : (rng 0 z5.toNat).length ≤ 2 := by simp only [rng, List.length_map, List.length_range]; omega
    have l1 : ("_" : Tx).length = 1 := by decide
    walk_at "vv"
    walk_at "wh"
    refine both (fun ew => ?_) (fun _ => ?_)
    · have x3 : x.length ≤ 3 := by
        have ew : ((["key", "to", "by", "sum", "set", "and", "or", "not", "one", "of"] : List Tx).map D.str).any (fun y => y.eqf (D.str x)) = true := ew
        rw [in_strsD] at ew
        have ew := of_decide_eq_true ew
        have all : ∀ z ∈ (["key", "to", "by", "sum", "set", "and", "or", "not", "one", "of"] : List Tx), z.length ≤ 3 := by decide
        exact all x ew
      walk_at "vv"
      refine q _ ⟨?_, fun d hd => ?_, by rw [len_app]; omega⟩ (tOk_app hx2 (tOk_of (by decide)))
      · obtain ⟨c, r, e, h⟩ := hx3.1
        exact ⟨c, r ++ [95], by rw [cl_app, e]; rfl, h⟩
      · rw [cl_app] at hd
        rcases List.mem_append.mp hd with h | h
        · exact hx3.2 d h
        · have all : ∀ d ∈ cl "_", d ∈ cl chWrd := by decide
          exact all d h
    · exact q _ ⟨hx3.1, hx3.2, by omega⟩ hx2
theorem ok__law_signs (T : Txt P w K mg) : FnOk P w K mg base CX0 1 T.a__law_signs T.d__law_signs [] (spV (Sx T) mSigns) := by
  refine def_v (S := Sx T) (N := N__law_signs) T.F__law_signs sc__law_signs rfl (fun ds c Q h => by obtain ⟨rfl, _⟩ := h; first | rfl | assumption) (fun cdv A outer s H E hr => (vss_cons (vs_set (i := 0) sc__law_signs.nd rfl (.inl rfl) (fe_of ve_str))
      (vss_one (vs_ret (ve_of (fe_op (o_add rfl) (ve_name (pv 0)) (be_of ve_str))))))) ?_
  rintro ds c Q ⟨rfl, q⟩
  walk_at "wh"
  refine ⟨by decide, ?_⟩
  exact q _ (by rw [len_app]; decide) (by rw [len_app]; decide) (tOk_app (tOk_of (by decide)) (tOk_of (by decide))) (fun d hd => by
    rw [cl_app] at hd
    rcases List.mem_append.mp hd with h | h
    · revert d
      decide
    · revert d
      decide)
theorem ok__law_text (T : Txt P w K mg) : FnOk P w K mg base CX0 2 T.a__law_text T.d__law_text ["tape"] (spV (Sx T) mText) := by
  have G__law_draw := draw_v (S := Sx T) (ok__law_draw (P := P) (w := w) (base := base) T)
  have G__law_signs := ok__law_signs (P := P) (w := w) (base := base) T
  refine def_v (S := Sx T) (N := N__law_text) T.F__law_text sc__law_text rfl (fun ds c Q h => by obtain ⟨rfl, _⟩ := h; first | rfl | assumption) (fun cdv A outer s H E hr => (vss_cons (vs_set (i := 1) sc__law_text.nd rfl (.inl rfl) (fe_of (ve_call G__law_draw hr (by rfl) T.g__law_draw T.F__law_draw.kp T.b__law_draw (va_cons (ve_name (pv 0)) (va_cons ve_int va_nil)))))
      (vss_cons (vs_set (i := 2) sc__law_text.nd rfl (.inl rfl) (fe_op o_mod (ve_of (pe_CB1 c_int (fun hc ha => pe_callTy hc (by rfl) T.z_int boot_int ha) (be_name (pv 1)))) (be_of ve_int)))
      (vss_cons (vs_set (i := 3) sc__law_text.nd rfl (.inl rfl) (fe_of ve_str))
      (vss_cons (vs_if (vb_cmp o_lt (ve_name (pv 2)) (be_of ve_int) (nomark _)) (vss_cons (vs_for PassesOwn.never rfl (vi_range1 (by rfl) T.z_range (va_cons (ve_of (fe_ix (i_ix rfl (hu_of hr)) (ve_of (fe_lst (va_cons ve_int (va_cons ve_int (va_cons ve_int (va_cons ve_int (va_cons ve_int (va_cons ve_int va_nil)))))))) (be_name (pv 2)) (fun _ _ => rfl))) va_nil)) (vg_name (i := 4) [4] (by decide) sc__law_text.nd rfl (.inl rfl))
      (vss_one (vs_set (i := 3) sc__law_text.nd rfl (.inl rfl) (fe_op (o_add rfl) (ve_name (pv 3)) (be_of (ve_of (fe_ix (i_ix rfl (hu_of hr)) ve_str (be_of (ve_of (fe_op o_mod (ve_of (pe_CB1 c_int (fun hc ha => pe_callTy hc (by rfl) T.z_int boot_int ha) (be_of (ve_of (fe_op o_fdiv (ve_name (pv 1)) (be_of (ve_of (fe_ix (i_ix rfl (hu_of hr)) (ve_of (fe_lst (va_cons ve_int (va_cons ve_int (va_cons ve_int va_nil))))) (be_name (pv 4)) (fun _ _ => rfl))))))))) (be_of ve_int)))) (fun _ _ => rfl))))))))
      (vss_one (vs_ret (ve_name (pv 3))))) vss_nil)
      (vss_cons (vs_for PassesOwn.never rfl (vi_range1 (by rfl) T.z_range (va_cons (ve_of (fe_ix (i_ix rfl (hu_of hr)) (ve_of (fe_lst (va_cons ve_int (va_cons (ve_of (fe_op o_fdiv (ve_name (pv 1)) (be_of ve_int))) va_nil)))) (be_of (ve_of (fe_op o_sub (ve_name (pv 2)) (be_of ve_int)))) (fun _ _ => rfl))) va_nil)) (vg_name (i := 4) [4] (by decide) sc__law_text.nd rfl (.inl rfl))
      (vss_one (vs_set (i := 3) sc__law_text.nd rfl (.inl rfl) (fe_op (o_add rfl) (ve_name (pv 3)) (be_of (ve_of (fe_ix (i_ix rfl (hu_of hr)) (ve_call0 G__law_signs hr (by rfl) T.g__law_signs T.F__law_signs.kp T.b__law_signs) (be_of (ve_call G__law_draw hr (by rfl) T.g__law_draw T.F__law_draw.kp T.b__law_draw (va_cons (ve_name (pv 0)) (va_cons ve_int va_nil)))) (fun _ _ => rfl))))))))
      (vss_one (vs_ret (ve_name (pv 3)))))))))) ?_
  rintro ds c Q ⟨rfl, q⟩
  refine ⟨21000, rfl, Nat.zero_le _, dm (by decide), fun r hr => ?_⟩
  have hr : r < 21000 := by omega
  have sl : ("abB' " : Tx).length = 5 := by decide
  have l0 : ("" : Tx).length = 0 := by decide
  have so : tOk "abB' " := tOk_of (by decide)
  have t0 : tOk "" := tOk_of (by decide)
  walk_at "vv"
  walk_at "wh"
  refine bothD (fun e => ?_) (fun e => ?_)
  · obtain ⟨d5, ed5, md5⟩ := pickI (l := [D.int 0, .int 1, .int 1, .int 1, .int 2, .int 3]) (i := (r : Int) % 8) (by omega) (by simp; omega)
    obtain ⟨z5, rfl, hz5⟩ := int_mem (P := fun i => 0 ≤ i ∧ i ≤ 3) md5 (by simp)
    walk_at "vv"
    refine withD_of ed5 ?_
    walk_at "wh"
    refine ⟨⟨by omega, by omega⟩, ?_⟩
    refine ⟨fun i E => Iv (∃ (x : Tx) (y : SV), E = ⟨[.v .tape, .v (.int r), .v (.int ((r : Int) % 8)), .v (.str x), y], c⟩ ∧ x.length ≤ i ∧ (∀ d ∈ cl x, d ≠ 10) ∧ tOk x), .a ⟨_, _, rfl, Nat.le_refl _, (fun d hd => by cases hd), t0⟩, ?_, ?_⟩
    · intro i d E ed iv
      obtain ⟨x, y, rfl, hx, hx3, hx2⟩ := iv.out
      obtain ⟨rfl, hi⟩ := rng_at ed
      have hi : i < 3 := by omega
      obtain ⟨d6, ed6, md6⟩ := pickI (l := [D.int 8, .int 40, .int 200]) (i := 0 + (i : Int)) (by omega) (by simp; omega)
      obtain ⟨z6, rfl, hz6⟩ := int_mem (P := fun i => i = 8 ∨ i = 40 ∨ i = 200) md6 (by simp)
      walk_at "vv"
      refine withD_of ed6 ?_
      have hz7 : 0 ≤ (r : Int) / z6 := by rcases hz6 with rfl | rfl | rfl <;> omega
      have dv : CDivW (r : Int) z6 := by rcases hz6 with rfl | rfl | rfl <;> exact small_div (by omega) (by omega)
      walk_at "vv"
      obtain ⟨k2, hk2⟩ := sign_at (x := "abB' ") (i := (r : Int) / z6 % 5) (by omega) (by rw [sl]; omega)
      refine ⟨k2, hk2, ?_⟩
      refine ⟨by rw [one_len]; omega, ?_⟩
      refine .a ⟨_, _, rfl, by rw [len_app, one_len]; omega, fun d hd => ?_, tOk_app hx2 (tOk_one so hk2)⟩
      rw [cl_app] at hd
      rcases List.mem_append.mp hd with h | h
      · exact hx3 d h
      · rw [List.mem_singleton.mp h]
        exact abb_ok _ (cl_in hk2)
    · intro E iv
      obtain ⟨x, y, rfl, hx, hx3, hx2⟩ := iv.out
      have e : (rng 0 z5.toNat).length ≤ 3 := by simp only [rng, List.length_map, List.length_range]; omega
      exact q _ ⟨by omega, hx3⟩ hx2
  · walk_at "vv"
    obtain ⟨d5, ed5, md5⟩ := pickI (l := [D.int 20, .int ((r : Int) / 1000)]) (i := (r : Int) % 8 - 6) (by omega) (by simp; omega)
    obtain ⟨z5, rfl, hz5⟩ := int_mem (P := fun i => 0 ≤ i ∧ i ≤ 20) md5 (by simp; omega)
    walk_at "vv"
    refine withD_of ed5 ?_
    walk_at "wh"
    refine ⟨⟨by omega, by omega⟩, ?_⟩
    refine ⟨fun i E => Iv (∃ (x : Tx) (y : SV), E = ⟨[.v .tape, .v (.int r), .v (.int ((r : Int) % 8)), .v (.str x), y], c⟩ ∧ x.length ≤ i ∧ (∀ d ∈ cl x, d ≠ 10) ∧ tOk x), .a ⟨_, _, rfl, Nat.le_refl _, (fun d hd => by cases hd), t0⟩, ?_, ?_⟩
    · intro i d E ed iv
      obtain ⟨x, y, rfl, hx, hx3, hx2⟩ := iv.out
      obtain ⟨rfl, hi⟩ := rng_at ed
      refine ⟨rfl, fun sg h1 h2 sgo sg10 => ?_⟩
      refine ⟨94, rfl, Nat.zero_le _, dm (by decide), fun r2 hr2 => ?_⟩
      obtain ⟨k2, hk2⟩ := sign_at (x := sg) (i := (r2 : Int)) (by omega) (by omega)
      walk_at "vv"
      refine ⟨k2, hk2, ?_⟩
      refine ⟨by rw [one_len]; omega, ?_⟩
      refine .a ⟨_, _, rfl, by rw [len_app, one_len]; omega, fun d hd => ?_, tOk_app hx2 (tOk_one sgo hk2)⟩
      rw [cl_app] at hd
      rcases List.mem_append.mp hd with h | h
      · exact hx3 d h
      · rw [List.mem_singleton.mp h]
        exact sg10 _ (cl_in hk2)
    · intro E iv
      obtain ⟨x, y, rfl, hx, hx3, hx2⟩ := iv.out
      have e : (rng 0 z5.toNat).length ≤ 20 := by simp only [rng, List.length_map, List.length_range]; omega
      exact q _ ⟨by omega, hx3⟩ hx2
end
end Va
set_option Elab.async false
set_option linter.all false
set_option maxRecDepth 100000
set_option maxHeartbeats 4000000
namespace Va
open PySem PySem.Spec PyProof.Rows L2 Ind
def repN (x : Tx) (n : Int) : Tx := if n < 1 then Str.empty else if n = 1 then x else repT x n.toNat
section
variable {X : Cx} {S : Sg}
theorem op_mulN : OpR X (binaryOp .Mult) (fun x y H Q => ∃ i n, x = .str i ∧ y = .int n ∧ 0 ≤ n ∧ n ≤ 1000 ∧ 1 ≤ i.length ∧ i.length ≤ 1000 ∧ (repT i n.toNat).length ≤ 1000000 ∧ Q (.str (repN i n)) H) := by
  intro pins s σ H x y v u Q I rx ry h
  obtain ⟨i, n, rfl, rfl, h1, h2, h3, h4, h5, q⟩ := h
  obtain ⟨t, rfl⟩ := rx
  obtain ⟨t', rfl⟩ := ry
  refine PySem.P.mul_str (by rw [decide_eq_false (by omega), decide_eq_false (by omega)]; rfl) (fun z0 _ z => ?_) (fun _ _ => ?_) ?_
  · have : (1000 : Int) ≤ (2 ^ 63 - 1) / n := Int.le_ediv_of_mul_le (by omega) (by omega)
    omega
  · have : i.length * n.toNat ≤ 1000 * 1000 := Nat.mul_le_mul h4 (by omega)
    exact decide_eq_false (Nat.not_lt.mpr (million (by omega)))
  · unfold repN at q
    by_cases c1 : n < 1
    · rw [if_pos c1] at q ⊢
      exact ⟨by decide, .str Str.empty, H, I.tok _, ⟨_, rfl⟩, q⟩
    · rw [if_neg c1] at q ⊢
      by_cases c2 : n = 1
      · rw [if_pos c2] at q
        rw [if_pos (by rw [c2]; rfl)]
        exact ⟨.str i, H, I, ⟨_, rfl⟩, q⟩
      · rw [if_neg c2] at q
        rw [if_neg (by
          rw [show (n == 1 || i.length == 0) = false from by
            rw [Bool.or_eq_false_iff]
            exact ⟨by rw [beq_eq_false_iff_ne]; exact c2, by rw [beq_eq_false_iff_ne]; omega⟩]
          exact Bool.false_ne_true)]
        exact ⟨million h5, .str (repT i n.toNat), H, I.tok _, ⟨_, rfl⟩, q⟩
def mulN : VO := fun d e Q => match d, e with
  | .str x, .int n => 0 ≤ n ∧ n ≤ 1000 ∧ 1 ≤ x.length ∧ x.length ≤ 1000 ∧ (repT x n.toNat).length ≤ 1000000 ∧ Q (.v (.str (repN x n)))
  | _, _ => False
theorem o_mulN : OpV S X (binaryOp .Mult) mulN := by
  refine ⟨_, op_mulN, ?_⟩
  intro Γ H x y d e Q Q0 eK hx hy hg k
  unfold mulN at hg
  split at hg
  · exact ⟨_, _, hx.str, hy.int, hg.1, hg.2.1, hg.2.2.1, hg.2.2.2.1, hg.2.2.2.2.1, k _ hg.2.2.2.2.2 _ _ (Same.refl _) (.str _)⟩
  · exact hg.elim
end
theorem repT_one (c n : Nat) : cl (repT ⟨#[c]⟩ n) = List.replicate n c := by
  show ((List.replicate n (#[c] : Array Nat)).foldl (· ++ ·) #[]).toList = _
  have key : ∀ (n : Nat) (a : Array Nat), ((List.replicate n (#[c] : Array Nat)).foldl (· ++ ·) a).toList = a.toList ++ List.replicate n c := fun n => by
    induction n with
    | zero => intro a; simp
    | succ n ih =>
      intro a
      rw [List.replicate_succ, List.foldl_cons, ih, List.replicate_succ]
      simp
  rw [key]
  rfl
theorem repN_one (c n : Nat) : cl (repN ⟨#[c]⟩ (n : Int)) = List.replicate n c := by
  unfold repN
  by_cases c1 : (n : Int) < 1
  · have : n = 0 := by omega
    subst this
    rw [if_pos c1]
    rfl
  · rw [if_neg c1]
    by_cases c2 : (n : Int) = 1
    · have : n = 1 := by omega
      subst this
      rw [if_pos c2]
      rfl
    · rw [if_neg c2]
      exact repT_one c n
theorem num_cl (m : Nat) : cl (Str.ofString (toString ((m : Nat) : Int))) = (Nat.toDigits 10 m).map Char.toNat := _root_.PySem.W.KIN.signs_num m
theorem num_dig (m : Nat) : ∀ c ∈ cl (Str.ofString (toString ((m : Nat) : Int))), c ∈ cl chDig := fun c hc => by
  rw [num_cl] at hc
  obtain ⟨ch, hch, rfl⟩ := List.mem_map.mp hc
  have r := digit_range (Nat.isDigit_of_mem_toDigits (by decide) (by decide) hch)
  have all : ∀ d, 48 ≤ d → d ≤ 57 → d ∈ cl chDig := fun d h1 h2 => by
    have : d ∈ (List.range 10).map (48 + ·) := List.mem_map.mpr ⟨d - 48, List.mem_range.mpr (by omega), by omega⟩
    rw [show cl chDig = (List.range 10).map (48 + ·) from by decide]
    exact this
  exact all _ r.1 r.2
theorem num_val (m : Nat) : PySem.NumText.digitsVal (cl (Str.ofString (toString ((m : Nat) : Int)))) = m := by
  rw [num_cl]
  exact _root_.PySem.W.KIN.val_back m
theorem num_ne (m : Nat) : cl (Str.ofString (toString ((m : Nat) : Int))) ≠ [] := by
  rw [num_cl]
  intro e
  have h := toDigits_len_ge 10 m
  rw [List.map_eq_nil_iff.mp e] at h
  exact absurd h (by decide)
theorem zeros_val (n : Nat) (l : List Nat) : PySem.NumText.digitsVal (List.replicate n 48 ++ l) = PySem.NumText.digitsVal l := by
  unfold PySem.NumText.digitsVal
  rw [List.foldl_append]
  congr 1
  induction n with
  | zero => rfl
  | succ n ih => rw [List.replicate_succ]; exact ih
end Va
set_option Elab.async false
set_option linter.all false
set_option maxRecDepth 100000
set_option maxHeartbeats 4000000
namespace Va
open PySem PySem.Spec PyProof.Rows L2 Ind RowK
local macro_rules | `(tactic| walk_at "cn") => `(tactic| first
  | assumption
  | omega
  | exact dm (by omega)
  | exact line (by simp)
  | exact line (by omega)
  | exact line (by simp only [len_app, len_one]; omega)
  | exact small_div (by omega) (by omega)
  | solve_by_elim
  | exact Or.inr ⟨by omega, by omega⟩
  | exact Or.inl ⟨by omega, by omega⟩
  | exact ⟨by omega, by omega⟩
  | decide)
local macro_rules | `(tactic| walk_at "st") => `(tactic| repeat (first
  | refine ⟨_, rfl, ?_⟩
  | refine ⟨_, _, rfl, rfl, ?_⟩
  | refine ⟨_, _, rfl, ?_⟩
  | refine .inl ⟨_, rfl, ?_⟩
  | refine And.intro rfl ?_
  | refine And.intro (by walk_at "cn") ?_))
local macro_rules | `(tactic| walk_at "fz") => `(tactic| repeat (first | exact Fz.refl | apply Fz.upd))
local macro_rules | `(tactic| walk_at "hl") => `(tactic| ((repeat rw [upd_ne (by assumption)]); assumption))
local macro_rules | `(tactic| walk_at "fy") => `(tactic| (intro b o n1 h; (repeat rw [upd_ne n1]); exact h))
local macro_rules | `(tactic| walk_at "wh") => `(tactic| (conv => whnf))
local macro_rules | `(tactic| walk_at "cv") => `(tactic| first
  | rfl
  | assumption
  | omega
  | exact dm (by omega)
  | exact small_div (by omega) (by omega)
  | (simp only [len_app, one_len, len_one, List.length_append, List.length_map, List.length_cons, List.length_nil]; omega)
  | exact Or.inr ⟨by omega, by omega⟩
  | exact Or.inl ⟨by omega, by omega⟩
  | exact ⟨by omega, by omega⟩
  | decide)
local macro_rules | `(tactic| walk_at "vv") => `(tactic| repeat (refine And.intro (by walk_at "cv") ?_))
local macro_rules | `(tactic| walk_at "sk") => `(tactic| repeat (first
  | refine wayT ?_
  | refine wayF ?_
  | refine skipT (by omega) ?_
  | refine skipF (by omega) ?_
  | refine skipT (by decide) ?_
  | refine skipF (by decide) ?_
  | refine ⟨_, (show tyNames _ = some _ from rfl), ?_⟩
  | refine And.intro (by walk_at "cv") ?_))
local macro_rules | `(tactic| walk_at "s0") => `(tactic| first
  | refine wayT ?_
  | refine wayF ?_
  | refine skipT (by omega) ?_
  | refine skipF (by omega) ?_
  | refine skipT (by decide) ?_
  | refine skipF (by decide) ?_
  | refine ⟨_, (show tyNames _ = some _ from rfl), ?_⟩
  | refine And.intro (by walk_at "cv") ?_)
local macro_rules | `(tactic| walk_at "s1") => `(tactic| try (walk_at "s0"; walk_at "wh"))
local macro_rules | `(tactic| walk_at "go") => `(tactic| (walk_at "wh"; repeat (walk_at "s0"; walk_at "wh")))
def Tk.tx (t : Tk) : Tx := ⟨t.cl.toArray⟩
theorem tx_wd (x : Tx) : (Tk.wd x).tx = x := cl_ext rfl
theorem tx_nu (n : Int) (x : Tx) : (Tk.nu n x).tx = x := cl_ext rfl
theorem tx_sy (x : Tx) : (Tk.sy x).tx = x := cl_ext rfl
def Tk.vOk : Tk → Prop
  | .wd x => tOk x
  | .nu _ _ => True
  | .st x => tOk x
  | .sy x => tOk x
def tokD (t : Tk) : D := .tup [.str t.kind, t.val, .str t.tx]
theorem seqI {s u : VS} {V : Ve} {E : En} (I : En → Prop) (h : ∀ N : En → Prop, (∀ E1, I E1 → N E1) → s { V with nx := N } E) (k : ∀ E1, I E1 → u V E1) : sSeq s u V E := h _ k
def mWord : VM := fun ds c Q => ds = [.tape] ∧ ∀ x : Tx, (Tk.wd x).ok → tOk x → Q (.str x) c
def mOne : VM := fun ds c Q => ds = [.tape] ∧ ∀ t : Tk, t.ok → t.vOk → Q (tokD t) c
def mParted : VM := fun ds c Q => ∃ a b : Tk, ds = [tokD a, tokD b] ∧ a.ok ∧ b.ok ∧ Q (.bl (partB a b)) c
def fixed : List Tx := ["table", "key", "to", "integer", "where", "of", "implies", "insert", "by", "count", repT "x" 16, "orx", "a_1"]
theorem fixed_ok : ∀ x ∈ fixed, (Tk.wd x).ok ∧ tOk x := by
  have h1 : ∀ x ∈ fixed, cl x ≠ [] ∧ (cl x).headD 0 ∈ cl chLet ∧ (∀ c ∈ cl x, c ∈ cl chWrd) ∧ x.length ≤ 16 := by decide
  have h2 : ∀ c ∈ cl chWrd, c < 1114112 := by decide
  intro x hx
  obtain ⟨a, b, c, d⟩ := h1 x hx
  obtain ⟨c0, r, e⟩ := List.exists_cons_of_ne_nil a
  rw [e] at b
  exact ⟨⟨⟨c0, r, e, b⟩, c, d⟩, fun k hk => h2 k (c k hk)⟩
section
variable {P : Program} {w : World} {K : PySem.W.Frag} {mg : PySem.Str → Option Value} {base : Heap}
theorem ok__law_word (T : Txt P w K mg) : FnOk P w K mg base CX0 3 T.a__law_word T.d__law_word ["tape"] (spV (Sx T) mWord) := by
  have G__law_name := ok__law_name (P := P) (w := w) (base := base) T
  have G__law_draw := draw_v (S := Sx T) (ok__law_draw (P := P) (w := w) (base := base) T)
  refine def_v (S := Sx T) (N := N__law_word) T.F__law_word sc__law_word rfl (fun ds c Q h => by obtain ⟨rfl, _⟩ := h; first | rfl | assumption) (fun cdv A outer s H E hr => (vss_cons (vs_set (i := 1) sc__law_word.nd rfl (.inl rfl) (fe_lst (va_cons ve_str (va_cons ve_str (va_cons ve_str (va_cons ve_str (va_cons ve_str (va_cons ve_str (va_cons ve_str (va_cons ve_str (va_cons ve_str (va_cons ve_str (va_cons (ve_of (fe_op o_mulS ve_str (be_of ve_int))) (va_cons ve_str (va_cons ve_str va_nil)))))))))))))))
      (vss_cons (vs_if (vb_cmp (o_eq rfl hr.units) (ve_call G__law_draw (hr.mono (by omega)) (by rfl) T.g__law_draw T.F__law_draw.kp T.b__law_draw (va_cons (ve_name (pv 0)) (va_cons ve_int va_nil))) (be_of ve_int) (nomark _)) (vss_one (vs_ret (ve_of (fe_ixN (i_ix rfl (hu_of hr)) (pv 1) (be_of (ve_call G__law_draw (hr.mono (by omega)) (by rfl) T.g__law_draw T.F__law_draw.kp T.b__law_draw (va_cons (ve_name (pv 0)) (va_cons (ve_of (pe_CB1 (c_len rfl) (fun hc ha => pe_callB hc (by rfl) T.z_len boot_len ha) (be_name (pv 1)))) va_nil)))) (fun _ _ => rfl))))) vss_nil)
      (vss_one (vs_ret (ve_call G__law_name hr (by rfl) T.g__law_name T.F__law_name.kp T.b__law_name (va_cons (ve_name (pv 0)) va_nil))))))) ?_
  rintro ds c Q ⟨rfl, q⟩
  refine seqI (fun E => E = ⟨[.v .tape, .ol (fixed.map .str)], c⟩) ?_ ?_
  · intro N hN
    walk_at "wh"
    refine ⟨by decide, by decide, by decide, by decide, by decide, ?_⟩
    walk_at "wh"
    refine ⟨by show 13 ≤ 1000; decide, ?_⟩
    exact hN _ rfl
  rintro _ rfl
  have pk : ∀ r : Nat, r < 13 → ∃ x, atI (fixed.map D.str) (r : Int) = some (.str x) ∧ x ∈ fixed := fun r hr => by
    obtain ⟨d, ed, md⟩ := pickD (l := fixed.map D.str) (i := r) (by show r < 13; exact hr)
    obtain ⟨x, hx, rfl⟩ := List.mem_map.mp md
    exact ⟨x, ed, hx⟩
  walk_at "wh"
  refine ⟨3, rfl, Nat.zero_le _, dm (by decide), fun r hr => ?_⟩
  walk_at "wh"
  refine bothD (fun e => ?_) (fun e => ?_)
  · walk_at "wh"
    refine ⟨13, rfl, Nat.zero_le _, dm (by decide), fun r2 hr2 => ?_⟩
    obtain ⟨x, ex, hx⟩ := pk r2 (by omega)
    obtain ⟨o1, o2⟩ := fixed_ok x hx
    refine withD_of ex ?_
    exact q x o1 o2
  · walk_at "wh"
    refine ⟨rfl, fun x h1 h2 => ?_⟩
    exact q x h1 h2
theorem ok__law_parted (T : Txt P w K mg) : FnOk P w K mg base CX0 1 T.a__law_parted T.d__law_parted ["before", "after"] (spV (Sx T) mParted) := by
  refine def_v (S := Sx T) (N := N__law_parted) T.F__law_parted sc__law_parted rfl (fun ds c Q h => by obtain ⟨a, b, rfl, _⟩ := h; first | rfl | assumption) (fun cdv A outer s H E hr => (vss_cons (vs_if (vb_cmp (o_eq rfl hr.units) (ve_of (fe_ixN (i_ix rfl (hu_of hr)) (pv 0) (be_of ve_int) (fun _ _ => rfl))) (be_of ve_str) (nomark _)) (vss_one (vs_ret (ve_and (ve_of (fe_cmp (o_in rfl (hu65 hr)) (ve_of (fe_ixN (i_ix rfl (hu_of hr)) (pv 0) (be_of ve_int) (fun _ _ => rfl))) (be_of (ve_of (fe_lst (va_cons ve_str (va_cons ve_str va_nil))))) (by rfl))) (ve_and (ve_of (fe_cmp (o_eq rfl hr.units) (ve_of (fe_ixN (i_ix rfl (hu_of hr)) (pv 1) (be_of ve_int) (fun _ _ => rfl))) (be_of ve_str) (nomark _))) (ve_one (ve_of (fe_cmp (o_eq rfl hr.units) (ve_of (fe_ixN (i_ix rfl (hu_of hr)) (pv 1) (be_of ve_int) (fun _ _ => rfl))) (be_of ve_str) (nomark _)))))))) vss_nil)
      (vss_cons (vs_if (vb_cmp (o_eq rfl hr.units) (ve_of (fe_ixN (i_ix rfl (hu_of hr)) (pv 0) (be_of ve_int) (fun _ _ => rfl))) (be_of (ve_of (fe_ixN (i_ix rfl (hu_of hr)) (pv 1) (be_of ve_int) (fun _ _ => rfl)))) (nomark _)) (vss_one (vs_ret ve_bl)) vss_nil)
      (vss_one (vs_ret (ve_and (ve_of (fe_cmp (o_eq rfl hr.units) (ve_of (fe_ixN (i_ix rfl (hu_of hr)) (pv 0) (be_of ve_int) (fun _ _ => rfl))) (be_of ve_str) (nomark _))) (ve_one (ve_of (fe_cmp (o_eq rfl hr.units) (ve_of (fe_ixN (i_ix rfl (hu_of hr)) (pv 1) (be_of ve_int) (fun _ _ => rfl))) (be_of ve_str) (nomark _)))))))))) ?_
  rintro ds c Q ⟨a, b, rfl, oa, ob, g⟩
  cases a with
  | wd x =>
    cases b <;> (walk_at "go"; exact g)
  | nu n x =>
    cases b <;> (walk_at "go"; exact g)
  | st x =>
    cases b <;> (walk_at "go"; exact g)
  | sy x =>
    cases b with
    | sy y =>
      have g : Q (.bl ((decide (x = "<") || decide (x = ">")) && decide (y = "="))) c := g
      walk_at "go"
      refine both (fun z => ?_) (fun z => ?_)
      · have z : ((["<", ">"] : List Tx).map D.str).any (fun y => y.eqf (D.str x)) = true := z
        rw [in_strsD] at z
        have z := of_decide_eq_true z
        have z : (decide (x = "<") || decide (x = ">")) = true := by simpa using z
        rw [z, Bool.true_and] at g
        walk_at "go"
        refine bothD (fun e => ?_) (fun e => ?_)
        · rw [decide_eq_true e] at g
          walk_at "go"
          exact g
        · rw [decide_eq_false e] at g
          walk_at "go"
          exact g
      · have z : ((["<", ">"] : List Tx).map D.str).any (fun y => y.eqf (D.str x)) = false := z
        rw [in_strsD] at z
        have z := of_decide_eq_false z
        have z : (decide (x = "<") || decide (x = ">")) = false := by simpa using z
        rw [z, Bool.false_and] at g
        walk_at "go"
        exact g
    | wd y =>
      have g : Q (.bl false) c := g
      walk_at "go"
      refine both (fun z => ?_) (fun z => ?_)
      · walk_at "go"
        refine bothD (fun e => ?_) (fun e => ?_)
        · walk_at "go"
          exact g
        · walk_at "go"
          exact g
      · walk_at "go"
        exact g
    | nu n y =>
      have g : Q (.bl false) c := g
      walk_at "go"
      refine both (fun z => ?_) (fun z => ?_)
      · walk_at "go"
        exact g
      · walk_at "go"
        exact g
    | st y =>
      have g : Q (.bl false) c := g
      walk_at "go"
      refine both (fun z => ?_) (fun z => ?_)
      · walk_at "go"
        refine bothD (fun e => ?_) (fun e => ?_)
        · walk_at "go"
          exact g
        · walk_at "go"
          exact g
      · walk_at "go"
        exact g
theorem ok__law_one (T : Txt P w K mg) : FnOk P w K mg base CX0 4 T.a__law_one T.d__law_one ["tape"] (spV (Sx T) mOne) := by
  have G__law_draw := draw_v (S := Sx T) (ok__law_draw (P := P) (w := w) (base := base) T)
  have G__law_word := ok__law_word (P := P) (w := w) (base := base) T
  have G__law_text := ok__law_text (P := P) (w := w) (base := base) T
  refine def_v (S := Sx T) (N := N__law_one) T.F__law_one sc__law_one rfl (fun ds c Q h => by obtain ⟨rfl, _⟩ := h; first | rfl | assumption) (fun cdv A outer s H E hr => (vss_cons (vs_set (i := 1) sc__law_one.nd rfl (.inl rfl) (fe_of (ve_call G__law_draw (hr.mono (by omega)) (by rfl) T.g__law_draw T.F__law_draw.kp T.b__law_draw (va_cons (ve_name (pv 0)) (va_cons ve_int va_nil)))))
      (vss_cons (vs_if (vb_cmp (o_eq rfl hr.units) (ve_name (pv 1)) (be_of ve_int) (nomark _)) (vss_cons (vs_set (i := 2) sc__law_one.nd rfl (.inl rfl) (fe_of (ve_call G__law_word hr (by rfl) T.g__law_word T.F__law_word.kp T.b__law_word (va_cons (ve_name (pv 0)) va_nil))))
      (vss_one (vs_ret (ve_tup (va_cons ve_str (va_cons (ve_name (pv 2)) (va_cons (ve_name (pv 2)) va_nil))))))) vss_nil)
      (vss_cons (vs_if (vb_cmp (o_eq rfl hr.units) (ve_name (pv 1)) (be_of ve_int) (nomark _)) (vss_cons (vs_set (i := 3) sc__law_one.nd rfl (.inl rfl) (fe_ix (i_ix rfl (hu_of hr)) (ve_of (fe_lst (va_cons (ve_call G__law_draw (hr.mono (by omega)) (by rfl) T.g__law_draw T.F__law_draw.kp T.b__law_draw (va_cons (ve_name (pv 0)) (va_cons ve_int va_nil))) (va_cons (ve_call G__law_draw (hr.mono (by omega)) (by rfl) T.g__law_draw T.F__law_draw.kp T.b__law_draw (va_cons (ve_name (pv 0)) (va_cons ve_int va_nil))) (va_cons ve_int va_nil))))) (be_of (ve_call G__law_draw (hr.mono (by omega)) (by rfl) T.g__law_draw T.F__law_draw.kp T.b__law_draw (va_cons (ve_name (pv 0)) (va_cons ve_int va_nil)))) (fun _ _ => rfl)))
      (vss_cons (vs_set (i := 4) sc__law_one.nd rfl (.inl rfl) (pe_CB1 c_str (fun hc ha => pe_callTy hc (by rfl) T.z_str boot_str ha) (be_name (pv 3))))
      (vss_cons (vs_if (vb_cmp o_lt (ve_of (pe_CB1 (c_len rfl) (fun hc ha => pe_callB hc (by rfl) T.z_len boot_len ha) (be_name (pv 4)))) (be_of ve_int) (nomark _)) (vss_one (vs_set (i := 4) sc__law_one.nd rfl (.inl rfl) (fe_op (o_add rfl) (ve_of (fe_op o_mulN ve_str (be_of (ve_call G__law_draw (hr.mono (by omega)) (by rfl) T.g__law_draw T.F__law_draw.kp T.b__law_draw (va_cons (ve_name (pv 0)) (va_cons (ve_of (fe_op o_sub ve_int (be_of (ve_of (pe_CB1 (c_len rfl) (fun hc ha => pe_callB hc (by rfl) T.z_len boot_len ha) (be_name (pv 4))))))) va_nil)))))) (be_name (pv 4))))) vss_nil)
      (vss_one (vs_ret (ve_tup (va_cons ve_str (va_cons (ve_name (pv 3)) (va_cons (ve_name (pv 4)) va_nil))))))))) vss_nil)
      (vss_cons (vs_if (vb_cmp (o_eq rfl hr.units) (ve_name (pv 1)) (be_of ve_int) (nomark _)) (vss_cons (vs_set (i := 4) sc__law_one.nd rfl (.inl rfl) (fe_of (ve_call G__law_text (hr.mono (by omega)) (by rfl) T.g__law_text T.F__law_text.kp T.b__law_text (va_cons (ve_name (pv 0)) va_nil))))
      (vss_one (vs_ret (ve_tup (va_cons ve_str (va_cons (ve_name (pv 4)) (va_cons (ve_of (fe_op (o_add rfl) (ve_of (fe_quo (ve_name (pv 4)))) (be_of ve_str))) va_nil))))))) vss_nil)
      (vss_cons (vs_set (i := 5) sc__law_one.nd rfl (.inl rfl) (fe_lst (va_cons ve_str (va_cons ve_str (va_cons ve_str (va_cons ve_str (va_cons ve_str (va_cons ve_str (va_cons ve_str (va_cons ve_str (va_cons ve_str (va_cons ve_str (va_cons ve_str (va_cons ve_str (va_cons ve_str (va_cons ve_str va_nil))))))))))))))))
      (vss_cons (vs_set (i := 6) sc__law_one.nd rfl (.inl rfl) (fe_ixN (i_ix rfl (hu_of hr)) (pv 5) (be_of (ve_call G__law_draw (hr.mono (by omega)) (by rfl) T.g__law_draw T.F__law_draw.kp T.b__law_draw (va_cons (ve_name (pv 0)) (va_cons ve_int va_nil)))) (fun _ _ => rfl)))
      (vss_one (vs_ret (ve_tup (va_cons ve_str (va_cons (ve_name (pv 6)) (va_cons (ve_name (pv 6)) va_nil))))))))))))) ?_
  rintro ds c Q ⟨rfl, q⟩
  refine ⟨5, rfl, Nat.zero_le _, dm (by decide), fun r hr => ?_⟩
  have hr : r < 5 := by omega
  refine seqI (fun E => E = ⟨[.v .tape, .v (.int r), .no, .no, .no, .no, .no], c⟩) ?_ ?_
  · intro N hN
    walk_at "wh"
    exact hN _ rfl
  rintro _ rfl
  refine seqI (fun E => ¬ r = 0 ∧ E = ⟨[.v .tape, .v (.int r), .no, .no, .no, .no, .no], c⟩) ?_ ?_
  · intro N hN
    walk_at "wh"
    refine bothD (fun e => ?_) (fun e => ?_)
    · walk_at "wh"
      refine ⟨rfl, fun x h1 h2 => ?_⟩
      walk_at "wh"
      refine ⟨by show 3 ≤ 1000; decide, ?_⟩
      have := q (.wd x) h1 h2
      unfold tokD at this
      rw [tx_wd] at this
      exact this
    · exact hN _ ⟨by omega, rfl⟩
  rintro _ ⟨r0, rfl⟩
  refine seqI (fun E => ¬ r = 1 ∧ E = ⟨[.v .tape, .v (.int r), .no, .no, .no, .no, .no], c⟩) ?_ ?_
  · intro N hN
    walk_at "wh"
    refine bothD (fun e => ?_) (fun e => ?_)
    · refine seqI (fun E => ∃ m : Nat, m ≤ 1000000 ∧ E = ⟨[.v .tape, .v (.int r), .no, .v (.int m), .no, .no, .no], c⟩) ?_ ?_
      · intro N2 hN2
        walk_at "wh"
        refine ⟨1000001, rfl, Nat.zero_le _, dm (by decide), fun r1 hr1 => ?_⟩
        refine ⟨12, rfl, Nat.zero_le _, dm (by decide), fun r2 hr2 => ?_⟩
        refine ⟨by show 3 ≤ 1000; decide, ?_⟩
        refine ⟨3, rfl, Nat.zero_le _, dm (by decide), fun r3 hr3 => ?_⟩
        obtain ⟨d, ed, md⟩ := pickD (l := [D.int r1, .int r2, .int 1000000]) (i := r3) (by simp; omega)
        refine withD_of ed ?_
        have : ∃ m : Nat, m ≤ 1000000 ∧ d = .int m := by
          simp only [List.mem_cons, List.not_mem_nil, or_false] at md
          rcases md with rfl | rfl | rfl
          · exact ⟨r1, by omega, rfl⟩
          · exact ⟨r2, by omega, rfl⟩
          · exact ⟨1000000, by omega, rfl⟩
        obtain ⟨m, hm, rfl⟩ := this
        exact hN2 _ ⟨m, hm, rfl⟩
      rintro _ ⟨m, hm, rfl⟩
      have nl : (Str.ofString (toString ((m : Nat) : Int))).length ≤ 7 := toString_length_le (by omega) (by decide) (by omega)
      have lg : ((m : Nat) : Int).natAbs.log2 < 1920 := by
        rw [Int.natAbs_natCast]
        by_cases z : m = 0
        · rw [z]; decide
        · have e : (10 : Nat) ^ 7 ≤ 2 ^ 50 := by decide +kernel
          have := (Nat.log2_lt z).mpr (show m < 2 ^ 50 by omega)
          omega
      refine seqI (fun E => E = ⟨[.v .tape, .v (.int r), .no, .v (.int m), .v (.str (Str.ofString (toString ((m : Nat) : Int)))), .no, .no], c⟩) ?_ ?_
      · intro N2 hN2
        walk_at "wh"
        refine ⟨lg, ?_⟩
        exact hN2 _ rfl
      rintro _ rfl
      refine seqI (fun E => ∃ y : Tx, (Tk.nu m y).ok ∧ E = ⟨[.v .tape, .v (.int r), .no, .v (.int m), .v (.str y), .no, .no], c⟩) ?_ ?_
      · intro N2 hN2
        walk_at "wh"
        refine ⟨by omega, ?_⟩
        walk_at "wh"
        refine bothD (fun z => ?_) (fun z => ?_)
        · have ln := cl_len (Str.ofString (toString ((m : Nat) : Int)))
          walk_at "wh"
          refine ⟨by omega, ?_⟩
          refine ⟨(8 : Int) - ((Str.ofString (toString ((m : Nat) : Int))).length : Nat), rfl, Nat.zero_le _, dm (by omega), fun k hk => ?_⟩
          have hk : k + (Str.ofString (toString ((m : Nat) : Int))).length ≤ 7 := by omega
          have rp : (repT "0" (Int.toNat (k : Nat))).length = k := by
            rw [cl_len, show ("0" : Tx) = ⟨#[48]⟩ from rfl, repT_one, List.length_replicate]
            rfl
          have rn : cl (repN "0" (k : Int)) = List.replicate k 48 := repN_one 48 k
          have rnl : (repN "0" (k : Int)).length = k := by rw [cl_len, rn, List.length_replicate]
          walk_at "wh"
          refine ⟨by omega, by omega, by decide, by decide, by omega, ?_⟩
          walk_at "wh"
          refine ⟨by omega, ?_⟩
          refine hN2 _ ⟨repN "0" (k : Int) ++ Str.ofString (toString ((m : Nat) : Int)), ⟨?_, fun d hd => ?_, by rw [len_app]; omega, ?_, by omega⟩, rfl⟩
          · rw [cl_app]
            exact fun h => num_ne m (List.append_eq_nil_iff.mp h).2
          · rw [cl_app, rn] at hd
            rcases List.mem_append.mp hd with h | h
            · rw [List.eq_of_mem_replicate h]
              decide
            · exact num_dig m d h
          · rw [cl_app, rn, zeros_val, num_val]
        · refine hN2 _ ⟨_, ⟨num_ne m, num_dig m, nl, by rw [num_val], by omega⟩, rfl⟩
      rintro _ ⟨y, oy, rfl⟩
      walk_at "wh"
      refine ⟨by show 3 ≤ 1000; decide, ?_⟩
      have := q (.nu m y) oy trivial
      unfold tokD at this
      rw [tx_nu] at this
      exact this
    · exact hN _ ⟨by omega, rfl⟩
  rintro _ ⟨r1, rfl⟩
  refine seqI (fun E => E = ⟨[.v .tape, .v (.int r), .no, .no, .no, .no, .no], c⟩) ?_ ?_
  · intro N hN
    walk_at "wh"
    refine bothD (fun e => ?_) (fun e => ?_)
    · walk_at "wh"
      refine ⟨rfl, fun x h1 h2 => ?_⟩
      have xl := cl_len x
      have rl : (Txt.replace x "'" "''").length = (quo (cl x)).length := by rw [cl_len, rep_quo]
      have ql := (quo_len (cl x)).2
      have l20 : x.length ≤ 20 := h1.1
      walk_at "wh"
      refine ⟨x, rfl, by show _ + _ * 2 ≤ _; omega, by show 1 + _ ≤ _; omega, ?_⟩
      walk_at "wh"
      refine ⟨by rw [len_app]; show 1 + _ + 1 ≤ _; omega, ?_⟩
      refine ⟨by show 3 ≤ 1000; decide, ?_⟩
      have := q (.st x) h1 h2
      have e2 : (Tk.st x).tx = "'" ++ Txt.replace x "'" "''" ++ "'" := cl_ext (by
        rw [cl_app, cl_app, rep_quo]
        rfl)
      unfold tokD at this
      rw [e2] at this
      exact this
    · exact hN _ rfl
  rintro _ rfl
  refine seqI (fun E => E = ⟨[.v .tape, .v (.int r), .no, .no, .no, .ol (symbs.map .str), .no], c⟩) ?_ ?_
  · intro N hN
    walk_at "wh"
    refine ⟨by show 14 ≤ 1000; decide, ?_⟩
    exact hN _ rfl
  rintro _ rfl
  walk_at "wh"
  refine ⟨14, rfl, Nat.zero_le _, dm (by decide), fun r2 hr2 => ?_⟩
  obtain ⟨d, ed, md⟩ := pickD (l := symbs.map D.str) (i := r2) (by show r2 < 14; omega)
  obtain ⟨x, hx, rfl⟩ := List.mem_map.mp md
  refine withD_of ed ?_
  walk_at "wh"
  refine ⟨by show 3 ≤ 1000; decide, ?_⟩
  have all : ∀ x ∈ symbs, tOk x := by
    have h2 : ∀ x ∈ symbs, ∀ c ∈ cl x, c < 1114112 := by decide
    exact fun x hx c hc => h2 x hx c hc
  have := q (.sy x) hx (all x hx)
  unfold tokD at this
  rw [tx_sy] at this
  exact this
end
end Va
set_option Elab.async false
set_option linter.all false
set_option maxRecDepth 100000
set_option maxHeartbeats 4000000
namespace Va
open PySem PySem.Spec PyProof.Rows L2 Ind RowK
local macro_rules | `(tactic| walk_at "cn") => `(tactic| first
  | assumption
  | omega
  | exact dm (by omega)
  | exact line (by simp)
  | exact line (by omega)
  | exact line (by simp only [len_app, len_one]; omega)
  | exact small_div (by omega) (by omega)
  | solve_by_elim
  | exact Or.inr ⟨by omega, by omega⟩
  | exact Or.inl ⟨by omega, by omega⟩
  | exact ⟨by omega, by omega⟩
  | decide)
local macro_rules | `(tactic| walk_at "st") => `(tactic| repeat (first
  | refine ⟨_, rfl, ?_⟩
  | refine ⟨_, _, rfl, rfl, ?_⟩
  | refine ⟨_, _, rfl, ?_⟩
  | refine .inl ⟨_, rfl, ?_⟩
  | refine And.intro rfl ?_
  | refine And.intro (by walk_at "cn") ?_))
local macro_rules | `(tactic| walk_at "fz") => `(tactic| repeat (first | exact Fz.refl | apply Fz.upd))
local macro_rules | `(tactic| walk_at "hl") => `(tactic| ((repeat rw [upd_ne (by assumption)]); assumption))
local macro_rules | `(tactic| walk_at "fy") => `(tactic| (intro b o n1 h; (repeat rw [upd_ne n1]); exact h))
local macro_rules | `(tactic| walk_at "wh") => `(tactic| (conv => whnf))
local macro_rules | `(tactic| walk_at "cv") => `(tactic| first
  | rfl
  | assumption
  | omega
  | exact dm (by omega)
  | exact small_div (by omega) (by omega)
  | (simp only [len_app, one_len, len_one, List.length_append, List.length_map, List.length_cons, List.length_nil]; omega)
  | exact Or.inr ⟨by omega, by omega⟩
  | exact Or.inl ⟨by omega, by omega⟩
  | exact ⟨by omega, by omega⟩
  | decide)
local macro_rules | `(tactic| walk_at "vv") => `(tactic| repeat (refine And.intro (by walk_at "cv") ?_))
local macro_rules | `(tactic| walk_at "sk") => `(tactic| repeat (first
  | refine wayT ?_
  | refine wayF ?_
  | refine skipT (by omega) ?_
  | refine skipF (by omega) ?_
  | refine skipT (by decide) ?_
  | refine skipF (by decide) ?_
  | refine ⟨_, (show tyNames _ = some _ from rfl), ?_⟩
  | refine And.intro (by walk_at "cv") ?_))
local macro_rules | `(tactic| walk_at "s0") => `(tactic| first
  | refine wayT ?_
  | refine wayF ?_
  | refine skipT (by omega) ?_
  | refine skipF (by omega) ?_
  | refine skipT (by decide) ?_
  | refine skipF (by decide) ?_
  | refine ⟨_, (show tyNames _ = some _ from rfl), ?_⟩
  | refine And.intro (by walk_at "cv") ?_)
local macro_rules | `(tactic| walk_at "s1") => `(tactic| try (walk_at "s0"; walk_at "wh"))
local macro_rules | `(tactic| walk_at "go") => `(tactic| (walk_at "wh"; repeat (walk_at "s0"; walk_at "wh")))
def mEnd : VM := fun ds c Q => ∃ (x chs : Tx) (p : Nat), ds = [.str x, .int p, .str chs] ∧ p ≤ (cl x).length ∧ (cl x).length ≤ 100000 ∧ Q (.int ((p + runL chs ((cl x).drop p) : Nat) : Int)) c
theorem atI_cl {x : Tx} {p c : Nat} (h : (cl x)[p]? = some c) : atI x.cps.toList (p : Int) = some c := atI_nat h
def mWordAt : VM := fun ds c Q => ∃ (x : Tx) (p : Nat) (y : Tx) (rest : List Nat), ds = [.str x, .int p] ∧ (Tk.wd y).ok ∧ (cl x).drop p = cl y ++ rest ∧ (Tk.wd y).stops rest ∧ (cl x).length ≤ 100000 ∧ Q (.tup [triD (.wd y) p, .int ((p + (cl y).length : Nat) : Int)]) c
def mNumAt : VM := fun ds c Q => ∃ (x : Tx) (p : Nat) (n : Int) (y : Tx) (rest : List Nat), ds = [.str x, .int p] ∧ (Tk.nu n y).ok ∧ (cl x).drop p = cl y ++ rest ∧ (Tk.nu n y).stops rest ∧ (cl x).length ≤ 100000 ∧ Q (.tup [triD (.nu n y) p, .int ((p + (cl y).length : Nat) : Int)]) c
theorem drop_le {l a : List Nat} {p : Nat} (h : l.drop p = a) (h0 : a ≠ []) : p + a.length = l.length := by
  refine drop_len h ?_
  by_cases z : p ≤ l.length
  · exact z
  · rw [List.drop_eq_nil_of_le (by omega)] at h
    exact absurd h.symm h0
theorem cut_here {x y : Tx} {p : Nat} {rest : List Nat} (h : (cl x).drop p = cl y ++ rest) : cutS x (some (p : Int)) (some ((p + (cl y).length : Nat) : Int)) = y := by
  refine cl_ext ?_
  rw [cl_cut, h, Nat.add_sub_cancel_left, List.take_left]
section
variable {P : Program} {w : World} {K : PySem.W.Frag} {mg : PySem.Str → Option Value} {base : Heap}
theorem ok__end_of_run (T : Txt P w K mg) : FnOk P w K mg base CX0 1 T.a__end_of_run T.d__end_of_run ["text", "place", "characters"] (spV (Sx T) mEnd) := by
  refine def_v (S := Sx T) (N := N__end_of_run) T.F__end_of_run sc__end_of_run rfl (fun ds c Q h => by obtain ⟨x, chs, p, rfl, _⟩ := h; first | rfl | assumption) (fun cdv A outer s H E hr => (vss_cons (vs_while PassesOwn.never (vb_w (vw_and (vb_cmp o_lt (ve_name (pv 1)) (be_of (ve_of (pe_CB1 (c_len rfl) (fun hc ha => pe_callB hc (by rfl) T.z_len boot_len ha) (be_name (pv 0))))) (nomark _)) (vw_and1 (vb_cmp (o_in rfl (hu65 hr)) (ve_of (fe_ixN (i_ix rfl (hu_of hr)) (pv 0) (be_name (pv 1)) (fun _ _ => rfl))) (be_name (pv 2)) (by rfl)))))
      (vss_one (vs_set (i := 1) sc__end_of_run.nd rfl (.inl rfl) (fe_op (o_add rfl) (ve_name (pv 1)) (be_of ve_int)))))
      (vss_one (vs_ret (ve_name (pv 1)))))) ?_
  rintro ds c Q ⟨x, chs, p, rfl, hp, hl, g⟩
  have xl := cl_len x
  walk_at "wh"
  refine ⟨fun m E => Iv (∃ p' : Nat, E = ⟨[.v (.str x), .v (.int (p' : Nat)), .v (.str chs)], c⟩ ∧ p' ≤ (cl x).length ∧ p' + runL chs ((cl x).drop p') = p + runL chs ((cl x).drop p) ∧ m = (cl x).length - p'), ⟨_, .a ⟨p, rfl, hp, rfl, rfl⟩⟩, ?_⟩
  intro m E iv
  obtain ⟨p', rfl, h1, h2, rfl⟩ := iv.out
  walk_at "wh"
  refine ⟨by omega, ?_⟩
  walk_at "wh"
  refine bothD (fun e => ?_) (fun e => ?_)
  · have hlt : p' < (cl x).length := by omega
    have ed := List.drop_eq_getElem_cons hlt
    have eg : (cl x)[p']? = some (cl x)[p'] := List.getElem?_eq_getElem hlt
    generalize (cl x)[p'] = c0 at ed eg
    walk_at "wh"
    refine ⟨by omega, c0, atI_cl eg, ?_⟩
    walk_at "wh"
    refine ⟨c0, rfl, ?_⟩
    walk_at "wh"
    refine bothD (fun e2 => ?_) (fun e2 => ?_)
    · have e2 : c0 ∈ cl chs := e2
      walk_at "wh"
      refine ⟨(cl x).length - (p' + 1), by omega, .a ⟨p' + 1, rfl, by omega, ?_, rfl⟩⟩
      rw [← h2, ed]
      unfold runL
      rw [List.takeWhile_cons_of_pos (by simpa using e2), List.length_cons]
      omega
    · have e2 : c0 ∉ cl chs := e2
      walk_at "wh"
      have e3 : runL chs ((cl x).drop p') = 0 := by
        rw [ed]
        unfold runL
        rw [List.takeWhile_cons_of_neg (by simpa using e2)]
        rfl
      rw [e3] at h2
      rw [← h2] at g
      exact g
  · have e3 : runL chs ((cl x).drop p') = 0 := by
      rw [List.drop_eq_nil_of_le (by omega)]
      rfl
    rw [e3] at h2
    rw [← h2] at g
    refine wayF ?_
    walk_at "wh"
    exact g
theorem ok__word_at (T : Txt P w K mg) : FnOk P w K mg base CX0 2 T.a__word_at T.d__word_at ["text", "place"] (spV (Sx T) mWordAt) := by
  have G__end_of_run := ok__end_of_run (P := P) (w := w) (base := base) T
  refine def_v (S := Sx T) (N := N__word_at) T.F__word_at sc__word_at rfl (fun ds c Q h => by obtain ⟨x, p, y, rest, rfl, _⟩ := h; first | rfl | assumption) (fun cdv A outer s H E hr => (vss_cons (vs_set (i := 2) sc__word_at.nd rfl (.inl rfl) (fe_of (ve_call G__end_of_run hr (by rfl) T.g__end_of_run T.F__end_of_run.kp T.b__end_of_run (va_cons (ve_name (pv 0)) (va_cons (ve_name (pv 1)) (va_cons (ve_c (pe_glob (v := .str "abcdefghijklmnopqrstuvwxyz_0123456789") (by rfl) T.c_WORD_CHARACTERS ⟨_, rfl⟩) (fun _ _ => .str _)) va_nil))))))
      (vss_cons (vs_if (vb_cmp o_gt (ve_of (fe_op o_sub (ve_name (pv 2)) (be_name (pv 1)))) (be_of (ve_c (pe_glob (v := .int 16) (by rfl) T.c_LONGEST_WORD ⟨_, rfl⟩) (fun _ _ => .int _))) (nomark _)) (vss_one vs_never) vss_nil)
      (vss_one (vs_ret (ve_tup (va_cons (ve_tup (va_cons ve_str (va_cons (ve_of (fe_slice rfl (ve_name (pv 0)) (vo_some (ve_name (pv 1))) (vo_some (ve_name (pv 2))))) (va_cons (ve_name (pv 1)) va_nil)))) (va_cons (ve_name (pv 2)) va_nil)))))))) ?_
  rintro ds c Q ⟨x, p, y, rest, rfl, ⟨⟨c0, r0, e0, h0⟩, hw, h16⟩, hd, hs, hl, g⟩
  have xl := cl_len x
  have yl := cl_len y
  have tot := drop_le hd (by rw [e0]; simp)
  rw [List.length_append] at tot
  have rn : runL chWrd ((cl x).drop p) = (cl y).length := by rw [hd]; exact run_eq hw hs
  walk_at "wh"
  refine ⟨x, chWrd, p, rfl, by omega, hl, ?_⟩
  rw [rn]
  walk_at "wh"
  refine bothD (fun e => ?_) (fun _ => ?_)
  · omega
  walk_at "wh"
  refine ⟨by omega, ?_⟩
  rw [cut_here hd]
  refine ⟨by show 3 ≤ 1000; decide, ?_⟩
  refine ⟨by show 2 ≤ 1000; decide, ?_⟩
  exact g
theorem ok__number_at (T : Txt P w K mg) : FnOk P w K mg base CX0 2 T.a__number_at T.d__number_at ["text", "place"] (spV (Sx T) mNumAt) := by
  have G__end_of_run := ok__end_of_run (P := P) (w := w) (base := base) T
  refine def_v (S := Sx T) (N := N__number_at) T.F__number_at sc__number_at rfl (fun ds c Q h => by obtain ⟨x, p, n, y, rest, rfl, _⟩ := h; first | rfl | assumption) (fun cdv A outer s H E hr => (vss_cons (vs_set (i := 2) sc__number_at.nd rfl (.inl rfl) (fe_of (ve_call G__end_of_run hr (by rfl) T.g__end_of_run T.F__end_of_run.kp T.b__end_of_run (va_cons (ve_name (pv 0)) (va_cons (ve_name (pv 1)) (va_cons (ve_c (pe_glob (v := .str "0123456789") (by rfl) T.c_DIGITS ⟨_, rfl⟩) (fun _ _ => .str _)) va_nil))))))
      (vss_cons (vs_if (vb_cmp o_gt (ve_of (fe_op o_sub (ve_name (pv 2)) (be_name (pv 1)))) (be_of (ve_c (pe_glob (v := .int 7) (by rfl) T.c_MOST_DIGITS ⟨_, rfl⟩) (fun _ _ => .int _))) (nomark _)) (vss_one vs_never) vss_nil)
      (vss_cons (vs_set (i := 3) sc__number_at.nd rfl (.inl rfl) (pe_CB1 c_intT (fun hc ha => pe_callTy hc (by rfl) T.z_int boot_int ha) (be_of (ve_of (fe_slice rfl (ve_name (pv 0)) (vo_some (ve_name (pv 1))) (vo_some (ve_name (pv 2))))))))
      (vss_cons (vs_if (vb_cmp o_gt (ve_name (pv 3)) (be_of (ve_c (pe_glob (v := .int 1000000) (by rfl) T.c_LARGEST_NUMBER ⟨_, rfl⟩) (fun _ _ => .int _))) (nomark _)) (vss_one vs_never) vss_nil)
      (vss_one (vs_ret (ve_tup (va_cons (ve_tup (va_cons ve_str (va_cons (ve_name (pv 3)) (va_cons (ve_name (pv 1)) va_nil)))) (va_cons (ve_name (pv 2)) va_nil)))))))))) ?_
  rintro ds c Q ⟨x, p, n, y, rest, rfl, ⟨ne, hw, h7, hn, hm⟩, hd, hs, hl, g⟩
  have xl := cl_len x
  have yl := cl_len y
  have tot := drop_le hd (by cases e : cl y with | nil => exact absurd e ne | cons c r => simp)
  rw [List.length_append] at tot
  have rn : runL chDig ((cl x).drop p) = (cl y).length := by rw [hd]; exact run_eq hw hs
  walk_at "wh"
  refine ⟨x, chDig, p, rfl, by omega, hl, ?_⟩
  rw [rn]
  walk_at "wh"
  refine bothD (fun e => ?_) (fun _ => ?_)
  · omega
  walk_at "wh"
  refine ⟨by omega, ?_⟩
  rw [cut_here hd]
  have dg : PySem.NumText.AllDigits y.cps.toList := fun d h => by
    have all : ∀ d ∈ cl chDig, 48 ≤ d ∧ d ≤ 57 := by decide
    exact all d (hw d h)
  refine ⟨n, ?_, by omega, ?_⟩
  · rw [hn]
    exact _root_.PySem.intText_digits dg ne (by omega)
  walk_at "wh"
  refine bothD (fun e => ?_) (fun _ => ?_)
  · omega
  walk_at "wh"
  refine ⟨by show 3 ≤ 1000; decide, ?_⟩
  refine ⟨by show 2 ≤ 1000; decide, ?_⟩
  exact g
end
end Va
set_option Elab.async false
set_option linter.all false
set_option maxRecDepth 100000
set_option maxHeartbeats 4000000
namespace Va
open PySem PySem.Spec PyProof.Rows L2 Ind RowK
local macro_rules | `(tactic| walk_at "cn") => `(tactic| first
  | assumption
  | omega
  | exact dm (by omega)
  | exact line (by simp)
  | exact line (by omega)
  | exact line (by simp only [len_app, len_one]; omega)
  | exact small_div (by omega) (by omega)
  | solve_by_elim
  | exact Or.inr ⟨by omega, by omega⟩
  | exact Or.inl ⟨by omega, by omega⟩
  | exact ⟨by omega, by omega⟩
  | decide)
local macro_rules | `(tactic| walk_at "st") => `(tactic| repeat (first
  | refine ⟨_, rfl, ?_⟩
  | refine ⟨_, _, rfl, rfl, ?_⟩
  | refine ⟨_, _, rfl, ?_⟩
  | refine .inl ⟨_, rfl, ?_⟩
  | refine And.intro rfl ?_
  | refine And.intro (by walk_at "cn") ?_))
local macro_rules | `(tactic| walk_at "fz") => `(tactic| repeat (first | exact Fz.refl | apply Fz.upd))
local macro_rules | `(tactic| walk_at "hl") => `(tactic| ((repeat rw [upd_ne (by assumption)]); assumption))
local macro_rules | `(tactic| walk_at "fy") => `(tactic| (intro b o n1 h; (repeat rw [upd_ne n1]); exact h))
local macro_rules | `(tactic| walk_at "wh") => `(tactic| (conv => whnf))
local macro_rules | `(tactic| walk_at "cv") => `(tactic| first
  | rfl
  | assumption
  | omega
  | exact dm (by omega)
  | exact small_div (by omega) (by omega)
  | (simp only [len_app, one_len, len_one, List.length_append, List.length_map, List.length_cons, List.length_nil]; omega)
  | exact Or.inr ⟨by omega, by omega⟩
  | exact Or.inl ⟨by omega, by omega⟩
  | exact ⟨by omega, by omega⟩
  | decide)
local macro_rules | `(tactic| walk_at "vv") => `(tactic| repeat (refine And.intro (by walk_at "cv") ?_))
local macro_rules | `(tactic| walk_at "sk") => `(tactic| repeat (first
  | refine wayT ?_
  | refine wayF ?_
  | refine skipT (by omega) ?_
  | refine skipF (by omega) ?_
  | refine skipT (by decide) ?_
  | refine skipF (by decide) ?_
  | refine ⟨_, (show tyNames _ = some _ from rfl), ?_⟩
  | refine And.intro (by walk_at "cv") ?_))
local macro_rules | `(tactic| walk_at "s0") => `(tactic| first
  | refine wayT ?_
  | refine wayF ?_
  | refine skipT (by omega) ?_
  | refine skipF (by omega) ?_
  | refine skipT (by decide) ?_
  | refine skipF (by decide) ?_
  | refine ⟨_, (show tyNames _ = some _ from rfl), ?_⟩
  | refine And.intro (by walk_at "cv") ?_)
local macro_rules | `(tactic| walk_at "s1") => `(tactic| try (walk_at "s0"; walk_at "wh"))
local macro_rules | `(tactic| walk_at "go") => `(tactic| (walk_at "wh"; repeat (walk_at "s0"; walk_at "wh")))
def mStrAt : VM := fun ds c Q => ∃ (x : Tx) (p : Nat) (y : Tx) (rest : List Nat), ds = [.str x, .int p] ∧ (Tk.st y).ok ∧ (cl x).drop p = (Tk.st y).cl ++ rest ∧ (Tk.st y).stops rest ∧ (cl x).length ≤ 100000 ∧ Q (.tup [triD (.st y) p, .int ((p + (Tk.st y).cl.length : Nat) : Int)]) c
theorem cutA1 (x : Tx) (a : Nat) : cl (cutS x (some (a : Int)) (some ((a : Int) + 1))) = ((cl x).drop a).take 1 := by
  have := cl_cut x a (a + 1)
  rw [Nat.add_sub_cancel_left] at this
  exact this
theorem cutA2 (x : Tx) (a : Nat) : cl (cutS x (some (a : Int)) (some ((a : Int) + 2))) = ((cl x).drop a).take 2 := by
  have := cl_cut x a (a + 2)
  rw [Nat.add_sub_cancel_left] at this
  exact this
theorem one_eq {c d : Nat} (h : (⟨#[c]⟩ : Tx) = ⟨#[d]⟩) : c = d := by
  have := congrArg cl h
  have this : [c] = [d] := this
  injection this
section
variable {P : Program} {w : World} {K : PySem.W.Frag} {mg : PySem.Str → Option Value} {base : Heap}
theorem ok__string_at (T : Txt P w K mg) : FnOk P w K mg base CX0 1 T.a__string_at T.d__string_at ["text", "place"] (spV (Sx T) mStrAt) := by
  refine def_v (S := Sx T) (N := N__string_at) T.F__string_at sc__string_at rfl (fun ds c Q h => by obtain ⟨x, p, y, rest, rfl, _⟩ := h; first | rfl | assumption) (fun cdv A outer s H E hr => (vss_cons (vs_set (i := 2) sc__string_at.nd rfl (.inl rfl) (fe_lst va_nil))
      (vss_cons (vs_set (i := 3) sc__string_at.nd rfl (.inl rfl) (fe_op (o_add rfl) (ve_name (pv 1)) (be_of ve_int)))
      (vss_cons (vs_while PassesOwn.never (vb_w (vw_or (vb_cmp (o_ne rfl hr.units) (ve_of (fe_slice rfl (ve_name (pv 0)) (vo_some (ve_name (pv 3))) (vo_some (ve_of (fe_op (o_add rfl) (ve_name (pv 3)) (be_of ve_int)))))) (be_of ve_str) (nomark _)) (vw_or1 (vb_cmp (o_eq rfl hr.units) (ve_of (fe_slice rfl (ve_name (pv 0)) (vo_some (ve_name (pv 3))) (vo_some (ve_of (fe_op (o_add rfl) (ve_name (pv 3)) (be_of ve_int)))))) (be_of ve_str) (nomark _)))))
      (vss_cons (vs_if (vb_cmp o_ge (ve_name (pv 3)) (be_of (ve_of (pe_CB1 (c_len rfl) (fun hc ha => pe_callB hc (by rfl) T.z_len boot_len ha) (be_name (pv 0))))) (nomark _)) (vss_one vs_never) vss_nil)
      (vss_cons (vs_if (vb_cmp (o_eq rfl hr.units) (ve_of (fe_ixN (i_ix rfl (hu_of hr)) (pv 0) (be_name (pv 3)) (fun _ _ => rfl))) (be_of ve_str) (nomark _)) (vss_one vs_never) vss_nil)
      (vss_cons (vs_append rfl (pv 2) (ve_of (fe_ixN (i_ix rfl (hu_of hr)) (pv 0) (be_name (pv 3)) (fun _ _ => rfl))))
      (vss_one (vs_if (vb_cmp (o_eq rfl hr.units) (ve_of (fe_ixN (i_ix rfl (hu_of hr)) (pv 0) (be_name (pv 3)) (fun _ _ => rfl))) (be_of ve_str) (nomark _)) (vss_one (vs_set (i := 3) sc__string_at.nd rfl (.inl rfl) (fe_op (o_add rfl) (ve_name (pv 3)) (be_of ve_int)))) (vss_one (vs_set (i := 3) sc__string_at.nd rfl (.inl rfl) (fe_op (o_add rfl) (ve_name (pv 3)) (be_of ve_int))))))))))
      (vss_cons (vs_if (vb_cmp o_gt (ve_of (pe_CB1 (c_len rfl) (fun hc ha => pe_callB hc (by rfl) T.z_len boot_len ha) (be_name (pv 2)))) (be_of (ve_c (pe_glob (v := .int 20) (by rfl) T.c_LONGEST_STRING ⟨_, rfl⟩) (fun _ _ => .int _))) (nomark _)) (vss_one vs_never) vss_nil)
      (vss_one (vs_ret (ve_tup (va_cons (ve_tup (va_cons ve_str (va_cons (ve_of (fe_joi ve_str (va_cons (ve_name (pv 2)) va_nil) rfl)) (va_cons (ve_name (pv 1)) va_nil)))) (va_cons (ve_of (fe_op (o_add rfl) (ve_name (pv 3)) (be_of ve_int))) va_nil)))))))))) ?_
  rintro ds c Q ⟨x, p, y, rest, rfl, ⟨h20, hn⟩, hd, hs, hl, g⟩
  have xl := cl_len x
  have yl := cl_len y
  have tot := drop_le hd (by simp [Tk.cl])
  have tcl : (Tk.st y).cl.length = (quo (cl y)).length + 2 := by simp [Tk.cl]
  rw [List.length_append, tcl] at tot
  have dr : ∀ cs1 cs2, cl y = cs1 ++ cs2 → (cl x).drop (p + 1 + (quo cs1).length) = quo cs2 ++ 39 :: rest := fun cs1 cs2 e => by
    have h1 : (cl x).drop (p + ([39] ++ quo cs1).length) = quo cs2 ++ 39 :: rest := drop_more (by
      rw [hd]
      show 39 :: (quo (cl y) ++ [39]) ++ rest = _
      rw [e, quo_app]
      simp [List.append_assoc])
    rw [← h1]
    congr 1
    simp
    omega
  refine seqI (fun E => E = ⟨[.v (.str x), .v (.int p), .ol [], .no], c⟩) ?_ ?_
  · intro N hN
    walk_at "wh"
    refine ⟨by show 0 ≤ 1000; decide, ?_⟩
    exact hN _ rfl
  rintro _ rfl
  refine seqI (fun E => E = ⟨[.v (.str x), .v (.int p), .ol [], .v (.int ((p + 1 : Nat) : Int))], c⟩) ?_ ?_
  · intro N hN
    walk_at "wh"
    exact hN _ rfl
  rintro _ rfl
  refine seqI (fun E => E = ⟨[.v (.str x), .v (.int p), .ol ((cl y).map one), .v (.int ((p + 1 + (quo (cl y)).length : Nat) : Int))], c⟩) ?_ ?_
  · intro N hN
    walk_at "wh"
    refine ⟨fun m E => Iv (∃ cs1 cs2, cl y = cs1 ++ cs2 ∧ E = ⟨[.v (.str x), .v (.int p), .ol (cs1.map one), .v (.int ((p + 1 + (quo cs1).length : Nat) : Int))], c⟩ ∧ m = cs2.length), ⟨_, .a ⟨[], cl y, rfl, rfl, rfl⟩⟩, ?_⟩
    intro m E iv
    obtain ⟨cs1, cs2, e, rfl, rfl⟩ := iv.out
    have d0 := dr cs1 cs2 e
    have ylen : (cl y).length = cs1.length + cs2.length := by rw [e, List.length_append]
    have qlen : (quo (cl y)).length = (quo cs1).length + (quo cs2).length := by rw [e, quo_app, List.length_append]
    have ql := quo_len (cl y)
    walk_at "wh"
    refine ⟨by omega, ?_⟩
    walk_at "wh"
    refine both (fun z1 => ?_) (fun z1 => ?_)
    · cases cs2 with
      | nil =>
        have z1 : (!decide (cutS x (some ((p + 1 + (quo cs1).length : Nat) : Int)) (some (((p + 1 + (quo cs1).length : Nat) : Int) + 1)) = "'")) = true := z1
        rw [decide_eq_true (cl_ext (by rw [cutA1, d0]; rfl))] at z1
        cases z1
      | cons c0 cs2 =>
        have hc0 : c0 ∈ cl y := by rw [e]; simp
        have eg : (cl x)[p + 1 + (quo cs1).length]? = some c0 := by
          by_cases z : c0 = 39
          · exact (drop_at (r := 39 :: (quo cs2 ++ 39 :: rest)) (by rw [d0, quo_cons, if_pos z, z]; rfl)).1
          · exact (drop_at (r := quo cs2 ++ 39 :: rest) (by rw [d0, quo_cons, if_neg z]; rfl)).1
        have hlt : p + 1 + (quo cs1).length < (cl x).length := (List.getElem?_eq_some_iff.mp eg).1
        rw [List.length_cons] at ylen
        refine wayT ?_
        walk_at "wh"
        refine ⟨by omega, ?_⟩
        walk_at "wh"
        refine bothD (fun z => by omega) (fun _ => ?_)
        walk_at "wh"
        refine ⟨by omega, c0, atI_cl eg, ?_⟩
        walk_at "wh"
        refine bothD (fun z => absurd (one_eq z) (hn c0 hc0)) (fun _ => ?_)
        walk_at "wh"
        refine ⟨by omega, c0, atI_cl eg, ?_⟩
        refine ⟨by rw [List.length_map]; omega, ?_⟩
        walk_at "wh"
        refine ⟨by omega, c0, atI_cl eg, ?_⟩
        walk_at "wh"
        refine bothD (fun z => ?_) (fun z => ?_)
        · have z : c0 = 39 := one_eq z
          walk_at "wh"
          refine ⟨cs2.length, Nat.lt_succ_self _, .a ⟨cs1 ++ [c0], cs2, by rw [e, List.append_assoc]; rfl, ?_, rfl⟩⟩
          rw [List.map_append, quo_app, List.length_append, show (quo [c0]).length = 2 by rw [z]; rfl, ← Nat.add_assoc]
          rfl
        · have z : ¬ c0 = 39 := fun h => z (by rw [h]; rfl)
          walk_at "wh"
          refine ⟨cs2.length, Nat.lt_succ_self _, .a ⟨cs1 ++ [c0], cs2, by rw [e, List.append_assoc]; rfl, ?_, rfl⟩⟩
          rw [List.map_append, quo_app, List.length_append, show (quo [c0]).length = 1 by rw [quo_cons, if_neg z]; rfl, ← Nat.add_assoc]
          rfl
    · walk_at "wh"
      refine ⟨by omega, ?_⟩
      walk_at "wh"
      refine bothD (fun z2 => ?_) (fun z2 => ?_)
      · cases cs2 with
        | nil =>
          have z3 := congrArg cl z2
          rw [cutA2, d0] at z3
          have z3 : (39 :: rest).take 2 = [39, 39] := z3
          cases rest with
          | nil => cases z3
          | cons r0 rest =>
            have z4 : [39, r0] = [39, 39] := z3
            injection z4 with _ z4
            injection z4 with z4
            exact absurd z4 (hs r0 rest rfl)
        | cons c0 cs2 =>
          have hc0 : c0 ∈ cl y := by rw [e]; simp
          have eg : (cl x)[p + 1 + (quo cs1).length]? = some c0 := by
            by_cases z : c0 = 39
            · exact (drop_at (r := 39 :: (quo cs2 ++ 39 :: rest)) (by rw [d0, quo_cons, if_pos z, z]; rfl)).1
            · exact (drop_at (r := quo cs2 ++ 39 :: rest) (by rw [d0, quo_cons, if_neg z]; rfl)).1
          have hlt : p + 1 + (quo cs1).length < (cl x).length := (List.getElem?_eq_some_iff.mp eg).1
          rw [List.length_cons] at ylen
          walk_at "wh"
          refine ⟨by omega, ?_⟩
          walk_at "wh"
          refine bothD (fun z => by omega) (fun _ => ?_)
          walk_at "wh"
          refine ⟨by omega, c0, atI_cl eg, ?_⟩
          walk_at "wh"
          refine bothD (fun z => absurd (one_eq z) (hn c0 hc0)) (fun _ => ?_)
          walk_at "wh"
          refine ⟨by omega, c0, atI_cl eg, ?_⟩
          refine ⟨by rw [List.length_map]; omega, ?_⟩
          walk_at "wh"
          refine ⟨by omega, c0, atI_cl eg, ?_⟩
          walk_at "wh"
          refine bothD (fun z => ?_) (fun z => ?_)
          · have z : c0 = 39 := one_eq z
            walk_at "wh"
            refine ⟨cs2.length, Nat.lt_succ_self _, .a ⟨cs1 ++ [c0], cs2, by rw [e, List.append_assoc]; rfl, ?_, rfl⟩⟩
            rw [List.map_append, quo_app, List.length_append, show (quo [c0]).length = 2 by rw [z]; rfl, ← Nat.add_assoc]
            rfl
          · have z : ¬ c0 = 39 := fun h => z (by rw [h]; rfl)
            walk_at "wh"
            refine ⟨cs2.length, Nat.lt_succ_self _, .a ⟨cs1 ++ [c0], cs2, by rw [e, List.append_assoc]; rfl, ?_, rfl⟩⟩
            rw [List.map_append, quo_app, List.length_append, show (quo [c0]).length = 1 by rw [quo_cons, if_neg z]; rfl, ← Nat.add_assoc]
            rfl
      · cases cs2 with
        | nil =>
          rw [List.append_nil] at e
          refine hN _ ?_
          rw [e]
        | cons c0 cs2 =>
          have z1 : (!decide (cutS x (some ((p + 1 + (quo cs1).length : Nat) : Int)) (some (((p + 1 + (quo cs1).length : Nat) : Int) + 1)) = "'")) = false := z1
          have z1 : cutS x (some ((p + 1 + (quo cs1).length : Nat) : Int)) (some (((p + 1 + (quo cs1).length : Nat) : Int) + 1)) = "'" := by simpa using z1
          have z3 := congrArg cl z1
          rw [cutA1, d0, quo_cons] at z3
          by_cases z : c0 = 39
          · refine absurd (cl_ext ?_) z2
            rw [cutA2, d0, quo_cons, if_pos z]
            rfl
          · rw [if_neg z] at z3
            have z3 : [c0] = [39] := z3
            injection z3 with z3
            exact absurd z3 z
  rintro _ rfl
  have jn : Txt.join ("" : Tx) ((cl y).map fun c => (⟨#[c]⟩ : Tx)) = y := by
    rw [TL.join_eq]
    refine cl_ext ?_
    show TL.tl _ = _
    rw [TL.tl_join, List.map_map]
    show TL.joinL [] ((cl y).map fun c => [c]) = cl y
    generalize cl y = l
    induction l with
    | nil => rfl
    | cons d l ih =>
      cases l with
      | nil => rfl
      | cons d2 l =>
        show [d] ++ ([] ++ TL.joinL [] ((d2 :: l).map fun c => [c])) = _
        rw [ih]
        rfl
  have js : (((cl y).map fun c => (⟨#[c]⟩ : Tx)).map fun z => z.length).sum = (cl y).length := by
    generalize cl y = l
    induction l with
    | nil => rfl
    | cons d l ih =>
      rw [List.map_cons, List.map_cons, List.sum_cons, ih]
      show 1 + _ = _ + 1
      omega
  walk_at "wh"
  refine bothD (fun z => ?_) (fun _ => ?_)
  · have z : (20 : Int) < (((cl y).map one).length : Nat) := z
    rw [List.length_map] at z
    omega
  walk_at "wh"
  refine ⟨⟨_, rfl⟩, "", (cl y).map fun c => (⟨#[c]⟩ : Tx), rfl, by rw [List.map_map]; rfl, ?_, ?_⟩
  · rw [js, List.length_map]
    show _ + _ * 0 ≤ _
    omega
  rw [jn]
  walk_at "wh"
  refine ⟨by show 3 ≤ 1000; decide, ?_⟩
  walk_at "wh"
  refine ⟨by show 2 ≤ 1000; decide, ?_⟩
  rw [tcl, show p + ((quo (cl y)).length + 2) = p + 1 + (quo (cl y)).length + 1 by omega] at g
  exact g
end
end Va
set_option Elab.async false
set_option linter.all false
set_option maxRecDepth 100000
set_option maxHeartbeats 4000000
namespace Va
open PySem PySem.Spec PyProof.Rows L2 Ind RowK
local macro_rules | `(tactic| walk_at "cn") => `(tactic| first
  | assumption
  | omega
  | exact dm (by omega)
  | exact line (by simp)
  | exact line (by omega)
  | exact line (by simp only [len_app, len_one]; omega)
  | exact small_div (by omega) (by omega)
  | solve_by_elim
  | exact Or.inr ⟨by omega, by omega⟩
  | exact Or.inl ⟨by omega, by omega⟩
  | exact ⟨by omega, by omega⟩
  | decide)
local macro_rules | `(tactic| walk_at "st") => `(tactic| repeat (first
  | refine ⟨_, rfl, ?_⟩
  | refine ⟨_, _, rfl, rfl, ?_⟩
  | refine ⟨_, _, rfl, ?_⟩
  | refine .inl ⟨_, rfl, ?_⟩
  | refine And.intro rfl ?_
  | refine And.intro (by walk_at "cn") ?_))
local macro_rules | `(tactic| walk_at "fz") => `(tactic| repeat (first | exact Fz.refl | apply Fz.upd))
local macro_rules | `(tactic| walk_at "hl") => `(tactic| ((repeat rw [upd_ne (by assumption)]); assumption))
local macro_rules | `(tactic| walk_at "fy") => `(tactic| (intro b o n1 h; (repeat rw [upd_ne n1]); exact h))
local macro_rules | `(tactic| walk_at "wh") => `(tactic| (conv => whnf))
local macro_rules | `(tactic| walk_at "cv") => `(tactic| first
  | rfl
  | assumption
  | omega
  | exact dm (by omega)
  | exact small_div (by omega) (by omega)
  | (simp only [len_app, one_len, len_one, List.length_append, List.length_map, List.length_cons, List.length_nil]; omega)
  | exact Or.inr ⟨by omega, by omega⟩
  | exact Or.inl ⟨by omega, by omega⟩
  | exact ⟨by omega, by omega⟩
  | decide)
local macro_rules | `(tactic| walk_at "vv") => `(tactic| repeat (refine And.intro (by walk_at "cv") ?_))
local macro_rules | `(tactic| walk_at "sk") => `(tactic| repeat (first
  | refine wayT ?_
  | refine wayF ?_
  | refine skipT (by omega) ?_
  | refine skipF (by omega) ?_
  | refine skipT (by decide) ?_
  | refine skipF (by decide) ?_
  | refine ⟨_, (show tyNames _ = some _ from rfl), ?_⟩
  | refine And.intro (by walk_at "cv") ?_))
local macro_rules | `(tactic| walk_at "s0") => `(tactic| first
  | refine wayT ?_
  | refine wayF ?_
  | refine skipT (by omega) ?_
  | refine skipF (by omega) ?_
  | refine skipT (by decide) ?_
  | refine skipF (by decide) ?_
  | refine ⟨_, (show tyNames _ = some _ from rfl), ?_⟩
  | refine And.intro (by walk_at "cv") ?_)
local macro_rules | `(tactic| walk_at "s1") => `(tactic| try (walk_at "s0"; walk_at "wh"))
local macro_rules | `(tactic| walk_at "go") => `(tactic| (walk_at "wh"; repeat (walk_at "s0"; walk_at "wh")))
def mTokAt : VM := fun ds c Q => ∃ (x : Tx) (p : Nat) (t : Tk) (rest : List Nat), ds = [.str x, .int p] ∧ t.ok ∧ (cl x).drop p = t.cl ++ rest ∧ t.stops rest ∧ (cl x).length ≤ 100000 ∧ Q (.tup [triD t p, .int ((p + t.cl.length : Nat) : Int)]) c
def mTokens : VM := fun ds c Q => ∃ (x : Tx) (qs : List Pc) (e : List Nat), ds = [.str x] ∧ cl x = rendr qs ++ e ∧ okP qs ∧ blank e ∧ (cl x).length ≤ 100000 ∧ Q (.tup (trip 0 qs)) c
theorem sym_pairs : symbs.Pairwise fun s y => (cl s).headD 0 ≠ (cl y).headD 0 ∨ ((y = "<" ∨ y = ">") ∧ cl s = cl y ++ [61]) := by decide
theorem sym_len : ∀ s ∈ symbs, cl s ≠ [] ∧ (cl s).length ≤ 2 := by decide
theorem sym_first {y s : Tx} {rest : List Nat} {i k : Nat} (hi : symbs[i]? = some s) (hk : symbs[k]? = some y) (lt : i < k) (st : (Tk.sy y).stops rest) : ¬ (cl y ++ rest).take (cl s).length = cl s := by
  intro h
  have hs := List.mem_of_getElem? hi
  have hy := List.mem_of_getElem? hk
  obtain ⟨hil, rfl⟩ := List.getElem?_eq_some_iff.mp hi
  obtain ⟨hkl, rfl⟩ := List.getElem?_eq_some_iff.mp hk
  have pr := (List.pairwise_iff_getElem.mp sym_pairs) i k hil hkl lt
  obtain ⟨a, r, ea⟩ := List.exists_cons_of_ne_nil (sym_len _ hs).1
  obtain ⟨b, q, eb⟩ := List.exists_cons_of_ne_nil (sym_len _ hy).1
  rcases pr with pr | ⟨p1, p2⟩
  · rw [ea, eb] at pr h
    have h : b :: (q ++ rest).take r.length = a :: r := h
    injection h with h
    exact pr h.symm
  · rw [p2] at h
    have h2 : (cl symbs[k] ++ rest).drop (cl symbs[k]).length = rest := List.drop_left
    have h3 := congrArg (List.drop (cl symbs[k]).length) h
    rw [List.drop_left, List.length_append, List.drop_take, h2, Nat.add_sub_cancel_left] at h3
    cases rest with
    | nil => cases h3
    | cons c0 rest =>
      have h3 : [c0] = [61] := h3
      injection h3 with h3
      exact st p1 c0 rest rfl h3
section
variable {P : Program} {w : World} {K : PySem.W.Frag} {mg : PySem.Str → Option Value} {base : Heap}
theorem ok__token_at (T : Txt P w K mg) : FnOk P w K mg base CX0 3 T.a__token_at T.d__token_at ["text", "place"] (spV (Sx T) mTokAt) := by
  have G__word_at := ok__word_at (P := P) (w := w) (base := base) T
  have G__number_at := ok__number_at (P := P) (w := w) (base := base) T
  have G__string_at := ok__string_at (P := P) (w := w) (base := base) T
  refine def_v (S := Sx T) (N := N__token_at) T.F__token_at sc__token_at rfl (fun ds c Q h => by obtain ⟨x, p, t, rest, rfl, _⟩ := h; first | rfl | assumption) (fun cdv A outer s H E hr => (vss_cons (vs_set (i := 2) sc__token_at.nd rfl (.inl rfl) (fe_ixN (i_ix rfl (hu_of hr)) (pv 0) (be_name (pv 1)) (fun _ _ => rfl)))
      (vss_cons (vs_if (vb_cmp (o_in rfl (hu65 hr)) (ve_name (pv 2)) (be_of (ve_c (pe_glob (v := .str "abcdefghijklmnopqrstuvwxyz") (by rfl) T.c_LETTERS ⟨_, rfl⟩) (fun _ _ => .str _))) (by rfl)) (vss_one (vs_ret (ve_call G__word_at hr (by rfl) T.g__word_at T.F__word_at.kp T.b__word_at (va_cons (ve_name (pv 0)) (va_cons (ve_name (pv 1)) va_nil))))) vss_nil)
      (vss_cons (vs_if (vb_cmp (o_in rfl (hu65 hr)) (ve_name (pv 2)) (be_of (ve_c (pe_glob (v := .str "0123456789") (by rfl) T.c_DIGITS ⟨_, rfl⟩) (fun _ _ => .str _))) (by rfl)) (vss_one (vs_ret (ve_call G__number_at hr (by rfl) T.g__number_at T.F__number_at.kp T.b__number_at (va_cons (ve_name (pv 0)) (va_cons (ve_name (pv 1)) va_nil))))) vss_nil)
      (vss_cons (vs_if (vb_cmp (o_eq rfl hr.units) (ve_name (pv 2)) (be_of ve_str) (nomark _)) (vss_one (vs_ret (ve_call G__string_at (hr.mono (by omega)) (by rfl) T.g__string_at T.F__string_at.kp T.b__string_at (va_cons (ve_name (pv 0)) (va_cons (ve_name (pv 1)) va_nil))))) vss_nil)
      (vss_cons (vs_for PassesOwn.never rfl (vi_any rfl (ve_ct (pe_glob (v := .ref T.a_SYMBOLS) (by rfl) T.c_SYMBOLS rfl) rfl T.q_SYMBOLS (fun _ _ _ => .cons (.str _) (.cons (.str _) (.cons (.str _) (.cons (.str _) (.cons (.str _) (.cons (.str _) (.cons (.str _) (.cons (.str _) (.cons (.str _) (.cons (.str _) (.cons (.str _) (.cons (.str _) (.cons (.str _) (.cons (.str _) (.nil))))))))))))))))) (vg_name (i := 3) [3] (by decide) sc__token_at.nd rfl (.inl rfl))
      (vss_one (vs_if (vb_tru rfl (be_of (ve_of (fe_stw (ve_name (pv 0)) (va_cons (ve_name (pv 3)) (va_cons (ve_name (pv 1)) va_nil)))))) (vss_one (vs_ret (ve_tup (va_cons (ve_tup (va_cons ve_str (va_cons (ve_name (pv 3)) (va_cons (ve_name (pv 1)) va_nil)))) (va_cons (ve_of (fe_op (o_add rfl) (ve_name (pv 1)) (be_of (ve_of (pe_CB1 (c_len rfl) (fun hc ha => pe_callB hc (by rfl) T.z_len boot_len ha) (be_name (pv 3))))))) va_nil))))) vss_nil)))
      (vss_one vs_never))))))) ?_
  rintro ds c Q ⟨x, p, t, rest, rfl, ok, hd, st, hl, g⟩
  have xl := cl_len x
  obtain ⟨c0, r0, e0, _⟩ := Tk.starts ok
  have eg : (cl x)[p]? = some c0 := (drop_at (r := r0 ++ rest) (by rw [hd, e0]; rfl)).1
  have hlt : p < (cl x).length := (List.getElem?_eq_some_iff.mp eg).1
  refine seqI (fun E => E = ⟨[.v (.str x), .v (.int p), .v (one c0), .no], c⟩) ?_ ?_
  · intro N hN
    walk_at "wh"
    refine ⟨by omega, c0, atI_cl eg, ?_⟩
    exact hN _ rfl
  rintro _ rfl
  refine seqI (fun E => c0 ∉ cl chLet ∧ E = ⟨[.v (.str x), .v (.int p), .v (one c0), .no], c⟩) ?_ ?_
  · intro N hN
    walk_at "wh"
    refine ⟨c0, rfl, ?_⟩
    walk_at "wh"
    refine bothD (fun z => ?_) (fun z => ?_)
    · have z : c0 ∈ cl chLet := z
      cases t with
      | wd y =>
        walk_at "wh"
        exact ⟨x, p, y, rest, rfl, ok, hd, st, hl, g⟩
      | nu n y =>
        have := ok.2.1 c0 (by have e0 : cl y = c0 :: r0 := e0; rw [e0]; exact List.mem_cons_self)
        exact absurd this (let_dig c0 z)
      | st y =>
        have e0 : 39 :: (quo (cl y) ++ [39]) = c0 :: r0 := e0
        injection e0 with e0
        exact absurd (let_wrd c0 z) (by rw [← e0]; decide)
      | sy y =>
        obtain ⟨c1, r1, e1, n1, _⟩ := sym_not y ok
        have e0 : cl y = c0 :: r0 := e0
        rw [e1] at e0
        injection e0 with e0
        exact absurd (let_wrd c0 z) (by rw [← e0]; exact n1)
    · exact hN _ ⟨z, rfl⟩
  rintro _ ⟨n1, rfl⟩
  refine seqI (fun E => c0 ∉ cl chDig ∧ E = ⟨[.v (.str x), .v (.int p), .v (one c0), .no], c⟩) ?_ ?_
  · intro N hN
    walk_at "wh"
    refine ⟨c0, rfl, ?_⟩
    walk_at "wh"
    refine bothD (fun z => ?_) (fun z => ?_)
    · have z : c0 ∈ cl chDig := z
      cases t with
      | wd y =>
        obtain ⟨⟨c1, r1, e1, l1⟩, _⟩ := ok
        have e0 : cl y = c0 :: r0 := e0
        rw [e1] at e0
        injection e0 with e0
        exact absurd l1 (by rw [e0]; exact n1)
      | nu n y =>
        walk_at "wh"
        exact ⟨x, p, n, y, rest, rfl, ok, hd, st, hl, g⟩
      | st y =>
        have e0 : 39 :: (quo (cl y) ++ [39]) = c0 :: r0 := e0
        injection e0 with e0
        exact absurd (dig_wrd c0 z) (by rw [← e0]; decide)
      | sy y =>
        obtain ⟨c1, r1, e1, _, n2, _⟩ := sym_not y ok
        have e0 : cl y = c0 :: r0 := e0
        rw [e1] at e0
        injection e0 with e0
        exact absurd z (by rw [← e0]; exact n2)
    · exact hN _ ⟨z, rfl⟩
  rintro _ ⟨n2, rfl⟩
  refine seqI (fun E => c0 ≠ 39 ∧ E = ⟨[.v (.str x), .v (.int p), .v (one c0), .no], c⟩) ?_ ?_
  · intro N hN
    walk_at "wh"
    refine bothD (fun z => ?_) (fun z => ?_)
    · have z : c0 = 39 := one_eq z
      cases t with
      | wd y =>
        obtain ⟨⟨c1, r1, e1, l1⟩, _⟩ := ok
        have e0 : cl y = c0 :: r0 := e0
        rw [e1] at e0
        injection e0 with e0
        exact absurd l1 (by rw [e0]; exact n1)
      | nu n y =>
        have := ok.2.1 c0 (by have e0 : cl y = c0 :: r0 := e0; rw [e0]; exact List.mem_cons_self)
        exact absurd this n2
      | st y =>
        walk_at "wh"
        exact ⟨x, p, y, rest, rfl, ok, hd, st, hl, g⟩
      | sy y =>
        obtain ⟨c1, r1, e1, _, _, n3, _⟩ := sym_not y ok
        have e0 : cl y = c0 :: r0 := e0
        rw [e1] at e0
        injection e0 with e0
        exact absurd z (by rw [← e0]; exact n3)
    · exact hN _ ⟨fun h => z (by rw [h]; rfl), rfl⟩
  rintro _ ⟨n3, rfl⟩
  cases t with
  | wd y =>
    obtain ⟨⟨c1, r1, e1, l1⟩, _⟩ := ok
    have e0 : cl y = c0 :: r0 := e0
    rw [e1] at e0
    injection e0 with e0
    exact absurd l1 (by rw [e0]; exact n1)
  | nu n y =>
    have := ok.2.1 c0 (by have e0 : cl y = c0 :: r0 := e0; rw [e0]; exact List.mem_cons_self)
    exact absurd this n2
  | st y =>
    have e0 : 39 :: (quo (cl y) ++ [39]) = c0 :: r0 := e0
    injection e0 with e0
    exact absurd e0.symm n3
  | sy y =>
    have ok : y ∈ symbs := ok
    have hd : (cl x).drop p = cl y ++ rest := hd
    obtain ⟨k, hkl, ek⟩ := List.mem_iff_getElem.mp ok
    have ek : symbs[k]? = some y := by rw [List.getElem?_eq_getElem hkl, ek]
    have g : Q (.tup [triD (.sy y) p, .int ((p + (cl y).length : Nat) : Int)]) c := g
    walk_at "wh"
    refine ⟨fun i E => Iv (∃ y3 : SV, i ≤ k ∧ E = ⟨[.v (.str x), .v (.int p), .v (one c0), y3], c⟩), .a ⟨_, Nat.zero_le _, rfl⟩, ?_, ?_⟩
    · intro i d E ed iv
      obtain ⟨y3, hik, rfl⟩ := iv.out
      have ed : (symbs.map D.str)[i]? = some d := ed
      obtain ⟨s, es, rfl⟩ := map_get ed
      walk_at "wh"
      refine ⟨⟨x, rfl⟩, x, s, p, rfl, rfl, ?_⟩
      rw [starts_at (by omega), hd]
      walk_at "wh"
      refine bothD (fun z => ?_) (fun z => ?_)
      · have hk : i = k := by
          rcases Nat.lt_or_eq_of_le hik with h | h
          · exact absurd z (sym_first es ek h st)
          · exact h
        rw [hk, ek] at es
        cases es
        walk_at "wh"
        refine ⟨by show 3 ≤ 1000; decide, ?_⟩
        walk_at "wh"
        refine ⟨by have := (sym_len y ok).2; have := cl_len y; omega, ?_⟩
        refine ⟨by show 2 ≤ 1000; decide, ?_⟩
        have yl := cl_len y
        rw [← yl] at g
        exact g
      · have hk : ¬ i = k := fun h => by
          rw [h, ek] at es
          cases es
          exact z List.take_left
        exact .a ⟨_, by omega, rfl⟩
    · intro E iv
      obtain ⟨y3, hik, rfl⟩ := iv.out
      have hik : 14 ≤ k := hik
      have hkl : k < 14 := hkl
      omega
theorem ok_tokens_of (T : Txt P w K mg) : FnOk P w K mg base CX0 4 T.a_tokens_of T.d_tokens_of ["text"] (spV (Sx T) mTokens) := by
  have G__token_at := ok__token_at (P := P) (w := w) (base := base) T
  refine def_v (S := Sx T) (N := N_tokens_of) T.F_tokens_of sc_tokens_of rfl (fun ds c Q h => by obtain ⟨x, qs, e, rfl, _⟩ := h; first | rfl | assumption) (fun cdv A outer s H E hr => (vss_cons (vs_set (i := 1) sc_tokens_of.nd rfl (.inl rfl) (fe_lst va_nil))
      (vss_cons (vs_set (i := 2) sc_tokens_of.nd rfl (.inl rfl) (fe_of ve_int))
      (vss_cons (vs_while PassesOwn.never (vb_cmp o_lt (ve_name (pv 2)) (be_of (ve_of (pe_CB1 (c_len rfl) (fun hc ha => pe_callB hc (by rfl) T.z_len boot_len ha) (be_name (pv 0))))) (nomark _))
      (vss_one (vs_if (vb_cmp (o_in rfl (hu65 hr)) (ve_of (fe_ixN (i_ix rfl (hu_of hr)) (pv 0) (be_name (pv 2)) (fun _ _ => rfl))) (be_of ve_str) (by rfl)) (vss_one (vs_set (i := 2) sc_tokens_of.nd rfl (.inl rfl) (fe_op (o_add rfl) (ve_name (pv 2)) (be_of ve_int)))) (vss_cons (vs_asg (ve_call G__token_at hr (by rfl) T.g__token_at T.F__token_at.kp T.b__token_at (va_cons (ve_name (pv 0)) (va_cons (ve_name (pv 2)) va_nil))) (vg_tup 2 rfl rfl (vgs_cons (vg_name (i := 3) [3, 2] (by decide) sc_tokens_of.nd rfl (.inl rfl)) (vgs_cons (vg_name (i := 2) [3, 2] (by decide) sc_tokens_of.nd rfl (.inl rfl)) (vgs_nil [3, 2]))) (by rfl) (by rfl)))
      (vss_one (vs_append rfl (pv 1) (ve_name (pv 3))))))))
      (vss_one (vs_ret (ve_of (pe_CB1 (c_tupleD rfl rfl) (fun hc ha => pe_callTy hc (by rfl) T.z_tuple boot_tuple ha) (be_name (pv 1)))))))))) ?_
  rintro ds c Q ⟨x, qs0, e0, rfl, hx, ok0, he0, hl, g⟩
  have xl := cl_len x
  refine seqI (fun E => E = ⟨[.v (.str x), .ol [], .no, .no], c⟩) ?_ ?_
  · intro N hN
    walk_at "wh"
    refine ⟨by show 0 ≤ 1000; decide, ?_⟩
    exact hN _ rfl
  rintro _ rfl
  refine seqI (fun E => E = ⟨[.v (.str x), .ol [], .v (.int 0), .no], c⟩) ?_ ?_
  · intro N hN
    walk_at "wh"
    exact hN _ rfl
  rintro _ rfl
  refine seqI (fun E => ∃ y2 y3 : SV, E = ⟨[.v (.str x), .ol (trip 0 qs0), y2, y3], c⟩) ?_ ?_
  · intro N hN
    walk_at "wh"
    refine ⟨fun m E => Iv (∃ (ts : List D) (qs : List Pc) (e : List Nat) (p : Nat) (y3 : SV), E = ⟨[.v (.str x), .ol ts, .v (.int p), y3], c⟩ ∧ (cl x).drop p = rendr qs ++ e ∧ okP qs ∧ blank e ∧ p ≤ (cl x).length ∧ ts.length ≤ p ∧ ts ++ trip p qs = trip 0 qs0 ∧ m = (cl x).length - p), ⟨_, .a ⟨[], qs0, e0, 0, _, rfl, by rw [List.drop_zero]; exact hx, ok0, he0, Nat.zero_le _, Nat.zero_le _, rfl, rfl⟩⟩, ?_⟩
    intro m E iv
    obtain ⟨ts, qs, e, p, y3, rfl, hd, ok, he, hp, ht, tt, rfl⟩ := iv.out
    walk_at "wh"
    refine ⟨by omega, ?_⟩
    walk_at "wh"
    refine bothD (fun z => ?_) (fun z => ?_)
    · have hlt : p < (cl x).length := by omega
      have ed := List.drop_eq_getElem_cons hlt
      have eg : (cl x)[p]? = some (cl x)[p] := List.getElem?_eq_getElem hlt
      generalize (cl x)[p] = c0 at ed eg
      have rest1 : (cl x).drop (p + 1) = (rendr qs ++ e).tail := by rw [← hd, ed]; rfl
      walk_at "wh"
      refine ⟨by omega, c0, atI_cl eg, ?_⟩
      walk_at "wh"
      refine ⟨c0, rfl, ?_⟩
      walk_at "wh"
      refine bothD (fun z2 => ?_) (fun z2 => ?_)
      · have z2 : c0 ∈ cl chBln := z2
        walk_at "wh"
        cases qs with
        | nil =>
          have hd : (cl x).drop p = e := hd
          rw [ed] at hd
          refine ⟨(cl x).length - (p + 1), by omega, .a ⟨ts, [], (cl x).drop (p + 1), p + 1, y3, rfl, rfl, trivial, fun d h => he d (by rw [← hd]; exact List.mem_cons_of_mem _ h), by omega, by omega, tt, rfl⟩⟩
        | cons q qs =>
          obtain ⟨b, t⟩ := q
          cases b with
          | nil =>
            obtain ⟨c1, r1, e1, n1⟩ := Tk.starts ok.head.1
            have hd : (cl x).drop p = t.cl ++ rendr qs ++ e := hd
            have e1 : t.cl = c1 :: r1 := e1
            rw [ed, e1] at hd
            injection hd with hd
            exact absurd z2 (by rw [hd]; exact n1)
          | cons c1 b =>
            have hd : (cl x).drop p = c1 :: (b ++ t.cl ++ rendr qs ++ e) := hd
            rw [ed] at hd
            injection hd with _ hd
            refine ⟨(cl x).length - (p + 1), by omega, .a ⟨ts, (b, t) :: qs, e, p + 1, y3, rfl, hd, ok.blanks fun d h => ok.head.2 d (List.mem_cons_of_mem _ h), he, by omega, by omega, ?_, rfl⟩⟩
            rw [← tt]
            show ts ++ (triD t (p + 1 + b.length) :: trip (p + 1 + b.length + t.cl.length) qs) = ts ++ (triD t (p + (b.length + 1)) :: trip (p + (b.length + 1) + t.cl.length) qs)
            rw [show p + 1 + b.length = p + (b.length + 1) by omega]
      · have z2 : c0 ∉ cl chBln := z2
        cases qs with
        | nil =>
          have hd : (cl x).drop p = e := hd
          rw [ed] at hd
          exact absurd (he c0 (by rw [← hd]; exact List.mem_cons_self)) z2
        | cons q qs =>
          obtain ⟨b, t⟩ := q
          cases b with
          | cons c1 b =>
            have hd : (cl x).drop p = c1 :: (b ++ t.cl ++ rendr qs ++ e) := hd
            rw [ed] at hd
            injection hd with hd
            exact absurd (ok.head.2 c0 (by rw [hd]; exact List.mem_cons_self)) z2
          | nil =>
            have hd : (cl x).drop p = t.cl ++ rendr qs ++ e := hd
            rw [List.append_assoc] at hd
            obtain ⟨c1, r1, e1, n1⟩ := Tk.starts ok.head.1
            have e1 : t.cl = c1 :: r1 := e1
            have tl : 1 ≤ t.cl.length := by rw [e1]; simp
            have tot := drop_le hd (by rw [e1]; simp)
            rw [List.length_append] at tot
            walk_at "wh"
            refine ⟨x, p, t, rendr qs ++ e, rfl, ok.head.1, hd, stops_of ok he, hl, ?_⟩
            walk_at "wh"
            refine ⟨rfl, ?_⟩
            walk_at "wh"
            refine ⟨by omega, ?_⟩
            refine ⟨(cl x).length - (p + t.cl.length), by omega, .a ⟨ts ++ [triD t p], qs, e, p + t.cl.length, .v (triD t p), rfl, drop_more hd, ok.tail, he, by omega, by rw [List.length_append]; show _ + 1 ≤ _; omega, ?_, rfl⟩⟩
            rw [← tt, List.append_assoc]
            rfl
    · have pe : p = (cl x).length := by omega
      rw [pe, List.drop_length] at hd
      cases qs with
      | nil =>
        refine hN _ ⟨.v (.int p), y3, ?_⟩
        rw [← tt]
        show _ = (⟨[.v (.str x), .ol (ts ++ []), .v (.int p), y3], c⟩ : En)
        rw [List.append_nil]
      | cons q qs =>
        obtain ⟨c1, r1, e1, n1⟩ := Tk.starts ok.head.1
        have h2 := congrArg List.length hd
        have h2 : 0 = (q.1 ++ q.2.cl ++ rendr qs ++ e).length := h2
        rw [e1] at h2
        simp at h2
  rintro _ ⟨y2, y3, rfl⟩
  walk_at "wh"
  exact g
end
end Va
set_option Elab.async false
set_option linter.all false
set_option maxRecDepth 100000
set_option maxHeartbeats 40000000
namespace Va
open PySem PySem.Spec PyProof.Rows L2 Ind RowK
local macro_rules | `(tactic| walk_at "cn") => `(tactic| first
  | assumption
  | omega
  | exact dm (by omega)
  | exact line (by simp)
  | exact line (by omega)
  | exact line (by simp only [len_app, len_one]; omega)
  | exact small_div (by omega) (by omega)
  | solve_by_elim
  | exact Or.inr ⟨by omega, by omega⟩
  | exact Or.inl ⟨by omega, by omega⟩
  | exact ⟨by omega, by omega⟩
  | decide)
local macro_rules | `(tactic| walk_at "st") => `(tactic| repeat (first
  | refine ⟨_, rfl, ?_⟩
  | refine ⟨_, _, rfl, rfl, ?_⟩
  | refine ⟨_, _, rfl, ?_⟩
  | refine .inl ⟨_, rfl, ?_⟩
  | refine And.intro rfl ?_
  | refine And.intro (by walk_at "cn") ?_))
local macro_rules | `(tactic| walk_at "fz") => `(tactic| repeat (first | exact Fz.refl | apply Fz.upd))
local macro_rules | `(tactic| walk_at "hl") => `(tactic| ((repeat rw [upd_ne (by assumption)]); assumption))
local macro_rules | `(tactic| walk_at "fy") => `(tactic| (intro b o n1 h; (repeat rw [upd_ne n1]); exact h))
local macro_rules | `(tactic| walk_at "wh") => `(tactic| (conv => whnf))
local macro_rules | `(tactic| walk_at "cv") => `(tactic| first
  | rfl
  | assumption
  | omega
  | exact dm (by omega)
  | exact small_div (by omega) (by omega)
  | (simp only [len_app, one_len, len_one, List.length_append, List.length_map, List.length_cons, List.length_nil]; omega)
  | exact Or.inr ⟨by omega, by omega⟩
  | exact Or.inl ⟨by omega, by omega⟩
  | exact ⟨by omega, by omega⟩
  | decide)
local macro_rules | `(tactic| walk_at "vv") => `(tactic| repeat (refine And.intro (by walk_at "cv") ?_))
local macro_rules | `(tactic| walk_at "sk") => `(tactic| repeat (first
  | refine wayT ?_
  | refine wayF ?_
  | refine skipT (by omega) ?_
  | refine skipF (by omega) ?_
  | refine skipT (by decide) ?_
  | refine skipF (by decide) ?_
  | refine ⟨_, (show tyNames _ = some _ from rfl), ?_⟩
  | refine And.intro (by walk_at "cv") ?_))
local macro_rules | `(tactic| walk_at "s0") => `(tactic| first
  | refine wayT ?_
  | refine wayF ?_
  | refine skipT (by omega) ?_
  | refine skipF (by omega) ?_
  | refine skipT (by decide) ?_
  | refine skipF (by decide) ?_
  | refine ⟨_, (show tyNames _ = some _ from rfl), ?_⟩
  | refine And.intro (by walk_at "cv") ?_)
local macro_rules | `(tactic| walk_at "s1") => `(tactic| try (walk_at "s0"; walk_at "wh"))
local macro_rules | `(tactic| walk_at "go") => `(tactic| (walk_at "wh"; repeat (walk_at "s0"; walk_at "wh")))
theorem shift {qs : List Pc} {b0 e : List Nat} (h : okP qs) (hb : blank b0) (he : blank e) : ∃ qs' e', b0 ++ rendr qs ++ e = rendr qs' ++ e' ∧ okP qs' ∧ blank e' ∧ trip 0 qs' = trip b0.length qs := by
  cases qs with
  | nil =>
    refine ⟨[], b0 ++ e, ?_, trivial, fun c hc => (List.mem_append.mp hc).elim (hb c) (he c), rfl⟩
    show b0 ++ [] ++ e = [] ++ (b0 ++ e)
    rw [List.append_nil, List.nil_append]
  | cons q qs =>
    obtain ⟨b, t⟩ := q
    refine ⟨(b0 ++ b, t) :: qs, e, ?_, h.blanks fun c hc => (List.mem_append.mp hc).elim (hb c) (h.head.2 c), he, ?_⟩
    · show b0 ++ (b ++ t.cl ++ rendr qs) ++ e = b0 ++ b ++ t.cl ++ rendr qs ++ e
      simp [List.append_assoc]
    · show triD t (0 + (b0 ++ b).length) :: trip (0 + (b0 ++ b).length + t.cl.length) qs = triD t (b0.length + b.length) :: trip (b0.length + b.length + t.cl.length) qs
      rw [Nat.zero_add, List.length_append]
theorem Tk.few : ∀ {t : Tk}, t.ok → t.cl.length ≤ 42
  | .wd x, h => by have h3 := h.2.2; have := cl_len x; show (Va.cl x).length ≤ 42; omega
  | .nu n x, h => by have h3 := h.2.2.1; have := cl_len x; show (Va.cl x).length ≤ 42; omega
  | .st x, h => by
    have h3 := h.1
    have := cl_len x
    have := (quo_len (Va.cl x)).2
    show (39 :: (quo (Va.cl x) ++ [39])).length ≤ 42
    simp
    omega
  | .sy x, h => by have := (sym_len x h).2; show (Va.cl x).length ≤ 42; omega
theorem trip_mem {d : D} : ∀ {qs : List Pc} {p : Nat}, d ∈ trip p qs → ∃ q ∈ qs, ∃ k, d = triD q.2 k ∧ k ≤ p + (rendr qs).length
  | [], _, h => nomatch h
  | q :: qs, p, h => by
    have rl : (rendr (q :: qs)).length = q.1.length + q.2.cl.length + (rendr qs).length := by
      show (q.1 ++ q.2.cl ++ rendr qs).length = _
      rw [List.length_append, List.length_append]
    rcases List.mem_cons.mp h with rfl | h
    · exact ⟨q, List.mem_cons_self, _, rfl, by omega⟩
    · obtain ⟨r, hr, k, e, hk⟩ := trip_mem h
      exact ⟨r, List.mem_cons_of_mem _ hr, k, e, by omega⟩
theorem trip_len : ∀ (qs : List Pc) (p : Nat), (trip p qs).length = qs.length
  | [], _ => rfl
  | q :: qs, p => congrArg (· + 1) (trip_len qs _)
theorem shows_trip {qs : List Pc} {p : Nat} (ok : ∀ q ∈ qs, q.2.ok ∧ q.2.vOk) (hl : qs.length ≤ 100) (hp : p + (rendr qs).length ≤ 100000) : ShowsW (.tup (trip p qs)) := by
  have one : ∀ d ∈ trip p qs, Sm16 d.pd 2 200 := fun d hd => by
    obtain ⟨q, hq, k, rfl, hk⟩ := trip_mem hd
    obtain ⟨o1, o2⟩ := ok q hq
    have e : (triD q.2 k).pd = .tuple [PyData.str q.2.kind, q.2.val.pd, PyData.int k] := rfl
    rw [e]
    have := sm16_tup (ds := [PyData.str q.2.kind, q.2.val.pd, PyData.int k]) (k := 1) (m := 30) fun z hz => by
      simp only [List.mem_cons, List.not_mem_nil, or_false] at hz
      rcases hz with rfl | rfl | rfl
      · have : ∀ t : Tk, tOk t.kind ∧ t.kind.length ≤ 30 := fun t => by
          cases t
          · exact ⟨tOk_of (x := "word") (by decide), by show ("word" : Tx).length ≤ 30; decide⟩
          · exact ⟨tOk_of (x := "number") (by decide), by show ("number" : Tx).length ≤ 30; decide⟩
          · exact ⟨tOk_of (x := "string") (by decide), by show ("string" : Tx).length ≤ 30; decide⟩
          · exact ⟨tOk_of (x := "symbol") (by decide), by show ("symbol" : Tx).length ≤ 30; decide⟩
        exact sm16_str (this q.2).1 (this q.2).2
      · obtain ⟨b, t⟩ := q
        cases t with
        | wd x => exact sm16_str o2 (Nat.le_trans o1.2.2 (by decide))
        | nu n x =>
          obtain ⟨_, _, _, h4, h5⟩ := o1
          exact sm16_int (by omega) 1 30
        | st x => exact sm16_str o2 (Nat.le_trans o1.1 (by decide))
        | sy x => exact sm16_str o2 (by have := (sym_len x o1).2; have := cl_len x; show x.length ≤ 30; omega)
      · exact sm16_int (by omega) 1 30
    exact this.mono (Nat.le_refl _) (by show (30 + 1) * 3 ≤ 200; decide)
  have e : (D.tup (trip p qs)).pd = .tuple ((trip p qs).map D.pd) := by
    show PyData.tuple (pdL (trip p qs)) = _
    rw [pdL_map]
  have := sm16_tup (ds := (trip p qs).map D.pd) (k := 2) (m := 200) fun z hz => by
    obtain ⟨d, hd, rfl⟩ := List.mem_map.mp hz
    exact one d hd
  rw [← e, List.length_map, trip_len] at this
  exact this.shows (by decide) (by omega)
theorem bl_of {x : Tx} (h : (cl x).all (fun c => decide (c ∈ cl chBln)) = true) : blank (cl x) := fun c hc => by
  have := List.all_eq_true.mp h c hc
  exact of_decide_eq_true this
section
variable {P : Program} {w : World} {K : PySem.W.Frag} {mg : PySem.Str → Option Value} {base : Heap}
theorem law_body (T : Txt P w K mg) {a : Addr} {ns : List Int} {s : Shared} {H : Hp} (hS : SqL K H a (ns.map V.int)) (hl : ns.length ≤ 63) (hT : ∀ P ∈ ([] : List Addr), GxR.TabG H P) (cdv : Value) (hr : Room 4 (callerA.deeper (envOfC "law" (defScope s_law) s.heap.objs.size T.a_law cdv))) :
    ∃ t, PSs (cxOf CX0 P w K mg base N_law "law" (defScope s_law) T.a_law cdv callerA [] s H E0).nox (defBody s_law) t ∧ t { nx := fun _ H' => (fun (v : V) (_ : Hp) => v = V.bl true) .non H', rt := fun v _ => v = .bl true } (L2.start N_law [V.ref a]) H := by
  have G__law_tape := ok__law_tape (P := P) (w := w) (base := base) T
  have G__law_draw := draw_v (S := Sx T) (ok__law_draw (P := P) (w := w) (base := base) T)
  have G__law_one := ok__law_one (P := P) (w := w) (base := base) T
  have G__law_parted := ok__law_parted (P := P) (w := w) (base := base) T
  have G_tokens_of := ok_tokens_of (P := P) (w := w) (base := base) T
  have h : spLawT K [] [.ref a] H (fun v _ => v = .bl true) E0 := ⟨a, ns, rfl, hS, hl, hT, fun _ => rfl⟩
  refine law_rest (S := Sx T) (N := N_law) (i0 := 0) rfl (by decide) (ps_set (i := 1) sc_law.nd rfl (.inl rfl) (pe_call G__law_tape (hr.mono (by decide)) (by rfl) T.g__law_tape T.F__law_tape.kp T.b__law_tape .nil pass0 (pa_cons (pv 0) pa_nil)))
    (vss_cons (vs_set (i := 2) sc_law.nd rfl (.inl rfl) (fe_ix (i_ix rfl (hu_of hr)) (ve_of (fe_lst (va_cons ve_str (va_cons ve_str (va_cons ve_str va_nil))))) (be_of (ve_call G__law_draw (hr.mono (by omega)) (by rfl) T.g__law_draw T.F__law_draw.kp T.b__law_draw (va_cons (ve_name (pv 1)) (va_cons ve_int va_nil)))) (fun _ _ => rfl)))
      (vss_cons (vs_set (i := 3) sc_law.nd rfl (.inl rfl) (fe_lst va_nil))
      (vss_cons (vs_set (i := 4) sc_law.nd rfl (.inl rfl) (fe_of (ve_tup (va_cons ve_str (va_cons ve_str (va_cons ve_str va_nil))))))
      (vss_cons (vs_for PassesOwn.never rfl (vi_range1 (by rfl) T.z_range (va_cons (ve_call G__law_draw (hr.mono (by omega)) (by rfl) T.g__law_draw T.F__law_draw.kp T.b__law_draw (va_cons (ve_name (pv 1)) (va_cons ve_int va_nil))) va_nil)) (vg_name (i := 5) [5] (by decide) sc_law.nd rfl (.inl rfl))
      (vss_cons (vs_set (i := 6) sc_law.nd rfl (.inl rfl) (fe_of (ve_call G__law_one hr (by rfl) T.g__law_one T.F__law_one.kp T.b__law_one (va_cons (ve_name (pv 1)) va_nil))))
      (vss_cons (vs_set (i := 7) sc_law.nd rfl (.inl rfl) (fe_ix (i_ix rfl (hu_of hr)) (ve_of (fe_lst (va_cons ve_str (va_cons ve_str (va_cons ve_str (va_cons ve_str (va_cons ve_str (va_cons ve_str va_nil)))))))) (be_of (ve_call G__law_draw (hr.mono (by omega)) (by rfl) T.g__law_draw T.F__law_draw.kp T.b__law_draw (va_cons (ve_name (pv 1)) (va_cons ve_int va_nil)))) (fun _ _ => rfl)))
      (vss_cons (vs_if (vb_w (vw_and (vb_tru rfl (be_name (pv 3))) (vw_and (vb_tru rfl (be_of (ve_call G__law_parted (hr.mono (by omega)) (by rfl) T.g__law_parted T.F__law_parted.kp T.b__law_parted (va_cons (ve_name (pv 4)) (va_cons (ve_name (pv 6)) va_nil))))) (vw_and1 (vb_cmp (o_eq rfl hr.units) (ve_name (pv 7)) (be_of ve_str) (nomark _)))))) (vss_one (vs_set (i := 7) sc_law.nd rfl (.inl rfl) (fe_ix (i_ix rfl (hu_of hr)) (ve_of (fe_lst (va_cons ve_str (va_cons ve_str va_nil)))) (be_of (ve_call G__law_draw (hr.mono (by omega)) (by rfl) T.g__law_draw T.F__law_draw.kp T.b__law_draw (va_cons (ve_name (pv 1)) (va_cons ve_int va_nil)))) (fun _ _ => rfl)))) vss_nil)
      (vss_cons (vs_set (i := 2) sc_law.nd rfl (.inl rfl) (fe_op (o_add rfl) (ve_name (pv 2)) (be_name (pv 7))))
      (vss_cons (vs_append rfl (pv 3) (ve_tup (va_cons (ve_of (fe_ixN (i_ix rfl (hu_of hr)) (pv 6) (be_of ve_int) (fun _ _ => rfl))) (va_cons (ve_of (fe_ixN (i_ix rfl (hu_of hr)) (pv 6) (be_of ve_int) (fun _ _ => rfl))) (va_cons (ve_of (pe_CB1 (c_len rfl) (fun hc ha => pe_callB hc (by rfl) T.z_len boot_len ha) (be_name (pv 2)))) va_nil)))))
      (vss_cons (vs_set (i := 2) sc_law.nd rfl (.inl rfl) (fe_op (o_add rfl) (ve_name (pv 2)) (be_of (ve_of (fe_ixN (i_ix rfl (hu_of hr)) (pv 6) (be_of ve_int) (fun _ _ => rfl))))))
      (vss_one (vs_set (i := 4) sc_law.nd rfl (.inl rfl) (fe_of (ve_name (pv 6))))))))))))
      (vss_cons (vs_set (i := 2) sc_law.nd rfl (.inl rfl) (fe_op (o_add rfl) (ve_name (pv 2)) (be_of (ve_of (fe_ix (i_ix rfl (hu_of hr)) (ve_of (fe_lst (va_cons ve_str (va_cons ve_str (va_cons ve_str va_nil))))) (be_of (ve_call G__law_draw (hr.mono (by omega)) (by rfl) T.g__law_draw T.F__law_draw.kp T.b__law_draw (va_cons (ve_name (pv 1)) (va_cons ve_int va_nil)))) (fun _ _ => rfl))))))
      (vss_one (vs_ret (ve_of (fe_cmp (o_eq rfl hr.units) (ve_of (pe_CB1 (c_reprW rfl (by first | rfl | exact hg) hr.units) (fun hc ha => pe_callB hc (by rfl) T.z_repr boot_repr ha) (be_of (ve_call G_tokens_of hr (by rfl) T.g_tokens_of T.F_tokens_of.kp T.b_tokens_of (va_cons (ve_name (pv 2)) va_nil))))) (be_of (ve_of (pe_CB1 (c_reprW rfl (by first | rfl | exact hg) hr.units) (fun hc ha => pe_callB hc (by rfl) T.z_repr boot_repr ha) (be_of (ve_of (pe_CB1 (c_tupleD rfl rfl) (fun hc ha => pe_callTy hc (by rfl) T.z_tuple boot_tuple ha) (be_name (pv 3)))))))) (nomark _)))))))))) ?_ h
  have ch : ∀ (l : List Tx) (r n : Nat), l.length = n → r < n → (∀ x ∈ l, blank (cl x) ∧ (cl x).length ≤ 3) → ∃ x, atI (l.map D.str) (r : Int) = some (.str x) ∧ blank (cl x) ∧ (cl x).length ≤ 3 := fun l r n e hr h => by
    obtain ⟨d, ed, md⟩ := pickD (l := l.map D.str) (i := r) (by rw [List.length_map]; omega)
    obtain ⟨x, hx, rfl⟩ := List.mem_map.mp md
    exact ⟨x, ed, h x hx⟩
  refine seqI (fun E => ∃ tx : Tx, blank (cl tx) ∧ (cl tx).length ≤ 3 ∧ E = ⟨[.no, .v .tape, .v (.str tx), .no, .no, .no, .no, .no], 999000⟩) ?_ ?_
  · intro N hN
    walk_at "wh"
    refine ⟨by show 3 ≤ 1000; decide, ?_⟩
    refine ⟨3, rfl, Nat.zero_le _, dm (by decide), fun r hr => ?_⟩
    obtain ⟨x, ex, h1, h2⟩ := ch ["", " ", "\n  "] r 3 rfl (by omega) (fun x hx => by
      have all : ∀ x ∈ (["", " ", "\n  "] : List Tx), (cl x).all (fun c => decide (c ∈ cl chBln)) = true ∧ (cl x).length ≤ 3 := by decide
      exact ⟨bl_of (all x hx).1, (all x hx).2⟩)
    refine withD_of ex ?_
    exact hN _ ⟨x, h1, h2, rfl⟩
  rintro _ ⟨tx, hb, hl3, rfl⟩
  refine seqI (fun E => E = ⟨[.no, .v .tape, .v (.str tx), .ol [], .no, .no, .no, .no], 999000⟩) ?_ ?_
  · intro N hN
    walk_at "wh"
    refine ⟨by show 0 ≤ 1000; decide, ?_⟩
    exact hN _ rfl
  rintro _ rfl
  refine seqI (fun E => E = ⟨[.no, .v .tape, .v (.str tx), .ol [], .v (tokD (.sy "(")), .no, .no, .no], 999000⟩) ?_ ?_
  · intro N hN
    walk_at "wh"
    refine ⟨by show 3 ≤ 1000; decide, ?_⟩
    exact hN _ rfl
  rintro _ rfl
  refine seqI (fun E => ∃ (tx : Tx) (b0 : List Nat) (qs : List Pc) (la : Tk) (y5 y6 y7 : SV), cl tx = b0 ++ rendr qs ∧ blank b0 ∧ okP qs ∧ (∀ q ∈ qs, q.2.ok ∧ q.2.vOk) ∧ qs.length ≤ 20 ∧ (cl tx).length ≤ 3 + 50 * 20 ∧ E = ⟨[.no, .v .tape, .v (.str tx), .ol (trip b0.length qs), .v (tokD la), y5, y6, y7], 999000⟩) ?_ ?_
  · intro N hN
    walk_at "wh"
    refine ⟨21, rfl, Nat.zero_le _, dm (by decide), fun r hr => ?_⟩
    refine ⟨⟨by omega, by omega⟩, ?_⟩
    refine ⟨fun i E => Iv (∃ (tx : Tx) (b0 : List Nat) (qs : List Pc) (la : Tk) (y5 y6 y7 : SV), cl tx = b0 ++ rendr qs ∧ blank b0 ∧ okP qs ∧ (∀ q ∈ qs, q.2.ok ∧ q.2.vOk) ∧ qs.length = i ∧ (cl tx).length ≤ 3 + 50 * i ∧ (∀ q, qs.getLast? = some q → q.2 = la) ∧ la.ok ∧ E = ⟨[.no, .v .tape, .v (.str tx), .ol (trip b0.length qs), .v (tokD la), y5, y6, y7], 999000⟩), .a ⟨tx, cl tx, [], .sy "(", _, _, _, by show cl tx = cl tx ++ []; rw [List.append_nil], hb, trivial, (fun _ h => nomatch h), rfl, by omega, (fun q h => nomatch h), (by show ("(" : Tx) ∈ symbs; decide), rfl⟩, ?_, ?_⟩
    · intro i d E ed iv
      obtain ⟨tx, b0, qs, la, y5, y6, y7, h1, h2, h3, h4, h5, h6, h7, h8, rfl⟩ := iv.out
      obtain ⟨rfl, hi⟩ := rng_at ed
      have hi : i < 20 := by omega
      have xl := cl_len tx
      clear iv ed
      refine seqI (fun E => ∃ t : Tk, t.ok ∧ t.vOk ∧ E = ⟨[.no, .v .tape, .v (.str tx), .ol (trip b0.length qs), .v (tokD la), .v (.int (0 + (i : Int))), .v (tokD t), y7], 999000⟩) ?_ ?_
      · intro N2 hN2
        walk_at "wh"
        refine ⟨rfl, fun t o1 o2 => ?_⟩
        exact hN2 _ ⟨t, o1, o2, rfl⟩
      rintro _ ⟨t, o1, o2, rfl⟩
      refine seqI (fun E => ∃ bs : Tx, blank (cl bs) ∧ (cl bs).length ≤ 3 ∧ E = ⟨[.no, .v .tape, .v (.str tx), .ol (trip b0.length qs), .v (tokD la), .v (.int (0 + (i : Int))), .v (tokD t), .v (.str bs)], 999000⟩) ?_ ?_
      · intro N2 hN2
        walk_at "wh"
        refine ⟨by show 6 ≤ 1000; decide, ?_⟩
        refine ⟨6, rfl, Nat.zero_le _, dm (by decide), fun r2 hr2 => ?_⟩
        obtain ⟨x, ex, f1, f2⟩ := ch ["", "", " ", "\n", "  ", " \n "] r2 6 rfl (by omega) (fun x hx => by
          have all : ∀ x ∈ (["", "", " ", "\n", "  ", " \n "] : List Tx), (cl x).all (fun c => decide (c ∈ cl chBln)) = true ∧ (cl x).length ≤ 3 := by decide
          exact ⟨bl_of (all x hx).1, (all x hx).2⟩)
        refine withD_of ex ?_
        exact hN2 _ ⟨x, f1, f2, rfl⟩
      rintro _ ⟨bs, f1, f2, rfl⟩
      refine seqI (fun E => ∃ bs : Tx, blank (cl bs) ∧ (cl bs).length ≤ 3 ∧ (∀ q, qs.getLast? = some q → cl bs = [] → partB q.2 t = false) ∧ E = ⟨[.no, .v .tape, .v (.str tx), .ol (trip b0.length qs), .v (tokD la), .v (.int (0 + (i : Int))), .v (tokD t), .v (.str bs)], 999000⟩) ?_ ?_
      · intro N2 hN2
        walk_at "wh"
        refine both (fun z => ?_) (fun z => ?_)
        · walk_at "wh"
          refine ⟨la, t, rfl, h8, o1, ?_⟩
          walk_at "wh"
          refine both (fun p1 => ?_) (fun p1 => ?_)
          · walk_at "wh"
            refine bothD (fun z2 => ?_) (fun z2 => ?_)
            · walk_at "wh"
              refine ⟨by show 2 ≤ 1000; decide, ?_⟩
              refine ⟨2, rfl, Nat.zero_le _, dm (by decide), fun r2 hr2 => ?_⟩
              obtain ⟨d, ed, md⟩ := pickD (l := ([" ", "
"] : List Tx).map D.str) (i := r2) (by show r2 < 2; omega)
              obtain ⟨x, hx, rfl⟩ := List.mem_map.mp md
              have all : ∀ x ∈ ([" ", "
"] : List Tx), (cl x).all (fun c => decide (c ∈ cl chBln)) = true ∧ (cl x).length ≤ 3 ∧ cl x ≠ [] := by decide
              obtain ⟨x1, x2, x3⟩ := all x hx
              refine withD_of ed ?_
              exact hN2 _ ⟨x, bl_of x1, x2, fun q hq e => absurd e x3, rfl⟩
            · exact hN2 _ ⟨bs, f1, f2, fun q hq e => absurd (cl_ext e : bs = "") z2, rfl⟩
          · exact wayF (hN2 _ ⟨bs, f1, f2, fun q hq _ => by rw [h7 q hq]; exact p1, rfl⟩)
        · have z : (trip b0.length qs).isEmpty = true := by simpa using z
          have z := congrArg List.length (List.isEmpty_iff.mp z)
          rw [trip_len] at z
          have z : qs = [] := List.length_eq_zero_iff.mp z
          have nn : ∀ q, qs.getLast? = some q → cl bs = [] → partB q.2 t = false := fun q hq => by
            rw [z] at hq
            cases hq
          first
            | exact hN2 _ ⟨bs, f1, f2, nn, rfl⟩
            | exact wayF (hN2 _ ⟨bs, f1, f2, nn, rfl⟩)
      clear f1 f2
      clear bs
      rintro _ ⟨bs, f1, f2, f3, rfl⟩
      have bl := cl_len bs
      have tl := Tk.few o1
      have xb := cl_len (tx ++ bs)
      rw [cl_app, List.length_append] at xb
      have tt := cl_len t.tx
      have tt2 : (cl t.tx).length = t.cl.length := rfl
      refine seqI (fun E => E = ⟨[.no, .v .tape, .v (.str (tx ++ bs)), .ol (trip b0.length qs), .v (tokD la), .v (.int (0 + (i : Int))), .v (tokD t), .v (.str bs)], 999000⟩) ?_ ?_
      · intro N2 hN2
        walk_at "wh"
        refine ⟨by omega, ?_⟩
        exact hN2 _ rfl
      rintro _ rfl
      refine seqI (fun E => E = ⟨[.no, .v .tape, .v (.str (tx ++ bs)), .ol (trip b0.length qs ++ [triD t (tx ++ bs).length]), .v (tokD la), .v (.int (0 + (i : Int))), .v (tokD t), .v (.str bs)], 999000⟩) ?_ ?_
      · intro N2 hN2
        walk_at "wh"
        refine ⟨by omega, ?_⟩
        refine ⟨by show 3 ≤ 1000; decide, ?_⟩
        refine ⟨by rw [trip_len]; omega, ?_⟩
        exact hN2 _ rfl
      rintro _ rfl
      refine seqI (fun E => E = ⟨[.no, .v .tape, .v (.str (tx ++ bs ++ t.tx)), .ol (trip b0.length qs ++ [triD t (tx ++ bs).length]), .v (tokD la), .v (.int (0 + (i : Int))), .v (tokD t), .v (.str bs)], 999000⟩) ?_ ?_
      · intro N2 hN2
        walk_at "wh"
        refine ⟨by omega, ?_⟩
        exact hN2 _ rfl
      rintro _ rfl
      walk_at "wh"
      refine .a ⟨tx ++ bs ++ t.tx, b0, qs ++ [(cl bs, t)], t, .v (.int (0 + (i : Int))), .v (tokD t), .v (.str bs), ?_, h2, okP.snoc h3 o1 f1 f3, fun q hq => ?_, by rw [List.length_append, h5]; rfl, ?_, fun q hq => ?_, o1, ?_⟩
      · rw [cl_app, cl_app, h1, rendr_app]
        show b0 ++ rendr qs ++ cl bs ++ t.cl = b0 ++ (rendr qs ++ (cl bs ++ t.cl ++ []))
        simp [List.append_assoc]
      · rcases List.mem_append.mp hq with h | h
        · exact h4 q h
        · rw [List.mem_singleton.mp h]
          exact ⟨o1, o2⟩
      · rw [cl_app, cl_app, List.length_append, List.length_append, tt2]
        omega
      · rw [List.getLast?_append] at hq
        cases hq
        rfl
      · rw [trip_app, show (tx ++ bs).length = b0.length + (rendr qs).length + (cl bs).length by rw [xb, h1, List.length_append]]
        rfl
    · intro E iv
      obtain ⟨tx, b0, qs, la, y5, y6, y7, h1, h2, h3, h4, h5, h6, h7, h8, rfl⟩ := iv.out
      have e : (rng 0 (r : Int).toNat).length = r := by simp only [rng, List.length_map, List.length_range]; omega
      rw [e] at h5 h6
      exact hN _ ⟨tx, b0, qs, la, y5, y6, y7, h1, h2, h3, h4, by omega, by omega, rfl⟩
  clear hb hl3
  clear tx
  rintro _ ⟨tx, b0, qs, la, y5, y6, y7, h1, h2, h3, h4, h5, h6, rfl⟩
  refine seqI (fun E => ∃ e : Tx, blank (cl e) ∧ (cl e).length ≤ 3 ∧ E = ⟨[.no, .v .tape, .v (.str (tx ++ e)), .ol (trip b0.length qs), .v (tokD la), y5, y6, y7], 999000⟩) ?_ ?_
  · intro N hN
    walk_at "wh"
    refine ⟨by show 3 ≤ 1000; decide, ?_⟩
    refine ⟨3, rfl, Nat.zero_le _, dm (by decide), fun r hr => ?_⟩
    obtain ⟨x, ex, f1, f2⟩ := ch ["", " ", "\n"] r 3 rfl (by omega) (fun x hx => by
      have all : ∀ x ∈ (["", " ", "\n"] : List Tx), (cl x).all (fun c => decide (c ∈ cl chBln)) = true ∧ (cl x).length ≤ 3 := by decide
      exact ⟨bl_of (all x hx).1, (all x hx).2⟩)
    have xl := cl_len x
    have tl := cl_len tx
    refine withD_of ex ?_
    walk_at "wh"
    refine ⟨by omega, ?_⟩
    exact hN _ ⟨x, f1, f2, rfl⟩
  rintro _ ⟨e, he, hel, rfl⟩
  obtain ⟨qs', e', g1, g2, g3, g4⟩ := shift h3 h2 he
  have rl : b0.length + (rendr qs).length ≤ 1003 := by
    have := congrArg List.length h1
    rw [List.length_append] at this
    omega
  obtain ⟨t1, t2, t3, t4, t5⟩ := shows_trip (qs := qs) (p := b0.length) h4 (by omega) (by omega)
  walk_at "wh"
  refine ⟨tx ++ e, qs', e', rfl, by rw [cl_app, h1]; exact g1, g2, g3, by rw [cl_app, List.length_append]; omega, ?_⟩
  rw [g4]
  refine ⟨t1, t2, t3, t4, t5, ?_⟩
  walk_at "wh"
  refine ⟨t1, t2, t3, t4, t5, ?_⟩
  exact congrArg D.bl (decide_eq_true rfl)
end
end Va
set_option Elab.async false
set_option linter.all false
set_option maxRecDepth 100000
set_option maxHeartbeats 4000000
namespace Va
open PySem PySem.Spec PyProof.Rows L2 Ind RowK
section
variable {P : Program} {w : World} {K : PySem.W.Frag} {mg : PySem.Str → Option Value} {base : Heap}
theorem all_mk {l : PySem.W.OpenLaw} {w : World} {K : PySem.W.Frag} {h : Heap} {mg : Str → Option Value} {fa : Addr} (X : K.In h) (G : h.Ns mainGlobals mg) (hfa : mg "law" = some (.ref fa))
    {f0 : Addr} {od0 an0 : Option Addr} {sl0 : Array (Option Value)} {oc0 kV0 dc0 pm0 cd0 ct0 : Value}
    {f1 : Addr} {od1 an1 : Option Addr} {sl1 : Array (Option Value)} {oc1 kV1 dc1 pm1 cd1 ct1 : Value}
    {f2 : Addr} {od2 an2 : Option Addr} {sl2 : Array (Option Value)} {oc2 kV2 dc2 pm2 cd2 ct2 : Value}
    {f3 : Addr} {od3 an3 : Option Addr} {sl3 : Array (Option Value)} {oc3 kV3 dc3 pm3 cd3 ct3 : Value}
    {f4 : Addr} {od4 an4 : Option Addr} {sl4 : Array (Option Value)} {oc4 kV4 dc4 pm4 cd4 ct4 : Value}
    {f5 : Addr} {od5 an5 : Option Addr} {sl5 : Array (Option Value)} {oc5 kV5 dc5 pm5 cd5 ct5 : Value}
    {f6 : Addr} {od6 an6 : Option Addr} {sl6 : Array (Option Value)} {oc6 kV6 dc6 pm6 cd6 ct6 : Value}
    {f7 : Addr} {od7 an7 : Option Addr} {sl7 : Array (Option Value)} {oc7 kV7 dc7 pm7 cd7 ct7 : Value}
    {f8 : Addr} {od8 an8 : Option Addr} {sl8 : Array (Option Value)} {oc8 kV8 dc8 pm8 cd8 ct8 : Value}
    {f9 : Addr} {od9 an9 : Option Addr} {sl9 : Array (Option Value)} {oc9 kV9 dc9 pm9 cd9 ct9 : Value}
    {f10 : Addr} {od10 an10 : Option Addr} {sl10 : Array (Option Value)} {oc10 kV10 dc10 pm10 cd10 ct10 : Value}
    {f11 : Addr} {od11 an11 : Option Addr} {sl11 : Array (Option Value)} {oc11 kV11 dc11 pm11 cd11 ct11 : Value}
    {f12 : Addr} {od12 an12 : Option Addr} {sl12 : Array (Option Value)} {oc12 kV12 dc12 pm12 cd12 ct12 : Value}
    {f13 : Addr} {od13 an13 : Option Addr} {sl13 : Array (Option Value)} {oc13 kV13 dc13 pm13 cd13 ct13 : Value}
    {f14 : Addr} {od14 an14 : Option Addr} {sl14 : Array (Option Value)} {oc14 kV14 dc14 pm14 cd14 ct14 : Value}
    (a0 : PySem.W.nsIn K mainGlobals "tokens_of" = some (some (.ref f0))) (l0 : K.lookup f0 = some ⟨oc0, od0, .func (PySem.W.fnOf "tokens_of" "tokens_of" (defArgs s_tokens_of) (defBody s_tokens_of) (defScope s_tokens_of) .none kV0 dc0 pm0 an0 cd0 ct0), sl0⟩) (c0 : PySem.W.codeIn K cd0 "tokens_of" = true) (k0 : PySem.W.keepIn K (.ref f0) = true)
    (a1 : PySem.W.nsIn K mainGlobals "_token_at" = some (some (.ref f1))) (l1 : K.lookup f1 = some ⟨oc1, od1, .func (PySem.W.fnOf "_token_at" "_token_at" (defArgs s__token_at) (defBody s__token_at) (defScope s__token_at) .none kV1 dc1 pm1 an1 cd1 ct1), sl1⟩) (c1 : PySem.W.codeIn K cd1 "_token_at" = true) (k1 : PySem.W.keepIn K (.ref f1) = true)
    (a2 : PySem.W.nsIn K mainGlobals "_word_at" = some (some (.ref f2))) (l2 : K.lookup f2 = some ⟨oc2, od2, .func (PySem.W.fnOf "_word_at" "_word_at" (defArgs s__word_at) (defBody s__word_at) (defScope s__word_at) .none kV2 dc2 pm2 an2 cd2 ct2), sl2⟩) (c2 : PySem.W.codeIn K cd2 "_word_at" = true) (k2 : PySem.W.keepIn K (.ref f2) = true)
    (a3 : PySem.W.nsIn K mainGlobals "_number_at" = some (some (.ref f3))) (l3 : K.lookup f3 = some ⟨oc3, od3, .func (PySem.W.fnOf "_number_at" "_number_at" (defArgs s__number_at) (defBody s__number_at) (defScope s__number_at) .none kV3 dc3 pm3 an3 cd3 ct3), sl3⟩) (c3 : PySem.W.codeIn K cd3 "_number_at" = true) (k3 : PySem.W.keepIn K (.ref f3) = true)
    (a4 : PySem.W.nsIn K mainGlobals "_string_at" = some (some (.ref f4))) (l4 : K.lookup f4 = some ⟨oc4, od4, .func (PySem.W.fnOf "_string_at" "_string_at" (defArgs s__string_at) (defBody s__string_at) (defScope s__string_at) .none kV4 dc4 pm4 an4 cd4 ct4), sl4⟩) (c4 : PySem.W.codeIn K cd4 "_string_at" = true) (k4 : PySem.W.keepIn K (.ref f4) = true)
    (a5 : PySem.W.nsIn K mainGlobals "_end_of_run" = some (some (.ref f5))) (l5 : K.lookup f5 = some ⟨oc5, od5, .func (PySem.W.fnOf "_end_of_run" "_end_of_run" (defArgs s__end_of_run) (defBody s__end_of_run) (defScope s__end_of_run) .none kV5 dc5 pm5 an5 cd5 ct5), sl5⟩) (c5 : PySem.W.codeIn K cd5 "_end_of_run" = true) (k5 : PySem.W.keepIn K (.ref f5) = true)
    (a6 : PySem.W.nsIn K mainGlobals "_law_tape" = some (some (.ref f6))) (l6 : K.lookup f6 = some ⟨oc6, od6, .func (PySem.W.fnOf "_law_tape" "_law_tape" (defArgs s__law_tape) (defBody s__law_tape) (defScope s__law_tape) .none kV6 dc6 pm6 an6 cd6 ct6), sl6⟩) (c6 : PySem.W.codeIn K cd6 "_law_tape" = true) (k6 : PySem.W.keepIn K (.ref f6) = true)
    (a7 : PySem.W.nsIn K mainGlobals "_law_draw" = some (some (.ref f7))) (l7 : K.lookup f7 = some ⟨oc7, od7, .func (PySem.W.fnOf "_law_draw" "_law_draw" (defArgs s__law_draw) (defBody s__law_draw) (defScope s__law_draw) .none kV7 dc7 pm7 an7 cd7 ct7), sl7⟩) (c7 : PySem.W.codeIn K cd7 "_law_draw" = true) (k7 : PySem.W.keepIn K (.ref f7) = true)
    (a8 : PySem.W.nsIn K mainGlobals "_law_name" = some (some (.ref f8))) (l8 : K.lookup f8 = some ⟨oc8, od8, .func (PySem.W.fnOf "_law_name" "_law_name" (defArgs s__law_name) (defBody s__law_name) (defScope s__law_name) .none kV8 dc8 pm8 an8 cd8 ct8), sl8⟩) (c8 : PySem.W.codeIn K cd8 "_law_name" = true) (k8 : PySem.W.keepIn K (.ref f8) = true)
    (a9 : PySem.W.nsIn K mainGlobals "_law_signs" = some (some (.ref f9))) (l9 : K.lookup f9 = some ⟨oc9, od9, .func (PySem.W.fnOf "_law_signs" "_law_signs" (defArgs s__law_signs) (defBody s__law_signs) (defScope s__law_signs) .none kV9 dc9 pm9 an9 cd9 ct9), sl9⟩) (c9 : PySem.W.codeIn K cd9 "_law_signs" = true) (k9 : PySem.W.keepIn K (.ref f9) = true)
    (a10 : PySem.W.nsIn K mainGlobals "_law_text" = some (some (.ref f10))) (l10 : K.lookup f10 = some ⟨oc10, od10, .func (PySem.W.fnOf "_law_text" "_law_text" (defArgs s__law_text) (defBody s__law_text) (defScope s__law_text) .none kV10 dc10 pm10 an10 cd10 ct10), sl10⟩) (c10 : PySem.W.codeIn K cd10 "_law_text" = true) (k10 : PySem.W.keepIn K (.ref f10) = true)
    (a11 : PySem.W.nsIn K mainGlobals "_law_word" = some (some (.ref f11))) (l11 : K.lookup f11 = some ⟨oc11, od11, .func (PySem.W.fnOf "_law_word" "_law_word" (defArgs s__law_word) (defBody s__law_word) (defScope s__law_word) .none kV11 dc11 pm11 an11 cd11 ct11), sl11⟩) (c11 : PySem.W.codeIn K cd11 "_law_word" = true) (k11 : PySem.W.keepIn K (.ref f11) = true)
    (a12 : PySem.W.nsIn K mainGlobals "_law_one" = some (some (.ref f12))) (l12 : K.lookup f12 = some ⟨oc12, od12, .func (PySem.W.fnOf "_law_one" "_law_one" (defArgs s__law_one) (defBody s__law_one) (defScope s__law_one) .none kV12 dc12 pm12 an12 cd12 ct12), sl12⟩) (c12 : PySem.W.codeIn K cd12 "_law_one" = true) (k12 : PySem.W.keepIn K (.ref f12) = true)
    (a13 : PySem.W.nsIn K mainGlobals "_law_parted" = some (some (.ref f13))) (l13 : K.lookup f13 = some ⟨oc13, od13, .func (PySem.W.fnOf "_law_parted" "_law_parted" (defArgs s__law_parted) (defBody s__law_parted) (defScope s__law_parted) .none kV13 dc13 pm13 an13 cd13 ct13), sl13⟩) (c13 : PySem.W.codeIn K cd13 "_law_parted" = true) (k13 : PySem.W.keepIn K (.ref f13) = true)
    (a14 : PySem.W.nsIn K mainGlobals "law" = some (some (.ref f14))) (l14 : K.lookup f14 = some ⟨oc14, od14, .func (PySem.W.fnOf "law" "law" (defArgs s_law) (defBody s_law) (defScope s_law) .none kV14 dc14 pm14 an14 cd14 ct14), sl14⟩) (c14 : PySem.W.codeIn K cd14 "law" = true) (k14 : PySem.W.keepIn K (.ref f14) = true)
    {t_LETTERS : Tok} (y_LETTERS : PySem.W.nsIn K mainGlobals "LETTERS" = some (some (.str "abcdefghijklmnopqrstuvwxyz" t_LETTERS)))
    {t_DIGITS : Tok} (y_DIGITS : PySem.W.nsIn K mainGlobals "DIGITS" = some (some (.str "0123456789" t_DIGITS)))
    {t_WORD_CHARACTERS : Tok} (y_WORD_CHARACTERS : PySem.W.nsIn K mainGlobals "WORD_CHARACTERS" = some (some (.str "abcdefghijklmnopqrstuvwxyz_0123456789" t_WORD_CHARACTERS)))
    {t_LONGEST_WORD : Tok} (y_LONGEST_WORD : PySem.W.nsIn K mainGlobals "LONGEST_WORD" = some (some (.int 16 t_LONGEST_WORD)))
    {t_MOST_DIGITS : Tok} (y_MOST_DIGITS : PySem.W.nsIn K mainGlobals "MOST_DIGITS" = some (some (.int 7 t_MOST_DIGITS)))
    {t_LARGEST_NUMBER : Tok} (y_LARGEST_NUMBER : PySem.W.nsIn K mainGlobals "LARGEST_NUMBER" = some (some (.int 1000000 t_LARGEST_NUMBER)))
    {t_LONGEST_STRING : Tok} (y_LONGEST_STRING : PySem.W.nsIn K mainGlobals "LONGEST_STRING" = some (some (.int 20 t_LONGEST_STRING)))
    {a_SYMBOLS : Addr} {od_SYMBOLS : Option Addr} {n_SYMBOLS : Nat} {sl_SYMBOLS : Array (Option Value)} {t0_SYMBOLS t1_SYMBOLS t2_SYMBOLS t3_SYMBOLS t4_SYMBOLS t5_SYMBOLS t6_SYMBOLS t7_SYMBOLS t8_SYMBOLS t9_SYMBOLS t10_SYMBOLS t11_SYMBOLS t12_SYMBOLS t13_SYMBOLS : Tok} (y_SYMBOLS : PySem.W.nsIn K mainGlobals "SYMBOLS" = some (some (.ref a_SYMBOLS))) (w_SYMBOLS : K.lookup a_SYMBOLS = some ⟨.type "tuple", od_SYMBOLS, .seq #[.str "!=" t0_SYMBOLS, .str "<=" t1_SYMBOLS, .str ">=" t2_SYMBOLS, .str "(" t3_SYMBOLS, .str ")" t4_SYMBOLS, .str "," t5_SYMBOLS, .str ";" t6_SYMBOLS, .str "|" t7_SYMBOLS, .str "=" t8_SYMBOLS, .str "<" t9_SYMBOLS, .str ">" t10_SYMBOLS, .str "+" t11_SYMBOLS, .str "-" t12_SYMBOLS, .str ":" t13_SYMBOLS] n_SYMBOLS, sl_SYMBOLS⟩)
    (z_abs : PySem.W.nsIn K mainGlobals "abs" = some none)
    (z_int : PySem.W.nsIn K mainGlobals "int" = some none)
    (z_len : PySem.W.nsIn K mainGlobals "len" = some none)
    (z_list : PySem.W.nsIn K mainGlobals "list" = some none)
    (z_max : PySem.W.nsIn K mainGlobals "max" = some none)
    (z_range : PySem.W.nsIn K mainGlobals "range" = some none)
    (z_repr : PySem.W.nsIn K mainGlobals "repr" = some none)
    (z_str : PySem.W.nsIn K mainGlobals "str" = some none)
    (z_tuple : PySem.W.nsIn K mainGlobals "tuple" = some none) :
  ∀ (base : Heap) (s : Shared) (H : Hp) (a : Addr) (ns : List Int), K.In base → base.Ns mainGlobals mg → Env0 l.prog w K mg base callerA [] s H → ns.length ≤ 63 → SqL K H a (ns.map V.int) →
      codeAny (model l.prog w) callerA (.call (.ref fa) ⟨[.ref a], []⟩) (CR CX0 [] l.prog w H s (fun v _ => v = .bl true) E0) s := by
  have e := hfa.symm.trans (PySem.W.mg_of X G a14)
  cases e
  have F0 := fun_mk (st := s_tokens_of) l0 c0 k0
  have b0 := F0.binds (ps := ["text"]) fun _ _ _ _ _ _ us hl => match us, hl with | [_], _ => rfl
  have F1 := fun_mk (st := s__token_at) l1 c1 k1
  have b1 := F1.binds (ps := ["text", "place"]) fun _ _ _ _ _ _ us hl => match us, hl with | [_, _], _ => rfl
  have F2 := fun_mk (st := s__word_at) l2 c2 k2
  have b2 := F2.binds (ps := ["text", "place"]) fun _ _ _ _ _ _ us hl => match us, hl with | [_, _], _ => rfl
  have F3 := fun_mk (st := s__number_at) l3 c3 k3
  have b3 := F3.binds (ps := ["text", "place"]) fun _ _ _ _ _ _ us hl => match us, hl with | [_, _], _ => rfl
  have F4 := fun_mk (st := s__string_at) l4 c4 k4
  have b4 := F4.binds (ps := ["text", "place"]) fun _ _ _ _ _ _ us hl => match us, hl with | [_, _], _ => rfl
  have F5 := fun_mk (st := s__end_of_run) l5 c5 k5
  have b5 := F5.binds (ps := ["text", "place", "characters"]) fun _ _ _ _ _ _ us hl => match us, hl with | [_, _, _], _ => rfl
  have F6 := fun_mk (st := s__law_tape) l6 c6 k6
  have b6 := F6.binds (ps := ["script"]) fun _ _ _ _ _ _ us hl => match us, hl with | [_], _ => rfl
  have F7 := fun_mk (st := s__law_draw) l7 c7 k7
  have b7 := F7.binds (ps := ["tape", "many"]) fun _ _ _ _ _ _ us hl => match us, hl with | [_, _], _ => rfl
  have F8 := fun_mk (st := s__law_name) l8 c8 k8
  have b8 := F8.binds (ps := ["tape"]) fun _ _ _ _ _ _ us hl => match us, hl with | [_], _ => rfl
  have F9 := fun_mk (st := s__law_signs) l9 c9 k9
  have b9 := F9.binds (ps := []) fun _ _ _ _ _ _ us hl => match us, hl with | [], _ => rfl
  have F10 := fun_mk (st := s__law_text) l10 c10 k10
  have b10 := F10.binds (ps := ["tape"]) fun _ _ _ _ _ _ us hl => match us, hl with | [_], _ => rfl
  have F11 := fun_mk (st := s__law_word) l11 c11 k11
  have b11 := F11.binds (ps := ["tape"]) fun _ _ _ _ _ _ us hl => match us, hl with | [_], _ => rfl
  have F12 := fun_mk (st := s__law_one) l12 c12 k12
  have b12 := F12.binds (ps := ["tape"]) fun _ _ _ _ _ _ us hl => match us, hl with | [_], _ => rfl
  have F13 := fun_mk (st := s__law_parted) l13 c13 k13
  have b13 := F13.binds (ps := ["before", "after"]) fun _ _ _ _ _ _ us hl => match us, hl with | [_, _], _ => rfl
  have F14 := fun_mk (st := s_law) l14 c14 k14
  have b14 := F14.binds (ps := ["script"]) fun _ _ _ _ _ _ us hl => match us, hl with | [_], _ => rfl
  intro base s H a ns _ _ e0 hl hS
  let T : Txt l.prog w K mg := ⟨f0, _, F0, b0, PySem.W.mg_of X G a0, f1, _, F1, b1, PySem.W.mg_of X G a1, f2, _, F2, b2, PySem.W.mg_of X G a2, f3, _, F3, b3, PySem.W.mg_of X G a3, f4, _, F4, b4, PySem.W.mg_of X G a4, f5, _, F5, b5, PySem.W.mg_of X G a5, f6, _, F6, b6, PySem.W.mg_of X G a6, f7, _, F7, b7, PySem.W.mg_of X G a7, f8, _, F8, b8, PySem.W.mg_of X G a8, f9, _, F9, b9, PySem.W.mg_of X G a9, f10, _, F10, b10, PySem.W.mg_of X G a10, f11, _, F11, b11, PySem.W.mg_of X G a11, f12, _, F12, b12, PySem.W.mg_of X G a12, f13, _, F13, b13, PySem.W.mg_of X G a13, fa, _, F14, b14, PySem.W.mg_of X G a14, _, PySem.W.mg_of X G y_LETTERS, _, PySem.W.mg_of X G y_DIGITS, _, PySem.W.mg_of X G y_WORD_CHARACTERS, _, PySem.W.mg_of X G y_LONGEST_WORD, _, PySem.W.mg_of X G y_MOST_DIGITS, _, PySem.W.mg_of X G y_LARGEST_NUMBER, _, PySem.W.mg_of X G y_LONGEST_STRING, a_SYMBOLS, PySem.W.mg_of X G y_SYMBOLS, fun H => .inr ⟨_, _, _, w_SYMBOLS, rfl, rfl, line (by simp), .cons ⟨_, rfl⟩ (.cons ⟨_, rfl⟩ (.cons ⟨_, rfl⟩ (.cons ⟨_, rfl⟩ (.cons ⟨_, rfl⟩ (.cons ⟨_, rfl⟩ (.cons ⟨_, rfl⟩ (.cons ⟨_, rfl⟩ (.cons ⟨_, rfl⟩ (.cons ⟨_, rfl⟩ (.cons ⟨_, rfl⟩ (.cons ⟨_, rfl⟩ (.cons ⟨_, rfl⟩ (.cons ⟨_, rfl⟩ (.nil))))))))))))))⟩, PySem.W.mg_none_of X G z_abs, PySem.W.mg_none_of X G z_int, PySem.W.mg_none_of X G z_len, PySem.W.mg_none_of X G z_list, PySem.W.mg_none_of X G z_max, PySem.W.mg_none_of X G z_range, PySem.W.mg_none_of X G z_repr, PySem.W.mg_none_of X G z_str, PySem.W.mg_none_of X G z_tuple⟩
  exact IndEnd.fun_at (us := [.ref a]) (vs := [.ref a]) F14 sc_law (k := 4) ⟨rfl, by decide, by decide⟩ e0 (.of_eq rfl) (.cons rfl .nil) rfl fun cdv hr => law_body (P := l.prog) (w := w) (base := base) T hS hl (fun _ z => (nomatch z)) cdv hr
end
end Va
open PySem PySem.W PyProof.Rows
set_option maxHeartbeats 0 in
theorem PySem.Challenge.cw_indoubt_k77_tokens_of_a_text_holds : PySem.Challenge.rw_indoubt_k77_tokens_of_a_text.Holds := by
  w_on; o_law; k_head; (case hw => w_witness2)
  k_fill
  refine IndEnd.walk_at_caller (l := PySem.Challenge.rw_indoubt_k77_tokens_of_a_text) (n := 63) rfl (by decide) rfl (fun w h Y => PySem.W.kIn_of Y) ?F
  case F =>
    intro w mg fa h KX G hmg
    refine' Va.all_mk KX G hmg ?a0 ?l0 ?c0 ?k0 ?a1 ?l1 ?c1 ?k1 ?a2 ?l2 ?c2 ?k2 ?a3 ?l3 ?c3 ?k3 ?a4 ?l4 ?c4 ?k4 ?a5 ?l5 ?c5 ?k5 ?a6 ?l6 ?c6 ?k6 ?a7 ?l7 ?c7 ?k7 ?a8 ?l8 ?c8 ?k8 ?a9 ?l9 ?c9 ?k9 ?a10 ?l10 ?c10 ?k10 ?a11 ?l11 ?c11 ?k11 ?a12 ?l12 ?c12 ?k12 ?a13 ?l13 ?c13 ?k13 ?a14 ?l14 ?c14 ?k14 ?y_LETTERS ?y_DIGITS ?y_WORD_CHARACTERS ?y_LONGEST_WORD ?y_MOST_DIGITS ?y_LARGEST_NUMBER ?y_LONGEST_STRING ?y_SYMBOLS ?w_SYMBOLS ?z_abs ?z_int ?z_len ?z_list ?z_max ?z_range ?z_repr ?z_str ?z_tuple
    (case a0 => k_is); (case l0 => k_is); (case c0 => k_is); (case k0 => k_is); (case a1 => k_is); (case l1 => k_is); (case c1 => k_is); (case k1 => k_is); (case a2 => k_is); (case l2 => k_is); (case c2 => k_is); (case k2 => k_is); (case a3 => k_is); (case l3 => k_is); (case c3 => k_is); (case k3 => k_is); (case a4 => k_is); (case l4 => k_is); (case c4 => k_is); (case k4 => k_is); (case a5 => k_is); (case l5 => k_is); (case c5 => k_is); (case k5 => k_is); (case a6 => k_is); (case l6 => k_is); (case c6 => k_is); (case k6 => k_is); (case a7 => k_is); (case l7 => k_is); (case c7 => k_is); (case k7 => k_is); (case a8 => k_is); (case l8 => k_is); (case c8 => k_is); (case k8 => k_is); (case a9 => k_is); (case l9 => k_is); (case c9 => k_is); (case k9 => k_is); (case a10 => k_is); (case l10 => k_is); (case c10 => k_is); (case k10 => k_is); (case a11 => k_is); (case l11 => k_is); (case c11 => k_is); (case k11 => k_is); (case a12 => k_is); (case l12 => k_is); (case c12 => k_is); (case k12 => k_is); (case a13 => k_is); (case l13 => k_is); (case c13 => k_is); (case k13 => k_is); (case a14 => k_is); (case l14 => k_is); (case c14 => k_is); (case k14 => k_is); (case y_LETTERS => k_is); (case y_DIGITS => k_is); (case y_WORD_CHARACTERS => k_is); (case y_LONGEST_WORD => k_is); (case y_MOST_DIGITS => k_is); (case y_LARGEST_NUMBER => k_is); (case y_LONGEST_STRING => k_is); (case y_SYMBOLS => k_is); (case w_SYMBOLS => k_is); (case z_abs => k_is); (case z_int => k_is); (case z_len => k_is); (case z_list => k_is); (case z_max => k_is); (case z_range => k_is); (case z_repr => k_is); (case z_str => k_is); (case z_tuple => k_is)
