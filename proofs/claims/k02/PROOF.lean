import PyProof.Rows.All
import Wide.All
import OpenK.AllK
import Wide.FinOn
import HandS.Base
import HandS.Call
import HandS.List
import HandS.Ends
import HandS.Words
import HandS.WordsList
import HandS.Text
import HandS.Comp
import HandS.Iter
import HandS.Wide
import HandS.Exc
import HandS.RaiseOp
import HandS.StrMore
import HandS.TupLe
import HandS.Zip0
import HandS.Replace
import PyProof.Rows.RuleB_bool
import PyProof.FString5
import HandS.IsInst
import HandS.Dict
import KE.KDictPairs
import KE.KIndexOf
import PyProof.ReprRoads
import PyProof.FitsInt
import PyProof.ReprLen
import PyProof.StrLawsRepr
import PySem.Challenge.RW_indoubt_k02_values_of_expressions
set_option Elab.async false
set_option linter.all false
set_option maxRecDepth 100000
set_option maxHeartbeats 4000000
namespace Ind
open PySem PySem.Spec PyProof.Rows L2
/-! ### heaps: all but the tape stands -/
def Fz (t : Addr) (H H' : Hp) : Prop := ∀ b o, b ≠ t → H b = some o → H' b = some o
theorem Fz.refl {t : Addr} {H : Hp} : Fz t H H := fun _ _ _ h => h
theorem Fz.trans {t : Addr} {H H1 H2 : Hp} (a : Fz t H H1) (b : Fz t H1 H2) : Fz t H H2 := fun c o n h => b c o n (a c o n h)
theorem Fz.of {t : Addr} {H H' : Hp} (a : Same H H') : Fz t H H' := fun b o _ h => a b o h
theorem Fz.upd {t : Addr} {H H' : Hp} {o : HO} (a : Fz t H H') : Fz t H (upd H' t o) := fun b u n h => by rw [upd_ne n]; exact a b u n h
theorem Fz.new {t p : Addr} {H H' : Hp} {o : HO} (a : Fz t H H') (n : H' p = none) : Fz t H (L2.upd H' p o) := fun b u nb h => by
  have e := a b u nb h
  rw [upd_ne (ne_of_none e n)]; exact e
theorem same_upd {H : Hp} {p : Addr} {o : HO} (h : H p = none) : Same H (upd H p o) := fun b x e => by
  rw [upd_ne (ne_of_none e h)]; exact e
theorem Same.new {p : Addr} {H H' : Hp} {o : HO} (a : Same H H') (n : H' p = none) : Same H (L2.upd H' p o) := a.trans (same_upd n)
theorem line {n : Nat} (h : n ≤ 1000) : n ≤ sizeLine := Nat.le_trans h (by decide)
/-- what holds between two turns (kept shut) -/
inductive Iv (p : Prop) : Prop
  | a (h : p) : Iv p
  | b (h : False) : Iv p
theorem Iv.out {p : Prop} (h : Iv p) : p := by cases h with | a h => exact h | b h => exact h.elim
/-! ### the tape: its list, and the list of the script in it -/
structure Tp where
  a : Addr
  l : Addr
def TapeAt (H : Hp) (t : Tp) : Prop := ∃ (ns : List Int) (p n s : Int),
  H t.a = some (.lst [.ref t.l, .int p, .int n, .int s]) ∧ H t.l = some (.lst (ns.map V.int)) ∧ ns.length ≤ 1000 ∧ 0 ≤ p ∧ 0 ≤ n ∧ 0 ≤ s ∧ s < 2147483647
theorem Tape.ne {H : Hp} {t l : Addr} {ns : List Int} {p n s : Int} (h : H t = some (.lst [.ref l, .int p, .int n, .int s])) (h' : H l = some (.lst (ns.map V.int))) : l ≠ t := fun e => by
  rw [e, h] at h'
  injection h' with h'
  injection h' with h'
  cases ns with
  | nil => cases h'
  | cons a r => injection h' with a1 a2; cases a1
theorem TapeAt.same {H H' : Hp} {t : Tp} (h : TapeAt H t) (e : Same H H') : TapeAt H' t := by
  obtain ⟨ns, p, n, s, h1, h2, h3⟩ := h
  exact ⟨ns, p, n, s, e _ _ h1, e _ _ h2, h3⟩
theorem TapeAt.new {H : Hp} {t : Tp} {p : Addr} {o : HO} (h : TapeAt H t) (n : H p = none) : TapeAt (upd H p o) t := h.same (same_upd n)
theorem TapeAt.there {H : Hp} {t : Tp} (h : TapeAt H t) : (∃ o, H t.a = some o) ∧ ∃ o, H t.l = some o := by
  obtain ⟨ns, p, n, s, h1, h2, _⟩ := h
  exact ⟨⟨_, h1⟩, ⟨_, h2⟩⟩
/-- an address that was free beside the tape -/
structure Off (t : Tp) (b : Addr) : Prop where
  a : b ≠ t.a
  l : b ≠ t.l
theorem TapeAt.off {H : Hp} {t : Tp} {b : Addr} (h : TapeAt H t) (e : H b = none) : Off t b := by
  obtain ⟨⟨o, q⟩, ⟨u, r⟩⟩ := h.there
  refine ⟨?_, ?_⟩
  · intro z; rw [z, q] at e; cases e
  · intro z; rw [z, r] at e; cases e
theorem TapeAt.upd {H : Hp} {t : Tp} {b : Addr} {o : HO} (h : TapeAt H t) (e : Off t b) : TapeAt (L2.upd H b o) t := by
  obtain ⟨ns, p, n, s, h1, h2, h3⟩ := h
  exact ⟨ns, p, n, s, by rw [upd_ne e.a.symm]; exact h1, by rw [upd_ne e.l.symm]; exact h2, h3⟩
theorem Fz.upd' {t p : Addr} {H H' : Hp} {o : HO} (a : Fz t H H') (n : H p = none) : Fz t H (L2.upd H' p o) := fun b u nb h => by
  rw [upd_ne (ne_of_none h n)]; exact a b u nb h
theorem rd {K : PySem.W.Frag} {H : Hp} {p : Addr} {xs : List V} {Q : VK} (h : H p = some (.lst xs)) (j : Nat) {v : V} (e : xs[j]? = some v) (q : Q v H) : rIxL K (.ref p) (.int (j : Int)) H Q := ⟨_, _, _, _, rfl, rfl, .of h, atI_nat e, q⟩
theorem rdT {K : PySem.W.Frag} {H : Hp} {p : Addr} {xs : List V} {Q : VK} (h : H p = some (.tup xs)) (j : Nat) {v : V} (e : xs[j]? = some v) (q : Q v H) : rIxT K (.ref p) (.int (j : Int)) H Q := ⟨_, _, _, _, rfl, rfl, .of h, atI_nat e, q⟩
theorem rdI {K : PySem.W.Frag} {H : Hp} {p : Addr} {xs : List V} {Q : VK} (h : H p = some (.lst xs)) {i : Int} (j : Nat) (ej : i = (j : Int)) {v : V} (e : xs[j]? = some v) (q : Q v H) : rIxL K (.ref p) (.int i) H Q := ⟨_, _, _, _, rfl, rfl, .of h, at_of ej e, q⟩
theorem wr {H : Hp} {p : Addr} {xs : List V} {Q : Hp → Prop} {v : V} (h : H p = some (.lst xs)) (j : Nat) (e : ixN xs.length (j : Int) = some j) (q : Q (upd H p (.lst (xs.set j v)))) : rSetL (.ref p) (.int (j : Int)) v H Q := ⟨_, _, _, _, rfl, rfl, h, e, q⟩
/-! ### promises -/
/-- what a draw may be asked for: a bound that can be divided by -/
def Dm (m : Int) : Prop := ∀ x : Int, CDivW x (if (2 : Int) > m then 2 else m)
theorem dm {m : Int} (h : m < 1606938044258990275541962092341162602522202993782792835301376) : Dm m := fun x => by
  refine wide_div (b := 200) ?_ ?_ (by decide) (by decide)
  · split <;> omega
  · have e : (2 : Nat) ^ 200 = 1606938044258990275541962092341162602522202993782792835301376 := by decide +kernel
    rw [e]
    split <;> omega
def spTape (K : PySem.W.Frag) : Sp := fun vs H Q _ => ∃ (a : Addr) (ns : List Int), vs = [.ref a] ∧ SqL K H a (ns.map V.int) ∧ ns.length ≤ 63 ∧
  ∀ H' (t : Tp), Same H H' → H t.a = none → H t.l = none → TapeAt H' t → Q (.ref t.a) H'
def spDraw : Sp := fun vs H Q _ => ∃ (t : Tp) (m : Int), vs = [.ref t.a, .int m] ∧ TapeAt H t ∧ Dm m ∧
  ∀ H' r, Fz t.a H H' → TapeAt H' t → 0 ≤ r → (r < m ∨ r < 1) → Q (.int r) H'
end Ind

set_option Elab.async false
set_option linter.all false
set_option maxRecDepth 100000
set_option maxHeartbeats 4000000
namespace Ind
open PySem PySem.Spec PyProof.Rows L2
theorem small_div {x j : Int} (h : 0 < j) (h2 : j < 1606938044258990275541962092341162602522202993782792835301376) : CDivW x j := by
  refine wide_div (b := 200) h ?_ (by decide) (by decide)
  have e : (2 : Nat) ^ 200 = 1606938044258990275541962092341162602522202993782792835301376 := by decide +kernel
  rw [e]
  omega
/-! ### texts -/
theorem codes_app (a y : PySem.Str) : (a ++ y).cps.toList = a.cps.toList ++ y.cps.toList := by
  cases a; cases y
  show (_ ++ _ : Array Nat).toList = _
  simp
theorem codes_len (a : PySem.Str) : a.length = a.cps.toList.length := (Array.length_toList).symm
theorem codes_one (c : Nat) : (⟨#[c]⟩ : PySem.Str).cps.toList = [c] := rfl
def Sgn (c : Nat) : Prop := 32 ≤ c ∧ c ≤ 126 ∧ c ≠ 37
instance (c : Nat) : Decidable (Sgn c) := inferInstanceAs (Decidable (32 ≤ c ∧ c ≤ 126 ∧ c ≠ 37))
def Sgns (x : PySem.Str) : Prop := ∀ c ∈ x.cps.toList, Sgn c
def TxtOk (x : PySem.Str) : Prop := x.length ≤ 20 ∧ Sgns x
theorem Sgns.app {x y : PySem.Str} (a : Sgns x) (b : Sgns y) : Sgns (x ++ y) := fun c h => by
  rw [codes_app] at h
  exact (List.mem_append.mp h).elim (a c) (b c)
theorem Sgns.one {c : Nat} (h : Sgn c) : Sgns ⟨#[c]⟩ := fun d hd => by
  have e : d = c := by simpa [codes_one] using hd
  rw [e]; exact h
theorem len_app (x y : PySem.Str) : (x ++ y).length = x.length + y.length := by
  rw [codes_len, codes_len, codes_len, codes_app, List.length_append]
theorem len_one (c : Nat) : (⟨#[c]⟩ : PySem.Str).length = 1 := rfl
abbrev sgA : PySem.Str := " !\"#$&'()*+,-./0123456789:;<=>?@ABCDEFGHIJKLMNOPQRSTUVWXYZ[\\]^_`"
abbrev sgB : PySem.Str := "abcdefghijklmnopqrstuvwxyz{|}~"
def sg : PySem.Str := sgA ++ sgB
theorem sg_codes : sg.cps.toList = (List.range' 32 5) ++ (List.range' 38 89) := by decide +kernel
theorem sg_len : sg.length = 94 := by rw [codes_len, sg_codes]; rfl
theorem sg_all : ∀ c ∈ sg.cps.toList, Sgn c := by rw [sg_codes]; decide +kernel
/-- an item of a written list of whole numbers -/
theorem pick {ns : List Int} {i : Int} (h0 : 0 ≤ i) (h1 : i < (ns.length : Int)) : ∃ x, atI (ns.map V.int) i = some (.int x) ∧ x ∈ ns := by
  have hlt : i.toNat < ns.length := by omega
  refine ⟨ns[i.toNat], at_of (show i = (i.toNat : Int) by omega) ?_, List.getElem_mem hlt⟩
  rw [List.getElem?_map, List.getElem?_eq_getElem hlt]
  rfl
theorem pickS {l : List Nat} {i : Int} (h0 : 0 ≤ i) (h1 : i < (l.length : Int)) : ∃ x, atI l i = some x ∧ x ∈ l := by
  have hlt : i.toNat < l.length := by omega
  have e := atI_nat (xs := l) (j := i.toNat) (v := l[i.toNat]) (List.getElem?_eq_getElem hlt)
  rw [show ((i.toNat : Nat) : Int) = i by omega] at e
  exact ⟨_, e, List.getElem_mem hlt⟩
theorem sg_pick {i : Int} (h0 : 0 ≤ i) (h1 : i < 94) : ∃ c, atI sg.cps.toList i = some c ∧ Sgn c := by
  obtain ⟨c, e, m⟩ := pickS (l := sg.cps.toList) h0 (by rw [← codes_len, sg_len]; omega)
  exact ⟨c, e, sg_all c m⟩
theorem sgns_nil : Sgns ("" : PySem.Str) := fun c h => by cases h
theorem quad_all : ∀ c ∈ ("abB' " : PySem.Str).cps.toList, Sgn c := by decide +kernel
theorem quad_len : ("abB' " : PySem.Str).cps.toList.length = 5 := by decide +kernel
theorem txt_push {x : PySem.Str} {c : Nat} (hs : Sgns x) (h : Sgn c) : Sgns (x ++ ⟨#[c]⟩) := hs.app (.one h)
theorem len_push {x : PySem.Str} {c n : Nat} (h : x.length ≤ n) : (x ++ (⟨#[c]⟩ : PySem.Str)).length ≤ n + 1 := by rw [len_app, len_one]; omega
def sgIx (c : Nat) : Nat := if c < 37 then c - 32 else c - 33
theorem sg_occ : ∀ c, c < 127 → Sgn c → Builtin.Str.occurrences sg ⟨#[c]⟩ 0 sg.length 1 = [sgIx c] := by decide +kernel
theorem sg_index {c : Nat} (h : Sgn c) : Builtin.Str.occurrences sg ⟨#[c]⟩ 0 sg.length 1 = sgIx c :: [] := sg_occ c (by have := h.2.1; omega) h
theorem sgIx_lt {c d : Nat} (h : Sgn c) (k : Sgn d) : sgIx c < sgIx d ↔ c < d := by
  obtain ⟨a1, a2, a3⟩ := h
  obtain ⟨b1, b2, b3⟩ := k
  unfold sgIx
  split <;> split <;> omega
/-! ### slices of texts -/
theorem cut_lo (z : PySem.Str) (k : Nat) (h : k ≤ z.length) : (cutS z none (some (k : Int))).cps.toList = z.cps.toList.take k := by
  unfold cutS
  rw [show HT.sIx z.length z.length (some (k : Int)) = min k z.length from HT.sIx_nat _ _ _, HT.sIx_none, Nat.min_eq_left h]
  simp
theorem cut_hi (z : PySem.Str) (k : Nat) : (cutS z (some (k : Int)) none).cps.toList = z.cps.toList.drop (min k z.length) := by
  unfold cutS
  rw [show HT.sIx z.length 0 (some (k : Int)) = min k z.length from HT.sIx_nat _ _ _, HT.sIx_none]
  show (List.take _ _).toArray.toList = _
  rw [List.take_of_length_le]
  rw [List.length_drop, codes_len]
  exact Nat.le_refl _
theorem cut_sgns {z : PySem.Str} {lo hi : Option Int} (h : Sgns z) : Sgns (cutS z lo hi) := fun c m => by
  unfold cutS at m
  exact h c (List.mem_of_mem_drop (List.mem_of_mem_take (by simpa using m)))
theorem cut_len_hi (z : PySem.Str) (k : Nat) : (cutS z none (some (k : Int))).length ≤ k := by
  rw [codes_len]
  unfold cutS
  rw [show HT.sIx z.length z.length (some (k : Int)) = min k z.length from HT.sIx_nat _ _ _, HT.sIx_none]
  show (List.take _ _).toArray.toList.length ≤ _
  rw [List.length_take]
  omega
/-! ### values: whole numbers and texts -/
def ValOk : V → Prop
  | .int _ => True
  | .str x => TxtOk x
  | _ => False
def kindB : V → Bool
  | .str _ => true
  | _ => false
theorem dec_ii {i j : Int} : decide (V.int i = V.int j) = decide (i = j) := by
  by_cases e : i = j
  · subst e; simp
  · simp [e]
def vLt : V → V → Bool
  | .int i, .int j => decide (i < j)
  | .int _, .str _ => true
  | .str x, .str y => decide (x.cps.toList < y.cps.toList)
  | _, _ => false
theorem ValOk.cases {v : V} (h : ValOk v) : (∃ i, v = .int i) ∨ ∃ x, v = .str x ∧ TxtOk x := by
  cases v with
  | int i => exact .inl ⟨i, rfl⟩
  | str x => exact .inr ⟨x, rfl, h⟩
  | _ => exact h.elim
def spText : Sp := fun vs H Q _ => ∃ (t : Tp), vs = [.ref t.a] ∧ TapeAt H t ∧ ∀ H' x, Fz t.a H H' → TapeAt H' t → TxtOk x → Q (.str x) H'
def spAny : Sp := fun vs H Q _ => ∃ (t : Tp), vs = [.ref t.a] ∧ TapeAt H t ∧ ∀ H' v, Fz t.a H H' → TapeAt H' t → ValOk v → Q v H'
def spNear : Sp := fun vs H Q _ => ∃ (t : Tp) (x : V), vs = [.ref t.a, x] ∧ ValOk x ∧ TapeAt H t ∧ ∀ H' v, Fz t.a H H' → TapeAt H' t → ValOk v → Q v H'
def spSigns : Sp := fun vs H Q _ => vs = [] ∧ Q (.str sg) H
def spBefore : Sp := fun vs H Q _ => ∃ x y, vs = [x, y] ∧ ValOk x ∧ ValOk y ∧ ∀ H', Same H H' → Q (.bl (vLt x y)) H'
def spIs : Sp := fun vs H Q _ => ∃ x y : Int, vs = [.int x, .int y] ∧ Q (.bl (decide (x = y))) H
def spKey : Sp := fun vs H Q _ => ∃ x, vs = [x] ∧ ValOk x ∧ ∀ p, H p = none → Q (.ref p) (upd H p (.tup [.bl (kindB x), x]))
def spCmp : Sp := fun vs H Q _ => ∃ x y, vs = [x, y] ∧ ValOk x ∧ ValOk y ∧ ∀ H', Same H H' → Q (.int (if vLt x y then -1 else if vLt y x then 1 else 0)) H'
def spLaw (K : PySem.W.Frag) : Sp := fun vs H Q _ => ∃ (a : Addr) (ns : List Int), vs = [.ref a] ∧ SqL K H a (ns.map V.int) ∧ ns.length ≤ 63 ∧ ∀ H', Q (.bl true) H'
end Ind

set_option Elab.async false
set_option linter.all false
set_option maxRecDepth 100000
set_option maxHeartbeats 4000000
namespace IndCmp
open PySem PySem.SeqAt Ob
open PySem.AutoSeq1 (wpAny_loadPart')
open PySem.MeetsSeq PySem.MeetsSeq2 PySem.MeetsSeq3

theorem ltAt (l b : Addr) (xs ys : Array Value) (n n2 : Nat) (dd dd2 : Option Addr) (sl sl2 : Array (Option Value)) (e r : Nat → Bool) :
    Meets (Builtin.«tuple.__lt__» ⟨[.ref l, .ref b], []⟩) (fun A R s =>
      (s.heap.get? l = some { cls := .type "tuple", dict := dd, data := .seq xs n, slots := sl }) ∧
      (s.heap.get? b = some { cls := .type "tuple", dict := dd2, data := .seq ys n2, slots := sl2 }) ∧
      (∀ j (h1 : j < xs.size) (h2 : j < ys.size), EqAt A.in1 s xs[j] ys[j] (e j)) ∧
      (∀ j (h1 : j < xs.size) (h2 : j < ys.size), (∀ k, k < j → e k = true) → e j = false → RcOp .Lt A.in1 s xs[j] ys[j] (r j)) ∧
      R (.ok (.ret (.bool (lexAt e r (decide (xs.size < ys.size)) 0 (min xs.size ys.size))))) s) :=
  .of_wp fun prog w A R s hh => by
    obtain ⟨hp, g, d, tk, os⟩ := s
    obtain ⟨a1, a2, qe, qr, hh⟩ := hh
    have sb := AutoSeq1.sub_tuple_tuple
    have zz : (xs.toList.zip ys.toList).length = min xs.size ys.size := by simp
    wp_walk using wpAny_loadPart' a1, wpAny_loadPart' a2, wpAny_forIn_list _ (fun rest b s' =>
      b.1 = none ∧ s' = ⟨hp, g, d, tk, os⟩ ∧ ∃ i, rest = (xs.toList.zip ys.toList).drop i ∧ (∀ k, k < i → e k = true) ∧
      R (.ok (.ret (.bool (lexAt e r (decide (xs.size < ys.size)) i (min xs.size ys.size - i))))) ⟨hp, g, d, tk, os⟩) _
    case turn =>
      rintro ⟨y, x⟩ rest b s' ⟨nb, rfl, i, hz, before, goal⟩
      have il : i < (xs.toList.zip ys.toList).length := by
        by_cases c : i < (xs.toList.zip ys.toList).length
        · exact c
        · rw [List.drop_of_length_le (by omega)] at hz
          cases hz
      have im : i < min xs.size ys.size := by omega
      have i1 : i < xs.size := by omega
      have i2 : i < ys.size := by omega
      rw [List.drop_eq_getElem_cons il] at hz
      injection hz with pr tl
      have ey : y = xs[i] := by have t1 := congrArg Prod.fst pr; simpa using t1
      have ex : x = ys[i] := by have t1 := congrArg Prod.snd pr; simpa using t1
      subst ey ex
      have step : min xs.size ys.size - i = (min xs.size ys.size - (i + 1)) + 1 := by omega
      rw [step, lexAt_succ] at goal
      refine wpAny_bind (qe i i1 i2 prog w _ _ ?_)
      cases c : e i with
      | true =>
        rw [c, if_pos rfl] at goal
        wp_walk
        refine ⟨rfl, rfl, i + 1, tl, fun k hk => ?_, goal⟩
        by_cases ki : k = i
        · rw [ki]; exact c
        · exact before k (by omega)
      | false =>
        rw [c, if_neg Bool.false_ne_true] at goal
        have now := qr i i1 i2 before c prog w
        wp_walk using now
        exact ⟨_, rfl, by simpa using goal⟩
    case fin =>
      rintro ⟨b1, b2⟩ s' ⟨nb, rfl, i, hz, before, goal⟩
      simp only at nb
      subst nb
      have le : min xs.size ys.size ≤ i := by
        by_cases c : i < (xs.toList.zip ys.toList).length
        · rw [List.drop_eq_getElem_cons c] at hz
          cases hz
        · omega
      rw [Nat.sub_eq_zero_of_le le, lexAt_zero] at goal
      wp_walk
      exact ⟨_, rfl, by simpa [Builtin.Tuple.tupleCompareSizes] using goal⟩
    case h =>
      exact ⟨rfl, rfl, 0, rfl, fun k hk => absurd hk (Nat.not_lt_zero _), by simpa using hh⟩
theorem rc_lt {A : Around} {s : Shared} {l b : Addr} {xs ys : Array Value} {e r : Nat → Bool} (hl : s.heap.IsTuple l xs) (hb : s.heap.IsTuple b ys) (room : A.units < cLine)
    (qe : ∀ j (h1 : j < xs.size) (h2 : j < ys.size), EqAt A.in1 s xs[j] ys[j] (e j))
    (qr : ∀ j (h1 : j < xs.size) (h2 : j < ys.size), (∀ k, k < j → e k = true) → e j = false → RcOp .Lt A.in1 s xs[j] ys[j] (r j)) :
    RcOp .Lt A s (.ref l) (.ref b) (lexAt e r (decide (xs.size < ys.size)) 0 (min xs.size ys.size)) := fun prog w E Q hq => by
  obtain ⟨⟨c1, dd, da, sl⟩, o1, hc, n, hd⟩ := id hl
  obtain ⟨⟨c2, dd2, da2, sl2⟩, o2, hc2, n2, hd2⟩ := id hb
  simp only at hc hd hc2 hd2
  subst hc hd hc2 hd2
  refine richCompare_meets_room (op := .Lt) ⟨_, o1, rfl⟩ ⟨_, o2, rfl⟩ F.slot_tuple_lt F.entry_tuple_lt
    (F.args_tuple_lt_2 _ _) (ltAt l b xs ys n n2 dd dd2 sl sl2 e r) ⟨o1, o2, qe, qr, ?_⟩ room
  exact ⟨(fun x => nomatch x), hq⟩

theorem gtAt (l b : Addr) (xs ys : Array Value) (n n2 : Nat) (dd dd2 : Option Addr) (sl sl2 : Array (Option Value)) (e r : Nat → Bool) :
    Meets (Builtin.«tuple.__gt__» ⟨[.ref l, .ref b], []⟩) (fun A R s =>
      (s.heap.get? l = some { cls := .type "tuple", dict := dd, data := .seq xs n, slots := sl }) ∧
      (s.heap.get? b = some { cls := .type "tuple", dict := dd2, data := .seq ys n2, slots := sl2 }) ∧
      (∀ j (h1 : j < xs.size) (h2 : j < ys.size), EqAt A.in1 s xs[j] ys[j] (e j)) ∧
      (∀ j (h1 : j < xs.size) (h2 : j < ys.size), (∀ k, k < j → e k = true) → e j = false → RcOp .Gt A.in1 s xs[j] ys[j] (r j)) ∧
      R (.ok (.ret (.bool (lexAt e r (decide (xs.size > ys.size)) 0 (min xs.size ys.size))))) s) :=
  .of_wp fun prog w A R s hh => by
    obtain ⟨hp, g, d, tk, os⟩ := s
    obtain ⟨a1, a2, qe, qr, hh⟩ := hh
    have sb := AutoSeq1.sub_tuple_tuple
    have zz : (xs.toList.zip ys.toList).length = min xs.size ys.size := by simp
    wp_walk using wpAny_loadPart' a1, wpAny_loadPart' a2, wpAny_forIn_list _ (fun rest b s' =>
      b.1 = none ∧ s' = ⟨hp, g, d, tk, os⟩ ∧ ∃ i, rest = (xs.toList.zip ys.toList).drop i ∧ (∀ k, k < i → e k = true) ∧
      R (.ok (.ret (.bool (lexAt e r (decide (xs.size > ys.size)) i (min xs.size ys.size - i))))) ⟨hp, g, d, tk, os⟩) _
    case turn =>
      rintro ⟨y, x⟩ rest b s' ⟨nb, rfl, i, hz, before, goal⟩
      have il : i < (xs.toList.zip ys.toList).length := by
        by_cases c : i < (xs.toList.zip ys.toList).length
        · exact c
        · rw [List.drop_of_length_le (by omega)] at hz
          cases hz
      have im : i < min xs.size ys.size := by omega
      have i1 : i < xs.size := by omega
      have i2 : i < ys.size := by omega
      rw [List.drop_eq_getElem_cons il] at hz
      injection hz with pr tl
      have ey : y = xs[i] := by have t1 := congrArg Prod.fst pr; simpa using t1
      have ex : x = ys[i] := by have t1 := congrArg Prod.snd pr; simpa using t1
      subst ey ex
      have step : min xs.size ys.size - i = (min xs.size ys.size - (i + 1)) + 1 := by omega
      rw [step, lexAt_succ] at goal
      refine wpAny_bind (qe i i1 i2 prog w _ _ ?_)
      cases c : e i with
      | true =>
        rw [c, if_pos rfl] at goal
        wp_walk
        refine ⟨rfl, rfl, i + 1, tl, fun k hk => ?_, goal⟩
        by_cases ki : k = i
        · rw [ki]; exact c
        · exact before k (by omega)
      | false =>
        rw [c, if_neg Bool.false_ne_true] at goal
        have now := qr i i1 i2 before c prog w
        wp_walk using now
        exact ⟨_, rfl, by simpa using goal⟩
    case fin =>
      rintro ⟨b1, b2⟩ s' ⟨nb, rfl, i, hz, before, goal⟩
      simp only at nb
      subst nb
      have le : min xs.size ys.size ≤ i := by
        by_cases c : i < (xs.toList.zip ys.toList).length
        · rw [List.drop_eq_getElem_cons c] at hz
          cases hz
        · omega
      rw [Nat.sub_eq_zero_of_le le, lexAt_zero] at goal
      wp_walk
      exact ⟨_, rfl, by simpa [Builtin.Tuple.tupleCompareSizes] using goal⟩
    case h =>
      exact ⟨rfl, rfl, 0, rfl, fun k hk => absurd hk (Nat.not_lt_zero _), by simpa using hh⟩
theorem rc_gt {A : Around} {s : Shared} {l b : Addr} {xs ys : Array Value} {e r : Nat → Bool} (hl : s.heap.IsTuple l xs) (hb : s.heap.IsTuple b ys) (room : A.units < cLine)
    (qe : ∀ j (h1 : j < xs.size) (h2 : j < ys.size), EqAt A.in1 s xs[j] ys[j] (e j))
    (qr : ∀ j (h1 : j < xs.size) (h2 : j < ys.size), (∀ k, k < j → e k = true) → e j = false → RcOp .Gt A.in1 s xs[j] ys[j] (r j)) :
    RcOp .Gt A s (.ref l) (.ref b) (lexAt e r (decide (xs.size > ys.size)) 0 (min xs.size ys.size)) := fun prog w E Q hq => by
  obtain ⟨⟨c1, dd, da, sl⟩, o1, hc, n, hd⟩ := id hl
  obtain ⟨⟨c2, dd2, da2, sl2⟩, o2, hc2, n2, hd2⟩ := id hb
  simp only at hc hd hc2 hd2
  subst hc hd hc2 hd2
  refine richCompare_meets_room (op := .Gt) ⟨_, o1, rfl⟩ ⟨_, o2, rfl⟩ F.slot_tuple_gt F.entry_tuple_gt
    (F.args_tuple_gt_2 _ _) (gtAt l b xs ys n n2 dd dd2 sl sl2 e r) ⟨o1, o2, qe, qr, ?_⟩ room
  exact ⟨(fun x => nomatch x), hq⟩

end IndCmp

set_option Elab.async false
set_option linter.all false
set_option maxRecDepth 100000
set_option maxHeartbeats 4000000
namespace Ind
open PySem PySem.Spec PyProof.Rows L2
theorem lex_irr (l : List Nat) : ¬ l < l := List.lt_irrefl l
theorem vLt_irr (v : V) : vLt v v = false := by
  cases v with
  | int i => simp [vLt]
  | str x => simp [vLt]
  | _ => rfl
/-- == of such values -/
theorem eqAt_val {A : Around} {s : Shared} {u v : V} {a b : Value} (hu : ValOk u) (hv : ValOk v) (ra : RelV u a) (rb : RelV v b) : SeqAt.EqAt A s a b (decide (u = v)) := by
  rcases hu.cases with ⟨i, rfl⟩ | ⟨x, rfl, _⟩ <;> rcases hv.cases with ⟨j, rfl⟩ | ⟨y, rfl, _⟩
  · obtain ⟨t, rfl⟩ := ra
    obtain ⟨t', rfl⟩ := rb
    rw [dec_int]
    exact SeqAt.EqAt.int_int _ _ _ _
  · obtain ⟨t, rfl⟩ := ra
    obtain ⟨t', rfl⟩ := rb
    rw [decide_eq_false (fun z => nomatch z)]
    exact fun prog w E Q h => SeqAt.EqAt.int_str i t y t' _ _ _ _ h
  · obtain ⟨t, rfl⟩ := ra
    obtain ⟨t', rfl⟩ := rb
    rw [decide_eq_false (fun z => nomatch z)]
    exact fun prog w E Q h => SeqAt.EqAt.str_int x t j t' _ _ _ _ h
  · obtain ⟨t, rfl⟩ := ra
    obtain ⟨t', rfl⟩ := rb
    rw [dec_str]
    exact SeqAt.EqAt.str_str _ _ _ _
theorem rc_lt_val {A : Around} {s : Shared} {u v : V} {a b : Value} (hu : ValOk u) (hv : ValOk v) (ra : RelV u a) (rb : RelV v b) (k : kindB u = kindB v) : Ob.RcOp .Lt A s a b (vLt u v) := by
  rcases hu.cases with ⟨i, rfl⟩ | ⟨x, rfl, _⟩ <;> rcases hv.cases with ⟨j, rfl⟩ | ⟨y, rfl, _⟩
  · obtain ⟨t, rfl⟩ := ra
    obtain ⟨t', rfl⟩ := rb
    exact .lt_int _ _ _ _
  · cases k
  · cases k
  · obtain ⟨t, rfl⟩ := ra
    obtain ⟨t', rfl⟩ := rb
    exact fun _ _ _ _ h => PyProof.Rows.lt_str h
theorem rc_gt_val {A : Around} {s : Shared} {u v : V} {a b : Value} (hu : ValOk u) (hv : ValOk v) (ra : RelV u a) (rb : RelV v b) (k : kindB u = kindB v) : Ob.RcOp .Gt A s a b (vLt v u) := by
  rcases hu.cases with ⟨i, rfl⟩ | ⟨x, rfl, _⟩ <;> rcases hv.cases with ⟨j, rfl⟩ | ⟨y, rfl, _⟩
  · obtain ⟨t, rfl⟩ := ra
    obtain ⟨t', rfl⟩ := rb
    exact .gt_int _ _ _ _
  · cases k
  · cases k
  · obtain ⟨t, rfl⟩ := ra
    obtain ⟨t', rfl⟩ := rb
    exact fun _ _ _ _ h => PySem.P.gt_str h
theorem pair_lex {u v : V} (hu : ValOk u) (hv : ValOk v) (r1 : Bool) (h : kindB u = kindB v → r1 = vLt u v) :
    Ob.lexAt (fun j => if j = 0 then kindB u == kindB v else decide (u = v)) (fun j => if j = 0 then decide (b2i (kindB u) < b2i (kindB v)) else r1) (decide (2 < 2)) 0 (min 2 2) = vLt u v := by
  rcases hu.cases with ⟨i, rfl⟩ | ⟨x, rfl, _⟩ <;> rcases hv.cases with ⟨j, rfl⟩ | ⟨y, rfl, _⟩
  · rw [h rfl]
    by_cases e : i = j
    · subst e; simp [Ob.lexAt, vLt]
    · simp [Ob.lexAt, vLt, kindB, e]
  · simp [Ob.lexAt, vLt, kindB, b2i]
  · simp [Ob.lexAt, vLt, kindB, b2i]
  · rw [h rfl]
    by_cases e : x = y
    · subst e; simp [Ob.lexAt, vLt]
    · simp [Ob.lexAt, vLt, kindB, e]
theorem pair_lex2 {u v : V} (hu : ValOk u) (hv : ValOk v) (r1 : Bool) (h : kindB u = kindB v → r1 = vLt v u) :
    Ob.lexAt (fun j => if j = 0 then kindB u == kindB v else decide (u = v)) (fun j => if j = 0 then decide (b2i (kindB u) > b2i (kindB v)) else r1) (decide (2 > 2)) 0 (min 2 2) = vLt v u := by
  rcases hu.cases with ⟨i, rfl⟩ | ⟨x, rfl, _⟩ <;> rcases hv.cases with ⟨j, rfl⟩ | ⟨y, rfl, _⟩
  · rw [h rfl]
    by_cases e : i = j
    · subst e; simp [Ob.lexAt, vLt]
    · simp [Ob.lexAt, vLt, kindB, e]
  · simp [Ob.lexAt, vLt, kindB, b2i]
  · simp [Ob.lexAt, vLt, kindB, b2i]
  · rw [h rfl]
    by_cases e : x = y
    · subst e; simp [Ob.lexAt, vLt]
    · simp [Ob.lexAt, vLt, kindB, e]
theorem pair_of {k : Bool} {u : V} {its : List Value} (r : Vals [V.bl k, u] its) : ∃ a, its = [Value.bool k, a] ∧ RelV u a := by
  obtain ⟨a, b, rfl, r1, r2⟩ := vals2 r
  cases (show a = Value.bool k from r1)
  exact ⟨b, rfl, r2⟩
def rKeyL (K : PySem.W.Frag) : R2 := fun x y H Q => ∃ a b u v, x = .ref a ∧ y = .ref b ∧ ValOk u ∧ ValOk v ∧ H a = some (.tup [.bl (kindB u), u]) ∧ H b = some (.tup [.bl (kindB v), v]) ∧ Q (.bl (vLt u v)) H
def rKeyG (K : PySem.W.Frag) : R2 := fun x y H Q => ∃ a b u v, x = .ref a ∧ y = .ref b ∧ ValOk u ∧ ValOk v ∧ H a = some (.tup [.bl (kindB u), u]) ∧ H b = some (.tup [.bl (kindB v), v]) ∧ Q (.bl (vLt v u)) H
section
variable {X : Cx}
theorem op_lt_key (hu : X.A.units < cLine) : OpR X (compareOp .Lt) (rKeyL X.K) := by
  intro pins s σ H x y v u Q I rx ry h
  obtain ⟨a, b, p, q, rfl, rfl, hp, hq, ha, hb, fin⟩ := h
  cases rx
  cases ry
  obtain ⟨its, r1, p1, _⟩ := I.tuple (SqT.of ha)
  obtain ⟨its2, r2, p2, _⟩ := I.tuple (SqT.of hb)
  obtain ⟨va, rfl, ra⟩ := pair_of r1
  obtain ⟨vb, rfl, rb⟩ := pair_of r2
  have R := IndCmp.rc_lt (A := X.A) (s := s) (e := fun j => if j = 0 then kindB p == kindB q else decide (p = q)) (r := fun j => if j = 0 then decide (b2i (kindB p) < b2i (kindB q)) else vLt p q) p1 p2 hu
    (fun j h1 h2 => match j, h1, h2 with
      | 0, _, _ => SeqAt.EqAt.bool_bool _ _
      | 1, _, _ => eqAt_val hp hq ra rb)
    (fun j h1 h2 bef ne => match j, h1, h2, bef, ne with
      | 0, _, _, _, _ => fun _ _ _ _ h => PyProof.Rows.lt_bool h
      | 1, _, _, bef, _ => rc_lt_val hp hq ra rb (by have := bef 0 (by decide); simpa using this))
  rw [show ([Value.bool (kindB p), va].toArray.size) = 2 from rfl, show ([Value.bool (kindB q), vb].toArray.size) = 2 from rfl, pair_lex hp hq (vLt p q) (fun _ => rfl)] at R
  have z : wpAny (model X.prog X.w) X.A (compareOp .Lt (.ref a) (.ref b)) (EP X pins σ Q) X.xe s := R X.prog X.w X.xe (EP X pins σ Q) ⟨.bl _, H, I, rfl, fin⟩
  exact z
theorem op_gt_key (hu : X.A.units < cLine) : OpR X (compareOp .Gt) (rKeyG X.K) := by
  intro pins s σ H x y v u Q I rx ry h
  obtain ⟨a, b, p, q, rfl, rfl, hp, hq, ha, hb, fin⟩ := h
  cases rx
  cases ry
  obtain ⟨its, r1, p1, _⟩ := I.tuple (SqT.of ha)
  obtain ⟨its2, r2, p2, _⟩ := I.tuple (SqT.of hb)
  obtain ⟨va, rfl, ra⟩ := pair_of r1
  obtain ⟨vb, rfl, rb⟩ := pair_of r2
  have R := IndCmp.rc_gt (A := X.A) (s := s) (e := fun j => if j = 0 then kindB p == kindB q else decide (p = q)) (r := fun j => if j = 0 then decide (b2i (kindB p) > b2i (kindB q)) else vLt q p) p1 p2 hu
    (fun j h1 h2 => match j, h1, h2 with
      | 0, _, _ => SeqAt.EqAt.bool_bool _ _
      | 1, _, _ => eqAt_val hp hq ra rb)
    (fun j h1 h2 bef ne => match j, h1, h2, bef, ne with
      | 0, _, _, _, _ => fun _ _ _ _ h => PyProof.Rows.gt_bool h
      | 1, _, _, bef, _ => rc_gt_val hp hq ra rb (by have := bef 0 (by decide); simpa using this))
  rw [show ([Value.bool (kindB p), va].toArray.size) = 2 from rfl, show ([Value.bool (kindB q), vb].toArray.size) = 2 from rfl, pair_lex2 hp hq (vLt q p) (fun _ => rfl)] at R
  have z : wpAny (model X.prog X.w) X.A (compareOp .Gt (.ref a) (.ref b)) (EP X pins σ Q) X.xe s := R X.prog X.w X.xe (EP X pins σ Q) ⟨.bl _, H, I, rfl, fin⟩
  exact z
end
end Ind

set_option Elab.async false
set_option linter.all false
set_option maxRecDepth 100000
set_option maxHeartbeats 4000000
namespace Ind
open PySem PySem.Spec PyProof.Rows L2
theorem k_int_int : kitB "int" "int" = some true := by decide +kernel
theorem k_int_str : kitB "int" "str" = some false := by decide +kernel
theorem k_str_str : kitB "str" "str" = some true := by decide +kernel
theorem k_str_int : kitB "str" "int" = some false := by decide +kernel
theorem k_int_bool : kitB "int" "bool" = some false := by decide +kernel
theorem k_bool_int : kitB "bool" "int" = some true := by decide +kernel
theorem k_bool_bool : kitB "bool" "bool" = some true := by decide +kernel
theorem k_tup_tup : kitB "tuple" "tuple" = some true := by decide +kernel
/-! ### the order of texts, sign by sign -/
theorem lt_at : ∀ (a b : List Nat) (i : Nat) (c d : Nat), a.take i = b.take i → a[i]? = some c → b[i]? = some d → c ≠ d → (a < b ↔ c < d)
  | [], _, i, c, d, _, h, _, _ => by simp at h
  | _ :: _, [], i, c, d, _, _, h, _ => by simp at h
  | x :: a, y :: b, 0, c, d, _, h, k, ne => by
    have e1 : x = c := by simpa using h
    have e2 : y = d := by simpa using k
    subst e1 e2
    rw [List.cons_lt_cons_iff]
    constructor
    · rintro (q | ⟨q, _⟩)
      · exact q
      · exact absurd q ne
    · exact fun q => .inl q
  | x :: a, y :: b, i + 1, c, d, t, h, k, ne => by
    have t' : x = y ∧ a.take i = b.take i := by simpa using t
    have ih := lt_at a b i c d t'.2 (by simpa using h) (by simpa using k) ne
    rw [List.cons_lt_cons_iff, ← ih]
    constructor
    · rintro (q | ⟨_, q⟩)
      · exact absurd (t'.1 ▸ q) (Nat.lt_irrefl _)
      · exact q
    · exact fun q => .inr ⟨t'.1, q⟩
theorem lt_end : ∀ (a b : List Nat), a.take (min a.length b.length) = b.take (min a.length b.length) → (a < b ↔ a.length < b.length)
  | [], [], _ => by simp
  | [], y :: b, _ => by simp
  | x :: a, [], _ => by simp
  | x :: a, y :: b, t => by
    have t' : x = y ∧ a.take (min a.length b.length) = b.take (min a.length b.length) := by
      have e : min (x :: a).length (y :: b).length = min a.length b.length + 1 := by simp
      rw [e] at t
      simpa using t
    have ih := lt_end a b t'.2
    rw [List.cons_lt_cons_iff, List.length_cons, List.length_cons]
    constructor
    · rintro (q | ⟨_, q⟩)
      · exact absurd (t'.1 ▸ q) (Nat.lt_irrefl _)
      · exact Nat.succ_lt_succ (ih.mp q)
    · exact fun q => .inr ⟨t'.1, ih.mpr (Nat.lt_of_succ_lt_succ q)⟩
theorem take_next {a b : List Nat} {i c : Nat} (t : a.take i = b.take i) (h : a[i]? = some c) (k : b[i]? = some c) : a.take (i + 1) = b.take (i + 1) := by
  rw [List.take_add_one, List.take_add_one, t, h, k]
theorem vLt_tri {u v : V} (hu : ValOk u) (hv : ValOk v) : (if vLt u v then (-1 : Int) else if vLt v u then 1 else 0) = -(if vLt v u then (-1 : Int) else if vLt u v then 1 else 0) := by
  by_cases a : vLt u v = true <;> by_cases b : vLt v u = true
  · exfalso
    rcases hu.cases with ⟨i, rfl⟩ | ⟨x, rfl, _⟩ <;> rcases hv.cases with ⟨j, rfl⟩ | ⟨y, rfl, _⟩
    · simp [vLt] at a b; omega
    · simp [vLt] at a b
    · simp [vLt] at a b
    · simp [vLt] at a b
      exact absurd (List.lt_trans a b) (List.lt_irrefl _)
  all_goals simp [a, b]
theorem vLt_not_both {u v : V} (hu : ValOk u) (hv : ValOk v) (a : vLt u v = true) (b : vLt v u = true) : False := by
  rcases hu.cases with ⟨i, rfl⟩ | ⟨x, rfl, _⟩ <;> rcases hv.cases with ⟨j, rfl⟩ | ⟨y, rfl, _⟩
  · simp [vLt] at a b; omega
  · simp [vLt] at a b
  · simp [vLt] at a b
  · simp [vLt] at a b
    exact absurd (List.lt_trans a b) (List.lt_irrefl _)
theorem one_txt {c d : Nat} : decide (V.str ⟨#[c]⟩ = V.str ⟨#[d]⟩) = decide (c = d) := by
  by_cases e : c = d
  · subst e; simp
  · rw [decide_eq_false e, decide_eq_false]
    intro z
    injection z with z
    injection z with z
    exact e (by simpa using z)
theorem qb {Q : VK} {b : Bool} {H : Hp} (e : b = true) (q : ∀ H', Q (.bl true) H') : Q (.bl b) H := by rw [e]; exact q H
end Ind

set_option Elab.async false
set_option linter.all false
set_option maxRecDepth 100000
set_option maxHeartbeats 4000000
namespace IndEnd
open PySem PySem.Spec PyProof.Rows L2
/-- a def called where the caller stands: its body's reading is asked at this Around alone -/
theorem fun_at {P : Program} {w : World} {K : PySem.W.Frag} {mg : Str → Option Value} {base : Heap} {x qual : Str} {st : Stmt} {f : Addr} {fd : FuncData} {N ps : List Str} {k : Nat} {A : Around} {outer : List Env} {s : Shared} {H : Hp} {us : List Value} {vs : List V} {Q : VK}
    (F : Fun K x qual st f fd) (S : FnScope N ps (defScope st)) (room : Room (k + 1) A) (e0 : Env0 P w K mg base A outer s H) (bt : BindsTo s fd ⟨us, []⟩ (ps.zip us)) (rv : Vals vs us) (len : vs.length = ps.length)
    (body : ∀ cdv : Value, Room k (A.deeper (envOfC qual (defScope st) s.heap.objs.size f cdv)) →
      ∃ t, PSs (cxOf CX0 P w K mg base N qual (defScope st) f cdv A outer s H E0).nox (defBody st) t ∧ t { nx := fun _ H' => Q .non H', rt := Q } (start N vs) H) :
    codeAny (model P w) A (.call (.ref f) ⟨us, []⟩) (CR CX0 outer P w H s Q E0) s := by
  obtain ⟨oc, od, kV, doc, pm, an, cdv, ct, osl, rfl, lk, cin⟩ := F.ex
  have keep : ∀ b o, base.get? b = some o → s.heap.get? b = some o := fun b o e => (e0.bs b o e).1
  have KX : K.In s.heap := e0.mod.kin.keeps keep
  have kinds : ∀ y ∈ ps.zip us, (defScope st).names.lookup y.1 = some .local ∨ ((defScope st).names.lookup y.1 = some .cell ∧ ((cellsFrom (s.heap.objs.size + 1) (defScope st).names []).lookup y.1).isSome = true) := by
    rintro ⟨n, v⟩ hy
    have hn : n ∈ ps := (List.of_mem_zip hy).1
    cases S.par n hn with
    | inl q => exact .inl q
    | inr q => exact .inr ⟨q, PySem.W.cellsFrom_some _ _ _ (.inl q)⟩
  apply codeAny_call_function room.depth (KX _ _ lk) rfl S.co S.gen rfl (PySem.W.codeRec_of KX cin)
  apply bt
  apply wpAny_newFunctionEnv_cells S.kind kinds
  intro env he s1 ic
  subst he
  have lim := (e0.mod.nolimit.keeps keep).keeps ic.toInCall.keep
  refine ⟨lim, codeAny_func ?_⟩
  obtain ⟨t, ht, hq⟩ := body cdv (room.deeper _)
  have I := inv_start (CX := CX0) (E := E0) S room.hd e0 len rv ic
  refine wpAny_mono (ht.nox.run [] s1 _ H _ I hq) ?_ (fun _ _ z => z)
  intro fl s' hs
  cases fl with
  | ret u => obtain ⟨v, σ', H', J, r, q⟩ := hs; exact ⟨v, H', J.os, J.bare, J.base, J.hok, r, q⟩
  | next => obtain ⟨σ', H', J, q⟩ := hs; exact ⟨V.non, H', J.os, J.bare, J.base, J.hok, rfl, q⟩
  | brk => obtain ⟨_, _, _, q⟩ := hs; exact q.elim
  | cont => obtain ⟨_, _, _, q⟩ := hs; exact q.elim

/-- what is tracked ahead of the law: the script, frozen, or nothing (it is an object of the written part) -/
def start0 (K : PySem.W.Frag) (a : Addr) (o : Obj) (ns : List Int) : Hp := fun b =>
  if b = a ∧ K.lookup a = none then some (.frz o (.lst (ns.map V.int))) else none
theorem start0_some {K : PySem.W.Frag} {a b : Addr} {o : Obj} {ns : List Int} {u : HO} (h : start0 K a o ns b = some u) : b = a ∧ K.lookup a = none ∧ u = .frz o (.lst (ns.map V.int)) := by
  unfold start0 at h
  split at h
  · rename_i c; cases h; exact ⟨c.1, c.2, rfl⟩
  · cases h
theorem law_go {P : Program} {w : World} {K : PySem.W.Frag} {mg mb : Str → Option Value} {fa a : Addr} {s₁ : Shared} {vs : List Value} {ns : List Int}
    (KX : K.In s₁.heap) (hns : s₁.heap.Ns mainGlobals mg) (hb : s₁.heap.Ns builtinsNs mb) (hbb : ∀ x : Str, x ≠ "__name__" → mb x = bootBuiltins x) (hlim : s₁.heap.NoLimit) (hg : s₁.gens = #[])
    (ha : s₁.heap.get? a = some { cls := .type "list", data := .seq vs.toArray }) (hi : IntsAre vs ns) (hl : ns.length ≤ sizeLine)
    (F : ∀ base : Heap, K.In base → base.Ns mainGlobals mg → ∀ H : Hp, Env0 P w K mg base callerA [] s₁ H → SqL K H a (ns.map V.int) →
      codeAny (model P w) callerA (.call (.ref fa) ⟨[.ref a], []⟩) (CR CX0 [] P w H s₁ (fun v _ => v = .bl true) E0) s₁) :
    codeAny (model P w) callerA (.call (.ref fa) ⟨[.ref a], []⟩) (fun r s' => r = .ok (.ret (.bool true)) ∧ OldK s₁.heap s'.heap ∧ s'.os = s₁.os ∧ AllBare s'.gens) s₁ := by
  have rv := vals_ints hi
  have hlen := hi.length
  let o : Obj := { cls := .type "list", data := .seq vs.toArray }
  let H := start0 K a o ns
  have SQ : SqL K H a (ns.map V.int) := by
    cases hk : K.lookup a with
    | none => exact .inl (.inr ⟨o, by show start0 K a o ns a = _; unfold start0; rw [if_pos ⟨rfl, hk⟩]⟩)
    | some o' =>
      have e := KX a o' hk
      rw [ha] at e
      cases e
      refine .inr ⟨_, vs.toArray, _, hk, rfl, rfl, rfl, ?_, ?_⟩
      · rw [List.size_toArray, hlen]; exact hl
      · simpa using rv
  have OK : HOk P w H s₁.heap := fun b u e => by
    obtain ⟨rfl, _, rfl⟩ := start0_some e
    exact ⟨ha, by rw [List.length_map]; exact hl, vs, _, rv, ha⟩
  have under : ∀ {b : Addr} {ob : Obj}, s₁.heap.get? b = some ob → H b = none → (hidT s₁.heap H).get? b = some ob := fun e n => hidT_get e n
  have nsp : ∀ {b : Addr} {m : Str → Option Value}, s₁.heap.Ns b m → (hidT s₁.heap H).Ns b m := by
    rintro b m ⟨ob, es, ep, e, d, r⟩
    refine ⟨ob, es, ep, under e ?_, d, r⟩
    cases q : H b with
    | none => rfl
    | some u =>
      obtain ⟨rfl, _, _⟩ := start0_some q
      rw [ha] at e
      cases e
      cases d
  have KB : K.In (hidT s₁.heap H) := fun b ob e => under (KX b ob e) (by
    cases q : H b with
    | none => rfl
    | some u =>
      obtain ⟨rfl, n, _⟩ := start0_some q
      rw [n] at e
      cases e)
  have lim2 : (hidT s₁.heap H).NoLimit := by
    obtain ⟨mc, h1, h2⟩ := hlim
    exact ⟨mc, nsp h1, h2⟩
  have e0 : Env0 P w K mg (hidT s₁.heap H) callerA [] s₁ H := by
    refine ⟨rfl, ⟨KB, nsp hns, ⟨mb, nsp hb, hbb⟩, lim2⟩, fun b ob e => of_hidT e, Nat.le_of_eq (hidT_size _ _), trivial, fun b z => ?_, OK, .of_eq hg⟩
    exact absurd (show b ∈ ([] : List Addr) from z) (by simp)
  refine codeAny_mono (F _ KB (nsp hns) H e0 SQ) fun r s' h => ?_
  match r, h with
  | .error e, h => exact h.elim
  | .ok (.next), h => exact False.elim h
  | .ok (.brk), h => exact False.elim h
  | .ok (.cont), h => exact False.elim h
  | .ok (.ret u), h =>
    obtain ⟨v, H', os, bare, un, ok', rel, q⟩ := h
    have q1 : v = .bl true := q
    subst q1
    have q2 : u = Value.bool true := rel
    subst q2
    refine ⟨rfl, OldK.of_keep fun b ob e => ?_, os, bare⟩
    cases q : H b with
    | none => exact un.keep b ob e q (fun z => absurd (show b ∈ ([] : List Addr) from z) (by simp)) (by simp)
    | some u =>
      obtain ⟨rfl, _, rfl⟩ := start0_some q
      obtain ⟨z, _⟩ := ok' b _ (un.frzs b _ _ q)
      rw [ha] at e
      cases e
      exact z
/-- the goal that k_head leaves -/
theorem walk_at_caller {l : PySem.W.OpenLaw} {n : Nat} {q : Program} {loose : List Str} {XP : (Str → Option Value) → Heap → Prop} {YP : World → Heap → Prop} {d : DefRec} {K : Params → PySem.W.Frag}
    (hn : l.most = some n) (hn2 : n ≤ sizeLine) (hdf : d.params.defaults = []) (hY : ∀ (w : World) (h : Heap), YP w h → (K w.params).In h)
    (F : ∀ (w : World) (mg : Str → Option Value) (fa : Addr) (h : Heap), (K w.params).In h → h.Ns mainGlobals mg → mg d.name = some (.ref fa) →
      ∀ (base : Heap) (s : Shared) (H : Hp) (a : Addr) (ns : List Int), (K w.params).In base → base.Ns mainGlobals mg → Env0 l.prog w (K w.params) mg base callerA [] s H → ns.length ≤ n → SqL (K w.params) H a (ns.map V.int) →
        codeAny (model l.prog w) callerA (.call (.ref fa) ⟨[.ref a], []⟩) (CR CX0 [] l.prog w H s (fun v _ => v = .bl true) E0) s) :
    PySem.W.WalkO q loose XP YP l.row.toRowW d [] (fun f vs => PySem.call f vs) := by
  apply Att.attach_call hn hdf
  intro w s₀ s₁ mg mb fa o pm cd doc a vs ns G Y ho hd hcd hmg hobj hints hlen hg
  have KX := hY w _ Y
  exact law_go KX G.T.g G.T.b G.T.builtins G.T.nolimit hg hobj hints (Nat.le_trans hlen hn2) fun base hk hb H e0 hS => F w mg fa _ KX G.T.g hmg base s₁ H a ns hk hb e0 hlen hS
end IndEnd

set_option Elab.async false
set_option linter.all false
set_option maxRecDepth 100000
set_option maxHeartbeats 4000000
namespace Ind
open PySem PySem.Spec PyProof.Rows L2
/-! ### data of tuples and plain values: what stands stays -/
mutual
def tuplesOnly : PyData → Bool
  | .none => true
  | .bool _ => true
  | .int _ => true
  | .str _ => true
  | .tuple xs => tuplesOnlyAll xs
  | _ => false
def tuplesOnlyAll : List PyData → Bool
  | [] => true
  | x :: xs => tuplesOnly x && tuplesOnlyAll xs
end
/-- tuples stay where they stand -/
structure Kp (H H' : Hp) : Prop where
  tup : ∀ b xs, H b = some (.tup xs) → H' b = some (.tup xs)
  frz : ∀ b o xs, H b = some (.frz o (.tup xs)) → H' b = some (.frz o (.tup xs))
theorem Kp.refl (H : Hp) : Kp H H := ⟨fun _ _ h => h, fun _ _ _ h => h⟩
theorem Kp.trans {H H1 H2 : Hp} (a : Kp H H1) (b : Kp H1 H2) : Kp H H2 := ⟨fun c x h => b.tup c x (a.tup c x h), fun c o x h => b.frz c o x (a.frz c o x h)⟩
theorem Same.kp {H H' : Hp} (s : Same H H') : Kp H H' := ⟨fun c x h => s _ _ h, fun c o x h => s _ _ h⟩
theorem Fz.kp {t : Tp} {H H' : Hp} (s : Fz t.a H H') (T : TapeAt H t) : Kp H H' := by
  obtain ⟨ns, p, n, z, h1, _⟩ := T
  refine ⟨fun c x h => s _ _ ?_ h, fun c o x h => s _ _ ?_ h⟩ <;> (intro e; rw [e, h1] at h; cases h)
theorem Kp.upd {H : Hp} {l : Addr} {xs : List V} {o : HO} (h : H l = some (.lst xs)) : Kp H (upd H l o) := by
  refine ⟨fun c x e => ?_, fun c u x e => ?_⟩ <;> (rw [upd_ne (ne_of e h (by intro z; cases z))]; exact e)
theorem Kp.new {H : Hp} {l : Addr} {o : HO} (h : H l = none) : Kp H (L2.upd H l o) := Same.kp (same_upd h)
theorem Kp.sqT {K : PySem.W.Frag} {H H' : Hp} {a : Addr} {xs : List V} (k : Kp H H') (h : SqT K H a xs) : SqT K H' a xs := by
  rcases h with (h | ⟨o, h⟩) | h
  · exact .inl (.inl (k.tup _ _ h))
  · exact .inl (.inr ⟨o, k.frz _ _ _ h⟩)
  · exact .inr h
mutual
theorem Dp.kp {K : PySem.W.Frag} {H H' : Hp} (k : Kp H H') : ∀ (d : PyData) (v : V), tuplesOnly d = true → Dp K H v d → Dp K H' v d
  | .none, _, _, h => by cases h; exact .non
  | .bool _, _, _, h => by cases h; exact .bl _
  | .int _, _, _, h => by cases h; exact .int _
  | .str _, _, _, h => by cases h; exact .str _
  | .list _, _, t, _ => by simp [tuplesOnly] at t
  | .dict _, _, t, _ => by simp [tuplesOnly] at t
  | .tuple ds, _, t, h => by
    cases h with
    | tup hs ha => exact .tup (k.sqT hs) (DpAll.kp k ds _ (by simpa [tuplesOnly] using t) ha)
theorem DpAll.kp {K : PySem.W.Frag} {H H' : Hp} (k : Kp H H') : ∀ (ds : List PyData) (vs : List V), tuplesOnlyAll ds = true → DpAll K H vs ds → DpAll K H' vs ds
  | [], _, _, h => by cases h; exact .nil
  | d :: ds, _, t, h => by
    cases h with
    | cons h1 h2 =>
      have t' : tuplesOnly d = true ∧ tuplesOnlyAll ds = true := by simpa [tuplesOnlyAll] using t
      exact .cons (Dp.kp k d _ t'.1 h1) (DpAll.kp k ds _ t'.2 h2)
end
end Ind
namespace L2
open PySem PySem.Spec PyProof.Rows
theorem DpAll.len {K : PySem.W.Frag} {H : Hp} : ∀ {ds : List PyData} {vs : List V}, DpAll K H vs ds → vs.length = ds.length
  | [], _, h => by cases h; rfl
  | d :: ds, _, h => by
    cases h with
    | cons _ h2 => rw [List.length_cons, List.length_cons, DpAll.len h2]
theorem DpAll.get {K : PySem.W.Frag} {H : Hp} : ∀ {ds : List PyData} {vs : List V} {i : Nat} {d : PyData}, DpAll K H vs ds → ds[i]? = some d → ∃ v, vs[i]? = some v ∧ Dp K H v d
  | [], _, _, _, _, e => by simp at e
  | d :: ds, _, 0, _, h, e => by
    cases h with
    | cons h1 _ =>
      simp only [List.getElem?_cons_zero, Option.some.injEq] at e
      subst e
      exact ⟨_, rfl, h1⟩
  | d :: ds, _, i + 1, _, h, e => by
    cases h with
    | cons _ h2 =>
      obtain ⟨v, q, r⟩ := DpAll.get h2 (show ds[i]? = some _ by simpa using e)
      exact ⟨v, by simpa using q, r⟩
theorem DpAll.app {K : PySem.W.Frag} {H : Hp} : ∀ {ds es : List PyData} {vs ws : List V}, DpAll K H vs ds → DpAll K H ws es → DpAll K H (vs ++ ws) (ds ++ es)
  | [], _, _, _, h, g => by cases h; exact g
  | d :: ds, _, _, _, h, g => by
    cases h with
    | cons h1 h2 => exact .cons h1 (DpAll.app h2 g)
theorem Dp.tup_inv {K : PySem.W.Frag} {H : Hp} {v : V} {ds : List PyData} (h : Dp K H v (.tuple ds)) : ∃ a xs, v = .ref a ∧ SqT K H a xs ∧ DpAll K H xs ds := by
  cases h with
  | tup hs ha => exact ⟨_, _, rfl, hs, ha⟩
theorem Dp.str_inv {K : PySem.W.Frag} {H : Hp} {v : V} {x : PySem.Str} (h : Dp K H v (.str x)) : v = .str x := by cases h; rfl
theorem Dp.int_inv {K : PySem.W.Frag} {H : Hp} {v : V} {x : Int} (h : Dp K H v (.int x)) : v = .int x := by cases h; rfl
end L2
namespace Ind
open PySem PySem.Spec PyProof.Rows L2
/-! ### repr of data, where no repr is under way -/
def rReprD (K : PySem.W.Frag) : List V → Hp → VK → Prop := fun xs H Q => ∃ x d, xs = [x] ∧ Dp K H x d ∧ d.showable = true ∧ d.hasDict = false ∧ d.depth ≤ 60 ∧ d.shown.length ≤ sizeLine ∧ Q (.str d.shown) H
section
variable {X : Cx}
theorem call_reprD (hg : X.A.guards = some []) (hu : X.A.units + 64 < cLine) : CallR X (.builtin "repr") (rReprD X.K) := by
  intro pins s σ H xs us Q I r h
  obtain ⟨x, d, rfl, hd, hs, nd, dep, len, q⟩ := h
  obtain ⟨u, rfl, ru⟩ := vals1 r
  cases x with
  | ref a =>
    obtain ⟨as, rd⟩ := Dp.reads I d _ u hd ru
    cases (show u = Value.ref a from ru)
    refine repr_of_reads' rd hs (fun e => by rw [nd] at e; cases e) hg (by omega) (fun _ _ e => e) (fun h' u' tk keep => ?_) len
    exact ⟨.str d.shown, H, I.kept keep, ⟨_, rfl⟩, q⟩
  | int i =>
    cases hd
    obtain ⟨t, rfl⟩ := (show ∃ t, u = Value.int i t from ru)
    exact PySem.P.repr_of_int (by simpa [PyData.showable] using hs) ⟨.str (toString i), H, I.tok _, ⟨_, rfl⟩, q⟩
  | str z =>
    cases hd
    obtain ⟨t, rfl⟩ := (show ∃ t, u = Value.str z t from ru)
    exact PySem.P.repr_of_str ⟨.str (reprText z), H, I.tok _, ⟨_, rfl⟩, q⟩ len
  | bl b =>
    cases hd
    cases (show u = Value.bool b from ru)
    exact PySem.P.repr_of_bool ⟨.str (if b then "True" else "False"), H, I.tok _, ⟨_, rfl⟩, q⟩
  | non =>
    cases hd
    cases (show u = Value.none from ru)
    exact PySem.P.repr_of_none ⟨.str "None", H, I.tok _, ⟨_, rfl⟩, q⟩
  | _ => cases hd
/-- tuple(xs): the new object is known to have no dict -/
theorem call_tupleZ : CallR X (.type "tuple") (fun xs H Q => ∃ p ys, xs = [.ref p] ∧ SqL X.K H p ys ∧ ∀ l o, H l = none → o.dict = none → Q (.ref l) (upd H l (.frz o (.tup ys)))) := by
  intro pins s σ H xs us Q I r h
  obtain ⟨p, ys, rfl, hq, q⟩ := h
  obtain ⟨u, rfl, rx⟩ := vals1 r
  cases rx
  obtain ⟨its, rv, pl, small⟩ := I.list hq
  have same := rv.length
  apply call_tuple_list pl.isList
  · intro h' kp
    have I1 : Inv X pins σ H { s with heap := h' } := I.kept (t' := s.toks) kp
    let o : Obj := { cls := .type "tuple", data := .seq its.toArray }
    have at_ : (h'.push o).get? h'.objs.size = some o := Heap.get?_push_size _ rfl
    have I2 : Inv X pins σ (upd H h'.objs.size (.frz o (.tup ys))) { s with heap := h'.push o } := by
      apply I1.laid (t' := s.toks) (fun b ob e => Heap.get?_push_of_some _ e) (Nat.le_refl _)
      exact ⟨at_, small, its, rv, IsTup.new _ _⟩
    exact ⟨.ref h'.objs.size, _, I2, rfl, q _ o (I1.hok.fresh (Nat.le_refl _)) rfl⟩
/-- dict(t), t such a tuple of pairs -/
def rDictT (K : PySem.W.Frag) : List V → Hp → VK → Prop := fun xs H Q => ∃ (a : Addr) (o : Obj) (ps : List Addr) (kvs : List (Key × V)), xs = [.ref a] ∧ H a = some (.frz o (.tup (ps.map V.ref))) ∧ o.dict = none ∧
  Paired (fun p kv => SqT K H p [kV kv.1, kv.2]) ps kvs ∧ ∀ p, H p = none → Q (.ref p) (upd H p (.dK (mergeK [] kvs)))
theorem call_dictT (calm : X.calm = true) : CallR X (.type "dict") (rDictT X.K) := by
  intro pins s σ H xs us Q I r h
  obtain ⟨a, o, ps, kvs, rfl, ha, nod, hp, q⟩ := h
  obtain ⟨u, rfl, ru⟩ := vals1 r
  cases (show u = Value.ref a from ru)
  obtain ⟨ho, small, its, rv, o', ho', hc, n, hdat⟩ := I.hok a _ ha
  rw [ho] at ho'
  cases ho'
  have ei := refs_at rv
  subst ei
  obtain ⟨prs, rel, hl, hpr⟩ := pairs_of I hp
  rw [List.length_map] at small
  -- the pairs as values
  have vals : ∃ vps : List (Value × Value), vps.length = ps.length ∧ PairItems s.heap (ps.map Value.ref).toArray (fun j => ps.getD j 0) vps ∧ ∀ (j : Nat) (k v : Value), vps[j]? = some (k, v) → ∃ kk, prs[j]? = some (kk, v) ∧ keyIs kk k = true := by
    have aux : ∀ j, j < ps.length → ∃ kv : Value × Value, (∃ kk, prs[j]? = some (kk, kv.2) ∧ keyIs kk kv.1 = true) ∧ IsTup s.heap (ps.getD j 0) #[kv.1, kv.2] := by
      intro j hj
      obtain ⟨qv, eq⟩ : ∃ qv, prs[j]? = some qv := ⟨prs[j], List.getElem?_eq_getElem (by omega)⟩
      obtain ⟨b, u, e1, e2, e3⟩ := hpr j qv eq
      have eb : ps.getD j 0 = b := by rw [List.getD_eq_getElem?_getD, e1]; rfl
      exact ⟨(u, qv.2), ⟨qv.1, eq, e3⟩, by rw [eb]; exact e2⟩
    refine ⟨(List.range ps.length).map (fun j => if hj : j < ps.length then Classical.choose (aux j hj) else (.none, .none)), by simp, ⟨by simp, ?_⟩, ?_⟩
    · intro j k v e
      rw [List.getElem?_map] at e
      cases er : (List.range ps.length)[j]? with
      | none => rw [er] at e; cases e
      | some i =>
        obtain ⟨hi, ei⟩ := List.getElem?_eq_some_iff.mp er
        rw [List.getElem_range] at ei
        subst ei
        have hj : j < ps.length := by simpa using hi
        rw [er] at e
        simp only [Option.map_some, hj, dif_pos, Option.some.injEq] at e
        have sp := Classical.choose_spec (aux j hj)
        rw [e] at sp
        refine ⟨?_, .inl sp.2⟩
        simp [hj, List.getD_eq_getElem?_getD]
    · intro j k v e
      rw [List.getElem?_map] at e
      cases er : (List.range ps.length)[j]? with
      | none => rw [er] at e; cases e
      | some i =>
        obtain ⟨hi, ei⟩ := List.getElem?_eq_some_iff.mp er
        rw [List.getElem_range] at ei
        subst ei
        have hj : j < ps.length := by simpa using hi
        rw [er] at e
        simp only [Option.map_some, hj, dif_pos, Option.some.injEq] at e
        have sp := Classical.choose_spec (aux j hj)
        rw [e] at sp
        exact sp.1
  obtain ⟨vps, vl, vi, vk⟩ := vals
  refine PySem.call_dict_pairs (knd := mixKind X.prog X.w) (kvs := prs) (PairArg.tuple a _ _ vps) (I.ok.hd calm) ⟨⟨o, n, ho, hc, nod, hdat⟩, vi⟩ ⟨by rw [hl, vl], fun i key v e => ?_⟩ (by rw [vl]; exact small) fun h' tk hd' keep => ?_
  · obtain ⟨kk, e1, e2⟩ := vk i key v e
    exact ⟨kk, e1, e2⟩
  · have hm : (s.heap.objs.size == sysModules) = false := beq_eq_false_iff_ne.mpr (Nat.ne_of_gt I.big)
    have hlen : (mergeK [] kvs).length ≤ sizeLine := by
      have l1 := length_mergeK kvs []
      have l2 := rel.length
      rw [List.length_nil, Nat.zero_add] at l1
      omega
    have keep' : ∀ b ob, s.heap.get? b = some ob → h'.get? b = some ob := fun b ob e => keep b ob (by simp) e
    refine ⟨.ref s.heap.objs.size, upd H s.heap.objs.size (.dK (mergeK [] kvs)), ?_, rfl, q _ (I.hok.fresh (Nat.le_refl _))⟩
    exact I.laid (t' := tk) keep' (Nat.le_refl _) (show ObjOk X.prog X.w _ _ _ (.dK (mergeK [] kvs)) from ⟨hlen, hm, merged [] prs, KV.merge rel .nil, hd'⟩)
/-- t.index(x) of texts -/
def rTIndex (K : PySem.W.Frag) : V → List V → Hp → VK → Prop := fun x xs H Q => ∃ (a : Addr) (ys : List PySem.Str) (y : PySem.Str), x = .ref a ∧ xs = [.str y] ∧ SqT K H a (ys.map V.str) ∧ y ∈ ys ∧ Q (.int (ys.idxOf y : Nat)) H
theorem mt_tindex : MtR X "tuple.index" (rTIndex X.K) := by
  intro pins s σ H x xs v us Q I rx rxs h
  obtain ⟨a, ys, y, rfl, rfl, hs, hy, q⟩ := h
  cases rx
  obtain ⟨u, rfl, ru⟩ := vals1 rxs
  obtain ⟨t, rfl⟩ := (show ∃ t, u = Value.str y t from ru)
  obtain ⟨its, rv, pl, _⟩ := I.tuple hs
  have sa := Vals.strs rv
  exact SeqAt.call_tuple_index pl (SeqAt.ItemsEq.strs sa) hy ⟨.int _, H, I.tok _, ⟨_, rfl⟩, q⟩
end
end Ind

set_option Elab.async false
set_option linter.all false
set_option maxRecDepth 100000
set_option maxHeartbeats 4000000
namespace Ind
open PySem PySem.Spec PyProof.Rows L2
abbrev S := PySem.Str
/-! ### the data of expressions -/
inductive Op where
  | col (n : S)
  | num (i : Int)
  | txt (x : S)
def Op.d : Op → PyData
  | .col n => .tuple [.str "column", .str n]
  | .num i => .tuple [.str "integer", .int i]
  | .txt x => .tuple [.str "string", .str x]
abbrev Kd := Option Int
def kdD : Kd → PyData
  | none => .tuple [.str "string"]
  | some b => .tuple [.str "integer", .int b]
abbrev Col := S × Kd
def colD (c : Col) : PyData := .tuple [.str c.1, kdD c.2]
structure Tm where
  plus : Bool
  op : Op
def sgS : Bool → S
  | true => "+"
  | false => "-"
def Tm.d (t : Tm) : PyData := .tuple [.str (sgS t.plus), t.op.d]
def exD (ts : List Tm) : PyData := .tuple (ts.map Tm.d)
theorem tO_op (o : Op) : tuplesOnly o.d = true := by cases o <;> rfl
theorem tO_kd (k : Kd) : tuplesOnly (kdD k) = true := by cases k <;> rfl
theorem tO_col (c : Col) : tuplesOnly (colD c) = true := by
  show (true && (tuplesOnly (kdD c.2) && true)) = true
  rw [tO_kd]; rfl
theorem tO_tm (t : Tm) : tuplesOnly t.d = true := by
  show (true && (tuplesOnly t.op.d && true)) = true
  rw [tO_op]; rfl
theorem tO_all {α : Type} (f : α → PyData) (h : ∀ a, tuplesOnly (f a) = true) : ∀ l : List α, tuplesOnlyAll (l.map f) = true
  | [] => rfl
  | a :: l => by
    show (tuplesOnly (f a) && tuplesOnlyAll (l.map f)) = true
    rw [h, tO_all f h l]; rfl
theorem tO_ex (ts : List Tm) : tuplesOnly (exD ts) = true := tO_all _ tO_tm ts
def KdOk : Kd → Prop
  | none => True
  | some b => 0 ≤ b ∧ b ≤ 1000000000000
structure ColsOk (cs : List Col) : Prop where
  nd : (cs.map (·.1)).Nodup
  kd : ∀ c ∈ cs, KdOk c.2
  len : cs.length ≤ 10
  nm : ∀ c ∈ cs, TxtOk c.1
/-- the columns as they stand -/
def ColsAt (K : PySem.W.Frag) (H : Hp) (v : V) (cs : List Col) : Prop := ∃ (a : Addr) (o : Obj) (ps : List Addr), v = .ref a ∧ H a = some (.frz o (.tup (ps.map V.ref))) ∧ o.dict = none ∧ DpAll K H (ps.map V.ref) (cs.map colD)
theorem ColsAt.kp {K : PySem.W.Frag} {H H' : Hp} {v : V} {cs : List Col} (k : Kp H H') (h : ColsAt K H v cs) : ColsAt K H' v cs := by
  obtain ⟨a, o, ps, e, h1, h2, h3⟩ := h
  exact ⟨a, o, ps, e, k.frz _ _ _ h1, h2, DpAll.kp k _ _ (tO_all _ tO_col cs) h3⟩
/-- the bound of an operand as the law reckons it -/
def opBound (cs : List Col) : Op → Int
  | .num i => if i < 0 then -i else i
  | .txt _ => 0
  | .col n => match cs.find? (fun c => decide (c.1 = n) && c.2.isSome) with
    | some (_, some b) => b
    | _ => 0
def OpInt (cs : List Col) : Op → Prop
  | .num i => -1000000 ≤ i ∧ i ≤ 1000000
  | .txt _ => False
  | .col n => ∃ b, (n, some b) ∈ cs
def OpTxt (cs : List Col) : Op → Prop
  | .num _ => False
  | .txt x => TxtOk x
  | .col n => (n, none) ∈ cs
def OpOk (cs : List Col) (word : Bool) (o : Op) : Prop := if word then OpTxt cs o else OpInt cs o
def wordS : Bool → S
  | true => "string"
  | false => "integer"
/-- an expression of the law's making -/
structure ExOk (cs : List Col) (word : Bool) (ts : List Tm) : Prop where
  ne : ts ≠ []
  first : ∀ t, ts.head? = some t → t.plus = true
  ops : ∀ t ∈ ts, OpOk cs word t.op
  one : word = true → ts.length = 1
  sum : (ts.map fun t => opBound cs t.op).sum ≤ 1000000000000
  len : ts.length ≤ 20
/-- the values of a row -/
def ValIn : Kd → V → Prop
  | none, .str x => TxtOk x
  | some b, .int i => -b ≤ i ∧ i ≤ b
  | _, _ => False
inductive RowIn : List Col → List V → Prop
  | nil : RowIn [] []
  | cons {c : Col} {v : V} {cs : List Col} {vs : List V} : ValIn c.2 v → RowIn cs vs → RowIn (c :: cs) (v :: vs)
theorem RowIn.len {cs : List Col} {vs : List V} (h : RowIn cs vs) : vs.length = cs.length := by induction h <;> simp_all
theorem RowIn.get : ∀ {cs : List Col} {vs : List V} {i : Nat} {c : Col}, RowIn cs vs → cs[i]? = some c → ∃ v, vs[i]? = some v ∧ ValIn c.2 v
  | _, _, _, _, .nil, e => by simp at e
  | _, _, 0, _, .cons h _, e => by
    simp only [List.getElem?_cons_zero, Option.some.injEq] at e
    subst e
    exact ⟨_, rfl, h⟩
  | _, _, i + 1, _, .cons _ t, e => by
    obtain ⟨v, q, r⟩ := RowIn.get t (show _ = some _ by simpa using e)
    exact ⟨v, by simpa using q, r⟩
theorem RowIn.snoc : ∀ {cs : List Col} {vs : List V} {c : Col} {v : V}, RowIn cs vs → ValIn c.2 v → RowIn (cs ++ [c]) (vs ++ [v])
  | _, _, _, _, .nil, h => .cons h .nil
  | _, _, _, _, .cons a t, h => .cons a (RowIn.snoc t h)
/-- an operand's value -/
def opVal (cs : List Col) (vs : List V) : Op → V
  | .num i => .int i
  | .txt x => .str x
  | .col n => vs.getD ((cs.map (·.1)).idxOf n) .non
def iOf : V → Int
  | .int i => i
  | _ => 0
def tmVal (cs : List Col) (vs : List V) (t : Tm) : Int := if t.plus then iOf (opVal cs vs t.op) else -iOf (opVal cs vs t.op)
/-- the value of an expression -/
def exVal (cs : List Col) (vs : List V) : List Tm → V
  | [t] => opVal cs vs t.op
  | ts => .int (ts.map (tmVal cs vs)).sum
def exKd (cs : List Col) (word : Bool) (ts : List Tm) : Kd := if word then none else some (ts.map fun t => opBound cs t.op).sum
/-! ### promises -/
def spName : Sp := fun vs H Q _ => ∃ (t : Tp), vs = [.ref t.a] ∧ TapeAt H t ∧ ∀ H' x, Fz t.a H H' → TapeAt H' t → TxtOk x → Q (.str x) H'
def spNames : Sp := fun vs H Q _ => ∃ (t : Tp) (m : Int), vs = [.ref t.a, .int m] ∧ TapeAt H t ∧ (0 ≤ m ∧ m ≤ 10) ∧ ∀ H' p (ns : List S), Fz t.a H H' → TapeAt H' t → H p = none → H' p = some (.lst (ns.map V.str)) → ns.Nodup → ns.length ≤ m.toNat → (∀ n ∈ ns, TxtOk n) → Q (.ref p) H'
def spNumber : Sp := fun vs H Q _ => ∃ (t : Tp), vs = [.ref t.a] ∧ TapeAt H t ∧ ∀ H' i, Fz t.a H H' → TapeAt H' t → (-1000000 ≤ i ∧ i ≤ 1000000) → Q (.int i) H'
def spKind (K : PySem.W.Frag) : Sp := fun vs H Q _ => ∃ (t : Tp), vs = [.ref t.a] ∧ TapeAt H t ∧ ∀ H' v k, Fz t.a H H' → TapeAt H' t → Dp K H' v (kdD k) → KdOk k → Q v H'
def spValue (K : PySem.W.Frag) : Sp := fun vs H Q _ => ∃ (t : Tp) (v : V) (k : Kd), vs = [.ref t.a, v] ∧ TapeAt H t ∧ Dp K H v (kdD k) ∧ KdOk k ∧ ∀ H' u, Fz t.a H H' → TapeAt H' t → ValIn k u → Q u H'
def spColumns (K : PySem.W.Frag) : Sp := fun vs H Q _ => ∃ (t : Tp) (m : Int), vs = [.ref t.a, .int m] ∧ TapeAt H t ∧ (0 ≤ m ∧ m ≤ 10) ∧ ∀ H' v cs, Fz t.a H H' → TapeAt H' t → ColsAt K H' v cs → ColsOk cs → Q v H'
def spBound (K : PySem.W.Frag) : Sp := fun vs H Q _ => ∃ (v c : V) (o : Op) (cs : List Col) (b : Bool), vs = [v, c] ∧ Dp K H v o.d ∧ ColsAt K H c cs ∧ ColsOk cs ∧ OpOk cs b o ∧ ∀ H', Same H H' → Q (.int (opBound cs o)) H'
def spOperand (K : PySem.W.Frag) : Sp := fun vs H Q _ => ∃ (t : Tp) (c : V) (cs : List Col) (b : Bool), vs = [.ref t.a, c, .str (wordS b)] ∧ TapeAt H t ∧ ColsAt K H c cs ∧ ColsOk cs ∧ ∀ H' v o, Fz t.a H H' → TapeAt H' t → Dp K H' v o.d → OpOk cs b o → Q v H'
def spExpression (K : PySem.W.Frag) : Sp := fun vs H Q _ => ∃ (t : Tp) (c : V) (cs : List Col) (b : Bool), vs = [.ref t.a, c, .str (wordS b), .int 11] ∧ TapeAt H t ∧ ColsAt K H c cs ∧ ColsOk cs ∧ ∀ H' v ts, Fz t.a H H' → TapeAt H' t → Dp K H' v (exD ts) → ExOk cs b ts → Q v H'
def spSum (K : PySem.W.Frag) : Sp := fun vs H Q _ => ∃ (v c : V) (ts : List Tm) (cs : List Col) (b : Bool), vs = [v, c] ∧ Dp K H v (exD ts) ∧ ts.length ≤ 20 ∧ ColsAt K H c cs ∧ ColsOk cs ∧ (∀ t ∈ ts, OpOk cs b t.op) ∧ ∀ H', Same H H' → Q (.int (ts.map fun t => opBound cs t.op).sum) H'
/-- names and a row as they stand -/
def NamesAt (K : PySem.W.Frag) (H : Hp) (v : V) (cs : List Col) : Prop := ∃ (a : Addr) (o : Obj), v = .ref a ∧ H a = some (.frz o (.tup (cs.map fun c => V.str c.1))) ∧ o.dict = none
def RowAt (K : PySem.W.Frag) (H : Hp) (v : V) (vs : List V) : Prop := ∃ a, v = .ref a ∧ SqT K H a vs
def spDue (K : PySem.W.Frag) : Sp := fun xs H Q _ => ∃ (e n r : V) (ts : List Tm) (cs : List Col) (vs : List V) (b : Bool), xs = [e, n, r] ∧ Dp K H e (exD ts) ∧ ExOk cs b ts ∧ ColsOk cs ∧ NamesAt K H n cs ∧ RowAt K H r vs ∧ RowIn cs vs ∧ ∀ H', Same H H' → Q (exVal cs vs ts) H'
/-- each column at most once, each constant with the sign of its term -/
structure Straight (cs : List Col) (ts : List Tm) : Prop where
  nd : (ts.filterMap fun t => match t.op with | .col n => some n | _ => none).Nodup
  signs : ∀ t ∈ ts, ∀ i, t.op = .num i → if t.plus then 0 ≤ i else i ≤ 0
def spStraight (K : PySem.W.Frag) : Sp := fun vs H Q _ => ∃ (t : Tp) (c : V) (cs : List Col), vs = [.ref t.a, c] ∧ TapeAt H t ∧ ColsAt K H c cs ∧ ColsOk cs ∧ ∀ H' v ts, Fz t.a H H' → TapeAt H' t → Dp K H' v (exD ts) → ExOk cs false ts → Straight cs ts → Q v H'
/-- the row that brings the expression to its bound -/
def farVal (ts : List Tm) (c : Col) (v : V) : V := ts.foldl (fun v t => match t.op, c.2 with | .col n, some b => if n = c.1 then (if t.plus then .int b else .int (-b)) else v | _, _ => v) v
def spFarthest (K : PySem.W.Frag) : Sp := fun xs H Q _ => ∃ (t : Tp) (c e : V) (cs : List Col) (ts : List Tm), xs = [.ref t.a, c, e] ∧ TapeAt H t ∧ ColsAt K H c cs ∧ ColsOk cs ∧ Dp K H e (exD ts) ∧ ExOk cs false ts ∧ ts.length ≤ 20 ∧
  ∀ H' r vs us, Fz t.a H H' → TapeAt H' t → RowAt K H' r vs → RowIn cs us → vs = (cs.zip us).map (fun p => farVal ts p.1 p.2) → Q r H'
end Ind

set_option Elab.async false
set_option linter.all false
set_option maxRecDepth 100000
set_option maxHeartbeats 4000000
namespace Ind
open PySem PySem.Spec PyProof.Rows L2
theorem pickT {ss : List S} {i : Int} (h0 : 0 ≤ i) (h1 : i < (ss.length : Int)) : ∃ x, atI (ss.map V.str) i = some (.str x) ∧ x ∈ ss := by
  have hlt : i.toNat < ss.length := by omega
  refine ⟨ss[i.toNat], at_of (show i = (i.toNat : Int) by omega) ?_, List.getElem_mem hlt⟩
  rw [List.getElem?_map, List.getElem?_eq_getElem hlt]
  rfl
abbrev nmSigns : S := "abcdefghijklmnopqrstuvwxyz0123456789_"
theorem nmSigns_len : nmSigns.length = 37 := by decide +kernel
theorem nm_all : ∀ c ∈ nmSigns.cps.toList, Sgn c := by decide +kernel
theorem nm_pick {i : Int} (h0 : 0 ≤ i) (h1 : i < 37) : ∃ c, atI nmSigns.cps.toList i = some c ∧ Sgn c := by
  obtain ⟨c, e, m⟩ := pickS (l := nmSigns.cps.toList) h0 (by rw [← codes_len, nmSigns_len]; omega)
  exact ⟨c, e, nm_all c m⟩
theorem flat_strs (ns : List S) : (ns.map V.str).all flatV = true := by
  rw [List.all_eq_true]
  intro v h
  obtain ⟨x, _, rfl⟩ := List.mem_map.mp h
  rfl
theorem inV_strs (x : S) (ns : List S) : inV (.str x) (ns.map V.str) = decide (x ∈ ns) := by
  unfold inV
  rw [List.any_map]
  by_cases h : x ∈ ns
  · rw [decide_eq_true h, List.any_eq_true]
    exact ⟨x, h, by simp [eqV]⟩
  · rw [decide_eq_false h, List.any_eq_false]
    intro y hy
    simp only [Function.comp, eqV]
    intro e
    exact h (by rw [← (beq_iff_eq.mp e : y = x)]; exact hy)
theorem txt_strOk {x : S} (h : TxtOk x) : PyData.strOk x = true := by
  unfold PyData.strOk
  rw [Array.all_eq_true']
  intro c hc
  have := (h.2 c (by simpa using hc)).2.1
  exact decide_eq_true (by omega)
end Ind

set_option Elab.async false
set_option linter.all false
set_option maxRecDepth 100000
set_option maxHeartbeats 4000000
namespace Ind
open PySem PySem.Spec PyProof.Rows L2
variable {K : PySem.W.Frag} {H : Hp}
theorem dp_one {v : V} {x : PyData} (h : Dp K H v (.tuple [x])) : ∃ a u, v = .ref a ∧ SqT K H a [u] ∧ Dp K H u x := by
  obtain ⟨a, xs, rfl, hs, hx⟩ := h.tup_inv
  cases hx with
  | cons h1 h2 => cases h2; exact ⟨a, _, rfl, hs, h1⟩
theorem dp_two {v : V} {x y : PyData} (h : Dp K H v (.tuple [x, y])) : ∃ a u1 u2, v = .ref a ∧ SqT K H a [u1, u2] ∧ Dp K H u1 x ∧ Dp K H u2 y := by
  obtain ⟨a, xs, rfl, hs, hx⟩ := h.tup_inv
  cases hx with
  | cons h1 h2 => cases h2 with
    | cons h2 h3 => cases h3; exact ⟨a, _, _, rfl, hs, h1, h2⟩
def wk : Kd → S
  | none => "string"
  | some _ => "integer"
theorem kd_at {v : V} {k : Kd} (h : Dp K H v (kdD k)) : ∃ a xs, v = .ref a ∧ SqT K H a (.str (wk k) :: xs) ∧ ∀ b, k = some b → xs = [.int b] := by
  cases k with
  | none =>
    obtain ⟨a, u, rfl, hs, h1⟩ := dp_one h
    cases h1.str_inv
    exact ⟨a, [], rfl, hs, fun b e => by cases e⟩
  | some b =>
    obtain ⟨a, u1, u2, rfl, hs, h1, h2⟩ := dp_two h
    cases h1.str_inv
    cases h2.int_inv
    exact ⟨a, _, rfl, hs, fun b e => by cases e; rfl⟩
def Op.word : Op → S
  | .col _ => "column"
  | .num _ => "integer"
  | .txt _ => "string"
def Op.cont : Op → V
  | .col n => .str n
  | .num i => .int i
  | .txt x => .str x
theorem op_at {v : V} {o : Op} (h : Dp K H v o.d) : ∃ a, v = .ref a ∧ SqT K H a [.str o.word, o.cont] := by
  cases o with
  | _ =>
    obtain ⟨a, u1, u2, rfl, hs, h1, h2⟩ := dp_two h
    cases h1.str_inv
    first | cases h2.str_inv | cases h2.int_inv
    exact ⟨a, rfl, hs⟩
theorem op_dp {a : Addr} {o : Op} (h : SqT K H a [.str o.word, o.cont]) : Dp K H (.ref a) o.d := by
  cases o with
  | col n => exact .tup h (.cons (.str _) (.cons (.str _) .nil))
  | num n => exact .tup h (.cons (.str _) (.cons (.int _) .nil))
  | txt n => exact .tup h (.cons (.str _) (.cons (.str _) .nil))
theorem tm_at {v : V} {t : Tm} (h : Dp K H v t.d) : ∃ a u, v = .ref a ∧ SqT K H a [.str (sgS t.plus), u] ∧ Dp K H u t.op.d := by
  obtain ⟨a, u1, u2, rfl, hs, h1, h2⟩ := dp_two h
  cases h1.str_inv
  exact ⟨a, u2, rfl, hs, h2⟩
theorem col_at {v : V} {c : Col} (h : Dp K H v (colD c)) : ∃ a u, v = .ref a ∧ SqT K H a [.str c.1, u] ∧ Dp K H u (kdD c.2) := by
  obtain ⟨a, u1, u2, rfl, hs, h1, h2⟩ := dp_two h
  cases h1.str_inv
  exact ⟨a, u2, rfl, hs, h2⟩
theorem map_get {α β : Type} {f : α → β} {l : List α} {i : Nat} {x : β} (h : (l.map f)[i]? = some x) : ∃ a, l[i]? = some a ∧ x = f a := by
  rw [List.getElem?_map] at h
  cases e : l[i]? with
  | none => rw [e] at h; cases h
  | some a => rw [e] at h; exact ⟨a, rfl, by cases h; rfl⟩
theorem take_more {α : Type} {l : List α} {i : Nat} {a : α} (h : l[i]? = some a) : l.take (i + 1) = l.take i ++ [a] := by
  rw [List.take_add_one, h]; rfl
theorem dps_get {vs : List V} {α : Type} {f : α → PyData} {l : List α} {i : Nat} {v : V} (h : DpAll K H vs (l.map f)) (e : vs[i]? = some v) : ∃ a, l[i]? = some a ∧ Dp K H v (f a) := by
  have hl : i < l.length := by
    have := h.len
    rw [List.length_map] at this
    rw [← this]
    exact (List.getElem?_eq_some_iff.mp e).1
  have el : (l.map f)[i]? = some (f l[i]) := by rw [List.getElem?_map, List.getElem?_eq_getElem hl]; rfl
  obtain ⟨v', e', d⟩ := h.get el
  rw [e] at e'
  cases e'
  exact ⟨l[i], List.getElem?_eq_getElem hl, d⟩
theorem ColsAt.tup {c : V} {cs : List Col} (h : ColsAt K H c cs) : ∃ (a : Addr) (ps : List Addr), c = .ref a ∧ SqT K H a (ps.map V.ref) ∧ DpAll K H (ps.map V.ref) (cs.map colD) := by
  obtain ⟨a, o, ps, e, h1, h2, h3⟩ := h
  exact ⟨a, ps, e, .inl (.inr ⟨o, h1⟩), h3⟩
theorem tO_cols (cs : List Col) : tuplesOnlyAll (cs.map colD) = true := tO_all _ tO_col cs
theorem tO_tms (ts : List Tm) : tuplesOnlyAll (ts.map Tm.d) = true := tO_all _ tO_tm ts
theorem opBound_find (cs : List Col) (n : S) (c : Col) (h : cs.find? (fun c => decide (c.1 = n) && c.2.isSome) = some c) (b : Int) (e : c.2 = some b) : opBound cs (.col n) = b := by
  obtain ⟨m, k⟩ := c
  cases e
  show (match cs.find? (fun c => decide (c.1 = n) && c.2.isSome) with | some (_, some b) => b | _ => 0) = b
  rw [h]
theorem word_int {o : Op} (h : o.word = "integer") : ∃ i, o = .num i := by
  cases o with
  | col n => exact absurd (show ("column" : S) = "integer" from h) (by decide)
  | num i => exact ⟨i, rfl⟩
  | txt x => exact absurd (show ("string" : S) = "integer" from h) (by decide)
theorem word_col {o : Op} (h : o.word = "column") : ∃ n, o = .col n := by
  cases o with
  | col n => exact ⟨n, rfl⟩
  | num i => exact absurd (show ("integer" : S) = "column" from h) (by decide)
  | txt x => exact absurd (show ("string" : S) = "column" from h) (by decide)
theorem word_txt {o : Op} (h : o.word = "string") : ∃ n, o = .txt n := by
  cases o with
  | col n => exact absurd (show ("column" : S) = "string" from h) (by decide)
  | num i => exact absurd (show ("integer" : S) = "string" from h) (by decide)
  | txt x => exact ⟨x, rfl⟩
theorem dstr {x y : S} (e : decide (V.str x = V.str y) = true) : x = y := by
  have e := of_decide_eq_true e
  injection e
theorem dstrN {x y : S} (e : decide (V.str x = V.str y) = false) : x ≠ y := by
  have e := of_decide_eq_false e
  exact fun z => e (by rw [z])
theorem wk_int {k : Kd} (h : wk k = "integer") : ∃ b, k = some b := by
  cases k with
  | none => exact absurd (show ("string" : S) = "integer" from h) (by decide)
  | some b => exact ⟨b, rfl⟩
theorem wk_txt {k : Kd} (h : wk k = "string") : k = none := by
  cases k with
  | none => rfl
  | some b => exact absurd (show ("integer" : S) = "string" from h) (by decide)
theorem wk_wordS {k : Kd} {b : Bool} (h : wk k = wordS b) : k.isSome = !b := by
  cases b with
  | false => obtain ⟨x, rfl⟩ := wk_int h; rfl
  | true => cases wk_txt h; rfl
theorem op_eqv (o : Op) (n : S) : o.d.eqv (Op.col n).d = true ↔ o = .col n := by
  cases o with
  | col m =>
    show ((("column" : S) == "column") && ((m == n) && true)) = true ↔ _
    simp
  | num m =>
    show ((("integer" : S) == "column") && (false && true)) = true ↔ _
    simp
  | txt m =>
    show ((("string" : S) == "column") && ((m == n) && true)) = true ↔ _
    rw [show (("string" : S) == "column") = false by decide]
    simp
theorem OpOk.str {cs : List Col} {b : Bool} {o : Op} (ok : ColsOk cs) (h : OpOk cs b o) : (∃ i, o = .num i) ∨ ∃ x, TxtOk x ∧ (o = .txt x ∨ o = .col x) := by
  cases o with
  | num i => exact .inl ⟨i, rfl⟩
  | txt x =>
    cases b with
    | true => exact .inr ⟨x, h, .inl rfl⟩
    | false => exact h.elim
  | col x =>
    refine .inr ⟨x, ?_, .inr rfl⟩
    cases b with
    | true => exact ok.nm _ (show (x, none) ∈ cs from h)
    | false =>
      obtain ⟨k, hk⟩ := (show ∃ k, (x, some k) ∈ cs from h)
      exact ok.nm _ hk
theorem shape_col {x : S} (h : TxtOk x) : SeqAt.shaped (Op.col x).d = true := by
  simp [Op.d, SeqAt.shaped]
  simp [PyData.canLay0, PyData.canLayAll0, PyData.depth, PyData.depthAll, txt_strOk h]
  decide +kernel
theorem op_shaped {cs : List Col} {b : Bool} {o : Op} (ok : ColsOk cs) (h : OpOk cs b o) : SeqAt.shaped o.d = true := by
  rcases h.str ok with ⟨i, rfl⟩ | ⟨x, hx, rfl | rfl⟩
  · simp [Op.d, SeqAt.shaped]
    simp [PyData.canLay0, PyData.canLayAll0, PyData.depth, PyData.depthAll]
    decide +kernel
  · simp [Op.d, SeqAt.shaped]
    simp [PyData.canLay0, PyData.canLayAll0, PyData.depth, PyData.depthAll, txt_strOk hx]
    decide +kernel
  · exact shape_col hx
theorem kd_shaped (o : Kd) : SeqAt.shaped (kdD o) = true := by
  cases o <;> simp [kdD, SeqAt.shaped] <;> simp [PyData.canLay0, PyData.canLayAll0, PyData.depth, PyData.depthAll] <;> decide +kernel
/-- the row of columns before the one that counts -/
theorem opBound_at {cs : List Col} {n : S} {k : Int} {i : Nat} (e : cs[i]? = some (n, some k)) (no : ∀ c ∈ cs.take i, ¬ (Op.col n = .col c.1 ∧ c.2.isSome = true)) : opBound cs (.col n) = k := by
  refine opBound_find cs n (n, some k) ?_ k rfl
  rw [List.find?_eq_some_iff_getElem]
  obtain ⟨hi, ei⟩ := List.getElem?_eq_some_iff.mp e
  refine ⟨by simp, i, hi, ei, fun j hj => ?_⟩
  have hm : cs[j]'(by omega) ∈ cs.take i := by
    rw [List.mem_take_iff_getElem]
    exact ⟨j, by omega, rfl⟩
  have := no _ hm
  cases hs : (cs[j]'(by omega)).2.isSome
  · simp [hs]
  · simp only [hs, Bool.and_true, Bool.not_eq_true', decide_eq_false_iff_not]
    intro ee
    exact this ⟨by rw [ee], hs⟩
theorem opBound_no {cs : List Col} {o : Op} (ni : ∀ i, o ≠ .num i) (no : ∀ c ∈ cs, ¬ (o = .col c.1 ∧ c.2.isSome = true)) : opBound cs o = 0 := by
  cases o with
  | num i => exact absurd rfl (ni i)
  | txt x => rfl
  | col n =>
    have : cs.find? (fun c => decide (c.1 = n) && c.2.isSome) = none := by
      rw [List.find?_eq_none]
      intro c hc
      have := no c hc
      cases hs : c.2.isSome
      · simp
      · simp only [Bool.and_true, decide_eq_true_eq]
        intro ee
        exact this ⟨by rw [ee], hs⟩
    show (match cs.find? (fun c => decide (c.1 = n) && c.2.isSome) with | some (_, some b) => b | _ => 0) = 0
    rw [this]
/-- the rules in a comprehension's own scope -/
theorem ixT {X : Cx} {K : PySem.W.Frag} (h : X.K = K) : IxR X (rIxT K) := h ▸ ix_tup
theorem ixL {X : Cx} {K : PySem.W.Frag} (h : X.K = K) : IxR X (rIxL K) := h ▸ ix_list
theorem Same.upd' {p : Addr} {H H' : Hp} {o : HO} (a : Same H H') (n : H p = none) : Same H (L2.upd H' p o) := fun b u h => by
  rw [upd_ne (ne_of_none h n)]; exact a b u h
theorem Fz.none {t b : Addr} {H H' : Hp} (f : Fz t H H') (n : b ≠ t) (e : H' b = Option.none) : H b = Option.none := by
  cases h : H b with
  | none => rfl
  | some o => rw [f b o n h] at e; cases e
theorem OpOk.mem {cs : List Col} {b : Bool} {n : S} (h : OpOk cs b (.col n)) : n ∈ cs.map (·.1) := by
  cases b with
  | true => exact List.mem_map.mpr ⟨_, (show (n, none) ∈ cs from h), rfl⟩
  | false =>
    obtain ⟨k, hk⟩ := (show ∃ k, (n, some k) ∈ cs from h)
    exact List.mem_map.mpr ⟨_, hk, rfl⟩
theorem row_at {cs : List Col} {vs : List V} {n : S} (r : RowIn cs vs) (h : n ∈ cs.map (·.1)) : vs[(cs.map (·.1)).idxOf n]? = some (opVal cs vs (.col n)) := by
  have hl := List.idxOf_lt_length_of_mem h
  rw [List.length_map, ← r.len] at hl
  show _ = some (vs.getD ((cs.map (·.1)).idxOf n) .non)
  rw [List.getElem?_eq_getElem hl, List.getD_eq_getElem?_getD, List.getElem?_eq_getElem hl]
  rfl
theorem op_cont {cs : List Col} {vs : List V} {o : Op} (h : ∀ n, o ≠ .col n) : o.cont = opVal cs vs o := by
  cases o with
  | col n => exact absurd rfl (h n)
  | num i => rfl
  | txt x => rfl
end Ind

set_option Elab.async false
set_option linter.all false
set_option maxRecDepth 100000
set_option maxHeartbeats 4000000
namespace Ind
open PySem PySem.Spec PyProof.Rows L2
/-! ### methods of a tuple that `tuple(..)` made -/
def tyZ (x : V) (H : Hp) : Prop := ∃ (p : Addr) (o : Obj) (xs : List V), x = .ref p ∧ H p = some (.frz o (.tup xs)) ∧ o.dict = none
def tBMZ (r : V → List V → Hp → VK → Prop) (to : TE) (t : TA) : TE := fun σ H Q =>
  to σ H fun x H1 => tyZ x H1 ∧ t σ H1 fun xs H2 => r x xs H2 Q
section
variable {X : Cx} {σ : L2.St} {H : Hp}
theorem tyZ_is {pins : List (Addr × Obj)} {s : Shared} {x : V} {v : Value} (I : Inv X pins σ H s) (r : RelV x v) (z : tyZ x H) :
    s.TypeIs v "tuple" ∧ ∀ a, v = .ref a → ∃ ob, s.heap.get? a = some ob ∧ ob.dict = none := by
  obtain ⟨p, o, xs, rfl, hp, nd⟩ := z
  cases r
  obtain ⟨h1, h2, its, rv, o', h3, hc, n, hd⟩ := I.hok p _ hp
  rw [h1] at h3
  cases h3
  exact ⟨⟨o, h1, hc⟩, fun a e => by cases e; exact ⟨o, h1, nd⟩⟩
variable {o e : Expr} {name : Str} {apos cpos : Pos} {id : String} {to : TE} {t : TA} {r : V → List V → Hp → VK → Prop}
theorem pe_bmZ (slot : Slot "tuple" name id) (hty : typeOf (.builtin id) = pure (.type "method_descriptor")) (hm : MtR X id r) (ho : PE X o to) (ha : PA X [e] t)
    (h1 : attributeBase o name X.env (eval o X.env) = eval o X.env := by rfl)
    (h2 : ((backTo cpos (starEach [e] X.env)).all (fun x => !x.1) && (backToKw cpos (keywordEach [] X.env)).all (fun x => x.1.isSome) && decide ([e].length + ([] : List Keyword).length + (if ([] : List Keyword).isEmpty then 0 else 1) < 30)) = true := by rfl)
    (h3 : (apos.endLine == cpos.line) = true := by rfl)
    (h4 : starEach [e] X.env = (false, eval e X.env) :: starEach [] X.env := by rfl)
    (h5 : (backTo cpos (starEach [] X.env)).any (·.1) = false := by rfl) : PE X (.Call (.Attribute o name apos) [e] [] cpos) (tBMZ r to t) := by
  constructor
  intro pins s σ H Q I h
  refine wpAny_Call_method_late h1 h2 h3 rfl ?_
  refine thn (ho.run pins s σ H _ I h) fun v s1 ⟨x, H1, I1, r1, ty, q1⟩ => ?_
  have tz := tyZ_is I1 r1 ty
  refine ⟨"tuple", id, PySem.F.plainAttrs_tuple, slot, hty, tz.1, tz.2, ?_⟩
  have run := ha.run cpos pins s1 σ H1 _ I1 q1
  rw [h4] at run ⊢
  refine Calls.callWith_builtin ?_ (Calls.evalArgs_plain (thn run fun us s2 ⟨vs, H2, I2, r2, q2⟩ => hm pins s2 σ H2 x vs v us Q I2 r1 r2 q2))
  show (false || (backTo cpos (starEach [] X.env)).any (·.1)) = false
  rw [h5] <;> rfl
end
end Ind

set_option Elab.async false
set_option linter.all false
set_option maxRecDepth 100000
set_option maxHeartbeats 4000000
namespace Ind
open PySem PySem.Spec PyProof.Rows L2
theorem idx_nodup {α : Type} [BEq α] [LawfulBEq α] : ∀ {l : List α}, l.Nodup → ∀ (j : Nat) (h : j < l.length), l.idxOf l[j] = j
  | a :: l, nd, 0, _ => by simp
  | a :: l, nd, j + 1, h => by
    rw [List.nodup_cons] at nd
    have h' : j < l.length := by simpa using h
    have ih := idx_nodup nd.2 j h'
    have ne : (a == l[j]) = false := by
      rw [beq_eq_false_iff_ne]
      intro e
      exact nd.1 (e ▸ List.getElem_mem h')
    show List.idxOf l[j] (a :: l) = j + 1
    rw [List.idxOf_cons, ne, cond_false, ih]
theorem col_ix {cs : List Col} (nd : (cs.map (·.1)).Nodup) {n : S} {k : Kd} (h : (n, k) ∈ cs) : ∃ j, cs[j]? = some (n, k) ∧ (cs.map (·.1)).idxOf n = j := by
  obtain ⟨j, hj, ej⟩ := List.getElem_of_mem h
  refine ⟨j, by rw [List.getElem?_eq_getElem hj, ej], ?_⟩
  have e1 : (cs.map (·.1))[j]'(by simpa using hj) = n := by rw [List.getElem_map, ej]
  have := idx_nodup nd j (by simpa using hj)
  rw [e1] at this
  exact this
theorem opBound_mem {cs : List Col} (nd : (cs.map (·.1)).Nodup) {n : S} {b : Int} (h : (n, some b) ∈ cs) : opBound cs (.col n) = b := by
  obtain ⟨j, ej, ij⟩ := col_ix nd h
  refine opBound_at ej ?_
  intro c hc z
  obtain ⟨i, hi, ei⟩ := List.getElem_of_mem hc
  have hi2 : i < j ∧ i < cs.length := by
    rw [List.length_take] at hi
    omega
  rw [List.getElem_take] at ei
  have z1 := z.1
  injection z1 with z1
  have e2 : (cs.map (·.1)).idxOf n = i := by
    have := idx_nodup nd i (by simpa using hi2.2)
    rw [List.getElem_map, ei, ← z1] at this
    exact this
  omega
theorem col_val {cs : List Col} {vs : List V} (ok : ColsOk cs) (ri : RowIn cs vs) {n : S} {k : Kd} (h : (n, k) ∈ cs) : ValIn k (opVal cs vs (.col n)) := by
  obtain ⟨j, ej, ij⟩ := col_ix ok.nd h
  have r := row_at ri (List.mem_map.mpr ⟨_, h, rfl⟩)
  obtain ⟨v, ev, hv⟩ := ri.get ej
  rw [ij, ev] at r
  cases r
  exact hv
theorem op_int {cs : List Col} {vs : List V} (ok : ColsOk cs) (ri : RowIn cs vs) {o : Op} (h : OpOk cs false o) : ∃ i, opVal cs vs o = .int i ∧ -opBound cs o ≤ i ∧ i ≤ opBound cs o := by
  cases o with
  | txt x => exact h.elim
  | num i =>
    refine ⟨i, rfl, ?_⟩
    show -(if i < 0 then -i else i) ≤ i ∧ i ≤ (if i < 0 then -i else i)
    split <;> omega
  | col n =>
    obtain ⟨b, hb⟩ := (show ∃ b, (n, some b) ∈ cs from h)
    have hv := col_val ok ri hb
    rw [opBound_mem ok.nd hb]
    cases e : opVal cs vs (.col n) with
    | int i => rw [e] at hv; exact ⟨i, rfl, hv⟩
    | _ => rw [e] at hv; exact hv.elim
theorem op_txt {cs : List Col} {vs : List V} (ok : ColsOk cs) (ri : RowIn cs vs) {o : Op} (h : OpOk cs true o) : ∃ x, opVal cs vs o = .str x ∧ TxtOk x := by
  cases o with
  | num i => exact h.elim
  | txt x => exact ⟨x, rfl, h⟩
  | col n =>
    have hv := col_val ok ri (show (n, none) ∈ cs from h)
    cases e : opVal cs vs (.col n) with
    | str x => rw [e] at hv; exact ⟨x, rfl, hv⟩
    | _ => rw [e] at hv; exact hv.elim
theorem exVal_many {cs : List Col} {vs : List V} {ts : List Tm} (h : ts.length ≠ 1) : exVal cs vs ts = .int (ts.map (tmVal cs vs)).sum := by
  match ts, h with
  | [], _ => rfl
  | [a], h => exact absurd rfl h
  | a :: b :: r, _ => rfl
theorem exVal_one {cs : List Col} {vs : List V} {ts : List Tm} (h : ts.length = 1) : ∃ t, ts = [t] ∧ exVal cs vs ts = opVal cs vs t.op := by
  match ts, h with
  | [a], _ => exact ⟨a, rfl, rfl⟩
/-- the terms with one sign -/
def sided (cs : List Col) (vs : List V) (p : Bool) (ts : List Tm) : List Int := (ts.filter (fun t => t.plus == p)).map fun t => iOf (opVal cs vs t.op)
theorem sided_sum (cs : List Col) (vs : List V) (ts : List Tm) : (sided cs vs true ts).sum - (sided cs vs false ts).sum = (ts.map (tmVal cs vs)).sum := by
  induction ts with
  | nil => rfl
  | cons t r ih =>
    obtain ⟨p, o⟩ := t
    cases p with
    | true =>
      have e1 : sided cs vs true (⟨true, o⟩ :: r) = iOf (opVal cs vs o) :: sided cs vs true r := rfl
      have e2 : sided cs vs false (⟨true, o⟩ :: r) = sided cs vs false r := rfl
      have e3 : tmVal cs vs ⟨true, o⟩ = iOf (opVal cs vs o) := rfl
      rw [e1, e2, List.map_cons, List.sum_cons, List.sum_cons, e3]
      omega
    | false =>
      have e1 : sided cs vs false (⟨false, o⟩ :: r) = iOf (opVal cs vs o) :: sided cs vs false r := rfl
      have e2 : sided cs vs true (⟨false, o⟩ :: r) = sided cs vs true r := rfl
      have e3 : tmVal cs vs ⟨false, o⟩ = -iOf (opVal cs vs o) := rfl
      rw [e1, e2, List.map_cons, List.sum_cons, List.sum_cons, e3]
      omega
theorem sided_more {cs : List Col} {vs : List V} {p : Bool} {ts : List Tm} {i : Nat} {t : Tm} (e : ts[i]? = some t) : sided cs vs p (ts.take (i + 1)) = sided cs vs p (ts.take i) ++ (if t.plus = p then [iOf (opVal cs vs t.op)] else []) := by
  unfold sided
  rw [take_more e, List.filter_append, List.map_append]
  congr 1
  rw [List.filter_cons]
  by_cases h : t.plus = p
  · rw [if_pos h, if_pos (by simpa using h)]; rfl
  · rw [if_neg h, if_neg (by simpa using h)]; rfl
theorem sided_len {cs : List Col} {vs : List V} {p : Bool} {ts : List Tm} : (sided cs vs p ts).length ≤ ts.length := by
  unfold sided
  rw [List.length_map]
  exact List.length_filter_le _ _
theorem Same.none {b : Addr} {H H' : Hp} (f : Same H H') (e : H' b = Option.none) : H b = Option.none := by
  cases h : H b with
  | none => rfl
  | some o => rw [f b o h] at e; cases e
theorem opBound_le {cs : List Col} {b : Bool} {o : Op} (ok : ColsOk cs) (h : OpOk cs b o) : 0 ≤ opBound cs o ∧ opBound cs o ≤ 1000000000000 := by
  cases o with
  | txt x => exact ⟨(by decide : (0 : Int) ≤ 0), (by decide : (0 : Int) ≤ 1000000000000)⟩
  | num i =>
    cases b with
    | true => exact h.elim
    | false =>
      have := (show -1000000 ≤ i ∧ i ≤ 1000000 from h)
      show 0 ≤ (if i < 0 then -i else i) ∧ (if i < 0 then -i else i) ≤ 1000000000000
      split <;> omega
  | col n =>
    show 0 ≤ (match cs.find? (fun c => decide (c.1 = n) && c.2.isSome) with | some (_, some b) => b | _ => 0) ∧ (match cs.find? (fun c => decide (c.1 = n) && c.2.isSome) with | some (_, some b) => b | _ => 0) ≤ 1000000000000
    split
    · rename_i m k e
      exact ok.kd _ (List.mem_of_find?_eq_some e)
    · exact ⟨by decide, by decide⟩
end Ind

set_option Elab.async false
set_option linter.all false
set_option maxRecDepth 100000
set_option maxHeartbeats 4000000
namespace Ind
open PySem PySem.Spec PyProof.Rows L2
/-! ### two ways that meet -/
theorem meet {c : Prop} [Decidable c] {tb : TS} {D : Ends} {σ0 : L2.St} {H0 : Hp} (G : L2.St → Hp → Prop) (rest : ∀ σ H, G σ H → D.nx σ H)
    (h1 : (∀ σ H, G σ H → D.nx σ H) → c → tb D σ0 H0) (h2 : ¬ c → G σ0 H0) : if c then tb D σ0 H0 else tNext D σ0 H0 := by
  by_cases h : c
  · rw [if_pos h]; exact h1 rest h
  · rw [if_neg h]; exact rest _ _ (h2 h)
theorem leave {D : Ends} {σ : L2.St} {H : Hp} (h : D.nx σ H) : tNext D σ H := h
theorem if_not {A B : Prop} (h : B) : if false = true then A else B := by rw [if_neg (by decide)]; exact h
/-- straight expressions under way -/
def colN (t : Tm) : Option S := match t.op with
  | .col n => some n
  | _ => none
structure StI (cs : List Col) (ts : List Tm) (fs : List S) (n : Int) (i : Nat) : Prop where
  ne : 0 < i → ts ≠ []
  first : ∀ t, ts.head? = some t → t.plus = true
  ops : ∀ t ∈ ts, OpOk cs false t.op
  sum : (ts.map fun t => opBound cs t.op).sum = n
  low : n ≤ 1000000000000
  len : ts.length ≤ i
  nd : (ts.filterMap colN).Nodup
  signs : ∀ t ∈ ts, ∀ j, t.op = .num j → if t.plus then 0 ≤ j else j ≤ 0
  left : ∀ f ∈ fs, ∃ b, (f, some b) ∈ cs
  fnd : fs.Nodup
  apart : ∀ f ∈ fs, f ∉ ts.filterMap colN
  few : fs.length ≤ 10
/-- an operand that may come next -/
structure Nxt (cs : List Col) (ts : List Tm) (fs : List S) (pl : Bool) (o : Op) : Prop where
  ok : OpOk cs false o
  sign : ∀ j, o = .num j → if pl then 0 ≤ j else j ≤ 0
  apart : ∀ n, o = .col n → n ∉ fs ∧ n ∉ ts.filterMap colN
theorem StI.same {cs : List Col} {ts : List Tm} {fs : List S} {n : Int} {i : Nat} (h : StI cs ts fs n i) (ne : ts ≠ []) : StI cs ts fs n (i + 1) :=
  ⟨fun _ => ne, h.first, h.ops, h.sum, h.low, Nat.le_succ_of_le h.len, h.nd, h.signs, h.left, h.fnd, h.apart, h.few⟩
theorem StI.less {cs : List Col} {ts : List Tm} {fs : List S} {n : Int} {i : Nat} (h : StI cs ts fs n i) (k : Nat) : StI cs ts (fs.eraseIdx k) n i :=
  ⟨h.ne, h.first, h.ops, h.sum, h.low, h.len, h.nd, h.signs, fun f m => h.left f (List.mem_of_mem_eraseIdx m), h.fnd.sublist (List.eraseIdx_sublist _ _), fun f m => h.apart f (List.mem_of_mem_eraseIdx m), Nat.le_trans (List.length_eraseIdx_le _ _) h.few⟩
theorem erase_out {fs : List S} (nd : fs.Nodup) : ∀ {k : Nat} {f : S}, fs[k]? = some f → f ∉ fs.eraseIdx k := by
  induction fs with
  | nil => intro k f e; simp at e
  | cons a r ih =>
    intro k f e
    rw [List.nodup_cons] at nd
    cases k with
    | zero =>
      simp only [List.getElem?_cons_zero, Option.some.injEq] at e
      subst e
      exact nd.1
    | succ k =>
      rw [List.getElem?_cons_succ] at e
      rw [List.eraseIdx_cons_succ, List.mem_cons, not_or]
      exact ⟨fun z => nd.1 (z ▸ List.mem_of_getElem? e), ih nd.2 e⟩
theorem StI.add {cs : List Col} {ts : List Tm} {fs : List S} {n : Int} {i : Nat} {pl : Bool} {o : Op} (h : StI cs ts fs n i) (x : Nxt cs ts fs pl o) (hp : i = 0 → pl = true) (l : n + opBound cs o ≤ 1000000000000) : StI cs (ts ++ [⟨pl, o⟩]) fs (n + opBound cs o) (i + 1) := by
  refine ⟨fun _ => by simp, ?_, ?_, ?_, l, ?_, ?_, ?_, h.left, h.fnd, ?_, h.few⟩
  · intro t ht
    cases ts with
    | nil =>
      have hi : i = 0 ∨ 0 < i := by omega
      rcases hi with hi | hi
      · cases ht; exact hp hi
      · exact absurd rfl (h.ne hi)
    | cons a r => exact h.first t ht
  · intro t ht
    rcases List.mem_append.mp ht with m | m
    · exact h.ops t m
    · cases List.mem_singleton.mp m; exact x.ok
  · rw [List.map_append, List.sum_append, h.sum]; simp
  · have := h.len
    simp; omega
  · rw [List.filterMap_append, List.nodup_append]
    refine ⟨h.nd, ?_, ?_⟩
    · cases o with
      | col m => exact (by show [m].Nodup; simp)
      | num j => exact (show ([] : List S).Nodup from List.nodup_nil)
      | txt y => exact (show ([] : List S).Nodup from List.nodup_nil)
    · intro a ha b hb e
      subst e
      cases o with
      | col m =>
        have : a = m := by simpa [colN] using hb
        subst this
        exact (x.apart a rfl).2 ha
      | num j => simp [colN] at hb
      | txt y => simp [colN] at hb
  · intro t ht j ej
    rcases List.mem_append.mp ht with m | m
    · exact h.signs t m j ej
    · cases List.mem_singleton.mp m; exact x.sign j ej
  · intro f hf
    rw [List.filterMap_append, List.mem_append, not_or]
    refine ⟨h.apart f hf, ?_⟩
    cases o with
    | col m =>
      intro hb
      have : f = m := by simpa [colN] using hb
      subst this
      exact (x.apart f rfl).1 hf
    | num j => simp [colN]
    | txt y => simp [colN]
theorem StI.out {cs : List Col} {ts : List Tm} {fs : List S} {n : Int} {i : Nat} (h : StI cs ts fs n i) (hi : 0 < i ∧ i ≤ 20) : ExOk cs false ts ∧ Straight cs ts :=
  ⟨⟨h.ne hi.1, h.first, h.ops, (fun e => by cases e), by rw [h.sum]; exact h.low, Nat.le_trans h.len hi.2⟩, ⟨h.nd, h.signs⟩⟩
theorem pick_ix {i : Int} {n : Nat} (h0 : 0 ≤ i) (h1 : i < (n : Int)) : seqIndex? i n = some i.toNat := PySem.StrLaws.seqIndex_nonneg h0 h1
theorem map_erase {α β : Type} (f : α → β) : ∀ (l : List α) (k : Nat), (l.map f).eraseIdx k = (l.eraseIdx k).map f
  | [], _ => rfl
  | a :: l, 0 => rfl
  | a :: l, k + 1 => by
    show f a :: (l.map f).eraseIdx k = f a :: (l.eraseIdx k).map f
    rw [map_erase f l k]
end Ind

set_option Elab.async false
set_option linter.all false
set_option maxRecDepth 100000
set_option maxHeartbeats 4000000
namespace Ind
open PySem PySem.Spec PyProof.Rows L2
theorem col_uniq {cs : List Col} (nd : (cs.map (·.1)).Nodup) {n : S} {k k' : Kd} (h : (n, k) ∈ cs) (h' : (n, k') ∈ cs) : k = k' := by
  obtain ⟨j, ej, ij⟩ := col_ix nd h
  obtain ⟨j', ej', ij'⟩ := col_ix nd h'
  have e : j = j' := by omega
  subst e
  rw [ej] at ej'
  cases ej'
  rfl
/-- one term's word on the value of a column -/
def farStep (c : Col) (v : V) (t : Tm) : V := match t.op, c.2 with
  | .col n, some b => if n = c.1 then (if t.plus then .int b else .int (-b)) else v
  | _, _ => v
theorem far_fold (ts : List Tm) (c : Col) (v : V) : farVal ts c v = ts.foldl (farStep c) v := rfl
theorem far_more {ts : List Tm} {i : Nat} {t : Tm} (e : ts[i]? = some t) (c : Col) (v : V) : farVal (ts.take (i + 1)) c v = farStep c (farVal (ts.take i) c v) t := by
  rw [far_fold, take_more e, List.foldl_append]
  rfl
theorem far_hit {c : Col} {v : V} {t : Tm} {b : Int} (e : t.op = .col c.1) (k : c.2 = some b) : farStep c v t = .int (if t.plus then b else -b) := by
  unfold farStep
  rw [e, k]
  simp
  split <;> rfl
theorem far_miss {c : Col} {v : V} {t : Tm} (e : t.op ≠ .col c.1) : farStep c v t = v := by
  unfold farStep
  split
  · rename_i n b e1 e2
    rw [if_neg (fun z => e (by rw [e1, z]))]
  · rfl
end Ind

set_option Elab.async false
set_option linter.all false
set_option maxRecDepth 100000
set_option maxHeartbeats 4000000
namespace Ind
open PySem PySem.Spec PyProof.Rows L2
/-! ### the dict of the kinds -/
inductive KvOf (K : PySem.W.Frag) (H : Hp) : List Col → List (Key × V) → Prop
  | nil : KvOf K H [] []
  | cons {c : Col} {u : V} {cs : List Col} {kvs : List (Key × V)} : Dp K H u (kdD c.2) → KvOf K H cs kvs → KvOf K H (c :: cs) ((.inr c.1, u) :: kvs)
variable {K : PySem.W.Frag} {H H' : Hp}
theorem KvOf.keys {cs : List Col} {kvs : List (Key × V)} (h : KvOf K H cs kvs) : kvs.map (·.1) = cs.map (fun c => (.inr c.1 : Key)) := by
  induction h with
  | nil => rfl
  | cons _ _ ih => rw [List.map_cons, List.map_cons, ih]
theorem KvOf.kp {cs : List Col} {kvs : List (Key × V)} (k : Kp H H') (h : KvOf K H cs kvs) : KvOf K H' cs kvs := by
  induction h with
  | nil => exact .nil
  | cons d _ ih => exact .cons (Dp.kp k _ _ (tO_kd _) d) ih
theorem KvOf.get {cs : List Col} {kvs : List (Key × V)} (h : KvOf K H cs kvs) (nd : (cs.map (·.1)).Nodup) {n : S} {k : Kd} (m : (n, k) ∈ cs) : ∃ u, valV kvs (.inr n) = some u ∧ Dp K H u (kdD k) := by
  induction h with
  | nil => cases m
  | cons d r ih =>
    rename_i c u cs kvs
    rw [List.map_cons, List.nodup_cons] at nd
    rcases List.mem_cons.mp m with e | m'
    · subst e
      exact ⟨u, valV_pos rfl, d⟩
    · obtain ⟨u', e1, d1⟩ := ih nd.2 m'
      have ne : ¬ ((.inr c.1 : Key)) = .inr n := fun e => by
        injection e with e
        exact nd.1 (e ▸ List.mem_map.mpr ⟨_, m', rfl⟩)
      refine ⟨u', ?_, d1⟩
      rw [valV_neg (p := ((.inr c.1 : Key), u)) ne]
      exact e1
theorem merge_new : ∀ (more acc : List (Key × V)), ((acc ++ more).map (·.1)).Nodup → mergeK acc more = acc ++ more
  | [], acc, _ => by rw [List.append_nil]; rfl
  | p :: r, acc, nd => by
    have e0 : acc ++ p :: r = (acc ++ [p]) ++ r := by simp
    have ih := merge_new r (acc ++ [p]) (by rw [← e0]; exact nd)
    have hp : putK acc p.1 p.2 = acc ++ [p] := by
      unfold putK
      rw [if_neg]
      intro e
      rw [List.any_eq_true] at e
      obtain ⟨x, hx, ex⟩ := e
      rw [List.map_append, List.nodup_append] at nd
      exact nd.2.2 x.1 (List.mem_map.mpr ⟨x, hx, rfl⟩) p.1 (by simp) (of_decide_eq_true ex)
    show mergeK (putK acc p.1 p.2) r = _
    rw [hp, ih, e0]
theorem cols_kvs : ∀ (cs : List Col) (ps : List Addr), DpAll K H (ps.map V.ref) (cs.map colD) → ∃ kvs : List (Key × V), Paired (fun p kv => SqT K H p [kV kv.1, kv.2]) ps kvs ∧ KvOf K H cs kvs
  | [], [], _ => ⟨[], .nil, .nil⟩
  | [], p :: ps, h => by cases h
  | c :: cs, [], h => by cases h
  | c :: cs, p :: ps, h => by
    cases h with
    | cons h1 h2 =>
      obtain ⟨a, u, e, hs, du⟩ := col_at h1
      cases e
      obtain ⟨kvs, hp, hk⟩ := cols_kvs cs ps h2
      exact ⟨(.inr c.1, u) :: kvs, .cons hs hp, .cons du hk⟩
def DictAt (K : PySem.W.Frag) (H : Hp) (d : Addr) (cs : List Col) : Prop := ∃ kvs, H d = some (.dK kvs) ∧ KvOf K H cs kvs
theorem DictAt.same {d : Addr} {cs : List Col} (h : DictAt K H d cs) (s : Same H H') : DictAt K H' d cs := by
  obtain ⟨kvs, h1, h2⟩ := h
  exact ⟨kvs, s _ _ h1, h2.kp (Same.kp s)⟩
def opKd (cs : List Col) (b : Bool) (o : Op) : Kd := if b then none else some (opBound cs o)
/-! ### promises of the program -/
def spOpKind (K : PySem.W.Frag) : Sp := fun vs H Q _ => ∃ (v : V) (d : Addr) (o : Op) (cs : List Col) (b : Bool), vs = [v, .ref d] ∧ Dp K H v o.d ∧ DictAt K H d cs ∧ ColsOk cs ∧ OpOk cs b o ∧
  ∀ H' u, Same H H' → Dp K H' u (kdD (opKd cs b o)) → Q u H'
def spKindOf (K : PySem.W.Frag) : Sp := fun vs H Q _ => ∃ (e c : V) (ts : List Tm) (cs : List Col) (b : Bool), vs = [e, c] ∧ Dp K H e (exD ts) ∧ ColsAt K H c cs ∧ ColsOk cs ∧ ExOk cs b ts ∧
  ∀ H' u, Same H H' → Dp K H' u (kdD (exKd cs b ts)) → Q u H'
def spOpValue (K : PySem.W.Frag) : Sp := fun xs H Q _ => ∃ (v n r : V) (o : Op) (cs : List Col) (vs : List V) (b : Bool), xs = [v, n, r] ∧ Dp K H v o.d ∧ OpOk cs b o ∧ ColsOk cs ∧ NamesAt K H n cs ∧ RowAt K H r vs ∧ RowIn cs vs ∧ Q (opVal cs vs o) H
def spEval (K : PySem.W.Frag) : Sp := fun xs H Q _ => ∃ (e n r : V) (ts : List Tm) (cs : List Col) (vs : List V) (b : Bool), xs = [e, n, r] ∧ Dp K H e (exD ts) ∧ ExOk cs b ts ∧ ColsOk cs ∧ NamesAt K H n cs ∧ RowAt K H r vs ∧ RowIn cs vs ∧ Q (exVal cs vs ts) H
theorem kd_ne (b : Int) : (kdD (some b)).eqv (kdD none) = false := by
  show ((("integer" : S) == "string") && false) = false
  exact Bool.and_false _
end Ind

set_option Elab.async false
set_option linter.all false
set_option maxRecDepth 100000
set_option maxHeartbeats 4000000
namespace Ind
open PySem PySem.Spec PyProof.Rows L2
/-! ### how long data are when they are shown -/
theorem int_show {i : Int} (h : -1000000000000 ≤ i ∧ i ≤ 1000000000000) : (PyData.int i).shown.length ≤ 20 := by
  show (Str.ofString (toString i)).length ≤ 20
  rw [PySem.ofString_length]
  have := int_text_length_le10 (a := i) (k := 13) (by decide) (by omega)
  omega
theorem txt_show {x : S} (h : TxtOk x) : (PyData.str x).shown.length ≤ 202 := by
  show (reprText x).length ≤ 202
  have := PySem.StrLaws.reprText_len x (fun c hc => by have := (h.2 c hc).2.1; omega)
  have := h.1
  omega
theorem int_word : (PyData.str "integer").shown.length ≤ 9 := by decide +kernel
theorem str_word : (PyData.str "string").shown.length ≤ 8 := by decide +kernel
theorem kd_show {k : Kd} (h : ∀ b, k = some b → -1000000000000 ≤ b ∧ b ≤ 1000000000000) : (kdD k).shown.length ≤ 1000 := by
  cases k with
  | none =>
    show (tupleText [(PyData.str "string").shown]).length ≤ 1000
    have := tupleText_len_le [(PyData.str "string").shown]
    have := str_word
    simp only [List.map_cons, List.map_nil, List.sum_cons, List.sum_nil, List.length_cons, List.length_nil] at *
    omega
  | some b =>
    show (tupleText [(PyData.str "integer").shown, (PyData.int b).shown]).length ≤ 1000
    have := tupleText_len_le [(PyData.str "integer").shown, (PyData.int b).shown]
    have := int_word
    have := int_show (h b rfl)
    simp only [List.map_cons, List.map_nil, List.sum_cons, List.sum_nil, List.length_cons, List.length_nil] at *
    omega
theorem log_low {i : Int} (h : -1000000000000 ≤ i ∧ i ≤ 1000000000000) : i.natAbs.log2 < 1920 := by
  by_cases z : i.natAbs = 0
  · rw [z]; decide
  · refine Nat.lt_of_lt_of_le ((Nat.log2_lt z).mpr (show i.natAbs < 2 ^ 40 from ?_)) (by decide)
    have e : (2 : Nat) ^ 40 = 1099511627776 := by decide +kernel
    rw [e]
    omega
theorem kd_able {k : Kd} (h : ∀ b, k = some b → -1000000000000 ≤ b ∧ b ≤ 1000000000000) : (kdD k).showable = true := by
  cases k with
  | none => simp [kdD, PyData.showable, PyData.showableAll]
  | some b =>
    have := h b rfl
    simp [kdD, PyData.showable, PyData.showableAll]
    exact log_low this
theorem kd_dict (k : Kd) : (kdD k).hasDict = false := by
  cases k <;> simp [kdD, PyData.hasDict, PyData.hasDictAll]
theorem kd_depth (k : Kd) : (kdD k).depth ≤ 60 := by
  cases k <;> simp [kdD, PyData.depth, PyData.depthAll]
theorem int_able {i : Int} (h : -1000000000000 ≤ i ∧ i ≤ 1000000000000) : (PyData.int i).showable = true := by
  simp [PyData.showable]
  exact log_low h
end Ind

set_option Elab.async false
set_option linter.all false
set_option maxRecDepth 100000
set_option maxHeartbeats 4000000
namespace Ind
open PySem PySem.Spec PyProof.Rows L2
/-! ### bounds of values, and the row that reaches them -/
theorem sum_low {cs : List Col} {vs : List V} (ok : ColsOk cs) (ri : RowIn cs vs) : ∀ (ts : List Tm), (∀ t ∈ ts, OpOk cs false t.op) →
    -(ts.map fun t => opBound cs t.op).sum ≤ (ts.map (tmVal cs vs)).sum ∧ (ts.map (tmVal cs vs)).sum ≤ (ts.map fun t => opBound cs t.op).sum
  | [], _ => ⟨(by decide : -(0 : Int) ≤ 0), (by decide : (0 : Int) ≤ 0)⟩
  | t :: r, h => by
    have ih := sum_low ok ri r (fun u hu => h u (List.mem_cons_of_mem _ hu))
    obtain ⟨z, ez, z1, z2⟩ := op_int ok ri (h t (List.mem_cons_self ..))
    have tv : -opBound cs t.op ≤ tmVal cs vs t ∧ tmVal cs vs t ≤ opBound cs t.op := by
      unfold tmVal
      rw [ez]
      show -opBound cs t.op ≤ (if t.plus = true then z else -z) ∧ (if t.plus = true then z else -z) ≤ opBound cs t.op
      split <;> omega
    simp only [List.map_cons, List.sum_cons]
    omega
theorem ex_int {cs : List Col} {vs : List V} {ts : List Tm} (ok : ColsOk cs) (ri : RowIn cs vs) (ex : ExOk cs false ts) : ∃ z, exVal cs vs ts = .int z ∧ -(ts.map fun t => opBound cs t.op).sum ≤ z ∧ z ≤ (ts.map fun t => opBound cs t.op).sum := by
  by_cases l : ts.length = 1
  · obtain ⟨t, rfl, e⟩ := exVal_one (cs := cs) (vs := vs) l
    obtain ⟨z, ez, z1, z2⟩ := op_int ok ri (ex.ops t (by simp))
    refine ⟨z, by rw [e, ez], ?_⟩
    simp only [List.map_cons, List.map_nil, List.sum_cons, List.sum_nil]
    omega
  · exact ⟨_, exVal_many l, sum_low ok ri ts ex.ops⟩
theorem ex_txt {cs : List Col} {vs : List V} {ts : List Tm} (ok : ColsOk cs) (ri : RowIn cs vs) (ex : ExOk cs true ts) : ∃ x, exVal cs vs ts = .str x ∧ TxtOk x := by
  obtain ⟨t, rfl, e⟩ := exVal_one (cs := cs) (vs := vs) (ex.one rfl)
  obtain ⟨x, exx, tx⟩ := op_txt ok ri (ex.ops t (by simp))
  exact ⟨x, by rw [e, exx], tx⟩
theorem far_step_in {c : Col} {v : V} {t : Tm} (k : KdOk c.2) (h : ValIn c.2 v) : ValIn c.2 (farStep c v t) := by
  by_cases e : t.op = .col c.1
  · cases kk : c.2 with
    | none =>
      have : farStep c v t = v := by
        unfold farStep
        rw [e, kk]
      rw [this, ← kk]; exact h
    | some b =>
      rw [far_hit e kk]
      rw [kk] at k
      have : 0 ≤ b := k.1
      show -b ≤ _ ∧ _ ≤ b
      split <;> omega
  · rw [far_miss e]; exact h
theorem far_in {c : Col} (k : KdOk c.2) : ∀ (ts : List Tm) (v : V), ValIn c.2 v → ValIn c.2 (farVal ts c v)
  | [], _, h => h
  | t :: r, v, h => far_in k r _ (far_step_in k h)
theorem far_row (ts : List Tm) : ∀ {cs : List Col} {us : List V}, (∀ c ∈ cs, KdOk c.2) → RowIn cs us → RowIn cs ((cs.zip us).map fun p => farVal ts p.1 p.2) := by
  intro cs us k r
  induction r with
  | nil => exact .nil
  | cons h r ih => exact .cons (far_in (k _ (List.mem_cons_self ..)) ts _ h) (ih (fun d hd => k d (List.mem_cons_of_mem _ hd)))
theorem far_none {c : Col} : ∀ (ts : List Tm) (v : V), c.1 ∉ ts.filterMap colN → farVal ts c v = v
  | [], _, _ => rfl
  | t :: r, v, h => by
    have ne : t.op ≠ .col c.1 := by
      intro e
      apply h
      rw [List.mem_filterMap]
      exact ⟨t, List.mem_cons_self .., by unfold colN; rw [e]⟩
    show farVal r c (farStep c v t) = v
    rw [far_miss ne]
    refine far_none r v ?_
    intro m
    apply h
    rw [List.mem_filterMap] at m ⊢
    obtain ⟨u, hu, eu⟩ := m
    exact ⟨u, List.mem_cons_of_mem _ hu, eu⟩
theorem far_val {c : Col} {b : Int} (kk : c.2 = some b) : ∀ (ts : List Tm) (v : V) (t : Tm), (ts.filterMap colN).Nodup → t ∈ ts → t.op = .col c.1 → farVal ts c v = .int (if t.plus then b else -b)
  | [], _, _, _, m, _ => by cases m
  | u :: r, v, t, nd, m, e => by
    show farVal r c (farStep c v u) = _
    rcases List.mem_cons.mp m with h | h
    · subst h
      rw [far_hit e kk]
      refine far_none r _ ?_
      have : (t :: r).filterMap colN = c.1 :: r.filterMap colN := by
        rw [List.filterMap_cons]
        unfold colN
        rw [e]
      rw [this, List.nodup_cons] at nd
      exact nd.1
    · refine far_val kk r _ t ?_ h e
      rw [List.filterMap_cons] at nd
      split at nd
      · exact nd
      · rw [List.nodup_cons] at nd; exact nd.2
theorem zip_at {α β γ : Type} (f : α × β → γ) : ∀ (as : List α) (bs : List β) (j : Nat) (a : α) (b : β), as[j]? = some a → bs[j]? = some b → ((as.zip bs).map f)[j]? = some (f (a, b))
  | a :: as, b :: bs, 0, _, _, e1, e2 => by
    simp only [List.getElem?_cons_zero, Option.some.injEq] at e1 e2
    subst e1; subst e2
    rfl
  | a :: as, b :: bs, j + 1, x, y, e1, e2 => by
    rw [List.getElem?_cons_succ] at e1 e2
    exact zip_at f as bs j x y e1 e2
  | [], _, _, _, _, e1, _ => by simp at e1
  | _ :: _, [], _, _, _, _, e2 => by simp at e2
theorem far_tm {cs : List Col} {us : List V} {ts : List Tm} (ok : ColsOk cs) (ri : RowIn cs us) (st : Straight cs ts) {t : Tm} (m : t ∈ ts) (oo : OpOk cs false t.op) :
    tmVal cs ((cs.zip us).map fun p => farVal ts p.1 p.2) t = opBound cs t.op := by
  unfold tmVal
  cases e : t.op with
  | txt x => rw [e] at oo; exact oo.elim
  | num i =>
    have sg := st.signs t m i e
    show (if t.plus = true then i else -i) = (if i < 0 then -i else i)
    cases hp : t.plus
    · rw [hp] at sg
      have : i ≤ 0 := sg
      rw [if_neg (by decide)]
      split <;> omega
    · rw [hp] at sg
      have : 0 ≤ i := sg
      rw [if_pos rfl]
      split <;> omega
  | col n =>
    rw [e] at oo
    obtain ⟨b, hb⟩ := (show ∃ b, (n, some b) ∈ cs from oo)
    obtain ⟨j, ej, ij⟩ := col_ix ok.nd hb
    obtain ⟨u, eu, _⟩ := ri.get ej
    have r := row_at (far_row ts ok.kd ri) (List.mem_map.mpr ⟨_, hb, rfl⟩)
    rw [ij, zip_at _ cs us j _ _ ej eu] at r
    injection r with r
    rw [← r, far_val (c := (n, some b)) rfl ts u t st.nd m e, opBound_mem ok.nd hb]
    cases hp : t.plus
    · show (if false = true then -b else - -b) = b
      rw [if_neg (by decide)]
      omega
    · rfl
theorem far_ex {cs : List Col} {us : List V} {ts : List Tm} (ok : ColsOk cs) (ri : RowIn cs us) (ex : ExOk cs false ts) (st : Straight cs ts) :
    exVal cs ((cs.zip us).map fun p => farVal ts p.1 p.2) ts = .int (ts.map fun t => opBound cs t.op).sum := by
  have all : ts.map (tmVal cs ((cs.zip us).map fun p => farVal ts p.1 p.2)) = ts.map fun t => opBound cs t.op :=
    List.map_congr_left fun t m => far_tm ok ri st m (ex.ops t m)
  by_cases l : ts.length = 1
  · obtain ⟨t, rfl, e⟩ := exVal_one (cs := cs) (vs := (cs.zip us).map fun p => farVal ts p.1 p.2) l
    have pl := ex.first t rfl
    have ft := far_tm ok ri st (t := t) (by simp) (ex.ops t (by simp))
    obtain ⟨z, ez, _⟩ := op_int ok (far_row [t] ok.kd ri) (ex.ops t (by simp))
    rw [e, ez]
    unfold tmVal at ft
    rw [if_pos pl, ez] at ft
    have : z = opBound cs t.op := ft
    rw [this]
    simp
  · rw [exVal_many l, all]
theorem sum_pos {cs : List Col} {b : Bool} (ok : ColsOk cs) : ∀ (ts : List Tm), (∀ t ∈ ts, OpOk cs b t.op) → 0 ≤ (ts.map fun t => opBound cs t.op).sum
  | [], _ => (by decide : (0 : Int) ≤ 0)
  | t :: r, h => by
    have ih := sum_pos ok r (fun u hu => h u (List.mem_cons_of_mem _ hu))
    have := opBound_le ok (h t (List.mem_cons_self ..))
    simp only [List.map_cons, List.sum_cons]
    omega
theorem exKd_low {cs : List Col} {b : Bool} {ts : List Tm} (ok : ColsOk cs) (ex : ExOk cs b ts) : ∀ x, exKd cs b ts = some x → -1000000000000 ≤ x ∧ x ≤ 1000000000000 := by
  intro x e
  unfold exKd at e
  split at e
  · cases e
  · injection e with e
    have := sum_pos ok ts ex.ops
    have := ex.sum
    omega
theorem fits {n : Nat} (h : n ≤ 1000) : n ≤ sizeLine := Nat.le_trans h (by decide)
/-- what stands through the law -/
structure Lw (K : PySem.W.Frag) (H : Hp) (t : Tp) (ca na : Addr) (cs : List Col) : Prop where
  tp : TapeAt H t
  cols : ColsAt K H (.ref ca) cs
  nm : NamesAt K H (.ref na) cs
theorem Lw.kp {K : PySem.W.Frag} {H H' : Hp} {t : Tp} {ca na : Addr} {cs : List Col} (h : Lw K H t ca na cs) (k : Kp H H') (T : TapeAt H' t) : Lw K H' t ca na cs := by
  obtain ⟨a, o, e, h1, h2⟩ := h.nm
  exact ⟨T, h.cols.kp k, ⟨a, o, e, k.frz _ _ _ h1, h2⟩⟩
/-- a value that is shown -/
structure Shw (K : PySem.W.Frag) (v : V) (d : PyData) : Prop where
  dp : ∀ H, Dp K H v d
  able : d.showable = true
  nod : d.hasDict = false
  dep : d.depth ≤ 60
  len : d.shown.length ≤ sizeLine
theorem shw_int {K : PySem.W.Frag} {i : Int} (h : -1000000000000 ≤ i ∧ i ≤ 1000000000000) : Shw K (.int i) (.int i) := ⟨fun _ => .int _, int_able h, rfl, by simp [PyData.depth], fits (Nat.le_trans (int_show h) (by decide))⟩
theorem shw_txt {K : PySem.W.Frag} {x : S} (h : TxtOk x) : Shw K (.str x) (.str x) := ⟨fun _ => .str _, by simp [PyData.showable], rfl, by simp [PyData.depth], fits (Nat.le_trans (txt_show h) (by decide))⟩
theorem ex_shw {K : PySem.W.Frag} {cs : List Col} {vs : List V} {ts : List Tm} {b : Bool} (ok : ColsOk cs) (ri : RowIn cs vs) (ex : ExOk cs b ts) : ∃ d, Shw K (exVal cs vs ts) d := by
  cases b with
  | true =>
    obtain ⟨x, e, hx⟩ := ex_txt ok ri ex
    rw [e]; exact ⟨_, shw_txt hx⟩
  | false =>
    obtain ⟨z, e, h1, h2⟩ := ex_int ok ri ex
    have := ex.sum
    rw [e]; exact ⟨_, shw_int ⟨by omega, by omega⟩⟩
end Ind

set_option Elab.async false
set_option linter.all false
set_option maxRecDepth 100000
set_option maxHeartbeats 4000000
namespace Ind
open PySem PySem.Spec PyProof.Rows L2
def top (i : Nat) : Stmt := PySem.Challenge.pw_indoubt_k02_values_of_expressions.main.body.getD i (.Pass ⟨0, 0, 0, 0⟩)
abbrev s_kind_of : Stmt := top 8
abbrev N_kind_of : List Str := ["expression", "columns", "kinds", "bound", "_", "operand", "kind"]
theorem sc_kind_of : FnScope N_kind_of ["expression", "columns"] (defScope s_kind_of) := ⟨rfl, rfl, rfl, by decide +kernel, rfl, by decide +kernel, by decide +kernel⟩
abbrev s_evaluate : Stmt := top 9
abbrev N_evaluate : List Str := ["expression", "names", "row", "total", "sign", "operand", "value"]
theorem sc_evaluate : FnScope N_evaluate ["expression", "names", "row"] (defScope s_evaluate) := ⟨rfl, rfl, rfl, by decide +kernel, rfl, by decide +kernel, by decide +kernel⟩
abbrev s__operand_kind : Stmt := top 10
abbrev N__operand_kind : List Str := ["operand", "kinds", "word", "content"]
theorem sc__operand_kind : FnScope N__operand_kind ["operand", "kinds"] (defScope s__operand_kind) := ⟨rfl, rfl, rfl, by decide +kernel, rfl, by decide +kernel, by decide +kernel⟩
abbrev s__operand_value : Stmt := top 11
abbrev N__operand_value : List Str := ["operand", "names", "row", "word", "content"]
theorem sc__operand_value : FnScope N__operand_value ["operand", "names", "row"] (defScope s__operand_value) := ⟨rfl, rfl, rfl, by decide +kernel, rfl, by decide +kernel, by decide +kernel⟩
abbrev s__law_tape : Stmt := top 13
abbrev N__law_tape : List Str := ["script", "total", "cell"]
theorem sc__law_tape : FnScope N__law_tape ["script"] (defScope s__law_tape) := ⟨rfl, rfl, rfl, by decide +kernel, rfl, by decide +kernel, by decide +kernel⟩
abbrev s__law_draw : Stmt := top 14
abbrev N__law_draw : List Str := ["tape", "many", "place", "number"]
theorem sc__law_draw : FnScope N__law_draw ["tape", "many"] (defScope s__law_draw) := ⟨rfl, rfl, rfl, by decide +kernel, rfl, by decide +kernel, by decide +kernel⟩
abbrev s__law_name : Stmt := top 15
abbrev N__law_name : List Str := ["tape", "signs", "number", "name", "k"]
theorem sc__law_name : FnScope N__law_name ["tape"] (defScope s__law_name) := ⟨rfl, rfl, rfl, by decide +kernel, rfl, by decide +kernel, by decide +kernel⟩
abbrev s__law_names : Stmt := top 16
abbrev N__law_names : List Str := ["tape", "many", "names", "k", "name"]
theorem sc__law_names : FnScope N__law_names ["tape", "many"] (defScope s__law_names) := ⟨rfl, rfl, rfl, by decide +kernel, rfl, by decide +kernel, by decide +kernel⟩
abbrev s__law_signs : Stmt := top 17
abbrev N__law_signs : List Str := ["signs"]
theorem sc__law_signs : FnScope N__law_signs [] (defScope s__law_signs) := ⟨rfl, rfl, rfl, by decide +kernel, rfl, by decide +kernel, by decide +kernel⟩
abbrev s__law_text : Stmt := top 18
abbrev N__law_text : List Str := ["tape", "number", "share", "text", "k"]
theorem sc__law_text : FnScope N__law_text ["tape"] (defScope s__law_text) := ⟨rfl, rfl, rfl, by decide +kernel, rfl, by decide +kernel, by decide +kernel⟩
abbrev s__law_number : Stmt := top 19
abbrev N__law_number : List Str := ["tape", "number", "share"]
theorem sc__law_number : FnScope N__law_number ["tape"] (defScope s__law_number) := ⟨rfl, rfl, rfl, by decide +kernel, rfl, by decide +kernel, by decide +kernel⟩
abbrev s__law_kind : Stmt := top 20
abbrev N__law_kind : List Str := ["tape", "number"]
theorem sc__law_kind : FnScope N__law_kind ["tape"] (defScope s__law_kind) := ⟨rfl, rfl, rfl, by decide +kernel, rfl, by decide +kernel, by decide +kernel⟩
abbrev s__law_value : Stmt := top 21
abbrev N__law_value : List Str := ["tape", "kind", "most", "number", "share"]
theorem sc__law_value : FnScope N__law_value ["tape", "kind"] (defScope s__law_value) := ⟨rfl, rfl, rfl, by decide +kernel, rfl, by decide +kernel, by decide +kernel⟩
abbrev s__law_columns : Stmt := top 22
abbrev N__law_columns : List Str := ["tape", "many", "name"]
theorem sc__law_columns : FnScope N__law_columns ["tape", "many"] (defScope s__law_columns) := ⟨rfl, rfl, rfl, by decide +kernel, rfl, by decide +kernel, by decide +kernel⟩
abbrev s__law_bound : Stmt := top 23
abbrev N__law_bound : List Str := ["operand", "columns", "column"]
theorem sc__law_bound : FnScope N__law_bound ["operand", "columns"] (defScope s__law_bound) := ⟨rfl, rfl, rfl, by decide +kernel, rfl, by decide +kernel, by decide +kernel⟩
abbrev s__law_operand : Stmt := top 24
abbrev N__law_operand : List Str := ["tape", "columns", "word", "fitting", "number", "column"]
theorem sc__law_operand : FnScope N__law_operand ["tape", "columns", "word"] (defScope s__law_operand) := ⟨rfl, rfl, rfl, by decide +kernel, rfl, by decide +kernel, by decide +kernel⟩
abbrev s__law_expression : Stmt := top 25
abbrev N__law_expression : List Str := ["tape", "columns", "word", "more", "terms", "bound", "many", "k", "operand"]
theorem sc__law_expression : FnScope N__law_expression ["tape", "columns", "word", "more"] (defScope s__law_expression) := ⟨rfl, rfl, rfl, by decide +kernel, rfl, by decide +kernel, by decide +kernel⟩
abbrev s__law_sum : Stmt := top 26
abbrev N__law_sum : List Str := ["expression", "columns", "term"]
theorem sc__law_sum : FnScope N__law_sum ["expression", "columns"] (defScope s__law_sum) := ⟨rfl, rfl, rfl, by decide +kernel, rfl, by decide +kernel, by decide +kernel⟩
abbrev s__law_due : Stmt := top 27
abbrev N__law_due : List Str := ["expression", "names", "row", "worths", "term", "added", "k"]
theorem sc__law_due : FnScope N__law_due ["expression", "names", "row"] (defScope s__law_due) := ⟨rfl, rfl, rfl, by decide +kernel, rfl, by decide +kernel, by decide +kernel⟩
abbrev s__law_straight : Stmt := top 28
abbrev N__law_straight : List Str := ["tape", "columns", "left", "terms", "total", "k", "sign", "operand", "column"]
theorem sc__law_straight : FnScope N__law_straight ["tape", "columns"] (defScope s__law_straight) := ⟨rfl, rfl, rfl, by decide +kernel, rfl, by decide +kernel, by decide +kernel⟩
abbrev s__law_farthest : Stmt := top 29
abbrev N__law_farthest : List Str := ["tape", "columns", "expression", "row", "column", "value", "term"]
theorem sc__law_farthest : FnScope N__law_farthest ["tape", "columns", "expression"] (defScope s__law_farthest) := ⟨rfl, rfl, rfl, by decide +kernel, rfl, by decide +kernel, by decide +kernel⟩
abbrev s_law : Stmt := top 30
abbrev N_law : List Str := ["script", "tape", "columns", "names", "word", "expression", "bound", "k", "row", "due", "column"]
theorem sc_law : FnScope N_law ["script"] (defScope s_law) := ⟨rfl, rfl, rfl, by decide +kernel, rfl, by decide +kernel, by decide +kernel⟩
structure Txt (K : PySem.W.Frag) (mg : Str → Option Value) where
  a_kind_of : Addr
  d_kind_of : FuncData
  F_kind_of : Fun K "kind_of" "kind_of" s_kind_of a_kind_of d_kind_of
  b_kind_of : Binds K d_kind_of ["expression", "columns"] []
  g_kind_of : mg "kind_of" = some (.ref a_kind_of)
  a_evaluate : Addr
  d_evaluate : FuncData
  F_evaluate : Fun K "evaluate" "evaluate" s_evaluate a_evaluate d_evaluate
  b_evaluate : Binds K d_evaluate ["expression", "names", "row"] []
  g_evaluate : mg "evaluate" = some (.ref a_evaluate)
  a__operand_kind : Addr
  d__operand_kind : FuncData
  F__operand_kind : Fun K "_operand_kind" "_operand_kind" s__operand_kind a__operand_kind d__operand_kind
  b__operand_kind : Binds K d__operand_kind ["operand", "kinds"] []
  g__operand_kind : mg "_operand_kind" = some (.ref a__operand_kind)
  a__operand_value : Addr
  d__operand_value : FuncData
  F__operand_value : Fun K "_operand_value" "_operand_value" s__operand_value a__operand_value d__operand_value
  b__operand_value : Binds K d__operand_value ["operand", "names", "row"] []
  g__operand_value : mg "_operand_value" = some (.ref a__operand_value)
  a__law_tape : Addr
  d__law_tape : FuncData
  F__law_tape : Fun K "_law_tape" "_law_tape" s__law_tape a__law_tape d__law_tape
  b__law_tape : Binds K d__law_tape ["script"] []
  g__law_tape : mg "_law_tape" = some (.ref a__law_tape)
  a__law_draw : Addr
  d__law_draw : FuncData
  F__law_draw : Fun K "_law_draw" "_law_draw" s__law_draw a__law_draw d__law_draw
  b__law_draw : Binds K d__law_draw ["tape", "many"] []
  g__law_draw : mg "_law_draw" = some (.ref a__law_draw)
  a__law_name : Addr
  d__law_name : FuncData
  F__law_name : Fun K "_law_name" "_law_name" s__law_name a__law_name d__law_name
  b__law_name : Binds K d__law_name ["tape"] []
  g__law_name : mg "_law_name" = some (.ref a__law_name)
  a__law_names : Addr
  d__law_names : FuncData
  F__law_names : Fun K "_law_names" "_law_names" s__law_names a__law_names d__law_names
  b__law_names : Binds K d__law_names ["tape", "many"] []
  g__law_names : mg "_law_names" = some (.ref a__law_names)
  a__law_signs : Addr
  d__law_signs : FuncData
  F__law_signs : Fun K "_law_signs" "_law_signs" s__law_signs a__law_signs d__law_signs
  b__law_signs : Binds K d__law_signs [] []
  g__law_signs : mg "_law_signs" = some (.ref a__law_signs)
  a__law_text : Addr
  d__law_text : FuncData
  F__law_text : Fun K "_law_text" "_law_text" s__law_text a__law_text d__law_text
  b__law_text : Binds K d__law_text ["tape"] []
  g__law_text : mg "_law_text" = some (.ref a__law_text)
  a__law_number : Addr
  d__law_number : FuncData
  F__law_number : Fun K "_law_number" "_law_number" s__law_number a__law_number d__law_number
  b__law_number : Binds K d__law_number ["tape"] []
  g__law_number : mg "_law_number" = some (.ref a__law_number)
  a__law_kind : Addr
  d__law_kind : FuncData
  F__law_kind : Fun K "_law_kind" "_law_kind" s__law_kind a__law_kind d__law_kind
  b__law_kind : Binds K d__law_kind ["tape"] []
  g__law_kind : mg "_law_kind" = some (.ref a__law_kind)
  a__law_value : Addr
  d__law_value : FuncData
  F__law_value : Fun K "_law_value" "_law_value" s__law_value a__law_value d__law_value
  b__law_value : Binds K d__law_value ["tape", "kind"] []
  g__law_value : mg "_law_value" = some (.ref a__law_value)
  a__law_columns : Addr
  d__law_columns : FuncData
  F__law_columns : Fun K "_law_columns" "_law_columns" s__law_columns a__law_columns d__law_columns
  b__law_columns : Binds K d__law_columns ["tape", "many"] []
  g__law_columns : mg "_law_columns" = some (.ref a__law_columns)
  a__law_bound : Addr
  d__law_bound : FuncData
  F__law_bound : Fun K "_law_bound" "_law_bound" s__law_bound a__law_bound d__law_bound
  b__law_bound : Binds K d__law_bound ["operand", "columns"] []
  g__law_bound : mg "_law_bound" = some (.ref a__law_bound)
  a__law_operand : Addr
  d__law_operand : FuncData
  F__law_operand : Fun K "_law_operand" "_law_operand" s__law_operand a__law_operand d__law_operand
  b__law_operand : Binds K d__law_operand ["tape", "columns", "word"] []
  g__law_operand : mg "_law_operand" = some (.ref a__law_operand)
  a__law_expression : Addr
  d__law_expression : FuncData
  F__law_expression : Fun K "_law_expression" "_law_expression" s__law_expression a__law_expression d__law_expression
  b__law_expression : Binds K d__law_expression ["tape", "columns", "word", "more"] []
  g__law_expression : mg "_law_expression" = some (.ref a__law_expression)
  a__law_sum : Addr
  d__law_sum : FuncData
  F__law_sum : Fun K "_law_sum" "_law_sum" s__law_sum a__law_sum d__law_sum
  b__law_sum : Binds K d__law_sum ["expression", "columns"] []
  g__law_sum : mg "_law_sum" = some (.ref a__law_sum)
  a__law_due : Addr
  d__law_due : FuncData
  F__law_due : Fun K "_law_due" "_law_due" s__law_due a__law_due d__law_due
  b__law_due : Binds K d__law_due ["expression", "names", "row"] []
  g__law_due : mg "_law_due" = some (.ref a__law_due)
  a__law_straight : Addr
  d__law_straight : FuncData
  F__law_straight : Fun K "_law_straight" "_law_straight" s__law_straight a__law_straight d__law_straight
  b__law_straight : Binds K d__law_straight ["tape", "columns"] []
  g__law_straight : mg "_law_straight" = some (.ref a__law_straight)
  a__law_farthest : Addr
  d__law_farthest : FuncData
  F__law_farthest : Fun K "_law_farthest" "_law_farthest" s__law_farthest a__law_farthest d__law_farthest
  b__law_farthest : Binds K d__law_farthest ["tape", "columns", "expression"] []
  g__law_farthest : mg "_law_farthest" = some (.ref a__law_farthest)
  a_law : Addr
  d_law : FuncData
  F_law : Fun K "law" "law" s_law a_law d_law
  b_law : Binds K d_law ["script"] []
  g_law : mg "law" = some (.ref a_law)
  a_STRING : Addr
  c_STRING : mg "STRING" = some (.ref a_STRING)
  q_STRING : ∀ H, SqT K H a_STRING [.str "string"]
  t_LARGEST_BOUND : Tok
  c_LARGEST_BOUND : mg "LARGEST_BOUND" = some (.int 1000000000000 t_LARGEST_BOUND)
  z_abs : mg "abs" = none
  z_dict : mg "dict" = none
  z_int : mg "int" = none
  z_len : mg "len" = none
  z_list : mg "list" = none
  z_max : mg "max" = none
  z_min : mg "min" = none
  z_range : mg "range" = none
  z_repr : mg "repr" = none
  z_sum : mg "sum" = none
  z_tuple : mg "tuple" = none
end Ind

set_option Elab.async false
set_option linter.all false
set_option maxRecDepth 100000
set_option maxHeartbeats 4000000
namespace Ind
open PySem PySem.Spec PyProof.Rows L2
local macro_rules | `(tactic| walk_at "cn") => `(tactic| first
  | assumption
  | omega
  | exact dm (by omega)
  | exact line (by simp)
  | exact line (by simp only [len_app, len_one]; omega)
  | exact small_div (by omega) (by omega)
  | solve_by_elim
  | exact Or.inr ⟨by omega, by omega⟩
  | exact Or.inl ⟨by omega, by omega⟩
  | exact ⟨by omega, by omega⟩
  | decide)
local macro_rules | `(tactic| walk_at "st") => `(tactic| repeat (first
  | refine ⟨_, rfl, ?_⟩
  | refine ⟨_, _, rfl, rfl, ?_⟩
  | refine ⟨_, _, rfl, ?_⟩
  | refine .inl ⟨_, rfl, ?_⟩
  | refine And.intro rfl ?_
  | refine And.intro (by walk_at "cn") ?_))
local macro_rules | `(tactic| walk_at "fz") => `(tactic| repeat (first | exact Fz.refl | apply Fz.upd))
local macro_rules | `(tactic| walk_at "hl") => `(tactic| ((repeat rw [upd_ne (by assumption)]); assumption))

section
variable {P : Program} {w : World} {K : PySem.W.Frag} {mg : Str → Option Value} {base : Heap}
theorem ok__law_tape (T : Txt K mg) : FnOk P w K mg base CX0 1 T.a__law_tape T.d__law_tape ["script"] (spTape K) := by
  refine T.F__law_tape.ok sc__law_tape (fun vs H Q E h => ?_) (fun cdv A outer s H vs Q E hr h => ?_)
  · obtain ⟨a, ns, rfl, _⟩ := h
    rfl
  · obtain ⟨a, ns, rfl, hS, hl, q⟩ := h
    refine ⟨_, (pss_cons (ps_set (i := 1) sc__law_tape.nd rfl (.inl rfl) pe_int)
      (pss_cons (ps_for PassesOwn.never rfl (pi_list (pv 0)) (pg_name (i := 2) sc__law_tape.nd rfl (.inl rfl))
      (pss_one (ps_set (i := 1) sc__law_tape.nd rfl (.inl rfl) (pe_op op_mod (pe_callTy call_int1 (by rfl) T.z_int boot_int (pa_cons (pe_op op_add (pe_op op_mul (pv 1) pe_int) (pe_callB call_abs (by rfl) T.z_abs boot_abs (pa_cons (pe_callTy call_int1 (by rfl) T.z_int boot_int (pa_cons (pv 2) pa_nil)) pa_nil))) pa_nil)) pe_int))))
      (pss_one (ps_ret (pe_lst (pa_cons (pe_callTy call_list_of (by rfl) T.z_list boot_list (pa_cons (pv 0) pa_nil)) (pa_cons pe_int (pa_cons pe_int (pa_cons (pv 1) pa_nil))))))))), ?_⟩
    refine ⟨_, rfl, a, rfl, ⟨_, hS⟩, for_list (K := K) (a := a) (xs := ns.map V.int) (fun i σ H' => ∃ z y, σ = [some (.ref a), some (.int z), y] ∧ H' = H ∧ 0 ≤ z ∧ z < 2147483647)
      ⟨7, none, rfl, rfl, by decide, by decide⟩ (fun i σ H' _ ⟨_, _, _, e, _⟩ => by rw [e]; exact hS) ?_ ?_⟩
    · rintro i x σ H' hi ⟨z, y, rfl, rfl, h0, h1⟩
      obtain ⟨u, rfl⟩ : ∃ u, x = V.int u := by
        rw [List.getElem?_map] at hi
        cases e : ns[i]? with
        | none => rw [e] at hi; cases hi
        | some u => rw [e] at hi; exact ⟨u, (Option.some.inj hi).symm⟩
      walk_at "st"
      omega
    · rintro σ H' ⟨z, y, rfl, rfl, h0, h1⟩
      refine ⟨_, rfl, _, _, rfl, .inl hS, fun l nl => ⟨_, rfl, line (by simp), fun t nt => ?_⟩⟩
      have nlt : l ≠ t := fun e => by rw [← e, upd_same] at nt; cases nt
      have ntH : H' t = none := by rw [upd_ne nlt.symm] at nt; exact nt
      exact q _ ⟨t, l⟩ ((same_upd nl).trans (same_upd nt)) ntH nl ⟨ns, 0, 0, z, upd_same, by rw [upd_ne nlt, upd_same], by omega, by decide, by decide, h0, h1⟩
theorem ok__law_draw (T : Txt K mg) : FnOk P w K mg base CX0 1 T.a__law_draw T.d__law_draw ["tape", "many"] spDraw := by
  refine T.F__law_draw.ok sc__law_draw (fun vs H Q E h => ?_) (fun cdv A outer s H vs Q E hr h => ?_)
  · obtain ⟨a, ns, rfl, _⟩ := h
    rfl
  · obtain ⟨⟨t, l⟩, m, rfl, ⟨ns, p, n, z, ht, hL, hlen, hp, hn, hz, hz2⟩, hm, q⟩ := h
    refine ⟨_, (pss_cons (ps_if (pt_cmpR op_eq (pe_ix ix_list (pv 0) pe_int (fun _ _ => rfl)) pe_int (nomark _)) (pss_cons (ps_set (i := 2) sc__law_draw.nd rfl (.inl rfl) (pe_ix ix_list (pv 0) pe_int (fun _ _ => rfl)))
      (pss_cons (ps_set (i := 3) sc__law_draw.nd rfl (.inl rfl) pe_int)
      (pss_cons (ps_if (pt_cmpR op_lt (pv 2) (pe_callB call_len_seq (by rfl) T.z_len boot_len (pa_cons (pe_ix ix_list (pv 0) pe_int (fun _ _ => rfl)) pa_nil)) (nomark _)) (pss_one (ps_set (i := 3) sc__law_draw.nd rfl (.inl rfl) (pe_callB call_abs (by rfl) T.z_abs boot_abs (pa_cons (pe_callTy call_int1 (by rfl) T.z_int boot_int (pa_cons (pe_ix ix_list (pe_ix ix_list (pv 0) pe_int (fun _ _ => rfl)) (pv 2) (fun _ _ => rfl)) pa_nil)) pa_nil)))) (pss_cons (ps_asg (pe_op op_mod (pe_callTy call_int1 (by rfl) T.z_int boot_int (pa_cons (pe_op op_add (pe_op op_add (pe_op op_mul (pe_ix ix_list (pv 0) pe_int (fun _ _ => rfl)) pe_int) (pv 2)) pe_int) pa_nil)) pe_int) (pg_sub (pv 0) pe_int set_list))
      (pss_one (ps_set (i := 3) sc__law_draw.nd rfl (.inl rfl) (pe_ix ix_list (pv 0) pe_int (fun _ _ => rfl))))))
      (pss_cons (ps_asg (pe_op op_add (pv 2) pe_int) (pg_sub (pv 0) pe_int set_list))
      (pss_cons (ps_if (pt_cmpR op_lt (pv 3) (pe_op op_pow pe_int pe_int) (nomark _)) (pss_cons (ps_set (i := 3) sc__law_draw.nd rfl (.inl rfl) (pe_op op_mod (pe_callTy call_int1 (by rfl) T.z_int boot_int (pa_cons (pe_op op_add (pe_op op_add (pe_op op_mul (pv 3) pe_int) (pe_op op_mul (pv 2) pe_int)) pe_int) pa_nil)) pe_int))
      (pss_cons (ps_set (i := 3) sc__law_draw.nd rfl (.inl rfl) (pe_op op_mod (pe_callTy call_int1 (by rfl) T.z_int boot_int (pa_cons (pe_op op_mul (pv 3) pe_int) pa_nil)) pe_int))
      (pss_one (ps_ret (pe_op op_mod (pe_callTy call_int1 (by rfl) T.z_int boot_int (pa_cons (pv 3) pa_nil)) (pe_callB (call_max2 rfl) (by rfl) T.z_max boot_max (pa_cons (pv 1) (pa_cons pe_int pa_nil)))))))) pss_nil)
      (pss_one (ps_asg (pv 3) (pg_sub (pv 0) pe_int set_list)))))))) pss_nil)
      (pss_cons (ps_set (i := 3) sc__law_draw.nd rfl (.inl rfl) (pe_ix ix_list (pv 0) pe_int (fun _ _ => rfl)))
      (pss_cons (ps_asg (pe_op op_fdivW (pv 3) (pe_callB (call_max2 rfl) (by rfl) T.z_max boot_max (pa_cons (pv 1) (pa_cons pe_int pa_nil)))) (pg_sub (pv 0) pe_int set_list))
      (pss_one (ps_ret (pe_op op_mod (pe_callTy call_int1 (by rfl) T.z_int boot_int (pa_cons (pv 3) pa_nil)) (pe_callB (call_max2 rfl) (by rfl) T.z_max boot_max (pa_cons (pv 1) (pa_cons pe_int pa_nil))))))))), ?_⟩
    have ht : H t = some (.lst [.ref l, .int p, .int n, .int z]) := ht
    have hL : H l = some (.lst (ns.map V.int)) := hL
    have nlt : l ≠ t := Tape.ne ht hL
    have many1 : 0 < if (1 : Int) > m then 1 else m := by split <;> omega
    have many2 : ∀ x : Int, CDivW x (if (2 : Int) > m then 2 else m) := hm
    have lt1 : ∀ x : Int, (x % if (1 : Int) > m then 1 else m) < m ∨ (x % if (1 : Int) > m then 1 else m) < 1 := fun x => by
      have q1 := Int.emod_lt_of_pos x many1
      revert q1
      split <;> intro q1 <;> omega
    walk_at "st"
    refine ⟨_, _, _, _, rfl, rfl, .of ht, atI_nat (j := 2) rfl, ?_⟩
    walk_at "st"
    refine ite2 (fun e => ?_) (fun e => ?_)
    · walk_at "st"
      refine ⟨_, _, _, _, rfl, rfl, .of ht, atI_nat (j := 1) rfl, ?_⟩
      walk_at "st"
      refine ⟨_, _, _, _, rfl, rfl, .of ht, atI_nat (j := 0) rfl, ?_⟩
      refine ⟨l, _, rfl, .inl (.of hL), ?_⟩
      walk_at "st"
      refine ite2 (fun e2 => ?a1) (fun e2 => ?a2)
      case' a1 =>
        have hlt : p.toNat < ns.length := by
          have := of_decide_eq_true e2
          rw [List.length_map] at this
          omega
        walk_at "st"
        refine ⟨_, _, _, _, rfl, rfl, .of ht, atI_nat (j := 0) rfl, ?_⟩
        walk_at "st"
        refine ⟨_, _, _, _, rfl, rfl, .of hL, at_of (show p = (p.toNat : Int) by omega) (show (ns.map V.int)[p.toNat]? = some (.int ns[p.toNat]) by rw [List.getElem?_map, List.getElem?_eq_getElem hlt]; rfl), ?_⟩
        have hnum : 0 ≤ (if ns[p.toNat] < 0 then -ns[p.toNat] else ns[p.toNat]) := by split <;> omega
      case' a2 =>
        walk_at "st"
        refine ⟨_, _, _, _, rfl, rfl, .of ht, atI_nat (j := 3) rfl, ?_⟩
        walk_at "st"
        refine ⟨_, _, _, 3, rfl, rfl, ht, rfl, ?_⟩
        walk_at "st"
        refine ⟨_, _, _, _, rfl, rfl, .of upd_same, atI_nat (j := 3) rfl, ?_⟩
        have hnum : 0 ≤ (z * 48271 + p + 1) % 2147483647 := by omega
        have hnum2 : (z * 48271 + p + 1) % 2147483647 < 2147483647 := by omega
      all_goals
        walk_at "st"
      case' a1 => refine ⟨_, _, _, 1, rfl, rfl, ht, rfl, ?_⟩
      case' a2 => refine ⟨_, _, _, 1, rfl, rfl, upd_same, rfl, ?_⟩
      all_goals
        walk_at "st"
        refine ite2 (fun e3 => ?_) (fun e3 => ?_)
        · walk_at "st"
          refine q _ _ (by walk_at "fz") ⟨ns, p + 1, n, _, upd_same, by walk_at "hl", hlen, by omega, hn, ?_, ?_⟩ (Int.emod_nonneg _ (by omega)) (lt1 _) <;> assumption
        · walk_at "st"
          refine ⟨_, _, _, 2, rfl, rfl, upd_same, rfl, ?_⟩
          walk_at "st"
          refine ⟨_, _, _, _, rfl, rfl, .of upd_same, atI_nat (j := 2) rfl, ?_⟩
          walk_at "st"
          refine ⟨_, _, _, 2, rfl, rfl, upd_same, rfl, ?_⟩
          walk_at "st"
          refine q _ _ (by walk_at "fz") ⟨ns, p + 1, _, _, upd_same, by walk_at "hl", hlen, by omega, Int.ediv_nonneg hnum ?_, ?_, ?_⟩ (Int.emod_nonneg _ (by omega)) (lt1 _) <;> first | assumption | (split <;> omega)
    · walk_at "st"
      refine ⟨_, _, _, _, rfl, rfl, .of ht, atI_nat (j := 2) rfl, ?_⟩
      walk_at "st"
      refine ⟨_, _, _, 2, rfl, rfl, ht, rfl, ?_⟩
      walk_at "st"
      refine q _ _ Fz.refl.upd ⟨ns, p, _, z, upd_same, by rw [upd_ne nlt]; exact hL, hlen, hp, ?_, hz, hz2⟩ (Int.emod_nonneg _ (by omega)) (lt1 _)
      refine Int.ediv_nonneg hn ?_
      split <;> omega
end
end Ind

set_option Elab.async false
set_option linter.all false
set_option maxRecDepth 100000
set_option maxHeartbeats 4000000
namespace Ind
open PySem PySem.Spec PyProof.Rows L2
local macro_rules | `(tactic| walk_at "cn") => `(tactic| first
  | assumption
  | omega
  | exact dm (by omega)
  | exact line (by simp)
  | exact line (by simp only [len_app, len_one]; omega)
  | exact small_div (by omega) (by omega)
  | solve_by_elim
  | exact Or.inr ⟨by omega, by omega⟩
  | exact Or.inl ⟨by omega, by omega⟩
  | exact ⟨by omega, by omega⟩
  | decide)
local macro_rules | `(tactic| walk_at "st") => `(tactic| repeat (first
  | refine ⟨_, rfl, ?_⟩
  | refine ⟨_, _, rfl, rfl, ?_⟩
  | refine ⟨_, _, rfl, ?_⟩
  | refine .inl ⟨_, rfl, ?_⟩
  | refine And.intro rfl ?_
  | refine And.intro (by walk_at "cn") ?_))
local macro_rules | `(tactic| walk_at "fz") => `(tactic| repeat (first | exact Fz.refl | apply Fz.upd))
local macro_rules | `(tactic| walk_at "hl") => `(tactic| ((repeat rw [upd_ne (by assumption)]); assumption))

section
variable {P : Program} {w : World} {K : PySem.W.Frag} {mg : Str → Option Value} {base : Heap}
theorem ok__law_signs (T : Txt K mg) : FnOk P w K mg base CX0 1 T.a__law_signs T.d__law_signs [] spSigns := by
  refine T.F__law_signs.ok sc__law_signs (fun vs H Q E h => ?_) (fun cdv A outer s H vs Q E hr h => ?_)
  · obtain ⟨rfl, q⟩ := h
    rfl
  · obtain ⟨rfl, q⟩ := h
    refine ⟨_, (pss_cons (ps_set (i := 0) sc__law_signs.nd rfl (.inl rfl) pe_str)
      (pss_one (ps_ret (pe_op op_add_str (pv 0) pe_str)))), ?_⟩
    walk_at "st"
    exact q
theorem ok__law_text (T : Txt K mg) : FnOk P w K mg base CX0 2 T.a__law_text T.d__law_text ["tape"] spText := by
  have G__law_draw := ok__law_draw (P := P) (w := w) (base := base) T
  have G__law_signs := ok__law_signs (P := P) (w := w) (base := base) T
  refine T.F__law_text.ok sc__law_text (fun vs H Q E h => ?_) (fun cdv A outer s H vs Q E hr h => ?_)
  · obtain ⟨t, rfl, hT, q⟩ := h
    rfl
  · obtain ⟨t, rfl, hT, q⟩ := h
    refine ⟨_, (pss_cons (ps_set (i := 1) sc__law_text.nd rfl (.inl rfl) (pe_call G__law_draw hr (by rfl) T.g__law_draw T.F__law_draw.kp T.b__law_draw .nil pass0 (pa_cons (pv 0) (pa_cons pe_int pa_nil))))
      (pss_cons (ps_set (i := 2) sc__law_text.nd rfl (.inl rfl) (pe_op op_mod (pe_callTy call_int1 (by rfl) T.z_int boot_int (pa_cons (pv 1) pa_nil)) pe_int))
      (pss_cons (ps_set (i := 3) sc__law_text.nd rfl (.inl rfl) pe_str)
      (pss_cons (ps_if (pt_cmpR op_lt (pv 2) pe_int (nomark _)) (pss_cons (ps_for PassesOwn.never rfl (pi_range1 (by rfl) T.z_range (pa_cons (pe_ix ix_list (pe_lst (pa_cons pe_int (pa_cons pe_int (pa_cons pe_int (pa_cons pe_int (pa_cons pe_int (pa_cons pe_int pa_nil))))))) (pv 2) (fun _ _ => rfl)) pa_nil)) (pg_name (i := 4) sc__law_text.nd rfl (.inl rfl))
      (pss_one (ps_set (i := 3) sc__law_text.nd rfl (.inl rfl) (pe_op op_add_str (pv 3) (pe_ix ix_str pe_str (pe_op op_mod (pe_callTy call_int1 (by rfl) T.z_int boot_int (pa_cons (pe_op op_fdivW (pv 1) (pe_ix ix_list (pe_lst (pa_cons pe_int (pa_cons pe_int (pa_cons pe_int pa_nil)))) (pv 4) (fun _ _ => rfl))) pa_nil)) pe_int) (fun _ _ => rfl))))))
      (pss_one (ps_ret (pv 3)))) pss_nil)
      (pss_cons (ps_for PassesOwn.never rfl (pi_range1 (by rfl) T.z_range (pa_cons (pe_ix ix_list (pe_lst (pa_cons pe_int (pa_cons (pe_op op_fdivW (pv 1) pe_int) pa_nil))) (pe_op op_sub (pv 2) pe_int) (fun _ _ => rfl)) pa_nil)) (pg_name (i := 4) sc__law_text.nd rfl (.inl rfl))
      (pss_one (ps_set (i := 3) sc__law_text.nd rfl (.inl rfl) (pe_op op_add_str (pv 3) (pe_ix ix_str (pe_call0 G__law_signs hr (by rfl) T.g__law_signs T.F__law_signs.kp T.b__law_signs .nil pass0) (pe_call G__law_draw hr (by rfl) T.g__law_draw T.F__law_draw.kp T.b__law_draw .nil pass0 (pa_cons (pv 0) (pa_cons pe_int pa_nil))) (fun _ _ => rfl))))))
      (pss_one (ps_ret (pv 3)))))))), ?_⟩
    walk_at "st"
    intro H1 r f1 T1 r0 r1
    have r2 : r < 21000 := by omega
    walk_at "st"
    refine ite2 (fun e => ?_) (fun e => ?_)
    · have e' : r % 8 < 6 := of_decide_eq_true e
      walk_at "st"
      intro p1 n1
      obtain ⟨u, eu, mu⟩ := pick (ns := [0, 1, 1, 1, 2, 3]) (i := r % 8) (by omega) (by simp; omega)
      have hu : 0 ≤ u ∧ u ≤ 3 := by
        simp at mu
        omega
      walk_at "st"
      refine ⟨_, _, _, _, rfl, rfl, .of upd_same, eu, ?_⟩
      walk_at "st"
      refine for_range (fun i σ H' => Iv (∃ x y, σ = [some (.ref t.a), some (.int r), some (.int (r % 8)), some (.str x), y] ∧ Fz t.a H H' ∧ TapeAt H' t ∧ x.length ≤ i ∧ Sgns x))
        (.a ⟨_, _, rfl, f1.new n1, T1.new n1, by decide, sgns_nil⟩) ?_ ?_
      · rintro i σ H' hi iv
        obtain ⟨x, y, rfl, f2, T2, hx, hs⟩ := iv.out
        walk_at "st"
        intro p2 n2
        obtain ⟨d, ed, md⟩ := pick (ns := [8, 40, 200]) (i := 0 + (i : Int)) (by omega) (by simp; omega)
        have hd : 0 < d ∧ d < 201 := by
          simp at md
          omega
        walk_at "st"
        refine ⟨_, _, _, _, rfl, rfl, .of upd_same, ed, ?_⟩
        walk_at "st"
        obtain ⟨c, ec, mc⟩ := pickS (l := ("abB' " : PySem.Str).cps.toList) (i := (r / d) % 5) (by omega) (by rw [quad_len]; omega)
        refine ⟨_, _, c, rfl, rfl, line (by decide), ec, ?_⟩
        walk_at "st"
        exact .a ⟨_, _, rfl, f2.new n2, T2.new n2, len_push hx, txt_push hs (quad_all c mc)⟩
      · rintro σ H' iv
        obtain ⟨x, y, rfl, f2, T2, hx, hs⟩ := iv.out
        walk_at "st"
        exact q _ _ f2 T2 ⟨by omega, hs⟩
    · have e' : ¬ r % 8 < 6 := fun z => e (decide_eq_true z)
      walk_at "st"
      intro p1 n1
      obtain ⟨u, eu, mu⟩ := pick (ns := [20, r / 1000]) (i := r % 8 - 6) (by omega) (by simp; omega)
      have hu : 0 ≤ u ∧ u ≤ 20 := by
        simp at mu
        omega
      walk_at "st"
      refine ⟨_, _, _, _, rfl, rfl, .of upd_same, eu, ?_⟩
      walk_at "st"
      refine for_range (fun i σ H' => Iv (∃ x y, σ = [some (.ref t.a), some (.int r), some (.int (r % 8)), some (.str x), y] ∧ Fz t.a H H' ∧ TapeAt H' t ∧ x.length ≤ i ∧ Sgns x))
        (.a ⟨_, _, rfl, f1.new n1, T1.new n1, by decide, sgns_nil⟩) ?_ ?_
      · rintro i σ H' hi iv
        obtain ⟨x, y, rfl, f2, T2, hx, hs⟩ := iv.out
        walk_at "st"
        intro H3 a f3 T3 a0 a1
        obtain ⟨c, ec, mc⟩ := sg_pick (i := a) a0 (by omega)
        refine ⟨_, _, c, rfl, rfl, line (by rw [sg_len]; decide), ec, ?_⟩
        walk_at "st"
        exact .a ⟨_, _, rfl, f2.trans f3, T3, len_push hx, txt_push hs mc⟩
      · rintro σ H' iv
        obtain ⟨x, y, rfl, f2, T2, hx, hs⟩ := iv.out
        walk_at "st"
        exact q _ _ f2 T2 ⟨by omega, hs⟩
end
end Ind

set_option Elab.async false
set_option linter.all false
set_option maxRecDepth 100000
set_option maxHeartbeats 4000000
namespace Ind
open PySem PySem.Spec PyProof.Rows L2
local macro_rules | `(tactic| walk_at "cn") => `(tactic| first
  | assumption
  | omega
  | exact dm (by omega)
  | exact line (by simp)
  | exact line (by simp only [len_app, len_one]; omega)
  | exact small_div (by omega) (by omega)
  | solve_by_elim
  | exact Or.inr ⟨by omega, by omega⟩
  | exact Or.inl ⟨by omega, by omega⟩
  | exact ⟨by omega, by omega⟩
  | decide)
local macro_rules | `(tactic| walk_at "st") => `(tactic| repeat (first
  | refine ⟨_, rfl, ?_⟩
  | refine ⟨_, _, rfl, rfl, ?_⟩
  | refine ⟨_, _, rfl, ?_⟩
  | refine .inl ⟨_, rfl, ?_⟩
  | refine And.intro rfl ?_
  | refine And.intro (by walk_at "cn") ?_))
local macro_rules | `(tactic| walk_at "fz") => `(tactic| repeat (first | exact Fz.refl | apply Fz.upd))
local macro_rules | `(tactic| walk_at "hl") => `(tactic| ((repeat rw [upd_ne (by assumption)]); assumption))

section
variable {P : Program} {w : World} {K : PySem.W.Frag} {mg : Str → Option Value} {base : Heap}
theorem ok__law_name (T : Txt K mg) : FnOk P w K mg base CX0 2 T.a__law_name T.d__law_name ["tape"] spName := by
  have G__law_draw := ok__law_draw (P := P) (w := w) (base := base) T
  refine T.F__law_name.ok sc__law_name (fun vs H Q E h => ?_) (fun cdv A outer s H vs Q E hr h => ?_)
  · obtain ⟨t, rfl, hT, q⟩ := h
    rfl
  · obtain ⟨t, rfl, hT, q⟩ := h
    refine ⟨_, (pss_cons (ps_set (i := 1) sc__law_name.nd rfl (.inl rfl) pe_str)
      (pss_cons (ps_set (i := 2) sc__law_name.nd rfl (.inl rfl) (pe_call G__law_draw hr (by rfl) T.g__law_draw T.F__law_draw.kp T.b__law_draw .nil pass0 (pa_cons (pv 0) (pa_cons pe_int pa_nil))))
      (pss_cons (ps_set (i := 3) sc__law_name.nd rfl (.inl rfl) (pe_op op_add_str (pe_ix ix_list (pe_lst (pa_cons pe_str (pa_cons pe_str (pa_cons pe_str (pa_cons pe_str pa_nil))))) (pe_op op_mod (pe_callTy call_int1 (by rfl) T.z_int boot_int (pa_cons (pv 2) pa_nil)) pe_int) (fun _ _ => rfl)) (pe_ix ix_str (pv 1) (pe_op op_mod (pe_callTy call_int1 (by rfl) T.z_int boot_int (pa_cons (pe_op op_fdivW (pv 2) pe_int) pa_nil)) pe_int) (fun _ _ => rfl))))
      (pss_cons (ps_for PassesOwn.never rfl (pi_range1 (by rfl) T.z_range (pa_cons (pe_ix ix_list (pe_lst (pa_cons pe_int (pa_cons pe_int (pa_cons pe_int (pa_cons pe_int pa_nil))))) (pe_op op_mod (pe_callTy call_int1 (by rfl) T.z_int boot_int (pa_cons (pe_op op_fdivW (pv 2) pe_int) pa_nil)) pe_int) (fun _ _ => rfl)) pa_nil)) (pg_name (i := 4) sc__law_name.nd rfl (.inl rfl))
      (pss_one (ps_set (i := 3) sc__law_name.nd rfl (.inl rfl) (pe_op op_add_str (pv 3) (pe_ix ix_str (pv 1) (pe_op op_mod (pe_callTy call_int1 (by rfl) T.z_int boot_int (pa_cons (pe_op op_fdivW (pv 2) (pe_ix ix_list (pe_lst (pa_cons pe_int (pa_cons pe_int pa_nil))) (pv 4) (fun _ _ => rfl))) pa_nil)) pe_int) (fun _ _ => rfl))))))
      (pss_cons (ps_if (pt_cmpR op_in_seq (pv 3) (pe_lst (pa_cons pe_str (pa_cons pe_str (pa_cons pe_str (pa_cons pe_str (pa_cons pe_str (pa_cons pe_str (pa_cons pe_str (pa_cons pe_str (pa_cons pe_str (pa_cons pe_str pa_nil))))))))))) (by rfl)) (pss_one (ps_ret (pe_op op_add_str (pv 3) pe_str))) pss_nil)
      (pss_one (ps_ret (pv 3)))))))), ?_⟩
    walk_at "st"
    intro H1 r f1 T1 r0 r1
    have r2 : r < 569504 := by omega
    walk_at "st"
    intro p1 n1
    obtain ⟨z, ez, mz⟩ := pickT (ss := ["", "", "", "reservation_x"]) (i := r % 4) (by omega) (by simp; omega)
    have hz : z.length ≤ 13 ∧ Sgns z := by
      simp only [List.mem_cons, List.not_mem_nil, or_false] at mz
      rcases mz with rfl | rfl | rfl | rfl
      iterate 3 exact ⟨by decide, sgns_nil⟩
      exact ⟨by decide, by unfold Sgns; decide +kernel⟩
    walk_at "st"
    refine ⟨_, _, _, _, rfl, rfl, .of upd_same, ez, ?_⟩
    walk_at "st"
    obtain ⟨c, ec, sc⟩ := nm_pick (i := (r / 16) % 26) (by omega) (by omega)
    refine ⟨_, _, c, rfl, rfl, line (by decide), ec, ?_⟩
    walk_at "st"
    intro p2 n2
    obtain ⟨u, eu, mu⟩ := pick (ns := [0, 0, 1, 2]) (i := (r / 4) % 4) (by omega) (by simp; omega)
    have hu : 0 ≤ u ∧ u ≤ 2 := by
      simp at mu
      omega
    walk_at "st"
    refine ⟨_, _, _, _, rfl, rfl, .of upd_same, eu, ?_⟩
    walk_at "st"
    refine for_range (fun i σ H' => Iv (∃ x y, σ = [some (.ref t.a), some (.str nmSigns), some (.int r), some (.str x), y] ∧ Fz t.a H H' ∧ TapeAt H' t ∧ x.length ≤ 14 + i ∧ Sgns x))
      (.a ⟨_, _, rfl, (f1.new n1).new n2, (T1.new n1).new n2, len_push hz.1, txt_push hz.2 sc⟩) ?_ ?_
    · rintro i σ H' hi iv
      obtain ⟨x, y, rfl, f2, T2, hx, hxs⟩ := iv.out
      walk_at "st"
      intro p3 n3
      obtain ⟨d, ed, md⟩ := pick (ns := [416, 15392]) (i := 0 + (i : Int)) (by omega) (by simp; omega)
      have hd : 0 < d ∧ d < 20000 := by
        simp at md
        omega
      walk_at "st"
      refine ⟨_, _, _, _, rfl, rfl, .of upd_same, ed, ?_⟩
      walk_at "st"
      obtain ⟨c2, ec2, sc2⟩ := nm_pick (i := (r / d) % 37) (by omega) (by omega)
      refine ⟨_, _, c2, rfl, rfl, line (by decide), ec2, ?_⟩
      walk_at "st"
      exact .a ⟨_, _, rfl, f2.new n3, T2.new n3, len_push hx, txt_push hxs sc2⟩
    · rintro σ H' iv
      obtain ⟨x, y, rfl, f2, T2, hx, hxs⟩ := iv.out
      walk_at "st"
      intro p3 n3
      refine ⟨_, _, rfl, .inl (.of upd_same), rfl, rfl, ?_⟩
      walk_at "st"
      refine ite2 (fun e => ?_) (fun e => ?_)
      · walk_at "st"
        have l2 : (x ++ ("_" : S)).length ≤ 20 := by
          rw [len_app, show ("_" : S).length = 1 by decide]
          omega
        refine And.intro (line (by rw [show ("_" : S).length = 1 by decide]; omega)) ?_
        exact q _ _ (f2.new n3) (T2.new n3) ⟨l2, hxs.app (by unfold Sgns; decide +kernel)⟩
      · walk_at "st"
        exact q _ _ (f2.new n3) (T2.new n3) ⟨by omega, hxs⟩
theorem ok__law_names (T : Txt K mg) : FnOk P w K mg base CX0 3 T.a__law_names T.d__law_names ["tape", "many"] spNames := by
  have G__law_name := ok__law_name (P := P) (w := w) (base := base) T
  refine T.F__law_names.ok sc__law_names (fun vs H Q E h => ?_) (fun cdv A outer s H vs Q E hr h => ?_)
  · obtain ⟨t, m, rfl, hT, ⟨m0, m1⟩, q⟩ := h
    rfl
  · obtain ⟨t, m, rfl, hT, ⟨m0, m1⟩, q⟩ := h
    refine ⟨_, (pss_cons (ps_set (i := 2) sc__law_names.nd rfl (.inl rfl) (pe_lst pa_nil))
      (pss_cons (ps_for PassesOwn.never rfl (pi_range1 (by rfl) T.z_range (pa_cons (pv 1) pa_nil)) (pg_name (i := 3) sc__law_names.nd rfl (.inl rfl))
      (pss_cons (ps_set (i := 4) sc__law_names.nd rfl (.inl rfl) (pe_call G__law_name hr (by rfl) T.g__law_name T.F__law_name.kp T.b__law_name .nil pass0 (pa_cons (pv 0) pa_nil)))
      (pss_one (ps_if (pt_cmpR op_notIn_seq (pv 4) (pv 2) (by rfl)) (pss_one (ps_expr (pe_bm PySem.F.plainAttrs_list PySem.F.slot_list_append PySem.F.type_list_append mt_append (pv 2) (pa_cons (pv 4) pa_nil)))) pss_nil))))
      (pss_one (ps_ret (pv 2))))), ?_⟩
    walk_at "st"
    intro p np
    have off := hT.off np
    walk_at "st"
    refine for_range (fun i σ H' => Iv (∃ (ns : List S) (y z : Option V), σ = [some (.ref t.a), some (.int m), some (.ref p), y, z] ∧ Fz t.a H H' ∧ TapeAt H' t ∧ H' p = some (.lst (ns.map V.str)) ∧ ns.Nodup ∧ ns.length ≤ i ∧ ∀ n ∈ ns, TxtOk n))
      (.a ⟨[], _, _, rfl, Fz.refl.new np, hT.new np, upd_same, .nil, by decide, by simp⟩) ?_ ?_
    · rintro i σ H' hi iv
      obtain ⟨ns, y, z, rfl, f2, T2, hp, nd, hl, hn⟩ := iv.out
      walk_at "st"
      intro H3 x f3 T3 hx
      have hp3 := f3 p _ off.a hp
      walk_at "st"
      refine ⟨_, _, rfl, .inl (.of hp3), rfl, flat_strs _, ?_⟩
      walk_at "st"
      rw [inV_strs]
      refine ite2 (fun e => ?_) (fun e => ?_)
      · have nin : x ∉ ns := by simpa using e
        walk_at "st"
        refine ⟨.inl ⟨rfl, _, .of hp3⟩, ?_⟩
        walk_at "st"
        refine ⟨_, _, _, rfl, rfl, hp3, small1000 (by simp <;> omega), ?_⟩
        refine .a ⟨ns ++ [x], _, _, rfl, (f2.trans f3).upd' np, T3.upd off, ?_, ?_, ?_, ?_⟩
        · rw [upd_same, List.map_append]; rfl
        · exact List.nodup_append.mpr ⟨nd, by simp, by simp only [List.mem_singleton, forall_eq]; exact fun a ha e => nin (e ▸ ha)⟩
        · simp; omega
        · intro n h
          rcases List.mem_append.mp h with h | h
          · exact hn n h
          · cases List.mem_singleton.mp h; exact hx
      · walk_at "st"
        exact .a ⟨ns, _, _, rfl, f2.trans f3, T3, hp3, nd, by omega, hn⟩
    · rintro σ H' iv
      obtain ⟨ns, y, z, rfl, f2, T2, hp, nd, hl, hn⟩ := iv.out
      walk_at "st"
      exact q _ p ns f2 T2 np hp nd hl hn
theorem ok__law_number (T : Txt K mg) : FnOk P w K mg base CX0 2 T.a__law_number T.d__law_number ["tape"] spNumber := by
  have G__law_draw := ok__law_draw (P := P) (w := w) (base := base) T
  refine T.F__law_number.ok sc__law_number (fun vs H Q E h => ?_) (fun cdv A outer s H vs Q E hr h => ?_)
  · obtain ⟨t, rfl, hT, q⟩ := h
    rfl
  · obtain ⟨t, rfl, hT, q⟩ := h
    refine ⟨_, (pss_cons (ps_set (i := 1) sc__law_number.nd rfl (.inl rfl) (pe_call G__law_draw hr (by rfl) T.g__law_draw T.F__law_draw.kp T.b__law_draw .nil pass0 (pa_cons (pv 0) (pa_cons pe_int pa_nil))))
      (pss_cons (ps_set (i := 2) sc__law_number.nd rfl (.inl rfl) (pe_op op_mod (pe_callTy call_int1 (by rfl) T.z_int boot_int (pa_cons (pv 1) pa_nil)) pe_int))
      (pss_cons (ps_if (pt_cmpR op_lt (pv 2) pe_int (nomark _)) (pss_one (ps_ret (pe_op op_sub (pe_op op_mod (pe_callTy call_int1 (by rfl) T.z_int boot_int (pa_cons (pe_op op_fdivW (pv 1) pe_int) pa_nil)) pe_int) pe_int))) pss_nil)
      (pss_cons (ps_if (pt_cmpR op_eq (pv 2) pe_int (nomark _)) (pss_one (ps_ret (pe_ix ix_list (pe_lst (pa_cons pe_int (pa_cons (pe_un un_neg pe_int) (pa_cons pe_int (pa_cons (pe_un un_neg pe_int) pa_nil))))) (pe_op op_mod (pe_callTy call_int1 (by rfl) T.z_int boot_int (pa_cons (pe_op op_fdivW (pv 1) pe_int) pa_nil)) pe_int) (fun _ _ => rfl)))) pss_nil)
      (pss_one (ps_ret (pe_op op_sub (pe_op op_fdivW (pv 1) pe_int) pe_int))))))), ?_⟩
    walk_at "st"
    intro H1 r f1 T1 r0 r1
    have r2 : r < 16000008 := by omega
    walk_at "st"
    refine ite2 (fun e => ?_) (fun e => ?_)
    · walk_at "st"
      exact q _ _ f1 T1 (by omega)
    · walk_at "st"
      refine ite2 (fun e => ?_) (fun e => ?_)
      · walk_at "st"
        intro p1 n1
        obtain ⟨u, eu, mu⟩ := pick (ns := [1000000, -1000000, 999999, -999999]) (i := (r / 8) % 4) (by omega) (by simp; omega)
        walk_at "st"
        refine ⟨_, _, _, _, rfl, rfl, .of upd_same, eu, ?_⟩
        exact q _ _ (f1.new n1) (T1.new n1) (by simp at mu; omega)
      · walk_at "st"
        exact q _ _ f1 T1 (by omega)
theorem ok__law_kind (T : Txt K mg) : FnOk P w K mg base CX0 2 T.a__law_kind T.d__law_kind ["tape"] (spKind K) := by
  have G__law_draw := ok__law_draw (P := P) (w := w) (base := base) T
  refine T.F__law_kind.ok sc__law_kind (fun vs H Q E h => ?_) (fun cdv A outer s H vs Q E hr h => ?_)
  · obtain ⟨t, rfl, hT, q⟩ := h
    rfl
  · obtain ⟨t, rfl, hT, q⟩ := h
    refine ⟨_, (pss_cons (ps_set (i := 1) sc__law_kind.nd rfl (.inl rfl) (pe_call G__law_draw hr (by rfl) T.g__law_draw T.F__law_draw.kp T.b__law_draw .nil pass0 (pa_cons (pv 0) (pa_cons pe_int pa_nil))))
      (pss_cons (ps_if (pt_cmpR op_lt (pe_op op_mod (pe_callTy call_int1 (by rfl) T.z_int boot_int (pa_cons (pv 1) pa_nil)) pe_int) pe_int (nomark _)) (pss_one (ps_ret (pe_tup (pa_cons pe_str pa_nil)))) pss_nil)
      (pss_cons (ps_if (pt_cmpR op_lt (pe_op op_mod (pe_callTy call_int1 (by rfl) T.z_int boot_int (pa_cons (pv 1) pa_nil)) pe_int) pe_int (nomark _)) (pss_one (ps_ret (pe_tup (pa_cons pe_str (pa_cons pe_int pa_nil))))) pss_nil)
      (pss_one (ps_ret (pe_tup (pa_cons pe_str (pa_cons (pe_ix ix_list (pe_lst (pa_cons pe_int (pa_cons pe_int (pa_cons pe_int (pa_cons pe_int (pa_cons pe_int (pa_cons pe_int (pa_cons pe_int (pa_cons pe_int (pa_cons pe_int (pa_cons (pe_op op_pow pe_int pe_int) pa_nil))))))))))) (pe_op op_fdivW (pv 1) pe_int) (fun _ _ => rfl)) pa_nil)))))))), ?_⟩
    walk_at "st"
    intro H1 r f1 T1 r0 r1
    have r2 : r < 80 := by omega
    walk_at "st"
    refine ite2 (fun e => ?_) (fun e => ?_)
    · walk_at "st"
      intro p np
      exact q _ _ none (f1.new np) (T1.new np) (.tup (.of upd_same) (.cons (.str _) .nil)) trivial
    · walk_at "st"
      refine ite2 (fun e => ?_) (fun e => ?_)
      · walk_at "st"
        intro p np
        exact q _ _ (some 1000000) (f1.new np) (T1.new np) (.tup (.of upd_same) (.cons (.str _) (.cons (.int _) .nil))) ⟨by decide, by decide⟩
      · walk_at "st"
        intro p1 n1
        obtain ⟨u, eu, mu⟩ := pick (ns := [0, 1, 7, 60, 3000, 500000000000, 500000000001, 999999000000, 999999999999, 10 ^ Int.toNat 12]) (i := r / 8) (by omega) (by simp; omega)
        have hu : 0 ≤ u ∧ u ≤ 1000000000000 := by
          have e12 : (10 : Int) ^ Int.toNat 12 = 1000000000000 := by decide +kernel
          rw [e12] at mu
          simp at mu
          omega
        walk_at "st"
        refine ⟨_, _, _, _, rfl, rfl, .of upd_same, eu, ?_⟩
        walk_at "st"
        intro p np
        exact q _ _ (some u) ((f1.new n1).new np) ((T1.new n1).new np) (.tup (.of upd_same) (.cons (.str _) (.cons (.int _) .nil))) hu
theorem ok__law_value (T : Txt K mg) : FnOk P w K mg base CX0 3 T.a__law_value T.d__law_value ["tape", "kind"] (spValue K) := by
  have G__law_draw := ok__law_draw (P := P) (w := w) (base := base) T
  have G__law_text := ok__law_text (P := P) (w := w) (base := base) T
  refine T.F__law_value.ok sc__law_value (fun vs H Q E h => ?_) (fun cdv A outer s H vs Q E hr h => ?_)
  · obtain ⟨t, v, k, rfl, hT, hk, ok, q⟩ := h
    rfl
  · obtain ⟨t, v, k, rfl, hT, hk, ok, q⟩ := h
    refine ⟨_, (pss_cons (ps_if (pt_cmpR op_eq (pe_ix ix_tup (pv 1) pe_int (fun _ _ => rfl)) pe_str (nomark _)) (pss_one (ps_ret (pe_call G__law_text hr (by rfl) T.g__law_text T.F__law_text.kp T.b__law_text .nil pass0 (pa_cons (pv 0) pa_nil)))) pss_nil)
      (pss_cons (ps_set (i := 2) sc__law_value.nd rfl (.inl rfl) (pe_ix ix_tup (pv 1) pe_int (fun _ _ => rfl)))
      (pss_cons (ps_set (i := 3) sc__law_value.nd rfl (.inl rfl) (pe_call G__law_draw (hr.mono (by decide)) (by rfl) T.g__law_draw T.F__law_draw.kp T.b__law_draw .nil pass0 (pa_cons (pv 0) (pa_cons (pe_op op_mul pe_int (pe_op op_add (pv 2) pe_int)) pa_nil))))
      (pss_cons (ps_set (i := 4) sc__law_value.nd rfl (.inl rfl) (pe_op op_mod (pe_callTy call_int1 (by rfl) T.z_int boot_int (pa_cons (pv 3) pa_nil)) pe_int))
      (pss_cons (ps_if (pt_cmpR op_lt (pv 4) pe_int (nomark _)) (pss_one (ps_ret (pe_callB (call_min2 rfl) (by rfl) T.z_min boot_min (pa_cons (pv 2) (pa_cons (pe_op op_mod (pe_callTy call_int1 (by rfl) T.z_int boot_int (pa_cons (pe_op op_fdivW (pv 3) pe_int) pa_nil)) pe_int) pa_nil))))) pss_nil)
      (pss_cons (ps_if (pt_cmpR op_eq (pv 4) pe_int (nomark _)) (pss_one (ps_ret (pe_callB (call_max2 rfl) (by rfl) T.z_max boot_max (pa_cons (pe_un un_neg (pv 2)) (pa_cons (pe_callB (call_min2 rfl) (by rfl) T.z_min boot_min (pa_cons (pv 2) (pa_cons (pe_op op_sub (pe_op op_mod (pe_callTy call_int1 (by rfl) T.z_int boot_int (pa_cons (pe_op op_fdivW (pv 3) pe_int) pa_nil)) pe_int) pe_int) pa_nil))) pa_nil))))) pss_nil)
      (pss_cons (ps_if (pt_cmpR op_eq (pv 4) pe_int (nomark _)) (pss_one (ps_ret (pe_ix ix_list (pe_lst (pa_cons (pv 2) (pa_cons (pe_un un_neg (pv 2)) pa_nil))) (pe_op op_mod (pe_callTy call_int1 (by rfl) T.z_int boot_int (pa_cons (pe_op op_fdivW (pv 3) pe_int) pa_nil)) pe_int) (fun _ _ => rfl)))) pss_nil)
      (pss_one (ps_ret (pe_op op_sub (pe_op op_mod (pe_callTy call_int1 (by rfl) T.z_int boot_int (pa_cons (pe_op op_mul (pe_op op_fdivW (pv 3) pe_int) pe_int) pa_nil)) (pe_op op_add (pe_op op_mul pe_int (pv 2)) pe_int)) (pv 2))))))))))), ?_⟩
    cases k with
    | none =>
      obtain ⟨a, xs, rfl, hs, hx⟩ := hk.tup_inv
      obtain ⟨x0, rfl⟩ : ∃ x0, xs = [x0] := by
        have l := hx.len
        match xs, l with
        | [x0], _ => exact ⟨x0, rfl⟩
      obtain ⟨v0, e0, d0⟩ := hx.get (i := 0) rfl
      cases (show v0 = x0 from (Option.some.inj e0).symm)
      cases d0.str_inv
      walk_at "st"
      refine ⟨_, _, _, _, rfl, rfl, hs, atI_nat (j := 0) rfl, ?_⟩
      walk_at "st"
      exact fun H2 x f2 T2 hx => q _ _ f2 T2 hx
    | some b =>
      obtain ⟨a, xs, rfl, hs, hx⟩ := hk.tup_inv
      obtain ⟨x0, x1, rfl⟩ : ∃ x0 x1, xs = [x0, x1] := by
        have l := hx.len
        match xs, l with
        | [x0, x1], _ => exact ⟨x0, x1, rfl⟩
      obtain ⟨v0, e0, d0⟩ := hx.get (i := 0) rfl
      cases (show v0 = x0 from (Option.some.inj e0).symm)
      cases d0.str_inv
      obtain ⟨v1, e1, d1⟩ := hx.get (i := 1) rfl
      cases (show v1 = x1 from (Option.some.inj e1).symm)
      cases d1.int_inv
      have b0 : 0 ≤ b := ok.1
      have b1 : b ≤ 1000000000000 := ok.2
      walk_at "st"
      refine ⟨_, _, _, _, rfl, rfl, hs, atI_nat (j := 0) rfl, ?_⟩
      walk_at "st"
      refine ⟨_, _, _, _, rfl, rfl, hs, atI_nat (j := 1) rfl, ?_⟩
      walk_at "st"
      intro H2 r f2 T2 r0 r1
      walk_at "st"
      refine ite2 (fun e => ?_) (fun e => ?_)
      · walk_at "st"
        exact q _ _ f2 T2 (show -b ≤ _ ∧ _ ≤ b from ⟨by split <;> omega, by split <;> omega⟩)
      · walk_at "st"
        refine ite2 (fun e => ?_) (fun e => ?_)
        · walk_at "st"
          exact q _ _ f2 T2 (show -b ≤ _ ∧ _ ≤ b from ⟨by (repeat' split) <;> omega, by (repeat' split) <;> omega⟩)
        · walk_at "st"
          refine ite2 (fun e => ?_) (fun e => ?_)
          · walk_at "st"
            intro p1 n1
            obtain ⟨u, eu, mu⟩ := pick (ns := [b, -b]) (i := (r / 8) % 2) (by omega) (by simp; omega)
            walk_at "st"
            refine ⟨_, _, _, _, rfl, rfl, .of upd_same, eu, ?_⟩
            exact q _ _ (f2.new n1) (T2.new n1) (show -b ≤ _ ∧ _ ≤ b by simp at mu; omega)
          · walk_at "st"
            have m0 := Int.emod_nonneg (r / 8 * 1000003) (b := 2 * b + 1) (by omega)
            have m1 := Int.emod_lt_of_pos (r / 8 * 1000003) (b := 2 * b + 1) (by omega)
            exact q _ _ f2 T2 (show -b ≤ _ ∧ _ ≤ b by omega)
end
end Ind

set_option Elab.async false
set_option linter.all false
set_option maxRecDepth 100000
set_option maxHeartbeats 4000000
namespace Ind
open PySem PySem.Spec PyProof.Rows L2
local macro_rules | `(tactic| walk_at "cn") => `(tactic| first
  | assumption
  | omega
  | exact dm (by omega)
  | exact line (by simp)
  | exact line (by simp only [len_app, len_one]; omega)
  | exact small_div (by omega) (by omega)
  | solve_by_elim
  | exact Or.inr ⟨by omega, by omega⟩
  | exact Or.inl ⟨by omega, by omega⟩
  | exact ⟨by omega, by omega⟩
  | decide)
local macro_rules | `(tactic| walk_at "st") => `(tactic| repeat (first
  | refine ⟨_, rfl, ?_⟩
  | refine ⟨_, _, rfl, rfl, ?_⟩
  | refine ⟨_, _, rfl, ?_⟩
  | refine .inl ⟨_, rfl, ?_⟩
  | refine And.intro rfl ?_
  | refine And.intro (by walk_at "cn") ?_))
local macro_rules | `(tactic| walk_at "fz") => `(tactic| repeat (first | exact Fz.refl | apply Fz.upd))
local macro_rules | `(tactic| walk_at "hl") => `(tactic| ((repeat rw [upd_ne (by assumption)]); assumption))

section
variable {P : Program} {w : World} {K : PySem.W.Frag} {mg : Str → Option Value} {base : Heap}
theorem ok__law_columns (T : Txt K mg) : FnOk P w K mg base CX0 4 T.a__law_columns T.d__law_columns ["tape", "many"] (spColumns K) := by
  have G__law_kind := ok__law_kind (P := P) (w := w) (base := base) T
  have G__law_names := ok__law_names (P := P) (w := w) (base := base) T
  refine T.F__law_columns.ok sc__law_columns (fun vs H Q E h => ?_) (fun cdv A outer s H vs Q E hr h => ?_)
  · obtain ⟨t, m, rfl, hT, mm, q⟩ := h
    rfl
  · obtain ⟨t, m, rfl, hT, mm, q⟩ := h
    refine ⟨_, (pss_one (ps_ret (pe_callTy call_tupleZ (by rfl) T.z_tuple boot_tuple (pa_cons (pe_lc (own := [("name", 2)]) (g := gName 2) (tt := tYes) rfl sc__law_columns.nd (pi_list (pe_call G__law_names hr (by rfl) T.g__law_names T.F__law_names.kp T.b__law_names .nil pass0 (pa_cons (pv 0) (pa_cons (pv 1) pa_nil)))) (blkOk_by (own := [("name", 2)]) (N := N__law_columns) (sc := defScope s__law_columns) (by decide +kernel)) (fun _ _ _ _ _ => (pg_name (i := 2) sc__law_columns.nd rfl (.inl rfl))) (fun _ _ _ _ _ => pts_nil) (fun _ _ _ _ _ => (pe_tup (pa_cons (pv 2) (pa_cons (pe_call G__law_kind (hr.mono (by decide)) (by rfl) T.g__law_kind T.F__law_kind.kp T.b__law_kind .nil pass0 (pa_cons (pv 0) pa_nil)) pa_nil))))) pa_nil)))), ?_⟩
    walk_at "st"
    intro H1 p ns f1 T1 np hp nd hl hn
    walk_at "st"
    refine And.intro ⟨_, .of hp⟩ ?_
    intro D nD
    have offD := T1.off nD
    have pD : p ≠ D := ne_of_none hp nD
    refine lc_list (xs := ns.map V.str) (fun i H' => Iv (∃ (cs : List Col) (ps : List Addr), Fz t.a H1 H' ∧ TapeAt H' t ∧ H' D = some (.lst (ps.map V.ref)) ∧ DpAll K H' (ps.map V.ref) (cs.map colD) ∧ cs.map (·.1) = ns.take i ∧ ∀ c ∈ cs, KdOk c.2))
      (.a ⟨[], [], Fz.refl.new nD, T1.new nD, upd_same, .nil, rfl, by simp⟩) ?_ ?_ ?_
    · intro i H' hi iv
      obtain ⟨cs, ps, f2, T2, hD, dp, e, ok⟩ := iv.out
      exact .of (f2 p _ (hT.off np).a hp)
    · intro i x H' ex iv
      obtain ⟨cs, ps, f2, T2, hD, dp, e, ok⟩ := iv.out
      obtain ⟨n, en, rfl⟩ := map_get ex
      walk_at "st"
      intro H3 v k f3 T3 dv kk
      have kp3 := f3.kp T2
      walk_at "st"
      intro p4 n4
      have hD3 := f3 D _ offD.a hD
      have l4 : i < ns.length := (List.getElem?_eq_some_iff.mp en).1
      have lc : cs.length = i := by
        have := congrArg List.length e
        simpa [Nat.min_eq_left (Nat.le_of_lt l4)] using this
      have lp : ps.length = i := by
        have := dp.len
        simpa [lc] using this
      have dD : D ≠ p4 := ne_of_none hD3 n4
      refine ⟨ps.map V.ref, by rw [upd_ne dD]; exact hD3, small1000 (by simp; omega), .a ⟨cs ++ [(n, k)], ps ++ [p4], ?_, ?_, ?_, ?_, ?_, ?_⟩⟩
      · exact ((f2.trans f3).new n4).upd' nD
      · exact (T3.new n4).upd offD
      · rw [upd_same, List.map_append]; rfl
      · have kq : Kp H3 (upd (upd H3 p4 (.tup [.str n, v])) D (.lst (ps.map V.ref ++ [.ref p4]))) := (Kp.new n4).trans (Kp.upd (xs := ps.map V.ref) (by rw [upd_ne dD]; exact hD3))
        rw [List.map_append, List.map_append]
        refine DpAll.app (DpAll.kp (kp3.trans kq) _ _ (tO_cols cs) dp) (.cons (.tup (.of ?_) (.cons (.str _) (.cons (Dp.kp kq _ _ (tO_kd k) dv) .nil))) .nil)
        rw [upd_ne dD.symm, upd_same]
      · rw [List.map_append, e, List.map_cons, List.map_nil]
        exact (take_more en).symm
      · intro c hc
        rcases List.mem_append.mp hc with h | h
        · exact ok c h
        · cases (List.mem_singleton.mp h); exact kk
    · intro H' iv
      obtain ⟨cs, ps, f2, T2, hD, dp, e, ok⟩ := iv.out
      have e2 : cs.map (·.1) = ns := by rw [e, List.take_of_length_le (by simp)]
      have lc : cs.length = ns.length := by
        have := congrArg List.length e2
        simpa using this
      walk_at "st"
      refine ⟨_, _, rfl, .of hD, ?_⟩
      intro l o nl od
      have kq : Kp H' (upd H' l (.frz o (.tup (ps.map V.ref)))) := Kp.new nl
      refine q _ _ cs ((f1.trans f2).new nl) (T2.new nl) ⟨l, o, ps, rfl, upd_same, od, DpAll.kp kq _ _ (tO_cols cs) dp⟩ ⟨by rw [e2]; exact nd, ok, by omega, fun c hc => hn _ (by rw [← e2]; exact List.mem_map_of_mem hc)⟩
end
end Ind

set_option Elab.async false
set_option linter.all false
set_option maxRecDepth 100000
set_option maxHeartbeats 4000000
namespace Ind
open PySem PySem.Spec PyProof.Rows L2
local macro_rules | `(tactic| walk_at "cn") => `(tactic| first
  | assumption
  | omega
  | exact dm (by omega)
  | exact line (by simp)
  | exact line (by simp only [len_app, len_one]; omega)
  | exact small_div (by omega) (by omega)
  | solve_by_elim
  | exact Or.inr ⟨by omega, by omega⟩
  | exact Or.inl ⟨by omega, by omega⟩
  | exact ⟨by omega, by omega⟩
  | decide)
local macro_rules | `(tactic| walk_at "st") => `(tactic| repeat (first
  | refine ⟨_, rfl, ?_⟩
  | refine ⟨_, _, rfl, rfl, ?_⟩
  | refine ⟨_, _, rfl, ?_⟩
  | refine .inl ⟨_, rfl, ?_⟩
  | refine And.intro rfl ?_
  | refine And.intro (by walk_at "cn") ?_))
local macro_rules | `(tactic| walk_at "fz") => `(tactic| repeat (first | exact Fz.refl | apply Fz.upd))
local macro_rules | `(tactic| walk_at "hl") => `(tactic| ((repeat rw [upd_ne (by assumption)]); assumption))

section
variable {P : Program} {w : World} {K : PySem.W.Frag} {mg : Str → Option Value} {base : Heap}
theorem ok__law_bound (T : Txt K mg) : FnOk P w K mg base CX0 1 T.a__law_bound T.d__law_bound ["operand", "columns"] (spBound K) := by

  refine T.F__law_bound.ok sc__law_bound (fun vs H Q E h => ?_) (fun cdv A outer s H vs Q E hr h => ?_)
  · obtain ⟨v, c, o, cs, b, rfl, dv, hc, ok, oo, q⟩ := h
    rfl
  · obtain ⟨v, c, o, cs, b, rfl, dv, hc, ok, oo, q⟩ := h
    refine ⟨_, (pss_cons (ps_if (pt_cmpR op_eq (pe_ix ix_tup (pv 0) pe_int (fun _ _ => rfl)) pe_str (nomark _)) (pss_one (ps_ret (pe_callB call_abs (by rfl) T.z_abs boot_abs (pa_cons (pe_ix ix_tup (pv 0) pe_int (fun _ _ => rfl)) pa_nil)))) pss_nil)
      (pss_cons (ps_for PassesOwn.never rfl (pi_tup (pv 1)) (pg_name (i := 2) sc__law_bound.nd rfl (.inl rfl))
      (pss_one (ps_if (PW.pt (pw_and (pt_cmpR (op_eqD hr.units) (pv 0) (pe_tup (pa_cons pe_str (pa_cons (pe_ix ix_tup (pv 2) pe_int (fun _ _ => rfl)) pa_nil))) (nomark _)) (pw_and1 (pt_cmpR op_eq (pe_ix ix_tup (pe_ix ix_tup (pv 2) pe_int (fun _ _ => rfl)) pe_int (fun _ _ => rfl)) pe_str (nomark _))))) (pss_one (ps_ret (pe_ix ix_tup (pe_ix ix_tup (pv 2) pe_int (fun _ _ => rfl)) pe_int (fun _ _ => rfl)))) pss_nil)))
      (pss_one (ps_ret pe_int)))), ?_⟩
    obtain ⟨a, rfl, hs⟩ := op_at dv
    obtain ⟨ca, ps, rfl, hcs, dcs⟩ := hc.tup
    walk_at "st"
    refine ⟨_, _, _, _, rfl, rfl, hs, atI_nat (j := 0) rfl, ?_⟩
    walk_at "st"
    refine ite2 (fun e => ?_) (fun e => ?_)
    · obtain ⟨i, rfl⟩ := word_int (dstr e)
      walk_at "st"
      refine ⟨_, _, _, _, rfl, rfl, hs, atI_nat (j := 1) rfl, ?_⟩
      walk_at "st"
      exact q _ (fun _ _ h => h)
    · walk_at "st"
      refine And.intro ⟨_, hcs⟩ ?_
      refine for_tup (xs := ps.map V.ref) (fun i σ H' => Iv (∃ z, σ = [some (.ref a), some (.ref ca), z] ∧ Same H H' ∧ ∀ c ∈ cs.take i, ¬ (o = .col c.1 ∧ c.2.isSome = true))) (.a ⟨_, rfl, fun _ _ h => h, by simp⟩) ?_ ?_ ?_
      · intro i σ H' hi iv
        obtain ⟨z, rfl, sm, no⟩ := iv.out
        exact (Same.kp sm).sqT hcs
      · intro i x σ H' ex iv
        obtain ⟨z, rfl, sm, no⟩ := iv.out
        obtain ⟨cc, ec, dc⟩ := dps_get dcs ex
        have dc' := Dp.kp (Same.kp sm) _ _ (tO_col cc) dc
        obtain ⟨a2, u2, rfl, hs2, du⟩ := col_at dc'
        walk_at "st"
        refine ⟨_, _, _, _, rfl, rfl, hs2, atI_nat (j := 0) rfl, ?_⟩
        walk_at "st"
        intro p np
        refine ⟨o.d, (Op.col cc.1).d, Dp.kp (Same.kp (sm.trans (same_upd np))) _ _ (tO_op o) dv, op_dp (o := .col cc.1) (.of upd_same), op_shaped ok oo, shape_col (ok.nm _ (List.mem_of_getElem? ec)), ?_⟩
        have sm2 := sm.trans (same_upd (o := .tup [.str "column", .str cc.1]) np)
        have hs3 := (Kp.new (o := .tup [.str "column", .str cc.1]) np).sqT hs2
        have du3 := Dp.kp (Kp.new (o := .tup [.str "column", .str cc.1]) np) _ _ (tO_kd cc.2) du
        obtain ⟨a4, ks, rfl, hs4, hb⟩ := kd_at du3
        refine ⟨_, rfl, ?_⟩
        refine ite2 (fun e1 => ?_) (fun e1 => ?_)
        · have e1 := (op_eqv _ _).mp e1
          walk_at "st"
          refine ⟨_, _, _, _, rfl, rfl, hs3, atI_nat (j := 1) rfl, ?_⟩
          walk_at "st"
          refine ⟨_, _, _, _, rfl, rfl, hs4, atI_nat (j := 0) rfl, ?_⟩
          walk_at "st"
          refine ite2 (fun e2 => ?_) (fun e2 => ?_)
          · obtain ⟨k, ek⟩ := wk_int (dstr e2)
            cases hb k ek
            walk_at "st"
            refine ⟨_, _, _, _, rfl, rfl, hs3, atI_nat (j := 1) rfl, ?_⟩
            walk_at "st"
            refine ⟨_, _, _, _, rfl, rfl, hs4, atI_nat (j := 1) rfl, ?_⟩
            obtain ⟨n, kk⟩ := cc
            cases ek
            cases e1
            have := opBound_at ec no
            rw [this] at q
            exact q _ sm2
          · refine .a ⟨_, rfl, sm2, ?_⟩
            intro c hc
            rw [take_more ec] at hc
            rcases List.mem_append.mp hc with h | h
            · exact no c h
            · cases List.mem_singleton.mp h
              rintro ⟨_, z⟩
              obtain ⟨k, ek⟩ := Option.isSome_iff_exists.mp z
              exact e2 (by rw [ek]; exact decide_eq_true rfl)
        · walk_at "st"
          refine .a ⟨_, rfl, sm2, ?_⟩
          intro c hc
          rw [take_more ec] at hc
          rcases List.mem_append.mp hc with h | h
          · exact no c h
          · cases List.mem_singleton.mp h
            exact fun z => e1 ((op_eqv _ _).mpr z.1)
      · intro σ H' iv
        obtain ⟨z, rfl, sm, no⟩ := iv.out
        walk_at "st"
        have ni : ∀ i, o ≠ .num i := fun i ee => e (by rw [ee]; exact decide_eq_true rfl)
        rw [List.length_map] at no
        have lc : ps.length = cs.length := by
          have := dcs.len
          simpa using this
        rw [List.take_of_length_le (by omega)] at no
        rw [opBound_no ni no] at q
        exact q _ sm
end
end Ind

set_option Elab.async false
set_option linter.all false
set_option maxRecDepth 100000
set_option maxHeartbeats 4000000
namespace Ind
open PySem PySem.Spec PyProof.Rows L2
local macro_rules | `(tactic| walk_at "cn") => `(tactic| first
  | assumption
  | omega
  | exact dm (by omega)
  | exact line (by simp)
  | exact line (by simp only [len_app, len_one]; omega)
  | exact small_div (by omega) (by omega)
  | solve_by_elim
  | exact Or.inr ⟨by omega, by omega⟩
  | exact Or.inl ⟨by omega, by omega⟩
  | exact ⟨by omega, by omega⟩
  | decide)
local macro_rules | `(tactic| walk_at "st") => `(tactic| repeat (first
  | refine ⟨_, rfl, ?_⟩
  | refine ⟨_, _, rfl, rfl, ?_⟩
  | refine ⟨_, _, rfl, ?_⟩
  | refine .inl ⟨_, rfl, ?_⟩
  | refine And.intro rfl ?_
  | refine And.intro (by walk_at "cn") ?_))
local macro_rules | `(tactic| walk_at "fz") => `(tactic| repeat (first | exact Fz.refl | apply Fz.upd))
local macro_rules | `(tactic| walk_at "hl") => `(tactic| ((repeat rw [upd_ne (by assumption)]); assumption))

section
variable {P : Program} {w : World} {K : PySem.W.Frag} {mg : Str → Option Value} {base : Heap}
theorem ok__law_operand (T : Txt K mg) : FnOk P w K mg base CX0 3 T.a__law_operand T.d__law_operand ["tape", "columns", "word"] (spOperand K) := by
  have G__law_draw := ok__law_draw (P := P) (w := w) (base := base) T
  have G__law_number := ok__law_number (P := P) (w := w) (base := base) T
  have G__law_text := ok__law_text (P := P) (w := w) (base := base) T
  refine T.F__law_operand.ok sc__law_operand (fun vs H Q E h => ?_) (fun cdv A outer s H vs Q E hr h => ?_)
  · obtain ⟨t, c, cs, b, rfl, hT, hc, ok, q⟩ := h
    rfl
  · obtain ⟨t, c, cs, b, rfl, hT, hc, ok, q⟩ := h
    refine ⟨_, (pss_cons (ps_setLc (i := 3) (own := [("column", 5)]) (g := gName 5) rfl sc__law_operand.nd rfl rfl (sw_true rfl rfl rfl (by decide +kernel)) (pi_tup (pv 1)) (blkOk_by (own := [("column", 5)]) (N := N__law_operand) (sc := defScope s__law_operand) (by decide +kernel)) (fun _ _ _ _ _ => (pg_name (i := 5) sc__law_operand.nd rfl (.inl rfl))) (fun _ _ _ _ _ => (pts_one (pt_cmpR op_eq (pe_ix (ixT (K := K) rfl) (pe_ix (ixT (K := K) rfl) (pv 5) pe_int (fun _ _ => rfl)) pe_int (fun _ _ => rfl)) (pv 2) (nomark _)))) (fun _ _ _ _ _ => (pe_ix (ixT (K := K) rfl) (pv 5) pe_int (fun _ _ => rfl))))
      (pss_cons (ps_set (i := 4) sc__law_operand.nd rfl (.inl rfl) (pe_call G__law_draw (hr.mono (by decide)) (by rfl) T.g__law_draw T.F__law_draw.kp T.b__law_draw .nil pass0 (pa_cons (pv 0) (pa_cons pe_int pa_nil))))
      (pss_cons (ps_if (PW.pt (pw_and (pt_truth (pv 3) (by intro _; rfl)) (pw_and1 (pt_cmpR op_gt (pe_op op_mod (pe_callTy call_int1 (by rfl) T.z_int boot_int (pa_cons (pv 4) pa_nil)) pe_int) pe_int (nomark _))))) (pss_one (ps_ret (pe_tup (pa_cons pe_str (pa_cons (pe_ix ix_list (pv 3) (pe_op op_mod (pe_callTy call_int1 (by rfl) T.z_int boot_int (pa_cons (pe_op op_fdivW (pv 4) pe_int) pa_nil)) (pe_callB call_len_seq (by rfl) T.z_len boot_len (pa_cons (pv 3) pa_nil))) (fun _ _ => rfl)) pa_nil))))) pss_nil)
      (pss_cons (ps_if (pt_cmpR op_eq (pv 2) pe_str (nomark _)) (pss_one (ps_ret (pe_tup (pa_cons pe_str (pa_cons (pe_call G__law_text hr (by rfl) T.g__law_text T.F__law_text.kp T.b__law_text .nil pass0 (pa_cons (pv 0) pa_nil)) pa_nil))))) pss_nil)
      (pss_one (ps_ret (pe_tup (pa_cons pe_str (pa_cons (pe_call G__law_number hr (by rfl) T.g__law_number T.F__law_number.kp T.b__law_number .nil pass0 (pa_cons (pv 0) pa_nil)) pa_nil))))))))), ?_⟩
    obtain ⟨ca, ps, rfl, hcs, dcs⟩ := hc.tup
    have lps : ps.length = cs.length := by
      have := dcs.len
      simpa using this
    have l10 := ok.len
    walk_at "st"
    refine And.intro ⟨_, hcs⟩ ?_
    intro D nD
    have offD := hT.off nD
    refine lc_tup (xs := ps.map V.ref) (fun i H' => Iv (∃ fs : List S, Same H H' ∧ H' D = some (.lst (fs.map V.str)) ∧ fs.length ≤ i ∧ ∀ n ∈ fs, ∃ k, (n, k) ∈ cs ∧ wk k = wordS b))
      (.a ⟨[], same_upd nD, upd_same, by simp, by simp⟩) ?_ ?_ ?_
    · intro i H' hi iv
      obtain ⟨fs, sm, hD, hl, hf⟩ := iv.out
      exact (Same.kp sm).sqT hcs
    · intro i x H' ex iv
      obtain ⟨fs, sm, hD, hl, hf⟩ := iv.out
      obtain ⟨cc, ec, dc⟩ := dps_get dcs ex
      obtain ⟨a2, u2, rfl, hs2, du⟩ := col_at (Dp.kp (Same.kp sm) _ _ (tO_col cc) dc)
      obtain ⟨a4, ks, rfl, hs4, hb⟩ := kd_at du
      have hi : i < cs.length := (List.getElem?_eq_some_iff.mp ec).1
      walk_at "st"
      refine ⟨_, _, _, _, rfl, rfl, hs2, atI_nat (j := 1) rfl, ?_⟩
      walk_at "st"
      refine ⟨_, _, _, _, rfl, rfl, hs4, atI_nat (j := 0) rfl, ?_⟩
      walk_at "st"
      refine ite2 (fun e => ?_) (fun e => ?_)
      · walk_at "st"
        refine ⟨_, _, _, _, rfl, rfl, hs2, atI_nat (j := 0) rfl, ?_⟩
        refine ⟨_, hD, small1000 (by simp; omega), .a ⟨fs ++ [cc.1], ?_, ?_, ?_, ?_⟩⟩
        · exact Same.upd' sm nD
        · rw [upd_same, List.map_append]; rfl
        · simp; omega
        · intro n h
          rcases List.mem_append.mp h with h | h
          · exact hf n h
          · cases List.mem_singleton.mp h
            exact ⟨cc.2, List.mem_of_getElem? ec, dstr e⟩
      · walk_at "st"
        exact .a ⟨fs, sm, hD, by omega, hf⟩
    · intro H' iv
      obtain ⟨fs, sm, hD, hl, hf⟩ := iv.out
      rw [List.length_map] at hl
      have T1 := hT.same sm
      walk_at "st"
      intro H2 r f2 T2 r0 r1
      have hD2 := f2 D _ offD.a hD
      have sf : Fz t.a H H2 := (Fz.of sm).trans f2
      walk_at "st"
      cases fs with
      | nil =>
        refine ⟨false, .inl ⟨_, .of hD2, rfl⟩, ?_⟩
        walk_at "st"
        refine ite2 (fun e => ?_) (fun e => ?_)
        · have eb : b = true := by
            cases b
            · exact absurd (dstr e) (by decide)
            · rfl
          subst eb
          walk_at "st"
          intro H3 x f3 T3 hx
          walk_at "st"
          intro p np
          exact q _ _ (.txt x) ((sf.trans f3).new np) (T3.new np) (op_dp (o := .txt x) (.of upd_same)) hx
        · have eb : b = false := by
            cases b
            · rfl
            · exact absurd (decide_eq_true rfl) e
          subst eb
          walk_at "st"
          intro H3 i f3 T3 hi
          walk_at "st"
          intro p np
          exact q _ _ (.num i) ((sf.trans f3).new np) (T3.new np) (op_dp (o := .num i) (.of upd_same)) hi
      | cons f0 fr =>
        refine ⟨true, .inl ⟨_, .of hD2, rfl⟩, ?_⟩
        walk_at "st"
        refine ite2 (fun e0 => ?_) (fun e0 => ?_)
        · walk_at "st"
          refine ⟨_, _, rfl, .inl (.of hD2), ?_⟩
          have m0 := Int.emod_nonneg (r / 3) (b := ((f0 :: fr).length : Int)) (by simp only [List.length_cons]; omega)
          have m1 := Int.emod_lt_of_pos (r / 3) (b := ((f0 :: fr).length : Int)) (by simp only [List.length_cons]; omega)
          obtain ⟨n, en, mn⟩ := pickT (ss := f0 :: fr) m0 m1
          rw [List.length_map]
          refine ⟨_, _, rfl, rfl, by simp only [List.length_cons]; omega, ?_⟩
          refine ⟨_, _, _, _, rfl, rfl, .of hD2, en, ?_⟩
          walk_at "st"
          intro p np
          refine q _ _ (.col n) (sf.new np) (T2.new np) (op_dp (o := .col n) (.of upd_same)) ?_
          obtain ⟨k, mk, wkk⟩ := hf n mn
          cases b with
          | true =>
            cases wk_txt wkk
            exact mk
          | false =>
            obtain ⟨x, rfl⟩ := wk_int wkk
            exact ⟨x, mk⟩
        · walk_at "st"
          refine ite2 (fun e => ?_) (fun e => ?_)
          · have eb : b = true := by
              cases b
              · exact absurd (dstr e) (by decide)
              · rfl
            subst eb
            walk_at "st"
            intro H3 x f3 T3 hx
            walk_at "st"
            intro p np
            exact q _ _ (.txt x) ((sf.trans f3).new np) (T3.new np) (op_dp (o := .txt x) (.of upd_same)) hx
          · have eb : b = false := by
              cases b
              · rfl
              · exact absurd (decide_eq_true rfl) e
            subst eb
            walk_at "st"
            intro H3 i f3 T3 hi
            walk_at "st"
            intro p np
            exact q _ _ (.num i) ((sf.trans f3).new np) (T3.new np) (op_dp (o := .num i) (.of upd_same)) hi
end
end Ind

set_option Elab.async false
set_option linter.all false
set_option maxRecDepth 100000
set_option maxHeartbeats 4000000
namespace Ind
open PySem PySem.Spec PyProof.Rows L2
local macro_rules | `(tactic| walk_at "cn") => `(tactic| first
  | assumption
  | omega
  | exact dm (by omega)
  | exact line (by simp)
  | exact line (by simp only [len_app, len_one]; omega)
  | exact small_div (by omega) (by omega)
  | solve_by_elim
  | exact Or.inr ⟨by omega, by omega⟩
  | exact Or.inl ⟨by omega, by omega⟩
  | exact ⟨by omega, by omega⟩
  | decide)
local macro_rules | `(tactic| walk_at "st") => `(tactic| repeat (first
  | refine ⟨_, rfl, ?_⟩
  | refine ⟨_, _, rfl, rfl, ?_⟩
  | refine ⟨_, _, rfl, ?_⟩
  | refine .inl ⟨_, rfl, ?_⟩
  | refine And.intro rfl ?_
  | refine And.intro (by walk_at "cn") ?_))
local macro_rules | `(tactic| walk_at "fz") => `(tactic| repeat (first | exact Fz.refl | apply Fz.upd))
local macro_rules | `(tactic| walk_at "hl") => `(tactic| ((repeat rw [upd_ne (by assumption)]); assumption))

theorem e12 : (10 : Int) ^ Int.toNat 12 = 1000000000000 := by decide +kernel
/-- an expression under way -/
structure ExI (cs : List Col) (b : Bool) (ts : List Tm) (n : Int) (i : Nat) : Prop where
  ne : ts ≠ []
  first : ∀ t, ts.head? = some t → t.plus = true
  ops : ∀ t ∈ ts, OpOk cs b t.op
  one : b = true → ts.length = 1
  sum : (ts.map fun t => opBound cs t.op).sum = n
  low : n ≤ 1000000000000
  len : ts.length ≤ i + 1
theorem head_app {α : Type} {ts us : List α} (h : ts ≠ []) : (ts ++ us).head? = ts.head? := by
  cases ts with
  | nil => exact absurd rfl h
  | cons a r => rfl
theorem ExI.add {cs : List Col} {b : Bool} {ts : List Tm} {n : Int} {i : Nat} {t : Tm} (h : ExI cs b ts n i) (nb : b = false) (o : OpOk cs b t.op) (l : n + opBound cs t.op ≤ 1000000000000) : ExI cs b (ts ++ [t]) (n + opBound cs t.op) (i + 1) := by
  refine ⟨by simp, ?_, ?_, (fun z => by rw [nb] at z; cases z), ?_, l, ?_⟩
  · rw [head_app h.ne]; exact h.first
  · intro u hu
    rcases List.mem_append.mp hu with x | x
    · exact h.ops u x
    · cases List.mem_singleton.mp x; exact o
  · rw [List.map_append, List.sum_append, h.sum]; simp
  · have := h.len
    simp; omega
theorem ExI.more {cs : List Col} {b : Bool} {ts : List Tm} {n : Int} {i : Nat} (h : ExI cs b ts n i) : ExI cs b ts n (i + 1) := ⟨h.ne, h.first, h.ops, h.one, h.sum, h.low, by have := h.len; omega⟩
theorem ExI.out {cs : List Col} {b : Bool} {ts : List Tm} {n : Int} {i : Nat} (h : ExI cs b ts n i) (hi : i ≤ 19) : ExOk cs b ts := ⟨h.ne, h.first, h.ops, h.one, by rw [h.sum]; exact h.low, by have := h.len; omega⟩
section
variable {P : Program} {w : World} {K : PySem.W.Frag} {mg : Str → Option Value} {base : Heap}
theorem ok__law_expression (T : Txt K mg) : FnOk P w K mg base CX0 4 T.a__law_expression T.d__law_expression ["tape", "columns", "word", "more"] (spExpression K) := by
  have G__law_bound := ok__law_bound (P := P) (w := w) (base := base) T
  have G__law_draw := ok__law_draw (P := P) (w := w) (base := base) T
  have G__law_operand := ok__law_operand (P := P) (w := w) (base := base) T
  refine T.F__law_expression.ok sc__law_expression (fun vs H Q E h => ?_) (fun cdv A outer s H vs Q E hr h => ?_)
  · obtain ⟨t, c, cs, b, rfl, hT, hc, ok, q⟩ := h
    rfl
  · obtain ⟨t, c, cs, b, rfl, hT, hc, ok, q⟩ := h
    refine ⟨_, (pss_cons (ps_set (i := 4) sc__law_expression.nd rfl (.inl rfl) (pe_lst (pa_cons (pe_tup (pa_cons pe_str (pa_cons (pe_call G__law_operand hr (by rfl) T.g__law_operand T.F__law_operand.kp T.b__law_operand .nil pass0 (pa_cons (pv 0) (pa_cons (pv 1) (pa_cons (pv 2) pa_nil)))) pa_nil))) pa_nil)))
      (pss_cons (ps_set (i := 5) sc__law_expression.nd rfl (.inl rfl) (pe_call G__law_bound (hr.mono (by decide)) (by rfl) T.g__law_bound T.F__law_bound.kp T.b__law_bound .nil pass0 (pa_cons (pe_ix ix_tup (pe_ix ix_list (pv 4) pe_int (fun _ _ => rfl)) pe_int (fun _ _ => rfl)) (pa_cons (pv 1) pa_nil))))
      (pss_cons (ps_set (i := 6) sc__law_expression.nd rfl (.inl rfl) (pe_ix ix_list (pe_lst (pa_cons pe_int (pa_cons pe_int (pa_cons pe_int (pa_cons pe_int (pa_cons pe_int (pa_cons (pv 3) pa_nil))))))) (pe_call G__law_draw (hr.mono (by decide)) (by rfl) T.g__law_draw T.F__law_draw.kp T.b__law_draw .nil pass0 (pa_cons (pv 0) (pa_cons pe_int pa_nil))) (fun _ _ => rfl)))
      (pss_cons (ps_if (pt_cmpR op_eq (pv 2) pe_str (nomark _)) (pss_one (ps_set (i := 6) sc__law_expression.nd rfl (.inl rfl) pe_int)) pss_nil)
      (pss_cons (ps_for PassesOwn.never rfl (pi_range1 (by rfl) T.z_range (pa_cons (pv 6) pa_nil)) (pg_name (i := 7) sc__law_expression.nd rfl (.inl rfl))
      (pss_cons (ps_set (i := 8) sc__law_expression.nd rfl (.inl rfl) (pe_call G__law_operand hr (by rfl) T.g__law_operand T.F__law_operand.kp T.b__law_operand .nil pass0 (pa_cons (pv 0) (pa_cons (pv 1) (pa_cons (pv 2) pa_nil)))))
      (pss_one (ps_if (pt_cmpR op_le (pe_op op_add (pv 5) (pe_call G__law_bound (hr.mono (by decide)) (by rfl) T.g__law_bound T.F__law_bound.kp T.b__law_bound .nil pass0 (pa_cons (pv 8) (pa_cons (pv 1) pa_nil)))) (pe_op op_pow pe_int pe_int) (nomark _)) (pss_cons (ps_set (i := 5) sc__law_expression.nd rfl (.inl rfl) (pe_op op_add (pv 5) (pe_call G__law_bound (hr.mono (by decide)) (by rfl) T.g__law_bound T.F__law_bound.kp T.b__law_bound .nil pass0 (pa_cons (pv 8) (pa_cons (pv 1) pa_nil)))))
      (pss_one (ps_expr (pe_bm PySem.F.plainAttrs_list PySem.F.slot_list_append PySem.F.type_list_append mt_append (pv 4) (pa_cons (pe_tup (pa_cons (pe_ix ix_list (pe_lst (pa_cons pe_str (pa_cons pe_str pa_nil))) (pe_call G__law_draw (hr.mono (by decide)) (by rfl) T.g__law_draw T.F__law_draw.kp T.b__law_draw .nil pass0 (pa_cons (pv 0) (pa_cons pe_int pa_nil))) (fun _ _ => rfl)) (pa_cons (pv 8) pa_nil))) pa_nil))))) pss_nil))))
      (pss_one (ps_ret (pe_callTy call_tuple_of (by rfl) T.z_tuple boot_tuple (pa_cons (pv 4) pa_nil))))))))), ?_⟩
    walk_at "st"
    refine ⟨t, c, cs, b, rfl, hT, hc, ok, ?_⟩
    intro H1 v o f1 T1 dv oo
    have kp1 := f1.kp hT
    walk_at "st"
    intro p np
    walk_at "st"
    intro l nl
    have k2 := (Kp.new (o := .tup [.str "+", v]) np).trans (Kp.new (o := .lst [.ref p]) nl)
    have pl : p ≠ l := by
      intro e
      rw [← e, upd_same] at nl
      cases nl
    have kp2 := kp1.trans k2
    have hp : SqT K (upd (upd H1 p (.tup [.str "+", v])) l (.lst [.ref p])) p [.str "+", v] := .of (by rw [upd_ne pl, upd_same])
    have T2 := (T1.new (o := .tup [.str "+", v]) np).new (o := .lst [.ref p]) nl
    have f2 := (f1.new (o := .tup [.str "+", v]) np).new (o := .lst [.ref p]) nl
    walk_at "st"
    refine ⟨_, _, _, _, rfl, rfl, .of upd_same, atI_nat (j := 0) rfl, ?_⟩
    walk_at "st"
    refine ⟨_, _, _, _, rfl, rfl, hp, atI_nat (j := 1) rfl, ?_⟩
    walk_at "st"
    refine ⟨_, _, o, cs, b, rfl, Dp.kp k2 _ _ (tO_op o) dv, hc.kp kp2, ok, oo, ?_⟩
    intro H3 s3
    walk_at "st"
    have T3 := T2.same s3
    have f3 := f2.trans (Fz.of s3)
    intro l2 n2
    have off2 := T3.off n2
    have T3' := T3.new (o := .lst [.int 0, .int 0, .int 0, .int 1, .int 2, .int 11]) n2
    have f3' := f3.new (o := .lst [.int 0, .int 0, .int 0, .int 1, .int 2, .int 11]) n2
    have offl : Off t l := (T1.new (o := .tup [.str "+", v]) np).off nl
    have offp : Off t p := T1.off np
    walk_at "st"
    intro H4 r f4 T4 r0 r1
    obtain ⟨u, eu, mu⟩ := pick (ns := [0, 0, 0, 1, 2, 11]) (i := r) r0 (by simp; omega)
    have hu : 0 ≤ u ∧ u ≤ 11 := by
      simp at mu
      omega
    have hl3 := s3 l _ upd_same
    have hl4 := f4 l _ offl.a (by rw [upd_ne (ne_of_none hl3 n2)]; exact hl3)
    have sf4 := f3'.trans f4
    have kp4 : Kp H1 H4 := ((k2.trans (Same.kp s3)).trans (Kp.new n2)).trans (f4.kp T3')
    have hp4 := (((Same.kp s3).trans (Kp.new n2)).trans (f4.kp T3')).sqT hp
    have dv4 := Dp.kp kp4 _ _ (tO_op o) dv
    have lnone : H l = none := f1.none offl.a (by rw [← nl, upd_ne pl.symm])
    walk_at "st"
    refine ⟨_, _, _, _, rfl, rfl, .of (f4 l2 _ off2.a upd_same), eu, ?_⟩
    walk_at "st"
    have bl := opBound_le ok oo
    have ex0 : ExI cs b [⟨true, o⟩] (opBound cs o) 0 := ⟨by simp, by simp, by simp [oo], by simp, by simp, bl.2, by simp⟩
    have dp0 : DpAll K H4 ([p].map V.ref) ([⟨true, o⟩].map Tm.d) := .cons (.tup hp4 (.cons (.str _) (.cons dv4 .nil))) .nil
    refine ite2 (fun e => ?_) (fun e => ?_)
    case' refine_2.refine_1 =>
      have hb : b = true := by
        cases b
        · exact absurd (dstr e) (by decide)
        · rfl
      have hm : (b = true → (0 : Int) = 0) ∧ (0 : Int) ≤ 0 ∧ (0 : Int) ≤ 11 := ⟨fun _ => rfl, by decide, by decide⟩
    case' refine_2.refine_2 =>
      have hb : b = false := by
        cases b
        · rfl
        · exact absurd (decide_eq_true rfl) e
      have hm : (b = true → u = 0) ∧ 0 ≤ u ∧ u ≤ 11 := ⟨(fun z => by rw [hb] at z; cases z), hu⟩
    all_goals
      walk_at "st"
      refine for_range (fun i σ H' => Iv (∃ (ts : List Tm) (ps : List Addr) (n m : Int) (y z : Option V), σ = [some (.ref t.a), some c, some (.str (wordS b)), some (.int 11), some (.ref l), some (.int n), some (.int m), y, z] ∧ Fz t.a H H' ∧ TapeAt H' t ∧ H' l = some (.lst (ps.map V.ref)) ∧ DpAll K H' (ps.map V.ref) (ts.map Tm.d) ∧ ExI cs b ts n i))
        (.a ⟨_, [p], _, _, _, _, rfl, sf4, T4, hl4, dp0, ex0⟩) ?_ ?_
      · rintro i σ H' hi iv
        try (exfalso; omega)
        all_goals
          obtain ⟨ts, ps, n, m, y, z, rfl, f5, T5, hl5, dp5, ex5⟩ := iv.out
          have nb : b = false := by
            cases b with
            | false => rfl
            | true =>
              have := hm.1 rfl
              omega
          walk_at "st"
          refine ⟨t, c, cs, b, rfl, T5, hc.kp (f5.kp hT), ok, ?_⟩
          intro H6 v2 o2 f6 T6 dv2 oo2
          have sf6 := f5.trans f6
          walk_at "st"
          refine ⟨_, _, o2, cs, b, rfl, dv2, hc.kp (sf6.kp hT), ok, oo2, ?_⟩
          intro H7 s7
          have sf7 := sf6.trans (Fz.of s7)
          have dv7 := Dp.kp (Same.kp s7) _ _ (tO_op o2) dv2
          walk_at "st"
          refine ite2 (fun e2 => ?_) (fun e2 => ?_)
          · have le2 : n + opBound cs o2 ≤ 1000000000000 := by
              have := of_decide_eq_true e2
              rw [e12] at this
              exact this
            walk_at "st"
            refine ⟨_, _, o2, cs, b, rfl, dv7, hc.kp (sf7.kp hT), ok, oo2, ?_⟩
            intro H8 s8
            have sf8 := sf7.trans (Fz.of s8)
            have dv8 := Dp.kp (Same.kp s8) _ _ (tO_op o2) dv7
            have T8 := (T6.same s7).same s8
            have hl8 := s8 _ _ (s7 _ _ (f6 l _ offl.a hl5))
            have k58 := ((f6.kp T5).trans (Same.kp s7)).trans (Same.kp s8)
            walk_at "st"
            refine ⟨.inl ⟨rfl, _, .of hl8⟩, ?_⟩
            walk_at "st"
            intro l3 n3
            have T9 := T8.new (o := .lst [.str "+", .str "-"]) n3
            have off3 := T8.off n3
            walk_at "st"
            intro H10 r9 f10 T10 r90 r91
            obtain ⟨sx, es, ms⟩ := pickT (ss := ["+", "-"]) (i := r9) r90 (by simp; omega)
            obtain ⟨pl9, rfl⟩ : ∃ x, sx = sgS x := by
              simp only [List.mem_cons, List.not_mem_nil, or_false] at ms
              rcases ms with rfl | rfl
              · exact ⟨true, rfl⟩
              · exact ⟨false, rfl⟩
            have kn : Kp H8 H10 := (Kp.new n3).trans (f10.kp T9)
            have dv10 := Dp.kp kn _ _ (tO_op o2) dv8
            have l3l : l ≠ l3 := ne_of_none hl8 n3
            have hl10 := f10 l _ offl.a (by rw [upd_ne l3l]; exact hl8)
            have sf10 := (sf8.new (o := .lst [.str "+", .str "-"]) n3).trans f10
            refine ⟨_, _, _, _, rfl, rfl, .of (f10 l3 _ off3.a upd_same), es, ?_⟩
            walk_at "st"
            intro p4 n4
            have l4 : l ≠ p4 := ne_of_none hl10 n4
            have hl11 : upd H10 p4 (.tup [.str (sgS pl9), v2]) l = _ := (upd_ne l4).trans hl10
            have lps : ps.length = ts.length := by
              have := dp5.len
              simpa using this
            have tl := ex5.len
            refine ⟨_, _, _, rfl, rfl, hl11, small1000 (by simp <;> omega), ?_⟩
            refine .a ⟨ts ++ [⟨pl9, o2⟩], ps ++ [p4], _, _, _, _, rfl, (sf10.new n4).upd' lnone, (T10.new n4).upd offl, ?_, ?_, ex5.add nb oo2 le2⟩
            · rw [upd_same, List.map_append]; rfl
            · have kq : Kp H10 (upd (upd H10 p4 (.tup [.str (sgS pl9), v2])) l (.lst (ps.map V.ref ++ [.ref p4]))) := (Kp.new n4).trans (Kp.upd hl11)
              rw [List.map_append, List.map_append]
              refine DpAll.app (DpAll.kp ((k58.trans kn).trans kq) _ _ (tO_tms ts) dp5) (.cons (.tup (.of ?_) (.cons (.str _) (.cons (Dp.kp kq _ _ (tO_op o2) dv10) .nil))) .nil)
              rw [upd_ne l4.symm, upd_same]
          · walk_at "st"
            exact .a ⟨ts, ps, n, m, _, _, rfl, sf7, T6.same s7, s7 _ _ (f6 l _ offl.a hl5), DpAll.kp ((f6.kp T5).trans (Same.kp s7)) _ _ (tO_tms ts) dp5, ex5.more⟩
      · rintro σ H' iv
        obtain ⟨ts, ps, n, m, y, z, rfl, f5, T5, hl5, dp5, ex5⟩ := iv.out
        walk_at "st"
        have lps : ps.length = ts.length := by
          have := dp5.len
          simpa using this
        refine ⟨_, _, rfl, .inl ⟨.of hl5, ?_⟩⟩
        intro l9 n9
        refine q _ _ ts (f5.new n9) (T5.new n9) (.tup (.inl (.inl upd_same)) (DpAll.kp (Kp.new n9) _ _ (tO_tms ts) dp5)) (ex5.out (by omega))
end
end Ind

set_option Elab.async false
set_option linter.all false
set_option maxRecDepth 100000
set_option maxHeartbeats 4000000
namespace Ind
open PySem PySem.Spec PyProof.Rows L2
local macro_rules | `(tactic| walk_at "cn") => `(tactic| first
  | assumption
  | omega
  | exact dm (by omega)
  | exact line (by simp)
  | exact line (by simp only [len_app, len_one]; omega)
  | exact small_div (by omega) (by omega)
  | solve_by_elim
  | exact Or.inr ⟨by omega, by omega⟩
  | exact Or.inl ⟨by omega, by omega⟩
  | exact ⟨by omega, by omega⟩
  | decide)
local macro_rules | `(tactic| walk_at "st") => `(tactic| repeat (first
  | refine ⟨_, rfl, ?_⟩
  | refine ⟨_, _, rfl, rfl, ?_⟩
  | refine ⟨_, _, rfl, ?_⟩
  | refine .inl ⟨_, rfl, ?_⟩
  | refine And.intro rfl ?_
  | refine And.intro (by walk_at "cn") ?_))
local macro_rules | `(tactic| walk_at "fz") => `(tactic| repeat (first | exact Fz.refl | apply Fz.upd))
local macro_rules | `(tactic| walk_at "hl") => `(tactic| ((repeat rw [upd_ne (by assumption)]); assumption))

section
variable {P : Program} {w : World} {K : PySem.W.Frag} {mg : Str → Option Value} {base : Heap}
theorem ok__law_sum (T : Txt K mg) : FnOk P w K mg base CX0 2 T.a__law_sum T.d__law_sum ["expression", "columns"] (spSum K) := by
  have G__law_bound := ok__law_bound (P := P) (w := w) (base := base) T
  refine T.F__law_sum.ok sc__law_sum (fun vs H Q E h => ?_) (fun cdv A outer s H vs Q E hr h => ?_)
  · obtain ⟨v, c, ts, cs, b, rfl, dv, tl, hc, ok, oo, q⟩ := h
    rfl
  · obtain ⟨v, c, ts, cs, b, rfl, dv, tl, hc, ok, oo, q⟩ := h
    refine ⟨_, (pss_one (ps_ret (pe_callB (cr_sum rfl) (by rfl) T.z_sum boot_sum (pa_cons (pe_lc (own := [("term", 2)]) (g := gName 2) (tt := tYes) rfl sc__law_sum.nd (pi_tup (pv 0)) (blkOk_by (own := [("term", 2)]) (N := N__law_sum) (sc := defScope s__law_sum) (by decide +kernel)) (fun _ _ _ _ _ => (pg_name (i := 2) sc__law_sum.nd rfl (.inl rfl))) (fun _ _ _ _ _ => pts_nil) (fun _ _ _ _ _ => (pe_call G__law_bound hr (by rfl) T.g__law_bound T.F__law_bound.kp T.b__law_bound .nil pass0 (pa_cons (pe_ix (ixT (K := K) rfl) (pv 2) pe_int (fun _ _ => rfl)) (pa_cons (pv 1) pa_nil))))) pa_nil)))), ?_⟩
    obtain ⟨ea, es, rfl, hes, des⟩ := dv.tup_inv
    have les : es.length = ts.length := by
      have := des.len
      simpa using this
    walk_at "st"
    intro D nD
    refine lc_tup (xs := es) (fun i H' => Iv (Same H H' ∧ H' D = some (.lst ((ts.take i).map fun t => V.int (opBound cs t.op)))))
      (.a ⟨same_upd nD, upd_same⟩) ?_ ?_ ?_
    · intro i H' hi iv
      obtain ⟨sm, hD⟩ := iv.out
      exact (Same.kp sm).sqT hes
    · intro i x H' ex iv
      obtain ⟨sm, hD⟩ := iv.out
      obtain ⟨tm, et, dt⟩ := dps_get des ex
      obtain ⟨a2, u2, rfl, hs2, du⟩ := tm_at (Dp.kp (Same.kp sm) _ _ (tO_tm tm) dt)
      walk_at "st"
      refine ⟨_, _, _, _, rfl, rfl, hs2, atI_nat (j := 1) rfl, ?_⟩
      walk_at "st"
      refine ⟨_, _, tm.op, cs, b, rfl, du, hc.kp (Same.kp sm), ok, oo _ (List.mem_of_getElem? et), ?_⟩
      intro H3 s3
      refine ⟨_, s3 _ _ hD, small1000 (by simp; omega), .a ⟨Same.upd' (sm.trans s3) nD, ?_⟩⟩
      rw [upd_same, take_more et, List.map_append]
      rfl
    · intro H' iv
      obtain ⟨sm, hD⟩ := iv.out
      rw [les, List.take_of_length_le (Nat.le_refl _)] at hD
      refine ⟨_, ts.map fun t => opBound cs t.op, rfl, .of (by rw [List.map_map]; exact hD), ?_⟩
      exact q _ sm
theorem ok__law_due (T : Txt K mg) : FnOk P w K mg base CX0 1 T.a__law_due T.d__law_due ["expression", "names", "row"] (spDue K) := by
  refine T.F__law_due.ok sc__law_due (fun vs H Q E h => ?_) (fun cdv A outer s H vs Q E hr h => ?_)
  · obtain ⟨e, n, r, ts, cs, vs, b, rfl, de, ex, ok, ⟨na, no, rfl, hn, nod⟩, ⟨ra, rfl, hr2⟩, ri, q⟩ := h
    rfl
  · obtain ⟨e, n, r, ts, cs, vs, b, rfl, de, ex, ok, ⟨na, no, rfl, hn, nod⟩, ⟨ra, rfl, hr2⟩, ri, q⟩ := h
    refine ⟨_, (pss_cons (ps_set (i := 3) sc__law_due.nd rfl (.inr rfl) (pe_lst pa_nil))
      (pss_cons (ps_for PassesOwn.never rfl (pi_tup (pv 0)) (pg_name (i := 4) sc__law_due.nd rfl (.inl rfl))
      (pss_one (ps_if (pt_cmpR op_eq (pe_ix ix_tup (pe_ix ix_tup (pv 4) pe_int (fun _ _ => rfl)) pe_int (fun _ _ => rfl)) pe_str (nomark _)) (pss_one (ps_expr (pe_bm PySem.F.plainAttrs_list PySem.F.slot_list_append PySem.F.type_list_append mt_append (pv 3) (pa_cons (pe_ix ix_tup (pv 2) (pe_bmZ PySem.F.slot_tuple_index PySem.F.type_tuple_index mt_tindex (pv 1) (pa_cons (pe_ix ix_tup (pe_ix ix_tup (pv 4) pe_int (fun _ _ => rfl)) pe_int (fun _ _ => rfl)) pa_nil)) (fun _ _ => rfl)) pa_nil)))) (pss_one (ps_expr (pe_bm PySem.F.plainAttrs_list PySem.F.slot_list_append PySem.F.type_list_append mt_append (pv 3) (pa_cons (pe_ix ix_tup (pe_ix ix_tup (pv 4) pe_int (fun _ _ => rfl)) pe_int (fun _ _ => rfl)) pa_nil)))))))
      (pss_cons (ps_if (pt_cmpR op_eq (pe_callB call_len_seq (by rfl) T.z_len boot_len (pa_cons (pv 0) pa_nil)) pe_int (nomark _)) (pss_one (ps_ret (pe_ix ix_list (pv 3) pe_int (fun _ _ => rfl)))) pss_nil)
      (pss_cons (ps_set (i := 5) sc__law_due.nd rfl (.inl rfl) (pe_callB (cr_sum rfl) (by rfl) T.z_sum boot_sum (pa_cons (pe_lc (own := [("k", 6)]) (g := gName 6) rfl sc__law_due.nd (pi_range1 (by rfl) T.z_range (pa_cons (pe_callB call_len_seq (by rfl) T.z_len boot_len (pa_cons (pv 3) pa_nil)) pa_nil)) (blkOk_by (own := [("k", 6)]) (N := N__law_due) (sc := defScope s__law_due) (by decide +kernel)) (fun _ _ _ _ _ => (pg_name (i := 6) sc__law_due.nd rfl (.inl rfl))) (fun _ _ _ _ _ => (pts_one (pt_cmpR op_eq (pe_ix (ixT (K := K) rfl) (pe_ix (ixT (K := K) rfl) (pv 0) (pv 6) (fun _ _ => rfl)) pe_int (fun _ _ => rfl)) pe_str (nomark _)))) (fun _ _ _ _ _ => (pe_ix (ixL (K := K) rfl) (pv 3) (pv 6) (fun _ _ => rfl)))) pa_nil)))
      (pss_one (ps_ret (pe_op op_sub (pv 5) (pe_callB (cr_sum rfl) (by rfl) T.z_sum boot_sum (pa_cons (pe_lc (own := [("k", 6)]) (g := gName 6) rfl sc__law_due.nd (pi_range1 (by rfl) T.z_range (pa_cons (pe_callB call_len_seq (by rfl) T.z_len boot_len (pa_cons (pv 3) pa_nil)) pa_nil)) (blkOk_by (own := [("k", 6)]) (N := N__law_due) (sc := defScope s__law_due) (by decide +kernel)) (fun _ _ _ _ _ => (pg_name (i := 6) sc__law_due.nd rfl (.inl rfl))) (fun _ _ _ _ _ => (pts_one (pt_cmpR op_eq (pe_ix (ixT (K := K) rfl) (pe_ix (ixT (K := K) rfl) (pv 0) (pv 6) (fun _ _ => rfl)) pe_int (fun _ _ => rfl)) pe_str (nomark _)))) (fun _ _ _ _ _ => (pe_ix (ixL (K := K) rfl) (pv 3) (pv 6) (fun _ _ => rfl)))) pa_nil))))))))), ?_⟩
    obtain ⟨ea, es, rfl, hes, des⟩ := de.tup_inv
    have les : es.length = ts.length := by
      have := des.len
      simpa using this
    have tl := ex.len
    walk_at "st"
    intro D nD
    walk_at "st"
    refine And.intro ⟨_, (Kp.new nD).sqT hes⟩ ?_
    refine for_tup (xs := es) (fun i σ H' => Iv (∃ z z5 z6, σ = [some (.ref ea), some (.ref na), some (.ref ra), some (.ref D), z, z5, z6] ∧ Same H H' ∧ H' D = some (.lst ((ts.take i).map fun t => opVal cs vs t.op))))
      (.a ⟨_, _, _, rfl, same_upd nD, upd_same⟩) ?_ ?_ ?_
    · intro i σ H' hi iv
      obtain ⟨z, z5, z6, rfl, sm, hD⟩ := iv.out
      exact (Same.kp sm).sqT hes
    · intro i x σ H' hx iv
      obtain ⟨z, z5, z6, rfl, sm, hD⟩ := iv.out
      obtain ⟨tm, et, dt⟩ := dps_get des hx
      obtain ⟨a2, u2, rfl, hs2, du⟩ := tm_at (Dp.kp (Same.kp sm) _ _ (tO_tm tm) dt)
      obtain ⟨a3, rfl, hs3⟩ := op_at du
      have mt := List.mem_of_getElem? et
      have oo := ex.ops tm mt
      have li : i < ts.length := (List.getElem?_eq_some_iff.mp et).1
      walk_at "st"
      refine ⟨_, _, _, _, rfl, rfl, hs2, atI_nat (j := 1) rfl, ?_⟩
      walk_at "st"
      refine ⟨_, _, _, _, rfl, rfl, hs3, atI_nat (j := 0) rfl, ?_⟩
      walk_at "st"
      refine ite2 (fun e1 => ?_) (fun e1 => ?_)
      · obtain ⟨n, en⟩ := word_col (dstr e1)
        rw [en] at hs3 oo
        have mn := oo.mem
        walk_at "st"
        refine ⟨.inl ⟨rfl, _, .of hD⟩, ?_⟩
        walk_at "st"
        refine ⟨⟨_, _, _, rfl, sm _ _ hn, nod⟩, ?_⟩
        walk_at "st"
        refine ⟨_, _, _, _, rfl, rfl, hs2, atI_nat (j := 1) rfl, ?_⟩
        walk_at "st"
        refine ⟨_, _, _, _, rfl, rfl, hs3, atI_nat (j := 1) rfl, ?_⟩
        walk_at "st"
        refine ⟨_, cs.map (·.1), n, rfl, rfl, by rw [List.map_map]; exact .inl (.inr ⟨no, sm _ _ hn⟩), mn, ?_⟩
        refine ⟨_, _, _, _, rfl, rfl, (Same.kp sm).sqT hr2, atI_nat (row_at ri mn), ?_⟩
        walk_at "st"
        refine ⟨_, _, _, rfl, rfl, hD, small1000 (by simp <;> omega), ?_⟩
        refine .a ⟨_, _, _, rfl, Same.upd' sm nD, ?_⟩
        rw [upd_same, take_more et, List.map_append]
        show _ = some (HO.lst (_ ++ [opVal cs vs tm.op]))
        rw [en]
      · walk_at "st"
        refine ⟨.inl ⟨rfl, _, .of hD⟩, ?_⟩
        walk_at "st"
        refine ⟨_, _, _, _, rfl, rfl, hs2, atI_nat (j := 1) rfl, ?_⟩
        walk_at "st"
        refine ⟨_, _, _, _, rfl, rfl, hs3, atI_nat (j := 1) rfl, ?_⟩
        walk_at "st"
        refine ⟨_, _, _, rfl, rfl, hD, small1000 (by simp <;> omega), ?_⟩
        refine .a ⟨_, _, _, rfl, Same.upd' sm nD, ?_⟩
        rw [upd_same, take_more et, List.map_append]
        show _ = some (HO.lst (_ ++ [opVal cs vs tm.op]))
        rw [op_cont (cs := cs) (vs := vs) (fun n en => e1 (by rw [en]; exact decide_eq_true rfl))]
    · intro σ H' iv
      obtain ⟨z, z5, z6, rfl, sm, hD⟩ := iv.out
      rw [les, List.take_of_length_le (Nat.le_refl _)] at hD
      have hes2 := (Same.kp sm).sqT hes
      walk_at "st"
      refine ⟨_, _, rfl, .inr hes2, ?_⟩
      walk_at "st"
      refine ite2 (fun e1 => ?_) (fun e1 => ?_)
      · have l1 : ts.length = 1 := by
          have : (es.length : Int) = 1 := by
            have := of_decide_eq_true e1
            injection this
          omega
        obtain ⟨t0, rfl, ev⟩ := exVal_one (cs := cs) (vs := vs) l1
        walk_at "st"
        refine ⟨_, _, _, _, rfl, rfl, .of hD, atI_nat (j := 0) rfl, ?_⟩
        have := q _ sm
        rw [ev] at this
        exact this
      · have l1 : ts.length ≠ 1 := fun z => e1 (decide_eq_true (by rw [les, z]; rfl))
        have eb : b = false := by
          cases b with
          | false => rfl
          | true => exact absurd (ex.one rfl) l1
        subst eb
        have allI : ∀ t ∈ ts, opVal cs vs t.op = .int (iOf (opVal cs vs t.op)) := by
          intro t ht
          obtain ⟨i, e, _⟩ := op_int ok ri (ex.ops t ht)
          rw [e]; rfl
        walk_at "st"
        refine ⟨_, _, rfl, .inl (.of hD), ?_⟩
        rw [List.length_map]
        walk_at "st"
        intro D2 nD2
        have neD2 : D ≠ D2 := ne_of_none hD nD2
        refine lc_range (fun i H2 => Iv (Same H H2 ∧ H2 D = some (.lst (ts.map fun t => opVal cs vs t.op)) ∧ H2 D2 = some (.lst ((sided cs vs true (ts.take i)).map V.int))))
          (.a ⟨Same.new sm nD2, by rw [upd_ne neD2]; exact hD, upd_same⟩) ?_ ?_
        · intro i H2 hi iv
          obtain ⟨s2, hD2, hE2⟩ := iv.out
          have hi2 : i < ts.length := by omega
          obtain ⟨x, ex1⟩ : ∃ x, es[i]? = some x := ⟨_, List.getElem?_eq_getElem (by omega)⟩
          obtain ⟨tm, et, dt⟩ := dps_get des ex1
          obtain ⟨a2, u2, rfl, hs2, du⟩ := tm_at (Dp.kp (Same.kp s2) _ _ (tO_tm tm) dt)
          have e0 : (0 : Int) + (i : Int) = (i : Int) := by omega
          have sl := sided_len (cs := cs) (vs := vs) (p := true) (ts := ts.take i)
          rw [List.length_take] at sl
          walk_at "st"
          refine ⟨_, _, _, _, rfl, rfl, (Same.kp s2).sqT hes, at_of e0 ex1, ?_⟩
          walk_at "st"
          refine ⟨_, _, _, _, rfl, rfl, hs2, atI_nat (j := 0) rfl, ?_⟩
          walk_at "st"
          refine ite2 (fun e2 => ?_) (fun e2 => ?_)
          · have pe : tm.plus = true := by
              cases h : tm.plus
              · first | rfl | (rw [h] at e2; exact absurd (dstr e2) (by decide))
              · first | rfl | (rw [h] at e2; exact absurd (dstr e2) (by decide))
            walk_at "st"
            refine ⟨_, _, _, _, rfl, rfl, .of hD2, at_of e0 (by rw [List.getElem?_map, et]; rfl), ?_⟩
            refine ⟨_, hE2, small1000 (by rw [List.length_map]; omega), .a ⟨Same.upd' s2 (Same.none sm nD2), ?_, ?_⟩⟩
            · rw [upd_ne neD2]; exact hD2
            · rw [upd_same, sided_more et, if_pos pe, List.map_append]; exact congrArg (fun z => some (HO.lst (_ ++ [z]))) (allI tm (List.mem_of_getElem? et))
          · have pe : ¬ tm.plus = true := fun h => e2 (by rw [h]; exact decide_eq_true rfl)
            walk_at "st"
            refine .a ⟨s2, hD2, ?_⟩
            rw [hE2, sided_more et, if_neg pe, List.append_nil]
        · intro H3 iv
          obtain ⟨s3, hD3, hE3⟩ := iv.out
          rw [Int.toNat_natCast, List.take_of_length_le (Nat.le_refl _)] at hE3
          refine ⟨_, _, rfl, .of hE3, ?_⟩
          walk_at "st"
          refine ⟨_, _, rfl, .inl (.of hD3), ?_⟩
          rw [List.length_map]
          walk_at "st"
          intro D3 nD3
          have neD3 : D ≠ D3 := ne_of_none hD3 nD3
          refine lc_range (fun i H2 => Iv (Same H H2 ∧ H2 D = some (.lst (ts.map fun t => opVal cs vs t.op)) ∧ H2 D3 = some (.lst ((sided cs vs false (ts.take i)).map V.int))))
            (.a ⟨Same.new s3 nD3, by rw [upd_ne neD3]; exact hD3, upd_same⟩) ?_ ?_
          · intro i H2 hi iv
            obtain ⟨s2, hD2, hE2⟩ := iv.out
            have hi2 : i < ts.length := by omega
            obtain ⟨x, ex1⟩ : ∃ x, es[i]? = some x := ⟨_, List.getElem?_eq_getElem (by omega)⟩
            obtain ⟨tm, et, dt⟩ := dps_get des ex1
            obtain ⟨a2, u2, rfl, hs2, du⟩ := tm_at (Dp.kp (Same.kp s2) _ _ (tO_tm tm) dt)
            have e0 : (0 : Int) + (i : Int) = (i : Int) := by omega
            have sl := sided_len (cs := cs) (vs := vs) (p := false) (ts := ts.take i)
            rw [List.length_take] at sl
            walk_at "st"
            refine ⟨_, _, _, _, rfl, rfl, (Same.kp s2).sqT hes, at_of e0 ex1, ?_⟩
            walk_at "st"
            refine ⟨_, _, _, _, rfl, rfl, hs2, atI_nat (j := 0) rfl, ?_⟩
            walk_at "st"
            refine ite2 (fun e2 => ?_) (fun e2 => ?_)
            · have pe : tm.plus = false := by
                cases h : tm.plus
                · first | rfl | (rw [h] at e2; exact absurd (dstr e2) (by decide))
                · first | rfl | (rw [h] at e2; exact absurd (dstr e2) (by decide))
              walk_at "st"
              refine ⟨_, _, _, _, rfl, rfl, .of hD2, at_of e0 (by rw [List.getElem?_map, et]; rfl), ?_⟩
              refine ⟨_, hE2, small1000 (by rw [List.length_map]; omega), .a ⟨Same.upd' s2 (Same.none s3 nD3), ?_, ?_⟩⟩
              · rw [upd_ne neD3]; exact hD2
              · rw [upd_same, sided_more et, if_pos pe, List.map_append]; exact congrArg (fun z => some (HO.lst (_ ++ [z]))) (allI tm (List.mem_of_getElem? et))
            · have pe : ¬ tm.plus = false := fun h => e2 (by rw [h]; exact decide_eq_true rfl)
              walk_at "st"
              refine .a ⟨s2, hD2, ?_⟩
              rw [hE2, sided_more et, if_neg pe, List.append_nil]
          · intro H4 iv
            obtain ⟨s4, hD4, hE4⟩ := iv.out
            rw [Int.toNat_natCast, List.take_of_length_le (Nat.le_refl _)] at hE4
            refine ⟨_, _, rfl, .of hE4, ?_⟩
            have := q _ s4
            rw [exVal_many l1, ← sided_sum] at this
            walk_at "st"
            exact this
end
end Ind

set_option Elab.async false
set_option linter.all false
set_option maxRecDepth 100000
set_option maxHeartbeats 4000000
namespace Ind
open PySem PySem.Spec PyProof.Rows L2
local macro_rules | `(tactic| walk_at "cn") => `(tactic| first
  | assumption
  | omega
  | exact dm (by omega)
  | exact line (by simp)
  | exact line (by simp only [len_app, len_one]; omega)
  | exact small_div (by omega) (by omega)
  | solve_by_elim
  | exact Or.inr ⟨by omega, by omega⟩
  | exact Or.inl ⟨by omega, by omega⟩
  | exact ⟨by omega, by omega⟩
  | decide)
local macro_rules | `(tactic| walk_at "st") => `(tactic| repeat (first
  | refine ⟨_, rfl, ?_⟩
  | refine ⟨_, _, rfl, rfl, ?_⟩
  | refine ⟨_, _, rfl, ?_⟩
  | refine .inl ⟨_, rfl, ?_⟩
  | refine And.intro rfl ?_
  | refine And.intro (by walk_at "cn") ?_))
local macro_rules | `(tactic| walk_at "fz") => `(tactic| repeat (first | exact Fz.refl | apply Fz.upd))
local macro_rules | `(tactic| walk_at "hl") => `(tactic| ((repeat rw [upd_ne (by assumption)]); assumption))

/-- what stands while a straight expression grows -/
structure Sit (K : PySem.W.Frag) (H H' : Hp) (t : Tp) (L M : Addr) (ts : List Tm) (ps : List Addr) (fs : List S) : Prop where
  fz : Fz t.a H H'
  tp : TapeAt H' t
  l : H' L = some (.lst (fs.map V.str))
  m : H' M = some (.lst (ps.map V.ref))
  dp : DpAll K H' (ps.map V.ref) (ts.map Tm.d)
section
variable {P : Program} {w : World} {K : PySem.W.Frag} {mg : Str → Option Value} {base : Heap}
theorem Sit.fzn {H H1 H2 : Hp} {t : Tp} {L M : Addr} {ts : List Tm} {ps : List Addr} {fs : List S} (s : Sit K H H1 t L M ts ps fs) (f : Fz t.a H1 H2) (T : TapeAt H2 t) (ol : Off t L) (om : Off t M) : Sit K H H2 t L M ts ps fs :=
  ⟨s.fz.trans f, T, f _ _ ol.a s.l, f _ _ om.a s.m, DpAll.kp (f.kp s.tp) _ _ (tO_tms ts) s.dp⟩
theorem Sit.sm {H H1 H2 : Hp} {t : Tp} {L M : Addr} {ts : List Tm} {ps : List Addr} {fs : List S} (s : Sit K H H1 t L M ts ps fs) (f : Same H1 H2) : Sit K H H2 t L M ts ps fs :=
  ⟨s.fz.trans (Fz.of f), s.tp.same f, f _ _ s.l, f _ _ s.m, DpAll.kp (Same.kp f) _ _ (tO_tms ts) s.dp⟩
theorem Sit.new {H H1 : Hp} {t : Tp} {L M p : Addr} {o : HO} {ts : List Tm} {ps : List Addr} {fs : List S} (s : Sit K H H1 t L M ts ps fs) (n : H1 p = none) : Sit K H (upd H1 p o) t L M ts ps fs := s.sm (same_upd n)
theorem ok__law_straight (T : Txt K mg) : FnOk P w K mg base CX0 3 T.a__law_straight T.d__law_straight ["tape", "columns"] (spStraight K) := by
  have G__law_draw := ok__law_draw (P := P) (w := w) (base := base) T
  have G__law_number := ok__law_number (P := P) (w := w) (base := base) T
  have G__law_bound := ok__law_bound (P := P) (w := w) (base := base) T
  refine T.F__law_straight.ok sc__law_straight (fun vs H Q E h => ?_) (fun cdv A outer s H vs Q E hr h => ?_)
  · obtain ⟨t, c, cs, rfl, hT, hc, ok, q⟩ := h
    rfl
  · obtain ⟨t, c, cs, rfl, hT, hc, ok, q⟩ := h
    refine ⟨_, (pss_cons (ps_setLc (i := 2) (own := [("column", 8)]) (g := gName 8) rfl sc__law_straight.nd rfl rfl (sw_true rfl rfl rfl (by decide +kernel)) (pi_tup (pv 1)) (blkOk_by (own := [("column", 8)]) (N := N__law_straight) (sc := defScope s__law_straight) (by decide +kernel)) (fun _ _ _ _ _ => (pg_name (i := 8) sc__law_straight.nd rfl (.inl rfl))) (fun _ _ _ _ _ => (pts_one (pt_cmpR op_eq (pe_ix (ixT (K := K) rfl) (pe_ix (ixT (K := K) rfl) (pv 8) pe_int (fun _ _ => rfl)) pe_int (fun _ _ => rfl)) pe_str (nomark _)))) (fun _ _ _ _ _ => (pe_ix (ixT (K := K) rfl) (pv 8) pe_int (fun _ _ => rfl))))
      (pss_cons (ps_set (i := 3) sc__law_straight.nd rfl (.inl rfl) (pe_lst pa_nil))
      (pss_cons (ps_set (i := 4) sc__law_straight.nd rfl (.inl rfl) pe_int)
      (pss_cons (ps_for PassesOwn.never rfl (pi_range1 (by rfl) T.z_range (pa_cons (pe_op op_add pe_int (pe_call G__law_draw (hr.mono (by decide)) (by rfl) T.g__law_draw T.F__law_draw.kp T.b__law_draw .nil pass0 (pa_cons (pv 0) (pa_cons pe_int pa_nil)))) pa_nil)) (pg_name (i := 5) sc__law_straight.nd rfl (.inl rfl))
      (pss_cons (ps_set (i := 6) sc__law_straight.nd rfl (.inl rfl) (pe_ix ix_list (pe_lst (pa_cons pe_str (pa_cons pe_str pa_nil))) (pe_call G__law_draw (hr.mono (by decide)) (by rfl) T.g__law_draw T.F__law_draw.kp T.b__law_draw .nil pass0 (pa_cons (pv 0) (pa_cons pe_int pa_nil))) (fun _ _ => rfl)))
      (pss_cons (ps_if (pt_cmpR op_eq (pv 5) pe_int (nomark _)) (pss_one (ps_set (i := 6) sc__law_straight.nd rfl (.inl rfl) pe_str)) pss_nil)
      (pss_cons (ps_set (i := 7) sc__law_straight.nd rfl (.inl rfl) (pe_tup (pa_cons pe_str (pa_cons (pe_callB call_abs (by rfl) T.z_abs boot_abs (pa_cons (pe_call G__law_number hr (by rfl) T.g__law_number T.F__law_number.kp T.b__law_number .nil pass0 (pa_cons (pv 0) pa_nil)) pa_nil)) pa_nil))))
      (pss_cons (ps_if (pt_cmpR op_eq (pv 6) pe_str (nomark _)) (pss_one (ps_set (i := 7) sc__law_straight.nd rfl (.inl rfl) (pe_tup (pa_cons pe_str (pa_cons (pe_un un_neg (pe_ix ix_tup (pv 7) pe_int (fun _ _ => rfl))) pa_nil))))) pss_nil)
      (pss_cons (ps_if (PW.pt (pw_and (pt_truth (pv 2) (by intro _; rfl)) (pw_and1 (pt_cmpR op_gt (pe_call G__law_draw (hr.mono (by decide)) (by rfl) T.g__law_draw T.F__law_draw.kp T.b__law_draw .nil pass0 (pa_cons (pv 0) (pa_cons pe_int pa_nil))) pe_int (nomark _))))) (pss_one (ps_set (i := 7) sc__law_straight.nd rfl (.inl rfl) (pe_tup (pa_cons pe_str (pa_cons (pe_bm PySem.F.plainAttrs_list PySem.F.slot_list_pop PySem.F.type_list_pop mt_popAt (pv 2) (pa_cons (pe_call G__law_draw (hr.mono (by decide)) (by rfl) T.g__law_draw T.F__law_draw.kp T.b__law_draw .nil pass0 (pa_cons (pv 0) (pa_cons (pe_callB call_len_seq (by rfl) T.z_len boot_len (pa_cons (pv 2) pa_nil)) pa_nil))) pa_nil)) pa_nil))))) pss_nil)
      (pss_one (ps_if (pt_cmpR op_le (pe_op op_add (pv 4) (pe_call G__law_bound (hr.mono (by decide)) (by rfl) T.g__law_bound T.F__law_bound.kp T.b__law_bound .nil pass0 (pa_cons (pv 7) (pa_cons (pv 1) pa_nil)))) (pe_op op_pow pe_int pe_int) (nomark _)) (pss_cons (ps_set (i := 4) sc__law_straight.nd rfl (.inl rfl) (pe_op op_add (pv 4) (pe_call G__law_bound (hr.mono (by decide)) (by rfl) T.g__law_bound T.F__law_bound.kp T.b__law_bound .nil pass0 (pa_cons (pv 7) (pa_cons (pv 1) pa_nil)))))
      (pss_one (ps_expr (pe_bm PySem.F.plainAttrs_list PySem.F.slot_list_append PySem.F.type_list_append mt_append (pv 3) (pa_cons (pe_tup (pa_cons (pv 6) (pa_cons (pv 7) pa_nil))) pa_nil))))) pss_nil))))))))
      (pss_one (ps_ret (pe_callTy call_tuple_of (by rfl) T.z_tuple boot_tuple (pa_cons (pv 3) pa_nil)))))))), ?_⟩
    obtain ⟨ca, ps, rfl, hcs, dcs⟩ := hc.tup
    have lps : ps.length = cs.length := by
      have := dcs.len
      simpa using this
    have l10 := ok.len
    walk_at "st"
    refine And.intro ⟨_, hcs⟩ ?_
    intro L nL
    have offL := hT.off nL
    refine lc_tup (xs := ps.map V.ref) (fun i H' => Iv (∃ fs : List S, Same H H' ∧ H' L = some (.lst (fs.map V.str)) ∧ fs.length ≤ i ∧ (∀ n ∈ fs, ∃ k, (n, some k) ∈ cs) ∧ fs.Sublist ((cs.take i).map (·.1))))
      (.a ⟨[], same_upd nL, upd_same, by simp, by simp, by simp⟩) ?_ ?_ ?_
    · intro i H' hi iv
      obtain ⟨fs, sm, hD, hl, hf, hsl⟩ := iv.out
      exact (Same.kp sm).sqT hcs
    · intro i x H' ex iv
      obtain ⟨fs, sm, hD, hl, hf, hsl⟩ := iv.out
      obtain ⟨cc, ec, dc⟩ := dps_get dcs ex
      obtain ⟨a2, u2, rfl, hs2, du⟩ := col_at (Dp.kp (Same.kp sm) _ _ (tO_col cc) dc)
      obtain ⟨a4, ks, rfl, hs4, hb⟩ := kd_at du
      have hi : i < cs.length := (List.getElem?_eq_some_iff.mp ec).1
      walk_at "st"
      refine ⟨_, _, _, _, rfl, rfl, hs2, atI_nat (j := 1) rfl, ?_⟩
      walk_at "st"
      refine ⟨_, _, _, _, rfl, rfl, hs4, atI_nat (j := 0) rfl, ?_⟩
      walk_at "st"
      refine ite2 (fun e => ?_) (fun e => ?_)
      · obtain ⟨k, ek⟩ := wk_int (dstr e)
        walk_at "st"
        refine ⟨_, _, _, _, rfl, rfl, hs2, atI_nat (j := 0) rfl, ?_⟩
        refine ⟨_, hD, small1000 (by simp; omega), .a ⟨fs ++ [cc.1], Same.upd' sm nL, ?_, ?_, ?_, ?_⟩⟩
        · rw [upd_same, List.map_append]; rfl
        · simp; omega
        · intro n h
          rcases List.mem_append.mp h with h | h
          · exact hf n h
          · cases List.mem_singleton.mp h
            exact ⟨k, by rw [← ek]; exact List.mem_of_getElem? ec⟩
        · rw [take_more ec, List.map_append]
          exact List.Sublist.append hsl (List.Sublist.refl _)
      · walk_at "st"
        refine .a ⟨fs, sm, hD, by omega, hf, ?_⟩
        rw [take_more ec, List.map_append]
        exact hsl.trans (List.sublist_append_left _ _)
    · intro H1 iv
      obtain ⟨fs, sm, hL, hl, hf, hsl⟩ := iv.out
      have fnd : fs.Nodup := by
        have : (cs.take (ps.map V.ref).length).map (·.1) = cs.map (·.1) := by rw [List.take_of_length_le (by simp; omega)]
        rw [this] at hsl
        exact ok.nd.sublist hsl
      have T1 := hT.same sm
      walk_at "st"
      intro M nM
      have offM := T1.off nM
      have lM : L ≠ M := ne_of_none hL nM
      have T2 := T1.new (o := .lst []) nM
      have nMH : H M = none := Same.none sm nM
      walk_at "st"
      intro H3 r f3 T3 r0 r1
      have f13 : Fz t.a H H3 := ((Fz.of sm).new nM).trans f3
      have hL3 := f3 L _ offL.a (by rw [upd_ne lM]; exact hL)
      have hM3 := f3 M _ offM.a upd_same
      have hr : r < 12 := by omega
      walk_at "st"
      refine for_range (fun i σ H' => Iv (∃ (ts : List Tm) (ps : List Addr) (fs : List S) (n : Int) (y y6 y7 y8 : Option V), σ = [some (.ref t.a), some (.ref ca), some (.ref L), some (.ref M), some (.int n), y, y6, y7, y8] ∧ Sit K H H' t L M ts ps fs ∧ StI cs ts fs n i))
        (.a ⟨[], [], fs, _, _, _, _, _, rfl, ⟨f13, T3, hL3, hM3, .nil⟩, ⟨fun z => absurd z (by decide), by simp, by simp, rfl, by decide, by simp, by simp, by simp, hf, fnd, by simp, by simp at hl; omega⟩⟩) ?_ ?_
      · rintro i σ H' hi iv
        obtain ⟨ts, ps, fs, n, y, y6, y7, y8, rfl, st, si⟩ := iv.out
        walk_at "st"
        intro l3 n3
        have st1 := st.new (o := .lst [.str "+", .str "-"]) n3
        have off3 := st.tp.off n3
        have st1t := st1.tp
        walk_at "st"
        intro H4 r4 f4 T4 r40 r41
        have st4 := st1.fzn f4 T4 offL offM
        obtain ⟨sx, es, ms⟩ := pickT (ss := ["+", "-"]) (i := r4) r40 (by simp; omega)
        obtain ⟨pl9, rfl⟩ : ∃ x, sx = sgS x := by
          simp only [List.mem_cons, List.not_mem_nil, or_false] at ms
          rcases ms with rfl | rfl
          · exact ⟨true, rfl⟩
          · exact ⟨false, rfl⟩
        refine ⟨_, _, _, _, rfl, rfl, .of (f4 l3 _ off3.a upd_same), es, ?_⟩
        walk_at "st"
        refine meet (fun σ H2 => ∃ pl, σ = [some (.ref t.a), some (.ref ca), some (.ref L), some (.ref M), some (.int n), some (.int (0 + (i : Int))), some (.str (sgS pl)), y7, y8] ∧ Sit K H H2 t L M ts ps fs ∧ (i = 0 → pl = true)) ?_ (fun rest e => ?_) (fun e => ?_)
        · rintro σ H2 ⟨pl, rfl, st4, hpl⟩
          have T4 := st4.tp
          walk_at "st"
          intro H5 j f5 T5 hj
          have st5 := st4.fzn f5 T5 offL offM
          walk_at "st"
          intro p5 n5
          have st6 := st5.new (o := .tup [.str "integer", .int (if j < 0 then -j else j)]) n5
          walk_at "st"
          refine meet (fun σ H2 => ∃ p j, σ = [some (.ref t.a), some (.ref ca), some (.ref L), some (.ref M), some (.int n), some (.int (0 + (i : Int))), some (.str (sgS pl)), some (.ref p), y8] ∧ Sit K H H2 t L M ts ps fs ∧ SqT K H2 p [.str "integer", .int j] ∧ (-1000000 ≤ j ∧ j ≤ 1000000) ∧ (if pl then 0 ≤ j else j ≤ 0)) ?_ (fun rest e => ?_) (fun e => ?_)
          · rintro σ H6 ⟨p7, j, rfl, st7, hs7, hj7, sg7⟩
            have nx7 : Nxt cs ts fs pl (.num j) := ⟨hj7, fun k z => by injection z with z; rw [← z]; exact sg7, fun m z => by cases z⟩
            have si7 := si
            have dv7 := op_dp (o := .num j) hs7
            have T7 := st7.tp
            have st7l := st7.l
            walk_at "st"
            cases fs with
            | nil =>
              let o7 : Op := .num j
              let fs7 : List S := []
              refine ⟨false, .inl ⟨_, .of st7l, rfl⟩, ?_⟩
              walk_at "st"
              refine ⟨_, _, o7, cs, false, rfl, dv7, hc.kp (st7.fz.kp hT), ok, nx7.ok, ?_⟩
              intro H8 s8
              have st8 := st7.sm s8
              have dv8 := Dp.kp (Same.kp s8) _ _ (tO_op o7) dv7
              have bl := opBound_le (o := o7) ok nx7.ok
              walk_at "st"
              refine ite2 (fun e8 => ?_) (fun e8 => ?_)
              · have le8 : n + opBound cs o7 ≤ 1000000000000 := by
                  have := of_decide_eq_true e8
                  rw [e12] at this
                  exact this
                walk_at "st"
                refine ⟨_, _, o7, cs, false, rfl, dv8, hc.kp (st8.fz.kp hT), ok, nx7.ok, ?_⟩
                intro H9 s9
                have st9 := st8.sm s9
                have dv9 := Dp.kp (Same.kp s9) _ _ (tO_op o7) dv8
                have st9m := st9.m
                walk_at "st"
                refine ⟨.inl ⟨rfl, _, .of st9m⟩, ?_⟩
                walk_at "st"
                intro p10 n10
                have m10 : M ≠ p10 := ne_of_none st9m n10
                have l10 : L ≠ M := lM
                have st10 := st9.new (o := .tup [.str (sgS pl), .ref p7]) n10
                have st10m := st10.m
                have tl := si7.len
                have lps : ps.length = ts.length := by
                  have := st10.dp.len
                  simpa using this
                refine ⟨_, _, _, rfl, rfl, st10m, small1000 (by simp <;> omega), ?_⟩
                refine .a ⟨ts ++ [⟨pl, o7⟩], ps ++ [p10], fs7, _, _, _, _, _, rfl, ⟨?_, ?_, ?_, ?_, ?_⟩, si7.add nx7 hpl le8⟩
                · exact st10.fz.upd' nMH
                · exact st10.tp.upd offM
                · rw [upd_ne lM]; exact st10.l
                · rw [upd_same, List.map_append]; rfl
                · have kq : Kp H9 (upd (upd H9 p10 (.tup [.str (sgS pl), .ref p7])) M (.lst (ps.map V.ref ++ [.ref p10]))) := (Kp.new n10).trans (Kp.upd st10m)
                  rw [List.map_append, List.map_append]
                  refine DpAll.app (DpAll.kp kq _ _ (tO_tms ts) st9.dp) (.cons (.tup (.of ?_) (.cons (.str _) (.cons (Dp.kp kq _ _ (tO_op o7) dv9) .nil))) .nil)
                  rw [upd_ne m10.symm, upd_same]
              · have nle : ¬ n + opBound cs o7 ≤ 1000000000000 := fun z => e8 (decide_eq_true (by rw [e12]; exact z))
                have tne : ts ≠ [] := by
                  intro z
                  have := si7.sum
                  rw [z] at this
                  have : n = 0 := this.symm
                  omega
                walk_at "st"
                exact .a ⟨ts, ps, fs7, _, _, _, _, _, rfl, st8, si7.same tne⟩
            | cons f0 fr =>
              refine ⟨true, .inl ⟨_, .of st7l, rfl⟩, ?_⟩
              walk_at "st"
              intro H8 r8 f8 T8 r80 r81
              have st7 := st7.fzn f8 T8 offL offM
              have hs7 := (f8.kp T7).sqT hs7
              have dv7 := op_dp (o := .num j) hs7
              have T7 := st7.tp
              have st7l := st7.l
              walk_at "st"
              refine ite2 (fun e0 => ?_) (fun e0 => ?_)
              · walk_at "st"
                refine ⟨.inl ⟨rfl, _, .of st7l⟩, ?_⟩
                walk_at "st"
                refine ⟨_, _, rfl, .inl (.of st7l), ?_⟩
                rw [List.length_map]
                have few := si.few
                walk_at "st"
                intro H9 r9 f9 T9 r90 r91
                have st9 := st7.fzn f9 T9 offL offM
                have rl : r9 < ((f0 :: fr).length : Int) := by
                  simp only [List.length_cons] at r91 ⊢
                  omega
                have rl2 : r9.toNat < (f0 :: fr).length := by omega
                have gf : (f0 :: fr)[r9.toNat]? = some (f0 :: fr)[r9.toNat] := List.getElem?_eq_getElem rl2
                refine ⟨L, _, r9, r9.toNat, .str (f0 :: fr)[r9.toNat], rfl, rfl, st9.l, by omega, by omega, pick_ix r90 (by rw [List.length_map]; exact rl), by rw [List.getElem?_map, gf]; rfl, ?_⟩
                have kL : Kp H9 (upd H9 L (.lst (((f0 :: fr).map V.str).eraseIdx r9.toNat))) := Kp.upd st9.l
                have st11 : Sit K H (upd H9 L (.lst (((f0 :: fr).map V.str).eraseIdx r9.toNat))) t L M ts ps ((f0 :: fr).eraseIdx r9.toNat) := by
                  refine ⟨st9.fz.upd' nL, st9.tp.upd offL, ?_, ?_, DpAll.kp kL _ _ (tO_tms ts) st9.dp⟩
                  · rw [upd_same, map_erase]
                  · rw [upd_ne lM.symm]; exact st9.m
                walk_at "st"
                intro p7 n7
                let o7 : Op := .col (f0 :: fr)[r9.toNat]
                let fs7 : List S := (f0 :: fr).eraseIdx r9.toNat
                have fm : (f0 :: fr)[r9.toNat] ∈ f0 :: fr := List.getElem_mem rl2
                have si7 : StI cs ts fs7 n i := si.less _
                have nx7 : Nxt cs ts fs7 pl o7 := ⟨si.left _ fm, (fun k z => absurd (show Op.col _ = Op.num k from z) (by simp)), (fun m z => by have z := (show Op.col _ = Op.col m from z); injection z with z; rw [← z]; exact ⟨erase_out si.fnd gf, si.apart _ fm⟩)⟩
                have st7 := st11.new (o := .tup [.str "column", .str (f0 :: fr)[r9.toNat]]) n7
                have dv7 : Dp K (upd (upd H9 L (.lst (((f0 :: fr).map V.str).eraseIdx r9.toNat))) p7 (.tup [.str "column", .str (f0 :: fr)[r9.toNat]])) (.ref p7) o7.d := op_dp (o := o7) (.of upd_same)
                walk_at "st"
                refine ⟨_, _, o7, cs, false, rfl, dv7, hc.kp (st7.fz.kp hT), ok, nx7.ok, ?_⟩
                intro H8 s8
                have st8 := st7.sm s8
                have dv8 := Dp.kp (Same.kp s8) _ _ (tO_op o7) dv7
                have bl := opBound_le (o := o7) ok nx7.ok
                walk_at "st"
                refine ite2 (fun e8 => ?_) (fun e8 => ?_)
                · have le8 : n + opBound cs o7 ≤ 1000000000000 := by
                    have := of_decide_eq_true e8
                    rw [e12] at this
                    exact this
                  walk_at "st"
                  refine ⟨_, _, o7, cs, false, rfl, dv8, hc.kp (st8.fz.kp hT), ok, nx7.ok, ?_⟩
                  intro H9 s9
                  have st9 := st8.sm s9
                  have dv9 := Dp.kp (Same.kp s9) _ _ (tO_op o7) dv8
                  have st9m := st9.m
                  walk_at "st"
                  refine ⟨.inl ⟨rfl, _, .of st9m⟩, ?_⟩
                  walk_at "st"
                  intro p10 n10
                  have m10 : M ≠ p10 := ne_of_none st9m n10
                  have l10 : L ≠ M := lM
                  have st10 := st9.new (o := .tup [.str (sgS pl), .ref p7]) n10
                  have st10m := st10.m
                  have tl := si7.len
                  have lps : ps.length = ts.length := by
                    have := st10.dp.len
                    simpa using this
                  refine ⟨_, _, _, rfl, rfl, st10m, small1000 (by simp <;> omega), ?_⟩
                  refine .a ⟨ts ++ [⟨pl, o7⟩], ps ++ [p10], fs7, _, _, _, _, _, rfl, ⟨?_, ?_, ?_, ?_, ?_⟩, si7.add nx7 hpl le8⟩
                  · exact st10.fz.upd' nMH
                  · exact st10.tp.upd offM
                  · rw [upd_ne lM]; exact st10.l
                  · rw [upd_same, List.map_append]; rfl
                  · have kq : Kp H9 (upd (upd H9 p10 (.tup [.str (sgS pl), .ref p7])) M (.lst (ps.map V.ref ++ [.ref p10]))) := (Kp.new n10).trans (Kp.upd st10m)
                    rw [List.map_append, List.map_append]
                    refine DpAll.app (DpAll.kp kq _ _ (tO_tms ts) st9.dp) (.cons (.tup (.of ?_) (.cons (.str _) (.cons (Dp.kp kq _ _ (tO_op o7) dv9) .nil))) .nil)
                    rw [upd_ne m10.symm, upd_same]
                · have nle : ¬ n + opBound cs o7 ≤ 1000000000000 := fun z => e8 (decide_eq_true (by rw [e12]; exact z))
                  have tne : ts ≠ [] := by
                    intro z
                    have := si7.sum
                    rw [z] at this
                    have : n = 0 := this.symm
                    omega
                  walk_at "st"
                  exact .a ⟨ts, ps, fs7, _, _, _, _, _, rfl, st8, si7.same tne⟩
              · let o7 : Op := .num j
                let fs7 : List S := f0 :: fr
                walk_at "st"
                refine ⟨_, _, o7, cs, false, rfl, dv7, hc.kp (st7.fz.kp hT), ok, nx7.ok, ?_⟩
                intro H8 s8
                have st8 := st7.sm s8
                have dv8 := Dp.kp (Same.kp s8) _ _ (tO_op o7) dv7
                have bl := opBound_le (o := o7) ok nx7.ok
                walk_at "st"
                refine ite2 (fun e8 => ?_) (fun e8 => ?_)
                · have le8 : n + opBound cs o7 ≤ 1000000000000 := by
                    have := of_decide_eq_true e8
                    rw [e12] at this
                    exact this
                  walk_at "st"
                  refine ⟨_, _, o7, cs, false, rfl, dv8, hc.kp (st8.fz.kp hT), ok, nx7.ok, ?_⟩
                  intro H9 s9
                  have st9 := st8.sm s9
                  have dv9 := Dp.kp (Same.kp s9) _ _ (tO_op o7) dv8
                  have st9m := st9.m
                  walk_at "st"
                  refine ⟨.inl ⟨rfl, _, .of st9m⟩, ?_⟩
                  walk_at "st"
                  intro p10 n10
                  have m10 : M ≠ p10 := ne_of_none st9m n10
                  have l10 : L ≠ M := lM
                  have st10 := st9.new (o := .tup [.str (sgS pl), .ref p7]) n10
                  have st10m := st10.m
                  have tl := si7.len
                  have lps : ps.length = ts.length := by
                    have := st10.dp.len
                    simpa using this
                  refine ⟨_, _, _, rfl, rfl, st10m, small1000 (by simp <;> omega), ?_⟩
                  refine .a ⟨ts ++ [⟨pl, o7⟩], ps ++ [p10], fs7, _, _, _, _, _, rfl, ⟨?_, ?_, ?_, ?_, ?_⟩, si7.add nx7 hpl le8⟩
                  · exact st10.fz.upd' nMH
                  · exact st10.tp.upd offM
                  · rw [upd_ne lM]; exact st10.l
                  · rw [upd_same, List.map_append]; rfl
                  · have kq : Kp H9 (upd (upd H9 p10 (.tup [.str (sgS pl), .ref p7])) M (.lst (ps.map V.ref ++ [.ref p10]))) := (Kp.new n10).trans (Kp.upd st10m)
                    rw [List.map_append, List.map_append]
                    refine DpAll.app (DpAll.kp kq _ _ (tO_tms ts) st9.dp) (.cons (.tup (.of ?_) (.cons (.str _) (.cons (Dp.kp kq _ _ (tO_op o7) dv9) .nil))) .nil)
                    rw [upd_ne m10.symm, upd_same]
                · have nle : ¬ n + opBound cs o7 ≤ 1000000000000 := fun z => e8 (decide_eq_true (by rw [e12]; exact z))
                  have tne : ts ≠ [] := by
                    intro z
                    have := si7.sum
                    rw [z] at this
                    have : n = 0 := this.symm
                    omega
                  walk_at "st"
                  exact .a ⟨ts, ps, fs7, _, _, _, _, _, rfl, st8, si7.same tne⟩
          · have ep : pl = false := by
              cases pl
              · rfl
              · exact absurd (dstr e) (by decide)
            subst ep
            walk_at "st"
            refine ⟨_, _, _, _, rfl, rfl, .of upd_same, atI_nat (j := 1) rfl, ?_⟩
            walk_at "st"
            intro p6 n6
            refine rest _ _ ⟨p6, _, rfl, st6.new n6, .of upd_same, ?_, ?_⟩
            · split <;> omega
            · show (-(if j < 0 then -j else j)) ≤ 0
              split <;> omega
          · have ep : pl = true := by
              cases pl
              · exact absurd (decide_eq_true rfl) e
              · rfl
            subst ep
            refine ⟨p5, _, rfl, st6, .of upd_same, ?_, ?_⟩
            · split <;> omega
            · show 0 ≤ (if j < 0 then -j else j)
              split <;> omega
        · exact rest _ _ ⟨true, rfl, st4, fun _ => rfl⟩
        · refine ⟨pl9, rfl, st4, fun z => ?_⟩
          subst z
          exact absurd (decide_eq_true rfl) e
      · rintro σ H' iv
        obtain ⟨ts, ps, fs, n, y, y6, y7, y8, rfl, st, si⟩ := iv.out
        walk_at "st"
        have stm := st.m
        refine ⟨_, _, rfl, .inl ⟨.of stm, ?_⟩⟩
        intro l9 n9
        have out := si.out ⟨by omega, by omega⟩
        exact q _ _ ts (st.fz.new n9) (st.tp.new n9) (.tup (.inl (.inl upd_same)) (DpAll.kp (Kp.new n9) _ _ (tO_tms ts) st.dp)) out.1 out.2
end
end Ind

set_option Elab.async false
set_option linter.all false
set_option maxRecDepth 100000
set_option maxHeartbeats 4000000
namespace Ind
open PySem PySem.Spec PyProof.Rows L2
local macro_rules | `(tactic| walk_at "cn") => `(tactic| first
  | assumption
  | omega
  | exact dm (by omega)
  | exact line (by simp)
  | exact line (by simp only [len_app, len_one]; omega)
  | exact small_div (by omega) (by omega)
  | solve_by_elim
  | exact Or.inr ⟨by omega, by omega⟩
  | exact Or.inl ⟨by omega, by omega⟩
  | exact ⟨by omega, by omega⟩
  | decide)
local macro_rules | `(tactic| walk_at "st") => `(tactic| repeat (first
  | refine ⟨_, rfl, ?_⟩
  | refine ⟨_, _, rfl, rfl, ?_⟩
  | refine ⟨_, _, rfl, ?_⟩
  | refine .inl ⟨_, rfl, ?_⟩
  | refine And.intro rfl ?_
  | refine And.intro (by walk_at "cn") ?_))
local macro_rules | `(tactic| walk_at "fz") => `(tactic| repeat (first | exact Fz.refl | apply Fz.upd))
local macro_rules | `(tactic| walk_at "hl") => `(tactic| ((repeat rw [upd_ne (by assumption)]); assumption))

section
variable {P : Program} {w : World} {K : PySem.W.Frag} {mg : Str → Option Value} {base : Heap}
theorem ok__law_farthest (T : Txt K mg) : FnOk P w K mg base CX0 4 T.a__law_farthest T.d__law_farthest ["tape", "columns", "expression"] (spFarthest K) := by
  have G__law_value := ok__law_value (P := P) (w := w) (base := base) T
  refine T.F__law_farthest.ok sc__law_farthest (fun vs H Q E h => ?_) (fun cdv A outer s H vs Q E hr h => ?_)
  · obtain ⟨t, c, e, cs, ts, rfl, hT, hc, ok, de, ex, tl, q⟩ := h
    rfl
  · obtain ⟨t, c, e, cs, ts, rfl, hT, hc, ok, de, ex, tl, q⟩ := h
    refine ⟨_, (pss_cons (ps_set (i := 3) sc__law_farthest.nd rfl (.inl rfl) (pe_lst pa_nil))
      (pss_cons (ps_for PassesOwn.never rfl (pi_tup (pv 1)) (pg_name (i := 4) sc__law_farthest.nd rfl (.inl rfl))
      (pss_cons (ps_set (i := 5) sc__law_farthest.nd rfl (.inl rfl) (pe_call G__law_value hr (by rfl) T.g__law_value T.F__law_value.kp T.b__law_value .nil pass0 (pa_cons (pv 0) (pa_cons (pe_ix ix_tup (pv 4) pe_int (fun _ _ => rfl)) pa_nil))))
      (pss_cons (ps_for PassesOwn.never rfl (pi_tup (pv 2)) (pg_name (i := 6) sc__law_farthest.nd rfl (.inl rfl))
      (pss_one (ps_if (pt_cmpR (op_eqD hr.units) (pe_ix ix_tup (pv 6) pe_int (fun _ _ => rfl)) (pe_tup (pa_cons pe_str (pa_cons (pe_ix ix_tup (pv 4) pe_int (fun _ _ => rfl)) pa_nil))) (nomark _)) (pss_cons (ps_set (i := 5) sc__law_farthest.nd rfl (.inl rfl) (pe_ix ix_tup (pe_ix ix_tup (pv 4) pe_int (fun _ _ => rfl)) pe_int (fun _ _ => rfl)))
      (pss_one (ps_if (pt_cmpR op_eq (pe_ix ix_tup (pv 6) pe_int (fun _ _ => rfl)) pe_str (nomark _)) (pss_one (ps_set (i := 5) sc__law_farthest.nd rfl (.inl rfl) (pe_un un_neg (pe_ix ix_tup (pe_ix ix_tup (pv 4) pe_int (fun _ _ => rfl)) pe_int (fun _ _ => rfl))))) pss_nil))) pss_nil)))
      (pss_one (ps_expr (pe_bm PySem.F.plainAttrs_list PySem.F.slot_list_append PySem.F.type_list_append mt_append (pv 3) (pa_cons (pv 5) pa_nil)))))))
      (pss_one (ps_ret (pe_callTy call_tuple_of (by rfl) T.z_tuple boot_tuple (pa_cons (pv 3) pa_nil)))))), ?_⟩
    obtain ⟨ca, ps, rfl, hcs, dcs⟩ := hc.tup
    obtain ⟨ea, es, rfl, hes, des⟩ := de.tup_inv
    have les : es.length = ts.length := by
      have := des.len
      simpa using this
    have lps : ps.length = cs.length := by
      have := dcs.len
      simpa using this
    have l10 := ok.len
    walk_at "st"
    intro R nR
    have offR := hT.off nR
    walk_at "st"
    refine And.intro ⟨_, (Kp.new nR).sqT hcs⟩ ?_
    refine for_tup (xs := ps.map V.ref) (fun i σ H' => Iv (∃ (us vs : List V) (y4 y5 y6 : Option V), σ = [some (.ref t.a), some (.ref ca), some (.ref ea), some (.ref R), y4, y5, y6] ∧ Fz t.a H H' ∧ TapeAt H' t ∧ H' R = some (.lst vs) ∧ RowIn (cs.take i) us ∧ vs = ((cs.take i).zip us).map (fun p => farVal ts p.1 p.2)))
      (.a ⟨[], [], _, _, _, rfl, Fz.refl.new nR, hT.new nR, upd_same, .nil, rfl⟩) ?_ ?_ ?_
    · intro i σ H' hi iv
      obtain ⟨us, vs, y4, y5, y6, rfl, f1, T1, hR, ri, ev⟩ := iv.out
      exact (f1.kp hT).sqT hcs
    · intro i x σ H' hx iv
      obtain ⟨us, vs, y4, y5, y6, rfl, f1, T1, hR, ri, ev⟩ := iv.out
      obtain ⟨cc, ec, dc⟩ := dps_get dcs hx
      have dc1 := Dp.kp (f1.kp hT) _ _ (tO_col cc) dc
      obtain ⟨a2, u2, rfl, hs2, du⟩ := col_at dc1
      have hi : i < cs.length := (List.getElem?_eq_some_iff.mp ec).1
      have mc := List.mem_of_getElem? ec
      walk_at "st"
      refine ⟨_, _, _, _, rfl, rfl, hs2, atI_nat (j := 1) rfl, ?_⟩
      refine ⟨t, u2, cc.2, rfl, T1, du, ok.kd _ mc, ?_⟩
      intro H2 u f2 T2 hu
      have f12 := f1.trans f2
      have hs2 := (f2.kp T1).sqT hs2
      have du2 := Dp.kp (f2.kp T1) _ _ (tO_kd cc.2) du
      obtain ⟨a4, ks, rfl, hs4, hb⟩ := kd_at du2
      have hR2 := f2 R _ offR.a hR
      walk_at "st"
      refine And.intro ⟨_, (f12.kp hT).sqT hes⟩ ?_
      refine for_tup (xs := es) (fun j σ H' => Iv (∃ (y6 : Option V), σ = [some (.ref t.a), some (.ref ca), some (.ref ea), some (.ref R), some (.ref a2), some (farVal (ts.take j) cc u), y6] ∧ Same H2 H'))
        (.a ⟨_, rfl, fun _ _ h => h⟩) ?_ ?_ ?_
      · intro j σ H' hj iv
        obtain ⟨y6, rfl, sm⟩ := iv.out
        exact (Same.kp sm).sqT ((f12.kp hT).sqT hes)
      · intro j x σ H3 hxj iv
        obtain ⟨y6, rfl, sm⟩ := iv.out
        obtain ⟨tm, et, dt⟩ := dps_get des hxj
        have k3 := (f12.kp hT).trans (Same.kp sm)
        obtain ⟨a5, u5, rfl, hs5, du5⟩ := tm_at (Dp.kp k3 _ _ (tO_tm tm) dt)
        have hs2 := (Same.kp sm).sqT hs2
        have hs4 := (Same.kp sm).sqT hs4
        have oo := ex.ops tm (List.mem_of_getElem? et)
        walk_at "st"
        refine ⟨_, _, _, _, rfl, rfl, hs5, atI_nat (j := 1) rfl, ?_⟩
        walk_at "st"
        refine ⟨_, _, _, _, rfl, rfl, hs2, atI_nat (j := 0) rfl, ?_⟩
        walk_at "st"
        intro p6 n6
        have kn := Kp.new (o := .tup [.str "column", .str cc.1]) n6
        refine ⟨tm.op.d, (Op.col cc.1).d, Dp.kp kn _ _ (tO_op _) du5, op_dp (o := .col cc.1) (.of upd_same), op_shaped ok oo, shape_col (ok.nm _ mc), ?_⟩
        have sm2 := sm.trans (same_upd (o := .tup [.str "column", .str cc.1]) n6)
        have hs2 := kn.sqT hs2
        have hs4 := kn.sqT hs4
        have hs5 := kn.sqT hs5
        refine ⟨_, rfl, ?_⟩
        refine ite2 (fun e1 => ?_) (fun e1 => ?_)
        · have e1 := (op_eqv _ _).mp e1
          obtain ⟨b, hbb⟩ : ∃ b, cc.2 = some b := by
            rw [e1] at oo
            obtain ⟨b, hb2⟩ := (show ∃ b, (cc.1, some b) ∈ cs from oo)
            exact ⟨b, col_uniq ok.nd mc hb2⟩
          cases hb b hbb
          walk_at "st"
          refine ⟨_, _, _, _, rfl, rfl, hs2, atI_nat (j := 1) rfl, ?_⟩
          walk_at "st"
          refine ⟨_, _, _, _, rfl, rfl, hs4, atI_nat (j := 1) rfl, ?_⟩
          walk_at "st"
          refine ⟨_, _, _, _, rfl, rfl, hs5, atI_nat (j := 0) rfl, ?_⟩
          walk_at "st"
          refine ite2 (fun e2 => ?_) (fun e2 => ?_)
          · have ep : tm.plus = false := by
              cases h : tm.plus
              · rfl
              · rw [h] at e2; exact absurd (dstr e2) (by decide)
            walk_at "st"
            refine ⟨_, _, _, _, rfl, rfl, hs2, atI_nat (j := 1) rfl, ?_⟩
            walk_at "st"
            refine ⟨_, _, _, _, rfl, rfl, hs4, atI_nat (j := 1) rfl, ?_⟩
            walk_at "st"
            refine .a ⟨some (.ref a5), ?_, sm2⟩
            rw [far_more et, far_hit e1 hbb, ep]
            rfl
          · have ep : tm.plus = true := by
              cases h : tm.plus
              · rw [h] at e2; exact absurd (decide_eq_true rfl) e2
              · rfl
            walk_at "st"
            refine .a ⟨some (.ref a5), ?_, sm2⟩
            rw [far_more et, far_hit e1 hbb, ep]
            rfl
        · walk_at "st"
          refine .a ⟨some (.ref a5), ?_, sm2⟩
          rw [far_more et, far_miss (fun z => e1 ((op_eqv _ _).mpr z))]
          rfl
      · intro σ H3 iv
        obtain ⟨y6, rfl, sm⟩ := iv.out
        rw [les, List.take_of_length_le (Nat.le_refl _)]
        have hR3 := sm _ _ hR2
        have lv : vs.length ≤ i := by
          rw [ev, List.length_map, List.length_zip, List.length_take]
          omega
        have T3 := T2.same sm
        have rl := ri.len
        walk_at "st"
        refine ⟨.inl ⟨rfl, _, .of hR3⟩, ?_⟩
        walk_at "st"
        refine ⟨_, _, _, rfl, rfl, hR3, small1000 (by omega), ?_⟩
        refine .a ⟨us ++ [u], vs ++ [farVal ts cc u], _, _, _, rfl, (f12.trans (Fz.of sm)).upd' nR, T3.upd offR, upd_same, ?_, ?_⟩
        · rw [take_more ec]
          exact ri.snoc hu
        · rw [take_more ec, List.zip_append rl.symm, List.map_append, ← ev]
          rfl
    · intro σ H' iv
      obtain ⟨us, vs, y4, y5, y6, rfl, f1, T1, hR, ri, ev⟩ := iv.out
      rw [List.length_map, lps, List.take_of_length_le (Nat.le_refl _)] at ri ev
      walk_at "st"
      refine ⟨_, _, rfl, .inl ⟨.of hR, ?_⟩⟩
      intro l9 n9
      exact q _ _ vs us (f1.new n9) (T1.new n9) ⟨l9, rfl, .inl (.inl upd_same)⟩ ri ev
end
end Ind

set_option Elab.async false
set_option linter.all false
set_option maxRecDepth 100000
set_option maxHeartbeats 4000000
namespace Ind
open PySem PySem.Spec PyProof.Rows L2
local macro_rules | `(tactic| walk_at "cn") => `(tactic| first
  | assumption
  | omega
  | exact dm (by omega)
  | exact line (by simp)
  | exact line (by simp only [len_app, len_one]; omega)
  | exact small_div (by omega) (by omega)
  | solve_by_elim
  | exact Or.inr ⟨by omega, by omega⟩
  | exact Or.inl ⟨by omega, by omega⟩
  | exact ⟨by omega, by omega⟩
  | decide)
local macro_rules | `(tactic| walk_at "st") => `(tactic| repeat (first
  | refine ⟨_, rfl, ?_⟩
  | refine ⟨_, _, rfl, rfl, ?_⟩
  | refine ⟨_, _, rfl, ?_⟩
  | refine .inl ⟨_, rfl, ?_⟩
  | refine And.intro rfl ?_
  | refine And.intro (by walk_at "cn") ?_))
local macro_rules | `(tactic| walk_at "fz") => `(tactic| repeat (first | exact Fz.refl | apply Fz.upd))
local macro_rules | `(tactic| walk_at "hl") => `(tactic| ((repeat rw [upd_ne (by assumption)]); assumption))

section
variable {P : Program} {w : World} {K : PySem.W.Frag} {mg : Str → Option Value} {base : Heap}
theorem ok__operand_kind (T : Txt K mg) : FnOk P w K mg base CX0 1 T.a__operand_kind T.d__operand_kind ["operand", "kinds"] (spOpKind K) := by
  refine T.F__operand_kind.ok sc__operand_kind (fun vs H Q E h => ?_) (fun cdv A outer s H vs Q E hr h => ?_)
  · obtain ⟨v, d, o, cs, b, rfl, dv, hd, ok, oo, q⟩ := h
    rfl
  · obtain ⟨v, d, o, cs, b, rfl, dv, hd, ok, oo, q⟩ := h
    refine ⟨_, (pss_cons (ps_asg (pv 0) (pg_tup rfl (pgs_cons (pg_name (i := 2) sc__operand_kind.nd rfl (.inl rfl)) (pgs_cons (pg_name (i := 3) sc__operand_kind.nd rfl (.inl rfl)) pgs_nil))))
      (pss_cons (ps_if (pt_cmpR op_eq (pv 2) pe_str (nomark _)) (pss_one (ps_ret (pe_tup (pa_cons pe_str (pa_cons (pe_callB call_abs (by rfl) T.z_abs boot_abs (pa_cons (pv 3) pa_nil)) pa_nil))))) pss_nil)
      (pss_cons (ps_if (pt_cmpR op_eq (pv 2) pe_str (nomark _)) (pss_one (ps_ret (pe_glob (v := .ref T.a_STRING) (by rfl) T.c_STRING rfl))) pss_nil)
      (pss_cons (ps_if (pt_cmp (pc_dnotin (hu_of hr) (pv 3) (pv 1)) (by rfl)) (pss_one ps_never) pss_nil)
      (pss_one (ps_ret (pe_dget (hu_of hr) (pv 1) (pv 3) (fun _ _ => rfl)))))))), ?_⟩
    obtain ⟨a, rfl, hs⟩ := op_at dv
    walk_at "st"
    refine ⟨_, _, rfl, hs, rfl, ?_⟩
    walk_at "st"
    refine ite2 (fun e => ?_) (fun e => ?_)
    · obtain ⟨i, rfl⟩ := word_int (dstr e)
      have eb : b = false := by
        cases b
        · rfl
        · exact (show False from oo).elim
      subst eb
      walk_at "st"
      intro p np
      exact q _ _ (same_upd np) (.tup (.of upd_same) (.cons (.str _) (.cons (.int _) .nil)))
    · walk_at "st"
      refine ite2 (fun e2 => ?_) (fun e2 => ?_)
      · obtain ⟨x, rfl⟩ := word_txt (dstr e2)
        have eb : b = true := by
          cases b
          · exact (show False from oo).elim
          · rfl
        subst eb
        walk_at "st"
        exact q _ _ (fun _ _ h => h) (.tup (T.q_STRING _) (.cons (.str _) .nil))
      · obtain ⟨n, rfl⟩ : ∃ n, o = .col n := by
          cases o with
          | col n => exact ⟨n, rfl⟩
          | num i => exact absurd (decide_eq_true rfl) e
          | txt x => exact absurd (decide_eq_true rfl) e2
        obtain ⟨kvs, hk, kv⟩ := hd
        obtain ⟨k, mk, ek⟩ : ∃ k, (n, k) ∈ cs ∧ k = opKd cs b (.col n) := by
          cases b with
          | true => exact ⟨none, oo, rfl⟩
          | false =>
            obtain ⟨z, hz⟩ := (show ∃ z, (n, some z) ∈ cs from oo)
            exact ⟨some z, hz, by rw [← opBound_mem ok.nd hz]; rfl⟩
        obtain ⟨u, eu, du⟩ := kv.get ok.nd mk
        have g : DGet H d (V.str n) (some u) := .inl ⟨kvs, .inr n, .inl hk, rfl, eu.symm⟩
        rw [ek] at du
        walk_at "st"
        refine ⟨_, _, rfl, g, ?_⟩
        walk_at "st"
        refine ⟨_, _, rfl, g, ?_⟩
        exact q _ _ (fun _ _ h => h) du
theorem ok__operand_value (T : Txt K mg) : FnOk P w K mg base CX0 1 T.a__operand_value T.d__operand_value ["operand", "names", "row"] (spOpValue K) := by
  refine T.F__operand_value.ok sc__operand_value (fun vs H Q E h => ?_) (fun cdv A outer s H vs Q E hr h => ?_)
  · obtain ⟨v, n, r, o, cs, vs, b, rfl, dv, oo, ok, ⟨na, no, rfl, hn, nod⟩, ⟨ra, rfl, hr2⟩, ri, q⟩ := h
    rfl
  · obtain ⟨v, n, r, o, cs, vs, b, rfl, dv, oo, ok, ⟨na, no, rfl, hn, nod⟩, ⟨ra, rfl, hr2⟩, ri, q⟩ := h
    refine ⟨_, (pss_cons (ps_asg (pv 0) (pg_tup rfl (pgs_cons (pg_name (i := 3) sc__operand_value.nd rfl (.inl rfl)) (pgs_cons (pg_name (i := 4) sc__operand_value.nd rfl (.inl rfl)) pgs_nil))))
      (pss_cons (ps_if (pt_cmpR op_eq (pv 3) pe_str (nomark _)) (pss_one (ps_ret (pe_ix ix_tup (pv 2) (pe_bmZ PySem.F.slot_tuple_index PySem.F.type_tuple_index mt_tindex (pv 1) (pa_cons (pv 4) pa_nil)) (fun _ _ => rfl)))) pss_nil)
      (pss_one (ps_ret (pv 4))))), ?_⟩
    obtain ⟨a, rfl, hs⟩ := op_at dv
    walk_at "st"
    refine ⟨_, _, rfl, hs, rfl, ?_⟩
    walk_at "st"
    refine ite2 (fun e => ?_) (fun e => ?_)
    · obtain ⟨n, rfl⟩ := word_col (dstr e)
      have mn := oo.mem
      walk_at "st"
      refine ⟨⟨_, _, _, rfl, hn, nod⟩, ?_⟩
      walk_at "st"
      refine ⟨_, cs.map (·.1), n, rfl, rfl, by rw [List.map_map]; exact .inl (.inr ⟨no, hn⟩), mn, ?_⟩
      refine ⟨_, _, _, _, rfl, rfl, hr2, atI_nat (row_at ri mn), ?_⟩
      exact q
    · walk_at "st"
      rw [← op_cont (cs := cs) (vs := vs) (fun n en => e (by rw [en]; exact decide_eq_true rfl))] at q
      exact q
theorem ok_evaluate (T : Txt K mg) : FnOk P w K mg base CX0 2 T.a_evaluate T.d_evaluate ["expression", "names", "row"] (spEval K) := by
  have G__operand_value := ok__operand_value (P := P) (w := w) (base := base) T
  refine T.F_evaluate.ok sc_evaluate (fun vs H Q E h => ?_) (fun cdv A outer s H vs Q E hr h => ?_)
  · obtain ⟨e, n, r, ts, cs, vs, b, rfl, de, ex, ok, hn, hr2, ri, q⟩ := h
    rfl
  · obtain ⟨e, n, r, ts, cs, vs, b, rfl, de, ex, ok, hn, hr2, ri, q⟩ := h
    refine ⟨_, (pss_cons (ps_if (pt_cmpR op_eq (pe_callB call_len_seq (by rfl) T.z_len boot_len (pa_cons (pv 0) pa_nil)) pe_int (nomark _)) (pss_one (ps_ret (pe_call G__operand_value hr (by rfl) T.g__operand_value T.F__operand_value.kp T.b__operand_value .nil pass0 (pa_cons (pe_ix ix_tup (pe_ix ix_tup (pv 0) pe_int (fun _ _ => rfl)) pe_int (fun _ _ => rfl)) (pa_cons (pv 1) (pa_cons (pv 2) pa_nil)))))) pss_nil)
      (pss_cons (ps_set (i := 3) sc_evaluate.nd rfl (.inl rfl) pe_int)
      (pss_cons (ps_for PassesOwn.never rfl (pi_tup (pv 0)) (pg_tup rfl (pgs_cons (pg_name (i := 4) sc_evaluate.nd rfl (.inl rfl)) (pgs_cons (pg_name (i := 5) sc_evaluate.nd rfl (.inl rfl)) pgs_nil)))
      (pss_cons (ps_set (i := 6) sc_evaluate.nd rfl (.inl rfl) (pe_call G__operand_value hr (by rfl) T.g__operand_value T.F__operand_value.kp T.b__operand_value .nil pass0 (pa_cons (pv 5) (pa_cons (pv 1) (pa_cons (pv 2) pa_nil)))))
      (pss_one (ps_if (pt_cmpR op_eq (pv 4) pe_str (nomark _)) (pss_one (ps_set (i := 3) sc_evaluate.nd rfl (.inl rfl) (pe_op op_add (pv 3) (pv 6)))) (pss_one (ps_set (i := 3) sc_evaluate.nd rfl (.inl rfl) (pe_op op_sub (pv 3) (pv 6))))))))
      (pss_one (ps_ret (pv 3)))))), ?_⟩
    obtain ⟨ea, es, rfl, hes, des⟩ := de.tup_inv
    have les : es.length = ts.length := by
      have := des.len
      simpa using this
    have tl := ex.len
    walk_at "st"
    refine ⟨_, _, rfl, .inr hes, ?_⟩
    walk_at "st"
    refine ite2 (fun e => ?_) (fun e => ?_)
    · have l1 : ts.length = 1 := by
        have := of_decide_eq_true e
        injection this with this
        omega
      obtain ⟨t0, rfl, ev⟩ := exVal_one (cs := cs) (vs := vs) l1
      obtain ⟨v0, e0, d0⟩ := des.get (i := 0) rfl
      obtain ⟨a2, u2, rfl, hs2, du⟩ := tm_at d0
      walk_at "st"
      refine ⟨_, _, _, _, rfl, rfl, hes, atI_nat (j := 0) e0, ?_⟩
      walk_at "st"
      refine ⟨_, _, _, _, rfl, rfl, hs2, atI_nat (j := 1) rfl, ?_⟩
      walk_at "st"
      refine ⟨_, _, _, t0.op, cs, vs, b, rfl, du, ex.ops t0 (by simp), ok, hn, hr2, ri, ?_⟩
      rw [ev] at q
      exact q
    · have l1 : ts.length ≠ 1 := fun z => e (decide_eq_true (by rw [les, z]; rfl))
      have eb : b = false := by
        cases b with
        | false => rfl
        | true => exact absurd (ex.one rfl) l1
      subst eb
      walk_at "st"
      refine for_tup (xs := es) (fun i σ H' => Iv (∃ (m : Int) (y4 y5 y6 : Option V), σ = [some (.ref ea), some n, some r, some (.int m), y4, y5, y6] ∧ m = ((ts.take i).map (tmVal cs vs)).sum ∧ H' = H))
        (.a ⟨_, _, _, _, rfl, rfl, rfl⟩) ?_ ?_ ?_
      · intro i σ H' hi iv
        obtain ⟨m, y4, y5, y6, rfl, em, rfl⟩ := iv.out
        exact hes
      · intro i x σ H' hx iv
        obtain ⟨m, y4, y5, y6, rfl, em, rfl⟩ := iv.out
        obtain ⟨tm, et, dt⟩ := dps_get des hx
        obtain ⟨a2, u2, rfl, hs2, du⟩ := tm_at dt
        have mt := List.mem_of_getElem? et
        obtain ⟨z, ez, _⟩ := op_int ok ri (ex.ops tm mt)
        walk_at "st"
        refine ⟨_, _, rfl, hs2, rfl, ?_⟩
        walk_at "st"
        refine ⟨_, _, _, tm.op, cs, vs, false, rfl, du, ex.ops tm mt, ok, hn, hr2, ri, ?_⟩
        rw [ez]
        walk_at "st"
        refine ite2 (fun e2 => ?_) (fun e2 => ?_)
        · have ep : tm.plus = true := by
            cases h : tm.plus
            · rw [h] at e2; exact absurd (dstr e2) (by decide)
            · rfl
          walk_at "st"
          refine .a ⟨_, _, _, _, rfl, ?_, rfl⟩
          rw [take_more et, List.map_append, List.sum_append, ← em, List.map_cons, List.map_nil, List.sum_cons, List.sum_nil]
          unfold tmVal
          rw [ep, ez]
          show m + z = _ + (z + 0)
          omega
        · have ep : tm.plus = false := by
            cases h : tm.plus
            · rfl
            · rw [h] at e2; exact absurd (decide_eq_true rfl) e2
          walk_at "st"
          refine .a ⟨_, _, _, _, rfl, ?_, rfl⟩
          rw [take_more et, List.map_append, List.sum_append, ← em, List.map_cons, List.map_nil, List.sum_cons, List.sum_nil]
          unfold tmVal
          rw [ep, ez]
          show m - z = _ + (-z + 0)
          omega
      · intro σ H' iv
        obtain ⟨m, y4, y5, y6, rfl, em, rfl⟩ := iv.out
        rw [les, List.take_of_length_le (Nat.le_refl _)] at em
        rw [exVal_many l1, ← em] at q
        walk_at "st"
        exact q
theorem ok_kind_of (T : Txt K mg) : FnOk P w K mg base CX0 2 T.a_kind_of T.d_kind_of ["expression", "columns"] (spKindOf K) := by
  have G__operand_kind := ok__operand_kind (P := P) (w := w) (base := base) T
  refine T.F_kind_of.ok sc_kind_of (fun vs H Q E h => ?_) (fun cdv A outer s H vs Q E hr h => ?_)
  · obtain ⟨e, c, ts, cs, b, rfl, de, hc, ok, ex, q⟩ := h
    rfl
  · obtain ⟨e, c, ts, cs, b, rfl, de, hc, ok, ex, q⟩ := h
    refine ⟨_, (pss_cons (ps_set (i := 2) sc_kind_of.nd rfl (.inl rfl) (pe_callTy (call_dictT rfl) (by rfl) T.z_dict boot_dict (pa_cons (pv 1) pa_nil)))
      (pss_cons (ps_if (pt_cmpR op_eq (pe_callB call_len_seq (by rfl) T.z_len boot_len (pa_cons (pv 0) pa_nil)) pe_int (nomark _)) (pss_one (ps_ret (pe_call G__operand_kind hr (by rfl) T.g__operand_kind T.F__operand_kind.kp T.b__operand_kind .nil pass0 (pa_cons (pe_ix ix_tup (pe_ix ix_tup (pv 0) pe_int (fun _ _ => rfl)) pe_int (fun _ _ => rfl)) (pa_cons (pv 2) pa_nil))))) pss_nil)
      (pss_cons (ps_set (i := 3) sc_kind_of.nd rfl (.inl rfl) pe_int)
      (pss_cons (ps_for PassesOwn.never rfl (pi_tup (pv 0)) (pg_tup rfl (pgs_cons (pg_name (i := 4) sc_kind_of.nd rfl (.inl rfl)) (pgs_cons (pg_name (i := 5) sc_kind_of.nd rfl (.inl rfl)) pgs_nil)))
      (pss_cons (ps_set (i := 6) sc_kind_of.nd rfl (.inl rfl) (pe_call G__operand_kind hr (by rfl) T.g__operand_kind T.F__operand_kind.kp T.b__operand_kind .nil pass0 (pa_cons (pv 5) (pa_cons (pv 2) pa_nil))))
      (pss_cons (ps_if (pt_cmpR (op_eqD hr.units) (pv 6) (pe_glob (v := .ref T.a_STRING) (by rfl) T.c_STRING rfl) (nomark _)) (pss_one ps_never) pss_nil)
      (pss_one (ps_aug (i := 3) sc_kind_of.nd rfl (.inl rfl) (pe_ix ix_tup (pv 6) pe_int (fun _ _ => rfl)) ip_add)))))
      (pss_cons (ps_if (pt_cmpR op_gt (pv 3) (pe_glob (v := .int 1000000000000) (by rfl) T.c_LARGEST_BOUND ⟨_, rfl⟩) (nomark _)) (pss_one ps_never) pss_nil)
      (pss_one (ps_ret (pe_tup (pa_cons pe_str (pa_cons (pv 3) pa_nil)))))))))), ?_⟩
    obtain ⟨ea, es, rfl, hes, des⟩ := de.tup_inv
    have les : es.length = ts.length := by
      have := des.len
      simpa using this
    have tl := ex.len
    obtain ⟨ca, co, ps, rfl, hca, cod, dcs⟩ := hc
    obtain ⟨kvs, hp, kv⟩ := cols_kvs cs ps dcs
    have knd : ((kvs).map (·.1)).Nodup := by
      rw [kv.keys]
      have := ok.nd
      rw [List.nodup_iff_pairwise_ne, List.pairwise_map] at this ⊢
      exact this.imp fun h e => h (by injection e)
    walk_at "st"
    refine ⟨ca, co, ps, kvs, rfl, hca, cod, hp, ?_⟩
    intro d nd
    rw [show mergeK [] kvs = kvs from merge_new kvs [] (by simpa using knd)]
    have s1 : Same H (upd H d (.dK kvs)) := same_upd nd
    have hd : DictAt K (upd H d (.dK kvs)) d cs := ⟨kvs, upd_same, kv.kp (Same.kp s1)⟩
    have hes1 := (Same.kp s1).sqT hes
    walk_at "st"
    refine ⟨_, _, rfl, .inr hes1, ?_⟩
    walk_at "st"
    refine ite2 (fun e => ?_) (fun e => ?_)
    · have l1 : ts.length = 1 := by
        have := of_decide_eq_true e
        injection this with this
        omega
      obtain ⟨t0, rfl, ev⟩ := exVal_one (cs := cs) (vs := []) l1
      obtain ⟨v0, e0, d0⟩ := des.get (i := 0) rfl
      obtain ⟨a2, u2, rfl, hs2, du⟩ := tm_at d0
      walk_at "st"
      refine ⟨_, _, _, _, rfl, rfl, hes1, atI_nat (j := 0) e0, ?_⟩
      walk_at "st"
      refine ⟨_, _, _, _, rfl, rfl, (Same.kp s1).sqT hs2, atI_nat (j := 1) rfl, ?_⟩
      walk_at "st"
      refine ⟨_, _, t0.op, cs, b, rfl, Dp.kp (Same.kp s1) _ _ (tO_op _) du, hd, ok, ex.ops t0 (by simp), ?_⟩
      intro H' u s2 du2
      refine q _ _ (s1.trans s2) ?_
      have : exKd cs b [t0] = opKd cs b t0.op := by
        unfold exKd opKd
        simp
      rw [this]
      exact du2
    · have l1 : ts.length ≠ 1 := fun z => e (decide_eq_true (by rw [les, z]; rfl))
      have eb : b = false := by
        cases b with
        | false => rfl
        | true => exact absurd (ex.one rfl) l1
      subst eb
      walk_at "st"
      refine for_tup (xs := es) (fun i σ H' => Iv (∃ (m : Int) (y4 y5 y6 : Option V), σ = [some (.ref ea), some (.ref ca), some (.ref d), some (.int m), y4, y5, y6] ∧ m = ((ts.take i).map fun t => opBound cs t.op).sum ∧ Same (upd H d (.dK kvs)) H'))
        (.a ⟨_, _, _, _, rfl, rfl, fun _ _ h => h⟩) ?_ ?_ ?_
      · intro i σ H' hi iv
        obtain ⟨m, y4, y5, y6, rfl, em, sm⟩ := iv.out
        exact (Same.kp sm).sqT hes1
      · intro i x σ H' hx iv
        obtain ⟨m, y4, y5, y6, rfl, em, sm⟩ := iv.out
        obtain ⟨tm, et, dt⟩ := dps_get des hx
        have k3 := (Same.kp s1).trans (Same.kp sm)
        obtain ⟨a2, u2, rfl, hs2, du⟩ := tm_at (Dp.kp k3 _ _ (tO_tm tm) dt)
        have mt := List.mem_of_getElem? et
        walk_at "st"
        refine ⟨_, _, rfl, hs2, rfl, ?_⟩
        walk_at "st"
        refine ⟨_, _, tm.op, cs, false, rfl, du, hd.same sm, ok, ex.ops tm mt, ?_⟩
        intro H5 u s5 du5
        have du5 : Dp K H5 u (kdD (some (opBound cs tm.op))) := du5
        obtain ⟨a4, ks, rfl, hs4, hb⟩ := kd_at du5
        cases hb _ rfl
        walk_at "st"
        refine ⟨kdD (some (opBound cs tm.op)), kdD none, du5, .tup (T.q_STRING _) (.cons (.str _) .nil), kd_shaped _, kd_shaped _, ?_⟩
        rw [kd_ne]
        refine ⟨_, rfl, ?_⟩
        refine if_not ?_
        walk_at "st"
        refine ⟨_, _, _, _, rfl, rfl, hs4, atI_nat (j := 1) rfl, ?_⟩
        walk_at "st"
        refine .a ⟨_, _, _, _, rfl, ?_, sm.trans s5⟩
        show m + opBound cs tm.op = _
        rw [take_more et, List.map_append, List.sum_append, List.map_cons, List.map_nil, List.sum_cons, List.sum_nil]
        omega
      · intro σ H' iv
        obtain ⟨m, y4, y5, y6, rfl, em, sm⟩ := iv.out
        rw [les, List.take_of_length_le (Nat.le_refl _)] at em
        have low := ex.sum
        rw [← em] at low
        walk_at "st"
        refine ite2 (fun e2 => ?_) (fun e2 => ?_)
        · have := of_decide_eq_true e2
          omega
        · walk_at "st"
          intro p np
          refine q _ _ ((s1.trans sm).trans (same_upd np)) ?_
          show Dp K _ _ (kdD (some (ts.map fun t => opBound cs t.op).sum))
          rw [← em]
          exact .tup (.of upd_same) (.cons (.str _) (.cons (.int _) .nil))
end
end Ind

set_option Elab.async false
set_option linter.all false
set_option maxRecDepth 100000
set_option maxHeartbeats 4000000
namespace Ind
open PySem PySem.Spec PyProof.Rows L2
local macro_rules | `(tactic| walk_at "cn") => `(tactic| first
  | assumption
  | omega
  | exact dm (by omega)
  | exact line (by simp)
  | exact line (by simp only [len_app, len_one]; omega)
  | exact small_div (by omega) (by omega)
  | solve_by_elim
  | exact Or.inr ⟨by omega, by omega⟩
  | exact Or.inl ⟨by omega, by omega⟩
  | exact ⟨by omega, by omega⟩
  | decide)
local macro_rules | `(tactic| walk_at "st") => `(tactic| repeat (first
  | refine ⟨_, rfl, ?_⟩
  | refine ⟨_, _, rfl, rfl, ?_⟩
  | refine ⟨_, _, rfl, ?_⟩
  | refine .inl ⟨_, rfl, ?_⟩
  | refine And.intro rfl ?_
  | refine And.intro (by walk_at "cn") ?_))
local macro_rules | `(tactic| walk_at "fz") => `(tactic| repeat (first | exact Fz.refl | apply Fz.upd))
local macro_rules | `(tactic| walk_at "hl") => `(tactic| ((repeat rw [upd_ne (by assumption)]); assumption))

section
variable {P : Program} {w : World} {K : PySem.W.Frag} {mg : Str → Option Value} {base : Heap}
theorem law_body (T : Txt K mg) {s : Shared} {H : Hp} {a : Addr} {ns : List Int} (hS : SqL K H a (ns.map V.int)) (hl : ns.length ≤ 63) (cdv : Value) (hr : Room 4 (callerA.deeper (envOfC "law" (defScope s_law) s.heap.objs.size T.a_law cdv))) :
    ∃ t, PSs (cxOf CX0 P w K mg base N_law "law" (defScope s_law) T.a_law cdv callerA [] s H E0).nox (defBody s_law) t ∧ t { nx := fun _ H' => (fun (v : V) (_ : Hp) => v = V.bl true) .non H', rt := fun v _ => v = V.bl true } (L2.start N_law [.ref a]) H := by
  have G__law_tape := ok__law_tape (P := P) (w := w) (base := base) T
  have G__law_columns := ok__law_columns (P := P) (w := w) (base := base) T
  have G__law_expression := ok__law_expression (P := P) (w := w) (base := base) T
  have G__law_sum := ok__law_sum (P := P) (w := w) (base := base) T
  have G__law_straight := ok__law_straight (P := P) (w := w) (base := base) T
  have G__law_farthest := ok__law_farthest (P := P) (w := w) (base := base) T
  have G__law_draw := ok__law_draw (P := P) (w := w) (base := base) T
  have G__law_due := ok__law_due (P := P) (w := w) (base := base) T
  have G_kind_of := ok_kind_of (P := P) (w := w) (base := base) T
  have G_evaluate := ok_evaluate (P := P) (w := w) (base := base) T
  have G__law_value := ok__law_value (P := P) (w := w) (base := base) T
  refine ⟨_, (pss_cons (ps_set (i := 1) sc_law.nd rfl (.inr rfl) (pe_call G__law_tape (hr.mono (by decide)) (by rfl) T.g__law_tape T.F__law_tape.kp T.b__law_tape .nil pass0 (pa_cons (pv 0) pa_nil)))
      (pss_cons (ps_set (i := 2) sc_law.nd rfl (.inl rfl) (pe_call G__law_columns hr (by rfl) T.g__law_columns T.F__law_columns.kp T.b__law_columns .nil pass0 (pa_cons (pv 1) (pa_cons pe_int pa_nil))))
      (pss_cons (ps_set (i := 3) sc_law.nd rfl (.inl rfl) (pe_callTy call_tupleZ (by rfl) T.z_tuple boot_tuple (pa_cons (pe_lc (own := [("column", 10)]) (g := gName 10) (tt := tYes) rfl sc_law.nd (pi_tup (pv 2)) (blkOk_by (own := [("column", 10)]) (N := N_law) (sc := defScope s_law) (by decide +kernel)) (fun _ _ _ _ _ => (pg_name (i := 10) sc_law.nd rfl (.inl rfl))) (fun _ _ _ _ _ => pts_nil) (fun _ _ _ _ _ => (pe_ix (ixT (K := K) rfl) (pv 10) pe_int (fun _ _ => rfl)))) pa_nil)))
      (pss_cons (ps_set (i := 4) sc_law.nd rfl (.inl rfl) (pe_ix ix_list (pe_lst (pa_cons pe_str (pa_cons pe_str (pa_cons pe_str (pa_cons pe_str pa_nil))))) (pe_call G__law_draw (hr.mono (by decide)) (by rfl) T.g__law_draw T.F__law_draw.kp T.b__law_draw .nil pass0 (pa_cons (pv 1) (pa_cons pe_int pa_nil))) (fun _ _ => rfl)))
      (pss_cons (ps_set (i := 5) sc_law.nd rfl (.inl rfl) (pe_call G__law_expression hr (by rfl) T.g__law_expression T.F__law_expression.kp T.b__law_expression .nil pass0 (pa_cons (pv 1) (pa_cons (pv 2) (pa_cons (pv 4) (pa_cons pe_int pa_nil))))))
      (pss_cons (ps_set (i := 6) sc_law.nd rfl (.inl rfl) (pe_call G__law_sum (hr.mono (by decide)) (by rfl) T.g__law_sum T.F__law_sum.kp T.b__law_sum .nil pass0 (pa_cons (pv 5) (pa_cons (pv 2) pa_nil))))
      (pss_cons (ps_if (pt_cmpR op_ne (pe_callB (call_reprD (by rfl) hr.units) (by rfl) T.z_repr boot_repr (pa_cons (pe_call G_kind_of (hr.mono (by decide)) (by rfl) T.g_kind_of T.F_kind_of.kp T.b_kind_of .nil pass0 (pa_cons (pv 5) (pa_cons (pv 2) pa_nil))) pa_nil)) (pe_callB (call_reprD (by rfl) hr.units) (by rfl) T.z_repr boot_repr (pa_cons (pe_ix ix_list (pe_lst (pa_cons (pe_tup (pa_cons pe_str (pa_cons (pv 6) pa_nil))) (pa_cons (pe_tup (pa_cons pe_str pa_nil)) pa_nil))) (pe_callTy call_int1 (by rfl) T.z_int boot_int (pa_cons (pe_cmpR op_eq (pv 4) pe_str (nomark _)) pa_nil)) (fun _ _ => rfl)) pa_nil)) (nomark _)) (pss_one (ps_ret pe_bl)) pss_nil)
      (pss_cons (ps_for PassesOwn.never rfl (pi_range1 (by rfl) T.z_range (pa_cons pe_int pa_nil)) (pg_name (i := 7) sc_law.nd rfl (.inl rfl))
      (pss_cons (ps_set (i := 8) sc_law.nd rfl (.inl rfl) (pe_callTy call_tupleZ (by rfl) T.z_tuple boot_tuple (pa_cons (pe_lc (own := [("column", 10)]) (g := gName 10) (tt := tYes) rfl sc_law.nd (pi_tup (pv 2)) (blkOk_by (own := [("column", 10)]) (N := N_law) (sc := defScope s_law) (by decide +kernel)) (fun _ _ _ _ _ => (pg_name (i := 10) sc_law.nd rfl (.inl rfl))) (fun _ _ _ _ _ => pts_nil) (fun _ _ _ _ _ => (pe_call G__law_value (hr.mono (by decide)) (by rfl) T.g__law_value T.F__law_value.kp T.b__law_value .nil pass0 (pa_cons (pv 1) (pa_cons (pe_ix (ixT (K := K) rfl) (pv 10) pe_int (fun _ _ => rfl)) pa_nil))))) pa_nil)))
      (pss_cons (ps_set (i := 9) sc_law.nd rfl (.inl rfl) (pe_call G__law_due (hr.mono (by decide)) (by rfl) T.g__law_due T.F__law_due.kp T.b__law_due .nil pass0 (pa_cons (pv 5) (pa_cons (pv 3) (pa_cons (pv 8) pa_nil)))))
      (pss_one (ps_if (PW.pt (pw_or (pt_cmpR op_ne (pe_callB (call_reprD (by rfl) hr.units) (by rfl) T.z_repr boot_repr (pa_cons (pe_call G_evaluate (hr.mono (by decide)) (by rfl) T.g_evaluate T.F_evaluate.kp T.b_evaluate .nil pass0 (pa_cons (pv 5) (pa_cons (pv 3) (pa_cons (pv 8) pa_nil)))) pa_nil)) (pe_callB (call_reprD (by rfl) hr.units) (by rfl) T.z_repr boot_repr (pa_cons (pv 9) pa_nil)) (nomark _)) (pw_or1 (PW.pt (pw_and (pt_cmpR op_eq (pv 4) pe_str (nomark _)) (pw_and1 (pt_cmpR op_gt (pe_callB call_abs (by rfl) T.z_abs boot_abs (pa_cons (pv 9) pa_nil)) (pv 6) (nomark _)))))))) (pss_one (ps_ret pe_bl)) pss_nil)))))
      (pss_cons (ps_set (i := 5) sc_law.nd rfl (.inl rfl) (pe_call G__law_straight (hr.mono (by decide)) (by rfl) T.g__law_straight T.F__law_straight.kp T.b__law_straight .nil pass0 (pa_cons (pv 1) (pa_cons (pv 2) pa_nil))))
      (pss_cons (ps_set (i := 6) sc_law.nd rfl (.inl rfl) (pe_call G__law_sum (hr.mono (by decide)) (by rfl) T.g__law_sum T.F__law_sum.kp T.b__law_sum .nil pass0 (pa_cons (pv 5) (pa_cons (pv 2) pa_nil))))
      (pss_cons (ps_if (pt_cmpR op_ne (pe_callB (call_reprD (by rfl) hr.units) (by rfl) T.z_repr boot_repr (pa_cons (pe_call G_kind_of (hr.mono (by decide)) (by rfl) T.g_kind_of T.F_kind_of.kp T.b_kind_of .nil pass0 (pa_cons (pv 5) (pa_cons (pv 2) pa_nil))) pa_nil)) (pe_callB (call_reprD (by rfl) hr.units) (by rfl) T.z_repr boot_repr (pa_cons (pe_tup (pa_cons pe_str (pa_cons (pv 6) pa_nil))) pa_nil)) (nomark _)) (pss_one (ps_ret pe_bl)) pss_nil)
      (pss_cons (ps_set (i := 8) sc_law.nd rfl (.inl rfl) (pe_call G__law_farthest hr (by rfl) T.g__law_farthest T.F__law_farthest.kp T.b__law_farthest .nil pass0 (pa_cons (pv 1) (pa_cons (pv 2) (pa_cons (pv 5) pa_nil)))))
      (pss_one (ps_ret (pe_cmpR op_eq (pe_callB (call_reprD (by rfl) hr.units) (by rfl) T.z_repr boot_repr (pa_cons (pe_call G_evaluate (hr.mono (by decide)) (by rfl) T.g_evaluate T.F_evaluate.kp T.b_evaluate .nil pass0 (pa_cons (pv 5) (pa_cons (pv 3) (pa_cons (pv 8) pa_nil)))) pa_nil)) (pe_callB (call_reprD (by rfl) hr.units) (by rfl) T.z_repr boot_repr (pa_cons (pv 6) pa_nil)) (nomark _)))))))))))))))), ?_⟩
  walk_at "st"
  refine ⟨a, ns, rfl, hS, hl, ?_⟩
  intro H1 t s1 n1 n2 T1
  walk_at "st"
  intro H2 c cs f2 T2 hc ok
  have l10 := ok.len
  have hc0 := hc
  obtain ⟨ca, co, ps, rfl, hca, cod, dcs⟩ := hc0
  have hcs : SqT K H2 ca (ps.map V.ref) := .inl (.inr ⟨co, hca⟩)
  have lps : ps.length = cs.length := by
    have := dcs.len
    simpa using this
  walk_at "st"
  refine And.intro ⟨_, hcs⟩ ?_
  intro D nD
  have offD := T2.off nD
  refine lc_tup (xs := ps.map V.ref) (fun i H' => Iv (Same H2 H' ∧ H' D = some (.lst ((cs.take i).map fun c => V.str c.1))))
    (.a ⟨same_upd nD, upd_same⟩) ?_ ?_ ?_
  · intro i H' hi iv
    obtain ⟨sm, hD⟩ := iv.out
    exact (Same.kp sm).sqT hcs
  · intro i x H' ex iv
    obtain ⟨sm, hD⟩ := iv.out
    obtain ⟨cc, ec, dc⟩ := dps_get dcs ex
    obtain ⟨a2, u2, rfl, hs2, du⟩ := col_at (Dp.kp (Same.kp sm) _ _ (tO_col cc) dc)
    walk_at "st"
    refine ⟨_, _, _, _, rfl, rfl, hs2, atI_nat (j := 0) rfl, ?_⟩
    refine ⟨_, hD, small1000 (by simp; omega), .a ⟨Same.upd' sm nD, ?_⟩⟩
    rw [upd_same, take_more ec, List.map_append]
    rfl
  intro H3 iv
  obtain ⟨sm3, hD3⟩ := iv.out
  rw [List.length_map, lps, List.take_of_length_le (Nat.le_refl _)] at hD3
  walk_at "st"
  refine ⟨_, _, rfl, .of hD3, ?_⟩
  intro na no nna nod
  have s4 : Same H2 (upd H3 na (.frz no (.tup (cs.map fun c => V.str c.1)))) := sm3.trans (same_upd nna)
  have T4 := T2.same s4
  have hn4 : NamesAt K (upd H3 na (.frz no (.tup (cs.map fun c => V.str c.1)))) (.ref na) cs := ⟨na, no, rfl, upd_same, nod⟩
  have hc4 := hc.kp (Same.kp s4)
  walk_at "st"
  intro l5 n5
  have s5 : Same H2 (upd (upd H3 na (.frz no (.tup (cs.map fun c => V.str c.1)))) l5 (.lst [.str "integer", .str "integer", .str "integer", .str "string"])) := s4.trans (same_upd n5)
  have T5 := T2.same s5
  have off5 := T4.off n5
  walk_at "st"
  intro H6 r f6 T6 r0 r1
  obtain ⟨wd, ewd, mwd⟩ := pickT (ss := ["integer", "integer", "integer", "string"]) (i := r) r0 (by simp; omega)
  obtain ⟨b, rfl⟩ : ∃ b, wd = wordS b := by
    simp only [List.mem_cons, List.not_mem_nil, or_false] at mwd
    rcases mwd with rfl | rfl | rfl | rfl
    iterate 3 exact ⟨false, rfl⟩
    exact ⟨true, rfl⟩
  refine ⟨_, _, _, _, rfl, rfl, .of (f6 l5 _ off5.a upd_same), ewd, ?_⟩
  have k26 : Kp H2 H6 := (Same.kp s5).trans (f6.kp T5)
  have hc6 := hc.kp k26
  have offn : na ≠ t.a := (T2.same sm3).off nna |>.a
  have hn6 : NamesAt K H6 (.ref na) cs := ⟨na, no, rfl, f6 _ _ offn (by rw [upd_ne (ne_of_none upd_same n5)]; exact upd_same), nod⟩
  walk_at "st"
  refine ⟨t, _, cs, b, rfl, T6, hc6, ok, ?_⟩
  intro H7 e ts f7 T7 de ex
  have k27 := k26.trans (f7.kp T6)
  have hc7 := hc.kp k27
  walk_at "st"
  refine ⟨_, _, ts, cs, b, rfl, de, ex.len, hc7, ok, ex.ops, ?_⟩
  intro H8 s8
  have de8 := Dp.kp (Same.kp s8) _ _ (tO_ex ts) de
  have hc8 := hc7.kp (Same.kp s8)
  walk_at "st"
  refine ⟨_, _, ts, cs, b, rfl, de8, hc8, ok, ex, ?_⟩
  intro H9 u s9 du
  have kb := exKd_low ok ex
  refine ⟨_, kdD (exKd cs b ts), rfl, du, kd_able kb, kd_dict _, kd_depth _, fits (kd_show kb), ?_⟩
  walk_at "st"
  intro p1 m1
  walk_at "st"
  intro p2 m2
  walk_at "st"
  intro l3 m3
  walk_at "st"
  refine .inr ⟨_, rfl, ?_⟩
  have p1n : p1 ≠ p2 := ne_of_none upd_same m2
  have z1 : SqT K (upd (upd (upd H9 p1 (.tup [.str "integer", .int (ts.map fun t => opBound cs t.op).sum])) p2 (.tup [.str "string"])) l3 (.lst [.ref p1, .ref p2])) p1 [.str "integer", .int (ts.map fun t => opBound cs t.op).sum] :=
    (Kp.new m3).sqT ((Kp.new m2).sqT (.of upd_same))
  have z2 : SqT K (upd (upd (upd H9 p1 (.tup [.str "integer", .int (ts.map fun t => opBound cs t.op).sum])) p2 (.tup [.str "string"])) l3 (.lst [.ref p1, .ref p2])) p2 [.str "string"] :=
    (Kp.new m3).sqT (.of upd_same)
  obtain ⟨px, epx, dpx⟩ : ∃ px, atI [V.ref p1, V.ref p2] (if decide (V.str (wordS b) = V.str "string") = true then 1 else 0) = some (.ref px) ∧
      Dp K (upd (upd (upd H9 p1 (.tup [.str "integer", .int (ts.map fun t => opBound cs t.op).sum])) p2 (.tup [.str "string"])) l3 (.lst [.ref p1, .ref p2])) (.ref px) (kdD (exKd cs b ts)) := by
    cases b with
    | false =>
      refine ⟨p1, ?_, .tup z1 (.cons (.str _) (.cons (.int _) .nil))⟩
      rw [if_neg (by decide)]
      rfl
    | true =>
      refine ⟨p2, ?_, .tup z2 (.cons (.str _) .nil)⟩
      rw [if_pos (by decide)]
      rfl
  refine ⟨_, _, _, _, rfl, rfl, .of upd_same, epx, ?_⟩
  refine ⟨_, kdD (exKd cs b ts), rfl, dpx, kd_able kb, kd_dict _, kd_depth _, fits (kd_show kb), ?_⟩
  walk_at "st"
  refine ite2 (fun e1 => ?_) (fun _ => ?_)
  · rw [decide_eq_true rfl] at e1; exact absurd e1 (by decide)
  have k9 : Kp H9 (upd (upd (upd H9 p1 (.tup [.str "integer", .int (ts.map fun t => opBound cs t.op).sum])) p2 (.tup [.str "string"])) l3 (.lst [.ref p1, .ref p2])) := ((Kp.new m1).trans (Kp.new m2)).trans (Kp.new m3)
  have T10 : TapeAt (upd (upd (upd H9 p1 (.tup [.str "integer", .int (ts.map fun t => opBound cs t.op).sum])) p2 (.tup [.str "string"])) l3 (.lst [.ref p1, .ref p2])) t := ((((T7.same s8).same s9).new m1).new m2).new m3
  have k610 := ((f7.kp T6).trans (Same.kp s8)).trans ((Same.kp s9).trans k9)
  have lw10 : Lw K _ t ca na cs := (Lw.mk T6 hc6 hn6).kp k610 T10
  have de10 := Dp.kp ((Same.kp s9).trans k9) _ _ (tO_ex ts) de8
  walk_at "st"
  refine for_range (fun i σ H' => Iv (∃ (y7 y8 y9 y10 : Option V), σ = [some (.ref a), some (.ref t.a), some (.ref ca), some (.ref na), some (.str (wordS b)), some e, some (.int (ts.map fun t => opBound cs t.op).sum), y7, y8, y9, y10] ∧ Lw K H' t ca na cs ∧ Dp K H' e (exD ts)))
    (.a ⟨_, _, _, _, rfl, lw10, de10⟩) ?_ ?_
  · rintro i σ G1 hi iv
    obtain ⟨y7, y8, y9, y10, rfl, lw, de⟩ := iv.out
    obtain ⟨ca', ps, eca, hcs, dcs⟩ := lw.cols.tup
    cases eca
    have T1 := lw.tp
    have lps : ps.length = cs.length := by
      have := dcs.len
      simpa using this
    walk_at "st"
    refine And.intro ⟨_, hcs⟩ ?_
    intro D nD
    have offD := T1.off nD
    refine lc_tup (xs := ps.map V.ref) (fun i H' => Iv (∃ us, Fz t.a G1 H' ∧ TapeAt H' t ∧ H' D = some (.lst us) ∧ RowIn (cs.take i) us))
      (.a ⟨[], Fz.refl.new nD, T1.new nD, upd_same, .nil⟩) ?_ ?_ ?_
    · intro i H' hi iv
      obtain ⟨us, f1, T2, hD, ri⟩ := iv.out
      exact (f1.kp T1).sqT hcs
    · intro i x H' ex iv
      obtain ⟨us, f1, T2, hD, ri⟩ := iv.out
      obtain ⟨cc, ec, dc⟩ := dps_get dcs ex
      obtain ⟨a2, u2, rfl, hs2, du⟩ := col_at (Dp.kp (f1.kp T1) _ _ (tO_col cc) dc)
      have hi : i < cs.length := (List.getElem?_eq_some_iff.mp ec).1
      have rl := ri.len
      rw [List.length_take] at rl
      walk_at "st"
      refine ⟨_, _, _, _, rfl, rfl, hs2, atI_nat (j := 1) rfl, ?_⟩
      walk_at "st"
      refine ⟨t, u2, cc.2, rfl, T2, du, ok.kd _ (List.mem_of_getElem? ec), ?_⟩
      intro H2 u f2 T3 hu
      refine ⟨_, f2 D _ offD.a hD, small1000 (by omega), .a ⟨us ++ [u], (f1.trans f2).upd' nD, T3.upd offD, upd_same, ?_⟩⟩
      rw [take_more ec]
      exact ri.snoc hu
    · intro G2 iv
      obtain ⟨us, f1, T2, hD, ri⟩ := iv.out
      rw [List.length_map, lps, List.take_of_length_le (Nat.le_refl _)] at ri
      walk_at "st"
      refine ⟨_, _, rfl, .of hD, ?_⟩
      intro ra ro nra nrd
      have k3 := (f1.kp T1).trans (Kp.new (o := .frz ro (.tup us)) nra)
      have T3 := T2.new (o := .frz ro (.tup us)) nra
      have lw3 := lw.kp k3 T3
      have de3 := Dp.kp k3 _ _ (tO_ex ts) de
      have hr3 : RowAt K (upd G2 ra (.frz ro (.tup us))) (.ref ra) us := ⟨ra, rfl, .inl (.inr ⟨ro, upd_same⟩)⟩
      walk_at "st"
      refine ⟨_, _, _, ts, cs, us, b, rfl, de3, ex, ok, lw3.nm, hr3, ri, ?_⟩
      intro G4 s4
      have k4 := Same.kp s4
      have T4 := T3.same s4
      have lw4 := lw3.kp k4 T4
      have de4 := Dp.kp k4 _ _ (tO_ex ts) de3
      have hr4 : RowAt K G4 (.ref ra) us := ⟨ra, rfl, k4.sqT (.inl (.inr ⟨ro, upd_same⟩))⟩
      walk_at "st"
      refine ⟨_, _, _, ts, cs, us, b, rfl, de4, ex, ok, lw4.nm, hr4, ri, ?_⟩
      obtain ⟨d, sd⟩ := ex_shw (K := K) ok ri ex
      refine ⟨_, d, rfl, sd.dp _, sd.able, sd.nod, sd.dep, sd.len, ?_⟩
      walk_at "st"
      refine ⟨_, d, rfl, sd.dp _, sd.able, sd.nod, sd.dep, sd.len, ?_⟩
      walk_at "st"
      refine ite2 (fun e1 => ?_) (fun _ => ?_)
      · rw [decide_eq_true rfl] at e1; exact absurd e1 (by decide)
      walk_at "st"
      refine ite2 (fun e2 => ?_) (fun e2 => ?_)
      · have eb : b = false := by
          cases b
          · rfl
          · exact absurd (dstr e2) (by decide)
        subst eb
        obtain ⟨z, ez, z1, z2⟩ := ex_int ok ri ex
        rw [ez]
        walk_at "st"
        refine ite2 (fun e3 => ?_) (fun e3 => ?_)
        · exfalso
          have := of_decide_eq_true e3
          split at this <;> omega
        · exact .a ⟨_, _, _, _, rfl, lw4, de4⟩
      · exact .a ⟨_, _, _, _, rfl, lw4, de4⟩
  · rintro σ G1 iv
    obtain ⟨y7, y8, y9, y10, rfl, lw, de⟩ := iv.out
    walk_at "st"
    refine ⟨t, _, cs, rfl, lw.tp, lw.cols, ok, ?_⟩
    intro G2 e2 ts2 f2 T2 de2 ex2 st2
    have lw2 := lw.kp (f2.kp lw.tp) T2
    walk_at "st"
    refine ⟨_, _, ts2, cs, false, rfl, de2, ex2.len, lw2.cols, ok, ex2.ops, ?_⟩
    intro G3 s3
    have lw3 := lw2.kp (Same.kp s3) (T2.same s3)
    have de3 := Dp.kp (Same.kp s3) _ _ (tO_ex ts2) de2
    walk_at "st"
    refine ⟨_, _, ts2, cs, false, rfl, de3, lw3.cols, ok, ex2, ?_⟩
    intro G4 u s4 du
    have lw4 := lw3.kp (Same.kp s4) (lw3.tp.same s4)
    have de4 := Dp.kp (Same.kp s4) _ _ (tO_ex ts2) de3
    have kb := exKd_low ok ex2
    refine ⟨_, kdD (exKd cs false ts2), rfl, du, kd_able kb, kd_dict _, kd_depth _, fits (kd_show kb), ?_⟩
    walk_at "st"
    intro p1 m1
    refine ⟨_, kdD (exKd cs false ts2), rfl, .tup (.of upd_same) (.cons (.str _) (.cons (.int _) .nil)), kd_able kb, kd_dict _, kd_depth _, fits (kd_show kb), ?_⟩
    walk_at "st"
    refine ite2 (fun e1 => ?_) (fun _ => ?_)
    · rw [decide_eq_true rfl] at e1; exact absurd e1 (by decide)
    have k5 : Kp G4 (upd G4 p1 (.tup [.str "integer", .int (ts2.map fun t => opBound cs t.op).sum])) := Kp.new m1
    have lw5 := lw4.kp k5 (lw4.tp.new m1)
    have de5 := Dp.kp k5 _ _ (tO_ex ts2) de4
    walk_at "st"
    refine ⟨t, _, e2, cs, ts2, rfl, lw5.tp, lw5.cols, ok, de5, ex2, ex2.len, ?_⟩
    intro G6 rw6 vs us f6 T6 hr6 ri6 ev6
    have lw6 := lw5.kp (f6.kp lw5.tp) T6
    have de6 := Dp.kp (f6.kp lw5.tp) _ _ (tO_ex ts2) de5
    have ri7 : RowIn cs vs := by
      rw [ev6]
      exact far_row ts2 ok.kd ri6
    have fe : exVal cs vs ts2 = .int (ts2.map fun t => opBound cs t.op).sum := by
      rw [ev6]
      exact far_ex ok ri6 ex2 st2
    have sd := shw_int (K := K) (kb _ rfl)
    walk_at "st"
    refine ⟨_, _, _, ts2, cs, vs, false, rfl, de6, ex2, ok, lw6.nm, hr6, ri7, ?_⟩
    rw [fe]
    refine ⟨_, _, rfl, sd.dp _, sd.able, sd.nod, sd.dep, sd.len, ?_⟩
    walk_at "st"
    refine ⟨_, _, rfl, sd.dp _, sd.able, sd.nod, sd.dep, sd.len, ?_⟩
    walk_at "st"
    exact congrArg V.bl (decide_eq_true rfl)
end
end Ind

set_option Elab.async false
set_option linter.all false
set_option maxRecDepth 100000
set_option maxHeartbeats 4000000
namespace Ind
open PySem PySem.Spec PyProof.Rows L2
theorem all_mk {l : PySem.W.OpenLaw} {w : World} {K : PySem.W.Frag} {h : Heap} {mg : Str → Option Value} {fa : Addr} (X : K.In h) (G : h.Ns mainGlobals mg) (hfa : mg "law" = some (.ref fa))
    {f0 : Addr} {od0 an0 : Option Addr} {sl0 : Array (Option Value)} {oc0 kV0 dc0 pm0 cd0 ct0 : Value}
    {f1 : Addr} {od1 an1 : Option Addr} {sl1 : Array (Option Value)} {oc1 kV1 dc1 pm1 cd1 ct1 : Value}
    {f2 : Addr} {od2 an2 : Option Addr} {sl2 : Array (Option Value)} {oc2 kV2 dc2 pm2 cd2 ct2 : Value}
    {f3 : Addr} {od3 an3 : Option Addr} {sl3 : Array (Option Value)} {oc3 kV3 dc3 pm3 cd3 ct3 : Value}
    {f4 : Addr} {od4 an4 : Option Addr} {sl4 : Array (Option Value)} {oc4 kV4 dc4 pm4 cd4 ct4 : Value}
    {f5 : Addr} {od5 an5 : Option Addr} {sl5 : Array (Option Value)} {oc5 kV5 dc5 pm5 cd5 ct5 : Value}
    {f6 : Addr} {od6 an6 : Option Addr} {sl6 : Array (Option Value)} {oc6 kV6 dc6 pm6 cd6 ct6 : Value}
    {f7 : Addr} {od7 an7 : Option Addr} {sl7 : Array (Option Value)} {oc7 kV7 dc7 pm7 cd7 ct7 : Value}
    {f8 : Addr} {od8 an8 : Option Addr} {sl8 : Array (Option Value)} {oc8 kV8 dc8 pm8 cd8 ct8 : Value}
    {f9 : Addr} {od9 an9 : Option Addr} {sl9 : Array (Option Value)} {oc9 kV9 dc9 pm9 cd9 ct9 : Value}
    {f10 : Addr} {od10 an10 : Option Addr} {sl10 : Array (Option Value)} {oc10 kV10 dc10 pm10 cd10 ct10 : Value}
    {f11 : Addr} {od11 an11 : Option Addr} {sl11 : Array (Option Value)} {oc11 kV11 dc11 pm11 cd11 ct11 : Value}
    {f12 : Addr} {od12 an12 : Option Addr} {sl12 : Array (Option Value)} {oc12 kV12 dc12 pm12 cd12 ct12 : Value}
    {f13 : Addr} {od13 an13 : Option Addr} {sl13 : Array (Option Value)} {oc13 kV13 dc13 pm13 cd13 ct13 : Value}
    {f14 : Addr} {od14 an14 : Option Addr} {sl14 : Array (Option Value)} {oc14 kV14 dc14 pm14 cd14 ct14 : Value}
    {f15 : Addr} {od15 an15 : Option Addr} {sl15 : Array (Option Value)} {oc15 kV15 dc15 pm15 cd15 ct15 : Value}
    {f16 : Addr} {od16 an16 : Option Addr} {sl16 : Array (Option Value)} {oc16 kV16 dc16 pm16 cd16 ct16 : Value}
    {f17 : Addr} {od17 an17 : Option Addr} {sl17 : Array (Option Value)} {oc17 kV17 dc17 pm17 cd17 ct17 : Value}
    {f18 : Addr} {od18 an18 : Option Addr} {sl18 : Array (Option Value)} {oc18 kV18 dc18 pm18 cd18 ct18 : Value}
    {f19 : Addr} {od19 an19 : Option Addr} {sl19 : Array (Option Value)} {oc19 kV19 dc19 pm19 cd19 ct19 : Value}
    {f20 : Addr} {od20 an20 : Option Addr} {sl20 : Array (Option Value)} {oc20 kV20 dc20 pm20 cd20 ct20 : Value}
    {f21 : Addr} {od21 an21 : Option Addr} {sl21 : Array (Option Value)} {oc21 kV21 dc21 pm21 cd21 ct21 : Value}
    (a0 : PySem.W.nsIn K mainGlobals "kind_of" = some (some (.ref f0))) (l0 : K.lookup f0 = some ⟨oc0, od0, .func (PySem.W.fnOf "kind_of" "kind_of" (defArgs s_kind_of) (defBody s_kind_of) (defScope s_kind_of) .none kV0 dc0 pm0 an0 cd0 ct0), sl0⟩) (c0 : PySem.W.codeIn K cd0 "kind_of" = true) (k0 : PySem.W.keepIn K (.ref f0) = true)
    (a1 : PySem.W.nsIn K mainGlobals "evaluate" = some (some (.ref f1))) (l1 : K.lookup f1 = some ⟨oc1, od1, .func (PySem.W.fnOf "evaluate" "evaluate" (defArgs s_evaluate) (defBody s_evaluate) (defScope s_evaluate) .none kV1 dc1 pm1 an1 cd1 ct1), sl1⟩) (c1 : PySem.W.codeIn K cd1 "evaluate" = true) (k1 : PySem.W.keepIn K (.ref f1) = true)
    (a2 : PySem.W.nsIn K mainGlobals "_operand_kind" = some (some (.ref f2))) (l2 : K.lookup f2 = some ⟨oc2, od2, .func (PySem.W.fnOf "_operand_kind" "_operand_kind" (defArgs s__operand_kind) (defBody s__operand_kind) (defScope s__operand_kind) .none kV2 dc2 pm2 an2 cd2 ct2), sl2⟩) (c2 : PySem.W.codeIn K cd2 "_operand_kind" = true) (k2 : PySem.W.keepIn K (.ref f2) = true)
    (a3 : PySem.W.nsIn K mainGlobals "_operand_value" = some (some (.ref f3))) (l3 : K.lookup f3 = some ⟨oc3, od3, .func (PySem.W.fnOf "_operand_value" "_operand_value" (defArgs s__operand_value) (defBody s__operand_value) (defScope s__operand_value) .none kV3 dc3 pm3 an3 cd3 ct3), sl3⟩) (c3 : PySem.W.codeIn K cd3 "_operand_value" = true) (k3 : PySem.W.keepIn K (.ref f3) = true)
    (a4 : PySem.W.nsIn K mainGlobals "_law_tape" = some (some (.ref f4))) (l4 : K.lookup f4 = some ⟨oc4, od4, .func (PySem.W.fnOf "_law_tape" "_law_tape" (defArgs s__law_tape) (defBody s__law_tape) (defScope s__law_tape) .none kV4 dc4 pm4 an4 cd4 ct4), sl4⟩) (c4 : PySem.W.codeIn K cd4 "_law_tape" = true) (k4 : PySem.W.keepIn K (.ref f4) = true)
    (a5 : PySem.W.nsIn K mainGlobals "_law_draw" = some (some (.ref f5))) (l5 : K.lookup f5 = some ⟨oc5, od5, .func (PySem.W.fnOf "_law_draw" "_law_draw" (defArgs s__law_draw) (defBody s__law_draw) (defScope s__law_draw) .none kV5 dc5 pm5 an5 cd5 ct5), sl5⟩) (c5 : PySem.W.codeIn K cd5 "_law_draw" = true) (k5 : PySem.W.keepIn K (.ref f5) = true)
    (a6 : PySem.W.nsIn K mainGlobals "_law_name" = some (some (.ref f6))) (l6 : K.lookup f6 = some ⟨oc6, od6, .func (PySem.W.fnOf "_law_name" "_law_name" (defArgs s__law_name) (defBody s__law_name) (defScope s__law_name) .none kV6 dc6 pm6 an6 cd6 ct6), sl6⟩) (c6 : PySem.W.codeIn K cd6 "_law_name" = true) (k6 : PySem.W.keepIn K (.ref f6) = true)
    (a7 : PySem.W.nsIn K mainGlobals "_law_names" = some (some (.ref f7))) (l7 : K.lookup f7 = some ⟨oc7, od7, .func (PySem.W.fnOf "_law_names" "_law_names" (defArgs s__law_names) (defBody s__law_names) (defScope s__law_names) .none kV7 dc7 pm7 an7 cd7 ct7), sl7⟩) (c7 : PySem.W.codeIn K cd7 "_law_names" = true) (k7 : PySem.W.keepIn K (.ref f7) = true)
    (a8 : PySem.W.nsIn K mainGlobals "_law_signs" = some (some (.ref f8))) (l8 : K.lookup f8 = some ⟨oc8, od8, .func (PySem.W.fnOf "_law_signs" "_law_signs" (defArgs s__law_signs) (defBody s__law_signs) (defScope s__law_signs) .none kV8 dc8 pm8 an8 cd8 ct8), sl8⟩) (c8 : PySem.W.codeIn K cd8 "_law_signs" = true) (k8 : PySem.W.keepIn K (.ref f8) = true)
    (a9 : PySem.W.nsIn K mainGlobals "_law_text" = some (some (.ref f9))) (l9 : K.lookup f9 = some ⟨oc9, od9, .func (PySem.W.fnOf "_law_text" "_law_text" (defArgs s__law_text) (defBody s__law_text) (defScope s__law_text) .none kV9 dc9 pm9 an9 cd9 ct9), sl9⟩) (c9 : PySem.W.codeIn K cd9 "_law_text" = true) (k9 : PySem.W.keepIn K (.ref f9) = true)
    (a10 : PySem.W.nsIn K mainGlobals "_law_number" = some (some (.ref f10))) (l10 : K.lookup f10 = some ⟨oc10, od10, .func (PySem.W.fnOf "_law_number" "_law_number" (defArgs s__law_number) (defBody s__law_number) (defScope s__law_number) .none kV10 dc10 pm10 an10 cd10 ct10), sl10⟩) (c10 : PySem.W.codeIn K cd10 "_law_number" = true) (k10 : PySem.W.keepIn K (.ref f10) = true)
    (a11 : PySem.W.nsIn K mainGlobals "_law_kind" = some (some (.ref f11))) (l11 : K.lookup f11 = some ⟨oc11, od11, .func (PySem.W.fnOf "_law_kind" "_law_kind" (defArgs s__law_kind) (defBody s__law_kind) (defScope s__law_kind) .none kV11 dc11 pm11 an11 cd11 ct11), sl11⟩) (c11 : PySem.W.codeIn K cd11 "_law_kind" = true) (k11 : PySem.W.keepIn K (.ref f11) = true)
    (a12 : PySem.W.nsIn K mainGlobals "_law_value" = some (some (.ref f12))) (l12 : K.lookup f12 = some ⟨oc12, od12, .func (PySem.W.fnOf "_law_value" "_law_value" (defArgs s__law_value) (defBody s__law_value) (defScope s__law_value) .none kV12 dc12 pm12 an12 cd12 ct12), sl12⟩) (c12 : PySem.W.codeIn K cd12 "_law_value" = true) (k12 : PySem.W.keepIn K (.ref f12) = true)
    (a13 : PySem.W.nsIn K mainGlobals "_law_columns" = some (some (.ref f13))) (l13 : K.lookup f13 = some ⟨oc13, od13, .func (PySem.W.fnOf "_law_columns" "_law_columns" (defArgs s__law_columns) (defBody s__law_columns) (defScope s__law_columns) .none kV13 dc13 pm13 an13 cd13 ct13), sl13⟩) (c13 : PySem.W.codeIn K cd13 "_law_columns" = true) (k13 : PySem.W.keepIn K (.ref f13) = true)
    (a14 : PySem.W.nsIn K mainGlobals "_law_bound" = some (some (.ref f14))) (l14 : K.lookup f14 = some ⟨oc14, od14, .func (PySem.W.fnOf "_law_bound" "_law_bound" (defArgs s__law_bound) (defBody s__law_bound) (defScope s__law_bound) .none kV14 dc14 pm14 an14 cd14 ct14), sl14⟩) (c14 : PySem.W.codeIn K cd14 "_law_bound" = true) (k14 : PySem.W.keepIn K (.ref f14) = true)
    (a15 : PySem.W.nsIn K mainGlobals "_law_operand" = some (some (.ref f15))) (l15 : K.lookup f15 = some ⟨oc15, od15, .func (PySem.W.fnOf "_law_operand" "_law_operand" (defArgs s__law_operand) (defBody s__law_operand) (defScope s__law_operand) .none kV15 dc15 pm15 an15 cd15 ct15), sl15⟩) (c15 : PySem.W.codeIn K cd15 "_law_operand" = true) (k15 : PySem.W.keepIn K (.ref f15) = true)
    (a16 : PySem.W.nsIn K mainGlobals "_law_expression" = some (some (.ref f16))) (l16 : K.lookup f16 = some ⟨oc16, od16, .func (PySem.W.fnOf "_law_expression" "_law_expression" (defArgs s__law_expression) (defBody s__law_expression) (defScope s__law_expression) .none kV16 dc16 pm16 an16 cd16 ct16), sl16⟩) (c16 : PySem.W.codeIn K cd16 "_law_expression" = true) (k16 : PySem.W.keepIn K (.ref f16) = true)
    (a17 : PySem.W.nsIn K mainGlobals "_law_sum" = some (some (.ref f17))) (l17 : K.lookup f17 = some ⟨oc17, od17, .func (PySem.W.fnOf "_law_sum" "_law_sum" (defArgs s__law_sum) (defBody s__law_sum) (defScope s__law_sum) .none kV17 dc17 pm17 an17 cd17 ct17), sl17⟩) (c17 : PySem.W.codeIn K cd17 "_law_sum" = true) (k17 : PySem.W.keepIn K (.ref f17) = true)
    (a18 : PySem.W.nsIn K mainGlobals "_law_due" = some (some (.ref f18))) (l18 : K.lookup f18 = some ⟨oc18, od18, .func (PySem.W.fnOf "_law_due" "_law_due" (defArgs s__law_due) (defBody s__law_due) (defScope s__law_due) .none kV18 dc18 pm18 an18 cd18 ct18), sl18⟩) (c18 : PySem.W.codeIn K cd18 "_law_due" = true) (k18 : PySem.W.keepIn K (.ref f18) = true)
    (a19 : PySem.W.nsIn K mainGlobals "_law_straight" = some (some (.ref f19))) (l19 : K.lookup f19 = some ⟨oc19, od19, .func (PySem.W.fnOf "_law_straight" "_law_straight" (defArgs s__law_straight) (defBody s__law_straight) (defScope s__law_straight) .none kV19 dc19 pm19 an19 cd19 ct19), sl19⟩) (c19 : PySem.W.codeIn K cd19 "_law_straight" = true) (k19 : PySem.W.keepIn K (.ref f19) = true)
    (a20 : PySem.W.nsIn K mainGlobals "_law_farthest" = some (some (.ref f20))) (l20 : K.lookup f20 = some ⟨oc20, od20, .func (PySem.W.fnOf "_law_farthest" "_law_farthest" (defArgs s__law_farthest) (defBody s__law_farthest) (defScope s__law_farthest) .none kV20 dc20 pm20 an20 cd20 ct20), sl20⟩) (c20 : PySem.W.codeIn K cd20 "_law_farthest" = true) (k20 : PySem.W.keepIn K (.ref f20) = true)
    (a21 : PySem.W.nsIn K mainGlobals "law" = some (some (.ref f21))) (l21 : K.lookup f21 = some ⟨oc21, od21, .func (PySem.W.fnOf "law" "law" (defArgs s_law) (defBody s_law) (defScope s_law) .none kV21 dc21 pm21 an21 cd21 ct21), sl21⟩) (c21 : PySem.W.codeIn K cd21 "law" = true) (k21 : PySem.W.keepIn K (.ref f21) = true)
    {a_STRING : Addr} {od_STRING : Option Addr} {n_STRING : Nat} {sl_STRING : Array (Option Value)} {t0_STRING : Tok} (y_STRING : PySem.W.nsIn K mainGlobals "STRING" = some (some (.ref a_STRING))) (w_STRING : K.lookup a_STRING = some ⟨.type "tuple", od_STRING, .seq #[.str "string" t0_STRING] n_STRING, sl_STRING⟩)
    {t_LARGEST_BOUND : Tok} (y_LARGEST_BOUND : PySem.W.nsIn K mainGlobals "LARGEST_BOUND" = some (some (.int 1000000000000 t_LARGEST_BOUND)))
    (z_abs : PySem.W.nsIn K mainGlobals "abs" = some none)
    (z_dict : PySem.W.nsIn K mainGlobals "dict" = some none)
    (z_int : PySem.W.nsIn K mainGlobals "int" = some none)
    (z_len : PySem.W.nsIn K mainGlobals "len" = some none)
    (z_list : PySem.W.nsIn K mainGlobals "list" = some none)
    (z_max : PySem.W.nsIn K mainGlobals "max" = some none)
    (z_min : PySem.W.nsIn K mainGlobals "min" = some none)
    (z_range : PySem.W.nsIn K mainGlobals "range" = some none)
    (z_repr : PySem.W.nsIn K mainGlobals "repr" = some none)
    (z_sum : PySem.W.nsIn K mainGlobals "sum" = some none)
    (z_tuple : PySem.W.nsIn K mainGlobals "tuple" = some none) :
  ∀ (base : Heap) (s : Shared) (H : Hp) (a : Addr) (ns : List Int), K.In base → base.Ns mainGlobals mg → Env0 l.prog w K mg base callerA [] s H → ns.length ≤ 63 → SqL K H a (ns.map V.int) →
      codeAny (model l.prog w) callerA (.call (.ref fa) ⟨[.ref a], []⟩) (CR CX0 [] l.prog w H s (fun v _ => v = .bl true) E0) s := by
  have e := hfa.symm.trans (PySem.W.mg_of X G a21)
  cases e
  have F0 := fun_mk (st := s_kind_of) l0 c0 k0
  have b0 := F0.binds (ps := ["expression", "columns"]) fun _ _ _ _ _ _ us hl => match us, hl with | [_, _], _ => rfl
  have F1 := fun_mk (st := s_evaluate) l1 c1 k1
  have b1 := F1.binds (ps := ["expression", "names", "row"]) fun _ _ _ _ _ _ us hl => match us, hl with | [_, _, _], _ => rfl
  have F2 := fun_mk (st := s__operand_kind) l2 c2 k2
  have b2 := F2.binds (ps := ["operand", "kinds"]) fun _ _ _ _ _ _ us hl => match us, hl with | [_, _], _ => rfl
  have F3 := fun_mk (st := s__operand_value) l3 c3 k3
  have b3 := F3.binds (ps := ["operand", "names", "row"]) fun _ _ _ _ _ _ us hl => match us, hl with | [_, _, _], _ => rfl
  have F4 := fun_mk (st := s__law_tape) l4 c4 k4
  have b4 := F4.binds (ps := ["script"]) fun _ _ _ _ _ _ us hl => match us, hl with | [_], _ => rfl
  have F5 := fun_mk (st := s__law_draw) l5 c5 k5
  have b5 := F5.binds (ps := ["tape", "many"]) fun _ _ _ _ _ _ us hl => match us, hl with | [_, _], _ => rfl
  have F6 := fun_mk (st := s__law_name) l6 c6 k6
  have b6 := F6.binds (ps := ["tape"]) fun _ _ _ _ _ _ us hl => match us, hl with | [_], _ => rfl
  have F7 := fun_mk (st := s__law_names) l7 c7 k7
  have b7 := F7.binds (ps := ["tape", "many"]) fun _ _ _ _ _ _ us hl => match us, hl with | [_, _], _ => rfl
  have F8 := fun_mk (st := s__law_signs) l8 c8 k8
  have b8 := F8.binds (ps := []) fun _ _ _ _ _ _ us hl => match us, hl with | [], _ => rfl
  have F9 := fun_mk (st := s__law_text) l9 c9 k9
  have b9 := F9.binds (ps := ["tape"]) fun _ _ _ _ _ _ us hl => match us, hl with | [_], _ => rfl
  have F10 := fun_mk (st := s__law_number) l10 c10 k10
  have b10 := F10.binds (ps := ["tape"]) fun _ _ _ _ _ _ us hl => match us, hl with | [_], _ => rfl
  have F11 := fun_mk (st := s__law_kind) l11 c11 k11
  have b11 := F11.binds (ps := ["tape"]) fun _ _ _ _ _ _ us hl => match us, hl with | [_], _ => rfl
  have F12 := fun_mk (st := s__law_value) l12 c12 k12
  have b12 := F12.binds (ps := ["tape", "kind"]) fun _ _ _ _ _ _ us hl => match us, hl with | [_, _], _ => rfl
  have F13 := fun_mk (st := s__law_columns) l13 c13 k13
  have b13 := F13.binds (ps := ["tape", "many"]) fun _ _ _ _ _ _ us hl => match us, hl with | [_, _], _ => rfl
  have F14 := fun_mk (st := s__law_bound) l14 c14 k14
  have b14 := F14.binds (ps := ["operand", "columns"]) fun _ _ _ _ _ _ us hl => match us, hl with | [_, _], _ => rfl
  have F15 := fun_mk (st := s__law_operand) l15 c15 k15
  have b15 := F15.binds (ps := ["tape", "columns", "word"]) fun _ _ _ _ _ _ us hl => match us, hl with | [_, _, _], _ => rfl
  have F16 := fun_mk (st := s__law_expression) l16 c16 k16
  have b16 := F16.binds (ps := ["tape", "columns", "word", "more"]) fun _ _ _ _ _ _ us hl => match us, hl with | [_, _, _, _], _ => rfl
  have F17 := fun_mk (st := s__law_sum) l17 c17 k17
  have b17 := F17.binds (ps := ["expression", "columns"]) fun _ _ _ _ _ _ us hl => match us, hl with | [_, _], _ => rfl
  have F18 := fun_mk (st := s__law_due) l18 c18 k18
  have b18 := F18.binds (ps := ["expression", "names", "row"]) fun _ _ _ _ _ _ us hl => match us, hl with | [_, _, _], _ => rfl
  have F19 := fun_mk (st := s__law_straight) l19 c19 k19
  have b19 := F19.binds (ps := ["tape", "columns"]) fun _ _ _ _ _ _ us hl => match us, hl with | [_, _], _ => rfl
  have F20 := fun_mk (st := s__law_farthest) l20 c20 k20
  have b20 := F20.binds (ps := ["tape", "columns", "expression"]) fun _ _ _ _ _ _ us hl => match us, hl with | [_, _, _], _ => rfl
  have F21 := fun_mk (st := s_law) l21 c21 k21
  have b21 := F21.binds (ps := ["script"]) fun _ _ _ _ _ _ us hl => match us, hl with | [_], _ => rfl
  intro base s H a ns _ _ e0 hl hS
  let T : Txt K mg := ⟨f0, _, F0, b0, PySem.W.mg_of X G a0, f1, _, F1, b1, PySem.W.mg_of X G a1, f2, _, F2, b2, PySem.W.mg_of X G a2, f3, _, F3, b3, PySem.W.mg_of X G a3, f4, _, F4, b4, PySem.W.mg_of X G a4, f5, _, F5, b5, PySem.W.mg_of X G a5, f6, _, F6, b6, PySem.W.mg_of X G a6, f7, _, F7, b7, PySem.W.mg_of X G a7, f8, _, F8, b8, PySem.W.mg_of X G a8, f9, _, F9, b9, PySem.W.mg_of X G a9, f10, _, F10, b10, PySem.W.mg_of X G a10, f11, _, F11, b11, PySem.W.mg_of X G a11, f12, _, F12, b12, PySem.W.mg_of X G a12, f13, _, F13, b13, PySem.W.mg_of X G a13, f14, _, F14, b14, PySem.W.mg_of X G a14, f15, _, F15, b15, PySem.W.mg_of X G a15, f16, _, F16, b16, PySem.W.mg_of X G a16, f17, _, F17, b17, PySem.W.mg_of X G a17, f18, _, F18, b18, PySem.W.mg_of X G a18, f19, _, F19, b19, PySem.W.mg_of X G a19, f20, _, F20, b20, PySem.W.mg_of X G a20, fa, _, F21, b21, PySem.W.mg_of X G a21, a_STRING, PySem.W.mg_of X G y_STRING, fun H => .inr ⟨_, _, _, w_STRING, rfl, rfl, line (by simp), .cons ⟨_, rfl⟩ (.nil)⟩, _, PySem.W.mg_of X G y_LARGEST_BOUND, PySem.W.mg_none_of X G z_abs, PySem.W.mg_none_of X G z_dict, PySem.W.mg_none_of X G z_int, PySem.W.mg_none_of X G z_len, PySem.W.mg_none_of X G z_list, PySem.W.mg_none_of X G z_max, PySem.W.mg_none_of X G z_min, PySem.W.mg_none_of X G z_range, PySem.W.mg_none_of X G z_repr, PySem.W.mg_none_of X G z_sum, PySem.W.mg_none_of X G z_tuple⟩
  exact IndEnd.fun_at (us := [.ref a]) (vs := [.ref a]) F21 sc_law (k := 4) ⟨rfl, by decide, by decide⟩ e0 (.of_eq rfl) (.cons rfl .nil) rfl fun cdv hr => law_body (P := l.prog) (w := w) (base := base) T hS hl cdv hr
end Ind
open PySem PySem.W PyProof.Rows
set_option maxHeartbeats 0 in
theorem PySem.Challenge.cw_indoubt_k02_values_of_expressions_holds : PySem.Challenge.rw_indoubt_k02_values_of_expressions.Holds := by
  w_on; o_law; k_head; (case hw => w_witness2)
  k_fill
  refine IndEnd.walk_at_caller (l := PySem.Challenge.rw_indoubt_k02_values_of_expressions) (n := 63) rfl (by decide) rfl (fun w h Y => PySem.W.kIn_of Y) ?F
  case F =>
    intro w mg fa h KX G hmg
    refine' Ind.all_mk KX G hmg ?a0 ?l0 ?c0 ?k0 ?a1 ?l1 ?c1 ?k1 ?a2 ?l2 ?c2 ?k2 ?a3 ?l3 ?c3 ?k3 ?a4 ?l4 ?c4 ?k4 ?a5 ?l5 ?c5 ?k5 ?a6 ?l6 ?c6 ?k6 ?a7 ?l7 ?c7 ?k7 ?a8 ?l8 ?c8 ?k8 ?a9 ?l9 ?c9 ?k9 ?a10 ?l10 ?c10 ?k10 ?a11 ?l11 ?c11 ?k11 ?a12 ?l12 ?c12 ?k12 ?a13 ?l13 ?c13 ?k13 ?a14 ?l14 ?c14 ?k14 ?a15 ?l15 ?c15 ?k15 ?a16 ?l16 ?c16 ?k16 ?a17 ?l17 ?c17 ?k17 ?a18 ?l18 ?c18 ?k18 ?a19 ?l19 ?c19 ?k19 ?a20 ?l20 ?c20 ?k20 ?a21 ?l21 ?c21 ?k21 ?y_STRING ?w_STRING ?y_LARGEST_BOUND ?z_abs ?z_dict ?z_int ?z_len ?z_list ?z_max ?z_min ?z_range ?z_repr ?z_sum ?z_tuple
    (case a0 => k_is); (case l0 => k_is); (case c0 => k_is); (case k0 => k_is); (case a1 => k_is); (case l1 => k_is); (case c1 => k_is); (case k1 => k_is); (case a2 => k_is); (case l2 => k_is); (case c2 => k_is); (case k2 => k_is); (case a3 => k_is); (case l3 => k_is); (case c3 => k_is); (case k3 => k_is); (case a4 => k_is); (case l4 => k_is); (case c4 => k_is); (case k4 => k_is); (case a5 => k_is); (case l5 => k_is); (case c5 => k_is); (case k5 => k_is); (case a6 => k_is); (case l6 => k_is); (case c6 => k_is); (case k6 => k_is); (case a7 => k_is); (case l7 => k_is); (case c7 => k_is); (case k7 => k_is); (case a8 => k_is); (case l8 => k_is); (case c8 => k_is); (case k8 => k_is); (case a9 => k_is); (case l9 => k_is); (case c9 => k_is); (case k9 => k_is); (case a10 => k_is); (case l10 => k_is); (case c10 => k_is); (case k10 => k_is); (case a11 => k_is); (case l11 => k_is); (case c11 => k_is); (case k11 => k_is); (case a12 => k_is); (case l12 => k_is); (case c12 => k_is); (case k12 => k_is); (case a13 => k_is); (case l13 => k_is); (case c13 => k_is); (case k13 => k_is); (case a14 => k_is); (case l14 => k_is); (case c14 => k_is); (case k14 => k_is); (case a15 => k_is); (case l15 => k_is); (case c15 => k_is); (case k15 => k_is); (case a16 => k_is); (case l16 => k_is); (case c16 => k_is); (case k16 => k_is); (case a17 => k_is); (case l17 => k_is); (case c17 => k_is); (case k17 => k_is); (case a18 => k_is); (case l18 => k_is); (case c18 => k_is); (case k18 => k_is); (case a19 => k_is); (case l19 => k_is); (case c19 => k_is); (case k19 => k_is); (case a20 => k_is); (case l20 => k_is); (case c20 => k_is); (case k20 => k_is); (case a21 => k_is); (case l21 => k_is); (case c21 => k_is); (case k21 => k_is); (case y_STRING => k_is); (case w_STRING => k_is); (case y_LARGEST_BOUND => k_is); (case z_abs => k_is); (case z_dict => k_is); (case z_int => k_is); (case z_len => k_is); (case z_list => k_is); (case z_max => k_is); (case z_min => k_is); (case z_range => k_is); (case z_repr => k_is); (case z_sum => k_is); (case z_tuple => k_is)

