import PyProof.Rows.All
import Wide.All
import OpenK.AllK
import Wide.FinOn
import HandS.Base
import HandS.Call
import HandS.List
import HandS.Ends
import HandS.Words
import HandS.WordsList
import HandS.Text
import HandS.Comp
import HandS.Iter
import HandS.Wide
import HandS.Exc
import HandS.RaiseOp
import HandS.StrMore
import HandS.TupLe
import HandS.Zip0
import HandS.Replace
import PyProof.Rows.RuleB_bool
import PyProof.FString5
import HandS.IsInst
import PySem.Challenge.RW_indoubt_k00_values_in_order
set_option Elab.async false
set_option linter.all false
set_option maxRecDepth 100000
set_option maxHeartbeats 4000000
namespace Ind
open PySem PySem.Spec PyProof.Rows L2
/-! ### heaps: all but the tape stands -/
def Fz (t : Addr) (H H' : Hp) : Prop := ∀ b o, b ≠ t → H b = some o → H' b = some o
theorem Fz.refl {t : Addr} {H : Hp} : Fz t H H := fun _ _ _ h => h
theorem Fz.trans {t : Addr} {H H1 H2 : Hp} (a : Fz t H H1) (b : Fz t H1 H2) : Fz t H H2 := fun c o n h => b c o n (a c o n h)
theorem Fz.of {t : Addr} {H H' : Hp} (a : Same H H') : Fz t H H' := fun b o _ h => a b o h
theorem Fz.upd {t : Addr} {H H' : Hp} {o : HO} (a : Fz t H H') : Fz t H (upd H' t o) := fun b u n h => by rw [upd_ne n]; exact a b u n h
theorem Fz.new {t p : Addr} {H H' : Hp} {o : HO} (a : Fz t H H') (n : H' p = none) : Fz t H (L2.upd H' p o) := fun b u nb h => by
  have e := a b u nb h
  rw [upd_ne (ne_of_none e n)]; exact e
theorem same_upd {H : Hp} {p : Addr} {o : HO} (h : H p = none) : Same H (upd H p o) := fun b x e => by
  rw [upd_ne (ne_of_none e h)]; exact e
theorem Same.new {p : Addr} {H H' : Hp} {o : HO} (a : Same H H') (n : H' p = none) : Same H (L2.upd H' p o) := a.trans (same_upd n)
theorem line {n : Nat} (h : n ≤ 1000) : n ≤ sizeLine := Nat.le_trans h (by decide)
/-! ### the tape -/
def TapeAt (H : Hp) (t : Addr) : Prop := ∃ (l : Addr) (ns : List Int) (p n s : Int),
  H t = some (.lst [.ref l, .int p, .int n, .int s]) ∧ H l = some (.lst (ns.map V.int)) ∧ ns.length ≤ 1000 ∧ 0 ≤ p ∧ 0 ≤ n ∧ 0 ≤ s ∧ s < 2147483647
theorem Tape.ne {H : Hp} {t l : Addr} {ns : List Int} {p n s : Int} (h : H t = some (.lst [.ref l, .int p, .int n, .int s])) (h' : H l = some (.lst (ns.map V.int))) : l ≠ t := fun e => by
  rw [e, h] at h'
  injection h' with h'
  injection h' with h'
  cases ns with
  | nil => cases h'
  | cons a r => injection h' with a1 a2; cases a1
theorem TapeAt.same {H H' : Hp} {t : Addr} (h : TapeAt H t) (e : Same H H') : TapeAt H' t := by
  obtain ⟨l, ns, p, n, s, h1, h2, h3⟩ := h
  exact ⟨l, ns, p, n, s, e _ _ h1, e _ _ h2, h3⟩
theorem TapeAt.new {H : Hp} {t p : Addr} {o : HO} (h : TapeAt H t) (n : H p = none) : TapeAt (upd H p o) t := h.same (same_upd n)
theorem TapeAt.there {H : Hp} {t : Addr} (h : TapeAt H t) : ∃ o, H t = some o := by
  obtain ⟨l, ns, p, n, s, h1, _⟩ := h
  exact ⟨_, h1⟩
/-- something that is no list stands apart from the tape -/
theorem TapeAt.neT {H : Hp} {t b : Addr} {xs : List V} (h : TapeAt H t) (e : H b = some (.tup xs)) : b ≠ t := by
  obtain ⟨l, ns, p, n, s, h1, _⟩ := h
  intro q
  rw [q, h1] at e
  cases e
theorem TapeAt.neN {H : Hp} {t b : Addr} (h : TapeAt H t) (e : H b = none) : b ≠ t := by
  obtain ⟨o, q⟩ := h.there
  exact fun z => by rw [z, q] at e; cases e
theorem rd {K : PySem.W.Frag} {H : Hp} {p : Addr} {xs : List V} {Q : VK} (h : H p = some (.lst xs)) (j : Nat) {v : V} (e : xs[j]? = some v) (q : Q v H) : rIxL K (.ref p) (.int (j : Int)) H Q := ⟨_, _, _, _, rfl, rfl, .of h, atI_nat e, q⟩
theorem rdT {K : PySem.W.Frag} {H : Hp} {p : Addr} {xs : List V} {Q : VK} (h : H p = some (.tup xs)) (j : Nat) {v : V} (e : xs[j]? = some v) (q : Q v H) : rIxT K (.ref p) (.int (j : Int)) H Q := ⟨_, _, _, _, rfl, rfl, .of h, atI_nat e, q⟩
theorem rdI {K : PySem.W.Frag} {H : Hp} {p : Addr} {xs : List V} {Q : VK} (h : H p = some (.lst xs)) {i : Int} (j : Nat) (ej : i = (j : Int)) {v : V} (e : xs[j]? = some v) (q : Q v H) : rIxL K (.ref p) (.int i) H Q := ⟨_, _, _, _, rfl, rfl, .of h, at_of ej e, q⟩
theorem wr {H : Hp} {p : Addr} {xs : List V} {Q : Hp → Prop} {v : V} (h : H p = some (.lst xs)) (j : Nat) (e : ixN xs.length (j : Int) = some j) (q : Q (upd H p (.lst (xs.set j v)))) : rSetL (.ref p) (.int (j : Int)) v H Q := ⟨_, _, _, _, rfl, rfl, h, e, q⟩
/-! ### promises -/
/-- what a draw may be asked for: a bound that can be divided by -/
def Dm (m : Int) : Prop := ∀ x : Int, CDivW x (if (2 : Int) > m then 2 else m)
theorem dm {m : Int} (h : m < 1606938044258990275541962092341162602522202993782792835301376) : Dm m := fun x => by
  refine wide_div (b := 200) ?_ ?_ (by decide) (by decide)
  · split <;> omega
  · have e : (2 : Nat) ^ 200 = 1606938044258990275541962092341162602522202993782792835301376 := by decide +kernel
    rw [e]
    split <;> omega
def spTape (K : PySem.W.Frag) : Sp := fun vs H Q _ => ∃ (a : Addr) (ns : List Int), vs = [.ref a] ∧ SqL K H a (ns.map V.int) ∧ ns.length ≤ 63 ∧
  ∀ H' t, Same H H' → H t = none → TapeAt H' t → Q (.ref t) H'
def spDraw : Sp := fun vs H Q _ => ∃ (t : Addr) (m : Int), vs = [.ref t, .int m] ∧ TapeAt H t ∧ Dm m ∧
  ∀ H' r, Fz t H H' → TapeAt H' t → 0 ≤ r → (r < m ∨ r < 1) → Q (.int r) H'
end Ind

set_option Elab.async false
set_option linter.all false
set_option maxRecDepth 100000
set_option maxHeartbeats 4000000
namespace Ind
open PySem PySem.Spec PyProof.Rows L2
theorem small_div {x j : Int} (h : 0 < j) (h2 : j < 1606938044258990275541962092341162602522202993782792835301376) : CDivW x j := by
  refine wide_div (b := 200) h ?_ (by decide) (by decide)
  have e : (2 : Nat) ^ 200 = 1606938044258990275541962092341162602522202993782792835301376 := by decide +kernel
  rw [e]
  omega
/-! ### texts -/
theorem codes_app (a y : PySem.Str) : (a ++ y).cps.toList = a.cps.toList ++ y.cps.toList := by
  cases a; cases y
  show (_ ++ _ : Array Nat).toList = _
  simp
theorem codes_len (a : PySem.Str) : a.length = a.cps.toList.length := (Array.length_toList).symm
theorem codes_one (c : Nat) : (⟨#[c]⟩ : PySem.Str).cps.toList = [c] := rfl
def Sgn (c : Nat) : Prop := 32 ≤ c ∧ c ≤ 126 ∧ c ≠ 37
instance (c : Nat) : Decidable (Sgn c) := inferInstanceAs (Decidable (32 ≤ c ∧ c ≤ 126 ∧ c ≠ 37))
def Sgns (x : PySem.Str) : Prop := ∀ c ∈ x.cps.toList, Sgn c
def TxtOk (x : PySem.Str) : Prop := x.length ≤ 20 ∧ Sgns x
theorem Sgns.app {x y : PySem.Str} (a : Sgns x) (b : Sgns y) : Sgns (x ++ y) := fun c h => by
  rw [codes_app] at h
  exact (List.mem_append.mp h).elim (a c) (b c)
theorem Sgns.one {c : Nat} (h : Sgn c) : Sgns ⟨#[c]⟩ := fun d hd => by
  have e : d = c := by simpa [codes_one] using hd
  rw [e]; exact h
theorem len_app (x y : PySem.Str) : (x ++ y).length = x.length + y.length := by
  rw [codes_len, codes_len, codes_len, codes_app, List.length_append]
theorem len_one (c : Nat) : (⟨#[c]⟩ : PySem.Str).length = 1 := rfl
abbrev sgA : PySem.Str := " !\"#$&'()*+,-./0123456789:;<=>?@ABCDEFGHIJKLMNOPQRSTUVWXYZ[\\]^_`"
abbrev sgB : PySem.Str := "abcdefghijklmnopqrstuvwxyz{|}~"
def sg : PySem.Str := sgA ++ sgB
theorem sg_codes : sg.cps.toList = (List.range' 32 5) ++ (List.range' 38 89) := by decide +kernel
theorem sg_len : sg.length = 94 := by rw [codes_len, sg_codes]; rfl
theorem sg_all : ∀ c ∈ sg.cps.toList, Sgn c := by rw [sg_codes]; decide +kernel
/-- an item of a written list of whole numbers -/
theorem pick {ns : List Int} {i : Int} (h0 : 0 ≤ i) (h1 : i < (ns.length : Int)) : ∃ x, atI (ns.map V.int) i = some (.int x) ∧ x ∈ ns := by
  have hlt : i.toNat < ns.length := by omega
  refine ⟨ns[i.toNat], at_of (show i = (i.toNat : Int) by omega) ?_, List.getElem_mem hlt⟩
  rw [List.getElem?_map, List.getElem?_eq_getElem hlt]
  rfl
theorem pickS {l : List Nat} {i : Int} (h0 : 0 ≤ i) (h1 : i < (l.length : Int)) : ∃ x, atI l i = some x ∧ x ∈ l := by
  have hlt : i.toNat < l.length := by omega
  have e := atI_nat (xs := l) (j := i.toNat) (v := l[i.toNat]) (List.getElem?_eq_getElem hlt)
  rw [show ((i.toNat : Nat) : Int) = i by omega] at e
  exact ⟨_, e, List.getElem_mem hlt⟩
theorem sg_pick {i : Int} (h0 : 0 ≤ i) (h1 : i < 94) : ∃ c, atI sg.cps.toList i = some c ∧ Sgn c := by
  obtain ⟨c, e, m⟩ := pickS (l := sg.cps.toList) h0 (by rw [← codes_len, sg_len]; omega)
  exact ⟨c, e, sg_all c m⟩
theorem sgns_nil : Sgns ("" : PySem.Str) := fun c h => by cases h
theorem quad_all : ∀ c ∈ ("abB' " : PySem.Str).cps.toList, Sgn c := by decide +kernel
theorem quad_len : ("abB' " : PySem.Str).cps.toList.length = 5 := by decide +kernel
theorem txt_push {x : PySem.Str} {c : Nat} (hs : Sgns x) (h : Sgn c) : Sgns (x ++ ⟨#[c]⟩) := hs.app (.one h)
theorem len_push {x : PySem.Str} {c n : Nat} (h : x.length ≤ n) : (x ++ (⟨#[c]⟩ : PySem.Str)).length ≤ n + 1 := by rw [len_app, len_one]; omega
def sgIx (c : Nat) : Nat := if c < 37 then c - 32 else c - 33
theorem sg_occ : ∀ c, c < 127 → Sgn c → Builtin.Str.occurrences sg ⟨#[c]⟩ 0 sg.length 1 = [sgIx c] := by decide +kernel
theorem sg_index {c : Nat} (h : Sgn c) : Builtin.Str.occurrences sg ⟨#[c]⟩ 0 sg.length 1 = sgIx c :: [] := sg_occ c (by have := h.2.1; omega) h
theorem sgIx_lt {c d : Nat} (h : Sgn c) (k : Sgn d) : sgIx c < sgIx d ↔ c < d := by
  obtain ⟨a1, a2, a3⟩ := h
  obtain ⟨b1, b2, b3⟩ := k
  unfold sgIx
  split <;> split <;> omega
/-! ### slices of texts -/
theorem cut_lo (z : PySem.Str) (k : Nat) (h : k ≤ z.length) : (cutS z none (some (k : Int))).cps.toList = z.cps.toList.take k := by
  unfold cutS
  rw [show HT.sIx z.length z.length (some (k : Int)) = min k z.length from HT.sIx_nat _ _ _, HT.sIx_none, Nat.min_eq_left h]
  simp
theorem cut_hi (z : PySem.Str) (k : Nat) : (cutS z (some (k : Int)) none).cps.toList = z.cps.toList.drop (min k z.length) := by
  unfold cutS
  rw [show HT.sIx z.length 0 (some (k : Int)) = min k z.length from HT.sIx_nat _ _ _, HT.sIx_none]
  show (List.take _ _).toArray.toList = _
  rw [List.take_of_length_le]
  rw [List.length_drop, codes_len]
  exact Nat.le_refl _
theorem cut_sgns {z : PySem.Str} {lo hi : Option Int} (h : Sgns z) : Sgns (cutS z lo hi) := fun c m => by
  unfold cutS at m
  exact h c (List.mem_of_mem_drop (List.mem_of_mem_take (by simpa using m)))
theorem cut_len_hi (z : PySem.Str) (k : Nat) : (cutS z none (some (k : Int))).length ≤ k := by
  rw [codes_len]
  unfold cutS
  rw [show HT.sIx z.length z.length (some (k : Int)) = min k z.length from HT.sIx_nat _ _ _, HT.sIx_none]
  show (List.take _ _).toArray.toList.length ≤ _
  rw [List.length_take]
  omega
/-! ### values: whole numbers and texts -/
def ValOk : V → Prop
  | .int _ => True
  | .str x => TxtOk x
  | _ => False
def kindB : V → Bool
  | .str _ => true
  | _ => false
theorem dec_ii {i j : Int} : decide (V.int i = V.int j) = decide (i = j) := by
  by_cases e : i = j
  · subst e; simp
  · simp [e]
def vLt : V → V → Bool
  | .int i, .int j => decide (i < j)
  | .int _, .str _ => true
  | .str x, .str y => decide (x.cps.toList < y.cps.toList)
  | _, _ => false
theorem ValOk.cases {v : V} (h : ValOk v) : (∃ i, v = .int i) ∨ ∃ x, v = .str x ∧ TxtOk x := by
  cases v with
  | int i => exact .inl ⟨i, rfl⟩
  | str x => exact .inr ⟨x, rfl, h⟩
  | _ => exact h.elim
def spText : Sp := fun vs H Q _ => ∃ (t : Addr), vs = [.ref t] ∧ TapeAt H t ∧ ∀ H' x, Fz t H H' → TapeAt H' t → TxtOk x → Q (.str x) H'
def spAny : Sp := fun vs H Q _ => ∃ (t : Addr), vs = [.ref t] ∧ TapeAt H t ∧ ∀ H' v, Fz t H H' → TapeAt H' t → ValOk v → Q v H'
def spNear : Sp := fun vs H Q _ => ∃ (t : Addr) (x : V), vs = [.ref t, x] ∧ ValOk x ∧ TapeAt H t ∧ ∀ H' v, Fz t H H' → TapeAt H' t → ValOk v → Q v H'
def spSigns : Sp := fun vs H Q _ => vs = [] ∧ Q (.str sg) H
def spBefore : Sp := fun vs H Q _ => ∃ x y, vs = [x, y] ∧ ValOk x ∧ ValOk y ∧ ∀ H', Same H H' → Q (.bl (vLt x y)) H'
def spIs : Sp := fun vs H Q _ => ∃ x y : Int, vs = [.int x, .int y] ∧ Q (.bl (decide (x = y))) H
def spKey : Sp := fun vs H Q _ => ∃ x, vs = [x] ∧ ValOk x ∧ ∀ p, H p = none → Q (.ref p) (upd H p (.tup [.bl (kindB x), x]))
def spCmp : Sp := fun vs H Q _ => ∃ x y, vs = [x, y] ∧ ValOk x ∧ ValOk y ∧ ∀ H', Same H H' → Q (.int (if vLt x y then -1 else if vLt y x then 1 else 0)) H'
def spLaw (K : PySem.W.Frag) : Sp := fun vs H Q _ => ∃ (a : Addr) (ns : List Int), vs = [.ref a] ∧ SqL K H a (ns.map V.int) ∧ ns.length ≤ 63 ∧ ∀ H', Q (.bl true) H'
end Ind

set_option Elab.async false
set_option linter.all false
set_option maxRecDepth 100000
set_option maxHeartbeats 4000000
namespace IndCmp
open PySem PySem.SeqAt Ob
open PySem.AutoSeq1 (wpAny_loadPart')
open PySem.MeetsSeq PySem.MeetsSeq2 PySem.MeetsSeq3

theorem ltAt (l b : Addr) (xs ys : Array Value) (n n2 : Nat) (dd dd2 : Option Addr) (sl sl2 : Array (Option Value)) (e r : Nat → Bool) :
    Meets (Builtin.«tuple.__lt__» ⟨[.ref l, .ref b], []⟩) (fun A R s =>
      (s.heap.get? l = some { cls := .type "tuple", dict := dd, data := .seq xs n, slots := sl }) ∧
      (s.heap.get? b = some { cls := .type "tuple", dict := dd2, data := .seq ys n2, slots := sl2 }) ∧
      (∀ j (h1 : j < xs.size) (h2 : j < ys.size), EqAt A.in1 s xs[j] ys[j] (e j)) ∧
      (∀ j (h1 : j < xs.size) (h2 : j < ys.size), (∀ k, k < j → e k = true) → e j = false → RcOp .Lt A.in1 s xs[j] ys[j] (r j)) ∧
      R (.ok (.ret (.bool (lexAt e r (decide (xs.size < ys.size)) 0 (min xs.size ys.size))))) s) :=
  .of_wp fun prog w A R s hh => by
    obtain ⟨hp, g, d, tk, os⟩ := s
    obtain ⟨a1, a2, qe, qr, hh⟩ := hh
    have sb := AutoSeq1.sub_tuple_tuple
    have zz : (xs.toList.zip ys.toList).length = min xs.size ys.size := by simp
    wp_walk using wpAny_loadPart' a1, wpAny_loadPart' a2, wpAny_forIn_list _ (fun rest b s' =>
      b.1 = none ∧ s' = ⟨hp, g, d, tk, os⟩ ∧ ∃ i, rest = (xs.toList.zip ys.toList).drop i ∧ (∀ k, k < i → e k = true) ∧
      R (.ok (.ret (.bool (lexAt e r (decide (xs.size < ys.size)) i (min xs.size ys.size - i))))) ⟨hp, g, d, tk, os⟩) _
    case turn =>
      rintro ⟨y, x⟩ rest b s' ⟨nb, rfl, i, hz, before, goal⟩
      have il : i < (xs.toList.zip ys.toList).length := by
        by_cases c : i < (xs.toList.zip ys.toList).length
        · exact c
        · rw [List.drop_of_length_le (by omega)] at hz
          cases hz
      have im : i < min xs.size ys.size := by omega
      have i1 : i < xs.size := by omega
      have i2 : i < ys.size := by omega
      rw [List.drop_eq_getElem_cons il] at hz
      injection hz with pr tl
      have ey : y = xs[i] := by have t1 := congrArg Prod.fst pr; simpa using t1
      have ex : x = ys[i] := by have t1 := congrArg Prod.snd pr; simpa using t1
      subst ey ex
      have step : min xs.size ys.size - i = (min xs.size ys.size - (i + 1)) + 1 := by omega
      rw [step, lexAt_succ] at goal
      refine wpAny_bind (qe i i1 i2 prog w _ _ ?_)
      cases c : e i with
      | true =>
        rw [c, if_pos rfl] at goal
        wp_walk
        refine ⟨rfl, rfl, i + 1, tl, fun k hk => ?_, goal⟩
        by_cases ki : k = i
        · rw [ki]; exact c
        · exact before k (by omega)
      | false =>
        rw [c, if_neg Bool.false_ne_true] at goal
        have now := qr i i1 i2 before c prog w
        wp_walk using now
        exact ⟨_, rfl, by simpa using goal⟩
    case fin =>
      rintro ⟨b1, b2⟩ s' ⟨nb, rfl, i, hz, before, goal⟩
      simp only at nb
      subst nb
      have le : min xs.size ys.size ≤ i := by
        by_cases c : i < (xs.toList.zip ys.toList).length
        · rw [List.drop_eq_getElem_cons c] at hz
          cases hz
        · omega
      rw [Nat.sub_eq_zero_of_le le, lexAt_zero] at goal
      wp_walk
      exact ⟨_, rfl, by simpa [Builtin.Tuple.tupleCompareSizes] using goal⟩
    case h =>
      exact ⟨rfl, rfl, 0, rfl, fun k hk => absurd hk (Nat.not_lt_zero _), by simpa using hh⟩
theorem rc_lt {A : Around} {s : Shared} {l b : Addr} {xs ys : Array Value} {e r : Nat → Bool} (hl : s.heap.IsTuple l xs) (hb : s.heap.IsTuple b ys) (room : A.units < cLine)
    (qe : ∀ j (h1 : j < xs.size) (h2 : j < ys.size), EqAt A.in1 s xs[j] ys[j] (e j))
    (qr : ∀ j (h1 : j < xs.size) (h2 : j < ys.size), (∀ k, k < j → e k = true) → e j = false → RcOp .Lt A.in1 s xs[j] ys[j] (r j)) :
    RcOp .Lt A s (.ref l) (.ref b) (lexAt e r (decide (xs.size < ys.size)) 0 (min xs.size ys.size)) := fun prog w E Q hq => by
  obtain ⟨⟨c1, dd, da, sl⟩, o1, hc, n, hd⟩ := id hl
  obtain ⟨⟨c2, dd2, da2, sl2⟩, o2, hc2, n2, hd2⟩ := id hb
  simp only at hc hd hc2 hd2
  subst hc hd hc2 hd2
  refine richCompare_meets_room (op := .Lt) ⟨_, o1, rfl⟩ ⟨_, o2, rfl⟩ F.slot_tuple_lt F.entry_tuple_lt
    (F.args_tuple_lt_2 _ _) (ltAt l b xs ys n n2 dd dd2 sl sl2 e r) ⟨o1, o2, qe, qr, ?_⟩ room
  exact ⟨(fun x => nomatch x), hq⟩

theorem gtAt (l b : Addr) (xs ys : Array Value) (n n2 : Nat) (dd dd2 : Option Addr) (sl sl2 : Array (Option Value)) (e r : Nat → Bool) :
    Meets (Builtin.«tuple.__gt__» ⟨[.ref l, .ref b], []⟩) (fun A R s =>
      (s.heap.get? l = some { cls := .type "tuple", dict := dd, data := .seq xs n, slots := sl }) ∧
      (s.heap.get? b = some { cls := .type "tuple", dict := dd2, data := .seq ys n2, slots := sl2 }) ∧
      (∀ j (h1 : j < xs.size) (h2 : j < ys.size), EqAt A.in1 s xs[j] ys[j] (e j)) ∧
      (∀ j (h1 : j < xs.size) (h2 : j < ys.size), (∀ k, k < j → e k = true) → e j = false → RcOp .Gt A.in1 s xs[j] ys[j] (r j)) ∧
      R (.ok (.ret (.bool (lexAt e r (decide (xs.size > ys.size)) 0 (min xs.size ys.size))))) s) :=
  .of_wp fun prog w A R s hh => by
    obtain ⟨hp, g, d, tk, os⟩ := s
    obtain ⟨a1, a2, qe, qr, hh⟩ := hh
    have sb := AutoSeq1.sub_tuple_tuple
    have zz : (xs.toList.zip ys.toList).length = min xs.size ys.size := by simp
    wp_walk using wpAny_loadPart' a1, wpAny_loadPart' a2, wpAny_forIn_list _ (fun rest b s' =>
      b.1 = none ∧ s' = ⟨hp, g, d, tk, os⟩ ∧ ∃ i, rest = (xs.toList.zip ys.toList).drop i ∧ (∀ k, k < i → e k = true) ∧
      R (.ok (.ret (.bool (lexAt e r (decide (xs.size > ys.size)) i (min xs.size ys.size - i))))) ⟨hp, g, d, tk, os⟩) _
    case turn =>
      rintro ⟨y, x⟩ rest b s' ⟨nb, rfl, i, hz, before, goal⟩
      have il : i < (xs.toList.zip ys.toList).length := by
        by_cases c : i < (xs.toList.zip ys.toList).length
        · exact c
        · rw [List.drop_of_length_le (by omega)] at hz
          cases hz
      have im : i < min xs.size ys.size := by omega
      have i1 : i < xs.size := by omega
      have i2 : i < ys.size := by omega
      rw [List.drop_eq_getElem_cons il] at hz
      injection hz with pr tl
      have ey : y = xs[i] := by have t1 := congrArg Prod.fst pr; simpa using t1
      have ex : x = ys[i] := by have t1 := congrArg Prod.snd pr; simpa using t1
      subst ey ex
      have step : min xs.size ys.size - i = (min xs.size ys.size - (i + 1)) + 1 := by omega
      rw [step, lexAt_succ] at goal
      refine wpAny_bind (qe i i1 i2 prog w _ _ ?_)
      cases c : e i with
      | true =>
        rw [c, if_pos rfl] at goal
        wp_walk
        refine ⟨rfl, rfl, i + 1, tl, fun k hk => ?_, goal⟩
        by_cases ki : k = i
        · rw [ki]; exact c
        · exact before k (by omega)
      | false =>
        rw [c, if_neg Bool.false_ne_true] at goal
        have now := qr i i1 i2 before c prog w
        wp_walk using now
        exact ⟨_, rfl, by simpa using goal⟩
    case fin =>
      rintro ⟨b1, b2⟩ s' ⟨nb, rfl, i, hz, before, goal⟩
      simp only at nb
      subst nb
      have le : min xs.size ys.size ≤ i := by
        by_cases c : i < (xs.toList.zip ys.toList).length
        · rw [List.drop_eq_getElem_cons c] at hz
          cases hz
        · omega
      rw [Nat.sub_eq_zero_of_le le, lexAt_zero] at goal
      wp_walk
      exact ⟨_, rfl, by simpa [Builtin.Tuple.tupleCompareSizes] using goal⟩
    case h =>
      exact ⟨rfl, rfl, 0, rfl, fun k hk => absurd hk (Nat.not_lt_zero _), by simpa using hh⟩
theorem rc_gt {A : Around} {s : Shared} {l b : Addr} {xs ys : Array Value} {e r : Nat → Bool} (hl : s.heap.IsTuple l xs) (hb : s.heap.IsTuple b ys) (room : A.units < cLine)
    (qe : ∀ j (h1 : j < xs.size) (h2 : j < ys.size), EqAt A.in1 s xs[j] ys[j] (e j))
    (qr : ∀ j (h1 : j < xs.size) (h2 : j < ys.size), (∀ k, k < j → e k = true) → e j = false → RcOp .Gt A.in1 s xs[j] ys[j] (r j)) :
    RcOp .Gt A s (.ref l) (.ref b) (lexAt e r (decide (xs.size > ys.size)) 0 (min xs.size ys.size)) := fun prog w E Q hq => by
  obtain ⟨⟨c1, dd, da, sl⟩, o1, hc, n, hd⟩ := id hl
  obtain ⟨⟨c2, dd2, da2, sl2⟩, o2, hc2, n2, hd2⟩ := id hb
  simp only at hc hd hc2 hd2
  subst hc hd hc2 hd2
  refine richCompare_meets_room (op := .Gt) ⟨_, o1, rfl⟩ ⟨_, o2, rfl⟩ F.slot_tuple_gt F.entry_tuple_gt
    (F.args_tuple_gt_2 _ _) (gtAt l b xs ys n n2 dd dd2 sl sl2 e r) ⟨o1, o2, qe, qr, ?_⟩ room
  exact ⟨(fun x => nomatch x), hq⟩

end IndCmp

set_option Elab.async false
set_option linter.all false
set_option maxRecDepth 100000
set_option maxHeartbeats 4000000
namespace Ind
open PySem PySem.Spec PyProof.Rows L2
theorem lex_irr (l : List Nat) : ¬ l < l := List.lt_irrefl l
theorem vLt_irr (v : V) : vLt v v = false := by
  cases v with
  | int i => simp [vLt]
  | str x => simp [vLt]
  | _ => rfl
/-- == of such values -/
theorem eqAt_val {A : Around} {s : Shared} {u v : V} {a b : Value} (hu : ValOk u) (hv : ValOk v) (ra : RelV u a) (rb : RelV v b) : SeqAt.EqAt A s a b (decide (u = v)) := by
  rcases hu.cases with ⟨i, rfl⟩ | ⟨x, rfl, _⟩ <;> rcases hv.cases with ⟨j, rfl⟩ | ⟨y, rfl, _⟩
  · obtain ⟨t, rfl⟩ := ra
    obtain ⟨t', rfl⟩ := rb
    rw [dec_int]
    exact SeqAt.EqAt.int_int _ _ _ _
  · obtain ⟨t, rfl⟩ := ra
    obtain ⟨t', rfl⟩ := rb
    rw [decide_eq_false (fun z => nomatch z)]
    exact fun prog w E Q h => SeqAt.EqAt.int_str i t y t' _ _ _ _ h
  · obtain ⟨t, rfl⟩ := ra
    obtain ⟨t', rfl⟩ := rb
    rw [decide_eq_false (fun z => nomatch z)]
    exact fun prog w E Q h => SeqAt.EqAt.str_int x t j t' _ _ _ _ h
  · obtain ⟨t, rfl⟩ := ra
    obtain ⟨t', rfl⟩ := rb
    rw [dec_str]
    exact SeqAt.EqAt.str_str _ _ _ _
theorem rc_lt_val {A : Around} {s : Shared} {u v : V} {a b : Value} (hu : ValOk u) (hv : ValOk v) (ra : RelV u a) (rb : RelV v b) (k : kindB u = kindB v) : Ob.RcOp .Lt A s a b (vLt u v) := by
  rcases hu.cases with ⟨i, rfl⟩ | ⟨x, rfl, _⟩ <;> rcases hv.cases with ⟨j, rfl⟩ | ⟨y, rfl, _⟩
  · obtain ⟨t, rfl⟩ := ra
    obtain ⟨t', rfl⟩ := rb
    exact .lt_int _ _ _ _
  · cases k
  · cases k
  · obtain ⟨t, rfl⟩ := ra
    obtain ⟨t', rfl⟩ := rb
    exact fun _ _ _ _ h => PyProof.Rows.lt_str h
theorem rc_gt_val {A : Around} {s : Shared} {u v : V} {a b : Value} (hu : ValOk u) (hv : ValOk v) (ra : RelV u a) (rb : RelV v b) (k : kindB u = kindB v) : Ob.RcOp .Gt A s a b (vLt v u) := by
  rcases hu.cases with ⟨i, rfl⟩ | ⟨x, rfl, _⟩ <;> rcases hv.cases with ⟨j, rfl⟩ | ⟨y, rfl, _⟩
  · obtain ⟨t, rfl⟩ := ra
    obtain ⟨t', rfl⟩ := rb
    exact .gt_int _ _ _ _
  · cases k
  · cases k
  · obtain ⟨t, rfl⟩ := ra
    obtain ⟨t', rfl⟩ := rb
    exact fun _ _ _ _ h => PySem.P.gt_str h
theorem pair_lex {u v : V} (hu : ValOk u) (hv : ValOk v) (r1 : Bool) (h : kindB u = kindB v → r1 = vLt u v) :
    Ob.lexAt (fun j => if j = 0 then kindB u == kindB v else decide (u = v)) (fun j => if j = 0 then decide (b2i (kindB u) < b2i (kindB v)) else r1) (decide (2 < 2)) 0 (min 2 2) = vLt u v := by
  rcases hu.cases with ⟨i, rfl⟩ | ⟨x, rfl, _⟩ <;> rcases hv.cases with ⟨j, rfl⟩ | ⟨y, rfl, _⟩
  · rw [h rfl]
    by_cases e : i = j
    · subst e; simp [Ob.lexAt, vLt]
    · simp [Ob.lexAt, vLt, kindB, e]
  · simp [Ob.lexAt, vLt, kindB, b2i]
  · simp [Ob.lexAt, vLt, kindB, b2i]
  · rw [h rfl]
    by_cases e : x = y
    · subst e; simp [Ob.lexAt, vLt]
    · simp [Ob.lexAt, vLt, kindB, e]
theorem pair_lex2 {u v : V} (hu : ValOk u) (hv : ValOk v) (r1 : Bool) (h : kindB u = kindB v → r1 = vLt v u) :
    Ob.lexAt (fun j => if j = 0 then kindB u == kindB v else decide (u = v)) (fun j => if j = 0 then decide (b2i (kindB u) > b2i (kindB v)) else r1) (decide (2 > 2)) 0 (min 2 2) = vLt v u := by
  rcases hu.cases with ⟨i, rfl⟩ | ⟨x, rfl, _⟩ <;> rcases hv.cases with ⟨j, rfl⟩ | ⟨y, rfl, _⟩
  · rw [h rfl]
    by_cases e : i = j
    · subst e; simp [Ob.lexAt, vLt]
    · simp [Ob.lexAt, vLt, kindB, e]
  · simp [Ob.lexAt, vLt, kindB, b2i]
  · simp [Ob.lexAt, vLt, kindB, b2i]
  · rw [h rfl]
    by_cases e : x = y
    · subst e; simp [Ob.lexAt, vLt]
    · simp [Ob.lexAt, vLt, kindB, e]
theorem pair_of {k : Bool} {u : V} {its : List Value} (r : Vals [V.bl k, u] its) : ∃ a, its = [Value.bool k, a] ∧ RelV u a := by
  obtain ⟨a, b, rfl, r1, r2⟩ := vals2 r
  cases (show a = Value.bool k from r1)
  exact ⟨b, rfl, r2⟩
def rKeyL (K : PySem.W.Frag) : R2 := fun x y H Q => ∃ a b u v, x = .ref a ∧ y = .ref b ∧ ValOk u ∧ ValOk v ∧ H a = some (.tup [.bl (kindB u), u]) ∧ H b = some (.tup [.bl (kindB v), v]) ∧ Q (.bl (vLt u v)) H
def rKeyG (K : PySem.W.Frag) : R2 := fun x y H Q => ∃ a b u v, x = .ref a ∧ y = .ref b ∧ ValOk u ∧ ValOk v ∧ H a = some (.tup [.bl (kindB u), u]) ∧ H b = some (.tup [.bl (kindB v), v]) ∧ Q (.bl (vLt v u)) H
section
variable {X : Cx}
theorem op_lt_key (hu : X.A.units < cLine) : OpR X (compareOp .Lt) (rKeyL X.K) := by
  intro pins s σ H x y v u Q I rx ry h
  obtain ⟨a, b, p, q, rfl, rfl, hp, hq, ha, hb, fin⟩ := h
  cases rx
  cases ry
  obtain ⟨its, r1, p1, _⟩ := I.tuple (SqT.of ha)
  obtain ⟨its2, r2, p2, _⟩ := I.tuple (SqT.of hb)
  obtain ⟨va, rfl, ra⟩ := pair_of r1
  obtain ⟨vb, rfl, rb⟩ := pair_of r2
  have R := IndCmp.rc_lt (A := X.A) (s := s) (e := fun j => if j = 0 then kindB p == kindB q else decide (p = q)) (r := fun j => if j = 0 then decide (b2i (kindB p) < b2i (kindB q)) else vLt p q) p1 p2 hu
    (fun j h1 h2 => match j, h1, h2 with
      | 0, _, _ => SeqAt.EqAt.bool_bool _ _
      | 1, _, _ => eqAt_val hp hq ra rb)
    (fun j h1 h2 bef ne => match j, h1, h2, bef, ne with
      | 0, _, _, _, _ => fun _ _ _ _ h => PyProof.Rows.lt_bool h
      | 1, _, _, bef, _ => rc_lt_val hp hq ra rb (by have := bef 0 (by decide); simpa using this))
  rw [show ([Value.bool (kindB p), va].toArray.size) = 2 from rfl, show ([Value.bool (kindB q), vb].toArray.size) = 2 from rfl, pair_lex hp hq (vLt p q) (fun _ => rfl)] at R
  have z : wpAny (model X.prog X.w) X.A (compareOp .Lt (.ref a) (.ref b)) (EP X pins σ Q) X.xe s := R X.prog X.w X.xe (EP X pins σ Q) ⟨.bl _, H, I, rfl, fin⟩
  exact z
theorem op_gt_key (hu : X.A.units < cLine) : OpR X (compareOp .Gt) (rKeyG X.K) := by
  intro pins s σ H x y v u Q I rx ry h
  obtain ⟨a, b, p, q, rfl, rfl, hp, hq, ha, hb, fin⟩ := h
  cases rx
  cases ry
  obtain ⟨its, r1, p1, _⟩ := I.tuple (SqT.of ha)
  obtain ⟨its2, r2, p2, _⟩ := I.tuple (SqT.of hb)
  obtain ⟨va, rfl, ra⟩ := pair_of r1
  obtain ⟨vb, rfl, rb⟩ := pair_of r2
  have R := IndCmp.rc_gt (A := X.A) (s := s) (e := fun j => if j = 0 then kindB p == kindB q else decide (p = q)) (r := fun j => if j = 0 then decide (b2i (kindB p) > b2i (kindB q)) else vLt q p) p1 p2 hu
    (fun j h1 h2 => match j, h1, h2 with
      | 0, _, _ => SeqAt.EqAt.bool_bool _ _
      | 1, _, _ => eqAt_val hp hq ra rb)
    (fun j h1 h2 bef ne => match j, h1, h2, bef, ne with
      | 0, _, _, _, _ => fun _ _ _ _ h => PyProof.Rows.gt_bool h
      | 1, _, _, bef, _ => rc_gt_val hp hq ra rb (by have := bef 0 (by decide); simpa using this))
  rw [show ([Value.bool (kindB p), va].toArray.size) = 2 from rfl, show ([Value.bool (kindB q), vb].toArray.size) = 2 from rfl, pair_lex2 hp hq (vLt q p) (fun _ => rfl)] at R
  have z : wpAny (model X.prog X.w) X.A (compareOp .Gt (.ref a) (.ref b)) (EP X pins σ Q) X.xe s := R X.prog X.w X.xe (EP X pins σ Q) ⟨.bl _, H, I, rfl, fin⟩
  exact z
end
end Ind

set_option Elab.async false
set_option linter.all false
set_option maxRecDepth 100000
set_option maxHeartbeats 4000000
namespace Ind
open PySem PySem.Spec PyProof.Rows L2
theorem k_int_int : kitB "int" "int" = some true := by decide +kernel
theorem k_int_str : kitB "int" "str" = some false := by decide +kernel
theorem k_str_str : kitB "str" "str" = some true := by decide +kernel
theorem k_str_int : kitB "str" "int" = some false := by decide +kernel
theorem k_int_bool : kitB "int" "bool" = some false := by decide +kernel
theorem k_bool_int : kitB "bool" "int" = some true := by decide +kernel
theorem k_bool_bool : kitB "bool" "bool" = some true := by decide +kernel
theorem k_tup_tup : kitB "tuple" "tuple" = some true := by decide +kernel
/-! ### the order of texts, sign by sign -/
theorem lt_at : ∀ (a b : List Nat) (i : Nat) (c d : Nat), a.take i = b.take i → a[i]? = some c → b[i]? = some d → c ≠ d → (a < b ↔ c < d)
  | [], _, i, c, d, _, h, _, _ => by simp at h
  | _ :: _, [], i, c, d, _, _, h, _ => by simp at h
  | x :: a, y :: b, 0, c, d, _, h, k, ne => by
    have e1 : x = c := by simpa using h
    have e2 : y = d := by simpa using k
    subst e1 e2
    rw [List.cons_lt_cons_iff]
    constructor
    · rintro (q | ⟨q, _⟩)
      · exact q
      · exact absurd q ne
    · exact fun q => .inl q
  | x :: a, y :: b, i + 1, c, d, t, h, k, ne => by
    have t' : x = y ∧ a.take i = b.take i := by simpa using t
    have ih := lt_at a b i c d t'.2 (by simpa using h) (by simpa using k) ne
    rw [List.cons_lt_cons_iff, ← ih]
    constructor
    · rintro (q | ⟨_, q⟩)
      · exact absurd (t'.1 ▸ q) (Nat.lt_irrefl _)
      · exact q
    · exact fun q => .inr ⟨t'.1, q⟩
theorem lt_end : ∀ (a b : List Nat), a.take (min a.length b.length) = b.take (min a.length b.length) → (a < b ↔ a.length < b.length)
  | [], [], _ => by simp
  | [], y :: b, _ => by simp
  | x :: a, [], _ => by simp
  | x :: a, y :: b, t => by
    have t' : x = y ∧ a.take (min a.length b.length) = b.take (min a.length b.length) := by
      have e : min (x :: a).length (y :: b).length = min a.length b.length + 1 := by simp
      rw [e] at t
      simpa using t
    have ih := lt_end a b t'.2
    rw [List.cons_lt_cons_iff, List.length_cons, List.length_cons]
    constructor
    · rintro (q | ⟨_, q⟩)
      · exact absurd (t'.1 ▸ q) (Nat.lt_irrefl _)
      · exact Nat.succ_lt_succ (ih.mp q)
    · exact fun q => .inr ⟨t'.1, ih.mpr (Nat.lt_of_succ_lt_succ q)⟩
theorem take_next {a b : List Nat} {i c : Nat} (t : a.take i = b.take i) (h : a[i]? = some c) (k : b[i]? = some c) : a.take (i + 1) = b.take (i + 1) := by
  rw [List.take_add_one, List.take_add_one, t, h, k]
theorem vLt_tri {u v : V} (hu : ValOk u) (hv : ValOk v) : (if vLt u v then (-1 : Int) else if vLt v u then 1 else 0) = -(if vLt v u then (-1 : Int) else if vLt u v then 1 else 0) := by
  by_cases a : vLt u v = true <;> by_cases b : vLt v u = true
  · exfalso
    rcases hu.cases with ⟨i, rfl⟩ | ⟨x, rfl, _⟩ <;> rcases hv.cases with ⟨j, rfl⟩ | ⟨y, rfl, _⟩
    · simp [vLt] at a b; omega
    · simp [vLt] at a b
    · simp [vLt] at a b
    · simp [vLt] at a b
      exact absurd (List.lt_trans a b) (List.lt_irrefl _)
  all_goals simp [a, b]
theorem vLt_not_both {u v : V} (hu : ValOk u) (hv : ValOk v) (a : vLt u v = true) (b : vLt v u = true) : False := by
  rcases hu.cases with ⟨i, rfl⟩ | ⟨x, rfl, _⟩ <;> rcases hv.cases with ⟨j, rfl⟩ | ⟨y, rfl, _⟩
  · simp [vLt] at a b; omega
  · simp [vLt] at a b
  · simp [vLt] at a b
  · simp [vLt] at a b
    exact absurd (List.lt_trans a b) (List.lt_irrefl _)
theorem one_txt {c d : Nat} : decide (V.str ⟨#[c]⟩ = V.str ⟨#[d]⟩) = decide (c = d) := by
  by_cases e : c = d
  · subst e; simp
  · rw [decide_eq_false e, decide_eq_false]
    intro z
    injection z with z
    injection z with z
    exact e (by simpa using z)
theorem qb {Q : VK} {b : Bool} {H : Hp} (e : b = true) (q : ∀ H', Q (.bl true) H') : Q (.bl b) H := by rw [e]; exact q H
end Ind

set_option Elab.async false
set_option linter.all false
set_option maxRecDepth 100000
set_option maxHeartbeats 4000000
namespace Ind
open PySem PySem.Spec PyProof.Rows L2
def top (i : Nat) : Stmt := PySem.Challenge.pw_indoubt_k00_values_in_order.main.body.getD i (.Pass ⟨0, 0, 0, 0⟩)
abbrev s_compare_values : Stmt := top 1
abbrev N_compare_values : List Str := ["left", "right", "left_key", "right_key"]
theorem sc_compare_values : FnScope N_compare_values ["left", "right"] (defScope s_compare_values) := ⟨rfl, rfl, rfl, by decide +kernel, rfl, by decide +kernel, by decide +kernel⟩
abbrev s__value_key : Stmt := top 2
abbrev N__value_key : List Str := ["value"]
theorem sc__value_key : FnScope N__value_key ["value"] (defScope s__value_key) := ⟨rfl, rfl, rfl, by decide +kernel, rfl, by decide +kernel, by decide +kernel⟩
abbrev s__law_tape : Stmt := top 4
abbrev N__law_tape : List Str := ["script", "total", "cell"]
theorem sc__law_tape : FnScope N__law_tape ["script"] (defScope s__law_tape) := ⟨rfl, rfl, rfl, by decide +kernel, rfl, by decide +kernel, by decide +kernel⟩
abbrev s__law_draw : Stmt := top 5
abbrev N__law_draw : List Str := ["tape", "many", "place", "number"]
theorem sc__law_draw : FnScope N__law_draw ["tape", "many"] (defScope s__law_draw) := ⟨rfl, rfl, rfl, by decide +kernel, rfl, by decide +kernel, by decide +kernel⟩
abbrev s__law_signs : Stmt := top 6
abbrev N__law_signs : List Str := ["signs"]
theorem sc__law_signs : FnScope N__law_signs [] (defScope s__law_signs) := ⟨rfl, rfl, rfl, by decide +kernel, rfl, by decide +kernel, by decide +kernel⟩
abbrev s__law_text : Stmt := top 7
abbrev N__law_text : List Str := ["tape", "number", "share", "text", "k"]
theorem sc__law_text : FnScope N__law_text ["tape"] (defScope s__law_text) := ⟨rfl, rfl, rfl, by decide +kernel, rfl, by decide +kernel, by decide +kernel⟩
abbrev s__law_any : Stmt := top 8
abbrev N__law_any : List Str := ["tape", "number", "share"]
theorem sc__law_any : FnScope N__law_any ["tape"] (defScope s__law_any) := ⟨rfl, rfl, rfl, by decide +kernel, rfl, by decide +kernel, by decide +kernel⟩
abbrev s__law_near : Stmt := top 9
abbrev N__law_near : List Str := ["tape", "value", "at", "sign"]
theorem sc__law_near : FnScope N__law_near ["tape", "value"] (defScope s__law_near) := ⟨rfl, rfl, rfl, by decide +kernel, rfl, by decide +kernel, by decide +kernel⟩
abbrev s__law_comes_before : Stmt := top 10
abbrev N__law_comes_before : List Str := ["left", "right", "signs", "k"]
theorem sc__law_comes_before : FnScope N__law_comes_before ["left", "right"] (defScope s__law_comes_before) := ⟨rfl, rfl, rfl, by decide +kernel, rfl, by decide +kernel, by decide +kernel⟩
abbrev s__law_is : Stmt := top 11
abbrev N__law_is : List Str := ["told", "due"]
theorem sc__law_is : FnScope N__law_is ["told", "due"] (defScope s__law_is) := ⟨rfl, rfl, rfl, by decide +kernel, rfl, by decide +kernel, by decide +kernel⟩
abbrev s_law : Stmt := top 12
abbrev N_law : List Str := ["script", "tape", "left", "share", "right", "due"]
theorem sc_law : FnScope N_law ["script"] (defScope s_law) := ⟨rfl, rfl, rfl, by decide +kernel, rfl, by decide +kernel, by decide +kernel⟩
structure Txt (K : PySem.W.Frag) (mg : Str → Option Value) where
  a_compare_values : Addr
  d_compare_values : FuncData
  F_compare_values : Fun K "compare_values" "compare_values" s_compare_values a_compare_values d_compare_values
  b_compare_values : Binds K d_compare_values ["left", "right"] []
  g_compare_values : mg "compare_values" = some (.ref a_compare_values)
  a__value_key : Addr
  d__value_key : FuncData
  F__value_key : Fun K "_value_key" "_value_key" s__value_key a__value_key d__value_key
  b__value_key : Binds K d__value_key ["value"] []
  g__value_key : mg "_value_key" = some (.ref a__value_key)
  a__law_tape : Addr
  d__law_tape : FuncData
  F__law_tape : Fun K "_law_tape" "_law_tape" s__law_tape a__law_tape d__law_tape
  b__law_tape : Binds K d__law_tape ["script"] []
  g__law_tape : mg "_law_tape" = some (.ref a__law_tape)
  a__law_draw : Addr
  d__law_draw : FuncData
  F__law_draw : Fun K "_law_draw" "_law_draw" s__law_draw a__law_draw d__law_draw
  b__law_draw : Binds K d__law_draw ["tape", "many"] []
  g__law_draw : mg "_law_draw" = some (.ref a__law_draw)
  a__law_signs : Addr
  d__law_signs : FuncData
  F__law_signs : Fun K "_law_signs" "_law_signs" s__law_signs a__law_signs d__law_signs
  b__law_signs : Binds K d__law_signs [] []
  g__law_signs : mg "_law_signs" = some (.ref a__law_signs)
  a__law_text : Addr
  d__law_text : FuncData
  F__law_text : Fun K "_law_text" "_law_text" s__law_text a__law_text d__law_text
  b__law_text : Binds K d__law_text ["tape"] []
  g__law_text : mg "_law_text" = some (.ref a__law_text)
  a__law_any : Addr
  d__law_any : FuncData
  F__law_any : Fun K "_law_any" "_law_any" s__law_any a__law_any d__law_any
  b__law_any : Binds K d__law_any ["tape"] []
  g__law_any : mg "_law_any" = some (.ref a__law_any)
  a__law_near : Addr
  d__law_near : FuncData
  F__law_near : Fun K "_law_near" "_law_near" s__law_near a__law_near d__law_near
  b__law_near : Binds K d__law_near ["tape", "value"] []
  g__law_near : mg "_law_near" = some (.ref a__law_near)
  a__law_comes_before : Addr
  d__law_comes_before : FuncData
  F__law_comes_before : Fun K "_law_comes_before" "_law_comes_before" s__law_comes_before a__law_comes_before d__law_comes_before
  b__law_comes_before : Binds K d__law_comes_before ["left", "right"] []
  g__law_comes_before : mg "_law_comes_before" = some (.ref a__law_comes_before)
  a__law_is : Addr
  d__law_is : FuncData
  F__law_is : Fun K "_law_is" "_law_is" s__law_is a__law_is d__law_is
  b__law_is : Binds K d__law_is ["told", "due"] []
  g__law_is : mg "_law_is" = some (.ref a__law_is)
  a_law : Addr
  d_law : FuncData
  F_law : Fun K "law" "law" s_law a_law d_law
  b_law : Binds K d_law ["script"] []
  g_law : mg "law" = some (.ref a_law)
  z_abs : mg "abs" = none
  z_bool : mg "bool" = none
  z_int : mg "int" = none
  z_isinstance : mg "isinstance" = none
  z_len : mg "len" = none
  z_list : mg "list" = none
  z_max : mg "max" = none
  z_min : mg "min" = none
  z_range : mg "range" = none
  z_str : mg "str" = none
end Ind

set_option Elab.async false
set_option linter.all false
set_option maxRecDepth 100000
set_option maxHeartbeats 4000000
namespace Ind
open PySem PySem.Spec PyProof.Rows L2
local macro_rules | `(tactic| walk_at "cn") => `(tactic| first
  | assumption
  | omega
  | exact dm (by omega)
  | exact line (by simp)
  | exact small_div (by omega) (by omega)
  | solve_by_elim
  | exact Or.inr ⟨by omega, by omega⟩
  | exact Or.inl ⟨by omega, by omega⟩
  | exact ⟨by omega, by omega⟩
  | decide)
local macro_rules | `(tactic| walk_at "st") => `(tactic| repeat (first
  | refine ⟨_, rfl, ?_⟩
  | refine ⟨_, _, rfl, rfl, ?_⟩
  | refine ⟨_, _, rfl, ?_⟩
  | refine .inl ⟨_, rfl, ?_⟩
  | refine And.intro rfl ?_
  | refine And.intro (by walk_at "cn") ?_))
local macro_rules | `(tactic| walk_at "fz") => `(tactic| repeat (first | exact Fz.refl | apply Fz.upd))
local macro_rules | `(tactic| walk_at "hl") => `(tactic| ((repeat rw [upd_ne (by assumption)]); assumption))

section
variable {P : Program} {w : World} {K : PySem.W.Frag} {mg : Str → Option Value} {base : Heap}
theorem ok__law_tape (T : Txt K mg) : FnOk P w K mg base CX0 1 T.a__law_tape T.d__law_tape ["script"] (spTape K) := by
  refine T.F__law_tape.ok sc__law_tape (fun vs H Q E h => ?_) (fun cdv A outer s H vs Q E hr h => ?_)
  · obtain ⟨a, ns, rfl, _⟩ := h
    rfl
  · obtain ⟨a, ns, rfl, hS, hl, q⟩ := h
    refine ⟨_, (pss_cons (ps_set (i := 1) sc__law_tape.nd rfl (.inl rfl) pe_int)
      (pss_cons (ps_for PassesOwn.never rfl (pi_list (pv 0)) (pg_name (i := 2) sc__law_tape.nd rfl (.inl rfl))
      (pss_one (ps_set (i := 1) sc__law_tape.nd rfl (.inl rfl) (pe_op op_mod (pe_callTy call_int1 (by rfl) T.z_int boot_int (pa_cons (pe_op op_add (pe_op op_mul (pv 1) pe_int) (pe_callB call_abs (by rfl) T.z_abs boot_abs (pa_cons (pe_callTy call_int1 (by rfl) T.z_int boot_int (pa_cons (pv 2) pa_nil)) pa_nil))) pa_nil)) pe_int))))
      (pss_one (ps_ret (pe_lst (pa_cons (pe_callTy call_list_of (by rfl) T.z_list boot_list (pa_cons (pv 0) pa_nil)) (pa_cons pe_int (pa_cons pe_int (pa_cons (pv 1) pa_nil))))))))), ?_⟩
    refine ⟨_, rfl, a, rfl, ⟨_, hS⟩, for_list (K := K) (a := a) (xs := ns.map V.int) (fun i σ H' => ∃ z y, σ = [some (.ref a), some (.int z), y] ∧ H' = H ∧ 0 ≤ z ∧ z < 2147483647)
      ⟨7, none, rfl, rfl, by decide, by decide⟩ (fun i σ H' _ ⟨_, _, _, e, _⟩ => by rw [e]; exact hS) ?_ ?_⟩
    · rintro i x σ H' hi ⟨z, y, rfl, rfl, h0, h1⟩
      obtain ⟨u, rfl⟩ : ∃ u, x = V.int u := by
        rw [List.getElem?_map] at hi
        cases e : ns[i]? with
        | none => rw [e] at hi; cases hi
        | some u => rw [e] at hi; exact ⟨u, (Option.some.inj hi).symm⟩
      walk_at "st"
      omega
    · rintro σ H' ⟨z, y, rfl, rfl, h0, h1⟩
      refine ⟨_, rfl, _, _, rfl, .inl hS, fun l nl => ⟨_, rfl, line (by simp), fun t nt => ?_⟩⟩
      have nlt : l ≠ t := fun e => by rw [← e, upd_same] at nt; cases nt
      have ntH : H' t = none := by rw [upd_ne nlt.symm] at nt; exact nt
      exact q _ t ((same_upd nl).trans (same_upd nt)) ntH ⟨l, ns, 0, 0, z, upd_same, by rw [upd_ne nlt, upd_same], by omega, by decide, by decide, h0, h1⟩
theorem ok__law_draw (T : Txt K mg) : FnOk P w K mg base CX0 1 T.a__law_draw T.d__law_draw ["tape", "many"] spDraw := by
  refine T.F__law_draw.ok sc__law_draw (fun vs H Q E h => ?_) (fun cdv A outer s H vs Q E hr h => ?_)
  · obtain ⟨a, ns, rfl, _⟩ := h
    rfl
  · obtain ⟨t, m, rfl, ⟨l, ns, p, n, z, ht, hL, hlen, hp, hn, hz, hz2⟩, hm, q⟩ := h
    refine ⟨_, (pss_cons (ps_if (pt_cmpR op_eq (pe_ix ix_list (pv 0) pe_int (fun _ _ => rfl)) pe_int (nomark _)) (pss_cons (ps_set (i := 2) sc__law_draw.nd rfl (.inl rfl) (pe_ix ix_list (pv 0) pe_int (fun _ _ => rfl)))
      (pss_cons (ps_set (i := 3) sc__law_draw.nd rfl (.inl rfl) pe_int)
      (pss_cons (ps_if (pt_cmpR op_lt (pv 2) (pe_callB call_len_seq (by rfl) T.z_len boot_len (pa_cons (pe_ix ix_list (pv 0) pe_int (fun _ _ => rfl)) pa_nil)) (nomark _)) (pss_one (ps_set (i := 3) sc__law_draw.nd rfl (.inl rfl) (pe_callB call_abs (by rfl) T.z_abs boot_abs (pa_cons (pe_callTy call_int1 (by rfl) T.z_int boot_int (pa_cons (pe_ix ix_list (pe_ix ix_list (pv 0) pe_int (fun _ _ => rfl)) (pv 2) (fun _ _ => rfl)) pa_nil)) pa_nil)))) (pss_cons (ps_asg (pe_op op_mod (pe_callTy call_int1 (by rfl) T.z_int boot_int (pa_cons (pe_op op_add (pe_op op_add (pe_op op_mul (pe_ix ix_list (pv 0) pe_int (fun _ _ => rfl)) pe_int) (pv 2)) pe_int) pa_nil)) pe_int) (pg_sub (pv 0) pe_int set_list))
      (pss_one (ps_set (i := 3) sc__law_draw.nd rfl (.inl rfl) (pe_ix ix_list (pv 0) pe_int (fun _ _ => rfl))))))
      (pss_cons (ps_asg (pe_op op_add (pv 2) pe_int) (pg_sub (pv 0) pe_int set_list))
      (pss_cons (ps_if (pt_cmpR op_lt (pv 3) (pe_op op_pow pe_int pe_int) (nomark _)) (pss_cons (ps_set (i := 3) sc__law_draw.nd rfl (.inl rfl) (pe_op op_mod (pe_callTy call_int1 (by rfl) T.z_int boot_int (pa_cons (pe_op op_add (pe_op op_add (pe_op op_mul (pv 3) pe_int) (pe_op op_mul (pv 2) pe_int)) pe_int) pa_nil)) pe_int))
      (pss_cons (ps_set (i := 3) sc__law_draw.nd rfl (.inl rfl) (pe_op op_mod (pe_callTy call_int1 (by rfl) T.z_int boot_int (pa_cons (pe_op op_mul (pv 3) pe_int) pa_nil)) pe_int))
      (pss_one (ps_ret (pe_op op_mod (pe_callTy call_int1 (by rfl) T.z_int boot_int (pa_cons (pv 3) pa_nil)) (pe_callB (call_max2 rfl) (by rfl) T.z_max boot_max (pa_cons (pv 1) (pa_cons pe_int pa_nil)))))))) pss_nil)
      (pss_one (ps_asg (pv 3) (pg_sub (pv 0) pe_int set_list)))))))) pss_nil)
      (pss_cons (ps_set (i := 3) sc__law_draw.nd rfl (.inl rfl) (pe_ix ix_list (pv 0) pe_int (fun _ _ => rfl)))
      (pss_cons (ps_asg (pe_op op_fdivW (pv 3) (pe_callB (call_max2 rfl) (by rfl) T.z_max boot_max (pa_cons (pv 1) (pa_cons pe_int pa_nil)))) (pg_sub (pv 0) pe_int set_list))
      (pss_one (ps_ret (pe_op op_mod (pe_callTy call_int1 (by rfl) T.z_int boot_int (pa_cons (pv 3) pa_nil)) (pe_callB (call_max2 rfl) (by rfl) T.z_max boot_max (pa_cons (pv 1) (pa_cons pe_int pa_nil))))))))), ?_⟩
    have nlt : l ≠ t := Tape.ne ht hL
    have many1 : 0 < if (1 : Int) > m then 1 else m := by split <;> omega
    have many2 : ∀ x : Int, CDivW x (if (2 : Int) > m then 2 else m) := hm
    have lt1 : ∀ x : Int, (x % if (1 : Int) > m then 1 else m) < m ∨ (x % if (1 : Int) > m then 1 else m) < 1 := fun x => by
      have q1 := Int.emod_lt_of_pos x many1
      revert q1
      split <;> intro q1 <;> omega
    walk_at "st"
    refine ⟨_, _, _, _, rfl, rfl, .of ht, atI_nat (j := 2) rfl, ?_⟩
    walk_at "st"
    refine ite2 (fun e => ?_) (fun e => ?_)
    · walk_at "st"
      refine ⟨_, _, _, _, rfl, rfl, .of ht, atI_nat (j := 1) rfl, ?_⟩
      walk_at "st"
      refine ⟨_, _, _, _, rfl, rfl, .of ht, atI_nat (j := 0) rfl, ?_⟩
      refine ⟨l, _, rfl, .inl (.of hL), ?_⟩
      walk_at "st"
      refine ite2 (fun e2 => ?a1) (fun e2 => ?a2)
      case' a1 =>
        have hlt : p.toNat < ns.length := by
          have := of_decide_eq_true e2
          rw [List.length_map] at this
          omega
        walk_at "st"
        refine ⟨_, _, _, _, rfl, rfl, .of ht, atI_nat (j := 0) rfl, ?_⟩
        walk_at "st"
        refine ⟨_, _, _, _, rfl, rfl, .of hL, at_of (show p = (p.toNat : Int) by omega) (show (ns.map V.int)[p.toNat]? = some (.int ns[p.toNat]) by rw [List.getElem?_map, List.getElem?_eq_getElem hlt]; rfl), ?_⟩
        have hnum : 0 ≤ (if ns[p.toNat] < 0 then -ns[p.toNat] else ns[p.toNat]) := by split <;> omega
      case' a2 =>
        walk_at "st"
        refine ⟨_, _, _, _, rfl, rfl, .of ht, atI_nat (j := 3) rfl, ?_⟩
        walk_at "st"
        refine ⟨_, _, _, 3, rfl, rfl, ht, rfl, ?_⟩
        walk_at "st"
        refine ⟨_, _, _, _, rfl, rfl, .of upd_same, atI_nat (j := 3) rfl, ?_⟩
        have hnum : 0 ≤ (z * 48271 + p + 1) % 2147483647 := by omega
        have hnum2 : (z * 48271 + p + 1) % 2147483647 < 2147483647 := by omega
      all_goals
        walk_at "st"
      case' a1 => refine ⟨_, _, _, 1, rfl, rfl, ht, rfl, ?_⟩
      case' a2 => refine ⟨_, _, _, 1, rfl, rfl, upd_same, rfl, ?_⟩
      all_goals
        walk_at "st"
        refine ite2 (fun e3 => ?_) (fun e3 => ?_)
        · walk_at "st"
          refine q _ _ (by walk_at "fz") ⟨l, ns, p + 1, n, _, upd_same, by walk_at "hl", hlen, by omega, hn, ?_, ?_⟩ (Int.emod_nonneg _ (by omega)) (lt1 _) <;> assumption
        · walk_at "st"
          refine ⟨_, _, _, 2, rfl, rfl, upd_same, rfl, ?_⟩
          walk_at "st"
          refine ⟨_, _, _, _, rfl, rfl, .of upd_same, atI_nat (j := 2) rfl, ?_⟩
          walk_at "st"
          refine ⟨_, _, _, 2, rfl, rfl, upd_same, rfl, ?_⟩
          walk_at "st"
          refine q _ _ (by walk_at "fz") ⟨l, ns, p + 1, _, _, upd_same, by walk_at "hl", hlen, by omega, Int.ediv_nonneg hnum ?_, ?_, ?_⟩ (Int.emod_nonneg _ (by omega)) (lt1 _) <;> first | assumption | (split <;> omega)
    · walk_at "st"
      refine ⟨_, _, _, _, rfl, rfl, .of ht, atI_nat (j := 2) rfl, ?_⟩
      walk_at "st"
      refine ⟨_, _, _, 2, rfl, rfl, ht, rfl, ?_⟩
      walk_at "st"
      refine q _ _ Fz.refl.upd ⟨l, ns, p, _, z, upd_same, by rw [upd_ne nlt]; exact hL, hlen, hp, ?_, hz, hz2⟩ (Int.emod_nonneg _ (by omega)) (lt1 _)
      refine Int.ediv_nonneg hn ?_
      split <;> omega
end
end Ind

set_option Elab.async false
set_option linter.all false
set_option maxRecDepth 100000
set_option maxHeartbeats 4000000
namespace Ind
open PySem PySem.Spec PyProof.Rows L2
local macro_rules | `(tactic| walk_at "cn") => `(tactic| first
  | assumption
  | omega
  | exact dm (by omega)
  | exact line (by simp)
  | exact small_div (by omega) (by omega)
  | solve_by_elim
  | exact Or.inr ⟨by omega, by omega⟩
  | exact Or.inl ⟨by omega, by omega⟩
  | exact ⟨by omega, by omega⟩
  | decide)
local macro_rules | `(tactic| walk_at "st") => `(tactic| repeat (first
  | refine ⟨_, rfl, ?_⟩
  | refine ⟨_, _, rfl, rfl, ?_⟩
  | refine ⟨_, _, rfl, ?_⟩
  | refine .inl ⟨_, rfl, ?_⟩
  | refine And.intro rfl ?_
  | refine And.intro (by walk_at "cn") ?_))
local macro_rules | `(tactic| walk_at "fz") => `(tactic| repeat (first | exact Fz.refl | apply Fz.upd))
local macro_rules | `(tactic| walk_at "hl") => `(tactic| ((repeat rw [upd_ne (by assumption)]); assumption))

section
variable {P : Program} {w : World} {K : PySem.W.Frag} {mg : Str → Option Value} {base : Heap}
theorem ok__law_signs (T : Txt K mg) : FnOk P w K mg base CX0 1 T.a__law_signs T.d__law_signs [] spSigns := by
  refine T.F__law_signs.ok sc__law_signs (fun vs H Q E h => ?_) (fun cdv A outer s H vs Q E hr h => ?_)
  · obtain ⟨rfl, q⟩ := h
    rfl
  · obtain ⟨rfl, q⟩ := h
    refine ⟨_, (pss_cons (ps_set (i := 0) sc__law_signs.nd rfl (.inl rfl) pe_str)
      (pss_one (ps_ret (pe_op op_add_str (pv 0) pe_str)))), ?_⟩
    walk_at "st"
    exact q
theorem ok__law_text (T : Txt K mg) : FnOk P w K mg base CX0 2 T.a__law_text T.d__law_text ["tape"] spText := by
  have G__law_draw := ok__law_draw (P := P) (w := w) (base := base) T
  have G__law_signs := ok__law_signs (P := P) (w := w) (base := base) T
  refine T.F__law_text.ok sc__law_text (fun vs H Q E h => ?_) (fun cdv A outer s H vs Q E hr h => ?_)
  · obtain ⟨t, rfl, hT, q⟩ := h
    rfl
  · obtain ⟨t, rfl, hT, q⟩ := h
    refine ⟨_, (pss_cons (ps_set (i := 1) sc__law_text.nd rfl (.inl rfl) (pe_call G__law_draw hr (by rfl) T.g__law_draw T.F__law_draw.kp T.b__law_draw .nil pass0 (pa_cons (pv 0) (pa_cons pe_int pa_nil))))
      (pss_cons (ps_set (i := 2) sc__law_text.nd rfl (.inl rfl) (pe_op op_mod (pe_callTy call_int1 (by rfl) T.z_int boot_int (pa_cons (pv 1) pa_nil)) pe_int))
      (pss_cons (ps_set (i := 3) sc__law_text.nd rfl (.inl rfl) pe_str)
      (pss_cons (ps_if (pt_cmpR op_lt (pv 2) pe_int (nomark _)) (pss_cons (ps_for PassesOwn.never rfl (pi_range1 (by rfl) T.z_range (pa_cons (pe_ix ix_list (pe_lst (pa_cons pe_int (pa_cons pe_int (pa_cons pe_int (pa_cons pe_int (pa_cons pe_int (pa_cons pe_int pa_nil))))))) (pv 2) (fun _ _ => rfl)) pa_nil)) (pg_name (i := 4) sc__law_text.nd rfl (.inl rfl))
      (pss_one (ps_set (i := 3) sc__law_text.nd rfl (.inl rfl) (pe_op op_add_str (pv 3) (pe_ix ix_str pe_str (pe_op op_mod (pe_callTy call_int1 (by rfl) T.z_int boot_int (pa_cons (pe_op op_fdivW (pv 1) (pe_ix ix_list (pe_lst (pa_cons pe_int (pa_cons pe_int (pa_cons pe_int pa_nil)))) (pv 4) (fun _ _ => rfl))) pa_nil)) pe_int) (fun _ _ => rfl))))))
      (pss_one (ps_ret (pv 3)))) pss_nil)
      (pss_cons (ps_for PassesOwn.never rfl (pi_range1 (by rfl) T.z_range (pa_cons (pe_ix ix_list (pe_lst (pa_cons pe_int (pa_cons (pe_op op_fdivW (pv 1) pe_int) pa_nil))) (pe_op op_sub (pv 2) pe_int) (fun _ _ => rfl)) pa_nil)) (pg_name (i := 4) sc__law_text.nd rfl (.inl rfl))
      (pss_one (ps_set (i := 3) sc__law_text.nd rfl (.inl rfl) (pe_op op_add_str (pv 3) (pe_ix ix_str (pe_call0 G__law_signs hr (by rfl) T.g__law_signs T.F__law_signs.kp T.b__law_signs .nil pass0) (pe_call G__law_draw hr (by rfl) T.g__law_draw T.F__law_draw.kp T.b__law_draw .nil pass0 (pa_cons (pv 0) (pa_cons pe_int pa_nil))) (fun _ _ => rfl))))))
      (pss_one (ps_ret (pv 3)))))))), ?_⟩
    walk_at "st"
    intro H1 r f1 T1 r0 r1
    have r2 : r < 21000 := by omega
    walk_at "st"
    refine ite2 (fun e => ?_) (fun e => ?_)
    · have e' : r % 8 < 6 := of_decide_eq_true e
      walk_at "st"
      intro p1 n1
      obtain ⟨u, eu, mu⟩ := pick (ns := [0, 1, 1, 1, 2, 3]) (i := r % 8) (by omega) (by simp; omega)
      have hu : 0 ≤ u ∧ u ≤ 3 := by
        simp at mu
        omega
      walk_at "st"
      refine ⟨_, _, _, _, rfl, rfl, .of upd_same, eu, ?_⟩
      walk_at "st"
      refine for_range (fun i σ H' => ∃ x y, σ = [some (.ref t), some (.int r), some (.int (r % 8)), some (.str x), y] ∧ Fz t H H' ∧ TapeAt H' t ∧ x.length ≤ i ∧ Sgns x)
        ⟨_, _, rfl, f1.new n1, T1.new n1, by decide, sgns_nil⟩ ?_ ?_
      · rintro i σ H' hi ⟨x, y, rfl, f2, T2, hx, hs⟩
        walk_at "st"
        intro p2 n2
        obtain ⟨d, ed, md⟩ := pick (ns := [8, 40, 200]) (i := 0 + (i : Int)) (by omega) (by simp; omega)
        have hd : 0 < d ∧ d < 201 := by
          simp at md
          omega
        walk_at "st"
        refine ⟨_, _, _, _, rfl, rfl, .of upd_same, ed, ?_⟩
        walk_at "st"
        obtain ⟨c, ec, mc⟩ := pickS (l := ("abB' " : PySem.Str).cps.toList) (i := (r / d) % 5) (by omega) (by rw [quad_len]; omega)
        refine ⟨_, _, c, rfl, rfl, line (by decide), ec, ?_⟩
        walk_at "st"
        refine And.intro (line (by rw [len_one]; omega)) ?_
        exact ⟨_, _, rfl, f2.new n2, T2.new n2, len_push hx, txt_push hs (quad_all c mc)⟩
      · rintro σ H' ⟨x, y, rfl, f2, T2, hx, hs⟩
        walk_at "st"
        exact q _ _ f2 T2 ⟨by omega, hs⟩
    · have e' : ¬ r % 8 < 6 := fun z => e (decide_eq_true z)
      walk_at "st"
      intro p1 n1
      obtain ⟨u, eu, mu⟩ := pick (ns := [20, r / 1000]) (i := r % 8 - 6) (by omega) (by simp; omega)
      have hu : 0 ≤ u ∧ u ≤ 20 := by
        simp at mu
        omega
      walk_at "st"
      refine ⟨_, _, _, _, rfl, rfl, .of upd_same, eu, ?_⟩
      walk_at "st"
      refine for_range (fun i σ H' => ∃ x y, σ = [some (.ref t), some (.int r), some (.int (r % 8)), some (.str x), y] ∧ Fz t H H' ∧ TapeAt H' t ∧ x.length ≤ i ∧ Sgns x)
        ⟨_, _, rfl, f1.new n1, T1.new n1, by decide, sgns_nil⟩ ?_ ?_
      · rintro i σ H' hi ⟨x, y, rfl, f2, T2, hx, hs⟩
        walk_at "st"
        intro H3 a f3 T3 a0 a1
        obtain ⟨c, ec, mc⟩ := sg_pick (i := a) a0 (by omega)
        refine ⟨_, _, c, rfl, rfl, line (by rw [sg_len]; decide), ec, ?_⟩
        walk_at "st"
        refine And.intro (line (by rw [len_one]; omega)) ?_
        exact ⟨_, _, rfl, f2.trans f3, T3, len_push hx, txt_push hs mc⟩
      · rintro σ H' ⟨x, y, rfl, f2, T2, hx, hs⟩
        walk_at "st"
        exact q _ _ f2 T2 ⟨by omega, hs⟩
end
end Ind

set_option Elab.async false
set_option linter.all false
set_option maxRecDepth 100000
set_option maxHeartbeats 4000000
namespace Ind
open PySem PySem.Spec PyProof.Rows L2
local macro_rules | `(tactic| walk_at "cn") => `(tactic| first
  | assumption
  | omega
  | exact dm (by omega)
  | exact line (by simp)
  | exact line (by simp only [len_app, len_one]; omega)
  | exact small_div (by omega) (by omega)
  | solve_by_elim
  | exact Or.inr ⟨by omega, by omega⟩
  | exact Or.inl ⟨by omega, by omega⟩
  | exact ⟨by omega, by omega⟩
  | decide)
local macro_rules | `(tactic| walk_at "st") => `(tactic| repeat (first
  | refine ⟨_, rfl, ?_⟩
  | refine ⟨_, _, rfl, rfl, ?_⟩
  | refine ⟨_, _, rfl, ?_⟩
  | refine .inl ⟨_, rfl, ?_⟩
  | refine And.intro rfl ?_
  | refine And.intro (by walk_at "cn") ?_))
local macro_rules | `(tactic| walk_at "fz") => `(tactic| repeat (first | exact Fz.refl | apply Fz.upd))
local macro_rules | `(tactic| walk_at "hl") => `(tactic| ((repeat rw [upd_ne (by assumption)]); assumption))

section
variable {P : Program} {w : World} {K : PySem.W.Frag} {mg : Str → Option Value} {base : Heap}
theorem ok__law_any (T : Txt K mg) : FnOk P w K mg base CX0 3 T.a__law_any T.d__law_any ["tape"] spAny := by
  have G__law_draw := ok__law_draw (P := P) (w := w) (base := base) T
  have G__law_text := ok__law_text (P := P) (w := w) (base := base) T
  refine T.F__law_any.ok sc__law_any (fun vs H Q E h => ?_) (fun cdv A outer s H vs Q E hr h => ?_)
  · obtain ⟨t, rfl, hT, q⟩ := h
    rfl
  · obtain ⟨t, rfl, hT, q⟩ := h
    refine ⟨_, (pss_cons (ps_set (i := 1) sc__law_any.nd rfl (.inl rfl) (pe_call G__law_draw (hr.mono (by decide)) (by rfl) T.g__law_draw T.F__law_draw.kp T.b__law_draw .nil pass0 (pa_cons (pv 0) (pa_cons (pe_op op_mul pe_int (pe_op op_pow pe_int pe_int)) pa_nil))))
      (pss_cons (ps_set (i := 2) sc__law_any.nd rfl (.inl rfl) (pe_op op_mod (pe_callTy call_int1 (by rfl) T.z_int boot_int (pa_cons (pv 1) pa_nil)) pe_int))
      (pss_cons (ps_if (pt_cmpR op_lt (pv 2) pe_int (nomark _)) (pss_one (ps_ret (pe_call G__law_text hr (by rfl) T.g__law_text T.F__law_text.kp T.b__law_text .nil pass0 (pa_cons (pv 0) pa_nil)))) pss_nil)
      (pss_cons (ps_if (pt_cmpR op_eq (pv 2) pe_int (nomark _)) (pss_one (ps_ret (pe_op op_sub (pe_op op_mod (pe_callTy call_int1 (by rfl) T.z_int boot_int (pa_cons (pe_op op_fdivW (pv 1) pe_int) pa_nil)) pe_int) pe_int))) pss_nil)
      (pss_cons (ps_if (pt_cmpR op_eq (pv 2) pe_int (nomark _)) (pss_one (ps_ret (pe_ix ix_list (pe_lst (pa_cons pe_int (pa_cons (pe_un un_neg pe_int) (pa_cons (pe_op op_pow pe_int pe_int) (pa_cons (pe_un un_neg (pe_op op_pow pe_int pe_int)) (pa_cons (pe_op op_pow pe_int pe_int) pa_nil)))))) (pe_op op_mod (pe_callTy call_int1 (by rfl) T.z_int boot_int (pa_cons (pe_op op_fdivW (pv 1) pe_int) pa_nil)) pe_int) (fun _ _ => rfl)))) pss_nil)
      (pss_cons (ps_if (pt_cmpR op_eq (pv 2) pe_int (nomark _)) (pss_one (ps_ret (pe_op op_sub (pe_op op_mod (pe_callTy call_int1 (by rfl) T.z_int boot_int (pa_cons (pe_op op_fdivW (pv 1) pe_int) pa_nil)) pe_int) pe_int))) pss_nil)
      (pss_one (ps_ret (pe_op op_sub (pe_op op_fdivW (pv 1) pe_int) (pe_op op_pow pe_int pe_int)))))))))), ?_⟩
    walk_at "st"
    have e16 : (16 : Int) * 10 ^ Int.toNat 30 = 16000000000000000000000000000000 := by decide +kernel
    refine And.intro (dm (by rw [e16]; omega)) ?_
    intro H1 r f1 T1 r0 r1
    rw [e16] at r1
    have r2 : r < 16000000000000000000000000000000 := by omega
    walk_at "st"
    refine ite2 (fun e => ?_) (fun e => ?_)
    · walk_at "st"
      exact fun H2 x f2 T2 hx => q _ _ (f1.trans f2) T2 hx
    · walk_at "st"
      refine ite2 (fun e2 => ?_) (fun e2 => ?_)
      · walk_at "st"
        exact q _ _ f1 T1 trivial
      · walk_at "st"
        refine ite2 (fun e3 => ?_) (fun e3 => ?_)
        · walk_at "st"
          intro p1 n1
          obtain ⟨u, eu, mu⟩ := pick (ns := [1000000, -1000000, 10 ^ Int.toNat 12, -(10 ^ Int.toNat 12), 10 ^ Int.toNat 30]) (i := (r / 8) % 5) (by omega) (by simp; omega)
          walk_at "st"
          refine ⟨_, _, _, _, rfl, rfl, .of upd_same, eu, ?_⟩
          exact q _ _ (f1.new n1) (T1.new n1) trivial
        · walk_at "st"
          refine ite2 (fun e4 => ?_) (fun e4 => ?_)
          · walk_at "st"
            exact q _ _ f1 T1 trivial
          · walk_at "st"
            exact q _ _ f1 T1 trivial
theorem ok__law_near (T : Txt K mg) : FnOk P w K mg base CX0 2 T.a__law_near T.d__law_near ["tape", "value"] spNear := by
  have G__law_draw := ok__law_draw (P := P) (w := w) (base := base) T
  have G__law_signs := ok__law_signs (P := P) (w := w) (base := base) T
  refine T.F__law_near.ok sc__law_near (fun vs H Q E h => ?_) (fun cdv A outer s H vs Q E hr h => ?_)
  · obtain ⟨t, v, rfl, hv, hT, q⟩ := h
    rfl
  · obtain ⟨t, v, rfl, hv, hT, q⟩ := h
    refine ⟨_, (pss_cons (ps_if (pt_val (pe_callB call_isi (by rfl) T.z_isinstance boot_isinstance (pa_cons (pv 1) (pa_cons (pe_bltn (v := .ty "int") (by rfl) T.z_int boot_int rfl) pa_nil)))) (pss_one (ps_ret (pe_op op_sub (pe_op op_add (pv 1) pe_int) (pe_op op_mul pe_int (pe_call G__law_draw hr (by rfl) T.g__law_draw T.F__law_draw.kp T.b__law_draw .nil pass0 (pa_cons (pv 0) (pa_cons pe_int pa_nil))))))) pss_nil)
      (pss_cons (ps_set (i := 2) sc__law_near.nd rfl (.inl rfl) (pe_call G__law_draw hr (by rfl) T.g__law_draw T.F__law_draw.kp T.b__law_draw .nil pass0 (pa_cons (pv 0) (pa_cons (pe_op op_add (pe_callB call_len_str (by rfl) T.z_len boot_len (pa_cons (pv 1) pa_nil)) pe_int) pa_nil))))
      (pss_cons (ps_if (pt_cmpR op_eq (pe_call G__law_draw hr (by rfl) T.g__law_draw T.F__law_draw.kp T.b__law_draw .nil pass0 (pa_cons (pv 0) (pa_cons pe_int pa_nil))) pe_int (nomark _)) (pss_one (ps_ret (pe_slice sl_str (pv 1) po_none (po_some (pv 2))))) pss_nil)
      (pss_cons (ps_set (i := 3) sc__law_near.nd rfl (.inl rfl) (pe_ix ix_str (pe_call0 G__law_signs hr (by rfl) T.g__law_signs T.F__law_signs.kp T.b__law_signs .nil pass0) (pe_call G__law_draw hr (by rfl) T.g__law_draw T.F__law_draw.kp T.b__law_draw .nil pass0 (pa_cons (pv 0) (pa_cons pe_int pa_nil))) (fun _ _ => rfl)))
      (pss_one (ps_ret (pe_slice sl_str (pe_op op_add_str (pe_op op_add_str (pe_slice sl_str (pv 1) po_none (po_some (pv 2))) (pv 3)) (pe_slice sl_str (pv 1) (po_some (pe_op op_add (pv 2) pe_int)) po_none)) po_none (po_some pe_int)))))))), ?_⟩
    rcases hv.cases with ⟨i, rfl⟩ | ⟨x, rfl, hx⟩
    · walk_at "st"
      refine ⟨_, _, _, _, _, rfl, .ty _, .base (.int _), kit_ty k_int_int, ?_⟩
      walk_at "st"
      intro H1 r f1 T1 r0 r1
      walk_at "st"
      exact q _ _ f1 T1 trivial
    · have hx20 : x.length ≤ 20 := hx.1
      have hxl : x.length ≤ sizeLine := line (by omega)
      walk_at "st"
      refine ⟨_, _, _, _, _, rfl, .ty _, .base (.str _), kit_ty k_str_int, ?_⟩
      walk_at "st"
      intro H1 a f1 T1 a0 a1
      walk_at "st"
      intro H2 b f2 T2 b0 b1
      walk_at "st"
      refine ite2 (fun e => ?_) (fun e => ?_)
      · walk_at "st"
        exact q _ _ (f1.trans f2) T2 ⟨Nat.le_trans (cutS_length _ _ _) hx20, cut_sgns hx.2⟩
      · walk_at "st"
        intro H3 d f3 T3 d0 d1
        obtain ⟨c, ec, mc⟩ := sg_pick (i := d) d0 (by omega)
        refine ⟨_, _, c, rfl, rfl, line (by rw [sg_len]; decide), ec, ?_⟩
        have c1 : (cutS x none (some a)).length ≤ 20 := Nat.le_trans (cutS_length _ _ _) hx20
        have c2 : (cutS x (some (a + 1)) none).length ≤ 20 := Nat.le_trans (cutS_length _ _ _) hx20
        walk_at "st"
        exact q _ _ ((f1.trans f2).trans f3) T3 ⟨cut_len_hi _ 20, cut_sgns ((cut_sgns hx.2).app (.one mc) |>.app (cut_sgns hx.2))⟩
theorem ok__value_key (T : Txt K mg) : FnOk P w K mg base CX0 1 T.a__value_key T.d__value_key ["value"] spKey := by
  refine T.F__value_key.ok sc__value_key (fun vs H Q E h => ?_) (fun cdv A outer s H vs Q E hr h => ?_)
  · obtain ⟨v, rfl, hv, q⟩ := h
    rfl
  · obtain ⟨v, rfl, hv, q⟩ := h
    refine ⟨_, (pss_one (ps_ret (pe_tup (pa_cons (pe_callB call_isi (by rfl) T.z_isinstance boot_isinstance (pa_cons (pv 0) (pa_cons (pe_bltn (v := .ty "str") (by rfl) T.z_str boot_str rfl) pa_nil))) (pa_cons (pv 0) pa_nil))))), ?_⟩
    rcases hv.cases with ⟨i, rfl⟩ | ⟨x, rfl, hx⟩
    · walk_at "st"
      refine ⟨_, _, _, _, _, rfl, .ty _, .base (.int _), kit_ty k_int_str, ?_⟩
      walk_at "st"
      exact q
    · walk_at "st"
      refine ⟨_, _, _, _, _, rfl, .ty _, .base (.str _), kit_ty k_str_str, ?_⟩
      walk_at "st"
      exact q
theorem ok__law_is (T : Txt K mg) : FnOk P w K mg base CX0 1 T.a__law_is T.d__law_is ["told", "due"] spIs := by
  refine T.F__law_is.ok sc__law_is (fun vs H Q E h => ?_) (fun cdv A outer s H vs Q E hr h => ?_)
  · obtain ⟨i, j, rfl, q⟩ := h
    rfl
  · obtain ⟨i, j, rfl, q⟩ := h
    refine ⟨_, (pss_one (ps_ret (pe_and (pe_callB call_isi (by rfl) T.z_isinstance boot_isinstance (pa_cons (pv 0) (pa_cons (pe_bltn (v := .ty "int") (by rfl) T.z_int boot_int rfl) pa_nil))) (pe_and (pe_not (pe_callB call_isi (by rfl) T.z_isinstance boot_isinstance (pa_cons (pv 0) (pa_cons (pe_bltn (v := .ty "bool") (by rfl) T.z_bool boot_bool rfl) pa_nil)))) (pe_one (pe_cmpR op_eq (pv 0) (pv 1) (nomark _))))))), ?_⟩
    walk_at "st"
    refine ⟨_, _, _, _, _, rfl, .ty _, .base (.int _), kit_ty k_int_int, ?_⟩
    walk_at "st"
    refine ⟨_, _, _, _, _, rfl, .ty _, .base (.int _), kit_ty k_int_bool, ?_⟩
    walk_at "st"
    rw [← dec_ii] at q
    exact q
theorem ok_compare_values (T : Txt K mg) : FnOk P w K mg base CX0 2 T.a_compare_values T.d_compare_values ["left", "right"] spCmp := by
  have G__value_key := ok__value_key (P := P) (w := w) (base := base) T
  refine T.F_compare_values.ok sc_compare_values (fun vs H Q E h => ?_) (fun cdv A outer s H vs Q E hr h => ?_)
  · obtain ⟨u, v, rfl, hu, hv, q⟩ := h
    rfl
  · obtain ⟨u, v, rfl, hu, hv, q⟩ := h
    refine ⟨_, (pss_cons (ps_set (i := 2) sc_compare_values.nd rfl (.inl rfl) (pe_call G__value_key hr (by rfl) T.g__value_key T.F__value_key.kp T.b__value_key .nil pass0 (pa_cons (pv 0) pa_nil)))
      (pss_cons (ps_set (i := 3) sc_compare_values.nd rfl (.inl rfl) (pe_call G__value_key hr (by rfl) T.g__value_key T.F__value_key.kp T.b__value_key .nil pass0 (pa_cons (pv 1) pa_nil)))
      (pss_cons (ps_if (pt_cmpR (op_lt_key hr.units0) (pv 2) (pv 3) (nomark _)) (pss_one (ps_ret (pe_un un_neg pe_int))) pss_nil)
      (pss_cons (ps_if (pt_cmpR (op_gt_key hr.units0) (pv 2) (pv 3) (nomark _)) (pss_one (ps_ret pe_int)) pss_nil)
      (pss_one (ps_ret pe_int)))))), ?_⟩
    walk_at "st"
    intro a na
    walk_at "st"
    intro b nb
    have ha : (upd (upd H a (.tup [.bl (kindB u), u])) b (.tup [.bl (kindB v), v])) a = some (.tup [.bl (kindB u), u]) := by
      rw [upd_ne (ne_of_none upd_same nb), upd_same]
    have sm : Same H (upd (upd H a (.tup [.bl (kindB u), u])) b (.tup [.bl (kindB v), v])) := (same_upd na).trans (same_upd nb)
    have q' := q _ sm
    walk_at "st"
    refine ⟨_, _, u, v, rfl, rfl, hu, hv, ha, upd_same, ?_⟩
    walk_at "st"
    refine ite2 (fun e => ?_) (fun e => ?_)
    · walk_at "st"
      rw [if_pos e] at q'
      exact q'
    · walk_at "st"
      rw [if_neg e] at q'
      refine ⟨_, _, u, v, rfl, rfl, hu, hv, ha, upd_same, ?_⟩
      walk_at "st"
      refine ite2 (fun e2 => ?_) (fun e2 => ?_)
      · walk_at "st"
        rw [if_pos e2] at q'
        exact q'
      · walk_at "st"
        rw [if_neg e2] at q'
        exact q'
end
end Ind

set_option Elab.async false
set_option linter.all false
set_option maxRecDepth 100000
set_option maxHeartbeats 4000000
namespace Ind
open PySem PySem.Spec PyProof.Rows L2
local macro_rules | `(tactic| walk_at "cn") => `(tactic| first
  | assumption
  | omega
  | exact dm (by omega)
  | exact line (by simp)
  | exact line (by simp only [len_app, len_one]; omega)
  | exact small_div (by omega) (by omega)
  | solve_by_elim
  | exact Or.inr ⟨by omega, by omega⟩
  | exact Or.inl ⟨by omega, by omega⟩
  | exact ⟨by omega, by omega⟩
  | decide)
local macro_rules | `(tactic| walk_at "st") => `(tactic| repeat (first
  | refine ⟨_, rfl, ?_⟩
  | refine ⟨_, _, rfl, rfl, ?_⟩
  | refine ⟨_, _, rfl, ?_⟩
  | refine .inl ⟨_, rfl, ?_⟩
  | refine And.intro rfl ?_
  | refine And.intro (by walk_at "cn") ?_))
local macro_rules | `(tactic| walk_at "fz") => `(tactic| repeat (first | exact Fz.refl | apply Fz.upd))
local macro_rules | `(tactic| walk_at "hl") => `(tactic| ((repeat rw [upd_ne (by assumption)]); assumption))

section
variable {P : Program} {w : World} {K : PySem.W.Frag} {mg : Str → Option Value} {base : Heap}
theorem ok__law_comes_before (T : Txt K mg) : FnOk P w K mg base CX0 2 T.a__law_comes_before T.d__law_comes_before ["left", "right"] spBefore := by
  have G__law_signs := ok__law_signs (P := P) (w := w) (base := base) T
  refine T.F__law_comes_before.ok sc__law_comes_before (fun vs H Q E h => ?_) (fun cdv A outer s H vs Q E hr h => ?_)
  · obtain ⟨u, v, rfl, hu, hv, q⟩ := h
    rfl
  · obtain ⟨u, v, rfl, hu, hv, q⟩ := h
    refine ⟨_, (pss_cons (ps_if (PW.pt (pw_or (pt_val (pe_callB call_isi (by rfl) T.z_isinstance boot_isinstance (pa_cons (pv 0) (pa_cons (pe_bltn (v := .ty "int") (by rfl) T.z_int boot_int rfl) pa_nil)))) (pw_or1 (pt_val (pe_callB call_isi (by rfl) T.z_isinstance boot_isinstance (pa_cons (pv 1) (pa_cons (pe_bltn (v := .ty "int") (by rfl) T.z_int boot_int rfl) pa_nil))))))) (pss_one (ps_ret (pe_and (pe_callB call_isi (by rfl) T.z_isinstance boot_isinstance (pa_cons (pv 0) (pa_cons (pe_bltn (v := .ty "int") (by rfl) T.z_int boot_int rfl) pa_nil))) (pe_one (pe_or (pe_not (pe_callB call_isi (by rfl) T.z_isinstance boot_isinstance (pa_cons (pv 1) (pa_cons (pe_bltn (v := .ty "int") (by rfl) T.z_int boot_int rfl) pa_nil)))) (pe_one (pe_cmpR op_lt (pv 0) (pv 1) (nomark _)))))))) pss_nil)
      (pss_cons (ps_set (i := 2) sc__law_comes_before.nd rfl (.inl rfl) (pe_call0 G__law_signs hr (by rfl) T.g__law_signs T.F__law_signs.kp T.b__law_signs .nil pass0))
      (pss_cons (ps_for PassesOwn.never rfl (pi_range1 (by rfl) T.z_range (pa_cons (pe_callB (call_min2 rfl) (by rfl) T.z_min boot_min (pa_cons (pe_callB call_len_str (by rfl) T.z_len boot_len (pa_cons (pv 0) pa_nil)) (pa_cons (pe_callB call_len_str (by rfl) T.z_len boot_len (pa_cons (pv 1) pa_nil)) pa_nil))) pa_nil)) (pg_name (i := 3) sc__law_comes_before.nd rfl (.inl rfl))
      (pss_one (ps_if (pt_cmpR op_ne (pe_ix ix_str (pv 0) (pv 3) (fun _ _ => rfl)) (pe_ix ix_str (pv 1) (pv 3) (fun _ _ => rfl)) (nomark _)) (pss_one (ps_ret (pe_cmpR op_lt (pe_bm PySem.F.plainAttrs_str PySem.F.slot_str_index PySem.F.type_str_index mt_sindex (pv 2) (pa_cons (pe_ix ix_str (pv 0) (pv 3) (fun _ _ => rfl)) pa_nil)) (pe_bm PySem.F.plainAttrs_str PySem.F.slot_str_index PySem.F.type_str_index mt_sindex (pv 2) (pa_cons (pe_ix ix_str (pv 1) (pv 3) (fun _ _ => rfl)) pa_nil)) (nomark _)))) pss_nil)))
      (pss_one (ps_ret (pe_cmpR op_lt (pe_callB call_len_str (by rfl) T.z_len boot_len (pa_cons (pv 0) pa_nil)) (pe_callB call_len_str (by rfl) T.z_len boot_len (pa_cons (pv 1) pa_nil)) (nomark _))))))), ?_⟩
    rcases hu.cases with ⟨i, rfl⟩ | ⟨x, rfl, hx⟩ <;> rcases hv.cases with ⟨j, rfl⟩ | ⟨z, rfl, hz⟩
    · walk_at "st"
      refine ⟨_, _, _, _, _, rfl, .ty _, .base (.int _), kit_ty k_int_int, ?_⟩
      walk_at "st"
      refine ⟨_, _, _, _, _, rfl, .ty _, .base (.int _), kit_ty k_int_int, ?_⟩
      walk_at "st"
      refine ⟨_, _, _, _, _, rfl, .ty _, .base (.int _), kit_ty k_int_int, ?_⟩
      walk_at "st"
      exact q _ (Same.refl _)
    · walk_at "st"
      refine ⟨_, _, _, _, _, rfl, .ty _, .base (.int _), kit_ty k_int_int, ?_⟩
      walk_at "st"
      refine ⟨_, _, _, _, _, rfl, .ty _, .base (.int _), kit_ty k_int_int, ?_⟩
      walk_at "st"
      refine ⟨_, _, _, _, _, rfl, .ty _, .base (.str _), kit_ty k_str_int, ?_⟩
      walk_at "st"
      exact q _ (Same.refl _)
    · walk_at "st"
      refine ⟨_, _, _, _, _, rfl, .ty _, .base (.str _), kit_ty k_str_int, ?_⟩
      walk_at "st"
      refine ⟨_, _, _, _, _, rfl, .ty _, .base (.int _), kit_ty k_int_int, ?_⟩
      walk_at "st"
      refine ⟨_, _, _, _, _, rfl, .ty _, .base (.str _), kit_ty k_str_int, ?_⟩
      walk_at "st"
      exact q _ (Same.refl _)
    · have hx20 : x.length ≤ 20 := hx.1
      have hxl : x.length ≤ sizeLine := line (by omega)
      have hz20 : z.length ≤ 20 := hz.1
      have hzl : z.length ≤ sizeLine := line (by omega)
      have lx := codes_len x
      have lz := codes_len z
      walk_at "st"
      refine ⟨_, _, _, _, _, rfl, .ty _, .base (.str _), kit_ty k_str_int, ?_⟩
      walk_at "st"
      refine ⟨_, _, _, _, _, rfl, .ty _, .base (.str _), kit_ty k_str_int, ?_⟩
      walk_at "st"
      refine for_range (fun i σ H' => ∃ y, σ = [some (.str x), some (.str z), some (.str sg), y] ∧ H' = H ∧ x.cps.toList.take i = z.cps.toList.take i)
        ⟨_, rfl, rfl, rfl⟩ ?_ ?_
      · rintro i σ H' hi ⟨y, rfl, rfl, ht⟩
        have i1 : i < x.cps.toList.length := by revert hi; split <;> intro hi <;> omega
        have i2 : i < z.cps.toList.length := by revert hi; split <;> intro hi <;> omega
        obtain ⟨c, ec⟩ : ∃ c, x.cps.toList[i]? = some c := ⟨_, List.getElem?_eq_getElem i1⟩
        obtain ⟨d, ed⟩ : ∃ d, z.cps.toList[i]? = some d := ⟨_, List.getElem?_eq_getElem i2⟩
        have ac : atI x.cps.toList (0 + (i : Int)) = some c := by rw [Int.zero_add]; exact atI_nat ec
        have ad : atI z.cps.toList (0 + (i : Int)) = some d := by rw [Int.zero_add]; exact atI_nat ed
        have sc : Sgn c := hx.2 c (List.mem_of_getElem? ec)
        have sd : Sgn d := hz.2 d (List.mem_of_getElem? ed)
        walk_at "st"
        refine ⟨_, _, c, rfl, rfl, hxl, ac, ?_⟩
        walk_at "st"
        refine ⟨_, _, d, rfl, rfl, hzl, ad, ?_⟩
        walk_at "st"
        rw [one_txt]
        refine ite2 (fun e => ?_) (fun e => ?_)
        · have ne : c ≠ d := by simpa using e
          walk_at "st"
          refine ⟨_, _, c, rfl, rfl, hxl, ac, ?_⟩
          walk_at "st"
          refine ⟨_, _, _, _, rfl, rfl, sg_index sc, ?_⟩
          walk_at "st"
          refine ⟨_, _, d, rfl, rfl, hzl, ad, ?_⟩
          walk_at "st"
          refine ⟨_, _, _, _, rfl, rfl, sg_index sd, ?_⟩
          walk_at "st"
          have q' := q _ (Same.refl _)
          have fin : vLt (.str x) (.str z) = decide ((sgIx c : Int) < (sgIx d : Int)) := by
            show decide (x.cps.toList < z.cps.toList) = _
            rw [decide_eq_decide, lt_at _ _ i c d ht ec ed ne, ← sgIx_lt sc sd]
            omega
          rw [fin] at q'
          exact q'
        · have eq : c = d := by simpa using e
          subst eq
          walk_at "st"
          exact take_next ht ec ed
      · rintro σ H' ⟨y, rfl, rfl, ht⟩
        walk_at "st"
        have q' := q _ (Same.refl _)
        have em : (if (z.length : Int) < (x.length : Int) then (z.length : Int) else (x.length : Int)).toNat = min x.cps.toList.length z.cps.toList.length := by
          rw [← lx, ← lz]
          split <;> omega
        rw [em] at ht
        have fin : vLt (.str x) (.str z) = decide ((x.length : Int) < (z.length : Int)) := by
          show decide (x.cps.toList < z.cps.toList) = _
          rw [decide_eq_decide, lt_end _ _ ht, ← lx, ← lz]
          omega
        rw [fin] at q'
        exact q'
theorem ok_law (T : Txt K mg) : FnOk P w K mg base CX0 4 T.a_law T.d_law ["script"] (spLaw K) := by
  have G__law_tape := ok__law_tape (P := P) (w := w) (base := base) T
  have G__law_any := ok__law_any (P := P) (w := w) (base := base) T
  have G__law_draw := ok__law_draw (P := P) (w := w) (base := base) T
  have G__law_comes_before := ok__law_comes_before (P := P) (w := w) (base := base) T
  have G__law_is := ok__law_is (P := P) (w := w) (base := base) T
  have G__law_near := ok__law_near (P := P) (w := w) (base := base) T
  have G_compare_values := ok_compare_values (P := P) (w := w) (base := base) T
  refine T.F_law.ok sc_law (fun vs H Q E h => ?_) (fun cdv A outer s H vs Q E hr h => ?_)
  · obtain ⟨a, ns, rfl, hS, hl, q⟩ := h
    rfl
  · obtain ⟨a, ns, rfl, hS, hl, q⟩ := h
    refine ⟨_, (pss_cons (ps_set (i := 1) sc_law.nd rfl (.inl rfl) (pe_call G__law_tape (hr.mono (by decide)) (by rfl) T.g__law_tape T.F__law_tape.kp T.b__law_tape .nil pass0 (pa_cons (pv 0) pa_nil)))
      (pss_cons (ps_set (i := 2) sc_law.nd rfl (.inl rfl) (pe_call G__law_any hr (by rfl) T.g__law_any T.F__law_any.kp T.b__law_any .nil pass0 (pa_cons (pv 1) pa_nil)))
      (pss_cons (ps_set (i := 3) sc_law.nd rfl (.inl rfl) (pe_call G__law_draw (hr.mono (by decide)) (by rfl) T.g__law_draw T.F__law_draw.kp T.b__law_draw .nil pass0 (pa_cons (pv 1) (pa_cons pe_int pa_nil))))
      (pss_cons (ps_set (i := 4) sc_law.nd rfl (.inl rfl) (pv 2))
      (pss_cons (ps_if (pt_cmpR op_eq (pv 3) pe_int (nomark _)) (pss_one (ps_set (i := 4) sc_law.nd rfl (.inl rfl) (pe_call G__law_near (hr.mono (by decide)) (by rfl) T.g__law_near T.F__law_near.kp T.b__law_near .nil pass0 (pa_cons (pv 1) (pa_cons (pv 2) pa_nil))))) pss_nil)
      (pss_cons (ps_if (pt_cmpR op_gt (pv 3) pe_int (nomark _)) (pss_one (ps_set (i := 4) sc_law.nd rfl (.inl rfl) (pe_call G__law_any hr (by rfl) T.g__law_any T.F__law_any.kp T.b__law_any .nil pass0 (pa_cons (pv 1) pa_nil)))) pss_nil)
      (pss_cons (ps_set (i := 5) sc_law.nd rfl (.inl rfl) pe_int)
      (pss_cons (ps_if (pt_val (pe_call G__law_comes_before (hr.mono (by decide)) (by rfl) T.g__law_comes_before T.F__law_comes_before.kp T.b__law_comes_before .nil pass0 (pa_cons (pv 2) (pa_cons (pv 4) pa_nil)))) (pss_one (ps_set (i := 5) sc_law.nd rfl (.inl rfl) (pe_un un_neg pe_int))) pss_nil)
      (pss_cons (ps_if (pt_val (pe_call G__law_comes_before (hr.mono (by decide)) (by rfl) T.g__law_comes_before T.F__law_comes_before.kp T.b__law_comes_before .nil pass0 (pa_cons (pv 4) (pa_cons (pv 2) pa_nil)))) (pss_one (ps_set (i := 5) sc_law.nd rfl (.inl rfl) pe_int)) pss_nil)
      (pss_cons (ps_if (pt_not (pt_val (pe_call G__law_is (hr.mono (by decide)) (by rfl) T.g__law_is T.F__law_is.kp T.b__law_is .nil pass0 (pa_cons (pe_call G_compare_values (hr.mono (by decide)) (by rfl) T.g_compare_values T.F_compare_values.kp T.b_compare_values .nil pass0 (pa_cons (pv 2) (pa_cons (pv 4) pa_nil))) (pa_cons (pv 5) pa_nil))))) (pss_one (ps_ret pe_bl)) pss_nil)
      (pss_one (ps_ret (pe_call G__law_is (hr.mono (by decide)) (by rfl) T.g__law_is T.F__law_is.kp T.b__law_is .nil pass0 (pa_cons (pe_call G_compare_values (hr.mono (by decide)) (by rfl) T.g_compare_values T.F_compare_values.kp T.b_compare_values .nil pass0 (pa_cons (pv 4) (pa_cons (pv 2) pa_nil))) (pa_cons (pe_un un_neg (pv 5)) pa_nil))))))))))))))), ?_⟩
    walk_at "st"
    refine ⟨a, ns, rfl, hS, hl, fun H1 t s1 n1 T1 => ?_⟩
    walk_at "st"
    intro H2 u f2 T2 hu
    walk_at "st"
    intro H3 r f3 T3 r0 r1
    walk_at "st"
    refine ite2 (fun e => ?a1) (fun e => ?a2)
    case' a1 =>
      walk_at "st"
      intro H4 v f4 T4 hv
    case' a2 =>
      have T4 := T3
      have hv := hu
    all_goals
      walk_at "st"
      refine ite2 (fun e2 => ?_) (fun e2 => ?_)
      · walk_at "st"
        intro H5 v5 f5 T5 hv5
        walk_at "st"
        intro H6 s6
        walk_at "st"
        refine ite2 (fun e6 => ?_) (fun e6 => ?_)
        · walk_at "st"
          intro H7 s7
          walk_at "st"
          refine ite2 (fun e7 => (vLt_not_both hu hv5 e6 e7).elim) (fun e7 => ?_)
          walk_at "st"
          intro H8 s8
          walk_at "st"
          refine ite2 (fun e8 => by first | exact absurd e6 e7 | exact absurd e7 e6 | (simp [e6, e7] at e8)) (fun e8 => ?_)
          walk_at "st"
          intro H9 s9
          walk_at "st"
          exact qb (by first | exact absurd e6 e7 | exact absurd e7 e6 | simp [e6, e7]) q
        · walk_at "st"
          intro H7 s7
          walk_at "st"
          refine ite2 (fun e7 => ?_) (fun e7 => ?_)
          · walk_at "st"
            intro H8 s8
            walk_at "st"
            refine ite2 (fun e8 => by first | exact absurd e6 e7 | exact absurd e7 e6 | (simp [e6, e7] at e8)) (fun e8 => ?_)
            walk_at "st"
            intro H9 s9
            walk_at "st"
            exact qb (by first | exact absurd e6 e7 | exact absurd e7 e6 | simp [e6, e7]) q
          · walk_at "st"
            intro H8 s8
            walk_at "st"
            refine ite2 (fun e8 => by first | exact absurd e6 e7 | exact absurd e7 e6 | (simp [e6, e7] at e8)) (fun e8 => ?_)
            walk_at "st"
            intro H9 s9
            walk_at "st"
            exact qb (by first | exact absurd e6 e7 | exact absurd e7 e6 | simp [e6, e7]) q

      · have hv5 := hv
        walk_at "st"
        intro H6 s6
        walk_at "st"
        refine ite2 (fun e6 => ?_) (fun e6 => ?_)
        · walk_at "st"
          intro H7 s7
          walk_at "st"
          refine ite2 (fun e7 => (vLt_not_both hu hv5 e6 e7).elim) (fun e7 => ?_)
          walk_at "st"
          intro H8 s8
          walk_at "st"
          refine ite2 (fun e8 => by first | exact absurd e6 e7 | exact absurd e7 e6 | (simp [e6, e7] at e8)) (fun e8 => ?_)
          walk_at "st"
          intro H9 s9
          walk_at "st"
          exact qb (by first | exact absurd e6 e7 | exact absurd e7 e6 | simp [e6, e7]) q
        · walk_at "st"
          intro H7 s7
          walk_at "st"
          refine ite2 (fun e7 => ?_) (fun e7 => ?_)
          · walk_at "st"
            intro H8 s8
            walk_at "st"
            refine ite2 (fun e8 => by first | exact absurd e6 e7 | exact absurd e7 e6 | (simp [e6, e7] at e8)) (fun e8 => ?_)
            walk_at "st"
            intro H9 s9
            walk_at "st"
            exact qb (by first | exact absurd e6 e7 | exact absurd e7 e6 | simp [e6, e7]) q
          · walk_at "st"
            intro H8 s8
            walk_at "st"
            refine ite2 (fun e8 => by first | exact absurd e6 e7 | exact absurd e7 e6 | (simp [e6, e7] at e8)) (fun e8 => ?_)
            walk_at "st"
            intro H9 s9
            walk_at "st"
            exact qb (by first | exact absurd e6 e7 | exact absurd e7 e6 | simp [e6, e7]) q

end
end Ind

set_option Elab.async false
set_option linter.all false
set_option maxRecDepth 100000
set_option maxHeartbeats 4000000
namespace Ind
open PySem PySem.Spec PyProof.Rows L2
theorem all_mk {l : PySem.W.OpenLaw} {w : World} {K : PySem.W.Frag} {h : Heap} {mg : Str → Option Value} {fa : Addr} (X : K.In h) (G : h.Ns mainGlobals mg) (hfa : mg "law" = some (.ref fa))
    {f0 : Addr} {od0 an0 : Option Addr} {sl0 : Array (Option Value)} {oc0 kV0 dc0 pm0 cd0 ct0 : Value}
    {f1 : Addr} {od1 an1 : Option Addr} {sl1 : Array (Option Value)} {oc1 kV1 dc1 pm1 cd1 ct1 : Value}
    {f2 : Addr} {od2 an2 : Option Addr} {sl2 : Array (Option Value)} {oc2 kV2 dc2 pm2 cd2 ct2 : Value}
    {f3 : Addr} {od3 an3 : Option Addr} {sl3 : Array (Option Value)} {oc3 kV3 dc3 pm3 cd3 ct3 : Value}
    {f4 : Addr} {od4 an4 : Option Addr} {sl4 : Array (Option Value)} {oc4 kV4 dc4 pm4 cd4 ct4 : Value}
    {f5 : Addr} {od5 an5 : Option Addr} {sl5 : Array (Option Value)} {oc5 kV5 dc5 pm5 cd5 ct5 : Value}
    {f6 : Addr} {od6 an6 : Option Addr} {sl6 : Array (Option Value)} {oc6 kV6 dc6 pm6 cd6 ct6 : Value}
    {f7 : Addr} {od7 an7 : Option Addr} {sl7 : Array (Option Value)} {oc7 kV7 dc7 pm7 cd7 ct7 : Value}
    {f8 : Addr} {od8 an8 : Option Addr} {sl8 : Array (Option Value)} {oc8 kV8 dc8 pm8 cd8 ct8 : Value}
    {f9 : Addr} {od9 an9 : Option Addr} {sl9 : Array (Option Value)} {oc9 kV9 dc9 pm9 cd9 ct9 : Value}
    {f10 : Addr} {od10 an10 : Option Addr} {sl10 : Array (Option Value)} {oc10 kV10 dc10 pm10 cd10 ct10 : Value}
    (a0 : PySem.W.nsIn K mainGlobals "compare_values" = some (some (.ref f0))) (l0 : K.lookup f0 = some ⟨oc0, od0, .func (PySem.W.fnOf "compare_values" "compare_values" (defArgs s_compare_values) (defBody s_compare_values) (defScope s_compare_values) .none kV0 dc0 pm0 an0 cd0 ct0), sl0⟩) (c0 : PySem.W.codeIn K cd0 "compare_values" = true) (k0 : PySem.W.keepIn K (.ref f0) = true)
    (a1 : PySem.W.nsIn K mainGlobals "_value_key" = some (some (.ref f1))) (l1 : K.lookup f1 = some ⟨oc1, od1, .func (PySem.W.fnOf "_value_key" "_value_key" (defArgs s__value_key) (defBody s__value_key) (defScope s__value_key) .none kV1 dc1 pm1 an1 cd1 ct1), sl1⟩) (c1 : PySem.W.codeIn K cd1 "_value_key" = true) (k1 : PySem.W.keepIn K (.ref f1) = true)
    (a2 : PySem.W.nsIn K mainGlobals "_law_tape" = some (some (.ref f2))) (l2 : K.lookup f2 = some ⟨oc2, od2, .func (PySem.W.fnOf "_law_tape" "_law_tape" (defArgs s__law_tape) (defBody s__law_tape) (defScope s__law_tape) .none kV2 dc2 pm2 an2 cd2 ct2), sl2⟩) (c2 : PySem.W.codeIn K cd2 "_law_tape" = true) (k2 : PySem.W.keepIn K (.ref f2) = true)
    (a3 : PySem.W.nsIn K mainGlobals "_law_draw" = some (some (.ref f3))) (l3 : K.lookup f3 = some ⟨oc3, od3, .func (PySem.W.fnOf "_law_draw" "_law_draw" (defArgs s__law_draw) (defBody s__law_draw) (defScope s__law_draw) .none kV3 dc3 pm3 an3 cd3 ct3), sl3⟩) (c3 : PySem.W.codeIn K cd3 "_law_draw" = true) (k3 : PySem.W.keepIn K (.ref f3) = true)
    (a4 : PySem.W.nsIn K mainGlobals "_law_signs" = some (some (.ref f4))) (l4 : K.lookup f4 = some ⟨oc4, od4, .func (PySem.W.fnOf "_law_signs" "_law_signs" (defArgs s__law_signs) (defBody s__law_signs) (defScope s__law_signs) .none kV4 dc4 pm4 an4 cd4 ct4), sl4⟩) (c4 : PySem.W.codeIn K cd4 "_law_signs" = true) (k4 : PySem.W.keepIn K (.ref f4) = true)
    (a5 : PySem.W.nsIn K mainGlobals "_law_text" = some (some (.ref f5))) (l5 : K.lookup f5 = some ⟨oc5, od5, .func (PySem.W.fnOf "_law_text" "_law_text" (defArgs s__law_text) (defBody s__law_text) (defScope s__law_text) .none kV5 dc5 pm5 an5 cd5 ct5), sl5⟩) (c5 : PySem.W.codeIn K cd5 "_law_text" = true) (k5 : PySem.W.keepIn K (.ref f5) = true)
    (a6 : PySem.W.nsIn K mainGlobals "_law_any" = some (some (.ref f6))) (l6 : K.lookup f6 = some ⟨oc6, od6, .func (PySem.W.fnOf "_law_any" "_law_any" (defArgs s__law_any) (defBody s__law_any) (defScope s__law_any) .none kV6 dc6 pm6 an6 cd6 ct6), sl6⟩) (c6 : PySem.W.codeIn K cd6 "_law_any" = true) (k6 : PySem.W.keepIn K (.ref f6) = true)
    (a7 : PySem.W.nsIn K mainGlobals "_law_near" = some (some (.ref f7))) (l7 : K.lookup f7 = some ⟨oc7, od7, .func (PySem.W.fnOf "_law_near" "_law_near" (defArgs s__law_near) (defBody s__law_near) (defScope s__law_near) .none kV7 dc7 pm7 an7 cd7 ct7), sl7⟩) (c7 : PySem.W.codeIn K cd7 "_law_near" = true) (k7 : PySem.W.keepIn K (.ref f7) = true)
    (a8 : PySem.W.nsIn K mainGlobals "_law_comes_before" = some (some (.ref f8))) (l8 : K.lookup f8 = some ⟨oc8, od8, .func (PySem.W.fnOf "_law_comes_before" "_law_comes_before" (defArgs s__law_comes_before) (defBody s__law_comes_before) (defScope s__law_comes_before) .none kV8 dc8 pm8 an8 cd8 ct8), sl8⟩) (c8 : PySem.W.codeIn K cd8 "_law_comes_before" = true) (k8 : PySem.W.keepIn K (.ref f8) = true)
    (a9 : PySem.W.nsIn K mainGlobals "_law_is" = some (some (.ref f9))) (l9 : K.lookup f9 = some ⟨oc9, od9, .func (PySem.W.fnOf "_law_is" "_law_is" (defArgs s__law_is) (defBody s__law_is) (defScope s__law_is) .none kV9 dc9 pm9 an9 cd9 ct9), sl9⟩) (c9 : PySem.W.codeIn K cd9 "_law_is" = true) (k9 : PySem.W.keepIn K (.ref f9) = true)
    (a10 : PySem.W.nsIn K mainGlobals "law" = some (some (.ref f10))) (l10 : K.lookup f10 = some ⟨oc10, od10, .func (PySem.W.fnOf "law" "law" (defArgs s_law) (defBody s_law) (defScope s_law) .none kV10 dc10 pm10 an10 cd10 ct10), sl10⟩) (c10 : PySem.W.codeIn K cd10 "law" = true) (k10 : PySem.W.keepIn K (.ref f10) = true)
    (z_abs : PySem.W.nsIn K mainGlobals "abs" = some none)
    (z_bool : PySem.W.nsIn K mainGlobals "bool" = some none)
    (z_int : PySem.W.nsIn K mainGlobals "int" = some none)
    (z_isinstance : PySem.W.nsIn K mainGlobals "isinstance" = some none)
    (z_len : PySem.W.nsIn K mainGlobals "len" = some none)
    (z_list : PySem.W.nsIn K mainGlobals "list" = some none)
    (z_max : PySem.W.nsIn K mainGlobals "max" = some none)
    (z_min : PySem.W.nsIn K mainGlobals "min" = some none)
    (z_range : PySem.W.nsIn K mainGlobals "range" = some none)
    (z_str : PySem.W.nsIn K mainGlobals "str" = some none) :
  ∃ fd : FuncData, (∀ (s : Shared) (v : Value), BindsTo s fd ⟨[v], []⟩ [("script", v)]) ∧ ∀ base : Heap, K.In base → base.Ns mainGlobals mg → FnOk l.prog w K mg base CX0 4 fa fd ["script"] (spLaw K) := by
  have e := hfa.symm.trans (PySem.W.mg_of X G a10)
  cases e
  have F0 := fun_mk (st := s_compare_values) l0 c0 k0
  have b0 := F0.binds (ps := ["left", "right"]) fun _ _ _ _ _ _ us hl => match us, hl with | [_, _], _ => rfl
  have F1 := fun_mk (st := s__value_key) l1 c1 k1
  have b1 := F1.binds (ps := ["value"]) fun _ _ _ _ _ _ us hl => match us, hl with | [_], _ => rfl
  have F2 := fun_mk (st := s__law_tape) l2 c2 k2
  have b2 := F2.binds (ps := ["script"]) fun _ _ _ _ _ _ us hl => match us, hl with | [_], _ => rfl
  have F3 := fun_mk (st := s__law_draw) l3 c3 k3
  have b3 := F3.binds (ps := ["tape", "many"]) fun _ _ _ _ _ _ us hl => match us, hl with | [_, _], _ => rfl
  have F4 := fun_mk (st := s__law_signs) l4 c4 k4
  have b4 := F4.binds (ps := []) fun _ _ _ _ _ _ us hl => match us, hl with | [], _ => rfl
  have F5 := fun_mk (st := s__law_text) l5 c5 k5
  have b5 := F5.binds (ps := ["tape"]) fun _ _ _ _ _ _ us hl => match us, hl with | [_], _ => rfl
  have F6 := fun_mk (st := s__law_any) l6 c6 k6
  have b6 := F6.binds (ps := ["tape"]) fun _ _ _ _ _ _ us hl => match us, hl with | [_], _ => rfl
  have F7 := fun_mk (st := s__law_near) l7 c7 k7
  have b7 := F7.binds (ps := ["tape", "value"]) fun _ _ _ _ _ _ us hl => match us, hl with | [_, _], _ => rfl
  have F8 := fun_mk (st := s__law_comes_before) l8 c8 k8
  have b8 := F8.binds (ps := ["left", "right"]) fun _ _ _ _ _ _ us hl => match us, hl with | [_, _], _ => rfl
  have F9 := fun_mk (st := s__law_is) l9 c9 k9
  have b9 := F9.binds (ps := ["told", "due"]) fun _ _ _ _ _ _ us hl => match us, hl with | [_, _], _ => rfl
  have F10 := fun_mk (st := s_law) l10 c10 k10
  have b10 := F10.binds (ps := ["script"]) fun _ _ _ _ _ _ us hl => match us, hl with | [_], _ => rfl
  exact ⟨_, fun s v => .of_eq rfl, fun base _ _ => ok_law (⟨f0, _, F0, b0, PySem.W.mg_of X G a0, f1, _, F1, b1, PySem.W.mg_of X G a1, f2, _, F2, b2, PySem.W.mg_of X G a2, f3, _, F3, b3, PySem.W.mg_of X G a3, f4, _, F4, b4, PySem.W.mg_of X G a4, f5, _, F5, b5, PySem.W.mg_of X G a5, f6, _, F6, b6, PySem.W.mg_of X G a6, f7, _, F7, b7, PySem.W.mg_of X G a7, f8, _, F8, b8, PySem.W.mg_of X G a8, f9, _, F9, b9, PySem.W.mg_of X G a9, fa, _, F10, b10, PySem.W.mg_of X G a10, PySem.W.mg_none_of X G z_abs, PySem.W.mg_none_of X G z_bool, PySem.W.mg_none_of X G z_int, PySem.W.mg_none_of X G z_isinstance, PySem.W.mg_none_of X G z_len, PySem.W.mg_none_of X G z_list, PySem.W.mg_none_of X G z_max, PySem.W.mg_none_of X G z_min, PySem.W.mg_none_of X G z_range, PySem.W.mg_none_of X G z_str⟩ : Txt K mg)⟩
end Ind
open PySem PySem.W PyProof.Rows
set_option maxHeartbeats 0 in
theorem PySem.Challenge.cw_indoubt_k00_values_in_order_holds : PySem.Challenge.rw_indoubt_k00_values_in_order.Holds := by
  w_on; o_law; k_head; (case hw => w_witness2)
  k_fill
  refine L2.walk_of (l := PySem.Challenge.rw_indoubt_k00_values_in_order) (n := 63) (k := 4) (x := "script") (CX := fun _ => L2.CX0) (sp := fun w => Ind.spLaw _) rfl (by decide) rfl ⟨rfl, by decide, by decide⟩ (fun w h Y => PySem.W.kIn_of Y) ?F (fun _ _ a ns hl _ hS => ⟨a, ns, rfl, hS, hl, fun _ => rfl⟩) (fun _ _ _ _ _ h => h)
  case F =>
    intro w mg fa h KX G hmg
    refine' Ind.all_mk KX G hmg ?a0 ?l0 ?c0 ?k0 ?a1 ?l1 ?c1 ?k1 ?a2 ?l2 ?c2 ?k2 ?a3 ?l3 ?c3 ?k3 ?a4 ?l4 ?c4 ?k4 ?a5 ?l5 ?c5 ?k5 ?a6 ?l6 ?c6 ?k6 ?a7 ?l7 ?c7 ?k7 ?a8 ?l8 ?c8 ?k8 ?a9 ?l9 ?c9 ?k9 ?a10 ?l10 ?c10 ?k10 ?z_abs ?z_bool ?z_int ?z_isinstance ?z_len ?z_list ?z_max ?z_min ?z_range ?z_str
    (case a0 => k_is); (case l0 => k_is); (case c0 => k_is); (case k0 => k_is); (case a1 => k_is); (case l1 => k_is); (case c1 => k_is); (case k1 => k_is); (case a2 => k_is); (case l2 => k_is); (case c2 => k_is); (case k2 => k_is); (case a3 => k_is); (case l3 => k_is); (case c3 => k_is); (case k3 => k_is); (case a4 => k_is); (case l4 => k_is); (case c4 => k_is); (case k4 => k_is); (case a5 => k_is); (case l5 => k_is); (case c5 => k_is); (case k5 => k_is); (case a6 => k_is); (case l6 => k_is); (case c6 => k_is); (case k6 => k_is); (case a7 => k_is); (case l7 => k_is); (case c7 => k_is); (case k7 => k_is); (case a8 => k_is); (case l8 => k_is); (case c8 => k_is); (case k8 => k_is); (case a9 => k_is); (case l9 => k_is); (case c9 => k_is); (case k9 => k_is); (case a10 => k_is); (case l10 => k_is); (case c10 => k_is); (case k10 => k_is); (case z_abs => k_is); (case z_bool => k_is); (case z_int => k_is); (case z_isinstance => k_is); (case z_len => k_is); (case z_list => k_is); (case z_max => k_is); (case z_min => k_is); (case z_range => k_is); (case z_str => k_is)

