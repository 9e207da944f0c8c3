import PyProof.Rows.All
import Wide.All
import OpenK.AllK
import Wide.FinOn
import HandS.Base
import HandS.Call
import HandS.List
import HandS.Comp
import HandS.Ends
import HandS.Words
import HandS.Codes
import HandS.IsInst
import HandS.Flow
import HandS.Conv
import HandS.Iter
import KE.GoesEnum
import KE.GoesEnumKw
import KE.GoesMore
import HandS.Exc
import HandS.ExcOwn
import HandS.ExcInit
import HandS.TryOnly
import HandS.WordsExc
import KE.KExcIs
import HandS.ExcField
import HandS.ExcIs
import HandS.TupMul
import HandS.Sort
import KE.KExcSuper
import HandS.Small
import PyProof.TupleOfSeq
import HandS.TupAny
import HandS.Star
import PyProof.InstNe
import OpenK.KOwn
import KE.KIndexOf
import HandS.SortRule
import HandS.Dict
import HandS.WordsDict
import HandS.ExcValue
import PySem.Challenge.RW_foldervotes_k00_errors_of_the_package
import KE.OsRunLaw
set_option Elab.async false
set_option linter.all false
set_option maxRecDepth 100000
set_option maxHeartbeats 4000000
namespace Fv
open PySem PySem.Spec PyProof.Rows L2
section
variable {K : PySem.W.Frag} {σ : L2.St} {H H' H1 H2 : Hp} {i : Nat} {v x y : V} {Q : VK} {D : Ends} {t u : TS} {te ta tb : TE} {tt tt2 : TT} {a b p q : Addr} {o o' : HO} {xs ys : List V}
theorem x_seq (h : t { D with nx := u D } σ H) : tSeq t u D σ H := h
theorem x_next (h : D.nx σ H) : tNext D σ H := h
theorem x_ret (h : te σ H D.rt) : tRet te D σ H := h
theorem x_ifs (h : tt σ H fun b H1 => if b = true then t D σ H1 else u D σ H1) : tIfS tt t u D σ H := h
theorem x_asg {g : TG} (h : te σ H fun x H1 => g x σ H1 D.nx) : tAsg te g D σ H := h
theorem x_gname {R : L2.St → Hp → Prop} (h : R (σ.set i (some v)) H) : gName i v σ H R := h
theorem x_gsub {to ti : TE} {s : TSet} {R : L2.St → Hp → Prop} (h : to σ H fun o H1 => ti σ H1 fun i H2 => s o i v H2 fun H3 => R σ H3) : gSub to ti s v σ H R := h
theorem x_gtup {n : Nat} {g : TGs} {R : L2.St → Hp → Prop} (h : SqT K H a xs) (hl : xs.length = n) (q : g xs σ H R) : gTup K n g (.ref a) σ H R := ⟨a, xs, rfl, h, hl, q⟩
theorem x_gcons {g : TG} {gs : TGs} {R : L2.St → Hp → Prop} (h : g x σ H fun σ' H' => gs xs σ' H' R) : gCons g gs (x :: xs) σ H R := ⟨x, xs, rfl, h⟩
theorem x_gnil {R : L2.St → Hp → Prop} (h : R σ H) : gNil [] σ H R := ⟨rfl, h⟩
theorem x_var (h : σ[i]? = some (some v)) (q : Q v H) : tVar i σ H Q := ⟨v, h, q⟩
theorem x_c (q : Q v H) : tC v σ H Q := q
theorem x_op {r : R2} (h : ta σ H fun x H1 => tb σ H1 fun y H2 => r x y H2 Q) : tOp r ta tb σ H Q := h
theorem x_un {r : V → Hp → VK → Prop} (h : ta σ H fun x H1 => r x H1 Q) : tUn r ta σ H Q := h
theorem x_i0 {g : Int → Int → V} {i j : Int} (q : Q (g i j) H) : rI0 g (.int i) (.int j) H Q := ⟨i, j, rfl, rfl, q⟩
theorem x_i {C : Int → Int → Prop} {g : Int → Int → V} {i j : Int} (c : C i j) (q : Q (g i j) H) : rI C g (.int i) (.int j) H Q := ⟨i, j, rfl, rfl, c, q⟩
theorem x_u {g : Int → V} {i : Int} (q : Q (g i) H) : rU g (.int i) H Q := ⟨i, rfl, q⟩
theorem x_eqI {i j : Int} (q : Q (.bl (decide (i = j))) H) : rEq (.int i) (.int j) H Q := ⟨rfl, by
  have e : decide (V.int i = V.int j) = decide (i = j) := by
    rw [Bool.eq_iff_iff]
    simp
  rw [e]
  exact q⟩
theorem x_neI {i j : Int} (q : Q (.bl (decide (i ≠ j))) H) : rNe (.int i) (.int j) H Q := ⟨rfl, by
  have e : (!decide (V.int i = V.int j)) = decide (i ≠ j) := by
    rw [Bool.eq_iff_iff]
    simp
  rw [e]
  exact q⟩
theorem x_ixL {i : Int} (h : SqL K H p xs) (ha : atI xs i = some v) (q : Q v H) : rIxL K (.ref p) (.int i) H Q := ⟨p, xs, i, v, rfl, rfl, h, ha, q⟩
theorem x_ixT {i : Int} (h : SqT K H p xs) (ha : atI xs i = some v) (q : Q v H) : rIxT K (.ref p) (.int i) H Q := ⟨p, xs, i, v, rfl, rfl, h, ha, q⟩
theorem x_setL {i : Int} {j : Nat} {R : Hp → Prop} (h : H p = some (.lst xs)) (hi : ixN xs.length i = some j) (q : R (upd H p (.lst (xs.set j v)))) : rSetL (.ref p) (.int i) v H R := ⟨p, xs, i, j, rfl, rfl, h, hi, q⟩
theorem x_test {R : Bool → Hp → Prop} (h : te σ H fun x H' => ∃ k, x = .bl k ∧ R k H') : tTest te σ H R := h
theorem x_b {R : Bool → Hp → Prop} (h : te σ H fun x H1 => ∃ c, x = .bl c ∧ R c H1) : tB te σ H R := h
theorem x_isb {c : Bool} {R : Bool → Prop} (h : R c) : ∃ k, V.bl c = .bl k ∧ R k := ⟨c, rfl, h⟩
theorem x_isi {c : Int} {R : Int → Prop} (h : R c) : ∃ k, V.int c = .int k ∧ R k := ⟨c, rfl, h⟩
theorem x_and {R : Bool → Hp → Prop} (h : tt σ H fun c H1 => if c = true then tt2 σ H1 R else R false H1) : tAnd tt tt2 σ H R := h
theorem x_or {R : Bool → Hp → Prop} (h : tt σ H fun c H1 => if c = true then R true H1 else tt2 σ H1 R) : tOr tt tt2 σ H R := h
theorem x_not {R : Bool → Hp → Prop} (h : tt σ H fun c H1 => R (!c) H1) : tNot tt σ H R := h
theorem x_andV (h : ta σ H fun x H1 => ∃ c, x = .bl c ∧ if c = true then tb σ H1 Q else Q (.bl false) H1) : tAndV ta tb σ H Q := h
theorem x_ifx (h : tt σ H fun c H1 => if c = true then ta σ H1 Q else tb σ H1 Q) : tIf tt ta tb σ H Q := h
theorem x_nil {R : List V → Hp → Prop} (q : R [] H) : tNil σ H R := q
theorem x_cons {tr : TA} {R : List V → Hp → Prop} (h : te σ H fun x H1 => tr σ H1 fun xs H2 => R (x :: xs) H2) : tCons te tr σ H R := h
theorem x_cb {r : List V → Hp → VK → Prop} {ts : TA} (h : ts σ H fun vs H1 => r vs H1 Q) : tCB r ts σ H Q := h
theorem x_call {sp : Sp} {dvs : List V} {E : XK} {ts : TA} (h : ts σ H fun vs H1 => sp (vs ++ dvs) H1 Q E) : tCall sp dvs E ts σ H Q := h
theorem x_lst {ts : TA} (h : ts σ H fun xs H1 => xs.length ≤ sizeLine ∧ ∀ p, H1 p = none → Q (.ref p) (upd H1 p (.lst xs))) : tLst ts σ H Q := h
theorem x_tup {ts : TA} (h : ts σ H fun xs H1 => xs.length ≤ sizeLine ∧ ∀ p, H1 p = none → Q (.ref p) (upd H1 p (.tup xs))) : tTup ts σ H Q := h
theorem x_sl {r : V → Option Int → Option Int → Hp → VK → Prop} {tl th : TO} (h : te σ H fun x H1 => tl σ H1 fun l H2 => th σ H2 fun u H3 => r x l u H3 Q) : tSl r te tl th σ H Q := h
theorem x_nopart {R : Option Int → Hp → Prop} (h : R none H) : tNoPart σ H R := h
theorem x_part {R : Option Int → Hp → Prop} (h : te σ H fun x H1 => ∃ i, x = .int i ∧ R (some i) H1) : tPart te σ H R := h
theorem x_slL {lo hi : Option Int} (h : SqL K H a xs) (q : ∀ p, H p = none → Q (.ref p) (upd H p (.lst (cutV xs lo hi)))) : rSlL K (.ref a) lo hi H Q := ⟨a, xs, rfl, h, q⟩
theorem x_ilist {R : It → Hp → Prop} {tl : TE} (h : tl σ H fun x H1 => ∃ a, x = .ref a ∧ (∃ xs, SqL K H1 a xs) ∧ R (Itl K a) H1) : iList K tl σ H R := h
theorem x_rng1 {R : It → Hp → Prop} {ts : TA} (h : ts σ H fun vs H1 => ∃ j : Int, vs = [.int j] ∧ -(2 ^ 62) ≤ j ∧ j < 2 ^ 62 ∧ R (Itr 0 j.toNat) H1) : iRng1 ts σ H R := h
theorem x_yes {R : Bool → Hp → Prop} (h : R true H) : tYes σ H R := h
def rLen (K : PySem.W.Frag) : List V → Hp → VK → Prop := fun xs H Q => ∃ p ys, xs = [.ref p] ∧ (SqL K H p ys ∨ SqT K H p ys) ∧ Q (.int ys.length) H
def rInt : List V → Hp → VK → Prop := fun xs H Q => (∃ i, xs = [.int i] ∧ Q (.int i) H) ∨ ∃ k, xs = [.bl k] ∧ Q (.int (if k then 1 else 0)) H
def rAbs : List V → Hp → VK → Prop := fun xs H Q => ∃ i, xs = [.int i] ∧ Q (.int (if i < 0 then -i else i)) H
theorem call_len {X : Cx} : CallR X (.builtin "len") (rLen X.K) := call_len_seq
theorem call_int {X : Cx} : CallR X (.type "int") rInt := call_int1
theorem call_ab {X : Cx} : CallR X (.builtin "abs") rAbs := call_abs
theorem x_lenL (h : SqL K H p xs) (q : Q (.int xs.length) H) : rLen K [.ref p] H Q := ⟨p, xs, rfl, .inl h, q⟩
theorem x_lenT (h : SqT K H p xs) (q : Q (.int xs.length) H) : rLen K [.ref p] H Q := ⟨p, xs, rfl, .inr h, q⟩
theorem x_int1 {j : Int} (q : Q (.int j) H) : rInt [.int j] H Q := .inl ⟨j, rfl, q⟩
theorem x_abs {j : Int} (q : Q (.int (if j < 0 then -j else j)) H) : rAbs [.int j] H Q := ⟨j, rfl, q⟩
theorem x_isd {c : Prop} [Decidable c] {A B : Prop} (h1 : c → A) (h2 : ¬ c → B) : if decide c = true then A else B := by
  by_cases h : c
  · rw [if_pos (decide_eq_true h)]
    exact h1 h
  · rw [if_neg (by rw [decide_eq_false h]; exact Bool.false_ne_true)]
    exact h2 h
theorem x_isdT {c : Prop} [Decidable c] {A B : Prop} (h : c) (h1 : A) : if decide c = true then A else B := x_isd (fun _ => h1) fun n => (n h).elim
theorem x_isdF {c : Prop} [Decidable c] {A B : Prop} (h : ¬ c) (h1 : B) : if decide c = true then A else B := x_isd (fun n => (h n).elim) fun _ => h1
theorem x_nT {A B : Prop} (h : B) : if (!true) = true then A else B := iteF h
theorem lp_range {g : TG} {tb : TS} {nx : L2.St → Hp → Prop} {rt : VK} {σ : L2.St} {H : Hp} {lo : Int} {n : Nat} (Pv : Nat → L2.St → Hp → Prop) (h0 : Pv 0 σ H) (hs : ∀ i σ H, i < n → Pv i σ H → g (.int (lo + i)) σ H fun σ2 H2 => tb { nx := Pv (i + 1), rt := rt, bk := nx, ct := Pv (i + 1) } σ2 H2) (hd : ∀ σ H, Pv n σ H → nx σ H) :
    ∃ W : Nat → Nat → L2.St → Hp → Prop, (∃ m, W 0 m σ H) ∧ ∀ i m σ H, W i m σ H → ((Itr lo n).stop i H ∧ nx σ H) ∨ ((Itr lo n).go i H ∧ ∃ N : L2.St → Hp → Prop, (∀ σ' H', N σ' H' → ∃ m', m' < m ∧ W (i + 1) m' σ' H') ∧ ∀ x H', (Itr lo n).yld i H x H' → g x σ H' fun σ2 H2 => tb { nx := N, rt := rt, bk := nx, ct := N } σ2 H2) :=
  for_range (D := { nx := nx, rt := rt}) Pv h0 hs hd
theorem keepN (h : H a = some o) (hp : H p = none) : upd H p o' a = some o := by
  rw [upd_ne (ne_of_none h hp)]
  exact h
theorem keepM (n : a ≠ p) (h : H a = some o) : upd H p o' a = some o := by
  rw [upd_ne n]
  exact h
theorem keepLM (n : a ≠ p) (h : SqL K H a xs) : SqL K (upd H p o') a xs := by
  rcases h with (h | ⟨u, h⟩) | h
  · exact .inl (.inl (keepM n h))
  · exact .inl (.inr ⟨u, keepM n h⟩)
  · exact .inr h
theorem keepLN (h : SqL K H a xs) (hp : H p = none) : SqL K (upd H p o') a xs := by
  rcases h with (h | ⟨u, h⟩) | h
  · exact .inl (.inl (keepN h hp))
  · exact .inl (.inr ⟨u, keepN h hp⟩)
  · exact .inr h
theorem keepTN (h : SqT K H a xs) (hp : H p = none) : SqT K (upd H p o') a xs := by
  rcases h with (h | ⟨u, h⟩) | h
  · exact .inl (.inl (keepN h hp))
  · exact .inl (.inr ⟨u, keepN h hp⟩)
  · exact .inr h
theorem same_new (s : Same H H1) (hp : H1 p = none) : Same H (upd H1 p o) := fun b u e => keepN (s b u e) hp
theorem same_mut (s : Same H H1) (hp : H p = none) : Same H (upd H1 p o) := fun b u e => keepM (ne_of_none e hp) (s b u e)
def But (p : Addr) (H H' : Hp) : Prop := ∀ b o, b ≠ p → H b = some o → H' b = some o
theorem But.refl (p : Addr) (H : Hp) : But p H H := fun _ _ _ h => h
theorem But.trans (a : But p H H1) (b : But p H1 H2) : But p H H2 := fun c o n h => b c o n (a c o n h)
theorem But.new (s : But p H H1) (hq : H1 q = none) : But p H (upd H1 q o) := fun b u n e => keepN (s b u n e) hq
theorem But.mut (s : But p H H1) : But p H (upd H1 p o) := fun b u n e => keepM n (s b u n e)
theorem But.seq (s : But p H H1) (n : a ≠ p) (h : SqL K H a xs) : SqL K H1 a xs := by
  rcases h with (h | ⟨o, h⟩) | h
  · exact .inl (.inl (s _ _ n h))
  · exact .inl (.inr ⟨o, s _ _ n h⟩)
  · exact .inr h
end
theorem same_trans {H H1 H2 : Hp} (b : Same H1 H2) (a : Same H H1) : Same H H2 := Same.trans a b
theorem ne_none' {H : Hp} {a b : Addr} {o : HO} (h' : H b = none) (h : H a = some o) : b ≠ a := Ne.symm (ne_of_none h h')
theorem cut1 (xs : List V) : cutV xs (some 1) none = xs.drop 1 := by
  unfold cutV
  rw [show HT.sIx xs.length 0 (some 1) = min 1 xs.length from HT.sIx_nat xs.length 0 1, HT.sIx_none]
  cases xs with
  | nil => rfl
  | cons x r =>
    rw [show min 1 (x :: r).length = 1 by
      rw [List.length_cons]
      omega]
    show (List.take ((x :: r).length - 1) r) = r
    rw [List.length_cons, Nat.add_sub_cancel]
    exact List.take_length
theorem at_mod {xs : List V} {z : Int} (h : 0 < xs.length) : ∃ v, atI xs (z % (xs.length : Int)) = some v ∧ v ∈ xs := by
  have h1 : 0 ≤ z % (xs.length : Int) := Int.emod_nonneg _ (by omega)
  have h2 : z % (xs.length : Int) < xs.length := Int.emod_lt_of_pos _ (by omega)
  obtain ⟨j, hj⟩ := Int.eq_ofNat_of_zero_le h1
  have hl : j < xs.length := by omega
  refine ⟨xs[j], ?_, List.getElem_mem hl⟩
  rw [hj]
  exact atI_nat (List.getElem?_eq_getElem hl)
theorem at_lt {xs : List V} {d : Int} (h1 : 0 ≤ d) (h2 : d < xs.length) : ∃ v, atI xs d = some v ∧ v ∈ xs := by
  obtain ⟨j, hj⟩ := Int.eq_ofNat_of_zero_le h1
  have hl : j < xs.length := by omega
  refine ⟨xs[j], ?_, List.getElem_mem hl⟩
  rw [hj]
  exact atI_nat (List.getElem?_eq_getElem hl)
structure Cal (K : PySem.W.Frag) (mg : Str → Option Value) (x : Str) (f : Addr) (fd : FuncData) (ps : List Str) : Prop where
  g : mg x = some (.ref f)
  k : PySem.W.keepIn K (.ref f) = true
  b : Binds K fd ps []
theorem szLe {n : Nat} (h : n ≤ 100000) : n ≤ sizeLine := Nat.le_trans h (by decide)
theorem szLt {n : Nat} (h : n < 100000) : n < sizeLine := Nat.lt_of_lt_of_le h (by decide)
end Fv
set_option maxRecDepth 100000
set_option maxHeartbeats 1000000
namespace Fv
open PySem PySem.Spec L2
def Kn (H : Hp) : V → Prop
  | .non => True
  | .bl _ => True
  | .int _ => True
  | .str _ => True
  | .ref a => (∃ xs, H a = some (.lst xs)) ∨ (∃ xs, H a = some (.tup xs)) ∨ ∃ kvs, H a = some (.dK kvs)
  | _ => False
def isBlV : V → Bool
  | .bl _ => true
  | _ => false
section
variable {K : PySem.W.Frag} {σ : L2.St} {H H' H1 H2 : Hp} {i : Nat} {v x y : V} {Q : VK} {a b p q : Addr} {o o' : HO} {xs ys : List V}
theorem x_isK {T : String} {t : String} {b : Bool} (ty : TyX K H x (.type t)) (e : kitB t T = some b) (q : Q (.bl b) H) : rIsi K [x, .ty T] H Q := ⟨x, .ty T, .type t, .type T, b, rfl, .ty T, ty, kit_ty e, q⟩
theorem x_isBl (h : Kn H x) (q : Q (.bl (isBlV x)) H) : rIsi K [x, .ty "bool"] H Q := by
  cases x with
  | non => exact x_isK (b := false) (.base .non) (by decide +kernel) q
  | bl b => exact x_isK (b := true) (.base (.bl b)) (by decide +kernel) q
  | int i => exact x_isK (b := false) (.base (.int i)) (by decide +kernel) q
  | str i => exact x_isK (b := false) (.base (.str i)) (by decide +kernel) q
  | byt b => exact h.elim
  | flt b => exact h.elim
  | ty b => exact h.elim
  | ref a =>
    rcases h with ⟨xs, h⟩ | ⟨xs, h⟩ | ⟨xs, h⟩
    · exact x_isK (b := false) (.base (.lst h)) (by decide +kernel) q
    · exact x_isK (b := false) (.base (.tup h)) (by decide +kernel) q
    · exact x_isK (b := false) (.base (.dK h)) (by decide +kernel) q
theorem x_isiT2 {T1 T2 t : String} {b1 b2 : Bool} (hp : H p = some (.tup [.ty T1, .ty T2])) (ty : TyX K H x (.type t)) (e1 : kitB t T1 = some b1) (e2 : kitB t T2 = some b2) (q : Q (.bl (b1 || b2)) H) : rIsiT K [x, .ref p] H Q := by
  refine ⟨x, p, [.ty T1, .ty T2], .type t, [.type T1, .type T2], b1 || b2, rfl, hp, .cons (.ty _) (.cons (.ty _) .nil), ty, ?_, q⟩
  cases b1 with
  | true => exact kitAny_cons (kit_ty e1) (fun h => nomatch h) (fun _ => rfl)
  | false =>
    refine kitAny_cons (kit_ty e1) (fun _ => ?_) (fun h => nomatch h)
    cases b2 with
    | true => exact kitAny_cons (kit_ty e2) (fun h => nomatch h) (fun _ => rfl)
    | false => exact kitAny_cons (kit_ty e2) (fun _ => kitAny_nil) (fun h => nomatch h)
end
section
variable {K : PySem.W.Frag} {H : Hp} {Q : VK} {a : Addr} {xs : List V}
theorem isi_non_dict (q : Q (.bl false) H) : rIsi K [.non, .ty "dict"] H Q := x_isK (b := false) (.base .non) (by decide +kernel) q
theorem isi_bl_bool {c : Bool} (q : Q (.bl true) H) : rIsi K [.bl c, .ty "bool"] H Q := x_isK (b := true) (.base (.bl c)) (by decide +kernel) q
theorem isi_bl_dict {c : Bool} (q : Q (.bl false) H) : rIsi K [.bl c, .ty "dict"] H Q := x_isK (b := false) (.base (.bl c)) (by decide +kernel) q
theorem isi_int_bool {j : Int} (q : Q (.bl false) H) : rIsi K [.int j, .ty "bool"] H Q := x_isK (b := false) (.base (.int j)) (by decide +kernel) q
theorem isi_int_dict {j : Int} (q : Q (.bl false) H) : rIsi K [.int j, .ty "dict"] H Q := x_isK (b := false) (.base (.int j)) (by decide +kernel) q
theorem isi_str_bool {j : Str} (q : Q (.bl false) H) : rIsi K [.str j, .ty "bool"] H Q := x_isK (b := false) (.base (.str j)) (by decide +kernel) q
theorem isi_str_dict {j : Str} (q : Q (.bl false) H) : rIsi K [.str j, .ty "dict"] H Q := x_isK (b := false) (.base (.str j)) (by decide +kernel) q
theorem isi_lst_tuple (h : H a = some (.lst xs)) (q : Q (.bl false) H) : rIsi K [.ref a, .ty "tuple"] H Q := x_isK (b := false) (.base (.lst h)) (by decide +kernel) q
theorem isi_lst_list (h : H a = some (.lst xs)) (q : Q (.bl true) H) : rIsi K [.ref a, .ty "list"] H Q := x_isK (b := true) (.base (.lst h)) (by decide +kernel) q
theorem isi_tup_tuple (h : H a = some (.tup xs)) (q : Q (.bl true) H) : rIsi K [.ref a, .ty "tuple"] H Q := x_isK (b := true) (.base (.tup h)) (by decide +kernel) q
theorem isi_tup_list (h : H a = some (.tup xs)) (q : Q (.bl false) H) : rIsi K [.ref a, .ty "list"] H Q := x_isK (b := false) (.base (.tup h)) (by decide +kernel) q
theorem isi_dK_dict {kvs : List (Key × V)} (h : H a = some (.dK kvs)) (q : Q (.bl true) H) : rIsi K [.ref a, .ty "dict"] H Q := x_isK (b := true) (.base (.dK h)) (by decide +kernel) q
end
section
variable {K : PySem.W.Frag} {σ : L2.St} {H H' H1 H2 : Hp} {i : Nat} {v x y : V} {Q : VK} {a b p q : Addr} {o o' : HO} {xs ys : List V}
theorem x_isiTn {T1 T2 t : String} (hp : H p = some (.tup [.ty T1, .ty T2])) (ty : TyX K H x (.type t)) (e1 : kitB t T1 = some false) (e2 : kitB t T2 = some false) (q : Q (.bl false) H) : rIsiT K [x, .ref p] H Q := x_isiT2 hp ty e1 e2 q
theorem x_isiT1 {T1 T2 t : String} (hp : H p = some (.tup [.ty T1, .ty T2])) (ty : TyX K H x (.type t)) (e1 : kitB t T1 = some true) (e2 : kitB t T2 = some false) (q : Q (.bl true) H) : rIsiT K [x, .ref p] H Q := x_isiT2 hp ty e1 e2 q
theorem x_isiTb {T1 T2 t : String} (hp : H p = some (.tup [.ty T1, .ty T2])) (ty : TyX K H x (.type t)) (e1 : kitB t T1 = some false) (e2 : kitB t T2 = some true) (q : Q (.bl true) H) : rIsiT K [x, .ref p] H Q := x_isiT2 hp ty e1 e2 q
def sca : V → Bool
  | .non => true
  | .bl _ => true
  | .int _ => true
  | .str _ => true
  | _ => false
end
section
variable {X : Cx} {K : PySem.W.Frag}
theorem ix_listK (e : X.K = K) : IxR X (rIxL K) := by
  subst e
  exact ix_list
theorem call_lenK (e : X.K = K) : CallR X (.builtin "len") (rLen K) := by
  subst e
  exact call_len
theorem call_isiK' (e : X.K = K) : CallR X (.builtin "isinstance") (rIsi K) := by
  subst e
  exact call_isi
theorem call_isiTK (e : X.K = K) : CallR X (.builtin "isinstance") (rIsiT K) := by
  subst e
  exact call_isiT
theorem sl_listK (e : X.K = K) : SlR X (rSlL K) := by
  subst e
  exact sl_list
theorem op_neDK (e : X.K = K) (hu : X.A.units + 64 < cLine) : OpR X (compareOp .NotEq) (rNeD K) := by
  subst e
  exact op_neD hu
theorem cr_allK (e : X.K = K) (hc : X.calm = true) : CallR X (.builtin "all") (rAll K) := by
  subst e
  exact cr_all hc
section
variable {o e value : Expr} {f : Str} {pos apos cpos : Pos} {ta to : TE} {es : List Expr} {t : TA} {name : Str} {T id : String} {r : V → List V → Hp → VK → Prop}
end
end
def rIsNk : R2 := fun x y H Q => y = .non ∧ Q (.bl (decide (x = .non))) H
def rNotNk : R2 := fun x y H Q => y = .non ∧ Q (.bl (!decide (x = .non))) H
section
variable {X : Cx} {K : PySem.W.Frag} {H : Hp} {Q : VK} {x v : V} {p : Addr} {i : Int} {xs : List V}
theorem op_isNk : OpR X (compareOp .Is) rIsNk := op_isN
theorem op_notNk : OpR X (compareOp .IsNot) rNotNk := op_notN
theorem x_isN0 (q : Q (.bl true) H) : rIsNk .non .non H Q := ⟨rfl, q⟩
theorem x_isN1 {b : Bool} (q : Q (.bl false) H) : rIsNk (.bl b) .non H Q := ⟨rfl, q⟩
theorem x_isN2 {b : Int} (q : Q (.bl false) H) : rIsNk (.int b) .non H Q := ⟨rfl, q⟩
theorem x_isN3 {b : Str} (q : Q (.bl false) H) : rIsNk (.str b) .non H Q := ⟨rfl, q⟩
theorem x_notN1 {b : Bool} (q : Q (.bl true) H) : rNotNk (.bl b) .non H Q := ⟨rfl, q⟩
theorem x_notN2 {b : Int} (q : Q (.bl true) H) : rNotNk (.int b) .non H Q := ⟨rfl, q⟩
theorem x_notN3 {b : Str} (q : Q (.bl true) H) : rNotNk (.str b) .non H Q := ⟨rfl, q⟩
theorem ix_seqK (e : X.K = K) : IxR X (rIx K) := by
  subst e
  exact ix_seq
theorem x_ixSL (h : SqL K H p xs) (ha : atI xs i = some v) (q : Q v H) : rIx K (.ref p) (.int i) H Q := .inl (x_ixL h ha q)
theorem x_ixST (h : SqT K H p xs) (ha : atI xs i = some v) (q : Q v H) : rIx K (.ref p) (.int i) H Q := .inr (.inl (x_ixT h ha q))
theorem x_eqB {b c : Bool} (q : Q (.bl (decide (b = c))) H) : rEq (.bl b) (.bl c) H Q := ⟨rfl, by
  have e : decide (V.bl b = V.bl c) = decide (b = c) := by
    rw [Bool.eq_iff_iff]
    simp
  rw [e]
  exact q⟩
theorem x_neB {b c : Bool} (q : Q (.bl (decide (b ≠ c))) H) : rNe (.bl b) (.bl c) H Q := ⟨rfl, by
  have e : (!decide (V.bl b = V.bl c)) = decide (b ≠ c) := by
    rw [Bool.eq_iff_iff]
    simp
  rw [e]
  exact q⟩
theorem x_eqS {b c : Str} (q : Q (.bl (decide (b = c))) H) : rEq (.str b) (.str c) H Q := ⟨rfl, by
  have e : decide (V.str b = V.str c) = decide (b = c) := by
    rw [Bool.eq_iff_iff]
    simp
  rw [e]
  exact q⟩
end
section
variable {K : PySem.W.Frag} {σ : L2.St} {H : Hp} {Q : VK} {a p : Addr} {xs : List V} {ta tb : TE}
end
theorem x_for {wi : TI} {g : TG} {tb : TS} {D : Ends} {σ : L2.St} {H : Hp} (h : wi σ H fun J H1 => ∃ W : Nat → Nat → L2.St → Hp → Prop, (∃ m, W 0 m σ H1) ∧ ∀ i m σ H, W i m σ H →
  (J.stop i H ∧ D.nx σ H) ∨ (J.go i H ∧ ∃ N : L2.St → Hp → Prop, (∀ σ' H', N σ' H' → ∃ m', m' < m ∧ W (i + 1) m' σ' H') ∧ ∀ x H', J.yld i H x H' → g x σ H' fun σ2 H2 => tb { nx := N, rt := D.rt, bk := D.nx, ct := N } σ2 H2)) : tFor wi g tb D σ H := h
theorem x_lc {wi : TI} {g : TG} {tt : TT} {te : TE} {vs : List Nat} {σ : L2.St} {H : Hp} {Q : VK} (h : wi σ H fun J H1 => ∀ D, H1 D = none → ∃ W : Nat → Nat → Hp → Prop, (∃ m, W 0 m (upd H1 D (.lst []))) ∧ ∀ i m H, W i m H →
  (J.stop i H ∧ Q (.ref D) H) ∨ (J.go i H ∧ ∃ Nx : Hp → Prop, (∀ H', Nx H' → ∃ m', m' < m ∧ W (i + 1) m' H') ∧ ∀ x H', J.yld i H x H' → g x (wipe σ vs) H' fun σ2 H2 => wipe σ2 vs = wipe σ vs ∧ tt σ2 H2 fun b H3 =>
    if b = true then te σ2 H3 fun y H4 => ∃ acc, H4 D = some (.lst acc) ∧ acc.length < sizeLine ∧ Nx (upd H4 D (.lst (acc ++ [y]))) else Nx H3)) : tLc wi g tt te vs σ H Q := h
end Fv
namespace Fv
end Fv
set_option maxRecDepth 100000
set_option maxHeartbeats 1000000
namespace Fv
open PySem PySem.Spec L2
section
variable {K : PySem.W.Frag} {σ : L2.St} {H : Hp} {Q : VK} {a b p : Addr} {xs ys : List V} {ta tb : TE}
theorem x_cat (h1 : H a = some (.lst xs)) (h2 : H b = some (.lst ys)) (hl : xs.length + ys.length ≤ sizeLine) (q : ∀ p, H p = none → Q (.ref p) (upd H p (.lst (xs ++ ys)))) : rCat (.ref a) (.ref b) H Q := ⟨a, b, xs, ys, rfl, rfl, h1, h2, hl, q⟩
end
end Fv
set_option maxRecDepth 100000
set_option maxHeartbeats 1000000
namespace Fv
open PySem PySem.Spec L2
end Fv
set_option maxRecDepth 100000
set_option maxHeartbeats 1000000
namespace Fv
open PySem PySem.Spec L2
section
variable {K : PySem.W.Frag} {σ : L2.St} {H : Hp} {Q : VK} {a p : Addr} {xs : List V} {ta tb : TE}
end
end Fv
set_option maxRecDepth 100000
set_option maxHeartbeats 1000000
namespace Fv
open PySem PySem.Spec L2
theorem x_ost {K : PySem.W.Frag} {f : Str} {to te : TE} {D : Ends} {σ : L2.St} {H : Hp} (h : te σ H fun y H1 => to σ H1 fun x H2 => ∃ a C : Addr, x = .ref a ∧ OexC K C ∧ PySem.W.findIn K (.ref C) f = some none ∧ ((H2 a = some (exo a C none) ∧ ∀ dx, H2 dx = none → dx ≠ a → D.nx σ (upd (upd H2 dx (exd dx [(f, y)])) a (exo a C (some dx)))) ∨ ∃ (dx : Addr) (fs : List (Str × V)), H2 a = some (exo a C (some dx)) ∧ H2 dx = some (exd dx fs) ∧ fs.length ≤ 900 ∧ D.nx σ (upd H2 dx (exd dx ((f, y) :: fs))))) : tOst K f to te D σ H := h
structure CalM (K : PySem.W.Frag) (f : Addr) (fd : FuncData) (ps : List Str) : Prop where
  k : PySem.W.keepIn K (.ref f) = true
  b : Binds K fd ps []
structure ExcF (K : PySem.W.Frag) (C fI : Addr) (f : Str) : Prop where
  T : OexC K C
  i : PySem.W.findIn K (.ref C) "__init__" = some (some (.ref fI))
  t : PySem.W.typeIn K (.ref fI) = some (.type "function")
  n : PySem.W.findIn K (.ref C) f = some none
def spField (C : Addr) (f : Str) : Sp := fun vs H Q _ => ∃ (a : Addr) (v : V), vs = [.ref a, v] ∧ H a = some (exo a C none) ∧ ∀ dx, H dx = none → dx ≠ a → Q .non (upd (upd H dx (exd dx [(f, v)])) a (exo a C (some dx)))
end Fv
set_option maxRecDepth 100000
set_option maxHeartbeats 1000000
namespace Fv
open PySem PySem.Spec L2
section
variable {K : PySem.W.Frag} {H : Hp} {Q : VK} {a b : Addr} {l m : List Nat}
end
section
variable {K : PySem.W.Frag} {H : Hp} {Q : VK} {a C dx : Addr} {fs : List (Str × V)} {xs : List V}
end
end Fv
set_option maxRecDepth 100000
set_option maxHeartbeats 1000000
namespace Fv
open PySem PySem.Spec L2 PyProof.Rows
end Fv
set_option maxRecDepth 100000
set_option maxHeartbeats 1000000
namespace Fv
open PySem PySem.Spec L2
section
variable {X : Cx} {K : PySem.W.Frag} {H : Hp} {Q : VK} {a b : Addr} {xs ys : List V} {v : V}
end
end Fv
set_option maxRecDepth 100000
set_option maxHeartbeats 1000000
namespace Fv
open PySem PySem.Spec PyProof.Rows L2
section
variable {K : PySem.W.Frag} {σ : L2.St} {H : Hp} {Q : VK} {a p : Addr} {xs : List V} {v : V}
end
end Fv
set_option maxRecDepth 100000
set_option maxHeartbeats 1000000
namespace Fv
open PySem PySem.Spec PySem.Calls PyProof.Rows
def siA (p : Pos) : Arguments := { posonlyargs := [], args := [{ arg := "self", annotation := none, pos := p }], vararg := none, kwonlyargs := [], kw_defaults := [], kwarg := none, defaults := [] }
def siB (p0 p1 p2 p3 p4 : Pos) : List Stmt := [.Expr (.Call (.Attribute (.Call (.Name "super" p0) [] [] p1) "__init__" p2) [] [] p3) p4]
def siS : Scope := { kind := .function, names := [(PySem.Str.ofString "self", .local), (PySem.Str.ofString "__class__", .free), (PySem.Str.ofString "super", .globalImplicit)], isGenerator := false, isCoroutine := false, more := [] }
def SupEv (p0 p1 p2 p3 : Pos) : Prop := ∀ (q : Str) (L a cc : Addr) (cd : Value), ∃ pl : Sem Bool,
  eval (.Call (.Attribute (.Call (.Name "super" p0) [] [] p1) "__init__" p2) [] [] p3) (PySem.W.ksEnv q siS L a cd cc) = (do
    let o ← attributeBase (.Call (.Name "super" p0) [] [] p1) "__init__" (PySem.W.ksEnv q siS L a cd cc) (eval (.Call (.Name "super" p0) [] [] p1) (PySem.W.ksEnv q siS L a cd cc))
    standAt p2.atName
    let (f, first) ← holding [o] (getMethod o "__init__" pl)
    callWith p3 f first (backTo p3 (starEach [] (PySem.W.ksEnv q siS L a cd cc))) [])
structure SupC (P : Program) (K : PySem.W.Frag) (C fI : Addr) : Prop where
  x : L2.OexC K C
  iC : PySem.W.findIn K (.ref C) "__init__" = some (some (.ref fI))
  tC : PySem.W.typeIn K (.ref fI) = some (.type "function")
  fn : ∃ (oc : Value) (od : Option Addr) (kV doc pm : Value) (an : Option Addr) (cda : Addr) (ct : Value) (osl : Array (Option Value)) (cc : Addr) (q : Str) (p p0 p1 p2 p3 p4 : Pos),
    K.lookup fI = some ⟨oc, od, .func (PySem.W.ksFn "__init__" q (siA p) (siB p0 p1 p2 p3 p4) siS .none kV doc pm an (.ref cda) ct cc), osl⟩ ∧ PySem.W.codeIn K (.ref cda) q = true ∧ (∃ (cl : Value) (cld : Option Addr) (csl : Array (Option Value)), K.lookup cc = some ⟨cl, cld, .cell (some (.ref C)), csl⟩) ∧
    ∃ (ccl : Value) (cdd : Option Addr) (vs : Array Value) (ccs : Array (Option Value)) (file : Str) (tf : Tok), K.lookup cda = some ⟨ccl, cdd, .fields vs, ccs⟩ ∧ vs[2]? = some (.str file tf) ∧ ((P.main.file : Str) == file) = true ∧ SupEv p0 p1 p2 p3
  up : PySem.W.ks_superIn K C C "__init__" = some (some (.builtin "ValueError.__init__"))
  me : PySem.W.mroIn K C (.ref C) = some true
  ve : PySem.W.subIn K (.ref C) (.type "ValueError") = some true
  op : PySem.W.nsIn K cStatics "thirdparty.any" = some none
  tp : (P.main.scope.names.lookup ("super" : Str)).isSome = false
section
variable {P : Program} {w : World} {A : Around} {R : Result → Shared → Prop} {s : Shared} {K : PySem.W.Frag} {C fI : Addr}
theorem sup_init (T : SupC P K C fI) {x t0 : Addr} {mg mb : Str → Option Value} (X : K.In s.heap) (hlim : s.heap.NoLimit) (hg : s.heap.Ns mainGlobals mg) (hms : mg "super" = none) (hb : s.heap.Ns builtinsNs mb) (hbs : mb "super" = some (.type "super"))
    (hx : s.heap.get? x = some (PySem.HandSPX.excO C t0)) (hroom : A.depth < recursionLimit)
    (hq : ∀ h' tk t1, (∀ b o, b ≠ x → s.heap.get? b = some o → h'.get? b = some o) → h'.get? x = some (PySem.HandSPX.excO C t1) → R (.ok (.ret .none)) { s with heap := h', toks := tk }) :
    codeAny (model P w) A (.call (.ref fI) ⟨[.ref x], []⟩) R s := by
  obtain ⟨oc, od, kV, doc, pm, an, cda, ct, osl, cc, q, p, p0, p1, p2, p3, p4, ho, hcd, ⟨cl, cld, csl, hcell⟩, ccl, cdd, vs, ccs, file, tf, hcode, hvs, hfile, hev⟩ := T.fn
  obtain ⟨nm, q', N, bs, bm, sn, sub, ab, col, dd, k0, k1, k2, k3, k5, hC, hbm⟩ := T.x.cls
  have hcl : PySem.W.clsIn K C = some { name := nm, bases := bs, mro := .ref C :: bm, ns := N, qualname := q', hasDict := true, slotNames := sn, subclasses := sub, abstract := ab, collection := col, hasDel := false } := by
    unfold PySem.W.clsIn
    rw [hC] <;> rfl
  refine ks_codeAny_call_defAt (binds := [("self", .ref x)]) hroom (X _ _ ho) rfl hlim (PySem.W.codeRec_of X hcd) rfl (BindsTo.of_eq rfl) (show ∀ x ∈ siS.names, x.2 ≠ NameKind.cell by decide) (fun y hy => ?_) (fun h₁ hns hk₁ => ?_)
  · simp only [List.mem_cons, List.not_mem_nil, or_false] at hy
    subst hy
    rfl
  have X1 : K.In h₁ := X.keeps hk₁
  have hx1 := hk₁ _ _ hx
  have hC1 := X1 _ _ hC
  obtain ⟨hp, g, d, tk, os⟩ := s
  obtain ⟨pl, he⟩ := hev q hp.objs.size fI cc (.ref cda)
  refine ks_wpAt_execs_cons (ks_wpAt_Expr_any (ks_wpAt_MethodCall (pl := pl) ?_ he))
  refine ks_wpAt_super_base rfl rfl rfl rfl (X1 _ _ ho) rfl rfl rfl (X1 _ _ hcode) rfl hvs hfile T.tp ?_
  refine PySem.W.ks_loadName_global rfl rfl (loadGlobal_builtin (hg.keeps hk₁) hms (hb.keeps hk₁) hbs ⟨rfl, ?_⟩)
  refine wpAny_loadName_free rfl rfl rfl ⟨_, X1 _ _ hcell, rfl⟩ ?_
  refine wpAny_loadName_local (v := .ref x) rfl rfl hns rfl ?_
  refine ks_wpAny_isType_cls hC1 rfl ⟨rfl, ?_⟩
  refine ks_wpAny_call_super hC1 rfl hx1 rfl (fun c e => by cases e) (PySem.W.looks_mroIn X1 T.me) (fun h2 hso k2 => ?_)
  have X2 : K.In h2 := X1.keeps k2
  have hx2 := k2 _ _ hx1
  have I2 : PySem.W.InstAt h2 x (PySem.HandSPX.excO C t0) C none := ⟨hx2, rfl, rfl, trivial⟩
  have hup : PySem.W.alongIn K "__init__" (((Value.ref C :: bm).dropWhile (· != Value.ref C)).drop 1) = some (some (.builtin "ValueError.__init__")) := by
    have e := T.up
    unfold PySem.W.ks_superIn at e
    rw [hcl] at e
    exact e
  refine PySem.W.kxs_getMethod PySem.W.kxs_ValueError hso (PySem.W.looks_opaque X2 T.op) (l₀ := .ref C :: bm) ?_ rfl X2 hup (I2.type.andThen (PySem.W.looks_subIn X2 T.ve)) (PySem.W.ks_ne X2 I2 hcl) (by decide) ?_
  · exact fun A Q E s k q => wpAny_bind (PySem.W.looks_clsIn X2 hcl A _ E s k (wpAny_pure q))
  have hu : (h2.push (PySem.W.kxs_mw "ValueError.__init__" x)).get? h2.objs.size = some (PySem.W.kxs_mw "ValueError.__init__" x) := Heap.get?_push_at rfl rfl
  have k3 : ∀ b o, h2.get? b = some o → (h2.push (PySem.W.kxs_mw "ValueError.__init__" x)).get? b = some o := fun b o e => Heap.get?_push_of_some _ e
  refine PySem.W.kxs_callWith (i := "ValueError.__init__") (x := x) rfl (PyProof.Rows.evalArgs_empty ⟨hu, ?_⟩)
  have FB := PySem.F.excBase_ValueError
  have hC3 := k3 _ _ (X2 _ _ hC)
  have hx3 := k3 _ _ hx2
  refine wpAny_call (codeAny_of_tree ?_)
  show wpAny _ _ (callAny (.ref h2.objs.size) ⟨[], []⟩) _ _ _
  unfold callAny
  refine wpAny_bind (wpAny_load hu ?_)
  show wpAny _ _ (if (Value.type "method-wrapper" == Value.type "method" || Value.type "method-wrapper" == Value.type "builtin_function_or_method" || Value.type "method-wrapper" == Value.type "method-wrapper") = true then
    (if (Value.type "method-wrapper" != Value.type "method") = true then (do checkBoundCall "ValueError.__init__" ⟨[.ref x], []⟩; again (.builtin "ValueError.__init__" ⟨[.ref x], []⟩)) else again (.call (.builtin "ValueError.__init__") ⟨[.ref x], []⟩)) else _) _ _ _
  rw [if_pos (by decide), if_pos (by decide)]
  refine wpAny_bind (PySem.W.check_bound_init FB.toExcCallFacts hC3 hx3 rfl (wpAny_pure ⟨PySem.plainId_quiet FB.init.plain _, codeAny_builtin FB.initEntry ?_⟩))
  refine PySem.W.exc_init_tree (cls := .ref C) (t0 := t0) (dv := none) (c2 := .none) (c3 := .none) (b4 := .bool false) hx3 (by rw [sizeLine_eq]; decide) fun h4 k4 hx4 _ => ?_
  show PySem.wpAt _ _ _ (execs [] _) _ _ _
  exact PySem.wpAt_of_wpAny (wpAny_execs_nil (hq h4 _ _ (fun b o nb e => k4 b o nb (k3 _ _ (k2 _ _ (hk₁ _ _ e)))) hx4))
theorem sup_made (T : SupC P K C fI) {mg mb : Str → Option Value} (X : K.In s.heap) (hlim : s.heap.NoLimit) (hg : s.heap.Ns mainGlobals mg) (hms : mg "super" = none) (hb : s.heap.Ns builtinsNs mb) (hbs : mb "super" = some (.type "super")) (hroom : A.depth + 1 < recursionLimit)
    (hq : ∀ h' tk e t1, (∀ b o, s.heap.get? b = some o → h'.get? b = some o) → s.heap.objs.size ≤ e → h'.get? e = some (PySem.HandSPX.excO C t1) → R (.ok (.ret (.ref e))) { s with heap := h', toks := tk }) :
    codeAny (model P w) A (.call (.ref C) ⟨[], []⟩) R s := by
  obtain ⟨nm, q', N, bs, bm, sn, sub, ab, col, dd, k0, k1, k2, k3, k5, hC, hbm⟩ := T.x.cls
  obtain ⟨hp, g, dr, tk, os⟩ := s
  have k : ∀ b o, hp.get? b = some o → ((hp.push (PySem.W.kdv_tup [])).push (PySem.HandSPX.excO C hp.objs.size)).get? b = some o := fun b o e => Heap.get?_push_of_some _ (Heap.get?_push_of_some _ e)
  have hget : ((hp.push (PySem.W.kdv_tup [])).push (PySem.HandSPX.excO C hp.objs.size)).get? (hp.objs.size + 1) = some (PySem.HandSPX.excO C hp.objs.size) := by heap_get
  refine PySem.HandSPX.call_own PySem.F.excBase_ValueError (fun Y => PySem.HandSPX.refsVE_contains Y bm hbm) (X _ _ hC) (PySem.W.looks_findIn X T.iC) (fun self => PySem.W.bind_fn X self T.tC) (by rw [sizeLine_eq]; decide) ?_
  refine sup_init (s := ⟨(hp.push (PySem.W.kdv_tup [])).push (PySem.HandSPX.excO C hp.objs.size), g, dr, tk, os⟩) T (X.keeps k) (hlim.keeps k) (hg.keeps k) hms (hb.keeps k) hbs hget ?_ fun h' tk' t1 k' hx => ?_
  · show A.depth + 1 < recursionLimit
    exact hroom
  · refine ⟨rfl, hq h' tk' (hp.objs.size + 1) t1 (fun b o e => k' b o ?_ (k b o e)) (Nat.le_succ _) hx⟩
    exact Nat.ne_of_lt (Nat.lt_succ_of_lt (Heap.lt_size e))
end
end Fv
namespace Fv
open PySem PySem.Spec PyProof.Rows L2
end Fv
set_option maxRecDepth 100000
set_option maxHeartbeats 1000000
namespace Fv
open PySem PySem.Spec PyProof.Rows L2
end Fv
namespace Fv
end Fv
set_option maxRecDepth 100000
set_option maxHeartbeats 1000000
namespace Fv
open PySem PySem.Spec L2
section
variable {X : Cx} {K : PySem.W.Frag} {H : Hp} {Q : VK} {σ : L2.St} {a b : Addr} {xs ys : List V} {l m : List Nat}
end
end Fv
set_option maxRecDepth 100000
set_option maxHeartbeats 1000000
namespace Fv
open PySem PySem.Spec PyProof.Rows L2
end Fv
set_option maxRecDepth 100000
set_option maxHeartbeats 1000000
namespace Fv
open PySem PySem.Spec PyProof.Rows L2
section
variable {X : Cx} {K : PySem.W.Frag} {o e : Expr} {es : List Expr} {to : TE} {t : TA} {name : Str} {apos cpos : Pos} {id : String} {r : V → List V → Hp → VK → Prop}
end
end Fv
namespace Fv
end Fv
set_option maxRecDepth 100000
set_option maxHeartbeats 1000000
namespace Fv
open PySem PySem.Spec PyProof.Rows L2
end Fv
set_option maxRecDepth 100000
set_option maxHeartbeats 1000000
namespace Fv
open PySem PySem.Spec PyProof.Rows L2
section
variable {K : PySem.W.Frag} {H : Hp} {Q : VK}
end
end Fv
set_option maxRecDepth 100000
set_option maxHeartbeats 1000000
namespace Fv
open PySem PySem.Spec PyProof.Rows L2
section
variable {K : PySem.W.Frag} {H : Hp} {Q : VK} {l b p : Addr} {xs zs : List V}
theorem range0_snoc (g : Nat → Bool) (n : Nat) : (List.range (n + 1)).filter g = (List.range n).filter g ++ if g n = true then [n] else [] := by
  rw [List.range_succ, List.filter_append]
  congr 1
  by_cases h : g n = true
  · rw [if_pos h, List.filter_cons_of_pos h]
    rfl
  · rw [if_neg h, List.filter_cons_of_neg h]
    rfl
end
end Fv
set_option maxRecDepth 100000
set_option maxHeartbeats 1000000
namespace Fv
open PySem PySem.Spec PyProof.Rows L2
end Fv
set_option maxRecDepth 100000
set_option maxHeartbeats 1000000
namespace Fv
open PySem PySem.Spec PyProof.Rows L2
section
variable {K : PySem.W.Frag} {H : Hp} {Q : VK} {a : Addr} {l : List Nat} {k : Nat}
end
end Fv
namespace Fv
end Fv
set_option maxRecDepth 100000
set_option maxHeartbeats 4000000
namespace Fv
open PySem PySem.Spec PyProof.Rows L2
section
variable {K : PySem.W.Frag} {H : Hp} {Q : VK} {a : Addr} {v : V}
end
end Fv
set_option maxRecDepth 100000
set_option maxHeartbeats 1000000
namespace Fv
open PySem PySem.Spec PyProof.Rows L2
section
variable {P : Program} {w : World} {K : PySem.W.Frag} {mg : Str → Option Value} {base : Heap} {k : Nat} {f : Addr} {fd : FuncData} {ps : List Str} {sp sp' : Sp}
end
section
variable {K : PySem.W.Frag} {H : Hp} {Q : VK} {a C dx : Addr} {fs : List (Str × V)}
end
end Fv
set_option maxRecDepth 100000
set_option maxHeartbeats 1000000
namespace Fv
open PySem PySem.Spec PyProof.Rows L2
def ErV (H : Hp) (v : V) (C : Addr) (fs : List (Str × V)) : Prop := ∃ a, v = .ref a ∧ ((H a = some (exo a C none) ∧ fs = []) ∨ ∃ dx, H a = some (exo a C (some dx)) ∧ H dx = some (exd dx fs))
theorem ErV.same {H H' : Hp} {v : V} {C : Addr} {fs : List (Str × V)} (s : Same H H') (h : ErV H v C fs) : ErV H' v C fs := by
  obtain ⟨a, e, h⟩ := h
  refine ⟨a, e, ?_⟩
  rcases h with ⟨h, z⟩ | ⟨dx, h1, h2⟩
  · exact .inl ⟨s _ _ h, z⟩
  · exact .inr ⟨dx, s _ _ h1, s _ _ h2⟩
section
variable {X : Cx} {K : PySem.W.Frag}
theorem pe_supV {C fI : Addr} {x : Str} {p pos : Pos} (T : SupC X.prog X.K C fI) (hr : Room 1 X.A) (hg : Gl X x) (hm : X.mg x = some (.ref C)) (hs : X.mg "super" = none) (hdb : (x == ("__debug__" : Str)) = false := by decide) :
    PE X (.Call (.Name x p) [] [] pos) (fun _ H Q => ∀ v H', Same H H' → ErV H' v C [] → Q v H') := by
  refine ⟨fun pins s σ H Q I h => ?_⟩
  refine wpAny_Call_Name_kw (ld_glob I hg hm ?_ hdb)
  refine PySem.W.callWith_K0 I.kIn T.x.kC ?_
  obtain ⟨mb, hb1, hb2⟩ := I.mod.blt
  have hlim := I.nolimit
  have hgl : s.heap.Ns mainGlobals X.mg := I.mod.glob.keeps I.bk
  have hbl : s.heap.Ns builtinsNs mb := hb1.keeps I.bk
  obtain ⟨hp, g, d, t, os⟩ := s
  refine wpAny_call (sup_made T I.kIn hlim hgl hs hbl ((hb2 "super" (by decide)).trans (by first | rfl | decide +kernel | kernel_rfl)) (by have := hr.dp; omega) fun h' tk' e t1 k ge hx => ?_)
  have hn : H e = none := I.hok.fresh ge
  have J : Inv X pins σ (upd H e (exo e C none)) ⟨h', g, d, tk', os⟩ := I.laid (t' := tk') k ge (exo_ok hx)
  exact ⟨.ref e, _, J, rfl, h _ _ (same_new (Same.refl _) hn) ⟨e, rfl, .inl ⟨upd_same, rfl⟩⟩⟩
def tMkV (C : Addr) (sp : Sp) (ta : TA) : TE := fun σ H Q => ta σ H fun vs H1 => vs.length ≤ 1000 ∧ ∀ a, H1 a = none → sp (.ref a :: vs) (upd H1 a (exo a C none)) (fun v H2 => v = .non ∧ Q (.ref a) H2) (fun _ _ _ => False)
theorem pe_oexV {CX : CXT} {x : Str} {C fI : Addr} {k : Nat} {fd : FuncData} {ps : List Str} {sp : Sp} {e : Expr} {es : List Expr} {ta : TA} {p pos : Pos} (T : OexC X.K C) (iC : PySem.W.findIn X.K (.ref C) "__init__" = some (some (.ref fI))) (tI : PySem.W.typeIn X.K (.ref fI) = some (.type "function"))
    (F1 : FnOk X.prog X.w X.K X.mg X.base CX k fI fd ps sp) (hr : Room (k + 1) X.A) (hb : L2.Binds X.K fd ps []) (hx : L2.Passes CX X (fun _ _ _ => False)) (hg : Gl X x) (hm : X.mg x = some (.ref C)) (ha : PA X (e :: es) ta)
    (hdb : (x == ("__debug__" : Str)) = false := by decide) (he : starEach (e :: es) X.env = (false, eval e X.env) :: starEach es X.env := by rfl) (hpl : (backTo pos (starEach es X.env)).any (·.1) = false := by rfl) :
    PE X (.Call (.Name x p) (e :: es) [] pos) (tMkV C sp ta) := by
  refine ⟨fun pins s σ H Q I h => ?_⟩
  obtain ⟨nm, q, N, bs, bm, sn, sub, ab, col, dd, k0, k1, k2, k3, k5, hC, hbm⟩ := T.cls
  refine wpAny_Call_Name_kw (ld_glob I hg hm ?_ hdb)
  refine PySem.W.callWith_K (h₀ := X.base) I.ok.mod.kin T.kC (thn (ha.run pos pins s σ H _ I h) fun us z ⟨vs, H1, I1, r1, hz, q1⟩ => ⟨I1.kIn, ?_⟩) he hpl
  show wpAny _ _ (call (.ref C) us) _ _ _
  obtain ⟨hp, g, dr, tk, os⟩ := z
  have le : hp.objs.size ≤ hp.objs.size + 1 := Nat.le_succ _
  have new : H1 (hp.objs.size + 1) = none := I1.hok.fresh le
  have hq := q1 (hp.objs.size + 1) new
  have kk : ∀ b o, hp.get? b = some o → ((hp.push (PySem.W.kdv_tup us)).push (PySem.HandSPX.excO C hp.objs.size)).get? b = some o := fun b o y => Heap.get?_push_of_some _ (Heap.get?_push_of_some _ y)
  have got : ((hp.push (PySem.W.kdv_tup us)).push (PySem.HandSPX.excO C hp.objs.size)).get? (hp.objs.size + 1) = some (PySem.HandSPX.excO C hp.objs.size) := by heap_get
  have J : Inv X pins σ (upd H1 (hp.objs.size + 1) (exo (hp.objs.size + 1) C none)) ⟨(hp.push (PySem.W.kdv_tup us)).push (PySem.HandSPX.excO C hp.objs.size), g, dr, tk, os⟩ := I1.laid (t' := tk) kk le (exo_ok got)
  have rr : Vals (V.ref (hp.objs.size + 1) :: vs) (Value.ref (hp.objs.size + 1) :: us) := .cons rfl r1
  have hl : (Value.ref (hp.objs.size + 1) :: us ++ []).length = ps.length := by
    rw [List.append_nil]
    have y := rr.length
    rw [F1.len _ _ _ _ hq] at y
    exact y.symm
  have us' : us.length ≤ sizeLine := by
    rw [← Paired.length r1, sizeLine_eq]
    omega
  have hbb := hb _ (Value.ref (hp.objs.size + 1) :: us) J.kIn hl
  rw [List.append_nil] at hbb
  refine wpAny_call (PySem.HandSPX.call_own F.excBase_ValueError (fun Y => PySem.HandSPX.refsVE_contains Y bm hbm) (I1.kIn _ _ hC) (PySem.W.looks_findIn I1.kIn iC) (fun self => PySem.W.bind_fn I1.kIn self tI) us'
    (codeAny_mono (F1.run _ X.stack _ _ ⟨Value.ref (hp.objs.size + 1) :: us, []⟩ (Value.ref (hp.objs.size + 1) :: us) _ _ (fun _ _ _ => False) (hr.make C us []) (J.env0.make C us []) hbb rr hq) fun r s' hq' => ?_))
  cases r with
  | error er => exact hx pins σ _ _ er s' J hq'
  | ok fl =>
    cases fl with
    | ret u =>
      have y := J.after (Q := fun v H2 => v = .non ∧ Q (.ref (hp.objs.size + 1)) H2) hq'
      obtain ⟨v, H2, J2, rv, ev, q2⟩ := y
      subst ev
      exact ⟨rv, .ref (hp.objs.size + 1), H2, J2, rfl, q2⟩
    | next => exact False.elim hq'
    | brk => exact False.elim hq'
    | cont => exact False.elim hq'
def rIsV (K : PySem.W.Frag) : List V → Hp → VK → Prop := fun xs H Q => ∃ (x c : V) (C : Addr) (fs : List (Str × V)) (cv : Value) (b : Bool), xs = [x, c] ∧ ErV H x C fs ∧ L2.ExcC K C ∧ (∀ u, RelV c u → u = cv) ∧ PySem.W.kitOne K (.ref C) cv = some b ∧ Q (.bl b) H
theorem er_at {pins : List (Addr × Obj)} {σ : L2.St} {H : Hp} {s : Shared} {v : V} {C : Addr} {fs : List (Str × V)} (I : Inv X pins σ H s) (h : ErV H v C fs) : ∃ a ox od, v = .ref a ∧ PySem.W.InstAt s.heap a ox C od ∧ ∀ f, (fs.lookup f).isSome = true → ∃ ob u, od = some ob ∧ PySem.W.lookIn f ob = some (some u) ∧ ∃ y, fs.lookup f = some y ∧ RelV y u := by
  obtain ⟨a, rfl, h⟩ := h
  rcases h with ⟨h, rfl⟩ | ⟨dx, h1, h2⟩
  · obtain ⟨t, e⟩ := exo_at I.hok h
    exact ⟨a, _, none, rfl, ⟨e, rfl, rfl, trivial⟩, fun f z => absurd z (by simp)⟩
  · obtain ⟨t, e⟩ := exo_at I.hok h1
    obtain ⟨mA, hns, hr⟩ := exd_at I.hok h2
    obtain ⟨ob, ho, hl⟩ := lookIn_ns hns
    refine ⟨a, _, some ob, rfl, ⟨e, rfl, rfl, ho⟩, fun f z => ?_⟩
    obtain ⟨y, ey⟩ := Option.isSome_iff_exists.mp z
    obtain ⟨u, hu, ru⟩ := RelO.some_of (v := y) (o := mA f) (by rw [← ey]; exact hr f)
    exact ⟨ob, u, rfl, by rw [hl, hu], y, ey, ru⟩
theorem call_isV (eK : X.K = K) : CallR X (.builtin "isinstance") (rIsV K) := by
  subst eK
  intro pins s σ H xs us Q I r h
  obtain ⟨x, c, C, fs, cv, b, rfl, he, hC, hcv, e, q⟩ := h
  obtain ⟨a, ox, od, rfl, J, _⟩ := er_at I he
  cases r with
  | cons rx rr =>
    cases rr with
    | cons rt rr =>
      cases rr
      cases rx
      have ec := hcv _ rt
      subst ec
      have hcl : (PySem.W.clsIn X.K C).isSome = true := by
        obtain ⟨cd, hc, _⟩ := PySem.W.any_some hC.hd
        rw [hc]
        rfl
      exact PySem.W.kia_one (PySem.W.kitx_exc hcl hC.hg hC.hk hC.hs hC.ha hC.hn hC.ht hC.hm) I.kIn J e (fun z => nomatch z) fun tk => ⟨.bl b, H, I.kept (t' := tk) fun _ _ z => z, rfl, q⟩
def tFV (K : PySem.W.Frag) (f : Str) (te : TE) : TE := fun σ H Q => te σ H fun x H1 => ∃ (C : Addr) (fs : List (Str × V)) (v : V), ErV H1 x C fs ∧ L2.ExcC K C ∧ PySem.W.findIn K (.ref C) f = some none ∧ fs.lookup f = some v ∧ Q v H1
theorem pe_fV {e : Expr} {te : TE} {n : Str} {pos : Pos} (eK : X.K = K) (he : PE X e te) (hb : attributeBase e n X.env (eval e X.env) = eval e X.env := by rfl) : PE X (.Attribute e n pos) (tFV K n te) := by
  subst eK
  refine ⟨fun pins s σ H Q I h => ?_⟩
  refine attr_of hb (thn (he.run pins s σ H _ I h) fun u s1 hh => ?_)
  obtain ⟨x, H1, I1, rx, C, fs, v, her, T, hno, l, q⟩ := hh
  obtain ⟨a, ox, od, rfl, J, look⟩ := er_at I1 her
  obtain rfl : u = Value.ref a := rx
  obtain ⟨ob, u, rfl, hl, y, ey, ry⟩ := look n (by rw [l]; rfl)
  rw [l] at ey
  cases ey
  exact HandSPX.exc_get I1.kIn J T.hg T.hk T.hs (PySem.W.findObj_own T.hd hno rfl hl) (handed_of ry) ⟨v, H1, I1.tok _, ry, q⟩
theorem x_isV {H : Hp} {Q : VK} {x : V} {C D : Addr} {fs : List (Str × V)} {b : Bool} (he : ErV H x C fs) (hC : L2.ExcC K C) (k : PySem.W.kitOne K (.ref C) (.ref D) = some b) (q : Q (.bl b) H) : rIsV K [x, .ref D] H Q :=
  ⟨x, .ref D, C, fs, .ref D, b, rfl, he, hC, fun u h => by cases h; rfl, k, q⟩
theorem x_isVv {H : Hp} {Q : VK} {x : V} {C : Addr} {fs : List (Str × V)} {b : Bool} (he : ErV H x C fs) (hC : L2.ExcC K C) (k : PySem.W.kitOne K (.ref C) (.type "ValueError") = some b) (q : Q (.bl b) H) : rIsV K [x, .ty "ValueError"] H Q :=
  ⟨x, .ty "ValueError", C, fs, .type "ValueError", b, rfl, he, hC, fun u h => by cases h; rfl, k, q⟩
theorem x_fV {f : Str} {te : TE} {σ : L2.St} {H : Hp} {Q : VK} (h : te σ H fun x H1 => ∃ (C : Addr) (fs : List (Str × V)) (v : V), ErV H1 x C fs ∧ L2.ExcC K C ∧ PySem.W.findIn K (.ref C) f = some none ∧ fs.lookup f = some v ∧ Q v H1) : tFV K f te σ H Q := h
theorem pe_weak {e : Expr} {t t' : TE} (h : PE X e t) (w : ∀ σ H Q, t' σ H Q → t σ H Q) : PE X e t' := ⟨fun pins s σ H Q I q => h.run pins s σ H Q I (w σ H Q q)⟩
end
end Fv
set_option maxRecDepth 100000
set_option maxHeartbeats 1000000
namespace Fv
open PySem PySem.Spec PyProof.Rows L2
theorem units1 {k : Nat} {A : Around} (r : Room k A) : A.units + 1 < cLine := by
  have := r.units
  omega
def Rx (H : Hp) : Nat → V → Prop
  | 0, x => sca x = true
  | n + 1, x => sca x = true ∨ (∃ a xs, x = .ref a ∧ (H a = some (.lst xs) ∨ H a = some (.tup xs)) ∧ xs.length ≤ 1000 ∧ ∀ y ∈ xs, Rx H n y) ∨ ∃ a k v, x = .ref a ∧ H a = some (.dK [(k, v)]) ∧ sca v = true
theorem Rx.sca {H : Hp} {n : Nat} {x : V} (h : Fv.sca x = true) : Rx H n x := by
  cases n with
  | zero => exact h
  | succ n => exact .inl h
theorem Rx.same : ∀ {n : Nat} {H H' : Hp} {x : V}, Same H H' → Rx H n x → Rx H' n x
  | 0, _, _, _, _, h => h
  | n + 1, H, H', x, s, h => by
    rcases h with h | ⟨a, xs, e, h1, hz, h⟩ | ⟨a, k, v, e, h1, h⟩
    · exact .inl h
    · exact .inr (.inl ⟨a, xs, e, h1.imp (s _ _) (s _ _), hz, fun y hy => (h y hy).same s⟩)
    · exact .inr (.inr ⟨a, k, v, e, s _ _ h1, h⟩)
theorem Rx.lst {n : Nat} {H : Hp} {a : Addr} {xs : List V} (h : H a = some (.lst xs)) (hz : xs.length ≤ 1000) (q : ∀ y ∈ xs, Rx H n y) : Rx H (n + 1) (.ref a) := .inr (.inl ⟨a, xs, rfl, .inl h, hz, q⟩)
theorem Rx.tup {n : Nat} {H : Hp} {a : Addr} {xs : List V} (h : H a = some (.tup xs)) (hz : xs.length ≤ 1000) (q : ∀ y ∈ xs, Rx H n y) : Rx H (n + 1) (.ref a) := .inr (.inl ⟨a, xs, rfl, .inr h, hz, q⟩)
section
variable {H H' : Hp} {a d D : Addr} {Q : VK} {σ : L2.St} {t : TE} {u : HO} {o : Obj} {kvs : List (Key × V)}
theorem x_lock (h : H d = some u) (mu : Mut (some u)) (q : ∀ od, t σ (upd H d (.frz od u)) fun v H' => H' d = some (.frz od u) ∧ Q v (upd H' d u)) : tLockE t σ H Q := ⟨d, u, h, mu, q⟩
theorem same_unlock {w : HO} (h : H d = some u) (s : Same (upd H d w) H') : Same H (upd H' d u) := fun b o e => by
  by_cases hb : b = d
  · subst hb
    rw [upd_same, ← h, e]
  · rw [upd_ne hb]
    exact s b o (by rw [upd_ne hb]; exact e)
theorem x_din {ty td : TE} (h : ty σ H fun y H1 => td σ H1 fun x H2 => ∃ a o, x = .ref a ∧ DGet H2 a y o ∧ Q (.bl o.isSome) H2) : tDIn ty td σ H Q := h
theorem x_dget {td ty : TE} (h : td σ H fun x H1 => ty σ H1 fun y H2 => ∃ a v, x = .ref a ∧ DGet H2 a y (some v) ∧ Q v H2) : tDGet td ty σ H Q := h
theorem one_val {k : Key} {v : V} : valV [(k, v)] k = some v := by
  unfold valV
  simp
theorem x_keysV {i : Nat} {R : It → Hp → Prop} (h : σ[i]? = some (some (.ref d))) (h1 : H d = some (.frz o (.dK kvs))) (q : R (Itk d o kvs) H) : iKeys (tVar i) σ H R :=
  ⟨.ref d, h, d, o, rfl, .inl ⟨kvs, h1, q⟩⟩
theorem lc_keys {g : TG} {tt : TT} {te : TE} {vs : List Nat} {H1 : Hp} {Qd : Hp → Prop} (Pv : Nat → Hp → Prop) (h0 : Pv 0 (upd H1 D (.lst []))) (hl : ∀ i H, Pv i H → H d = some (.frz o (.dK kvs)))
    (hs : ∀ i k v G, kvs[i]? = some (k, v) → Pv i G → g (kV k) (wipe σ vs) G fun σ2 G2 => wipe σ2 vs = wipe σ vs ∧ tt σ2 G2 fun b G3 => if b = true then te σ2 G3 fun y G4 => ∃ acc, G4 D = some (.lst acc) ∧ acc.length < sizeLine ∧ Pv (i + 1) (upd G4 D (.lst (acc ++ [y]))) else Pv (i + 1) G3)
    (hd : ∀ G, Pv kvs.length G → Qd G) :
    ∃ W : Nat → Nat → Hp → Prop, (∃ m, W 0 m (upd H1 D (.lst []))) ∧ ∀ i m G, W i m G →
      ((Itk d o kvs).stop i G ∧ Qd G) ∨ ((Itk d o kvs).go i G ∧ ∃ Nx : Hp → Prop, (∀ G', Nx G' → ∃ m', m' < m ∧ W (i + 1) m' G') ∧ ∀ x G', (Itk d o kvs).yld i G x G' → g x (wipe σ vs) G' fun σ2 G2 => wipe σ2 vs = wipe σ vs ∧ tt σ2 G2 fun b G3 =>
        if b = true then te σ2 G3 fun y G4 => ∃ acc, G4 D = some (.lst acc) ∧ acc.length < sizeLine ∧ Nx (upd G4 D (.lst (acc ++ [y]))) else Nx G3) := by
  refine ⟨fun i m G => m = kvs.length - i ∧ i ≤ kvs.length ∧ Pv i G, ⟨_, rfl, Nat.zero_le _, h0⟩, ?_⟩
  rintro i m G ⟨rfl, hi, p⟩
  by_cases hlt : i < kvs.length
  · refine .inr ⟨⟨hl i G p, hlt⟩, Pv (i + 1), fun G' p' => ⟨_, by omega, rfl, hlt, p'⟩, ?_⟩
    rintro x G' ⟨rfl, k, v, e, rfl⟩
    exact hs i k v _ e p
  · have e : i = kvs.length := by omega
    subst e
    exact .inl ⟨⟨hl _ G p, Nat.le_refl _⟩, hd G p⟩
end
end Fv
set_option maxRecDepth 100000
set_option maxHeartbeats 1000000
namespace Fv
open PySem PySem.Spec PyProof.Rows L2
def ErO (H : Hp) (v : V) (C : Addr) : Prop := ∃ a, v = .ref a ∧ H a = some (ExO (.ref C) a)
abbrev Fs := List (Str × V)
def tEr (C : Addr) (f : L2.St → Option Fs) : TE := fun σ H Q => ∃ l, f σ = some l ∧ ∀ v H', Same H H' → ErV H' v C l → Q v H'
def ErsV (H : Hp) (vs : List V) (ps : List (Addr × Fs)) : Prop := Paired (fun v p => ErV H v p.1 p.2) vs ps
theorem ErsV.same {H H' : Hp} {vs : List V} {ps : List (Addr × Fs)} (s : Same H H') (h : ErsV H vs ps) : ErsV H' vs ps := by
  unfold ErsV at *
  induction h with
  | nil => exact .nil
  | cons a _ ih => exact .cons (a.same s) ih
theorem ErsV.append {H : Hp} {vs ws : List V} {ps qs : List (Addr × Fs)} (h : ErsV H vs ps) (g : ErsV H ws qs) : ErsV H (vs ++ ws) (ps ++ qs) := by
  unfold ErsV at *
  induction h with
  | nil => exact g
  | cons a _ ih => exact .cons a ih
theorem ErsV.at {H : Hp} {vs : List V} {ps : List (Addr × Fs)} (h : ErsV H vs ps) {i : Nat} {p : Addr × Fs} (e : ps[i]? = some p) : ∃ v, vs[i]? = some v ∧ ErV H v p.1 p.2 := by
  unfold ErsV at h
  induction h generalizing i with
  | nil => cases e
  | @cons a b l1 l2 x t ih =>
    cases i with
    | zero =>
      rw [List.getElem?_cons_zero] at e
      cases e
      exact ⟨a, rfl, x⟩
    | succ i =>
      rw [List.getElem?_cons_succ] at e
      obtain ⟨v, h1, h2⟩ := ih e
      exact ⟨v, by rw [List.getElem?_cons_succ]; exact h1, h2⟩
theorem ErsV.len {H : Hp} {vs : List V} {ps : List (Addr × Fs)} (h : ErsV H vs ps) : vs.length = ps.length := Paired.length h
section
variable {X : Cx} {K : PySem.W.Frag}
theorem pe_erS {C fI : Addr} {x : Str} {p pos : Pos} (T : SupC X.prog X.K C fI) (hr : Room 1 X.A) (hg : Gl X x) (hm : X.mg x = some (.ref C)) (hs : X.mg "super" = none) (hdb : (x == ("__debug__" : Str)) = false := by decide) :
    PE X (.Call (.Name x p) [] [] pos) (tEr C fun _ => some []) :=
  pe_weak (pe_supV T hr hg hm hs hdb) fun σ H Q h => by
    obtain ⟨l, e, q⟩ := h
    cases e
    exact q
def f1 (f : Str) (i : Nat) : L2.St → Option Fs := fun σ => match σ[i]? with
  | some (some x) => some [(f, x)]
  | _ => none
def f2 (f g : Str) (i j : Nat) : L2.St → Option Fs := fun σ => match σ[i]?, σ[j]? with
  | some (some x), some (some y) => some [(g, y), (f, x)]
  | _, _ => none
def spField2 (C : Addr) (f g : Str) : Sp := fun vs H Q _ => ∃ (a : Addr) (v y : V), vs = [.ref a, v, y] ∧ H a = some (exo a C none) ∧ ∀ dx H', H dx = none → dx ≠ a → H' a = some (exo a C (some dx)) → H' dx = some (exd dx [(g, y), (f, v)]) → (∀ b o, b ≠ a → H b = some o → H' b = some o) → Q .non H'
theorem pe_er1 {C fI : Addr} {x f : Str} {fd : FuncData} {ps : List Str} {e : Expr} {i : Nat} {p pos : Pos} (T : ExcF X.K C fI f) (G : FnOk X.prog X.w X.K X.mg X.base CX0 1 fI fd ps (spField C f)) (hr : Room 2 X.A) (hb : L2.Binds X.K fd ps []) (hg : Gl X x) (hm : X.mg x = some (.ref C)) (he : PE X e (tVar i))
    (hdb : (x == ("__debug__" : Str)) = false := by decide) (hst : starEach [e] X.env = (false, eval e X.env) :: starEach [] X.env := by rfl) :
    PE X (.Call (.Name x p) [e] [] pos) (tEr C (f1 f i)) :=
  pe_weak (pe_oexV (k := 1) T.T T.i T.t G hr hb pass0 hg hm (pa_cons he pa_nil hst) hdb hst rfl) fun σ H Q h => by
    obtain ⟨l, e, q⟩ := h
    unfold f1 at e
    split at e
    · rename_i v ev
      cases e
      refine ⟨v, ev, by show 1 ≤ 1000; decide, fun a ha => ⟨a, v, rfl, upd_same, fun dx hd ne => ⟨rfl, ?_⟩⟩⟩
      have hdH : H dx = none := by
        rw [upd_ne ne] at hd
        exact hd
      refine q _ _ ?_ ⟨a, rfl, .inr ⟨dx, upd_same, by rw [upd_ne ne, upd_same]⟩⟩
      exact same_mut (same_mut (same_mut (Same.refl _) ha) hdH) ha
    · cases e
theorem pe_er2 {C fI : Addr} {x f g : Str} {fd : FuncData} {ps : List Str} {e e' : Expr} {i j : Nat} {p pos : Pos} (T : ExcF X.K C fI f) (G : FnOk X.prog X.w X.K X.mg X.base CX0 1 fI fd ps (spField2 C f g)) (hr : Room 2 X.A) (hb : L2.Binds X.K fd ps []) (hg : Gl X x) (hm : X.mg x = some (.ref C)) (he : PE X e (tVar i)) (he' : PE X e' (tVar j))
    (hdb : (x == ("__debug__" : Str)) = false := by decide) (hst : starEach (e :: [e']) X.env = (false, eval e X.env) :: starEach [e'] X.env := by rfl) (hst' : starEach (e' :: []) X.env = (false, eval e' X.env) :: starEach [] X.env := by rfl) (hpl : (backTo pos (starEach [e'] X.env)).any (·.1) = false := by rfl) :
    PE X (.Call (.Name x p) [e, e'] [] pos) (tEr C (f2 f g i j)) :=
  pe_weak (pe_oexV (k := 1) T.T T.i T.t G hr hb pass0 hg hm (pa_cons he (pa_cons he' pa_nil hst') hst) hdb hst hpl) fun σ H Q h => by
    obtain ⟨l, e, q⟩ := h
    unfold f2 at e
    split at e
    · rename_i v y ev ey
      cases e
      refine ⟨v, ev, y, ey, by show 2 ≤ 1000; decide, fun a ha => ⟨a, v, y, rfl, upd_same, fun dx H' hd ne h1 h2 h3 => ⟨rfl, ?_⟩⟩⟩
      exact q _ _ (fun b o eb => h3 b o (ne_of_none eb ha) (by rw [upd_ne (ne_of_none eb ha)]; exact eb)) ⟨a, rfl, .inr ⟨dx, h1, h2⟩⟩
    · cases e
theorem pe_exc0V {C : Addr} {x : Str} {p pos : Pos} (q : PySem.W.excIn X.K C [.type "ValueError", .type "Exception", .type "BaseException", .type "object"] "ValueError.__new__" = true) (gC : X.mg x = some (.ref C)) (kC : PySem.W.keepIn X.K (.ref C) = true) (hg : Gl X x) (hdb : (x == ("__debug__" : Str)) = false := by decide) :
    PE X (.Call (.Name x p) [] [] pos) (fun _ H Q => ∀ v H', Same H H' → ErO H' v C → Q v H') := by
  refine ⟨fun pins s σ H Q I h => ?_⟩
  refine wpAny_Call_Name_kw (ld_glob I hg gC ?_ hdb)
  refine PySem.W.callWith_K0 I.kIn kC ?_
  show wpAny _ _ (call (.ref C) []) _ _ _
  obtain ⟨bm, N, nm, qn, bs, hdct, sn, sub, ab, col, dd, k0, k1, k2, k3, k5, mN, hC, hN, hni, T⟩ := exc_obj I.kIn q
  refine wpAny_call_exc_subT F.excBase_ValueError T hC hN hni (fun h' a hm => ?_) (Nat.zero_le _)
  have hn : H a = none := I.hok.gone hm.new
  obtain ⟨t, ht, _, _⟩ := hm.there
  exact ⟨.ref a, upd H a (ExO (.ref C) a), I.laidN hm.keeps hm.new hn (exO_ok ht ⟨rfl, rfl⟩ rfl rfl rfl (show 4 < 6 by decide)), rfl, h _ _ (same_new (Same.refl _) hn) ⟨a, rfl, upd_same⟩⟩
def rIsO (K : PySem.W.Frag) : List V → Hp → VK → Prop := fun xs H Q => ∃ (x c : V) (C : Addr) (cv : Value) (b : Bool), xs = [x, c] ∧ ErO H x C ∧ L2.ExcC K C ∧ (∀ u, RelV c u → u = cv) ∧ PySem.W.kitOne K (.ref C) cv = some b ∧ Q (.bl b) H
theorem call_isO (eK : X.K = K) : CallR X (.builtin "isinstance") (rIsO K) := by
  subst eK
  intro pins s σ H xs us Q I r h
  obtain ⟨x, c, C, cv, b, rfl, ⟨a, rfl, ha⟩, hC, hcv, e, q⟩ := h
  obtain ⟨⟨oe, vs, ho, hz, hd, _⟩, _, _⟩ := I.hok a _ ha
  cases r with
  | cons rx rr =>
    cases rr with
    | cons rt rr =>
      cases rr
      cases rx
      have ec := hcv _ rt
      subst ec
      have J : PySem.W.InstAt s.heap a oe C none := by
        obtain ⟨oc, od, oda, osl⟩ := oe
        obtain ⟨z1, z2⟩ := hz
        dsimp only at z1 z2 hd
        subst z1 z2 hd
        exact ⟨ho, rfl, rfl, trivial⟩
      exact PySem.W.kia_one (PySem.W.handS_kitx_exc hC.hg hC.hk hC.hs hC.hd hC.ha hC.hn hC.ht hC.hm) I.kIn J e (fun z => nomatch z) fun tk => ⟨.bl b, H, I.kept (t' := tk) fun _ _ z => z, rfl, q⟩
theorem x_isO {H : Hp} {Q : VK} {x : V} {C : Addr} {b : Bool} (he : ErO H x C) (hC : L2.ExcC K C) (k : PySem.W.kitOne K (.ref C) (.type "ValueError") = some b) (q : Q (.bl b) H) : rIsO K [x, .ty "ValueError"] H Q :=
  ⟨x, .ty "ValueError", C, .type "ValueError", b, rfl, he, hC, fun u h => by cases h; rfl, k, q⟩
end
end Fv
set_option maxRecDepth 100000
set_option maxHeartbeats 1000000
namespace Fv
open PySem PySem.Spec PyProof.Rows L2
theorem ErsV.snoc {H : Hp} {vs : List V} {ps : List (Addr × Fs)} {v : V} {c : Addr} {l : Fs} (h : ErsV H vs ps) (e : ErV H v c l) : ErsV H (vs ++ [v]) (ps ++ [(c, l)]) := h.append (.cons e .nil)
section
variable {H : Hp} {Q : VK} {a b : Addr} {xs ys : List V}
theorem x_neL1 {K : PySem.W.Frag} {i : Int} (h1 : H a = some (.lst [.int i])) (h2 : H b = some (.lst [.int i])) (q : Q (.bl false) H) : rNeD K (.ref a) (.ref b) H Q := by
  refine ⟨.list [.int i], .list [.int i], .lst (SqL.of h1) (.cons (.int i) .nil), .lst (SqL.of h2) (.cons (.int i) .nil), rfl, rfl, ?_⟩
  rw [show PyData.eqv (.list [.int i]) (.list [.int i]) = true by simp [PyData.eqv, PyData.eqvAll]]
  exact q
theorem x_disp1 {σ : L2.St} {s : Str} {v : V} (q : ∀ p, H p = none → Q (.ref p) (upd H p (.dK [(.inr s, v)]))) : tDisp [(tC (.str s), tC v)] σ H Q := fun p hp =>
  ⟨upd_same, [(.inr s, v)], rfl, by show 1 ≤ 15; decide, by rw [upd_upd]; exact q p hp⟩
end
end Fv
set_option maxRecDepth 100000
set_option maxHeartbeats 1000000
namespace Fv
open PySem PySem.Spec L2
def top (i : Nat) : Stmt := PySem.Challenge.pw_foldervotes_k00_errors_of_the_package.main.body.getD i (.Pass ⟨0, 0, 0, 0⟩)
abbrev s_BadTree___init__ : Stmt := inClass (top 2) 0
abbrev s_BadPicture___init__ : Stmt := inClass (top 10) 0
abbrev s_TooMany___init__ : Stmt := inClass (top 15) 0
abbrev s_BadWords___init__ : Stmt := inClass (top 16) 0
abbrev s_BadHistory___init__ : Stmt := inClass (top 17) 0
abbrev s_RingTold___init__ : Stmt := inClass (top 21) 0
abbrev s_NameTwice___init__ : Stmt := inClass (top 22) 0
abbrev s_BadBody___init__ : Stmt := inClass (top 23) 0
abbrev s_NoPath___init__ : Stmt := inClass (top 24) 0
abbrev s_NotThere___init__ : Stmt := inClass (top 25) 0
abbrev s_NotFolder___init__ : Stmt := inClass (top 26) 0
abbrev s_NotFile___init__ : Stmt := inClass (top 27) 0
abbrev s_TakenPath___init__ : Stmt := inClass (top 28) 0
abbrev s_NotEmpty___init__ : Stmt := inClass (top 30) 0
abbrev s_BadText___init__ : Stmt := inClass (top 34) 0
abbrev s_BadBook___init__ : Stmt := inClass (top 35) 0
abbrev s_NotKept___init__ : Stmt := inClass (top 36) 0
abbrev s__law_pool : Stmt := top 41
abbrev s__law_draw : Stmt := top 42
abbrev s__law_pick : Stmt := top 43
abbrev s__law_is : Stmt := top 44
abbrev s__law_deep : Stmt := top 45
abbrev s__law_kinds : Stmt := top 46
abbrev s_law : Stmt := top 47
structure Ad where
  a_VoteError : Addr
  a_BadTree : Addr
  a_NoBlock : Addr
  a_NoPlace : Addr
  a_Beneath : Addr
  a_NoOrder : Addr
  a_NoView : Addr
  a_OtherBlocks : Addr
  a_NoNumber : Addr
  a_BadPicture : Addr
  a_NoLot : Addr
  a_NoTree : Addr
  a_NotFitting : Addr
  a_NoTelling : Addr
  a_TooMany : Addr
  a_BadWords : Addr
  a_BadHistory : Addr
  a_NoWord : Addr
  a_NoWorth : Addr
  a_NothingWaits : Addr
  a_RingTold : Addr
  a_NameTwice : Addr
  a_BadBody : Addr
  a_NoPath : Addr
  a_NotThere : Addr
  a_NotFolder : Addr
  a_NotFile : Addr
  a_TakenPath : Addr
  a_NoText : Addr
  a_NotEmpty : Addr
  a_NoBlocks : Addr
  a_NoLine : Addr
  a_NoLines : Addr
  a_BadText : Addr
  a_BadBook : Addr
  a_NotKept : Addr
  a_NoChanges : Addr
  a_UnderWay : Addr
  a_NotUnderWay : Addr
structure Bl (Z : Ad) (mg : Str → Option Value) : Prop where
  b_ValueError : mg "ValueError" = none
  b_abs : mg "abs" = none
  b_all : mg "all" = none
  b_bool : mg "bool" = none
  b_dict : mg "dict" = none
  b_int : mg "int" = none
  b_isinstance : mg "isinstance" = none
  b_len : mg "len" = none
  b_list : mg "list" = none
  b_range : mg "range" = none
  b_str : mg "str" = none
  b_super : mg "super" = none
  b_tuple : mg "tuple" = none
  k_VoteError : mg "VoteError" = some (.ref Z.a_VoteError)
  k_BadTree : mg "BadTree" = some (.ref Z.a_BadTree)
  k_NoBlock : mg "NoBlock" = some (.ref Z.a_NoBlock)
  k_NoPlace : mg "NoPlace" = some (.ref Z.a_NoPlace)
  k_Beneath : mg "Beneath" = some (.ref Z.a_Beneath)
  k_NoOrder : mg "NoOrder" = some (.ref Z.a_NoOrder)
  k_NoView : mg "NoView" = some (.ref Z.a_NoView)
  k_OtherBlocks : mg "OtherBlocks" = some (.ref Z.a_OtherBlocks)
  k_NoNumber : mg "NoNumber" = some (.ref Z.a_NoNumber)
  k_BadPicture : mg "BadPicture" = some (.ref Z.a_BadPicture)
  k_NoLot : mg "NoLot" = some (.ref Z.a_NoLot)
  k_NoTree : mg "NoTree" = some (.ref Z.a_NoTree)
  k_NotFitting : mg "NotFitting" = some (.ref Z.a_NotFitting)
  k_NoTelling : mg "NoTelling" = some (.ref Z.a_NoTelling)
  k_TooMany : mg "TooMany" = some (.ref Z.a_TooMany)
  k_BadWords : mg "BadWords" = some (.ref Z.a_BadWords)
  k_BadHistory : mg "BadHistory" = some (.ref Z.a_BadHistory)
  k_NoWord : mg "NoWord" = some (.ref Z.a_NoWord)
  k_NoWorth : mg "NoWorth" = some (.ref Z.a_NoWorth)
  k_NothingWaits : mg "NothingWaits" = some (.ref Z.a_NothingWaits)
  k_RingTold : mg "RingTold" = some (.ref Z.a_RingTold)
  k_NameTwice : mg "NameTwice" = some (.ref Z.a_NameTwice)
  k_BadBody : mg "BadBody" = some (.ref Z.a_BadBody)
  k_NoPath : mg "NoPath" = some (.ref Z.a_NoPath)
  k_NotThere : mg "NotThere" = some (.ref Z.a_NotThere)
  k_NotFolder : mg "NotFolder" = some (.ref Z.a_NotFolder)
  k_NotFile : mg "NotFile" = some (.ref Z.a_NotFile)
  k_TakenPath : mg "TakenPath" = some (.ref Z.a_TakenPath)
  k_NoText : mg "NoText" = some (.ref Z.a_NoText)
  k_NotEmpty : mg "NotEmpty" = some (.ref Z.a_NotEmpty)
  k_NoBlocks : mg "NoBlocks" = some (.ref Z.a_NoBlocks)
  k_NoLine : mg "NoLine" = some (.ref Z.a_NoLine)
  k_NoLines : mg "NoLines" = some (.ref Z.a_NoLines)
  k_BadText : mg "BadText" = some (.ref Z.a_BadText)
  k_BadBook : mg "BadBook" = some (.ref Z.a_BadBook)
  k_NotKept : mg "NotKept" = some (.ref Z.a_NotKept)
  k_NoChanges : mg "NoChanges" = some (.ref Z.a_NoChanges)
  k_UnderWay : mg "UnderWay" = some (.ref Z.a_UnderWay)
  k_NotUnderWay : mg "NotUnderWay" = some (.ref Z.a_NotUnderWay)
end Fv
set_option maxRecDepth 100000
set_option maxHeartbeats 1000000
namespace Fv
open PySem PySem.Spec L2
local macro_rules | `(tactic| walk_at "ne") => `(tactic| first
  | assumption
  | (apply Ne.symm; assumption)
  | exact ne_of_none (by assumption) (by assumption)
  | (apply Ne.symm; exact ne_of_none (by assumption) (by assumption))
  | exact ne_none' (by assumption) (by walk_at "hu")
  | (apply Ne.symm; exact ne_none' (by assumption) (by walk_at "hu")))
local macro_rules | `(tactic| walk_at "hu") => `(tactic| first
  | with_reducible assumption
  | with_reducible exact upd_same
  | ((with_reducible show upd _ _ _ _ = some _); first | with_reducible exact upd_same | (with_reducible exact keepN (by walk_at "hu") (by assumption)) | (with_reducible exact keepM (by walk_at "ne") (by walk_at "hu"))))
local macro_rules | `(tactic| walk_at "hl") => `(tactic| first
  | with_reducible assumption
  | with_reducible exact SqL.of (by assumption)
  | ((with_reducible show SqL _ (upd _ _ _) _ _); first
    | with_reducible exact SqL.of upd_same
    | with_reducible exact keepLN (by walk_at "hl") (by assumption)
    | with_reducible exact keepLM (by walk_at "ne") (by walk_at "hl"))
  | with_reducible exact Same.seq (by assumption) (by walk_at "hl")
  | with_reducible exact But.seq (by assumption) (by walk_at "ne") (by walk_at "hl"))
local macro_rules | `(tactic| walk_at "ht") => `(tactic| first
  | with_reducible assumption
  | with_reducible exact SqT.of (by assumption)
  | ((with_reducible show SqT _ (upd _ _ _) _ _); first
    | with_reducible exact SqT.of upd_same
    | with_reducible exact keepTN (by walk_at "ht") (by assumption)
    | with_reducible exact keepTM (by walk_at "ne") (by walk_at "ht"))
  | with_reducible exact Same.seqT (by assumption) (by walk_at "ht")
  | with_reducible exact But.seqT (by assumption) (by walk_at "ne") (by walk_at "ht"))
local macro_rules | `(tactic| walk_at "sm") => `(tactic| first
  | with_reducible assumption
  | with_reducible exact Same.refl _
  | ((with_reducible show Same _ (upd _ _ _)); first
    | with_reducible exact same_new (by walk_at "sm") (by assumption)
    | with_reducible exact same_mut (by walk_at "sm") (by assumption))
  | ((with_reducible refine same_trans (by assumption) ?_); walk_at "sm"))
local macro_rules | `(tactic| walk_at "bt") => `(tactic| first
  | with_reducible assumption
  | with_reducible exact But.refl _ _
  | with_reducible exact But.of (by assumption)
  | ((with_reducible show But _ _ (upd _ _ _)); first
    | ((with_reducible refine But.mut ?_); walk_at "bt")
    | with_reducible exact But.new (by walk_at "bt") (by assumption)
    | with_reducible exact But.mutF (by walk_at "bt") (by assumption))
  | ((with_reducible refine but_trans (by assumption) ?_); walk_at "bt")
  | ((with_reducible refine but_trans (But.of (by assumption)) ?_); walk_at "bt"))
local macro_rules | `(tactic| walk_at "kn") => `(tactic| first
  | with_reducible assumption
  | exact True.intro
  | with_reducible exact Kn.same (by assumption) (by walk_at "kn")
  | with_reducible exact Kn.same (same_new (Same.refl _) (by assumption)) (by walk_at "kn"))
local macro_rules | `(tactic| walk_at "h1") => `(tactic| first
  | with_reducible refine x_seq ?_
  | with_reducible refine x_next ?_
  | with_reducible refine x_drop ?_
  | with_reducible refine x_ret ?_
  | with_reducible refine x_retN ?_
  | with_reducible refine x_ifs ?_
  | with_reducible refine x_asg ?_
  | with_reducible refine x_gname ?_
  | with_reducible refine x_gsub ?_
  | ((with_reducible show tVar _ _ _ _); with_reducible refine x_var (by with_unfolding_all rfl) ?_)
  | with_reducible refine x_c ?_
  | with_reducible refine x_op ?_
  | with_reducible refine x_un ?_
  | with_reducible refine x_i0 ?_
  | ((with_reducible show rI _ _ (V.int _) (V.int _) _ _); with_reducible refine x_i (by with_unfolding_all (first | assumption | decide | (show (0 : Int) < _; first | assumption | decide | omega) | exact ⟨by first | assumption | decide | omega, by first | assumption | decide | omega⟩ | exact Or.inl ⟨by first | decide | omega, by first | decide | omega⟩ | exact Or.inr ⟨by first | decide | omega, by first | decide | omega⟩)) ?_)
  | with_reducible refine x_u ?_
  | with_reducible refine x_isN0 ?_
  | with_reducible refine x_isN1 ?_
  | with_reducible refine x_isN2 ?_
  | with_reducible refine x_isN3 ?_
  | with_reducible refine x_isN4 ?_
  | with_reducible refine x_notN0 ?_
  | with_reducible refine x_notN1 ?_
  | with_reducible refine x_notN2 ?_
  | with_reducible refine x_notN3 ?_
  | with_reducible refine x_notN4 ?_
  | with_reducible refine x_eqB ?_
  | with_reducible refine x_neB ?_
  | with_reducible refine x_eqS ?_
  | with_reducible refine x_eqI ?_
  | with_reducible refine x_neI ?_
  | ((with_reducible show rEq _ _ _ _); with_reducible refine x_eq (by with_unfolding_all rfl) ?_)
  | ((with_reducible show rNe _ _ _ _); with_reducible refine x_ne (by with_unfolding_all rfl) ?_)
  | ((with_reducible show rIxL _ (V.ref _) (V.int _) _ _); with_reducible refine x_ixL (by walk_at "hl") (by first | assumption | with_unfolding_all exact atI_nat (j := 0) rfl | with_unfolding_all exact atI_nat (j := 1) rfl | with_unfolding_all rfl) ?_)
  | ((with_reducible show rIxT _ (V.ref _) (V.int _) _ _); with_reducible refine x_ixT (by walk_at "ht") (by first | assumption | with_unfolding_all exact atI_nat (j := 0) rfl | with_unfolding_all exact atI_nat (j := 1) rfl | with_unfolding_all rfl) ?_)
  | ((with_reducible show rIx _ (V.ref _) (V.int _) _ _); first
    | with_reducible refine x_ixSL (by walk_at "hl") (by first | assumption | with_unfolding_all exact atI_nat (j := 0) rfl | with_unfolding_all exact atI_nat (j := 1) rfl | with_unfolding_all rfl) ?_
    | with_reducible refine x_ixST (by walk_at "ht") (by first | assumption | with_unfolding_all exact atI_nat (j := 0) rfl | with_unfolding_all exact atI_nat (j := 1) rfl | with_unfolding_all rfl) ?_)
  | ((with_reducible show rSetL (V.ref _) (V.int _) _ _ _); with_reducible refine x_setL (by walk_at "hu") (by first | assumption | with_unfolding_all rfl) ?_)
  | with_reducible refine x_test ?_
  | with_reducible refine x_b ?_
  | with_reducible refine x_isb ?_
  | ((with_reducible show if decide _ = true then _ else _); with_reducible refine x_isdT (by first | with_unfolding_all rfl | with_unfolding_all decide) ?_)
  | ((with_reducible show if decide _ = true then _ else _); with_reducible refine x_isdF (by with_unfolding_all decide) ?_)
  | with_reducible refine x_isi ?_
  | with_reducible refine x_and ?_
  | with_reducible refine x_or ?_
  | with_reducible refine x_not ?_
  | with_reducible refine x_andV ?_
  | with_reducible refine x_orV ?_
  | with_reducible refine x_notV ?_
  | with_reducible refine x_ifx ?_
  | with_reducible refine x_nil ?_
  | with_reducible refine x_cons ?_
  | with_reducible refine x_cb ?_
  | with_reducible refine x_call ?_
  | with_reducible refine x_lst ?_
  | with_reducible refine x_tup ?_
  | with_reducible refine x_sl ?_
  | with_reducible refine x_nopart ?_
  | with_reducible refine x_part ?_
  | ((with_reducible show rSlL _ (V.ref _) _ _ _ _); with_reducible refine x_slL (by walk_at "hl") ?_)
  | with_reducible refine x_listRg1 ?_
  | with_reducible refine x_listRg2 ?_
  | with_reducible refine x_tupRg1 ?_
  | with_reducible refine x_ij ?_
  | ((with_reducible show tyV _ "list" (V.ref _) _ ∧ _); with_reducible refine x_tyL (by walk_at "hl") ?_)
  | with_reducible refine x_bm ?_
  | with_reducible refine x_bm0 ?_
  | with_reducible refine x_fldQ ?_
  | with_reducible refine x_par ?_
  | with_reducible refine x_par2 ?_
  | with_reducible refine x_chain ?_
  | ((with_reducible show tAug _ _ _ _ _ _); with_reducible refine x_aug (by with_unfolding_all rfl) ?_)
  | with_reducible refine x_ipI ?_
  | with_reducible refine x_for ?_
  | with_reducible refine x_while ?_
  | with_reducible refine x_ent ?_
  | with_reducible refine x_enl ?_
  | with_reducible refine x_isBk ?_
  | with_reducible refine x_notBk ?_
  | with_reducible refine x_mko ?_
  | with_reducible refine x_sfld ?_
  | with_reducible refine x_ost ?_
  | ((with_reducible show gTup _ _ _ (V.ref _) _ _ _); with_reducible refine x_gtup (by walk_at "ht") (by with_unfolding_all rfl) ?_)
  | with_reducible refine x_gcons ?_
  | with_reducible refine x_gnil ?_
  | with_reducible refine x_lc ?_
  | with_reducible refine x_lc2 ?_
  | with_reducible refine x_ilist ?_
  | with_reducible refine x_itup ?_
  | with_reducible refine x_rng1 ?_
  | with_reducible refine x_rng2v ?_
  | with_reducible refine x_irngV ?_
  | with_reducible refine x_star ?_
  | with_reducible refine x_rng2 ?_
  | with_reducible refine x_yes ?_
  | ((with_reducible show rLen _ [V.ref _] _ _); with_reducible refine x_lenL (by walk_at "hl") ?_)
  | ((with_reducible show rLen _ [V.ref _] _ _); with_reducible refine x_lenT (by walk_at "ht") ?_)
  | ((with_reducible show rListOf _ [V.ref _] _ _); with_reducible refine x_listL (by walk_at "hl") ?_)
  | ((with_reducible show rListOf _ [V.ref _] _ _); with_reducible refine x_listT (by walk_at "ht") ?_)
  | ((with_reducible show rTupOf _ [V.ref _] _ _); with_reducible refine x_tupL (by walk_at "hl") ?_)
  | ((with_reducible show rTupOf _ [V.ref _] _ _); with_reducible refine x_tupT (by walk_at "ht") ?_)
  | ((with_reducible show List.length _ ≤ sizeLine ∧ _); with_reducible refine And.intro (szLe (by with_unfolding_all (simp only [List.length_cons, List.length_nil]; decide))) ?_)
  | with_reducible refine x_int1 ?_
  | with_reducible refine x_abs ?_
  | with_reducible refine isi_non_int ?_
  | with_reducible refine isi_bl_int ?_
  | with_reducible refine isi_int_int ?_
  | with_reducible refine isi_str_int ?_
  | ((with_reducible show rIsi _ [V.ref _, V.ty "int"] _ _); first | with_reducible refine isi_lst_int (by walk_at "hu") ?_ | with_reducible refine isi_tup_int (by walk_at "hu") ?_ | with_reducible refine isi_dK_int (by walk_at "hu") ?_)
  | with_reducible refine isi_non_bool ?_
  | with_reducible refine isi_bl_bool ?_
  | with_reducible refine isi_int_bool ?_
  | with_reducible refine isi_str_bool ?_
  | ((with_reducible show rIsi _ [V.ref _, V.ty "bool"] _ _); first | with_reducible refine isi_lst_bool (by walk_at "hu") ?_ | with_reducible refine isi_tup_bool (by walk_at "hu") ?_ | with_reducible refine isi_dK_bool (by walk_at "hu") ?_)
  | with_reducible refine isi_non_tuple ?_
  | with_reducible refine isi_bl_tuple ?_
  | with_reducible refine isi_int_tuple ?_
  | with_reducible refine isi_str_tuple ?_
  | ((with_reducible show rIsi _ [V.ref _, V.ty "tuple"] _ _); first | with_reducible refine isi_lst_tuple (by walk_at "hu") ?_ | with_reducible refine isi_tup_tuple (by walk_at "hu") ?_ | with_reducible refine isi_dK_tuple (by walk_at "hu") ?_)
  | with_reducible refine isi_non_list ?_
  | with_reducible refine isi_bl_list ?_
  | with_reducible refine isi_int_list ?_
  | with_reducible refine isi_str_list ?_
  | ((with_reducible show rIsi _ [V.ref _, V.ty "list"] _ _); first | with_reducible refine isi_lst_list (by walk_at "hu") ?_ | with_reducible refine isi_tup_list (by walk_at "hu") ?_ | with_reducible refine isi_dK_list (by walk_at "hu") ?_)
  | with_reducible refine isi_non_dict ?_
  | with_reducible refine isi_bl_dict ?_
  | with_reducible refine isi_int_dict ?_
  | with_reducible refine isi_str_dict ?_
  | ((with_reducible show rIsi _ [V.ref _, V.ty "dict"] _ _); first | with_reducible refine isi_lst_dict (by walk_at "hu") ?_ | with_reducible refine isi_tup_dict (by walk_at "hu") ?_ | with_reducible refine isi_dK_dict (by walk_at "hu") ?_)
  | with_reducible refine isi_non_str ?_
  | with_reducible refine isi_bl_str ?_
  | with_reducible refine isi_int_str ?_
  | with_reducible refine isi_str_str ?_
  | ((with_reducible show rIsi _ [V.ref _, V.ty "str"] _ _); first | with_reducible refine isi_lst_str (by walk_at "hu") ?_ | with_reducible refine isi_tup_str (by walk_at "hu") ?_ | with_reducible refine isi_dK_str (by walk_at "hu") ?_)
  | ((with_reducible show rIsi _ [_, V.ty "int"] _ _); with_reducible refine x_isInt (by walk_at "kn") ?_)
  | ((with_reducible show rIsi _ [_, V.ty "bool"] _ _); with_reducible refine x_isBl (by walk_at "kn") ?_)
  | with_reducible refine x_nF ?_
  | with_reducible refine x_nT ?_
  | with_reducible refine iteT ?_
  | with_reducible refine iteF ?_)
local macro_rules | `(tactic| walk_at "hs") => `(tactic| repeat (walk_at "h1"; try dsimp only [Bool.not_true, Bool.not_false]))
local macro_rules | `(tactic| walk_at "h0") => `(tactic| ((try dsimp only [cxOf, L2.start, List.map_cons, List.map_nil, List.length_cons, List.length_nil, List.replicate, List.cons_append, List.nil_append, Nat.reduceAdd, Nat.reduceSub]); walk_at "hs"))

theorem sc__law_draw : FnScope ["_law_pool_here", "_law_many", "_law_digit", "_law_cell", "_law_number"] ["_law_pool_here", "_law_many"] (defScope s__law_draw) := ⟨rfl, rfl, rfl, by decide +kernel, rfl, by decide +kernel, by decide +kernel⟩
def PoolAt (H : Hp) (p : Addr) (F : Addr → Prop) : Prop := (∃ (g s : Addr) (gs ss : List Int) (c n : Int), H p = some (.lst [.ref g, .ref s, .int c, .int n]) ∧ H g = some (.lst (gs.map V.int)) ∧ H s = some (.lst (ss.map V.int)) ∧ g ≠ p ∧ s ≠ p ∧ ¬ F g ∧ ¬ F s ∧ ¬ F p) ∧ ∀ a, F a → ∃ o, H a = some o
def spDraw : Sp := fun vs H Q _ => ∃ (p : Addr) (m : Int) (F : Addr → Prop), vs = [.ref p, .int m] ∧ PoolAt H p F ∧ 0 < m ∧ m < 1073741824 ∧ ∀ (d : Int) H', 0 ≤ d → d < m → But p H H' → PoolAt H' p F → Q (.int d) H'
theorem prot {H H' : Hp} {p : Addr} {F : Addr → Prop} (b : But p H H') (h : ∀ a, F a → ∃ o, H a = some o) (n : ¬ F p) : ∀ a, F a → ∃ o, H' a = some o := fun a ha => by
  obtain ⟨o, e⟩ := h a ha
  exact ⟨o, b a o (fun z => n (z ▸ ha)) e⟩
section
variable {P : Program} {w : World} {K : PySem.W.Frag} {mg : Str → Option Value} {base : Heap} {Z : Ad}
theorem ok_draw {f : Addr} {fd : FuncData} (F : Fun K "_law_draw" "_law_draw" s__law_draw f fd) (B : Bl Z mg) : FnOk P w K mg base CX0 1 f fd ["_law_pool_here", "_law_many"] spDraw := by
  refine F.ok sc__law_draw (fun vs H Q E h => ?_) (fun cdv A outer s H vs Q E hr h => ?_)
  · obtain ⟨p, m, F, rfl, _⟩ := h
    rfl
  · obtain ⟨p, m, Fo, rfl, ⟨⟨g, z, gs, ss, c, n, hp, hg, hz, ng, nz, fg, fz, fp⟩, hF⟩, m0, m1, q⟩ := h
    refine ⟨_, (C8.pss_cut (ps_if (PW.pt (pw_and (pt_cmpR op_le (pe_ix (ix_listK (K := K) rfl) (pv 0) pe_int (fun _ _ => rfl)) pe_int (nomark _)) (pw_and1 (pt_cmpR op_gt (pe_callB (call_lenK (K := K) rfl) (by rfl) B.b_len PySem.boot_len (pa_cons (pe_ix (ix_listK (K := K) rfl) (pv 0) pe_int (fun _ _ => rfl)) pa_nil)) pe_int (nomark _))))) (pss_cons (ps_asg (pe_ix (ix_listK (K := K) rfl) (pe_ix (ix_listK (K := K) rfl) (pv 0) pe_int (fun _ _ => rfl)) pe_int (fun _ _ => rfl)) (pg_sub (pv 0) pe_int set_list))
 (pss_one (ps_asg (pe_slice (sl_listK (K := K) rfl) (pe_ix (ix_listK (K := K) rfl) (pv 0) pe_int (fun _ _ => rfl)) (po_some pe_int) po_none) (pg_sub (pv 0) pe_int set_list)))) pss_nil)
 (pss_cons (ps_if (pt_cmpR op_gt (pe_ix (ix_listK (K := K) rfl) (pv 0) pe_int (fun _ _ => rfl)) pe_int (nomark _)) (pss_cons (ps_set (i := 2) sc__law_draw.nd rfl (Or.inl rfl) (pe_op op_mod (pe_callTy call_int (by rfl) B.b_int (by decide +kernel) (pa_cons (pe_ix (ix_listK (K := K) rfl) (pv 0) pe_int (fun _ _ => rfl)) pa_nil)) (pv 1)))
 (pss_cons (ps_asg (pe_op op_fdiv (pe_ix (ix_listK (K := K) rfl) (pv 0) pe_int (fun _ _ => rfl)) (pv 1)) (pg_sub (pv 0) pe_int set_list))
 (pss_one (ps_ret (pv 2))))) pss_nil)
 (pss_cons (ps_asg (pe_op op_add (pe_ix (ix_listK (K := K) rfl) (pv 0) pe_int (fun _ _ => rfl)) pe_int) (pg_sub (pv 0) pe_int set_list))
 (pss_cons (ps_set (i := 3) sc__law_draw.nd rfl (Or.inl rfl) pe_int)
 (C8.pss_cut (ps_if (pt_cmpR op_gt (pe_callB (call_lenK (K := K) rfl) (by rfl) B.b_len PySem.boot_len (pa_cons (pe_ix (ix_listK (K := K) rfl) (pv 0) pe_int (fun _ _ => rfl)) pa_nil)) pe_int (nomark _)) (pss_one (ps_set (i := 3) sc__law_draw.nd rfl (Or.inl rfl) (pe_ix (ix_listK (K := K) rfl) (pe_ix (ix_listK (K := K) rfl) (pv 0) pe_int (fun _ _ => rfl)) (pe_op op_mod (pe_callTy call_int (by rfl) B.b_int (by decide +kernel) (pa_cons (pe_ix (ix_listK (K := K) rfl) (pv 0) pe_int (fun _ _ => rfl)) pa_nil)) (pe_callB (call_lenK (K := K) rfl) (by rfl) B.b_len PySem.boot_len (pa_cons (pe_ix (ix_listK (K := K) rfl) (pv 0) pe_int (fun _ _ => rfl)) pa_nil))) (fun _ _ => rfl)))) pss_nil)
 (pss_cons (ps_set (i := 4) sc__law_draw.nd rfl (Or.inl rfl) (pe_op op_mod (pe_callTy call_int (by rfl) B.b_int (by decide +kernel) (pa_cons (pe_op op_mul (pe_op op_add (pe_op op_add (pv 3) (pe_op op_mul pe_int (pe_ix (ix_listK (K := K) rfl) (pv 0) pe_int (fun _ _ => rfl)))) pe_int) pe_int) pa_nil)) pe_int))
 (pss_cons (ps_set (i := 4) sc__law_draw.nd rfl (Or.inl rfl) (pe_op op_mod (pe_callTy call_int (by rfl) B.b_int (by decide +kernel) (pa_cons (pe_op op_mul (pv 4) (pe_op op_add (pe_op op_fdiv (pv 4) pe_int) pe_int)) pa_nil)) pe_int))
 (pss_cons (ps_set (i := 4) sc__law_draw.nd rfl (Or.inl rfl) (pe_op op_mod (pe_callTy call_int (by rfl) B.b_int (by decide +kernel) (pa_cons (pe_op op_mul (pv 4) (pe_op op_add (pe_op op_fdiv (pv 4) pe_int) pe_int)) pa_nil)) pe_int))
 (pss_one (ps_ret (pe_op op_mod (pe_callTy call_int (by rfl) B.b_int (by decide +kernel) (pa_cons (pe_op op_fdiv (pv 4) pe_int) pa_nil)) (pv 1)))))))))))), ?_⟩
    walk_at "h0"
    refine ⟨fun σ' H' => σ' = [some (.ref p), some (.int m), none, none, none] ∧ But p H H' ∧ PoolAt H' p Fo, ?_, ?_⟩
    · walk_at "hs"
      refine x_isd (fun c1 => ?_) (fun c1 => ?_)
      · walk_at "hs"
        refine x_isd (fun c2 => ?_) (fun c2 => ?_)
        · cases gs with
          | nil => exact absurd c2 (by decide)
          | cons g0 gs =>
            walk_at "hs"
            intro a ha
            walk_at "hs"
            refine ⟨rfl, by walk_at "bt", ⟨a, z, gs, ss, g0, n, upd_same, ?_, by walk_at "hu", by walk_at "ne", nz, fun fa => ?_, fz, fp⟩, prot (by walk_at "bt") hF fp⟩
            · refine keepM (by walk_at "ne") ?_
              rw [upd_same, cut1]
              rfl
            · obtain ⟨o, e⟩ := hF a fa
              rw [upd_ne (by walk_at "ne"), e] at ha
              cases ha
        · walk_at "hs"
          exact ⟨rfl, But.refl _ _, ⟨g, z, gs, ss, c, n, hp, hg, hz, ng, nz, fg, fz, fp⟩, hF⟩
      · walk_at "hs"
        exact ⟨rfl, But.refl _ _, ⟨g, z, gs, ss, c, n, hp, hg, hz, ng, nz, fg, fz, fp⟩, hF⟩
    · rintro σ' H1 ⟨rfl, b1, ⟨g, z, gs, ss, c, n, hp, hg, hz, ng, nz, fg, fz, fp⟩, hF⟩
      walk_at "hs"
      refine x_isd (fun c1 => ?_) (fun c1 => ?_)
      · walk_at "hs"
        exact q _ _ (Int.emod_nonneg _ (by omega)) (Int.emod_lt_of_pos _ m0) (by walk_at "bt") ⟨⟨g, z, gs, ss, c / m, n, upd_same, by walk_at "hu", by walk_at "hu", ng, nz, fg, fz, fp⟩, prot (But.mut (But.refl _ _)) hF fp⟩
      · walk_at "hs"
        refine ⟨fun σ' H' => ∃ k : Int, σ' = [some (.ref p), some (.int m), none, some (.int k), none] ∧ H' = upd H1 p (.lst [.ref g, .ref z, .int c, .int (n + 1)]), ?_, ?_⟩
        · walk_at "hs"
          refine x_isd (fun c2 => ?_) (fun c2 => ?_)
          · walk_at "hs"
            obtain ⟨v, hv, hm⟩ := at_mod (xs := ss.map V.int) (z := n + 1) (by omega)
            obtain ⟨k, _, rfl⟩ := List.mem_map.mp hm
            walk_at "hs"
            exact ⟨_, rfl, rfl⟩
          · walk_at "hs"
            exact ⟨_, rfl, rfl⟩
        · rintro σ' H2 ⟨k, rfl, rfl⟩
          walk_at "hs"
          exact q _ _ (Int.emod_nonneg _ (by omega)) (Int.emod_lt_of_pos _ m0) (by walk_at "bt") ⟨⟨g, z, gs, ss, c, n + 1, upd_same, by walk_at "hu", by walk_at "hu", ng, nz, fg, fz, fp⟩, prot (But.mut (But.refl _ _)) hF fp⟩
end
set_option maxRecDepth 100000
set_option maxHeartbeats 1000000
open PySem PySem.Spec L2


theorem sc__law_pool : FnScope ["_law_script", "_law_great", "_law_small", "_law_cell"] ["_law_script"] (defScope s__law_pool) := ⟨rfl, rfl, rfl, by decide +kernel, rfl, by decide +kernel, by decide +kernel⟩
theorem sc__law_pick : FnScope ["_law_pool_here", "_law_things"] ["_law_pool_here", "_law_things"] (defScope s__law_pick) := ⟨rfl, rfl, rfl, by decide +kernel, rfl, by decide +kernel, by decide +kernel⟩
section
variable {P : Program} {w : World} {K : PySem.W.Frag} {mg : Str → Option Value} {base : Heap} {Z : Ad}

theorem PoolAt.same {H H' : Hp} {p : Addr} {F : Addr → Prop} (s : Same H H') (h : PoolAt H p F) : PoolAt H' p F := by
  obtain ⟨⟨g, z, gs, ss, c, n, hp, hg, hz, r⟩, hF⟩ := h
  exact ⟨⟨g, z, gs, ss, c, n, s _ _ hp, s _ _ hg, s _ _ hz, r⟩, fun a ha => by
    obtain ⟨o, e⟩ := hF a ha
    exact ⟨o, s _ _ e⟩⟩
theorem PoolAt.ne {H : Hp} {p q : Addr} {F : Addr → Prop} (h : PoolAt H p F) (hq : H q = none) : q ≠ p := by
  obtain ⟨⟨g, z, gs, ss, c, n, hp, _⟩, _⟩ := h
  exact ne_none' hq hp
theorem PoolAt.newH {H : Hp} {p q : Addr} {o : HO} {F : Addr → Prop} (h : PoolAt H p F) (hq : H q = none) : PoolAt (upd H q o) p F := h.same (same_new (Same.refl H) hq)
def spPool (K : PySem.W.Frag) : Sp := fun vs H Q _ => ∃ (a : Addr) (ns : List Int), vs = [.ref a] ∧ SqL K H a (ns.map V.int) ∧ ns.length ≤ 63 ∧ ∀ p H', Same H H' → H p = none → PoolAt H' p (fun _ => False) → Q (.ref p) H'
theorem ok_pool {f : Addr} {fd : FuncData} (F : Fun K "_law_pool" "_law_pool" s__law_pool f fd) (B : Bl Z mg) : FnOk P w K mg base CX0 1 f fd ["_law_script"] (spPool K) := by
  refine F.ok sc__law_pool (fun vs H Q E h => ?_) (fun cdv A outer s H vs Q E hr h => ?_)
  · obtain ⟨a, ns, rfl, _⟩ := h
    rfl
  · obtain ⟨a, ns, rfl, hS, hl, q⟩ := h
    refine ⟨_, (pss_cons (ps_setLc (i := 1) (own := [("_law_cell", 3)]) rfl sc__law_pool.nd rfl rfl (sw_true rfl rfl rfl (by decide +kernel)) (pi_list (pe_slice (sl_listK (K := K) rfl) (pv 0) po_none (po_some pe_int))) (blkOk_by (N := ["_law_script", "_law_great", "_law_small", "_law_cell"]) (sc := defScope s__law_pool) (by decide +kernel)) (fun _ _ _ _ _ => (pg_name (i := 3) sc__law_pool.nd rfl (Or.inl rfl))) (fun _ _ _ _ _ => (pts_one (pt_cmpR op_ge (pe_callB call_ab (by rfl) B.b_abs (by decide +kernel) (pa_cons (pv 3) pa_nil)) (pe_op op_pow pe_int pe_int) (nomark _)))) (fun _ _ _ _ _ => (pe_callB call_ab (by rfl) B.b_abs (by decide +kernel) (pa_cons (pv 3) pa_nil))))
 (pss_cons (ps_setLc (i := 2) (own := [("_law_cell", 3)]) rfl sc__law_pool.nd rfl rfl (sw_true rfl rfl rfl (by decide +kernel)) (pi_list (pe_slice (sl_listK (K := K) rfl) (pv 0) po_none (po_some pe_int))) (blkOk_by (N := ["_law_script", "_law_great", "_law_small", "_law_cell"]) (sc := defScope s__law_pool) (by decide +kernel)) (fun _ _ _ _ _ => (pg_name (i := 3) sc__law_pool.nd rfl (Or.inl rfl))) (fun _ _ _ _ _ => (pts_one (pt_cmpR op_lt (pe_callB call_ab (by rfl) B.b_abs (by decide +kernel) (pa_cons (pv 3) pa_nil)) (pe_op op_pow pe_int pe_int) (nomark _)))) (fun _ _ _ _ _ => (pe_op op_mod (pe_callTy call_int (by rfl) B.b_int (by decide +kernel) (pa_cons (pv 3) pa_nil)) pe_int)))
 (pss_one (ps_ret (pe_lst (pa_cons (pv 1) (pa_cons (pv 2) (pa_cons pe_int (pa_cons pe_int pa_nil))))))))), ?_⟩
    have fin : ∀ (p1 p2 : Addr) (g z : List Int) H1, Same H H1 → H p1 = none → H p2 = none → H1 p1 = some (.lst (g.map V.int)) → H1 p2 = some (.lst (z.map V.int)) → ∀ p, H1 p = none → Q (.ref p) (upd H1 p (.lst [.ref p1, .ref p2, .int 0, .int 0])) := fun p1 p2 g z H1 s1 n1 n2 e1 e2 p hp => by
      refine q p _ (by walk_at "sm") (s1.free hp) ⟨⟨p1, p2, g, z, 0, 0, upd_same, by walk_at "hu", by walk_at "hu", by walk_at "ne", by walk_at "ne", fun e => e, fun e => e, fun e => e⟩, fun a e => e.elim⟩
    walk_at "h0"
    intro c hc
    refine ⟨c, rfl, ⟨_, SqL.of upd_same⟩, fun D hD => ?_⟩
    have hcD : D ≠ c := by walk_at "ne"
    have nD : H D = none := Same.free (H' := upd H c _) (same_new (Same.refl _) hc) hD
    have hsz : (cutV (ns.map V.int) none (some 63)).length ≤ 63 := Nat.le_trans (cutV_length _ _ _) (by rw [List.length_map]; exact hl)
    have hints : ∀ x ∈ cutV (ns.map V.int) none (some 63), ∃ n : Int, x = .int n := fun x hx => by
      obtain ⟨n, _, rfl⟩ := List.mem_map.mp (List.mem_of_mem_drop (List.mem_of_mem_take hx))
      exact ⟨n, rfl⟩
    refine lc_list (K := K) (a := c) (xs := cutV (ns.map V.int) none (some 63)) (fun i H' => ∃ g : List Int, g.length ≤ i ∧ Same H H' ∧ H' c = some (.lst (cutV (ns.map V.int) none (some 63))) ∧ H' D = some (.lst (g.map V.int)))
      ⟨[], Nat.le_refl _, by walk_at "sm", by walk_at "hu", upd_same⟩ (fun i H' _ ⟨_, _, _, e, _⟩ => SqL.of e) ?_ ?_
    · rintro i x H' hx ⟨g, hg, s', ec, eD⟩
      obtain ⟨n, rfl⟩ := hints x (List.mem_of_getElem? hx)
      walk_at "hs"
      refine ⟨rfl, ?_⟩
      walk_at "hs"
      refine x_isd (fun c1 => ?_) (fun c1 => ?_)
      · walk_at "hs"
        refine ⟨_, eD, szLt (by rw [List.length_map]; have := (List.getElem?_eq_some_iff.mp hx).1; omega), g ++ [if n < 0 then -n else n], by rw [List.length_append]; exact Nat.add_le_add_right hg 1, by walk_at "sm", by walk_at "hu", ?_⟩
        rw [upd_same, List.map_append]
        rfl
      · exact ⟨g, by omega, s', ec, eD⟩
    · rintro H1 ⟨g, hg, s1, ec, eD⟩
      walk_at "hs"
      intro c2 hc2
      have nc2 : H c2 = none := s1.free hc2
      refine ⟨c2, rfl, ⟨_, SqL.of upd_same⟩, fun D2 hD2 => ?_⟩
      have hcD2 : D2 ≠ c2 := by walk_at "ne"
      have nD2 : H D2 = none := s1.free (Same.free (H' := upd H1 c2 _) (same_new (Same.refl _) hc2) hD2)
      have nDD : D ≠ D2 := Ne.symm (ne_none' hD2 (keepN eD hc2))
      refine lc_list (K := K) (a := c2) (xs := cutV (ns.map V.int) none (some 63)) (fun i H' => ∃ z : List Int, z.length ≤ i ∧ Same H H' ∧ H' c2 = some (.lst (cutV (ns.map V.int) none (some 63))) ∧ H' D2 = some (.lst (z.map V.int)) ∧ H' D = some (.lst (g.map V.int)))
        ⟨[], Nat.le_refl _, same_mut (same_mut s1 nc2) nD2, by walk_at "hu", upd_same, by walk_at "hu"⟩ (fun i H' _ ⟨_, _, _, e, _⟩ => SqL.of e) ?_ ?_
      · rintro i x H' hx ⟨z, hz, s', ec, eD2, eD⟩
        obtain ⟨n, rfl⟩ := hints x (List.mem_of_getElem? hx)
        walk_at "hs"
        refine ⟨rfl, ?_⟩
        walk_at "hs"
        refine x_isd (fun c1 => ?_) (fun c1 => ?_)
        · walk_at "hs"
          refine ⟨_, eD2, szLt (by rw [List.length_map]; have := (List.getElem?_eq_some_iff.mp hx).1; omega), z ++ [n % 1000003], by rw [List.length_append]; exact Nat.add_le_add_right hz 1, by walk_at "sm", by walk_at "hu", ?_, by walk_at "hu"⟩
          rw [upd_same, List.map_append]
          rfl
        · exact ⟨z, by omega, s', ec, eD2, eD⟩
      · rintro H2 ⟨z, hz, s2, ec2, eD2, eD⟩
        walk_at "hs"
        exact fun p hp => fin D D2 g z H2 s2 nD nD2 eD eD2 p hp
def spPick (K : PySem.W.Frag) : Sp := fun vs H Q _ => ∃ (p t : Addr) (xs : List V) (F : Addr → Prop), vs = [.ref p, .ref t] ∧ PoolAt H p F ∧ SqL K H t xs ∧ t ≠ p ∧ 0 < xs.length ∧ xs.length ≤ 1000 ∧ ∀ x H', x ∈ xs → But p H H' → PoolAt H' p F → Q x H'
theorem ok_pick {f : Addr} {fd : FuncData} (F : Fun K "_law_pick" "_law_pick" s__law_pick f fd) (B : Bl Z mg) {f__law_draw : Addr} {fd__law_draw : FuncData} (C__law_draw : Cal K mg "_law_draw" f__law_draw fd__law_draw ["_law_pool_here", "_law_many"]) (G__law_draw : FnOk P w K mg base CX0 1 f__law_draw fd__law_draw ["_law_pool_here", "_law_many"] spDraw) : FnOk P w K mg base CX0 2 f fd ["_law_pool_here", "_law_things"] (spPick K) := by
  refine F.ok sc__law_pick (fun vs H Q E h => ?_) (fun cdv A outer s H vs Q E hr h => ?_)
  · obtain ⟨p, t, xs, Fo, rfl, _⟩ := h
    rfl
  · obtain ⟨p, t, xs, Fo, rfl, hp, ht, nt, h0, h1, q⟩ := h
    refine ⟨_, (pss_one (ps_ret (pe_ix (ix_listK (K := K) rfl) (pv 1) (pe_call G__law_draw (hr.mono (by first | decide | omega)) (by rfl) C__law_draw.g C__law_draw.k C__law_draw.b .nil pass0 (pa_cons (pv 0) (pa_cons (pe_callB (call_lenK (K := K) rfl) (by rfl) B.b_len PySem.boot_len (pa_cons (pv 1) pa_nil)) pa_nil))) (fun _ _ => rfl)))), ?_⟩
    walk_at "h0"
    refine ⟨p, _, Fo, rfl, hp, by omega, by omega, fun d H1 d0 d1 b1 p1 => ?_⟩
    obtain ⟨v, hv, hm⟩ := at_lt (xs := xs) d0 d1
    walk_at "hs"
    exact q _ _ hm b1 p1
end
set_option maxRecDepth 100000
set_option maxHeartbeats 1000000
open PySem PySem.Spec L2


theorem sc__law_deep : FnScope ["_law_thing", "_law_turn"] [] (defScope s__law_deep) := ⟨rfl, rfl, rfl, by decide +kernel, rfl, by decide +kernel, by decide +kernel⟩
theorem sc__law_is : FnScope ["_law_told", "_law_due", "_law_at", "_law_key"] ["_law_told", "_law_due"] (defScope s__law_is) := ⟨rfl, rfl, rfl, by decide +kernel, rfl, by decide +kernel, by decide +kernel⟩
section
variable {P : Program} {w : World} {K : PySem.W.Frag} {mg : Str → Option Value} {base : Heap} {Z : Ad}

theorem fnF {f : Addr} {fd : FuncData} {ps : List Str} : FnOk P w K mg base CX0 1 f fd ps (fun _ _ _ _ => False) := ⟨fun _ _ _ _ h => h.elim, fun _ _ _ _ _ _ _ _ _ _ _ _ _ h => h.elim⟩
theorem is_sca {f : Addr} {fd : FuncData} (F : Fun K "_law_is" "_law_is" s__law_is f fd) (B : Bl Z mg) {x : V} {cdv : Value} {A : Around} {outer : List Env} {s : Shared} {H : Hp} {Q : VK} {E : XK} {j : Nat} (G__law_is : FnOk P w K mg base CX0 1 f fd ["_law_told", "_law_due"] (fun _ _ _ _ => False)) (C__law_is : Cal K mg "_law_is" f fd ["_law_told", "_law_due"]) (hs : sca x = true) (q : ∀ H', Same H H' → Q (.bl true) H') (hr : Room (j + 1) (A.deeper (PyProof.Rows.envOfC "_law_is" (defScope s__law_is) s.heap.objs.size f cdv))) :
    ∃ t, PSs (cxOf CX0 P w K mg base ["_law_told", "_law_due", "_law_at", "_law_key"] "_law_is" (defScope s__law_is) f cdv A outer s H E).nox (defBody s__law_is) t ∧ t { nx := fun _ H' => Q .non H', rt := Q } (L2.start ["_law_told", "_law_due", "_law_at", "_law_key"] [x, x]) H := by
  refine ⟨_, (pss_cons (ps_if (pt_val (pe_callB (call_isiTK (K := K) rfl) (by rfl) B.b_isinstance (by decide +kernel) (pa_cons (pv 1) (pa_cons (pe_tup (pa_cons (pe_bltn (v := .ty "tuple") (by rfl) B.b_tuple (by decide +kernel) rfl) (pa_cons (pe_bltn (v := .ty "list") (by rfl) B.b_list (by decide +kernel) rfl) pa_nil))) pa_nil)))) (pss_cons (ps_if (PW.pt (pw_or (pt_cmpR op_ne (pe_callB (call_isiK' (K := K) rfl) (by rfl) B.b_isinstance (by decide +kernel) (pa_cons (pv 0) (pa_cons (pe_bltn (v := .ty "tuple") (by rfl) B.b_tuple (by decide +kernel) rfl) pa_nil))) (pe_callB (call_isiK' (K := K) rfl) (by rfl) B.b_isinstance (by decide +kernel) (pa_cons (pv 1) (pa_cons (pe_bltn (v := .ty "tuple") (by rfl) B.b_tuple (by decide +kernel) rfl) pa_nil))) (nomark _)) (pw_or1 (pt_cmpR op_ne (pe_callB (call_isiK' (K := K) rfl) (by rfl) B.b_isinstance (by decide +kernel) (pa_cons (pv 0) (pa_cons (pe_bltn (v := .ty "list") (by rfl) B.b_list (by decide +kernel) rfl) pa_nil))) (pe_callB (call_isiK' (K := K) rfl) (by rfl) B.b_isinstance (by decide +kernel) (pa_cons (pv 1) (pa_cons (pe_bltn (v := .ty "list") (by rfl) B.b_list (by decide +kernel) rfl) pa_nil))) (nomark _))))) (pss_one (ps_ret pe_bl)) pss_nil)
 (pss_one (ps_ret (pe_and (pe_cmpR op_eq (pe_callB (call_lenK (K := K) rfl) (by rfl) B.b_len PySem.boot_len (pa_cons (pv 0) pa_nil)) (pe_callB (call_lenK (K := K) rfl) (by rfl) B.b_len PySem.boot_len (pa_cons (pv 1) pa_nil)) (nomark _)) (pe_one (pe_callB (cr_allK (K := K) rfl rfl) (by rfl) B.b_all (by decide +kernel) (pa_cons (pe_lc (own := [("_law_at", 2)]) rfl sc__law_is.nd (pi_range1 rfl B.b_range (pa_cons (pe_callB (call_lenK (K := K) rfl) (by rfl) B.b_len PySem.boot_len (pa_cons (pv 1) pa_nil)) pa_nil)) (blkOk_by (N := ["_law_told", "_law_due", "_law_at", "_law_key"]) (sc := defScope s__law_is) (by decide +kernel)) (fun _ _ _ _ _ => (pg_name (i := 2) sc__law_is.nd rfl (Or.inl rfl))) (fun _ _ _ _ _ => pts_nil) (fun _ _ _ _ _ => (pe_call G__law_is (hr.mono (by first | decide | omega)) (by rfl) C__law_is.g C__law_is.k C__law_is.b .nil pass0 (pa_cons (pe_ix (ix_seqK (K := K) rfl) (pv 0) (pv 2) (fun _ _ => rfl)) (pa_cons (pe_ix (ix_seqK (K := K) rfl) (pv 1) (pv 2) (fun _ _ => rfl)) pa_nil))))) pa_nil))))))) pss_nil)
 (pss_cons (ps_if (pt_val (pe_callB (call_isiK' (K := K) rfl) (by rfl) B.b_isinstance (by decide +kernel) (pa_cons (pv 1) (pa_cons (pe_bltn (v := .ty "dict") (by rfl) B.b_dict (by decide +kernel) rfl) pa_nil)))) pss_never pss_nil)
 (pss_cons (ps_if (pt_cmpR op_isNk (pv 1) pe_non (nomark _)) (pss_one (ps_ret (pe_cmpR op_isNk (pv 0) pe_non (nomark _)))) pss_nil)
 (pss_one (ps_ret (pe_and (pe_cmpR op_eq (pe_callB (call_isiK' (K := K) rfl) (by rfl) B.b_isinstance (by decide +kernel) (pa_cons (pv 0) (pa_cons (pe_bltn (v := .ty "bool") (by rfl) B.b_bool (by decide +kernel) rfl) pa_nil))) (pe_callB (call_isiK' (K := K) rfl) (by rfl) B.b_isinstance (by decide +kernel) (pa_cons (pv 1) (pa_cons (pe_bltn (v := .ty "bool") (by rfl) B.b_bool (by decide +kernel) rfl) pa_nil))) (nomark _)) (pe_and (pe_cmpR op_notNk (pv 0) pe_non (nomark _)) (pe_one (pe_cmpR op_eq (pv 0) (pv 1) (nomark _)))))))))), ?_⟩
  walk_at "h0"
  intro p hp
  walk_at "hs"
  cases x with
  | non =>
    refine x_isiTn (t := "NoneType") upd_same (.base .non) (by decide +kernel) (by decide +kernel) ?_
    walk_at "hs"
    exact q _ (by walk_at "sm")
  | bl b =>
    refine x_isiTn (t := "bool") upd_same (.base (.bl b)) (by decide +kernel) (by decide +kernel) ?_
    walk_at "hs"
    rw [decide_eq_true rfl]
    exact q _ (by walk_at "sm")
  | int i =>
    refine x_isiTn (t := "int") upd_same (.base (.int i)) (by decide +kernel) (by decide +kernel) ?_
    walk_at "hs"
    rw [decide_eq_true rfl]
    exact q _ (by walk_at "sm")
  | str i =>
    refine x_isiTn (t := "str") upd_same (.base (.str i)) (by decide +kernel) (by decide +kernel) ?_
    walk_at "hs"
    rw [decide_eq_true rfl]
    exact q _ (by walk_at "sm")
  | _ => cases hs
end
set_option maxRecDepth 100000
set_option maxHeartbeats 4000000
open PySem PySem.Spec L2


section
variable {P : Program} {w : World} {K : PySem.W.Frag} {mg : Str → Option Value} {base : Heap} {Z : Ad}
def spIsR (n : Nat) : Sp := fun vs H Q _ => ∃ x : V, vs = [x, x] ∧ Rx H n x ∧ ∀ H', Same H H' → Q (.bl true) H'
theorem ok_isR {f : Addr} {fd : FuncData} (F : Fun K "_law_is" "_law_is" s__law_is f fd) (B : Bl Z mg) (C__law_is : Cal K mg "_law_is" f fd ["_law_told", "_law_due"]) : ∀ n, FnOk P w K mg base CX0 (n + 2) f fd ["_law_told", "_law_due"] (spIsR n)
  | 0 => by
    refine F.ok sc__law_is (fun vs H Q E h => ?_) (fun cdv A outer s H vs Q E hr h => ?_)
    · obtain ⟨x, rfl, _⟩ := h
      rfl
    · obtain ⟨x, rfl, hs, q⟩ := h
      exact is_sca F B fnF C__law_is hs q hr
  | n + 1 => by
    have G__law_is := ok_isR F B C__law_is n
    refine F.ok sc__law_is (fun vs H Q E h => ?_) (fun cdv A outer s H vs Q E hr h => ?_)
    · obtain ⟨x, rfl, _⟩ := h
      rfl
    · obtain ⟨x, rfl, hal, q⟩ := h
      rcases hal with hs | ⟨a, xs, rfl, ha, hsz, hal⟩ | ⟨a, ke, va, rfl, ha, hs⟩
      · exact is_sca F B fnF C__law_is hs q hr
      · rcases ha with ha | ha
        all_goals refine ⟨_, (pss_cons (ps_if (pt_val (pe_callB (call_isiTK (K := K) rfl) (by rfl) B.b_isinstance (by decide +kernel) (pa_cons (pv 1) (pa_cons (pe_tup (pa_cons (pe_bltn (v := .ty "tuple") (by rfl) B.b_tuple (by decide +kernel) rfl) (pa_cons (pe_bltn (v := .ty "list") (by rfl) B.b_list (by decide +kernel) rfl) pa_nil))) pa_nil)))) (pss_cons (ps_if (PW.pt (pw_or (pt_cmpR op_ne (pe_callB (call_isiK' (K := K) rfl) (by rfl) B.b_isinstance (by decide +kernel) (pa_cons (pv 0) (pa_cons (pe_bltn (v := .ty "tuple") (by rfl) B.b_tuple (by decide +kernel) rfl) pa_nil))) (pe_callB (call_isiK' (K := K) rfl) (by rfl) B.b_isinstance (by decide +kernel) (pa_cons (pv 1) (pa_cons (pe_bltn (v := .ty "tuple") (by rfl) B.b_tuple (by decide +kernel) rfl) pa_nil))) (nomark _)) (pw_or1 (pt_cmpR op_ne (pe_callB (call_isiK' (K := K) rfl) (by rfl) B.b_isinstance (by decide +kernel) (pa_cons (pv 0) (pa_cons (pe_bltn (v := .ty "list") (by rfl) B.b_list (by decide +kernel) rfl) pa_nil))) (pe_callB (call_isiK' (K := K) rfl) (by rfl) B.b_isinstance (by decide +kernel) (pa_cons (pv 1) (pa_cons (pe_bltn (v := .ty "list") (by rfl) B.b_list (by decide +kernel) rfl) pa_nil))) (nomark _))))) (pss_one (ps_ret pe_bl)) pss_nil)
 (pss_one (ps_ret (pe_and (pe_cmpR op_eq (pe_callB (call_lenK (K := K) rfl) (by rfl) B.b_len PySem.boot_len (pa_cons (pv 0) pa_nil)) (pe_callB (call_lenK (K := K) rfl) (by rfl) B.b_len PySem.boot_len (pa_cons (pv 1) pa_nil)) (nomark _)) (pe_one (pe_callB (cr_allK (K := K) rfl rfl) (by rfl) B.b_all (by decide +kernel) (pa_cons (pe_lc (own := [("_law_at", 2)]) rfl sc__law_is.nd (pi_range1 rfl B.b_range (pa_cons (pe_callB (call_lenK (K := K) rfl) (by rfl) B.b_len PySem.boot_len (pa_cons (pv 1) pa_nil)) pa_nil)) (blkOk_by (N := ["_law_told", "_law_due", "_law_at", "_law_key"]) (sc := defScope s__law_is) (by decide +kernel)) (fun _ _ _ _ _ => (pg_name (i := 2) sc__law_is.nd rfl (Or.inl rfl))) (fun _ _ _ _ _ => pts_nil) (fun _ _ _ _ _ => (pe_call G__law_is (hr.mono (by first | decide | omega)) (by rfl) C__law_is.g C__law_is.k C__law_is.b .nil pass0 (pa_cons (pe_ix (ix_seqK (K := K) rfl) (pv 0) (pv 2) (fun _ _ => rfl)) (pa_cons (pe_ix (ix_seqK (K := K) rfl) (pv 1) (pv 2) (fun _ _ => rfl)) pa_nil))))) pa_nil))))))) pss_nil)
 (pss_cons (ps_if (pt_val (pe_callB (call_isiK' (K := K) rfl) (by rfl) B.b_isinstance (by decide +kernel) (pa_cons (pv 1) (pa_cons (pe_bltn (v := .ty "dict") (by rfl) B.b_dict (by decide +kernel) rfl) pa_nil)))) (pss_cons (ps_if (PW.pt (pw_or (pt_not (pt_val (pe_callB (call_isiK' (K := K) rfl) (by rfl) B.b_isinstance (by decide +kernel) (pa_cons (pv 0) (pa_cons (pe_bltn (v := .ty "dict") (by rfl) B.b_dict (by decide +kernel) rfl) pa_nil))))) (pw_or (pt_cmpR op_ne (pe_callB call_lenD (by rfl) B.b_len PySem.boot_len (pa_cons (pv 0) pa_nil)) (pe_callB call_lenD (by rfl) B.b_len PySem.boot_len (pa_cons (pv 1) pa_nil)) (nomark _)) (pw_or1 (pt_not (pt_val (pe_lock (pe_callB (cr_allK (K := K) rfl rfl) (by rfl) B.b_all (by decide +kernel) (pa_cons (pe_lc (own := [("_law_key", 3)]) rfl sc__law_is.nd (pi_keys (pv 1)) (blkOk_by (N := ["_law_told", "_law_due", "_law_at", "_law_key"]) (sc := defScope s__law_is) (by decide +kernel)) (fun _ _ _ _ _ => (pg_name (i := 3) sc__law_is.nd rfl (Or.inl rfl))) (fun _ _ _ _ _ => pts_nil) (fun _ _ _ _ _ => (pe_cmp (pc_din (units1 hr) (pv 3) (pv 0))))) pa_nil))))))))) (pss_one (ps_ret pe_bl)) pss_nil)
 (pss_one (ps_ret (pe_lock (pe_callB (cr_allK (K := K) rfl rfl) (by rfl) B.b_all (by decide +kernel) (pa_cons (pe_lc (own := [("_law_key", 3)]) rfl sc__law_is.nd (pi_keys (pv 1)) (blkOk_by (N := ["_law_told", "_law_due", "_law_at", "_law_key"]) (sc := defScope s__law_is) (by decide +kernel)) (fun _ _ _ _ _ => (pg_name (i := 3) sc__law_is.nd rfl (Or.inl rfl))) (fun _ _ _ _ _ => pts_nil) (fun _ _ _ _ _ => (pe_call G__law_is (hr.mono (by first | decide | omega)) (by rfl) C__law_is.g C__law_is.k C__law_is.b .nil pass0 (pa_cons (pe_dget (units1 hr) (pv 0) (pv 3) (fun _ _ => rfl)) (pa_cons (pe_dget (units1 hr) (pv 1) (pv 3) (fun _ _ => rfl)) pa_nil))))) pa_nil)))))) pss_nil)
 (pss_cons (ps_if (pt_cmpR op_isNk (pv 1) pe_non (nomark _)) (pss_one (ps_ret (pe_cmpR op_isNk (pv 0) pe_non (nomark _)))) pss_nil)
 (pss_one (ps_ret (pe_and (pe_cmpR op_eq (pe_callB (call_isiK' (K := K) rfl) (by rfl) B.b_isinstance (by decide +kernel) (pa_cons (pv 0) (pa_cons (pe_bltn (v := .ty "bool") (by rfl) B.b_bool (by decide +kernel) rfl) pa_nil))) (pe_callB (call_isiK' (K := K) rfl) (by rfl) B.b_isinstance (by decide +kernel) (pa_cons (pv 1) (pa_cons (pe_bltn (v := .ty "bool") (by rfl) B.b_bool (by decide +kernel) rfl) pa_nil))) (nomark _)) (pe_and (pe_cmpR op_notNk (pv 0) pe_non (nomark _)) (pe_one (pe_cmpR op_eq (pv 0) (pv 1) (nomark _)))))))))), ?_⟩
        all_goals walk_at "h0"
        all_goals intro p hp
        all_goals walk_at "hs"
        · refine x_isiTb (t := "list") upd_same (.base (.lst (by walk_at "hu"))) (by decide +kernel) (by decide +kernel) ?_
          walk_at "hs"
          refine ⟨(xs.length : Int), rfl, by omega, by have := hsz; omega, fun D hD => ?_⟩
          have nD : H D = none := Same.free (H' := upd H p _) (same_new (Same.refl _) hp) hD
          refine lc_range (lo := 0) (n := Int.toNat xs.length) (fun i H' => Same H H' ∧ H' D = some (.lst ((List.replicate i true).map V.bl)))
            ⟨by walk_at "sm", upd_same⟩ ?_ ?_
          · rintro i H' hi ⟨s1, eD⟩
            have h1 : i < xs.length := by omega
            have a1 : atI xs (0 + (i : Int)) = some xs[i] := by
              rw [Int.zero_add]
              exact atI_nat (List.getElem?_eq_getElem h1)
            have ha' := s1 _ _ ha
            walk_at "hs"
            refine ⟨rfl, ?_⟩
            walk_at "hs"
            refine ⟨_, rfl, (hal _ (List.getElem_mem h1)).same s1, fun H2 s2 => ?_⟩
            refine ⟨_, s2 _ _ eD, szLt (by rw [List.length_map, List.length_replicate]; have := hsz; omega), by walk_at "sm", ?_⟩
            rw [upd_same, List.replicate_succ', List.map_append]
            rfl
          · rintro H' ⟨s1, eD⟩
            walk_at "hs"
            refine ⟨D, _, rfl, SqL.of eD, ?_⟩
            rw [show (List.replicate (Int.toNat (xs.length : Int)) true).all id = true by simp]
            exact q _ (by walk_at "sm")
        · refine x_isiT1 (t := "tuple") upd_same (.base (.tup (by walk_at "hu"))) (by decide +kernel) (by decide +kernel) ?_
          walk_at "hs"
          refine ⟨(xs.length : Int), rfl, by omega, by have := hsz; omega, fun D hD => ?_⟩
          have nD : H D = none := Same.free (H' := upd H p _) (same_new (Same.refl _) hp) hD
          refine lc_range (lo := 0) (n := Int.toNat xs.length) (fun i H' => Same H H' ∧ H' D = some (.lst ((List.replicate i true).map V.bl)))
            ⟨by walk_at "sm", upd_same⟩ ?_ ?_
          · rintro i H' hi ⟨s1, eD⟩
            have h1 : i < xs.length := by omega
            have a1 : atI xs (0 + (i : Int)) = some xs[i] := by
              rw [Int.zero_add]
              exact atI_nat (List.getElem?_eq_getElem h1)
            have ha' := s1 _ _ ha
            walk_at "hs"
            refine ⟨rfl, ?_⟩
            walk_at "hs"
            refine ⟨_, rfl, (hal _ (List.getElem_mem h1)).same s1, fun H2 s2 => ?_⟩
            refine ⟨_, s2 _ _ eD, szLt (by rw [List.length_map, List.length_replicate]; have := hsz; omega), by walk_at "sm", ?_⟩
            rw [upd_same, List.replicate_succ', List.map_append]
            rfl
          · rintro H' ⟨s1, eD⟩
            walk_at "hs"
            refine ⟨D, _, rfl, SqL.of eD, ?_⟩
            rw [show (List.replicate (Int.toNat (xs.length : Int)) true).all id = true by simp]
            exact q _ (by walk_at "sm")
      · refine ⟨_, (pss_cons (ps_if (pt_val (pe_callB (call_isiTK (K := K) rfl) (by rfl) B.b_isinstance (by decide +kernel) (pa_cons (pv 1) (pa_cons (pe_tup (pa_cons (pe_bltn (v := .ty "tuple") (by rfl) B.b_tuple (by decide +kernel) rfl) (pa_cons (pe_bltn (v := .ty "list") (by rfl) B.b_list (by decide +kernel) rfl) pa_nil))) pa_nil)))) (pss_cons (ps_if (PW.pt (pw_or (pt_cmpR op_ne (pe_callB (call_isiK' (K := K) rfl) (by rfl) B.b_isinstance (by decide +kernel) (pa_cons (pv 0) (pa_cons (pe_bltn (v := .ty "tuple") (by rfl) B.b_tuple (by decide +kernel) rfl) pa_nil))) (pe_callB (call_isiK' (K := K) rfl) (by rfl) B.b_isinstance (by decide +kernel) (pa_cons (pv 1) (pa_cons (pe_bltn (v := .ty "tuple") (by rfl) B.b_tuple (by decide +kernel) rfl) pa_nil))) (nomark _)) (pw_or1 (pt_cmpR op_ne (pe_callB (call_isiK' (K := K) rfl) (by rfl) B.b_isinstance (by decide +kernel) (pa_cons (pv 0) (pa_cons (pe_bltn (v := .ty "list") (by rfl) B.b_list (by decide +kernel) rfl) pa_nil))) (pe_callB (call_isiK' (K := K) rfl) (by rfl) B.b_isinstance (by decide +kernel) (pa_cons (pv 1) (pa_cons (pe_bltn (v := .ty "list") (by rfl) B.b_list (by decide +kernel) rfl) pa_nil))) (nomark _))))) (pss_one (ps_ret pe_bl)) pss_nil)
 (pss_one (ps_ret (pe_and (pe_cmpR op_eq (pe_callB (call_lenK (K := K) rfl) (by rfl) B.b_len PySem.boot_len (pa_cons (pv 0) pa_nil)) (pe_callB (call_lenK (K := K) rfl) (by rfl) B.b_len PySem.boot_len (pa_cons (pv 1) pa_nil)) (nomark _)) (pe_one (pe_callB (cr_allK (K := K) rfl rfl) (by rfl) B.b_all (by decide +kernel) (pa_cons (pe_lc (own := [("_law_at", 2)]) rfl sc__law_is.nd (pi_range1 rfl B.b_range (pa_cons (pe_callB (call_lenK (K := K) rfl) (by rfl) B.b_len PySem.boot_len (pa_cons (pv 1) pa_nil)) pa_nil)) (blkOk_by (N := ["_law_told", "_law_due", "_law_at", "_law_key"]) (sc := defScope s__law_is) (by decide +kernel)) (fun _ _ _ _ _ => (pg_name (i := 2) sc__law_is.nd rfl (Or.inl rfl))) (fun _ _ _ _ _ => pts_nil) (fun _ _ _ _ _ => (pe_call G__law_is (hr.mono (by first | decide | omega)) (by rfl) C__law_is.g C__law_is.k C__law_is.b .nil pass0 (pa_cons (pe_ix (ix_seqK (K := K) rfl) (pv 0) (pv 2) (fun _ _ => rfl)) (pa_cons (pe_ix (ix_seqK (K := K) rfl) (pv 1) (pv 2) (fun _ _ => rfl)) pa_nil))))) pa_nil))))))) pss_nil)
 (pss_cons (ps_if (pt_val (pe_callB (call_isiK' (K := K) rfl) (by rfl) B.b_isinstance (by decide +kernel) (pa_cons (pv 1) (pa_cons (pe_bltn (v := .ty "dict") (by rfl) B.b_dict (by decide +kernel) rfl) pa_nil)))) (pss_cons (ps_if (PW.pt (pw_or (pt_not (pt_val (pe_callB (call_isiK' (K := K) rfl) (by rfl) B.b_isinstance (by decide +kernel) (pa_cons (pv 0) (pa_cons (pe_bltn (v := .ty "dict") (by rfl) B.b_dict (by decide +kernel) rfl) pa_nil))))) (pw_or (pt_cmpR op_ne (pe_callB call_lenD (by rfl) B.b_len PySem.boot_len (pa_cons (pv 0) pa_nil)) (pe_callB call_lenD (by rfl) B.b_len PySem.boot_len (pa_cons (pv 1) pa_nil)) (nomark _)) (pw_or1 (pt_not (pt_val (pe_lock (pe_callB (cr_allK (K := K) rfl rfl) (by rfl) B.b_all (by decide +kernel) (pa_cons (pe_lc (own := [("_law_key", 3)]) rfl sc__law_is.nd (pi_keys (pv 1)) (blkOk_by (N := ["_law_told", "_law_due", "_law_at", "_law_key"]) (sc := defScope s__law_is) (by decide +kernel)) (fun _ _ _ _ _ => (pg_name (i := 3) sc__law_is.nd rfl (Or.inl rfl))) (fun _ _ _ _ _ => pts_nil) (fun _ _ _ _ _ => (pe_cmp (pc_din (units1 hr) (pv 3) (pv 0))))) pa_nil))))))))) (pss_one (ps_ret pe_bl)) pss_nil)
 (pss_one (ps_ret (pe_lock (pe_callB (cr_allK (K := K) rfl rfl) (by rfl) B.b_all (by decide +kernel) (pa_cons (pe_lc (own := [("_law_key", 3)]) rfl sc__law_is.nd (pi_keys (pv 1)) (blkOk_by (N := ["_law_told", "_law_due", "_law_at", "_law_key"]) (sc := defScope s__law_is) (by decide +kernel)) (fun _ _ _ _ _ => (pg_name (i := 3) sc__law_is.nd rfl (Or.inl rfl))) (fun _ _ _ _ _ => pts_nil) (fun _ _ _ _ _ => (pe_call G__law_is (hr.mono (by first | decide | omega)) (by rfl) C__law_is.g C__law_is.k C__law_is.b .nil pass0 (pa_cons (pe_dget (units1 hr) (pv 0) (pv 3) (fun _ _ => rfl)) (pa_cons (pe_dget (units1 hr) (pv 1) (pv 3) (fun _ _ => rfl)) pa_nil))))) pa_nil)))))) pss_nil)
 (pss_cons (ps_if (pt_cmpR op_isNk (pv 1) pe_non (nomark _)) (pss_one (ps_ret (pe_cmpR op_isNk (pv 0) pe_non (nomark _)))) pss_nil)
 (pss_one (ps_ret (pe_and (pe_cmpR op_eq (pe_callB (call_isiK' (K := K) rfl) (by rfl) B.b_isinstance (by decide +kernel) (pa_cons (pv 0) (pa_cons (pe_bltn (v := .ty "bool") (by rfl) B.b_bool (by decide +kernel) rfl) pa_nil))) (pe_callB (call_isiK' (K := K) rfl) (by rfl) B.b_isinstance (by decide +kernel) (pa_cons (pv 1) (pa_cons (pe_bltn (v := .ty "bool") (by rfl) B.b_bool (by decide +kernel) rfl) pa_nil))) (nomark _)) (pe_and (pe_cmpR op_notNk (pv 0) pe_non (nomark _)) (pe_one (pe_cmpR op_eq (pv 0) (pv 1) (nomark _)))))))))), ?_⟩
        walk_at "h0"
        intro p hp
        walk_at "hs"
        refine x_isiTn (t := "dict") upd_same (.base (.dK (by walk_at "hu"))) (by decide +kernel) (by decide +kernel) ?_
        walk_at "hs"
        have haP : ∀ o', upd H p o' a = some (.dK [(ke, va)]) := fun o' => by walk_at "hu"
        refine ⟨a, _, rfl, haP _, ?_⟩
        walk_at "hs"
        refine ⟨a, _, rfl, haP _, ?_⟩
        walk_at "hs"
        refine x_isdF (by simp) ?_
        walk_at "hs"
        refine x_lock (d := a) (haP _) trivial fun od => ?_
        walk_at "hs"
        refine x_keysV (d := a) (o := od) (kvs := [(ke, va)]) rfl upd_same fun D hD => ?_
        refine lc_keys (fun i G => Same (upd (upd H p (.tup [.ty "tuple", .ty "list"])) a (.frz od (.dK [(ke, va)]))) G ∧ G D = some (.lst ((List.replicate i true).map V.bl))) ⟨same_new (Same.refl _) hD, upd_same⟩ (fun i G q => q.1 _ _ upd_same) ?_ ?_
        · rintro i k v G hi ⟨s1, eD⟩
          have fr := s1 _ _ upd_same
          match i, hi with
          | 0, hi =>
            cases hi
            walk_at "hs"
            refine ⟨rfl, ?_⟩
            walk_at "hs"
            refine x_din ?_
            walk_at "hs"
            refine ⟨a, some va, rfl, .inl ⟨_, ke, .inr ⟨od, fr⟩, rfl, one_val.symm⟩, ?_⟩
            refine ⟨_, eD, szLt (by decide), same_mut s1 hD, ?_⟩
            rw [upd_same]
            rfl
          | i + 1, hi => cases hi
        · rintro G ⟨s1, eD⟩
          walk_at "hs"
          refine ⟨D, [true], rfl, SqL.of eD, ?_⟩
          refine ⟨s1 _ _ upd_same, ?_⟩
          have s2 : Same H (upd G a (.dK [(ke, va)])) := (same_new (Same.refl _) hp).trans (same_unlock (haP _) s1)
          walk_at "hs"
          refine x_lock (d := a) upd_same trivial fun od2 => ?_
          walk_at "hs"
          refine x_keysV (d := a) (o := od2) (kvs := [(ke, va)]) rfl upd_same fun D2 hD2 => ?_
          refine lc_keys (fun i G2 => Same (upd (upd G a (.dK [(ke, va)])) a (.frz od2 (.dK [(ke, va)]))) G2 ∧ G2 D2 = some (.lst ((List.replicate i true).map V.bl))) ⟨same_new (Same.refl _) hD2, upd_same⟩ (fun i G q => q.1 _ _ upd_same) ?_ ?_
          · rintro i k v G2 hi ⟨s3, eD2⟩
            have fr := s3 _ _ upd_same
            match i, hi with
            | 0, hi =>
              cases hi
              walk_at "hs"
              refine ⟨rfl, ?_⟩
              walk_at "hs"
              refine x_dget ?_
              walk_at "hs"
              refine ⟨a, va, rfl, .inl ⟨_, ke, .inr ⟨od2, fr⟩, rfl, one_val.symm⟩, ?_⟩
              walk_at "hs"
              refine x_dget ?_
              walk_at "hs"
              refine ⟨a, va, rfl, .inl ⟨_, ke, .inr ⟨od2, fr⟩, rfl, one_val.symm⟩, ?_⟩
              walk_at "hs"
              refine ⟨va, rfl, Rx.sca hs, fun H2 s4 => ?_⟩
              refine ⟨_, s4 _ _ eD2, szLt (by decide), ?_, ?_⟩
              · exact same_mut (Same.trans s3 s4) hD2
              · rw [upd_same]
                rfl
            | i + 1, hi => cases hi
          · rintro G2 ⟨s3, eD2⟩
            walk_at "hs"
            refine ⟨D2, [true], rfl, SqL.of eD2, ?_⟩
            refine ⟨s3 _ _ upd_same, ?_⟩
            exact q _ (s2.trans (same_unlock upd_same s3))
end
set_option maxRecDepth 100000
set_option maxHeartbeats 1000000
open PySem PySem.Spec L2


theorem sc_BadTree___init__ : FnScope ["self", "part"] ["self", "part"] (defScope s_BadTree___init__) := ⟨rfl, rfl, rfl, by decide +kernel, rfl, by decide +kernel, by decide +kernel⟩
theorem sc_BadPicture___init__ : FnScope ["self", "part"] ["self", "part"] (defScope s_BadPicture___init__) := ⟨rfl, rfl, rfl, by decide +kernel, rfl, by decide +kernel, by decide +kernel⟩
theorem sc_TooMany___init__ : FnScope ["self", "most"] ["self", "most"] (defScope s_TooMany___init__) := ⟨rfl, rfl, rfl, by decide +kernel, rfl, by decide +kernel, by decide +kernel⟩
theorem sc_BadWords___init__ : FnScope ["self", "part"] ["self", "part"] (defScope s_BadWords___init__) := ⟨rfl, rfl, rfl, by decide +kernel, rfl, by decide +kernel, by decide +kernel⟩
theorem sc_BadHistory___init__ : FnScope ["self", "part"] ["self", "part"] (defScope s_BadHistory___init__) := ⟨rfl, rfl, rfl, by decide +kernel, rfl, by decide +kernel, by decide +kernel⟩
theorem sc_RingTold___init__ : FnScope ["self", "blocks"] ["self", "blocks"] (defScope s_RingTold___init__) := ⟨rfl, rfl, rfl, by decide +kernel, rfl, by decide +kernel, by decide +kernel⟩
theorem sc_NameTwice___init__ : FnScope ["self", "place", "name"] ["self", "place", "name"] (defScope s_NameTwice___init__) := ⟨rfl, rfl, rfl, by decide +kernel, rfl, by decide +kernel, by decide +kernel⟩
theorem sc_BadBody___init__ : FnScope ["self", "block"] ["self", "block"] (defScope s_BadBody___init__) := ⟨rfl, rfl, rfl, by decide +kernel, rfl, by decide +kernel, by decide +kernel⟩
theorem sc_NoPath___init__ : FnScope ["self", "path"] ["self", "path"] (defScope s_NoPath___init__) := ⟨rfl, rfl, rfl, by decide +kernel, rfl, by decide +kernel, by decide +kernel⟩
theorem sc_NotThere___init__ : FnScope ["self", "path"] ["self", "path"] (defScope s_NotThere___init__) := ⟨rfl, rfl, rfl, by decide +kernel, rfl, by decide +kernel, by decide +kernel⟩
theorem sc_NotFolder___init__ : FnScope ["self", "path"] ["self", "path"] (defScope s_NotFolder___init__) := ⟨rfl, rfl, rfl, by decide +kernel, rfl, by decide +kernel, by decide +kernel⟩
theorem sc_NotFile___init__ : FnScope ["self", "path"] ["self", "path"] (defScope s_NotFile___init__) := ⟨rfl, rfl, rfl, by decide +kernel, rfl, by decide +kernel, by decide +kernel⟩
theorem sc_TakenPath___init__ : FnScope ["self", "path"] ["self", "path"] (defScope s_TakenPath___init__) := ⟨rfl, rfl, rfl, by decide +kernel, rfl, by decide +kernel, by decide +kernel⟩
theorem sc_NotEmpty___init__ : FnScope ["self", "path"] ["self", "path"] (defScope s_NotEmpty___init__) := ⟨rfl, rfl, rfl, by decide +kernel, rfl, by decide +kernel, by decide +kernel⟩
theorem sc_BadText___init__ : FnScope ["self", "line"] ["self", "line"] (defScope s_BadText___init__) := ⟨rfl, rfl, rfl, by decide +kernel, rfl, by decide +kernel, by decide +kernel⟩
theorem sc_BadBook___init__ : FnScope ["self", "path"] ["self", "path"] (defScope s_BadBook___init__) := ⟨rfl, rfl, rfl, by decide +kernel, rfl, by decide +kernel, by decide +kernel⟩
theorem sc_NotKept___init__ : FnScope ["self", "name"] ["self", "name"] (defScope s_NotKept___init__) := ⟨rfl, rfl, rfl, by decide +kernel, rfl, by decide +kernel, by decide +kernel⟩
section
variable {P : Program} {w : World} {K : PySem.W.Frag} {mg : Str → Option Value} {base : Heap} {Z : Ad}
theorem oi_BadTree {f : Addr} {fd : FuncData} (F : Fun K "__init__" "BadTree.__init__" s_BadTree___init__ f fd) (X_BadTree : ExcF K Z.a_BadTree f "part") : FnOk P w K mg base CX0 1 f fd ["self", "part"] (spField Z.a_BadTree "part") := by
  refine F.ok sc_BadTree___init__ (fun vs H Q E h => ?_) (fun cdv A outer s H vs Q E hr h => ?_)
  · obtain ⟨a, v, rfl, _⟩ := h
    rfl
  · obtain ⟨a, v, rfl, ha, q⟩ := h
    refine ⟨_, (pss_one (ps_ost (pv 0) (pv 1))), ?_⟩
    walk_at "h0"
    exact ⟨a, _, rfl, X_BadTree.T, X_BadTree.n, .inl ⟨ha, q⟩⟩
theorem oi_BadPicture {f : Addr} {fd : FuncData} (F : Fun K "__init__" "BadPicture.__init__" s_BadPicture___init__ f fd) (X_BadPicture : ExcF K Z.a_BadPicture f "part") : FnOk P w K mg base CX0 1 f fd ["self", "part"] (spField Z.a_BadPicture "part") := by
  refine F.ok sc_BadPicture___init__ (fun vs H Q E h => ?_) (fun cdv A outer s H vs Q E hr h => ?_)
  · obtain ⟨a, v, rfl, _⟩ := h
    rfl
  · obtain ⟨a, v, rfl, ha, q⟩ := h
    refine ⟨_, (pss_one (ps_ost (pv 0) (pv 1))), ?_⟩
    walk_at "h0"
    exact ⟨a, _, rfl, X_BadPicture.T, X_BadPicture.n, .inl ⟨ha, q⟩⟩
theorem oi_TooMany {f : Addr} {fd : FuncData} (F : Fun K "__init__" "TooMany.__init__" s_TooMany___init__ f fd) (X_TooMany : ExcF K Z.a_TooMany f "most") : FnOk P w K mg base CX0 1 f fd ["self", "most"] (spField Z.a_TooMany "most") := by
  refine F.ok sc_TooMany___init__ (fun vs H Q E h => ?_) (fun cdv A outer s H vs Q E hr h => ?_)
  · obtain ⟨a, v, rfl, _⟩ := h
    rfl
  · obtain ⟨a, v, rfl, ha, q⟩ := h
    refine ⟨_, (pss_one (ps_ost (pv 0) (pv 1))), ?_⟩
    walk_at "h0"
    exact ⟨a, _, rfl, X_TooMany.T, X_TooMany.n, .inl ⟨ha, q⟩⟩
theorem oi_BadWords {f : Addr} {fd : FuncData} (F : Fun K "__init__" "BadWords.__init__" s_BadWords___init__ f fd) (X_BadWords : ExcF K Z.a_BadWords f "part") : FnOk P w K mg base CX0 1 f fd ["self", "part"] (spField Z.a_BadWords "part") := by
  refine F.ok sc_BadWords___init__ (fun vs H Q E h => ?_) (fun cdv A outer s H vs Q E hr h => ?_)
  · obtain ⟨a, v, rfl, _⟩ := h
    rfl
  · obtain ⟨a, v, rfl, ha, q⟩ := h
    refine ⟨_, (pss_one (ps_ost (pv 0) (pv 1))), ?_⟩
    walk_at "h0"
    exact ⟨a, _, rfl, X_BadWords.T, X_BadWords.n, .inl ⟨ha, q⟩⟩
theorem oi_BadHistory {f : Addr} {fd : FuncData} (F : Fun K "__init__" "BadHistory.__init__" s_BadHistory___init__ f fd) (X_BadHistory : ExcF K Z.a_BadHistory f "part") : FnOk P w K mg base CX0 1 f fd ["self", "part"] (spField Z.a_BadHistory "part") := by
  refine F.ok sc_BadHistory___init__ (fun vs H Q E h => ?_) (fun cdv A outer s H vs Q E hr h => ?_)
  · obtain ⟨a, v, rfl, _⟩ := h
    rfl
  · obtain ⟨a, v, rfl, ha, q⟩ := h
    refine ⟨_, (pss_one (ps_ost (pv 0) (pv 1))), ?_⟩
    walk_at "h0"
    exact ⟨a, _, rfl, X_BadHistory.T, X_BadHistory.n, .inl ⟨ha, q⟩⟩
theorem oi_RingTold {f : Addr} {fd : FuncData} (F : Fun K "__init__" "RingTold.__init__" s_RingTold___init__ f fd) (X_RingTold : ExcF K Z.a_RingTold f "blocks") : FnOk P w K mg base CX0 1 f fd ["self", "blocks"] (spField Z.a_RingTold "blocks") := by
  refine F.ok sc_RingTold___init__ (fun vs H Q E h => ?_) (fun cdv A outer s H vs Q E hr h => ?_)
  · obtain ⟨a, v, rfl, _⟩ := h
    rfl
  · obtain ⟨a, v, rfl, ha, q⟩ := h
    refine ⟨_, (pss_one (ps_ost (pv 0) (pv 1))), ?_⟩
    walk_at "h0"
    exact ⟨a, _, rfl, X_RingTold.T, X_RingTold.n, .inl ⟨ha, q⟩⟩
theorem oi_NameTwice {f : Addr} {fd : FuncData} (F : Fun K "__init__" "NameTwice.__init__" s_NameTwice___init__ f fd) (X_NameTwice : ExcF K Z.a_NameTwice f "place") (n2 : PySem.W.findIn K (.ref Z.a_NameTwice) "name" = some none) : FnOk P w K mg base CX0 1 f fd ["self", "place", "name"] (spField2 Z.a_NameTwice "place" "name") := by
  refine F.ok sc_NameTwice___init__ (fun vs H Q E h => ?_) (fun cdv A outer s H vs Q E hr h => ?_)
  · obtain ⟨a, v, y, rfl, _⟩ := h
    rfl
  · obtain ⟨a, v, y, rfl, ha, q⟩ := h
    refine ⟨_, (pss_cons (ps_ost (pv 0) (pv 1))
 (pss_one (ps_ost (pv 0) (pv 2)))), ?_⟩
    walk_at "h0"
    refine ⟨a, _, rfl, X_NameTwice.T, X_NameTwice.n, .inl ⟨ha, fun dx hd ne => ?_⟩⟩
    walk_at "hs"
    have e1 : (upd (upd H dx (exd dx [("place", v)])) a (exo a Z.a_NameTwice (some dx))) a = some (exo a Z.a_NameTwice (some dx)) := upd_same
    have e2 : (upd (upd H dx (exd dx [("place", v)])) a (exo a Z.a_NameTwice (some dx))) dx = some (exd dx [("place", v)]) := by rw [upd_ne ne, upd_same]
    refine ⟨a, _, rfl, X_NameTwice.T, n2, .inr ⟨dx, _, e1, e2, by show 1 ≤ 900; decide, ?_⟩⟩
    refine q dx _ hd ne ?_ upd_same fun b o hb e => ?_
    · rw [upd_ne (Ne.symm ne)]
      exact e1
    · have nb : b ≠ dx := fun z => by
        rw [z, hd] at e
        cases e
      rw [upd_ne nb, upd_ne hb, upd_ne nb]
      exact e
theorem oi_BadBody {f : Addr} {fd : FuncData} (F : Fun K "__init__" "BadBody.__init__" s_BadBody___init__ f fd) (X_BadBody : ExcF K Z.a_BadBody f "block") : FnOk P w K mg base CX0 1 f fd ["self", "block"] (spField Z.a_BadBody "block") := by
  refine F.ok sc_BadBody___init__ (fun vs H Q E h => ?_) (fun cdv A outer s H vs Q E hr h => ?_)
  · obtain ⟨a, v, rfl, _⟩ := h
    rfl
  · obtain ⟨a, v, rfl, ha, q⟩ := h
    refine ⟨_, (pss_one (ps_ost (pv 0) (pv 1))), ?_⟩
    walk_at "h0"
    exact ⟨a, _, rfl, X_BadBody.T, X_BadBody.n, .inl ⟨ha, q⟩⟩
theorem oi_NoPath {f : Addr} {fd : FuncData} (F : Fun K "__init__" "NoPath.__init__" s_NoPath___init__ f fd) (X_NoPath : ExcF K Z.a_NoPath f "path") : FnOk P w K mg base CX0 1 f fd ["self", "path"] (spField Z.a_NoPath "path") := by
  refine F.ok sc_NoPath___init__ (fun vs H Q E h => ?_) (fun cdv A outer s H vs Q E hr h => ?_)
  · obtain ⟨a, v, rfl, _⟩ := h
    rfl
  · obtain ⟨a, v, rfl, ha, q⟩ := h
    refine ⟨_, (pss_one (ps_ost (pv 0) (pv 1))), ?_⟩
    walk_at "h0"
    exact ⟨a, _, rfl, X_NoPath.T, X_NoPath.n, .inl ⟨ha, q⟩⟩
theorem oi_NotThere {f : Addr} {fd : FuncData} (F : Fun K "__init__" "NotThere.__init__" s_NotThere___init__ f fd) (X_NotThere : ExcF K Z.a_NotThere f "path") : FnOk P w K mg base CX0 1 f fd ["self", "path"] (spField Z.a_NotThere "path") := by
  refine F.ok sc_NotThere___init__ (fun vs H Q E h => ?_) (fun cdv A outer s H vs Q E hr h => ?_)
  · obtain ⟨a, v, rfl, _⟩ := h
    rfl
  · obtain ⟨a, v, rfl, ha, q⟩ := h
    refine ⟨_, (pss_one (ps_ost (pv 0) (pv 1))), ?_⟩
    walk_at "h0"
    exact ⟨a, _, rfl, X_NotThere.T, X_NotThere.n, .inl ⟨ha, q⟩⟩
theorem oi_NotFolder {f : Addr} {fd : FuncData} (F : Fun K "__init__" "NotFolder.__init__" s_NotFolder___init__ f fd) (X_NotFolder : ExcF K Z.a_NotFolder f "path") : FnOk P w K mg base CX0 1 f fd ["self", "path"] (spField Z.a_NotFolder "path") := by
  refine F.ok sc_NotFolder___init__ (fun vs H Q E h => ?_) (fun cdv A outer s H vs Q E hr h => ?_)
  · obtain ⟨a, v, rfl, _⟩ := h
    rfl
  · obtain ⟨a, v, rfl, ha, q⟩ := h
    refine ⟨_, (pss_one (ps_ost (pv 0) (pv 1))), ?_⟩
    walk_at "h0"
    exact ⟨a, _, rfl, X_NotFolder.T, X_NotFolder.n, .inl ⟨ha, q⟩⟩
theorem oi_NotFile {f : Addr} {fd : FuncData} (F : Fun K "__init__" "NotFile.__init__" s_NotFile___init__ f fd) (X_NotFile : ExcF K Z.a_NotFile f "path") : FnOk P w K mg base CX0 1 f fd ["self", "path"] (spField Z.a_NotFile "path") := by
  refine F.ok sc_NotFile___init__ (fun vs H Q E h => ?_) (fun cdv A outer s H vs Q E hr h => ?_)
  · obtain ⟨a, v, rfl, _⟩ := h
    rfl
  · obtain ⟨a, v, rfl, ha, q⟩ := h
    refine ⟨_, (pss_one (ps_ost (pv 0) (pv 1))), ?_⟩
    walk_at "h0"
    exact ⟨a, _, rfl, X_NotFile.T, X_NotFile.n, .inl ⟨ha, q⟩⟩
theorem oi_TakenPath {f : Addr} {fd : FuncData} (F : Fun K "__init__" "TakenPath.__init__" s_TakenPath___init__ f fd) (X_TakenPath : ExcF K Z.a_TakenPath f "path") : FnOk P w K mg base CX0 1 f fd ["self", "path"] (spField Z.a_TakenPath "path") := by
  refine F.ok sc_TakenPath___init__ (fun vs H Q E h => ?_) (fun cdv A outer s H vs Q E hr h => ?_)
  · obtain ⟨a, v, rfl, _⟩ := h
    rfl
  · obtain ⟨a, v, rfl, ha, q⟩ := h
    refine ⟨_, (pss_one (ps_ost (pv 0) (pv 1))), ?_⟩
    walk_at "h0"
    exact ⟨a, _, rfl, X_TakenPath.T, X_TakenPath.n, .inl ⟨ha, q⟩⟩
theorem oi_NotEmpty {f : Addr} {fd : FuncData} (F : Fun K "__init__" "NotEmpty.__init__" s_NotEmpty___init__ f fd) (X_NotEmpty : ExcF K Z.a_NotEmpty f "path") : FnOk P w K mg base CX0 1 f fd ["self", "path"] (spField Z.a_NotEmpty "path") := by
  refine F.ok sc_NotEmpty___init__ (fun vs H Q E h => ?_) (fun cdv A outer s H vs Q E hr h => ?_)
  · obtain ⟨a, v, rfl, _⟩ := h
    rfl
  · obtain ⟨a, v, rfl, ha, q⟩ := h
    refine ⟨_, (pss_one (ps_ost (pv 0) (pv 1))), ?_⟩
    walk_at "h0"
    exact ⟨a, _, rfl, X_NotEmpty.T, X_NotEmpty.n, .inl ⟨ha, q⟩⟩
theorem oi_BadText {f : Addr} {fd : FuncData} (F : Fun K "__init__" "BadText.__init__" s_BadText___init__ f fd) (X_BadText : ExcF K Z.a_BadText f "line") : FnOk P w K mg base CX0 1 f fd ["self", "line"] (spField Z.a_BadText "line") := by
  refine F.ok sc_BadText___init__ (fun vs H Q E h => ?_) (fun cdv A outer s H vs Q E hr h => ?_)
  · obtain ⟨a, v, rfl, _⟩ := h
    rfl
  · obtain ⟨a, v, rfl, ha, q⟩ := h
    refine ⟨_, (pss_one (ps_ost (pv 0) (pv 1))), ?_⟩
    walk_at "h0"
    exact ⟨a, _, rfl, X_BadText.T, X_BadText.n, .inl ⟨ha, q⟩⟩
theorem oi_BadBook {f : Addr} {fd : FuncData} (F : Fun K "__init__" "BadBook.__init__" s_BadBook___init__ f fd) (X_BadBook : ExcF K Z.a_BadBook f "path") : FnOk P w K mg base CX0 1 f fd ["self", "path"] (spField Z.a_BadBook "path") := by
  refine F.ok sc_BadBook___init__ (fun vs H Q E h => ?_) (fun cdv A outer s H vs Q E hr h => ?_)
  · obtain ⟨a, v, rfl, _⟩ := h
    rfl
  · obtain ⟨a, v, rfl, ha, q⟩ := h
    refine ⟨_, (pss_one (ps_ost (pv 0) (pv 1))), ?_⟩
    walk_at "h0"
    exact ⟨a, _, rfl, X_BadBook.T, X_BadBook.n, .inl ⟨ha, q⟩⟩
theorem oi_NotKept {f : Addr} {fd : FuncData} (F : Fun K "__init__" "NotKept.__init__" s_NotKept___init__ f fd) (X_NotKept : ExcF K Z.a_NotKept f "name") : FnOk P w K mg base CX0 1 f fd ["self", "name"] (spField Z.a_NotKept "name") := by
  refine F.ok sc_NotKept___init__ (fun vs H Q E h => ?_) (fun cdv A outer s H vs Q E hr h => ?_)
  · obtain ⟨a, v, rfl, _⟩ := h
    rfl
  · obtain ⟨a, v, rfl, ha, q⟩ := h
    refine ⟨_, (pss_one (ps_ost (pv 0) (pv 1))), ?_⟩
    walk_at "h0"
    exact ⟨a, _, rfl, X_NotKept.T, X_NotKept.n, .inl ⟨ha, q⟩⟩
end
set_option maxRecDepth 100000
set_option maxHeartbeats 4000000
open PySem PySem.Spec L2


theorem sc__law_kinds : FnScope ["_law_e", "_law_some", "_law_at"] ["_law_e"] (defScope s__law_kinds) := ⟨rfl, rfl, rfl, by decide +kernel, rfl, by decide +kernel, by decide +kernel⟩
def clsN (Z : Ad) : List Addr := [Z.a_NoBlock, Z.a_NoPlace, Z.a_Beneath, Z.a_NoOrder, Z.a_NoView, Z.a_OtherBlocks, Z.a_NoNumber, Z.a_NoLot, Z.a_NoTree, Z.a_NotFitting, Z.a_NoTelling, Z.a_NoWord, Z.a_NoWorth, Z.a_NothingWaits, Z.a_NoText, Z.a_NoBlocks, Z.a_NoLine, Z.a_NoLines, Z.a_BadTree, Z.a_BadPicture, Z.a_TooMany, Z.a_BadWords, Z.a_BadHistory, Z.a_RingTold, Z.a_NameTwice, Z.a_BadBody, Z.a_NoPath, Z.a_NotThere, Z.a_NotFolder, Z.a_NotFile, Z.a_TakenPath, Z.a_NotEmpty, Z.a_BadText, Z.a_NoChanges, Z.a_UnderWay, Z.a_NotUnderWay, Z.a_BadBook, Z.a_NotKept]
structure ErT (K : PySem.W.Frag) (Z : Ad) : Prop where
  e : ∀ (i : Nat) (c : Addr), (clsN Z)[i]? = some c → L2.ExcC K c
  k : ∀ (i j : Nat) (c d : Addr), (clsN Z)[i]? = some c → (clsN Z)[j]? = some d → PySem.W.kitOne K (.ref c) (.ref d) = some (decide (i = j))
  v : ∀ (i : Nat) (c : Addr), (clsN Z)[i]? = some c → PySem.W.kitOne K (.ref c) (.ref Z.a_VoteError) = some true
  u : ∀ (i : Nat) (c : Addr), (clsN Z)[i]? = some c → PySem.W.kitOne K (.ref c) (.type "ValueError") = some true
section
variable {P : Program} {w : World} {K : PySem.W.Frag} {mg : Str → Option Value} {base : Heap} {Z : Ad}
def spKinds (Z : Ad) : Sp := fun vs H Q _ => ∃ (v : V) (i : Nat) (c : Addr) (fs : Fs), vs = [v] ∧ (clsN Z)[i]? = some c ∧ ErV H v c fs ∧ ∀ D H', Same H H' → H D = none → H' D = some (.lst [.int i]) → Q (.ref D) H'
theorem ok_kinds {f : Addr} {fd : FuncData} (F : Fun K "_law_kinds" "_law_kinds" s__law_kinds f fd) (B : Bl Z mg) (T : ErT K Z) : FnOk P w K mg base CX0 1 f fd ["_law_e"] (spKinds Z) := by
  refine F.ok sc__law_kinds (fun vs H Q E h => ?_) (fun cdv A outer s H vs Q E hr h => ?_)
  · obtain ⟨v, i, c, fs, rfl, _⟩ := h
    rfl
  · obtain ⟨v, i, c, fs, rfl, hi, her, q⟩ := h
    have he := T.e i c hi
    refine ⟨_, (pss_cons (ps_set (i := 1) sc__law_kinds.nd rfl (Or.inr rfl) (pe_lst (pa_cons (pe_callB (call_isV (K := K) rfl) (by rfl) B.b_isinstance (by decide +kernel) (pa_cons (pv 0) (pa_cons (pe_glob (v := .ref Z.a_NoBlock) rfl B.k_NoBlock rfl) pa_nil))) (pa_cons (pe_callB (call_isV (K := K) rfl) (by rfl) B.b_isinstance (by decide +kernel) (pa_cons (pv 0) (pa_cons (pe_glob (v := .ref Z.a_NoPlace) rfl B.k_NoPlace rfl) pa_nil))) (pa_cons (pe_callB (call_isV (K := K) rfl) (by rfl) B.b_isinstance (by decide +kernel) (pa_cons (pv 0) (pa_cons (pe_glob (v := .ref Z.a_Beneath) rfl B.k_Beneath rfl) pa_nil))) (pa_cons (pe_callB (call_isV (K := K) rfl) (by rfl) B.b_isinstance (by decide +kernel) (pa_cons (pv 0) (pa_cons (pe_glob (v := .ref Z.a_NoOrder) rfl B.k_NoOrder rfl) pa_nil))) pa_nil))))))
 (pss_cons (ps_set (i := 1) sc__law_kinds.nd rfl (Or.inr rfl) (pe_op op_cat (pv 1) (pe_lst (pa_cons (pe_callB (call_isV (K := K) rfl) (by rfl) B.b_isinstance (by decide +kernel) (pa_cons (pv 0) (pa_cons (pe_glob (v := .ref Z.a_NoView) rfl B.k_NoView rfl) pa_nil))) (pa_cons (pe_callB (call_isV (K := K) rfl) (by rfl) B.b_isinstance (by decide +kernel) (pa_cons (pv 0) (pa_cons (pe_glob (v := .ref Z.a_OtherBlocks) rfl B.k_OtherBlocks rfl) pa_nil))) (pa_cons (pe_callB (call_isV (K := K) rfl) (by rfl) B.b_isinstance (by decide +kernel) (pa_cons (pv 0) (pa_cons (pe_glob (v := .ref Z.a_NoNumber) rfl B.k_NoNumber rfl) pa_nil))) (pa_cons (pe_callB (call_isV (K := K) rfl) (by rfl) B.b_isinstance (by decide +kernel) (pa_cons (pv 0) (pa_cons (pe_glob (v := .ref Z.a_NoLot) rfl B.k_NoLot rfl) pa_nil))) pa_nil)))))))
 (pss_cons (ps_set (i := 1) sc__law_kinds.nd rfl (Or.inr rfl) (pe_op op_cat (pv 1) (pe_lst (pa_cons (pe_callB (call_isV (K := K) rfl) (by rfl) B.b_isinstance (by decide +kernel) (pa_cons (pv 0) (pa_cons (pe_glob (v := .ref Z.a_NoTree) rfl B.k_NoTree rfl) pa_nil))) (pa_cons (pe_callB (call_isV (K := K) rfl) (by rfl) B.b_isinstance (by decide +kernel) (pa_cons (pv 0) (pa_cons (pe_glob (v := .ref Z.a_NotFitting) rfl B.k_NotFitting rfl) pa_nil))) (pa_cons (pe_callB (call_isV (K := K) rfl) (by rfl) B.b_isinstance (by decide +kernel) (pa_cons (pv 0) (pa_cons (pe_glob (v := .ref Z.a_NoTelling) rfl B.k_NoTelling rfl) pa_nil))) (pa_cons (pe_callB (call_isV (K := K) rfl) (by rfl) B.b_isinstance (by decide +kernel) (pa_cons (pv 0) (pa_cons (pe_glob (v := .ref Z.a_NoWord) rfl B.k_NoWord rfl) pa_nil))) pa_nil)))))))
 (pss_cons (ps_set (i := 1) sc__law_kinds.nd rfl (Or.inr rfl) (pe_op op_cat (pv 1) (pe_lst (pa_cons (pe_callB (call_isV (K := K) rfl) (by rfl) B.b_isinstance (by decide +kernel) (pa_cons (pv 0) (pa_cons (pe_glob (v := .ref Z.a_NoWorth) rfl B.k_NoWorth rfl) pa_nil))) (pa_cons (pe_callB (call_isV (K := K) rfl) (by rfl) B.b_isinstance (by decide +kernel) (pa_cons (pv 0) (pa_cons (pe_glob (v := .ref Z.a_NothingWaits) rfl B.k_NothingWaits rfl) pa_nil))) (pa_cons (pe_callB (call_isV (K := K) rfl) (by rfl) B.b_isinstance (by decide +kernel) (pa_cons (pv 0) (pa_cons (pe_glob (v := .ref Z.a_NoText) rfl B.k_NoText rfl) pa_nil))) (pa_cons (pe_callB (call_isV (K := K) rfl) (by rfl) B.b_isinstance (by decide +kernel) (pa_cons (pv 0) (pa_cons (pe_glob (v := .ref Z.a_NoBlocks) rfl B.k_NoBlocks rfl) pa_nil))) pa_nil)))))))
 (pss_cons (ps_set (i := 1) sc__law_kinds.nd rfl (Or.inr rfl) (pe_op op_cat (pv 1) (pe_lst (pa_cons (pe_callB (call_isV (K := K) rfl) (by rfl) B.b_isinstance (by decide +kernel) (pa_cons (pv 0) (pa_cons (pe_glob (v := .ref Z.a_NoLine) rfl B.k_NoLine rfl) pa_nil))) (pa_cons (pe_callB (call_isV (K := K) rfl) (by rfl) B.b_isinstance (by decide +kernel) (pa_cons (pv 0) (pa_cons (pe_glob (v := .ref Z.a_NoLines) rfl B.k_NoLines rfl) pa_nil))) (pa_cons (pe_callB (call_isV (K := K) rfl) (by rfl) B.b_isinstance (by decide +kernel) (pa_cons (pv 0) (pa_cons (pe_glob (v := .ref Z.a_BadTree) rfl B.k_BadTree rfl) pa_nil))) (pa_cons (pe_callB (call_isV (K := K) rfl) (by rfl) B.b_isinstance (by decide +kernel) (pa_cons (pv 0) (pa_cons (pe_glob (v := .ref Z.a_BadPicture) rfl B.k_BadPicture rfl) pa_nil))) pa_nil)))))))
 (pss_cons (ps_set (i := 1) sc__law_kinds.nd rfl (Or.inr rfl) (pe_op op_cat (pv 1) (pe_lst (pa_cons (pe_callB (call_isV (K := K) rfl) (by rfl) B.b_isinstance (by decide +kernel) (pa_cons (pv 0) (pa_cons (pe_glob (v := .ref Z.a_TooMany) rfl B.k_TooMany rfl) pa_nil))) (pa_cons (pe_callB (call_isV (K := K) rfl) (by rfl) B.b_isinstance (by decide +kernel) (pa_cons (pv 0) (pa_cons (pe_glob (v := .ref Z.a_BadWords) rfl B.k_BadWords rfl) pa_nil))) (pa_cons (pe_callB (call_isV (K := K) rfl) (by rfl) B.b_isinstance (by decide +kernel) (pa_cons (pv 0) (pa_cons (pe_glob (v := .ref Z.a_BadHistory) rfl B.k_BadHistory rfl) pa_nil))) (pa_cons (pe_callB (call_isV (K := K) rfl) (by rfl) B.b_isinstance (by decide +kernel) (pa_cons (pv 0) (pa_cons (pe_glob (v := .ref Z.a_RingTold) rfl B.k_RingTold rfl) pa_nil))) pa_nil)))))))
 (pss_cons (ps_set (i := 1) sc__law_kinds.nd rfl (Or.inr rfl) (pe_op op_cat (pv 1) (pe_lst (pa_cons (pe_callB (call_isV (K := K) rfl) (by rfl) B.b_isinstance (by decide +kernel) (pa_cons (pv 0) (pa_cons (pe_glob (v := .ref Z.a_NameTwice) rfl B.k_NameTwice rfl) pa_nil))) (pa_cons (pe_callB (call_isV (K := K) rfl) (by rfl) B.b_isinstance (by decide +kernel) (pa_cons (pv 0) (pa_cons (pe_glob (v := .ref Z.a_BadBody) rfl B.k_BadBody rfl) pa_nil))) (pa_cons (pe_callB (call_isV (K := K) rfl) (by rfl) B.b_isinstance (by decide +kernel) (pa_cons (pv 0) (pa_cons (pe_glob (v := .ref Z.a_NoPath) rfl B.k_NoPath rfl) pa_nil))) (pa_cons (pe_callB (call_isV (K := K) rfl) (by rfl) B.b_isinstance (by decide +kernel) (pa_cons (pv 0) (pa_cons (pe_glob (v := .ref Z.a_NotThere) rfl B.k_NotThere rfl) pa_nil))) pa_nil)))))))
 (pss_cons (ps_set (i := 1) sc__law_kinds.nd rfl (Or.inr rfl) (pe_op op_cat (pv 1) (pe_lst (pa_cons (pe_callB (call_isV (K := K) rfl) (by rfl) B.b_isinstance (by decide +kernel) (pa_cons (pv 0) (pa_cons (pe_glob (v := .ref Z.a_NotFolder) rfl B.k_NotFolder rfl) pa_nil))) (pa_cons (pe_callB (call_isV (K := K) rfl) (by rfl) B.b_isinstance (by decide +kernel) (pa_cons (pv 0) (pa_cons (pe_glob (v := .ref Z.a_NotFile) rfl B.k_NotFile rfl) pa_nil))) (pa_cons (pe_callB (call_isV (K := K) rfl) (by rfl) B.b_isinstance (by decide +kernel) (pa_cons (pv 0) (pa_cons (pe_glob (v := .ref Z.a_TakenPath) rfl B.k_TakenPath rfl) pa_nil))) (pa_cons (pe_callB (call_isV (K := K) rfl) (by rfl) B.b_isinstance (by decide +kernel) (pa_cons (pv 0) (pa_cons (pe_glob (v := .ref Z.a_NotEmpty) rfl B.k_NotEmpty rfl) pa_nil))) pa_nil)))))))
 (pss_cons (ps_set (i := 1) sc__law_kinds.nd rfl (Or.inr rfl) (pe_op op_cat (pv 1) (pe_lst (pa_cons (pe_callB (call_isV (K := K) rfl) (by rfl) B.b_isinstance (by decide +kernel) (pa_cons (pv 0) (pa_cons (pe_glob (v := .ref Z.a_BadText) rfl B.k_BadText rfl) pa_nil))) (pa_cons (pe_callB (call_isV (K := K) rfl) (by rfl) B.b_isinstance (by decide +kernel) (pa_cons (pv 0) (pa_cons (pe_glob (v := .ref Z.a_NoChanges) rfl B.k_NoChanges rfl) pa_nil))) (pa_cons (pe_callB (call_isV (K := K) rfl) (by rfl) B.b_isinstance (by decide +kernel) (pa_cons (pv 0) (pa_cons (pe_glob (v := .ref Z.a_UnderWay) rfl B.k_UnderWay rfl) pa_nil))) pa_nil))))))
 (pss_cons (ps_set (i := 1) sc__law_kinds.nd rfl (Or.inr rfl) (pe_op op_cat (pv 1) (pe_lst (pa_cons (pe_callB (call_isV (K := K) rfl) (by rfl) B.b_isinstance (by decide +kernel) (pa_cons (pv 0) (pa_cons (pe_glob (v := .ref Z.a_NotUnderWay) rfl B.k_NotUnderWay rfl) pa_nil))) (pa_cons (pe_callB (call_isV (K := K) rfl) (by rfl) B.b_isinstance (by decide +kernel) (pa_cons (pv 0) (pa_cons (pe_glob (v := .ref Z.a_BadBook) rfl B.k_BadBook rfl) pa_nil))) (pa_cons (pe_callB (call_isV (K := K) rfl) (by rfl) B.b_isinstance (by decide +kernel) (pa_cons (pv 0) (pa_cons (pe_glob (v := .ref Z.a_NotKept) rfl B.k_NotKept rfl) pa_nil))) pa_nil))))))
 (pss_one (ps_ret (pe_lc (own := [("_law_at", 2)]) rfl sc__law_kinds.nd (pi_range1 rfl B.b_range (pa_cons (pe_callB (call_lenK (K := K) rfl) (by rfl) B.b_len PySem.boot_len (pa_cons (pv 1) pa_nil)) pa_nil)) (blkOk_by (N := ["_law_e", "_law_some", "_law_at"]) (sc := defScope s__law_kinds) (by decide +kernel)) (fun _ _ _ _ _ => (pg_name (i := 2) sc__law_kinds.nd rfl (Or.inl rfl))) (fun _ _ _ _ _ => (pts_one (pt_val (pe_ix (ix_listK (K := K) rfl) (pv 1) (pv 2) (fun _ _ => rfl))))) (fun _ _ _ _ _ => (pv 2))))))))))))))), ?_⟩
    have S0 : Same H H := Same.refl H
    walk_at "h0"
    refine x_isV (her.same S0) he (T.k i 0 c _ hi rfl) ?_
    walk_at "hs"
    refine x_isV (her.same S0) he (T.k i 1 c _ hi rfl) ?_
    walk_at "hs"
    refine x_isV (her.same S0) he (T.k i 2 c _ hi rfl) ?_
    walk_at "hs"
    refine x_isV (her.same S0) he (T.k i 3 c _ hi rfl) ?_
    walk_at "hs"
    intro p0 h0
    have S1 := same_new (o := .lst ([V.bl (decide (i = 0)), V.bl (decide (i = 1)), V.bl (decide (i = 2)), V.bl (decide (i = 3))])) (Same.refl H) h0
    have c0 : upd H p0 (.lst ([V.bl (decide (i = 0)), V.bl (decide (i = 1)), V.bl (decide (i = 2)), V.bl (decide (i = 3))])) p0 = some (.lst ([V.bl (decide (i = 0)), V.bl (decide (i = 1)), V.bl (decide (i = 2)), V.bl (decide (i = 3))])) := upd_same
    generalize upd H p0 (.lst ([V.bl (decide (i = 0)), V.bl (decide (i = 1)), V.bl (decide (i = 2)), V.bl (decide (i = 3))])) = G0 at S1 c0 ⊢
    walk_at "hs"
    refine x_isV (her.same S1) he (T.k i 4 c _ hi rfl) ?_
    walk_at "hs"
    refine x_isV (her.same S1) he (T.k i 5 c _ hi rfl) ?_
    walk_at "hs"
    refine x_isV (her.same S1) he (T.k i 6 c _ hi rfl) ?_
    walk_at "hs"
    refine x_isV (her.same S1) he (T.k i 7 c _ hi rfl) ?_
    walk_at "hs"
    intro p1 h1
    have s1a := same_new (o := .lst ([V.bl (decide (i = 4)), V.bl (decide (i = 5)), V.bl (decide (i = 6)), V.bl (decide (i = 7))])) (Same.refl G0) h1
    have e1a : upd G0 p1 (.lst ([V.bl (decide (i = 4)), V.bl (decide (i = 5)), V.bl (decide (i = 6)), V.bl (decide (i = 7))])) p1 = some (.lst ([V.bl (decide (i = 4)), V.bl (decide (i = 5)), V.bl (decide (i = 6)), V.bl (decide (i = 7))])) := upd_same
    generalize upd G0 p1 (.lst ([V.bl (decide (i = 4)), V.bl (decide (i = 5)), V.bl (decide (i = 6)), V.bl (decide (i = 7))])) = G1a at s1a e1a ⊢
    walk_at "hs"
    refine x_cat (s1a _ _ c0) e1a (szLe (show 4 + 4 ≤ 100000 by decide)) ?_
    intro D1 m1
    have s1 := same_new (o := .lst (([V.bl (decide (i = 0)), V.bl (decide (i = 1)), V.bl (decide (i = 2)), V.bl (decide (i = 3))]) ++ [V.bl (decide (i = 4)), V.bl (decide (i = 5)), V.bl (decide (i = 6)), V.bl (decide (i = 7))])) (Same.refl G1a) m1
    have c1 : upd G1a D1 (.lst (([V.bl (decide (i = 0)), V.bl (decide (i = 1)), V.bl (decide (i = 2)), V.bl (decide (i = 3))]) ++ [V.bl (decide (i = 4)), V.bl (decide (i = 5)), V.bl (decide (i = 6)), V.bl (decide (i = 7))])) D1 = some (.lst (([V.bl (decide (i = 0)), V.bl (decide (i = 1)), V.bl (decide (i = 2)), V.bl (decide (i = 3))]) ++ [V.bl (decide (i = 4)), V.bl (decide (i = 5)), V.bl (decide (i = 6)), V.bl (decide (i = 7))])) := upd_same
    generalize upd G1a D1 (.lst (([V.bl (decide (i = 0)), V.bl (decide (i = 1)), V.bl (decide (i = 2)), V.bl (decide (i = 3))]) ++ [V.bl (decide (i = 4)), V.bl (decide (i = 5)), V.bl (decide (i = 6)), V.bl (decide (i = 7))])) = G1 at s1 c1 ⊢
    walk_at "hs"
    have S2 : Same H G1 := (S1.trans s1a).trans s1
    refine x_isV (her.same S2) he (T.k i 8 c _ hi rfl) ?_
    walk_at "hs"
    refine x_isV (her.same S2) he (T.k i 9 c _ hi rfl) ?_
    walk_at "hs"
    refine x_isV (her.same S2) he (T.k i 10 c _ hi rfl) ?_
    walk_at "hs"
    refine x_isV (her.same S2) he (T.k i 11 c _ hi rfl) ?_
    walk_at "hs"
    intro p2 h2
    have s2a := same_new (o := .lst ([V.bl (decide (i = 8)), V.bl (decide (i = 9)), V.bl (decide (i = 10)), V.bl (decide (i = 11))])) (Same.refl G1) h2
    have e2a : upd G1 p2 (.lst ([V.bl (decide (i = 8)), V.bl (decide (i = 9)), V.bl (decide (i = 10)), V.bl (decide (i = 11))])) p2 = some (.lst ([V.bl (decide (i = 8)), V.bl (decide (i = 9)), V.bl (decide (i = 10)), V.bl (decide (i = 11))])) := upd_same
    generalize upd G1 p2 (.lst ([V.bl (decide (i = 8)), V.bl (decide (i = 9)), V.bl (decide (i = 10)), V.bl (decide (i = 11))])) = G2a at s2a e2a ⊢
    walk_at "hs"
    refine x_cat (s2a _ _ c1) e2a (szLe (show 8 + 4 ≤ 100000 by decide)) ?_
    intro D2 m2
    have s2 := same_new (o := .lst ((([V.bl (decide (i = 0)), V.bl (decide (i = 1)), V.bl (decide (i = 2)), V.bl (decide (i = 3))]) ++ [V.bl (decide (i = 4)), V.bl (decide (i = 5)), V.bl (decide (i = 6)), V.bl (decide (i = 7))]) ++ [V.bl (decide (i = 8)), V.bl (decide (i = 9)), V.bl (decide (i = 10)), V.bl (decide (i = 11))])) (Same.refl G2a) m2
    have c2 : upd G2a D2 (.lst ((([V.bl (decide (i = 0)), V.bl (decide (i = 1)), V.bl (decide (i = 2)), V.bl (decide (i = 3))]) ++ [V.bl (decide (i = 4)), V.bl (decide (i = 5)), V.bl (decide (i = 6)), V.bl (decide (i = 7))]) ++ [V.bl (decide (i = 8)), V.bl (decide (i = 9)), V.bl (decide (i = 10)), V.bl (decide (i = 11))])) D2 = some (.lst ((([V.bl (decide (i = 0)), V.bl (decide (i = 1)), V.bl (decide (i = 2)), V.bl (decide (i = 3))]) ++ [V.bl (decide (i = 4)), V.bl (decide (i = 5)), V.bl (decide (i = 6)), V.bl (decide (i = 7))]) ++ [V.bl (decide (i = 8)), V.bl (decide (i = 9)), V.bl (decide (i = 10)), V.bl (decide (i = 11))])) := upd_same
    generalize upd G2a D2 (.lst ((([V.bl (decide (i = 0)), V.bl (decide (i = 1)), V.bl (decide (i = 2)), V.bl (decide (i = 3))]) ++ [V.bl (decide (i = 4)), V.bl (decide (i = 5)), V.bl (decide (i = 6)), V.bl (decide (i = 7))]) ++ [V.bl (decide (i = 8)), V.bl (decide (i = 9)), V.bl (decide (i = 10)), V.bl (decide (i = 11))])) = G2 at s2 c2 ⊢
    walk_at "hs"
    have S3 : Same H G2 := (S2.trans s2a).trans s2
    refine x_isV (her.same S3) he (T.k i 12 c _ hi rfl) ?_
    walk_at "hs"
    refine x_isV (her.same S3) he (T.k i 13 c _ hi rfl) ?_
    walk_at "hs"
    refine x_isV (her.same S3) he (T.k i 14 c _ hi rfl) ?_
    walk_at "hs"
    refine x_isV (her.same S3) he (T.k i 15 c _ hi rfl) ?_
    walk_at "hs"
    intro p3 h3
    have s3a := same_new (o := .lst ([V.bl (decide (i = 12)), V.bl (decide (i = 13)), V.bl (decide (i = 14)), V.bl (decide (i = 15))])) (Same.refl G2) h3
    have e3a : upd G2 p3 (.lst ([V.bl (decide (i = 12)), V.bl (decide (i = 13)), V.bl (decide (i = 14)), V.bl (decide (i = 15))])) p3 = some (.lst ([V.bl (decide (i = 12)), V.bl (decide (i = 13)), V.bl (decide (i = 14)), V.bl (decide (i = 15))])) := upd_same
    generalize upd G2 p3 (.lst ([V.bl (decide (i = 12)), V.bl (decide (i = 13)), V.bl (decide (i = 14)), V.bl (decide (i = 15))])) = G3a at s3a e3a ⊢
    walk_at "hs"
    refine x_cat (s3a _ _ c2) e3a (szLe (show 12 + 4 ≤ 100000 by decide)) ?_
    intro D3 m3
    have s3 := same_new (o := .lst (((([V.bl (decide (i = 0)), V.bl (decide (i = 1)), V.bl (decide (i = 2)), V.bl (decide (i = 3))]) ++ [V.bl (decide (i = 4)), V.bl (decide (i = 5)), V.bl (decide (i = 6)), V.bl (decide (i = 7))]) ++ [V.bl (decide (i = 8)), V.bl (decide (i = 9)), V.bl (decide (i = 10)), V.bl (decide (i = 11))]) ++ [V.bl (decide (i = 12)), V.bl (decide (i = 13)), V.bl (decide (i = 14)), V.bl (decide (i = 15))])) (Same.refl G3a) m3
    have c3 : upd G3a D3 (.lst (((([V.bl (decide (i = 0)), V.bl (decide (i = 1)), V.bl (decide (i = 2)), V.bl (decide (i = 3))]) ++ [V.bl (decide (i = 4)), V.bl (decide (i = 5)), V.bl (decide (i = 6)), V.bl (decide (i = 7))]) ++ [V.bl (decide (i = 8)), V.bl (decide (i = 9)), V.bl (decide (i = 10)), V.bl (decide (i = 11))]) ++ [V.bl (decide (i = 12)), V.bl (decide (i = 13)), V.bl (decide (i = 14)), V.bl (decide (i = 15))])) D3 = some (.lst (((([V.bl (decide (i = 0)), V.bl (decide (i = 1)), V.bl (decide (i = 2)), V.bl (decide (i = 3))]) ++ [V.bl (decide (i = 4)), V.bl (decide (i = 5)), V.bl (decide (i = 6)), V.bl (decide (i = 7))]) ++ [V.bl (decide (i = 8)), V.bl (decide (i = 9)), V.bl (decide (i = 10)), V.bl (decide (i = 11))]) ++ [V.bl (decide (i = 12)), V.bl (decide (i = 13)), V.bl (decide (i = 14)), V.bl (decide (i = 15))])) := upd_same
    generalize upd G3a D3 (.lst (((([V.bl (decide (i = 0)), V.bl (decide (i = 1)), V.bl (decide (i = 2)), V.bl (decide (i = 3))]) ++ [V.bl (decide (i = 4)), V.bl (decide (i = 5)), V.bl (decide (i = 6)), V.bl (decide (i = 7))]) ++ [V.bl (decide (i = 8)), V.bl (decide (i = 9)), V.bl (decide (i = 10)), V.bl (decide (i = 11))]) ++ [V.bl (decide (i = 12)), V.bl (decide (i = 13)), V.bl (decide (i = 14)), V.bl (decide (i = 15))])) = G3 at s3 c3 ⊢
    walk_at "hs"
    have S4 : Same H G3 := (S3.trans s3a).trans s3
    refine x_isV (her.same S4) he (T.k i 16 c _ hi rfl) ?_
    walk_at "hs"
    refine x_isV (her.same S4) he (T.k i 17 c _ hi rfl) ?_
    walk_at "hs"
    refine x_isV (her.same S4) he (T.k i 18 c _ hi rfl) ?_
    walk_at "hs"
    refine x_isV (her.same S4) he (T.k i 19 c _ hi rfl) ?_
    walk_at "hs"
    intro p4 h4
    have s4a := same_new (o := .lst ([V.bl (decide (i = 16)), V.bl (decide (i = 17)), V.bl (decide (i = 18)), V.bl (decide (i = 19))])) (Same.refl G3) h4
    have e4a : upd G3 p4 (.lst ([V.bl (decide (i = 16)), V.bl (decide (i = 17)), V.bl (decide (i = 18)), V.bl (decide (i = 19))])) p4 = some (.lst ([V.bl (decide (i = 16)), V.bl (decide (i = 17)), V.bl (decide (i = 18)), V.bl (decide (i = 19))])) := upd_same
    generalize upd G3 p4 (.lst ([V.bl (decide (i = 16)), V.bl (decide (i = 17)), V.bl (decide (i = 18)), V.bl (decide (i = 19))])) = G4a at s4a e4a ⊢
    walk_at "hs"
    refine x_cat (s4a _ _ c3) e4a (szLe (show 16 + 4 ≤ 100000 by decide)) ?_
    intro D4 m4
    have s4 := same_new (o := .lst ((((([V.bl (decide (i = 0)), V.bl (decide (i = 1)), V.bl (decide (i = 2)), V.bl (decide (i = 3))]) ++ [V.bl (decide (i = 4)), V.bl (decide (i = 5)), V.bl (decide (i = 6)), V.bl (decide (i = 7))]) ++ [V.bl (decide (i = 8)), V.bl (decide (i = 9)), V.bl (decide (i = 10)), V.bl (decide (i = 11))]) ++ [V.bl (decide (i = 12)), V.bl (decide (i = 13)), V.bl (decide (i = 14)), V.bl (decide (i = 15))]) ++ [V.bl (decide (i = 16)), V.bl (decide (i = 17)), V.bl (decide (i = 18)), V.bl (decide (i = 19))])) (Same.refl G4a) m4
    have c4 : upd G4a D4 (.lst ((((([V.bl (decide (i = 0)), V.bl (decide (i = 1)), V.bl (decide (i = 2)), V.bl (decide (i = 3))]) ++ [V.bl (decide (i = 4)), V.bl (decide (i = 5)), V.bl (decide (i = 6)), V.bl (decide (i = 7))]) ++ [V.bl (decide (i = 8)), V.bl (decide (i = 9)), V.bl (decide (i = 10)), V.bl (decide (i = 11))]) ++ [V.bl (decide (i = 12)), V.bl (decide (i = 13)), V.bl (decide (i = 14)), V.bl (decide (i = 15))]) ++ [V.bl (decide (i = 16)), V.bl (decide (i = 17)), V.bl (decide (i = 18)), V.bl (decide (i = 19))])) D4 = some (.lst ((((([V.bl (decide (i = 0)), V.bl (decide (i = 1)), V.bl (decide (i = 2)), V.bl (decide (i = 3))]) ++ [V.bl (decide (i = 4)), V.bl (decide (i = 5)), V.bl (decide (i = 6)), V.bl (decide (i = 7))]) ++ [V.bl (decide (i = 8)), V.bl (decide (i = 9)), V.bl (decide (i = 10)), V.bl (decide (i = 11))]) ++ [V.bl (decide (i = 12)), V.bl (decide (i = 13)), V.bl (decide (i = 14)), V.bl (decide (i = 15))]) ++ [V.bl (decide (i = 16)), V.bl (decide (i = 17)), V.bl (decide (i = 18)), V.bl (decide (i = 19))])) := upd_same
    generalize upd G4a D4 (.lst ((((([V.bl (decide (i = 0)), V.bl (decide (i = 1)), V.bl (decide (i = 2)), V.bl (decide (i = 3))]) ++ [V.bl (decide (i = 4)), V.bl (decide (i = 5)), V.bl (decide (i = 6)), V.bl (decide (i = 7))]) ++ [V.bl (decide (i = 8)), V.bl (decide (i = 9)), V.bl (decide (i = 10)), V.bl (decide (i = 11))]) ++ [V.bl (decide (i = 12)), V.bl (decide (i = 13)), V.bl (decide (i = 14)), V.bl (decide (i = 15))]) ++ [V.bl (decide (i = 16)), V.bl (decide (i = 17)), V.bl (decide (i = 18)), V.bl (decide (i = 19))])) = G4 at s4 c4 ⊢
    walk_at "hs"
    have S5 : Same H G4 := (S4.trans s4a).trans s4
    refine x_isV (her.same S5) he (T.k i 20 c _ hi rfl) ?_
    walk_at "hs"
    refine x_isV (her.same S5) he (T.k i 21 c _ hi rfl) ?_
    walk_at "hs"
    refine x_isV (her.same S5) he (T.k i 22 c _ hi rfl) ?_
    walk_at "hs"
    refine x_isV (her.same S5) he (T.k i 23 c _ hi rfl) ?_
    walk_at "hs"
    intro p5 h5
    have s5a := same_new (o := .lst ([V.bl (decide (i = 20)), V.bl (decide (i = 21)), V.bl (decide (i = 22)), V.bl (decide (i = 23))])) (Same.refl G4) h5
    have e5a : upd G4 p5 (.lst ([V.bl (decide (i = 20)), V.bl (decide (i = 21)), V.bl (decide (i = 22)), V.bl (decide (i = 23))])) p5 = some (.lst ([V.bl (decide (i = 20)), V.bl (decide (i = 21)), V.bl (decide (i = 22)), V.bl (decide (i = 23))])) := upd_same
    generalize upd G4 p5 (.lst ([V.bl (decide (i = 20)), V.bl (decide (i = 21)), V.bl (decide (i = 22)), V.bl (decide (i = 23))])) = G5a at s5a e5a ⊢
    walk_at "hs"
    refine x_cat (s5a _ _ c4) e5a (szLe (show 20 + 4 ≤ 100000 by decide)) ?_
    intro D5 m5
    have s5 := same_new (o := .lst (((((([V.bl (decide (i = 0)), V.bl (decide (i = 1)), V.bl (decide (i = 2)), V.bl (decide (i = 3))]) ++ [V.bl (decide (i = 4)), V.bl (decide (i = 5)), V.bl (decide (i = 6)), V.bl (decide (i = 7))]) ++ [V.bl (decide (i = 8)), V.bl (decide (i = 9)), V.bl (decide (i = 10)), V.bl (decide (i = 11))]) ++ [V.bl (decide (i = 12)), V.bl (decide (i = 13)), V.bl (decide (i = 14)), V.bl (decide (i = 15))]) ++ [V.bl (decide (i = 16)), V.bl (decide (i = 17)), V.bl (decide (i = 18)), V.bl (decide (i = 19))]) ++ [V.bl (decide (i = 20)), V.bl (decide (i = 21)), V.bl (decide (i = 22)), V.bl (decide (i = 23))])) (Same.refl G5a) m5
    have c5 : upd G5a D5 (.lst (((((([V.bl (decide (i = 0)), V.bl (decide (i = 1)), V.bl (decide (i = 2)), V.bl (decide (i = 3))]) ++ [V.bl (decide (i = 4)), V.bl (decide (i = 5)), V.bl (decide (i = 6)), V.bl (decide (i = 7))]) ++ [V.bl (decide (i = 8)), V.bl (decide (i = 9)), V.bl (decide (i = 10)), V.bl (decide (i = 11))]) ++ [V.bl (decide (i = 12)), V.bl (decide (i = 13)), V.bl (decide (i = 14)), V.bl (decide (i = 15))]) ++ [V.bl (decide (i = 16)), V.bl (decide (i = 17)), V.bl (decide (i = 18)), V.bl (decide (i = 19))]) ++ [V.bl (decide (i = 20)), V.bl (decide (i = 21)), V.bl (decide (i = 22)), V.bl (decide (i = 23))])) D5 = some (.lst (((((([V.bl (decide (i = 0)), V.bl (decide (i = 1)), V.bl (decide (i = 2)), V.bl (decide (i = 3))]) ++ [V.bl (decide (i = 4)), V.bl (decide (i = 5)), V.bl (decide (i = 6)), V.bl (decide (i = 7))]) ++ [V.bl (decide (i = 8)), V.bl (decide (i = 9)), V.bl (decide (i = 10)), V.bl (decide (i = 11))]) ++ [V.bl (decide (i = 12)), V.bl (decide (i = 13)), V.bl (decide (i = 14)), V.bl (decide (i = 15))]) ++ [V.bl (decide (i = 16)), V.bl (decide (i = 17)), V.bl (decide (i = 18)), V.bl (decide (i = 19))]) ++ [V.bl (decide (i = 20)), V.bl (decide (i = 21)), V.bl (decide (i = 22)), V.bl (decide (i = 23))])) := upd_same
    generalize upd G5a D5 (.lst (((((([V.bl (decide (i = 0)), V.bl (decide (i = 1)), V.bl (decide (i = 2)), V.bl (decide (i = 3))]) ++ [V.bl (decide (i = 4)), V.bl (decide (i = 5)), V.bl (decide (i = 6)), V.bl (decide (i = 7))]) ++ [V.bl (decide (i = 8)), V.bl (decide (i = 9)), V.bl (decide (i = 10)), V.bl (decide (i = 11))]) ++ [V.bl (decide (i = 12)), V.bl (decide (i = 13)), V.bl (decide (i = 14)), V.bl (decide (i = 15))]) ++ [V.bl (decide (i = 16)), V.bl (decide (i = 17)), V.bl (decide (i = 18)), V.bl (decide (i = 19))]) ++ [V.bl (decide (i = 20)), V.bl (decide (i = 21)), V.bl (decide (i = 22)), V.bl (decide (i = 23))])) = G5 at s5 c5 ⊢
    walk_at "hs"
    have S6 : Same H G5 := (S5.trans s5a).trans s5
    refine x_isV (her.same S6) he (T.k i 24 c _ hi rfl) ?_
    walk_at "hs"
    refine x_isV (her.same S6) he (T.k i 25 c _ hi rfl) ?_
    walk_at "hs"
    refine x_isV (her.same S6) he (T.k i 26 c _ hi rfl) ?_
    walk_at "hs"
    refine x_isV (her.same S6) he (T.k i 27 c _ hi rfl) ?_
    walk_at "hs"
    intro p6 h6
    have s6a := same_new (o := .lst ([V.bl (decide (i = 24)), V.bl (decide (i = 25)), V.bl (decide (i = 26)), V.bl (decide (i = 27))])) (Same.refl G5) h6
    have e6a : upd G5 p6 (.lst ([V.bl (decide (i = 24)), V.bl (decide (i = 25)), V.bl (decide (i = 26)), V.bl (decide (i = 27))])) p6 = some (.lst ([V.bl (decide (i = 24)), V.bl (decide (i = 25)), V.bl (decide (i = 26)), V.bl (decide (i = 27))])) := upd_same
    generalize upd G5 p6 (.lst ([V.bl (decide (i = 24)), V.bl (decide (i = 25)), V.bl (decide (i = 26)), V.bl (decide (i = 27))])) = G6a at s6a e6a ⊢
    walk_at "hs"
    refine x_cat (s6a _ _ c5) e6a (szLe (show 24 + 4 ≤ 100000 by decide)) ?_
    intro D6 m6
    have s6 := same_new (o := .lst ((((((([V.bl (decide (i = 0)), V.bl (decide (i = 1)), V.bl (decide (i = 2)), V.bl (decide (i = 3))]) ++ [V.bl (decide (i = 4)), V.bl (decide (i = 5)), V.bl (decide (i = 6)), V.bl (decide (i = 7))]) ++ [V.bl (decide (i = 8)), V.bl (decide (i = 9)), V.bl (decide (i = 10)), V.bl (decide (i = 11))]) ++ [V.bl (decide (i = 12)), V.bl (decide (i = 13)), V.bl (decide (i = 14)), V.bl (decide (i = 15))]) ++ [V.bl (decide (i = 16)), V.bl (decide (i = 17)), V.bl (decide (i = 18)), V.bl (decide (i = 19))]) ++ [V.bl (decide (i = 20)), V.bl (decide (i = 21)), V.bl (decide (i = 22)), V.bl (decide (i = 23))]) ++ [V.bl (decide (i = 24)), V.bl (decide (i = 25)), V.bl (decide (i = 26)), V.bl (decide (i = 27))])) (Same.refl G6a) m6
    have c6 : upd G6a D6 (.lst ((((((([V.bl (decide (i = 0)), V.bl (decide (i = 1)), V.bl (decide (i = 2)), V.bl (decide (i = 3))]) ++ [V.bl (decide (i = 4)), V.bl (decide (i = 5)), V.bl (decide (i = 6)), V.bl (decide (i = 7))]) ++ [V.bl (decide (i = 8)), V.bl (decide (i = 9)), V.bl (decide (i = 10)), V.bl (decide (i = 11))]) ++ [V.bl (decide (i = 12)), V.bl (decide (i = 13)), V.bl (decide (i = 14)), V.bl (decide (i = 15))]) ++ [V.bl (decide (i = 16)), V.bl (decide (i = 17)), V.bl (decide (i = 18)), V.bl (decide (i = 19))]) ++ [V.bl (decide (i = 20)), V.bl (decide (i = 21)), V.bl (decide (i = 22)), V.bl (decide (i = 23))]) ++ [V.bl (decide (i = 24)), V.bl (decide (i = 25)), V.bl (decide (i = 26)), V.bl (decide (i = 27))])) D6 = some (.lst ((((((([V.bl (decide (i = 0)), V.bl (decide (i = 1)), V.bl (decide (i = 2)), V.bl (decide (i = 3))]) ++ [V.bl (decide (i = 4)), V.bl (decide (i = 5)), V.bl (decide (i = 6)), V.bl (decide (i = 7))]) ++ [V.bl (decide (i = 8)), V.bl (decide (i = 9)), V.bl (decide (i = 10)), V.bl (decide (i = 11))]) ++ [V.bl (decide (i = 12)), V.bl (decide (i = 13)), V.bl (decide (i = 14)), V.bl (decide (i = 15))]) ++ [V.bl (decide (i = 16)), V.bl (decide (i = 17)), V.bl (decide (i = 18)), V.bl (decide (i = 19))]) ++ [V.bl (decide (i = 20)), V.bl (decide (i = 21)), V.bl (decide (i = 22)), V.bl (decide (i = 23))]) ++ [V.bl (decide (i = 24)), V.bl (decide (i = 25)), V.bl (decide (i = 26)), V.bl (decide (i = 27))])) := upd_same
    generalize upd G6a D6 (.lst ((((((([V.bl (decide (i = 0)), V.bl (decide (i = 1)), V.bl (decide (i = 2)), V.bl (decide (i = 3))]) ++ [V.bl (decide (i = 4)), V.bl (decide (i = 5)), V.bl (decide (i = 6)), V.bl (decide (i = 7))]) ++ [V.bl (decide (i = 8)), V.bl (decide (i = 9)), V.bl (decide (i = 10)), V.bl (decide (i = 11))]) ++ [V.bl (decide (i = 12)), V.bl (decide (i = 13)), V.bl (decide (i = 14)), V.bl (decide (i = 15))]) ++ [V.bl (decide (i = 16)), V.bl (decide (i = 17)), V.bl (decide (i = 18)), V.bl (decide (i = 19))]) ++ [V.bl (decide (i = 20)), V.bl (decide (i = 21)), V.bl (decide (i = 22)), V.bl (decide (i = 23))]) ++ [V.bl (decide (i = 24)), V.bl (decide (i = 25)), V.bl (decide (i = 26)), V.bl (decide (i = 27))])) = G6 at s6 c6 ⊢
    walk_at "hs"
    have S7 : Same H G6 := (S6.trans s6a).trans s6
    refine x_isV (her.same S7) he (T.k i 28 c _ hi rfl) ?_
    walk_at "hs"
    refine x_isV (her.same S7) he (T.k i 29 c _ hi rfl) ?_
    walk_at "hs"
    refine x_isV (her.same S7) he (T.k i 30 c _ hi rfl) ?_
    walk_at "hs"
    refine x_isV (her.same S7) he (T.k i 31 c _ hi rfl) ?_
    walk_at "hs"
    intro p7 h7
    have s7a := same_new (o := .lst ([V.bl (decide (i = 28)), V.bl (decide (i = 29)), V.bl (decide (i = 30)), V.bl (decide (i = 31))])) (Same.refl G6) h7
    have e7a : upd G6 p7 (.lst ([V.bl (decide (i = 28)), V.bl (decide (i = 29)), V.bl (decide (i = 30)), V.bl (decide (i = 31))])) p7 = some (.lst ([V.bl (decide (i = 28)), V.bl (decide (i = 29)), V.bl (decide (i = 30)), V.bl (decide (i = 31))])) := upd_same
    generalize upd G6 p7 (.lst ([V.bl (decide (i = 28)), V.bl (decide (i = 29)), V.bl (decide (i = 30)), V.bl (decide (i = 31))])) = G7a at s7a e7a ⊢
    walk_at "hs"
    refine x_cat (s7a _ _ c6) e7a (szLe (show 28 + 4 ≤ 100000 by decide)) ?_
    intro D7 m7
    have s7 := same_new (o := .lst (((((((([V.bl (decide (i = 0)), V.bl (decide (i = 1)), V.bl (decide (i = 2)), V.bl (decide (i = 3))]) ++ [V.bl (decide (i = 4)), V.bl (decide (i = 5)), V.bl (decide (i = 6)), V.bl (decide (i = 7))]) ++ [V.bl (decide (i = 8)), V.bl (decide (i = 9)), V.bl (decide (i = 10)), V.bl (decide (i = 11))]) ++ [V.bl (decide (i = 12)), V.bl (decide (i = 13)), V.bl (decide (i = 14)), V.bl (decide (i = 15))]) ++ [V.bl (decide (i = 16)), V.bl (decide (i = 17)), V.bl (decide (i = 18)), V.bl (decide (i = 19))]) ++ [V.bl (decide (i = 20)), V.bl (decide (i = 21)), V.bl (decide (i = 22)), V.bl (decide (i = 23))]) ++ [V.bl (decide (i = 24)), V.bl (decide (i = 25)), V.bl (decide (i = 26)), V.bl (decide (i = 27))]) ++ [V.bl (decide (i = 28)), V.bl (decide (i = 29)), V.bl (decide (i = 30)), V.bl (decide (i = 31))])) (Same.refl G7a) m7
    have c7 : upd G7a D7 (.lst (((((((([V.bl (decide (i = 0)), V.bl (decide (i = 1)), V.bl (decide (i = 2)), V.bl (decide (i = 3))]) ++ [V.bl (decide (i = 4)), V.bl (decide (i = 5)), V.bl (decide (i = 6)), V.bl (decide (i = 7))]) ++ [V.bl (decide (i = 8)), V.bl (decide (i = 9)), V.bl (decide (i = 10)), V.bl (decide (i = 11))]) ++ [V.bl (decide (i = 12)), V.bl (decide (i = 13)), V.bl (decide (i = 14)), V.bl (decide (i = 15))]) ++ [V.bl (decide (i = 16)), V.bl (decide (i = 17)), V.bl (decide (i = 18)), V.bl (decide (i = 19))]) ++ [V.bl (decide (i = 20)), V.bl (decide (i = 21)), V.bl (decide (i = 22)), V.bl (decide (i = 23))]) ++ [V.bl (decide (i = 24)), V.bl (decide (i = 25)), V.bl (decide (i = 26)), V.bl (decide (i = 27))]) ++ [V.bl (decide (i = 28)), V.bl (decide (i = 29)), V.bl (decide (i = 30)), V.bl (decide (i = 31))])) D7 = some (.lst (((((((([V.bl (decide (i = 0)), V.bl (decide (i = 1)), V.bl (decide (i = 2)), V.bl (decide (i = 3))]) ++ [V.bl (decide (i = 4)), V.bl (decide (i = 5)), V.bl (decide (i = 6)), V.bl (decide (i = 7))]) ++ [V.bl (decide (i = 8)), V.bl (decide (i = 9)), V.bl (decide (i = 10)), V.bl (decide (i = 11))]) ++ [V.bl (decide (i = 12)), V.bl (decide (i = 13)), V.bl (decide (i = 14)), V.bl (decide (i = 15))]) ++ [V.bl (decide (i = 16)), V.bl (decide (i = 17)), V.bl (decide (i = 18)), V.bl (decide (i = 19))]) ++ [V.bl (decide (i = 20)), V.bl (decide (i = 21)), V.bl (decide (i = 22)), V.bl (decide (i = 23))]) ++ [V.bl (decide (i = 24)), V.bl (decide (i = 25)), V.bl (decide (i = 26)), V.bl (decide (i = 27))]) ++ [V.bl (decide (i = 28)), V.bl (decide (i = 29)), V.bl (decide (i = 30)), V.bl (decide (i = 31))])) := upd_same
    generalize upd G7a D7 (.lst (((((((([V.bl (decide (i = 0)), V.bl (decide (i = 1)), V.bl (decide (i = 2)), V.bl (decide (i = 3))]) ++ [V.bl (decide (i = 4)), V.bl (decide (i = 5)), V.bl (decide (i = 6)), V.bl (decide (i = 7))]) ++ [V.bl (decide (i = 8)), V.bl (decide (i = 9)), V.bl (decide (i = 10)), V.bl (decide (i = 11))]) ++ [V.bl (decide (i = 12)), V.bl (decide (i = 13)), V.bl (decide (i = 14)), V.bl (decide (i = 15))]) ++ [V.bl (decide (i = 16)), V.bl (decide (i = 17)), V.bl (decide (i = 18)), V.bl (decide (i = 19))]) ++ [V.bl (decide (i = 20)), V.bl (decide (i = 21)), V.bl (decide (i = 22)), V.bl (decide (i = 23))]) ++ [V.bl (decide (i = 24)), V.bl (decide (i = 25)), V.bl (decide (i = 26)), V.bl (decide (i = 27))]) ++ [V.bl (decide (i = 28)), V.bl (decide (i = 29)), V.bl (decide (i = 30)), V.bl (decide (i = 31))])) = G7 at s7 c7 ⊢
    walk_at "hs"
    have S8 : Same H G7 := (S7.trans s7a).trans s7
    refine x_isV (her.same S8) he (T.k i 32 c _ hi rfl) ?_
    walk_at "hs"
    refine x_isV (her.same S8) he (T.k i 33 c _ hi rfl) ?_
    walk_at "hs"
    refine x_isV (her.same S8) he (T.k i 34 c _ hi rfl) ?_
    walk_at "hs"
    intro p8 h8
    have s8a := same_new (o := .lst ([V.bl (decide (i = 32)), V.bl (decide (i = 33)), V.bl (decide (i = 34))])) (Same.refl G7) h8
    have e8a : upd G7 p8 (.lst ([V.bl (decide (i = 32)), V.bl (decide (i = 33)), V.bl (decide (i = 34))])) p8 = some (.lst ([V.bl (decide (i = 32)), V.bl (decide (i = 33)), V.bl (decide (i = 34))])) := upd_same
    generalize upd G7 p8 (.lst ([V.bl (decide (i = 32)), V.bl (decide (i = 33)), V.bl (decide (i = 34))])) = G8a at s8a e8a ⊢
    walk_at "hs"
    refine x_cat (s8a _ _ c7) e8a (szLe (show 32 + 3 ≤ 100000 by decide)) ?_
    intro D8 m8
    have s8 := same_new (o := .lst ((((((((([V.bl (decide (i = 0)), V.bl (decide (i = 1)), V.bl (decide (i = 2)), V.bl (decide (i = 3))]) ++ [V.bl (decide (i = 4)), V.bl (decide (i = 5)), V.bl (decide (i = 6)), V.bl (decide (i = 7))]) ++ [V.bl (decide (i = 8)), V.bl (decide (i = 9)), V.bl (decide (i = 10)), V.bl (decide (i = 11))]) ++ [V.bl (decide (i = 12)), V.bl (decide (i = 13)), V.bl (decide (i = 14)), V.bl (decide (i = 15))]) ++ [V.bl (decide (i = 16)), V.bl (decide (i = 17)), V.bl (decide (i = 18)), V.bl (decide (i = 19))]) ++ [V.bl (decide (i = 20)), V.bl (decide (i = 21)), V.bl (decide (i = 22)), V.bl (decide (i = 23))]) ++ [V.bl (decide (i = 24)), V.bl (decide (i = 25)), V.bl (decide (i = 26)), V.bl (decide (i = 27))]) ++ [V.bl (decide (i = 28)), V.bl (decide (i = 29)), V.bl (decide (i = 30)), V.bl (decide (i = 31))]) ++ [V.bl (decide (i = 32)), V.bl (decide (i = 33)), V.bl (decide (i = 34))])) (Same.refl G8a) m8
    have c8 : upd G8a D8 (.lst ((((((((([V.bl (decide (i = 0)), V.bl (decide (i = 1)), V.bl (decide (i = 2)), V.bl (decide (i = 3))]) ++ [V.bl (decide (i = 4)), V.bl (decide (i = 5)), V.bl (decide (i = 6)), V.bl (decide (i = 7))]) ++ [V.bl (decide (i = 8)), V.bl (decide (i = 9)), V.bl (decide (i = 10)), V.bl (decide (i = 11))]) ++ [V.bl (decide (i = 12)), V.bl (decide (i = 13)), V.bl (decide (i = 14)), V.bl (decide (i = 15))]) ++ [V.bl (decide (i = 16)), V.bl (decide (i = 17)), V.bl (decide (i = 18)), V.bl (decide (i = 19))]) ++ [V.bl (decide (i = 20)), V.bl (decide (i = 21)), V.bl (decide (i = 22)), V.bl (decide (i = 23))]) ++ [V.bl (decide (i = 24)), V.bl (decide (i = 25)), V.bl (decide (i = 26)), V.bl (decide (i = 27))]) ++ [V.bl (decide (i = 28)), V.bl (decide (i = 29)), V.bl (decide (i = 30)), V.bl (decide (i = 31))]) ++ [V.bl (decide (i = 32)), V.bl (decide (i = 33)), V.bl (decide (i = 34))])) D8 = some (.lst ((((((((([V.bl (decide (i = 0)), V.bl (decide (i = 1)), V.bl (decide (i = 2)), V.bl (decide (i = 3))]) ++ [V.bl (decide (i = 4)), V.bl (decide (i = 5)), V.bl (decide (i = 6)), V.bl (decide (i = 7))]) ++ [V.bl (decide (i = 8)), V.bl (decide (i = 9)), V.bl (decide (i = 10)), V.bl (decide (i = 11))]) ++ [V.bl (decide (i = 12)), V.bl (decide (i = 13)), V.bl (decide (i = 14)), V.bl (decide (i = 15))]) ++ [V.bl (decide (i = 16)), V.bl (decide (i = 17)), V.bl (decide (i = 18)), V.bl (decide (i = 19))]) ++ [V.bl (decide (i = 20)), V.bl (decide (i = 21)), V.bl (decide (i = 22)), V.bl (decide (i = 23))]) ++ [V.bl (decide (i = 24)), V.bl (decide (i = 25)), V.bl (decide (i = 26)), V.bl (decide (i = 27))]) ++ [V.bl (decide (i = 28)), V.bl (decide (i = 29)), V.bl (decide (i = 30)), V.bl (decide (i = 31))]) ++ [V.bl (decide (i = 32)), V.bl (decide (i = 33)), V.bl (decide (i = 34))])) := upd_same
    generalize upd G8a D8 (.lst ((((((((([V.bl (decide (i = 0)), V.bl (decide (i = 1)), V.bl (decide (i = 2)), V.bl (decide (i = 3))]) ++ [V.bl (decide (i = 4)), V.bl (decide (i = 5)), V.bl (decide (i = 6)), V.bl (decide (i = 7))]) ++ [V.bl (decide (i = 8)), V.bl (decide (i = 9)), V.bl (decide (i = 10)), V.bl (decide (i = 11))]) ++ [V.bl (decide (i = 12)), V.bl (decide (i = 13)), V.bl (decide (i = 14)), V.bl (decide (i = 15))]) ++ [V.bl (decide (i = 16)), V.bl (decide (i = 17)), V.bl (decide (i = 18)), V.bl (decide (i = 19))]) ++ [V.bl (decide (i = 20)), V.bl (decide (i = 21)), V.bl (decide (i = 22)), V.bl (decide (i = 23))]) ++ [V.bl (decide (i = 24)), V.bl (decide (i = 25)), V.bl (decide (i = 26)), V.bl (decide (i = 27))]) ++ [V.bl (decide (i = 28)), V.bl (decide (i = 29)), V.bl (decide (i = 30)), V.bl (decide (i = 31))]) ++ [V.bl (decide (i = 32)), V.bl (decide (i = 33)), V.bl (decide (i = 34))])) = G8 at s8 c8 ⊢
    walk_at "hs"
    have S9 : Same H G8 := (S8.trans s8a).trans s8
    refine x_isV (her.same S9) he (T.k i 35 c _ hi rfl) ?_
    walk_at "hs"
    refine x_isV (her.same S9) he (T.k i 36 c _ hi rfl) ?_
    walk_at "hs"
    refine x_isV (her.same S9) he (T.k i 37 c _ hi rfl) ?_
    walk_at "hs"
    intro p9 h9
    have s9a := same_new (o := .lst ([V.bl (decide (i = 35)), V.bl (decide (i = 36)), V.bl (decide (i = 37))])) (Same.refl G8) h9
    have e9a : upd G8 p9 (.lst ([V.bl (decide (i = 35)), V.bl (decide (i = 36)), V.bl (decide (i = 37))])) p9 = some (.lst ([V.bl (decide (i = 35)), V.bl (decide (i = 36)), V.bl (decide (i = 37))])) := upd_same
    generalize upd G8 p9 (.lst ([V.bl (decide (i = 35)), V.bl (decide (i = 36)), V.bl (decide (i = 37))])) = G9a at s9a e9a ⊢
    walk_at "hs"
    refine x_cat (s9a _ _ c8) e9a (szLe (show 35 + 3 ≤ 100000 by decide)) ?_
    intro D9 m9
    have s9 := same_new (o := .lst (((((((((([V.bl (decide (i = 0)), V.bl (decide (i = 1)), V.bl (decide (i = 2)), V.bl (decide (i = 3))]) ++ [V.bl (decide (i = 4)), V.bl (decide (i = 5)), V.bl (decide (i = 6)), V.bl (decide (i = 7))]) ++ [V.bl (decide (i = 8)), V.bl (decide (i = 9)), V.bl (decide (i = 10)), V.bl (decide (i = 11))]) ++ [V.bl (decide (i = 12)), V.bl (decide (i = 13)), V.bl (decide (i = 14)), V.bl (decide (i = 15))]) ++ [V.bl (decide (i = 16)), V.bl (decide (i = 17)), V.bl (decide (i = 18)), V.bl (decide (i = 19))]) ++ [V.bl (decide (i = 20)), V.bl (decide (i = 21)), V.bl (decide (i = 22)), V.bl (decide (i = 23))]) ++ [V.bl (decide (i = 24)), V.bl (decide (i = 25)), V.bl (decide (i = 26)), V.bl (decide (i = 27))]) ++ [V.bl (decide (i = 28)), V.bl (decide (i = 29)), V.bl (decide (i = 30)), V.bl (decide (i = 31))]) ++ [V.bl (decide (i = 32)), V.bl (decide (i = 33)), V.bl (decide (i = 34))]) ++ [V.bl (decide (i = 35)), V.bl (decide (i = 36)), V.bl (decide (i = 37))])) (Same.refl G9a) m9
    have c9 : upd G9a D9 (.lst (((((((((([V.bl (decide (i = 0)), V.bl (decide (i = 1)), V.bl (decide (i = 2)), V.bl (decide (i = 3))]) ++ [V.bl (decide (i = 4)), V.bl (decide (i = 5)), V.bl (decide (i = 6)), V.bl (decide (i = 7))]) ++ [V.bl (decide (i = 8)), V.bl (decide (i = 9)), V.bl (decide (i = 10)), V.bl (decide (i = 11))]) ++ [V.bl (decide (i = 12)), V.bl (decide (i = 13)), V.bl (decide (i = 14)), V.bl (decide (i = 15))]) ++ [V.bl (decide (i = 16)), V.bl (decide (i = 17)), V.bl (decide (i = 18)), V.bl (decide (i = 19))]) ++ [V.bl (decide (i = 20)), V.bl (decide (i = 21)), V.bl (decide (i = 22)), V.bl (decide (i = 23))]) ++ [V.bl (decide (i = 24)), V.bl (decide (i = 25)), V.bl (decide (i = 26)), V.bl (decide (i = 27))]) ++ [V.bl (decide (i = 28)), V.bl (decide (i = 29)), V.bl (decide (i = 30)), V.bl (decide (i = 31))]) ++ [V.bl (decide (i = 32)), V.bl (decide (i = 33)), V.bl (decide (i = 34))]) ++ [V.bl (decide (i = 35)), V.bl (decide (i = 36)), V.bl (decide (i = 37))])) D9 = some (.lst (((((((((([V.bl (decide (i = 0)), V.bl (decide (i = 1)), V.bl (decide (i = 2)), V.bl (decide (i = 3))]) ++ [V.bl (decide (i = 4)), V.bl (decide (i = 5)), V.bl (decide (i = 6)), V.bl (decide (i = 7))]) ++ [V.bl (decide (i = 8)), V.bl (decide (i = 9)), V.bl (decide (i = 10)), V.bl (decide (i = 11))]) ++ [V.bl (decide (i = 12)), V.bl (decide (i = 13)), V.bl (decide (i = 14)), V.bl (decide (i = 15))]) ++ [V.bl (decide (i = 16)), V.bl (decide (i = 17)), V.bl (decide (i = 18)), V.bl (decide (i = 19))]) ++ [V.bl (decide (i = 20)), V.bl (decide (i = 21)), V.bl (decide (i = 22)), V.bl (decide (i = 23))]) ++ [V.bl (decide (i = 24)), V.bl (decide (i = 25)), V.bl (decide (i = 26)), V.bl (decide (i = 27))]) ++ [V.bl (decide (i = 28)), V.bl (decide (i = 29)), V.bl (decide (i = 30)), V.bl (decide (i = 31))]) ++ [V.bl (decide (i = 32)), V.bl (decide (i = 33)), V.bl (decide (i = 34))]) ++ [V.bl (decide (i = 35)), V.bl (decide (i = 36)), V.bl (decide (i = 37))])) := upd_same
    generalize upd G9a D9 (.lst (((((((((([V.bl (decide (i = 0)), V.bl (decide (i = 1)), V.bl (decide (i = 2)), V.bl (decide (i = 3))]) ++ [V.bl (decide (i = 4)), V.bl (decide (i = 5)), V.bl (decide (i = 6)), V.bl (decide (i = 7))]) ++ [V.bl (decide (i = 8)), V.bl (decide (i = 9)), V.bl (decide (i = 10)), V.bl (decide (i = 11))]) ++ [V.bl (decide (i = 12)), V.bl (decide (i = 13)), V.bl (decide (i = 14)), V.bl (decide (i = 15))]) ++ [V.bl (decide (i = 16)), V.bl (decide (i = 17)), V.bl (decide (i = 18)), V.bl (decide (i = 19))]) ++ [V.bl (decide (i = 20)), V.bl (decide (i = 21)), V.bl (decide (i = 22)), V.bl (decide (i = 23))]) ++ [V.bl (decide (i = 24)), V.bl (decide (i = 25)), V.bl (decide (i = 26)), V.bl (decide (i = 27))]) ++ [V.bl (decide (i = 28)), V.bl (decide (i = 29)), V.bl (decide (i = 30)), V.bl (decide (i = 31))]) ++ [V.bl (decide (i = 32)), V.bl (decide (i = 33)), V.bl (decide (i = 34))]) ++ [V.bl (decide (i = 35)), V.bl (decide (i = 36)), V.bl (decide (i = 37))])) = G9 at s9 c9 ⊢
    walk_at "hs"
    have S10 : Same H G9 := (S9.trans s9a).trans s9
    have e38 : G9 D9 = some (.lst ((List.range 38).map fun j => V.bl (decide (i = j)))) := c9
    clear c9
    have i38 : i < 38 := by
      have := (List.getElem?_eq_some_iff.mp hi).1
      exact this
    have fil : ∀ n, n < 38 → (List.range 38).filter (fun j => decide (n = j)) = [n] := by decide
    refine ⟨((38 : Nat) : Int), rfl, by omega, by omega, fun D hD => ?_⟩
    have nD : H D = none := Same.free S10 hD
    refine lc_range (lo := 0) (n := 38) (fun k G => Same G9 G ∧ G D = some (.lst (((List.range k).filter fun j => decide (i = j)).map fun j : Nat => V.int (j : Int)))) ⟨same_new (Same.refl _) hD, upd_same⟩ ?_ ?_
    · rintro k G hk ⟨s1, eD⟩
      have eE := s1 _ _ e38
      have a1 : atI ((List.range 38).map fun j => V.bl (decide (i = j))) (0 + (k : Int)) = some (.bl (decide (i = k))) := by
        rw [Int.zero_add]
        exact atI_nat (by rw [List.getElem?_map, List.getElem?_range hk]; rfl)
      walk_at "hs"
      refine ⟨rfl, ?_⟩
      walk_at "hs"
      refine x_isd (fun c => ?_) (fun c => ?_)
      · walk_at "hs"
        refine ⟨_, eD, szLt (Nat.lt_of_le_of_lt (by rw [List.length_map]; exact List.length_filter_le ..) (by rw [List.length_range]; omega)), same_mut s1 hD, ?_⟩
        rw [upd_same, range0_snoc, if_pos (decide_eq_true c), List.map_append]
        subst c
        simp
      · walk_at "hs"
        refine ⟨s1, ?_⟩
        rw [eD, range0_snoc, if_neg (by simpa using c), List.append_nil]
    · rintro G ⟨s1, eD⟩
      walk_at "hs"
      exact q D G (S10.trans s1) nD (eD.trans (by rw [fil i i38]; rfl))
end
set_option maxRecDepth 100000
set_option maxHeartbeats 4000000
open PySem PySem.Spec L2


def newH (H H' : Hp) : Hp := fun b => if H b = none then H' b else none
theorem newH_same {H H1 H2 : Hp} (s : Same H1 H2) : Same (newH H H1) (newH H H2) := fun b o e => by
  unfold newH at *
  by_cases h : H b = none
  · rw [if_pos h] at e ⊢
    exact s _ _ e
  · rw [if_neg h] at e
    cases e
theorem newH_at {H H' : Hp} {b : Addr} {o : HO} (n : H b = none) (e : H' b = some o) : newH H H' b = some o := by
  unfold newH
  rw [if_pos n]
  exact e
theorem newH_le {H H0 H' : Hp} (s : Same H H0) : Same (newH H0 H') (newH H H') := fun b o e => by
  unfold newH at *
  by_cases h : H0 b = none
  · rw [if_pos h] at e
    rw [if_pos (Same.free s h)]
    exact e
  · rw [if_neg h] at e
    cases e
theorem newH_but {H H1 H2 : Hp} {p : Addr} {o : HO} (hp : H p = some o) (b : But p H1 H2) : Same (newH H H1) H2 := fun c u e => by
  unfold newH at e
  by_cases h : H c = none
  · rw [if_pos h] at e
    exact b c u (fun z => by rw [z, hp] at h; cases h) e
  · rw [if_neg h] at e
    cases e
section
variable {P : Program} {w : World} {K : PySem.W.Frag} {mg : Str → Option Value} {base : Heap} {Z : Ad}
def spDeepR : Sp := fun vs H Q _ => vs = [] ∧ ∀ (a : Addr) H', Same H H' → H a = none → Rx (newH H H') 33 (.ref a) → Q (.ref a) H'
theorem ok_deepR {f : Addr} {fd : FuncData} (F : Fun K "_law_deep" "_law_deep" s__law_deep f fd) (B : Bl Z mg) : FnOk P w K mg base CX0 1 f fd [] spDeepR := by
  refine F.ok sc__law_deep (fun vs H Q E h => ?_) (fun cdv A outer s H vs Q E hr h => ?_)
  · obtain ⟨rfl, _⟩ := h
    rfl
  · obtain ⟨rfl, q⟩ := h
    refine ⟨_, (pss_cons (ps_set (i := 0) sc__law_deep.nd rfl (Or.inl rfl) (pe_lst (pa_cons pe_non pa_nil)))
 (pss_cons (ps_for PassesOwn.never rfl (pi_range1 rfl B.b_range (pa_cons pe_int pa_nil)) (pg_name (i := 1) sc__law_deep.nd rfl (Or.inl rfl)) (pss_one (ps_set (i := 0) sc__law_deep.nd rfl (Or.inl rfl) (pe_ifExp (pt_cmpR op_eq (pe_op op_mod (pe_callTy call_int (by rfl) B.b_int (by decide +kernel) (pa_cons (pv 1) pa_nil)) pe_int) pe_int (nomark _)) (pe_tup (pa_cons (pv 0) pa_nil)) (pe_lst (pa_cons (pv 0) pa_nil))))))
 (pss_one (ps_ret (pv 0))))), ?_⟩
    walk_at "h0"
    intro a0 h0
    walk_at "hs"
    refine ⟨32, rfl, by decide, by decide, ?_⟩
    refine lp_range (lo := 0) (n := 32) (fun i σ' H' => ∃ (a : Addr) (y : Option V), σ' = [some (.ref a), y] ∧ Same H H' ∧ H a = none ∧ Rx (newH H H') (i + 1) (.ref a))
      ⟨a0, none, rfl, by walk_at "sm", h0, Rx.lst (newH_at h0 upd_same) (by show 1 ≤ 1000; decide) fun y hy => by rw [List.mem_singleton.mp hy]; exact Rx.sca rfl⟩ ?_ ?_
    · rintro i σ' H' hi ⟨a, y, rfl, s1, na, al⟩
      walk_at "hs"
      refine x_isd (fun c => ?_) (fun c => ?_)
      · walk_at "hs"
        intro b hb
        walk_at "hs"
        exact ⟨b, _, rfl, by walk_at "sm", s1.free hb, Rx.tup (newH_at (s1.free hb) upd_same) (by show 1 ≤ 1000; decide) fun y hy => by rw [List.mem_singleton.mp hy]; exact al.same (newH_same (same_new (Same.refl _) hb))⟩
      · walk_at "hs"
        intro b hb
        walk_at "hs"
        exact ⟨b, _, rfl, by walk_at "sm", s1.free hb, Rx.lst (newH_at (s1.free hb) upd_same) (by show 1 ≤ 1000; decide) fun y hy => by rw [List.mem_singleton.mp hy]; exact al.same (newH_same (same_new (Same.refl _) hb))⟩
    · rintro σ' H' ⟨a, y, rfl, s1, na, al⟩
      walk_at "hs"
      exact q _ _ s1 na al
end
set_option maxRecDepth 100000
set_option maxHeartbeats 8000000
open PySem PySem.Spec L2


theorem sc_law : FnScope ["_law_script", "_law_pool_here", "_law_things", "_law_thing", "_law_other", "_law_found", "_law_at", "_law_fields", "_law_field"] ["_law_script"] (defScope s_law) := ⟨rfl, rfl, rfl, by decide +kernel, rfl, by decide +kernel, by decide +kernel⟩
section
variable {P : Program} {w : World} {K : PySem.W.Frag} {mg : Str → Option Value} {base : Heap} {Z : Ad}
def spLaw (K : PySem.W.Frag) : Sp := fun vs H Q E => ∃ (a : Addr) (ns : List Int), vs = [.ref a] ∧ SqL K H a (ns.map V.int) ∧ ns.length ≤ 63 ∧ ∀ H', Q (.bl true) H'
def errsN (Z : Ad) (x y : V) : List (Addr × Fs) := [(Z.a_NoBlock, []), (Z.a_NoPlace, []), (Z.a_Beneath, []), (Z.a_NoOrder, []), (Z.a_NoView, []), (Z.a_OtherBlocks, []), (Z.a_NoNumber, []), (Z.a_NoLot, []), (Z.a_NoTree, []), (Z.a_NotFitting, []), (Z.a_NoTelling, []), (Z.a_NoWord, []), (Z.a_NoWorth, []), (Z.a_NothingWaits, []), (Z.a_NoText, []), (Z.a_NoBlocks, []), (Z.a_NoLine, []), (Z.a_NoLines, []), (Z.a_BadTree, [(("part" : Str), x)]), (Z.a_BadPicture, [(("part" : Str), x)]), (Z.a_TooMany, [(("most" : Str), x)]), (Z.a_BadWords, [(("part" : Str), x)]), (Z.a_BadHistory, [(("part" : Str), x)]), (Z.a_RingTold, [(("blocks" : Str), x)]), (Z.a_NameTwice, [(("name" : Str), y), (("place" : Str), x)]), (Z.a_BadBody, [(("block" : Str), x)]), (Z.a_NoPath, [(("path" : Str), x)]), (Z.a_NotThere, [(("path" : Str), x)]), (Z.a_NotFolder, [(("path" : Str), x)]), (Z.a_NotFile, [(("path" : Str), x)]), (Z.a_TakenPath, [(("path" : Str), x)]), (Z.a_NotEmpty, [(("path" : Str), x)]), (Z.a_BadText, [(("line" : Str), x)]), (Z.a_NoChanges, []), (Z.a_UnderWay, []), (Z.a_NotUnderWay, []), (Z.a_BadBook, [(("path" : Str), x)]), (Z.a_NotKept, [(("name" : Str), x)])]
theorem errs_cls (x y : V) (i : Nat) (q : Addr × Fs) (h : (errsN Z x y)[i]? = some q) : (clsN Z)[i]? = some q.1 := by
  have e : clsN Z = (errsN Z x y).map (·.1) := rfl
  rw [e, List.getElem?_map, h]
  rfl
theorem ok_law {f : Addr} {fd : FuncData} (F : Fun K "law" "law" s_law f fd) (B : Bl Z mg) (T : ErT K Z) (hVE : L2.ExcC K Z.a_VoteError) (kVE : PySem.W.kitOne K (.ref Z.a_VoteError) (.type "ValueError") = some true)
    (qV : PySem.W.excIn K Z.a_VoteError [.type "ValueError", .type "Exception", .type "BaseException", .type "object"] "ValueError.__new__" = true) (kV : PySem.W.keepIn K (.ref Z.a_VoteError) = true)
    {fI_NoBlock : Addr} (X_NoBlock : SupC P K Z.a_NoBlock fI_NoBlock)
    {fI_NoPlace : Addr} (X_NoPlace : SupC P K Z.a_NoPlace fI_NoPlace)
    {fI_Beneath : Addr} (X_Beneath : SupC P K Z.a_Beneath fI_Beneath)
    {fI_NoOrder : Addr} (X_NoOrder : SupC P K Z.a_NoOrder fI_NoOrder)
    {fI_NoView : Addr} (X_NoView : SupC P K Z.a_NoView fI_NoView)
    {fI_OtherBlocks : Addr} (X_OtherBlocks : SupC P K Z.a_OtherBlocks fI_OtherBlocks)
    {fI_NoNumber : Addr} (X_NoNumber : SupC P K Z.a_NoNumber fI_NoNumber)
    {fI_NoLot : Addr} (X_NoLot : SupC P K Z.a_NoLot fI_NoLot)
    {fI_NoTree : Addr} (X_NoTree : SupC P K Z.a_NoTree fI_NoTree)
    {fI_NotFitting : Addr} (X_NotFitting : SupC P K Z.a_NotFitting fI_NotFitting)
    {fI_NoTelling : Addr} (X_NoTelling : SupC P K Z.a_NoTelling fI_NoTelling)
    {fI_NoWord : Addr} (X_NoWord : SupC P K Z.a_NoWord fI_NoWord)
    {fI_NoWorth : Addr} (X_NoWorth : SupC P K Z.a_NoWorth fI_NoWorth)
    {fI_NothingWaits : Addr} (X_NothingWaits : SupC P K Z.a_NothingWaits fI_NothingWaits)
    {fI_NoText : Addr} (X_NoText : SupC P K Z.a_NoText fI_NoText)
    {fI_NoBlocks : Addr} (X_NoBlocks : SupC P K Z.a_NoBlocks fI_NoBlocks)
    {fI_NoLine : Addr} (X_NoLine : SupC P K Z.a_NoLine fI_NoLine)
    {fI_NoLines : Addr} (X_NoLines : SupC P K Z.a_NoLines fI_NoLines)
    {fI_NoChanges : Addr} (X_NoChanges : SupC P K Z.a_NoChanges fI_NoChanges)
    {fI_UnderWay : Addr} (X_UnderWay : SupC P K Z.a_UnderWay fI_UnderWay)
    {fI_NotUnderWay : Addr} (X_NotUnderWay : SupC P K Z.a_NotUnderWay fI_NotUnderWay)
    {f_BadTree___init__ : Addr} {fd_BadTree___init__ : FuncData} (C_BadTree___init__ : CalM K f_BadTree___init__ fd_BadTree___init__ ["self", "part"]) (G_BadTree___init__ : FnOk P w K mg base CX0 1 f_BadTree___init__ fd_BadTree___init__ ["self", "part"] (spField Z.a_BadTree "part")) (X_BadTree : ExcF K Z.a_BadTree f_BadTree___init__ "part")
    {f_BadPicture___init__ : Addr} {fd_BadPicture___init__ : FuncData} (C_BadPicture___init__ : CalM K f_BadPicture___init__ fd_BadPicture___init__ ["self", "part"]) (G_BadPicture___init__ : FnOk P w K mg base CX0 1 f_BadPicture___init__ fd_BadPicture___init__ ["self", "part"] (spField Z.a_BadPicture "part")) (X_BadPicture : ExcF K Z.a_BadPicture f_BadPicture___init__ "part")
    {f_TooMany___init__ : Addr} {fd_TooMany___init__ : FuncData} (C_TooMany___init__ : CalM K f_TooMany___init__ fd_TooMany___init__ ["self", "most"]) (G_TooMany___init__ : FnOk P w K mg base CX0 1 f_TooMany___init__ fd_TooMany___init__ ["self", "most"] (spField Z.a_TooMany "most")) (X_TooMany : ExcF K Z.a_TooMany f_TooMany___init__ "most")
    {f_BadWords___init__ : Addr} {fd_BadWords___init__ : FuncData} (C_BadWords___init__ : CalM K f_BadWords___init__ fd_BadWords___init__ ["self", "part"]) (G_BadWords___init__ : FnOk P w K mg base CX0 1 f_BadWords___init__ fd_BadWords___init__ ["self", "part"] (spField Z.a_BadWords "part")) (X_BadWords : ExcF K Z.a_BadWords f_BadWords___init__ "part")
    {f_BadHistory___init__ : Addr} {fd_BadHistory___init__ : FuncData} (C_BadHistory___init__ : CalM K f_BadHistory___init__ fd_BadHistory___init__ ["self", "part"]) (G_BadHistory___init__ : FnOk P w K mg base CX0 1 f_BadHistory___init__ fd_BadHistory___init__ ["self", "part"] (spField Z.a_BadHistory "part")) (X_BadHistory : ExcF K Z.a_BadHistory f_BadHistory___init__ "part")
    {f_RingTold___init__ : Addr} {fd_RingTold___init__ : FuncData} (C_RingTold___init__ : CalM K f_RingTold___init__ fd_RingTold___init__ ["self", "blocks"]) (G_RingTold___init__ : FnOk P w K mg base CX0 1 f_RingTold___init__ fd_RingTold___init__ ["self", "blocks"] (spField Z.a_RingTold "blocks")) (X_RingTold : ExcF K Z.a_RingTold f_RingTold___init__ "blocks")
    {f_NameTwice___init__ : Addr} {fd_NameTwice___init__ : FuncData} (C_NameTwice___init__ : CalM K f_NameTwice___init__ fd_NameTwice___init__ ["self", "place", "name"]) (G_NameTwice___init__ : FnOk P w K mg base CX0 1 f_NameTwice___init__ fd_NameTwice___init__ ["self", "place", "name"] (spField2 Z.a_NameTwice "place" "name")) (X_NameTwice : ExcF K Z.a_NameTwice f_NameTwice___init__ "place")
    {f_BadBody___init__ : Addr} {fd_BadBody___init__ : FuncData} (C_BadBody___init__ : CalM K f_BadBody___init__ fd_BadBody___init__ ["self", "block"]) (G_BadBody___init__ : FnOk P w K mg base CX0 1 f_BadBody___init__ fd_BadBody___init__ ["self", "block"] (spField Z.a_BadBody "block")) (X_BadBody : ExcF K Z.a_BadBody f_BadBody___init__ "block")
    {f_NoPath___init__ : Addr} {fd_NoPath___init__ : FuncData} (C_NoPath___init__ : CalM K f_NoPath___init__ fd_NoPath___init__ ["self", "path"]) (G_NoPath___init__ : FnOk P w K mg base CX0 1 f_NoPath___init__ fd_NoPath___init__ ["self", "path"] (spField Z.a_NoPath "path")) (X_NoPath : ExcF K Z.a_NoPath f_NoPath___init__ "path")
    {f_NotThere___init__ : Addr} {fd_NotThere___init__ : FuncData} (C_NotThere___init__ : CalM K f_NotThere___init__ fd_NotThere___init__ ["self", "path"]) (G_NotThere___init__ : FnOk P w K mg base CX0 1 f_NotThere___init__ fd_NotThere___init__ ["self", "path"] (spField Z.a_NotThere "path")) (X_NotThere : ExcF K Z.a_NotThere f_NotThere___init__ "path")
    {f_NotFolder___init__ : Addr} {fd_NotFolder___init__ : FuncData} (C_NotFolder___init__ : CalM K f_NotFolder___init__ fd_NotFolder___init__ ["self", "path"]) (G_NotFolder___init__ : FnOk P w K mg base CX0 1 f_NotFolder___init__ fd_NotFolder___init__ ["self", "path"] (spField Z.a_NotFolder "path")) (X_NotFolder : ExcF K Z.a_NotFolder f_NotFolder___init__ "path")
    {f_NotFile___init__ : Addr} {fd_NotFile___init__ : FuncData} (C_NotFile___init__ : CalM K f_NotFile___init__ fd_NotFile___init__ ["self", "path"]) (G_NotFile___init__ : FnOk P w K mg base CX0 1 f_NotFile___init__ fd_NotFile___init__ ["self", "path"] (spField Z.a_NotFile "path")) (X_NotFile : ExcF K Z.a_NotFile f_NotFile___init__ "path")
    {f_TakenPath___init__ : Addr} {fd_TakenPath___init__ : FuncData} (C_TakenPath___init__ : CalM K f_TakenPath___init__ fd_TakenPath___init__ ["self", "path"]) (G_TakenPath___init__ : FnOk P w K mg base CX0 1 f_TakenPath___init__ fd_TakenPath___init__ ["self", "path"] (spField Z.a_TakenPath "path")) (X_TakenPath : ExcF K Z.a_TakenPath f_TakenPath___init__ "path")
    {f_NotEmpty___init__ : Addr} {fd_NotEmpty___init__ : FuncData} (C_NotEmpty___init__ : CalM K f_NotEmpty___init__ fd_NotEmpty___init__ ["self", "path"]) (G_NotEmpty___init__ : FnOk P w K mg base CX0 1 f_NotEmpty___init__ fd_NotEmpty___init__ ["self", "path"] (spField Z.a_NotEmpty "path")) (X_NotEmpty : ExcF K Z.a_NotEmpty f_NotEmpty___init__ "path")
    {f_BadText___init__ : Addr} {fd_BadText___init__ : FuncData} (C_BadText___init__ : CalM K f_BadText___init__ fd_BadText___init__ ["self", "line"]) (G_BadText___init__ : FnOk P w K mg base CX0 1 f_BadText___init__ fd_BadText___init__ ["self", "line"] (spField Z.a_BadText "line")) (X_BadText : ExcF K Z.a_BadText f_BadText___init__ "line")
    {f_BadBook___init__ : Addr} {fd_BadBook___init__ : FuncData} (C_BadBook___init__ : CalM K f_BadBook___init__ fd_BadBook___init__ ["self", "path"]) (G_BadBook___init__ : FnOk P w K mg base CX0 1 f_BadBook___init__ fd_BadBook___init__ ["self", "path"] (spField Z.a_BadBook "path")) (X_BadBook : ExcF K Z.a_BadBook f_BadBook___init__ "path")
    {f_NotKept___init__ : Addr} {fd_NotKept___init__ : FuncData} (C_NotKept___init__ : CalM K f_NotKept___init__ fd_NotKept___init__ ["self", "name"]) (G_NotKept___init__ : FnOk P w K mg base CX0 1 f_NotKept___init__ fd_NotKept___init__ ["self", "name"] (spField Z.a_NotKept "name")) (X_NotKept : ExcF K Z.a_NotKept f_NotKept___init__ "name")
    (n2 : PySem.W.findIn K (.ref Z.a_NameTwice) "name" = some none)
    {f__law_pool : Addr} {fd__law_pool : FuncData} (C__law_pool : Cal K mg "_law_pool" f__law_pool fd__law_pool ["_law_script"]) (G__law_pool : FnOk P w K mg base CX0 1 f__law_pool fd__law_pool ["_law_script"] (spPool K)) {f__law_pick : Addr} {fd__law_pick : FuncData} (C__law_pick : Cal K mg "_law_pick" f__law_pick fd__law_pick ["_law_pool_here", "_law_things"]) (G__law_pick : FnOk P w K mg base CX0 2 f__law_pick fd__law_pick ["_law_pool_here", "_law_things"] (spPick K))
    {f__law_deep : Addr} {fd__law_deep : FuncData} (C__law_deep : Cal K mg "_law_deep" f__law_deep fd__law_deep []) (G__law_deep : FnOk P w K mg base CX0 1 f__law_deep fd__law_deep [] spDeepR) {f__law_kinds : Addr} {fd__law_kinds : FuncData} (C__law_kinds : Cal K mg "_law_kinds" f__law_kinds fd__law_kinds ["_law_e"]) (G__law_kinds : FnOk P w K mg base CX0 1 f__law_kinds fd__law_kinds ["_law_e"] (spKinds Z))
    {f__law_is : Addr} {fd__law_is : FuncData} (C__law_is : Cal K mg "_law_is" f__law_is fd__law_is ["_law_told", "_law_due"]) (G__law_is : FnOk P w K mg base CX0 35 f__law_is fd__law_is ["_law_told", "_law_due"] (spIsR 33)) : FnOk P w K mg base CX0 36 f fd ["_law_script"] (spLaw K) := by
  refine F.ok sc_law (fun vs H Q E h => ?_) (fun cdv A outer s H vs Q E hr h => ?_)
  · obtain ⟨a, ns, rfl, _⟩ := h
    rfl
  · obtain ⟨a, ns, rfl, ha, hn, q⟩ := h
    refine ⟨_, (pss_cons (ps_set (i := 1) sc_law.nd rfl (Or.inl rfl) (pe_call G__law_pool (hr.mono (by first | decide | omega)) (by rfl) C__law_pool.g C__law_pool.k C__law_pool.b .nil pass0 (pa_cons (pv 0) pa_nil)))
 (pss_cons (ps_set (i := 2) sc_law.nd rfl (Or.inl rfl) (pe_lst (pa_cons pe_int (pa_cons (pe_un un_neg pe_int) (pa_cons pe_bl (pa_cons pe_non (pa_cons pe_str (pa_cons pe_str (pa_cons (pe_lst (pa_cons pe_int pa_nil)) (pa_cons (pe_tup (pa_cons pe_int (pa_cons (pe_lst (pa_cons pe_int pa_nil)) pa_nil))) (pa_cons (pe_disp (pps_cons pe_str pe_int pps_nil) rfl rfl (by decide) (by decide)) (pa_cons (pe_op op_pow pe_int pe_int) (pa_cons (pe_call0 G__law_deep (hr.mono (by first | decide | omega)) (by rfl) C__law_deep.g C__law_deep.k C__law_deep.b .nil pass0) (pa_cons (pe_tup (pa_cons pe_str (pa_cons pe_int pa_nil))) pa_nil))))))))))))))
 (pss_cons (ps_asg (pe_tup (pa_cons (pe_call G__law_pick (hr.mono (by first | decide | omega)) (by rfl) C__law_pick.g C__law_pick.k C__law_pick.b .nil pass0 (pa_cons (pv 1) (pa_cons (pv 2) pa_nil))) (pa_cons (pe_call G__law_pick (hr.mono (by first | decide | omega)) (by rfl) C__law_pick.g C__law_pick.k C__law_pick.b .nil pass0 (pa_cons (pv 1) (pa_cons (pv 2) pa_nil))) pa_nil))) (pg_tup rfl (pgs_cons (pg_name (i := 3) sc_law.nd rfl (Or.inr rfl)) (pgs_cons (pg_name (i := 4) sc_law.nd rfl (Or.inl rfl)) pgs_nil))))
 (pss_cons (ps_set (i := 5) sc_law.nd rfl (Or.inl rfl) (pe_lst (pa_cons (pe_erS X_NoBlock (hr.mono (by first | decide | omega)) (by rfl) B.k_NoBlock B.b_super) (pa_cons (pe_erS X_NoPlace (hr.mono (by first | decide | omega)) (by rfl) B.k_NoPlace B.b_super) (pa_cons (pe_erS X_Beneath (hr.mono (by first | decide | omega)) (by rfl) B.k_Beneath B.b_super) (pa_cons (pe_erS X_NoOrder (hr.mono (by first | decide | omega)) (by rfl) B.k_NoOrder B.b_super) (pa_cons (pe_erS X_NoView (hr.mono (by first | decide | omega)) (by rfl) B.k_NoView B.b_super) (pa_cons (pe_erS X_OtherBlocks (hr.mono (by first | decide | omega)) (by rfl) B.k_OtherBlocks B.b_super) (pa_cons (pe_erS X_NoNumber (hr.mono (by first | decide | omega)) (by rfl) B.k_NoNumber B.b_super) (pa_cons (pe_erS X_NoLot (hr.mono (by first | decide | omega)) (by rfl) B.k_NoLot B.b_super) (pa_cons (pe_erS X_NoTree (hr.mono (by first | decide | omega)) (by rfl) B.k_NoTree B.b_super) pa_nil)))))))))))
 (pss_cons (ps_set (i := 5) sc_law.nd rfl (Or.inl rfl) (pe_op op_cat (pv 5) (pe_lst (pa_cons (pe_erS X_NotFitting (hr.mono (by first | decide | omega)) (by rfl) B.k_NotFitting B.b_super) (pa_cons (pe_erS X_NoTelling (hr.mono (by first | decide | omega)) (by rfl) B.k_NoTelling B.b_super) (pa_cons (pe_erS X_NoWord (hr.mono (by first | decide | omega)) (by rfl) B.k_NoWord B.b_super) (pa_cons (pe_erS X_NoWorth (hr.mono (by first | decide | omega)) (by rfl) B.k_NoWorth B.b_super) (pa_cons (pe_erS X_NothingWaits (hr.mono (by first | decide | omega)) (by rfl) B.k_NothingWaits B.b_super) (pa_cons (pe_erS X_NoText (hr.mono (by first | decide | omega)) (by rfl) B.k_NoText B.b_super) (pa_cons (pe_erS X_NoBlocks (hr.mono (by first | decide | omega)) (by rfl) B.k_NoBlocks B.b_super) (pa_cons (pe_erS X_NoLine (hr.mono (by first | decide | omega)) (by rfl) B.k_NoLine B.b_super) pa_nil)))))))))))
 (pss_cons (ps_set (i := 5) sc_law.nd rfl (Or.inl rfl) (pe_op op_cat (pv 5) (pe_lst (pa_cons (pe_erS X_NoLines (hr.mono (by first | decide | omega)) (by rfl) B.k_NoLines B.b_super) (pa_cons (pe_er1 X_BadTree G_BadTree___init__ (hr.mono (by first | decide | omega)) C_BadTree___init__.b (by rfl) B.k_BadTree (pv 3)) (pa_cons (pe_er1 X_BadPicture G_BadPicture___init__ (hr.mono (by first | decide | omega)) C_BadPicture___init__.b (by rfl) B.k_BadPicture (pv 3)) (pa_cons (pe_er1 X_TooMany G_TooMany___init__ (hr.mono (by first | decide | omega)) C_TooMany___init__.b (by rfl) B.k_TooMany (pv 3)) (pa_cons (pe_er1 X_BadWords G_BadWords___init__ (hr.mono (by first | decide | omega)) C_BadWords___init__.b (by rfl) B.k_BadWords (pv 3)) (pa_cons (pe_er1 X_BadHistory G_BadHistory___init__ (hr.mono (by first | decide | omega)) C_BadHistory___init__.b (by rfl) B.k_BadHistory (pv 3)) pa_nil)))))))))
 (pss_cons (ps_set (i := 5) sc_law.nd rfl (Or.inl rfl) (pe_op op_cat (pv 5) (pe_lst (pa_cons (pe_er1 X_RingTold G_RingTold___init__ (hr.mono (by first | decide | omega)) C_RingTold___init__.b (by rfl) B.k_RingTold (pv 3)) (pa_cons (pe_er2 X_NameTwice G_NameTwice___init__ (hr.mono (by first | decide | omega)) C_NameTwice___init__.b (by rfl) B.k_NameTwice (pv 3) (pv 4)) (pa_cons (pe_er1 X_BadBody G_BadBody___init__ (hr.mono (by first | decide | omega)) C_BadBody___init__.b (by rfl) B.k_BadBody (pv 3)) (pa_cons (pe_er1 X_NoPath G_NoPath___init__ (hr.mono (by first | decide | omega)) C_NoPath___init__.b (by rfl) B.k_NoPath (pv 3)) (pa_cons (pe_er1 X_NotThere G_NotThere___init__ (hr.mono (by first | decide | omega)) C_NotThere___init__.b (by rfl) B.k_NotThere (pv 3)) pa_nil))))))))
 (pss_cons (ps_set (i := 5) sc_law.nd rfl (Or.inl rfl) (pe_op op_cat (pv 5) (pe_lst (pa_cons (pe_er1 X_NotFolder G_NotFolder___init__ (hr.mono (by first | decide | omega)) C_NotFolder___init__.b (by rfl) B.k_NotFolder (pv 3)) (pa_cons (pe_er1 X_NotFile G_NotFile___init__ (hr.mono (by first | decide | omega)) C_NotFile___init__.b (by rfl) B.k_NotFile (pv 3)) (pa_cons (pe_er1 X_TakenPath G_TakenPath___init__ (hr.mono (by first | decide | omega)) C_TakenPath___init__.b (by rfl) B.k_TakenPath (pv 3)) (pa_cons (pe_er1 X_NotEmpty G_NotEmpty___init__ (hr.mono (by first | decide | omega)) C_NotEmpty___init__.b (by rfl) B.k_NotEmpty (pv 3)) (pa_cons (pe_er1 X_BadText G_BadText___init__ (hr.mono (by first | decide | omega)) C_BadText___init__.b (by rfl) B.k_BadText (pv 3)) pa_nil))))))))
 (pss_cons (ps_set (i := 5) sc_law.nd rfl (Or.inl rfl) (pe_op op_cat (pv 5) (pe_lst (pa_cons (pe_erS X_NoChanges (hr.mono (by first | decide | omega)) (by rfl) B.k_NoChanges B.b_super) (pa_cons (pe_erS X_UnderWay (hr.mono (by first | decide | omega)) (by rfl) B.k_UnderWay B.b_super) (pa_cons (pe_erS X_NotUnderWay (hr.mono (by first | decide | omega)) (by rfl) B.k_NotUnderWay B.b_super) (pa_cons (pe_er1 X_BadBook G_BadBook___init__ (hr.mono (by first | decide | omega)) C_BadBook___init__.b (by rfl) B.k_BadBook (pv 3)) (pa_cons (pe_er1 X_NotKept G_NotKept___init__ (hr.mono (by first | decide | omega)) C_NotKept___init__.b (by rfl) B.k_NotKept (pv 3)) pa_nil))))))))
 (pss_cons (ps_if (PW.pt (pw_or (pt_not (pt_val (pe_callB (call_isO (K := K) rfl) (by rfl) B.b_isinstance (by decide +kernel) (pa_cons (pe_exc0V qV B.k_VoteError kV (by rfl)) (pa_cons (pe_bltn (v := .ty "ValueError") (by rfl) B.b_ValueError (by decide +kernel) rfl) pa_nil))))) (pw_or1 (pt_cmpR op_ne (pe_callB (call_lenK (K := K) rfl) (by rfl) B.b_len PySem.boot_len (pa_cons (pv 5) pa_nil)) pe_int (nomark _))))) (pss_one (ps_ret pe_bl)) pss_nil)
 (pss_cons (ps_for PassesOwn.never rfl (pi_range1 rfl B.b_range (pa_cons (pe_callB (call_lenK (K := K) rfl) (by rfl) B.b_len PySem.boot_len (pa_cons (pv 5) pa_nil)) pa_nil)) (pg_name (i := 6) sc_law.nd rfl (Or.inl rfl)) (pss_cons (ps_if (PW.pt (pw_or (pt_not (pt_val (pe_callB (call_isV (K := K) rfl) (by rfl) B.b_isinstance (by decide +kernel) (pa_cons (pe_ix (ix_listK (K := K) rfl) (pv 5) (pv 6) (fun _ _ => rfl)) (pa_cons (pe_glob (v := .ref Z.a_VoteError) rfl B.k_VoteError rfl) pa_nil))))) (pw_or1 (pt_not (pt_val (pe_callB (call_isV (K := K) rfl) (by rfl) B.b_isinstance (by decide +kernel) (pa_cons (pe_ix (ix_listK (K := K) rfl) (pv 5) (pv 6) (fun _ _ => rfl)) (pa_cons (pe_bltn (v := .ty "ValueError") (by rfl) B.b_ValueError (by decide +kernel) rfl) pa_nil)))))))) (pss_one (ps_ret pe_bl)) pss_nil)
 (pss_one (ps_if (pt_cmpR (op_neDK (K := K) rfl hr.units) (pe_call G__law_kinds (hr.mono (by first | decide | omega)) (by rfl) C__law_kinds.g C__law_kinds.k C__law_kinds.b .nil pass0 (pa_cons (pe_ix (ix_listK (K := K) rfl) (pv 5) (pv 6) (fun _ _ => rfl)) pa_nil)) (pe_lst (pa_cons (pv 6) pa_nil)) (nomark _)) (pss_one (ps_ret pe_bl)) pss_nil))))
 (pss_cons (ps_set (i := 7) sc_law.nd rfl (Or.inl rfl) (pe_lst (pa_cons (pe_fV (K := K) rfl (pe_ix (ix_listK (K := K) rfl) (pv 5) pe_int (fun _ _ => rfl))) (pa_cons (pe_fV (K := K) rfl (pe_ix (ix_listK (K := K) rfl) (pv 5) pe_int (fun _ _ => rfl))) (pa_cons (pe_fV (K := K) rfl (pe_ix (ix_listK (K := K) rfl) (pv 5) pe_int (fun _ _ => rfl))) (pa_cons (pe_fV (K := K) rfl (pe_ix (ix_listK (K := K) rfl) (pv 5) pe_int (fun _ _ => rfl))) (pa_cons (pe_fV (K := K) rfl (pe_ix (ix_listK (K := K) rfl) (pv 5) pe_int (fun _ _ => rfl))) (pa_cons (pe_fV (K := K) rfl (pe_ix (ix_listK (K := K) rfl) (pv 5) pe_int (fun _ _ => rfl))) pa_nil))))))))
 (pss_cons (ps_set (i := 7) sc_law.nd rfl (Or.inl rfl) (pe_op op_cat (pv 7) (pe_lst (pa_cons (pe_fV (K := K) rfl (pe_ix (ix_listK (K := K) rfl) (pv 5) pe_int (fun _ _ => rfl))) (pa_cons (pe_fV (K := K) rfl (pe_ix (ix_listK (K := K) rfl) (pv 5) pe_int (fun _ _ => rfl))) (pa_cons (pe_fV (K := K) rfl (pe_ix (ix_listK (K := K) rfl) (pv 5) pe_int (fun _ _ => rfl))) (pa_cons (pe_fV (K := K) rfl (pe_ix (ix_listK (K := K) rfl) (pv 5) pe_int (fun _ _ => rfl))) (pa_cons (pe_fV (K := K) rfl (pe_ix (ix_listK (K := K) rfl) (pv 5) pe_int (fun _ _ => rfl))) (pa_cons (pe_fV (K := K) rfl (pe_ix (ix_listK (K := K) rfl) (pv 5) pe_int (fun _ _ => rfl))) pa_nil)))))))))
 (pss_cons (ps_set (i := 7) sc_law.nd rfl (Or.inl rfl) (pe_op op_cat (pv 7) (pe_lst (pa_cons (pe_fV (K := K) rfl (pe_ix (ix_listK (K := K) rfl) (pv 5) pe_int (fun _ _ => rfl))) (pa_cons (pe_fV (K := K) rfl (pe_ix (ix_listK (K := K) rfl) (pv 5) pe_int (fun _ _ => rfl))) (pa_cons (pe_fV (K := K) rfl (pe_ix (ix_listK (K := K) rfl) (pv 5) pe_int (fun _ _ => rfl))) (pa_cons (pe_fV (K := K) rfl (pe_ix (ix_listK (K := K) rfl) (pv 5) pe_int (fun _ _ => rfl))) (pa_cons (pe_fV (K := K) rfl (pe_ix (ix_listK (K := K) rfl) (pv 5) pe_int (fun _ _ => rfl))) pa_nil))))))))
 (pss_one (ps_ret (pe_and (pe_callB (cr_allK (K := K) rfl rfl) (by rfl) B.b_all (by decide +kernel) (pa_cons (pe_lc (own := [("_law_field", 8)]) rfl sc_law.nd (pi_list (pv 7)) (blkOk_by (N := ["_law_script", "_law_pool_here", "_law_things", "_law_thing", "_law_other", "_law_found", "_law_at", "_law_fields", "_law_field"]) (sc := defScope s_law) (by decide +kernel)) (fun _ _ _ _ _ => (pg_name (i := 8) sc_law.nd rfl (Or.inl rfl))) (fun _ _ _ _ _ => pts_nil) (fun _ _ _ _ _ => (pe_call G__law_is (hr.mono (by first | decide | omega)) (by rfl) C__law_is.g C__law_is.k C__law_is.b .nil pass0 (pa_cons (pv 8) (pa_cons (pv 3) pa_nil))))) pa_nil)) (pe_one (pe_call G__law_is (hr.mono (by first | decide | omega)) (by rfl) C__law_is.g C__law_is.k C__law_is.b .nil pass0 (pa_cons (pe_fV (K := K) rfl (pe_ix (ix_listK (K := K) rfl) (pv 5) pe_int (fun _ _ => rfl))) (pa_cons (pv 4) pa_nil))))))))))))))))))))), ?_⟩
    walk_at "h0"
    refine ⟨a, ns, rfl, ha, hn, fun p H1 s1 np pl => ?_⟩
    walk_at "hs"
    obtain ⟨⟨_, _, _, _, _, _, hpo, _⟩, _⟩ := id pl
    intro a1 h1
    walk_at "hs"
    intro a2 h2
    walk_at "hs"
    intro a3 h3
    walk_at "hs"
    refine x_disp1 ?_
    intro a4 h4
    walk_at "hs"
    refine ⟨rfl, fun a5 H5 s5 n5 r5 => ?_⟩
    walk_at "hs"
    intro a6 h6
    walk_at "hs"
    intro L hL
    walk_at "hs"
    have t1 := same_new (Same.refl H1) h1 (o := .lst [.int 1])
    have t2 := same_new t1 h2 (o := .lst [.int 3])
    have t3 := same_new t2 h3 (o := .tup [.int 2, .ref a2])
    have t4 := same_new t3 h4 (o := .dK [(.inr "a", .int 1)])
    have t5 : Same H1 H5 := t4.trans s5
    have m2 : H1 a2 = none := t1.free h2
    have m3 : H1 a3 = none := t2.free h3
    have m4 : H1 a4 = none := t3.free h4
    have m6 : H1 a6 = none := t5.free h6
    have p6 := (pl.same t5).newH h6 (o := .tup [.str "ring", .int 3])
    have neL := p6.ne hL
    have pL := p6.newH hL (o := .lst [V.int 0, V.int (-1), V.bl true, V.non, V.str "ring", V.str "", V.ref a1, V.ref a3, V.ref a4, V.int (10 ^ Int.toNat 40), V.ref a5, V.ref a6])
    have uL := same_new (same_new (Same.refl H5) h6 (o := .tup [.str "ring", .int 3])) hL (o := .lst [V.int 0, V.int (-1), V.bl true, V.non, V.str "ring", V.str "", V.ref a1, V.ref a3, V.ref a4, V.int (10 ^ Int.toNat 40), V.ref a5, V.ref a6])
    have j1 : H5 a1 = some (.lst [.int 1]) := s5 _ _ (by walk_at "hu")
    have j2 : H5 a2 = some (.lst [.int 3]) := s5 _ _ (by walk_at "hu")
    have j3 : H5 a3 = some (.tup [.int 2, .ref a2]) := s5 _ _ (by walk_at "hu")
    have j4 : H5 a4 = some (.dK [(.inr "a", .int 1)]) := s5 _ _ upd_same
    have eL : upd (upd H5 a6 (.tup [.str "ring", .int 3])) L (.lst [V.int 0, V.int (-1), V.bl true, V.non, V.str "ring", V.str "", V.ref a1, V.ref a3, V.ref a4, V.int (10 ^ Int.toNat 40), V.ref a5, V.ref a6]) L = some (.lst [V.int 0, V.int (-1), V.bl true, V.non, V.str "ring", V.str "", V.ref a1, V.ref a3, V.ref a4, V.int (10 ^ Int.toNat 40), V.ref a5, V.ref a6]) := upd_same
    have j6 : upd (upd H5 a6 (.tup [.str "ring", .int 3])) L (.lst [V.int 0, V.int (-1), V.bl true, V.non, V.str "ring", V.str "", V.ref a1, V.ref a3, V.ref a4, V.int (10 ^ Int.toNat 40), V.ref a5, V.ref a6]) a6 = some (.tup [.str "ring", .int 3]) := by walk_at "hu"
    have r5' := r5.same (newH_le t4)
    clear r5 t1 t2 t3 t4 h2 h3 h4 n5 s5 p6
    generalize upd (upd H5 a6 (.tup [.str "ring", .int 3])) L (.lst [V.int 0, V.int (-1), V.bl true, V.non, V.str "ring", V.str "", V.ref a1, V.ref a3, V.ref a4, V.int (10 ^ Int.toNat 40), V.ref a5, V.ref a6]) = HL at pL uL eL j6 ⊢
    have r1 : Rx (newH H1 HL) 33 (.ref a1) := Rx.lst (newH_at h1 (uL _ _ j1)) (by show 1 ≤ 1000; decide) fun y hy => by rw [List.mem_singleton.mp hy]; exact Rx.sca rfl
    have r2 : Rx (newH H1 HL) 32 (.ref a2) := Rx.lst (newH_at m2 (uL _ _ j2)) (by show 1 ≤ 1000; decide) fun y hy => by rw [List.mem_singleton.mp hy]; exact Rx.sca rfl
    have r3 : Rx (newH H1 HL) 33 (.ref a3) := Rx.tup (newH_at m3 (uL _ _ j3)) (by show 2 ≤ 1000; decide) fun y hy => by
      simp only [List.mem_cons, List.not_mem_nil, or_false] at hy
      rcases hy with rfl | rfl
      · exact Rx.sca rfl
      · exact r2
    have r4 : Rx (newH H1 HL) 33 (.ref a4) := .inr (.inr ⟨a4, _, _, rfl, newH_at m4 (uL _ _ j4), rfl⟩)
    have r6 : Rx (newH H1 HL) 33 (.ref a6) := Rx.tup (newH_at m6 j6) (by show 2 ≤ 1000; decide) fun y hy => by
      simp only [List.mem_cons, List.not_mem_nil, or_false] at hy
      rcases hy with rfl | rfl <;> exact Rx.sca rfl
    have r5 : Rx (newH H1 HL) 33 (.ref a5) := r5'.same (newH_same uL)
    have key : ∀ z ∈ [V.int 0, V.int (-1), V.bl true, V.non, V.str "ring", V.str "", V.ref a1, V.ref a3, V.ref a4, V.int (10 ^ Int.toNat 40), V.ref a5, V.ref a6], Rx (newH H1 HL) 33 z := fun z hz => by
      simp only [List.mem_cons, List.not_mem_nil, or_false] at hz
      rcases hz with rfl | rfl | rfl | rfl | rfl | rfl | rfl | rfl | rfl | rfl | rfl | rfl
      all_goals first | exact Rx.sca rfl | exact r1 | exact r3 | exact r4 | exact r5 | exact r6
    refine ⟨p, L, _, _, rfl, pL, SqL.of eL, neL, by show 0 < 12; decide, by show 12 ≤ 1000; decide, fun x H7 hx b7 p7 => ?_⟩
    walk_at "hs"
    refine ⟨p, L, _, _, rfl, p7, b7.seq neL (SqL.of eL), neL, by show 0 < 12; decide, by show 12 ≤ 1000; decide, fun y H8 hy b8 p8 => ?_⟩
    have SX : Same (newH H1 HL) H8 := newH_but hpo (b7.trans b8)
    have RX := key x hx
    have RY := key y hy
    generalize newH H1 HL = X at SX RX RY
    clear key r1 r2 r3 r4 r5 r6 r5' j1 j2 j3 j4 j6 eL uL pL p7 b7 b8 neL m2 m3 m4 m6 t5 h6 hL h1
    walk_at "hs"
    intro t ht
    walk_at "hs"
    have SX0 := same_new SX ht (o := .tup [x, y])
    generalize upd H8 t (.tup [x, y]) = J0 at SX0 ⊢
    clear SX ht p8 hx hy
    have R0 : ErsV J0 [] ((errsN Z x y).take 0) := .nil
    refine ⟨_, rfl, fun v0 J1 s0 e0 => ?_⟩
    have R1 : ErsV J1 [v0] ((errsN Z x y).take 1) := (R0.same s0).snoc e0
    have SX1 := SX0.trans s0
    walk_at "hs"
    refine ⟨_, rfl, fun v1 J2 s1 e1 => ?_⟩
    have R2 : ErsV J2 [v0, v1] ((errsN Z x y).take 2) := (R1.same s1).snoc e1
    have SX2 := SX1.trans s1
    walk_at "hs"
    refine ⟨_, rfl, fun v2 J3 s2 e2 => ?_⟩
    have R3 : ErsV J3 [v0, v1, v2] ((errsN Z x y).take 3) := (R2.same s2).snoc e2
    have SX3 := SX2.trans s2
    walk_at "hs"
    refine ⟨_, rfl, fun v3 J4 s3 e3 => ?_⟩
    have R4 : ErsV J4 [v0, v1, v2, v3] ((errsN Z x y).take 4) := (R3.same s3).snoc e3
    have SX4 := SX3.trans s3
    walk_at "hs"
    refine ⟨_, rfl, fun v4 J5 s4 e4 => ?_⟩
    have R5 : ErsV J5 [v0, v1, v2, v3, v4] ((errsN Z x y).take 5) := (R4.same s4).snoc e4
    have SX5 := SX4.trans s4
    walk_at "hs"
    refine ⟨_, rfl, fun v5 J6 s5 e5 => ?_⟩
    have R6 : ErsV J6 [v0, v1, v2, v3, v4, v5] ((errsN Z x y).take 6) := (R5.same s5).snoc e5
    have SX6 := SX5.trans s5
    walk_at "hs"
    refine ⟨_, rfl, fun v6 J7 s6 e6 => ?_⟩
    have R7 : ErsV J7 [v0, v1, v2, v3, v4, v5, v6] ((errsN Z x y).take 7) := (R6.same s6).snoc e6
    have SX7 := SX6.trans s6
    walk_at "hs"
    refine ⟨_, rfl, fun v7 J8 s7 e7 => ?_⟩
    have R8 : ErsV J8 [v0, v1, v2, v3, v4, v5, v6, v7] ((errsN Z x y).take 8) := (R7.same s7).snoc e7
    have SX8 := SX7.trans s7
    walk_at "hs"
    refine ⟨_, rfl, fun v8 J9 s8 e8 => ?_⟩
    have R9 : ErsV J9 [v0, v1, v2, v3, v4, v5, v6, v7, v8] ((errsN Z x y).take 9) := (R8.same s8).snoc e8
    have SX9 := SX8.trans s8
    walk_at "hs"
    intro p0 h0
    have u0 := same_new (o := .lst ([v0, v1, v2, v3, v4, v5, v6, v7, v8])) (Same.refl J9) h0
    have f0 : upd J9 p0 (.lst ([v0, v1, v2, v3, v4, v5, v6, v7, v8])) p0 = some (.lst ([v0, v1, v2, v3, v4, v5, v6, v7, v8])) := upd_same
    generalize upd J9 p0 (.lst ([v0, v1, v2, v3, v4, v5, v6, v7, v8])) = G0 at u0 f0 ⊢
    walk_at "hs"
    have RG0 := R9.same u0
    have SG0 := SX9.trans u0
    refine ⟨_, rfl, fun v9 J10 s9 e9 => ?_⟩
    have R10 : ErsV J10 [v0, v1, v2, v3, v4, v5, v6, v7, v8, v9] ((errsN Z x y).take 10) := (RG0.same s9).snoc e9
    have SX10 := SG0.trans s9
    have ce9 := s9 _ _ f0
    walk_at "hs"
    refine ⟨_, rfl, fun v10 J11 s10 e10 => ?_⟩
    have R11 : ErsV J11 [v0, v1, v2, v3, v4, v5, v6, v7, v8, v9, v10] ((errsN Z x y).take 11) := (R10.same s10).snoc e10
    have SX11 := SX10.trans s10
    have ce10 := s10 _ _ ce9
    walk_at "hs"
    refine ⟨_, rfl, fun v11 J12 s11 e11 => ?_⟩
    have R12 : ErsV J12 [v0, v1, v2, v3, v4, v5, v6, v7, v8, v9, v10, v11] ((errsN Z x y).take 12) := (R11.same s11).snoc e11
    have SX12 := SX11.trans s11
    have ce11 := s11 _ _ ce10
    walk_at "hs"
    refine ⟨_, rfl, fun v12 J13 s12 e12 => ?_⟩
    have R13 : ErsV J13 [v0, v1, v2, v3, v4, v5, v6, v7, v8, v9, v10, v11, v12] ((errsN Z x y).take 13) := (R12.same s12).snoc e12
    have SX13 := SX12.trans s12
    have ce12 := s12 _ _ ce11
    walk_at "hs"
    refine ⟨_, rfl, fun v13 J14 s13 e13 => ?_⟩
    have R14 : ErsV J14 [v0, v1, v2, v3, v4, v5, v6, v7, v8, v9, v10, v11, v12, v13] ((errsN Z x y).take 14) := (R13.same s13).snoc e13
    have SX14 := SX13.trans s13
    have ce13 := s13 _ _ ce12
    walk_at "hs"
    refine ⟨_, rfl, fun v14 J15 s14 e14 => ?_⟩
    have R15 : ErsV J15 [v0, v1, v2, v3, v4, v5, v6, v7, v8, v9, v10, v11, v12, v13, v14] ((errsN Z x y).take 15) := (R14.same s14).snoc e14
    have SX15 := SX14.trans s14
    have ce14 := s14 _ _ ce13
    walk_at "hs"
    refine ⟨_, rfl, fun v15 J16 s15 e15 => ?_⟩
    have R16 : ErsV J16 [v0, v1, v2, v3, v4, v5, v6, v7, v8, v9, v10, v11, v12, v13, v14, v15] ((errsN Z x y).take 16) := (R15.same s15).snoc e15
    have SX16 := SX15.trans s15
    have ce15 := s15 _ _ ce14
    walk_at "hs"
    refine ⟨_, rfl, fun v16 J17 s16 e16 => ?_⟩
    have R17 : ErsV J17 [v0, v1, v2, v3, v4, v5, v6, v7, v8, v9, v10, v11, v12, v13, v14, v15, v16] ((errsN Z x y).take 17) := (R16.same s16).snoc e16
    have SX17 := SX16.trans s16
    have ce16 := s16 _ _ ce15
    walk_at "hs"
    intro p1 h1
    have u1 := same_new (o := .lst ([v9, v10, v11, v12, v13, v14, v15, v16])) (Same.refl J17) h1
    have f1 : upd J17 p1 (.lst ([v9, v10, v11, v12, v13, v14, v15, v16])) p1 = some (.lst ([v9, v10, v11, v12, v13, v14, v15, v16])) := upd_same
    generalize upd J17 p1 (.lst ([v9, v10, v11, v12, v13, v14, v15, v16])) = G1 at u1 f1 ⊢
    walk_at "hs"
    have RG1 := R17.same u1
    have SG1 := SX17.trans u1
    refine x_cat (u1 _ _ ce16) f1 (szLe (show 9 + 8 ≤ 100000 by decide)) ?_
    intro D1 m1
    have w1 := same_new (o := .lst (([v0, v1, v2, v3, v4, v5, v6, v7, v8]) ++ [v9, v10, v11, v12, v13, v14, v15, v16])) (Same.refl G1) m1
    have cd1 : upd G1 D1 (.lst (([v0, v1, v2, v3, v4, v5, v6, v7, v8]) ++ [v9, v10, v11, v12, v13, v14, v15, v16])) D1 = some (.lst (([v0, v1, v2, v3, v4, v5, v6, v7, v8]) ++ [v9, v10, v11, v12, v13, v14, v15, v16])) := upd_same
    generalize upd G1 D1 (.lst (([v0, v1, v2, v3, v4, v5, v6, v7, v8]) ++ [v9, v10, v11, v12, v13, v14, v15, v16])) = M1 at w1 cd1 ⊢
    walk_at "hs"
    have RM1 := RG1.same w1
    have SM1 := SG1.trans w1
    refine ⟨_, rfl, fun v17 J18 s17 e17 => ?_⟩
    have R18 : ErsV J18 [v0, v1, v2, v3, v4, v5, v6, v7, v8, v9, v10, v11, v12, v13, v14, v15, v16, v17] ((errsN Z x y).take 18) := (RM1.same s17).snoc e17
    have SX18 := SM1.trans s17
    have ce17 := s17 _ _ cd1
    walk_at "hs"
    refine ⟨_, rfl, fun v18 J19 s18 e18 => ?_⟩
    have R19 : ErsV J19 [v0, v1, v2, v3, v4, v5, v6, v7, v8, v9, v10, v11, v12, v13, v14, v15, v16, v17, v18] ((errsN Z x y).take 19) := (R18.same s18).snoc e18
    have SX19 := SX18.trans s18
    have ce18 := s18 _ _ ce17
    walk_at "hs"
    refine ⟨_, rfl, fun v19 J20 s19 e19 => ?_⟩
    have R20 : ErsV J20 [v0, v1, v2, v3, v4, v5, v6, v7, v8, v9, v10, v11, v12, v13, v14, v15, v16, v17, v18, v19] ((errsN Z x y).take 20) := (R19.same s19).snoc e19
    have SX20 := SX19.trans s19
    have ce19 := s19 _ _ ce18
    walk_at "hs"
    refine ⟨_, rfl, fun v20 J21 s20 e20 => ?_⟩
    have R21 : ErsV J21 [v0, v1, v2, v3, v4, v5, v6, v7, v8, v9, v10, v11, v12, v13, v14, v15, v16, v17, v18, v19, v20] ((errsN Z x y).take 21) := (R20.same s20).snoc e20
    have SX21 := SX20.trans s20
    have ce20 := s20 _ _ ce19
    walk_at "hs"
    refine ⟨_, rfl, fun v21 J22 s21 e21 => ?_⟩
    have R22 : ErsV J22 [v0, v1, v2, v3, v4, v5, v6, v7, v8, v9, v10, v11, v12, v13, v14, v15, v16, v17, v18, v19, v20, v21] ((errsN Z x y).take 22) := (R21.same s21).snoc e21
    have SX22 := SX21.trans s21
    have ce21 := s21 _ _ ce20
    walk_at "hs"
    refine ⟨_, rfl, fun v22 J23 s22 e22 => ?_⟩
    have R23 : ErsV J23 [v0, v1, v2, v3, v4, v5, v6, v7, v8, v9, v10, v11, v12, v13, v14, v15, v16, v17, v18, v19, v20, v21, v22] ((errsN Z x y).take 23) := (R22.same s22).snoc e22
    have SX23 := SX22.trans s22
    have ce22 := s22 _ _ ce21
    walk_at "hs"
    intro p2 h2
    have u2 := same_new (o := .lst ([v17, v18, v19, v20, v21, v22])) (Same.refl J23) h2
    have f2 : upd J23 p2 (.lst ([v17, v18, v19, v20, v21, v22])) p2 = some (.lst ([v17, v18, v19, v20, v21, v22])) := upd_same
    generalize upd J23 p2 (.lst ([v17, v18, v19, v20, v21, v22])) = G2 at u2 f2 ⊢
    walk_at "hs"
    have RG2 := R23.same u2
    have SG2 := SX23.trans u2
    refine x_cat (u2 _ _ ce22) f2 (szLe (show 17 + 6 ≤ 100000 by decide)) ?_
    intro D2 m2
    have w2 := same_new (o := .lst ((([v0, v1, v2, v3, v4, v5, v6, v7, v8]) ++ [v9, v10, v11, v12, v13, v14, v15, v16]) ++ [v17, v18, v19, v20, v21, v22])) (Same.refl G2) m2
    have cd2 : upd G2 D2 (.lst ((([v0, v1, v2, v3, v4, v5, v6, v7, v8]) ++ [v9, v10, v11, v12, v13, v14, v15, v16]) ++ [v17, v18, v19, v20, v21, v22])) D2 = some (.lst ((([v0, v1, v2, v3, v4, v5, v6, v7, v8]) ++ [v9, v10, v11, v12, v13, v14, v15, v16]) ++ [v17, v18, v19, v20, v21, v22])) := upd_same
    generalize upd G2 D2 (.lst ((([v0, v1, v2, v3, v4, v5, v6, v7, v8]) ++ [v9, v10, v11, v12, v13, v14, v15, v16]) ++ [v17, v18, v19, v20, v21, v22])) = M2 at w2 cd2 ⊢
    walk_at "hs"
    have RM2 := RG2.same w2
    have SM2 := SG2.trans w2
    refine ⟨_, rfl, fun v23 J24 s23 e23 => ?_⟩
    have R24 : ErsV J24 [v0, v1, v2, v3, v4, v5, v6, v7, v8, v9, v10, v11, v12, v13, v14, v15, v16, v17, v18, v19, v20, v21, v22, v23] ((errsN Z x y).take 24) := (RM2.same s23).snoc e23
    have SX24 := SM2.trans s23
    have ce23 := s23 _ _ cd2
    walk_at "hs"
    refine ⟨_, rfl, fun v24 J25 s24 e24 => ?_⟩
    have R25 : ErsV J25 [v0, v1, v2, v3, v4, v5, v6, v7, v8, v9, v10, v11, v12, v13, v14, v15, v16, v17, v18, v19, v20, v21, v22, v23, v24] ((errsN Z x y).take 25) := (R24.same s24).snoc e24
    have SX25 := SX24.trans s24
    have ce24 := s24 _ _ ce23
    walk_at "hs"
    refine ⟨_, rfl, fun v25 J26 s25 e25 => ?_⟩
    have R26 : ErsV J26 [v0, v1, v2, v3, v4, v5, v6, v7, v8, v9, v10, v11, v12, v13, v14, v15, v16, v17, v18, v19, v20, v21, v22, v23, v24, v25] ((errsN Z x y).take 26) := (R25.same s25).snoc e25
    have SX26 := SX25.trans s25
    have ce25 := s25 _ _ ce24
    walk_at "hs"
    refine ⟨_, rfl, fun v26 J27 s26 e26 => ?_⟩
    have R27 : ErsV J27 [v0, v1, v2, v3, v4, v5, v6, v7, v8, v9, v10, v11, v12, v13, v14, v15, v16, v17, v18, v19, v20, v21, v22, v23, v24, v25, v26] ((errsN Z x y).take 27) := (R26.same s26).snoc e26
    have SX27 := SX26.trans s26
    have ce26 := s26 _ _ ce25
    walk_at "hs"
    refine ⟨_, rfl, fun v27 J28 s27 e27 => ?_⟩
    have R28 : ErsV J28 [v0, v1, v2, v3, v4, v5, v6, v7, v8, v9, v10, v11, v12, v13, v14, v15, v16, v17, v18, v19, v20, v21, v22, v23, v24, v25, v26, v27] ((errsN Z x y).take 28) := (R27.same s27).snoc e27
    have SX28 := SX27.trans s27
    have ce27 := s27 _ _ ce26
    walk_at "hs"
    intro p3 h3
    have u3 := same_new (o := .lst ([v23, v24, v25, v26, v27])) (Same.refl J28) h3
    have f3 : upd J28 p3 (.lst ([v23, v24, v25, v26, v27])) p3 = some (.lst ([v23, v24, v25, v26, v27])) := upd_same
    generalize upd J28 p3 (.lst ([v23, v24, v25, v26, v27])) = G3 at u3 f3 ⊢
    walk_at "hs"
    have RG3 := R28.same u3
    have SG3 := SX28.trans u3
    refine x_cat (u3 _ _ ce27) f3 (szLe (show 23 + 5 ≤ 100000 by decide)) ?_
    intro D3 m3
    have w3 := same_new (o := .lst (((([v0, v1, v2, v3, v4, v5, v6, v7, v8]) ++ [v9, v10, v11, v12, v13, v14, v15, v16]) ++ [v17, v18, v19, v20, v21, v22]) ++ [v23, v24, v25, v26, v27])) (Same.refl G3) m3
    have cd3 : upd G3 D3 (.lst (((([v0, v1, v2, v3, v4, v5, v6, v7, v8]) ++ [v9, v10, v11, v12, v13, v14, v15, v16]) ++ [v17, v18, v19, v20, v21, v22]) ++ [v23, v24, v25, v26, v27])) D3 = some (.lst (((([v0, v1, v2, v3, v4, v5, v6, v7, v8]) ++ [v9, v10, v11, v12, v13, v14, v15, v16]) ++ [v17, v18, v19, v20, v21, v22]) ++ [v23, v24, v25, v26, v27])) := upd_same
    generalize upd G3 D3 (.lst (((([v0, v1, v2, v3, v4, v5, v6, v7, v8]) ++ [v9, v10, v11, v12, v13, v14, v15, v16]) ++ [v17, v18, v19, v20, v21, v22]) ++ [v23, v24, v25, v26, v27])) = M3 at w3 cd3 ⊢
    walk_at "hs"
    have RM3 := RG3.same w3
    have SM3 := SG3.trans w3
    refine ⟨_, rfl, fun v28 J29 s28 e28 => ?_⟩
    have R29 : ErsV J29 [v0, v1, v2, v3, v4, v5, v6, v7, v8, v9, v10, v11, v12, v13, v14, v15, v16, v17, v18, v19, v20, v21, v22, v23, v24, v25, v26, v27, v28] ((errsN Z x y).take 29) := (RM3.same s28).snoc e28
    have SX29 := SM3.trans s28
    have ce28 := s28 _ _ cd3
    walk_at "hs"
    refine ⟨_, rfl, fun v29 J30 s29 e29 => ?_⟩
    have R30 : ErsV J30 [v0, v1, v2, v3, v4, v5, v6, v7, v8, v9, v10, v11, v12, v13, v14, v15, v16, v17, v18, v19, v20, v21, v22, v23, v24, v25, v26, v27, v28, v29] ((errsN Z x y).take 30) := (R29.same s29).snoc e29
    have SX30 := SX29.trans s29
    have ce29 := s29 _ _ ce28
    walk_at "hs"
    refine ⟨_, rfl, fun v30 J31 s30 e30 => ?_⟩
    have R31 : ErsV J31 [v0, v1, v2, v3, v4, v5, v6, v7, v8, v9, v10, v11, v12, v13, v14, v15, v16, v17, v18, v19, v20, v21, v22, v23, v24, v25, v26, v27, v28, v29, v30] ((errsN Z x y).take 31) := (R30.same s30).snoc e30
    have SX31 := SX30.trans s30
    have ce30 := s30 _ _ ce29
    walk_at "hs"
    refine ⟨_, rfl, fun v31 J32 s31 e31 => ?_⟩
    have R32 : ErsV J32 [v0, v1, v2, v3, v4, v5, v6, v7, v8, v9, v10, v11, v12, v13, v14, v15, v16, v17, v18, v19, v20, v21, v22, v23, v24, v25, v26, v27, v28, v29, v30, v31] ((errsN Z x y).take 32) := (R31.same s31).snoc e31
    have SX32 := SX31.trans s31
    have ce31 := s31 _ _ ce30
    walk_at "hs"
    refine ⟨_, rfl, fun v32 J33 s32 e32 => ?_⟩
    have R33 : ErsV J33 [v0, v1, v2, v3, v4, v5, v6, v7, v8, v9, v10, v11, v12, v13, v14, v15, v16, v17, v18, v19, v20, v21, v22, v23, v24, v25, v26, v27, v28, v29, v30, v31, v32] ((errsN Z x y).take 33) := (R32.same s32).snoc e32
    have SX33 := SX32.trans s32
    have ce32 := s32 _ _ ce31
    walk_at "hs"
    intro p4 h4
    have u4 := same_new (o := .lst ([v28, v29, v30, v31, v32])) (Same.refl J33) h4
    have f4 : upd J33 p4 (.lst ([v28, v29, v30, v31, v32])) p4 = some (.lst ([v28, v29, v30, v31, v32])) := upd_same
    generalize upd J33 p4 (.lst ([v28, v29, v30, v31, v32])) = G4 at u4 f4 ⊢
    walk_at "hs"
    have RG4 := R33.same u4
    have SG4 := SX33.trans u4
    refine x_cat (u4 _ _ ce32) f4 (szLe (show 28 + 5 ≤ 100000 by decide)) ?_
    intro D4 m4
    have w4 := same_new (o := .lst ((((([v0, v1, v2, v3, v4, v5, v6, v7, v8]) ++ [v9, v10, v11, v12, v13, v14, v15, v16]) ++ [v17, v18, v19, v20, v21, v22]) ++ [v23, v24, v25, v26, v27]) ++ [v28, v29, v30, v31, v32])) (Same.refl G4) m4
    have cd4 : upd G4 D4 (.lst ((((([v0, v1, v2, v3, v4, v5, v6, v7, v8]) ++ [v9, v10, v11, v12, v13, v14, v15, v16]) ++ [v17, v18, v19, v20, v21, v22]) ++ [v23, v24, v25, v26, v27]) ++ [v28, v29, v30, v31, v32])) D4 = some (.lst ((((([v0, v1, v2, v3, v4, v5, v6, v7, v8]) ++ [v9, v10, v11, v12, v13, v14, v15, v16]) ++ [v17, v18, v19, v20, v21, v22]) ++ [v23, v24, v25, v26, v27]) ++ [v28, v29, v30, v31, v32])) := upd_same
    generalize upd G4 D4 (.lst ((((([v0, v1, v2, v3, v4, v5, v6, v7, v8]) ++ [v9, v10, v11, v12, v13, v14, v15, v16]) ++ [v17, v18, v19, v20, v21, v22]) ++ [v23, v24, v25, v26, v27]) ++ [v28, v29, v30, v31, v32])) = M4 at w4 cd4 ⊢
    walk_at "hs"
    have RM4 := RG4.same w4
    have SM4 := SG4.trans w4
    refine ⟨_, rfl, fun v33 J34 s33 e33 => ?_⟩
    have R34 : ErsV J34 [v0, v1, v2, v3, v4, v5, v6, v7, v8, v9, v10, v11, v12, v13, v14, v15, v16, v17, v18, v19, v20, v21, v22, v23, v24, v25, v26, v27, v28, v29, v30, v31, v32, v33] ((errsN Z x y).take 34) := (RM4.same s33).snoc e33
    have SX34 := SM4.trans s33
    have ce33 := s33 _ _ cd4
    walk_at "hs"
    refine ⟨_, rfl, fun v34 J35 s34 e34 => ?_⟩
    have R35 : ErsV J35 [v0, v1, v2, v3, v4, v5, v6, v7, v8, v9, v10, v11, v12, v13, v14, v15, v16, v17, v18, v19, v20, v21, v22, v23, v24, v25, v26, v27, v28, v29, v30, v31, v32, v33, v34] ((errsN Z x y).take 35) := (R34.same s34).snoc e34
    have SX35 := SX34.trans s34
    have ce34 := s34 _ _ ce33
    walk_at "hs"
    refine ⟨_, rfl, fun v35 J36 s35 e35 => ?_⟩
    have R36 : ErsV J36 [v0, v1, v2, v3, v4, v5, v6, v7, v8, v9, v10, v11, v12, v13, v14, v15, v16, v17, v18, v19, v20, v21, v22, v23, v24, v25, v26, v27, v28, v29, v30, v31, v32, v33, v34, v35] ((errsN Z x y).take 36) := (R35.same s35).snoc e35
    have SX36 := SX35.trans s35
    have ce35 := s35 _ _ ce34
    walk_at "hs"
    refine ⟨_, rfl, fun v36 J37 s36 e36 => ?_⟩
    have R37 : ErsV J37 [v0, v1, v2, v3, v4, v5, v6, v7, v8, v9, v10, v11, v12, v13, v14, v15, v16, v17, v18, v19, v20, v21, v22, v23, v24, v25, v26, v27, v28, v29, v30, v31, v32, v33, v34, v35, v36] ((errsN Z x y).take 37) := (R36.same s36).snoc e36
    have SX37 := SX36.trans s36
    have ce36 := s36 _ _ ce35
    walk_at "hs"
    refine ⟨_, rfl, fun v37 J38 s37 e37 => ?_⟩
    have R38 : ErsV J38 [v0, v1, v2, v3, v4, v5, v6, v7, v8, v9, v10, v11, v12, v13, v14, v15, v16, v17, v18, v19, v20, v21, v22, v23, v24, v25, v26, v27, v28, v29, v30, v31, v32, v33, v34, v35, v36, v37] ((errsN Z x y).take 38) := (R37.same s37).snoc e37
    have SX38 := SX37.trans s37
    have ce37 := s37 _ _ ce36
    walk_at "hs"
    intro p5 h5
    have u5 := same_new (o := .lst ([v33, v34, v35, v36, v37])) (Same.refl J38) h5
    have f5 : upd J38 p5 (.lst ([v33, v34, v35, v36, v37])) p5 = some (.lst ([v33, v34, v35, v36, v37])) := upd_same
    generalize upd J38 p5 (.lst ([v33, v34, v35, v36, v37])) = G5 at u5 f5 ⊢
    walk_at "hs"
    have RG5 := R38.same u5
    have SG5 := SX38.trans u5
    refine x_cat (u5 _ _ ce37) f5 (szLe (show 33 + 5 ≤ 100000 by decide)) ?_
    intro D5 m5
    have w5 := same_new (o := .lst (((((([v0, v1, v2, v3, v4, v5, v6, v7, v8]) ++ [v9, v10, v11, v12, v13, v14, v15, v16]) ++ [v17, v18, v19, v20, v21, v22]) ++ [v23, v24, v25, v26, v27]) ++ [v28, v29, v30, v31, v32]) ++ [v33, v34, v35, v36, v37])) (Same.refl G5) m5
    have cd5 : upd G5 D5 (.lst (((((([v0, v1, v2, v3, v4, v5, v6, v7, v8]) ++ [v9, v10, v11, v12, v13, v14, v15, v16]) ++ [v17, v18, v19, v20, v21, v22]) ++ [v23, v24, v25, v26, v27]) ++ [v28, v29, v30, v31, v32]) ++ [v33, v34, v35, v36, v37])) D5 = some (.lst (((((([v0, v1, v2, v3, v4, v5, v6, v7, v8]) ++ [v9, v10, v11, v12, v13, v14, v15, v16]) ++ [v17, v18, v19, v20, v21, v22]) ++ [v23, v24, v25, v26, v27]) ++ [v28, v29, v30, v31, v32]) ++ [v33, v34, v35, v36, v37])) := upd_same
    generalize upd G5 D5 (.lst (((((([v0, v1, v2, v3, v4, v5, v6, v7, v8]) ++ [v9, v10, v11, v12, v13, v14, v15, v16]) ++ [v17, v18, v19, v20, v21, v22]) ++ [v23, v24, v25, v26, v27]) ++ [v28, v29, v30, v31, v32]) ++ [v33, v34, v35, v36, v37])) = M5 at w5 cd5 ⊢
    walk_at "hs"
    have RM5 := RG5.same w5
    have SM5 := SG5.trans w5
    have RR : ErsV M5 [v0, v1, v2, v3, v4, v5, v6, v7, v8, v9, v10, v11, v12, v13, v14, v15, v16, v17, v18, v19, v20, v21, v22, v23, v24, v25, v26, v27, v28, v29, v30, v31, v32, v33, v34, v35, v36, v37] (errsN Z x y) := RM5
    have eF : M5 D5 = some (.lst [v0, v1, v2, v3, v4, v5, v6, v7, v8, v9, v10, v11, v12, v13, v14, v15, v16, v17, v18, v19, v20, v21, v22, v23, v24, v25, v26, v27, v28, v29, v30, v31, v32, v33, v34, v35, v36, v37]) := cd5
    have SF := SM5
    clear R0 R1 R2 R3 R4 R5 R6 R7 R8 R9 R10 R11 R12 R13 R14 R15 R16 R17 R18 R19 R20 R21 R22 R23 R24 R25 R26 R27 R28 R29 R30 R31 R32 R33 R34 R35 R36 R37 R38 RG0 RG1 RG2 RG3 RG4 RG5 RM1 RM2 RM3 RM4 RM5 e0 e1 e2 e3 e4 e5 e6 e7 e8 e9 e10 e11 e12 e13 e14 e15 e16 e17 e18 e19 e20 e21 e22 e23 e24 e25 e26 e27 e28 e29 e30 e31 e32 e33 e34 e35 e36 e37 ce9 ce10 ce11 ce12 ce13 ce14 ce15 ce16 ce17 ce18 ce19 ce20 ce21 ce22 ce23 ce24 ce25 ce26 ce27 ce28 ce29 ce30 ce31 ce32 ce33 ce34 ce35 ce36 ce37 cd1 cd2 cd3 cd4 cd5 f0 f1 f2 f3 f4 f5
    generalize M5 = G at RR eF SF ⊢
    generalize D5 = D at eF ⊢
    obtain ⟨vs, ev, rv⟩ : ∃ vs, G D = some (.lst vs) ∧ ErsV G vs (errsN Z x y) := ⟨_, eF, RR⟩
    clear eF RR
    have lv : vs.length = 38 := rv.len
    intro u0 U0 su0 eu0
    walk_at "hs"
    refine x_isO eu0 hVE kVE ?_
    have ev0 := su0 _ _ ev
    have rv0 := rv.same su0
    have SU := SF.trans su0
    clear ev rv SF su0 eu0
    walk_at "hs"
    refine x_isdF (by rw [lv]; decide) ?_
    walk_at "hs"
    refine ⟨(vs.length : Int), rfl, by omega, by omega, ?_⟩
    refine lp_range (lo := 0) (n := Int.toNat vs.length) (fun i σ' H' => (∃ x6, σ' = [some (.ref a), some (.ref p), some (.ref L), some x, some y, some (.ref D), x6, none, none]) ∧ Same U0 H') ⟨⟨_, rfl⟩, Same.refl _⟩ ?_ ?_
    · rintro i σ' H' hi ⟨⟨x6, rfl⟩, s1⟩
      obtain ⟨pq, hq⟩ : ∃ pq, (errsN Z x y)[i]? = some pq := ⟨_, List.getElem?_eq_getElem (by show i < 38; omega)⟩
      have hc := errs_cls x y i pq hq
      obtain ⟨vi, hvi, evi⟩ := rv0.at hq
      have ev1 := s1 _ _ ev0
      have a1 : atI vs (0 + (i : Int)) = some vi := by
        rw [Int.zero_add]
        exact atI_nat hvi
      walk_at "hs"
      refine x_isV (evi.same s1) (T.e i _ hc) (T.v i _ hc) ?_
      walk_at "hs"
      refine x_isVv (evi.same s1) (T.e i _ hc) (T.u i _ hc) ?_
      walk_at "hs"
      refine ⟨vi, i, _, _, rfl, hc, evi.same s1, fun E2 H2 s2 nE e2 => ?_⟩
      walk_at "hs"
      intro l hl
      walk_at "hs"
      refine x_neL1 (i := i) (keepN e2 hl) (by rw [upd_same, Int.zero_add]) ?_
      walk_at "hs"
      exact ⟨⟨_, rfl⟩, (s1.trans s2).trans (same_new (Same.refl _) hl)⟩
    · rintro σ' H' ⟨⟨x6, rfl⟩, s1⟩
      have evF := s1 _ _ ev0
      have rF := rv0.same s1
      have SY := SU.trans s1
      clear ev0 rv0 SU s1
      obtain ⟨w18, b18, E18⟩ := rF.at (i := 18) rfl
      have g18 : atI vs 18 = some w18 := atI_nat (j := 18) b18
      obtain ⟨w19, b19, E19⟩ := rF.at (i := 19) rfl
      have g19 : atI vs 19 = some w19 := atI_nat (j := 19) b19
      obtain ⟨w20, b20, E20⟩ := rF.at (i := 20) rfl
      have g20 : atI vs 20 = some w20 := atI_nat (j := 20) b20
      obtain ⟨w21, b21, E21⟩ := rF.at (i := 21) rfl
      have g21 : atI vs 21 = some w21 := atI_nat (j := 21) b21
      obtain ⟨w22, b22, E22⟩ := rF.at (i := 22) rfl
      have g22 : atI vs 22 = some w22 := atI_nat (j := 22) b22
      obtain ⟨w23, b23, E23⟩ := rF.at (i := 23) rfl
      have g23 : atI vs 23 = some w23 := atI_nat (j := 23) b23
      obtain ⟨w24, b24, E24⟩ := rF.at (i := 24) rfl
      have g24 : atI vs 24 = some w24 := atI_nat (j := 24) b24
      obtain ⟨w25, b25, E25⟩ := rF.at (i := 25) rfl
      have g25 : atI vs 25 = some w25 := atI_nat (j := 25) b25
      obtain ⟨w26, b26, E26⟩ := rF.at (i := 26) rfl
      have g26 : atI vs 26 = some w26 := atI_nat (j := 26) b26
      obtain ⟨w27, b27, E27⟩ := rF.at (i := 27) rfl
      have g27 : atI vs 27 = some w27 := atI_nat (j := 27) b27
      obtain ⟨w28, b28, E28⟩ := rF.at (i := 28) rfl
      have g28 : atI vs 28 = some w28 := atI_nat (j := 28) b28
      obtain ⟨w29, b29, E29⟩ := rF.at (i := 29) rfl
      have g29 : atI vs 29 = some w29 := atI_nat (j := 29) b29
      obtain ⟨w30, b30, E30⟩ := rF.at (i := 30) rfl
      have g30 : atI vs 30 = some w30 := atI_nat (j := 30) b30
      obtain ⟨w31, b31, E31⟩ := rF.at (i := 31) rfl
      have g31 : atI vs 31 = some w31 := atI_nat (j := 31) b31
      obtain ⟨w32, b32, E32⟩ := rF.at (i := 32) rfl
      have g32 : atI vs 32 = some w32 := atI_nat (j := 32) b32
      obtain ⟨w36, b36, E36⟩ := rF.at (i := 36) rfl
      have g36 : atI vs 36 = some w36 := atI_nat (j := 36) b36
      obtain ⟨w37, b37, E37⟩ := rF.at (i := 37) rfl
      have g37 : atI vs 37 = some w37 := atI_nat (j := 37) b37
      clear rF
      walk_at "hs"
      refine x_fV ?_
      walk_at "hs"
      refine ⟨Z.a_BadTree, _, x, E18, T.e 18 _ rfl, X_BadTree.n, rfl, ?_⟩
      walk_at "hs"
      refine x_fV ?_
      walk_at "hs"
      refine ⟨Z.a_BadPicture, _, x, E19, T.e 19 _ rfl, X_BadPicture.n, rfl, ?_⟩
      walk_at "hs"
      refine x_fV ?_
      walk_at "hs"
      refine ⟨Z.a_TooMany, _, x, E20, T.e 20 _ rfl, X_TooMany.n, rfl, ?_⟩
      walk_at "hs"
      refine x_fV ?_
      walk_at "hs"
      refine ⟨Z.a_BadWords, _, x, E21, T.e 21 _ rfl, X_BadWords.n, rfl, ?_⟩
      walk_at "hs"
      refine x_fV ?_
      walk_at "hs"
      refine ⟨Z.a_BadHistory, _, x, E22, T.e 22 _ rfl, X_BadHistory.n, rfl, ?_⟩
      walk_at "hs"
      refine x_fV ?_
      walk_at "hs"
      refine ⟨Z.a_RingTold, _, x, E23, T.e 23 _ rfl, X_RingTold.n, rfl, ?_⟩
      walk_at "hs"
      intro q0 k0
      have y0 := same_new (o := .lst ([x, x, x, x, x, x])) (Same.refl H') k0
      have z0 : upd H' q0 (.lst ([x, x, x, x, x, x])) q0 = some (.lst ([x, x, x, x, x, x])) := upd_same
      generalize upd H' q0 (.lst ([x, x, x, x, x, x])) = Q0 at y0 z0 ⊢
      walk_at "hs"
      have ev0a := y0 _ _ evF
      have TT0a := y0
      refine x_fV ?_
      walk_at "hs"
      refine ⟨Z.a_NameTwice, _, x, E24.same TT0a, T.e 24 _ rfl, X_NameTwice.n, rfl, ?_⟩
      walk_at "hs"
      refine x_fV ?_
      walk_at "hs"
      refine ⟨Z.a_BadBody, _, x, E25.same TT0a, T.e 25 _ rfl, X_BadBody.n, rfl, ?_⟩
      walk_at "hs"
      refine x_fV ?_
      walk_at "hs"
      refine ⟨Z.a_NoPath, _, x, E26.same TT0a, T.e 26 _ rfl, X_NoPath.n, rfl, ?_⟩
      walk_at "hs"
      refine x_fV ?_
      walk_at "hs"
      refine ⟨Z.a_NotThere, _, x, E27.same TT0a, T.e 27 _ rfl, X_NotThere.n, rfl, ?_⟩
      walk_at "hs"
      refine x_fV ?_
      walk_at "hs"
      refine ⟨Z.a_NotFolder, _, x, E28.same TT0a, T.e 28 _ rfl, X_NotFolder.n, rfl, ?_⟩
      walk_at "hs"
      refine x_fV ?_
      walk_at "hs"
      refine ⟨Z.a_NotFile, _, x, E29.same TT0a, T.e 29 _ rfl, X_NotFile.n, rfl, ?_⟩
      walk_at "hs"
      intro q1 k1
      have y1 := same_new (o := .lst ([x, x, x, x, x, x])) (Same.refl Q0) k1
      have z1 : upd Q0 q1 (.lst ([x, x, x, x, x, x])) q1 = some (.lst ([x, x, x, x, x, x])) := upd_same
      generalize upd Q0 q1 (.lst ([x, x, x, x, x, x])) = Q1 at y1 z1 ⊢
      walk_at "hs"
      have ev1a := y1 _ _ ev0a
      have TT1a := (TT0a.trans y1)
      refine x_cat (y1 _ _ z0) z1 (szLe (show 6 + 6 ≤ 100000 by decide)) ?_
      intro F1 fm1
      have yb1 := same_new (o := .lst (([x, x, x, x, x, x]) ++ [x, x, x, x, x, x])) (Same.refl Q1) fm1
      have zb1 : upd Q1 F1 (.lst (([x, x, x, x, x, x]) ++ [x, x, x, x, x, x])) F1 = some (.lst (([x, x, x, x, x, x]) ++ [x, x, x, x, x, x])) := upd_same
      generalize upd Q1 F1 (.lst (([x, x, x, x, x, x]) ++ [x, x, x, x, x, x])) = QB1 at yb1 zb1 ⊢
      walk_at "hs"
      have ev1b := yb1 _ _ ev1a
      have TT1b := TT1a.trans yb1
      refine x_fV ?_
      walk_at "hs"
      refine ⟨Z.a_TakenPath, _, x, E30.same TT1b, T.e 30 _ rfl, X_TakenPath.n, rfl, ?_⟩
      walk_at "hs"
      refine x_fV ?_
      walk_at "hs"
      refine ⟨Z.a_NotEmpty, _, x, E31.same TT1b, T.e 31 _ rfl, X_NotEmpty.n, rfl, ?_⟩
      walk_at "hs"
      refine x_fV ?_
      walk_at "hs"
      refine ⟨Z.a_BadText, _, x, E32.same TT1b, T.e 32 _ rfl, X_BadText.n, rfl, ?_⟩
      walk_at "hs"
      refine x_fV ?_
      walk_at "hs"
      refine ⟨Z.a_BadBook, _, x, E36.same TT1b, T.e 36 _ rfl, X_BadBook.n, rfl, ?_⟩
      walk_at "hs"
      refine x_fV ?_
      walk_at "hs"
      refine ⟨Z.a_NotKept, _, x, E37.same TT1b, T.e 37 _ rfl, X_NotKept.n, rfl, ?_⟩
      walk_at "hs"
      intro q2 k2
      have y2 := same_new (o := .lst ([x, x, x, x, x])) (Same.refl QB1) k2
      have z2 : upd QB1 q2 (.lst ([x, x, x, x, x])) q2 = some (.lst ([x, x, x, x, x])) := upd_same
      generalize upd QB1 q2 (.lst ([x, x, x, x, x])) = Q2 at y2 z2 ⊢
      walk_at "hs"
      have ev2a := y2 _ _ ev1b
      have TT2a := (TT1b.trans y2)
      refine x_cat (y2 _ _ zb1) z2 (szLe (show 12 + 5 ≤ 100000 by decide)) ?_
      intro F2 fm2
      have yb2 := same_new (o := .lst ((([x, x, x, x, x, x]) ++ [x, x, x, x, x, x]) ++ [x, x, x, x, x])) (Same.refl Q2) fm2
      have zb2 : upd Q2 F2 (.lst ((([x, x, x, x, x, x]) ++ [x, x, x, x, x, x]) ++ [x, x, x, x, x])) F2 = some (.lst ((([x, x, x, x, x, x]) ++ [x, x, x, x, x, x]) ++ [x, x, x, x, x])) := upd_same
      generalize upd Q2 F2 (.lst ((([x, x, x, x, x, x]) ++ [x, x, x, x, x, x]) ++ [x, x, x, x, x])) = QB2 at yb2 zb2 ⊢
      walk_at "hs"
      have ev2b := yb2 _ _ ev2a
      have TT2b := TT2a.trans yb2
      have RX2 := RX.same (SY.trans TT2b)
      have RY2 := RY.same (SY.trans TT2b)
      refine ⟨F2, rfl, ⟨_, SqL.of zb2⟩, fun D1 hD1 => ?_⟩
      have eight : ∀ z, z ∈ ([x, x, x, x, x, x] ++ [x, x, x, x, x, x] ++ [x, x, x, x, x]) → z = x := fun z hz => by simpa using hz
      refine lc_list (K := K) (xs := [x, x, x, x, x, x] ++ [x, x, x, x, x, x] ++ [x, x, x, x, x]) (fun k H3 => Same QB2 H3 ∧ H3 D1 = some (.lst ((List.replicate k true).map V.bl))) ⟨same_new (Same.refl _) hD1, upd_same⟩ (fun k H3 _ h => SqL.of (h.1 _ _ zb2)) ?_ ?_
      · rintro k z H3 hk ⟨s3, eD⟩
        have ez := eight z (List.mem_of_getElem? hk)
        have k17 : k < 17 := (List.getElem?_eq_some_iff.mp hk).1
        rw [ez]
        walk_at "hs"
        refine ⟨rfl, ?_⟩
        walk_at "hs"
        refine ⟨x, rfl, RX2.same s3, fun H4 s4 => ?_⟩
        refine ⟨_, s4 _ _ eD, szLt (by rw [List.length_map, List.length_replicate]; omega), same_mut (s3.trans s4) hD1, ?_⟩
        rw [upd_same, List.replicate_succ', List.map_append]
        rfl
      · rintro H3 ⟨s3, eD⟩
        have ev3 := s3 _ _ ev2b
        walk_at "hs"
        refine ⟨D1, _, rfl, SqL.of eD, ?_⟩
        rw [show (List.replicate ([x, x, x, x, x, x] ++ [x, x, x, x, x, x] ++ [x, x, x, x, x]).length true).all id = true from rfl]
        walk_at "hs"
        refine x_fV ?_
        walk_at "hs"
        refine ⟨Z.a_NameTwice, _, y, E24.same (TT2b.trans s3), T.e 24 _ rfl, n2, rfl, ?_⟩
        walk_at "hs"
        refine ⟨y, rfl, RY2.same s3, fun H4 s4 => ?_⟩
        exact q _
end
set_option maxRecDepth 100000
set_option maxHeartbeats 2000000
open PySem PySem.Spec L2 PyProof.Rows
def rowE (V : Addr) : List Value := [.ref V, .type "ValueError", .type "Exception", .type "BaseException", .type "object"]
structure ClsF (K : PySem.W.Frag) (V c : Addr) : Prop where
  x : L2.OexC K c
  e : L2.ExcC K c
  m : ∀ b, PySem.W.mroIn K c b = some ((Value.ref c :: rowE V).contains b)
  s : (PySem.W.clsIn K c).isSome = true
theorem cls_mk {K : PySem.W.Frag} {V c N : Addr} {nm q : Str} {bs : List Value} {sn : List Str} {sub : List Value} {ab : Bool} {col : Option Bool} {dd : Option Addr} {k0 k1 k2 k3 k5 : Option Value}
    (xL : K.lookup c = some (excClassObj nm q c N bs (rowE V) true sn sub ab col dd k0 k1 k2 k3 k5 "ValueError.__new__")) (sa : PySem.W.findIn K (.ref c) "__setattr__" = some (some (.builtin "object.__setattr__"))) (ty : PySem.W.typeIn K (.ref c) = some (.type "type")) (kc : PySem.W.keepIn K (.ref c) = true)
    (hg : PySem.W.findIn K (.ref c) "__getattribute__" = some (some (.builtin "BaseException.__getattribute__"))) (hk : PySem.W.findIn K (.ref c) "__getattr__" = some none) (ha : PySem.W.findIn K (.ref c) "__class__" = some (some (.builtin "object.__class__")))
    (hn : PySem.W.specialIn K (.builtin "object.__class__") "__get__" = some (some (.builtin "getset_descriptor.__get__"))) (ht : PySem.W.takesIn K (.builtin "object.__class__") = some true) : ClsF K V c := by
  have hcl : PySem.W.clsIn K c = some { name := nm, bases := bs, mro := .ref c :: rowE V, ns := N, qualname := q, hasDict := true, slotNames := sn, subclasses := sub, abstract := ab, collection := col, hasDel := false } := by
    unfold PySem.W.clsIn
    rw [xL] <;> rfl
  have m : ∀ b, PySem.W.mroIn K c b = some ((Value.ref c :: rowE V).contains b) := fun b => by
    unfold PySem.W.mroIn
    rw [hcl, Option.bind_some]
    rfl
  have inn : ∀ T : String, (rowE V).contains (.type T) = true → PySem.W.mroIn K c (.type T) = some true := fun T h => by
    rw [m, List.contains_cons, h, Bool.or_true]
  have hd : PySem.W.hasDictIn K c = true := by
    unfold PySem.W.hasDictIn
    rw [hcl]
    rfl
  have b1 : PySem.W.mroIn K c (.type "BaseException") = some true := inn _ (by simp [rowE])
  exact ⟨⟨⟨nm, q, N, bs, rowE V, sn, sub, ab, col, dd, k0, k1, k2, k3, k5, xL, rfl⟩, sa, b1, ty, kc⟩, ⟨hg, hk, b1, hd, ha, hn, ht, inn _ (by simp [rowE])⟩, m, by rw [hcl]; rfl⟩
theorem sup_mk {P : Program} {K : PySem.W.Frag} {V c f : Addr} {oc : Value} {od an : Option Addr} {kV doc pm ct : Value} {cda cc : Addr} {osl : Array (Option Value)} {qq : Str} {e p0 p1 p2 p3 p4 : Pos} {cl : Value} {cld : Option Addr} {csl : Array (Option Value)} {ccl : Value} {cdd : Option Addr} {vs : Array Value} {ccs : Array (Option Value)} {file : Str} {tf : Tok}
    (S : ClsF K V c) (i : PySem.W.findIn K (.ref c) "__init__" = some (some (.ref f))) (ti : PySem.W.typeIn K (.ref f) = some (.type "function"))
    (l : K.lookup f = some ⟨oc, od, .func (PySem.W.ksFn "__init__" qq (siA e) (siB p0 p1 p2 p3 p4) siS .none kV doc pm an (.ref cda) ct cc), osl⟩) (cU : PySem.W.codeIn K (.ref cda) qq = true) (ce : K.lookup cc = some ⟨cl, cld, .cell (some (.ref c)), csl⟩) (co : K.lookup cda = some ⟨ccl, cdd, .fields vs, ccs⟩)
    (v2 : vs[2]? = some (.str file tf)) (fi : ((P.main.file : Str) == file) = true) (ev : SupEv p0 p1 p2 p3) (up : PySem.W.ks_superIn K c c "__init__" = some (some (.builtin "ValueError.__init__"))) (op : PySem.W.nsIn K cStatics "thirdparty.any" = some none) (tp : (P.main.scope.names.lookup ("super" : Str)).isSome = false) : ∃ f, SupC P K c f :=
  ⟨f, S.x, i, ti, ⟨oc, od, kV, doc, pm, an, cda, ct, osl, cc, qq, e, p0, p1, p2, p3, p4, l, cU, ⟨cl, cld, csl, ce⟩, ccl, cdd, vs, ccs, file, tf, co, v2, fi, ev⟩, up, by rw [S.m, List.contains_cons, beq_self_eq_true, Bool.true_or], by show PySem.W.mroIn K c _ = _; rw [S.m, List.contains_cons]; simp [rowE], op, tp⟩
theorem kit_VE {K : PySem.W.Frag} {C : Addr} (h : PySem.W.subIn K (.ref C) (.type "ValueError") = some true) : PySem.W.kitOne K (.ref C) (.type "ValueError") = some true := by
  unfold PySem.W.kitOne
  rw [if_neg (by simp)]
  show (if PySem.W.kitMeta "ValueError" = true then PySem.W.subIn K (.ref C) (.type "ValueError") else none) = some true
  rw [if_pos (by decide +kernel)]
  exact h
theorem kit_to {K : PySem.W.Frag} {c d : Addr} {b : Bool} (ne : c ≠ d) (h : (PySem.W.clsIn K d).isSome = true) (ht : PySem.W.typeIn K (.ref d) = some (.type "type")) (hs : PySem.W.mroIn K c (.ref d) = some b) : PySem.W.kitOne K (.ref c) (.ref d) = some b := by
  have e2 : ((PySem.W.clsIn K d).isSome && PySem.W.typeIn K (.ref d) == some (.type "type")) = true := by
    rw [h, ht] <;> rfl
  unfold PySem.W.kitOne
  rw [if_neg (fun z => ne (Value.ref.inj (beq_iff_eq.mp z)))]
  show (if ((PySem.W.clsIn K d).isSome && PySem.W.typeIn K (.ref d) == some (.type "type")) = true then PySem.W.subIn K (.ref c) (.ref d) else none) = some b
  rw [if_pos e2]
  exact hs
theorem ert_mk {K : PySem.W.Frag} {Z : Ad} (S : ∀ c ∈ clsN Z, ClsF K Z.a_VoteError c) (sV : (PySem.W.clsIn K Z.a_VoteError).isSome = true) (tV : PySem.W.typeIn K (.ref Z.a_VoteError) = some (.type "type")) (dis : (Z.a_VoteError :: clsN Z).Nodup) : ErT K Z := by
  have mem : ∀ {i : Nat} {c : Addr}, (clsN Z)[i]? = some c → c ∈ clsN Z := fun h => List.mem_of_getElem? h
  obtain ⟨nV, nd⟩ := List.nodup_cons.mp dis
  have neV : ∀ {i : Nat} {c : Addr}, (clsN Z)[i]? = some c → c ≠ Z.a_VoteError := fun h z => nV (z ▸ mem h)
  refine ⟨fun i c h => (S c (mem h)).e, fun i j c d hc hd => ?_, fun i c h => ?_, fun i c h => ?_⟩
  · by_cases e : i = j
    · subst e
      rw [hc] at hd
      cases hd
      rw [decide_eq_true rfl]
      exact if_pos (beq_self_eq_true _)
    · have ne : c ≠ d := fun z => by
        subst z
        obtain ⟨hi, e1⟩ := List.getElem?_eq_some_iff.mp hc
        obtain ⟨hj, e2⟩ := List.getElem?_eq_some_iff.mp hd
        exact e ((List.getElem_inj nd).mp (e1.trans e2.symm))
      rw [decide_eq_false e]
      refine kit_to ne (S d (mem hd)).s (S d (mem hd)).x.tyC ?_
      rw [(S c (mem hc)).m]
      have n1 : ¬ d = c := fun z => ne z.symm
      have n2 := neV hd
      simp [rowE, n1, n2]
  · refine kit_to (neV h) sV tV ?_
    rw [(S c (mem h)).m]
    simp [rowE]
  · refine kit_VE ?_
    show PySem.W.mroIn K c _ = _
    rw [(S c (mem h)).m]
    simp [rowE]
set_option maxRecDepth 100000
set_option maxHeartbeats 4000000
open PySem PySem.Spec L2 PyProof.Rows
theorem all_mk {P : Program} {w : World} {K : PySem.W.Frag} {h : Heap} {mg : Str → Option Value} {fa : Addr} (X : K.In h) (G : h.Ns mainGlobals mg) (hfa : mg "law" = some (.ref fa))
    {c_VoteError : Addr}
    {c_BadTree : Addr}
    {c_NoBlock : Addr}
    {c_NoPlace : Addr}
    {c_Beneath : Addr}
    {c_NoOrder : Addr}
    {c_NoView : Addr}
    {c_OtherBlocks : Addr}
    {c_NoNumber : Addr}
    {c_BadPicture : Addr}
    {c_NoLot : Addr}
    {c_NoTree : Addr}
    {c_NotFitting : Addr}
    {c_NoTelling : Addr}
    {c_TooMany : Addr}
    {c_BadWords : Addr}
    {c_BadHistory : Addr}
    {c_NoWord : Addr}
    {c_NoWorth : Addr}
    {c_NothingWaits : Addr}
    {c_RingTold : Addr}
    {c_NameTwice : Addr}
    {c_BadBody : Addr}
    {c_NoPath : Addr}
    {c_NotThere : Addr}
    {c_NotFolder : Addr}
    {c_NotFile : Addr}
    {c_TakenPath : Addr}
    {c_NoText : Addr}
    {c_NotEmpty : Addr}
    {c_NoBlocks : Addr}
    {c_NoLine : Addr}
    {c_NoLines : Addr}
    {c_BadText : Addr}
    {c_BadBook : Addr}
    {c_NotKept : Addr}
    {c_NoChanges : Addr}
    {c_UnderWay : Addr}
    {c_NotUnderWay : Addr}
    {f_BadTree___init__ : Addr} {od_BadTree___init__ an_BadTree___init__ : Option Addr} {sl_BadTree___init__ : Array (Option Value)} {oc_BadTree___init__ kV_BadTree___init__ dc_BadTree___init__ pm_BadTree___init__ cd_BadTree___init__ ct_BadTree___init__ : Value}
    {f_BadPicture___init__ : Addr} {od_BadPicture___init__ an_BadPicture___init__ : Option Addr} {sl_BadPicture___init__ : Array (Option Value)} {oc_BadPicture___init__ kV_BadPicture___init__ dc_BadPicture___init__ pm_BadPicture___init__ cd_BadPicture___init__ ct_BadPicture___init__ : Value}
    {f_TooMany___init__ : Addr} {od_TooMany___init__ an_TooMany___init__ : Option Addr} {sl_TooMany___init__ : Array (Option Value)} {oc_TooMany___init__ kV_TooMany___init__ dc_TooMany___init__ pm_TooMany___init__ cd_TooMany___init__ ct_TooMany___init__ : Value}
    {f_BadWords___init__ : Addr} {od_BadWords___init__ an_BadWords___init__ : Option Addr} {sl_BadWords___init__ : Array (Option Value)} {oc_BadWords___init__ kV_BadWords___init__ dc_BadWords___init__ pm_BadWords___init__ cd_BadWords___init__ ct_BadWords___init__ : Value}
    {f_BadHistory___init__ : Addr} {od_BadHistory___init__ an_BadHistory___init__ : Option Addr} {sl_BadHistory___init__ : Array (Option Value)} {oc_BadHistory___init__ kV_BadHistory___init__ dc_BadHistory___init__ pm_BadHistory___init__ cd_BadHistory___init__ ct_BadHistory___init__ : Value}
    {f_RingTold___init__ : Addr} {od_RingTold___init__ an_RingTold___init__ : Option Addr} {sl_RingTold___init__ : Array (Option Value)} {oc_RingTold___init__ kV_RingTold___init__ dc_RingTold___init__ pm_RingTold___init__ cd_RingTold___init__ ct_RingTold___init__ : Value}
    {f_NameTwice___init__ : Addr} {od_NameTwice___init__ an_NameTwice___init__ : Option Addr} {sl_NameTwice___init__ : Array (Option Value)} {oc_NameTwice___init__ kV_NameTwice___init__ dc_NameTwice___init__ pm_NameTwice___init__ cd_NameTwice___init__ ct_NameTwice___init__ : Value}
    {f_BadBody___init__ : Addr} {od_BadBody___init__ an_BadBody___init__ : Option Addr} {sl_BadBody___init__ : Array (Option Value)} {oc_BadBody___init__ kV_BadBody___init__ dc_BadBody___init__ pm_BadBody___init__ cd_BadBody___init__ ct_BadBody___init__ : Value}
    {f_NoPath___init__ : Addr} {od_NoPath___init__ an_NoPath___init__ : Option Addr} {sl_NoPath___init__ : Array (Option Value)} {oc_NoPath___init__ kV_NoPath___init__ dc_NoPath___init__ pm_NoPath___init__ cd_NoPath___init__ ct_NoPath___init__ : Value}
    {f_NotThere___init__ : Addr} {od_NotThere___init__ an_NotThere___init__ : Option Addr} {sl_NotThere___init__ : Array (Option Value)} {oc_NotThere___init__ kV_NotThere___init__ dc_NotThere___init__ pm_NotThere___init__ cd_NotThere___init__ ct_NotThere___init__ : Value}
    {f_NotFolder___init__ : Addr} {od_NotFolder___init__ an_NotFolder___init__ : Option Addr} {sl_NotFolder___init__ : Array (Option Value)} {oc_NotFolder___init__ kV_NotFolder___init__ dc_NotFolder___init__ pm_NotFolder___init__ cd_NotFolder___init__ ct_NotFolder___init__ : Value}
    {f_NotFile___init__ : Addr} {od_NotFile___init__ an_NotFile___init__ : Option Addr} {sl_NotFile___init__ : Array (Option Value)} {oc_NotFile___init__ kV_NotFile___init__ dc_NotFile___init__ pm_NotFile___init__ cd_NotFile___init__ ct_NotFile___init__ : Value}
    {f_TakenPath___init__ : Addr} {od_TakenPath___init__ an_TakenPath___init__ : Option Addr} {sl_TakenPath___init__ : Array (Option Value)} {oc_TakenPath___init__ kV_TakenPath___init__ dc_TakenPath___init__ pm_TakenPath___init__ cd_TakenPath___init__ ct_TakenPath___init__ : Value}
    {f_NotEmpty___init__ : Addr} {od_NotEmpty___init__ an_NotEmpty___init__ : Option Addr} {sl_NotEmpty___init__ : Array (Option Value)} {oc_NotEmpty___init__ kV_NotEmpty___init__ dc_NotEmpty___init__ pm_NotEmpty___init__ cd_NotEmpty___init__ ct_NotEmpty___init__ : Value}
    {f_BadText___init__ : Addr} {od_BadText___init__ an_BadText___init__ : Option Addr} {sl_BadText___init__ : Array (Option Value)} {oc_BadText___init__ kV_BadText___init__ dc_BadText___init__ pm_BadText___init__ cd_BadText___init__ ct_BadText___init__ : Value}
    {f_BadBook___init__ : Addr} {od_BadBook___init__ an_BadBook___init__ : Option Addr} {sl_BadBook___init__ : Array (Option Value)} {oc_BadBook___init__ kV_BadBook___init__ dc_BadBook___init__ pm_BadBook___init__ cd_BadBook___init__ ct_BadBook___init__ : Value}
    {f_NotKept___init__ : Addr} {od_NotKept___init__ an_NotKept___init__ : Option Addr} {sl_NotKept___init__ : Array (Option Value)} {oc_NotKept___init__ kV_NotKept___init__ dc_NotKept___init__ pm_NotKept___init__ cd_NotKept___init__ ct_NotKept___init__ : Value}
    {f__law_pool : Addr} {od__law_pool an__law_pool : Option Addr} {sl__law_pool : Array (Option Value)} {oc__law_pool kV__law_pool dc__law_pool pm__law_pool cd__law_pool ct__law_pool : Value}
    {f__law_draw : Addr} {od__law_draw an__law_draw : Option Addr} {sl__law_draw : Array (Option Value)} {oc__law_draw kV__law_draw dc__law_draw pm__law_draw cd__law_draw ct__law_draw : Value}
    {f__law_pick : Addr} {od__law_pick an__law_pick : Option Addr} {sl__law_pick : Array (Option Value)} {oc__law_pick kV__law_pick dc__law_pick pm__law_pick cd__law_pick ct__law_pick : Value}
    {f__law_is : Addr} {od__law_is an__law_is : Option Addr} {sl__law_is : Array (Option Value)} {oc__law_is kV__law_is dc__law_is pm__law_is cd__law_is ct__law_is : Value}
    {f__law_deep : Addr} {od__law_deep an__law_deep : Option Addr} {sl__law_deep : Array (Option Value)} {oc__law_deep kV__law_deep dc__law_deep pm__law_deep cd__law_deep ct__law_deep : Value}
    {f__law_kinds : Addr} {od__law_kinds an__law_kinds : Option Addr} {sl__law_kinds : Array (Option Value)} {oc__law_kinds kV__law_kinds dc__law_kinds pm__law_kinds cd__law_kinds ct__law_kinds : Value}
    {f_law : Addr} {od_law an_law : Option Addr} {sl_law : Array (Option Value)} {oc_law kV_law dc_law pm_law cd_law ct_law : Value}
    (n_VoteError : PySem.W.nsIn K mainGlobals "VoteError" = some (some (.ref c_VoteError)))
    (n_BadTree : PySem.W.nsIn K mainGlobals "BadTree" = some (some (.ref c_BadTree)))
    (n_NoBlock : PySem.W.nsIn K mainGlobals "NoBlock" = some (some (.ref c_NoBlock)))
    (n_NoPlace : PySem.W.nsIn K mainGlobals "NoPlace" = some (some (.ref c_NoPlace)))
    (n_Beneath : PySem.W.nsIn K mainGlobals "Beneath" = some (some (.ref c_Beneath)))
    (n_NoOrder : PySem.W.nsIn K mainGlobals "NoOrder" = some (some (.ref c_NoOrder)))
    (n_NoView : PySem.W.nsIn K mainGlobals "NoView" = some (some (.ref c_NoView)))
    (n_OtherBlocks : PySem.W.nsIn K mainGlobals "OtherBlocks" = some (some (.ref c_OtherBlocks)))
    (n_NoNumber : PySem.W.nsIn K mainGlobals "NoNumber" = some (some (.ref c_NoNumber)))
    (n_BadPicture : PySem.W.nsIn K mainGlobals "BadPicture" = some (some (.ref c_BadPicture)))
    (n_NoLot : PySem.W.nsIn K mainGlobals "NoLot" = some (some (.ref c_NoLot)))
    (n_NoTree : PySem.W.nsIn K mainGlobals "NoTree" = some (some (.ref c_NoTree)))
    (n_NotFitting : PySem.W.nsIn K mainGlobals "NotFitting" = some (some (.ref c_NotFitting)))
    (n_NoTelling : PySem.W.nsIn K mainGlobals "NoTelling" = some (some (.ref c_NoTelling)))
    (n_TooMany : PySem.W.nsIn K mainGlobals "TooMany" = some (some (.ref c_TooMany)))
    (n_BadWords : PySem.W.nsIn K mainGlobals "BadWords" = some (some (.ref c_BadWords)))
    (n_BadHistory : PySem.W.nsIn K mainGlobals "BadHistory" = some (some (.ref c_BadHistory)))
    (n_NoWord : PySem.W.nsIn K mainGlobals "NoWord" = some (some (.ref c_NoWord)))
    (n_NoWorth : PySem.W.nsIn K mainGlobals "NoWorth" = some (some (.ref c_NoWorth)))
    (n_NothingWaits : PySem.W.nsIn K mainGlobals "NothingWaits" = some (some (.ref c_NothingWaits)))
    (n_RingTold : PySem.W.nsIn K mainGlobals "RingTold" = some (some (.ref c_RingTold)))
    (n_NameTwice : PySem.W.nsIn K mainGlobals "NameTwice" = some (some (.ref c_NameTwice)))
    (n_BadBody : PySem.W.nsIn K mainGlobals "BadBody" = some (some (.ref c_BadBody)))
    (n_NoPath : PySem.W.nsIn K mainGlobals "NoPath" = some (some (.ref c_NoPath)))
    (n_NotThere : PySem.W.nsIn K mainGlobals "NotThere" = some (some (.ref c_NotThere)))
    (n_NotFolder : PySem.W.nsIn K mainGlobals "NotFolder" = some (some (.ref c_NotFolder)))
    (n_NotFile : PySem.W.nsIn K mainGlobals "NotFile" = some (some (.ref c_NotFile)))
    (n_TakenPath : PySem.W.nsIn K mainGlobals "TakenPath" = some (some (.ref c_TakenPath)))
    (n_NoText : PySem.W.nsIn K mainGlobals "NoText" = some (some (.ref c_NoText)))
    (n_NotEmpty : PySem.W.nsIn K mainGlobals "NotEmpty" = some (some (.ref c_NotEmpty)))
    (n_NoBlocks : PySem.W.nsIn K mainGlobals "NoBlocks" = some (some (.ref c_NoBlocks)))
    (n_NoLine : PySem.W.nsIn K mainGlobals "NoLine" = some (some (.ref c_NoLine)))
    (n_NoLines : PySem.W.nsIn K mainGlobals "NoLines" = some (some (.ref c_NoLines)))
    (n_BadText : PySem.W.nsIn K mainGlobals "BadText" = some (some (.ref c_BadText)))
    (n_BadBook : PySem.W.nsIn K mainGlobals "BadBook" = some (some (.ref c_BadBook)))
    (n_NotKept : PySem.W.nsIn K mainGlobals "NotKept" = some (some (.ref c_NotKept)))
    (n_NoChanges : PySem.W.nsIn K mainGlobals "NoChanges" = some (some (.ref c_NoChanges)))
    (n_UnderWay : PySem.W.nsIn K mainGlobals "UnderWay" = some (some (.ref c_UnderWay)))
    (n_NotUnderWay : PySem.W.nsIn K mainGlobals "NotUnderWay" = some (some (.ref c_NotUnderWay)))
    (z_ValueError : PySem.W.nsIn K mainGlobals "ValueError" = some none)
    (z_abs : PySem.W.nsIn K mainGlobals "abs" = some none)
    (z_all : PySem.W.nsIn K mainGlobals "all" = some none)
    (z_bool : PySem.W.nsIn K mainGlobals "bool" = some none)
    (z_dict : PySem.W.nsIn K mainGlobals "dict" = some none)
    (z_int : PySem.W.nsIn K mainGlobals "int" = some none)
    (z_isinstance : PySem.W.nsIn K mainGlobals "isinstance" = some none)
    (z_len : PySem.W.nsIn K mainGlobals "len" = some none)
    (z_list : PySem.W.nsIn K mainGlobals "list" = some none)
    (z_range : PySem.W.nsIn K mainGlobals "range" = some none)
    (z_str : PySem.W.nsIn K mainGlobals "str" = some none)
    (z_super : PySem.W.nsIn K mainGlobals "super" = some none)
    (z_tuple : PySem.W.nsIn K mainGlobals "tuple" = some none)
    (a_BadTree___init__ : PySem.W.findIn K (.ref c_BadTree) "__init__" = some (some (.ref f_BadTree___init__)))
    (l_BadTree___init__ : K.lookup f_BadTree___init__ = some ⟨oc_BadTree___init__, od_BadTree___init__, .func (PySem.W.fnOf "__init__" "BadTree.__init__" (defArgs s_BadTree___init__) (defBody s_BadTree___init__) (defScope s_BadTree___init__) .none kV_BadTree___init__ dc_BadTree___init__ pm_BadTree___init__ an_BadTree___init__ cd_BadTree___init__ ct_BadTree___init__), sl_BadTree___init__⟩)
    (c_BadTree___init__ : PySem.W.codeIn K cd_BadTree___init__ "BadTree.__init__" = true)
    (k_BadTree___init__ : PySem.W.keepIn K (.ref f_BadTree___init__) = true)
    (a_BadPicture___init__ : PySem.W.findIn K (.ref c_BadPicture) "__init__" = some (some (.ref f_BadPicture___init__)))
    (l_BadPicture___init__ : K.lookup f_BadPicture___init__ = some ⟨oc_BadPicture___init__, od_BadPicture___init__, .func (PySem.W.fnOf "__init__" "BadPicture.__init__" (defArgs s_BadPicture___init__) (defBody s_BadPicture___init__) (defScope s_BadPicture___init__) .none kV_BadPicture___init__ dc_BadPicture___init__ pm_BadPicture___init__ an_BadPicture___init__ cd_BadPicture___init__ ct_BadPicture___init__), sl_BadPicture___init__⟩)
    (c_BadPicture___init__ : PySem.W.codeIn K cd_BadPicture___init__ "BadPicture.__init__" = true)
    (k_BadPicture___init__ : PySem.W.keepIn K (.ref f_BadPicture___init__) = true)
    (a_TooMany___init__ : PySem.W.findIn K (.ref c_TooMany) "__init__" = some (some (.ref f_TooMany___init__)))
    (l_TooMany___init__ : K.lookup f_TooMany___init__ = some ⟨oc_TooMany___init__, od_TooMany___init__, .func (PySem.W.fnOf "__init__" "TooMany.__init__" (defArgs s_TooMany___init__) (defBody s_TooMany___init__) (defScope s_TooMany___init__) .none kV_TooMany___init__ dc_TooMany___init__ pm_TooMany___init__ an_TooMany___init__ cd_TooMany___init__ ct_TooMany___init__), sl_TooMany___init__⟩)
    (c_TooMany___init__ : PySem.W.codeIn K cd_TooMany___init__ "TooMany.__init__" = true)
    (k_TooMany___init__ : PySem.W.keepIn K (.ref f_TooMany___init__) = true)
    (a_BadWords___init__ : PySem.W.findIn K (.ref c_BadWords) "__init__" = some (some (.ref f_BadWords___init__)))
    (l_BadWords___init__ : K.lookup f_BadWords___init__ = some ⟨oc_BadWords___init__, od_BadWords___init__, .func (PySem.W.fnOf "__init__" "BadWords.__init__" (defArgs s_BadWords___init__) (defBody s_BadWords___init__) (defScope s_BadWords___init__) .none kV_BadWords___init__ dc_BadWords___init__ pm_BadWords___init__ an_BadWords___init__ cd_BadWords___init__ ct_BadWords___init__), sl_BadWords___init__⟩)
    (c_BadWords___init__ : PySem.W.codeIn K cd_BadWords___init__ "BadWords.__init__" = true)
    (k_BadWords___init__ : PySem.W.keepIn K (.ref f_BadWords___init__) = true)
    (a_BadHistory___init__ : PySem.W.findIn K (.ref c_BadHistory) "__init__" = some (some (.ref f_BadHistory___init__)))
    (l_BadHistory___init__ : K.lookup f_BadHistory___init__ = some ⟨oc_BadHistory___init__, od_BadHistory___init__, .func (PySem.W.fnOf "__init__" "BadHistory.__init__" (defArgs s_BadHistory___init__) (defBody s_BadHistory___init__) (defScope s_BadHistory___init__) .none kV_BadHistory___init__ dc_BadHistory___init__ pm_BadHistory___init__ an_BadHistory___init__ cd_BadHistory___init__ ct_BadHistory___init__), sl_BadHistory___init__⟩)
    (c_BadHistory___init__ : PySem.W.codeIn K cd_BadHistory___init__ "BadHistory.__init__" = true)
    (k_BadHistory___init__ : PySem.W.keepIn K (.ref f_BadHistory___init__) = true)
    (a_RingTold___init__ : PySem.W.findIn K (.ref c_RingTold) "__init__" = some (some (.ref f_RingTold___init__)))
    (l_RingTold___init__ : K.lookup f_RingTold___init__ = some ⟨oc_RingTold___init__, od_RingTold___init__, .func (PySem.W.fnOf "__init__" "RingTold.__init__" (defArgs s_RingTold___init__) (defBody s_RingTold___init__) (defScope s_RingTold___init__) .none kV_RingTold___init__ dc_RingTold___init__ pm_RingTold___init__ an_RingTold___init__ cd_RingTold___init__ ct_RingTold___init__), sl_RingTold___init__⟩)
    (c_RingTold___init__ : PySem.W.codeIn K cd_RingTold___init__ "RingTold.__init__" = true)
    (k_RingTold___init__ : PySem.W.keepIn K (.ref f_RingTold___init__) = true)
    (a_NameTwice___init__ : PySem.W.findIn K (.ref c_NameTwice) "__init__" = some (some (.ref f_NameTwice___init__)))
    (l_NameTwice___init__ : K.lookup f_NameTwice___init__ = some ⟨oc_NameTwice___init__, od_NameTwice___init__, .func (PySem.W.fnOf "__init__" "NameTwice.__init__" (defArgs s_NameTwice___init__) (defBody s_NameTwice___init__) (defScope s_NameTwice___init__) .none kV_NameTwice___init__ dc_NameTwice___init__ pm_NameTwice___init__ an_NameTwice___init__ cd_NameTwice___init__ ct_NameTwice___init__), sl_NameTwice___init__⟩)
    (c_NameTwice___init__ : PySem.W.codeIn K cd_NameTwice___init__ "NameTwice.__init__" = true)
    (k_NameTwice___init__ : PySem.W.keepIn K (.ref f_NameTwice___init__) = true)
    (a_BadBody___init__ : PySem.W.findIn K (.ref c_BadBody) "__init__" = some (some (.ref f_BadBody___init__)))
    (l_BadBody___init__ : K.lookup f_BadBody___init__ = some ⟨oc_BadBody___init__, od_BadBody___init__, .func (PySem.W.fnOf "__init__" "BadBody.__init__" (defArgs s_BadBody___init__) (defBody s_BadBody___init__) (defScope s_BadBody___init__) .none kV_BadBody___init__ dc_BadBody___init__ pm_BadBody___init__ an_BadBody___init__ cd_BadBody___init__ ct_BadBody___init__), sl_BadBody___init__⟩)
    (c_BadBody___init__ : PySem.W.codeIn K cd_BadBody___init__ "BadBody.__init__" = true)
    (k_BadBody___init__ : PySem.W.keepIn K (.ref f_BadBody___init__) = true)
    (a_NoPath___init__ : PySem.W.findIn K (.ref c_NoPath) "__init__" = some (some (.ref f_NoPath___init__)))
    (l_NoPath___init__ : K.lookup f_NoPath___init__ = some ⟨oc_NoPath___init__, od_NoPath___init__, .func (PySem.W.fnOf "__init__" "NoPath.__init__" (defArgs s_NoPath___init__) (defBody s_NoPath___init__) (defScope s_NoPath___init__) .none kV_NoPath___init__ dc_NoPath___init__ pm_NoPath___init__ an_NoPath___init__ cd_NoPath___init__ ct_NoPath___init__), sl_NoPath___init__⟩)
    (c_NoPath___init__ : PySem.W.codeIn K cd_NoPath___init__ "NoPath.__init__" = true)
    (k_NoPath___init__ : PySem.W.keepIn K (.ref f_NoPath___init__) = true)
    (a_NotThere___init__ : PySem.W.findIn K (.ref c_NotThere) "__init__" = some (some (.ref f_NotThere___init__)))
    (l_NotThere___init__ : K.lookup f_NotThere___init__ = some ⟨oc_NotThere___init__, od_NotThere___init__, .func (PySem.W.fnOf "__init__" "NotThere.__init__" (defArgs s_NotThere___init__) (defBody s_NotThere___init__) (defScope s_NotThere___init__) .none kV_NotThere___init__ dc_NotThere___init__ pm_NotThere___init__ an_NotThere___init__ cd_NotThere___init__ ct_NotThere___init__), sl_NotThere___init__⟩)
    (c_NotThere___init__ : PySem.W.codeIn K cd_NotThere___init__ "NotThere.__init__" = true)
    (k_NotThere___init__ : PySem.W.keepIn K (.ref f_NotThere___init__) = true)
    (a_NotFolder___init__ : PySem.W.findIn K (.ref c_NotFolder) "__init__" = some (some (.ref f_NotFolder___init__)))
    (l_NotFolder___init__ : K.lookup f_NotFolder___init__ = some ⟨oc_NotFolder___init__, od_NotFolder___init__, .func (PySem.W.fnOf "__init__" "NotFolder.__init__" (defArgs s_NotFolder___init__) (defBody s_NotFolder___init__) (defScope s_NotFolder___init__) .none kV_NotFolder___init__ dc_NotFolder___init__ pm_NotFolder___init__ an_NotFolder___init__ cd_NotFolder___init__ ct_NotFolder___init__), sl_NotFolder___init__⟩)
    (c_NotFolder___init__ : PySem.W.codeIn K cd_NotFolder___init__ "NotFolder.__init__" = true)
    (k_NotFolder___init__ : PySem.W.keepIn K (.ref f_NotFolder___init__) = true)
    (a_NotFile___init__ : PySem.W.findIn K (.ref c_NotFile) "__init__" = some (some (.ref f_NotFile___init__)))
    (l_NotFile___init__ : K.lookup f_NotFile___init__ = some ⟨oc_NotFile___init__, od_NotFile___init__, .func (PySem.W.fnOf "__init__" "NotFile.__init__" (defArgs s_NotFile___init__) (defBody s_NotFile___init__) (defScope s_NotFile___init__) .none kV_NotFile___init__ dc_NotFile___init__ pm_NotFile___init__ an_NotFile___init__ cd_NotFile___init__ ct_NotFile___init__), sl_NotFile___init__⟩)
    (c_NotFile___init__ : PySem.W.codeIn K cd_NotFile___init__ "NotFile.__init__" = true)
    (k_NotFile___init__ : PySem.W.keepIn K (.ref f_NotFile___init__) = true)
    (a_TakenPath___init__ : PySem.W.findIn K (.ref c_TakenPath) "__init__" = some (some (.ref f_TakenPath___init__)))
    (l_TakenPath___init__ : K.lookup f_TakenPath___init__ = some ⟨oc_TakenPath___init__, od_TakenPath___init__, .func (PySem.W.fnOf "__init__" "TakenPath.__init__" (defArgs s_TakenPath___init__) (defBody s_TakenPath___init__) (defScope s_TakenPath___init__) .none kV_TakenPath___init__ dc_TakenPath___init__ pm_TakenPath___init__ an_TakenPath___init__ cd_TakenPath___init__ ct_TakenPath___init__), sl_TakenPath___init__⟩)
    (c_TakenPath___init__ : PySem.W.codeIn K cd_TakenPath___init__ "TakenPath.__init__" = true)
    (k_TakenPath___init__ : PySem.W.keepIn K (.ref f_TakenPath___init__) = true)
    (a_NotEmpty___init__ : PySem.W.findIn K (.ref c_NotEmpty) "__init__" = some (some (.ref f_NotEmpty___init__)))
    (l_NotEmpty___init__ : K.lookup f_NotEmpty___init__ = some ⟨oc_NotEmpty___init__, od_NotEmpty___init__, .func (PySem.W.fnOf "__init__" "NotEmpty.__init__" (defArgs s_NotEmpty___init__) (defBody s_NotEmpty___init__) (defScope s_NotEmpty___init__) .none kV_NotEmpty___init__ dc_NotEmpty___init__ pm_NotEmpty___init__ an_NotEmpty___init__ cd_NotEmpty___init__ ct_NotEmpty___init__), sl_NotEmpty___init__⟩)
    (c_NotEmpty___init__ : PySem.W.codeIn K cd_NotEmpty___init__ "NotEmpty.__init__" = true)
    (k_NotEmpty___init__ : PySem.W.keepIn K (.ref f_NotEmpty___init__) = true)
    (a_BadText___init__ : PySem.W.findIn K (.ref c_BadText) "__init__" = some (some (.ref f_BadText___init__)))
    (l_BadText___init__ : K.lookup f_BadText___init__ = some ⟨oc_BadText___init__, od_BadText___init__, .func (PySem.W.fnOf "__init__" "BadText.__init__" (defArgs s_BadText___init__) (defBody s_BadText___init__) (defScope s_BadText___init__) .none kV_BadText___init__ dc_BadText___init__ pm_BadText___init__ an_BadText___init__ cd_BadText___init__ ct_BadText___init__), sl_BadText___init__⟩)
    (c_BadText___init__ : PySem.W.codeIn K cd_BadText___init__ "BadText.__init__" = true)
    (k_BadText___init__ : PySem.W.keepIn K (.ref f_BadText___init__) = true)
    (a_BadBook___init__ : PySem.W.findIn K (.ref c_BadBook) "__init__" = some (some (.ref f_BadBook___init__)))
    (l_BadBook___init__ : K.lookup f_BadBook___init__ = some ⟨oc_BadBook___init__, od_BadBook___init__, .func (PySem.W.fnOf "__init__" "BadBook.__init__" (defArgs s_BadBook___init__) (defBody s_BadBook___init__) (defScope s_BadBook___init__) .none kV_BadBook___init__ dc_BadBook___init__ pm_BadBook___init__ an_BadBook___init__ cd_BadBook___init__ ct_BadBook___init__), sl_BadBook___init__⟩)
    (c_BadBook___init__ : PySem.W.codeIn K cd_BadBook___init__ "BadBook.__init__" = true)
    (k_BadBook___init__ : PySem.W.keepIn K (.ref f_BadBook___init__) = true)
    (a_NotKept___init__ : PySem.W.findIn K (.ref c_NotKept) "__init__" = some (some (.ref f_NotKept___init__)))
    (l_NotKept___init__ : K.lookup f_NotKept___init__ = some ⟨oc_NotKept___init__, od_NotKept___init__, .func (PySem.W.fnOf "__init__" "NotKept.__init__" (defArgs s_NotKept___init__) (defBody s_NotKept___init__) (defScope s_NotKept___init__) .none kV_NotKept___init__ dc_NotKept___init__ pm_NotKept___init__ an_NotKept___init__ cd_NotKept___init__ ct_NotKept___init__), sl_NotKept___init__⟩)
    (c_NotKept___init__ : PySem.W.codeIn K cd_NotKept___init__ "NotKept.__init__" = true)
    (k_NotKept___init__ : PySem.W.keepIn K (.ref f_NotKept___init__) = true)
    (a__law_pool : PySem.W.nsIn K mainGlobals "_law_pool" = some (some (.ref f__law_pool)))
    (l__law_pool : K.lookup f__law_pool = some ⟨oc__law_pool, od__law_pool, .func (PySem.W.fnOf "_law_pool" "_law_pool" (defArgs s__law_pool) (defBody s__law_pool) (defScope s__law_pool) .none kV__law_pool dc__law_pool pm__law_pool an__law_pool cd__law_pool ct__law_pool), sl__law_pool⟩)
    (c__law_pool : PySem.W.codeIn K cd__law_pool "_law_pool" = true)
    (k__law_pool : PySem.W.keepIn K (.ref f__law_pool) = true)
    (a__law_draw : PySem.W.nsIn K mainGlobals "_law_draw" = some (some (.ref f__law_draw)))
    (l__law_draw : K.lookup f__law_draw = some ⟨oc__law_draw, od__law_draw, .func (PySem.W.fnOf "_law_draw" "_law_draw" (defArgs s__law_draw) (defBody s__law_draw) (defScope s__law_draw) .none kV__law_draw dc__law_draw pm__law_draw an__law_draw cd__law_draw ct__law_draw), sl__law_draw⟩)
    (c__law_draw : PySem.W.codeIn K cd__law_draw "_law_draw" = true)
    (k__law_draw : PySem.W.keepIn K (.ref f__law_draw) = true)
    (a__law_pick : PySem.W.nsIn K mainGlobals "_law_pick" = some (some (.ref f__law_pick)))
    (l__law_pick : K.lookup f__law_pick = some ⟨oc__law_pick, od__law_pick, .func (PySem.W.fnOf "_law_pick" "_law_pick" (defArgs s__law_pick) (defBody s__law_pick) (defScope s__law_pick) .none kV__law_pick dc__law_pick pm__law_pick an__law_pick cd__law_pick ct__law_pick), sl__law_pick⟩)
    (c__law_pick : PySem.W.codeIn K cd__law_pick "_law_pick" = true)
    (k__law_pick : PySem.W.keepIn K (.ref f__law_pick) = true)
    (a__law_is : PySem.W.nsIn K mainGlobals "_law_is" = some (some (.ref f__law_is)))
    (l__law_is : K.lookup f__law_is = some ⟨oc__law_is, od__law_is, .func (PySem.W.fnOf "_law_is" "_law_is" (defArgs s__law_is) (defBody s__law_is) (defScope s__law_is) .none kV__law_is dc__law_is pm__law_is an__law_is cd__law_is ct__law_is), sl__law_is⟩)
    (c__law_is : PySem.W.codeIn K cd__law_is "_law_is" = true)
    (k__law_is : PySem.W.keepIn K (.ref f__law_is) = true)
    (a__law_deep : PySem.W.nsIn K mainGlobals "_law_deep" = some (some (.ref f__law_deep)))
    (l__law_deep : K.lookup f__law_deep = some ⟨oc__law_deep, od__law_deep, .func (PySem.W.fnOf "_law_deep" "_law_deep" (defArgs s__law_deep) (defBody s__law_deep) (defScope s__law_deep) .none kV__law_deep dc__law_deep pm__law_deep an__law_deep cd__law_deep ct__law_deep), sl__law_deep⟩)
    (c__law_deep : PySem.W.codeIn K cd__law_deep "_law_deep" = true)
    (k__law_deep : PySem.W.keepIn K (.ref f__law_deep) = true)
    (a__law_kinds : PySem.W.nsIn K mainGlobals "_law_kinds" = some (some (.ref f__law_kinds)))
    (l__law_kinds : K.lookup f__law_kinds = some ⟨oc__law_kinds, od__law_kinds, .func (PySem.W.fnOf "_law_kinds" "_law_kinds" (defArgs s__law_kinds) (defBody s__law_kinds) (defScope s__law_kinds) .none kV__law_kinds dc__law_kinds pm__law_kinds an__law_kinds cd__law_kinds ct__law_kinds), sl__law_kinds⟩)
    (c__law_kinds : PySem.W.codeIn K cd__law_kinds "_law_kinds" = true)
    (k__law_kinds : PySem.W.keepIn K (.ref f__law_kinds) = true)
    (a_law : PySem.W.nsIn K mainGlobals "law" = some (some (.ref f_law)))
    (l_law : K.lookup f_law = some ⟨oc_law, od_law, .func (PySem.W.fnOf "law" "law" (defArgs s_law) (defBody s_law) (defScope s_law) .none kV_law dc_law pm_law an_law cd_law ct_law), sl_law⟩)
    (c_law : PySem.W.codeIn K cd_law "law" = true)
    (k_law : PySem.W.keepIn K (.ref f_law) = true)
    (S_NoBlock : ClsF K c_VoteError c_NoBlock)
    (S_NoPlace : ClsF K c_VoteError c_NoPlace)
    (S_Beneath : ClsF K c_VoteError c_Beneath)
    (S_NoOrder : ClsF K c_VoteError c_NoOrder)
    (S_NoView : ClsF K c_VoteError c_NoView)
    (S_OtherBlocks : ClsF K c_VoteError c_OtherBlocks)
    (S_NoNumber : ClsF K c_VoteError c_NoNumber)
    (S_NoLot : ClsF K c_VoteError c_NoLot)
    (S_NoTree : ClsF K c_VoteError c_NoTree)
    (S_NotFitting : ClsF K c_VoteError c_NotFitting)
    (S_NoTelling : ClsF K c_VoteError c_NoTelling)
    (S_NoWord : ClsF K c_VoteError c_NoWord)
    (S_NoWorth : ClsF K c_VoteError c_NoWorth)
    (S_NothingWaits : ClsF K c_VoteError c_NothingWaits)
    (S_NoText : ClsF K c_VoteError c_NoText)
    (S_NoBlocks : ClsF K c_VoteError c_NoBlocks)
    (S_NoLine : ClsF K c_VoteError c_NoLine)
    (S_NoLines : ClsF K c_VoteError c_NoLines)
    (S_BadTree : ClsF K c_VoteError c_BadTree)
    (S_BadPicture : ClsF K c_VoteError c_BadPicture)
    (S_TooMany : ClsF K c_VoteError c_TooMany)
    (S_BadWords : ClsF K c_VoteError c_BadWords)
    (S_BadHistory : ClsF K c_VoteError c_BadHistory)
    (S_RingTold : ClsF K c_VoteError c_RingTold)
    (S_NameTwice : ClsF K c_VoteError c_NameTwice)
    (S_BadBody : ClsF K c_VoteError c_BadBody)
    (S_NoPath : ClsF K c_VoteError c_NoPath)
    (S_NotThere : ClsF K c_VoteError c_NotThere)
    (S_NotFolder : ClsF K c_VoteError c_NotFolder)
    (S_NotFile : ClsF K c_VoteError c_NotFile)
    (S_TakenPath : ClsF K c_VoteError c_TakenPath)
    (S_NotEmpty : ClsF K c_VoteError c_NotEmpty)
    (S_BadText : ClsF K c_VoteError c_BadText)
    (S_NoChanges : ClsF K c_VoteError c_NoChanges)
    (S_UnderWay : ClsF K c_VoteError c_UnderWay)
    (S_NotUnderWay : ClsF K c_VoteError c_NotUnderWay)
    (S_BadBook : ClsF K c_VoteError c_BadBook)
    (S_NotKept : ClsF K c_VoteError c_NotKept)
    (U_NoBlock : ClsF K c_VoteError c_NoBlock → ∃ f, SupC P K c_NoBlock f)
    (U_NoPlace : ClsF K c_VoteError c_NoPlace → ∃ f, SupC P K c_NoPlace f)
    (U_Beneath : ClsF K c_VoteError c_Beneath → ∃ f, SupC P K c_Beneath f)
    (U_NoOrder : ClsF K c_VoteError c_NoOrder → ∃ f, SupC P K c_NoOrder f)
    (U_NoView : ClsF K c_VoteError c_NoView → ∃ f, SupC P K c_NoView f)
    (U_OtherBlocks : ClsF K c_VoteError c_OtherBlocks → ∃ f, SupC P K c_OtherBlocks f)
    (U_NoNumber : ClsF K c_VoteError c_NoNumber → ∃ f, SupC P K c_NoNumber f)
    (U_NoLot : ClsF K c_VoteError c_NoLot → ∃ f, SupC P K c_NoLot f)
    (U_NoTree : ClsF K c_VoteError c_NoTree → ∃ f, SupC P K c_NoTree f)
    (U_NotFitting : ClsF K c_VoteError c_NotFitting → ∃ f, SupC P K c_NotFitting f)
    (U_NoTelling : ClsF K c_VoteError c_NoTelling → ∃ f, SupC P K c_NoTelling f)
    (U_NoWord : ClsF K c_VoteError c_NoWord → ∃ f, SupC P K c_NoWord f)
    (U_NoWorth : ClsF K c_VoteError c_NoWorth → ∃ f, SupC P K c_NoWorth f)
    (U_NothingWaits : ClsF K c_VoteError c_NothingWaits → ∃ f, SupC P K c_NothingWaits f)
    (U_NoText : ClsF K c_VoteError c_NoText → ∃ f, SupC P K c_NoText f)
    (U_NoBlocks : ClsF K c_VoteError c_NoBlocks → ∃ f, SupC P K c_NoBlocks f)
    (U_NoLine : ClsF K c_VoteError c_NoLine → ∃ f, SupC P K c_NoLine f)
    (U_NoLines : ClsF K c_VoteError c_NoLines → ∃ f, SupC P K c_NoLines f)
    (U_NoChanges : ClsF K c_VoteError c_NoChanges → ∃ f, SupC P K c_NoChanges f)
    (U_UnderWay : ClsF K c_VoteError c_UnderWay → ∃ f, SupC P K c_UnderWay f)
    (U_NotUnderWay : ClsF K c_VoteError c_NotUnderWay → ∃ f, SupC P K c_NotUnderWay f)
    (t_BadTree : PySem.W.typeIn K (.ref f_BadTree___init__) = some (.type "function"))
    (o_BadTree : PySem.W.findIn K (.ref c_BadTree) "part" = some none)
    (t_BadPicture : PySem.W.typeIn K (.ref f_BadPicture___init__) = some (.type "function"))
    (o_BadPicture : PySem.W.findIn K (.ref c_BadPicture) "part" = some none)
    (t_TooMany : PySem.W.typeIn K (.ref f_TooMany___init__) = some (.type "function"))
    (o_TooMany : PySem.W.findIn K (.ref c_TooMany) "most" = some none)
    (t_BadWords : PySem.W.typeIn K (.ref f_BadWords___init__) = some (.type "function"))
    (o_BadWords : PySem.W.findIn K (.ref c_BadWords) "part" = some none)
    (t_BadHistory : PySem.W.typeIn K (.ref f_BadHistory___init__) = some (.type "function"))
    (o_BadHistory : PySem.W.findIn K (.ref c_BadHistory) "part" = some none)
    (t_RingTold : PySem.W.typeIn K (.ref f_RingTold___init__) = some (.type "function"))
    (o_RingTold : PySem.W.findIn K (.ref c_RingTold) "blocks" = some none)
    (t_NameTwice : PySem.W.typeIn K (.ref f_NameTwice___init__) = some (.type "function"))
    (o_NameTwice : PySem.W.findIn K (.ref c_NameTwice) "place" = some none)
    (t_BadBody : PySem.W.typeIn K (.ref f_BadBody___init__) = some (.type "function"))
    (o_BadBody : PySem.W.findIn K (.ref c_BadBody) "block" = some none)
    (t_NoPath : PySem.W.typeIn K (.ref f_NoPath___init__) = some (.type "function"))
    (o_NoPath : PySem.W.findIn K (.ref c_NoPath) "path" = some none)
    (t_NotThere : PySem.W.typeIn K (.ref f_NotThere___init__) = some (.type "function"))
    (o_NotThere : PySem.W.findIn K (.ref c_NotThere) "path" = some none)
    (t_NotFolder : PySem.W.typeIn K (.ref f_NotFolder___init__) = some (.type "function"))
    (o_NotFolder : PySem.W.findIn K (.ref c_NotFolder) "path" = some none)
    (t_NotFile : PySem.W.typeIn K (.ref f_NotFile___init__) = some (.type "function"))
    (o_NotFile : PySem.W.findIn K (.ref c_NotFile) "path" = some none)
    (t_TakenPath : PySem.W.typeIn K (.ref f_TakenPath___init__) = some (.type "function"))
    (o_TakenPath : PySem.W.findIn K (.ref c_TakenPath) "path" = some none)
    (t_NotEmpty : PySem.W.typeIn K (.ref f_NotEmpty___init__) = some (.type "function"))
    (o_NotEmpty : PySem.W.findIn K (.ref c_NotEmpty) "path" = some none)
    (t_BadText : PySem.W.typeIn K (.ref f_BadText___init__) = some (.type "function"))
    (o_BadText : PySem.W.findIn K (.ref c_BadText) "line" = some none)
    (t_BadBook : PySem.W.typeIn K (.ref f_BadBook___init__) = some (.type "function"))
    (o_BadBook : PySem.W.findIn K (.ref c_BadBook) "path" = some none)
    (t_NotKept : PySem.W.typeIn K (.ref f_NotKept___init__) = some (.type "function"))
    (o_NotKept : PySem.W.findIn K (.ref c_NotKept) "name" = some none)
    (n2 : PySem.W.findIn K (.ref c_NameTwice) "name" = some none)
    (eV : L2.ExcC K c_VoteError)
    (sV : PySem.W.isClsIn K c_VoteError = true)
    (tV : PySem.W.typeIn K (.ref c_VoteError) = some (.type "type"))
    (kV : PySem.W.keepIn K (.ref c_VoteError) = true)
    (vV : PySem.W.subIn K (.ref c_VoteError) (.type "ValueError") = some true)
    (qV : PySem.W.excIn K c_VoteError [.type "ValueError", .type "Exception", .type "BaseException", .type "object"] "ValueError.__new__" = true)
    (dis : ([c_VoteError, c_NoBlock, c_NoPlace, c_Beneath, c_NoOrder, c_NoView, c_OtherBlocks, c_NoNumber, c_NoLot, c_NoTree, c_NotFitting, c_NoTelling, c_NoWord, c_NoWorth, c_NothingWaits, c_NoText, c_NoBlocks, c_NoLine, c_NoLines, c_BadTree, c_BadPicture, c_TooMany, c_BadWords, c_BadHistory, c_RingTold, c_NameTwice, c_BadBody, c_NoPath, c_NotThere, c_NotFolder, c_NotFile, c_TakenPath, c_NotEmpty, c_BadText, c_NoChanges, c_UnderWay, c_NotUnderWay, c_BadBook, c_NotKept] : List Addr).Nodup)
    : ∃ fd : FuncData, (∀ (s : Shared) (v : Value), BindsTo s fd ⟨[v], []⟩ [("_law_script", v)]) ∧ ∀ base : Heap, K.In base → base.Ns mainGlobals mg → FnOk P w K mg base CX0 36 fa fd ["_law_script"] (spLaw K) := by
  have e := hfa.symm.trans (PySem.W.mg_of X G a_law)
  cases e
  have F_BadTree___init__ := fun_mk (st := s_BadTree___init__) l_BadTree___init__ c_BadTree___init__ k_BadTree___init__
  have b_BadTree___init__ := F_BadTree___init__.binds (ps := ["self", "part"]) fun _ _ _ _ _ _ us hl => match us, hl with | [_, _], _ => rfl
  have C_BadTree___init__ := CalM.mk k_BadTree___init__ b_BadTree___init__
  have F_BadPicture___init__ := fun_mk (st := s_BadPicture___init__) l_BadPicture___init__ c_BadPicture___init__ k_BadPicture___init__
  have b_BadPicture___init__ := F_BadPicture___init__.binds (ps := ["self", "part"]) fun _ _ _ _ _ _ us hl => match us, hl with | [_, _], _ => rfl
  have C_BadPicture___init__ := CalM.mk k_BadPicture___init__ b_BadPicture___init__
  have F_TooMany___init__ := fun_mk (st := s_TooMany___init__) l_TooMany___init__ c_TooMany___init__ k_TooMany___init__
  have b_TooMany___init__ := F_TooMany___init__.binds (ps := ["self", "most"]) fun _ _ _ _ _ _ us hl => match us, hl with | [_, _], _ => rfl
  have C_TooMany___init__ := CalM.mk k_TooMany___init__ b_TooMany___init__
  have F_BadWords___init__ := fun_mk (st := s_BadWords___init__) l_BadWords___init__ c_BadWords___init__ k_BadWords___init__
  have b_BadWords___init__ := F_BadWords___init__.binds (ps := ["self", "part"]) fun _ _ _ _ _ _ us hl => match us, hl with | [_, _], _ => rfl
  have C_BadWords___init__ := CalM.mk k_BadWords___init__ b_BadWords___init__
  have F_BadHistory___init__ := fun_mk (st := s_BadHistory___init__) l_BadHistory___init__ c_BadHistory___init__ k_BadHistory___init__
  have b_BadHistory___init__ := F_BadHistory___init__.binds (ps := ["self", "part"]) fun _ _ _ _ _ _ us hl => match us, hl with | [_, _], _ => rfl
  have C_BadHistory___init__ := CalM.mk k_BadHistory___init__ b_BadHistory___init__
  have F_RingTold___init__ := fun_mk (st := s_RingTold___init__) l_RingTold___init__ c_RingTold___init__ k_RingTold___init__
  have b_RingTold___init__ := F_RingTold___init__.binds (ps := ["self", "blocks"]) fun _ _ _ _ _ _ us hl => match us, hl with | [_, _], _ => rfl
  have C_RingTold___init__ := CalM.mk k_RingTold___init__ b_RingTold___init__
  have F_NameTwice___init__ := fun_mk (st := s_NameTwice___init__) l_NameTwice___init__ c_NameTwice___init__ k_NameTwice___init__
  have b_NameTwice___init__ := F_NameTwice___init__.binds (ps := ["self", "place", "name"]) fun _ _ _ _ _ _ us hl => match us, hl with | [_, _, _], _ => rfl
  have C_NameTwice___init__ := CalM.mk k_NameTwice___init__ b_NameTwice___init__
  have F_BadBody___init__ := fun_mk (st := s_BadBody___init__) l_BadBody___init__ c_BadBody___init__ k_BadBody___init__
  have b_BadBody___init__ := F_BadBody___init__.binds (ps := ["self", "block"]) fun _ _ _ _ _ _ us hl => match us, hl with | [_, _], _ => rfl
  have C_BadBody___init__ := CalM.mk k_BadBody___init__ b_BadBody___init__
  have F_NoPath___init__ := fun_mk (st := s_NoPath___init__) l_NoPath___init__ c_NoPath___init__ k_NoPath___init__
  have b_NoPath___init__ := F_NoPath___init__.binds (ps := ["self", "path"]) fun _ _ _ _ _ _ us hl => match us, hl with | [_, _], _ => rfl
  have C_NoPath___init__ := CalM.mk k_NoPath___init__ b_NoPath___init__
  have F_NotThere___init__ := fun_mk (st := s_NotThere___init__) l_NotThere___init__ c_NotThere___init__ k_NotThere___init__
  have b_NotThere___init__ := F_NotThere___init__.binds (ps := ["self", "path"]) fun _ _ _ _ _ _ us hl => match us, hl with | [_, _], _ => rfl
  have C_NotThere___init__ := CalM.mk k_NotThere___init__ b_NotThere___init__
  have F_NotFolder___init__ := fun_mk (st := s_NotFolder___init__) l_NotFolder___init__ c_NotFolder___init__ k_NotFolder___init__
  have b_NotFolder___init__ := F_NotFolder___init__.binds (ps := ["self", "path"]) fun _ _ _ _ _ _ us hl => match us, hl with | [_, _], _ => rfl
  have C_NotFolder___init__ := CalM.mk k_NotFolder___init__ b_NotFolder___init__
  have F_NotFile___init__ := fun_mk (st := s_NotFile___init__) l_NotFile___init__ c_NotFile___init__ k_NotFile___init__
  have b_NotFile___init__ := F_NotFile___init__.binds (ps := ["self", "path"]) fun _ _ _ _ _ _ us hl => match us, hl with | [_, _], _ => rfl
  have C_NotFile___init__ := CalM.mk k_NotFile___init__ b_NotFile___init__
  have F_TakenPath___init__ := fun_mk (st := s_TakenPath___init__) l_TakenPath___init__ c_TakenPath___init__ k_TakenPath___init__
  have b_TakenPath___init__ := F_TakenPath___init__.binds (ps := ["self", "path"]) fun _ _ _ _ _ _ us hl => match us, hl with | [_, _], _ => rfl
  have C_TakenPath___init__ := CalM.mk k_TakenPath___init__ b_TakenPath___init__
  have F_NotEmpty___init__ := fun_mk (st := s_NotEmpty___init__) l_NotEmpty___init__ c_NotEmpty___init__ k_NotEmpty___init__
  have b_NotEmpty___init__ := F_NotEmpty___init__.binds (ps := ["self", "path"]) fun _ _ _ _ _ _ us hl => match us, hl with | [_, _], _ => rfl
  have C_NotEmpty___init__ := CalM.mk k_NotEmpty___init__ b_NotEmpty___init__
  have F_BadText___init__ := fun_mk (st := s_BadText___init__) l_BadText___init__ c_BadText___init__ k_BadText___init__
  have b_BadText___init__ := F_BadText___init__.binds (ps := ["self", "line"]) fun _ _ _ _ _ _ us hl => match us, hl with | [_, _], _ => rfl
  have C_BadText___init__ := CalM.mk k_BadText___init__ b_BadText___init__
  have F_BadBook___init__ := fun_mk (st := s_BadBook___init__) l_BadBook___init__ c_BadBook___init__ k_BadBook___init__
  have b_BadBook___init__ := F_BadBook___init__.binds (ps := ["self", "path"]) fun _ _ _ _ _ _ us hl => match us, hl with | [_, _], _ => rfl
  have C_BadBook___init__ := CalM.mk k_BadBook___init__ b_BadBook___init__
  have F_NotKept___init__ := fun_mk (st := s_NotKept___init__) l_NotKept___init__ c_NotKept___init__ k_NotKept___init__
  have b_NotKept___init__ := F_NotKept___init__.binds (ps := ["self", "name"]) fun _ _ _ _ _ _ us hl => match us, hl with | [_, _], _ => rfl
  have C_NotKept___init__ := CalM.mk k_NotKept___init__ b_NotKept___init__
  have F__law_pool := fun_mk (st := s__law_pool) l__law_pool c__law_pool k__law_pool
  have b__law_pool := F__law_pool.binds (ps := ["_law_script"]) fun _ _ _ _ _ _ us hl => match us, hl with | [_], _ => rfl
  have C__law_pool := Cal.mk (PySem.W.mg_of X G a__law_pool) k__law_pool b__law_pool
  have F__law_draw := fun_mk (st := s__law_draw) l__law_draw c__law_draw k__law_draw
  have b__law_draw := F__law_draw.binds (ps := ["_law_pool_here", "_law_many"]) fun _ _ _ _ _ _ us hl => match us, hl with | [_, _], _ => rfl
  have C__law_draw := Cal.mk (PySem.W.mg_of X G a__law_draw) k__law_draw b__law_draw
  have F__law_pick := fun_mk (st := s__law_pick) l__law_pick c__law_pick k__law_pick
  have b__law_pick := F__law_pick.binds (ps := ["_law_pool_here", "_law_things"]) fun _ _ _ _ _ _ us hl => match us, hl with | [_, _], _ => rfl
  have C__law_pick := Cal.mk (PySem.W.mg_of X G a__law_pick) k__law_pick b__law_pick
  have F__law_is := fun_mk (st := s__law_is) l__law_is c__law_is k__law_is
  have b__law_is := F__law_is.binds (ps := ["_law_told", "_law_due"]) fun _ _ _ _ _ _ us hl => match us, hl with | [_, _], _ => rfl
  have C__law_is := Cal.mk (PySem.W.mg_of X G a__law_is) k__law_is b__law_is
  have F__law_deep := fun_mk (st := s__law_deep) l__law_deep c__law_deep k__law_deep
  have b__law_deep := F__law_deep.binds (ps := []) fun _ _ _ _ _ _ us hl => match us, hl with | [], _ => rfl
  have C__law_deep := Cal.mk (PySem.W.mg_of X G a__law_deep) k__law_deep b__law_deep
  have F__law_kinds := fun_mk (st := s__law_kinds) l__law_kinds c__law_kinds k__law_kinds
  have b__law_kinds := F__law_kinds.binds (ps := ["_law_e"]) fun _ _ _ _ _ _ us hl => match us, hl with | [_], _ => rfl
  have C__law_kinds := Cal.mk (PySem.W.mg_of X G a__law_kinds) k__law_kinds b__law_kinds
  have F_law := fun_mk (st := s_law) l_law c_law k_law
  have b_law := F_law.binds (ps := ["_law_script"]) fun _ _ _ _ _ _ us hl => match us, hl with | [_], _ => rfl
  have C_law := Cal.mk (PySem.W.mg_of X G a_law) k_law b_law
  have B : Bl ⟨c_VoteError, c_BadTree, c_NoBlock, c_NoPlace, c_Beneath, c_NoOrder, c_NoView, c_OtherBlocks, c_NoNumber, c_BadPicture, c_NoLot, c_NoTree, c_NotFitting, c_NoTelling, c_TooMany, c_BadWords, c_BadHistory, c_NoWord, c_NoWorth, c_NothingWaits, c_RingTold, c_NameTwice, c_BadBody, c_NoPath, c_NotThere, c_NotFolder, c_NotFile, c_TakenPath, c_NoText, c_NotEmpty, c_NoBlocks, c_NoLine, c_NoLines, c_BadText, c_BadBook, c_NotKept, c_NoChanges, c_UnderWay, c_NotUnderWay⟩ mg := ⟨PySem.W.mg_none_of X G z_ValueError, PySem.W.mg_none_of X G z_abs, PySem.W.mg_none_of X G z_all, PySem.W.mg_none_of X G z_bool, PySem.W.mg_none_of X G z_dict, PySem.W.mg_none_of X G z_int, PySem.W.mg_none_of X G z_isinstance, PySem.W.mg_none_of X G z_len, PySem.W.mg_none_of X G z_list, PySem.W.mg_none_of X G z_range, PySem.W.mg_none_of X G z_str, PySem.W.mg_none_of X G z_super, PySem.W.mg_none_of X G z_tuple, PySem.W.mg_of X G n_VoteError, PySem.W.mg_of X G n_BadTree, PySem.W.mg_of X G n_NoBlock, PySem.W.mg_of X G n_NoPlace, PySem.W.mg_of X G n_Beneath, PySem.W.mg_of X G n_NoOrder, PySem.W.mg_of X G n_NoView, PySem.W.mg_of X G n_OtherBlocks, PySem.W.mg_of X G n_NoNumber, PySem.W.mg_of X G n_BadPicture, PySem.W.mg_of X G n_NoLot, PySem.W.mg_of X G n_NoTree, PySem.W.mg_of X G n_NotFitting, PySem.W.mg_of X G n_NoTelling, PySem.W.mg_of X G n_TooMany, PySem.W.mg_of X G n_BadWords, PySem.W.mg_of X G n_BadHistory, PySem.W.mg_of X G n_NoWord, PySem.W.mg_of X G n_NoWorth, PySem.W.mg_of X G n_NothingWaits, PySem.W.mg_of X G n_RingTold, PySem.W.mg_of X G n_NameTwice, PySem.W.mg_of X G n_BadBody, PySem.W.mg_of X G n_NoPath, PySem.W.mg_of X G n_NotThere, PySem.W.mg_of X G n_NotFolder, PySem.W.mg_of X G n_NotFile, PySem.W.mg_of X G n_TakenPath, PySem.W.mg_of X G n_NoText, PySem.W.mg_of X G n_NotEmpty, PySem.W.mg_of X G n_NoBlocks, PySem.W.mg_of X G n_NoLine, PySem.W.mg_of X G n_NoLines, PySem.W.mg_of X G n_BadText, PySem.W.mg_of X G n_BadBook, PySem.W.mg_of X G n_NotKept, PySem.W.mg_of X G n_NoChanges, PySem.W.mg_of X G n_UnderWay, PySem.W.mg_of X G n_NotUnderWay⟩
  have S : ∀ c ∈ clsN ⟨c_VoteError, c_BadTree, c_NoBlock, c_NoPlace, c_Beneath, c_NoOrder, c_NoView, c_OtherBlocks, c_NoNumber, c_BadPicture, c_NoLot, c_NoTree, c_NotFitting, c_NoTelling, c_TooMany, c_BadWords, c_BadHistory, c_NoWord, c_NoWorth, c_NothingWaits, c_RingTold, c_NameTwice, c_BadBody, c_NoPath, c_NotThere, c_NotFolder, c_NotFile, c_TakenPath, c_NoText, c_NotEmpty, c_NoBlocks, c_NoLine, c_NoLines, c_BadText, c_BadBook, c_NotKept, c_NoChanges, c_UnderWay, c_NotUnderWay⟩, ClsF K c_VoteError c := fun c hc => by
    simp only [clsN, List.mem_cons, List.not_mem_nil, or_false] at hc
    rcases hc with rfl | rfl | rfl | rfl | rfl | rfl | rfl | rfl | rfl | rfl | rfl | rfl | rfl | rfl | rfl | rfl | rfl | rfl | rfl | rfl | rfl | rfl | rfl | rfl | rfl | rfl | rfl | rfl | rfl | rfl | rfl | rfl | rfl | rfl | rfl | rfl | rfl | rfl
    all_goals assumption
  have T : ErT K ⟨c_VoteError, c_BadTree, c_NoBlock, c_NoPlace, c_Beneath, c_NoOrder, c_NoView, c_OtherBlocks, c_NoNumber, c_BadPicture, c_NoLot, c_NoTree, c_NotFitting, c_NoTelling, c_TooMany, c_BadWords, c_BadHistory, c_NoWord, c_NoWorth, c_NothingWaits, c_RingTold, c_NameTwice, c_BadBody, c_NoPath, c_NotThere, c_NotFolder, c_NotFile, c_TakenPath, c_NoText, c_NotEmpty, c_NoBlocks, c_NoLine, c_NoLines, c_BadText, c_BadBook, c_NotKept, c_NoChanges, c_UnderWay, c_NotUnderWay⟩ := ert_mk S sV tV dis
  obtain ⟨fU_NoBlock, X_NoBlock⟩ := U_NoBlock S_NoBlock
  obtain ⟨fU_NoPlace, X_NoPlace⟩ := U_NoPlace S_NoPlace
  obtain ⟨fU_Beneath, X_Beneath⟩ := U_Beneath S_Beneath
  obtain ⟨fU_NoOrder, X_NoOrder⟩ := U_NoOrder S_NoOrder
  obtain ⟨fU_NoView, X_NoView⟩ := U_NoView S_NoView
  obtain ⟨fU_OtherBlocks, X_OtherBlocks⟩ := U_OtherBlocks S_OtherBlocks
  obtain ⟨fU_NoNumber, X_NoNumber⟩ := U_NoNumber S_NoNumber
  obtain ⟨fU_NoLot, X_NoLot⟩ := U_NoLot S_NoLot
  obtain ⟨fU_NoTree, X_NoTree⟩ := U_NoTree S_NoTree
  obtain ⟨fU_NotFitting, X_NotFitting⟩ := U_NotFitting S_NotFitting
  obtain ⟨fU_NoTelling, X_NoTelling⟩ := U_NoTelling S_NoTelling
  obtain ⟨fU_NoWord, X_NoWord⟩ := U_NoWord S_NoWord
  obtain ⟨fU_NoWorth, X_NoWorth⟩ := U_NoWorth S_NoWorth
  obtain ⟨fU_NothingWaits, X_NothingWaits⟩ := U_NothingWaits S_NothingWaits
  obtain ⟨fU_NoText, X_NoText⟩ := U_NoText S_NoText
  obtain ⟨fU_NoBlocks, X_NoBlocks⟩ := U_NoBlocks S_NoBlocks
  obtain ⟨fU_NoLine, X_NoLine⟩ := U_NoLine S_NoLine
  obtain ⟨fU_NoLines, X_NoLines⟩ := U_NoLines S_NoLines
  obtain ⟨fU_NoChanges, X_NoChanges⟩ := U_NoChanges S_NoChanges
  obtain ⟨fU_UnderWay, X_UnderWay⟩ := U_UnderWay S_UnderWay
  obtain ⟨fU_NotUnderWay, X_NotUnderWay⟩ := U_NotUnderWay S_NotUnderWay
  refine ⟨PySem.W.fnOf "law" "law" (defArgs s_law) (defBody s_law) (defScope s_law) .none kV_law dc_law pm_law an_law cd_law ct_law, fun s v => .of_eq rfl, fun base _ _ => ?_⟩
  have X_BadTree : ExcF K c_BadTree f_BadTree___init__ "part" := ⟨S_BadTree.x, a_BadTree___init__, t_BadTree, o_BadTree⟩
  have G_BadTree___init__ := oi_BadTree (mg := mg) (P := P) (w := w) (base := base) (Z := ⟨c_VoteError, c_BadTree, c_NoBlock, c_NoPlace, c_Beneath, c_NoOrder, c_NoView, c_OtherBlocks, c_NoNumber, c_BadPicture, c_NoLot, c_NoTree, c_NotFitting, c_NoTelling, c_TooMany, c_BadWords, c_BadHistory, c_NoWord, c_NoWorth, c_NothingWaits, c_RingTold, c_NameTwice, c_BadBody, c_NoPath, c_NotThere, c_NotFolder, c_NotFile, c_TakenPath, c_NoText, c_NotEmpty, c_NoBlocks, c_NoLine, c_NoLines, c_BadText, c_BadBook, c_NotKept, c_NoChanges, c_UnderWay, c_NotUnderWay⟩) F_BadTree___init__ X_BadTree
  have X_BadPicture : ExcF K c_BadPicture f_BadPicture___init__ "part" := ⟨S_BadPicture.x, a_BadPicture___init__, t_BadPicture, o_BadPicture⟩
  have G_BadPicture___init__ := oi_BadPicture (mg := mg) (P := P) (w := w) (base := base) (Z := ⟨c_VoteError, c_BadTree, c_NoBlock, c_NoPlace, c_Beneath, c_NoOrder, c_NoView, c_OtherBlocks, c_NoNumber, c_BadPicture, c_NoLot, c_NoTree, c_NotFitting, c_NoTelling, c_TooMany, c_BadWords, c_BadHistory, c_NoWord, c_NoWorth, c_NothingWaits, c_RingTold, c_NameTwice, c_BadBody, c_NoPath, c_NotThere, c_NotFolder, c_NotFile, c_TakenPath, c_NoText, c_NotEmpty, c_NoBlocks, c_NoLine, c_NoLines, c_BadText, c_BadBook, c_NotKept, c_NoChanges, c_UnderWay, c_NotUnderWay⟩) F_BadPicture___init__ X_BadPicture
  have X_TooMany : ExcF K c_TooMany f_TooMany___init__ "most" := ⟨S_TooMany.x, a_TooMany___init__, t_TooMany, o_TooMany⟩
  have G_TooMany___init__ := oi_TooMany (mg := mg) (P := P) (w := w) (base := base) (Z := ⟨c_VoteError, c_BadTree, c_NoBlock, c_NoPlace, c_Beneath, c_NoOrder, c_NoView, c_OtherBlocks, c_NoNumber, c_BadPicture, c_NoLot, c_NoTree, c_NotFitting, c_NoTelling, c_TooMany, c_BadWords, c_BadHistory, c_NoWord, c_NoWorth, c_NothingWaits, c_RingTold, c_NameTwice, c_BadBody, c_NoPath, c_NotThere, c_NotFolder, c_NotFile, c_TakenPath, c_NoText, c_NotEmpty, c_NoBlocks, c_NoLine, c_NoLines, c_BadText, c_BadBook, c_NotKept, c_NoChanges, c_UnderWay, c_NotUnderWay⟩) F_TooMany___init__ X_TooMany
  have X_BadWords : ExcF K c_BadWords f_BadWords___init__ "part" := ⟨S_BadWords.x, a_BadWords___init__, t_BadWords, o_BadWords⟩
  have G_BadWords___init__ := oi_BadWords (mg := mg) (P := P) (w := w) (base := base) (Z := ⟨c_VoteError, c_BadTree, c_NoBlock, c_NoPlace, c_Beneath, c_NoOrder, c_NoView, c_OtherBlocks, c_NoNumber, c_BadPicture, c_NoLot, c_NoTree, c_NotFitting, c_NoTelling, c_TooMany, c_BadWords, c_BadHistory, c_NoWord, c_NoWorth, c_NothingWaits, c_RingTold, c_NameTwice, c_BadBody, c_NoPath, c_NotThere, c_NotFolder, c_NotFile, c_TakenPath, c_NoText, c_NotEmpty, c_NoBlocks, c_NoLine, c_NoLines, c_BadText, c_BadBook, c_NotKept, c_NoChanges, c_UnderWay, c_NotUnderWay⟩) F_BadWords___init__ X_BadWords
  have X_BadHistory : ExcF K c_BadHistory f_BadHistory___init__ "part" := ⟨S_BadHistory.x, a_BadHistory___init__, t_BadHistory, o_BadHistory⟩
  have G_BadHistory___init__ := oi_BadHistory (mg := mg) (P := P) (w := w) (base := base) (Z := ⟨c_VoteError, c_BadTree, c_NoBlock, c_NoPlace, c_Beneath, c_NoOrder, c_NoView, c_OtherBlocks, c_NoNumber, c_BadPicture, c_NoLot, c_NoTree, c_NotFitting, c_NoTelling, c_TooMany, c_BadWords, c_BadHistory, c_NoWord, c_NoWorth, c_NothingWaits, c_RingTold, c_NameTwice, c_BadBody, c_NoPath, c_NotThere, c_NotFolder, c_NotFile, c_TakenPath, c_NoText, c_NotEmpty, c_NoBlocks, c_NoLine, c_NoLines, c_BadText, c_BadBook, c_NotKept, c_NoChanges, c_UnderWay, c_NotUnderWay⟩) F_BadHistory___init__ X_BadHistory
  have X_RingTold : ExcF K c_RingTold f_RingTold___init__ "blocks" := ⟨S_RingTold.x, a_RingTold___init__, t_RingTold, o_RingTold⟩
  have G_RingTold___init__ := oi_RingTold (mg := mg) (P := P) (w := w) (base := base) (Z := ⟨c_VoteError, c_BadTree, c_NoBlock, c_NoPlace, c_Beneath, c_NoOrder, c_NoView, c_OtherBlocks, c_NoNumber, c_BadPicture, c_NoLot, c_NoTree, c_NotFitting, c_NoTelling, c_TooMany, c_BadWords, c_BadHistory, c_NoWord, c_NoWorth, c_NothingWaits, c_RingTold, c_NameTwice, c_BadBody, c_NoPath, c_NotThere, c_NotFolder, c_NotFile, c_TakenPath, c_NoText, c_NotEmpty, c_NoBlocks, c_NoLine, c_NoLines, c_BadText, c_BadBook, c_NotKept, c_NoChanges, c_UnderWay, c_NotUnderWay⟩) F_RingTold___init__ X_RingTold
  have X_NameTwice : ExcF K c_NameTwice f_NameTwice___init__ "place" := ⟨S_NameTwice.x, a_NameTwice___init__, t_NameTwice, o_NameTwice⟩
  have G_NameTwice___init__ := oi_NameTwice (mg := mg) (P := P) (w := w) (base := base) (Z := ⟨c_VoteError, c_BadTree, c_NoBlock, c_NoPlace, c_Beneath, c_NoOrder, c_NoView, c_OtherBlocks, c_NoNumber, c_BadPicture, c_NoLot, c_NoTree, c_NotFitting, c_NoTelling, c_TooMany, c_BadWords, c_BadHistory, c_NoWord, c_NoWorth, c_NothingWaits, c_RingTold, c_NameTwice, c_BadBody, c_NoPath, c_NotThere, c_NotFolder, c_NotFile, c_TakenPath, c_NoText, c_NotEmpty, c_NoBlocks, c_NoLine, c_NoLines, c_BadText, c_BadBook, c_NotKept, c_NoChanges, c_UnderWay, c_NotUnderWay⟩) F_NameTwice___init__ X_NameTwice n2
  have X_BadBody : ExcF K c_BadBody f_BadBody___init__ "block" := ⟨S_BadBody.x, a_BadBody___init__, t_BadBody, o_BadBody⟩
  have G_BadBody___init__ := oi_BadBody (mg := mg) (P := P) (w := w) (base := base) (Z := ⟨c_VoteError, c_BadTree, c_NoBlock, c_NoPlace, c_Beneath, c_NoOrder, c_NoView, c_OtherBlocks, c_NoNumber, c_BadPicture, c_NoLot, c_NoTree, c_NotFitting, c_NoTelling, c_TooMany, c_BadWords, c_BadHistory, c_NoWord, c_NoWorth, c_NothingWaits, c_RingTold, c_NameTwice, c_BadBody, c_NoPath, c_NotThere, c_NotFolder, c_NotFile, c_TakenPath, c_NoText, c_NotEmpty, c_NoBlocks, c_NoLine, c_NoLines, c_BadText, c_BadBook, c_NotKept, c_NoChanges, c_UnderWay, c_NotUnderWay⟩) F_BadBody___init__ X_BadBody
  have X_NoPath : ExcF K c_NoPath f_NoPath___init__ "path" := ⟨S_NoPath.x, a_NoPath___init__, t_NoPath, o_NoPath⟩
  have G_NoPath___init__ := oi_NoPath (mg := mg) (P := P) (w := w) (base := base) (Z := ⟨c_VoteError, c_BadTree, c_NoBlock, c_NoPlace, c_Beneath, c_NoOrder, c_NoView, c_OtherBlocks, c_NoNumber, c_BadPicture, c_NoLot, c_NoTree, c_NotFitting, c_NoTelling, c_TooMany, c_BadWords, c_BadHistory, c_NoWord, c_NoWorth, c_NothingWaits, c_RingTold, c_NameTwice, c_BadBody, c_NoPath, c_NotThere, c_NotFolder, c_NotFile, c_TakenPath, c_NoText, c_NotEmpty, c_NoBlocks, c_NoLine, c_NoLines, c_BadText, c_BadBook, c_NotKept, c_NoChanges, c_UnderWay, c_NotUnderWay⟩) F_NoPath___init__ X_NoPath
  have X_NotThere : ExcF K c_NotThere f_NotThere___init__ "path" := ⟨S_NotThere.x, a_NotThere___init__, t_NotThere, o_NotThere⟩
  have G_NotThere___init__ := oi_NotThere (mg := mg) (P := P) (w := w) (base := base) (Z := ⟨c_VoteError, c_BadTree, c_NoBlock, c_NoPlace, c_Beneath, c_NoOrder, c_NoView, c_OtherBlocks, c_NoNumber, c_BadPicture, c_NoLot, c_NoTree, c_NotFitting, c_NoTelling, c_TooMany, c_BadWords, c_BadHistory, c_NoWord, c_NoWorth, c_NothingWaits, c_RingTold, c_NameTwice, c_BadBody, c_NoPath, c_NotThere, c_NotFolder, c_NotFile, c_TakenPath, c_NoText, c_NotEmpty, c_NoBlocks, c_NoLine, c_NoLines, c_BadText, c_BadBook, c_NotKept, c_NoChanges, c_UnderWay, c_NotUnderWay⟩) F_NotThere___init__ X_NotThere
  have X_NotFolder : ExcF K c_NotFolder f_NotFolder___init__ "path" := ⟨S_NotFolder.x, a_NotFolder___init__, t_NotFolder, o_NotFolder⟩
  have G_NotFolder___init__ := oi_NotFolder (mg := mg) (P := P) (w := w) (base := base) (Z := ⟨c_VoteError, c_BadTree, c_NoBlock, c_NoPlace, c_Beneath, c_NoOrder, c_NoView, c_OtherBlocks, c_NoNumber, c_BadPicture, c_NoLot, c_NoTree, c_NotFitting, c_NoTelling, c_TooMany, c_BadWords, c_BadHistory, c_NoWord, c_NoWorth, c_NothingWaits, c_RingTold, c_NameTwice, c_BadBody, c_NoPath, c_NotThere, c_NotFolder, c_NotFile, c_TakenPath, c_NoText, c_NotEmpty, c_NoBlocks, c_NoLine, c_NoLines, c_BadText, c_BadBook, c_NotKept, c_NoChanges, c_UnderWay, c_NotUnderWay⟩) F_NotFolder___init__ X_NotFolder
  have X_NotFile : ExcF K c_NotFile f_NotFile___init__ "path" := ⟨S_NotFile.x, a_NotFile___init__, t_NotFile, o_NotFile⟩
  have G_NotFile___init__ := oi_NotFile (mg := mg) (P := P) (w := w) (base := base) (Z := ⟨c_VoteError, c_BadTree, c_NoBlock, c_NoPlace, c_Beneath, c_NoOrder, c_NoView, c_OtherBlocks, c_NoNumber, c_BadPicture, c_NoLot, c_NoTree, c_NotFitting, c_NoTelling, c_TooMany, c_BadWords, c_BadHistory, c_NoWord, c_NoWorth, c_NothingWaits, c_RingTold, c_NameTwice, c_BadBody, c_NoPath, c_NotThere, c_NotFolder, c_NotFile, c_TakenPath, c_NoText, c_NotEmpty, c_NoBlocks, c_NoLine, c_NoLines, c_BadText, c_BadBook, c_NotKept, c_NoChanges, c_UnderWay, c_NotUnderWay⟩) F_NotFile___init__ X_NotFile
  have X_TakenPath : ExcF K c_TakenPath f_TakenPath___init__ "path" := ⟨S_TakenPath.x, a_TakenPath___init__, t_TakenPath, o_TakenPath⟩
  have G_TakenPath___init__ := oi_TakenPath (mg := mg) (P := P) (w := w) (base := base) (Z := ⟨c_VoteError, c_BadTree, c_NoBlock, c_NoPlace, c_Beneath, c_NoOrder, c_NoView, c_OtherBlocks, c_NoNumber, c_BadPicture, c_NoLot, c_NoTree, c_NotFitting, c_NoTelling, c_TooMany, c_BadWords, c_BadHistory, c_NoWord, c_NoWorth, c_NothingWaits, c_RingTold, c_NameTwice, c_BadBody, c_NoPath, c_NotThere, c_NotFolder, c_NotFile, c_TakenPath, c_NoText, c_NotEmpty, c_NoBlocks, c_NoLine, c_NoLines, c_BadText, c_BadBook, c_NotKept, c_NoChanges, c_UnderWay, c_NotUnderWay⟩) F_TakenPath___init__ X_TakenPath
  have X_NotEmpty : ExcF K c_NotEmpty f_NotEmpty___init__ "path" := ⟨S_NotEmpty.x, a_NotEmpty___init__, t_NotEmpty, o_NotEmpty⟩
  have G_NotEmpty___init__ := oi_NotEmpty (mg := mg) (P := P) (w := w) (base := base) (Z := ⟨c_VoteError, c_BadTree, c_NoBlock, c_NoPlace, c_Beneath, c_NoOrder, c_NoView, c_OtherBlocks, c_NoNumber, c_BadPicture, c_NoLot, c_NoTree, c_NotFitting, c_NoTelling, c_TooMany, c_BadWords, c_BadHistory, c_NoWord, c_NoWorth, c_NothingWaits, c_RingTold, c_NameTwice, c_BadBody, c_NoPath, c_NotThere, c_NotFolder, c_NotFile, c_TakenPath, c_NoText, c_NotEmpty, c_NoBlocks, c_NoLine, c_NoLines, c_BadText, c_BadBook, c_NotKept, c_NoChanges, c_UnderWay, c_NotUnderWay⟩) F_NotEmpty___init__ X_NotEmpty
  have X_BadText : ExcF K c_BadText f_BadText___init__ "line" := ⟨S_BadText.x, a_BadText___init__, t_BadText, o_BadText⟩
  have G_BadText___init__ := oi_BadText (mg := mg) (P := P) (w := w) (base := base) (Z := ⟨c_VoteError, c_BadTree, c_NoBlock, c_NoPlace, c_Beneath, c_NoOrder, c_NoView, c_OtherBlocks, c_NoNumber, c_BadPicture, c_NoLot, c_NoTree, c_NotFitting, c_NoTelling, c_TooMany, c_BadWords, c_BadHistory, c_NoWord, c_NoWorth, c_NothingWaits, c_RingTold, c_NameTwice, c_BadBody, c_NoPath, c_NotThere, c_NotFolder, c_NotFile, c_TakenPath, c_NoText, c_NotEmpty, c_NoBlocks, c_NoLine, c_NoLines, c_BadText, c_BadBook, c_NotKept, c_NoChanges, c_UnderWay, c_NotUnderWay⟩) F_BadText___init__ X_BadText
  have X_BadBook : ExcF K c_BadBook f_BadBook___init__ "path" := ⟨S_BadBook.x, a_BadBook___init__, t_BadBook, o_BadBook⟩
  have G_BadBook___init__ := oi_BadBook (mg := mg) (P := P) (w := w) (base := base) (Z := ⟨c_VoteError, c_BadTree, c_NoBlock, c_NoPlace, c_Beneath, c_NoOrder, c_NoView, c_OtherBlocks, c_NoNumber, c_BadPicture, c_NoLot, c_NoTree, c_NotFitting, c_NoTelling, c_TooMany, c_BadWords, c_BadHistory, c_NoWord, c_NoWorth, c_NothingWaits, c_RingTold, c_NameTwice, c_BadBody, c_NoPath, c_NotThere, c_NotFolder, c_NotFile, c_TakenPath, c_NoText, c_NotEmpty, c_NoBlocks, c_NoLine, c_NoLines, c_BadText, c_BadBook, c_NotKept, c_NoChanges, c_UnderWay, c_NotUnderWay⟩) F_BadBook___init__ X_BadBook
  have X_NotKept : ExcF K c_NotKept f_NotKept___init__ "name" := ⟨S_NotKept.x, a_NotKept___init__, t_NotKept, o_NotKept⟩
  have G_NotKept___init__ := oi_NotKept (mg := mg) (P := P) (w := w) (base := base) (Z := ⟨c_VoteError, c_BadTree, c_NoBlock, c_NoPlace, c_Beneath, c_NoOrder, c_NoView, c_OtherBlocks, c_NoNumber, c_BadPicture, c_NoLot, c_NoTree, c_NotFitting, c_NoTelling, c_TooMany, c_BadWords, c_BadHistory, c_NoWord, c_NoWorth, c_NothingWaits, c_RingTold, c_NameTwice, c_BadBody, c_NoPath, c_NotThere, c_NotFolder, c_NotFile, c_TakenPath, c_NoText, c_NotEmpty, c_NoBlocks, c_NoLine, c_NoLines, c_BadText, c_BadBook, c_NotKept, c_NoChanges, c_UnderWay, c_NotUnderWay⟩) F_NotKept___init__ X_NotKept
  have G_pool := ok_pool (P := P) (w := w) (base := base) F__law_pool B
  have G_draw := ok_draw (P := P) (w := w) (base := base) F__law_draw B
  have G_pick := ok_pick F__law_pick B C__law_draw G_draw
  have G_deep := ok_deepR (P := P) (w := w) (base := base) F__law_deep B
  have G_kinds := ok_kinds (P := P) (w := w) (base := base) F__law_kinds B T
  have G_is := ok_isR (P := P) (w := w) (base := base) F__law_is B C__law_is 33
  exact ok_law F_law B T eV (kit_VE vV) qV kV X_NoBlock X_NoPlace X_Beneath X_NoOrder X_NoView X_OtherBlocks X_NoNumber X_NoLot X_NoTree X_NotFitting X_NoTelling X_NoWord X_NoWorth X_NothingWaits X_NoText X_NoBlocks X_NoLine X_NoLines X_NoChanges X_UnderWay X_NotUnderWay C_BadTree___init__ G_BadTree___init__ X_BadTree C_BadPicture___init__ G_BadPicture___init__ X_BadPicture C_TooMany___init__ G_TooMany___init__ X_TooMany C_BadWords___init__ G_BadWords___init__ X_BadWords C_BadHistory___init__ G_BadHistory___init__ X_BadHistory C_RingTold___init__ G_RingTold___init__ X_RingTold C_NameTwice___init__ G_NameTwice___init__ X_NameTwice C_BadBody___init__ G_BadBody___init__ X_BadBody C_NoPath___init__ G_NoPath___init__ X_NoPath C_NotThere___init__ G_NotThere___init__ X_NotThere C_NotFolder___init__ G_NotFolder___init__ X_NotFolder C_NotFile___init__ G_NotFile___init__ X_NotFile C_TakenPath___init__ G_TakenPath___init__ X_TakenPath C_NotEmpty___init__ G_NotEmpty___init__ X_NotEmpty C_BadText___init__ G_BadText___init__ X_BadText C_BadBook___init__ G_BadBook___init__ X_BadBook C_NotKept___init__ G_NotKept___init__ X_NotKept n2 C__law_pool G_pool C__law_pick G_pick C__law_deep G_deep C__law_kinds G_kinds C__law_is G_is
end Fv
open PySem PySem.W PyProof.Rows in
set_option maxRecDepth 100000 in
set_option maxHeartbeats 0 in
theorem PySem.Challenge.cw_foldervotes_k00_errors_of_the_package_holds : PySem.Challenge.rw_foldervotes_k00_errors_of_the_package.Holds := by
  w_on; o_law; k_headL; (case hw => w_witness2)
  k_fill
  refine L2.walk_of (l := PySem.Challenge.rw_foldervotes_k00_errors_of_the_package) (n := 63) (k := 36) (x := "_law_script") (CX := fun _ => L2.CX0) (sp := fun w => Fv.spLaw _) rfl (by decide) rfl ⟨rfl, by decide, by decide⟩ (fun w h Y => PySem.W.kIn_of Y) ?F (fun _ _ a ns hl _ hS => ⟨a, ns, rfl, hS, hl, fun _ => rfl⟩) (fun _ _ _ _ _ h => h)
  case F =>
   as_aux_lemma =>
    intro w mg fa h KX G hmg
    refine' Fv.all_mk KX G hmg ?n_VoteError ?n_BadTree ?n_NoBlock ?n_NoPlace ?n_Beneath ?n_NoOrder ?n_NoView ?n_OtherBlocks ?n_NoNumber ?n_BadPicture ?n_NoLot ?n_NoTree ?n_NotFitting ?n_NoTelling ?n_TooMany ?n_BadWords ?n_BadHistory ?n_NoWord ?n_NoWorth ?n_NothingWaits ?n_RingTold ?n_NameTwice ?n_BadBody ?n_NoPath ?n_NotThere ?n_NotFolder ?n_NotFile ?n_TakenPath ?n_NoText ?n_NotEmpty ?n_NoBlocks ?n_NoLine ?n_NoLines ?n_BadText ?n_BadBook ?n_NotKept ?n_NoChanges ?n_UnderWay ?n_NotUnderWay ?z_ValueError ?z_abs ?z_all ?z_bool ?z_dict ?z_int ?z_isinstance ?z_len ?z_list ?z_range ?z_str ?z_super ?z_tuple ?a_BadTree___init__ ?l_BadTree___init__ ?c_BadTree___init__ ?k_BadTree___init__ ?a_BadPicture___init__ ?l_BadPicture___init__ ?c_BadPicture___init__ ?k_BadPicture___init__ ?a_TooMany___init__ ?l_TooMany___init__ ?c_TooMany___init__ ?k_TooMany___init__ ?a_BadWords___init__ ?l_BadWords___init__ ?c_BadWords___init__ ?k_BadWords___init__ ?a_BadHistory___init__ ?l_BadHistory___init__ ?c_BadHistory___init__ ?k_BadHistory___init__ ?a_RingTold___init__ ?l_RingTold___init__ ?c_RingTold___init__ ?k_RingTold___init__ ?a_NameTwice___init__ ?l_NameTwice___init__ ?c_NameTwice___init__ ?k_NameTwice___init__ ?a_BadBody___init__ ?l_BadBody___init__ ?c_BadBody___init__ ?k_BadBody___init__ ?a_NoPath___init__ ?l_NoPath___init__ ?c_NoPath___init__ ?k_NoPath___init__ ?a_NotThere___init__ ?l_NotThere___init__ ?c_NotThere___init__ ?k_NotThere___init__ ?a_NotFolder___init__ ?l_NotFolder___init__ ?c_NotFolder___init__ ?k_NotFolder___init__ ?a_NotFile___init__ ?l_NotFile___init__ ?c_NotFile___init__ ?k_NotFile___init__ ?a_TakenPath___init__ ?l_TakenPath___init__ ?c_TakenPath___init__ ?k_TakenPath___init__ ?a_NotEmpty___init__ ?l_NotEmpty___init__ ?c_NotEmpty___init__ ?k_NotEmpty___init__ ?a_BadText___init__ ?l_BadText___init__ ?c_BadText___init__ ?k_BadText___init__ ?a_BadBook___init__ ?l_BadBook___init__ ?c_BadBook___init__ ?k_BadBook___init__ ?a_NotKept___init__ ?l_NotKept___init__ ?c_NotKept___init__ ?k_NotKept___init__ ?a__law_pool ?l__law_pool ?c__law_pool ?k__law_pool ?a__law_draw ?l__law_draw ?c__law_draw ?k__law_draw ?a__law_pick ?l__law_pick ?c__law_pick ?k__law_pick ?a__law_is ?l__law_is ?c__law_is ?k__law_is ?a__law_deep ?l__law_deep ?c__law_deep ?k__law_deep ?a__law_kinds ?l__law_kinds ?c__law_kinds ?k__law_kinds ?a_law ?l_law ?c_law ?k_law ?S_NoBlock ?S_NoPlace ?S_Beneath ?S_NoOrder ?S_NoView ?S_OtherBlocks ?S_NoNumber ?S_NoLot ?S_NoTree ?S_NotFitting ?S_NoTelling ?S_NoWord ?S_NoWorth ?S_NothingWaits ?S_NoText ?S_NoBlocks ?S_NoLine ?S_NoLines ?S_BadTree ?S_BadPicture ?S_TooMany ?S_BadWords ?S_BadHistory ?S_RingTold ?S_NameTwice ?S_BadBody ?S_NoPath ?S_NotThere ?S_NotFolder ?S_NotFile ?S_TakenPath ?S_NotEmpty ?S_BadText ?S_NoChanges ?S_UnderWay ?S_NotUnderWay ?S_BadBook ?S_NotKept ?U_NoBlock ?U_NoPlace ?U_Beneath ?U_NoOrder ?U_NoView ?U_OtherBlocks ?U_NoNumber ?U_NoLot ?U_NoTree ?U_NotFitting ?U_NoTelling ?U_NoWord ?U_NoWorth ?U_NothingWaits ?U_NoText ?U_NoBlocks ?U_NoLine ?U_NoLines ?U_NoChanges ?U_UnderWay ?U_NotUnderWay ?t_BadTree ?o_BadTree ?t_BadPicture ?o_BadPicture ?t_TooMany ?o_TooMany ?t_BadWords ?o_BadWords ?t_BadHistory ?o_BadHistory ?t_RingTold ?o_RingTold ?t_NameTwice ?o_NameTwice ?t_BadBody ?o_BadBody ?t_NoPath ?o_NoPath ?t_NotThere ?o_NotThere ?t_NotFolder ?o_NotFolder ?t_NotFile ?o_NotFile ?t_TakenPath ?o_TakenPath ?t_NotEmpty ?o_NotEmpty ?t_BadText ?o_BadText ?t_BadBook ?o_BadBook ?t_NotKept ?o_NotKept ?n2 ?eV ?sV ?tV ?kV ?vV ?qV ?dis
    (case n_VoteError =>
      k_is)
    (case n_BadTree =>
      k_is)
    (case n_NoBlock =>
      k_is)
    (case n_NoPlace =>
      k_is)
    (case n_Beneath =>
      k_is)
    (case n_NoOrder =>
      k_is)
    (case n_NoView =>
      k_is)
    (case n_OtherBlocks =>
      k_is)
    (case n_NoNumber =>
      k_is)
    (case n_BadPicture =>
      k_is)
    (case n_NoLot =>
      k_is)
    (case n_NoTree =>
      k_is)
    (case n_NotFitting =>
      k_is)
    (case n_NoTelling =>
      k_is)
    (case n_TooMany =>
      k_is)
    (case n_BadWords =>
      k_is)
    (case n_BadHistory =>
      k_is)
    (case n_NoWord =>
      k_is)
    (case n_NoWorth =>
      k_is)
    (case n_NothingWaits =>
      k_is)
    (case n_RingTold =>
      k_is)
    (case n_NameTwice =>
      k_is)
    (case n_BadBody =>
      k_is)
    (case n_NoPath =>
      k_is)
    (case n_NotThere =>
      k_is)
    (case n_NotFolder =>
      k_is)
    (case n_NotFile =>
      k_is)
    (case n_TakenPath =>
      k_is)
    (case n_NoText =>
      k_is)
    (case n_NotEmpty =>
      k_is)
    (case n_NoBlocks =>
      k_is)
    (case n_NoLine =>
      k_is)
    (case n_NoLines =>
      k_is)
    (case n_BadText =>
      k_is)
    (case n_BadBook =>
      k_is)
    (case n_NotKept =>
      k_is)
    (case n_NoChanges =>
      k_is)
    (case n_UnderWay =>
      k_is)
    (case n_NotUnderWay =>
      k_is)
    (case z_ValueError =>
      k_is)
    (case z_abs =>
      k_is)
    (case z_all =>
      k_is)
    (case z_bool =>
      k_is)
    (case z_dict =>
      k_is)
    (case z_int =>
      k_is)
    (case z_isinstance =>
      k_is)
    (case z_len =>
      k_is)
    (case z_list =>
      k_is)
    (case z_range =>
      k_is)
    (case z_str =>
      k_is)
    (case z_super =>
      k_is)
    (case z_tuple =>
      k_is)
    (case a_BadTree___init__ =>
      k_is)
    (case l_BadTree___init__ =>
      k_is)
    (case c_BadTree___init__ =>
      k_is)
    (case k_BadTree___init__ =>
      k_is)
    (case a_BadPicture___init__ =>
      k_is)
    (case l_BadPicture___init__ =>
      k_is)
    (case c_BadPicture___init__ =>
      k_is)
    (case k_BadPicture___init__ =>
      k_is)
    (case a_TooMany___init__ =>
      k_is)
    (case l_TooMany___init__ =>
      k_is)
    (case c_TooMany___init__ =>
      k_is)
    (case k_TooMany___init__ =>
      k_is)
    (case a_BadWords___init__ =>
      k_is)
    (case l_BadWords___init__ =>
      k_is)
    (case c_BadWords___init__ =>
      k_is)
    (case k_BadWords___init__ =>
      k_is)
    (case a_BadHistory___init__ =>
      k_is)
    (case l_BadHistory___init__ =>
      k_is)
    (case c_BadHistory___init__ =>
      k_is)
    (case k_BadHistory___init__ =>
      k_is)
    (case a_RingTold___init__ =>
      k_is)
    (case l_RingTold___init__ =>
      k_is)
    (case c_RingTold___init__ =>
      k_is)
    (case k_RingTold___init__ =>
      k_is)
    (case a_NameTwice___init__ =>
      k_is)
    (case l_NameTwice___init__ =>
      k_is)
    (case c_NameTwice___init__ =>
      k_is)
    (case k_NameTwice___init__ =>
      k_is)
    (case a_BadBody___init__ =>
      k_is)
    (case l_BadBody___init__ =>
      k_is)
    (case c_BadBody___init__ =>
      k_is)
    (case k_BadBody___init__ =>
      k_is)
    (case a_NoPath___init__ =>
      k_is)
    (case l_NoPath___init__ =>
      k_is)
    (case c_NoPath___init__ =>
      k_is)
    (case k_NoPath___init__ =>
      k_is)
    (case a_NotThere___init__ =>
      k_is)
    (case l_NotThere___init__ =>
      k_is)
    (case c_NotThere___init__ =>
      k_is)
    (case k_NotThere___init__ =>
      k_is)
    (case a_NotFolder___init__ =>
      k_is)
    (case l_NotFolder___init__ =>
      k_is)
    (case c_NotFolder___init__ =>
      k_is)
    (case k_NotFolder___init__ =>
      k_is)
    (case a_NotFile___init__ =>
      k_is)
    (case l_NotFile___init__ =>
      k_is)
    (case c_NotFile___init__ =>
      k_is)
    (case k_NotFile___init__ =>
      k_is)
    (case a_TakenPath___init__ =>
      k_is)
    (case l_TakenPath___init__ =>
      k_is)
    (case c_TakenPath___init__ =>
      k_is)
    (case k_TakenPath___init__ =>
      k_is)
    (case a_NotEmpty___init__ =>
      k_is)
    (case l_NotEmpty___init__ =>
      k_is)
    (case c_NotEmpty___init__ =>
      k_is)
    (case k_NotEmpty___init__ =>
      k_is)
    (case a_BadText___init__ =>
      k_is)
    (case l_BadText___init__ =>
      k_is)
    (case c_BadText___init__ =>
      k_is)
    (case k_BadText___init__ =>
      k_is)
    (case a_BadBook___init__ =>
      k_is)
    (case l_BadBook___init__ =>
      k_is)
    (case c_BadBook___init__ =>
      k_is)
    (case k_BadBook___init__ =>
      k_is)
    (case a_NotKept___init__ =>
      k_is)
    (case l_NotKept___init__ =>
      k_is)
    (case c_NotKept___init__ =>
      k_is)
    (case k_NotKept___init__ =>
      k_is)
    (case a__law_pool =>
      k_is)
    (case l__law_pool =>
      k_is)
    (case c__law_pool =>
      k_is)
    (case k__law_pool =>
      k_is)
    (case a__law_draw =>
      k_is)
    (case l__law_draw =>
      k_is)
    (case c__law_draw =>
      k_is)
    (case k__law_draw =>
      k_is)
    (case a__law_pick =>
      k_is)
    (case l__law_pick =>
      k_is)
    (case c__law_pick =>
      k_is)
    (case k__law_pick =>
      k_is)
    (case a__law_is =>
      k_is)
    (case l__law_is =>
      k_is)
    (case c__law_is =>
      k_is)
    (case k__law_is =>
      k_is)
    (case a__law_deep =>
      k_is)
    (case l__law_deep =>
      k_is)
    (case c__law_deep =>
      k_is)
    (case k__law_deep =>
      k_is)
    (case a__law_kinds =>
      k_is)
    (case l__law_kinds =>
      k_is)
    (case c__law_kinds =>
      k_is)
    (case k__law_kinds =>
      k_is)
    (case a_law =>
      k_is)
    (case l_law =>
      k_is)
    (case c_law =>
      k_is)
    (case k_law =>
      k_is)
    (case S_NoBlock =>
      refine' Fv.cls_mk ?x_sNoBlock ?sa_sNoBlock ?ty_sNoBlock ?kc_sNoBlock ?hg_sNoBlock ?hk_sNoBlock ?ha_sNoBlock ?hn_sNoBlock ?ht_sNoBlock
      (case x_sNoBlock => first | k_is | rfl)
      all_goals k_is)
    (case S_NoPlace =>
      refine' Fv.cls_mk ?x_sNoPlace ?sa_sNoPlace ?ty_sNoPlace ?kc_sNoPlace ?hg_sNoPlace ?hk_sNoPlace ?ha_sNoPlace ?hn_sNoPlace ?ht_sNoPlace
      (case x_sNoPlace => first | k_is | rfl)
      all_goals k_is)
    (case S_Beneath =>
      refine' Fv.cls_mk ?x_sBeneath ?sa_sBeneath ?ty_sBeneath ?kc_sBeneath ?hg_sBeneath ?hk_sBeneath ?ha_sBeneath ?hn_sBeneath ?ht_sBeneath
      (case x_sBeneath => first | k_is | rfl)
      all_goals k_is)
    (case S_NoOrder =>
      refine' Fv.cls_mk ?x_sNoOrder ?sa_sNoOrder ?ty_sNoOrder ?kc_sNoOrder ?hg_sNoOrder ?hk_sNoOrder ?ha_sNoOrder ?hn_sNoOrder ?ht_sNoOrder
      (case x_sNoOrder => first | k_is | rfl)
      all_goals k_is)
    (case S_NoView =>
      refine' Fv.cls_mk ?x_sNoView ?sa_sNoView ?ty_sNoView ?kc_sNoView ?hg_sNoView ?hk_sNoView ?ha_sNoView ?hn_sNoView ?ht_sNoView
      (case x_sNoView => first | k_is | rfl)
      all_goals k_is)
    (case S_OtherBlocks =>
      refine' Fv.cls_mk ?x_sOtherBlocks ?sa_sOtherBlocks ?ty_sOtherBlocks ?kc_sOtherBlocks ?hg_sOtherBlocks ?hk_sOtherBlocks ?ha_sOtherBlocks ?hn_sOtherBlocks ?ht_sOtherBlocks
      (case x_sOtherBlocks => first | k_is | rfl)
      all_goals k_is)
    (case S_NoNumber =>
      refine' Fv.cls_mk ?x_sNoNumber ?sa_sNoNumber ?ty_sNoNumber ?kc_sNoNumber ?hg_sNoNumber ?hk_sNoNumber ?ha_sNoNumber ?hn_sNoNumber ?ht_sNoNumber
      (case x_sNoNumber => first | k_is | rfl)
      all_goals k_is)
    (case S_NoLot =>
      refine' Fv.cls_mk ?x_sNoLot ?sa_sNoLot ?ty_sNoLot ?kc_sNoLot ?hg_sNoLot ?hk_sNoLot ?ha_sNoLot ?hn_sNoLot ?ht_sNoLot
      (case x_sNoLot => first | k_is | rfl)
      all_goals k_is)
    (case S_NoTree =>
      refine' Fv.cls_mk ?x_sNoTree ?sa_sNoTree ?ty_sNoTree ?kc_sNoTree ?hg_sNoTree ?hk_sNoTree ?ha_sNoTree ?hn_sNoTree ?ht_sNoTree
      (case x_sNoTree => first | k_is | rfl)
      all_goals k_is)
    (case S_NotFitting =>
      refine' Fv.cls_mk ?x_sNotFitting ?sa_sNotFitting ?ty_sNotFitting ?kc_sNotFitting ?hg_sNotFitting ?hk_sNotFitting ?ha_sNotFitting ?hn_sNotFitting ?ht_sNotFitting
      (case x_sNotFitting => first | k_is | rfl)
      all_goals k_is)
    (case S_NoTelling =>
      refine' Fv.cls_mk ?x_sNoTelling ?sa_sNoTelling ?ty_sNoTelling ?kc_sNoTelling ?hg_sNoTelling ?hk_sNoTelling ?ha_sNoTelling ?hn_sNoTelling ?ht_sNoTelling
      (case x_sNoTelling => first | k_is | rfl)
      all_goals k_is)
    (case S_NoWord =>
      refine' Fv.cls_mk ?x_sNoWord ?sa_sNoWord ?ty_sNoWord ?kc_sNoWord ?hg_sNoWord ?hk_sNoWord ?ha_sNoWord ?hn_sNoWord ?ht_sNoWord
      (case x_sNoWord => first | k_is | rfl)
      all_goals k_is)
    (case S_NoWorth =>
      refine' Fv.cls_mk ?x_sNoWorth ?sa_sNoWorth ?ty_sNoWorth ?kc_sNoWorth ?hg_sNoWorth ?hk_sNoWorth ?ha_sNoWorth ?hn_sNoWorth ?ht_sNoWorth
      (case x_sNoWorth => first | k_is | rfl)
      all_goals k_is)
    (case S_NothingWaits =>
      refine' Fv.cls_mk ?x_sNothingWaits ?sa_sNothingWaits ?ty_sNothingWaits ?kc_sNothingWaits ?hg_sNothingWaits ?hk_sNothingWaits ?ha_sNothingWaits ?hn_sNothingWaits ?ht_sNothingWaits
      (case x_sNothingWaits => first | k_is | rfl)
      all_goals k_is)
    (case S_NoText =>
      refine' Fv.cls_mk ?x_sNoText ?sa_sNoText ?ty_sNoText ?kc_sNoText ?hg_sNoText ?hk_sNoText ?ha_sNoText ?hn_sNoText ?ht_sNoText
      (case x_sNoText => first | k_is | rfl)
      all_goals k_is)
    (case S_NoBlocks =>
      refine' Fv.cls_mk ?x_sNoBlocks ?sa_sNoBlocks ?ty_sNoBlocks ?kc_sNoBlocks ?hg_sNoBlocks ?hk_sNoBlocks ?ha_sNoBlocks ?hn_sNoBlocks ?ht_sNoBlocks
      (case x_sNoBlocks => first | k_is | rfl)
      all_goals k_is)
    (case S_NoLine =>
      refine' Fv.cls_mk ?x_sNoLine ?sa_sNoLine ?ty_sNoLine ?kc_sNoLine ?hg_sNoLine ?hk_sNoLine ?ha_sNoLine ?hn_sNoLine ?ht_sNoLine
      (case x_sNoLine => first | k_is | rfl)
      all_goals k_is)
    (case S_NoLines =>
      refine' Fv.cls_mk ?x_sNoLines ?sa_sNoLines ?ty_sNoLines ?kc_sNoLines ?hg_sNoLines ?hk_sNoLines ?ha_sNoLines ?hn_sNoLines ?ht_sNoLines
      (case x_sNoLines => first | k_is | rfl)
      all_goals k_is)
    (case S_BadTree =>
      refine' Fv.cls_mk ?x_sBadTree ?sa_sBadTree ?ty_sBadTree ?kc_sBadTree ?hg_sBadTree ?hk_sBadTree ?ha_sBadTree ?hn_sBadTree ?ht_sBadTree
      (case x_sBadTree => first | k_is | rfl)
      all_goals k_is)
    (case S_BadPicture =>
      refine' Fv.cls_mk ?x_sBadPicture ?sa_sBadPicture ?ty_sBadPicture ?kc_sBadPicture ?hg_sBadPicture ?hk_sBadPicture ?ha_sBadPicture ?hn_sBadPicture ?ht_sBadPicture
      (case x_sBadPicture => first | k_is | rfl)
      all_goals k_is)
    (case S_TooMany =>
      refine' Fv.cls_mk ?x_sTooMany ?sa_sTooMany ?ty_sTooMany ?kc_sTooMany ?hg_sTooMany ?hk_sTooMany ?ha_sTooMany ?hn_sTooMany ?ht_sTooMany
      (case x_sTooMany => first | k_is | rfl)
      all_goals k_is)
    (case S_BadWords =>
      refine' Fv.cls_mk ?x_sBadWords ?sa_sBadWords ?ty_sBadWords ?kc_sBadWords ?hg_sBadWords ?hk_sBadWords ?ha_sBadWords ?hn_sBadWords ?ht_sBadWords
      (case x_sBadWords => first | k_is | rfl)
      all_goals k_is)
    (case S_BadHistory =>
      refine' Fv.cls_mk ?x_sBadHistory ?sa_sBadHistory ?ty_sBadHistory ?kc_sBadHistory ?hg_sBadHistory ?hk_sBadHistory ?ha_sBadHistory ?hn_sBadHistory ?ht_sBadHistory
      (case x_sBadHistory => first | k_is | rfl)
      all_goals k_is)
    (case S_RingTold =>
      refine' Fv.cls_mk ?x_sRingTold ?sa_sRingTold ?ty_sRingTold ?kc_sRingTold ?hg_sRingTold ?hk_sRingTold ?ha_sRingTold ?hn_sRingTold ?ht_sRingTold
      (case x_sRingTold => first | k_is | rfl)
      all_goals k_is)
    (case S_NameTwice =>
      refine' Fv.cls_mk ?x_sNameTwice ?sa_sNameTwice ?ty_sNameTwice ?kc_sNameTwice ?hg_sNameTwice ?hk_sNameTwice ?ha_sNameTwice ?hn_sNameTwice ?ht_sNameTwice
      (case x_sNameTwice => first | k_is | rfl)
      all_goals k_is)
    (case S_BadBody =>
      refine' Fv.cls_mk ?x_sBadBody ?sa_sBadBody ?ty_sBadBody ?kc_sBadBody ?hg_sBadBody ?hk_sBadBody ?ha_sBadBody ?hn_sBadBody ?ht_sBadBody
      (case x_sBadBody => first | k_is | rfl)
      all_goals k_is)
    (case S_NoPath =>
      refine' Fv.cls_mk ?x_sNoPath ?sa_sNoPath ?ty_sNoPath ?kc_sNoPath ?hg_sNoPath ?hk_sNoPath ?ha_sNoPath ?hn_sNoPath ?ht_sNoPath
      (case x_sNoPath => first | k_is | rfl)
      all_goals k_is)
    (case S_NotThere =>
      refine' Fv.cls_mk ?x_sNotThere ?sa_sNotThere ?ty_sNotThere ?kc_sNotThere ?hg_sNotThere ?hk_sNotThere ?ha_sNotThere ?hn_sNotThere ?ht_sNotThere
      (case x_sNotThere => first | k_is | rfl)
      all_goals k_is)
    (case S_NotFolder =>
      refine' Fv.cls_mk ?x_sNotFolder ?sa_sNotFolder ?ty_sNotFolder ?kc_sNotFolder ?hg_sNotFolder ?hk_sNotFolder ?ha_sNotFolder ?hn_sNotFolder ?ht_sNotFolder
      (case x_sNotFolder => first | k_is | rfl)
      all_goals k_is)
    (case S_NotFile =>
      refine' Fv.cls_mk ?x_sNotFile ?sa_sNotFile ?ty_sNotFile ?kc_sNotFile ?hg_sNotFile ?hk_sNotFile ?ha_sNotFile ?hn_sNotFile ?ht_sNotFile
      (case x_sNotFile => first | k_is | rfl)
      all_goals k_is)
    (case S_TakenPath =>
      refine' Fv.cls_mk ?x_sTakenPath ?sa_sTakenPath ?ty_sTakenPath ?kc_sTakenPath ?hg_sTakenPath ?hk_sTakenPath ?ha_sTakenPath ?hn_sTakenPath ?ht_sTakenPath
      (case x_sTakenPath => first | k_is | rfl)
      all_goals k_is)
    (case S_NotEmpty =>
      refine' Fv.cls_mk ?x_sNotEmpty ?sa_sNotEmpty ?ty_sNotEmpty ?kc_sNotEmpty ?hg_sNotEmpty ?hk_sNotEmpty ?ha_sNotEmpty ?hn_sNotEmpty ?ht_sNotEmpty
      (case x_sNotEmpty => first | k_is | rfl)
      all_goals k_is)
    (case S_BadText =>
      refine' Fv.cls_mk ?x_sBadText ?sa_sBadText ?ty_sBadText ?kc_sBadText ?hg_sBadText ?hk_sBadText ?ha_sBadText ?hn_sBadText ?ht_sBadText
      (case x_sBadText => first | k_is | rfl)
      all_goals k_is)
    (case S_NoChanges =>
      refine' Fv.cls_mk ?x_sNoChanges ?sa_sNoChanges ?ty_sNoChanges ?kc_sNoChanges ?hg_sNoChanges ?hk_sNoChanges ?ha_sNoChanges ?hn_sNoChanges ?ht_sNoChanges
      (case x_sNoChanges => first | k_is | rfl)
      all_goals k_is)
    (case S_UnderWay =>
      refine' Fv.cls_mk ?x_sUnderWay ?sa_sUnderWay ?ty_sUnderWay ?kc_sUnderWay ?hg_sUnderWay ?hk_sUnderWay ?ha_sUnderWay ?hn_sUnderWay ?ht_sUnderWay
      (case x_sUnderWay => first | k_is | rfl)
      all_goals k_is)
    (case S_NotUnderWay =>
      refine' Fv.cls_mk ?x_sNotUnderWay ?sa_sNotUnderWay ?ty_sNotUnderWay ?kc_sNotUnderWay ?hg_sNotUnderWay ?hk_sNotUnderWay ?ha_sNotUnderWay ?hn_sNotUnderWay ?ht_sNotUnderWay
      (case x_sNotUnderWay => first | k_is | rfl)
      all_goals k_is)
    (case S_BadBook =>
      refine' Fv.cls_mk ?x_sBadBook ?sa_sBadBook ?ty_sBadBook ?kc_sBadBook ?hg_sBadBook ?hk_sBadBook ?ha_sBadBook ?hn_sBadBook ?ht_sBadBook
      (case x_sBadBook => first | k_is | rfl)
      all_goals k_is)
    (case S_NotKept =>
      refine' Fv.cls_mk ?x_sNotKept ?sa_sNotKept ?ty_sNotKept ?kc_sNotKept ?hg_sNotKept ?hk_sNotKept ?ha_sNotKept ?hn_sNotKept ?ht_sNotKept
      (case x_sNotKept => first | k_is | rfl)
      all_goals k_is)
    (case U_NoBlock =>
      intro hS
      refine' Fv.sup_mk hS ?i_uNoBlock ?ti_uNoBlock ?l_uNoBlock ?cU_uNoBlock ?ce_uNoBlock ?co_uNoBlock ?v2_uNoBlock ?fi_uNoBlock ?ev_uNoBlock ?up_uNoBlock ?op_uNoBlock ?tp_uNoBlock
      (case i_uNoBlock => k_is)
      (case ti_uNoBlock => k_is)
      (case l_uNoBlock => k_is)
      (case cU_uNoBlock => k_is)
      (case ce_uNoBlock => k_is)
      (case co_uNoBlock => k_is)
      (case v2_uNoBlock => rfl)
      (case fi_uNoBlock => first | rfl | decide +kernel)
      (case ev_uNoBlock => exact fun _ _ _ _ _ => ⟨_, rfl⟩)
      (case up_uNoBlock => ks_is)
      (case op_uNoBlock => k_is)
      (case tp_uNoBlock => first | rfl | decide +kernel))
    (case U_NoPlace =>
      intro hS
      refine' Fv.sup_mk hS ?i_uNoPlace ?ti_uNoPlace ?l_uNoPlace ?cU_uNoPlace ?ce_uNoPlace ?co_uNoPlace ?v2_uNoPlace ?fi_uNoPlace ?ev_uNoPlace ?up_uNoPlace ?op_uNoPlace ?tp_uNoPlace
      (case i_uNoPlace => k_is)
      (case ti_uNoPlace => k_is)
      (case l_uNoPlace => k_is)
      (case cU_uNoPlace => k_is)
      (case ce_uNoPlace => k_is)
      (case co_uNoPlace => k_is)
      (case v2_uNoPlace => rfl)
      (case fi_uNoPlace => first | rfl | decide +kernel)
      (case ev_uNoPlace => exact fun _ _ _ _ _ => ⟨_, rfl⟩)
      (case up_uNoPlace => ks_is)
      (case op_uNoPlace => k_is)
      (case tp_uNoPlace => first | rfl | decide +kernel))
    (case U_Beneath =>
      intro hS
      refine' Fv.sup_mk hS ?i_uBeneath ?ti_uBeneath ?l_uBeneath ?cU_uBeneath ?ce_uBeneath ?co_uBeneath ?v2_uBeneath ?fi_uBeneath ?ev_uBeneath ?up_uBeneath ?op_uBeneath ?tp_uBeneath
      (case i_uBeneath => k_is)
      (case ti_uBeneath => k_is)
      (case l_uBeneath => k_is)
      (case cU_uBeneath => k_is)
      (case ce_uBeneath => k_is)
      (case co_uBeneath => k_is)
      (case v2_uBeneath => rfl)
      (case fi_uBeneath => first | rfl | decide +kernel)
      (case ev_uBeneath => exact fun _ _ _ _ _ => ⟨_, rfl⟩)
      (case up_uBeneath => ks_is)
      (case op_uBeneath => k_is)
      (case tp_uBeneath => first | rfl | decide +kernel))
    (case U_NoOrder =>
      intro hS
      refine' Fv.sup_mk hS ?i_uNoOrder ?ti_uNoOrder ?l_uNoOrder ?cU_uNoOrder ?ce_uNoOrder ?co_uNoOrder ?v2_uNoOrder ?fi_uNoOrder ?ev_uNoOrder ?up_uNoOrder ?op_uNoOrder ?tp_uNoOrder
      (case i_uNoOrder => k_is)
      (case ti_uNoOrder => k_is)
      (case l_uNoOrder => k_is)
      (case cU_uNoOrder => k_is)
      (case ce_uNoOrder => k_is)
      (case co_uNoOrder => k_is)
      (case v2_uNoOrder => rfl)
      (case fi_uNoOrder => first | rfl | decide +kernel)
      (case ev_uNoOrder => exact fun _ _ _ _ _ => ⟨_, rfl⟩)
      (case up_uNoOrder => ks_is)
      (case op_uNoOrder => k_is)
      (case tp_uNoOrder => first | rfl | decide +kernel))
    (case U_NoView =>
      intro hS
      refine' Fv.sup_mk hS ?i_uNoView ?ti_uNoView ?l_uNoView ?cU_uNoView ?ce_uNoView ?co_uNoView ?v2_uNoView ?fi_uNoView ?ev_uNoView ?up_uNoView ?op_uNoView ?tp_uNoView
      (case i_uNoView => k_is)
      (case ti_uNoView => k_is)
      (case l_uNoView => k_is)
      (case cU_uNoView => k_is)
      (case ce_uNoView => k_is)
      (case co_uNoView => k_is)
      (case v2_uNoView => rfl)
      (case fi_uNoView => first | rfl | decide +kernel)
      (case ev_uNoView => exact fun _ _ _ _ _ => ⟨_, rfl⟩)
      (case up_uNoView => ks_is)
      (case op_uNoView => k_is)
      (case tp_uNoView => first | rfl | decide +kernel))
    (case U_OtherBlocks =>
      intro hS
      refine' Fv.sup_mk hS ?i_uOtherBlocks ?ti_uOtherBlocks ?l_uOtherBlocks ?cU_uOtherBlocks ?ce_uOtherBlocks ?co_uOtherBlocks ?v2_uOtherBlocks ?fi_uOtherBlocks ?ev_uOtherBlocks ?up_uOtherBlocks ?op_uOtherBlocks ?tp_uOtherBlocks
      (case i_uOtherBlocks => k_is)
      (case ti_uOtherBlocks => k_is)
      (case l_uOtherBlocks => k_is)
      (case cU_uOtherBlocks => k_is)
      (case ce_uOtherBlocks => k_is)
      (case co_uOtherBlocks => k_is)
      (case v2_uOtherBlocks => rfl)
      (case fi_uOtherBlocks => first | rfl | decide +kernel)
      (case ev_uOtherBlocks => exact fun _ _ _ _ _ => ⟨_, rfl⟩)
      (case up_uOtherBlocks => ks_is)
      (case op_uOtherBlocks => k_is)
      (case tp_uOtherBlocks => first | rfl | decide +kernel))
    (case U_NoNumber =>
      intro hS
      refine' Fv.sup_mk hS ?i_uNoNumber ?ti_uNoNumber ?l_uNoNumber ?cU_uNoNumber ?ce_uNoNumber ?co_uNoNumber ?v2_uNoNumber ?fi_uNoNumber ?ev_uNoNumber ?up_uNoNumber ?op_uNoNumber ?tp_uNoNumber
      (case i_uNoNumber => k_is)
      (case ti_uNoNumber => k_is)
      (case l_uNoNumber => k_is)
      (case cU_uNoNumber => k_is)
      (case ce_uNoNumber => k_is)
      (case co_uNoNumber => k_is)
      (case v2_uNoNumber => rfl)
      (case fi_uNoNumber => first | rfl | decide +kernel)
      (case ev_uNoNumber => exact fun _ _ _ _ _ => ⟨_, rfl⟩)
      (case up_uNoNumber => ks_is)
      (case op_uNoNumber => k_is)
      (case tp_uNoNumber => first | rfl | decide +kernel))
    (case U_NoLot =>
      intro hS
      refine' Fv.sup_mk hS ?i_uNoLot ?ti_uNoLot ?l_uNoLot ?cU_uNoLot ?ce_uNoLot ?co_uNoLot ?v2_uNoLot ?fi_uNoLot ?ev_uNoLot ?up_uNoLot ?op_uNoLot ?tp_uNoLot
      (case i_uNoLot => k_is)
      (case ti_uNoLot => k_is)
      (case l_uNoLot => k_is)
      (case cU_uNoLot => k_is)
      (case ce_uNoLot => k_is)
      (case co_uNoLot => k_is)
      (case v2_uNoLot => rfl)
      (case fi_uNoLot => first | rfl | decide +kernel)
      (case ev_uNoLot => exact fun _ _ _ _ _ => ⟨_, rfl⟩)
      (case up_uNoLot => ks_is)
      (case op_uNoLot => k_is)
      (case tp_uNoLot => first | rfl | decide +kernel))
    (case U_NoTree =>
      intro hS
      refine' Fv.sup_mk hS ?i_uNoTree ?ti_uNoTree ?l_uNoTree ?cU_uNoTree ?ce_uNoTree ?co_uNoTree ?v2_uNoTree ?fi_uNoTree ?ev_uNoTree ?up_uNoTree ?op_uNoTree ?tp_uNoTree
      (case i_uNoTree => k_is)
      (case ti_uNoTree => k_is)
      (case l_uNoTree => k_is)
      (case cU_uNoTree => k_is)
      (case ce_uNoTree => k_is)
      (case co_uNoTree => k_is)
      (case v2_uNoTree => rfl)
      (case fi_uNoTree => first | rfl | decide +kernel)
      (case ev_uNoTree => exact fun _ _ _ _ _ => ⟨_, rfl⟩)
      (case up_uNoTree => ks_is)
      (case op_uNoTree => k_is)
      (case tp_uNoTree => first | rfl | decide +kernel))
    (case U_NotFitting =>
      intro hS
      refine' Fv.sup_mk hS ?i_uNotFitting ?ti_uNotFitting ?l_uNotFitting ?cU_uNotFitting ?ce_uNotFitting ?co_uNotFitting ?v2_uNotFitting ?fi_uNotFitting ?ev_uNotFitting ?up_uNotFitting ?op_uNotFitting ?tp_uNotFitting
      (case i_uNotFitting => k_is)
      (case ti_uNotFitting => k_is)
      (case l_uNotFitting => k_is)
      (case cU_uNotFitting => k_is)
      (case ce_uNotFitting => k_is)
      (case co_uNotFitting => k_is)
      (case v2_uNotFitting => rfl)
      (case fi_uNotFitting => first | rfl | decide +kernel)
      (case ev_uNotFitting => exact fun _ _ _ _ _ => ⟨_, rfl⟩)
      (case up_uNotFitting => ks_is)
      (case op_uNotFitting => k_is)
      (case tp_uNotFitting => first | rfl | decide +kernel))
    (case U_NoTelling =>
      intro hS
      refine' Fv.sup_mk hS ?i_uNoTelling ?ti_uNoTelling ?l_uNoTelling ?cU_uNoTelling ?ce_uNoTelling ?co_uNoTelling ?v2_uNoTelling ?fi_uNoTelling ?ev_uNoTelling ?up_uNoTelling ?op_uNoTelling ?tp_uNoTelling
      (case i_uNoTelling => k_is)
      (case ti_uNoTelling => k_is)
      (case l_uNoTelling => k_is)
      (case cU_uNoTelling => k_is)
      (case ce_uNoTelling => k_is)
      (case co_uNoTelling => k_is)
      (case v2_uNoTelling => rfl)
      (case fi_uNoTelling => first | rfl | decide +kernel)
      (case ev_uNoTelling => exact fun _ _ _ _ _ => ⟨_, rfl⟩)
      (case up_uNoTelling => ks_is)
      (case op_uNoTelling => k_is)
      (case tp_uNoTelling => first | rfl | decide +kernel))
    (case U_NoWord =>
      intro hS
      refine' Fv.sup_mk hS ?i_uNoWord ?ti_uNoWord ?l_uNoWord ?cU_uNoWord ?ce_uNoWord ?co_uNoWord ?v2_uNoWord ?fi_uNoWord ?ev_uNoWord ?up_uNoWord ?op_uNoWord ?tp_uNoWord
      (case i_uNoWord => k_is)
      (case ti_uNoWord => k_is)
      (case l_uNoWord => k_is)
      (case cU_uNoWord => k_is)
      (case ce_uNoWord => k_is)
      (case co_uNoWord => k_is)
      (case v2_uNoWord => rfl)
      (case fi_uNoWord => first | rfl | decide +kernel)
      (case ev_uNoWord => exact fun _ _ _ _ _ => ⟨_, rfl⟩)
      (case up_uNoWord => ks_is)
      (case op_uNoWord => k_is)
      (case tp_uNoWord => first | rfl | decide +kernel))
    (case U_NoWorth =>
      intro hS
      refine' Fv.sup_mk hS ?i_uNoWorth ?ti_uNoWorth ?l_uNoWorth ?cU_uNoWorth ?ce_uNoWorth ?co_uNoWorth ?v2_uNoWorth ?fi_uNoWorth ?ev_uNoWorth ?up_uNoWorth ?op_uNoWorth ?tp_uNoWorth
      (case i_uNoWorth => k_is)
      (case ti_uNoWorth => k_is)
      (case l_uNoWorth => k_is)
      (case cU_uNoWorth => k_is)
      (case ce_uNoWorth => k_is)
      (case co_uNoWorth => k_is)
      (case v2_uNoWorth => rfl)
      (case fi_uNoWorth => first | rfl | decide +kernel)
      (case ev_uNoWorth => exact fun _ _ _ _ _ => ⟨_, rfl⟩)
      (case up_uNoWorth => ks_is)
      (case op_uNoWorth => k_is)
      (case tp_uNoWorth => first | rfl | decide +kernel))
    (case U_NothingWaits =>
      intro hS
      refine' Fv.sup_mk hS ?i_uNothingWaits ?ti_uNothingWaits ?l_uNothingWaits ?cU_uNothingWaits ?ce_uNothingWaits ?co_uNothingWaits ?v2_uNothingWaits ?fi_uNothingWaits ?ev_uNothingWaits ?up_uNothingWaits ?op_uNothingWaits ?tp_uNothingWaits
      (case i_uNothingWaits => k_is)
      (case ti_uNothingWaits => k_is)
      (case l_uNothingWaits => k_is)
      (case cU_uNothingWaits => k_is)
      (case ce_uNothingWaits => k_is)
      (case co_uNothingWaits => k_is)
      (case v2_uNothingWaits => rfl)
      (case fi_uNothingWaits => first | rfl | decide +kernel)
      (case ev_uNothingWaits => exact fun _ _ _ _ _ => ⟨_, rfl⟩)
      (case up_uNothingWaits => ks_is)
      (case op_uNothingWaits => k_is)
      (case tp_uNothingWaits => first | rfl | decide +kernel))
    (case U_NoText =>
      intro hS
      refine' Fv.sup_mk hS ?i_uNoText ?ti_uNoText ?l_uNoText ?cU_uNoText ?ce_uNoText ?co_uNoText ?v2_uNoText ?fi_uNoText ?ev_uNoText ?up_uNoText ?op_uNoText ?tp_uNoText
      (case i_uNoText => k_is)
      (case ti_uNoText => k_is)
      (case l_uNoText => k_is)
      (case cU_uNoText => k_is)
      (case ce_uNoText => k_is)
      (case co_uNoText => k_is)
      (case v2_uNoText => rfl)
      (case fi_uNoText => first | rfl | decide +kernel)
      (case ev_uNoText => exact fun _ _ _ _ _ => ⟨_, rfl⟩)
      (case up_uNoText => ks_is)
      (case op_uNoText => k_is)
      (case tp_uNoText => first | rfl | decide +kernel))
    (case U_NoBlocks =>
      intro hS
      refine' Fv.sup_mk hS ?i_uNoBlocks ?ti_uNoBlocks ?l_uNoBlocks ?cU_uNoBlocks ?ce_uNoBlocks ?co_uNoBlocks ?v2_uNoBlocks ?fi_uNoBlocks ?ev_uNoBlocks ?up_uNoBlocks ?op_uNoBlocks ?tp_uNoBlocks
      (case i_uNoBlocks => k_is)
      (case ti_uNoBlocks => k_is)
      (case l_uNoBlocks => k_is)
      (case cU_uNoBlocks => k_is)
      (case ce_uNoBlocks => k_is)
      (case co_uNoBlocks => k_is)
      (case v2_uNoBlocks => rfl)
      (case fi_uNoBlocks => first | rfl | decide +kernel)
      (case ev_uNoBlocks => exact fun _ _ _ _ _ => ⟨_, rfl⟩)
      (case up_uNoBlocks => ks_is)
      (case op_uNoBlocks => k_is)
      (case tp_uNoBlocks => first | rfl | decide +kernel))
    (case U_NoLine =>
      intro hS
      refine' Fv.sup_mk hS ?i_uNoLine ?ti_uNoLine ?l_uNoLine ?cU_uNoLine ?ce_uNoLine ?co_uNoLine ?v2_uNoLine ?fi_uNoLine ?ev_uNoLine ?up_uNoLine ?op_uNoLine ?tp_uNoLine
      (case i_uNoLine => k_is)
      (case ti_uNoLine => k_is)
      (case l_uNoLine => k_is)
      (case cU_uNoLine => k_is)
      (case ce_uNoLine => k_is)
      (case co_uNoLine => k_is)
      (case v2_uNoLine => rfl)
      (case fi_uNoLine => first | rfl | decide +kernel)
      (case ev_uNoLine => exact fun _ _ _ _ _ => ⟨_, rfl⟩)
      (case up_uNoLine => ks_is)
      (case op_uNoLine => k_is)
      (case tp_uNoLine => first | rfl | decide +kernel))
    (case U_NoLines =>
      intro hS
      refine' Fv.sup_mk hS ?i_uNoLines ?ti_uNoLines ?l_uNoLines ?cU_uNoLines ?ce_uNoLines ?co_uNoLines ?v2_uNoLines ?fi_uNoLines ?ev_uNoLines ?up_uNoLines ?op_uNoLines ?tp_uNoLines
      (case i_uNoLines => k_is)
      (case ti_uNoLines => k_is)
      (case l_uNoLines => k_is)
      (case cU_uNoLines => k_is)
      (case ce_uNoLines => k_is)
      (case co_uNoLines => k_is)
      (case v2_uNoLines => rfl)
      (case fi_uNoLines => first | rfl | decide +kernel)
      (case ev_uNoLines => exact fun _ _ _ _ _ => ⟨_, rfl⟩)
      (case up_uNoLines => ks_is)
      (case op_uNoLines => k_is)
      (case tp_uNoLines => first | rfl | decide +kernel))
    (case U_NoChanges =>
      intro hS
      refine' Fv.sup_mk hS ?i_uNoChanges ?ti_uNoChanges ?l_uNoChanges ?cU_uNoChanges ?ce_uNoChanges ?co_uNoChanges ?v2_uNoChanges ?fi_uNoChanges ?ev_uNoChanges ?up_uNoChanges ?op_uNoChanges ?tp_uNoChanges
      (case i_uNoChanges => k_is)
      (case ti_uNoChanges => k_is)
      (case l_uNoChanges => k_is)
      (case cU_uNoChanges => k_is)
      (case ce_uNoChanges => k_is)
      (case co_uNoChanges => k_is)
      (case v2_uNoChanges => rfl)
      (case fi_uNoChanges => first | rfl | decide +kernel)
      (case ev_uNoChanges => exact fun _ _ _ _ _ => ⟨_, rfl⟩)
      (case up_uNoChanges => ks_is)
      (case op_uNoChanges => k_is)
      (case tp_uNoChanges => first | rfl | decide +kernel))
    (case U_UnderWay =>
      intro hS
      refine' Fv.sup_mk hS ?i_uUnderWay ?ti_uUnderWay ?l_uUnderWay ?cU_uUnderWay ?ce_uUnderWay ?co_uUnderWay ?v2_uUnderWay ?fi_uUnderWay ?ev_uUnderWay ?up_uUnderWay ?op_uUnderWay ?tp_uUnderWay
      (case i_uUnderWay => k_is)
      (case ti_uUnderWay => k_is)
      (case l_uUnderWay => k_is)
      (case cU_uUnderWay => k_is)
      (case ce_uUnderWay => k_is)
      (case co_uUnderWay => k_is)
      (case v2_uUnderWay => rfl)
      (case fi_uUnderWay => first | rfl | decide +kernel)
      (case ev_uUnderWay => exact fun _ _ _ _ _ => ⟨_, rfl⟩)
      (case up_uUnderWay => ks_is)
      (case op_uUnderWay => k_is)
      (case tp_uUnderWay => first | rfl | decide +kernel))
    (case U_NotUnderWay =>
      intro hS
      refine' Fv.sup_mk hS ?i_uNotUnderWay ?ti_uNotUnderWay ?l_uNotUnderWay ?cU_uNotUnderWay ?ce_uNotUnderWay ?co_uNotUnderWay ?v2_uNotUnderWay ?fi_uNotUnderWay ?ev_uNotUnderWay ?up_uNotUnderWay ?op_uNotUnderWay ?tp_uNotUnderWay
      (case i_uNotUnderWay => k_is)
      (case ti_uNotUnderWay => k_is)
      (case l_uNotUnderWay => k_is)
      (case cU_uNotUnderWay => k_is)
      (case ce_uNotUnderWay => k_is)
      (case co_uNotUnderWay => k_is)
      (case v2_uNotUnderWay => rfl)
      (case fi_uNotUnderWay => first | rfl | decide +kernel)
      (case ev_uNotUnderWay => exact fun _ _ _ _ _ => ⟨_, rfl⟩)
      (case up_uNotUnderWay => ks_is)
      (case op_uNotUnderWay => k_is)
      (case tp_uNotUnderWay => first | rfl | decide +kernel))
    (case t_BadTree =>
      k_is)
    (case o_BadTree =>
      k_is)
    (case t_BadPicture =>
      k_is)
    (case o_BadPicture =>
      k_is)
    (case t_TooMany =>
      k_is)
    (case o_TooMany =>
      k_is)
    (case t_BadWords =>
      k_is)
    (case o_BadWords =>
      k_is)
    (case t_BadHistory =>
      k_is)
    (case o_BadHistory =>
      k_is)
    (case t_RingTold =>
      k_is)
    (case o_RingTold =>
      k_is)
    (case t_NameTwice =>
      k_is)
    (case o_NameTwice =>
      k_is)
    (case t_BadBody =>
      k_is)
    (case o_BadBody =>
      k_is)
    (case t_NoPath =>
      k_is)
    (case o_NoPath =>
      k_is)
    (case t_NotThere =>
      k_is)
    (case o_NotThere =>
      k_is)
    (case t_NotFolder =>
      k_is)
    (case o_NotFolder =>
      k_is)
    (case t_NotFile =>
      k_is)
    (case o_NotFile =>
      k_is)
    (case t_TakenPath =>
      k_is)
    (case o_TakenPath =>
      k_is)
    (case t_NotEmpty =>
      k_is)
    (case o_NotEmpty =>
      k_is)
    (case t_BadText =>
      k_is)
    (case o_BadText =>
      k_is)
    (case t_BadBook =>
      k_is)
    (case o_BadBook =>
      k_is)
    (case t_NotKept =>
      k_is)
    (case o_NotKept =>
      k_is)
    (case n2 =>
      k_is)
    (case eV =>
      refine' ⟨?e1, ?e2, ?e3, ?e4, ?e5, ?e6, ?e7, ?e8⟩ <;> k_is)
    (case sV =>
      k_is)
    (case tV =>
      k_is)
    (case kV =>
      k_is)
    (case vV =>
      k_is)
    (case qV =>
      first | k_exc | k_is | rfl | decide +kernel)
    (case dis =>
      first | decide | decide +kernel)
