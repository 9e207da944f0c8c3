import PyProof.Rows.All
import Wide.All
import OpenK.AllK
import Wide.FinOn
import HandS.Base
import HandS.Call
import HandS.List
import HandS.Comp
import HandS.Ends
import HandS.Words
import HandS.Codes
import HandS.IsInst
import HandS.Flow
import HandS.Conv
import HandS.Iter
import KE.GoesEnum
import KE.GoesEnumKw
import KE.GoesMore
import HandS.Exc
import HandS.ExcOwn
import HandS.ExcInit
import HandS.TryOnly
import HandS.WordsExc
import KE.KExcIs
import HandS.ExcField
import HandS.ExcIs
import HandS.TupMul
import HandS.Sort
import KE.KExcSuper
import HandS.Small
import PyProof.TupleOfSeq
import HandS.TupAny
import HandS.Star
import HandS.SetFor
import PyProof.EqKinds
import PyProof.InstNe
import OpenK.KOwn
import KE.KIndexOf
import HandS.SortRule
import HandS.Dict
import HandS.WordsDict
import HandS.Zip
import PySem.Challenge.RW_foldervotes_k26_whole_costs_and_votes
import KE.OsRunLaw
set_option Elab.async false
set_option linter.all false
set_option maxRecDepth 100000
set_option maxHeartbeats 4000000
namespace Fv
open PySem PySem.Spec PyProof.Rows L2
section
variable {K : PySem.W.Frag} {σ : L2.St} {H H' H1 H2 : Hp} {i : Nat} {v x y : V} {Q : VK} {D : Ends} {t u : TS} {te ta tb : TE} {tt tt2 : TT} {a b p q : Addr} {o o' : HO} {xs ys : List V}
theorem x_seq (h : t { D with nx := u D } σ H) : tSeq t u D σ H := h
theorem x_next (h : D.nx σ H) : tNext D σ H := h
theorem x_drop (h : te σ H fun _ H1 => D.nx σ H1) : tDrop te D σ H := h
theorem x_ret (h : te σ H D.rt) : tRet te D σ H := h
theorem x_retN (h : D.rt .non H) : tRetN D σ H := h
theorem x_ifs (h : tt σ H fun b H1 => if b = true then t D σ H1 else u D σ H1) : tIfS tt t u D σ H := h
theorem x_asg {g : TG} (h : te σ H fun x H1 => g x σ H1 D.nx) : tAsg te g D σ H := h
theorem x_gname {R : L2.St → Hp → Prop} (h : R (σ.set i (some v)) H) : gName i v σ H R := h
theorem x_gsub {to ti : TE} {s : TSet} {R : L2.St → Hp → Prop} (h : to σ H fun o H1 => ti σ H1 fun i H2 => s o i v H2 fun H3 => R σ H3) : gSub to ti s v σ H R := h
theorem x_gtup {n : Nat} {g : TGs} {R : L2.St → Hp → Prop} (h : SqT K H a xs) (hl : xs.length = n) (q : g xs σ H R) : gTup K n g (.ref a) σ H R := ⟨a, xs, rfl, h, hl, q⟩
theorem x_gcons {g : TG} {gs : TGs} {R : L2.St → Hp → Prop} (h : g x σ H fun σ' H' => gs xs σ' H' R) : gCons g gs (x :: xs) σ H R := ⟨x, xs, rfl, h⟩
theorem x_gnil {R : L2.St → Hp → Prop} (h : R σ H) : gNil [] σ H R := ⟨rfl, h⟩
theorem x_var (h : σ[i]? = some (some v)) (q : Q v H) : tVar i σ H Q := ⟨v, h, q⟩
theorem x_c (q : Q v H) : tC v σ H Q := q
theorem x_op {r : R2} (h : ta σ H fun x H1 => tb σ H1 fun y H2 => r x y H2 Q) : tOp r ta tb σ H Q := h
theorem x_un {r : V → Hp → VK → Prop} (h : ta σ H fun x H1 => r x H1 Q) : tUn r ta σ H Q := h
theorem x_i0 {g : Int → Int → V} {i j : Int} (q : Q (g i j) H) : rI0 g (.int i) (.int j) H Q := ⟨i, j, rfl, rfl, q⟩
theorem x_i {C : Int → Int → Prop} {g : Int → Int → V} {i j : Int} (c : C i j) (q : Q (g i j) H) : rI C g (.int i) (.int j) H Q := ⟨i, j, rfl, rfl, c, q⟩
theorem x_u {g : Int → V} {i : Int} (q : Q (g i) H) : rU g (.int i) H Q := ⟨i, rfl, q⟩
theorem x_eq (h : scal x y = true) (q : Q (.bl (decide (x = y))) H) : rEq x y H Q := ⟨h, q⟩
theorem x_ne (h : scal x y = true) (q : Q (.bl (!decide (x = y))) H) : rNe x y H Q := ⟨h, q⟩
theorem x_eqI {i j : Int} (q : Q (.bl (decide (i = j))) H) : rEq (.int i) (.int j) H Q := ⟨rfl, by
  have e : decide (V.int i = V.int j) = decide (i = j) := by
    rw [Bool.eq_iff_iff]
    simp
  rw [e]
  exact q⟩
theorem x_neI {i j : Int} (q : Q (.bl (decide (i ≠ j))) H) : rNe (.int i) (.int j) H Q := ⟨rfl, by
  have e : (!decide (V.int i = V.int j)) = decide (i ≠ j) := by
    rw [Bool.eq_iff_iff]
    simp
  rw [e]
  exact q⟩
theorem x_ixL {i : Int} (h : SqL K H p xs) (ha : atI xs i = some v) (q : Q v H) : rIxL K (.ref p) (.int i) H Q := ⟨p, xs, i, v, rfl, rfl, h, ha, q⟩
theorem x_ixT {i : Int} (h : SqT K H p xs) (ha : atI xs i = some v) (q : Q v H) : rIxT K (.ref p) (.int i) H Q := ⟨p, xs, i, v, rfl, rfl, h, ha, q⟩
theorem x_setL {i : Int} {j : Nat} {R : Hp → Prop} (h : H p = some (.lst xs)) (hi : ixN xs.length i = some j) (q : R (upd H p (.lst (xs.set j v)))) : rSetL (.ref p) (.int i) v H R := ⟨p, xs, i, j, rfl, rfl, h, hi, q⟩
theorem x_test {R : Bool → Hp → Prop} (h : te σ H fun x H' => ∃ k, x = .bl k ∧ R k H') : tTest te σ H R := h
theorem x_b {R : Bool → Hp → Prop} (h : te σ H fun x H1 => ∃ c, x = .bl c ∧ R c H1) : tB te σ H R := h
theorem x_isb {c : Bool} {R : Bool → Prop} (h : R c) : ∃ k, V.bl c = .bl k ∧ R k := ⟨c, rfl, h⟩
theorem x_isi {c : Int} {R : Int → Prop} (h : R c) : ∃ k, V.int c = .int k ∧ R k := ⟨c, rfl, h⟩
theorem x_and {R : Bool → Hp → Prop} (h : tt σ H fun c H1 => if c = true then tt2 σ H1 R else R false H1) : tAnd tt tt2 σ H R := h
theorem x_or {R : Bool → Hp → Prop} (h : tt σ H fun c H1 => if c = true then R true H1 else tt2 σ H1 R) : tOr tt tt2 σ H R := h
theorem x_not {R : Bool → Hp → Prop} (h : tt σ H fun c H1 => R (!c) H1) : tNot tt σ H R := h
theorem x_andV (h : ta σ H fun x H1 => ∃ c, x = .bl c ∧ if c = true then tb σ H1 Q else Q (.bl false) H1) : tAndV ta tb σ H Q := h
theorem x_orV (h : ta σ H fun x H1 => ∃ c, x = .bl c ∧ if c = true then Q (.bl true) H1 else tb σ H1 Q) : tOrV ta tb σ H Q := h
theorem x_notV (h : ta σ H fun x H1 => ∃ c, x = .bl c ∧ Q (.bl (!c)) H1) : tNotV ta σ H Q := h
theorem x_ifx (h : tt σ H fun c H1 => if c = true then ta σ H1 Q else tb σ H1 Q) : tIf tt ta tb σ H Q := h
theorem x_nil {R : List V → Hp → Prop} (q : R [] H) : tNil σ H R := q
theorem x_cons {tr : TA} {R : List V → Hp → Prop} (h : te σ H fun x H1 => tr σ H1 fun xs H2 => R (x :: xs) H2) : tCons te tr σ H R := h
theorem x_cb {r : List V → Hp → VK → Prop} {ts : TA} (h : ts σ H fun vs H1 => r vs H1 Q) : tCB r ts σ H Q := h
theorem x_call {sp : Sp} {dvs : List V} {E : XK} {ts : TA} (h : ts σ H fun vs H1 => sp (vs ++ dvs) H1 Q E) : tCall sp dvs E ts σ H Q := h
theorem x_lst {ts : TA} (h : ts σ H fun xs H1 => xs.length ≤ sizeLine ∧ ∀ p, H1 p = none → Q (.ref p) (upd H1 p (.lst xs))) : tLst ts σ H Q := h
theorem x_tup {ts : TA} (h : ts σ H fun xs H1 => xs.length ≤ sizeLine ∧ ∀ p, H1 p = none → Q (.ref p) (upd H1 p (.tup xs))) : tTup ts σ H Q := h
theorem x_sl {r : V → Option Int → Option Int → Hp → VK → Prop} {tl th : TO} (h : te σ H fun x H1 => tl σ H1 fun l H2 => th σ H2 fun u H3 => r x l u H3 Q) : tSl r te tl th σ H Q := h
theorem x_nopart {R : Option Int → Hp → Prop} (h : R none H) : tNoPart σ H R := h
theorem x_part {R : Option Int → Hp → Prop} (h : te σ H fun x H1 => ∃ i, x = .int i ∧ R (some i) H1) : tPart te σ H R := h
theorem x_slL {lo hi : Option Int} (h : SqL K H a xs) (q : ∀ p, H p = none → Q (.ref p) (upd H p (.lst (cutV xs lo hi)))) : rSlL K (.ref a) lo hi H Q := ⟨a, xs, rfl, h, q⟩
theorem x_bm {T : String} {r : V → List V → Hp → VK → Prop} {ts : TA} (h : te σ H fun x H1 => tyV K T x H1 ∧ ts σ H1 fun xs H2 => r x xs H2 Q) : tBM K T r te ts σ H Q := h
theorem x_bm0 {T : String} {r : V → List V → Hp → VK → Prop} (h : te σ H fun x H1 => tyV K T x H1 ∧ r x [] H1 Q) : tBM0 K T r te σ H Q := h
theorem x_append (h : H p = some (.lst xs)) (hl : xs.length < sizeLine) (q : Q .non (upd H p (.lst (xs ++ [v])))) : rAppend (.ref p) [v] H Q := ⟨p, xs, v, rfl, rfl, h, hl, q⟩
theorem x_fld {C dx : Addr} {fs : List (Str × V)} {f : Str} (h : te σ H fun x H1 => ∃ a C dx fs v, x = .ref a ∧ H1 a = some (.ins C dx fs) ∧ Cls K C ∧ NoAttr K C f ∧ fs.lookup f = some v ∧ Q v H1) : tFld K te f σ H Q := h
theorem x_par {j : Nat} {ts : TA} (h : ts σ H fun vs H1 => ∃ v w, vs = [v, w] ∧ D.nx ((σ.set i (some v)).set j (some w)) H1) : tPar i j ts D σ H := h
theorem x_par2 {R : V → V → Prop} (h : R x y) : ∃ v w, [x, y] = [v, w] ∧ R v w := ⟨x, y, rfl, h⟩
theorem x_chain {r r' : R2} {tc : TE} (h : ta σ H fun x H1 => tb σ H1 fun y H2 => r x y H2 fun z H3 => ∃ k, z = .bl k ∧ (if k = true then tc σ H3 fun w' H4 => r' y w' H4 Q else Q (.bl false) H3)) : tChain r r' ta tb tc σ H Q := h
theorem x_aug {ti : TIp} (h : σ[i]? = some (some x)) (q : te σ H fun y H1 => ti x y H1 fun z H2 => D.nx (σ.set i (some z)) H2) : tAug i te ti D σ H := ⟨x, h, q⟩
theorem x_ipI {f : Int → Int → Int} {i j : Int} (q : Q (.int (f i j)) H) : ipI f (.int i) (.int j) H Q := ⟨i, j, rfl, rfl, q⟩
theorem x_ilist {R : It → Hp → Prop} {tl : TE} (h : tl σ H fun x H1 => ∃ a, x = .ref a ∧ (∃ xs, SqL K H1 a xs) ∧ R (Itl K a) H1) : iList K tl σ H R := h
theorem x_itup {R : It → Hp → Prop} {tl : TE} (h : tl σ H fun x H1 => ∃ a, x = .ref a ∧ (∃ xs, SqT K H1 a xs) ∧ R (Itt K a) H1) : iTup K tl σ H R := h
theorem x_isseq {A : List V → Prop} {R : Addr → Prop} (h : A xs) (q : R a) : ∃ b, V.ref a = .ref b ∧ (∃ xs, A xs) ∧ R b := ⟨a, rfl, ⟨xs, h⟩, q⟩
theorem x_rng1 {R : It → Hp → Prop} {ts : TA} (h : ts σ H fun vs H1 => ∃ j : Int, vs = [.int j] ∧ -(2 ^ 62) ≤ j ∧ j < 2 ^ 62 ∧ R (Itr 0 j.toNat) H1) : iRng1 ts σ H R := h
theorem x_rng2 {R : It → Hp → Prop} {ts : TA} (h : ts σ H fun vs H1 => ∃ i j : Int, vs = [.int i, .int j] ∧ (-(2 ^ 62) ≤ i ∧ i < 2 ^ 62 ∧ -(2 ^ 62) ≤ j ∧ j < 2 ^ 62) ∧ R (Itr i (j - i).toNat) H1) : iRng2 ts σ H R := h
theorem x_is1 {j : Int} {P1 P2 : Int → Prop} {R : Int → Prop} (h1 : P1 j) (h2 : P2 j) (q : R j) : ∃ k : Int, [V.int j] = [.int k] ∧ P1 k ∧ P2 k ∧ R k := ⟨j, rfl, h1, h2, q⟩
theorem x_is2 {i j : Int} {P1 : Int → Int → Prop} {R : Int → Int → Prop} (h1 : P1 i j) (q : R i j) : ∃ k l : Int, [V.int i, V.int j] = [.int k, .int l] ∧ P1 k l ∧ R k l := ⟨i, j, rfl, h1, q⟩
theorem x_yes {R : Bool → Hp → Prop} (h : R true H) : tYes σ H R := h
def rLen (K : PySem.W.Frag) : List V → Hp → VK → Prop := fun xs H Q => ∃ p ys, xs = [.ref p] ∧ (SqL K H p ys ∨ SqT K H p ys) ∧ Q (.int ys.length) H
def rInt : List V → Hp → VK → Prop := fun xs H Q => (∃ i, xs = [.int i] ∧ Q (.int i) H) ∨ ∃ k, xs = [.bl k] ∧ Q (.int (if k then 1 else 0)) H
def rAbs : List V → Hp → VK → Prop := fun xs H Q => ∃ i, xs = [.int i] ∧ Q (.int (if i < 0 then -i else i)) H
def rListOf (K : PySem.W.Frag) : List V → Hp → VK → Prop := fun xs H Q => ∃ p ys, xs = [.ref p] ∧ (SqL K H p ys ∨ SqT K H p ys) ∧ ∀ l, H l = none → Q (.ref l) (upd H l (.lst ys))
def rTupOf (K : PySem.W.Frag) : List V → Hp → VK → Prop := fun xs H Q => ∃ p ys, xs = [.ref p] ∧ ((SqL K H p ys ∧ ∀ l, H l = none → Q (.ref l) (upd H l (.tup ys))) ∨ (SqT K H p ys ∧ Q (.ref p) H))
theorem call_len {X : Cx} : CallR X (.builtin "len") (rLen X.K) := call_len_seq
theorem call_int {X : Cx} : CallR X (.type "int") rInt := call_int1
theorem call_ab {X : Cx} : CallR X (.builtin "abs") rAbs := call_abs
theorem call_lst {X : Cx} : CallR X (.type "list") (rListOf X.K) := call_list_of
theorem call_tpl {X : Cx} : CallR X (.type "tuple") (rTupOf X.K) := call_tuple_of
theorem x_lenL (h : SqL K H p xs) (q : Q (.int xs.length) H) : rLen K [.ref p] H Q := ⟨p, xs, rfl, .inl h, q⟩
theorem x_lenT (h : SqT K H p xs) (q : Q (.int xs.length) H) : rLen K [.ref p] H Q := ⟨p, xs, rfl, .inr h, q⟩
theorem x_int1 {j : Int} (q : Q (.int j) H) : rInt [.int j] H Q := .inl ⟨j, rfl, q⟩
theorem x_abs {j : Int} (q : Q (.int (if j < 0 then -j else j)) H) : rAbs [.int j] H Q := ⟨j, rfl, q⟩
theorem x_listL (h : SqL K H p xs) (q : ∀ l, H l = none → Q (.ref l) (upd H l (.lst xs))) : rListOf K [.ref p] H Q := ⟨p, xs, rfl, .inl h, q⟩
theorem x_listT (h : SqT K H p xs) (q : ∀ l, H l = none → Q (.ref l) (upd H l (.lst xs))) : rListOf K [.ref p] H Q := ⟨p, xs, rfl, .inr h, q⟩
theorem x_tupL (h : SqL K H p xs) (q : ∀ l, H l = none → Q (.ref l) (upd H l (.tup xs))) : rTupOf K [.ref p] H Q := ⟨p, xs, rfl, .inl ⟨h, q⟩⟩
theorem x_tupT (h : SqT K H p xs) (q : Q (.ref p) H) : rTupOf K [.ref p] H Q := ⟨p, xs, rfl, .inr ⟨h, q⟩⟩
theorem x_isd {c : Prop} [Decidable c] {A B : Prop} (h1 : c → A) (h2 : ¬ c → B) : if decide c = true then A else B := by
  by_cases h : c
  · rw [if_pos (decide_eq_true h)]
    exact h1 h
  · rw [if_neg (by rw [decide_eq_false h]; exact Bool.false_ne_true)]
    exact h2 h
theorem x_isdT {c : Prop} [Decidable c] {A B : Prop} (h : c) (h1 : A) : if decide c = true then A else B := x_isd (fun _ => h1) fun n => (n h).elim
theorem x_isdF {c : Prop} [Decidable c] {A B : Prop} (h : ¬ c) (h1 : B) : if decide c = true then A else B := x_isd (fun n => (h n).elim) fun _ => h1
theorem x_nF {A B : Prop} (h : A) : if (!false) = true then A else B := iteT h
theorem x_nT {A B : Prop} (h : B) : if (!true) = true then A else B := iteF h
theorem lp_range {g : TG} {tb : TS} {nx : L2.St → Hp → Prop} {rt : VK} {σ : L2.St} {H : Hp} {lo : Int} {n : Nat} (Pv : Nat → L2.St → Hp → Prop) (h0 : Pv 0 σ H) (hs : ∀ i σ H, i < n → Pv i σ H → g (.int (lo + i)) σ H fun σ2 H2 => tb { nx := Pv (i + 1), rt := rt, bk := nx, ct := Pv (i + 1) } σ2 H2) (hd : ∀ σ H, Pv n σ H → nx σ H) :
    ∃ W : Nat → Nat → L2.St → Hp → Prop, (∃ m, W 0 m σ H) ∧ ∀ i m σ H, W i m σ H → ((Itr lo n).stop i H ∧ nx σ H) ∨ ((Itr lo n).go i H ∧ ∃ N : L2.St → Hp → Prop, (∀ σ' H', N σ' H' → ∃ m', m' < m ∧ W (i + 1) m' σ' H') ∧ ∀ x H', (Itr lo n).yld i H x H' → g x σ H' fun σ2 H2 => tb { nx := N, rt := rt, bk := nx, ct := N } σ2 H2) :=
  for_range (D := { nx := nx, rt := rt}) Pv h0 hs hd
theorem lp_list {g : TG} {tb : TS} {nx : L2.St → Hp → Prop} {rt : VK} {σ : L2.St} {H : Hp} {K : PySem.W.Frag} {a : Addr} {xs : List V} (Pv : Nat → L2.St → Hp → Prop) (h0 : Pv 0 σ H) (hl : ∀ i σ H, i ≤ xs.length → Pv i σ H → SqL K H a xs) (hs : ∀ i x σ H, xs[i]? = some x → Pv i σ H → g x σ H fun σ2 H2 => tb { nx := Pv (i + 1), rt := rt, bk := nx, ct := Pv (i + 1) } σ2 H2) (hd : ∀ σ H, Pv xs.length σ H → nx σ H) :
    ∃ W : Nat → Nat → L2.St → Hp → Prop, (∃ m, W 0 m σ H) ∧ ∀ i m σ H, W i m σ H → ((Itl K a).stop i H ∧ nx σ H) ∨ ((Itl K a).go i H ∧ ∃ N : L2.St → Hp → Prop, (∀ σ' H', N σ' H' → ∃ m', m' < m ∧ W (i + 1) m' σ' H') ∧ ∀ x H', (Itl K a).yld i H x H' → g x σ H' fun σ2 H2 => tb { nx := N, rt := rt, bk := nx, ct := N } σ2 H2) :=
  for_list (D := { nx := nx, rt := rt}) Pv h0 hl hs hd
theorem lp_tup {g : TG} {tb : TS} {nx : L2.St → Hp → Prop} {rt : VK} {σ : L2.St} {H : Hp} {K : PySem.W.Frag} {a : Addr} {xs : List V} (Pv : Nat → L2.St → Hp → Prop) (h0 : Pv 0 σ H) (hl : ∀ i σ H, i ≤ xs.length → Pv i σ H → SqT K H a xs) (hs : ∀ i x σ H, xs[i]? = some x → Pv i σ H → g x σ H fun σ2 H2 => tb { nx := Pv (i + 1), rt := rt, bk := nx, ct := Pv (i + 1) } σ2 H2) (hd : ∀ σ H, Pv xs.length σ H → nx σ H) :
    ∃ W : Nat → Nat → L2.St → Hp → Prop, (∃ m, W 0 m σ H) ∧ ∀ i m σ H, W i m σ H → ((Itt K a).stop i H ∧ nx σ H) ∨ ((Itt K a).go i H ∧ ∃ N : L2.St → Hp → Prop, (∀ σ' H', N σ' H' → ∃ m', m' < m ∧ W (i + 1) m' σ' H') ∧ ∀ x H', (Itt K a).yld i H x H' → g x σ H' fun σ2 H2 => tb { nx := N, rt := rt, bk := nx, ct := N } σ2 H2) :=
  for_tup (D := { nx := nx, rt := rt}) Pv h0 hl hs hd
/-! heaps -/
theorem keepN (h : H a = some o) (hp : H p = none) : upd H p o' a = some o := by
  rw [upd_ne (ne_of_none h hp)]
  exact h
theorem keepM (n : a ≠ p) (h : H a = some o) : upd H p o' a = some o := by
  rw [upd_ne n]
  exact h
theorem keepLM (n : a ≠ p) (h : SqL K H a xs) : SqL K (upd H p o') a xs := by
  rcases h with (h | ⟨u, h⟩) | h
  · exact .inl (.inl (keepM n h))
  · exact .inl (.inr ⟨u, keepM n h⟩)
  · exact .inr h
theorem keepLN (h : SqL K H a xs) (hp : H p = none) : SqL K (upd H p o') a xs := by
  rcases h with (h | ⟨u, h⟩) | h
  · exact .inl (.inl (keepN h hp))
  · exact .inl (.inr ⟨u, keepN h hp⟩)
  · exact .inr h
theorem keepTM (n : a ≠ p) (h : SqT K H a xs) : SqT K (upd H p o') a xs := by
  rcases h with (h | ⟨u, h⟩) | h
  · exact .inl (.inl (keepM n h))
  · exact .inl (.inr ⟨u, keepM n h⟩)
  · exact .inr h
theorem keepTN (h : SqT K H a xs) (hp : H p = none) : SqT K (upd H p o') a xs := by
  rcases h with (h | ⟨u, h⟩) | h
  · exact .inl (.inl (keepN h hp))
  · exact .inl (.inr ⟨u, keepN h hp⟩)
  · exact .inr h
theorem _root_.L2.Same.seqT {K : PySem.W.Frag} {H H' : Hp} {a : Addr} {xs : List V} (e : Same H H') (h : SqT K H a xs) : SqT K H' a xs := by
  rcases h with (h | ⟨o, h⟩) | h
  · exact .inl (.inl (e _ _ h))
  · exact .inl (.inr ⟨o, e _ _ h⟩)
  · exact .inr h
theorem same_new (s : Same H H1) (hp : H1 p = none) : Same H (upd H1 p o) := fun b u e => keepN (s b u e) hp
theorem same_mut (s : Same H H1) (hp : H p = none) : Same H (upd H1 p o) := fun b u e => keepM (ne_of_none e hp) (s b u e)
/-- all but what stands at p is as it was -/
def But (p : Addr) (H H' : Hp) : Prop := ∀ b o, b ≠ p → H b = some o → H' b = some o
theorem But.refl (p : Addr) (H : Hp) : But p H H := fun _ _ _ h => h
theorem But.trans (a : But p H H1) (b : But p H1 H2) : But p H H2 := fun c o n h => b c o n (a c o n h)
theorem But.of (s : Same H H1) : But p H H1 := fun b o _ h => s b o h
theorem But.new (s : But p H H1) (hq : H1 q = none) : But p H (upd H1 q o) := fun b u n e => keepN (s b u n e) hq
theorem But.mut (s : But p H H1) : But p H (upd H1 p o) := fun b u n e => keepM n (s b u n e)
theorem But.mutF (s : But p H H1) (hq : H q = none) : But p H (upd H1 q o) := fun b u n e => keepM (ne_of_none e hq) (s b u n e)
theorem But.seq (s : But p H H1) (n : a ≠ p) (h : SqL K H a xs) : SqL K H1 a xs := by
  rcases h with (h | ⟨o, h⟩) | h
  · exact .inl (.inl (s _ _ n h))
  · exact .inl (.inr ⟨o, s _ _ n h⟩)
  · exact .inr h
theorem But.seqT (s : But p H H1) (n : a ≠ p) (h : SqT K H a xs) : SqT K H1 a xs := by
  rcases h with (h | ⟨o, h⟩) | h
  · exact .inl (.inl (s _ _ n h))
  · exact .inl (.inr ⟨o, s _ _ n h⟩)
  · exact .inr h
theorem But.same (s : But p H H1) (hp : H p = none) : Same H H1 := fun b o e => s b o (ne_of_none e hp) e
end
theorem same_trans {H H1 H2 : Hp} (b : Same H1 H2) (a : Same H H1) : Same H H2 := Same.trans a b
theorem but_trans {H H1 H2 : Hp} {p : Addr} (b : But p H1 H2) (a : But p H H1) : But p H H2 := But.trans a b
theorem ne_none' {H : Hp} {a b : Addr} {o : HO} (h' : H b = none) (h : H a = some o) : b ≠ a := Ne.symm (ne_of_none h h')
theorem cut1 (xs : List V) : cutV xs (some 1) none = xs.drop 1 := by
  unfold cutV
  rw [show HT.sIx xs.length 0 (some 1) = min 1 xs.length from HT.sIx_nat xs.length 0 1, HT.sIx_none]
  cases xs with
  | nil => rfl
  | cons x r =>
    rw [show min 1 (x :: r).length = 1 by
      rw [List.length_cons]
      omega]
    show (List.take ((x :: r).length - 1) r) = r
    rw [List.length_cons, Nat.add_sub_cancel]
    exact List.take_length
theorem at_mod {xs : List V} {z : Int} (h : 0 < xs.length) : ∃ v, atI xs (z % (xs.length : Int)) = some v ∧ v ∈ xs := by
  have h1 : 0 ≤ z % (xs.length : Int) := Int.emod_nonneg _ (by omega)
  have h2 : z % (xs.length : Int) < xs.length := Int.emod_lt_of_pos _ (by omega)
  obtain ⟨j, hj⟩ := Int.eq_ofNat_of_zero_le h1
  have hl : j < xs.length := by omega
  refine ⟨xs[j], ?_, List.getElem_mem hl⟩
  rw [hj]
  exact atI_nat (List.getElem?_eq_getElem hl)
theorem at_lt {xs : List V} {d : Int} (h1 : 0 ≤ d) (h2 : d < xs.length) : ∃ v, atI xs d = some v ∧ v ∈ xs := by
  obtain ⟨j, hj⟩ := Int.eq_ofNat_of_zero_le h1
  have hl : j < xs.length := by omega
  refine ⟨xs[j], ?_, List.getElem_mem hl⟩
  rw [hj]
  exact atI_nat (List.getElem?_eq_getElem hl)
/-- a def that is called by its name -/
structure Cal (K : PySem.W.Frag) (mg : Str → Option Value) (x : Str) (f : Addr) (fd : FuncData) (ps : List Str) : Prop where
  g : mg x = some (.ref f)
  k : PySem.W.keepIn K (.ref f) = true
  b : Binds K fd ps []
theorem szLe {n : Nat} (h : n ≤ 100000) : n ≤ sizeLine := Nat.le_trans h (by decide)
theorem szLt {n : Nat} (h : n < 100000) : n < sizeLine := Nat.lt_of_lt_of_le h (by decide)
end Fv
set_option maxRecDepth 100000
set_option maxHeartbeats 1000000
namespace Fv
open PySem PySem.Spec L2
/-- a value of a kind that is known -/
def Kn (H : Hp) : V → Prop
  | .non => True
  | .bl _ => True
  | .int _ => True
  | .str _ => True
  | .ref a => (∃ xs, H a = some (.lst xs)) ∨ (∃ xs, H a = some (.tup xs)) ∨ ∃ kvs, H a = some (.dK kvs)
  | _ => False
theorem Kn.same {H H' : Hp} {x : V} (s : Same H H') (h : Kn H x) : Kn H' x := by
  cases x with
  | ref a =>
    rcases h with ⟨xs, h⟩ | ⟨xs, h⟩ | ⟨xs, h⟩
    · exact .inl ⟨xs, s _ _ h⟩
    · exact .inr (.inl ⟨xs, s _ _ h⟩)
    · exact .inr (.inr ⟨xs, s _ _ h⟩)
  | _ => exact h
theorem Kn.but {H H' : Hp} {p : Addr} {x : V} (s : But p H H') (hp : x ≠ .ref p) (h : Kn H x) : Kn H' x := by
  cases x with
  | ref a =>
    have n : a ≠ p := fun e => hp (by rw [e])
    rcases h with ⟨xs, h⟩ | ⟨xs, h⟩ | ⟨xs, h⟩
    · exact .inl ⟨xs, s _ _ n h⟩
    · exact .inr (.inl ⟨xs, s _ _ n h⟩)
    · exact .inr (.inr ⟨xs, s _ _ n h⟩)
  | _ => exact h
def isIntV : V → Bool
  | .int _ => true
  | .bl _ => true
  | _ => false
def isBlV : V → Bool
  | .bl _ => true
  | _ => false
def numV (lo hi : Int) : V → Bool
  | .int i => decide (lo ≤ i) && decide (i ≤ hi)
  | _ => false
theorem numT {lo hi i : Int} (c : lo ≤ i) : numV lo hi (.int i) = decide (i ≤ hi) := by
  show (decide (lo ≤ i) && decide (i ≤ hi)) = _
  rw [decide_eq_true c]
  rfl
theorem numF {lo hi i : Int} (c : ¬ lo ≤ i) : numV lo hi (.int i) = false := by
  show (decide (lo ≤ i) && decide (i ≤ hi)) = _
  rw [decide_eq_false c]
  rfl
section
variable {K : PySem.W.Frag} {σ : L2.St} {H H' H1 H2 : Hp} {i : Nat} {v x y : V} {Q : VK} {a b p q : Addr} {o o' : HO} {xs ys : List V}
theorem x_isK {T : String} {t : String} {b : Bool} (ty : TyX K H x (.type t)) (e : kitB t T = some b) (q : Q (.bl b) H) : rIsi K [x, .ty T] H Q := ⟨x, .ty T, .type t, .type T, b, rfl, .ty T, ty, kit_ty e, q⟩
theorem x_isInt (h : Kn H x) (q : Q (.bl (isIntV x)) H) : rIsi K [x, .ty "int"] H Q := by
  cases x with
  | non => exact x_isK (b := false) (.base .non) (by decide +kernel) q
  | bl b => exact x_isK (b := true) (.base (.bl b)) (by decide +kernel) q
  | int i => exact x_isK (b := true) (.base (.int i)) (by decide +kernel) q
  | str i => exact x_isK (b := false) (.base (.str i)) (by decide +kernel) q
  | byt b => exact h.elim
  | flt b => exact h.elim
  | ty b => exact h.elim
  | ref a =>
    rcases h with ⟨xs, h⟩ | ⟨xs, h⟩ | ⟨xs, h⟩
    · exact x_isK (b := false) (.base (.lst h)) (by decide +kernel) q
    · exact x_isK (b := false) (.base (.tup h)) (by decide +kernel) q
    · exact x_isK (b := false) (.base (.dK h)) (by decide +kernel) q
theorem x_isBl (h : Kn H x) (q : Q (.bl (isBlV x)) H) : rIsi K [x, .ty "bool"] H Q := by
  cases x with
  | non => exact x_isK (b := false) (.base .non) (by decide +kernel) q
  | bl b => exact x_isK (b := true) (.base (.bl b)) (by decide +kernel) q
  | int i => exact x_isK (b := false) (.base (.int i)) (by decide +kernel) q
  | str i => exact x_isK (b := false) (.base (.str i)) (by decide +kernel) q
  | byt b => exact h.elim
  | flt b => exact h.elim
  | ty b => exact h.elim
  | ref a =>
    rcases h with ⟨xs, h⟩ | ⟨xs, h⟩ | ⟨xs, h⟩
    · exact x_isK (b := false) (.base (.lst h)) (by decide +kernel) q
    · exact x_isK (b := false) (.base (.tup h)) (by decide +kernel) q
    · exact x_isK (b := false) (.base (.dK h)) (by decide +kernel) q
/-- isinstance(x, (T1, T2)), the pair just laid -/
theorem x_isiT2 {T1 T2 t : String} {b1 b2 : Bool} (hp : H p = some (.tup [.ty T1, .ty T2])) (ty : TyX K H x (.type t)) (e1 : kitB t T1 = some b1) (e2 : kitB t T2 = some b2) (q : Q (.bl (b1 || b2)) H) : rIsiT K [x, .ref p] H Q := by
  refine ⟨x, p, [.ty T1, .ty T2], .type t, [.type T1, .type T2], b1 || b2, rfl, hp, .cons (.ty _) (.cons (.ty _) .nil), ty, ?_, q⟩
  cases b1 with
  | true => exact kitAny_cons (kit_ty e1) (fun h => nomatch h) (fun _ => rfl)
  | false =>
    refine kitAny_cons (kit_ty e1) (fun _ => ?_) (fun h => nomatch h)
    cases b2 with
    | true => exact kitAny_cons (kit_ty e2) (fun h => nomatch h) (fun _ => rfl)
    | false => exact kitAny_cons (kit_ty e2) (fun _ => kitAny_nil) (fun h => nomatch h)
end
section
variable {K : PySem.W.Frag} {H : Hp} {Q : VK} {a : Addr} {xs : List V}
theorem isi_non_int (q : Q (.bl false) H) : rIsi K [.non, .ty "int"] H Q := x_isK (b := false) (.base .non) (by decide +kernel) q
theorem isi_non_bool (q : Q (.bl false) H) : rIsi K [.non, .ty "bool"] H Q := x_isK (b := false) (.base .non) (by decide +kernel) q
theorem isi_non_tuple (q : Q (.bl false) H) : rIsi K [.non, .ty "tuple"] H Q := x_isK (b := false) (.base .non) (by decide +kernel) q
theorem isi_non_list (q : Q (.bl false) H) : rIsi K [.non, .ty "list"] H Q := x_isK (b := false) (.base .non) (by decide +kernel) q
theorem isi_non_dict (q : Q (.bl false) H) : rIsi K [.non, .ty "dict"] H Q := x_isK (b := false) (.base .non) (by decide +kernel) q
theorem isi_non_str (q : Q (.bl false) H) : rIsi K [.non, .ty "str"] H Q := x_isK (b := false) (.base .non) (by decide +kernel) q
theorem isi_bl_int {c : Bool} (q : Q (.bl true) H) : rIsi K [.bl c, .ty "int"] H Q := x_isK (b := true) (.base (.bl c)) (by decide +kernel) q
theorem isi_bl_bool {c : Bool} (q : Q (.bl true) H) : rIsi K [.bl c, .ty "bool"] H Q := x_isK (b := true) (.base (.bl c)) (by decide +kernel) q
theorem isi_bl_tuple {c : Bool} (q : Q (.bl false) H) : rIsi K [.bl c, .ty "tuple"] H Q := x_isK (b := false) (.base (.bl c)) (by decide +kernel) q
theorem isi_bl_list {c : Bool} (q : Q (.bl false) H) : rIsi K [.bl c, .ty "list"] H Q := x_isK (b := false) (.base (.bl c)) (by decide +kernel) q
theorem isi_bl_dict {c : Bool} (q : Q (.bl false) H) : rIsi K [.bl c, .ty "dict"] H Q := x_isK (b := false) (.base (.bl c)) (by decide +kernel) q
theorem isi_bl_str {c : Bool} (q : Q (.bl false) H) : rIsi K [.bl c, .ty "str"] H Q := x_isK (b := false) (.base (.bl c)) (by decide +kernel) q
theorem isi_int_int {j : Int} (q : Q (.bl true) H) : rIsi K [.int j, .ty "int"] H Q := x_isK (b := true) (.base (.int j)) (by decide +kernel) q
theorem isi_int_bool {j : Int} (q : Q (.bl false) H) : rIsi K [.int j, .ty "bool"] H Q := x_isK (b := false) (.base (.int j)) (by decide +kernel) q
theorem isi_int_tuple {j : Int} (q : Q (.bl false) H) : rIsi K [.int j, .ty "tuple"] H Q := x_isK (b := false) (.base (.int j)) (by decide +kernel) q
theorem isi_int_list {j : Int} (q : Q (.bl false) H) : rIsi K [.int j, .ty "list"] H Q := x_isK (b := false) (.base (.int j)) (by decide +kernel) q
theorem isi_int_dict {j : Int} (q : Q (.bl false) H) : rIsi K [.int j, .ty "dict"] H Q := x_isK (b := false) (.base (.int j)) (by decide +kernel) q
theorem isi_int_str {j : Int} (q : Q (.bl false) H) : rIsi K [.int j, .ty "str"] H Q := x_isK (b := false) (.base (.int j)) (by decide +kernel) q
theorem isi_str_int {j : Str} (q : Q (.bl false) H) : rIsi K [.str j, .ty "int"] H Q := x_isK (b := false) (.base (.str j)) (by decide +kernel) q
theorem isi_str_bool {j : Str} (q : Q (.bl false) H) : rIsi K [.str j, .ty "bool"] H Q := x_isK (b := false) (.base (.str j)) (by decide +kernel) q
theorem isi_str_tuple {j : Str} (q : Q (.bl false) H) : rIsi K [.str j, .ty "tuple"] H Q := x_isK (b := false) (.base (.str j)) (by decide +kernel) q
theorem isi_str_list {j : Str} (q : Q (.bl false) H) : rIsi K [.str j, .ty "list"] H Q := x_isK (b := false) (.base (.str j)) (by decide +kernel) q
theorem isi_str_dict {j : Str} (q : Q (.bl false) H) : rIsi K [.str j, .ty "dict"] H Q := x_isK (b := false) (.base (.str j)) (by decide +kernel) q
theorem isi_str_str {j : Str} (q : Q (.bl true) H) : rIsi K [.str j, .ty "str"] H Q := x_isK (b := true) (.base (.str j)) (by decide +kernel) q
theorem isi_lst_int (h : H a = some (.lst xs)) (q : Q (.bl false) H) : rIsi K [.ref a, .ty "int"] H Q := x_isK (b := false) (.base (.lst h)) (by decide +kernel) q
theorem isi_lst_bool (h : H a = some (.lst xs)) (q : Q (.bl false) H) : rIsi K [.ref a, .ty "bool"] H Q := x_isK (b := false) (.base (.lst h)) (by decide +kernel) q
theorem isi_lst_tuple (h : H a = some (.lst xs)) (q : Q (.bl false) H) : rIsi K [.ref a, .ty "tuple"] H Q := x_isK (b := false) (.base (.lst h)) (by decide +kernel) q
theorem isi_lst_list (h : H a = some (.lst xs)) (q : Q (.bl true) H) : rIsi K [.ref a, .ty "list"] H Q := x_isK (b := true) (.base (.lst h)) (by decide +kernel) q
theorem isi_lst_dict (h : H a = some (.lst xs)) (q : Q (.bl false) H) : rIsi K [.ref a, .ty "dict"] H Q := x_isK (b := false) (.base (.lst h)) (by decide +kernel) q
theorem isi_lst_str (h : H a = some (.lst xs)) (q : Q (.bl false) H) : rIsi K [.ref a, .ty "str"] H Q := x_isK (b := false) (.base (.lst h)) (by decide +kernel) q
theorem isi_tup_int (h : H a = some (.tup xs)) (q : Q (.bl false) H) : rIsi K [.ref a, .ty "int"] H Q := x_isK (b := false) (.base (.tup h)) (by decide +kernel) q
theorem isi_tup_bool (h : H a = some (.tup xs)) (q : Q (.bl false) H) : rIsi K [.ref a, .ty "bool"] H Q := x_isK (b := false) (.base (.tup h)) (by decide +kernel) q
theorem isi_tup_tuple (h : H a = some (.tup xs)) (q : Q (.bl true) H) : rIsi K [.ref a, .ty "tuple"] H Q := x_isK (b := true) (.base (.tup h)) (by decide +kernel) q
theorem isi_tup_list (h : H a = some (.tup xs)) (q : Q (.bl false) H) : rIsi K [.ref a, .ty "list"] H Q := x_isK (b := false) (.base (.tup h)) (by decide +kernel) q
theorem isi_tup_dict (h : H a = some (.tup xs)) (q : Q (.bl false) H) : rIsi K [.ref a, .ty "dict"] H Q := x_isK (b := false) (.base (.tup h)) (by decide +kernel) q
theorem isi_tup_str (h : H a = some (.tup xs)) (q : Q (.bl false) H) : rIsi K [.ref a, .ty "str"] H Q := x_isK (b := false) (.base (.tup h)) (by decide +kernel) q
theorem isi_dK_int {kvs : List (Key × V)} (h : H a = some (.dK kvs)) (q : Q (.bl false) H) : rIsi K [.ref a, .ty "int"] H Q := x_isK (b := false) (.base (.dK h)) (by decide +kernel) q
theorem isi_dK_bool {kvs : List (Key × V)} (h : H a = some (.dK kvs)) (q : Q (.bl false) H) : rIsi K [.ref a, .ty "bool"] H Q := x_isK (b := false) (.base (.dK h)) (by decide +kernel) q
theorem isi_dK_tuple {kvs : List (Key × V)} (h : H a = some (.dK kvs)) (q : Q (.bl false) H) : rIsi K [.ref a, .ty "tuple"] H Q := x_isK (b := false) (.base (.dK h)) (by decide +kernel) q
theorem isi_dK_list {kvs : List (Key × V)} (h : H a = some (.dK kvs)) (q : Q (.bl false) H) : rIsi K [.ref a, .ty "list"] H Q := x_isK (b := false) (.base (.dK h)) (by decide +kernel) q
theorem isi_dK_dict {kvs : List (Key × V)} (h : H a = some (.dK kvs)) (q : Q (.bl true) H) : rIsi K [.ref a, .ty "dict"] H Q := x_isK (b := true) (.base (.dK h)) (by decide +kernel) q
theorem isi_dK_str {kvs : List (Key × V)} (h : H a = some (.dK kvs)) (q : Q (.bl false) H) : rIsi K [.ref a, .ty "str"] H Q := x_isK (b := false) (.base (.dK h)) (by decide +kernel) q
end
section
variable {K : PySem.W.Frag} {σ : L2.St} {H H' H1 H2 : Hp} {i : Nat} {v x y : V} {Q : VK} {a b p q : Addr} {o o' : HO} {xs ys : List V}
theorem x_isiTn {T1 T2 t : String} (hp : H p = some (.tup [.ty T1, .ty T2])) (ty : TyX K H x (.type t)) (e1 : kitB t T1 = some false) (e2 : kitB t T2 = some false) (q : Q (.bl false) H) : rIsiT K [x, .ref p] H Q := x_isiT2 hp ty e1 e2 q
theorem x_isiT1 {T1 T2 t : String} (hp : H p = some (.tup [.ty T1, .ty T2])) (ty : TyX K H x (.type t)) (e1 : kitB t T1 = some true) (e2 : kitB t T2 = some false) (q : Q (.bl true) H) : rIsiT K [x, .ref p] H Q := x_isiT2 hp ty e1 e2 q
theorem x_isiTb {T1 T2 t : String} (hp : H p = some (.tup [.ty T1, .ty T2])) (ty : TyX K H x (.type t)) (e1 : kitB t T1 = some false) (e2 : kitB t T2 = some true) (q : Q (.bl true) H) : rIsiT K [x, .ref p] H Q := x_isiT2 hp ty e1 e2 q
def sca : V → Bool
  | .non => true
  | .bl _ => true
  | .int _ => true
  | .str _ => true
  | _ => false
/-- two values that are the same through and through, at most so deep -/
def Al (K : PySem.W.Frag) (H : Hp) : Nat → V → V → Prop
  | 0, x, y => x = y ∧ sca x = true
  | n + 1, x, y => (x = y ∧ sca x = true) ∨
      (∃ (a b : Addr) (xs ys : List V), x = .ref a ∧ y = .ref b ∧ H a = some (.lst xs) ∧ H b = some (.lst ys) ∧ xs.length = ys.length ∧ ys.length ≤ 1000 ∧ ∀ i (h1 : i < xs.length) (h2 : i < ys.length), Al K H n xs[i] ys[i]) ∨
      (∃ (a b : Addr) (xs ys : List V), x = .ref a ∧ y = .ref b ∧ H a = some (.tup xs) ∧ H b = some (.tup ys) ∧ xs.length = ys.length ∧ ys.length ≤ 1000 ∧ ∀ i (h1 : i < xs.length) (h2 : i < ys.length), Al K H n xs[i] ys[i])
theorem Al.same : ∀ {n : Nat} {x y : V}, Same H H' → Al K H n x y → Al K H' n x y
  | 0, _, _, _, h => h
  | n + 1, x, y, s, h => by
    rcases h with h | ⟨a, b, xs, ys, e1, e2, h1, h2, hl, hz, h⟩ | ⟨a, b, xs, ys, e1, e2, h1, h2, hl, hz, h⟩
    · exact .inl h
    · exact .inr (.inl ⟨a, b, xs, ys, e1, e2, s _ _ h1, s _ _ h2, hl, hz, fun i k1 k2 => (h i k1 k2).same s⟩)
    · exact .inr (.inr ⟨a, b, xs, ys, e1, e2, s _ _ h1, s _ _ h2, hl, hz, fun i k1 k2 => (h i k1 k2).same s⟩)
theorem Al.up {n : Nat} (h : Al K H n x y) : Al K H (n + 1) x y := by
  induction n generalizing x y with
  | zero => exact .inl h
  | succ n ih =>
    rcases h with h | ⟨a, b, xs, ys, e1, e2, h1, h2, hl, hz, h⟩ | ⟨a, b, xs, ys, e1, e2, h1, h2, hl, hz, h⟩
    · exact .inl h
    · exact .inr (.inl ⟨a, b, xs, ys, e1, e2, h1, h2, hl, hz, fun i k1 k2 => ih (h i k1 k2)⟩)
    · exact .inr (.inr ⟨a, b, xs, ys, e1, e2, h1, h2, hl, hz, fun i k1 k2 => ih (h i k1 k2)⟩)
theorem Al.le {n m : Nat} (hm : n ≤ m) (h : Al K H n x y) : Al K H m x y := by
  induction hm with
  | refl => exact h
  | step _ ih => exact ih.up
theorem Al.sca {n : Nat} (hx : Fv.sca x = true) : Al K H n x x := by
  cases n with
  | zero => exact ⟨rfl, hx⟩
  | succ n => exact .inl ⟨rfl, hx⟩
theorem Al.tups {n : Nat} {zs : List V} (ha : H a = some (.tup zs)) (hb : H b = some (.tup zs)) (hz : zs.length ≤ 1000) (h : ∀ z ∈ zs, Fv.sca z = true) : Al K H (n + 1) (.ref a) (.ref b) :=
  .inr (.inr ⟨a, b, zs, zs, rfl, rfl, ha, hb, rfl, hz, fun i h1 h2 => Al.sca (h _ (List.getElem_mem h1))⟩)
theorem Al.lsts {n : Nat} {zs : List V} (ha : H a = some (.lst zs)) (hb : H b = some (.lst zs)) (hz : zs.length ≤ 1000) (h : ∀ z ∈ zs, Fv.sca z = true) : Al K H (n + 1) (.ref a) (.ref b) :=
  .inr (.inl ⟨a, b, zs, zs, rfl, rfl, ha, hb, rfl, hz, fun i h1 h2 => Al.sca (h _ (List.getElem_mem h1))⟩)
theorem Al.lst1 {n : Nat} (ha : H a = some (.lst [x])) (hb : H b = some (.lst [y])) (h : Al K H n x y) : Al K H (n + 1) (.ref a) (.ref b) :=
  .inr (.inl ⟨a, b, [x], [y], rfl, rfl, ha, hb, rfl, (by show _ + 1 ≤ 1000; simp), fun i h1 h2 => by
    cases i with
    | zero => exact h
    | succ i => exact absurd h1 (by show ¬ i + 1 < 1; omega)⟩)
theorem Al.tup1 {n : Nat} (ha : H a = some (.tup [x])) (hb : H b = some (.tup [y])) (h : Al K H n x y) : Al K H (n + 1) (.ref a) (.ref b) :=
  .inr (.inr ⟨a, b, [x], [y], rfl, rfl, ha, hb, rfl, (by show _ + 1 ≤ 1000; simp), fun i h1 h2 => by
    cases i with
    | zero => exact h
    | succ i => exact absurd h1 (by show ¬ i + 1 < 1; omega)⟩)
theorem Al.lst2 {n : Nat} {x2 y2 : V} (ha : H a = some (.lst [x, x2])) (hb : H b = some (.lst [y, y2])) (h : Al K H n x y) (h2 : Al K H n x2 y2) : Al K H (n + 1) (.ref a) (.ref b) :=
  .inr (.inl ⟨a, b, [x, x2], [y, y2], rfl, rfl, ha, hb, rfl, (by show _ + 1 ≤ 1000; simp), fun i k1 k2 => by
    match i, k1 with
    | 0, _ => exact h
    | 1, _ => exact h2
    | i + 2, k1 => exact absurd k1 (by show ¬ i + 2 < 2; omega)⟩)
end
section
variable {X : Cx} {K : PySem.W.Frag}
theorem ix_listK (e : X.K = K) : IxR X (rIxL K) := by
  subst e
  exact ix_list
theorem ix_tupK (e : X.K = K) : IxR X (rIxT K) := by
  subst e
  exact ix_tup
theorem call_lenK (e : X.K = K) : CallR X (.builtin "len") (rLen K) := by
  subst e
  exact call_len
theorem call_lstK (e : X.K = K) : CallR X (.type "list") (rListOf K) := by
  subst e
  exact call_lst
theorem call_tplK (e : X.K = K) : CallR X (.type "tuple") (rTupOf K) := by
  subst e
  exact call_tpl
theorem call_isiK' (e : X.K = K) : CallR X (.builtin "isinstance") (rIsi K) := by
  subst e
  exact call_isi
theorem call_isiTK (e : X.K = K) : CallR X (.builtin "isinstance") (rIsiT K) := by
  subst e
  exact call_isiT
theorem sl_listK (e : X.K = K) : SlR X (rSlL K) := by
  subst e
  exact sl_list
theorem op_inK (e : X.K = K) : OpR X (compareOp .In) (rIn K false) := by
  subst e
  exact op_in_seq
theorem op_notInK (e : X.K = K) : OpR X (compareOp .NotIn) (rIn K true) := by
  subst e
  exact op_notIn_seq
theorem op_eqDK (e : X.K = K) (hu : X.A.units + 64 < cLine) : OpR X (compareOp .Eq) (rEqD K) := by
  subst e
  exact op_eqD hu
theorem op_neDK (e : X.K = K) (hu : X.A.units + 64 < cLine) : OpR X (compareOp .NotEq) (rNeD K) := by
  subst e
  exact op_neD hu
theorem cr_allK (e : X.K = K) (hc : X.calm = true) : CallR X (.builtin "all") (rAll K) := by
  subst e
  exact cr_all hc
section
variable {o e value : Expr} {f : Str} {pos apos cpos : Pos} {ta to : TE} {es : List Expr} {t : TA} {name : Str} {T id : String} {r : V → List V → Hp → VK → Prop}
theorem pe_fldK (k : X.K = K) (he : PE X e ta) (hb : attributeBase e f X.env (eval e X.env) = eval e X.env) : PE X (.Attribute e f pos) (tFld K ta f) := by
  subst k
  exact pe_fld he hb
theorem pe_bm0K (k : X.K = K) (pa : PlainAttrs T) (slot : Slot T name id) (hty : typeOf (.builtin id) = pure (.type "method_descriptor")) (hm : MtR X id r) (ho : PE X o to)
    (h1 : attributeBase o name X.env (eval o X.env) = eval o X.env := by rfl) (h2 : (apos.endLine == cpos.line) = true := by rfl) : PE X (.Call (.Attribute o name apos) [] [] cpos) (tBM0 K T r to) := by
  subst k
  exact pe_bm0 pa slot hty hm ho h1 h2
theorem pe_bmK (k : X.K = K) (pa : PlainAttrs T) (slot : Slot T name id) (hty : typeOf (.builtin id) = pure (.type "method_descriptor")) (hm : MtR X id r) (ho : PE X o to) (ha : PA X [e] t)
    (h1 : attributeBase o name X.env (eval o X.env) = eval o X.env := by rfl)
    (h2 : ((backTo cpos (starEach [e] X.env)).all (fun x => !x.1) && (backToKw cpos (keywordEach [] X.env)).all (fun x => x.1.isSome) && decide ([e].length + ([] : List Keyword).length + (if ([] : List Keyword).isEmpty then 0 else 1) < 30)) = true := by rfl)
    (h3 : (apos.endLine == cpos.line) = true := by rfl) (h4 : starEach [e] X.env = (false, eval e X.env) :: starEach [] X.env := by rfl) (h5 : (backTo cpos (starEach [] X.env)).any (·.1) = false := by rfl) :
    PE X (.Call (.Attribute o name apos) [e] [] cpos) (tBM K T r to t) := by
  subst k
  exact pe_bm pa slot hty hm ho ha h1 h2 h3 h4 h5
end
end
def rIsNk : R2 := fun x y H Q => y = .non ∧ Q (.bl (decide (x = .non))) H
def rNotNk : R2 := fun x y H Q => y = .non ∧ Q (.bl (!decide (x = .non))) H
section
variable {X : Cx} {K : PySem.W.Frag} {H : Hp} {Q : VK} {x v : V} {p : Addr} {i : Int} {xs : List V}
theorem op_isNk : OpR X (compareOp .Is) rIsNk := op_isN
theorem op_notNk : OpR X (compareOp .IsNot) rNotNk := op_notN
theorem x_isN0 (q : Q (.bl true) H) : rIsNk .non .non H Q := ⟨rfl, q⟩
theorem x_isN1 {b : Bool} (q : Q (.bl false) H) : rIsNk (.bl b) .non H Q := ⟨rfl, q⟩
theorem x_isN2 {b : Int} (q : Q (.bl false) H) : rIsNk (.int b) .non H Q := ⟨rfl, q⟩
theorem x_isN3 {b : Str} (q : Q (.bl false) H) : rIsNk (.str b) .non H Q := ⟨rfl, q⟩
theorem x_isN4 {b : Addr} (q : Q (.bl false) H) : rIsNk (.ref b) .non H Q := ⟨rfl, q⟩
theorem x_notN0 (q : Q (.bl false) H) : rNotNk .non .non H Q := ⟨rfl, q⟩
theorem x_notN1 {b : Bool} (q : Q (.bl true) H) : rNotNk (.bl b) .non H Q := ⟨rfl, q⟩
theorem x_notN2 {b : Int} (q : Q (.bl true) H) : rNotNk (.int b) .non H Q := ⟨rfl, q⟩
theorem x_notN3 {b : Str} (q : Q (.bl true) H) : rNotNk (.str b) .non H Q := ⟨rfl, q⟩
theorem x_notN4 {b : Addr} (q : Q (.bl true) H) : rNotNk (.ref b) .non H Q := ⟨rfl, q⟩
theorem ix_seqK (e : X.K = K) : IxR X (rIx K) := by
  subst e
  exact ix_seq
theorem x_ixSL (h : SqL K H p xs) (ha : atI xs i = some v) (q : Q v H) : rIx K (.ref p) (.int i) H Q := .inl (x_ixL h ha q)
theorem x_ixST (h : SqT K H p xs) (ha : atI xs i = some v) (q : Q v H) : rIx K (.ref p) (.int i) H Q := .inr (.inl (x_ixT h ha q))
theorem x_eqB {b c : Bool} (q : Q (.bl (decide (b = c))) H) : rEq (.bl b) (.bl c) H Q := ⟨rfl, by
  have e : decide (V.bl b = V.bl c) = decide (b = c) := by
    rw [Bool.eq_iff_iff]
    simp
  rw [e]
  exact q⟩
theorem x_neB {b c : Bool} (q : Q (.bl (decide (b ≠ c))) H) : rNe (.bl b) (.bl c) H Q := ⟨rfl, by
  have e : (!decide (V.bl b = V.bl c)) = decide (b ≠ c) := by
    rw [Bool.eq_iff_iff]
    simp
  rw [e]
  exact q⟩
theorem x_eqS {b c : Str} (q : Q (.bl (decide (b = c))) H) : rEq (.str b) (.str c) H Q := ⟨rfl, by
  have e : decide (V.str b = V.str c) = decide (b = c) := by
    rw [Bool.eq_iff_iff]
    simp
  rw [e]
  exact q⟩
end
def nats (l : List Nat) : List V := l.map fun (n : Nat) => V.int (Int.ofNat n)
theorem nats_length (l : List Nat) : (nats l).length = l.length := List.length_map ..
theorem nats_get {l : List Nat} {i x : Nat} (h : l[i]? = some x) : (nats l)[i]? = some (.int x) := by
  unfold nats
  rw [List.getElem?_map, h]
  rfl
theorem nats_at {l : List Nat} {i x : Nat} (h : l[i]? = some x) : atI (nats l) (i : Int) = some (.int x) := atI_nat (nats_get h)
theorem nats_append (l m : List Nat) : nats (l ++ m) = nats l ++ nats m := List.map_append ..
theorem nats_set (l : List Nat) (i x : Nat) : (nats l).set i (.int x) = nats (l.set i x) := by
  unfold nats
  rw [List.map_set]
  rfl
theorem nats_erase : ∀ (l : List Nat) (i : Nat), (nats l).eraseIdx i = nats (l.eraseIdx i)
  | [], _ => rfl
  | _ :: _, 0 => rfl
  | a :: l, i + 1 => by
    show V.int a :: (nats l).eraseIdx i = V.int a :: nats (l.eraseIdx i)
    rw [nats_erase l i]
theorem nats_sca {l : List Nat} : ∀ z ∈ nats l, sca z = true := fun z hz => by
  obtain ⟨n, _, rfl⟩ := List.mem_map.mp hz
  rfl
theorem ixN_nat {n k : Nat} (h : k < n) : ixN n (k : Int) = some k := by
  unfold ixN
  rw [if_pos (by omega), if_pos (by omega)]
  rfl
theorem rgV_nats (n : Nat) : rgV 1 ((n : Int) + 1) = nats (List.range' 1 n) := by
  unfold rgV nats
  rw [List.range'_eq_map_range, List.map_map, show ((n : Int) + 1 - 1).toNat = n by omega]
  refine List.map_congr_left fun i _ => ?_
  show V.int (1 + (i : Int)) = V.int ((1 + i : Nat) : Int)
  rw [Int.natCast_add]
  rfl
section
variable {K : PySem.W.Frag} {σ : L2.St} {H : Hp} {Q : VK} {a p : Addr} {xs : List V} {ta tb : TE}
theorem x_listRg1 (h : ta σ H fun x H1 => ∃ n, x = .int n ∧ (RgOk 0 n ∧ ∀ q, H1 q = none → Q (.ref q) (upd H1 q (.lst (rgV 0 n))))) : tLstRg (tRg1 ta) σ H Q := h
theorem x_listRg2 (h : ta σ H fun x H1 => tb σ H1 fun y H2 => ∃ i j, x = .int i ∧ y = .int j ∧ (RgOk i j ∧ ∀ q, H2 q = none → Q (.ref q) (upd H2 q (.lst (rgV i j))))) : tLstRg (tRg2 ta tb) σ H Q := h
theorem x_tupRg1 (h : ta σ H fun x H1 => ∃ n, x = .int n ∧ (RgOk 0 n ∧ ∀ q, H1 q = none → Q (.ref q) (upd H1 q (.tup (rgV 0 n))))) : tTupRg (tRg1 ta) σ H Q := h
theorem x_ij {i j : Int} {R : Int → Int → Prop} (h : R i j) : ∃ k l, V.int i = .int k ∧ V.int j = .int l ∧ R k l := ⟨i, j, rfl, rfl, h⟩
theorem x_tyL {R : Prop} (h : SqL K H a xs) (q : R) : tyV K "list" (.ref a) H ∧ R := ⟨.inl ⟨rfl, _, h⟩, q⟩
theorem x_popAt {i : Int} {k : Nat} {y : V} (h : H p = some (.lst xs)) (h1 : -(2 ^ 63) ≤ i) (h2 : i < 2 ^ 63) (hi : ixN xs.length i = some k) (hy : xs[k]? = some y) (q : Q y (upd H p (.lst (xs.eraseIdx k)))) : rPopAt (.ref p) [.int i] H Q := ⟨p, xs, i, k, y, rfl, rfl, h, h1, h2, (ixN_seq hi).1, hy, q⟩
end
/-! the head alone is opened -/
theorem x_for {wi : TI} {g : TG} {tb : TS} {D : Ends} {σ : L2.St} {H : Hp} (h : wi σ H fun J H1 => ∃ W : Nat → Nat → L2.St → Hp → Prop, (∃ m, W 0 m σ H1) ∧ ∀ i m σ H, W i m σ H →
  (J.stop i H ∧ D.nx σ H) ∨ (J.go i H ∧ ∃ N : L2.St → Hp → Prop, (∀ σ' H', N σ' H' → ∃ m', m' < m ∧ W (i + 1) m' σ' H') ∧ ∀ x H', J.yld i H x H' → g x σ H' fun σ2 H2 => tb { nx := N, rt := D.rt, bk := D.nx, ct := N } σ2 H2)) : tFor wi g tb D σ H := h
theorem x_while {c : TT} {tb : TS} {D : Ends} {σ : L2.St} {H : Hp} (h : ∃ W : Nat → L2.St → Hp → Prop, (∃ m, W m σ H) ∧ ∀ m σ H, W m σ H →
  c σ H fun b H1 => if b = true then ∃ N : L2.St → Hp → Prop, (∀ σ' H', N σ' H' → ∃ m', m' < m ∧ W m' σ' H') ∧ tb { nx := N, rt := D.rt, bk := D.nx, ct := N } σ H1 else D.nx σ H1) : tWhile c tb D σ H := h
theorem x_lc {wi : TI} {g : TG} {tt : TT} {te : TE} {vs : List Nat} {σ : L2.St} {H : Hp} {Q : VK} (h : wi σ H fun J H1 => ∀ D, H1 D = none → ∃ W : Nat → Nat → Hp → Prop, (∃ m, W 0 m (upd H1 D (.lst []))) ∧ ∀ i m H, W i m H →
  (J.stop i H ∧ Q (.ref D) H) ∨ (J.go i H ∧ ∃ Nx : Hp → Prop, (∀ H', Nx H' → ∃ m', m' < m ∧ W (i + 1) m' H') ∧ ∀ x H', J.yld i H x H' → g x (wipe σ vs) H' fun σ2 H2 => wipe σ2 vs = wipe σ vs ∧ tt σ2 H2 fun b H3 =>
    if b = true then te σ2 H3 fun y H4 => ∃ acc, H4 D = some (.lst acc) ∧ acc.length < sizeLine ∧ Nx (upd H4 D (.lst (acc ++ [y]))) else Nx H3)) : tLc wi g tt te vs σ H Q := h
theorem x_lc2 {wi : TI} {g : TG} {tt : TT} {wi1 : TI} {g1 : TG} {tt1 : TT} {te : TE} {vs vs1 : List Nat} {σ : L2.St} {H : Hp} {Q : VK} (h : wi σ H fun J H1 => ∀ D, H1 D = none → ∃ W : Nat → Nat → Hp → Prop, (∃ m, W 0 m (upd H1 D (.lst []))) ∧ ∀ i m H, W i m H →
  (J.stop i H ∧ Q (.ref D) H) ∨ (J.go i H ∧ ∃ Nx : Hp → Prop, (∀ H', Nx H' → ∃ m', m' < m ∧ W (i + 1) m' H') ∧ ∀ x H', J.yld i H x H' → g x (wipe σ vs) H' fun σ2 H2 => wipe σ2 vs = wipe σ vs ∧ tt σ2 H2 fun b H3 =>
    if b = true then wi1 σ2 H3 fun J1 H4 => ∃ W1 : Nat → Nat → Hp → Prop, (∃ m, W1 0 m H4) ∧ ∀ j k H, W1 j k H →
      (J1.stop j H ∧ Nx H) ∨ (J1.go j H ∧ ∃ Nx1 : Hp → Prop, (∀ H', Nx1 H' → ∃ k', k' < k ∧ W1 (j + 1) k' H') ∧ ∀ x H', J1.yld j H x H' → g1 x (wipe σ2 vs1) H' fun σ3 H5 => wipe σ3 vs1 = wipe σ2 vs1 ∧ tt1 σ3 H5 fun b H6 =>
        if b = true then te σ3 H6 fun y H7 => ∃ acc, H7 D = some (.lst acc) ∧ acc.length < sizeLine ∧ Nx1 (upd H7 D (.lst (acc ++ [y]))) else Nx1 H6)
    else Nx H3)) : tLc2 wi g tt wi1 g1 tt1 te vs vs1 σ H Q := h
end Fv
/-! trees as lists of places; nothing of the program here -/
namespace Fv
def up (hs : List Nat) (k : Nat) : Nat := if k = 0 then 0 else hs.getD (k - 1) 0
def upN (hs : List Nat) : Nat → Nat → Nat
  | 0, k => k
  | j + 1, k => upN hs j (up hs k)
structure IsTree (hs : List Nat) : Prop where
  pos : 1 ≤ hs.length
  most : hs.length ≤ 40
  le : ∀ x ∈ hs, x ≤ hs.length
  comes : ∀ k, k ≤ hs.length → upN hs hs.length k = 0
theorem up_zero (hs : List Nat) : up hs 0 = 0 := rfl
theorem upN_zero (hs : List Nat) : ∀ j, upN hs j 0 = 0
  | 0 => rfl
  | j + 1 => by
    show upN hs j (up hs 0) = 0
    rw [up_zero]
    exact upN_zero hs j
theorem upN_add (hs : List Nat) : ∀ i j k, upN hs (i + j) k = upN hs j (upN hs i k)
  | 0, j, k => by
    rw [Nat.zero_add]
    rfl
  | i + 1, j, k => by
    rw [Nat.add_right_comm]
    exact upN_add hs i j (up hs k)
theorem upN_succ (hs : List Nat) (j k : Nat) : upN hs (j + 1) k = up hs (upN hs j k) := upN_add hs j 1 k
theorem upN_more {hs : List Nat} {i j k : Nat} (h : upN hs i k = 0) (hj : i ≤ j) : upN hs j k = 0 := by
  obtain ⟨d, rfl⟩ := Nat.le.dest hj
  rw [upN_add, h]
  exact upN_zero hs d
theorem up_le {hs : List Nat} (h : ∀ x ∈ hs, x ≤ hs.length) (k : Nat) : up hs k ≤ hs.length := by
  unfold up
  split
  · exact Nat.zero_le _
  · rw [List.getD_eq_getElem?_getD]
    cases e : hs[k - 1]? with
    | none => exact Nat.zero_le _
    | some x => exact h x (List.mem_of_getElem? e)
theorem upN_le {hs : List Nat} (h : ∀ x ∈ hs, x ≤ hs.length) : ∀ j k, k ≤ hs.length → upN hs j k ≤ hs.length
  | 0, _, hk => hk
  | j + 1, k, _ => upN_le h j (up hs k) (up_le h k)
theorem up_at {hs : List Nat} {k x : Nat} (hk : k ≠ 0) (h : hs[k - 1]? = some x) : up hs k = x := by
  unfold up
  rw [if_neg hk, List.getD_eq_getElem?_getD, h]
  rfl
/-- what is drawn: the blocks in some order, each under one ahead of it, or the head -/
def Drawn (hs : List Nat) : Prop := ∃ ms : List Nat, ms.Perm (List.range' 1 hs.length) ∧ ∀ (i x : Nat), ms[i]? = some x → ∃ j y : Nat, j ≤ i ∧ (0 :: ms)[j]? = some y ∧ hs[x - 1]? = some y
theorem Drawn.tree {hs : List Nat} (h : Drawn hs) (h1 : 1 ≤ hs.length) (h2 : hs.length ≤ 40) : IsTree hs := by
  obtain ⟨ms, hp, hd⟩ := h
  have hlen : ms.length = hs.length := by rw [hp.length_eq, List.length_range']
  have mem : ∀ x, x ∈ ms ↔ 1 ≤ x ∧ x < 1 + hs.length := fun x => by rw [hp.mem_iff, List.mem_range'_1]
  have key : ∀ i x, ms[i]? = some x → upN hs (i + 1) x = 0 := by
    intro i
    induction i using Nat.strongRecOn with
    | ind i ih =>
      intro x hx
      obtain ⟨j, y, hj, hy, e⟩ := hd i x hx
      have x1 := (mem x).mp (List.mem_of_getElem? hx)
      show upN hs i (up hs x) = 0
      rw [up_at (by omega) e]
      cases j with
      | zero =>
        have e0 : 0 = y := Option.some.inj hy
        rw [← e0]
        exact upN_zero hs i
      | succ j => exact upN_more (ih j (by omega) y hy) (by omega)
  refine ⟨h1, h2, fun x hx => ?_, fun k hk => ?_⟩
  · obtain ⟨p, hp1, e⟩ := List.getElem_of_mem hx
    have hm := (mem (p + 1)).mpr ⟨by omega, by omega⟩
    obtain ⟨i, hi, e2⟩ := List.getElem_of_mem hm
    obtain ⟨j, y, hj, hy, e3⟩ := hd i (p + 1) (by rw [List.getElem?_eq_getElem hi, e2])
    have e4 : hs[p]? = some y := e3
    rw [List.getElem?_eq_getElem hp1, e] at e4
    cases e4
    cases j with
    | zero =>
      have e0 : 0 = x := Option.some.inj hy
      omega
    | succ j =>
      have := (mem x).mp (List.mem_of_getElem? (show ms[j]? = some x from hy))
      omega
  · by_cases h0 : k = 0
    · rw [h0]
      exact upN_zero hs _
    · obtain ⟨i, hi, e2⟩ := List.getElem_of_mem ((mem k).mpr ⟨by omega, by omega⟩)
      exact upN_more (key i k (by rw [List.getElem?_eq_getElem hi, e2])) (by omega)
theorem perm_erase : ∀ {l : List Nat} {i : Nat} {x : Nat}, l[i]? = some x → (x :: l.eraseIdx i).Perm l
  | [], _, _, h => by simp at h
  | a :: l, 0, x, h => by
    have e : a = x := Option.some.inj h
    rw [e]
    exact List.Perm.refl _
  | a :: l, i + 1, x, h => by
    have ih := perm_erase (l := l) (i := i) (x := x) h
    exact (List.Perm.swap a x _).trans (ih.cons a)
/-! whatever leads, the head is come to in as many steps as there are blocks, or never -/
theorem bounded_len : ∀ (n : Nat) (l : List Nat), l.Nodup → (∀ x ∈ l, 1 ≤ x ∧ x ≤ n) → l.length ≤ n
  | 0, l, _, h => by
    cases l with
    | nil => exact Nat.le_refl _
    | cons x r =>
      have := h x List.mem_cons_self
      omega
  | n + 1, l, hn, h => by
    have h1 : (l.erase (n + 1)).length ≤ n := bounded_len n _ (hn.erase _) fun x hx => by
      have hx1 := (List.Nodup.mem_erase_iff hn).mp hx
      have := h x hx1.2
      omega
    by_cases hm : n + 1 ∈ l
    · rw [List.length_erase_of_mem hm] at h1
      omega
    · rw [List.erase_of_not_mem hm] at h1
      omega
theorem comes_by {hs : List Nat} (h : ∀ x ∈ hs, x ≤ hs.length) {j k : Nat} (hk : k ≤ hs.length) (hj : upN hs j k = 0) : upN hs hs.length k = 0 := by
  -- the least such number of steps
  have ex : ∃ d, upN hs d k = 0 ∧ ∀ d', d' < d → upN hs d' k ≠ 0 := by
    induction j using Nat.strongRecOn with
    | ind j ih =>
      by_cases hx : ∃ d, d < j ∧ upN hs d k = 0
      · obtain ⟨d, hd, e⟩ := hx
        exact ih d hd e
      · exact ⟨j, hj, fun d' hd e => hx ⟨d', hd, e⟩⟩
  obtain ⟨d, e, least⟩ := ex
  refine upN_more e ?_
  have hl : ((List.range d).map fun i => upN hs i k).length ≤ hs.length := by
    refine bounded_len hs.length _ ?_ fun x hx => ?_
    · rw [List.nodup_iff_pairwise_ne, List.pairwise_map]
      refine List.Pairwise.imp_of_mem (R := (· < ·)) (fun {a b} ha hb hlt heq => ?_) List.pairwise_lt_range
      rw [List.mem_range] at ha hb
      -- from a equal places one comes to the head as soon from a as from b
      have e1 : upN hs (a + (d - b)) k = 0 := by
        rw [upN_add, heq, ← upN_add, show b + (d - b) = d by omega]
        exact e
      exact least _ (by omega) e1
    · obtain ⟨i, hi, rfl⟩ := List.mem_map.mp hx
      rw [List.mem_range] at hi
      have := least i hi
      have := upN_le h i k hk
      omega
  rw [List.length_map, List.length_range] at hl
  exact hl
end Fv
set_option maxRecDepth 100000
set_option maxHeartbeats 1000000
namespace Fv
open PySem PySem.Spec L2
section
variable {K : PySem.W.Frag} {σ : L2.St} {H : Hp} {Q : VK} {a b p : Addr} {xs ys : List V} {ta tb : TE}
theorem But.freeB {H H1 : Hp} {p q : Addr} (b : But p H H1) (n : q ≠ p) (h : H1 q = none) : H q = none := by
  cases e : H q with
  | none => rfl
  | some o =>
    rw [b q o n e] at h
    cases h
theorem x_cat (h1 : H a = some (.lst xs)) (h2 : H b = some (.lst ys)) (hl : xs.length + ys.length ≤ sizeLine) (q : ∀ p, H p = none → Q (.ref p) (upd H p (.lst (xs ++ ys)))) : rCat (.ref a) (.ref b) H Q := ⟨a, b, xs, ys, rfl, rfl, h1, h2, hl, q⟩
theorem rep_one : ∀ (n : Nat) (v : V), (List.replicate n [v]).flatten = List.replicate n v
  | 0, _ => rfl
  | n + 1, v => by
    rw [List.replicate_succ, List.flatten_cons, rep_one n v, List.replicate_succ]
    rfl
theorem x_rep1 {n : Nat} {v : V} (h1 : H a = some (.lst [v])) (hn : n ≤ 1000) (q : ∀ p, H p = none → Q (.ref p) (upd H p (.lst (List.replicate n v)))) : rRep (.ref a) (.int n) H Q := by
  refine ⟨a, n, [v], rfl, rfl, h1, by omega, by omega, szLe (by show 1 * _ ≤ _; omega), fun p hp => ?_⟩
  rw [show (n : Int).toNat = n from rfl, rep_one]
  exact q p hp
theorem nats_rep (n : Nat) : List.replicate n (V.int 0) = nats (List.replicate n 0) := by
  unfold nats
  rw [List.map_replicate]
  rfl
end
end Fv
set_option maxRecDepth 100000
set_option maxHeartbeats 1000000
namespace Fv
open PySem PySem.Spec L2
/-- enumerate of a tuple from a written number on: each item in a new pair -/
def Itn (K : PySem.W.Frag) (t : Addr) (k : Int) : It where
  go := fun i H => ∃ (xs : List V) (x : V), SqT K H t xs ∧ xs[i]? = some x
  yld := fun i H v H' => ∃ (T : Addr) (x : V), v = .ref T ∧ H T = none ∧ H' = upd H T (.tup [.int (k + (i : Int)), x]) ∧ ∀ xs, SqT K H t xs → xs[i]? = some x
  stop := fun i H => ∃ xs : List V, SqT K H t xs ∧ xs.length = i
theorem isTuple_of {h : Heap} {a : Addr} {its : Array Value} (x : PyProof.Rows.IsTup h a its) : h.IsTuple a its := by
  obtain ⟨o, e, c, n, d⟩ := x
  exact ⟨o, e, c, n, d⟩
theorem turn_enumT {P : Program} {w : World} {K : PySem.W.Frag} {elts : List Expr} {kk : Nat} {tpos : Pos} (k : Int) (t e it : Addr) (nt : t ≠ it) (ne : e ≠ it) (ne' : e ≠ t) :
    Turn P w K (.Tuple elts kk tpos) (Itn K t k) [e, it] e (fun i h => (∃ old, IsEnum h e it (k + (i : Int)) old) ∧ h.IsTupleIter it t i) where
  mem := List.mem_cons_self
  obj := fun i h st b hb => by
    obtain ⟨⟨old, he⟩, ⟨o, ho, hc, hd⟩⟩ := st
    rcases List.mem_cons.mp hb with rfl | hb
    · exact ⟨_, he, fun v q => nomatch q⟩
    · rw [List.mem_singleton.mp hb]
      exact ⟨o, ho, fun v q => by rw [hd] at q; cases q⟩
  keep := fun i h h' st kp => ⟨st.1.elim fun old he => ⟨old, kp e List.mem_cons_self _ he⟩, st.2.at fun o q => kp it (List.mem_cons_of_mem _ List.mem_cons_self) o q⟩
  item := by
    intro X hP hw hK hc i pins s σ H E I hf st hg
    subst hP hw hK
    obtain ⟨xs, x, hq, hx⟩ := hg
    obtain ⟨its, rv, p, hz⟩ := I.tuple hq
    obtain ⟨u, hu, ru⟩ := rv.get hx
    have hil : i < its.length := (List.getElem?_eq_some_iff.mp hu).1
    have W := WalksT.enumFrom (prog := X.prog) (w := X.w) (A := X.A) k (Draws.tuple (prog := X.prog) (w := X.w) (A := X.A.in1) (it := it) (t := t) (show X.A.in1.handled = none from I.ok.hd hc) nt its.toArray) e ne (by simp [ne, ne']) (by simp)
    refine W.item i s _ E (by simpa using hil) ⟨st.1, st.2, isTuple_of p⟩ fun T vals h' tk hP' hT hTup hMid hk => ?_
    refine ⟨_, rfl, W.go elts kk tpos i T _ _ E hMid fun h'' hst' hk' => ?_⟩
    obtain ⟨tk2, y, hy, rfl⟩ := hP'
    have ey : y = u := by
      have e1 : its.toArray[i]? = some u := by simpa using hu
      rw [e1] at hy
      exact (Option.some.inj hy).symm
    subst ey
    have hfp : ∀ b ∈ [e, it], b < s.heap.objs.size := fun b hb => by
      obtain ⟨⟨old, he⟩, ⟨o, ho, _⟩⟩ := st
      rcases List.mem_cons.mp hb with rfl | hb
      · exact Heap.lt_size he
      · rw [List.mem_singleton.mp hb]
        exact Heap.lt_size ho
    have hTn : T ∉ [e, it] := W.apart i T _ hMid
    have hTup2 : h''.IsTuple T #[.int (k + (i : Int)) tk2, y] := by
      obtain ⟨o, e1, c1, n1, d1⟩ := hTup
      exact ⟨o, hk' _ _ hTn e1, c1, n1, d1⟩
    have new : ObjOk X.prog X.w (upd H T (.tup [.int (k + (i : Int)), x])) h'' T (.tup [.int (k + (i : Int)), x]) := by
      obtain ⟨o, e1, c1, n1, d1⟩ := hTup2
      exact ⟨by show 2 ≤ sizeLine; decide, [.int (k + (i : Int)) tk2, y], .cons ⟨_, rfl⟩ (.cons ru .nil), ⟨o, e1, c1, n1, d1⟩⟩
    have I1 : Inv X pins σ (upd H T (.tup [.int (k + (i : Int)), x])) { s with heap := h'', toks := tk } :=
      I.turnedNew (ch := [e, it]) (fun b ob hb q => hk' b ob hb (hk b ob hb q)) hf hT new
    refine ⟨.ref T, _, I1, rfl, ⟨T, x, rfl, I.hok.fresh hT, rfl, fun ys hys => by rw [I.tuple_inj hys hq]; exact hx⟩, ⟨hst'.1, hst'.2.1⟩, fun b hb => ?_⟩
    have hbT : b ≠ T := fun z => absurd (hfp b hb) (by rw [z]; exact Nat.not_lt.mpr hT)
    rw [upd_ne hbT]
    exact (hf b hb).1
  done := by
    intro X hP hw hK hc i pins s σ H E I hf st hg
    subst hP hw hK
    obtain ⟨xs, hq, hx⟩ := hg
    obtain ⟨its, rv, p, hz⟩ := I.tuple hq
    have W := WalksT.enumFrom (prog := X.prog) (w := X.w) (A := X.A) k (Draws.tuple (prog := X.prog) (w := X.w) (A := X.A.in1) (it := it) (t := t) (show X.A.in1.handled = none from I.ok.hd hc) nt its.toArray) e ne (by simp [ne, ne']) (by simp)
    have el : i = its.toArray.size := by
      rw [← hx, Vals.length rv]
      simp
    rw [el] at st
    refine W.done s _ E ⟨st.1, st.2, isTuple_of p⟩ fun h' tk hk => ⟨rfl, ?_⟩
    have nh : ∀ b u, H b = some u → b ∉ [e, it] := fun b u hb z => by
      have q := (hf b z).1
      rw [q] at hb
      cases hb
    refine I.step (g' := s.gens) (d' := s.drawn) (ch := [e, it]) (fun b hb => ⟨(hf b hb).2.2.2.1, (hf b hb).2.1, (hf b hb).2.2.2.2.1, (hf b hb).2.2.2.2.2⟩) (fun b o _ _ hc e _ => hk b o hc e) (fun b o _ _ hc e _ => ⟨o.slots, hk b o hc e⟩)
      (fun _ _ _ _ n => n) (fun b o hc e => ⟨o, hk b o hc e⟩) (fun _ _ q => q) (fun _ _ _ q => q) (fun _ ps q => ⟨#[], by rw [q]; simp⟩) (fun m hm => ?_) (fun b u hb => ?_) I.bare
    · obtain ⟨o, es, ep, ho, r⟩ := hm
      exact ⟨o, es, ep, hk _ o (fun z => (hf _ z).2.1 rfl) ho, r⟩
    · refine (I.hok b u hb).stay (fun c v hc q => hk c v ?_ q) (fun _ q => q) fun _ _ q => q
      rcases hc with z | z
      · rw [z]
        exact nh b u hb
      · exact nh c _ z
  self := fun A i s Q E st h => by
    obtain ⟨⟨old, he⟩, _⟩ := st
    exact wpAny_pyIter_enum he h
/-- enumerate(e, start=k), k written -/
def iEnT (K : PySem.W.Frag) (k : Int) (ta : TA) : TI := fun σ H R => ta σ H fun vs H1 => ∃ (t : Addr) (xs : List V), vs = [.ref t] ∧ SqT K H1 t xs ∧ R (Itn K t k) H1
theorem pi_enumT {X : Cx} {e : Expr} {ta : TA} {p pos tpos kpos kp : Pos} {elts : List Expr} {kk j : Nat} {k : Int} (hc : X.calm = true) (hg : Gl X "enumerate") (hm : X.mg "enumerate" = none) (h0 : -(2 ^ 63) ≤ k) (h1 : k < 2 ^ 63) (ha : PA X [e] ta)
    (hs : starEach [e] X.env = (false, eval e X.env) :: starEach [] X.env := by rfl) :
    PI X (.Tuple elts kk tpos) (.Call (.Name "enumerate" p) [e] [⟨some "start", .Constant (.int k) j kp, kpos⟩] pos) (iEnT X.K k ta) := by
  refine ⟨fun pins s σ H R I h => ?_⟩
  refine wpAny_Call_Name_kw (ld_blt I hg hm (u := .type "enumerate") (by decide +kernel) ?_)
  refine PySem.W.callWith_of (P := fun _ => True) (by rw [hs]; rfl) (fun h _ => ⟨_, .inr (.inl rfl), PySem.W.Looks.of_pure rfl⟩) (PyProof.Rows.evalArgs_kw2 rfl (thn (ha.run pos pins s σ H _ I h) fun us s1 ⟨vs, H1, I1, r1, t, xs, ev, hq, q⟩ => ?_) hs)
  have hkw : PK X [⟨some "start", .Constant (.int k) j kp, kpos⟩] (tCons (tC (.int k)) tNil) := pk_cons pe_int pk_nil
  refine thn (hkw.run pos pins s1 σ H1 (fun zs H2 => zs = [.int k] ∧ H2 = H1) I1 ⟨rfl, rfl⟩) fun ks s2 ⟨zs, H2, I2, r2, ez, eH⟩ => ⟨True.intro, ?_⟩
  subst ev ez eH
  cases r1 with
  | cons r rr =>
    cases rr
    cases r
    cases r2 with
    | cons rk rrk =>
      cases rrk
      obtain ⟨tk, rfl⟩ := rk
      obtain ⟨its, rv, p', hz⟩ := I2.tuple hq
      refine enum_begins_start (begins_tuple t its.toArray) (isTuple_of p') h0 h1 fun h' he hit hsz hkp => ?_
      refine wpAny_pyIter_enum he ?_
      have I3 : Inv X pins σ H2 { s2 with heap := h' } := I2.kept (t' := s2.toks) hkp
      have ht : t < s2.heap.objs.size := p'.lt
      have hn : ∀ b, s2.heap.objs.size ≤ b → H2 b = none := fun b hb => I2.hok.fresh hb
      refine ⟨s2.heap.objs.size + 1, [s2.heap.objs.size + 1, s2.heap.objs.size], _, _, H2, rfl, I3, turn_enumT k t (s2.heap.objs.size + 1) s2.heap.objs.size (Nat.ne_of_lt ht) (Nat.succ_ne_self _) (Nat.ne_of_gt (Nat.lt_succ_of_lt ht)),
        ⟨⟨.none, ?_⟩, ⟨_, hit, rfl, rfl⟩⟩, fun b hb => ?_, q⟩
      · rw [show k + ((0 : Nat) : Int) = k by omega]
        exact he
      · have hle : s2.heap.objs.size ≤ b := by
          rcases List.mem_cons.mp hb with rfl | hb
          · exact Nat.le_succ _
          · rw [List.mem_singleton.mp hb]
            exact Nat.le_refl _
        exact I2.fpOk hle (hn b hle)
end Fv
set_option maxRecDepth 100000
set_option maxHeartbeats 1000000
namespace Fv
open PySem PySem.Spec L2
theorem lp_enumT {K : PySem.W.Frag} {t : Addr} {k : Int} {xs : List V} {g : TG} {tb : TS} {nx : L2.St → Hp → Prop} {rt : VK} {σ : L2.St} {H : Hp} (Pv : Nat → L2.St → Hp → Prop) (h0 : Pv 0 σ H) (hl : ∀ i σ H, i ≤ xs.length → Pv i σ H → SqT K H t xs)
    (hs : ∀ i x σ H T, xs[i]? = some x → Pv i σ H → H T = none → g (.ref T) σ (upd H T (.tup [.int (k + (i : Int)), x])) fun σ2 H2 => tb { nx := Pv (i + 1), rt := rt, bk := nx, ct := Pv (i + 1) } σ2 H2) (hd : ∀ σ H, Pv xs.length σ H → nx σ H) :
    ∃ W : Nat → Nat → L2.St → Hp → Prop, (∃ m, W 0 m σ H) ∧ ∀ i m σ H, W i m σ H → ((Itn K t k).stop i H ∧ nx σ H) ∨ ((Itn K t k).go i H ∧ ∃ N : L2.St → Hp → Prop, (∀ σ' H', N σ' H' → ∃ m', m' < m ∧ W (i + 1) m' σ' H') ∧ ∀ x H', (Itn K t k).yld i H x H' → g x σ H' fun σ2 H2 => tb { nx := N, rt := rt, bk := nx, ct := N } σ2 H2) := by
  refine ⟨fun i m σ H => m = xs.length - i ∧ i ≤ xs.length ∧ Pv i σ H, ⟨_, rfl, Nat.zero_le _, h0⟩, ?_⟩
  rintro i m σ H ⟨rfl, hi, p⟩
  have q := hl i σ H hi p
  by_cases hlt : i < xs.length
  · refine .inr ⟨⟨xs, xs[i], q, List.getElem?_eq_getElem hlt⟩, Pv (i + 1), fun σ' H' p' => ⟨_, by omega, rfl, hlt, p'⟩, fun x H' y => ?_⟩
    obtain ⟨T, z, rfl, hT, rfl, hz⟩ := y
    exact hs i z σ H T (hz xs q) p hT
  · have e : i = xs.length := by omega
    subst e
    exact .inl ⟨⟨xs, q, rfl⟩, hd σ H p⟩
theorem lc_enumT {K : PySem.W.Frag} {t : Addr} {k : Int} {xs : List V} {g : TG} {tt : TT} {te : TE} {vs : List Nat} {σ : L2.St} {H1 : Hp} {D : Addr} {Qd : Hp → Prop} (Pv : Nat → Hp → Prop) (h0 : Pv 0 (upd H1 D (.lst []))) (hl : ∀ i H, i ≤ xs.length → Pv i H → SqT K H t xs)
    (hs : ∀ i x H T, xs[i]? = some x → Pv i H → H T = none → g (.ref T) (wipe σ vs) (upd H T (.tup [.int (k + (i : Int)), x])) fun σ2 H2 => wipe σ2 vs = wipe σ vs ∧ tt σ2 H2 fun b H3 =>
      if b = true then te σ2 H3 fun y H4 => ∃ acc, H4 D = some (.lst acc) ∧ acc.length < sizeLine ∧ Pv (i + 1) (upd H4 D (.lst (acc ++ [y]))) else Pv (i + 1) H3) (hd : ∀ H, Pv xs.length H → Qd H) :
    ∃ W : Nat → Nat → Hp → Prop, (∃ m, W 0 m (upd H1 D (.lst []))) ∧ ∀ i m H, W i m H → ((Itn K t k).stop i H ∧ Qd H) ∨ ((Itn K t k).go i H ∧ ∃ Nx : Hp → Prop, (∀ H', Nx H' → ∃ m', m' < m ∧ W (i + 1) m' H') ∧ ∀ x H', (Itn K t k).yld i H x H' → g x (wipe σ vs) H' fun σ2 H2 => wipe σ2 vs = wipe σ vs ∧ tt σ2 H2 fun b H3 =>
        if b = true then te σ2 H3 fun y H4 => ∃ acc, H4 D = some (.lst acc) ∧ acc.length < sizeLine ∧ Nx (upd H4 D (.lst (acc ++ [y]))) else Nx H3) := by
  refine ⟨fun i m H => m = xs.length - i ∧ i ≤ xs.length ∧ Pv i H, ⟨_, rfl, Nat.zero_le _, h0⟩, ?_⟩
  rintro i m H ⟨rfl, hi, p⟩
  have q := hl i H hi p
  by_cases hlt : i < xs.length
  · refine .inr ⟨⟨xs, xs[i], q, List.getElem?_eq_getElem hlt⟩, Pv (i + 1), fun H' p' => ⟨_, by omega, rfl, hlt, p'⟩, fun x H' y => ?_⟩
    obtain ⟨T, z, rfl, hT, rfl, hz⟩ := y
    exact hs i z H T (hz xs q) p hT
  · have e : i = xs.length := by omega
    subst e
    exact .inl ⟨⟨xs, q, rfl⟩, hd H p⟩
section
variable {K : PySem.W.Frag} {σ : L2.St} {H : Hp} {Q : VK} {a p : Addr} {xs : List V} {ta tb : TE}
theorem x_ent {R : It → Hp → Prop} {k : Int} {ts : TA} (h : ts σ H fun vs H1 => ∃ (t : Addr) (xs : List V), vs = [.ref t] ∧ SqT K H1 t xs ∧ R (Itn K t k) H1) : iEnT K k ts σ H R := h
theorem x_ent1 {R : Addr → Prop} (h : SqT K H a xs) (q : R a) : ∃ (t : Addr) (ys : List V), [V.ref a] = [.ref t] ∧ SqT K H t ys ∧ R t := ⟨a, xs, rfl, h, q⟩
end
theorem pi_enumTK {X : Cx} {K : PySem.W.Frag} {e : Expr} {ta : TA} {p pos tpos kpos kp : Pos} {elts : List Expr} {kk j : Nat} {k : Int} (eK : X.K = K) (hc : X.calm = true) (hg : Gl X "enumerate") (hm : X.mg "enumerate" = none) (h0 : -(2 ^ 63) ≤ k) (h1 : k < 2 ^ 63) (ha : PA X [e] ta)
    (hs : starEach [e] X.env = (false, eval e X.env) :: starEach [] X.env := by rfl) :
    PI X (.Tuple elts kk tpos) (.Call (.Name "enumerate" p) [e] [⟨some "start", .Constant (.int k) j kp, kpos⟩] pos) (iEnT K k ta) := by
  subst eK
  exact pi_enumT hc hg hm h0 h1 ha hs
theorem x_isnd {c : Prop} [Decidable c] {A B : Prop} (h1 : ¬ c → A) (h2 : c → B) : if (!decide c) = true then A else B := by
  by_cases h : c
  · rw [decide_eq_true h]
    exact iteF (h2 h)
  · rw [decide_eq_false h]
    exact iteT (h1 h)
theorem num_int {lo hi : Int} {x : V} (h : numV lo hi x = true) : ∃ z, x = .int z ∧ lo ≤ z ∧ z ≤ hi := by
  cases x with
  | int i =>
    have h' : (decide (lo ≤ i) && decide (i ≤ hi)) = true := h
    rw [Bool.and_eq_true, decide_eq_true_eq, decide_eq_true_eq] at h'
    exact ⟨i, rfl, h'.1, h'.2⟩
  | _ => cases h
theorem at_pred {xs : List V} {i : Nat} {x : V} (h : xs[i]? = some x) : atI xs (1 + (i : Int) - 1) = some x := by
  rw [show 1 + (i : Int) - 1 = (i : Int) by omega]
  exact atI_nat h
/-! what is due for a tuple -/
inductive Due where
  | hung
  | block (k : Nat)
  | ring (k : Nat)
  | ok
/-- an item that is no place, or the block itself -/
def badV (n i : Nat) (x : V) : Prop := numV 0 n x = false ∨ x = .int ((i + 1 : Nat) : Int)
inductive DueIs (xs : List V) : Due → Prop where
  | hung : ¬ (1 ≤ xs.length ∧ xs.length ≤ 40) → DueIs xs .hung
  | block {i : Nat} {x : V} : 1 ≤ xs.length → xs.length ≤ 40 → (∀ j y, j < i → xs[j]? = some y → ¬ badV xs.length j y) → xs[i]? = some x → badV xs.length i x → DueIs xs (.block (i + 1))
  | ring {hs : List Nat} {k : Nat} : 1 ≤ xs.length → xs.length ≤ 40 → xs = nats hs → (∀ j y, xs[j]? = some y → ¬ badV xs.length j y) → (∀ j, 1 ≤ j → j < k → upN hs hs.length j = 0) → 1 ≤ k → k ≤ hs.length → upN hs hs.length k ≠ 0 → DueIs xs (.ring k)
  | ok {hs : List Nat} : IsTree hs → xs = nats hs → (∀ j y, xs[j]? = some y → ¬ badV xs.length j y) → DueIs xs .ok
theorem nats_inj : ∀ {l m : List Nat}, nats l = nats m → l = m
  | [], [], _ => rfl
  | [], _ :: _, h => by cases h
  | _ :: _, [], h => by cases h
  | a :: l, b :: m, h => by
    have h' : V.int (Int.ofNat a) :: nats l = V.int (Int.ofNat b) :: nats m := h
    injection h' with h1 h2
    injection h1 with h1
    injection h1 with h1
    rw [h1, nats_inj h2]
theorem DueIs.det {xs : List V} {d e : Due} (h : DueIs xs d) (h' : DueIs xs e) : d = e := by
  cases h with
  | hung n =>
    cases h' with
    | hung _ => rfl
    | block a b _ _ _ => exact (n ⟨a, b⟩).elim
    | ring a b _ _ _ _ _ _ => exact (n ⟨a, b⟩).elim
    | ok t e _ => exact (n ⟨by rw [e, nats_length]; exact t.pos, by rw [e, nats_length]; exact t.most⟩).elim
  | @block i x a b f e1 bd =>
    cases h' with
    | hung n => exact (n ⟨a, b⟩).elim
    | @block j y _ _ f2 e2 bd2 =>
      rcases Nat.lt_trichotomy i j with h | h | h
      · exact (f2 _ _ h e1 bd).elim
      · rw [h]
      · exact (f _ _ h e2 bd2).elim
    | ring _ _ _ f2 _ _ _ _ => exact (f2 _ _ e1 bd).elim
    | ok _ _ f2 => exact (f2 _ _ e1 bd).elim
  | @ring hs k a b e f g k1 k2 nz =>
    cases h' with
    | hung n => exact (n ⟨a, b⟩).elim
    | block _ _ _ e2 bd => exact (f _ _ e2 bd).elim
    | @ring hs2 k' _ _ e2 _ g2 k1' k2' nz2 =>
      have eh := nats_inj (e.symm.trans e2)
      subst eh
      rcases Nat.lt_trichotomy k k' with h | h | h
      · exact (nz (g2 k k1 h)).elim
      · rw [h]
      · exact (nz2 (g k' k1' h)).elim
    | @ok hs2 t e2 _ =>
      have eh := nats_inj (e.symm.trans e2)
      subst eh
      exact (nz (t.comes k k2)).elim
  | @ok hs t e f =>
    cases h' with
    | hung n => exact (n ⟨by rw [e, nats_length]; exact t.pos, by rw [e, nats_length]; exact t.most⟩).elim
    | block _ _ _ e2 bd => exact (f _ _ e2 bd).elim
    | @ring hs2 k' _ _ e2 _ g2 k1' k2' nz2 =>
      have eh := nats_inj (e.symm.trans e2)
      subst eh
      exact (nz2 (t.comes k' k2')).elim
    | ok _ _ _ => rfl
/-- no bad one: they are places -/
theorem good_nats {xs : List V} (n : Nat) (h : ∀ (j : Nat) y, xs[j]? = some y → numV 0 n y = true) : ∃ hs : List Nat, xs = nats hs ∧ ∀ x ∈ hs, x ≤ n := by
  induction xs with
  | nil => exact ⟨[], rfl, fun _ h => nomatch h⟩
  | cons x r ih =>
    obtain ⟨hs, e, hle⟩ := ih fun j y hy => h (j + 1) y hy
    have hx := h 0 x rfl
    cases x with
    | int i =>
      have hx' : (decide ((0 : Int) ≤ i) && decide (i ≤ (n : Int))) = true := hx
      rw [Bool.and_eq_true, decide_eq_true_eq, decide_eq_true_eq] at hx'
      obtain ⟨m, rfl⟩ := Int.eq_ofNat_of_zero_le hx'.1
      refine ⟨m :: hs, by rw [e]; rfl, fun y hy => ?_⟩
      rcases List.mem_cons.mp hy with rfl | hy
      · omega
      · exact hle y hy
    | _ => cases hx
end Fv
set_option maxRecDepth 100000
set_option maxHeartbeats 1000000
namespace Fv
open PySem PySem.Spec L2
theorem x_mko {C : Addr} {sp : Sp} {dvs : List V} {ta : TA} {σ : L2.St} {H : Hp} {Q : XK} (h : ta σ H fun vs H1 => vs.length ≤ 1000 ∧ ∀ a, H1 a = none → sp (.ref a :: (vs ++ dvs)) (upd H1 a (exo a C none)) (fun v H2 => v = .non ∧ ∃ (d : Addr) (fs : List (Str × V)), H2 a = some (exo a C (some d)) ∧ H2 d = some (exd d fs) ∧ H1 d = none ∧ Q (.ref C) (some d) (upd (del H2 a) d (.xd fs))) (fun _ _ _ => False)) : tMkO C sp dvs ta σ H Q := h
theorem x_ost {K : PySem.W.Frag} {f : Str} {to te : TE} {D : Ends} {σ : L2.St} {H : Hp} (h : te σ H fun y H1 => to σ H1 fun x H2 => ∃ a C : Addr, x = .ref a ∧ OexC K C ∧ PySem.W.findIn K (.ref C) f = some none ∧ ((H2 a = some (exo a C none) ∧ ∀ dx, H2 dx = none → dx ≠ a → D.nx σ (upd (upd H2 dx (exd dx [(f, y)])) a (exo a C (some dx)))) ∨ ∃ (dx : Addr) (fs : List (Str × V)), H2 a = some (exo a C (some dx)) ∧ H2 dx = some (exd dx fs) ∧ fs.length ≤ 900 ∧ D.nx σ (upd H2 dx (exd dx ((f, y) :: fs))))) : tOst K f to te D σ H := h
theorem x_sfld {K : PySem.W.Frag} {ta tv : TE} {f : Str} {D : Ends} {σ : L2.St} {H : Hp} (h : tv σ H fun y H1 => ta σ H1 fun x H2 => ∃ a C dx fs, x = .ref a ∧ H2 a = some (.ins C dx fs) ∧ Cls K C ∧ NoAttr K C f ∧ fs.length < 1000 ∧ D.nx σ (upd H2 a (.ins C dx (putF f y fs)))) : sFld K ta tv f D σ H := h
/-- a method, called by its class or through another -/
structure CalM (K : PySem.W.Frag) (f : Addr) (fd : FuncData) (ps : List Str) : Prop where
  k : PySem.W.keepIn K (.ref f) = true
  b : Binds K fd ps []
/-- an own error with one field, set by its __init__ -/
structure ExcF (K : PySem.W.Frag) (C fI : Addr) (f : Str) : Prop where
  T : OexC K C
  i : PySem.W.findIn K (.ref C) "__init__" = some (some (.ref fI))
  t : PySem.W.typeIn K (.ref fI) = some (.type "function")
  n : PySem.W.findIn K (.ref C) f = some none
def spField (C : Addr) (f : Str) : Sp := fun vs H Q _ => ∃ (a : Addr) (v : V), vs = [.ref a, v] ∧ H a = some (exo a C none) ∧ ∀ dx, H dx = none → dx ≠ a → Q .non (upd (upd H dx (exd dx [(f, v)])) a (exo a C (some dx)))
/-- raise C(v): the error's own dict is new, all that was tracked stands -/
theorem mk_field {C : Addr} {f : Str} {v : V} {H : Hp} {Q : XK} (h : ∀ d H', Same H H' → H d = none → H' d = some (.xd [(f, v)]) → Q (.ref C) (some d) H') :
    [v].length ≤ 1000 ∧ ∀ a, H a = none → spField C f (.ref a :: ([v] ++ [])) (upd H a (exo a C none)) (fun v H2 => v = .non ∧ ∃ (d : Addr) (fs : List (Str × V)), H2 a = some (exo a C (some d)) ∧ H2 d = some (exd d fs) ∧ H d = none ∧ Q (.ref C) (some d) (upd (del H2 a) d (.xd fs))) (fun _ _ _ => False) := by
  refine ⟨by show 1 ≤ 1000; decide, fun a ha => ⟨a, v, rfl, upd_same, fun dx hd ne => ⟨rfl, dx, [(f, v)], upd_same, ?_, ?_, ?_⟩⟩⟩
  · rw [upd_ne ne, upd_same]
  · rw [upd_ne ne] at hd
    exact hd
  · rw [upd_ne ne] at hd
    refine h dx _ (fun b o e => ?_) hd upd_same
    have nb := ne_of_none e ha
    rw [upd_ne (ne_of_none e hd), del_ne nb, upd_ne nb, upd_ne (ne_of_none e hd), upd_ne nb]
    exact e
end Fv
set_option maxRecDepth 100000
set_option maxHeartbeats 1000000
namespace Fv
open PySem PySem.Spec L2
/-! tuples of places compared -/
def dn (l : List Nat) : List PyData := l.map fun (n : Nat) => PyData.int (Int.ofNat n)
theorem dpAll_nats {K : PySem.W.Frag} {H : Hp} : ∀ l : List Nat, DpAll K H (nats l) (dn l)
  | [] => .nil
  | a :: l => .cons (.int _) (dpAll_nats l)
theorem dn_lay : ∀ l : List Nat, PyData.canLayAll0 (dn l) = true
  | [] => rfl
  | a :: l => by
    show (PyData.canLay0 (.int (Int.ofNat a)) && PyData.canLayAll0 (dn l)) = true
    rw [dn_lay l]
    rfl
theorem dn_depth : ∀ l : List Nat, PyData.depthAll (dn l) = 0
  | [] => rfl
  | a :: l => by
    show max (PyData.depth (.int (Int.ofNat a))) (PyData.depthAll (dn l)) = 0
    rw [dn_depth l]
    rfl
theorem dn_shaped (l : List Nat) : SeqAt.shaped (.tuple (dn l)) = true := by
  show (PyData.canLayAll0 (dn l) && decide (PyData.depthAll (dn l) + 1 ≤ 64)) = true
  rw [dn_lay, dn_depth]
  rfl
theorem dn_eqv : ∀ l m : List Nat, PyData.eqvAll (dn l) (dn m) = decide (l = m)
  | [], [] => by simp [dn, PyData.eqvAll]
  | [], _ :: _ => by simp [dn, PyData.eqvAll]
  | _ :: _, [] => by simp [dn, PyData.eqvAll]
  | a :: l, b :: m => by
    show PyData.eqvAll (.int (Int.ofNat a) :: dn l) (.int (Int.ofNat b) :: dn m) = _
    rw [PyData.eqvAll, dn_eqv l m, PyData.eqv, Bool.eq_iff_iff]
    simp
    intro _
    omega
section
variable {K : PySem.W.Frag} {H : Hp} {Q : VK} {a b : Addr} {l m : List Nat}
theorem x_eqTup (h1 : SqT K H a (nats l)) (h2 : SqT K H b (nats m)) (q : Q (.bl (decide (l = m))) H) : rEqD K (.ref a) (.ref b) H Q := by
  refine ⟨.tuple (dn l), .tuple (dn m), .tup h1 (dpAll_nats l), .tup h2 (dpAll_nats m), dn_shaped l, dn_shaped m, ?_⟩
  rw [PyData.eqv, dn_eqv]
  exact q
theorem x_neTup (h1 : SqT K H a (nats l)) (h2 : SqT K H b (nats m)) (q : Q (.bl (!decide (l = m))) H) : rNeD K (.ref a) (.ref b) H Q := by
  refine ⟨.tuple (dn l), .tuple (dn m), .tup h1 (dpAll_nats l), .tup h2 (dpAll_nats m), dn_shaped l, dn_shaped m, ?_⟩
  rw [PyData.eqv, dn_eqv]
  exact q
end
/-! x == y by x's own __eq__ -/
structure OwnQ (K : PySem.W.Frag) (C f : Addr) : Prop where
  s : PySem.W.findIn K (.ref C) "__eq__" = some (some (.ref f))
  fn : PySem.W.isFn K (.ref f) = true
def rOwn (C : Addr) (sp : Sp) : R2 := fun x y H Q => ∃ (a b dx : Addr) (fs : List (Str × V)), x = .ref a ∧ y = .ref b ∧ H a = some (.ins C dx fs) ∧ ((∃ dy gs, H b = some (.ins C dy gs)) ∨ ∃ xs, H b = some (.tup xs)) ∧
  sp [.ref a, .ref b] H (fun v H' => ∃ r, v = .bl r ∧ Q (.bl r) H') (fun _ _ _ => False)
theorem tup_apart (K : PySem.W.Frag) (C : Addr) : PySem.W.notFirst K C (.type "tuple") = true := by
  have e : PySem.W.subIn K (.type "tuple") (.ref C) = some false := by
    have e2 : PySem.fastBuiltinMro "tuple" = some [.type "tuple", .type "object"] := by decide +kernel
    show (PySem.fastBuiltinMro "tuple").map (·.contains (Value.ref C)) = some false
    rw [e2]
    rfl
  unfold PySem.W.notFirst
  rw [e]
  rfl
theorem op_own {X : Cx} {C f : Addr} {fd : FuncData} {ps : List Str} {sp : Sp} {n : Nat} (O : OwnQ X.K C f) (F : FnOk X.prog X.w X.K X.mg X.base CX0 n f fd ps sp) (hb : Binds X.K fd ps []) (hr : Room n X.A) : OpR X (compareOp .Eq) (rOwn C sp) := by
  intro pins s σ H x y v u Q I rx ry h
  obtain ⟨a, b, dx, fs, rfl, rfl, ha, hB, hsp⟩ := h
  cases rx
  cases ry
  show wpAny (model X.prog X.w) X.A (richCompare .Eq (.ref a) (.ref b)) (EP X pins σ Q) X.xe s
  obtain ⟨mA, J, _⟩ := ins_get I.hok ha
  obtain ⟨od, J, _⟩ := J.look
  obtain ⟨m, hF⟩ := I.fr
  have r2 : Vals [V.ref a, V.ref b] [Value.ref a, Value.ref b] := .cons rfl (.cons rfl .nil)
  have back : wpAny (model X.prog X.w) X.A (call (.ref f) [.ref a, .ref b]) (PySem.W.CmpBack (EP X pins σ Q)) X.xe s := by
    refine thn (run_fn F hr hb .nil pass0 I r2 hsp) fun w' s' ⟨z, H', I', rz, r, ez, q⟩ => ?_
    subst ez
    cases rz
    exact ⟨.bl r, H', I', rfl, q⟩
  rcases hB with ⟨dy, gs, hB⟩ | ⟨xs, hB⟩
  · obtain ⟨mB, J', _⟩ := ins_get I.hok hB
    obtain ⟨od', J', _⟩ := J'.look
    exact PySem.W.cmp_K (op := .Eq) (tb := .ref C) hr.units0 hF I.ok.mod.kin J J'.type (by simp [PySem.W.notFirst]) O.s O.fn back
  · obtain ⟨_, _, _, o, h1, h2, _⟩ := (show ObjOk X.prog X.w H s.heap b (.tup xs) from I.hok b _ hB)
    exact PySem.W.cmp_K (op := .Eq) (tb := .type "tuple") hr.units0 hF I.ok.mod.kin J (fun A Q E s k q => wpAny_typeOf_ref (k _ _ h1) (by rw [h2]; exact q)) (tup_apart X.K C) O.s O.fn back
/-! what isinstance asks of an own class -/
structure IsC (K : PySem.W.Frag) (C : Addr) : Prop where
  cl : Cls K C
  ha : PySem.W.findIn K (.ref C) "__class__" = some (some (.builtin "object.__class__"))
  hn : PySem.W.specialIn K (.builtin "object.__class__") "__get__" = some (some (.builtin "getset_descriptor.__get__"))
  ht : PySem.W.takesIn K (.builtin "object.__class__") = some true
  hm : PySem.W.mroIn K C (.type "object") = some true
  own : PySem.W.kitOne K (.ref C) (.ref C) = some true
  tup : PySem.W.kitOne K (.type "tuple") (.ref C) = some false
section
variable {K : PySem.W.Frag} {H : Hp} {Q : VK} {a C dx : Addr} {fs : List (Str × V)} {xs : List V}
theorem isi_own (c : IsC K C) (h : H a = some (.ins C dx fs)) (q : Q (.bl true) H) : rIsi K [.ref a, .ref C] H Q := ⟨.ref a, .ref C, .ref C, .ref C, true, rfl, .own C, .base (.ins h c.cl c.ha c.hn c.ht c.hm), c.own, q⟩
theorem isi_tupOwn (c : IsC K C) (h : H a = some (.tup xs)) (q : Q (.bl false) H) : rIsi K [.ref a, .ref C] H Q := ⟨.ref a, .ref C, .type "tuple", .ref C, false, rfl, .own C, .base (.tup h), c.tup, q⟩
theorem x_fldQ {te : TE} {f : Str} {σ : L2.St} (h : te σ H fun x H1 => ∃ a C dx fs v, x = .ref a ∧ H1 a = some (.ins C dx fs) ∧ Cls K C ∧ NoAttr K C f ∧ fs.lookup f = some v ∧ Q v H1) : tFld K te f σ H Q := h
theorem x_fld1 {v : V} {f : Str} (h : H a = some (.ins C dx fs)) (c : Cls K C) (n : NoAttr K C f) (l : fs.lookup f = some v) (q : Q v H) : ∃ a' C' dx' fs' v', V.ref a = .ref a' ∧ H a' = some (.ins C' dx' fs') ∧ Cls K C' ∧ NoAttr K C' f ∧ fs'.lookup f = some v' ∧ Q v' H := ⟨a, C, dx, fs, v, rfl, h, c, n, l, q⟩
end
end Fv
set_option maxRecDepth 100000
set_option maxHeartbeats 1000000
namespace Fv
open PySem PySem.Spec L2 PyProof.Rows
/-- what leaves the body of a try is the wish at any cells of the right number -/
theorem passLen {X : Cx} {W : WX} {n : Nat} (tk : Takes X W) (hn : X.N.length = n) : Passes (L2.CX X.prog X.w) X (fun cls d H => ∀ σ : L2.St, σ.length = n → W cls d σ H) := fun pins σ H s e s' I c => by
  refine passAt tk σ pins H s e s' I ?_
  obtain ⟨a, B, H', cls, d, h1, h2, h3, h4, h5, h6, h7, h8⟩ := c
  exact ⟨a, B, H', cls, d, h1, h2, h3, h4, h5, h6, h7, h8 σ (I.len.trans hn)⟩
/-- isinstance(e, C), e the caught error, which holds a field -/
def rIsF (K : PySem.W.Frag) (D a : Addr) (cls : Value) (d : Option Addr) : List V → Hp → VK → Prop := fun xs H Q => ∃ (C dd : Addr) (fs : List (Str × V)), xs = [.ref a, .ref C] ∧ cls = .ref D ∧ d = some dd ∧ H dd = some (.xd fs) ∧ PySem.W.kitOne K (.ref D) (.ref C) = some true ∧ Q (.bl true) H
theorem call_isF {X : Cx} {a D : Addr} {oe : Obj} {cls : Value} {d : Option Addr} {pn : List (Addr × Obj)} (C : L2.ExcC X.K D) (hz : Zc cls d oe) (hf : ∃ vs, oe.data = .fields vs) : CallR (X.suite a ((a, oe) :: pn)) (.builtin "isinstance") (rIsF X.K D a cls d) := by
  intro pins s σ H xs us Q I r h
  obtain ⟨B, dd, fs, rfl, rfl, rfl, ea, e, q⟩ := h
  cases r with
  | cons rx rr =>
    cases rr with
    | cons rt rr =>
      cases rr
      cases rx
      cases rt
      obtain ⟨hget, _⟩ := I.pin (a, oe) (List.mem_append.mpr (.inl List.mem_cons_self))
      obtain ⟨vs, hv⟩ := hf
      have hx : ObjOk X.prog X.w H s.heap dd (.xd fs) := I.hok dd _ ea
      obtain ⟨mA, hns, hr⟩ := hx
      obtain ⟨od, ho, hl⟩ := lookIn_ns hns
      have J : PySem.W.InstAt s.heap a oe D (some od) := ⟨hget, hz.1, by unfold PySem.W.notCls; rw [hv] <;> rfl, by rw [hz.2]; exact ho⟩
      have hcl : (PySem.W.clsIn X.K D).isSome = true := by
        obtain ⟨cd, hc, _⟩ := PySem.W.any_some C.hd
        rw [hc]
        rfl
      exact PySem.W.kia_one (PySem.W.kitx_exc hcl C.hg C.hk C.hs C.ha C.hn C.ht C.hm) I.kIn J e (fun z => nomatch z) fun tk => ⟨.bl true, H, I.kept (t' := tk) fun _ _ z => z, rfl, q⟩
theorem x_make {C : Addr} {sp : Sp} {dvs : List V} {E : XK} {t : TA} {σ : L2.St} {H : Hp} {Q : VK} (h : t σ H fun vs H1 => ∀ x dx, H1 x = none → H1 dx = none → dx ≠ x → sp (.ref x :: (vs ++ dvs)) (upd (upd H1 dx (.own x)) x (.ins C dx [])) (fun v H2 => v = .non ∧ Q (.ref x) H2) E) : tMake C sp dvs E t σ H Q := h
theorem x_xf {a : Addr} {cls : Value} {d : Option Addr} {C : Addr} {f : Str} {te : TE} {σ : L2.St} {H : Hp} {Q : VK} (h : te σ H fun x H1 => x = .ref a ∧ cls = .ref C ∧ ∃ (dd : Addr) (fs : List (Str × V)) (v : V), d = some dd ∧ H1 dd = some (.xd fs) ∧ fs.lookup f = some v ∧ Q v H1) : tXf a cls d C f te σ H Q := h
end Fv
set_option maxRecDepth 100000
set_option maxHeartbeats 1000000
namespace Fv
open PySem PySem.Spec L2
section
variable {X : Cx} {K : PySem.W.Frag} {H : Hp} {Q : VK} {a b : Addr} {xs ys : List V} {v : V}
/-- a callee from which nothing comes out -/
theorem passE {P : Program} {w : World} : Passes (L2.CX P w) X (fun _ _ _ => False) := fun pins σ H s e s' I c => by
  obtain ⟨a, B, H', cls, d, h1, h2, h3, h4, h5, h6, h7, h8⟩ := c
  exact h8.elim
theorem op_catTK (e : X.K = K) : OpR X (binaryOp .Add) (rCatT K) := by
  subst e
  exact op_catT
theorem op_repTK (e : X.K = K) : OpR X (binaryOp .Mult) (rRepT K) := by
  subst e
  exact op_repT
theorem x_catT (h1 : SqT K H a xs) (h2 : SqT K H b ys) (nx : xs ≠ []) (ny : ys ≠ []) (hl : xs.length + ys.length ≤ 10000) (q : ∀ p, H p = none → Q (.ref p) (upd H p (.tup (xs ++ ys)))) : rCatT K (.ref a) (.ref b) H Q :=
  ⟨a, b, xs, ys, rfl, rfl, h1, h2, nx, szLe (by omega), fun e => (ny e).elim, fun _ => q⟩
theorem x_repT1 {k : Nat} (h : SqT K H a [v]) (h2 : 2 ≤ k) (hk : k ≤ 1000) (q : ∀ p, H p = none → Q (.ref p) (upd H p (.tup (List.replicate k v)))) : rRepT K (.ref a) (.int k) H Q :=
  ⟨a, k, [v], rfl, rfl, h, by simp, by omega, by omega, (by show 1 ≤ 1000; decide), fun p hp => by
    have e := rep_one k v
    rw [Int.toNat_natCast, e]
    exact q p hp⟩
end
end Fv
set_option maxRecDepth 100000
set_option maxHeartbeats 1000000
namespace Fv
open PySem PySem.Spec PyProof.Rows L2
/-! a range kept by a name, and walked -/
def rRng2 : List V → Hp → VK → Prop := fun vs H Q => ∃ i j, vs = [V.int i, V.int j] ∧ ∀ p, H p = none → Q (.ref p) (upd H p (.rng i j))
theorem call_rng2 {X : Cx} : CallR X (.type "range") rRng2 := cr_range2
def iRngV (te : TE) : TI := fun σ H R => te σ H fun x H1 => ∃ (a : Addr) (lo hi : Int), x = .ref a ∧ H1 a = some (.rng lo hi) ∧ (-(2 ^ 62) ≤ lo ∧ lo < 2 ^ 62 ∧ -(2 ^ 62) ≤ hi ∧ hi < 2 ^ 62) ∧ R (Itr lo (hi - lo).toNat) H1
theorem pi_rngV {X : Cx} {tg e : Expr} {te : TE} (he : PE X e te) : PI X tg e (iRngV te) := by
  refine ⟨fun pins s σ H R I h => thn (he.run pins s σ H _ I h) fun u s1 ⟨x, H1, I1, rx, a, lo, hi, ex, ea, ⟨h1, h2, h3, h4⟩, q⟩ => ?_⟩
  subst ex
  obtain rfl : u = Value.ref a := rx
  obtain ⟨t, u, v, ho⟩ := (show ∃ t u v, s1.heap.get? a = some { cls := .type "range", data := .fields #[.int lo t, .int hi u, .int 1 v] } from I1.hok a _ ea)
  refine wpAny_pyIter_range (a := lo) (b := hi) (c := 1) (t := t) (u := u) (v := v) ho (small_one h1 h2 h3 h4) ?_
  refine ⟨s1.heap.objs.size, [s1.heap.objs.size], _, _, H1, rfl, I1.kept (t' := s1.toks) fun b o e => Heap.get?_push_of_some _ e, turn_range _ lo (hi - lo).toNat, ?_, fun b hb => ?_, q⟩
  · have e1 : lo + ((0 : Nat) : Int) * 1 = lo := by simp
    have e2 : (((hi - lo).toNat : Nat) : Int) - ((0 : Nat) : Int) = Builtin.Range.rangeSize lo hi 1 := by rw [rangeSize_one]; split <;> omega
    show IsRangeIter _ _ (lo + ((0 : Nat) : Int) * 1) ((((hi - lo).toNat : Nat) : Int) - ((0 : Nat) : Int)) 1
    rw [e1, e2]
    exact Heap.get?_push_size _ rfl
  · have e : b = s1.heap.objs.size := by simpa using hb
    subst e
    exact I1.fpOk (Nat.le_refl _) (I1.hok.fresh (Nat.le_refl _))
theorem pg_tupK {X : Cx} {K : PySem.W.Frag} {es : List Expr} {k : Nat} {t : TGs} {n : Nat} {pos : Pos} (eK : X.K = K) (hc : X.calm = true) (h : PGs X es t)
    (hn : (assignEach es X.env).length = n := by rfl) (hst : (assignEach es X.env).findIdx? (·.1) = none := by rfl) : PG X (.Tuple es k pos) (gTup K n t) := by
  subst eK
  exact pg_tup hc h hn hst
section
variable {K : PySem.W.Frag} {σ : L2.St} {H : Hp} {Q : VK} {a p : Addr} {xs : List V} {v : V}
theorem x_rng2v {i j : Int} (q : ∀ p, H p = none → Q (.ref p) (upd H p (.rng i j))) : rRng2 [.int i, .int j] H Q := ⟨i, j, rfl, q⟩
theorem x_irngV {R : It → Hp → Prop} {te : TE} (h : te σ H fun x H1 => ∃ (a : Addr) (lo hi : Int), x = .ref a ∧ H1 a = some (.rng lo hi) ∧ (-(2 ^ 62) ≤ lo ∧ lo < 2 ^ 62 ∧ -(2 ^ 62) ≤ hi ∧ hi < 2 ^ 62) ∧ R (Itr lo (hi - lo).toNat) H1) : iRngV te σ H R := h
theorem atI_last (xs : List V) (v : V) : atI (xs ++ [v]) (-1) = some v := by
  unfold atI ixN
  rw [if_neg (by decide), if_pos (by rw [List.length_append]; show -((xs.length + 1 : Nat) : Int) ≤ -1; omega)]
  show (xs ++ [v])[_]? = _
  have e : ((-1 : Int) + ((xs ++ [v]).length : Nat)).toNat = xs.length := by
    rw [List.length_append]
    show ((-1 : Int) + ((xs.length + 1 : Nat) : Int)).toNat = xs.length
    omega
  first
    | (rw [e]; simp)
    | simp
theorem flat_nats (l : List Nat) : (nats l).all flatV = true := by
  rw [List.all_eq_true]
  intro x hx
  obtain ⟨n, _, rfl⟩ := List.mem_map.mp hx
  rfl
theorem in_nats (k : Nat) : ∀ l : List Nat, inV (.int k) (nats l) = decide (k ∈ l)
  | [] => rfl
  | a :: l => by
    show (eqV (.int a) (.int k) || inV (.int k) (nats l)) = decide (k ∈ a :: l)
    rw [in_nats k l, Bool.eq_iff_iff]
    simp only [Bool.or_eq_true, decide_eq_true_eq, List.mem_cons]
    have e : eqV (.int a) (.int k) = decide ((a : Int) = (k : Int)) := by
      show ((a : Int) == (k : Int)) = _
      rfl
    rw [e, decide_eq_true_eq]
    constructor
    · rintro (h | h)
      · exact .inl (by omega)
      · exact .inr h
    · rintro (h | h)
      · exact .inl (by omega)
      · exact .inr h
theorem x_inNT {k : Nat} {l : List Nat} (h : SqT K H p (nats l)) (q : Q (.bl (decide (k ∈ l))) H) : rIn K false (.int k) (.ref p) H Q := by
  refine ⟨p, _, rfl, .inr h, rfl, flat_nats l, ?_⟩
  show Q (.bl (inV (.int k) (nats l))) H
  rw [in_nats]
  exact q
end
end Fv
set_option maxRecDepth 100000
set_option maxHeartbeats 1000000
namespace Fv
open PySem PySem.Spec PySem.Calls PyProof.Rows
/-! an error of the package whose __init__ says super().__init__() and no more -/
def siA (p : Pos) : Arguments := { posonlyargs := [], args := [{ arg := "self", annotation := none, pos := p }], vararg := none, kwonlyargs := [], kw_defaults := [], kwarg := none, defaults := [] }
def siB (p0 p1 p2 p3 p4 : Pos) : List Stmt := [.Expr (.Call (.Attribute (.Call (.Name "super" p0) [] [] p1) "__init__" p2) [] [] p3) p4]
def siS : Scope := { kind := .function, names := [(PySem.Str.ofString "self", .local), (PySem.Str.ofString "__class__", .free), (PySem.Str.ofString "super", .globalImplicit)], isGenerator := false, isCoroutine := false, more := [] }
/-- how the model reads super().__init__(), its places being these -/
def SupEv (p0 p1 p2 p3 : Pos) : Prop := ∀ (q : Str) (L a cc : Addr) (cd : Value), ∃ pl : Sem Bool,
  eval (.Call (.Attribute (.Call (.Name "super" p0) [] [] p1) "__init__" p2) [] [] p3) (PySem.W.ksEnv q siS L a cd cc) = (do
    let o ← attributeBase (.Call (.Name "super" p0) [] [] p1) "__init__" (PySem.W.ksEnv q siS L a cd cc) (eval (.Call (.Name "super" p0) [] [] p1) (PySem.W.ksEnv q siS L a cd cc))
    standAt p2.atName
    let (f, first) ← holding [o] (getMethod o "__init__" pl)
    callWith p3 f first (backTo p3 (starEach [] (PySem.W.ksEnv q siS L a cd cc))) [])
/-- what the written part says of such a class at C, and of its __init__, at fI -/
structure SupC (P : Program) (K : PySem.W.Frag) (C fI : Addr) : Prop where
  x : L2.OexC K C
  iC : PySem.W.findIn K (.ref C) "__init__" = some (some (.ref fI))
  tC : PySem.W.typeIn K (.ref fI) = some (.type "function")
  fn : ∃ (oc : Value) (od : Option Addr) (kV doc pm : Value) (an : Option Addr) (cda : Addr) (ct : Value) (osl : Array (Option Value)) (cc : Addr) (q : Str) (p p0 p1 p2 p3 p4 : Pos),
    K.lookup fI = some ⟨oc, od, .func (PySem.W.ksFn "__init__" q (siA p) (siB p0 p1 p2 p3 p4) siS .none kV doc pm an (.ref cda) ct cc), osl⟩ ∧ PySem.W.codeIn K (.ref cda) q = true ∧ (∃ (cl : Value) (cld : Option Addr) (csl : Array (Option Value)), K.lookup cc = some ⟨cl, cld, .cell (some (.ref C)), csl⟩) ∧
    ∃ (ccl : Value) (cdd : Option Addr) (vs : Array Value) (ccs : Array (Option Value)) (file : Str) (tf : Tok), K.lookup cda = some ⟨ccl, cdd, .fields vs, ccs⟩ ∧ vs[2]? = some (.str file tf) ∧ ((P.main.file : Str) == file) = true ∧ SupEv p0 p1 p2 p3
  up : PySem.W.ks_superIn K C C "__init__" = some (some (.builtin "ValueError.__init__"))
  me : PySem.W.mroIn K C (.ref C) = some true
  ve : PySem.W.subIn K (.ref C) (.type "ValueError") = some true
  op : PySem.W.nsIn K cStatics "thirdparty.any" = some none
  tp : (P.main.scope.names.lookup ("super" : Str)).isSome = false
section
variable {P : Program} {w : World} {A : Around} {R : Result → Shared → Prop} {s : Shared} {K : PySem.W.Frag} {C fI : Addr}
theorem sup_init (T : SupC P K C fI) {x t0 : Addr} {mg mb : Str → Option Value} (X : K.In s.heap) (hlim : s.heap.NoLimit) (hg : s.heap.Ns mainGlobals mg) (hms : mg "super" = none) (hb : s.heap.Ns builtinsNs mb) (hbs : mb "super" = some (.type "super"))
    (hx : s.heap.get? x = some (PySem.HandSPX.excO C t0)) (hroom : A.depth < recursionLimit)
    (hq : ∀ h' tk t1, (∀ b o, b ≠ x → s.heap.get? b = some o → h'.get? b = some o) → h'.get? x = some (PySem.HandSPX.excO C t1) → R (.ok (.ret .none)) { s with heap := h', toks := tk }) :
    codeAny (model P w) A (.call (.ref fI) ⟨[.ref x], []⟩) R s := by
  obtain ⟨oc, od, kV, doc, pm, an, cda, ct, osl, cc, q, p, p0, p1, p2, p3, p4, ho, hcd, ⟨cl, cld, csl, hcell⟩, ccl, cdd, vs, ccs, file, tf, hcode, hvs, hfile, hev⟩ := T.fn
  obtain ⟨nm, q', N, bs, bm, sn, sub, ab, col, dd, k0, k1, k2, k3, k5, hC, hbm⟩ := T.x.cls
  have hcl : PySem.W.clsIn K C = some { name := nm, bases := bs, mro := .ref C :: bm, ns := N, qualname := q', hasDict := true, slotNames := sn, subclasses := sub, abstract := ab, collection := col, hasDel := false } := by
    unfold PySem.W.clsIn
    rw [hC] <;> rfl
  refine ks_codeAny_call_defAt (binds := [("self", .ref x)]) hroom (X _ _ ho) rfl hlim (PySem.W.codeRec_of X hcd) rfl (BindsTo.of_eq rfl) (show ∀ x ∈ siS.names, x.2 ≠ NameKind.cell by decide) (fun y hy => ?_) (fun h₁ hns hk₁ => ?_)
  · simp only [List.mem_cons, List.not_mem_nil, or_false] at hy
    subst hy
    rfl
  have X1 : K.In h₁ := X.keeps hk₁
  have hx1 := hk₁ _ _ hx
  have hC1 := X1 _ _ hC
  obtain ⟨hp, g, d, tk, os⟩ := s
  obtain ⟨pl, he⟩ := hev q hp.objs.size fI cc (.ref cda)
  refine ks_wpAt_execs_cons (ks_wpAt_Expr_any (ks_wpAt_MethodCall (pl := pl) ?_ he))
  refine ks_wpAt_super_base rfl rfl rfl rfl (X1 _ _ ho) rfl rfl rfl (X1 _ _ hcode) rfl hvs hfile T.tp ?_
  refine PySem.W.ks_loadName_global rfl rfl (loadGlobal_builtin (hg.keeps hk₁) hms (hb.keeps hk₁) hbs ⟨rfl, ?_⟩)
  refine wpAny_loadName_free rfl rfl rfl ⟨_, X1 _ _ hcell, rfl⟩ ?_
  refine wpAny_loadName_local (v := .ref x) rfl rfl hns rfl ?_
  refine ks_wpAny_isType_cls hC1 rfl ⟨rfl, ?_⟩
  refine ks_wpAny_call_super hC1 rfl hx1 rfl (fun c e => by cases e) (PySem.W.looks_mroIn X1 T.me) (fun h2 hso k2 => ?_)
  have X2 : K.In h2 := X1.keeps k2
  have hx2 := k2 _ _ hx1
  have I2 : PySem.W.InstAt h2 x (PySem.HandSPX.excO C t0) C none := ⟨hx2, rfl, rfl, trivial⟩
  have hup : PySem.W.alongIn K "__init__" (((Value.ref C :: bm).dropWhile (· != Value.ref C)).drop 1) = some (some (.builtin "ValueError.__init__")) := by
    have e := T.up
    unfold PySem.W.ks_superIn at e
    rw [hcl] at e
    exact e
  refine PySem.W.kxs_getMethod PySem.W.kxs_ValueError hso (PySem.W.looks_opaque X2 T.op) (l₀ := .ref C :: bm) ?_ rfl X2 hup (I2.type.andThen (PySem.W.looks_subIn X2 T.ve)) (PySem.W.ks_ne X2 I2 hcl) (by decide) ?_
  · exact fun A Q E s k q => wpAny_bind (PySem.W.looks_clsIn X2 hcl A _ E s k (wpAny_pure q))
  have hu : (h2.push (PySem.W.kxs_mw "ValueError.__init__" x)).get? h2.objs.size = some (PySem.W.kxs_mw "ValueError.__init__" x) := Heap.get?_push_at rfl rfl
  have k3 : ∀ b o, h2.get? b = some o → (h2.push (PySem.W.kxs_mw "ValueError.__init__" x)).get? b = some o := fun b o e => Heap.get?_push_of_some _ e
  refine PySem.W.kxs_callWith (i := "ValueError.__init__") (x := x) rfl (PyProof.Rows.evalArgs_empty ⟨hu, ?_⟩)
  have FB := PySem.F.excBase_ValueError
  have hC3 := k3 _ _ (X2 _ _ hC)
  have hx3 := k3 _ _ hx2
  refine wpAny_call (codeAny_of_tree ?_)
  show wpAny _ _ (callAny (.ref h2.objs.size) ⟨[], []⟩) _ _ _
  unfold callAny
  refine wpAny_bind (wpAny_load hu ?_)
  show wpAny _ _ (if (Value.type "method-wrapper" == Value.type "method" || Value.type "method-wrapper" == Value.type "builtin_function_or_method" || Value.type "method-wrapper" == Value.type "method-wrapper") = true then
    (if (Value.type "method-wrapper" != Value.type "method") = true then (do checkBoundCall "ValueError.__init__" ⟨[.ref x], []⟩; again (.builtin "ValueError.__init__" ⟨[.ref x], []⟩)) else again (.call (.builtin "ValueError.__init__") ⟨[.ref x], []⟩)) else _) _ _ _
  rw [if_pos (by decide), if_pos (by decide)]
  refine wpAny_bind (PySem.W.check_bound_init FB.toExcCallFacts hC3 hx3 rfl (wpAny_pure ⟨PySem.plainId_quiet FB.init.plain _, codeAny_builtin FB.initEntry ?_⟩))
  refine PySem.W.exc_init_tree (cls := .ref C) (t0 := t0) (dv := none) (c2 := .none) (c3 := .none) (b4 := .bool false) hx3 (by rw [sizeLine_eq]; decide) fun h4 k4 hx4 _ => ?_
  show PySem.wpAt _ _ _ (execs [] _) _ _ _
  exact PySem.wpAt_of_wpAny (wpAny_execs_nil (hq h4 _ _ (fun b o nb e => k4 b o nb (k3 _ _ (k2 _ _ (hk₁ _ _ e)))) hx4))
theorem sup_made (T : SupC P K C fI) {mg mb : Str → Option Value} (X : K.In s.heap) (hlim : s.heap.NoLimit) (hg : s.heap.Ns mainGlobals mg) (hms : mg "super" = none) (hb : s.heap.Ns builtinsNs mb) (hbs : mb "super" = some (.type "super")) (hroom : A.depth + 1 < recursionLimit)
    (hq : ∀ h' tk e t1, (∀ b o, s.heap.get? b = some o → h'.get? b = some o) → s.heap.objs.size ≤ e → h'.get? e = some (PySem.HandSPX.excO C t1) → R (.ok (.ret (.ref e))) { s with heap := h', toks := tk }) :
    codeAny (model P w) A (.call (.ref C) ⟨[], []⟩) R s := by
  obtain ⟨nm, q', N, bs, bm, sn, sub, ab, col, dd, k0, k1, k2, k3, k5, hC, hbm⟩ := T.x.cls
  obtain ⟨hp, g, dr, tk, os⟩ := s
  have k : ∀ b o, hp.get? b = some o → ((hp.push (PySem.W.kdv_tup [])).push (PySem.HandSPX.excO C hp.objs.size)).get? b = some o := fun b o e => Heap.get?_push_of_some _ (Heap.get?_push_of_some _ e)
  have hget : ((hp.push (PySem.W.kdv_tup [])).push (PySem.HandSPX.excO C hp.objs.size)).get? (hp.objs.size + 1) = some (PySem.HandSPX.excO C hp.objs.size) := by heap_get
  refine PySem.HandSPX.call_own PySem.F.excBase_ValueError (fun Y => PySem.HandSPX.refsVE_contains Y bm hbm) (X _ _ hC) (PySem.W.looks_findIn X T.iC) (fun self => PySem.W.bind_fn X self T.tC) (by rw [sizeLine_eq]; decide) ?_
  refine sup_init (s := ⟨(hp.push (PySem.W.kdv_tup [])).push (PySem.HandSPX.excO C hp.objs.size), g, dr, tk, os⟩) T (X.keeps k) (hlim.keeps k) (hg.keeps k) hms (hb.keeps k) hbs hget ?_ fun h' tk' t1 k' hx => ?_
  · show A.depth + 1 < recursionLimit
    exact hroom
  · refine ⟨rfl, hq h' tk' (hp.objs.size + 1) t1 (fun b o e => k' b o ?_ (k b o e)) (Nat.le_succ _) hx⟩
    exact Nat.ne_of_lt (Nat.lt_succ_of_lt (Heap.lt_size e))
end
end Fv
namespace Fv
open PySem PySem.Spec PyProof.Rows L2
/-- C(), C such a class: all that was tracked stands, and no dict is made -/
theorem pmk_sup {X : Cx} {C fI : Addr} {x : Str} {p pos : Pos} (T : SupC X.prog X.K C fI) (hr : Room 1 X.A) (hg : Gl X x) (hm : X.mg x = some (.ref C)) (hs : X.mg "super" = none) (hdb : (x == ("__debug__" : Str)) = false := by decide) :
    PMk X (.Call (.Name x p) [] [] pos) (fun _ H Q => Q (.ref C) none H) := by
  intro pins s σ H Q I h
  refine wpAny_Call_Name_kw (ld_glob I hg hm ?_ hdb)
  refine PySem.W.callWith_K0 I.kIn T.x.kC ?_
  obtain ⟨mb, hb1, hb2⟩ := I.mod.blt
  have hlim := I.nolimit
  have hgl : s.heap.Ns mainGlobals X.mg := I.mod.glob.keeps I.bk
  have hbl : s.heap.Ns builtinsNs mb := hb1.keeps I.bk
  obtain ⟨hp, g, d, t, os⟩ := s
  refine wpAny_call (sup_made T I.kIn hlim hgl hs hbl ((hb2 "super" (by decide)).trans (by first | rfl | decide +kernel | kernel_rfl)) (by have := hr.dp; omega) fun h' tk' e t1 k ge hx => ?_)
  obtain ⟨G', g1, g2⟩ := restrict h' fun b => decide (b ≠ e)
  have gk : ∀ b, b ≠ e → G'.get? b = h'.get? b := fun b hb => g1 b (decide_eq_true hb)
  have g0 : G'.get? e = none := g2 e (by simp)
  have old : ∀ b o, hp.get? b = some o → G'.get? b = some o := fun b o q => (gk b (Nat.ne_of_lt (Nat.lt_of_lt_of_le (Heap.lt_size q) ge))).trans (k b o q)
  have J : Inv X pins σ H ⟨G', g, d, tk', os⟩ := I.kept (t' := tk') old
  refine ⟨e, _, _, ⟨G', g, d, tk', os⟩, H, .ref C, none, rfl, J, fun b o q => ?_, g0, hx, ⟨rfl, rfl⟩, rfl, rfl, I.hok.fresh ge, rfl, I.bare, raises_own T.x.exC T.x.tyC, h⟩
  by_cases hb : b = e
  · have q' : G'.get? b = some o := q
    rw [hb, g0] at q'
    cases q'
  · exact (gk b hb).symm.trans q
end Fv
set_option maxRecDepth 100000
set_option maxHeartbeats 1000000
namespace Fv
open PySem PySem.Spec PyProof.Rows L2
/-! sorted(t), t a tuple of whole numbers -/
def rSortT (K : PySem.W.Frag) : List V → Hp → VK → Prop := fun vs H Q => ∃ (a : Addr) (ns : List Int), vs = [V.ref a] ∧ SqT K H a (ns.map V.int) ∧ ns.length < 64 ∧
  ∀ (zs : List Int) (p : Addr), zs.Perm ns → zs.Pairwise (· ≤ ·) → H p = none → Q (.ref p) (upd H p (.lst (zs.map V.int)))
theorem cr_sortT {X : Cx} {K : PySem.W.Frag} (e : X.K = K) : CallR X (.builtin "sorted") (rSortT K) := by
  subst e
  intro pins s σ H vs us Q I r h
  obtain ⟨a, ns, rfl, hs, h64, q⟩ := h
  obtain ⟨its, rv, pt, hz⟩ := I.tuple hs
  rw [Vals.ref1 r]
  have hi := rv.ints
  have hl : its.length = ns.length := hi.length
  obtain ⟨o, ho, hc, n, hd⟩ := id pt
  refine Calls.call_function_entry kind_sorted plain_sorted entry_sorted (args_sorted1 _) ?_
  unfold Builtin.«sorted»
  refine wpAny_bind (m := checkCount "sorted" 1 1 _) (wpAny_pure (wpAny_bind (wpAny_collect_seq a (.inr rfl) ho hc hd (fun h' k => wpAny_bind (wpAny_newList ?_)) ?_)))
  · have hoL : (h'.push (seqObj "list" its.toArray 0)).get? h'.objs.size = some (seqObj "list" its.toArray 0) := Heap.get?_push_size _ rfl
    have J : Inv X pins σ H { s with heap := h', toks := s.toks } := I.kept (t' := s.toks) k
    show wpAny _ _ _ _ _ { s with heap := h'.push (seqObj "list" its.toArray 0) }
    refine wpAny_bind (wpAny_holding (wpAny_call_entry slot_list_sort ⟨_, hoL, rfl⟩ entry_list_sort (list_sort_tree hoL hi (by rw [hl]; exact h64) fun out zs a1 a2 a3 => ⟨_, rfl, wpAny_pure ⟨_, rfl, ?_⟩⟩) (args_list_sort _)))
    obtain ⟨ep, he⟩ := sortedHeap_at (vs := its) (out := out) hoL
    have hlen : (zs.map V.int).length ≤ sizeLine := by rw [List.length_map, a2.length_eq]; exact szLe (by omega)
    refine ⟨.ref h'.objs.size, upd H h'.objs.size (.lst (zs.map V.int)), J.laid (t' := s.toks) (fun b u e => ?_) (Nat.le_refl _) ⟨hlen, out.toList, ep, vals_of_ints a1, he⟩, rfl, q zs _ a2 a3 (J.hok.fresh (Nat.le_refl _))⟩
    have hb := Heap.lt_size e
    refine (sortedHeap_old (Nat.ne_of_lt hb) (by rw [size_push']; exact Nat.lt_succ_of_lt hb)).trans ?_
    exact Heap.get?_push_of_some _ e
  · rw [List.size_toArray, hl]
    exact szLe (by omega)
end Fv
/-! trees with a block hung elsewhere, or called anew -/
namespace Fv
def wayN (hs : List Nat) : Nat → Nat → List Nat
  | 0, _ => []
  | n + 1, k => if k = 0 then [] else up hs k :: wayN hs n (up hs k)
def way (hs : List Nat) (k : Nat) : List Nat := wayN hs hs.length k
theorem way_mem (hs : List Nat) (x : Nat) : ∀ n k, x ∈ wayN hs n k ↔ ∃ j, j < n ∧ upN hs j k ≠ 0 ∧ upN hs (j + 1) k = x
  | 0, k => by
    constructor
    · intro h
      cases h
    · rintro ⟨j, h, _⟩
      omega
  | n + 1, k => by
    show x ∈ (if k = 0 then [] else up hs k :: wayN hs n (up hs k)) ↔ _
    by_cases h0 : k = 0
    · rw [if_pos h0]
      constructor
      · intro h
        cases h
      · rintro ⟨j, _, h, _⟩
        rw [h0] at h
        exact (h (upN_zero hs j)).elim
    · rw [if_neg h0, List.mem_cons, way_mem hs x n (up hs k)]
      constructor
      · rintro (rfl | ⟨j, h1, h2, h3⟩)
        · exact ⟨0, by omega, h0, rfl⟩
        · exact ⟨j + 1, by omega, h2, h3⟩
      · rintro ⟨j, h1, h2, h3⟩
        cases j with
        | zero => exact .inl h3.symm
        | succ j => exact .inr ⟨j, by omega, h2, h3⟩
theorem up_get {hs : List Nat} {k : Nat} (h1 : 1 ≤ k) (h2 : k ≤ hs.length) : hs[k - 1]? = some (up hs k) := by
  have h : k - 1 < hs.length := by omega
  rw [List.getElem?_eq_getElem h, up_at (by omega) (List.getElem?_eq_getElem h)]
/-- on the way from p: b is p, or above it -/
theorem on_way {hs : List Nat} (t : IsTree hs) {b p : Nat} (hb : 1 ≤ b) (hp : p ≤ hs.length) (n1 : p ≠ b) (n2 : b ∉ way hs p) : ∀ j, upN hs j p ≠ b := by
  intro j e
  cases j with
  | zero => exact n1 e
  | succ j =>
    have nz : upN hs j p ≠ 0 := fun h => by
      rw [upN_succ, h] at e
      have : up hs 0 = 0 := rfl
      omega
    refine n2 ((way_mem hs b _ _).mpr ⟨j, ?_, nz, e⟩)
    refine Nat.lt_of_not_le fun hle => nz ?_
    exact upN_more (t.comes p hp) hle
/-- block b under p -/
def put (hs : List Nat) (b p : Nat) : List Nat := hs.set (b - 1) p
theorem put_len (hs : List Nat) (b p : Nat) : (put hs b p).length = hs.length := List.length_set
theorem up_put {hs : List Nat} {b p : Nat} (hb : 1 ≤ b) (hb2 : b ≤ hs.length) (k : Nat) : up (put hs b p) k = if k = b then p else up hs k := by
  unfold up put
  by_cases h0 : k = 0
  · rw [if_pos h0, if_neg (by omega), if_pos h0]
  · rw [if_neg h0, if_neg h0, List.getD_eq_getElem?_getD, List.getElem?_set, List.getD_eq_getElem?_getD]
    by_cases h : k = b
    · subst h
      rw [if_pos rfl, if_pos rfl, if_pos (by omega)]
      rfl
    · rw [if_neg (by omega), if_neg h]
theorem upN_put {hs : List Nat} {b p : Nat} (hb : 1 ≤ b) (hb2 : b ≤ hs.length) {k : Nat} : ∀ j, (∀ i, i < j → upN hs i k ≠ b) → upN (put hs b p) j k = upN hs j k
  | 0, _ => rfl
  | j + 1, h => by
    rw [upN_succ, upN_succ, upN_put hb hb2 j fun i hi => h i (by omega), up_put hb hb2, if_neg (h j (by omega))]
theorem put_tree {hs : List Nat} (t : IsTree hs) {b p : Nat} (hb : 1 ≤ b) (hb2 : b ≤ hs.length) (hp : p ≤ hs.length) (n1 : p ≠ b) (n2 : b ∉ way hs p) : IsTree (put hs b p) := by
  have np := on_way t hb hp n1 n2
  have hle : ∀ x ∈ put hs b p, x ≤ (put hs b p).length := fun x hx => by
    rw [put_len]
    rcases List.mem_or_eq_of_mem_set hx with hx | rfl
    · exact t.le x hx
    · exact hp
  have hpz : upN (put hs b p) hs.length p = 0 := by
    rw [upN_put hb hb2 _ fun i _ => np i]
    exact t.comes p hp
  refine ⟨by rw [put_len]; exact t.pos, by rw [put_len]; exact t.most, hle, fun k hk => ?_⟩
  have hk' : k ≤ hs.length := by rwa [put_len] at hk
  have go : ∀ j, upN hs j k = b → upN (put hs b p) (put hs b p).length k = 0 := by
    intro j
    induction j using Nat.strongRecOn with
    | ind j ih =>
      intro hj
      by_cases hx : ∃ i, i < j ∧ upN hs i k = b
      · obtain ⟨i, hi, e⟩ := hx
        exact ih i hi e
      · have e := upN_put (p := p) hb hb2 (k := k) j fun i hi e => hx ⟨i, hi, e⟩
        refine comes_by (j := j + (1 + hs.length)) hle hk ?_
        rw [upN_add, e, hj, upN_add]
        show upN (put hs b p) hs.length (up (put hs b p) b) = 0
        rw [up_put hb hb2, if_pos rfl]
        exact hpz
  by_cases hx : ∃ j, upN hs j k = b
  · obtain ⟨j, e⟩ := hx
    exact go j e
  · refine comes_by (j := hs.length) hle hk ?_
    rw [upN_put hb hb2 _ fun i _ e => hx ⟨i, e⟩]
    exact t.comes k hk'
/-! names -/
def IsOrd (n : Nat) (ms : List Nat) : Prop := ms.Perm (List.range' 1 n)
theorem IsOrd.len {n : Nat} {ms : List Nat} (o : IsOrd n ms) : ms.length = n := by rw [o.length_eq, List.length_range']
theorem IsOrd.mem {n : Nat} {ms : List Nat} (o : IsOrd n ms) {x : Nat} : x ∈ ms ↔ 1 ≤ x ∧ x ≤ n := by
  rw [o.mem_iff, List.mem_range'_1]
  omega
theorem IsOrd.nodup {n : Nat} {ms : List Nat} (o : IsOrd n ms) : ms.Nodup := o.nodup_iff.mpr List.nodup_range'
theorem IsOrd.rg {n k : Nat} {ms : List Nat} (o : IsOrd n ms) (h1 : 1 ≤ k) (h2 : k ≤ n) : 1 ≤ up ms k ∧ up ms k ≤ n := o.mem.mp (List.mem_of_getElem? (up_get h1 (by rw [o.len]; exact h2)))
theorem IsOrd.rg0 {n k : Nat} {ms : List Nat} (o : IsOrd n ms) (h2 : k ≤ n) : up ms k ≤ n := by
  by_cases h : k = 0
  · subst h
    exact Nat.zero_le _
  · exact (o.rg (by omega) h2).2
theorem IsOrd.inj {n k l : Nat} {ms : List Nat} (o : IsOrd n ms) (hk : k ≤ n) (hl : l ≤ n) (e : up ms k = up ms l) : k = l := by
  by_cases hk0 : k = 0
  · subst hk0
    by_cases hl0 : l = 0
    · exact hl0.symm
    · have := (o.rg (k := l) (by omega) hl).1
      rw [← e] at this
      exact absurd this (by show ¬ 1 ≤ 0; omega)
  · by_cases hl0 : l = 0
    · subst hl0
      have := (o.rg (k := k) (by omega) hk).1
      rw [e] at this
      exact absurd this (by show ¬ 1 ≤ 0; omega)
    · have h1 := up_get (hs := ms) (k := k) (by omega) (by rw [o.len]; exact hk)
      have h2 := up_get (hs := ms) (k := l) (by omega) (by rw [o.len]; exact hl)
      rw [e] at h1
      have h3 : k - 1 < ms.length := by rw [o.len]; omega
      have := (List.getElem?_inj h3 o.nodup).mp (h1.trans h2.symm)
      omega
theorem IsOrd.surj {n x : Nat} {ms : List Nat} (o : IsOrd n ms) (h1 : 1 ≤ x) (h2 : x ≤ n) : ∃ k, 1 ≤ k ∧ k ≤ n ∧ up ms k = x := by
  obtain ⟨i, hi, e⟩ := List.getElem_of_mem (o.mem.mpr ⟨h1, h2⟩)
  have := o.len
  exact ⟨i + 1, by omega, by omega, up_at (by omega) (by rw [Nat.add_sub_cancel, List.getElem?_eq_getElem hi, e])⟩
/-- the first i blocks called anew -/
def callN (hs ms : List Nat) : Nat → List Nat
  | 0 => List.replicate hs.length 0
  | i + 1 => (callN hs ms i).set (up ms (i + 1) - 1) (up ms (up hs (i + 1)))
def call2 (hs ms : List Nat) : List Nat := callN hs ms hs.length
theorem callN_len (hs ms : List Nat) : ∀ i, (callN hs ms i).length = hs.length
  | 0 => List.length_replicate
  | i + 1 => by
    show ((callN hs ms i).set _ _).length = _
    rw [List.length_set, callN_len hs ms i]
theorem callN_get {hs ms : List Nat} (o : IsOrd hs.length ms) : ∀ i, i ≤ hs.length → ∀ c, 1 ≤ c → c ≤ i → (callN hs ms i)[up ms c - 1]? = some (up ms (up hs c))
  | 0, _, c, h1, h2 => absurd h2 (by omega)
  | i + 1, hi, c, h1, h2 => by
    show ((callN hs ms i).set (up ms (i + 1) - 1) (up ms (up hs (i + 1))))[up ms c - 1]? = _
    have a := o.rg (k := i + 1) (by omega) hi
    have b := o.rg (k := c) h1 (by omega)
    rw [List.getElem?_set]
    by_cases e : c = i + 1
    · subst e
      rw [if_pos rfl, if_pos (by rw [callN_len]; omega)]
    · have ne : up ms (i + 1) - 1 ≠ up ms c - 1 := fun h => e (o.inj (by omega) hi (by omega))
      rw [if_neg ne]
      exact callN_get o i (by omega) c h1 (by omega)
theorem call2_len (hs ms : List Nat) : (call2 hs ms).length = hs.length := callN_len hs ms _
theorem call2_up {hs ms : List Nat} (o : IsOrd hs.length ms) {c : Nat} (h2 : c ≤ hs.length) : up (call2 hs ms) (up ms c) = up ms (up hs c) := by
  by_cases h0 : c = 0
  · subst h0
    rfl
  · have a := o.rg (k := c) (by omega) h2
    exact up_at (by omega) (callN_get o _ (Nat.le_refl _) c (by omega) h2)
theorem call2_upN {hs ms : List Nat} (t : IsTree hs) (o : IsOrd hs.length ms) {c : Nat} (h2 : c ≤ hs.length) : ∀ j, upN (call2 hs ms) j (up ms c) = up ms (upN hs j c)
  | 0 => rfl
  | j + 1 => by
    rw [upN_succ, upN_succ, call2_upN t o h2 j]
    exact call2_up o (upN_le t.le j c h2)
/-- two lists that tell alike of all blocks -/
theorem same_ups {xs ys : List Nat} (hl : xs.length = ys.length) (h : ∀ k, 1 ≤ k → k ≤ xs.length → up xs k = up ys k) : xs = ys := by
  refine List.ext_getElem? fun i => ?_
  by_cases hi : i < xs.length
  · have a := up_get (hs := xs) (k := i + 1) (by omega) (by omega)
    have b := up_get (hs := ys) (k := i + 1) (by omega) (by omega)
    rw [Nat.add_sub_cancel] at a b
    rw [a, b, h (i + 1) (by omega) (by omega)]
  · rw [List.getElem?_eq_none (by omega), List.getElem?_eq_none (by omega)]
theorem call2_tree {hs ms : List Nat} (t : IsTree hs) (o : IsOrd hs.length ms) : IsTree (call2 hs ms) := by
  refine ⟨by rw [call2_len]; exact t.pos, by rw [call2_len]; exact t.most, fun x hx => ?_, fun k hk => ?_⟩
  · rw [call2_len]
    obtain ⟨i, hi, e⟩ := List.getElem_of_mem hx
    rw [call2_len] at hi
    obtain ⟨c, c1, c2, ec⟩ := o.surj (x := i + 1) (by omega) (by omega)
    have hu := call2_up o c2
    rw [ec] at hu
    have hg := up_get (hs := call2 hs ms) (k := i + 1) (by omega) (by rw [call2_len]; omega)
    rw [Nat.add_sub_cancel, List.getElem?_eq_getElem (by rw [call2_len]; exact hi), hu] at hg
    rw [← e, Option.some.inj hg]
    exact o.rg0 (up_le t.le c)
  · rw [call2_len] at hk ⊢
    by_cases h0 : k = 0
    · subst h0
      exact upN_zero _ _
    · obtain ⟨c, c1, c2, ec⟩ := o.surj (x := k) (by omega) hk
      rw [← ec, call2_upN t o c2, t.comes c c2]
      rfl
/-- called behind moved, and moved behind called -/
theorem call_put {hs ms : List Nat} (o : IsOrd hs.length ms) {b p : Nat} (hb : 1 ≤ b) (hb2 : b ≤ hs.length) (hp : p ≤ hs.length) : call2 (put hs b p) ms = put (call2 hs ms) (up ms b) (up ms p) := by
  have rb := o.rg hb hb2
  have op : IsOrd (put hs b p).length ms := by
    rw [put_len]
    exact o
  refine same_ups (by rw [call2_len, put_len, put_len, call2_len]) fun k h1 h2 => ?_
  rw [call2_len, put_len] at h2
  obtain ⟨c, c1, c2, ec⟩ := o.surj h1 h2
  rw [← ec, call2_up op (by rw [put_len]; exact c2), up_put hb hb2, up_put (by omega) (by rw [call2_len]; omega), call2_up o c2]
  by_cases e : c = b
  · subst e
    rw [if_pos rfl, if_pos rfl]
  · rw [if_neg e, if_neg fun h => e (o.inj c2 hb2 h)]
theorem call_free {hs ms : List Nat} (t : IsTree hs) (o : IsOrd hs.length ms) {b p : Nat} (hb : 1 ≤ b) (hb2 : b ≤ hs.length) (hp : p ≤ hs.length) (n1 : p ≠ b) (n2 : b ∉ way hs p) : up ms p ≠ up ms b ∧ up ms b ∉ way (call2 hs ms) (up ms p) := by
  refine ⟨fun e => n1 (o.inj hp hb2 e), fun h => ?_⟩
  obtain ⟨j, _, _, e⟩ := (way_mem _ _ _ _).mp h
  rw [call2_upN t o hp] at e
  exact on_way t hb hp n1 n2 (j + 1) (o.inj (upN_le t.le _ p hp) hb2 e)
/-- in the order turned about it is the first one again -/
theorem call_back {hs ms ks : List Nat} (t : IsTree hs) (o : IsOrd hs.length ms) (o' : IsOrd hs.length ks) (h : ∀ b, 1 ≤ b → b ≤ hs.length → up ks (up ms b) = b) : call2 (call2 hs ms) ks = hs := by
  have o2 : IsOrd (call2 hs ms).length ks := by
    rw [call2_len]
    exact o'
  refine same_ups (by rw [call2_len, call2_len]) fun k h1 h2 => ?_
  rw [call2_len, call2_len] at h2
  have rk := o.rg h1 h2
  have e := call2_up o2 (c := up ms k) (by rw [call2_len]; exact rk.2)
  rw [h k h1 h2, call2_up o h2] at e
  rw [e]
  by_cases h0 : up hs k = 0
  · rw [h0]
    rfl
  · exact h _ (by omega) (up_le t.le k)
end Fv
set_option maxRecDepth 100000
set_option maxHeartbeats 1000000
namespace Fv
open PySem PySem.Spec L2
section
variable {X : Cx} {K : PySem.W.Frag} {H : Hp} {Q : VK} {σ : L2.St} {a b : Addr} {xs ys : List V} {l m : List Nat}
theorem sl_tupAK (e : X.K = K) : SlR X (rSlA K) := by
  subst e
  exact sl_tupA
theorem op_catAK (e : X.K = K) : OpR X (binaryOp .Add) (rCatA K) := by
  subst e
  exact op_catA
theorem x_slA {lo hi : Option Int} (h : H a = some (.tup xs)) (q : ∀ D H', Same H H' → H' D = some (.tup (cutV xs lo hi)) → Q (.ref D) H') : rSlA K (.ref a) lo hi H Q := by
  refine ⟨a, xs, rfl, .of h, fun hw => ?_, fun _ p hp => q p _ (same_new (Same.refl _) hp) upd_same⟩
  refine q a H (Same.refl _) ?_
  rw [h]
  unfold cutV
  rw [hw.1, hw.2, List.drop_zero, Nat.sub_zero, List.take_length]
theorem x_catA (h1 : H a = some (.tup xs)) (h2 : H b = some (.tup ys)) (hl : xs.length + ys.length ≤ 10000) (q : ∀ D H', Same H H' → H' D = some (.tup (xs ++ ys)) → Q (.ref D) H') : rCatA K (.ref a) (.ref b) H Q := by
  refine ⟨a, b, xs, ys, rfl, rfl, .of h1, .of h2, szLe (by omega), fun e => ?_, fun _ e => ?_, fun _ _ p hp => q p _ (same_new (Same.refl _) hp) upd_same⟩
  · subst e
    exact q b H (Same.refl _) h2
  · subst e
    exact q a H (Same.refl _) (by rw [h1, List.append_nil])
theorem cut_take (xs : List V) (k : Nat) : cutV xs none (some (k : Int)) = xs.take k := by
  unfold cutV
  rw [HT.sIx_none, HT.sIx_nat, List.drop_zero, Nat.sub_zero]
  by_cases h : k ≤ xs.length
  · rw [Nat.min_eq_left h]
  · rw [Nat.min_eq_right (by omega), List.take_length, List.take_of_length_le (by omega)]
theorem cut_drop (xs : List V) (k : Nat) : cutV xs (some (k : Int)) none = xs.drop k := by
  unfold cutV
  rw [HT.sIx_nat, HT.sIx_none]
  by_cases h : k ≤ xs.length
  · rw [Nat.min_eq_left h]
    exact List.take_of_length_le (by rw [List.length_drop]; exact Nat.le_refl _)
  · rw [Nat.min_eq_right (by omega), List.drop_length, List.drop_of_length_le (by omega), List.take_nil]
theorem put_cut {hs : List Nat} {b p : Nat} (h1 : 1 ≤ b) (h2 : b ≤ hs.length) : (nats hs).take (b - 1) ++ [V.int (p : Nat)] ++ (nats hs).drop b = nats (put hs b p) := by
  have e : put hs b p = hs.take (b - 1) ++ p :: hs.drop (b - 1 + 1) := by
    unfold put
    rw [List.set_eq_take_append_cons_drop, if_pos (by omega)]
  rw [e, nats_append, Nat.sub_add_cancel h1, List.append_assoc]
  unfold nats
  rw [List.map_take, List.map_cons, List.map_drop]
  rfl
theorem x_eqLst (h1 : SqL K H a (nats l)) (h2 : SqL K H b (nats m)) (q : Q (.bl (decide (l = m))) H) : rEqD K (.ref a) (.ref b) H Q := by
  refine ⟨.list (dn l), .list (dn m), .lst h1 (dpAll_nats l), .lst h2 (dpAll_nats m), ?_, ?_, ?_⟩
  · have := dn_shaped l
    exact this
  · have := dn_shaped m
    exact this
  · rw [PyData.eqv, dn_eqv]
    exact q
theorem x_inNL {k : Nat} (h : SqL K H a (nats l)) (q : Q (.bl (decide (k ∈ l))) H) : rIn K false (.int k) (.ref a) H Q := by
  refine ⟨a, _, rfl, .inl h, rfl, flat_nats l, ?_⟩
  show Q (.bl (inV (.int k) (nats l))) H
  rw [in_nats]
  exact q
theorem take_snoc {α : Type} {l : List α} {i : Nat} {x : α} (h : l[i]? = some x) : l.take (i + 1) = l.take i ++ [x] := by
  rw [List.take_succ, h]
  rfl
theorem x_star {te : TE} {t : TA} {R : List V → Hp → Prop} (h : te σ H fun x H1 => ∃ p xs, x = V.ref p ∧ (SqT K H1 p xs ∨ SqL K H1 p xs) ∧ t σ H1 fun ys H2 => R (xs ++ ys) H2) : StX.tStar K te t σ H R := h
theorem x_sortT {ns : List Int} (h : SqT K H a (ns.map V.int)) (h64 : ns.length < 64) (q : ∀ (zs : List Int) (p : Addr), zs.Perm ns → zs.Pairwise (· ≤ ·) → H p = none → Q (.ref p) (upd H p (.lst (zs.map V.int)))) : rSortT K [.ref a] H Q := ⟨a, ns, rfl, h, h64, q⟩
/-- an order of all blocks, in order -/
theorem sorted_ord {n : Nat} {ms : List Nat} {zs : List Int} (o : IsOrd n ms) (hp : zs.Perm (ms.map fun (k : Nat) => (k : Int))) (hs : zs.Pairwise (· ≤ ·)) : zs.map V.int = nats (List.range' 1 n) := by
  have e : zs = (List.range' 1 n).map fun (k : Nat) => (k : Int) := by
    refine (hp.trans (o.map _)).eq_of_pairwise (fun a b _ _ h1 h2 => Int.le_antisymm h1 h2) hs ?_
    rw [List.pairwise_map]
    refine (List.pairwise_le_range' (s := 1) (n := n)).imp fun {x y} hxy => ?_
    exact Int.ofNat_le.mpr hxy
  rw [e, List.map_map]
  rfl
theorem nats_ints (l : List Nat) : (l.map fun (k : Nat) => (k : Int)).map V.int = nats l := by
  rw [List.map_map]
  rfl
theorem names_at {ms : List Nat} {k : Nat} (h : k ≤ ms.length) : atI (nats (0 :: ms)) (k : Int) = some (.int (up ms k : Nat)) := by
  refine nats_at ?_
  cases k with
  | zero => rfl
  | succ k => exact up_get (hs := ms) (k := k + 1) (by omega) h
end
theorem below_mem {hs : List Nat} {b p : Nat} (hp : p ≤ hs.length) : p ∈ (List.range' 1 hs.length).filter (fun c => decide (b ∈ way hs c)) ↔ b ∈ way hs p := by
  rw [List.mem_filter, List.mem_range'_1, decide_eq_true_eq]
  constructor
  · exact fun h => h.2
  · intro h
    refine ⟨⟨?_, by omega⟩, h⟩
    refine Nat.one_le_iff_ne_zero.mpr fun e => ?_
    subst e
    obtain ⟨j, _, nz, _⟩ := (way_mem hs b _ _).mp h
    exact nz (upN_zero hs j)
end Fv
set_option maxRecDepth 100000
set_option maxHeartbeats 1000000
namespace PySem
open Sem (wp)
set_option maxHeartbeats 1000000 in
theorem meets_enumerate_new0 {v : Value} {o : Obj} {H : Heap → Prop} (B : Begins v o H) :
    Meets (Builtin.«enumerate.__new__» ⟨[.type "enumerate", v], []⟩) (fun _ R s => H s.heap ∧
      R (.ok (.ret (.ref (s.heap.push o).objs.size))) { s with heap := (s.heap.push o).push { cls := .type "enumerate", data := .fields #[.none, .bool false, .ref s.heap.objs.size, rawInt 0, .none, .none] } }) :=
  .of_wp fun prog w A R s h => by
    obtain ⟨hp, g, d, tk, os⟩ := s; obtain ⟨h1, h⟩ := h
    have hsub := sub_enumerate
    have q1 : ∀ {A' : Around} {E : Value → Shared → Prop} {Q : Value → Shared → Prop}, Q (.ref hp.objs.size) ⟨hp.push o, g, d, tk, os⟩ → wpAny (model prog w) A' (pyIter v) Q E ⟨hp, g, d, tk, os⟩ :=
      fun q => B.iter prog w _ _ ⟨hp, g, d, tk, os⟩ _ h1 q
    wp_walk using q1
    refine wpAny_stack_any fun st => wpAny_pure ?_
    split
    · rename_i c _ _ _ _ _
      cases (c == Value.type "enumerate")
      · wp_walk using q1
        exact ⟨_, rfl, h⟩
      · wp_walk using q1
        exact ⟨_, rfl, h⟩
    · wp_walk using q1
      exact ⟨_, rfl, h⟩
section
variable {prog : Program} {w : World} {A : Around} {E : Value → Shared → Prop} {s : Shared}
theorem enum_begins0 {v : Value} {o : Obj} {H : Heap → Prop} {Q : Value → Shared → Prop} (B : Begins v o H) (h1 : H s.heap)
    (h : ∀ h', IsEnum h' (s.heap.objs.size + 1) s.heap.objs.size 0 .none → h'.get? s.heap.objs.size = some o → h'.objs.size = s.heap.objs.size + 2 →
      (∀ b o, s.heap.get? b = some o → h'.get? b = some o) → Q (.ref (s.heap.objs.size + 1)) { s with heap := h' }) :
    wpAny (model prog w) A (call (.type "enumerate") [v]) Q E s := by
  refine callType_new F.called_enumerate (by decide) (F.typeCall_enumerate_1 _) (F.newCall_enumerate_1 _) (fun obj => F.args_object_init_2 obj _) F.entry_enumerate_new
    (meets_enumerate_new0 B) ⟨h1, ?_⟩
  have hz : (s.heap.push o).objs.size = s.heap.objs.size + 1 := Heap.size_push ..
  show _ ∧ _
  rw [hz]
  have he : IsEnum ((s.heap.push o).push { cls := .type "enumerate", data := .fields #[.none, .bool false, .ref s.heap.objs.size, rawInt 0, .none, .none] }) (s.heap.objs.size + 1) s.heap.objs.size 0 .none := by
    have := Heap.get?_push_size (s.heap.push o) (o := { cls := .type "enumerate", data := .fields #[.none, .bool false, .ref s.heap.objs.size, rawInt 0, .none, .none] }) rfl
    rw [hz] at this; exact this
  refine ⟨⟨_, he, rfl⟩, h _ he (Heap.get?_push_of_some _ (Heap.get?_push_size _ B.free)) (by rw [Heap.size_push, hz]) fun b o x => Heap.get?_push_of_some _ (Heap.get?_push_of_some _ x)⟩
end
end PySem
namespace Fv
open PySem PySem.Spec L2
theorem pi_enumT0 {X : Cx} {K : PySem.W.Frag} {e : Expr} {ta : TA} {p pos tpos : Pos} {elts : List Expr} {kk : Nat} (eK : X.K = K) (hc : X.calm = true) (hg : Gl X "enumerate") (hm : X.mg "enumerate" = none) (ha : PA X [e] ta) (hs : starEach [e] X.env = [(false, eval e X.env)] := by rfl) :
    PI X (.Tuple elts kk tpos) (.Call (.Name "enumerate" p) [e] [] pos) (iEnT K 0 ta) := by
  subst eK
  refine ⟨fun pins s σ H R I h => ?_⟩
  refine PyProof.Rows.Call_ (ld_blt I hg hm (u := .type "enumerate") (by decide +kernel) (PyProof.Rows.callWith_type1 (thn (ha.run pos pins s σ H _ I h) fun us s1 ⟨vs, H1, I1, r1, t, xs, ex, hq, q⟩ => ?_) hs rfl))
  subst ex
  cases r1 with
  | cons r rr =>
    cases rr
    cases r
    obtain ⟨its, rv, p', hz⟩ := I1.tuple hq
    refine enum_begins0 (begins_tuple t its.toArray) (isTuple_of p') fun h' he hit hsz hkp => wpAny_pyIter_enum he ?_
    have I3 : Inv X pins σ H1 { s1 with heap := h' } := I1.kept (t' := s1.toks) hkp
    have ht : t < s1.heap.objs.size := p'.lt
    have hn : ∀ b, s1.heap.objs.size ≤ b → H1 b = none := fun b hb => I1.hok.fresh hb
    refine ⟨s1.heap.objs.size + 1, [s1.heap.objs.size + 1, s1.heap.objs.size], _, _, H1, rfl, I3, turn_enumT 0 t (s1.heap.objs.size + 1) s1.heap.objs.size (Nat.ne_of_lt ht) (Nat.succ_ne_self _) (Nat.ne_of_gt (Nat.lt_succ_of_lt ht)),
      ⟨⟨.none, ?_⟩, ⟨_, hit, rfl, rfl⟩⟩, fun b hb => ?_, q⟩
    · exact he
    · have hle : s1.heap.objs.size ≤ b := by
        rcases List.mem_cons.mp hb with rfl | hb
        · exact Nat.le_succ _
        · rw [List.mem_singleton.mp hb]
          exact Nat.le_refl _
      exact I1.fpOk hle (hn b hle)
theorem pi_enumLK {X : Cx} {K : PySem.W.Frag} {e : Expr} {ta : TA} {p pos tpos : Pos} {elts : List Expr} {kk : Nat} (eK : X.K = K) (hg : Gl X "enumerate") (hm : X.mg "enumerate" = none) (ha : PA X [e] ta) (hs : starEach [e] X.env = [(false, eval e X.env)] := by rfl) :
    PI X (.Tuple elts kk tpos) (.Call (.Name "enumerate" p) [e] [] pos) (iEnum K ta) := by
  subst eK
  exact pi_enum hg hm ha hs
theorem x_enl {K : PySem.W.Frag} {σ : L2.St} {H : Hp} {R : It → Hp → Prop} {ts : TA} (h : ts σ H fun vs H1 => ∃ (t : Addr) (xs : List V), vs = [.ref t] ∧ SqL K H1 t xs ∧ R (Ite K t) H1) : iEnum K ts σ H R := h
theorem x_enl1 {K : PySem.W.Frag} {H : Hp} {a : Addr} {xs : List V} {R : Addr → Prop} (h : SqL K H a xs) (q : R a) : ∃ (t : Addr) (ys : List V), [V.ref a] = [.ref t] ∧ SqL K H t ys ∧ R t := ⟨a, xs, rfl, h, q⟩
theorem lp_enumL {K : PySem.W.Frag} {t : Addr} {xs : List V} {g : TG} {tb : TS} {nx : L2.St → Hp → Prop} {rt : VK} {σ : L2.St} {H : Hp} (Pv : Nat → L2.St → Hp → Prop) (h0 : Pv 0 σ H) (hl : ∀ i σ H, i ≤ xs.length → Pv i σ H → SqL K H t xs)
    (hs : ∀ i x σ H T, xs[i]? = some x → Pv i σ H → H T = none → g (.ref T) σ (upd H T (.tup [.int (i : Nat), x])) fun σ2 H2 => tb { nx := Pv (i + 1), rt := rt, bk := nx, ct := Pv (i + 1) } σ2 H2) (hd : ∀ σ H, Pv xs.length σ H → nx σ H) :
    ∃ W : Nat → Nat → L2.St → Hp → Prop, (∃ m, W 0 m σ H) ∧ ∀ i m σ H, W i m σ H → ((Ite K t).stop i H ∧ nx σ H) ∨ ((Ite K t).go i H ∧ ∃ N : L2.St → Hp → Prop, (∀ σ' H', N σ' H' → ∃ m', m' < m ∧ W (i + 1) m' σ' H') ∧ ∀ x H', (Ite K t).yld i H x H' → g x σ H' fun σ2 H2 => tb { nx := N, rt := rt, bk := nx, ct := N } σ2 H2) := by
  refine ⟨fun i m σ H => m = xs.length - i ∧ i ≤ xs.length ∧ Pv i σ H, ⟨_, rfl, Nat.zero_le _, h0⟩, ?_⟩
  rintro i m σ H ⟨rfl, hi, p⟩
  have q := hl i σ H hi p
  by_cases hlt : i < xs.length
  · refine .inr ⟨⟨xs, xs[i], q, List.getElem?_eq_getElem hlt⟩, Pv (i + 1), fun σ' H' p' => ⟨_, by omega, rfl, hlt, p'⟩, fun x H' y => ?_⟩
    obtain ⟨T, z, rfl, hT, rfl, hz⟩ := y
    exact hs i z σ H T (hz xs q) p hT
  · have e : i = xs.length := by omega
    subst e
    exact .inl ⟨⟨xs, q, Nat.le_refl _⟩, hd σ H p⟩
theorem lc_enumL {K : PySem.W.Frag} {t : Addr} {xs : List V} {g : TG} {tt : TT} {te : TE} {vs : List Nat} {σ : L2.St} {H1 : Hp} {D : Addr} {Qd : Hp → Prop} (Pv : Nat → Hp → Prop) (h0 : Pv 0 (upd H1 D (.lst []))) (hl : ∀ i H, i ≤ xs.length → Pv i H → SqL K H t xs)
    (hs : ∀ i x H T, xs[i]? = some x → Pv i H → H T = none → g (.ref T) (wipe σ vs) (upd H T (.tup [.int (i : Nat), x])) fun σ2 H2 => wipe σ2 vs = wipe σ vs ∧ tt σ2 H2 fun b H3 =>
      if b = true then te σ2 H3 fun y H4 => ∃ acc, H4 D = some (.lst acc) ∧ acc.length < sizeLine ∧ Pv (i + 1) (upd H4 D (.lst (acc ++ [y]))) else Pv (i + 1) H3) (hd : ∀ H, Pv xs.length H → Qd H) :
    ∃ W : Nat → Nat → Hp → Prop, (∃ m, W 0 m (upd H1 D (.lst []))) ∧ ∀ i m H, W i m H → ((Ite K t).stop i H ∧ Qd H) ∨ ((Ite K t).go i H ∧ ∃ Nx : Hp → Prop, (∀ H', Nx H' → ∃ m', m' < m ∧ W (i + 1) m' H') ∧ ∀ x H', (Ite K t).yld i H x H' → g x (wipe σ vs) H' fun σ2 H2 => wipe σ2 vs = wipe σ vs ∧ tt σ2 H2 fun b H3 =>
        if b = true then te σ2 H3 fun y H4 => ∃ acc, H4 D = some (.lst acc) ∧ acc.length < sizeLine ∧ Nx (upd H4 D (.lst (acc ++ [y]))) else Nx H3) := by
  refine ⟨fun i m H => m = xs.length - i ∧ i ≤ xs.length ∧ Pv i H, ⟨_, rfl, Nat.zero_le _, h0⟩, ?_⟩
  rintro i m H ⟨rfl, hi, p⟩
  have q := hl i H hi p
  by_cases hlt : i < xs.length
  · refine .inr ⟨⟨xs, xs[i], q, List.getElem?_eq_getElem hlt⟩, Pv (i + 1), fun H' p' => ⟨_, by omega, rfl, hlt, p'⟩, fun x H' y => ?_⟩
    obtain ⟨T, z, rfl, hT, rfl, hz⟩ := y
    exact hs i z H T (hz xs q) p hT
  · have e : i = xs.length := by omega
    subst e
    exact .inl ⟨⟨xs, q, Nat.le_refl _⟩, hd H p⟩
/-! flags and None -/
def wdV : Option Bool → V
  | none => .non
  | some b => .bl b
def wds (c : List (Option Bool)) : List V := c.map wdV
def isTr : Value → Bool
  | .bool b => b
  | _ => false
theorem isTr_count : ∀ {us : List Value} {c : List (Option Bool)}, Vals (wds c) us → us.countP isTr = c.count (some true)
  | _, [], .nil => rfl
  | _, some b :: c, .cons r t => by
    have ih := isTr_count (c := c) t
    have e : _ = Value.bool b := r
    subst e
    rw [List.countP_cons, List.count_cons, ih]
    cases b <;> rfl
  | _, none :: c, .cons r t => by
    have ih := isTr_count (c := c) t
    have e : _ = Value.none := r
    subst e
    rw [List.countP_cons, List.count_cons, ih]
    rfl
theorem isTr_eq {A : Around} {s : Shared} : ∀ {us : List Value} {c : List (Option Bool)}, Vals (wds c) us → ∀ y ∈ us, SeqAt.EqAt A s y (.bool true) (isTr y)
  | _, [], .nil => fun y hy => by cases hy
  | _, some b :: c, .cons r t => fun y hy => by
    have e : _ = Value.bool b := r
    subst e
    rcases List.mem_cons.mp hy with e | e
    · subst e
      have := SeqAt.EqAt.bool_bool (A := A) (s := s) b true
      cases b <;> exact this
    · exact isTr_eq (c := c) t y e
  | _, none :: c, .cons r t => fun y hy => by
    have e : _ = Value.none := r
    subst e
    rcases List.mem_cons.mp hy with e | e
    · subst e
      exact SeqAt.EqAt.none_bool (A := A) (s := s) true
    · exact isTr_eq (c := c) t y e
def rCntB (K : PySem.W.Frag) : V → List V → Hp → VK → Prop := fun x xs H Q => ∃ (p : Addr) (c : List (Option Bool)), x = .ref p ∧ xs = [.bl true] ∧ SqL K H p (wds c) ∧ Q (.int (c.count (some true) : Nat)) H
theorem mt_lcountB {X : Cx} {K : PySem.W.Frag} (eK : X.K = K) : MtR X "list.count" (rCntB K) := by
  subst eK
  intro pins s σ H x xs v us Q I rx rxs h
  obtain ⟨p, c, rfl, rfl, hs, q⟩ := h
  cases rx
  obtain ⟨u, rfl, ru⟩ := rxs.one
  have eu : u = Value.bool true := ru
  subst eu
  obtain ⟨its, rv, ⟨⟨cls, dd, data, sl⟩, n, ho, hc, hdn, hd⟩, hlen⟩ := I.list hs
  simp only at hc hd
  subst hc hd
  refine call_meets PySem.F.slot_list_count ⟨_, ho, rfl⟩ PySem.F.entry_list_count (PySem.F.args_list_count_2 _ _)
    (SeqAt.list_countAt p its.toArray n dd sl (.bool true) isTr) ⟨ho, fun y hy => isTr_eq rv y (by simpa using hy), ?_⟩
  have ec : its.toArray.toList.countP isTr = c.count (some true) := by
    have e : its.toArray.toList = its := by simp
    rw [e]
    exact isTr_count rv
  refine ⟨.int (c.count (some true) : Nat), H, I.tok _, ⟨s.toks, ?_⟩, q⟩
  show Value.int ((its.toArray.toList.countP isTr : Nat) : Int) s.toks = Value.int ((c.count (some true) : Nat) : Int) s.toks
  rw [ec]
def rIsBk : R2 := fun x y H Q => ∃ (o : Option Bool) (b : Bool), x = wdV o ∧ y = .bl b ∧ Q (.bl (decide (o = some b))) H
def rNotBk : R2 := fun x y H Q => ∃ (o : Option Bool) (b : Bool), x = wdV o ∧ y = .bl b ∧ Q (.bl (!decide (o = some b))) H
theorem op_isBk {X : Cx} : OpR X (compareOp .Is) rIsBk := by
  intro pins s σ H x y v u Q I rx ry h
  obtain ⟨o, b, rfl, rfl, q⟩ := h
  cases (show u = Value.bool b from ry)
  cases o with
  | none =>
    cases (show v = Value.none from rx)
    exact wpAny_is_other rfl (fun z => nomatch z) ⟨.bl false, H, I, rfl, by simpa using q⟩
  | some a =>
    cases (show v = Value.bool a from rx)
    by_cases e : a = b
    · subst e
      exact wpAny_is_self rfl ⟨.bl true, H, I, rfl, by simpa using q⟩
    · exact wpAny_is_other rfl (fun z => e (Value.bool.inj z)) ⟨.bl false, H, I, rfl, by simpa [e] using q⟩
theorem op_notBk {X : Cx} : OpR X (compareOp .IsNot) rNotBk := by
  intro pins s σ H x y v u Q I rx ry h
  obtain ⟨o, b, rfl, rfl, q⟩ := h
  cases (show u = Value.bool b from ry)
  cases o with
  | none =>
    cases (show v = Value.none from rx)
    exact wpAny_isNot_other rfl (fun z => nomatch z) ⟨.bl true, H, I, rfl, by simpa using q⟩
  | some a =>
    cases (show v = Value.bool a from rx)
    by_cases e : a = b
    · subst e
      exact wpAny_isNot_self rfl ⟨.bl false, H, I, rfl, by simpa using q⟩
    · exact wpAny_isNot_other rfl (fun z => e (Value.bool.inj z)) ⟨.bl true, H, I, rfl, by simpa [e] using q⟩
theorem x_isBk {H : Hp} {Q : VK} {o : Option Bool} {b : Bool} (q : Q (.bl (decide (o = some b))) H) : rIsBk (wdV o) (.bl b) H Q := ⟨o, b, rfl, rfl, q⟩
theorem x_notBk {H : Hp} {Q : VK} {o : Option Bool} {b : Bool} (q : Q (.bl (!decide (o = some b))) H) : rNotBk (wdV o) (.bl b) H Q := ⟨o, b, rfl, rfl, q⟩
theorem x_cntB {K : PySem.W.Frag} {H : Hp} {Q : VK} {p : Addr} {c : List (Option Bool)} (h : SqL K H p (wds c)) (q : Q (.int (c.count (some true) : Nat)) H) : rCntB K (.ref p) [.bl true] H Q := ⟨p, c, rfl, rfl, h, q⟩
/-- a place, or None -/
def upV : Option Nat → V
  | none => .non
  | some q => .int (q : Nat)
def upvs (us : List (Option Nat)) : List V := us.map upV
theorem wds_length (c : List (Option Bool)) : (wds c).length = c.length := List.length_map ..
theorem upvs_length (c : List (Option Nat)) : (upvs c).length = c.length := List.length_map ..
theorem wds_get {c : List (Option Bool)} {i : Nat} {o : Option Bool} (h : c[i]? = some o) : (wds c)[i]? = some (wdV o) := by
  unfold wds
  rw [List.getElem?_map, h]
  rfl
theorem upvs_get {c : List (Option Nat)} {i : Nat} {o : Option Nat} (h : c[i]? = some o) : (upvs c)[i]? = some (upV o) := by
  unfold upvs
  rw [List.getElem?_map, h]
  rfl
theorem wds_at {c : List (Option Bool)} {i : Nat} {o : Option Bool} (h : c[i]? = some o) : atI (wds c) (i : Int) = some (wdV o) := atI_nat (wds_get h)
theorem upvs_at {c : List (Option Nat)} {i : Nat} {o : Option Nat} (h : c[i]? = some o) : atI (upvs c) (i : Int) = some (upV o) := atI_nat (upvs_get h)
theorem wds_app (c d : List (Option Bool)) : wds (c ++ d) = wds c ++ wds d := List.map_append ..
theorem upvs_app (c d : List (Option Nat)) : upvs (c ++ d) = upvs c ++ upvs d := List.map_append ..
end Fv
set_option maxRecDepth 100000
set_option maxHeartbeats 1000000
namespace Fv
open PySem PySem.Spec PyProof.Rows L2
/-! x != y by x's own __eq__ -/
structure OwnN (K : PySem.W.Frag) (C f : Addr) : Prop where
  c : ∃ (nm q : Str) (N : Addr) (bs : List Value) (hd : Bool) (sn : List Str) (sub : List Value) (ab : Bool) (col : Option Bool) (dd : Option Addr) (k0 k1 k2 k3 k5 : Option Value) (newId : String),
    K.lookup C = some (excClassObj nm q C N bs [.type "object"] hd sn sub ab col dd k0 k1 k2 k3 k5 newId) ∧ PySem.W.nsOkIn K N = true ∧ PySem.W.nsIn K N "__eq__" = some (some (.ref f)) ∧ PySem.W.nsIn K N "__ne__" = some none
  t : PySem.W.typeIn K (.ref f) = some (.type "function")
theorem ns_some {K : PySem.W.Frag} {h : Heap} {N : Addr} {m : Str → Option Value} {n : Str} {v : Value} (X : K.In h) (G : h.Ns N m) (e : PySem.W.nsIn K N n = some (some v)) : m n = some v := by
  obtain ⟨o, es, ep, ho, hd, _, hf⟩ := G
  unfold PySem.W.nsIn at e
  split at e
  · rename_i c d es' n' sl q
    have z := X _ _ q
    rw [ho] at z
    cases z
    cases hd
    split at e
    · rename_i en he
      cases e
      rw [← hf]
      unfold nsFind findBy
      rw [← Array.find?_toList, he]
      rfl
    · split at e <;> cases e
  · cases e
def rOwnN (C : Addr) (sp : Sp) : R2 := fun x y H Q => ∃ (a b dx dy : Addr) (fs gs : List (Str × V)), x = .ref a ∧ y = .ref b ∧ H a = some (.ins C dx fs) ∧ H b = some (.ins C dy gs) ∧
  sp [.ref a, .ref b] H (fun v H' => ∃ r, v = .bl r ∧ Q (.bl (!r)) H') (fun _ _ _ => False)
theorem op_ownN {X : Cx} {C f : Addr} {fd : FuncData} {ps : List Str} {sp : Sp} {n : Nat} (O : OwnN X.K C f) (F : FnOk X.prog X.w X.K X.mg X.base CX0 n f fd ps sp) (hb : Binds X.K fd ps []) (hr : Room (n + 1) X.A) : OpR X (compareOp .NotEq) (rOwnN C sp) := by
  intro pins s σ H x y v u Q I rx ry h
  obtain ⟨a, b, dx, dy, fs, gs, rfl, rfl, ha, hB, hsp⟩ := h
  cases rx
  cases ry
  obtain ⟨nm, q, N, bs, hd, sn, sub, ab, col, dd, k0, k1, k2, k3, k5, newId, hC, n1, n2, n3⟩ := O.c
  obtain ⟨mA, J, _⟩ := ins_get I.hok ha
  obtain ⟨od, J, _⟩ := J.look
  obtain ⟨mB, J', _⟩ := ins_get I.hok hB
  obtain ⟨od', J', _⟩ := J'.look
  have KI := I.kIn
  have G : s.heap.Ns N (s.heap.nsMap N) := .of_isNs (PySem.W.isNs_of_in KI n1)
  obtain ⟨of, hof, hoc⟩ : ∃ of, s.heap.get? f = some of ∧ of.cls = .type "function" := by
    have e : (X.K.lookup f).map (·.cls) = some (.type "function") := O.t
    cases z : X.K.lookup f with
    | none =>
      rw [z] at e
      cases e
    | some of =>
      rw [z] at e
      exact ⟨of, KI _ _ z, Option.some.inj e⟩
  have W : s.heap.OwnEqNoNe a C f "object" [.type "object"] :=
    ⟨_, of, nm, q, N, bs, hd, sn, sub, ab, col, dd, k0, k1, k2, k3, k5, newId, s.heap.nsMap N, _, J.at_, J.cls, KI _ _ hC, G, ns_some KI G n2, hof, hoc, PySem.F.cmp_object.mro, PySem.F.cmp_object.eq.lookup, PySem.W.ns_none_of KI G n3⟩
  have hu : X.A.units + 1 < cLine := by have := hr.un; omega
  have hI0 := I.env0
  have r2 : Vals [V.ref a, V.ref b] [Value.ref a, Value.ref b] := .cons rfl (.cons rfl .nil)
  have hl : ([Value.ref a, Value.ref b] ++ []).length = ps.length := by rw [← (r2.append .nil).length]; exact F.len _ _ _ _ hsp
  have hbt := hb s [.ref a, .ref b] I.kIn hl
  have call := F.run X.A.in1 X.stack s H ⟨[.ref a, .ref b], []⟩ _ _ _ _ hr.in1 hI0.in1 hbt (r2.append .nil) hsp
  obtain ⟨hp, g, d, t, os⟩ := s
  refine PySem.richCompare_ne_ownEq PySem.F.cmp_object W J'.at_ J'.cls hu (wpAny_call (codeAny_mono call fun r s' hq => ?_))
  cases r with
  | error e => exact hq.elim
  | ok fl =>
    cases fl with
    | ret u =>
      obtain ⟨z, H', I', rz, r, ez, q⟩ := I.after hq
      subst ez
      cases rz
      exact ⟨_, rfl, .bl (!r), H', I', rfl, q⟩
    | next => exact False.elim hq
    | brk => exact False.elim hq
    | cont => exact False.elim hq
/-! t.index(k), t a tuple of whole numbers that holds k -/
def rTix (K : PySem.W.Frag) : V → List V → Hp → VK → Prop := fun x xs H Q => ∃ (p : Addr) (ns : List Int) (k : Int), x = .ref p ∧ xs = [.int k] ∧ SqT K H p (ns.map V.int) ∧ k ∈ ns ∧ Q (.int (ns.idxOf k : Nat)) H
theorem mt_tix {X : Cx} {K : PySem.W.Frag} (e : X.K = K) : MtR X "tuple.index" (rTix K) := by
  subst e
  intro pins s σ H x xs v us Q I rx rs h
  obtain ⟨p, ns, k, rfl, rfl, hq, hk, q⟩ := h
  cases rx
  obtain ⟨u, rfl, t, rfl⟩ := vals1 rs
  obtain ⟨its, r, pl, hz⟩ := I.tuple hq
  exact PySem.SeqAt.tuple_index_ints (isTuple_of pl) r.ints hk ⟨.int _, H, I.tok _, ⟨_, rfl⟩, q⟩
theorem x_tix {K : PySem.W.Frag} {H : Hp} {Q : VK} {p : Addr} {ms : List Nat} {k : Nat} (h : SqT K H p (nats ms)) (hk : k ∈ ms) (q : Q (.int (ms.idxOf k : Nat)) H) : rTix K (.ref p) [.int k] H Q := by
  refine ⟨p, ms.map fun (j : Nat) => (j : Int), k, rfl, rfl, by rw [nats_ints]; exact h, List.mem_map.mpr ⟨k, hk, rfl⟩, ?_⟩
  have e : (ms.map fun (j : Nat) => (j : Int)).idxOf (k : Int) = ms.idxOf k := by
    clear hk q h
    induction ms with
    | nil => rfl
    | cons m ms ih =>
      rw [List.map_cons, List.idxOf_cons, List.idxOf_cons, ih]
      have eb : ((m : Int) == (k : Int)) = (m == k) := by
        rw [Bool.eq_iff_iff, beq_iff_eq, beq_iff_eq]
        omega
      rw [eb]
  rw [e]
  exact q
/-- the order turned about -/
def turned (ms : List Nat) (n : Nat) : List Nat := (List.range' 1 n).map fun k => ms.idxOf k + 1
theorem turned_len (ms : List Nat) (n : Nat) : (turned ms n).length = n := by
  unfold turned
  rw [List.length_map, List.length_range']
theorem turned_up {ms : List Nat} {n k : Nat} (h1 : 1 ≤ k) (h2 : k ≤ n) : up (turned ms n) k = ms.idxOf k + 1 := by
  refine up_at (by omega) ?_
  unfold turned
  rw [List.getElem?_map, List.getElem?_range' (by omega)]
  show some (ms.idxOf (1 + 1 * (k - 1)) + 1) = _
  rw [show 1 + 1 * (k - 1) = k by omega]
theorem idx_up {ms : List Nat} {n b : Nat} (o : IsOrd n ms) (h1 : 1 ≤ b) (h2 : b ≤ n) : ms.idxOf (up ms b) + 1 = b := by
  have hg := up_get (hs := ms) h1 (by rw [o.len]; exact h2)
  obtain ⟨hl, he⟩ := List.getElem?_eq_some_iff.mp hg
  rw [← he, o.nodup.idxOf_getElem _ hl]
  omega
theorem turned_ord {n : Nat} {ms : List Nat} (o : IsOrd n ms) : IsOrd n (turned ms n) := by
  refine (List.perm_ext_iff_of_nodup ?_ List.nodup_range').mpr fun x => ?_
  · unfold turned
    refine List.pairwise_map.mpr ((List.Pairwise.and_mem.mp (show List.Pairwise (· ≠ ·) (List.range' 1 n) from List.nodup_range')).imp fun {a b} hab e => hab.2.2 ?_)
    have ha := hab.1
    have hb := hab.2.1
    have ra := List.mem_range'_1.mp ha
    have rb := List.mem_range'_1.mp hb
    have e2 : ms.idxOf a = ms.idxOf b := by omega
    have ia := List.getElem_idxOf (List.idxOf_lt_length_iff.mpr (o.mem.mpr ⟨by omega, by omega⟩ : a ∈ ms))
    have ib := List.getElem_idxOf (List.idxOf_lt_length_iff.mpr (o.mem.mpr ⟨by omega, by omega⟩ : b ∈ ms))
    rw [← ia, ← ib]
    congr 1
  · unfold turned
    rw [List.mem_map, List.mem_range'_1]
    constructor
    · rintro ⟨a, ha, rfl⟩
      have ra := List.mem_range'_1.mp ha
      have := List.idxOf_lt_length_iff.mpr (o.mem.mpr ⟨by omega, by omega⟩ : a ∈ ms)
      rw [o.len] at this
      omega
    · intro hx
      have r := o.rg (k := x) (by omega) (by omega)
      refine ⟨up ms x, List.mem_range'_1.mpr (by omega), idx_up o (by omega) (by omega)⟩
theorem turned_back {n b : Nat} {ms : List Nat} (o : IsOrd n ms) (h1 : 1 ≤ b) (h2 : b ≤ n) : up (turned ms n) (up ms b) = b := by
  have r := o.rg h1 h2
  rw [turned_up r.1 r.2, idx_up o h1 h2]
end Fv
set_option maxRecDepth 100000
set_option maxHeartbeats 1000000
namespace Fv
open PySem PySem.Spec PyProof.Rows L2
/-! a tuple of which it is known that it has no dict: its methods may be called -/
def FrT (H : Hp) (a : Addr) (xs : List V) : Prop := ∃ o : Obj, H a = some (.frz o (.tup xs)) ∧ o.cls = .type "tuple" ∧ o.dict = none
theorem FrT.sq {K : PySem.W.Frag} {H : Hp} {a : Addr} {xs : List V} (h : FrT H a xs) : SqT K H a xs := by
  obtain ⟨o, e, _, _⟩ := h
  exact .inl (.inr ⟨o, e⟩)
theorem FrT.same {H H' : Hp} {a : Addr} {xs : List V} (s : Same H H') (h : FrT H a xs) : FrT H' a xs := by
  obtain ⟨o, e, c, d⟩ := h
  exact ⟨o, s _ _ e, c, d⟩
theorem FrT.but {H H' : Hp} {p a : Addr} {xs : List V} (s : But p H H') (n : a ≠ p) (h : FrT H a xs) : FrT H' a xs := by
  obtain ⟨o, e, c, d⟩ := h
  exact ⟨o, s _ _ n e, c, d⟩
/-- tuple(l), l a list: a new tuple without a dict -/
def rTupF (K : PySem.W.Frag) : List V → Hp → VK → Prop := fun xs H Q => ∃ p ys, xs = [.ref p] ∧ SqL K H p ys ∧ ∀ l (o : Obj), H l = none → o.cls = .type "tuple" → o.dict = none → Q (.ref l) (upd H l (.frz o (.tup ys)))
theorem call_tupF {X : Cx} {K : PySem.W.Frag} (e : X.K = K) : CallR X (.type "tuple") (rTupF K) := by
  subst e
  intro pins s σ H xs us Q I r h
  obtain ⟨p, ys, rfl, hq, q⟩ := h
  obtain ⟨u, rfl, rx⟩ := vals1 r
  cases rx
  obtain ⟨its, r', pl, hz⟩ := I.list hq
  have hlen := r'.length
  refine call_tuple_list pl.isList (fun h' kp => ?_) (by simp only [List.size_toArray] <;> omega)
  have I1 : Inv X pins σ H { s with heap := h' } := I.kept (t' := s.toks) kp
  have at0 : (h'.push { cls := .type "tuple", data := .seq its.toArray }).get? h'.objs.size = some { cls := .type "tuple", data := .seq its.toArray } := Heap.get?_push_size _ rfl
  have I2 : Inv X pins σ (upd H h'.objs.size (.frz { cls := .type "tuple", data := .seq its.toArray } (.tup ys))) { s with heap := h'.push { cls := .type "tuple", data := .seq its.toArray } } := by
    refine I1.laid (t' := s.toks) (fun b o e => Heap.get?_push_of_some _ e) (Nat.le_refl _) ?_
    exact (show ObjOk X.prog X.w _ _ _ (.frz { cls := .type "tuple", data := .seq its.toArray } (.tup ys)) from ⟨at0, hz, its, r', IsTup.new _ _⟩)
  exact ⟨.ref h'.objs.size, _, I2, rfl, q _ _ (I1.hok.fresh (Nat.le_refl _)) rfl rfl⟩
/-- isinstance(t, tuple), t a tuple of any kind -/
def rIsT (K : PySem.W.Frag) : List V → Hp → VK → Prop := fun xs H Q => ∃ a ys, xs = [.ref a, .ty "tuple"] ∧ SqT K H a ys ∧ Q (.bl true) H
theorem call_isT {X : Cx} {K : PySem.W.Frag} (e : X.K = K) : CallR X (.builtin "isinstance") (rIsT K) := by
  subst e
  intro pins s σ H xs us Q I r h
  obtain ⟨a, ys, rfl, hq, q⟩ := h
  obtain ⟨u1, u2, rfl, r1, r2⟩ := vals2 r
  cases r1
  cases r2
  obtain ⟨its, r', ⟨o, h1, h2, _⟩, hz⟩ := I.tuple hq
  exact PySem.W.kia_one (K := X.K) (t := .type "tuple") PySem.W.kitx_tuple I.kIn ⟨o, h1, h2⟩ (if_pos (beq_self_eq_true _) : PySem.W.kitOne X.K (.type "tuple") (.type "tuple") = some true) (fun z => nomatch z) fun tk => ⟨.bl true, H, I.tok tk, rfl, q⟩
section
variable {X : Cx} {K : PySem.W.Frag} {o e : Expr} {es : List Expr} {to : TE} {t : TA} {name : Str} {apos cpos : Pos} {id : String} {r : V → List V → Hp → VK → Prop}
/-- t.m(..), t such a tuple -/
def tBT (r : V → List V → Hp → VK → Prop) (to : TE) (t : TA) : TE := fun σ H Q => to σ H fun x H1 => ∃ a ys, x = .ref a ∧ FrT H1 a ys ∧ t σ H1 fun xs H2 => r x xs H2 Q
theorem pe_bmT (slot : Slot "tuple" name id) (hty : typeOf (.builtin id) = pure (.type "method_descriptor")) (hm : MtR X id r) (ho : PE X o to) (ha : PA X (e :: es) t)
    (hbase : attributeBase o name X.env (eval o X.env) = eval o X.env := by rfl)
    (hfew : ((backTo cpos (starEach (e :: es) X.env)).all (fun x => !x.1) && (backToKw cpos (keywordEach [] X.env)).all (fun x => x.1.isSome) && decide ((e :: es).length + ([] : List Keyword).length + (if ([] : List Keyword).isEmpty then 0 else 1) < 30)) = true := by rfl)
    (hline : (apos.endLine == cpos.line) = true := by rfl) (hs : starEach (e :: es) X.env = (false, eval e X.env) :: starEach es X.env := by rfl) (hplain : (backTo cpos (starEach es X.env)).any (·.1) = false := by rfl) :
    PE X (.Call (.Attribute o name apos) (e :: es) [] cpos) (tBT r to t) := by
  refine ⟨fun pins s σ H Q I h => ?_⟩
  refine wpAny_Call_method_late hbase hfew hline rfl (thn (ho.run pins s σ H _ I h) fun v s1 ⟨x, H1, I1, r1, a, ys, ex, hf, q1⟩ => ?_)
  subst ex
  obtain rfl : v = Value.ref a := r1
  obtain ⟨ob, eo, hc, hd⟩ := hf
  obtain ⟨h0, _⟩ := (show ObjOk X.prog X.w H1 s1.heap a (.frz ob (.tup ys)) from I1.hok a _ eo)
  refine ⟨"tuple", id, PySem.F.plainAttrs_tuple, slot, hty, ⟨ob, h0, hc⟩, fun b eb => ?_, ?_⟩
  · cases eb
    exact ⟨ob, h0, hd⟩
  · have hA := ha.run cpos pins s1 σ H1 _ I1 q1
    rw [hs] at hA ⊢
    have hpl : ((false, eval e X.env) :: backTo cpos (starEach es X.env)).any (·.1) = false := by
      show (false || (backTo cpos (starEach es X.env)).any (·.1)) = false
      rw [hplain] <;> rfl
    refine Calls.callWith_builtin hpl (Calls.evalArgs_plain (thn hA fun us s2 ⟨vs, H2, I2, r2, q2⟩ => ?_))
    exact hm pins s2 σ H2 (.ref a) vs _ us Q I2 rfl r2 q2
end
theorem x_catA2 {K : PySem.W.Frag} {H : Hp} {Q : VK} {a b : Addr} {xs ys : List V} (h1 : SqT K H a xs) (h2 : SqT K H b ys) (nx : xs ≠ []) (ny : ys ≠ []) (hl : xs.length + ys.length ≤ 10000) (q : ∀ p, H p = none → Q (.ref p) (upd H p (.tup (xs ++ ys)))) : rCatA K (.ref a) (.ref b) H Q :=
  ⟨a, b, xs, ys, rfl, rfl, h1, h2, szLe (by omega), fun e => (nx e).elim, fun _ e => (ny e).elim, fun _ _ => q⟩
theorem nats_ne {l : List Nat} (h : 1 ≤ l.length) : nats l ≠ [] := fun e => by
  have := congrArg List.length e
  rw [nats_length] at this
  exact absurd this (by show ¬ l.length = 0; omega)
end Fv
/-! what places tell of trees -/
namespace Fv
theorem wayN_eq (hs : List Nat) : ∀ m k n, (∀ j, j < n → upN hs j k ≠ 0) → upN hs n k = 0 → n ≤ m → wayN hs m k = (List.range n).map fun i => upN hs (i + 1) k
  | m, k, 0, _, h, _ => by
    have e : k = 0 := h
    subst e
    cases m with
    | zero => rfl
    | succ m => exact if_pos rfl
  | 0, k, n + 1, _, _, h => absurd h (by omega)
  | m + 1, k, n + 1, hn, h, hm => by
    have k0 : k ≠ 0 := hn 0 (by omega)
    show (if k = 0 then [] else up hs k :: wayN hs m (up hs k)) = _
    rw [if_neg k0, wayN_eq hs m (up hs k) n (fun j hj => hn (j + 1) (by omega)) h (by omega), List.range_succ_eq_map, List.map_cons, List.map_map]
    rfl
theorem wayN_snoc (hs : List Nat) : ∀ i k, wayN hs (i + 1) k = wayN hs i k ++ if upN hs i k = 0 then [] else [upN hs (i + 1) k]
  | 0, k => by
    show (if k = 0 then [] else [up hs k]) = [] ++ _
    rfl
  | i + 1, k => by
    show (if k = 0 then [] else up hs k :: wayN hs (i + 1) (up hs k)) = (if k = 0 then [] else up hs k :: wayN hs i (up hs k)) ++ _
    by_cases h : k = 0
    · subst h
      rw [if_pos rfl, if_pos rfl, upN_zero, if_pos rfl]
      rfl
    · rw [if_neg h, if_neg h, wayN_snoc hs i (up hs k)]
      rfl
theorem range_snoc (n : Nat) : List.range' 1 (n + 1) = List.range' 1 n ++ [1 + n] := by
  rw [List.range'_concat, Nat.one_mul]
/-- the blocks that hang just under a place, and those beneath it -/
def kids (hs : List Nat) (p : Nat) : List Nat := (List.range' 1 hs.length).filter fun b => decide (up hs b = p)
def below (hs : List Nat) (p : Nat) : List Nat := (List.range' 1 hs.length).filter fun b => decide (p ∈ way hs b)
theorem filter_snoc (g : Nat → Bool) (n : Nat) : (List.range' 1 (n + 1)).filter g = (List.range' 1 n).filter g ++ if g (n + 1) = true then [n + 1] else [] := by
  rw [range_snoc, List.filter_append, Nat.add_comm 1 n]
  congr 1
  by_cases h : g (n + 1) = true
  · rw [if_pos h, List.filter_cons_of_pos h]
    rfl
  · rw [if_neg h, List.filter_cons_of_neg h]
    rfl
theorem filter_len (g : Nat → Bool) (n : Nat) : ((List.range' 1 n).filter g).length ≤ n := by
  refine Nat.le_trans (List.length_filter_le _ _) ?_
  rw [List.length_range']
  exact Nat.le_refl _
theorem wayN_len (hs : List Nat) : ∀ n k, (wayN hs n k).length ≤ n
  | 0, _ => Nat.le_refl _
  | n + 1, k => by
    show (if k = 0 then [] else up hs k :: wayN hs n (up hs k)).length ≤ n + 1
    split
    · exact Nat.zero_le _
    · exact Nat.succ_le_succ (wayN_len hs n _)
theorem wayN_nil (hs : List Nat) : ∀ n, wayN hs n 0 = []
  | 0 => rfl
  | n + 1 => if_pos rfl
theorem wayN_cons (hs : List Nat) (n : Nat) {k : Nat} (h : k ≠ 0) : wayN hs (n + 1) k = up hs k :: wayN hs n (up hs k) := if_neg h
theorem wayN_take (hs : List Nat) : ∀ m j k, (wayN hs m k).take j = wayN hs (min j m) k
  | m, 0, k => by
    rw [Nat.zero_min]
    exact List.take_zero
  | 0, j + 1, k => by
    rw [Nat.min_zero]
    rfl
  | m + 1, j + 1, k => by
    rw [show min (j + 1) (m + 1) = min j m + 1 by omega]
    by_cases h : k = 0
    · rw [h, wayN_nil, wayN_nil, List.take_nil]
    · rw [wayN_cons hs m h, wayN_cons hs _ h, List.take_succ_cons, wayN_take hs m j]
theorem wayN_stop {hs : List Nat} : ∀ {n k m}, upN hs n k = 0 → n ≤ m → wayN hs m k = wayN hs n k
  | 0, k, m, h, _ => by
    have e : k = 0 := h
    rw [e, wayN_nil, wayN_nil]
  | n + 1, k, 0, _, h2 => absurd h2 (by omega)
  | n + 1, k, m + 1, h, h2 => by
    by_cases h0 : k = 0
    · rw [h0, wayN_nil, wayN_nil]
    · rw [wayN_cons hs m h0, wayN_cons hs n h0, wayN_stop (n := n) (k := up hs k) (m := m) h (by omega)]
theorem way_take {hs : List Nat} (t : IsTree hs) {k : Nat} (hk : k ≤ hs.length) (d : Nat) : (way hs k).take d = wayN hs d k := by
  unfold way
  rw [wayN_take]
  by_cases h : d ≤ hs.length
  · rw [Nat.min_eq_left h]
  · rw [Nat.min_eq_right (by omega), wayN_stop (n := hs.length) (m := d) (t.comes k hk) (by omega)]
theorem wayN_le {hs : List Nat} (h : ∀ x ∈ hs, x ≤ hs.length) {n k x : Nat} (hx : x ∈ wayN hs n k) : x ≤ hs.length := by
  obtain ⟨j, _, nz, e⟩ := (way_mem hs x n k).mp hx
  rw [← e, upN_succ]
  exact up_le h _
/-- no place leads to itself -/
theorem no_ring {hs : List Nat} (t : IsTree hs) {k m : Nat} (hk : k ≤ hs.length) (h0 : k ≠ 0) (hm : 1 ≤ m) : upN hs m k ≠ k := by
  intro e
  have go : ∀ i, upN hs (i * m) k = k := fun i => by
    induction i with
    | zero =>
      rw [Nat.zero_mul]
      rfl
    | succ i ih => rw [Nat.add_mul, Nat.one_mul, upN_add, ih, e]
  have h1 := go hs.length
  have h2 : upN hs (hs.length * m) k = 0 := upN_more (t.comes k hk) (Nat.le_mul_of_pos_right _ hm)
  rw [h2] at h1
  exact h0 h1.symm
theorem wayN_at {hs : List Nat} : ∀ {n k i x}, (wayN hs n k)[i]? = some x → i < n ∧ upN hs i k ≠ 0 ∧ upN hs (i + 1) k = x
  | 0, _, _, _, h => by cases h
  | n + 1, k, i, x, h => by
    by_cases h0 : k = 0
    · rw [h0, wayN_nil] at h
      cases h
    · rw [wayN_cons hs n h0] at h
      cases i with
      | zero => exact ⟨by omega, h0, Option.some.inj h⟩
      | succ i =>
        rw [List.getElem?_cons_succ] at h
        obtain ⟨a, b, c⟩ := wayN_at h
        exact ⟨by omega, b, c⟩
theorem wayN_nodup {hs : List Nat} (t : IsTree hs) {n k : Nat} (hk : k ≤ hs.length) : (wayN hs n k).Nodup := by
  have key : ∀ (i j x : Nat), i < j → (wayN hs n k)[i]? = some x → (wayN hs n k)[j]? = some x → False := fun i j x hij h1 h2 => by
    obtain ⟨_, _, e1⟩ := wayN_at h1
    obtain ⟨_, n2, e2⟩ := wayN_at h2
    have nz : x ≠ 0 := fun e => by
      rw [e] at e1
      exact n2 (upN_more e1 (by omega))
    have hx : x ≤ hs.length := by
      rw [← e1]
      exact upN_le t.le _ k hk
    refine no_ring t (m := j - i) hx nz (by omega) ?_
    rw [← e1, ← upN_add, show i + 1 + (j - i) = j + 1 by omega, e1, e2]
  refine List.pairwise_iff_getElem.mpr fun i j hi hj hij e => ?_
  refine key i j _ hij (List.getElem?_eq_getElem hi) ?_
  rw [List.getElem?_eq_getElem hj, e]
/-! levels beneath a place -/
def lev (hs : List Nat) (p : Nat) : Nat → List Nat
  | 0 => [p]
  | i + 1 => (lev hs p i).flatMap (kids hs)
def withUp (hs : List Nat) (bs : List Nat) : List (Nat × Nat) := bs.map fun b => (b, up hs b)
def acc (hs : List Nat) (p : Nat) : Nat → List Nat
  | 0 => []
  | i + 1 => acc hs p i ++ lev hs p (i + 1)
theorem kids_mem {hs : List Nat} {b p : Nat} : b ∈ kids hs p ↔ 1 ≤ b ∧ b ≤ hs.length ∧ up hs b = p := by
  unfold kids
  rw [List.mem_filter, List.mem_range'_1, decide_eq_true_eq]
  omega
theorem kids_nodup (hs : List Nat) (p : Nat) : (kids hs p).Nodup := List.Pairwise.filter _ List.nodup_range'
theorem lev_mem {hs : List Nat} {p : Nat} (t : IsTree hs) (hp : p ≤ hs.length) : ∀ i b, b ∈ lev hs p i ↔ b ≤ hs.length ∧ upN hs i b = p ∧ ∀ j, j < i → upN hs j b ≠ 0
  | 0, b => by
    show b ∈ [p] ↔ _
    rw [List.mem_singleton]
    constructor
    · rintro rfl
      exact ⟨hp, rfl, fun j h => absurd h (by omega)⟩
    · exact fun h => h.2.1
  | i + 1, b => by
    show b ∈ (lev hs p i).flatMap (kids hs) ↔ _
    rw [List.mem_flatMap]
    constructor
    · rintro ⟨a, ha, hb⟩
      obtain ⟨b1, b2, rfl⟩ := kids_mem.mp hb
      obtain ⟨_, e, nz⟩ := (lev_mem t hp i _).mp ha
      refine ⟨b2, e, fun j hj => ?_⟩
      cases j with
      | zero =>
        show b ≠ 0
        omega
      | succ j => exact nz j (by omega)
    · rintro ⟨h1, h2, h3⟩
      have b0 : b ≠ 0 := h3 0 (by omega)
      exact ⟨up hs b, (lev_mem t hp i _).mpr ⟨up_le t.le b, h2, fun j hj => h3 (j + 1) (by omega)⟩, kids_mem.mpr ⟨by omega, h1, rfl⟩⟩
theorem lev_nodup {hs : List Nat} {p : Nat} : ∀ i, (lev hs p i).Nodup
  | 0 => List.pairwise_singleton _ _
  | i + 1 => by
    show ((lev hs p i).flatMap (kids hs)).Nodup
    refine List.pairwise_flatMap.mpr ⟨fun a _ => kids_nodup hs a, (lev_nodup i).imp fun {a b} hab x hx y hy e => hab ?_⟩
    subst e
    exact (kids_mem.mp hx).2.2.symm.trans (kids_mem.mp hy).2.2
theorem acc_mem {hs : List Nat} {p : Nat} (t : IsTree hs) (hp : p ≤ hs.length) : ∀ d b, b ∈ acc hs p d ↔ b ≤ hs.length ∧ p ∈ wayN hs d b
  | 0, b => by
    show b ∈ [] ↔ _ ∧ p ∈ []
    simp
  | d + 1, b => by
    show b ∈ acc hs p d ++ lev hs p (d + 1) ↔ _
    rw [List.mem_append, acc_mem t hp d, lev_mem t hp, way_mem, way_mem]
    constructor
    · rintro (⟨h1, j, h2, h3, h4⟩ | ⟨h1, h2, h3⟩)
      · exact ⟨h1, j, by omega, h3, h4⟩
      · exact ⟨h1, d, by omega, h3 d (by omega), h2⟩
    · rintro ⟨h1, j, h2, h3, h4⟩
      by_cases e : j < d
      · exact .inl ⟨h1, j, e, h3, h4⟩
      · have e2 : j = d := by omega
        subst e2
        exact .inr ⟨h1, h4, fun i hi z => h3 (upN_more z (by omega))⟩
theorem acc_nodup {hs : List Nat} {p : Nat} (t : IsTree hs) (hp : p ≤ hs.length) : ∀ d, (acc hs p d).Nodup
  | 0 => List.Pairwise.nil
  | d + 1 => by
    show (acc hs p d ++ lev hs p (d + 1)).Nodup
    refine List.nodup_append.mpr ⟨acc_nodup t hp d, lev_nodup _, fun x hx y hy e => ?_⟩
    subst e
    obtain ⟨h1, hw⟩ := (acc_mem t hp d x).mp hx
    obtain ⟨j, h2, h3, h4⟩ := (way_mem _ _ _ _).mp hw
    obtain ⟨_, e, nz⟩ := (lev_mem t hp _ x).mp hy
    have p0 : p ≠ 0 := by
      rw [← h4]
      exact nz (j + 1) (by omega)
    refine no_ring t (m := d - j) hp p0 (by omega) ?_
    have e2 : upN hs (d + 1) x = upN hs (d - j) (upN hs (j + 1) x) := by
      rw [← upN_add, show j + 1 + (d - j) = d + 1 by omega]
    rw [h4, e] at e2
    exact e2.symm
/-- the blocks beneath a place by at most so many steps, and the ties of these -/
def near (hs : List Nat) (d p : Nat) : List Nat := (List.range' 1 hs.length).filter fun b => decide (p ∈ wayN hs d b)
def tiesN (hs : List Nat) (d p : Nat) : List (Nat × Nat) := withUp hs (near hs d p)
theorem near_mem {hs : List Nat} {d p b : Nat} : b ∈ near hs d p ↔ b ≤ hs.length ∧ p ∈ wayN hs d b := by
  unfold near
  rw [List.mem_filter, List.mem_range'_1, decide_eq_true_eq]
  constructor
  · rintro ⟨h1, h2⟩
    exact ⟨by omega, h2⟩
  · rintro ⟨h1, h2⟩
    refine ⟨⟨Nat.one_le_iff_ne_zero.mpr fun e => ?_, by omega⟩, h2⟩
    rw [e, wayN_nil] at h2
    cases h2
theorem acc_perm {hs : List Nat} {p : Nat} (t : IsTree hs) (hp : p ≤ hs.length) (d : Nat) : (acc hs p d).Perm (near hs d p) := by
  refine (List.perm_ext_iff_of_nodup (acc_nodup t hp d) (List.Pairwise.filter _ List.nodup_range')).mpr fun b => ?_
  rw [acc_mem t hp]
  exact near_mem.symm
theorem near_len (hs : List Nat) (d p : Nat) : (near hs d p).length ≤ hs.length := filter_len _ _
theorem acc_len {hs : List Nat} {p : Nat} (t : IsTree hs) (hp : p ≤ hs.length) (d : Nat) : (acc hs p d).length ≤ hs.length := by
  rw [(acc_perm t hp d).length_eq]
  exact near_len hs d p
theorem lev_len {hs : List Nat} {p : Nat} (t : IsTree hs) (hp : p ≤ hs.length) (i : Nat) : (lev hs p i).length ≤ hs.length := by
  cases i with
  | zero =>
    show 1 ≤ _
    exact t.pos
  | succ i =>
    have h := acc_len t hp (i + 1)
    have e : acc hs p (i + 1) = acc hs p i ++ lev hs p (i + 1) := rfl
    rw [e, List.length_append] at h
    omega
theorem next_ties (hs : List Nat) (p i : Nat) : ((lev hs p i).flatMap fun a => (kids hs a).map fun b => (b, a)) = withUp hs (lev hs p (i + 1)) := by
  show _ = ((lev hs p i).flatMap (kids hs)).map _
  rw [List.map_flatMap]
  congr 1
  funext a
  refine List.map_congr_left fun b hb => ?_
  rw [(kids_mem.mp hb).2.2]
/-- pairs in order, each first item once -/
def ltPr (x y : Nat × Nat) : Prop := x.1 < y.1 ∨ (x.1 = y.1 ∧ x.2 < y.2)
theorem ties_sorted {hs : List Nat} {p d : Nat} {ys : List (Nat × Nat)} (t : IsTree hs) (hp : p ≤ hs.length) (h1 : ys.Perm (withUp hs (acc hs p d))) (h2 : ys.Pairwise fun x y => ¬ ltPr y x) : ys = tiesN hs d p := by
  refine (h1.trans ((acc_perm t hp d).map _)).eq_of_pairwise (le := fun x y => ¬ ltPr y x) (fun a b _ _ k1 k2 => ?_) h2 ?_
  · unfold ltPr at k1 k2
    refine Prod.ext ?_ ?_ <;> omega
  · show ((near hs d p).map fun b => (b, up hs b)).Pairwise _
    unfold near
    rw [List.pairwise_map]
    refine List.Pairwise.filter _ ((List.pairwise_lt_range' (s := 1) (n := hs.length)).imp fun {a b} hab => ?_)
    unfold ltPr
    show ¬ (b < a ∨ _ ∧ _)
    omega
/-! what is told otherwise -/
def telD (hs gs : List Nat) (u d p : Nat) : Bool := decide (wayN hs u p = wayN gs u p) && decide (tiesN hs d p = tiesN gs d p)
def unlikeN (hs gs : List Nat) (u d : Nat) : List Nat := (List.range (hs.length + 1)).filter fun p => !telD hs gs u d p
theorem telD_iff {hs gs : List Nat} {u d p : Nat} : telD hs gs u d p = true ↔ wayN hs u p = wayN gs u p ∧ tiesN hs d p = tiesN gs d p := by
  unfold telD
  rw [Bool.and_eq_true, decide_eq_true_eq, decide_eq_true_eq]
theorem telD_self (hs : List Nat) (u d p : Nat) : telD hs hs u d p = true := telD_iff.mpr ⟨rfl, rfl⟩
theorem telD_comm (hs gs : List Nat) (u d p : Nat) : telD hs gs u d p = telD gs hs u d p := by
  rw [Bool.eq_iff_iff, telD_iff, telD_iff]
  exact ⟨fun h => ⟨h.1.symm, h.2.symm⟩, fun h => ⟨h.1.symm, h.2.symm⟩⟩
theorem unlike_mem {hs gs : List Nat} {u d p : Nat} : p ∈ unlikeN hs gs u d ↔ p ≤ hs.length ∧ telD hs gs u d p = false := by
  unfold unlikeN
  rw [List.mem_filter, List.mem_range, Bool.not_eq_true', Nat.lt_succ_iff]
theorem unlike_len (hs gs : List Nat) (u d : Nat) : (unlikeN hs gs u d).length ≤ hs.length + 1 := by
  refine Nat.le_trans (List.length_filter_le _ _) ?_
  rw [List.length_range]
  exact Nat.le_refl _
theorem unlike_self (hs : List Nat) (u d : Nat) : unlikeN hs hs u d = [] := by
  refine List.filter_eq_nil_iff.mpr fun p _ h => ?_
  rw [telD_self] at h
  cases h
theorem unlike_comm {hs gs : List Nat} (hl : hs.length = gs.length) (u d : Nat) : unlikeN hs gs u d = unlikeN gs hs u d := by
  unfold unlikeN
  rw [hl]
  refine List.filter_congr fun p _ => ?_
  rw [telD_comm]
theorem unlike_sorted (hs gs : List Nat) (u d : Nat) : (unlikeN hs gs u d).Pairwise (· < ·) := List.Pairwise.filter _ List.pairwise_lt_range
theorem ties_mem {hs : List Nat} {d p : Nat} {x : Nat × Nat} : x ∈ tiesN hs d p ↔ x.1 ≤ hs.length ∧ p ∈ wayN hs d x.1 ∧ x.2 = up hs x.1 := by
  unfold tiesN withUp
  rw [List.mem_map]
  constructor
  · rintro ⟨b, hb, rfl⟩
    have := near_mem.mp hb
    exact ⟨this.1, this.2, rfl⟩
  · rintro ⟨h1, h2, h3⟩
    exact ⟨x.1, near_mem.mpr ⟨h1, h2⟩, Prod.ext rfl h3.symm⟩
theorem ties_eq {hs gs : List Nat} {d p : Nat} (hl : hs.length = gs.length) : tiesN hs d p = tiesN gs d p ↔ ∀ b, b ≤ hs.length → (p ∈ wayN hs d b ↔ p ∈ wayN gs d b) ∧ (p ∈ wayN hs d b → up hs b = up gs b) := by
  constructor
  · intro e b hb
    have k1 : p ∈ wayN hs d b → p ∈ wayN gs d b ∧ up hs b = up gs b := fun h => by
      have := (ties_mem (x := (b, up hs b))).mpr ⟨hb, h, rfl⟩
      rw [e] at this
      have := ties_mem.mp this
      exact ⟨this.2.1, this.2.2⟩
    have k2 : p ∈ wayN gs d b → p ∈ wayN hs d b := fun h => by
      have := (ties_mem (hs := gs) (x := (b, up gs b))).mpr ⟨by rw [← hl]; exact hb, h, rfl⟩
      rw [← e] at this
      exact (ties_mem.mp this).2.1
    exact ⟨⟨fun h => (k1 h).1, k2⟩, fun h => (k1 h).2⟩
  · intro h
    have en : near hs d p = near gs d p := by
      unfold near
      rw [← hl]
      refine List.filter_congr fun b hb => ?_
      have := List.mem_range'_1.mp hb
      rw [Bool.eq_iff_iff, decide_eq_true_eq, decide_eq_true_eq]
      exact (h b (by omega)).1
    unfold tiesN withUp
    rw [← en]
    refine List.map_congr_left fun b hb => ?_
    have := near_mem.mp hb
    rw [(h b this.1).2 this.2]
/-- a block hung elsewhere -/
theorem moved_seen {hs : List Nat} {b q u d : Nat} (hb : 1 ≤ b) (hb2 : b ≤ hs.length) (hq : up hs b ≠ q) : (0 < u → telD hs (put hs b q) u d b = false) ∧ (0 < d → telD hs (put hs b q) u d (up hs b) = false ∧ telD hs (put hs b q) u d q = false) := by
  have eb : up (put hs b q) b = q := by rw [up_put hb hb2, if_pos rfl]
  have b0 : b ≠ 0 := by omega
  refine ⟨fun hu => ?_, fun hd => ⟨?_, ?_⟩⟩
  · refine Bool.eq_false_iff.mpr fun h => ?_
    have e := (telD_iff.mp h).1
    obtain ⟨u, rfl⟩ : ∃ u', u = u' + 1 := ⟨u - 1, by omega⟩
    rw [wayN_cons _ _ b0, wayN_cons _ _ b0, eb] at e
    exact hq (List.cons.inj e).1
  · refine Bool.eq_false_iff.mpr fun h => ?_
    have e := (telD_iff.mp h).2
    obtain ⟨d, rfl⟩ : ∃ d', d = d' + 1 := ⟨d - 1, by omega⟩
    have := (ties_mem (hs := hs) (d := d + 1) (p := up hs b) (x := (b, up hs b))).mpr ⟨hb2, by rw [wayN_cons _ _ b0]; exact List.mem_cons_self, rfl⟩
    rw [e] at this
    have := (ties_mem.mp this).2.2
    rw [eb] at this
    exact hq this
  · refine Bool.eq_false_iff.mpr fun h => ?_
    have e := (telD_iff.mp h).2
    obtain ⟨d, rfl⟩ : ∃ d', d = d' + 1 := ⟨d - 1, by omega⟩
    have := (ties_mem (hs := put hs b q) (d := d + 1) (p := q) (x := (b, q))).mpr ⟨by rw [put_len]; exact hb2, by rw [wayN_cons _ _ b0, eb]; exact List.mem_cons_self, eb.symm⟩
    rw [← e] at this
    exact hq (ties_mem.mp this).2.2.symm
theorem way_sub {hs : List Nat} {d d' k x : Nat} (h : d ≤ d') (hx : x ∈ wayN hs d k) : x ∈ wayN hs d' k := by
  obtain ⟨j, h1, h2, h3⟩ := (way_mem _ _ _ _).mp hx
  exact (way_mem _ _ _ _).mpr ⟨j, by omega, h2, h3⟩
/-- a greater view tells no less -/
theorem wider {hs gs : List Nat} {u u' d d' p : Nat} (t : IsTree hs) (t' : IsTree gs) (hl : hs.length = gs.length) (hu : u ≤ u') (hd : d ≤ d') (h : telD hs gs u' d' p = true) : telD hs gs u d p = true := by
  obtain ⟨e1, e2⟩ := telD_iff.mp h
  refine telD_iff.mpr ⟨?_, (ties_eq hl).mpr ?_⟩
  · have := congrArg (List.take u) e1
    rwa [wayN_take, wayN_take, Nat.min_eq_left hu] at this
  · have key : ∀ (xs ys : List Nat), IsTree xs → xs.length = ys.length → tiesN xs d' p = tiesN ys d' p → ∀ d, d ≤ d' → ∀ b, b ≤ xs.length → p ∈ wayN xs d b → p ∈ wayN ys d b ∧ up xs b = up ys b := by
      intro xs ys tx el e d
      induction d with
      | zero =>
        intro _ b _ hx
        cases hx
      | succ d ih =>
        intro hd b hb hx
        have b0 : b ≠ 0 := fun z => by
          rw [z, wayN_nil] at hx
          cases hx
        have hu := ((ties_eq el).mp e b hb).2 (way_sub hd hx)
        refine ⟨?_, hu⟩
        rw [wayN_cons _ _ b0] at hx ⊢
        rw [← hu]
        rcases List.mem_cons.mp hx with hx | hx
        · rw [hx]
          exact List.mem_cons_self
        · exact List.mem_cons_of_mem _ (ih (by omega) _ (up_le tx.le b) hx).1
    intro b hb
    have k1 := key hs gs t hl e2 d hd b hb
    have k2 := key gs hs t' hl.symm e2.symm d hd b (by rw [← hl]; exact hb)
    exact ⟨⟨fun h => (k1 h).1, fun h => (k2 h).1⟩, fun h => (k1 h).2⟩
/-! called anew -/
theorem wayN_called {hs ms : List Nat} (t : IsTree hs) (o : IsOrd hs.length ms) : ∀ n k, k ≤ hs.length → wayN (call2 hs ms) n (up ms k) = (wayN hs n k).map (up ms)
  | 0, _, _ => rfl
  | n + 1, k, hk => by
    by_cases h : k = 0
    · rw [h, up_zero, wayN_nil, wayN_nil]
      rfl
    · have r := o.rg (k := k) (by omega) hk
      rw [wayN_cons _ _ h, wayN_cons _ _ (by omega), call2_up o hk, wayN_called t o n _ (up_le t.le k)]
      rfl
theorem map_inj_on {ms : List Nat} {n : Nat} (o : IsOrd n ms) : ∀ {xs ys : List Nat}, (∀ x ∈ xs, x ≤ n) → (∀ y ∈ ys, y ≤ n) → xs.map (up ms) = ys.map (up ms) → xs = ys
  | [], [], _, _, _ => rfl
  | [], _ :: _, _, _, e => by cases e
  | _ :: _, [], _, _, e => by cases e
  | x :: xs, y :: ys, hx, hy, e => by
    rw [List.map_cons, List.map_cons] at e
    obtain ⟨e1, e2⟩ := List.cons.inj e
    rw [o.inj (hx x List.mem_cons_self) (hy y List.mem_cons_self) e1, map_inj_on o (fun z hz => hx z (List.mem_cons_of_mem _ hz)) (fun z hz => hy z (List.mem_cons_of_mem _ hz)) e2]
theorem mem_called {hs ms : List Nat} (t : IsTree hs) (o : IsOrd hs.length ms) {d p b : Nat} (hp : p ≤ hs.length) (hb : b ≤ hs.length) : up ms p ∈ wayN (call2 hs ms) d (up ms b) ↔ p ∈ wayN hs d b := by
  rw [wayN_called t o d b hb, List.mem_map]
  constructor
  · rintro ⟨x, hx, e⟩
    rw [← o.inj (wayN_le t.le hx) hp e]
    exact hx
  · exact fun h => ⟨p, h, rfl⟩
theorem telD_called {hs gs ms : List Nat} (t : IsTree hs) (t' : IsTree gs) (hl : hs.length = gs.length) (o : IsOrd hs.length ms) {u d p : Nat} (hp : p ≤ hs.length) : telD (call2 hs ms) (call2 gs ms) u d (up ms p) = telD hs gs u d p := by
  have o' : IsOrd gs.length ms := by
    rw [← hl]
    exact o
  have hp' : p ≤ gs.length := by rw [← hl]; exact hp
  rw [Bool.eq_iff_iff, telD_iff, telD_iff, ties_eq hl, ties_eq (by rw [call2_len, call2_len, hl]), wayN_called t o u p hp, wayN_called t' o' u p hp', call2_len]
  have e1 : ((wayN hs u p).map (up ms) = (wayN gs u p).map (up ms)) ↔ wayN hs u p = wayN gs u p :=
    ⟨fun e => map_inj_on o (fun x hx => wayN_le t.le hx) (fun x hx => by rw [hl]; exact wayN_le t'.le hx) e, fun e => by rw [e]⟩
  rw [e1]
  refine and_congr_right fun _ => ⟨fun h b hb => ?_, fun h c hc => ?_⟩
  · have := h (up ms b) (o.rg0 hb)
    rw [mem_called t o hp hb, mem_called t' o' hp' (by rw [← hl]; exact hb), call2_up o hb, call2_up o' (by rw [← hl]; exact hb)] at this
    exact ⟨this.1, fun hw => o.inj (up_le t.le b) (by rw [hl]; exact up_le t'.le b) (this.2 hw)⟩
  · obtain ⟨b, hb, rfl⟩ : ∃ b, b ≤ hs.length ∧ up ms b = c := by
      by_cases c0 : c = 0
      · exact ⟨0, by omega, c0.symm⟩
      · obtain ⟨k, _, k2, k3⟩ := o.surj (x := c) (by omega) hc
        exact ⟨k, k2, k3⟩
    rw [mem_called t o hp hb, mem_called t' o' hp' (by rw [← hl]; exact hb), call2_up o hb, call2_up o' (by rw [← hl]; exact hb)]
    have := h b hb
    exact ⟨this.1, fun hw => by rw [this.2 hw]⟩
theorem unlike_called {hs gs ms : List Nat} (t : IsTree hs) (t' : IsTree gs) (hl : hs.length = gs.length) (o : IsOrd hs.length ms) {u d : Nat} : ((unlikeN hs gs u d).map (up ms)).Perm (unlikeN (call2 hs ms) (call2 gs ms) u d) := by
  refine (List.perm_ext_iff_of_nodup ?_ ((unlike_sorted _ _ _ _).imp fun {a b} h => Nat.ne_of_lt h)).mpr fun c => ?_
  · refine List.pairwise_map.mpr ((List.Pairwise.and_mem.mp (unlike_sorted hs gs u d)).imp fun {a b} h e => ?_)
    have := o.inj (unlike_mem.mp h.1).1 (unlike_mem.mp h.2.1).1 e
    have := h.2.2
    omega
  · rw [List.mem_map, unlike_mem, call2_len]
    constructor
    · rintro ⟨p, hp, rfl⟩
      have := unlike_mem.mp hp
      exact ⟨o.rg0 this.1, by rw [telD_called t t' hl o this.1]; exact this.2⟩
    · rintro ⟨h1, h2⟩
      obtain ⟨b, hb, rfl⟩ : ∃ b, b ≤ hs.length ∧ up ms b = c := by
        by_cases c0 : c = 0
        · exact ⟨0, by omega, c0.symm⟩
        · obtain ⟨k, _, k2, k3⟩ := o.surj (x := c) (by omega) h1
          exact ⟨k, k2, k3⟩
      rw [telD_called t t' hl o hb] at h2
      exact ⟨b, unlike_mem.mpr ⟨hb, h2⟩, rfl⟩
end Fv
/-! the first fact, and twins -/
namespace Fv
def dist (u d : Nat) : Nat := (if 0 < d then d + 1 else 0) + if 0 < u then 1 else 0
theorem nodup_sub : ∀ {xs ys : List Nat}, xs.Nodup → (∀ x ∈ xs, x ∈ ys) → xs.length ≤ ys.length
  | [], _, _, _ => Nat.zero_le _
  | x :: xs, ys, hn, h => by
    have hx := h x List.mem_cons_self
    have hn2 := List.nodup_cons.mp hn
    have ih := nodup_sub (xs := xs) (ys := ys.erase x) hn2.2 fun z hz => by
      have hne : z ≠ x := fun e => hn2.1 (by rw [← e]; exact hz)
      exact (List.mem_erase_of_ne hne).mpr (h z (List.mem_cons_of_mem _ hz))
    rw [List.length_erase_of_mem hx] at ih
    have : 0 < ys.length := List.length_pos_of_mem hx
    rw [List.length_cons]
    omega
/-- those above a block that hangs otherwise tell so -/
theorem chain_apart {hs gs : List Nat} {u d b : Nat} (hb : b ≤ hs.length) (b0 : b ≠ 0) (ne : up hs b ≠ up gs b) (h0 : telD hs gs u d 0 = true) : ∀ i, i ≤ d → upN hs i b ≠ 0 ∧ (1 ≤ i → telD hs gs u d (upN hs i b) = false)
  | 0, _ => ⟨b0, fun h => absurd h (by omega)⟩
  | i + 1, hi => by
    have ih := (chain_apart hb b0 ne h0 i (by omega)).1
    have f : telD hs gs u d (upN hs (i + 1) b) = false := by
      refine Bool.eq_false_iff.mpr fun h => ?_
      have e := (telD_iff.mp h).2
      have m := (ties_mem (hs := hs) (d := d) (p := upN hs (i + 1) b) (x := (b, up hs b))).mpr ⟨hb, (way_mem _ _ _ _).mpr ⟨i, by omega, ih, rfl⟩, rfl⟩
      rw [e] at m
      exact ne (ties_mem.mp m).2.2
    refine ⟨fun z => ?_, fun _ => f⟩
    rw [z, h0] at f
    cases f
theorem up_inj_chain {hs : List Nat} (t : IsTree hs) {b i j : Nat} (hb : b ≤ hs.length) (hij : i < j) (nz : upN hs i b ≠ 0) : upN hs i b ≠ upN hs j b := fun e => by
  refine no_ring t (upN_le t.le i b hb) nz (m := j - i) (by omega) ?_
  rw [← upN_add, show i + (j - i) = j by omega]
  exact e.symm
theorem least_block {hs gs : List Nat} (t : IsTree hs) (hl : hs.length = gs.length) (ne : hs ≠ gs) : ∃ b, b ≤ hs.length ∧ b ≠ 0 ∧ up hs b ≠ up gs b ∧ ∀ i, 1 ≤ i → up hs (upN hs i b) = up gs (upN hs i b) := by
  have ex : ∃ b, 1 ≤ b ∧ b ≤ hs.length ∧ up hs b ≠ up gs b := by
    exact Classical.byContradiction fun h => ne (same_ups hl fun k h1 h2 => Classical.byContradiction fun h3 => h ⟨k, h1, h2, h3⟩)
  have go : ∀ j, (∃ b, 1 ≤ b ∧ b ≤ hs.length ∧ up hs b ≠ up gs b ∧ upN hs j b = 0) → ∃ b, b ≤ hs.length ∧ b ≠ 0 ∧ up hs b ≠ up gs b ∧ ∀ i, 1 ≤ i → up hs (upN hs i b) = up gs (upN hs i b) := by
    intro j
    induction j using Nat.strongRecOn with
    | ind j ih =>
      rintro ⟨b, b1, b2, b3, b4⟩
      by_cases h : ∃ i, 1 ≤ i ∧ up hs (upN hs i b) ≠ up gs (upN hs i b)
      · obtain ⟨i, i1, i2⟩ := h
        have nz : upN hs i b ≠ 0 := fun z => i2 (by rw [z]; rfl)
        have hij : i < j := Nat.lt_of_not_le fun hle => nz (upN_more b4 hle)
        refine ih (j - i) (by omega) ⟨upN hs i b, by omega, upN_le t.le i b b2, i2, ?_⟩
        rw [← upN_add, show i + (j - i) = j by omega]
        exact b4
      · exact ⟨b, b2, by omega, b3, fun i h1 => Classical.byContradiction fun h2 => h ⟨i, h1, h2⟩⟩
  obtain ⟨b, b1, b2, b3⟩ := ex
  exact go hs.length ⟨b, b1, b2, b3, t.comes b b2⟩
theorem same_chain {hs gs : List Nat} {x : Nat} (h : ∀ i, up hs (upN hs i x) = up gs (upN hs i x)) : ∀ i, upN gs i x = upN hs i x
  | 0 => rfl
  | i + 1 => by rw [upN_succ, upN_succ, same_chain h i, h i]
theorem first_fact {hs gs : List Nat} {u d : Nat} (t : IsTree hs) (t' : IsTree gs) (hl : hs.length = gs.length) (ne : hs ≠ gs) (h0 : telD hs gs u d 0 = true) : dist u d ≤ (unlikeN hs gs u d).length := by
  obtain ⟨b, hb, b0, hne, hup⟩ := least_block t hl ne
  have hb' : b ≤ gs.length := by rw [← hl]; exact hb
  have A := chain_apart hb b0 hne h0
  have C := chain_apart (hs := gs) (gs := hs) hb' b0 hne.symm (by rw [telD_comm]; exact h0)
  have memA : ∀ i, 1 ≤ i → i ≤ d → upN hs i b ∈ unlikeN hs gs u d := fun i h1 h2 => unlike_mem.mpr ⟨upN_le t.le i b hb, (A i h2).2 h1⟩
  have memC : ∀ i, 1 ≤ i → i ≤ d → upN gs i b ∈ unlikeN hs gs u d := fun i h1 h2 => unlike_mem.mpr ⟨by rw [hl]; exact upN_le t'.le i b hb', by rw [telD_comm]; exact (C i h2).2 h1⟩
  -- those of the ties
  have ties : ∃ L : List Nat, L.Nodup ∧ (∀ x ∈ L, x ∈ unlikeN hs gs u d) ∧ b ∉ L ∧ L.length = if 0 < d then d + 1 else 0 := by
    by_cases hd : 0 < d
    · have nodA : ((List.range d).map fun i => upN hs (i + 1) b).Nodup := by
        refine List.pairwise_map.mpr ((List.Pairwise.and_mem.mp (List.pairwise_lt_range (n := d))).imp fun {i j} h e => ?_)
        obtain ⟨hi, hj, hij⟩ := h
        rw [List.mem_range] at hi hj
        exact up_inj_chain t hb (show i + 1 < j + 1 by omega) (A (i + 1) (by omega)).1 e
      have inA : ∀ x ∈ (List.range d).map fun i => upN hs (i + 1) b, ∃ i, 1 ≤ i ∧ i ≤ d ∧ x = upN hs i b := fun x hx => by
        obtain ⟨i, hi, rfl⟩ := List.mem_map.mp hx
        rw [List.mem_range] at hi
        exact ⟨i + 1, by omega, by omega, rfl⟩
      have bA : ∀ i, 1 ≤ i → i ≤ d + 1 → b ≠ upN hs i b := fun i h1 h2 => up_inj_chain t hb (i := 0) (by omega) b0
      have key : ∃ e, e ∈ unlikeN hs gs u d ∧ e ∉ ((List.range d).map fun i => upN hs (i + 1) b) ∧ b ≠ e := by
        by_cases hc : up gs b ∈ (List.range d).map fun i => upN hs (i + 1) b
        · obtain ⟨j, j1, j2, ej⟩ := inA _ hc
          have j3 : 2 ≤ j := by
            refine Nat.lt_of_not_le fun h => hne ?_
            have : j = 1 := by omega
            subst this
            exact ej.symm
          have hch := same_chain (hs := hs) (gs := gs) (x := upN hs j b) fun i => by
            rw [← upN_add]
            exact hup (j + i) (by omega)
          have ee : upN hs (d + 1) b = upN gs (d + 2 - j) b := by
            have e1 : upN hs (d + 1) b = upN hs (d + 1 - j) (upN hs j b) := by rw [← upN_add, show j + (d + 1 - j) = d + 1 by omega]
            rw [e1, ← hch, ← ej, show d + 2 - j = 1 + (d + 1 - j) by omega, upN_add]
            rfl
          refine ⟨upN hs (d + 1) b, by rw [ee]; exact memC _ (by omega) (by omega), fun hx => ?_, bA (d + 1) (by omega) (by omega)⟩
          obtain ⟨i, i1, i2, ei⟩ := inA _ hx
          exact up_inj_chain t hb (show i < d + 1 by omega) (A i i2).1 ei.symm
        · refine ⟨up gs b, memC 1 (by omega) hd, hc, fun e => ?_⟩
          exact no_ring t' hb' b0 (m := 1) (by omega) e.symm
      obtain ⟨e, e1, e2, e3⟩ := key
      refine ⟨e :: (List.range d).map fun i => upN hs (i + 1) b, List.nodup_cons.mpr ⟨e2, nodA⟩, fun x hx => ?_, fun hx => ?_, ?_⟩
      · rcases List.mem_cons.mp hx with rfl | hx
        · exact e1
        · obtain ⟨i, i1, i2, rfl⟩ := inA x hx
          exact memA i i1 i2
      · rcases List.mem_cons.mp hx with h | hx
        · exact e3 h
        · obtain ⟨i, i1, i2, ei⟩ := inA b hx
          exact bA i i1 (by omega) ei
      · rw [if_pos hd, List.length_cons, List.length_map, List.length_range]
    · exact ⟨[], List.Pairwise.nil, (fun x h => by cases h), (fun h => by cases h), by rw [if_neg hd]; rfl⟩
  obtain ⟨L, l1, l2, l3, l4⟩ := ties
  unfold dist
  rw [← l4]
  by_cases hu : 0 < u
  · rw [if_pos hu]
    have mb : b ∈ unlikeN hs gs u d := by
      refine unlike_mem.mpr ⟨hb, Bool.eq_false_iff.mpr fun h => ?_⟩
      have e := (telD_iff.mp h).1
      obtain ⟨u, rfl⟩ : ∃ u', u = u' + 1 := ⟨u - 1, by omega⟩
      rw [wayN_cons _ _ b0, wayN_cons _ _ b0] at e
      exact hne (List.cons.inj e).1
    have := nodup_sub (xs := b :: L) (ys := unlikeN hs gs u d) (List.nodup_cons.mpr ⟨l3, l1⟩) fun x hx => by
      rcases List.mem_cons.mp hx with rfl | hx
      · exact mb
      · exact l2 x hx
    rwa [List.length_cons] at this
  · rw [if_neg hu]
    exact nodup_sub l1 l2
/-! twins: a row of d + 1, and one block more under its last but one, or its last -/
def twin (n d y : Nat) : List Nat := List.range (d + 1) ++ y :: List.replicate (n - d - 2) 0
theorem twin_len {n d y : Nat} (h : d + 2 ≤ n) : (twin n d y).length = n := by
  unfold twin
  rw [List.length_append, List.length_range, List.length_cons, List.length_replicate]
  omega
theorem twin_up {n d y : Nat} (h : d + 2 ≤ n) (k : Nat) : up (twin n d y) k = if k ≤ d + 1 then k - 1 else if k = d + 2 then y else 0 := by
  by_cases h0 : k = 0
  · subst h0
    rw [if_pos (by omega)]
    rfl
  · unfold up
    rw [if_neg h0, List.getD_eq_getElem?_getD]
    unfold twin
    by_cases h1 : k ≤ d + 1
    · rw [if_pos h1, List.getElem?_append_left (by rw [List.length_range]; omega), List.getElem?_range (by omega)]
      rfl
    · rw [if_neg h1, List.getElem?_append_right (by rw [List.length_range]; omega), List.length_range]
      by_cases h2 : k = d + 2
      · subst h2
        rw [if_pos rfl, show d + 2 - 1 - (d + 1) = 0 by omega]
        rfl
      · rw [if_neg h2, show k - 1 - (d + 1) = (k - d - 3) + 1 by omega, List.getElem?_cons_succ, List.getElem?_replicate]
        split <;> rfl
theorem twin_row {n d y : Nat} (h : d + 2 ≤ n) {k : Nat} (hk : k ≤ d + 1) : ∀ j, upN (twin n d y) j k = k - j
  | 0 => rfl
  | j + 1 => by rw [upN_succ, twin_row h hk j, twin_up h, if_pos (by omega)]; omega
theorem twin_last {n d y : Nat} (h : d + 2 ≤ n) (hy : y ≤ d + 1) (j : Nat) : upN (twin n d y) (j + 1) (d + 2) = y - j := by
  show upN (twin n d y) j (up (twin n d y) (d + 2)) = _
  rw [twin_up h, if_neg (by omega), if_pos rfl, twin_row h hy]
theorem twin_rest {n d y k : Nat} (h : d + 2 ≤ n) (hk : d + 2 < k) : up (twin n d y) k = 0 := by
  rw [twin_up h, if_neg (by omega), if_neg (by omega)]
theorem twin_tree {n d y : Nat} (h : d + 2 ≤ n) (hn : n ≤ 40) (hy : y ≤ d + 1) : IsTree (twin n d y) := by
  have hle : ∀ x ∈ twin n d y, x ≤ (twin n d y).length := fun x hx => by
    rw [twin_len h]
    unfold twin at hx
    rcases List.mem_append.mp hx with hx | hx
    · rw [List.mem_range] at hx
      omega
    · rcases List.mem_cons.mp hx with rfl | hx
      · omega
      · rw [(List.mem_replicate.mp hx).2]
        exact Nat.zero_le _
  refine ⟨by rw [twin_len h]; omega, by rw [twin_len h]; exact hn, hle, fun k hk => ?_⟩
  by_cases h1 : k ≤ d + 1
  · exact comes_by (j := k) hle hk (by rw [twin_row h h1]; omega)
  · by_cases h2 : k = d + 2
    · subst h2
      exact comes_by (j := d + 1 + 1) hle hk (by rw [twin_last h hy]; omega)
    · exact comes_by (j := 1) hle hk (twin_rest h (by omega))
theorem twin_ne {n d : Nat} (h : d + 2 ≤ n) : twin n d d ≠ twin n d (d + 1) := fun e => by
  have a := twin_up (y := d) h (d + 2)
  have b := twin_up (y := d + 1) h (d + 2)
  rw [if_neg (by omega), if_pos rfl] at a b
  rw [e, b] at a
  omega
/-- but the last but one, all hang alike -/
theorem twin_alike {n d k : Nat} (h : d + 2 ≤ n) (hk : k ≠ d + 2) : up (twin n d d) k = up (twin n d (d + 1)) k := by
  rw [twin_up h, twin_up h, if_neg hk, if_neg hk]
theorem twin_up_ne {n d y : Nat} (h : d + 2 ≤ n) (hy : y ≤ d + 1) (k : Nat) : up (twin n d y) k ≠ d + 2 := by
  rw [twin_up h]
  split
  · omega
  · split <;> omega
theorem twin_way {n d : Nat} (h : d + 2 ≤ n) : ∀ m k, k ≠ d + 2 → wayN (twin n d d) m k = wayN (twin n d (d + 1)) m k
  | 0, _, _ => rfl
  | m + 1, k, hk => by
    by_cases h0 : k = 0
    · rw [h0, wayN_nil, wayN_nil]
    · rw [wayN_cons _ _ h0, wayN_cons _ _ h0, ← twin_alike h hk, twin_way h m _ (twin_up_ne h (by omega) k)]
theorem twin_last_way {n d y m p : Nat} (h : d + 2 ≤ n) (hy : y ≤ d + 1) (hm : m ≤ y) : p ∈ wayN (twin n d y) m (d + 2) ↔ p ≤ y ∧ y < p + m := by
  rw [way_mem]
  constructor
  · rintro ⟨j, h1, h2, h3⟩
    rw [twin_last h hy] at h3
    omega
  · rintro ⟨h1, h2⟩
    refine ⟨y - p, by omega, ?_, by rw [twin_last h hy]; omega⟩
    cases e : y - p with
    | zero =>
      show d + 2 ≠ 0
      omega
    | succ j =>
      rw [twin_last h hy]
      omega
theorem twin_tel {n d u p : Nat} (h : d + 2 ≤ n) : telD (twin n d d) (twin n d (d + 1)) u d p = true ↔ ¬ ((0 < d ∧ 1 ≤ p ∧ p ≤ d + 1) ∨ (0 < u ∧ p = d + 2)) := by
  rw [telD_iff, ties_eq (by rw [twin_len h, twin_len h]), twin_len h]
  have up1 : up (twin n d d) (d + 2) = d := by rw [twin_up h, if_neg (by omega), if_pos rfl]
  have up2 : up (twin n d (d + 1)) (d + 2) = d + 1 := by rw [twin_up h, if_neg (by omega), if_pos rfl]
  have w1 := twin_last_way (n := n) (y := d) (m := d) (p := p) h (by omega) (by omega)
  have w2 := twin_last_way (n := n) (y := d + 1) (m := d) (p := p) h (by omega) (by omega)
  constructor
  · rintro ⟨e1, e2⟩ (⟨k1, k2, k3⟩ | ⟨k1, rfl⟩)
    · obtain ⟨f1, f2⟩ := e2 (d + 2) h
      rw [w1, w2] at f1
      rw [w1, up1, up2] at f2
      by_cases hp : p ≤ d
      · have := f2 ⟨hp, by omega⟩
        omega
      · have := f1.mpr ⟨by omega, by omega⟩
        omega
    · obtain ⟨u, rfl⟩ : ∃ u', u = u' + 1 := ⟨u - 1, by omega⟩
      rw [wayN_cons _ _ (by omega), wayN_cons _ _ (by omega), up1, up2] at e1
      have := (List.cons.inj e1).1
      omega
  · intro hn
    refine ⟨?_, fun b hb => ?_⟩
    · by_cases hp : p = d + 2
      · have u0 : u = 0 := by
          refine Nat.eq_zero_of_not_pos fun hu => hn (.inr ⟨hu, hp⟩)
        rw [u0]
        rfl
      · exact twin_way h u p hp
    · by_cases hb2 : b = d + 2
      · subst hb2
        rw [w1, w2]
        have : ¬ (0 < d ∧ 1 ≤ p ∧ p ≤ d + 1) := fun z => hn (.inl z)
        constructor
        · omega
        · intro z
          omega
      · rw [twin_way h d b hb2, twin_alike h hb2]
        exact ⟨Iff.rfl, fun _ => rfl⟩
theorem twin_unlike {n d u : Nat} (h : d + 2 ≤ n) : (unlikeN (twin n d d) (twin n d (d + 1)) u d).length = dist u d := by
  have e : (unlikeN (twin n d d) (twin n d (d + 1)) u d).Perm (List.range' 1 (if 0 < d then d + 1 else 0) ++ if 0 < u then [d + 2] else []) := by
    refine (List.perm_ext_iff_of_nodup ((unlike_sorted _ _ _ _).imp fun {a b} h => Nat.ne_of_lt h) ?_).mpr fun p => ?_
    · refine List.nodup_append.mpr ⟨List.nodup_range', ?_, fun x hx y hy e => ?_⟩
      · split
        · exact List.pairwise_singleton _ _
        · exact List.Pairwise.nil
      · have h1 := List.mem_range'_1.mp hx
        split at hy
        · have h2 := List.mem_singleton.mp hy
          split at h1 <;> omega
        · cases hy
    · rw [unlike_mem, twin_len h, List.mem_append, List.mem_range'_1]
      have k := twin_tel (u := u) (p := p) h
      rw [← Bool.not_eq_true, k, Decidable.not_not]
      by_cases hd : 0 < d
      · by_cases hu : 0 < u
        · rw [if_pos hd, if_pos hu, List.mem_singleton]
          omega
        · rw [if_pos hd, if_neg hu]
          simp only [List.not_mem_nil, or_false]
          omega
      · by_cases hu : 0 < u
        · rw [if_neg hd, if_pos hu, List.mem_singleton]
          omega
        · rw [if_neg hd, if_neg hu]
          simp only [List.not_mem_nil, or_false]
          omega
  rw [e.length_eq, List.length_append, List.length_range']
  unfold dist
  congr 1
  split <;> rfl
theorem twin_head {n d u : Nat} (h : d + 2 ≤ n) : telD (twin n d d) (twin n d (d + 1)) u d 0 = true := (twin_tel h).mpr (by omega)
end Fv
/-! all trees of so many blocks, and all pairs of them -/
namespace Fv
def rowsN (n : Nat) : Nat → List (List Nat)
  | 0 => [[]]
  | b + 1 => (rowsN n b).flatMap fun r => ((List.range (n + 1)).filter fun p => decide (p ≠ b + 1)).map fun p => r ++ [p]
def isT (hs : List Nat) : Bool := (List.range' 1 hs.length).all fun k => decide (upN hs hs.length k = 0)
def allTrees (n : Nat) : List (List Nat) := (rowsN n n).filter isT
theorem rows_mem (n : Nat) : ∀ b (r : List Nat), r ∈ rowsN n b ↔ r.length = b ∧ ∀ (i x : Nat), r[i]? = some x → x ≤ n ∧ x ≠ i + 1
  | 0, r => by
    show r ∈ [[]] ↔ _
    rw [List.mem_singleton]
    constructor
    · rintro rfl
      exact ⟨rfl, fun i x h => by cases h⟩
    · exact fun h => List.eq_nil_of_length_eq_zero h.1
  | b + 1, r => by
    show r ∈ (rowsN n b).flatMap _ ↔ _
    rw [List.mem_flatMap]
    constructor
    · rintro ⟨s, hs, hr⟩
      obtain ⟨p, hp, rfl⟩ := List.mem_map.mp hr
      obtain ⟨l1, l2⟩ := (rows_mem n b s).mp hs
      rw [List.mem_filter, List.mem_range, decide_eq_true_eq] at hp
      refine ⟨by rw [List.length_append, l1]; rfl, fun i x h => ?_⟩
      by_cases hi : i < s.length
      · rw [List.getElem?_append_left hi] at h
        exact l2 i x h
      · have hl := (List.getElem?_eq_some_iff.mp h).1
        rw [List.length_append] at hl
        have hl : i < s.length + 1 := hl
        have e : i = s.length := by omega
        subst e
        rw [List.getElem?_append_right (Nat.le_refl _), Nat.sub_self] at h
        have e2 : p = x := Option.some.inj h
        subst e2
        rw [l1]
        exact ⟨by omega, hp.2⟩
    · rintro ⟨l1, l2⟩
      have hne : r ≠ [] := fun e => by
        rw [e] at l1
        cases l1
      have hd := List.dropLast_concat_getLast hne
      have ll : r.dropLast.length = b := by rw [List.length_dropLast, l1]; rfl
      have hlast : r[b]? = some (r.getLast hne) := by
        rw [List.getLast_eq_getElem, ← List.getElem?_eq_getElem]
        congr 1
        omega
      refine ⟨r.dropLast, (rows_mem n b _).mpr ⟨ll, fun i x h => ?_⟩, List.mem_map.mpr ⟨r.getLast hne, ?_, hd⟩⟩
      · have hi := (List.getElem?_eq_some_iff.mp h).1
        refine l2 i x ?_
        rw [← hd, List.getElem?_append_left hi]
        exact h
      · rw [List.mem_filter, List.mem_range, decide_eq_true_eq]
        have := l2 b _ hlast
        exact ⟨by omega, this.2⟩
theorem rows_nodup (n : Nat) : ∀ b, (rowsN n b).Nodup
  | 0 => List.pairwise_singleton _ _
  | b + 1 => by
    show ((rowsN n b).flatMap _).Nodup
    refine List.pairwise_flatMap.mpr ⟨fun r _ => ?_, (rows_nodup n b).imp fun {r s} hrs x hx y hy e => hrs ?_⟩
    · refine List.pairwise_map.mpr ((List.Pairwise.filter _ (List.nodup_range (n := n + 1))).imp fun {p q} hpq e => hpq ?_)
      have := List.append_cancel_left e
      exact (List.cons.inj this).1
    · obtain ⟨p, _, rfl⟩ := List.mem_map.mp hx
      obtain ⟨q, _, rfl⟩ := List.mem_map.mp hy
      exact (List.append_inj' e rfl).1
theorem rows_len (n : Nat) : ∀ b, (rowsN n b).length ≤ (n + 1) ^ b
  | 0 => Nat.le_refl _
  | b + 1 => by
    show ((rowsN n b).flatMap _).length ≤ _
    rw [List.length_flatMap]
    have h : ∀ m : List (List Nat), (m.map fun r => (((List.range (n + 1)).filter fun p => decide (p ≠ b + 1)).map fun p => r ++ [p]).length).sum ≤ m.length * (n + 1) := fun m => by
      induction m with
      | nil => exact Nat.zero_le _
      | cons r m ih =>
        rw [List.map_cons, List.sum_cons, List.length_map, List.length_cons, Nat.add_mul, Nat.one_mul]
        have := List.length_filter_le (fun p => decide (p ≠ b + 1)) (List.range (n + 1))
        rw [List.length_range] at this
        omega
    refine Nat.le_trans (h _) ?_
    rw [Nat.pow_succ]
    exact Nat.mul_le_mul_right _ (rows_len n b)
theorem all_mem {n : Nat} (h1 : 1 ≤ n) (h2 : n ≤ 40) {hs : List Nat} : hs ∈ allTrees n ↔ hs.length = n ∧ IsTree hs := by
  unfold allTrees
  rw [List.mem_filter, rows_mem]
  unfold isT
  rw [List.all_eq_true]
  constructor
  · rintro ⟨⟨l1, l2⟩, c⟩
    have hle : ∀ x ∈ hs, x ≤ hs.length := fun x hx => by
      obtain ⟨i, hi, e⟩ := List.getElem_of_mem hx
      rw [l1]
      exact (l2 i x (by rw [List.getElem?_eq_getElem hi, e])).1
    refine ⟨l1, by omega, by omega, hle, fun k hk => ?_⟩
    by_cases h0 : k = 0
    · rw [h0]
      exact upN_zero hs _
    · exact of_decide_eq_true (c k (List.mem_range'_1.mpr (by omega)))
  · rintro ⟨l1, t⟩
    refine ⟨⟨l1, fun i x hx => ⟨?_, fun e => ?_⟩⟩, fun k hk => decide_eq_true (t.comes k (by have := List.mem_range'_1.mp hk; omega))⟩
    · rw [← l1]
      exact t.le x (List.mem_of_getElem? hx)
    · have hi := (List.getElem?_eq_some_iff.mp hx).1
      refine no_ring t (k := i + 1) (m := 1) (by omega) (by omega) (by omega) ?_
      show up hs (i + 1) = i + 1
      rw [up_at (by omega) (by rw [Nat.add_sub_cancel]; exact hx), e]
theorem all_nodup (n : Nat) : (allTrees n).Nodup := List.Pairwise.filter _ (rows_nodup n n)
theorem all_len (n : Nat) : (allTrees n).length ≤ (n + 1) ^ n := Nat.le_trans (List.length_filter_le _ _) (rows_len n n)
/-- how many tell otherwise, for all pairs whose heads tell alike -/
def foundI (T : List (List Nat)) (u d i : Nat) : List Nat := ((List.range i).filter fun j => telD (T.getD j []) (T.getD i []) u d 0).map fun j => (unlikeN (T.getD i []) (T.getD j []) u d).length
def foundN (T : List (List Nat)) (u d i : Nat) : List Nat := (List.range i).flatMap fun k => foundI T u d k
theorem foundN_succ (T : List (List Nat)) (u d i : Nat) : foundN T u d (i + 1) = foundN T u d i ++ foundI T u d i := by
  unfold foundN
  rw [List.range_succ, List.flatMap_append]
  simp
theorem foundI_len (T : List (List Nat)) (u d i : Nat) : (foundI T u d i).length ≤ i := by
  unfold foundI
  rw [List.length_map]
  refine Nat.le_trans (List.length_filter_le _ _) ?_
  rw [List.length_range]
  exact Nat.le_refl _
theorem foundN_len (T : List (List Nat)) (u d : Nat) : ∀ i, (foundN T u d i).length ≤ i * i
  | 0 => Nat.le_refl _
  | i + 1 => by
    rw [foundN_succ, List.length_append]
    have := foundN_len T u d i
    have := foundI_len T u d i
    have e : (i + 1) * (i + 1) = i * i + i + i + 1 := by rw [Nat.add_mul, Nat.mul_add]; omega
    omega
theorem found_mem {T : List (List Nat)} {u d m x : Nat} : x ∈ foundN T u d m ↔ ∃ i j, j < i ∧ i < m ∧ telD (T.getD j []) (T.getD i []) u d 0 = true ∧ x = (unlikeN (T.getD i []) (T.getD j []) u d).length := by
  unfold foundN foundI
  rw [List.mem_flatMap]
  constructor
  · rintro ⟨i, hi, hx⟩
    obtain ⟨j, hj, rfl⟩ := List.mem_map.mp hx
    rw [List.mem_filter, List.mem_range] at hj
    exact ⟨i, j, hj.1, List.mem_range.mp hi, hj.2, rfl⟩
  · rintro ⟨i, j, h1, h2, h3, rfl⟩
    exact ⟨i, List.mem_range.mpr h2, List.mem_map.mpr ⟨j, List.mem_filter.mpr ⟨List.mem_range.mpr h1, h3⟩, rfl⟩⟩
theorem getD_mem {T : List (List Nat)} {i : Nat} (h : i < T.length) : T.getD i [] ∈ T := by
  rw [List.getD_eq_getElem?_getD, List.getElem?_eq_getElem h]
  exact List.getElem_mem h
theorem found_least {n u d x : Nat} (h1 : 1 ≤ n) (h2 : n ≤ 40) (hx : x ∈ foundN (allTrees n) u d (allTrees n).length) : dist u d ≤ x := by
  obtain ⟨i, j, hij, hi, ht, rfl⟩ := found_mem.mp hx
  have mi := (all_mem h1 h2).mp (getD_mem hi)
  have mj := (all_mem h1 h2).mp (getD_mem (show j < (allTrees n).length by omega))
  refine first_fact mi.2 mj.2 (by rw [mi.1, mj.1]) (fun e => ?_) (by rw [telD_comm]; exact ht)
  rw [List.getD_eq_getElem?_getD, List.getD_eq_getElem?_getD, List.getElem?_eq_getElem hi, List.getElem?_eq_getElem (show j < (allTrees n).length by omega)] at e
  have := (List.getElem_inj (h₀ := hi) (h₁ := show j < (allTrees n).length by omega) (all_nodup n)).mp e
  omega
theorem found_twins {n u d : Nat} (h2 : n ≤ 40) (h : d + 2 ≤ n) : dist u d ∈ foundN (allTrees n) u d (allTrees n).length := by
  have h1 : 1 ≤ n := by omega
  have ma := (all_mem h1 h2).mpr ⟨twin_len (y := d) h, twin_tree h h2 (by omega)⟩
  have mb := (all_mem h1 h2).mpr ⟨twin_len (y := d + 1) h, twin_tree h h2 (by omega)⟩
  obtain ⟨a, ha, ea⟩ := List.getElem_of_mem ma
  obtain ⟨b, hb, eb⟩ := List.getElem_of_mem mb
  have ga : (allTrees n).getD a [] = twin n d d := by
    rw [List.getD_eq_getElem?_getD, List.getElem?_eq_getElem ha]
    exact ea
  have gb : (allTrees n).getD b [] = twin n d (d + 1) := by
    rw [List.getD_eq_getElem?_getD, List.getElem?_eq_getElem hb]
    exact eb
  rcases Nat.lt_trichotomy a b with hab | hab | hab
  · refine found_mem.mpr ⟨b, a, hab, hb, by rw [ga, gb]; exact twin_head h, ?_⟩
    rw [ga, gb, unlike_comm (by rw [twin_len h, twin_len h]), twin_unlike h]
  · subst hab
    rw [ga] at gb
    exact (twin_ne h gb).elim
  · refine found_mem.mpr ⟨a, b, hab, ha, by rw [ga, gb, telD_comm]; exact twin_head h, ?_⟩
    rw [ga, gb, twin_unlike h]
end Fv
/-! words of places; nothing of the program here -/
namespace Fv
/-- the words of n blocks -/
structure WdOk (n : Nat) (us : List (Option Nat)) (ls : List (List (Option Bool))) : Prop where
  n1 : 1 ≤ n
  n2 : n ≤ 40
  ul : us.length = n
  uo : ∀ b q, us[b]? = some (some q) → q ≤ n ∧ q ≠ b + 1
  ll : ls.length = n + 1
  rl : ∀ r ∈ ls, r.length = n
  dg : ∀ p r, ls[p]? = some r → 1 ≤ p → r[p - 1]? = some (some false)
def up1 (us : List (Option Nat)) (b p : Nat) : Nat := match us[b - 1]? with
  | some (some q) => if q = p then 0 else 1
  | _ => 0
/-- what the places say of this block -/
def col (ls : List (List (Option Bool))) (b : Nat) : List (Option Bool) := ls.map fun r => (r[b - 1]?).getD none
def wr1 (o p : Nat) : Option Bool → Nat
  | none => 0
  | some f => if f = decide (o = p) then 0 else 1
def sumW (p : Nat) : Nat → List (Option Bool) → Nat
  | _, [] => 0
  | o, f :: r => wr1 o p f + sumW p (o + 1) r
def costN (us : List (Option Nat)) (ls : List (List (Option Bool))) (b p : Nat) : Nat := up1 us b p + sumW p 0 (col ls b)
def trueN (c : List (Option Bool)) : Nat := c.count (some true)
theorem sumW_off (p : Nat) : ∀ (o : Nat) (c : List (Option Bool)), p < o → sumW p o c = trueN c
  | _, [], _ => rfl
  | o, f :: r, h => by
    have ih := sumW_off p (o + 1) r (by omega)
    have e : decide (o = p) = false := decide_eq_false (by omega)
    unfold sumW trueN
    rw [ih, List.count_cons]
    unfold trueN
    cases f with
    | none => simp [wr1]
    | some b => cases b <;> simp [wr1, e] <;> omega
theorem sumW_at (p : Nat) : ∀ (o : Nat) (c : List (Option Bool)), o ≤ p → p < o + c.length → sumW p o c + (if c[p - o]? = some (some true) then 1 else 0) = trueN c + (if c[p - o]? = some (some false) then 1 else 0)
  | o, [], h1, h2 => by
    rw [List.length_nil] at h2
    omega
  | o, f :: r, h1, h2 => by
    rw [List.length_cons] at h2
    by_cases e : o = p
    · subst e
      have ih := sumW_off o (o + 1) r (by omega)
      rw [Nat.sub_self]
      unfold sumW
      rw [ih]
      unfold trueN
      rw [List.count_cons]
      cases f with
      | none => simp [wr1]
      | some b => cases b <;> simp [wr1] <;> omega
    · have ih := sumW_at p (o + 1) r (by omega) (by omega)
      have e1 : p - o = (p - (o + 1)) + 1 := by omega
      rw [e1, List.getElem?_cons_succ]
      unfold sumW
      have e2 : trueN (f :: r) = trueN r + (if f = some true then 1 else 0) := by
        unfold trueN
        rw [List.count_cons]
        congr 1
        cases f with
        | none => rfl
        | some b => cases b <;> rfl
      have e3 : wr1 o p f = (if f = some true then 1 else 0) := by
        have e : decide (o = p) = false := decide_eq_false e
        cases f with
        | none => simp [wr1]
        | some b => cases b <;> simp [wr1, e]
      omega
theorem sumW_app (p : Nat) : ∀ (o : Nat) (c d : List (Option Bool)), sumW p o (c ++ d) = sumW p o c + sumW p (o + c.length) d
  | o, [], d => by simp [sumW]
  | o, f :: r, d => by
    have ih := sumW_app p (o + 1) r d
    show wr1 o p f + sumW p (o + 1) (r ++ d) = wr1 o p f + sumW p (o + 1) r + _
    rw [ih, List.length_cons, show o + 1 + r.length = o + (r.length + 1) by omega]
    omega
theorem wr1_le (o p : Nat) (f : Option Bool) : wr1 o p f ≤ 1 := by
  unfold wr1
  split
  · omega
  · split <;> omega
theorem sumW_le (p : Nat) : ∀ (o : Nat) (c : List (Option Bool)), sumW p o c ≤ c.length
  | _, [] => Nat.le_refl _
  | o, f :: r => by
    have ih := sumW_le p (o + 1) r
    have := wr1_le o p f
    unfold sumW
    rw [List.length_cons]
    omega
theorem up1_le (us : List (Option Nat)) (b p : Nat) : up1 us b p ≤ 1 := by
  unfold up1
  split
  · split <;> omega
  · omega
theorem col_len (ls : List (List (Option Bool))) (b : Nat) : (col ls b).length = ls.length := by
  unfold col
  rw [List.length_map]
theorem costN_le (us : List (Option Nat)) (ls : List (List (Option Bool))) (b p : Nat) : costN us ls b p ≤ ls.length + 1 := by
  have := up1_le us b p
  have := sumW_le p 0 (col ls b)
  rw [col_len] at this
  unfold costN
  omega
/-- what the program reckons -/
theorem cost_is {us : List (Option Nat)} {ls : List (List (Option Bool))} {b p : Nat} (hp : p < ls.length) : costN us ls b p + (if (col ls b)[p]? = some (some true) then 1 else 0) = trueN (col ls b) + (if (col ls b)[p]? = some (some false) then 1 else 0) + up1 us b p := by
  have := sumW_at p 0 (col ls b) (by omega) (by rw [col_len]; omega)
  rw [Nat.sub_zero] at this
  unfold costN
  omega
/-- a tree's right words -/
def rightL (hs : List Nat) : List (List (Option Bool)) := (List.range (hs.length + 1)).map fun p => hs.map fun h => some (decide (h = p))
def rightU (hs : List Nat) : List (Option Nat) := hs.map some
theorem rightL_len (hs : List Nat) : (rightL hs).length = hs.length + 1 := by
  unfold rightL
  rw [List.length_map, List.length_range]
theorem rightL_get {hs : List Nat} {p : Nat} (h : p ≤ hs.length) : (rightL hs)[p]? = some (hs.map fun h => some (decide (h = p))) := by
  unfold rightL
  rw [List.getElem?_map, List.getElem?_range (by omega)]
  rfl
theorem right_ok {hs : List Nat} (t : IsTree hs) : WdOk hs.length (rightU hs) (rightL hs) where
  n1 := t.pos
  n2 := t.most
  ul := by
    unfold rightU
    rw [List.length_map]
  uo := fun b q h => by
    unfold rightU at h
    rw [List.getElem?_map] at h
    cases e : hs[b]? with
    | none =>
      rw [e] at h
      cases h
    | some c =>
      rw [e] at h
      have : c = q := Option.some.inj (Option.some.inj h)
      subst this
      refine ⟨t.le c (List.mem_of_getElem? e), fun z => ?_⟩
      subst z
      have hb := (List.getElem?_eq_some_iff.mp e).1
      have eu : up hs (b + 1) = b + 1 := by
        unfold up
        rw [if_neg (by omega), List.getD_eq_getElem?_getD, Nat.add_sub_cancel, e]
        rfl
      have : ∀ j, upN hs j (b + 1) = b + 1 := fun j => by
        induction j with
        | zero => rfl
        | succ j ih =>
          show upN hs j (up hs (b + 1)) = b + 1
          rw [eu, ih]
      have h2 := t.comes (b + 1) (by omega)
      rw [this] at h2
      omega
  ll := rightL_len hs
  rl := fun r hr => by
    unfold rightL at hr
    obtain ⟨p, _, rfl⟩ := List.mem_map.mp hr
    rw [List.length_map]
  dg := fun p r h h1 => by
    have hp := (List.getElem?_eq_some_iff.mp h).1
    rw [rightL_len] at hp
    rw [rightL_get (by omega)] at h
    cases h
    have hb : p - 1 < hs.length := by omega
    rw [List.getElem?_map, List.getElem?_eq_getElem hb]
    show some (some _) = _
    congr 2
    refine decide_eq_false fun z => ?_
    have eu : up hs p = p := by
      unfold up
      rw [if_neg (by omega), List.getD_eq_getElem?_getD, List.getElem?_eq_getElem hb]
      exact z
    have : ∀ j, upN hs j p = p := fun j => by
      induction j with
      | zero => rfl
      | succ j ih =>
        show upN hs j (up hs p) = p
        rw [eu, ih]
    have h2 := t.comes p (by omega)
    rw [this] at h2
    omega
theorem right_col {hs : List Nat} {b : Nat} (b1 : 1 ≤ b) (b2 : b ≤ hs.length) : col (rightL hs) b = (List.range (hs.length + 1)).map fun p => some (decide (up hs b = p)) := by
  unfold col rightL
  rw [List.map_map]
  refine List.map_congr_left fun p _ => ?_
  show (((hs.map fun h => some (decide (h = p)))[b - 1]?).getD none) = _
  have hb : b - 1 < hs.length := by omega
  rw [List.getElem?_map, List.getElem?_eq_getElem hb]
  show some (decide (hs[b - 1] = p)) = _
  have : up hs b = hs[b - 1] := by
    unfold up
    rw [if_neg (by omega), List.getD_eq_getElem?_getD, List.getElem?_eq_getElem hb]
    rfl
  rw [this]
theorem sumW_range (u p : Nat) : ∀ (k o : Nat), sumW p o ((List.range' o k).map fun q => some (decide (u = q))) = if u = p then 0 else (if o ≤ u ∧ u < o + k then 1 else 0) + (if o ≤ p ∧ p < o + k then 1 else 0)
  | 0, o => by
    have h1 : ¬ (o ≤ u ∧ u < o + 0) := by omega
    have h2 : ¬ (o ≤ p ∧ p < o + 0) := by omega
    rw [if_neg h1, if_neg h2]
    simp [sumW]
  | k + 1, o => by
    have ih := sumW_range u p k (o + 1)
    rw [List.range'_succ, List.map_cons]
    unfold sumW
    rw [ih]
    by_cases e : u = p
    · subst e
      have : wr1 o u (some (decide (u = o))) = 0 := by
        unfold wr1
        have : decide (u = o) = decide (o = u) := by
          rw [decide_eq_decide]
          exact eq_comm
        exact if_pos this
      rw [this, if_pos rfl, if_pos rfl]
    · rw [if_neg e, if_neg e]
      by_cases e1 : u = o
      · have e2 : ¬ o = p := by omega
        have : wr1 o p (some (decide (u = o))) = 1 := by
          unfold wr1
          rw [decide_eq_true e1, decide_eq_false e2]
          rfl
        rw [this, if_neg (c := o + 1 ≤ u ∧ u < o + 1 + k) (by omega), if_pos (c := o ≤ u ∧ u < o + (k + 1)) (by omega)]
        by_cases e3 : o + 1 ≤ p ∧ p < o + 1 + k
        · rw [if_pos e3, if_pos (by omega)]
        · rw [if_neg e3, if_neg (by omega)]
      · by_cases e2 : o = p
        · have : wr1 o p (some (decide (u = o))) = 1 := by
            unfold wr1
            rw [decide_eq_false e1, decide_eq_true e2]
            rfl
          rw [this, if_neg (c := o + 1 ≤ p ∧ p < o + 1 + k) (by omega), if_pos (c := o ≤ p ∧ p < o + (k + 1)) (by omega)]
          by_cases e3 : o + 1 ≤ u ∧ u < o + 1 + k
          · rw [if_pos e3, if_pos (by omega)]
          · rw [if_neg e3, if_neg (by omega)]
        · have : wr1 o p (some (decide (u = o))) = 0 := by
            unfold wr1
            rw [decide_eq_false e1, decide_eq_false e2]
            rfl
          rw [this]
          by_cases e3 : o + 1 ≤ u ∧ u < o + 1 + k
          · rw [if_pos e3, if_pos (c := o ≤ u ∧ u < o + (k + 1)) (by omega)]
            by_cases e4 : o + 1 ≤ p ∧ p < o + 1 + k
            · rw [if_pos e4, if_pos (by omega)]
            · rw [if_neg e4, if_neg (by omega)]
          · rw [if_neg e3, if_neg (c := o ≤ u ∧ u < o + (k + 1)) (by omega)]
            by_cases e4 : o + 1 ≤ p ∧ p < o + 1 + k
            · rw [if_pos e4, if_pos (by omega)]
            · rw [if_neg e4, if_neg (by omega)]
/-- three words are wrong, or none -/
theorem right_cost {hs : List Nat} (t : IsTree hs) {b p : Nat} (b1 : 1 ≤ b) (b2 : b ≤ hs.length) (hp : p ≤ hs.length) : costN (rightU hs) (rightL hs) b p = if up hs b = p then 0 else 3 := by
  unfold costN
  have hb : b - 1 < hs.length := by omega
  have eu : up hs b = hs[b - 1] := by
    unfold up
    rw [if_neg (by omega), List.getD_eq_getElem?_getD, List.getElem?_eq_getElem hb]
    rfl
  have hu : up hs b ≤ hs.length := by
    rw [eu]
    exact t.le _ (List.getElem_mem hb)
  have e1 : up1 (rightU hs) b p = if up hs b = p then 0 else 1 := by
    unfold up1 rightU
    rw [List.getElem?_map, List.getElem?_eq_getElem hb, eu]
    rfl
  rw [e1, right_col b1 b2, List.range_eq_range', sumW_range]
  by_cases e : up hs b = p
  · rw [if_pos e, if_pos e, if_pos e]
  · rw [if_neg e, if_neg e, if_neg e, if_pos ⟨by omega, by omega⟩, if_pos ⟨by omega, by omega⟩]
/-- all blocks' costs -/
def wrongN (us : List (Option Nat)) (ls : List (List (Option Bool))) : Nat → List Nat → Nat
  | _, [] => 0
  | b, p :: r => costN us ls b p + wrongN us ls (b + 1) r
theorem wrongN_snoc (us : List (Option Nat)) (ls : List (List (Option Bool))) : ∀ (b : Nat) (hs : List Nat) (p : Nat), wrongN us ls b (hs ++ [p]) = wrongN us ls b hs + costN us ls (b + hs.length) p
  | b, [], p => by simp [wrongN]
  | b, h :: r, p => by
    have ih := wrongN_snoc us ls (b + 1) r p
    rw [List.cons_append]
    unfold wrongN
    rw [ih, List.length_cons, show b + 1 + r.length = b + (r.length + 1) by omega]
    omega
theorem wrongN_set (us : List (Option Nat)) (ls : List (List (Option Bool))) : ∀ (hs : List Nat) (b i p : Nat), i < hs.length → wrongN us ls b (hs.set i p) + costN us ls (b + i) (hs.getD i 0) = wrongN us ls b hs + costN us ls (b + i) p
  | [], b, i, p, h => absurd h (Nat.not_lt_zero _)
  | x :: r, b, 0, p, _ => by
    simp only [List.set_cons_zero, wrongN, Nat.add_zero, List.getD_cons_zero]
    omega
  | x :: r, b, i + 1, p, h => by
    have ih := wrongN_set us ls r (b + 1) i p (by rw [List.length_cons] at h; omega)
    simp only [List.set_cons_succ, wrongN, List.getD_cons_succ]
    rw [show b + (i + 1) = b + 1 + i by omega]
    omega
/-- blocks that hang elsewhere -/
def apartN : List Nat → List Nat → Nat
  | a :: r, b :: s => (if a = b then 0 else 1) + apartN r s
  | _, _ => 0
theorem right_wrong {hs : List Nat} (t : IsTree hs) : ∀ (gs : List Nat) (b : Nat), 1 ≤ b → b - 1 + gs.length ≤ hs.length → (∀ g ∈ gs, g ≤ hs.length) → wrongN (rightU hs) (rightL hs) b gs = 3 * apartN (hs.drop (b - 1)) gs
  | [], b, _, _, _ => by
    unfold wrongN
    cases hs.drop (b - 1) <;> rfl
  | g :: r, b, b1, h, hg => by
    rw [List.length_cons] at h
    have hb : b - 1 < hs.length := by omega
    have ih := right_wrong t r (b + 1) (by omega) (by omega) fun x hx => hg x (List.mem_cons_of_mem _ hx)
    have eu : up hs b = hs[b - 1] := by
      unfold up
      rw [if_neg (by omega), List.getD_eq_getElem?_getD, List.getElem?_eq_getElem hb]
      rfl
    unfold wrongN
    rw [ih, right_cost t b1 (by omega) (hg g List.mem_cons_self), List.drop_eq_getElem_cons hb, show b + 1 - 1 = b - 1 + 1 by omega]
    show _ = 3 * ((if hs[b - 1] = g then 0 else 1) + apartN (hs.drop (b - 1 + 1)) r)
    rw [eu]
    by_cases e : hs[b - 1] = g
    · rw [if_pos e, if_pos e]
      omega
    · rw [if_neg e, if_neg e]
      omega
theorem apartN_self : ∀ hs : List Nat, apartN hs hs = 0
  | [] => rfl
  | a :: r => by
    unfold apartN
    rw [if_pos rfl, apartN_self r]
theorem wrongN_le (us : List (Option Nat)) (ls : List (List (Option Bool))) : ∀ (b : Nat) (hs : List Nat), wrongN us ls b hs ≤ hs.length * (ls.length + 1)
  | b, [] => by simp [wrongN]
  | b, h :: r => by
    have ih := wrongN_le us ls (b + 1) r
    have := costN_le us ls b h
    unfold wrongN
    rw [List.length_cons, Nat.succ_mul]
    omega
end Fv
set_option maxRecDepth 100000
set_option maxHeartbeats 1000000
namespace Fv
open PySem PySem.Spec PyProof.Rows L2
/-! comprehensions with two for -/
theorem lc2_list {K : PySem.W.Frag} {a : Addr} {xs : List V} {g : TG} {tt : TT} {vs : List Nat} {σ : L2.St} {H0 : Hp} {Qd : Hp → Prop} {Bd : L2.St → Hp → (Hp → Prop) → Prop} (Pv : Nat → Hp → Prop) (h0 : Pv 0 H0) (hl : ∀ i H, i ≤ xs.length → Pv i H → SqL K H a xs)
    (hs : ∀ i x H, xs[i]? = some x → Pv i H → g x (wipe σ vs) H fun σ2 H2 => wipe σ2 vs = wipe σ vs ∧ tt σ2 H2 fun b H3 => if b = true then Bd σ2 H3 (Pv (i + 1)) else Pv (i + 1) H3) (hd : ∀ H, Pv xs.length H → Qd H) :
    ∃ W : Nat → Nat → Hp → Prop, (∃ m, W 0 m H0) ∧ ∀ i m H, W i m H →
      ((Itl K a).stop i H ∧ Qd H) ∨ ((Itl K a).go i H ∧ ∃ Nx : Hp → Prop, (∀ H', Nx H' → ∃ m', m' < m ∧ W (i + 1) m' H') ∧ ∀ x H', (Itl K a).yld i H x H' → g x (wipe σ vs) H' fun σ2 H2 => wipe σ2 vs = wipe σ vs ∧ tt σ2 H2 fun b H3 =>
        if b = true then Bd σ2 H3 Nx else Nx H3) := by
  refine ⟨fun i m H => m = xs.length - i ∧ i ≤ xs.length ∧ Pv i H, ⟨xs.length, by simp, Nat.zero_le _, h0⟩, ?_⟩
  rintro i m H ⟨rfl, hi, p⟩
  have q := hl i H hi p
  by_cases hlt : i < xs.length
  · refine .inr ⟨⟨xs, xs[i], q, by simp [hlt]⟩, Pv (i + 1), fun H' p' => ⟨xs.length - (i + 1), by omega, rfl, hlt, p'⟩, fun x H' y => ?_⟩
    obtain ⟨e, y⟩ := y
    subst e
    exact hs i x _ (y xs q) p
  · have e : i = xs.length := by omega
    subst e
    exact .inl ⟨⟨xs, q, Nat.le_refl _⟩, hd H p⟩
theorem lc2_tup {K : PySem.W.Frag} {a : Addr} {xs : List V} {g : TG} {tt : TT} {vs : List Nat} {σ : L2.St} {H0 : Hp} {Qd : Hp → Prop} {Bd : L2.St → Hp → (Hp → Prop) → Prop} (Pv : Nat → Hp → Prop) (h0 : Pv 0 H0) (hl : ∀ i H, i ≤ xs.length → Pv i H → SqT K H a xs)
    (hs : ∀ i x H, xs[i]? = some x → Pv i H → g x (wipe σ vs) H fun σ2 H2 => wipe σ2 vs = wipe σ vs ∧ tt σ2 H2 fun b H3 => if b = true then Bd σ2 H3 (Pv (i + 1)) else Pv (i + 1) H3) (hd : ∀ H, Pv xs.length H → Qd H) :
    ∃ W : Nat → Nat → Hp → Prop, (∃ m, W 0 m H0) ∧ ∀ i m H, W i m H →
      ((Itt K a).stop i H ∧ Qd H) ∨ ((Itt K a).go i H ∧ ∃ Nx : Hp → Prop, (∀ H', Nx H' → ∃ m', m' < m ∧ W (i + 1) m' H') ∧ ∀ x H', (Itt K a).yld i H x H' → g x (wipe σ vs) H' fun σ2 H2 => wipe σ2 vs = wipe σ vs ∧ tt σ2 H2 fun b H3 =>
        if b = true then Bd σ2 H3 Nx else Nx H3) := by
  refine ⟨fun i m H => m = xs.length - i ∧ i ≤ xs.length ∧ Pv i H, ⟨xs.length, by simp, Nat.zero_le _, h0⟩, ?_⟩
  rintro i m H ⟨rfl, hi, p⟩
  have q := hl i H hi p
  by_cases hlt : i < xs.length
  · refine .inr ⟨⟨xs, xs[i], q, by simp [hlt]⟩, Pv (i + 1), fun H' p' => ⟨xs.length - (i + 1), by omega, rfl, hlt, p'⟩, fun x H' y => ?_⟩
    obtain ⟨e, y⟩ := y
    subst e
    exact hs i x _ (y xs q) p
  · have e : i = xs.length := by omega
    subst e
    exact .inl ⟨⟨xs, q, Nat.le_refl _⟩, hd H p⟩
/-! lists of pairs -/
def PrV (H : Hp) (v : V) (x : Nat × Nat) : Prop := ∃ t, v = .ref t ∧ H t = some (.tup [.int (x.1 : Nat), .int (x.2 : Nat)])
def PrsV (H : Hp) : List V → List (Nat × Nat) → Prop
  | [], [] => True
  | v :: vs, x :: xs => PrV H v x ∧ PrsV H vs xs
  | [], _ :: _ => False
  | _ :: _, [] => False
theorem PrV.same {H H' : Hp} {v : V} {x : Nat × Nat} (s : Same H H') (h : PrV H v x) : PrV H' v x := by
  obtain ⟨t, e, h⟩ := h
  exact ⟨t, e, s _ _ h⟩
theorem PrV.mut {H : Hp} {v : V} {x : Nat × Nat} {q : Addr} {ys : List V} {o : HO} (hq : H q = some (.lst ys)) (h : PrV H v x) : PrV (upd H q o) v x := by
  obtain ⟨t, e, h⟩ := h
  refine ⟨t, e, keepM (fun z => ?_) h⟩
  rw [z, hq] at h
  cases h
theorem PrsV.imp {H H' : Hp} (f : ∀ v x, PrV H v x → PrV H' v x) : ∀ {vs : List V} {xs : List (Nat × Nat)}, PrsV H vs xs → PrsV H' vs xs
  | [], [], _ => True.intro
  | _ :: _, _ :: _, h => ⟨f _ _ h.1, PrsV.imp f h.2⟩
  | [], _ :: _, h => h.elim
  | _ :: _, [], h => h.elim
theorem PrsV.same {H H' : Hp} {vs : List V} {xs : List (Nat × Nat)} (s : Same H H') (h : PrsV H vs xs) : PrsV H' vs xs := h.imp fun _ _ k => k.same s
theorem PrsV.mut {H : Hp} {vs : List V} {xs : List (Nat × Nat)} {q : Addr} {ys : List V} {o : HO} (hq : H q = some (.lst ys)) (h : PrsV H vs xs) : PrsV (upd H q o) vs xs := h.imp fun _ _ k => k.mut hq
theorem PrsV.app {H : Hp} : ∀ {vs ws : List V} {xs ys : List (Nat × Nat)}, PrsV H vs xs → PrsV H ws ys → PrsV H (vs ++ ws) (xs ++ ys)
  | [], _, [], _, _, h => h
  | _ :: _, _, _ :: _, _, h, k => ⟨h.1, PrsV.app h.2 k⟩
  | [], _, _ :: _, _, h, _ => h.elim
  | _ :: _, _, [], _, h, _ => h.elim
theorem PrsV.len {H : Hp} : ∀ {vs : List V} {xs : List (Nat × Nat)}, PrsV H vs xs → vs.length = xs.length
  | [], [], _ => rfl
  | _ :: _, _ :: _, h => congrArg (· + 1) (PrsV.len h.2)
  | [], _ :: _, h => h.elim
  | _ :: _, [], h => h.elim
theorem PrsV.at {H : Hp} : ∀ {vs : List V} {xs : List (Nat × Nat)} {i : Nat} {v : V}, PrsV H vs xs → vs[i]? = some v → ∃ x, xs[i]? = some x ∧ PrV H v x
  | [], [], _, _, _, h => by cases h
  | _ :: _, x :: _, 0, _, h, e => by
    have e' := Option.some.inj e
    subst e'
    exact ⟨x, rfl, h.1⟩
  | _ :: _, _ :: _, i + 1, _, h, e => PrsV.at (i := i) h.2 e
  | [], _ :: _, _, _, h, _ => h.elim
  | _ :: _, [], _, _, h, _ => h.elim
/-- what a pair's value tells -/
def keyOf (H : Hp) (v : V) : Int × Int := match v with
  | .ref t => match H t with
    | some (.tup [.int a, .int b]) => (a, b)
    | _ => (0, 0)
  | _ => (0, 0)
def natsOf (H : Hp) (v : V) : Nat × Nat := ((keyOf H v).1.toNat, (keyOf H v).2.toNat)
theorem PrV.key {H : Hp} {v : V} {x : Nat × Nat} (h : PrV H v x) : keyOf H v = ((x.1 : Int), (x.2 : Int)) := by
  obtain ⟨t, rfl, h⟩ := h
  unfold keyOf
  dsimp only
  rw [h]
theorem PrV.nats {H : Hp} {v : V} {x : Nat × Nat} (h : PrV H v x) : natsOf H v = x := by
  unfold natsOf
  rw [h.key]
  rfl
theorem PrsV.nats {H : Hp} : ∀ {vs : List V} {xs : List (Nat × Nat)}, PrsV H vs xs → vs.map (natsOf H) = xs
  | [], [], _ => rfl
  | v :: vs, x :: xs, h => by rw [List.map_cons, h.1.nats, PrsV.nats h.2]
  | [], _ :: _, h => h.elim
  | _ :: _, [], h => h.elim
theorem PrsV.of {H : Hp} : ∀ {vs : List V}, (∀ v ∈ vs, ∃ x, PrV H v x) → PrsV H vs (vs.map (natsOf H))
  | [], _ => True.intro
  | v :: vs, h => by
    obtain ⟨x, hx⟩ := h v List.mem_cons_self
    exact ⟨by rw [hx.nats]; exact hx, PrsV.of fun w hw => h w (List.mem_cons_of_mem _ hw)⟩
theorem PrsV.all {H : Hp} {vs : List V} {xs : List (Nat × Nat)} (h : PrsV H vs xs) {v : V} (hv : v ∈ vs) : ∃ x, PrV H v x := by
  obtain ⟨i, hi, e⟩ := List.getElem_of_mem hv
  obtain ⟨x, _, hx⟩ := h.at (i := i) (v := v) (by rw [List.getElem?_eq_getElem hi, e])
  exact ⟨x, hx⟩
theorem cr_sortedPO' {X : Cx} {K : PySem.W.Frag} (e : X.K = K) : CallR X (.builtin "sorted") (rSortedPO K) := by
  subst e
  exact cr_sortedPO
theorem x_sortP {K : PySem.W.Frag} {H : Hp} {Q : VK} {a : Addr} {hs : List Nat} {d k : Nat} {vs : List V} (t : IsTree hs) (hk : k ≤ hs.length) (h : SqL K H a vs) (hp : PrsV H vs (withUp hs (acc hs k d))) (q : ∀ ys p, PrsV H ys (tiesN hs d k) → H p = none → Q (.ref p) (upd H p (.lst ys))) : rSortedPO K [.ref a] H Q := by
  refine ⟨a, vs, keyOf H, rfl, h, fun v hv => ?_, fun ys p hs1 hs2 hn => ?_⟩
  · obtain ⟨x, hx⟩ := hp.all hv
    obtain ⟨t, e1, e2⟩ := id hx
    refine ⟨t, e1, ?_⟩
    rw [hx.key]
    exact e2
  · have pm := hs2.perm
    have hy : PrsV H ys (ys.map (natsOf H)) := PrsV.of fun v hv => hp.all (pm.mem_iff.mp hv)
    refine q ys p ?_ hn
    have e : ys.map (natsOf H) = tiesN hs d k := by
      refine ties_sorted t hk ?_ ?_
      · rw [← hp.nats]
        exact pm.map _
      · rw [List.pairwise_map]
        refine (List.Pairwise.and_mem.mp hs1).imp fun {x y} hxy => ?_
        obtain ⟨m1, m2, lt⟩ := hxy
        obtain ⟨a1, ha⟩ := hp.all (pm.mem_iff.mp m1)
        obtain ⟨b1, hb⟩ := hp.all (pm.mem_iff.mp m2)
        rw [ha.nats, hb.nats]
        have lt : SrtO.lexB (keyOf H y) (keyOf H x) = false := lt
        rw [ha.key, hb.key] at lt
        unfold ltPr
        intro z
        refine Bool.false_ne_true (lt.symm.trans (SrtO.lexB_iff.mpr ?_))
        show ((b1.1 : Nat) : Int) < ((a1.1 : Nat) : Int) ∨ ((b1.1 : Nat) : Int) = ((a1.1 : Nat) : Int) ∧ ((b1.2 : Nat) : Int) < ((a1.2 : Nat) : Int)
        omega
    rw [← e]
    exact hy
end Fv
set_option maxRecDepth 100000
set_option maxHeartbeats 1000000
namespace Fv
open PySem PySem.Spec PyProof.Rows L2
def pD (x : Nat × Nat) : PyData := .tuple [.int (Int.ofNat x.1), .int (Int.ofNat x.2)]
def pds (ts : List (Nat × Nat)) : List PyData := ts.map pD
theorem pds_lay : ∀ l, PyData.canLayAll0 (pds l) = true
  | [] => rfl
  | a :: l => by
    show (PyData.canLay0 (pD a) && PyData.canLayAll0 (pds l)) = true
    rw [pds_lay l]
    rfl
theorem pds_depth : ∀ l, PyData.depthAll (pds l) ≤ 1
  | [] => Nat.zero_le _
  | a :: l => by
    show max (PyData.depth (pD a)) (PyData.depthAll (pds l)) ≤ 1
    have e : PyData.depth (pD a) = 1 := rfl
    rw [e]
    have := pds_depth l
    omega
theorem pD_eqv (a b : Nat × Nat) : PyData.eqv (pD a) (pD b) = decide (a = b) := by
  show PyData.eqv (.tuple [.int (Int.ofNat a.1), .int (Int.ofNat a.2)]) (.tuple [.int (Int.ofNat b.1), .int (Int.ofNat b.2)]) = _
  obtain ⟨a1, a2⟩ := a
  obtain ⟨b1, b2⟩ := b
  rw [PyData.eqv, PyData.eqvAll, PyData.eqvAll, PyData.eqvAll, PyData.eqv, PyData.eqv, Bool.eq_iff_iff]
  simp
  omega
theorem pds_eqv : ∀ l m, PyData.eqvAll (pds l) (pds m) = decide (l = m)
  | [], [] => by simp [pds, PyData.eqvAll]
  | [], _ :: _ => by simp [pds, PyData.eqvAll]
  | _ :: _, [] => by simp [pds, PyData.eqvAll]
  | a :: l, b :: m => by
    show PyData.eqvAll (pD a :: pds l) (pD b :: pds m) = _
    rw [PyData.eqvAll, pds_eqv l m, pD_eqv, Bool.eq_iff_iff]
    simp
def telPD (r : List Nat) (ts : List (Nat × Nat)) : PyData := .tuple [.tuple (dn r), .tuple (pds ts)]
theorem telPD_shaped (r : List Nat) (ts : List (Nat × Nat)) : SeqAt.shaped (telPD r ts) = true := by
  show (PyData.canLayAll0 [.tuple (dn r), .tuple (pds ts)] && decide (PyData.depthAll [.tuple (dn r), .tuple (pds ts)] + 1 ≤ 64)) = true
  have e1 : PyData.canLayAll0 [.tuple (dn r), .tuple (pds ts)] = true := by
    show (PyData.canLayAll0 (dn r) && (PyData.canLayAll0 (pds ts) && true)) = true
    rw [dn_lay, pds_lay]
    rfl
  have e2 : PyData.depthAll [.tuple (dn r), .tuple (pds ts)] + 1 ≤ 64 := by
    show max (PyData.depthAll (dn r) + 1) (max (PyData.depthAll (pds ts) + 1) 0) + 1 ≤ 64
    have := pds_depth ts
    rw [dn_depth]
    omega
  rw [e1, decide_eq_true e2]
  rfl
theorem telPD_eqv (r r' : List Nat) (ts ts' : List (Nat × Nat)) : PyData.eqv (telPD r ts) (telPD r' ts') = (decide (r = r') && decide (ts = ts')) := by
  show PyData.eqv (.tuple [.tuple (dn r), .tuple (pds ts)]) (.tuple [.tuple (dn r'), .tuple (pds ts')]) = _
  rw [PyData.eqv, PyData.eqvAll, PyData.eqvAll, PyData.eqvAll, PyData.eqv, PyData.eqv, dn_eqv, pds_eqv]
  simp
/-- a value that is a telling -/
def TelAt (H : Hp) (v : V) (r : List Nat) (ts : List (Nat × Nat)) : Prop := ∃ (a b c : Addr) (vs : List V), v = .ref a ∧ H a = some (.tup [.ref b, .ref c]) ∧ H b = some (.tup (nats r)) ∧ H c = some (.tup vs) ∧ PrsV H vs ts
theorem TelAt.same {H H' : Hp} {v : V} {r : List Nat} {ts : List (Nat × Nat)} (s : Same H H') (h : TelAt H v r ts) : TelAt H' v r ts := by
  obtain ⟨a, b, c, vs, e, h1, h2, h3, h4⟩ := h
  exact ⟨a, b, c, vs, e, s _ _ h1, s _ _ h2, s _ _ h3, h4.same s⟩
section
variable {K : PySem.W.Frag} {H : Hp} {Q : VK}
theorem PrsV.dp : ∀ {vs : List V} {ts : List (Nat × Nat)}, PrsV H vs ts → DpAll K H vs (pds ts)
  | [], [], _ => .nil
  | v :: vs, x :: xs, h => by
    obtain ⟨t, e, ht⟩ := h.1
    subst e
    exact .cons (.tup (.of ht) (.cons (.int _) (.cons (.int _) .nil))) (PrsV.dp h.2)
  | [], _ :: _, h => h.elim
  | _ :: _, [], h => h.elim
theorem TelAt.dp {v : V} {r : List Nat} {ts : List (Nat × Nat)} (h : TelAt H v r ts) : Dp K H v (telPD r ts) := by
  obtain ⟨a, b, c, vs, e, h1, h2, h3, h4⟩ := h
  subst e
  exact .tup (.of h1) (.cons (.tup (.of h2) (dpAll_nats r)) (.cons (.tup (.of h3) h4.dp) .nil))
theorem x_neTel {x y : V} {r r' : List Nat} {ts ts' : List (Nat × Nat)} (h1 : TelAt H x r ts) (h2 : TelAt H y r' ts') (q : Q (.bl (!(decide (r = r') && decide (ts = ts')))) H) : rNeD K x y H Q := by
  refine ⟨telPD r ts, telPD r' ts', h1.dp, h2.dp, telPD_shaped _ _, telPD_shaped _ _, ?_⟩
  rw [telPD_eqv]
  exact q
theorem Al.pair {n : Nat} {v w : V} {x : Nat × Nat} (h1 : PrV H v x) (h2 : PrV H w x) : Al K H (n + 1) v w := by
  obtain ⟨t, e, ht⟩ := h1
  obtain ⟨u, e', hu⟩ := h2
  subst e e'
  refine Al.tups ht hu (by show 2 ≤ 1000; decide) fun z hz => ?_
  rcases List.mem_cons.mp hz with rfl | hz
  · rfl
  · rw [List.mem_singleton.mp hz]
    rfl
theorem TelAt.al {v w : V} {r : List Nat} {ts : List (Nat × Nat)} (hr : r.length ≤ 1000) (hts : ts.length ≤ 1000) (h1 : TelAt H v r ts) (h2 : TelAt H w r ts) : Al K H 3 v w := by
  obtain ⟨a, b, c, vs, e, h1, h2', h3, h4⟩ := h1
  obtain ⟨a', b', c', vs', e', k1, k2, k3, k4⟩ := h2
  subst e e'
  refine .inr (.inr ⟨a, a', _, _, rfl, rfl, h1, k1, rfl, (by show 2 ≤ 1000; decide), fun i hi1 hi2 => ?_⟩)
  match i with
  | 0 => exact Al.tups h2' k2 (by rw [nats_length]; exact hr) nats_sca
  | 1 =>
    refine .inr (.inr ⟨c, c', vs, vs', rfl, rfl, h3, k3, h4.len.trans k4.len.symm, by rw [k4.len]; exact hts, fun j hj1 hj2 => ?_⟩)
    obtain ⟨x, hx, px⟩ := h4.at (List.getElem?_eq_getElem hj1)
    obtain ⟨y, hy, py⟩ := k4.at (List.getElem?_eq_getElem hj2)
    rw [hx] at hy
    cases hy
    exact Al.pair px py
  | i + 2 => exact absurd hi1 (by show ¬ i + 2 < 2; omega)
end
end Fv
set_option maxRecDepth 100000
set_option maxHeartbeats 1000000
namespace Fv
open PySem PySem.Spec PyProof.Rows L2
/-! range(n), kept by a name -/
def rRng1 : List V → Hp → VK → Prop := fun vs H Q => ∃ j : Int, vs = [V.int j] ∧ ∀ p, H p = none → Q (.ref p) (upd H p (.rng 0 j))
theorem call_rng1 {X : Cx} : CallR X (.type "range") rRng1 := by
  intro pins s σ H vs us Q I r h
  obtain ⟨j, rfl, q⟩ := h
  obtain ⟨u1, rfl, ri⟩ := vals1 r
  obtain ⟨t, rfl⟩ := ri
  refine call_range_1 ⟨.ref s.heap.objs.size, upd H s.heap.objs.size (.rng 0 j), I.laid (fun b o e => Heap.get?_push_of_some _ e) (Nat.le_refl _) ?_, rfl, q _ (I.hok.fresh (Nat.le_refl _))⟩
  exact ⟨_, _, _, Heap.get?_push_size _ rfl⟩
theorem pi_tupK {X : Cx} {K : PySem.W.Frag} {tg e : Expr} {te : TE} (eK : X.K = K) (he : PE X e te) : PI X tg e (iTup K te) := by
  subst eK
  exact pi_tup he
theorem pi_listK {X : Cx} {K : PySem.W.Frag} {tg e : Expr} {te : TE} (eK : X.K = K) (he : PE X e te) : PI X tg e (iList K te) := by
  subst eK
  exact pi_list he
theorem nats_take (l : List Nat) (n : Nat) : (nats l).take n = nats (l.take n) := by
  unfold nats
  rw [List.map_take]
section
variable {K : PySem.W.Frag} {H : Hp} {Q : VK} {l b p : Addr} {xs zs : List V}
theorem x_rngA1 {j : Int} (q : ∀ p, H p = none → Q (.ref p) (upd H p (.rng 0 j))) : rRng1 [.int j] H Q := ⟨j, rfl, q⟩
theorem x_extend (h1 : H l = some (.lst xs)) (h2 : H b = some (.lst zs)) (hz : xs.length + zs.length ≤ 10000) (q : Q .non (upd H l (.lst (xs ++ zs)))) : rExtend (.ref l) [.ref b] H Q := ⟨l, b, xs, zs, rfl, rfl, h1, h2, szLe (by omega), q⟩
theorem range0_snoc (g : Nat → Bool) (n : Nat) : (List.range (n + 1)).filter g = (List.range n).filter g ++ if g n = true then [n] else [] := by
  rw [List.range_succ, List.filter_append]
  congr 1
  by_cases h : g n = true
  · rw [if_pos h, List.filter_cons_of_pos h]
    rfl
  · rw [if_neg h, List.filter_cons_of_neg h]
    rfl
theorem all_true (n : Nat) : ((List.replicate n true).map V.bl).length = n := by rw [List.length_map, List.length_replicate]
end
end Fv
namespace Fv
open PySem PySem.Spec L2
/-- a comprehension in a comprehension: the outer one's scope, as it stands in its def's -/
def relS (scope sc : Scope) : Scope := { scope with names := scope.names.map fun (n, k) => if (k == .free && sc.kind == .function && sc.names.lookup n == some .cell) then (n, .cell) else (n, k) }
theorem blkOk_nest {X : Cx} {s : Shared} {H : Hp} {scope sc2 sc : Scope} {cl : List (Str × Addr)} {C : Addr} {e : Env} {fp : List Addr} {N : List Str} {own : List (Str × Nat)} (h : blkC N (relS scope sc) sc2 own = true) (hs : e.scope = sc) : BlkOk N (X.blk s H scope (compEnvC scope cl C e) fp).env.scope sc2 own := by
  subst hs
  exact blkOk_by h
theorem cr_sumK {X : Cx} {K : PySem.W.Frag} (e : X.K = K) (hc : X.calm = true) : CallR X (.builtin "sum") (rSum K) := by
  subst e
  exact cr_sum hc
end Fv
/-! votes; nothing of the program here -/
namespace Fv
/-- the least cost of this block -/
structure MinIs (us : List (Option Nat)) (ls : List (List (Option Bool))) (n b m : Nat) : Prop where
  some : ∃ p, p ≤ n ∧ p ≠ b ∧ costN us ls b p = m
  all : ∀ p, p ≤ n → p ≠ b → m ≤ costN us ls b p
theorem MinIs.det {us : List (Option Nat)} {ls : List (List (Option Bool))} {n b m k : Nat} (h : MinIs us ls n b m) (g : MinIs us ls n b k) : m = k := by
  obtain ⟨p, hp, hb, e⟩ := h.some
  obtain ⟨q, hq, hc, f⟩ := g.some
  have h1 := h.all q hq hc
  have h2 := g.all p hp hb
  omega
/-- where it hangs at that cost -/
def plN (us : List (Option Nat)) (ls : List (List (Option Bool))) (b m k : Nat) : List Nat := (List.range k).filter fun p => decide (p ≠ b) && decide (costN us ls b p = m)
theorem plN_snoc (us : List (Option Nat)) (ls : List (List (Option Bool))) (b m k : Nat) : plN us ls b m (k + 1) = plN us ls b m k ++ if k ≠ b ∧ costN us ls b k = m then [k] else [] := by
  unfold plN
  rw [List.range_succ, List.filter_append]
  congr 1
  by_cases h : k ≠ b ∧ costN us ls b k = m
  · rw [if_pos h, List.filter_cons_of_pos (by rw [decide_eq_true h.1, decide_eq_true h.2]; rfl), List.filter_nil]
  · rw [if_neg h, List.filter_cons_of_neg, List.filter_nil]
    rw [Bool.and_eq_true, decide_eq_true_eq, decide_eq_true_eq]
    exact h
theorem plN_len (us : List (Option Nat)) (ls : List (List (Option Bool))) (b m k : Nat) : (plN us ls b m k).length ≤ k := by
  unfold plN
  exact Nat.le_trans (List.length_filter_le _ _) (Nat.le_of_eq List.length_range)
/-- the costs but at the block itself -/
def csN (us : List (Option Nat)) (ls : List (List (Option Bool))) (b k : Nat) : List Nat := ((List.range k).filter fun p => decide (p ≠ b)).map (costN us ls b)
theorem csN_snoc (us : List (Option Nat)) (ls : List (List (Option Bool))) (b k : Nat) : csN us ls b (k + 1) = csN us ls b k ++ if k = b then [] else [costN us ls b k] := by
  unfold csN
  rw [List.range_succ, List.filter_append, List.map_append]
  congr 1
  by_cases h : k = b
  · rw [if_pos h, List.filter_cons_of_neg (by rw [decide_eq_true_eq]; exact fun z => z h), List.filter_nil, List.map_nil]
  · rw [if_neg h, List.filter_cons_of_pos (by rw [decide_eq_true_eq]; exact h), List.filter_nil, List.map_cons, List.map_nil]
theorem csN_len (us : List (Option Nat)) (ls : List (List (Option Bool))) (b k : Nat) : (csN us ls b k).length ≤ k := by
  unfold csN
  rw [List.length_map]
  exact Nat.le_trans (List.length_filter_le _ _) (Nat.le_of_eq List.length_range)
theorem csN_min {us : List (Option Nat)} {ls : List (List (Option Bool))} {n b m : Nat} (h : m ∈ csN us ls b (n + 1)) (a : ∀ y ∈ csN us ls b (n + 1), m ≤ y) : MinIs us ls n b m := by
  have mem : ∀ y, y ∈ csN us ls b (n + 1) ↔ ∃ p, p ≤ n ∧ p ≠ b ∧ costN us ls b p = y := fun y => by
    unfold csN
    rw [List.mem_map]
    constructor
    · rintro ⟨p, hp, e⟩
      rw [List.mem_filter, List.mem_range, decide_eq_true_eq] at hp
      exact ⟨p, by omega, hp.2, e⟩
    · rintro ⟨p, hp, hb, e⟩
      refine ⟨p, ?_, e⟩
      rw [List.mem_filter, List.mem_range, decide_eq_true_eq]
      exact ⟨by omega, hb⟩
  exact ⟨(mem m).mp h, fun p hp hb => a _ ((mem _).mpr ⟨p, hp, hb, rfl⟩)⟩
theorem csN_pos {us : List (Option Nat)} {ls : List (List (Option Bool))} {n b : Nat} (b1 : 1 ≤ b) : 0 < (csN us ls b (n + 1)).length := by
  unfold csN
  rw [List.length_map]
  refine List.length_pos_of_mem (a := 0) ?_
  rw [List.mem_filter, List.mem_range, decide_eq_true_eq]
  omega
end Fv
set_option maxRecDepth 100000
set_option maxHeartbeats 1000000
namespace Fv
open PySem PySem.Spec PyProof.Rows L2
/-! lists of lists of pairs that are written in turn -/
def TsAt (H : Hp) (as : List Addr) (g : Nat → List (Nat × Nat)) : Prop := ∀ p a, as[p]? = some a → ∃ vs, H a = some (.lst vs) ∧ PrsV H vs (g p)
theorem TsAt.same {H H' : Hp} {as : List Addr} {g : Nat → List (Nat × Nat)} (s : Same H H') (h : TsAt H as g) : TsAt H' as g := fun p a e => by
  obtain ⟨vs, h1, h2⟩ := h p a e
  exact ⟨vs, s _ _ h1, h2.same s⟩
theorem TsAt.mut {H : Hp} {as : List Addr} {g : Nat → List (Nat × Nat)} {q : Addr} {ys : List V} {o : HO} (hq : H q = some (.lst ys)) (n : q ∉ as) (h : TsAt H as g) : TsAt (upd H q o) as g := fun p a e => by
  obtain ⟨vs, h1, h2⟩ := h p a e
  exact ⟨vs, keepM (fun z => n (by rw [← z]; exact List.mem_of_getElem? e)) h1, h2.mut hq⟩
theorem TsAt.congr {H : Hp} {as : List Addr} {g g' : Nat → List (Nat × Nat)} (e : ∀ p, p < as.length → g p = g' p) (h : TsAt H as g) : TsAt H as g' := fun p a ha => by
  rw [← e p (List.getElem?_eq_some_iff.mp ha).1]
  exact h p a ha
theorem TsAt.step {H : Hp} {as : List Addr} {g : Nat → List (Nat × Nat)} {q : Nat} {a U : Addr} {vs : List V} {x : Nat × Nat} (hn : as.Nodup) (h : TsAt H as g) (ha : as[q]? = some a) (hU : H U = some (.tup [.int (x.1 : Nat), .int (x.2 : Nat)])) (hv : H a = some (.lst vs)) (hp : PrsV H vs (g q)) :
    TsAt (upd H a (.lst (vs ++ [.ref U]))) as (fun p => g p ++ if p = q then [x] else []) := fun p b e => by
  have nUa : U ≠ a := fun z => by
    rw [z, hv] at hU
    cases hU
  by_cases hpq : p = q
  · subst hpq
    rw [ha] at e
    cases e
    refine ⟨_, upd_same, ?_⟩
    dsimp only
    rw [if_pos rfl]
    exact (hp.mut hv).app ⟨⟨U, rfl, keepM nUa hU⟩, True.intro⟩
  · obtain ⟨ws, h1, h2⟩ := h p b e
    refine ⟨ws, keepM (fun z => hpq ?_) h1, ?_⟩
    · subst z
      exact (List.getElem?_inj (List.getElem?_eq_some_iff.mp e).1 hn).mp (e.trans ha.symm)
    · dsimp only
      rw [if_neg hpq, List.append_nil]
      exact h2.mut hv
theorem refs_at {as : List Addr} {p : Nat} {a : Addr} (e : as[p]? = some a) : atI (as.map V.ref) (p : Int) = some (.ref a) := by
  refine atI_nat ?_
  rw [List.getElem?_map, e]
  rfl
theorem cr_sortedK {X : Cx} {K : PySem.W.Frag} (e : X.K = K) : CallR X (.builtin "sorted") (rSorted K) := by
  subst e
  exact cr_sorted
end Fv
set_option maxRecDepth 100000
set_option maxHeartbeats 1000000
namespace Fv
open PySem PySem.Spec PyProof.Rows L2
section
variable {K : PySem.W.Frag} {H : Hp} {Q : VK} {a : Addr} {l : List Nat} {k : Nat}
theorem x_ninNT (h : SqT K H a (nats l)) (q : Q (.bl (!decide (k ∈ l))) H) : rIn K true (.int k) (.ref a) H Q := by
  refine ⟨a, _, rfl, .inr h, rfl, flat_nats l, ?_⟩
  show Q (.bl (!inV (.int k) (nats l))) H
  rw [in_nats]
  exact q
theorem x_ninNL (h : SqL K H a (nats l)) (q : Q (.bl (!decide (k ∈ l))) H) : rIn K true (.int k) (.ref a) H Q := by
  refine ⟨a, _, rfl, .inl h, rfl, flat_nats l, ?_⟩
  show Q (.bl (!inV (.int k) (nats l))) H
  rw [in_nats]
  exact q
/-- whole numbers in order -/
theorem x_sortN {ys : List Nat} (h : SqL K H a (nats l)) (hl : l.length < 64) (hp : l.Perm ys) (hs : ys.Pairwise (· < ·)) (q : ∀ p, H p = none → Q (.ref p) (upd H p (.lst (nats ys)))) : rSorted K [.ref a] H Q := by
  refine ⟨a, l.map fun (k : Nat) => (k : Int), rfl, by rw [nats_ints]; exact h, by rw [List.length_map]; exact hl, fun zs p hz hw hn => ?_⟩
  have e : zs = ys.map fun (k : Nat) => (k : Int) := by
    refine (hz.trans (hp.map _)).eq_of_pairwise (fun a b _ _ h1 h2 => Int.le_antisymm h1 h2) hw ?_
    rw [List.pairwise_map]
    refine hs.imp fun {x y} hxy => ?_
    omega
  rw [e, nats_ints]
  exact q p hn
theorem put_same {hs : List Nat} {b : Nat} (h1 : 1 ≤ b) (h2 : b ≤ hs.length) : put hs b (up hs b) = hs := by
  refine same_ups (put_len _ _ _) fun k _ _ => ?_
  rw [up_put h1 h2]
  split
  · rename_i e
    rw [e]
  · rfl
end
end Fv
set_option maxRecDepth 100000
set_option maxHeartbeats 4000000
namespace Fv
open PySem PySem.Spec PyProof.Rows L2
/-! t * k, k any number -/
theorem tuple_mulW1 (l : Addr) (items : Array Value) (n : Nat) (dd : Option Addr) (sl : Array (Option Value)) (u : Tok) :
    Meets (Builtin.«tuple.__mul__» ⟨[.ref l, .int 1 u], []⟩) (fun _ R s => s.heap.get? l = some { cls := .type "tuple", dict := dd, data := .seq items n, slots := sl } ∧ R (.ok (.ret (Value.ref l))) s) :=
  .of_wp fun prog w A R s h => by
    obtain ⟨hp, g, d, tk, os⟩ := s
    obtain ⟨hl, h⟩ := h
    have f1 := AutoSeq1.idx_int
    have c1 : (items.isEmpty || (1 : Int) == 1) = true := by rw [Bool.or_eq_true]; exact .inr rfl
    wp_walk using wpAny_loadPart' hl
    repeat (first
      | (refine wpAny_ite_true (decide_eq_true c1) ?_; wp_walk using wpAny_loadPart' hl)
      | (refine wpAny_ite_false (by decide) ?_; wp_walk using wpAny_loadPart' hl))
    exact ⟨_, rfl, h⟩
theorem tuple_mulW0 (l : Addr) (items : Array Value) (n : Nat) (dd : Option Addr) (sl : Array (Option Value)) (x : Int) (u : Tok) (c0 : (decide (x < -(2 ^ 63)) || decide (x ≥ 2 ^ 63)) = false) (c1 : (items.isEmpty || x == 1) = false) (c2 : (decide (x ≤ 0) || items.isEmpty) = true) :
    Meets (Builtin.«tuple.__mul__» ⟨[.ref l, .int x u], []⟩) (fun _ R s => s.heap.get? l = some { cls := .type "tuple", dict := dd, data := .seq items n, slots := sl } ∧
      R (.ok (.ret (Value.ref s.heap.objs.size))) { s with heap := s.heap.push { cls := Value.type "tuple", data := Data.seq #[] }, toks := s.toks }) :=
  .of_wp fun prog w A R s h => by
    obtain ⟨hp, g, d, tk, os⟩ := s
    obtain ⟨hl, h⟩ := h
    have f1 := AutoSeq1.idx_int
    wp_walk using wpAny_loadPart' hl
    repeat (first
      | (refine wpAny_ite_false (decide_eq_false (by rw [c0]; exact Bool.false_ne_true)) ?_; wp_walk using wpAny_loadPart' hl)
      | (refine wpAny_ite_false (decide_eq_false (by rw [c1]; exact Bool.false_ne_true)) ?_; wp_walk using wpAny_loadPart' hl)
      | (refine wpAny_ite_true (decide_eq_true c2) ?_; wp_walk using wpAny_loadPart' hl)
      | (refine wpAny_ite_false (by decide) ?_; wp_walk using wpAny_loadPart' hl))
    exact ⟨_, rfl, h⟩
def rRepA (K : PySem.W.Frag) : R2 := fun x y H Q => ∃ (l : Addr) (k : Int) (xs : List V), x = .ref l ∧ y = .int k ∧ SqT K H l xs ∧ xs ≠ [] ∧ -1000 ≤ k ∧ k ≤ 1000 ∧ xs.length ≤ 1000 ∧ (k = 1 → Q (.ref l) H) ∧ (k ≤ 0 → ∀ p, H p = none → Q (.ref p) (upd H p (.tup []))) ∧ (2 ≤ k → ∀ p, H p = none → Q (.ref p) (upd H p (.tup (List.replicate k.toNat xs).flatten)))
theorem op_repA {X : Cx} : OpR X (binaryOp .Mult) (rRepA X.K) := by
  intro pins s σ H x y v u Q I rx ry h
  obtain ⟨l, k, xs, rfl, rfl, hT, hne, h1, h2, hz, q1, q0, q2⟩ := h
  by_cases hk : 2 ≤ k
  · exact op_repT pins s σ H _ _ v u Q I rx ry ⟨l, k, xs, rfl, rfl, hT, hne, hk, h2, hz, q2 hk⟩
  cases rx
  obtain ⟨t, rfl⟩ := ry
  obtain ⟨its, r, ⟨⟨cls, dd, data, sl⟩, ho, hc, n, hd⟩, hs⟩ := I.tuple hT
  simp only at hc hd
  subst hc hd
  have hle : its.length = xs.length := r.length.symm
  have hn : its ≠ [] := fun e => hne (by
    rw [e] at hle
    exact List.eq_nil_of_length_eq_zero hle.symm)
  have hi : its.toArray.isEmpty = false := by
    cases its with
    | nil => exact absurd rfl hn
    | cons a b => rfl
  by_cases k1 : k = 1
  · subst k1
    exact wpAny_binaryOp_repeat_ref (T := "tuple") (U := "int") (by decide) ⟨_, ho, rfl⟩ (fun s' => typeIs_int s' 1 t) noFill_tuple_mul F.fills_int_mul F.slot_int_rmul repeat_tuple F.slot_int_index.lookup
      (call_meets F.slot_int_rmul (typeIs_int s 1 t) F.entry_int_rmul (F.args_int_rmul_2 _ _) (int_rmul_tuple 1 t l its.toArray n dd sl)
        ⟨ho, rfl, ⟨_, ho, rfl⟩, call_meets F.slot_tuple_mul ⟨_, ho, rfl⟩ F.entry_tuple_mul (F.args_tuple_mul_2 _ _) (tuple_mulW1 l its.toArray n dd sl t) ⟨ho, .ref l, H, I, rfl, q1 rfl⟩⟩)
  · have c0 : (decide (k < -(2 ^ 63)) || decide (k ≥ 2 ^ 63)) = false := by
      rw [decide_eq_false (by omega), decide_eq_false (by omega)] <;> rfl
    have c1 : (its.toArray.isEmpty || k == 1) = false := by
      rw [hi, Bool.false_or]
      exact beq_eq_false_iff_ne.mpr (by omega)
    have c2 : (decide (k ≤ 0) || its.toArray.isEmpty) = true := by
      rw [decide_eq_true (show k ≤ 0 by omega)]
      rfl
    refine wpAny_binaryOp_repeat_ref (T := "tuple") (U := "int") (by decide) ⟨_, ho, rfl⟩ (fun s' => typeIs_int s' k t) noFill_tuple_mul F.fills_int_mul F.slot_int_rmul repeat_tuple F.slot_int_index.lookup
      (call_meets F.slot_int_rmul (typeIs_int s k t) F.entry_int_rmul (F.args_int_rmul_2 _ _) (int_rmul_tuple k t l its.toArray n dd sl)
        ⟨ho, rfl, ⟨_, ho, rfl⟩, call_meets F.slot_tuple_mul ⟨_, ho, rfl⟩ F.entry_tuple_mul (F.args_tuple_mul_2 _ _) (tuple_mulW0 l its.toArray n dd sl k t c0 c1 c2) ⟨ho, ?_⟩⟩)
    refine ⟨.ref s.heap.objs.size, _, I.laid (t' := s.toks) (o := .tup []) (fun b ob q => Heap.get?_push_of_some _ q) (Nat.le_refl _) ?_, rfl, q0 (by omega) _ (I.hok.fresh (Nat.le_refl _))⟩
    exact ⟨Nat.zero_le _, [], .nil, IsTup.new _ _⟩
theorem op_repAK {X : Cx} {K : PySem.W.Frag} (e : X.K = K) : OpR X (binaryOp .Mult) (rRepA K) := by
  subst e
  exact op_repA
section
variable {K : PySem.W.Frag} {H : Hp} {Q : VK} {a : Addr} {v : V}
/-- (v,) * k -/
theorem x_repA1 {k : Int} (h : H a = some (.tup [v])) (h1 : -1000 ≤ k) (h2 : k ≤ 1000) (q : ∀ p H', Same H H' → H' p = some (.tup (List.replicate k.toNat v)) → Q (.ref p) H') : rRepA K (.ref a) (.int k) H Q := by
  refine ⟨a, k, [v], rfl, rfl, .of h, by simp, h1, h2, (by show 1 ≤ 1000; decide), fun e => ?_, fun e p hp => ?_, fun e p hp => ?_⟩
  · subst e
    exact q a H (Same.refl _) h
  · refine q p _ (same_new (Same.refl _) hp) ?_
    rw [upd_same, show k.toNat = 0 by omega]
    rfl
  · refine q p _ (same_new (Same.refl _) hp) ?_
    rw [upd_same, rep_one]
end
end Fv
set_option maxRecDepth 100000
set_option maxHeartbeats 1000000
namespace Fv
open PySem PySem.Spec PyProof.Rows L2
theorem cr_minLK {X : Cx} {K : PySem.W.Frag} (e : X.K = K) (hc : X.calm = true) : CallR X (.builtin "min") (rMin K) := by
  subst e
  exact cr_min hc
/-- rows of numbers, each a tuple -/
def RowV (H : Hp) (v : V) (r : List Nat) : Prop := ∃ t, v = .ref t ∧ H t = some (.tup (nats r))
def RowsV (H : Hp) : List V → List (List Nat) → Prop
  | [], [] => True
  | v :: vs, x :: xs => RowV H v x ∧ RowsV H vs xs
  | [], _ :: _ => False
  | _ :: _, [] => False
theorem RowsV.imp {H H' : Hp} (f : ∀ v x, RowV H v x → RowV H' v x) : ∀ {vs : List V} {xs : List (List Nat)}, RowsV H vs xs → RowsV H' vs xs
  | [], [], _ => True.intro
  | _ :: _, _ :: _, h => ⟨f _ _ h.1, RowsV.imp f h.2⟩
  | [], _ :: _, h => h.elim
  | _ :: _, [], h => h.elim
theorem RowsV.same {H H' : Hp} {vs : List V} {xs : List (List Nat)} (s : Same H H') (h : RowsV H vs xs) : RowsV H' vs xs := h.imp fun _ _ ⟨t, e, k⟩ => ⟨t, e, s _ _ k⟩
theorem RowsV.mut {H : Hp} {vs : List V} {xs : List (List Nat)} {q : Addr} {ys : List V} {o : HO} (hq : H q = some (.lst ys)) (h : RowsV H vs xs) : RowsV (upd H q o) vs xs := h.imp fun _ _ ⟨t, e, k⟩ => ⟨t, e, keepM (fun z => by
  rw [z, hq] at k
  cases k) k⟩
theorem RowsV.app {H : Hp} : ∀ {vs ws : List V} {xs ys : List (List Nat)}, RowsV H vs xs → RowsV H ws ys → RowsV H (vs ++ ws) (xs ++ ys)
  | [], _, [], _, _, h => h
  | _ :: _, _, _ :: _, _, h, k => ⟨h.1, RowsV.app h.2 k⟩
  | [], _, _ :: _, _, h, _ => h.elim
  | _ :: _, _, [], _, h, _ => h.elim
theorem RowsV.len {H : Hp} : ∀ {vs : List V} {xs : List (List Nat)}, RowsV H vs xs → vs.length = xs.length
  | [], [], _ => rfl
  | _ :: _, _ :: _, h => congrArg (· + 1) (RowsV.len h.2)
  | [], _ :: _, h => h.elim
  | _ :: _, [], h => h.elim
theorem RowsV.at {H : Hp} : ∀ {vs : List V} {xs : List (List Nat)} {i : Nat} {v : V}, RowsV H vs xs → vs[i]? = some v → ∃ x, xs[i]? = some x ∧ RowV H v x
  | [], [], _, _, _, h => by cases h
  | _ :: _, x :: _, 0, _, h, e => by
    have e' := Option.some.inj e
    subst e'
    exact ⟨x, rfl, h.1⟩
  | _ :: _, _ :: _, i + 1, _, h, e => RowsV.at (i := i) h.2 e
  | [], _ :: _, _, _, h, _ => h.elim
  | _ :: _, [], _, _, h, _ => h.elim
theorem RowsV.mem {H : Hp} {vs : List V} {xs : List (List Nat)} (h : RowsV H vs xs) {v : V} (hv : v ∈ vs) : ∃ x, x ∈ xs ∧ RowV H v x := by
  obtain ⟨i, hi, e⟩ := List.getElem_of_mem hv
  obtain ⟨x, e2, hx⟩ := h.at (i := i) (v := v) (by rw [List.getElem?_eq_getElem hi, e])
  exact ⟨x, List.mem_of_getElem? e2, hx⟩
end Fv
set_option maxRecDepth 100000
set_option maxHeartbeats 1000000
namespace Fv
open PySem PySem.Spec PyProof.Rows L2
section
variable {P : Program} {w : World} {K : PySem.W.Frag} {mg : Str → Option Value} {base : Heap} {k : Nat} {f : Addr} {fd : FuncData} {ps : List Str} {sp sp' : Sp}
/-- from which nothing comes out serves where something may -/
theorem fnUp (G : FnOk P w K mg base CX0 k f fd ps sp) : FnOk P w K mg base (L2.CX P w) k f fd ps sp :=
  ⟨G.len, fun A outer s H args us vs Q E hr e0 hb r h => codeAny_mono (G.run A outer s H args us vs Q E hr e0 hb r h) fun r s' q => by
    cases r with
    | error e => exact (show False from q).elim
    | ok fl => cases fl <;> exact q⟩
/-- two promises of one def -/
theorem fnOr {CX : CXT} (G : FnOk P w K mg base CX k f fd ps sp) (G' : FnOk P w K mg base CX k f fd ps sp') : FnOk P w K mg base CX k f fd ps (fun vs H Q E => sp vs H Q E ∨ sp' vs H Q E) :=
  ⟨fun vs H Q E h => h.elim (G.len vs H Q E) (G'.len vs H Q E), fun A outer s H args us vs Q E hr e0 hb r h => h.elim (G.run A outer s H args us vs Q E hr e0 hb r) (G'.run A outer s H args us vs Q E hr e0 hb r)⟩
end
/-- isinstance(e, C), e the caught error without fields, whatever its class -/
def rIsM (K : PySem.W.Frag) (a : Addr) (cls : Value) (d : Option Addr) : List V → Hp → VK → Prop := fun xs H Q => ∃ (D : Addr) (c : V) (cv : Value) (b : Bool), cls = .ref D ∧ d = none ∧ L2.ExcC K D ∧ xs = [.ref a, c] ∧ (∀ u, RelV c u → u = cv) ∧ PySem.W.kitOne K (.ref D) cv = some b ∧ Q (.bl b) H
theorem call_isM {X : Cx} {K : PySem.W.Frag} {a : Addr} {oe : Obj} {cls : Value} {d : Option Addr} {pn : List (Addr × Obj)} (eK : X.K = K) (hz : Zc cls d oe) (hf : ∃ vs, oe.data = .fields vs) : CallR (X.suite a ((a, oe) :: pn)) (.builtin "isinstance") (rIsM K a cls d) := by
  subst eK
  intro pins s σ H xs us Q I r h
  obtain ⟨D, c, cv, b, rfl, rfl, hC, rfl, hcv, e, q⟩ := h
  exact call_isE hC hz hf pins s σ H _ us Q I r ⟨c, cv, b, rfl, hcv, e, q⟩
theorem mt_indexK {X : Cx} {K : PySem.W.Frag} (e : X.K = K) : MtR X "list.index" (rIndex K) := by
  subst e
  exact mt_index
section
variable {K : PySem.W.Frag} {H : Hp} {Q : VK} {a C dx : Addr} {fs : List (Str × V)}
theorem isi_insTuple (c : IsC K C) (nt : PySem.W.kitOne K (.ref C) (.type "tuple") = some false) (h : H a = some (.ins C dx fs)) (q : Q (.bl false) H) : rIsi K [.ref a, .ty "tuple"] H Q :=
  ⟨.ref a, .ty "tuple", .ref C, .type "tuple", false, rfl, .ty "tuple", .base (.ins h c.cl c.ha c.hn c.ht c.hm), nt, q⟩
end
end Fv
set_option maxRecDepth 100000
set_option maxHeartbeats 1000000
namespace Fv
open PySem PySem.Spec PyProof.Rows L2
/-! errors of the package kept as values: made, asked of their class, their fields read -/
/-- v is an error of the class at C, made and not raised, its fields these -/
def ErV (H : Hp) (v : V) (C : Addr) (fs : List (Str × V)) : Prop := ∃ a, v = .ref a ∧ ((H a = some (exo a C none) ∧ fs = []) ∨ ∃ dx, H a = some (exo a C (some dx)) ∧ H dx = some (exd dx fs))
theorem ErV.same {H H' : Hp} {v : V} {C : Addr} {fs : List (Str × V)} (s : Same H H') (h : ErV H v C fs) : ErV H' v C fs := by
  obtain ⟨a, e, h⟩ := h
  refine ⟨a, e, ?_⟩
  rcases h with ⟨h, z⟩ | ⟨dx, h1, h2⟩
  · exact .inl ⟨s _ _ h, z⟩
  · exact .inr ⟨dx, s _ _ h1, s _ _ h2⟩
section
variable {X : Cx} {K : PySem.W.Frag}
/-- C(), kept -/
theorem pe_supV {C fI : Addr} {x : Str} {p pos : Pos} (T : SupC X.prog X.K C fI) (hr : Room 1 X.A) (hg : Gl X x) (hm : X.mg x = some (.ref C)) (hs : X.mg "super" = none) (hdb : (x == ("__debug__" : Str)) = false := by decide) :
    PE X (.Call (.Name x p) [] [] pos) (fun _ H Q => ∀ v H', Same H H' → ErV H' v C [] → Q v H') := by
  refine ⟨fun pins s σ H Q I h => ?_⟩
  refine wpAny_Call_Name_kw (ld_glob I hg hm ?_ hdb)
  refine PySem.W.callWith_K0 I.kIn T.x.kC ?_
  obtain ⟨mb, hb1, hb2⟩ := I.mod.blt
  have hlim := I.nolimit
  have hgl : s.heap.Ns mainGlobals X.mg := I.mod.glob.keeps I.bk
  have hbl : s.heap.Ns builtinsNs mb := hb1.keeps I.bk
  obtain ⟨hp, g, d, t, os⟩ := s
  refine wpAny_call (sup_made T I.kIn hlim hgl hs hbl ((hb2 "super" (by decide)).trans (by first | rfl | decide +kernel | kernel_rfl)) (by have := hr.dp; omega) fun h' tk' e t1 k ge hx => ?_)
  have hn : H e = none := I.hok.fresh ge
  have J : Inv X pins σ (upd H e (exo e C none)) ⟨h', g, d, tk', os⟩ := I.laid (t' := tk') k ge (exo_ok hx)
  exact ⟨.ref e, _, J, rfl, h _ _ (same_new (Same.refl _) hn) ⟨e, rfl, .inl ⟨upd_same, rfl⟩⟩⟩
/-- C(e, ..), C's own __init__ keeping sp, kept -/
def tMkV (C : Addr) (sp : Sp) (ta : TA) : TE := fun σ H Q => ta σ H fun vs H1 => vs.length ≤ 1000 ∧ ∀ a, H1 a = none → sp (.ref a :: vs) (upd H1 a (exo a C none)) (fun v H2 => v = .non ∧ Q (.ref a) H2) (fun _ _ _ => False)
theorem pe_oexV {CX : CXT} {x : Str} {C fI : Addr} {k : Nat} {fd : FuncData} {ps : List Str} {sp : Sp} {e : Expr} {es : List Expr} {ta : TA} {p pos : Pos} (T : OexC X.K C) (iC : PySem.W.findIn X.K (.ref C) "__init__" = some (some (.ref fI))) (tI : PySem.W.typeIn X.K (.ref fI) = some (.type "function"))
    (F1 : FnOk X.prog X.w X.K X.mg X.base CX k fI fd ps sp) (hr : Room (k + 1) X.A) (hb : L2.Binds X.K fd ps []) (hx : L2.Passes CX X (fun _ _ _ => False)) (hg : Gl X x) (hm : X.mg x = some (.ref C)) (ha : PA X (e :: es) ta)
    (hdb : (x == ("__debug__" : Str)) = false := by decide) (he : starEach (e :: es) X.env = (false, eval e X.env) :: starEach es X.env := by rfl) (hpl : (backTo pos (starEach es X.env)).any (·.1) = false := by rfl) :
    PE X (.Call (.Name x p) (e :: es) [] pos) (tMkV C sp ta) := by
  refine ⟨fun pins s σ H Q I h => ?_⟩
  obtain ⟨nm, q, N, bs, bm, sn, sub, ab, col, dd, k0, k1, k2, k3, k5, hC, hbm⟩ := T.cls
  refine wpAny_Call_Name_kw (ld_glob I hg hm ?_ hdb)
  refine PySem.W.callWith_K (h₀ := X.base) I.ok.mod.kin T.kC (thn (ha.run pos pins s σ H _ I h) fun us z ⟨vs, H1, I1, r1, hz, q1⟩ => ⟨I1.kIn, ?_⟩) he hpl
  show wpAny _ _ (call (.ref C) us) _ _ _
  obtain ⟨hp, g, dr, tk, os⟩ := z
  have le : hp.objs.size ≤ hp.objs.size + 1 := Nat.le_succ _
  have new : H1 (hp.objs.size + 1) = none := I1.hok.fresh le
  have hq := q1 (hp.objs.size + 1) new
  have kk : ∀ b o, hp.get? b = some o → ((hp.push (PySem.W.kdv_tup us)).push (PySem.HandSPX.excO C hp.objs.size)).get? b = some o := fun b o y => Heap.get?_push_of_some _ (Heap.get?_push_of_some _ y)
  have got : ((hp.push (PySem.W.kdv_tup us)).push (PySem.HandSPX.excO C hp.objs.size)).get? (hp.objs.size + 1) = some (PySem.HandSPX.excO C hp.objs.size) := by heap_get
  have J : Inv X pins σ (upd H1 (hp.objs.size + 1) (exo (hp.objs.size + 1) C none)) ⟨(hp.push (PySem.W.kdv_tup us)).push (PySem.HandSPX.excO C hp.objs.size), g, dr, tk, os⟩ := I1.laid (t' := tk) kk le (exo_ok got)
  have rr : Vals (V.ref (hp.objs.size + 1) :: vs) (Value.ref (hp.objs.size + 1) :: us) := .cons rfl r1
  have hl : (Value.ref (hp.objs.size + 1) :: us ++ []).length = ps.length := by
    rw [List.append_nil]
    have y := rr.length
    rw [F1.len _ _ _ _ hq] at y
    exact y.symm
  have us' : us.length ≤ sizeLine := by
    rw [← Paired.length r1, sizeLine_eq]
    omega
  have hbb := hb _ (Value.ref (hp.objs.size + 1) :: us) J.kIn hl
  rw [List.append_nil] at hbb
  refine wpAny_call (PySem.HandSPX.call_own F.excBase_ValueError (fun Y => PySem.HandSPX.refsVE_contains Y bm hbm) (I1.kIn _ _ hC) (PySem.W.looks_findIn I1.kIn iC) (fun self => PySem.W.bind_fn I1.kIn self tI) us'
    (codeAny_mono (F1.run _ X.stack _ _ ⟨Value.ref (hp.objs.size + 1) :: us, []⟩ (Value.ref (hp.objs.size + 1) :: us) _ _ (fun _ _ _ => False) (hr.make C us []) (J.env0.make C us []) hbb rr hq) fun r s' hq' => ?_))
  cases r with
  | error er => exact hx pins σ _ _ er s' J hq'
  | ok fl =>
    cases fl with
    | ret u =>
      have y := J.after (Q := fun v H2 => v = .non ∧ Q (.ref (hp.objs.size + 1)) H2) hq'
      obtain ⟨v, H2, J2, rv, ev, q2⟩ := y
      subst ev
      exact ⟨rv, .ref (hp.objs.size + 1), H2, J2, rfl, q2⟩
    | next => exact False.elim hq'
    | brk => exact False.elim hq'
    | cont => exact False.elim hq'
/-- isinstance(e, c), e such a value -/
def rIsV (K : PySem.W.Frag) : List V → Hp → VK → Prop := fun xs H Q => ∃ (x c : V) (C : Addr) (fs : List (Str × V)) (cv : Value) (b : Bool), xs = [x, c] ∧ ErV H x C fs ∧ L2.ExcC K C ∧ (∀ u, RelV c u → u = cv) ∧ PySem.W.kitOne K (.ref C) cv = some b ∧ Q (.bl b) H
theorem er_at {pins : List (Addr × Obj)} {σ : L2.St} {H : Hp} {s : Shared} {v : V} {C : Addr} {fs : List (Str × V)} (I : Inv X pins σ H s) (h : ErV H v C fs) : ∃ a ox od, v = .ref a ∧ PySem.W.InstAt s.heap a ox C od ∧ ∀ f, (fs.lookup f).isSome = true → ∃ ob u, od = some ob ∧ PySem.W.lookIn f ob = some (some u) ∧ ∃ y, fs.lookup f = some y ∧ RelV y u := by
  obtain ⟨a, rfl, h⟩ := h
  rcases h with ⟨h, rfl⟩ | ⟨dx, h1, h2⟩
  · obtain ⟨t, e⟩ := exo_at I.hok h
    exact ⟨a, _, none, rfl, ⟨e, rfl, rfl, trivial⟩, fun f z => absurd z (by simp)⟩
  · obtain ⟨t, e⟩ := exo_at I.hok h1
    obtain ⟨mA, hns, hr⟩ := exd_at I.hok h2
    obtain ⟨ob, ho, hl⟩ := lookIn_ns hns
    refine ⟨a, _, some ob, rfl, ⟨e, rfl, rfl, ho⟩, fun f z => ?_⟩
    obtain ⟨y, ey⟩ := Option.isSome_iff_exists.mp z
    obtain ⟨u, hu, ru⟩ := RelO.some_of (v := y) (o := mA f) (by rw [← ey]; exact hr f)
    exact ⟨ob, u, rfl, by rw [hl, hu], y, ey, ru⟩
theorem call_isV (eK : X.K = K) : CallR X (.builtin "isinstance") (rIsV K) := by
  subst eK
  intro pins s σ H xs us Q I r h
  obtain ⟨x, c, C, fs, cv, b, rfl, he, hC, hcv, e, q⟩ := h
  obtain ⟨a, ox, od, rfl, J, _⟩ := er_at I he
  cases r with
  | cons rx rr =>
    cases rr with
    | cons rt rr =>
      cases rr
      cases rx
      have ec := hcv _ rt
      subst ec
      have hcl : (PySem.W.clsIn X.K C).isSome = true := by
        obtain ⟨cd, hc, _⟩ := PySem.W.any_some hC.hd
        rw [hc]
        rfl
      exact PySem.W.kia_one (PySem.W.kitx_exc hcl hC.hg hC.hk hC.hs hC.ha hC.hn hC.ht hC.hm) I.kIn J e (fun z => nomatch z) fun tk => ⟨.bl b, H, I.kept (t' := tk) fun _ _ z => z, rfl, q⟩
/-- e.f, e such a value -/
def tFV (K : PySem.W.Frag) (f : Str) (te : TE) : TE := fun σ H Q => te σ H fun x H1 => ∃ (C : Addr) (fs : List (Str × V)) (v : V), ErV H1 x C fs ∧ L2.ExcC K C ∧ PySem.W.findIn K (.ref C) f = some none ∧ fs.lookup f = some v ∧ Q v H1
theorem pe_fV {e : Expr} {te : TE} {n : Str} {pos : Pos} (eK : X.K = K) (he : PE X e te) (hb : attributeBase e n X.env (eval e X.env) = eval e X.env := by rfl) : PE X (.Attribute e n pos) (tFV K n te) := by
  subst eK
  refine ⟨fun pins s σ H Q I h => ?_⟩
  refine attr_of hb (thn (he.run pins s σ H _ I h) fun u s1 hh => ?_)
  obtain ⟨x, H1, I1, rx, C, fs, v, her, T, hno, l, q⟩ := hh
  obtain ⟨a, ox, od, rfl, J, look⟩ := er_at I1 her
  obtain rfl : u = Value.ref a := rx
  obtain ⟨ob, u, rfl, hl, y, ey, ry⟩ := look n (by rw [l]; rfl)
  rw [l] at ey
  cases ey
  exact HandSPX.exc_get I1.kIn J T.hg T.hk T.hs (PySem.W.findObj_own T.hd hno rfl hl) (handed_of ry) ⟨v, H1, I1.tok _, ry, q⟩
theorem x_isV {H : Hp} {Q : VK} {x : V} {C D : Addr} {fs : List (Str × V)} {b : Bool} (he : ErV H x C fs) (hC : L2.ExcC K C) (k : PySem.W.kitOne K (.ref C) (.ref D) = some b) (q : Q (.bl b) H) : rIsV K [x, .ref D] H Q :=
  ⟨x, .ref D, C, fs, .ref D, b, rfl, he, hC, fun u h => by cases h; rfl, k, q⟩
theorem x_isVv {H : Hp} {Q : VK} {x : V} {C : Addr} {fs : List (Str × V)} {b : Bool} (he : ErV H x C fs) (hC : L2.ExcC K C) (k : PySem.W.kitOne K (.ref C) (.type "ValueError") = some b) (q : Q (.bl b) H) : rIsV K [x, .ty "ValueError"] H Q :=
  ⟨x, .ty "ValueError", C, fs, .type "ValueError", b, rfl, he, hC, fun u h => by cases h; rfl, k, q⟩
theorem x_fV {f : Str} {te : TE} {σ : L2.St} {H : Hp} {Q : VK} (h : te σ H fun x H1 => ∃ (C : Addr) (fs : List (Str × V)) (v : V), ErV H1 x C fs ∧ L2.ExcC K C ∧ PySem.W.findIn K (.ref C) f = some none ∧ fs.lookup f = some v ∧ Q v H1) : tFV K f te σ H Q := h
/-- a promise that is asked for more serves -/
theorem pe_weak {e : Expr} {t t' : TE} (h : PE X e t) (w : ∀ σ H Q, t' σ H Q → t σ H Q) : PE X e t' := ⟨fun pins s σ H Q I q => h.run pins s σ H Q I (w σ H Q q)⟩
theorem pa_weak {es : List Expr} {t t' : TA} (h : PA X es t) (w : ∀ σ H Q, t' σ H Q → t σ H Q) : PA X es t' := ⟨fun pos pins s σ H Q I q => h.run pos pins s σ H Q I (w σ H Q q)⟩
end
end Fv
set_option maxRecDepth 100000
set_option maxHeartbeats 1000000
namespace Fv
open PySem PySem.Spec PyProof.Rows L2
/-! a thing that is alike itself, dicts of one key among what it holds; walks of a dict's keys -/
theorem units1 {k : Nat} {A : Around} (r : Room k A) : A.units + 1 < cLine := by
  have := r.units
  omega
def Rx (H : Hp) : Nat → V → Prop
  | 0, x => sca x = true
  | n + 1, x => sca x = true ∨ (∃ a xs, x = .ref a ∧ (H a = some (.lst xs) ∨ H a = some (.tup xs)) ∧ xs.length ≤ 1000 ∧ ∀ y ∈ xs, Rx H n y) ∨ ∃ a k v, x = .ref a ∧ H a = some (.dK [(k, v)]) ∧ sca v = true
theorem Rx.sca {H : Hp} {n : Nat} {x : V} (h : Fv.sca x = true) : Rx H n x := by
  cases n with
  | zero => exact h
  | succ n => exact .inl h
theorem Rx.same : ∀ {n : Nat} {H H' : Hp} {x : V}, Same H H' → Rx H n x → Rx H' n x
  | 0, _, _, _, _, h => h
  | n + 1, H, H', x, s, h => by
    rcases h with h | ⟨a, xs, e, h1, hz, h⟩ | ⟨a, k, v, e, h1, h⟩
    · exact .inl h
    · exact .inr (.inl ⟨a, xs, e, h1.imp (s _ _) (s _ _), hz, fun y hy => (h y hy).same s⟩)
    · exact .inr (.inr ⟨a, k, v, e, s _ _ h1, h⟩)
theorem Rx.up : ∀ {n : Nat} {H : Hp} {x : V}, Rx H n x → Rx H (n + 1) x
  | 0, _, _, h => .inl h
  | n + 1, H, x, h => by
    rcases h with h | ⟨a, xs, e, h1, hz, h⟩ | h
    · exact .inl h
    · exact .inr (.inl ⟨a, xs, e, h1, hz, fun y hy => (h y hy).up⟩)
    · exact .inr (.inr h)
theorem Rx.le {n m : Nat} {H : Hp} {x : V} (hm : n ≤ m) (h : Rx H n x) : Rx H m x := by
  induction hm with
  | refl => exact h
  | step _ ih => exact ih.up
theorem Rx.of_al {K : PySem.W.Frag} : ∀ {n : Nat} {H : Hp} {x : V}, Al K H n x x → Rx H n x
  | 0, _, _, h => h.2
  | n + 1, H, x, h => by
    rcases h with h | ⟨a, b, xs, ys, e1, e2, h1, h2, hl, hz, h⟩ | ⟨a, b, xs, ys, e1, e2, h1, h2, hl, hz, h⟩
    · exact .inl h.2
    · rw [e1] at e2
      cases e2
      rw [h1] at h2
      cases h2
      refine .inr (.inl ⟨a, xs, e1, .inl h1, hz, fun y hy => ?_⟩)
      obtain ⟨i, hi, rfl⟩ := List.getElem_of_mem hy
      exact Rx.of_al (h i hi hi)
    · rw [e1] at e2
      cases e2
      rw [h1] at h2
      cases h2
      refine .inr (.inl ⟨a, xs, e1, .inr h1, hz, fun y hy => ?_⟩)
      obtain ⟨i, hi, rfl⟩ := List.getElem_of_mem hy
      exact Rx.of_al (h i hi hi)
theorem Rx.lst {n : Nat} {H : Hp} {a : Addr} {xs : List V} (h : H a = some (.lst xs)) (hz : xs.length ≤ 1000) (q : ∀ y ∈ xs, Rx H n y) : Rx H (n + 1) (.ref a) := .inr (.inl ⟨a, xs, rfl, .inl h, hz, q⟩)
theorem Rx.tup {n : Nat} {H : Hp} {a : Addr} {xs : List V} (h : H a = some (.tup xs)) (hz : xs.length ≤ 1000) (q : ∀ y ∈ xs, Rx H n y) : Rx H (n + 1) (.ref a) := .inr (.inl ⟨a, xs, rfl, .inr h, hz, q⟩)
section
variable {H H' : Hp} {a d D : Addr} {Q : VK} {σ : L2.St} {t : TE} {u : HO} {o : Obj} {kvs : List (Key × V)}
theorem x_lock (h : H d = some u) (mu : Mut (some u)) (q : ∀ od, t σ (upd H d (.frz od u)) fun v H' => H' d = some (.frz od u) ∧ Q v (upd H' d u)) : tLockE t σ H Q := ⟨d, u, h, mu, q⟩
theorem same_unlock {w : HO} (h : H d = some u) (s : Same (upd H d w) H') : Same H (upd H' d u) := fun b o e => by
  by_cases hb : b = d
  · subst hb
    rw [upd_same, ← h, e]
  · rw [upd_ne hb]
    exact s b o (by rw [upd_ne hb]; exact e)
theorem x_din {ty td : TE} (h : ty σ H fun y H1 => td σ H1 fun x H2 => ∃ a o, x = .ref a ∧ DGet H2 a y o ∧ Q (.bl o.isSome) H2) : tDIn ty td σ H Q := h
theorem x_dget {td ty : TE} (h : td σ H fun x H1 => ty σ H1 fun y H2 => ∃ a v, x = .ref a ∧ DGet H2 a y (some v) ∧ Q v H2) : tDGet td ty σ H Q := h
theorem one_val {k : Key} {v : V} : valV [(k, v)] k = some v := by
  unfold valV
  simp
theorem x_keys {td : TE} {R : It → Hp → Prop} (h : td σ H fun x H1 => ∃ d o, x = .ref d ∧ ∃ kvs, H1 d = some (.frz o (.dK kvs)) ∧ R (Itk d o kvs) H1) (w : ∀ Q Q' : VK, (∀ x H, Q x H → Q' x H) → td σ H Q → td σ H Q') : iKeys td σ H R := by
  refine w _ _ (fun x H q => ?_) h
  obtain ⟨d, o, e, kvs, h1, h2⟩ := q
  exact ⟨d, o, e, .inl ⟨kvs, h1, h2⟩⟩
theorem x_keysV {i : Nat} {R : It → Hp → Prop} (h : σ[i]? = some (some (.ref d))) (h1 : H d = some (.frz o (.dK kvs))) (q : R (Itk d o kvs) H) : iKeys (tVar i) σ H R :=
  ⟨.ref d, h, d, o, rfl, .inl ⟨kvs, h1, q⟩⟩
/-- a block over the keys of a dict that it leaves as it is -/
theorem lc_keys {g : TG} {tt : TT} {te : TE} {vs : List Nat} {H1 : Hp} {Qd : Hp → Prop} (Pv : Nat → Hp → Prop) (h0 : Pv 0 (upd H1 D (.lst []))) (hl : ∀ i H, Pv i H → H d = some (.frz o (.dK kvs)))
    (hs : ∀ i k v G, kvs[i]? = some (k, v) → Pv i G → g (kV k) (wipe σ vs) G fun σ2 G2 => wipe σ2 vs = wipe σ vs ∧ tt σ2 G2 fun b G3 => if b = true then te σ2 G3 fun y G4 => ∃ acc, G4 D = some (.lst acc) ∧ acc.length < sizeLine ∧ Pv (i + 1) (upd G4 D (.lst (acc ++ [y]))) else Pv (i + 1) G3)
    (hd : ∀ G, Pv kvs.length G → Qd G) :
    ∃ W : Nat → Nat → Hp → Prop, (∃ m, W 0 m (upd H1 D (.lst []))) ∧ ∀ i m G, W i m G →
      ((Itk d o kvs).stop i G ∧ Qd G) ∨ ((Itk d o kvs).go i G ∧ ∃ Nx : Hp → Prop, (∀ G', Nx G' → ∃ m', m' < m ∧ W (i + 1) m' G') ∧ ∀ x G', (Itk d o kvs).yld i G x G' → g x (wipe σ vs) G' fun σ2 G2 => wipe σ2 vs = wipe σ vs ∧ tt σ2 G2 fun b G3 =>
        if b = true then te σ2 G3 fun y G4 => ∃ acc, G4 D = some (.lst acc) ∧ acc.length < sizeLine ∧ Nx (upd G4 D (.lst (acc ++ [y]))) else Nx G3) := by
  refine ⟨fun i m G => m = kvs.length - i ∧ i ≤ kvs.length ∧ Pv i G, ⟨_, rfl, Nat.zero_le _, h0⟩, ?_⟩
  rintro i m G ⟨rfl, hi, p⟩
  by_cases hlt : i < kvs.length
  · refine .inr ⟨⟨hl i G p, hlt⟩, Pv (i + 1), fun G' p' => ⟨_, by omega, rfl, hlt, p'⟩, ?_⟩
    rintro x G' ⟨rfl, k, v, e, rfl⟩
    exact hs i k v _ e p
  · have e : i = kvs.length := by omega
    subst e
    exact .inl ⟨⟨hl _ G p, Nat.le_refl _⟩, hd G p⟩
end
end Fv
set_option maxRecDepth 100000
set_option maxHeartbeats 1000000
namespace Fv
open PySem PySem.Spec PyProof.Rows L2 RZ
theorem pi_zipAK {X : Cx} {K : PySem.W.Frag} {e e2 : Expr} {ta : TA} {p pos tpos : Pos} {elts : List Expr} {kk : Nat} (eK : X.K = K) (hg : Gl X "zip") (hm : X.mg "zip" = none) (ha : PA X [e, e2] ta)
    (hs : starEach [e, e2] X.env = (false, eval e X.env) :: starEach [e2] X.env := by rfl) (hpl : (backTo pos (starEach [e2] X.env)).any (·.1) = false := by rfl) :
    PI X (.Tuple elts kk tpos) (.Call (.Name "zip" p) [e, e2] [] pos) (iZipA K ta) := by
  subst eK
  exact pi_zipA hg hm ha hs hpl
theorem x_zipA {K : PySem.W.Frag} {σ : L2.St} {H : Hp} {R : It → Hp → Prop} {ts : TA} (h : ts σ H fun vs H1 => ∃ a b xs ys, vs = [.ref a, .ref b] ∧ ((SqL K H1 a xs ∧ SqL K H1 b ys ∧ R (Itz K a b) H1) ∨ (SqT K H1 a xs ∧ SqT K H1 b ys ∧ R (ItzT K a b) H1))) : iZipA K ts σ H R := h
theorem lc_zipT {K : PySem.W.Frag} {a b : Addr} {xs ys : List V} (hxy : xs.length = ys.length) {g : TG} {tt : TT} {te : TE} {vs : List Nat} {σ : L2.St} {H1 : Hp} {D : Addr} {Qd : Hp → Prop} (Pv : Nat → Hp → Prop) (h0 : Pv 0 (upd H1 D (.lst []))) (hl : ∀ i H, i ≤ xs.length → Pv i H → SqT K H a xs ∧ SqT K H b ys)
    (hs : ∀ i x y H T, xs[i]? = some x → ys[i]? = some y → Pv i H → H T = none → g (.ref T) (wipe σ vs) (upd H T (.tup [x, y])) fun σ2 H2 => wipe σ2 vs = wipe σ vs ∧ tt σ2 H2 fun b H3 =>
      if b = true then te σ2 H3 fun y H4 => ∃ acc, H4 D = some (.lst acc) ∧ acc.length < sizeLine ∧ Pv (i + 1) (upd H4 D (.lst (acc ++ [y]))) else Pv (i + 1) H3) (hd : ∀ H, Pv xs.length H → Qd H) :
    ∃ W : Nat → Nat → Hp → Prop, (∃ m, W 0 m (upd H1 D (.lst []))) ∧ ∀ i m H, W i m H → ((ItzT K a b).stop i H ∧ Qd H) ∨ ((ItzT K a b).go i H ∧ ∃ Nx : Hp → Prop, (∀ H', Nx H' → ∃ m', m' < m ∧ W (i + 1) m' H') ∧ ∀ x H', (ItzT K a b).yld i H x H' → g x (wipe σ vs) H' fun σ2 H2 => wipe σ2 vs = wipe σ vs ∧ tt σ2 H2 fun b H3 =>
        if b = true then te σ2 H3 fun y H4 => ∃ acc, H4 D = some (.lst acc) ∧ acc.length < sizeLine ∧ Nx (upd H4 D (.lst (acc ++ [y]))) else Nx H3) := by
  refine ⟨fun i m H => m = xs.length - i ∧ i ≤ xs.length ∧ Pv i H, ⟨_, rfl, Nat.zero_le _, h0⟩, ?_⟩
  rintro i m H ⟨rfl, hi, p⟩
  obtain ⟨q, r⟩ := hl i H hi p
  by_cases hlt : i < xs.length
  · have hlt2 : i < ys.length := by omega
    refine .inr ⟨⟨xs, ys, xs[i], ys[i], q, r, List.getElem?_eq_getElem hlt, List.getElem?_eq_getElem hlt2⟩, Pv (i + 1), fun H' p' => ⟨_, by omega, rfl, hlt, p'⟩, fun x H' y => ?_⟩
    obtain ⟨T, z, u, rfl, hT, rfl, hz, hu⟩ := y
    exact hs i z u H T (hz xs q) (hu ys r) p hT
  · have e : i = xs.length := by omega
    subst e
    exact .inl ⟨⟨xs, ys, q, r, .inl (Nat.le_refl _)⟩, hd H p⟩
/-! words as data -/
def wD : Option Bool → PyData
  | none => .none
  | some b => .bool b
def uD : Option Nat → PyData
  | none => .none
  | some q => .int (Int.ofNat q)
def dw (c : List (Option Bool)) : List PyData := c.map wD
def du (c : List (Option Nat)) : List PyData := c.map uD
def dls (ls : List (List (Option Bool))) : List PyData := ls.map fun r => .tuple (dw r)
theorem dw_lay : ∀ c, PyData.canLayAll0 (dw c) = true
  | [] => rfl
  | a :: l => by
    show (PyData.canLay0 (wD a) && PyData.canLayAll0 (dw l)) = true
    rw [dw_lay l]
    cases a <;> rfl
theorem dw_depth : ∀ c, PyData.depthAll (dw c) = 0
  | [] => rfl
  | a :: l => by
    show max (PyData.depth (wD a)) (PyData.depthAll (dw l)) = 0
    rw [dw_depth l]
    cases a <;> rfl
theorem dw_eqv : ∀ c, PyData.eqvAll (dw c) (dw c) = true
  | [] => by simp [dw, PyData.eqvAll]
  | a :: l => by
    show PyData.eqvAll (wD a :: dw l) (wD a :: dw l) = true
    rw [PyData.eqvAll, dw_eqv l]
    cases a with
    | none => simp [wD, PyData.eqv]
    | some b => cases b <;> simp [wD, PyData.eqv]
theorem du_lay : ∀ c, PyData.canLayAll0 (du c) = true
  | [] => rfl
  | a :: l => by
    show (PyData.canLay0 (uD a) && PyData.canLayAll0 (du l)) = true
    rw [du_lay l]
    cases a <;> rfl
theorem du_depth : ∀ c, PyData.depthAll (du c) = 0
  | [] => rfl
  | a :: l => by
    show max (PyData.depth (uD a)) (PyData.depthAll (du l)) = 0
    rw [du_depth l]
    cases a <;> rfl
theorem du_eqv : ∀ c, PyData.eqvAll (du c) (du c) = true
  | [] => by simp [du, PyData.eqvAll]
  | a :: l => by
    show PyData.eqvAll (uD a :: du l) (uD a :: du l) = true
    rw [PyData.eqvAll, du_eqv l]
    cases a with
    | none => simp [uD, PyData.eqv]
    | some b => simp [uD, PyData.eqv]
theorem dls_lay : ∀ c, PyData.canLayAll0 (dls c) = true
  | [] => rfl
  | a :: l => by
    show (PyData.canLayAll0 (dw a) && PyData.canLayAll0 (dls l)) = true
    rw [dls_lay l, dw_lay]
    rfl
theorem dls_depth : ∀ c, PyData.depthAll (dls c) ≤ 1
  | [] => Nat.zero_le _
  | a :: l => by
    show max (PyData.depthAll (dw a) + 1) (PyData.depthAll (dls l)) ≤ 1
    have := dls_depth l
    rw [dw_depth]
    omega
theorem dls_eqv : ∀ c, PyData.eqvAll (dls c) (dls c) = true
  | [] => by simp [dls, PyData.eqvAll]
  | a :: l => by
    show PyData.eqvAll (.tuple (dw a) :: dls l) (.tuple (dw a) :: dls l) = true
    rw [PyData.eqvAll, dls_eqv l, PyData.eqv, dw_eqv]
    rfl
def wordsPD (us : List (Option Nat)) (ls : List (List (Option Bool))) : PyData := .tuple [.tuple (du us), .tuple (dls ls)]
theorem wordsPD_shaped (us : List (Option Nat)) (ls : List (List (Option Bool))) : SeqAt.shaped (wordsPD us ls) = true := by
  show (PyData.canLayAll0 [.tuple (du us), .tuple (dls ls)] && decide (PyData.depthAll [.tuple (du us), .tuple (dls ls)] + 1 ≤ 64)) = true
  have e1 : PyData.canLayAll0 [.tuple (du us), .tuple (dls ls)] = true := by
    show (PyData.canLayAll0 (du us) && (PyData.canLayAll0 (dls ls) && true)) = true
    rw [du_lay, dls_lay]
    rfl
  have e2 : PyData.depthAll [.tuple (du us), .tuple (dls ls)] + 1 ≤ 64 := by
    show max (PyData.depthAll (du us) + 1) (max (PyData.depthAll (dls ls) + 1) 0) + 1 ≤ 64
    have := dls_depth ls
    rw [du_depth]
    omega
  rw [e1, decide_eq_true e2]
  rfl
theorem wordsPD_eqv (us : List (Option Nat)) (ls : List (List (Option Bool))) : PyData.eqv (wordsPD us ls) (wordsPD us ls) = true := by
  show PyData.eqv (.tuple [.tuple (du us), .tuple (dls ls)]) (.tuple [.tuple (du us), .tuple (dls ls)]) = _
  rw [PyData.eqv, PyData.eqvAll, PyData.eqvAll, PyData.eqvAll, PyData.eqv, PyData.eqv, du_eqv, dls_eqv]
  rfl
theorem dpAll_wds {K : PySem.W.Frag} {H : Hp} : ∀ c : List (Option Bool), DpAll K H (wds c) (dw c)
  | [] => .nil
  | none :: l => .cons .non (dpAll_wds l)
  | some b :: l => .cons (.bl b) (dpAll_wds l)
theorem dpAll_upvs {K : PySem.W.Frag} {H : Hp} : ∀ c : List (Option Nat), DpAll K H (upvs c) (du c)
  | [] => .nil
  | none :: l => .cons .non (dpAll_upvs l)
  | some b :: l => .cons (.int _) (dpAll_upvs l)
theorem apartN_snoc : ∀ {l m : List Nat} (a b : Nat), l.length = m.length → apartN (l ++ [a]) (m ++ [b]) = apartN l m + if a = b then 0 else 1
  | [], [], a, b, _ => by
    show (if a = b then 0 else 1) + 0 = 0 + _
    omega
  | [], _ :: _, _, _, h => by simp at h
  | _ :: _, [], _, _, h => by simp at h
  | x :: l, y :: m, a, b, h => by
    have ih := apartN_snoc (l := l) (m := m) a b (by simpa using h)
    show (if x = y then 0 else 1) + apartN (l ++ [a]) (m ++ [b]) = (if x = y then 0 else 1) + apartN l m + _
    rw [ih]
    omega
theorem apartN_le : ∀ (l m : List Nat) (k : Nat), l.length ≤ k → apartN l m ≤ k
  | [], m, k, _ => by
    cases m <;> exact Nat.zero_le _
  | _ :: _, [], k, _ => Nat.zero_le _
  | x :: l, y :: m, 0, h => absurd h (by rw [List.length_cons]; omega)
  | x :: l, y :: m, k + 1, h => by
    have ih := apartN_le l m k (by rw [List.length_cons] at h; omega)
    show (if x = y then 0 else 1) + apartN l m ≤ k + 1
    split <;> omega
end Fv
set_option maxRecDepth 100000
set_option maxHeartbeats 1000000
namespace Fv
open PySem PySem.Spec L2
def top (i : Nat) : Stmt := PySem.Challenge.pw_foldervotes_k26_whole_costs_and_votes.main.body.getD i (.Pass ⟨0, 0, 0, 0⟩)
abbrev s_VoteError___str__ : Stmt := inClass (top 1) 0
abbrev s_BadTree___init__ : Stmt := inClass (top 2) 0
abbrev s_NoBlock___init__ : Stmt := inClass (top 3) 0
abbrev s_NoPlace___init__ : Stmt := inClass (top 4) 0
abbrev s_Beneath___init__ : Stmt := inClass (top 5) 0
abbrev s_OtherBlocks___init__ : Stmt := inClass (top 6) 0
abbrev s_BadWords___init__ : Stmt := inClass (top 7) 0
abbrev s_is_within : Stmt := top 9
abbrev s_Tree___init__ : Stmt := inClass (top 12) 0
abbrev s_Tree___eq__ : Stmt := inClass (top 12) 1
abbrev s__comes_to_head : Stmt := top 13
abbrev s_is_block : Stmt := top 14
abbrev s_is_place : Stmt := top 15
abbrev s_place_of : Stmt := top 16
abbrev s_parents : Stmt := top 17
abbrev s_beneath : Stmt := top 18
abbrev s_moved : Stmt := top 19
abbrev s_Words___init__ : Stmt := inClass (top 21) 0
abbrev s_Words___eq__ : Stmt := inClass (top 21) 1
abbrev s__is_tuple_of : Stmt := top 22
abbrev s__is_up : Stmt := top 23
abbrev s__is_listing : Stmt := top 24
abbrev s_words_of : Stmt := top 25
abbrev s_words_of_ups : Stmt := top 26
abbrev s_costs : Stmt := top 27
abbrev s_cost : Stmt := top 28
abbrev s_wrong_words : Stmt := top 29
abbrev s_votes : Stmt := top 30
abbrev s__vote : Stmt := top 31
abbrev s__law_tape : Stmt := top 33
abbrev s__law_pick : Stmt := top 34
abbrev s__law_any : Stmt := top 35
abbrev s__law_mixed : Stmt := top 36
abbrev s__law_is_int : Stmt := top 37
abbrev s__law_same : Stmt := top 38
abbrev s__law_hung : Stmt := top 39
abbrev s__law_right_words : Stmt := top 40
abbrev s__law_drawn_words : Stmt := top 41
abbrev s__law_cost : Stmt := top 42
abbrev s__law_all_costs : Stmt := top 43
abbrev s__law_is_beneath : Stmt := top 44
abbrev s__law_moves : Stmt := top 45
abbrev s__law_sum : Stmt := top 46
abbrev s__law_costs_right : Stmt := top 47
abbrev s_law : Stmt := top 48
structure Ad where
  a_VoteError : Addr
  a_BadTree : Addr
  a_NoBlock : Addr
  a_NoPlace : Addr
  a_Beneath : Addr
  a_OtherBlocks : Addr
  a_BadWords : Addr
  a_Tree : Addr
  a_Words : Addr
  t_MOST_BLOCKS : PySem.Tok
structure Bl (Z : Ad) (mg : Str → Option Value) : Prop where
  b_ValueError : mg "ValueError" = none
  b_all : mg "all" = none
  b_bool : mg "bool" = none
  b_enumerate : mg "enumerate" = none
  b_int : mg "int" = none
  b_isinstance : mg "isinstance" = none
  b_len : mg "len" = none
  b_list : mg "list" = none
  b_min : mg "min" = none
  b_range : mg "range" = none
  b_sorted : mg "sorted" = none
  b_str : mg "str" = none
  b_sum : mg "sum" = none
  b_super : mg "super" = none
  b_tuple : mg "tuple" = none
  b_zip : mg "zip" = none
  k_VoteError : mg "VoteError" = some (.ref Z.a_VoteError)
  k_BadTree : mg "BadTree" = some (.ref Z.a_BadTree)
  k_NoBlock : mg "NoBlock" = some (.ref Z.a_NoBlock)
  k_NoPlace : mg "NoPlace" = some (.ref Z.a_NoPlace)
  k_Beneath : mg "Beneath" = some (.ref Z.a_Beneath)
  k_OtherBlocks : mg "OtherBlocks" = some (.ref Z.a_OtherBlocks)
  k_BadWords : mg "BadWords" = some (.ref Z.a_BadWords)
  k_Tree : mg "Tree" = some (.ref Z.a_Tree)
  k_Words : mg "Words" = some (.ref Z.a_Words)
  c_MOST_BLOCKS : mg "MOST_BLOCKS" = some (.int 40 Z.t_MOST_BLOCKS)
end Fv
set_option maxRecDepth 100000
set_option maxHeartbeats 1000000
namespace Fv
open PySem PySem.Spec L2
local macro_rules | `(tactic| walk_at "ne") => `(tactic| first
  | assumption
  | (apply Ne.symm; assumption)
  | exact ne_of_none (by assumption) (by assumption)
  | (apply Ne.symm; exact ne_of_none (by assumption) (by assumption))
  | exact ne_none' (by assumption) (by walk_at "hu")
  | (apply Ne.symm; exact ne_none' (by assumption) (by walk_at "hu")))
local macro_rules | `(tactic| walk_at "hu") => `(tactic| first
  | with_reducible assumption
  | with_reducible exact upd_same
  | ((with_reducible show upd _ _ _ _ = some _); first | with_reducible exact upd_same | (with_reducible exact keepN (by walk_at "hu") (by assumption)) | (with_reducible exact keepM (by walk_at "ne") (by walk_at "hu"))))
local macro_rules | `(tactic| walk_at "hl") => `(tactic| first
  | with_reducible assumption
  | with_reducible exact SqL.of (by assumption)
  | ((with_reducible show SqL _ (upd _ _ _) _ _); first
    | with_reducible exact SqL.of upd_same
    | with_reducible exact keepLN (by walk_at "hl") (by assumption)
    | with_reducible exact keepLM (by walk_at "ne") (by walk_at "hl"))
  | with_reducible exact Same.seq (by assumption) (by walk_at "hl")
  | with_reducible exact But.seq (by assumption) (by walk_at "ne") (by walk_at "hl"))
local macro_rules | `(tactic| walk_at "ht") => `(tactic| first
  | with_reducible assumption
  | with_reducible exact SqT.of (by assumption)
  | ((with_reducible show SqT _ (upd _ _ _) _ _); first
    | with_reducible exact SqT.of upd_same
    | with_reducible exact keepTN (by walk_at "ht") (by assumption)
    | with_reducible exact keepTM (by walk_at "ne") (by walk_at "ht"))
  | with_reducible exact Same.seqT (by assumption) (by walk_at "ht")
  | with_reducible exact But.seqT (by assumption) (by walk_at "ne") (by walk_at "ht"))
local macro_rules | `(tactic| walk_at "sm") => `(tactic| first
  | with_reducible assumption
  | with_reducible exact Same.refl _
  | ((with_reducible show Same _ (upd _ _ _)); first
    | with_reducible exact same_new (by walk_at "sm") (by assumption)
    | with_reducible exact same_mut (by walk_at "sm") (by assumption))
  | ((with_reducible refine same_trans (by assumption) ?_); walk_at "sm"))
local macro_rules | `(tactic| walk_at "bt") => `(tactic| first
  | with_reducible assumption
  | with_reducible exact But.refl _ _
  | with_reducible exact But.of (by assumption)
  | ((with_reducible show But _ _ (upd _ _ _)); first
    | ((with_reducible refine But.mut ?_); walk_at "bt")
    | with_reducible exact But.new (by walk_at "bt") (by assumption)
    | with_reducible exact But.mutF (by walk_at "bt") (by assumption))
  | ((with_reducible refine but_trans (by assumption) ?_); walk_at "bt")
  | ((with_reducible refine but_trans (But.of (by assumption)) ?_); walk_at "bt"))
local macro_rules | `(tactic| walk_at "kn") => `(tactic| first
  | with_reducible assumption
  | exact True.intro
  | with_reducible exact Kn.same (by assumption) (by walk_at "kn")
  | with_reducible exact Kn.same (same_new (Same.refl _) (by assumption)) (by walk_at "kn"))
local macro_rules | `(tactic| walk_at "h1") => `(tactic| first
  | with_reducible refine x_seq ?_
  | with_reducible refine x_next ?_
  | with_reducible refine x_drop ?_
  | with_reducible refine x_ret ?_
  | with_reducible refine x_retN ?_
  | with_reducible refine x_ifs ?_
  | with_reducible refine x_asg ?_
  | with_reducible refine x_gname ?_
  | with_reducible refine x_gsub ?_
  | ((with_reducible show tVar _ _ _ _); with_reducible refine x_var (by with_unfolding_all rfl) ?_)
  | with_reducible refine x_c ?_
  | with_reducible refine x_op ?_
  | with_reducible refine x_un ?_
  | with_reducible refine x_i0 ?_
  | ((with_reducible show rI _ _ (V.int _) (V.int _) _ _); with_reducible refine x_i (by with_unfolding_all (first | assumption | decide | (show (0 : Int) < _; first | assumption | decide | omega) | exact ⟨by first | assumption | decide | omega, by first | assumption | decide | omega⟩ | exact Or.inl ⟨by first | decide | omega, by first | decide | omega⟩ | exact Or.inr ⟨by first | decide | omega, by first | decide | omega⟩)) ?_)
  | with_reducible refine x_u ?_
  | with_reducible refine x_isN0 ?_
  | with_reducible refine x_isN1 ?_
  | with_reducible refine x_isN2 ?_
  | with_reducible refine x_isN3 ?_
  | with_reducible refine x_isN4 ?_
  | with_reducible refine x_notN0 ?_
  | with_reducible refine x_notN1 ?_
  | with_reducible refine x_notN2 ?_
  | with_reducible refine x_notN3 ?_
  | with_reducible refine x_notN4 ?_
  | with_reducible refine x_eqB ?_
  | with_reducible refine x_neB ?_
  | with_reducible refine x_eqS ?_
  | with_reducible refine x_eqI ?_
  | with_reducible refine x_neI ?_
  | ((with_reducible show rEq _ _ _ _); with_reducible refine x_eq (by with_unfolding_all rfl) ?_)
  | ((with_reducible show rNe _ _ _ _); with_reducible refine x_ne (by with_unfolding_all rfl) ?_)
  | ((with_reducible show rIxL _ (V.ref _) (V.int _) _ _); with_reducible refine x_ixL (by walk_at "hl") (by first | assumption | with_unfolding_all exact atI_nat (j := 0) rfl | with_unfolding_all exact atI_nat (j := 1) rfl | with_unfolding_all rfl) ?_)
  | ((with_reducible show rIxT _ (V.ref _) (V.int _) _ _); with_reducible refine x_ixT (by walk_at "ht") (by first | assumption | with_unfolding_all exact atI_nat (j := 0) rfl | with_unfolding_all exact atI_nat (j := 1) rfl | with_unfolding_all rfl) ?_)
  | ((with_reducible show rIx _ (V.ref _) (V.int _) _ _); first
    | with_reducible refine x_ixSL (by walk_at "hl") (by first | assumption | with_unfolding_all exact atI_nat (j := 0) rfl | with_unfolding_all exact atI_nat (j := 1) rfl | with_unfolding_all rfl) ?_
    | with_reducible refine x_ixST (by walk_at "ht") (by first | assumption | with_unfolding_all exact atI_nat (j := 0) rfl | with_unfolding_all exact atI_nat (j := 1) rfl | with_unfolding_all rfl) ?_)
  | ((with_reducible show rSetL (V.ref _) (V.int _) _ _ _); with_reducible refine x_setL (by walk_at "hu") (by first | assumption | with_unfolding_all rfl) ?_)
  | with_reducible refine x_test ?_
  | with_reducible refine x_b ?_
  | with_reducible refine x_isb ?_
  | ((with_reducible show if decide _ = true then _ else _); with_reducible refine x_isdT (by first | with_unfolding_all rfl | with_unfolding_all decide) ?_)
  | ((with_reducible show if decide _ = true then _ else _); with_reducible refine x_isdF (by with_unfolding_all decide) ?_)
  | with_reducible refine x_isi ?_
  | with_reducible refine x_and ?_
  | with_reducible refine x_or ?_
  | with_reducible refine x_not ?_
  | with_reducible refine x_andV ?_
  | with_reducible refine x_orV ?_
  | with_reducible refine x_notV ?_
  | with_reducible refine x_ifx ?_
  | with_reducible refine x_nil ?_
  | with_reducible refine x_cons ?_
  | with_reducible refine x_cb ?_
  | with_reducible refine x_call ?_
  | with_reducible refine x_lst ?_
  | with_reducible refine x_tup ?_
  | with_reducible refine x_sl ?_
  | with_reducible refine x_nopart ?_
  | with_reducible refine x_part ?_
  | ((with_reducible show rSlL _ (V.ref _) _ _ _ _); with_reducible refine x_slL (by walk_at "hl") ?_)
  | with_reducible refine x_listRg1 ?_
  | with_reducible refine x_listRg2 ?_
  | with_reducible refine x_tupRg1 ?_
  | with_reducible refine x_ij ?_
  | ((with_reducible show tyV _ "list" (V.ref _) _ ∧ _); with_reducible refine x_tyL (by walk_at "hl") ?_)
  | with_reducible refine x_bm ?_
  | with_reducible refine x_bm0 ?_
  | with_reducible refine x_fldQ ?_
  | with_reducible refine x_par ?_
  | with_reducible refine x_par2 ?_
  | with_reducible refine x_chain ?_
  | ((with_reducible show tAug _ _ _ _ _ _); with_reducible refine x_aug (by with_unfolding_all rfl) ?_)
  | with_reducible refine x_ipI ?_
  | with_reducible refine x_for ?_
  | with_reducible refine x_while ?_
  | with_reducible refine x_ent ?_
  | with_reducible refine x_enl ?_
  | with_reducible refine x_isBk ?_
  | with_reducible refine x_notBk ?_
  | with_reducible refine x_mko ?_
  | with_reducible refine x_sfld ?_
  | with_reducible refine x_ost ?_
  | ((with_reducible show gTup _ _ _ (V.ref _) _ _ _); with_reducible refine x_gtup (by walk_at "ht") (by with_unfolding_all rfl) ?_)
  | with_reducible refine x_gcons ?_
  | with_reducible refine x_gnil ?_
  | with_reducible refine x_lc ?_
  | with_reducible refine x_lc2 ?_
  | with_reducible refine x_ilist ?_
  | with_reducible refine x_itup ?_
  | with_reducible refine x_rng1 ?_
  | with_reducible refine x_rng2v ?_
  | with_reducible refine x_irngV ?_
  | with_reducible refine x_star ?_
  | with_reducible refine x_rng2 ?_
  | with_reducible refine x_yes ?_
  | ((with_reducible show rLen _ [V.ref _] _ _); with_reducible refine x_lenL (by walk_at "hl") ?_)
  | ((with_reducible show rLen _ [V.ref _] _ _); with_reducible refine x_lenT (by walk_at "ht") ?_)
  | ((with_reducible show rListOf _ [V.ref _] _ _); with_reducible refine x_listL (by walk_at "hl") ?_)
  | ((with_reducible show rListOf _ [V.ref _] _ _); with_reducible refine x_listT (by walk_at "ht") ?_)
  | ((with_reducible show rTupOf _ [V.ref _] _ _); with_reducible refine x_tupL (by walk_at "hl") ?_)
  | ((with_reducible show rTupOf _ [V.ref _] _ _); with_reducible refine x_tupT (by walk_at "ht") ?_)
  | ((with_reducible show List.length _ ≤ sizeLine ∧ _); with_reducible refine And.intro (szLe (by with_unfolding_all (simp only [List.length_cons, List.length_nil]; decide))) ?_)
  | with_reducible refine x_int1 ?_
  | with_reducible refine x_abs ?_
  | with_reducible refine isi_non_int ?_
  | with_reducible refine isi_bl_int ?_
  | with_reducible refine isi_int_int ?_
  | with_reducible refine isi_str_int ?_
  | ((with_reducible show rIsi _ [V.ref _, V.ty "int"] _ _); first | with_reducible refine isi_lst_int (by walk_at "hu") ?_ | with_reducible refine isi_tup_int (by walk_at "hu") ?_ | with_reducible refine isi_dK_int (by walk_at "hu") ?_)
  | with_reducible refine isi_non_bool ?_
  | with_reducible refine isi_bl_bool ?_
  | with_reducible refine isi_int_bool ?_
  | with_reducible refine isi_str_bool ?_
  | ((with_reducible show rIsi _ [V.ref _, V.ty "bool"] _ _); first | with_reducible refine isi_lst_bool (by walk_at "hu") ?_ | with_reducible refine isi_tup_bool (by walk_at "hu") ?_ | with_reducible refine isi_dK_bool (by walk_at "hu") ?_)
  | with_reducible refine isi_non_tuple ?_
  | with_reducible refine isi_bl_tuple ?_
  | with_reducible refine isi_int_tuple ?_
  | with_reducible refine isi_str_tuple ?_
  | ((with_reducible show rIsi _ [V.ref _, V.ty "tuple"] _ _); first | with_reducible refine isi_lst_tuple (by walk_at "hu") ?_ | with_reducible refine isi_tup_tuple (by walk_at "hu") ?_ | with_reducible refine isi_dK_tuple (by walk_at "hu") ?_)
  | with_reducible refine isi_non_list ?_
  | with_reducible refine isi_bl_list ?_
  | with_reducible refine isi_int_list ?_
  | with_reducible refine isi_str_list ?_
  | ((with_reducible show rIsi _ [V.ref _, V.ty "list"] _ _); first | with_reducible refine isi_lst_list (by walk_at "hu") ?_ | with_reducible refine isi_tup_list (by walk_at "hu") ?_ | with_reducible refine isi_dK_list (by walk_at "hu") ?_)
  | with_reducible refine isi_non_dict ?_
  | with_reducible refine isi_bl_dict ?_
  | with_reducible refine isi_int_dict ?_
  | with_reducible refine isi_str_dict ?_
  | ((with_reducible show rIsi _ [V.ref _, V.ty "dict"] _ _); first | with_reducible refine isi_lst_dict (by walk_at "hu") ?_ | with_reducible refine isi_tup_dict (by walk_at "hu") ?_ | with_reducible refine isi_dK_dict (by walk_at "hu") ?_)
  | with_reducible refine isi_non_str ?_
  | with_reducible refine isi_bl_str ?_
  | with_reducible refine isi_int_str ?_
  | with_reducible refine isi_str_str ?_
  | ((with_reducible show rIsi _ [V.ref _, V.ty "str"] _ _); first | with_reducible refine isi_lst_str (by walk_at "hu") ?_ | with_reducible refine isi_tup_str (by walk_at "hu") ?_ | with_reducible refine isi_dK_str (by walk_at "hu") ?_)
  | ((with_reducible show rIsi _ [_, V.ty "int"] _ _); with_reducible refine x_isInt (by walk_at "kn") ?_)
  | ((with_reducible show rIsi _ [_, V.ty "bool"] _ _); with_reducible refine x_isBl (by walk_at "kn") ?_)
  | with_reducible refine x_nF ?_
  | with_reducible refine x_nT ?_
  | with_reducible refine iteT ?_
  | with_reducible refine iteF ?_)
local macro_rules | `(tactic| walk_at "hs") => `(tactic| repeat (walk_at "h1"; try dsimp only [Bool.not_true, Bool.not_false]))
local macro_rules | `(tactic| walk_at "h0") => `(tactic| ((try dsimp only [cxOf, L2.start, List.map_cons, List.map_nil, List.length_cons, List.length_nil, List.replicate, List.cons_append, List.nil_append, Nat.reduceAdd, Nat.reduceSub]); walk_at "hs"))

theorem sc__law_pick : FnScope ["_law_tape_here", "_law_many", "_law_digit", "_law_cell", "_law_mixed_here"] ["_law_tape_here", "_law_many"] (defScope s__law_pick) := ⟨rfl, rfl, rfl, by decide +kernel, rfl, by decide +kernel, by decide +kernel⟩
/-- the hand at p: its list, where it is read, what is left of a great number, the mix, how often it was turned; F: what others own, and it does not -/
def PoolAt (H : Hp) (p : Addr) (F : Addr → Prop) : Prop := (∃ (g : Addr) (gs : List Int) (i c m n : Int), H p = some (.lst [.ref g, .int i, .int c, .int m, .int n]) ∧ H g = some (.lst (gs.map V.int)) ∧ 0 ≤ i ∧ g ≠ p ∧ ¬ F g ∧ ¬ F p) ∧ ∀ a, F a → ∃ o, H a = some o
def spDraw : Sp := fun vs H Q _ => ∃ (p : Addr) (m : Int) (F : Addr → Prop), vs = [.ref p, .int m] ∧ PoolAt H p F ∧ 0 < m ∧ m < 1073741824 ∧ ∀ (d : Int) H', 0 ≤ d → d < m → But p H H' → PoolAt H' p F → Q (.int d) H'
theorem prot {H H' : Hp} {p : Addr} {F : Addr → Prop} (b : But p H H') (h : ∀ a, F a → ∃ o, H a = some o) (n : ¬ F p) : ∀ a, F a → ∃ o, H' a = some o := fun a ha => by
  obtain ⟨o, e⟩ := h a ha
  exact ⟨o, b a o (fun z => n (z ▸ ha)) e⟩
section
variable {P : Program} {w : World} {K : PySem.W.Frag} {mg : Str → Option Value} {base : Heap} {Z : Ad}
theorem ok_tpick {f : Addr} {fd : FuncData} (F : Fun K "_law_pick" "_law_pick" s__law_pick f fd) (B : Bl Z mg) : FnOk P w K mg base CX0 1 f fd ["_law_tape_here", "_law_many"] spDraw := by
  refine F.ok sc__law_pick (fun vs H Q E h => ?_) (fun cdv A outer s H vs Q E hr h => ?_)
  · obtain ⟨p, m, F, rfl, _⟩ := h
    rfl
  · obtain ⟨p, m, Fo, rfl, ⟨⟨g, gs, i, c, x, n, hp, hg, i0, ng, fg, fp⟩, hF⟩, m0, m1, q⟩ := h
    refine ⟨_, (pss_cons (ps_if (pt_cmpR op_gt (pe_ix (ix_listK (K := K) rfl) (pv 0) pe_int (fun _ _ => rfl)) pe_int (nomark _)) (pss_cons (ps_set (i := 2) sc__law_pick.nd rfl (Or.inl rfl) (pe_op op_mod (pe_callTy call_int (by rfl) B.b_int (by decide +kernel) (pa_cons (pe_ix (ix_listK (K := K) rfl) (pv 0) pe_int (fun _ _ => rfl)) pa_nil)) (pv 1)))
 (pss_cons (ps_asg (pe_op op_fdiv (pe_ix (ix_listK (K := K) rfl) (pv 0) pe_int (fun _ _ => rfl)) (pv 1)) (pg_sub (pv 0) pe_int set_list))
 (pss_one (ps_ret (pv 2))))) pss_nil)
 (pss_cons (ps_asg (pe_op op_add (pe_ix (ix_listK (K := K) rfl) (pv 0) pe_int (fun _ _ => rfl)) pe_int) (pg_sub (pv 0) pe_int set_list))
 (pss_cons (ps_set (i := 3) sc__law_pick.nd rfl (Or.inl rfl) pe_int)
 (C8.pss_cut (ps_if (pt_cmpR op_lt (pe_ix (ix_listK (K := K) rfl) (pv 0) pe_int (fun _ _ => rfl)) (pe_callB (call_lenK (K := K) rfl) (by rfl) B.b_len PySem.boot_len (pa_cons (pe_ix (ix_listK (K := K) rfl) (pv 0) pe_int (fun _ _ => rfl)) pa_nil)) (nomark _)) (pss_cons (ps_set (i := 3) sc__law_pick.nd rfl (Or.inl rfl) (pe_ix (ix_listK (K := K) rfl) (pe_ix (ix_listK (K := K) rfl) (pv 0) pe_int (fun _ _ => rfl)) (pe_ix (ix_listK (K := K) rfl) (pv 0) pe_int (fun _ _ => rfl)) (fun _ _ => rfl)))
 (pss_one (ps_asg (pe_op op_add (pe_ix (ix_listK (K := K) rfl) (pv 0) pe_int (fun _ _ => rfl)) pe_int) (pg_sub (pv 0) pe_int set_list)))) pss_nil)
 (pss_cons (ps_if (pt_cmpR op_ge (pv 3) (pe_op op_pow pe_int pe_int) (nomark _)) (pss_cons (ps_asg (pe_op op_fdiv (pv 3) (pv 1)) (pg_sub (pv 0) pe_int set_list))
 (pss_one (ps_ret (pe_op op_mod (pe_callTy call_int (by rfl) B.b_int (by decide +kernel) (pa_cons (pv 3) pa_nil)) (pv 1))))) pss_nil)
 (pss_cons (ps_set (i := 4) sc__law_pick.nd rfl (Or.inl rfl) (pe_callTy call_int (by rfl) B.b_int (by decide +kernel) (pa_cons (pe_op op_add (pe_op op_mul (pe_ix (ix_listK (K := K) rfl) (pv 0) pe_int (fun _ _ => rfl)) pe_int) (pe_op op_mul (pe_ix (ix_listK (K := K) rfl) (pv 0) pe_int (fun _ _ => rfl)) pe_int)) pa_nil)))
 (pss_cons (ps_set (i := 4) sc__law_pick.nd rfl (Or.inl rfl) (pe_op op_mod (pe_callTy call_int (by rfl) B.b_int (by decide +kernel) (pa_cons (pe_op op_add (pv 4) (pe_op op_mod (pe_callTy call_int (by rfl) B.b_int (by decide +kernel) (pa_cons (pv 3) pa_nil)) pe_int)) pa_nil)) pe_int))
 (pss_cons (ps_set (i := 4) sc__law_pick.nd rfl (Or.inl rfl) (pe_op op_mod (pe_callTy call_int (by rfl) B.b_int (by decide +kernel) (pa_cons (pe_op op_mul (pv 4) (pe_op op_add (pe_op op_fdiv (pv 4) pe_int) pe_int)) pa_nil)) pe_int))
 (pss_cons (ps_asg (pv 4) (pg_sub (pv 0) pe_int set_list))
 (pss_one (ps_ret (pe_op op_mod (pe_callTy call_int (by rfl) B.b_int (by decide +kernel) (pa_cons (pe_op op_fdiv (pv 4) pe_int) pa_nil)) (pv 1))))))))))))), ?_⟩
    walk_at "h0"
    refine x_isd (fun c1 => ?_) (fun c1 => ?_)
    · walk_at "hs"
      exact q _ _ (Int.emod_nonneg _ (by omega)) (Int.emod_lt_of_pos _ m0) (by walk_at "bt") ⟨⟨g, gs, _, _, _, n, upd_same, by walk_at "hu", i0, ng, fg, fp⟩, prot (But.mut (But.refl _ _)) hF fp⟩
    · walk_at "hs"
      refine ⟨fun σ' H' => ∃ (k : Int), σ' = [some (.ref p), some (.int m), none, some (.int k), none] ∧ But p H H' ∧ PoolAt H' p Fo, ?_, ?_⟩
      · walk_at "hs"
        refine x_isd (fun c2 => ?_) (fun c2 => ?_)
        · obtain ⟨k, rfl⟩ := Int.eq_ofNat_of_zero_le i0
          have hk : k < gs.length := by
            rw [List.length_map] at c2
            omega
          have ag : atI (gs.map V.int) (k : Int) = some (.int gs[k]) := atI_nat (by rw [List.getElem?_map, List.getElem?_eq_getElem hk]; rfl)
          walk_at "hs"
          exact ⟨_, rfl, by walk_at "bt", ⟨g, gs, _, _, _, _, upd_same, by walk_at "hu", by omega, ng, fg, fp⟩, prot (by walk_at "bt") hF fp⟩
        · walk_at "hs"
          exact ⟨_, rfl, by walk_at "bt", ⟨g, gs, _, _, _, _, upd_same, by walk_at "hu", i0, ng, fg, fp⟩, prot (by walk_at "bt") hF fp⟩
      · rintro σ' H1 ⟨k, rfl, b1, ⟨g, gs, i, c, x, n, hp, hg, i0, ng, fg, fp⟩, hF⟩
        walk_at "hs"
        refine x_isd (fun c1 => ?_) (fun c1 => ?_)
        · walk_at "hs"
          exact q _ _ (Int.emod_nonneg _ (by omega)) (Int.emod_lt_of_pos _ m0) (by walk_at "bt") ⟨⟨g, gs, _, _, _, n, upd_same, by walk_at "hu", i0, ng, fg, fp⟩, prot (But.mut (But.refl _ _)) hF fp⟩
        · walk_at "hs"
          exact q _ _ (Int.emod_nonneg _ (by omega)) (Int.emod_lt_of_pos _ m0) (by walk_at "bt") ⟨⟨g, gs, _, _, _, _, upd_same, by walk_at "hu", i0, ng, fg, fp⟩, prot (But.mut (But.refl _ _)) hF fp⟩
end
set_option maxRecDepth 100000
set_option maxHeartbeats 1000000
open PySem PySem.Spec L2


theorem sc__law_tape : FnScope ["_law_script"] ["_law_script"] (defScope s__law_tape) := ⟨rfl, rfl, rfl, by decide +kernel, rfl, by decide +kernel, by decide +kernel⟩
section
variable {P : Program} {w : World} {K : PySem.W.Frag} {mg : Str → Option Value} {base : Heap} {Z : Ad}

theorem PoolAt.same {H H' : Hp} {p : Addr} {F : Addr → Prop} (s : Same H H') (h : PoolAt H p F) : PoolAt H' p F := by
  obtain ⟨⟨g, gs, i, c, x, n, hp, hg, r⟩, hF⟩ := h
  exact ⟨⟨g, gs, i, c, x, n, s _ _ hp, s _ _ hg, r⟩, fun a ha => by
    obtain ⟨o, e⟩ := hF a ha
    exact ⟨o, s _ _ e⟩⟩
theorem PoolAt.ne {H : Hp} {p q : Addr} {F : Addr → Prop} (h : PoolAt H p F) (hq : H q = none) : q ≠ p := by
  obtain ⟨⟨g, gs, i, c, x, n, hp, _⟩, _⟩ := h
  exact ne_none' hq hp
theorem PoolAt.neF {H : Hp} {p q : Addr} {F : Addr → Prop} (h : PoolAt H p F) (hq : F q) : q ≠ p := by
  obtain ⟨⟨g, gs, i, c, x, n, hp, hg, i0, ng, fg, fp⟩, _⟩ := h
  exact fun e => fp (e ▸ hq)
theorem PoolAt.newH {H : Hp} {p q : Addr} {o : HO} {F : Addr → Prop} (h : PoolAt H p F) (hq : H q = none) : PoolAt (upd H q o) p F := h.same (same_new (Same.refl H) hq)
/-- a new object, owned by another -/
theorem PoolAt.own {H : Hp} {p q : Addr} {o : HO} {F : Addr → Prop} (h : PoolAt H p F) (hq : H q = none) : PoolAt (upd H q o) p (fun a => a = q ∨ F a) := by
  obtain ⟨⟨g, gs, i, c, x, n, hp, hg, i0, ng, fg, fp⟩, hF⟩ := h
  refine ⟨⟨g, gs, i, c, x, n, keepN hp hq, keepN hg hq, i0, ng, fun e => ?_, fun e => ?_⟩, fun a ha => ?_⟩
  · exact e.elim (ne_of_none hg hq) fg
  · exact e.elim (ne_of_none hp hq) fp
  · rcases ha with rfl | ha
    · exact ⟨o, upd_same⟩
    · obtain ⟨u, e⟩ := hF a ha
      exact ⟨u, keepN e hq⟩
theorem PoolAt.mut {H : Hp} {p q : Addr} {o : HO} {F : Addr → Prop} (h : PoolAt H p F) (hq : F q) : PoolAt (upd H q o) p F := by
  obtain ⟨⟨g, gs, i, c, x, n, hp, hg, i0, ng, fg, fp⟩, hF⟩ := h
  refine ⟨⟨g, gs, i, c, x, n, keepM (fun e => fp (e ▸ hq)) hp, keepM (fun e => fg (e ▸ hq)) hg, i0, ng, fg, fp⟩, fun a ha => ?_⟩
  by_cases e : a = q
  · exact ⟨o, by rw [e, upd_same]⟩
  · obtain ⟨u, hu⟩ := hF a ha
    exact ⟨u, keepM e hu⟩
theorem PoolAt.weak {H : Hp} {p : Addr} {F G : Addr → Prop} (h : PoolAt H p F) (w : ∀ a, G a → F a) : PoolAt H p G := by
  obtain ⟨⟨g, gs, i, c, x, n, hp, hg, i0, ng, fg, fp⟩, hF⟩ := h
  exact ⟨⟨g, gs, i, c, x, n, hp, hg, i0, ng, fun e => fg (w _ e), fun e => fp (w _ e)⟩, fun a ha => hF a (w a ha)⟩
def spPool (K : PySem.W.Frag) : Sp := fun vs H Q _ => ∃ (a : Addr) (ns : List Int), vs = [.ref a] ∧ SqL K H a (ns.map V.int) ∧ ns.length ≤ 63 ∧ ∀ p H', Same H H' → H p = none → PoolAt H' p (fun _ => False) → Q (.ref p) H'
theorem ok_tape {f : Addr} {fd : FuncData} (F : Fun K "_law_tape" "_law_tape" s__law_tape f fd) (B : Bl Z mg) : FnOk P w K mg base CX0 1 f fd ["_law_script"] (spPool K) := by
  refine F.ok sc__law_tape (fun vs H Q E h => ?_) (fun cdv A outer s H vs Q E hr h => ?_)
  · obtain ⟨a, ns, rfl, _⟩ := h
    rfl
  · obtain ⟨a, ns, rfl, hS, hl, q⟩ := h
    refine ⟨_, (pss_one (ps_ret (pe_lst (pa_cons (pe_callTy (call_lstK (K := K) rfl) (by rfl) B.b_list (by decide +kernel) (pa_cons (pv 0) pa_nil)) (pa_cons pe_int (pa_cons pe_int (pa_cons pe_int (pa_cons pe_int pa_nil)))))))), ?_⟩
    walk_at "h0"
    intro D hD
    walk_at "hs"
    intro p hp
    exact q p _ (by walk_at "sm") (Same.free (H' := upd H D _) (same_new (Same.refl _) hD) hp) ⟨⟨D, ns, _, _, _, _, upd_same, by walk_at "hu", by decide, by walk_at "ne", fun e => e, fun e => e⟩, fun a e => e.elim⟩
def spAny (K : PySem.W.Frag) : Sp := fun vs H Q _ => ∃ (p t : Addr) (xs : List V) (F : Addr → Prop), vs = [.ref p, .ref t] ∧ PoolAt H p F ∧ SqL K H t xs ∧ t ≠ p ∧ 0 < xs.length ∧ xs.length ≤ 1000 ∧ ∀ x H', x ∈ xs → But p H H' → PoolAt H' p F → Q x H'
abbrev spPick (K : PySem.W.Frag) : Sp := spAny K
end
set_option maxRecDepth 100000
set_option maxHeartbeats 1000000
open PySem PySem.Spec L2


theorem sc_is_within : FnScope ["least", "most", "thing"] ["least", "most", "thing"] (defScope s_is_within) := ⟨rfl, rfl, rfl, by decide +kernel, rfl, by decide +kernel, by decide +kernel⟩
section
variable {P : Program} {w : World} {K : PySem.W.Frag} {mg : Str → Option Value} {base : Heap} {Z : Ad}

def spNum (hi : Nat) : Sp := fun vs H Q _ => ∃ (x : V) (lo hi : Int), vs = [x, .int lo, .int hi] ∧ Kn H x ∧ Q (.bl (numV lo hi x)) H
def spWithin : Sp := fun vs H Q _ => ∃ (x : V) (lo hi : Int), vs = [.int lo, .int hi, x] ∧ Kn H x ∧ Q (.bl (numV lo hi x)) H
theorem ok_within {f : Addr} {fd : FuncData} (F : Fun K "is_within" "is_within" s_is_within f fd) (B : Bl Z mg) : FnOk P w K mg base CX0 1 f fd ["least", "most", "thing"] spWithin := by
  refine F.ok sc_is_within (fun vs H Q E h => ?_) (fun cdv A outer s H vs Q E hr h => ?_)
  · obtain ⟨x, lo, hi, rfl, _⟩ := h
    rfl
  · obtain ⟨x, lo, hi, rfl, hk, q⟩ := h
    refine ⟨_, (pss_cons (ps_if (PW.pt (pw_or (pt_not (pt_val (pe_callB (call_isiK' (K := K) rfl) (by rfl) B.b_isinstance (by decide +kernel) (pa_cons (pv 2) (pa_cons (pe_bltn (v := .ty "int") (by rfl) B.b_int (by decide +kernel) rfl) pa_nil))))) (pw_or1 (pt_val (pe_callB (call_isiK' (K := K) rfl) (by rfl) B.b_isinstance (by decide +kernel) (pa_cons (pv 2) (pa_cons (pe_bltn (v := .ty "bool") (by rfl) B.b_bool (by decide +kernel) rfl) pa_nil))))))) (pss_one (ps_ret pe_bl)) pss_nil)
 (pss_one (ps_ret (pe_chain op_le op_le (pv 0) (pv 2) (pv 1))))), ?_⟩
    walk_at "h0"
    cases x with
    | bl b =>
      walk_at "hs"
      refine iteF ?_
      walk_at "hs"
      exact q
    | int i =>
      refine iteF ?_
      walk_at "hs"
      refine x_isd (fun c => ?_) (fun c => ?_)
      · walk_at "hs"
        have e : numV lo hi (.int i) = decide (i ≤ hi) := numT c
        rw [← e]
        exact q
      · have e : numV lo hi (.int i) = false := numF c
        rw [e] at q
        exact q
    | non => exact iteT (iteT q)
    | str s => exact iteT (iteT q)
    | ref a => exact iteT (iteT q)
    | _ => exact hk.elim
end
set_option maxRecDepth 100000
set_option maxHeartbeats 1000000
open PySem PySem.Spec L2


theorem sc__law_any : FnScope ["_law_tape_here", "_law_some"] ["_law_tape_here", "_law_some"] (defScope s__law_any) := ⟨rfl, rfl, rfl, by decide +kernel, rfl, by decide +kernel, by decide +kernel⟩
theorem sc__law_mixed : FnScope ["_law_tape_here", "_law_some", "_law_left", "_law_got", "_law_turn"] ["_law_tape_here", "_law_some"] (defScope s__law_mixed) := ⟨rfl, rfl, rfl, by decide +kernel, rfl, by decide +kernel, by decide +kernel⟩
theorem sc__law_hung : FnScope ["_law_tape_here", "_law_many", "_law_order", "_law_got", "_law_at", "_law_block"] ["_law_tape_here", "_law_many"] (defScope s__law_hung) := ⟨rfl, rfl, rfl, by decide +kernel, rfl, by decide +kernel, by decide +kernel⟩
section
variable {P : Program} {w : World} {K : PySem.W.Frag} {mg : Str → Option Value} {base : Heap} {Z : Ad}
theorem ok_any {f : Addr} {fd : FuncData} (F : Fun K "_law_any" "_law_any" s__law_any f fd) (B : Bl Z mg) {f__law_pick : Addr} {fd__law_pick : FuncData} (C__law_pick : Cal K mg "_law_pick" f__law_pick fd__law_pick ["_law_tape_here", "_law_many"]) (G__law_pick : FnOk P w K mg base CX0 1 f__law_pick fd__law_pick ["_law_tape_here", "_law_many"] spDraw) : FnOk P w K mg base CX0 2 f fd ["_law_tape_here", "_law_some"] (spAny K) := by
  refine F.ok sc__law_any (fun vs H Q E h => ?_) (fun cdv A outer s H vs Q E hr h => ?_)
  · obtain ⟨p, t, xs, Fo, rfl, _⟩ := h
    rfl
  · obtain ⟨p, t, xs, Fo, rfl, hp, ht, nt, h0, h1, q⟩ := h
    refine ⟨_, (pss_one (ps_ret (pe_ix (ix_listK (K := K) rfl) (pv 1) (pe_call G__law_pick (hr.mono (by first | decide | omega)) (by rfl) C__law_pick.g C__law_pick.k C__law_pick.b .nil pass0 (pa_cons (pv 0) (pa_cons (pe_callB (call_lenK (K := K) rfl) (by rfl) B.b_len PySem.boot_len (pa_cons (pv 1) pa_nil)) pa_nil))) (fun _ _ => rfl)))), ?_⟩
    walk_at "h0"
    refine ⟨p, _, Fo, rfl, hp, by omega, by omega, fun d H1 d0 d1 b1 p1 => ?_⟩
    obtain ⟨v, hv, hm⟩ := at_lt (xs := xs) d0 d1
    walk_at "hs"
    exact q _ _ hm b1 p1
def spMixed (K : PySem.W.Frag) : Sp := fun vs H Q _ => ∃ (p t : Addr) (n : Nat) (F : Addr → Prop), vs = [.ref p, .ref t] ∧ PoolAt H p F ∧ SqL K H t (nats (List.range' 1 n)) ∧ t ≠ p ∧ 1 ≤ n ∧ n ≤ 40 ∧ ∀ (D : Addr) (ms : List Nat) H', ms.Perm (List.range' 1 n) → But p H H' → PoolAt H' p F → H D = none → H' D = some (.lst (nats ms)) → Q (.ref D) H'
theorem ok_mixed {f : Addr} {fd : FuncData} (F : Fun K "_law_mixed" "_law_mixed" s__law_mixed f fd) (B : Bl Z mg) {f__law_pick : Addr} {fd__law_pick : FuncData} (C__law_pick : Cal K mg "_law_pick" f__law_pick fd__law_pick ["_law_tape_here", "_law_many"]) (G__law_pick : FnOk P w K mg base CX0 1 f__law_pick fd__law_pick ["_law_tape_here", "_law_many"] spDraw) : FnOk P w K mg base CX0 2 f fd ["_law_tape_here", "_law_some"] (spMixed K) := by
  refine F.ok sc__law_mixed (fun vs H Q E h => ?_) (fun cdv A outer s H vs Q E hr h => ?_)
  · obtain ⟨p, t, n, Fo, rfl, _⟩ := h
    rfl
  · obtain ⟨p, t, n, Fo, rfl, hp, ht, nt, n1, n2, q⟩ := h
    refine ⟨_, (pss_cons (ps_set (i := 2) sc__law_mixed.nd rfl (Or.inl rfl) (pe_callTy (call_lstK (K := K) rfl) (by rfl) B.b_list (by decide +kernel) (pa_cons (pv 1) pa_nil)))
 (pss_cons (ps_set (i := 3) sc__law_mixed.nd rfl (Or.inl rfl) (pe_lst pa_nil))
 (pss_cons (ps_for PassesOwn.never rfl (pi_range1 rfl B.b_range (pa_cons (pe_callB (call_lenK (K := K) rfl) (by rfl) B.b_len PySem.boot_len (pa_cons (pv 1) pa_nil)) pa_nil)) (pg_name (i := 4) sc__law_mixed.nd rfl (Or.inl rfl)) (pss_one (ps_expr (pe_bmK (K := K) rfl PySem.F.plainAttrs_list PySem.F.slot_list_append PySem.F.type_list_append mt_append (pv 3) (pa_cons (pe_bmK (K := K) rfl PySem.F.plainAttrs_list PySem.F.slot_list_pop PySem.F.type_list_pop mt_popAt (pv 2) (pa_cons (pe_call G__law_pick (hr.mono (by first | decide | omega)) (by rfl) C__law_pick.g C__law_pick.k C__law_pick.b .nil pass0 (pa_cons (pv 0) (pa_cons (pe_callB (call_lenK (K := K) rfl) (by rfl) B.b_len PySem.boot_len (pa_cons (pv 2) pa_nil)) pa_nil))) pa_nil)) pa_nil)))))
 (pss_one (ps_ret (pv 3)))))), ?_⟩
    walk_at "h0"
    intro L hL
    walk_at "hs"
    intro D hD
    have nD : H D = none := Same.free (H' := upd H L _) (same_new (Same.refl _) hL) hD
    have nLD : L ≠ D := ne_of_none upd_same hD
    walk_at "hs"
    rw [nats_length, List.length_range']
    refine ⟨n, rfl, by omega, by omega, ?_⟩
    refine lp_range (lo := 0) (n := Int.toNat n) (fun i σ' H' => (∃ x4, σ' = [some (.ref p), some (.ref t), some (.ref L), some (.ref D), x4]) ∧ ∃ ls ms : List Nat, (ms ++ ls).Perm (List.range' 1 n) ∧ ms.length = i ∧ But p H H' ∧ PoolAt H' p (fun a => a = D ∨ a = L ∨ Fo a) ∧ H' L = some (.lst (nats ls)) ∧ H' D = some (.lst (nats ms)))
      ⟨⟨_, rfl⟩, List.range' 1 n, [], List.Perm.refl _, rfl, by walk_at "bt", (hp.own hL).own hD, by walk_at "hu", upd_same⟩ ?_ ?_
    · rintro i σ' H' hi ⟨⟨x4, rfl⟩, ls, ms, hpm, hm, b1, p1, eL, eD⟩
      have hlen : ms.length + ls.length = n := by rw [← List.length_append, hpm.length_eq, List.length_range']
      walk_at "hs"
      refine ⟨p, _, _, rfl, p1, by rw [nats_length]; omega, by rw [nats_length]; omega, fun d H2 d0 d1 b2 p2 => ?_⟩
      rw [nats_length] at d1
      obtain ⟨k, rfl⟩ := Int.eq_ofNat_of_zero_le d0
      have hk : k < ls.length := by omega
      have eL2 := b2 _ _ (p1.neF (.inr (.inl rfl))) eL
      have eD2 := b2 _ _ (p1.neF (.inl rfl)) eD
      walk_at "hs"
      refine x_popAt eL2 (by omega) (by omega) (ixN_nat (by rw [nats_length]; exact hk)) (nats_get (List.getElem?_eq_getElem hk)) ?_
      walk_at "hs"
      refine x_append (keepM (Ne.symm nLD) eD2) (by rw [nats_length]; exact szLt (by omega)) ?_
      walk_at "hs"
      refine ⟨⟨_, rfl⟩, ls.eraseIdx k, ms ++ [ls[k]], ?_, by rw [List.length_append, hm]; rfl, ?_, (p2.mut (.inr (.inl rfl))).mut (.inl rfl), ?_, ?_⟩
      · rw [List.append_assoc]
        exact ((perm_erase (List.getElem?_eq_getElem hk)).append_left ms).trans hpm
      · exact ((b1.trans b2).mutF hL).mutF nD
      · rw [upd_ne nLD, upd_same, nats_erase]
      · rw [upd_same, nats_append]
        rfl
    · rintro σ' H' ⟨⟨x4, rfl⟩, ls, ms, hpm, hm, b1, p1, eL, eD⟩
      have hlen : ms.length + ls.length = n := by rw [← List.length_append, hpm.length_eq, List.length_range']
      have e : ls = [] := List.length_eq_zero_iff.mp (by omega)
      rw [e, List.append_nil] at hpm
      walk_at "hs"
      exact q D ms H' hpm b1 (p1.weak fun a h => .inr (.inr h)) nD eD
def spHung : Sp := fun vs H Q _ => ∃ (p : Addr) (n : Nat) (F : Addr → Prop), vs = [.ref p, .int n] ∧ PoolAt H p F ∧ 1 ≤ n ∧ n ≤ 40 ∧ ∀ (D : Addr) (hs : List Nat) H', IsTree hs → hs.length = n → But p H H' → PoolAt H' p F → H D = none → H' D = some (.tup (nats hs)) → Q (.ref D) H'
theorem ok_hung {f : Addr} {fd : FuncData} (F : Fun K "_law_hung" "_law_hung" s__law_hung f fd) (B : Bl Z mg) {f__law_any : Addr} {fd__law_any : FuncData} (C__law_any : Cal K mg "_law_any" f__law_any fd__law_any ["_law_tape_here", "_law_some"]) (G__law_any : FnOk P w K mg base CX0 2 f__law_any fd__law_any ["_law_tape_here", "_law_some"] (spAny K)) {f__law_mixed : Addr} {fd__law_mixed : FuncData} (C__law_mixed : Cal K mg "_law_mixed" f__law_mixed fd__law_mixed ["_law_tape_here", "_law_some"]) (G__law_mixed : FnOk P w K mg base CX0 2 f__law_mixed fd__law_mixed ["_law_tape_here", "_law_some"] (spMixed K)) : FnOk P w K mg base CX0 3 f fd ["_law_tape_here", "_law_many"] spHung := by
  refine F.ok sc__law_hung (fun vs H Q E h => ?_) (fun cdv A outer s H vs Q E hr h => ?_)
  · obtain ⟨p, n, Fo, rfl, _⟩ := h
    rfl
  · obtain ⟨p, n, Fo, rfl, hp, n1, n2, q⟩ := h
    refine ⟨_, (pss_cons (ps_set (i := 2) sc__law_hung.nd rfl (Or.inl rfl) (pe_call G__law_mixed (hr.mono (by first | decide | omega)) (by rfl) C__law_mixed.g C__law_mixed.k C__law_mixed.b .nil pass0 (pa_cons (pv 0) (pa_cons (pe_listRg rfl (by rfl) B.b_list (prg_2 (by rfl) B.b_range pe_int (pe_op op_add (pv 1) pe_int))) pa_nil))))
 (pss_cons (ps_set (i := 3) sc__law_hung.nd rfl (Or.inl rfl) (pe_op op_rep (pe_lst (pa_cons pe_int pa_nil)) (pv 1)))
 (pss_cons (ps_for PassesOwn.never rfl (pi_enumLK (K := K) rfl (by rfl) B.b_enumerate (pa_cons (pv 2) pa_nil)) (pg_tup rfl (pgs_cons (pg_name (i := 4) sc__law_hung.nd rfl (Or.inl rfl)) (pgs_cons (pg_name (i := 5) sc__law_hung.nd rfl (Or.inl rfl)) pgs_nil))) (pss_one (ps_asg (pe_call G__law_any (hr.mono (by first | decide | omega)) (by rfl) C__law_any.g C__law_any.k C__law_any.b .nil pass0 (pa_cons (pv 0) (pa_cons (pe_op op_cat (pe_lst (pa_cons pe_int pa_nil)) (pe_slice (sl_listK (K := K) rfl) (pv 2) po_none (po_some (pv 4)))) pa_nil))) (pg_sub (pv 3) (pe_op op_sub (pv 5) pe_int) set_list))))
 (pss_one (ps_ret (pe_callTy (call_tplK (K := K) rfl) (by rfl) B.b_tuple (by decide +kernel) (pa_cons (pv 3) pa_nil))))))), ?_⟩
    walk_at "h0"
    refine ⟨⟨by omega, by omega, by omega, by omega, by omega⟩, fun l0 hl0 => ?_⟩
    rw [rgV_nats]
    walk_at "hs"
    refine ⟨p, l0, n, Fo, rfl, hp.newH hl0, .of upd_same, hp.ne hl0, n1, n2, fun O ms H2 hperm b2 p2 nO eO => ?_⟩
    have hlen : ms.length = n := by rw [hperm.length_eq, List.length_range']
    have b02 : But p H H2 := (But.new (But.refl p H) hl0).trans b2
    have nO0 : H O = none := Same.free (H' := upd H l0 _) (same_new (Same.refl _) hl0) nO
    have op : O ≠ p := (hp.newH hl0).ne nO
    walk_at "hs"
    intro l1 hl1
    walk_at "hs"
    refine x_rep1 upd_same (by omega) fun R hR => ?_
    rw [nats_rep]
    walk_at "hs"
    have hR2 : H2 R = none := Same.free (H' := upd H2 l1 _) (same_new (Same.refl _) hl1) hR
    have nR : H R = none := b02.freeB (p2.ne hR2) hR2
    have hOR : O ≠ R := ne_of_none (keepN eO hl1) hR
    have eO0 : upd (upd H2 l1 (.lst [.int 0])) R (.lst (nats (List.replicate n 0))) O = some (.lst (nats ms)) := keepN (keepN eO hl1) hR
    refine x_enl1 (.of eO0) ?_
    refine lp_enumL (K := K) (xs := nats ms) (fun i σ' H' => (∃ x4 x5, σ' = [some (.ref p), some (.int n), some (.ref O), some (.ref R), x4, x5]) ∧ ∃ fs : List Nat, fs.length = n ∧ But p H H' ∧ PoolAt H' p (fun a => a = R ∨ Fo a) ∧ H' O = some (.lst (nats ms)) ∧ H' R = some (.lst (nats fs)) ∧ ∀ (i' x : Nat), i' < i → ms[i']? = some x → ∃ j y : Nat, j ≤ i' ∧ (0 :: ms)[j]? = some y ∧ fs[x - 1]? = some y)
      ⟨⟨_, _, rfl⟩, List.replicate n 0, List.length_replicate, (b02.new hl1).new hR, (p2.newH hl1).own hR, eO0, upd_same, fun i' x h => absurd h (Nat.not_lt_zero _)⟩ (fun i σ' H' _ h => ?_) ?_ ?_
    · obtain ⟨_, fs, _, _, _, eO, _⟩ := h
      exact .of eO
    · rintro i v σ' H' T hv ⟨⟨x4, x5, rfl⟩, fs, hfs, b3, p3, eO', eR, hd⟩ hT
      have hi : i < ms.length := by
        have := (List.getElem?_eq_some_iff.mp hv).1
        rwa [nats_length] at this
      have hx := List.getElem?_eq_getElem hi
      have hv2 : v = .int (ms[i] : Nat) := by
        have e := nats_get hx
        rw [hv] at e
        exact Option.some.inj e
      subst hv2
      have hxm := (List.mem_range'_1.mp (hperm.mem_iff.mp (List.getElem_mem hi)))
      walk_at "hs"
      intro l2 hl2
      walk_at "hs"
      intro S hS
      rw [cut_take]
      walk_at "hs"
      refine x_cat (keepN upd_same hS) upd_same (szLe (by rw [List.length_take, nats_length]; show 1 + _ ≤ _; omega)) fun C hC => ?_
      walk_at "hs"
      have p4 := PoolAt.newH (o := .lst ([V.int 0] ++ (nats ms).take i)) (((p3.newH hT).newH hl2).newH hS) hC
      refine ⟨p, C, _, _, rfl, p4, .of upd_same, (((p3.newH hT).newH hl2).newH hS).ne hC, by rw [List.length_append]; show 0 < 1 + _; omega, by rw [List.length_append, List.length_take, nats_length]; show 1 + _ ≤ _; omega, fun x H4 hxm4 b4 p4' => ?_⟩
      have eR4 : H4 R = some (.lst (nats fs)) := b4 _ _ (p4.neF (.inl rfl)) (keepN (keepN (keepN (keepN eR hT) hl2) hS) hC)
      have eO4 : H4 O = some (.lst (nats ms)) := b4 _ _ op (keepN (keepN (keepN (keepN eO' hT) hl2) hS) hC)
      obtain ⟨j, y, hj, hy, rfl⟩ : ∃ j y : Nat, j ≤ i ∧ (0 :: ms)[j]? = some y ∧ x = .int (y : Nat) := by
        rcases List.mem_append.mp hxm4 with h | h
        · exact ⟨0, 0, Nat.zero_le _, rfl, List.mem_singleton.mp h⟩
        · obtain ⟨j, hj, he⟩ := List.mem_take_iff_getElem.mp h
          rw [nats_length] at hj
          have hj2 : j < ms.length := by omega
          refine ⟨j + 1, ms[j], by omega, List.getElem?_eq_getElem hj2, ?_⟩
          rw [← he]
          have := nats_get (List.getElem?_eq_getElem hj2)
          exact (List.getElem?_eq_some_iff.mp this).2
      have at3 : ixN (nats fs).length ((ms[i] : Nat) - 1 : Int) = some (ms[i] - 1) := by
        rw [show ((ms[i] : Nat) - 1 : Int) = ((ms[i] - 1 : Nat) : Int) by omega]
        exact ixN_nat (by rw [nats_length]; omega)
      walk_at "hs"
      refine ⟨⟨_, _, rfl⟩, fs.set (ms[i] - 1) y, by rw [List.length_set]; exact hfs, ?_, p4'.mut (.inl rfl), keepM hOR eO4, by rw [upd_same, nats_set], fun i' x hlt hx' => ?_⟩
      · exact ((((((b3.new hT).new hl2).new hS).new hC)).trans b4).mutF nR
      by_cases e : i' = i
      · subst e
        rw [hx] at hx'
        cases hx'
        exact ⟨j, _, hj, hy, by rw [List.getElem?_set_self (by omega)]⟩
      · obtain ⟨j, y, hj, hy', hf⟩ := hd i' x (by omega) hx'
        refine ⟨j, y, hj, hy', ?_⟩
        have hne : ms[i] - 1 ≠ x - 1 := fun e2 => by
          have hi2 := (List.getElem?_eq_some_iff.mp hx').1
          have hxm' := (List.mem_range'_1.mp (hperm.mem_iff.mp (List.mem_of_getElem? hx')))
          have nd : ms.Nodup := hperm.nodup_iff.mpr (List.nodup_range' ..)
          have : ms[i'] = ms[i] := by
            have e3 : ms[i'] = x := (List.getElem?_eq_some_iff.mp hx').2
            omega
          exact e ((List.getElem_inj nd).mp this)
        rw [List.getElem?_set_ne hne]
        exact hf
    · rintro σ' H3 ⟨⟨x4, x5, rfl⟩, fs, hfs, b3, p3, eO', eR, hd⟩
      rw [nats_length] at hd
      have htree : IsTree fs := Drawn.tree ⟨ms, by rw [hfs]; exact hperm, fun i x hx => hd i x (by have := (List.getElem?_eq_some_iff.mp hx).1; omega) hx⟩ (by omega) (by omega)
      walk_at "hs"
      intro D hD
      exact q D fs _ htree hfs (b3.new hD) ((p3.newH hD).weak fun a h => .inr h) (b3.freeB (p3.ne hD) hD) upd_same
end
set_option maxRecDepth 100000
set_option maxHeartbeats 1000000
open PySem PySem.Spec L2


theorem sc__comes_to_head : FnScope ["hung", "block", "place", "steps"] ["hung", "block"] (defScope s__comes_to_head) := ⟨rfl, rfl, rfl, by decide +kernel, rfl, by decide +kernel, by decide +kernel⟩
section
variable {P : Program} {w : World} {K : PySem.W.Frag} {mg : Str → Option Value} {base : Heap} {Z : Ad}

def spComes (K : PySem.W.Frag) : Sp := fun vs H Q _ => ∃ (t : Addr) (hs : List Nat) (k : Nat), vs = [.ref t, .int k] ∧ SqT K H t (nats hs) ∧ (∀ x ∈ hs, x ≤ hs.length) ∧ k ≤ hs.length ∧ Q (.bl (decide (upN hs hs.length k = 0))) H
theorem ok_comes {f : Addr} {fd : FuncData} (F : Fun K "_comes_to_head" "_comes_to_head" s__comes_to_head f fd) (B : Bl Z mg) : FnOk P w K mg base CX0 1 f fd ["hung", "block"] (spComes K) := by
  refine F.ok sc__comes_to_head (fun vs H Q E h => ?_) (fun cdv A outer s H vs Q E hr h => ?_)
  · obtain ⟨t, hs, k, rfl, _⟩ := h
    rfl
  · obtain ⟨t, hs, k, rfl, ht, hle, hk, q⟩ := h
    refine ⟨_, (pss_cons (ps_set (i := 2) sc__comes_to_head.nd rfl (Or.inl rfl) (pv 1))
 (pss_cons (ps_set (i := 3) sc__comes_to_head.nd rfl (Or.inl rfl) pe_int)
 (pss_cons (ps_while PassesOwn.never (PW.pt (pw_and (pt_cmpR op_ne (pv 2) pe_int (nomark _)) (pw_and1 (pt_cmpR op_lt (pv 3) (pe_callB (call_lenK (K := K) rfl) (by rfl) B.b_len PySem.boot_len (pa_cons (pv 0) pa_nil)) (nomark _))))) (pss_cons (ps_set (i := 2) sc__comes_to_head.nd rfl (Or.inl rfl) (pe_ix (ix_tupK (K := K) rfl) (pv 0) (pe_op op_sub (pv 2) pe_int) (fun _ _ => rfl)))
 (pss_one (ps_aug (i := 3) sc__comes_to_head.nd rfl (Or.inl rfl) pe_int ip_add))))
 (pss_one (ps_ret (pe_cmpR op_eq (pv 2) pe_int (nomark _))))))), ?_⟩
    walk_at "h0"
    refine ⟨fun m σ' H' => ∃ st : Nat, st + m = hs.length ∧ σ' = [some (.ref t), some (.int k), some (.int (upN hs st k : Nat)), some (.int st)] ∧ H' = H, ⟨hs.length, 0, Nat.zero_add _, rfl, rfl⟩, ?_⟩
    rintro m σ' H' ⟨st, hst, rfl, rfl⟩
    walk_at "hs"
    refine x_isd (fun c => ?_) (fun c => ?_)
    · walk_at "hs"
      rw [nats_length]
      refine x_isd (fun c2 => ?_) (fun c2 => ?_)
      · have hup := upN_le hle st k hk
        have hat : atI (nats hs) ((upN hs st k : Nat) - 1 : Int) = some (.int (upN hs (st + 1) k : Nat)) := by
          rw [show ((upN hs st k : Nat) - 1 : Int) = ((upN hs st k - 1 : Nat) : Int) by omega]
          refine nats_at ?_
          rw [upN_succ]
          have h1 : upN hs st k - 1 < hs.length := by omega
          rw [List.getElem?_eq_getElem h1]
          have := up_at (hs := hs) (k := upN hs st k) (by omega) (List.getElem?_eq_getElem h1)
          rw [this]
        walk_at "hs"
        refine ⟨fun σ' H2 => σ' = [some (.ref t), some (.int k), some (.int (upN hs (st + 1) k : Nat)), some (.int ((st + 1 : Nat) : Int))] ∧ H2 = H', fun σ' H2 hN => ⟨m - 1, by omega, st + 1, by omega, hN.1, hN.2⟩, ?_⟩
        walk_at "hs"
        exact ⟨rfl, rfl⟩
      · walk_at "hs"
        have e : st = hs.length := by omega
        rw [← e] at q
        have e2 : decide (((upN hs st k : Nat) : Int) = 0) = decide (upN hs st k = 0) := by
          rw [decide_eq_decide]
          omega
        rw [e2]
        exact q
    · walk_at "hs"
      have h0 : upN hs st k = 0 := by omega
      have h1 := upN_more (j := hs.length) h0 (by omega)
      rw [h1] at q
      rw [h0]
      exact q
/-- what the law tells as due -/
def dueV : Due → V
  | .hung => .str "hung"
  | .block k => .int k
  | .ring _ => .non
  | .ok => .non
/-- a value that tells what is due -/
def TellsDue (H : Hp) (v : V) : Due → Prop
  | .hung => v = .str "hung"
  | .block k => v = .int (k : Nat)
  | .ring k => ∃ a, v = .ref a ∧ H a = some (.tup [.str "ring", .int (k : Nat)])
  | .ok => v = .non
/-- what is due for a value: of a tuple by its items, else hung -/
def DueV (H : Hp) (x : V) (d : Due) : Prop := (∃ a xs, x = .ref a ∧ H a = some (.tup xs) ∧ DueIs xs d ∧ ∀ y ∈ xs, Kn H y) ∨ ((∀ a xs, x = .ref a → H a ≠ some (.tup xs)) ∧ Kn H x ∧ d = .hung)
def spDue : Sp := fun vs H Q _ => ∃ (x : V), vs = [x] ∧ ((∃ a xs, x = .ref a ∧ H a = some (.tup xs) ∧ ∀ y ∈ xs, Kn H y) ∨ ((∀ a xs, x = .ref a → H a ≠ some (.tup xs)) ∧ Kn H x)) ∧ ∀ (d : Due) (v : V) H', Same H H' → DueV H x d → TellsDue H' v d → Q v H'
theorem kn_not {x : V} {H : Hp} {Q : VK} (h : ∀ a xs, x = .ref a → H a ≠ some (.tup xs)) (k : Kn H x) (q : Q (.bl false) H) : rIsi K [x, .ty "tuple"] H Q := by
  cases x with
  | non => exact isi_non_tuple q
  | bl b => exact isi_bl_tuple q
  | int b => exact isi_int_tuple q
  | str b => exact isi_str_tuple q
  | ref a =>
    rcases k with ⟨xs, e⟩ | ⟨xs, e⟩ | ⟨xs, e⟩
    · exact isi_lst_tuple e q
    · exact (h a xs rfl e).elim
    · exact isi_dK_tuple e q
  | _ => exact k.elim
end
set_option maxRecDepth 100000
set_option maxHeartbeats 1000000
open PySem PySem.Spec L2


theorem sc_BadTree___init__ : FnScope ["self", "part"] ["self", "part"] (defScope s_BadTree___init__) := ⟨rfl, rfl, rfl, by decide +kernel, rfl, by decide +kernel, by decide +kernel⟩
theorem sc_Tree___init__ : FnScope ["self", "hung", "block", "place"] ["self", "hung"] (defScope s_Tree___init__) := ⟨rfl, rfl, rfl, by decide +kernel, rfl, by decide +kernel, by decide +kernel⟩
section
variable {P : Program} {w : World} {K : PySem.W.Frag} {mg : Str → Option Value} {base : Heap} {Z : Ad}

theorem ok_bad {f : Addr} {fd : FuncData} (F : Fun K "__init__" "BadTree.__init__" s_BadTree___init__ f fd) (X_BadTree : ExcF K Z.a_BadTree f "part") : FnOk P w K mg base CX0 1 f fd ["self", "part"] (spField Z.a_BadTree "part") := by
  refine F.ok sc_BadTree___init__ (fun vs H Q E h => ?_) (fun cdv A outer s H vs Q E hr h => ?_)
  · obtain ⟨a, v, rfl, _⟩ := h
    rfl
  · obtain ⟨a, v, rfl, ha, q⟩ := h
    refine ⟨_, (pss_one (ps_ost (pv 0) (pv 1))), ?_⟩
    walk_at "h0"
    exact ⟨a, _, rfl, X_BadTree.T, X_BadTree.n, .inl ⟨ha, q⟩⟩
def spTree (Z : Ad) : Sp := fun vs H Q E => ∃ (x dx : Addr) (h : V), vs = [.ref x, h] ∧ H x = some (.ins Z.a_Tree dx []) ∧ ((∃ a xs, h = .ref a ∧ H a = some (.tup xs) ∧ ∀ y ∈ xs, Kn H y) ∨ ((∀ a xs, h = .ref a → H a ≠ some (.tup xs)) ∧ Kn H h)) ∧
  (∀ H', DueV H h .ok → But x H H' → H' x = some (.ins Z.a_Tree dx [("hung", h)]) → Q .non H') ∧ (∀ (d : Due) (e : Addr) (v : V) H', d ≠ .ok → DueV H h d → TellsDue H' v d → Same H H' → H' e = some (.xd [("part", v)]) → E (.ref Z.a_BadTree) (some e) H')
theorem ok_tree {f : Addr} {fd : FuncData} (F : Fun K "__init__" "Tree.__init__" s_Tree___init__ f fd) (B : Bl Z mg) (T : Cls K Z.a_Tree) (N : NoAttr K Z.a_Tree "hung") {f_is_within : Addr} {fd_is_within : FuncData} (C_is_within : Cal K mg "is_within" f_is_within fd_is_within ["least", "most", "thing"]) (G_is_within : FnOk P w K mg base CX0 1 f_is_within fd_is_within ["least", "most", "thing"] spWithin) {f__comes_to_head : Addr} {fd__comes_to_head : FuncData} (C__comes_to_head : Cal K mg "_comes_to_head" f__comes_to_head fd__comes_to_head ["hung", "block"]) (G__comes_to_head : FnOk P w K mg base CX0 1 f__comes_to_head fd__comes_to_head ["hung", "block"] (spComes K))
    {f_BadTree___init__ : Addr} {fd_BadTree___init__ : FuncData} (C_BadTree___init__ : CalM K f_BadTree___init__ fd_BadTree___init__ ["self", "part"]) (G_BadTree___init__ : FnOk P w K mg base CX0 1 f_BadTree___init__ fd_BadTree___init__ ["self", "part"] (spField Z.a_BadTree "part")) (X_BadTree : ExcF K Z.a_BadTree f_BadTree___init__ "part") : FnOk P w K mg base (L2.CX P w) 3 f fd ["self", "hung"] (spTree Z) := by
  refine F.okX sc_Tree___init__ (fun vs H Q E h => ?_) (fun cdv A outer s H vs Q E hr h => ?_)
  · obtain ⟨x, dx, h, rfl, _⟩ := h
    rfl
  · obtain ⟨x, dx, hv, rfl, hx, hk, q, qe⟩ := h
    refine ⟨_, (pss_cons (ps_if (PW.pt (pw_or (pt_not (pt_val (pe_callB (call_isiK' (K := K) rfl) (by rfl) B.b_isinstance (by decide +kernel) (pa_cons (pv 1) (pa_cons (pe_bltn (v := .ty "tuple") (by rfl) B.b_tuple (by decide +kernel) rfl) pa_nil))))) (pw_or1 (pt_not (pt_chain op_le op_le pe_int (pe_callB (call_lenK (K := K) rfl) (by rfl) B.b_len PySem.boot_len (pa_cons (pv 1) pa_nil)) (pe_glob (v := .int (40)) rfl B.c_MOST_BLOCKS ⟨_, rfl⟩)))))) (pss_one (ps_raise rfl (takes_of rfl rfl rfl rfl) (pmk_oex X_BadTree.T X_BadTree.i X_BadTree.t G_BadTree___init__ (hr.mono (by first | decide | omega)) C_BadTree___init__.b .nil pass0 (by rfl) B.k_BadTree (pa_cons pe_str pa_nil)))) pss_nil)
 (pss_cons (ps_for (passes_of rfl) rfl (pi_enumTK (K := K) rfl rfl (by rfl) B.b_enumerate (by decide) (by decide) (pa_cons (pv 1) pa_nil)) (pg_tup rfl (pgs_cons (pg_name (i := 2) sc_Tree___init__.nd rfl (Or.inl rfl)) (pgs_cons (pg_name (i := 3) sc_Tree___init__.nd rfl (Or.inl rfl)) pgs_nil))) (pss_one (ps_if (PW.pt (pw_or (pt_not (pt_val (pe_call G_is_within (hr.mono (by first | decide | omega)) (by rfl) C_is_within.g C_is_within.k C_is_within.b .nil pass0 (pa_cons pe_int (pa_cons (pe_callB (call_lenK (K := K) rfl) (by rfl) B.b_len PySem.boot_len (pa_cons (pv 1) pa_nil)) (pa_cons (pv 3) pa_nil)))))) (pw_or1 (pt_cmpR op_eq (pv 3) (pv 2) (nomark _))))) (pss_one (ps_raise rfl (takes_of rfl rfl rfl rfl) (pmk_oex X_BadTree.T X_BadTree.i X_BadTree.t G_BadTree___init__ (hr.mono (by first | decide | omega)) C_BadTree___init__.b .nil pass0 (by rfl) B.k_BadTree (pa_cons (pv 2) pa_nil)))) pss_nil)))
 (pss_cons (ps_for (passes_of rfl) rfl (pi_range2 rfl B.b_range (pa_cons pe_int (pa_cons (pe_op op_add (pe_callB (call_lenK (K := K) rfl) (by rfl) B.b_len PySem.boot_len (pa_cons (pv 1) pa_nil)) pe_int) pa_nil))) (pg_name (i := 2) sc_Tree___init__.nd rfl (Or.inl rfl)) (pss_one (ps_if (pt_not (pt_val (pe_call G__comes_to_head (hr.mono (by first | decide | omega)) (by rfl) C__comes_to_head.g C__comes_to_head.k C__comes_to_head.b .nil pass0 (pa_cons (pv 1) (pa_cons (pv 2) pa_nil))))) (pss_one (ps_raise rfl (takes_of rfl rfl rfl rfl) (pmk_oex X_BadTree.T X_BadTree.i X_BadTree.t G_BadTree___init__ (hr.mono (by first | decide | omega)) C_BadTree___init__.b .nil pass0 (by rfl) B.k_BadTree (pa_cons (pe_tup (pa_cons pe_str (pa_cons (pv 2) pa_nil))) pa_nil)))) pss_nil)))
 (pss_one (ps_fld (pv 0) (pv 1) rfl))))), ?_⟩
    have raised : ∀ (d : Due) (v : V) H1, d ≠ .ok → DueV H hv d → Same H H1 → (∀ H2, Same H1 H2 → TellsDue H2 v d) → [v].length ≤ 1000 ∧ ∀ a, H1 a = none → spField Z.a_BadTree "part" (.ref a :: ([v] ++ [])) (upd H1 a (exo a Z.a_BadTree none)) (fun v H2 => v = .non ∧ ∃ (d : Addr) (fs : List (Str × V)), H2 a = some (exo a Z.a_BadTree (some d)) ∧ H2 d = some (exd d fs) ∧ H1 d = none ∧ E (.ref Z.a_BadTree) (some d) (upd (del H2 a) d (.xd fs))) (fun _ _ _ => False) := fun d v H1 nd hd s1 ht =>
      mk_field fun e H' s2 _ he => qe d e v H' nd hd (ht H' s2) (s1.trans s2) he
    rcases hk with ⟨a, xs, rfl, ha, hk⟩ | ⟨hn, hk⟩
    · have qq : ∀ (d : Due) (v : V) H1, d ≠ .ok → DueIs xs d → Same H H1 → (∀ H2, Same H1 H2 → TellsDue H2 v d) → _ := fun d v H1 nd hd => raised d v H1 nd (.inl ⟨a, xs, rfl, ha, hd, hk⟩)
      have nxa : x ≠ a := fun e => by
        rw [e, ha] at hx
        cases hx
      walk_at "h0"
      refine x_isd (fun c1 => ?_) (fun c1 => ?_)
      · walk_at "hs"
        refine x_isnd (fun c2 => ?_) (fun c2 => ?_)
        · walk_at "hs"
          exact qq .hung _ H (fun e => by cases e) (.hung (by omega)) (Same.refl _) fun _ _ => rfl
        · walk_at "hs"
          refine x_ent1 (.of ha) ?_
          refine lp_enumT (K := K) (xs := xs) (fun i σ' H' => (∃ x2 x3, σ' = [some (.ref x), some (.ref a), x2, x3]) ∧ Same H H' ∧ ∀ j y, j < i → xs[j]? = some y → ¬ badV xs.length j y)
            ⟨⟨_, _, rfl⟩, Same.refl _, fun j y h => absurd h (Nat.not_lt_zero _)⟩ (fun i σ' H' _ h => .of (h.2.1 _ _ ha)) ?_ ?_
          · rintro i xi σ' H' T hxi ⟨⟨x2, x3, rfl⟩, s1, hgood⟩ hT
            have ha1 := s1 _ _ ha
            have kx := (hk _ (List.mem_of_getElem? hxi)).same (same_new (o := .tup [.int (1 + (i : Int)), xi]) s1 hT)
            have hi := (List.getElem?_eq_some_iff.mp hxi).1
            have bad : badV xs.length i xi → _ := fun b => qq (.block (i + 1)) (.int (1 + (i : Int))) (upd H' T (.tup [.int (1 + (i : Int)), xi])) (fun e => by cases e) (.block (by omega) (by omega) hgood hxi b) (same_new s1 hT) (fun _ _ => by
              show V.int (1 + (i : Int)) = V.int ((i + 1 : Nat) : Int)
              congr 1
              omega)
            walk_at "hs"
            refine ⟨_, _, _, rfl, kx, ?_⟩
            walk_at "hs"
            cases hn : numV 0 xs.length xi with
            | false =>
              walk_at "hs"
              exact bad (.inl hn)
            | true =>
              obtain ⟨z, rfl, z0, z1⟩ := num_int hn
              walk_at "hs"
              refine x_isd (fun c => ?_) (fun c => ?_)
              · walk_at "hs"
                exact bad (.inr (by rw [c]; congr 1; omega))
              · walk_at "hs"
                refine ⟨⟨_, _, rfl⟩, same_new s1 hT, fun j y hj hy => ?_⟩
                by_cases e : j = i
                · subst e
                  rw [hxi] at hy
                  cases hy
                  rintro (h | h)
                  · rw [hn] at h
                    cases h
                  · injection h with h
                    exact c (by rw [h]; omega)
                · exact hgood j y (by omega) hy
          · rintro σ' H' ⟨⟨x2, x3, rfl⟩, s1, hgood⟩
            have ha1 := s1 _ _ ha
            have hgood' : ∀ (j : Nat) y, xs[j]? = some y → ¬ badV xs.length j y := fun j y hy => hgood j y (by have := (List.getElem?_eq_some_iff.mp hy).1; omega) hy
            obtain ⟨hs, rfl, hle⟩ := good_nats xs.length fun j y hy => by
              cases hn : numV 0 xs.length y with
              | true => rfl
              | false => exact (hgood' j y hy (.inl hn)).elim
            have hlen := nats_length hs
            rw [hlen] at hle
            walk_at "hs"
            refine ⟨1, ((nats hs).length : Int) + 1, rfl, ⟨by omega, by omega, by omega, by omega⟩, ?_⟩
            refine lp_range (lo := 1) (n := Int.toNat (((nats hs).length : Int) + 1 - 1)) (fun i σ' H2 => (∃ x2 x3, σ' = [some (.ref x), some (.ref a), x2, x3]) ∧ Same H H2 ∧ ∀ j, 1 ≤ j → j < i + 1 → upN hs hs.length j = 0)
              ⟨⟨_, _, rfl⟩, s1, fun j h1 h2 => by omega⟩ ?_ ?_
            · rintro i σ' H2 hi ⟨⟨x2, x3, rfl⟩, s2, hz⟩
              have ha2 := s2 _ _ ha
              walk_at "hs"
              refine ⟨a, hs, i + 1, by rw [show 1 + (i : Int) = ((i + 1 : Nat) : Int) by omega]; rfl, .of ha2, hle, by omega, ?_⟩
              walk_at "hs"
              refine x_isnd (fun c => ?_) (fun c => ?_)
              · walk_at "hs"
                intro p hp
                walk_at "hs"
                refine qq (.ring (i + 1)) _ _ (fun e => by cases e) (.ring (by omega) (by omega) rfl hgood' (fun j h1 h2 => hz j h1 h2) (by omega) (by omega) c) (same_new s2 hp) fun H3 s3 => ⟨p, rfl, ?_⟩
                rw [s3 _ _ upd_same, show (1 + (i : Int)) = ((i + 1 : Nat) : Int) by omega]
              · walk_at "hs"
                refine ⟨⟨_, _, rfl⟩, s2, fun j h1 h2 => ?_⟩
                by_cases e : j = i + 1
                · rw [e]
                  exact c
                · exact hz j h1 (by omega)
            · rintro σ' H2 ⟨⟨x2, x3, rfl⟩, s2, hz⟩
              have hx2 := s2 _ _ hx
              walk_at "hs"
              refine ⟨x, _, dx, _, rfl, hx2, T, N, by decide, ?_⟩
              walk_at "hs"
              refine q _ (.inl ⟨a, nats hs, rfl, ha, .ok ⟨by omega, by omega, hle, fun k hk => by
                by_cases h0 : k = 0
                · rw [h0]
                  exact upN_zero hs _
                · exact hz k (by omega) (by omega)⟩ rfl hgood', hk⟩) (But.mut (.of s2)) upd_same
      · walk_at "hs"
        exact qq .hung _ H (fun e => by cases e) (.hung (by omega)) (Same.refl _) fun _ _ => rfl
    · walk_at "h0"
      refine kn_not hn hk ?_
      walk_at "hs"
      exact raised .hung _ H (fun e => by cases e) (.inr ⟨hn, hk, rfl⟩) (Same.refl _) fun _ _ => rfl
end
set_option maxRecDepth 100000
set_option maxHeartbeats 1000000
open PySem PySem.Spec L2


theorem sc_Tree___eq__ : FnScope ["self", "other"] ["self", "other"] (defScope s_Tree___eq__) := ⟨rfl, rfl, rfl, by decide +kernel, rfl, by decide +kernel, by decide +kernel⟩
section
variable {P : Program} {w : World} {K : PySem.W.Frag} {mg : Str → Option Value} {base : Heap} {Z : Ad}

/-- a tree that has been made -/
def TreeAt (Z : Ad) (H : Hp) (x : Addr) (hs : List Nat) : Prop := ∃ dx t, H x = some (.ins Z.a_Tree dx [("hung", .ref t)]) ∧ H t = some (.tup (nats hs))
theorem TreeAt.same {H H' : Hp} {x : Addr} {hs : List Nat} (s : Same H H') (h : TreeAt Z H x hs) : TreeAt Z H' x hs := by
  obtain ⟨dx, t, h1, h2⟩ := h
  exact ⟨dx, t, s _ _ h1, s _ _ h2⟩
def spEqT (Z : Ad) : Sp := fun vs H Q _ => ∃ (a b : Addr) (hs : List Nat), vs = [.ref a, .ref b] ∧ TreeAt Z H a hs ∧ ((∃ gs, TreeAt Z H b gs ∧ Q (.bl (decide (hs = gs))) H) ∨ ((∃ xs, H b = some (.tup xs)) ∧ Q (.bl false) H))
theorem ok_eqT {f : Addr} {fd : FuncData} (F : Fun K "__eq__" "Tree.__eq__" s_Tree___eq__ f fd) (B : Bl Z mg) (T : IsC K Z.a_Tree) (N : NoAttr K Z.a_Tree "hung") : FnOk P w K mg base CX0 1 f fd ["self", "other"] (spEqT Z) := by
  refine F.ok sc_Tree___eq__ (fun vs H Q E h => ?_) (fun cdv A outer s H vs Q E hr h => ?_)
  · obtain ⟨a, b, hs, rfl, _⟩ := h
    rfl
  · obtain ⟨a, b, hs, rfl, ⟨dx, t, hx, ht⟩, h⟩ := h
    refine ⟨_, (pss_one (ps_ret (pe_and (pe_callB (call_isiK' (K := K) rfl) (by rfl) B.b_isinstance (by decide +kernel) (pa_cons (pv 1) (pa_cons (pe_glob (v := .ref Z.a_Tree) rfl B.k_Tree rfl) pa_nil))) (pe_one (pe_cmpR (op_eqDK (K := K) rfl hr.units) (pe_fldK (K := K) rfl (pv 0) rfl) (pe_fldK (K := K) rfl (pv 1) rfl) (nomark _)))))), ?_⟩
    walk_at "h0"
    rcases h with ⟨gs, ⟨dy, u, hy, hu⟩, q⟩ | ⟨⟨xs, hb⟩, q⟩
    · refine isi_own T hy ?_
      walk_at "hs"
      refine ⟨a, _, dx, _, _, rfl, hx, T.cl, N, rfl, ?_⟩
      walk_at "hs"
      refine ⟨b, _, dy, _, _, rfl, hy, T.cl, N, rfl, ?_⟩
      exact x_eqTup (.of ht) (.of hu) q
    · refine isi_tupOwn T hb ?_
      walk_at "hs"
      exact q
end
set_option maxRecDepth 100000
set_option maxHeartbeats 1000000
open PySem PySem.Spec L2


section
variable {P : Program} {w : World} {K : PySem.W.Frag} {mg : Str → Option Value} {base : Heap} {Z : Ad}

def spOdd : Sp := fun vs H Q _ => ∃ (p : Addr) (n : Nat) (F : Addr → Prop), vs = [.ref p, .int n] ∧ PoolAt H p F ∧ ∀ v H', Kn H' v → v ≠ .ref p → But p H H' → PoolAt H' p F → Q v H'
/-! the law's own call of Tree, caught -/
end
set_option maxRecDepth 100000
set_option maxHeartbeats 1000000
open PySem PySem.Spec L2


section
variable {P : Program} {w : World} {K : PySem.W.Frag} {mg : Str → Option Value} {base : Heap} {Z : Ad}

/-- any tuple of what is known, or another known thing -/
def Thing (H : Hp) (x : V) : Prop := (∃ a xs, x = .ref a ∧ H a = some (.tup xs) ∧ ∀ y ∈ xs, Kn H y) ∨ ((∀ a xs, x = .ref a → H a ≠ some (.tup xs)) ∧ Kn H x)
theorem Thing.same {H H' : Hp} {x : V} (s : Same H H') (h : Thing H x) : Thing H' x := by
  rcases h with ⟨a, xs, rfl, ha, hk⟩ | ⟨hn, hk⟩
  · exact .inl ⟨a, xs, rfl, s _ _ ha, fun y hy => (hk y hy).same s⟩
  · refine .inr ⟨fun a xs e ha => ?_, hk.same s⟩
    subst e
    rcases hk with ⟨ys, e⟩ | ⟨ys, e⟩ | ⟨ys, e⟩
    · have := (s _ _ e).symm.trans ha
      cases this
    · exact hn a ys rfl e
    · have := (s _ _ e).symm.trans ha
      cases this
theorem Thing.back {H H' : Hp} {x : V} {d : Due} (h : Thing H x) (s : Same H H') (hd : DueV H' x d) : DueV H x d := by
  rcases h with ⟨a, xs, rfl, ha, hk⟩ | ⟨hn, hk⟩
  · rcases hd with ⟨b, ys, e, hb, hi, _⟩ | ⟨hn, _, _⟩
    · cases e
      have := (s _ _ ha).symm.trans hb
      cases this
      exact .inl ⟨a, xs, rfl, ha, hi, hk⟩
    · exact (hn a xs rfl (s _ _ ha)).elim
  · rcases hd with ⟨b, ys, rfl, hb, hi, _⟩ | ⟨_, _, e⟩
    · rcases hk with ⟨zs, e⟩ | ⟨zs, e⟩ | ⟨zs, e⟩
      · have := (s _ _ e).symm.trans hb
        cases this
      · exact (hn b zs rfl e).elim
      · have := (s _ _ e).symm.trans hb
        cases this
    · exact .inr ⟨hn, hk, e⟩
def spWord : Sp := fun vs H Q _ => ∃ (x : V), vs = [x] ∧ Thing H x ∧ ∀ (d : Due) (v : V) H', Same H H' → DueV H x d → TellsDue H' v d → Q v H'
structure WordX (K : PySem.W.Frag) (Z : Ad) : Prop where
  e : L2.ExcC K Z.a_BadTree
  f : XfC K Z.a_BadTree
  n : PySem.W.findIn K (.ref Z.a_BadTree) "part" = some none
  k : PySem.W.kitOne K (.ref Z.a_BadTree) (.ref Z.a_VoteError) = some true
  m : PySem.W.exmOne K (.ref Z.a_BadTree) (.ref Z.a_BadTree) = some true
end
set_option maxRecDepth 100000
set_option maxHeartbeats 4000000
open PySem PySem.Spec L2


theorem sc_law : FnScope ["_law_script", "_law_tape_here", "_law_turn", "_law_many", "_law_hung_here", "_law_other", "_law_told", "_law_made", "_law_one", "_law_moves_here", "_law_later", "_law_block", "_law_place", "_law_more", "_law_right", "_law_apart", "_law_here", "_law_there"] ["_law_script"] (defScope s_law) := ⟨rfl, rfl, rfl, by decide +kernel, rfl, by decide +kernel, by decide +kernel⟩
section
variable {P : Program} {w : World} {K : PySem.W.Frag} {mg : Str → Option Value} {base : Heap} {Z : Ad}

theorem TellsDue.same {H H' : Hp} {v : V} {d : Due} (s : Same H H') (h : TellsDue H v d) : TellsDue H' v d := by
  cases d with
  | ring k =>
    obtain ⟨a, rfl, ha⟩ := h
    exact ⟨a, rfl, s _ _ ha⟩
  | _ => exact h
theorem TellsDue.al {H : Hp} {v u : V} {d : Due} (h : TellsDue H v d) (h' : TellsDue H u d) : Al K H 1 v u := by
  cases d with
  | ring k =>
    obtain ⟨a, rfl, ha⟩ := h
    obtain ⟨b, rfl, hb⟩ := h'
    exact Al.tups ha hb (by show 2 ≤ 1000; decide) fun z hz => by
      simp only [List.mem_cons, List.not_mem_nil, or_false] at hz
      rcases hz with rfl | rfl <;> rfl
  | hung =>
    cases h
    cases h'
    exact Al.sca rfl
  | block k =>
    cases h
    cases h'
    exact Al.sca rfl
  | ok =>
    cases h
    cases h'
    exact Al.sca rfl
theorem DueV.det {H : Hp} {x : V} {d e : Due} (h : DueV H x d) (h' : DueV H x e) : d = e := by
  rcases h with ⟨a, xs, rfl, ha, hi, _⟩ | ⟨hn, _, rfl⟩
  · rcases h' with ⟨b, ys, e, hb, hj, _⟩ | ⟨hn, _, _⟩
    · cases e
      have := ha.symm.trans hb
      cases this
      exact hi.det hj
    · exact (hn a xs rfl ha).elim
  · rcases h' with ⟨b, ys, rfl, hb, _, _⟩ | ⟨_, _, rfl⟩
    · exact (hn b ys rfl hb).elim
    · rfl
theorem tree_ok {hs : List Nat} (t : IsTree hs) : DueIs (nats hs) .ok := by
  refine .ok t rfl fun j y hy => ?_
  obtain ⟨x, hx, rfl⟩ : ∃ x : Nat, hs[j]? = some x ∧ y = .int x := by
    unfold nats at hy
    rw [List.getElem?_map] at hy
    cases e : hs[j]? with
    | none =>
      rw [e] at hy
      cases hy
    | some x =>
      rw [e] at hy
      exact ⟨x, rfl, (Option.some.inj hy).symm⟩
  have hle := t.le x (List.mem_of_getElem? hx)
  have hj := (List.getElem?_eq_some_iff.mp hx).1
  rw [nats_length]
  rintro (h | h)
  · rw [numT (by omega)] at h
    have := of_decide_eq_false h
    omega
  · injection h with h
    have e : x = j + 1 := by omega
    subst e
    have u : up hs (j + 1) = j + 1 := up_at (by omega) (by rw [Nat.add_sub_cancel]; exact hx)
    have un : ∀ n, upN hs n (j + 1) = j + 1 := fun n => by
      induction n with
      | zero => rfl
      | succ n ih =>
        show upN hs n (up hs (j + 1)) = j + 1
        rw [u]
        exact ih
    have := t.comes (j + 1) (by omega)
    rw [un] at this
    omega
theorem make_tree {H : Hp} {Q : VK} {a : Addr} {hs : List Nat} (t : IsTree hs) (ha : H a = some (.tup (nats hs))) (q : ∀ m H', H m = none → Same H H' → TreeAt Z H' m hs → Q (.ref m) H') :
    ∀ x dx, H x = none → H dx = none → dx ≠ x → spTree Z (.ref x :: ([.ref a] ++ [])) (upd (upd H dx (.own x)) x (.ins Z.a_Tree dx [])) (fun v H2 => v = .non ∧ Q (.ref x) H2) (fun _ _ _ => False) := by
  intro m dm hm hdm ne
  have hm2 : upd H dm (.own m) m = none := by
    rw [upd_ne (Ne.symm ne)]
    exact hm
  have s0 : Same H (upd (upd H dm (.own m)) m (.ins Z.a_Tree dm [])) := same_new (same_new (Same.refl H) hdm) hm2
  have hk : ∀ y ∈ nats hs, Kn H y := fun y hy => by
    obtain ⟨n, _, rfl⟩ := List.mem_map.mp hy
    exact True.intro
  have hx : Thing H (.ref a) := .inl ⟨a, _, rfl, ha, hk⟩
  have due : DueV H (.ref a) .ok := .inl ⟨a, _, rfl, ha, tree_ok t, hk⟩
  refine ⟨m, dm, .ref a, rfl, upd_same, hx.same s0, fun H' hd b1 hm1 => ⟨rfl, ?_⟩, fun d e v H' nd hd ht s1 he => nd ((hx.back s0 hd).det due)⟩
  have s1 : Same H H' := fun b o e => b1 _ _ (ne_of_none e hm) (s0 _ _ e)
  exact q m H' hm s1 ⟨dm, a, hm1, s1 _ _ ha⟩
theorem eq_trees {H : Hp} {Q : VK} {a b : Addr} {hs gs : List Nat} (h1 : TreeAt Z H a hs) (h2 : TreeAt Z H b gs) (q : Q (.bl (decide (hs = gs))) H) : rOwn Z.a_Tree (spEqT Z) (.ref a) (.ref b) H Q := by
  obtain ⟨dx, t, ha, ht⟩ := id h1
  obtain ⟨dy, u, hb, hu⟩ := id h2
  exact ⟨a, b, dx, _, rfl, rfl, ha, .inl ⟨_, _, hb⟩, a, b, hs, rfl, h1, .inl ⟨gs, h2, _, rfl, q⟩⟩
theorem eq_treeTup {H : Hp} {Q : VK} {a b : Addr} {hs : List Nat} {xs : List V} (h1 : TreeAt Z H a hs) (h2 : H b = some (.tup xs)) (q : Q (.bl false) H) : rOwn Z.a_Tree (spEqT Z) (.ref a) (.ref b) H Q := by
  obtain ⟨dx, t, ha, ht⟩ := id h1
  exact ⟨a, b, dx, _, rfl, rfl, ha, .inr ⟨_, h2⟩, a, b, hs, rfl, h1, .inr ⟨⟨_, h2⟩, _, rfl, q⟩⟩
theorem Kn.setL {H : Hp} {L : Addr} {xs ys : List V} {v : V} (hL : H L = some (.lst xs)) (k : Kn H v) : Kn (upd H L (.lst ys)) v := by
  cases v with
  | ref a =>
    by_cases e : a = L
    · subst e
      exact .inl ⟨ys, upd_same⟩
    · rcases k with ⟨z, h⟩ | ⟨z, h⟩ | ⟨z, h⟩
      · exact .inl ⟨z, keepM e h⟩
      · exact .inr (.inl ⟨z, keepM e h⟩)
      · exact .inr (.inr ⟨z, keepM e h⟩)
  | _ => exact k
theorem x_tree {H : Hp} {Q : VK} {a : Addr} {hs : List Nat} {σ : L2.St} {i : Nat} (hv : σ[i]? = some (some (.ref a))) (t : IsTree hs) (ha : H a = some (.tup (nats hs))) (q : ∀ m H', H m = none → Same H H' → TreeAt Z H' m hs → Q (.ref m) H') :
    tMake Z.a_Tree (spTree Z) [] (fun _ _ _ => False) (tCons (tVar i) tNil) σ H Q := ⟨_, hv, make_tree t ha q⟩
theorem PoolAt.lst {H : Hp} {p : Addr} {F : Addr → Prop} (h : PoolAt H p F) : ∃ xs, H p = some (.lst xs) := by
  obtain ⟨⟨g, z, gs, ss, c, n, hp, _⟩, _⟩ := h
  exact ⟨_, hp⟩
theorem Kn.pool {H H' : Hp} {p : Addr} {F : Addr → Prop} {v : V} (hp : PoolAt H' p F) (b : But p H H') (k : Kn H v) : Kn H' v := by
  by_cases e : v = .ref p
  · subst e
    exact .inl hp.lst
  · exact k.but b e
theorem Thing.pool {H H' : Hp} {p : Addr} {F F' : Addr → Prop} {v : V} (hp : PoolAt H p F) (hp' : PoolAt H' p F') (b : But p H H') (k : Thing H v) : Thing H' v := by
  obtain ⟨zs, ep⟩ := hp.lst
  obtain ⟨ws, ep'⟩ := hp'.lst
  rcases k with ⟨a, xs, rfl, ha, hk⟩ | ⟨hn, hk⟩
  · refine .inl ⟨a, xs, rfl, b _ _ (fun e => ?_) ha, fun y hy => (hk y hy).pool hp' b⟩
    subst e
    rw [ha] at ep
    cases ep
  · refine .inr ⟨fun a xs e ha => ?_, hk.pool hp' b⟩
    subst e
    by_cases e : a = p
    · subst e
      rw [ha] at ep'
      cases ep'
    · rcases hk with ⟨ys, h⟩ | ⟨ys, h⟩ | ⟨ys, h⟩
      · have := (b _ _ e h).symm.trans ha
        cases this
      · exact hn a ys rfl h
      · have := (b _ _ e h).symm.trans ha
        cases this
theorem thing_lst {H : Hp} {a : Addr} {xs : List V} (h : H a = some (.lst xs)) : Thing H (.ref a) := by
  refine .inr ⟨fun b ys e hb => ?_, .inl ⟨_, h⟩⟩
  cases e
  rw [h] at hb
  cases hb
theorem thing_dK {H : Hp} {a : Addr} {xs : List (Key × V)} (h : H a = some (.dK xs)) : Thing H (.ref a) := by
  refine .inr ⟨fun b ys e hb => ?_, .inr (.inr ⟨_, h⟩)⟩
  cases e
  rw [h] at hb
  cases hb
theorem thing_nats {H : Hp} {a : Addr} {l : List Nat} (h : H a = some (.tup (nats l))) : Thing H (.ref a) := .inl ⟨a, _, rfl, h, fun y hy => by
  obtain ⟨n, _, rfl⟩ := List.mem_map.mp hy
  exact True.intro⟩
theorem pick_at {H0 H : Hp} {p M : Addr} {items : List V} {F : Addr → Prop} {Q : VK} {E : XK} (hp : PoolAt H0 p F) (s : Same H0 H) (hM : H M = some (.lst items)) (n : M ≠ p) (h0 : 0 < items.length) (h1 : items.length ≤ 1000) (ht : ∀ v ∈ items, Thing H v)
    (q : ∀ v H5, Thing H5 v → But p H0 H5 → PoolAt H5 p F → Q v H5) : spPick K ([.ref p, .ref M] ++ []) H Q E :=
  ⟨p, M, items, F, rfl, hp.same s, .of hM, n, h0, h1, fun v H5 hm b5 p5 => q v H5 ((ht v hm).pool (hp.same s) p5 b5) (fun b o nb e => b5 b o nb (s b o e)) p5⟩
def spLaw (K : PySem.W.Frag) : Sp := fun vs H Q _ => ∃ (a : Addr) (ns : List Int), vs = [.ref a] ∧ SqL K H a (ns.map V.int) ∧ ns.length ≤ 63 ∧ ∀ H', Q (.bl true) H'
end
set_option maxRecDepth 100000
set_option maxHeartbeats 1000000
open PySem PySem.Spec L2


theorem sc_is_block : FnScope ["tree", "thing"] ["tree", "thing"] (defScope s_is_block) := ⟨rfl, rfl, rfl, by decide +kernel, rfl, by decide +kernel, by decide +kernel⟩
theorem sc_is_place : FnScope ["tree", "thing"] ["tree", "thing"] (defScope s_is_place) := ⟨rfl, rfl, rfl, by decide +kernel, rfl, by decide +kernel, by decide +kernel⟩
theorem sc_place_of : FnScope ["tree", "block"] ["tree", "block"] (defScope s_place_of) := ⟨rfl, rfl, rfl, by decide +kernel, rfl, by decide +kernel, by decide +kernel⟩
theorem sc_parents : FnScope ["tree", "block", "above"] ["tree", "block"] (defScope s_parents) := ⟨rfl, rfl, rfl, by decide +kernel, rfl, by decide +kernel, by decide +kernel⟩
section
variable {P : Program} {w : World} {K : PySem.W.Frag} {mg : Str → Option Value} {base : Heap} {Z : Ad}
def spIsB (Z : Ad) (lo : Int) : Sp := fun vs H Q _ => ∃ (x : Addr) (hs : List Nat) (v : V), vs = [.ref x, v] ∧ TreeAt Z H x hs ∧ Kn H v ∧ Q (.bl (numV lo hs.length v)) H
theorem ok_isBlock {f : Addr} {fd : FuncData} (F : Fun K "is_block" "is_block" s_is_block f fd) (B : Bl Z mg) (T : Cls K Z.a_Tree) (N : NoAttr K Z.a_Tree "hung") {f_is_within : Addr} {fd_is_within : FuncData} (C_is_within : Cal K mg "is_within" f_is_within fd_is_within ["least", "most", "thing"]) (G_is_within : FnOk P w K mg base CX0 1 f_is_within fd_is_within ["least", "most", "thing"] spWithin) : FnOk P w K mg base CX0 2 f fd ["tree", "thing"] (spIsB Z 1) := by
  refine F.ok sc_is_block (fun vs H Q E h => ?_) (fun cdv A outer s H vs Q E hr h => ?_)
  · obtain ⟨x, hs, v, rfl, _⟩ := h
    rfl
  · obtain ⟨x, hs, v, rfl, ht, hk, q⟩ := h
    refine ⟨_, (pss_one (ps_ret (pe_call G_is_within (hr.mono (by first | decide | omega)) (by rfl) C_is_within.g C_is_within.k C_is_within.b .nil pass0 (pa_cons pe_int (pa_cons (pe_callB (call_lenK (K := K) rfl) (by rfl) B.b_len PySem.boot_len (pa_cons (pe_fldK (K := K) rfl (pv 0) rfl) pa_nil)) (pa_cons (pv 1) pa_nil)))))), ?_⟩
    walk_at "h0"
    obtain ⟨dx, t, h1, h2⟩ := ht
    have h3 : SqT K H t (nats hs) := .of h2
    refine ⟨x, _, dx, _, _, rfl, h1, T, N, rfl, ?_⟩
    walk_at "hs"
    rw [nats_length]
    exact ⟨v, 1, _, rfl, hk, q⟩
theorem ok_isPlace {f : Addr} {fd : FuncData} (F : Fun K "is_place" "is_place" s_is_place f fd) (B : Bl Z mg) (T : Cls K Z.a_Tree) (N : NoAttr K Z.a_Tree "hung") {f_is_within : Addr} {fd_is_within : FuncData} (C_is_within : Cal K mg "is_within" f_is_within fd_is_within ["least", "most", "thing"]) (G_is_within : FnOk P w K mg base CX0 1 f_is_within fd_is_within ["least", "most", "thing"] spWithin) : FnOk P w K mg base CX0 2 f fd ["tree", "thing"] (spIsB Z 0) := by
  refine F.ok sc_is_place (fun vs H Q E h => ?_) (fun cdv A outer s H vs Q E hr h => ?_)
  · obtain ⟨x, hs, v, rfl, _⟩ := h
    rfl
  · obtain ⟨x, hs, v, rfl, ht, hk, q⟩ := h
    refine ⟨_, (pss_one (ps_ret (pe_call G_is_within (hr.mono (by first | decide | omega)) (by rfl) C_is_within.g C_is_within.k C_is_within.b .nil pass0 (pa_cons pe_int (pa_cons (pe_callB (call_lenK (K := K) rfl) (by rfl) B.b_len PySem.boot_len (pa_cons (pe_fldK (K := K) rfl (pv 0) rfl) pa_nil)) (pa_cons (pv 1) pa_nil)))))), ?_⟩
    walk_at "h0"
    obtain ⟨dx, t, h1, h2⟩ := ht
    have h3 : SqT K H t (nats hs) := .of h2
    refine ⟨x, _, dx, _, _, rfl, h1, T, N, rfl, ?_⟩
    walk_at "hs"
    rw [nats_length]
    exact ⟨v, 0, _, rfl, hk, q⟩
theorem num_nat {lo : Int} {n k : Nat} (h1 : lo ≤ k) (h2 : k ≤ n) : numV lo n (.int k) = true := by
  rw [numT h1]
  exact decide_eq_true (by omega)
def spPlace (Z : Ad) : Sp := fun vs H Q _ => ∃ (x : Addr) (hs : List Nat) (k : Nat), vs = [.ref x, .int k] ∧ TreeAt Z H x hs ∧ 1 ≤ k ∧ k ≤ hs.length ∧ Q (.int (up hs k : Nat)) H
theorem ok_place {f : Addr} {fd : FuncData} (F : Fun K "place_of" "place_of" s_place_of f fd) (B : Bl Z mg) (T : Cls K Z.a_Tree) (N : NoAttr K Z.a_Tree "hung") {f_is_block : Addr} {fd_is_block : FuncData} (C_is_block : Cal K mg "is_block" f_is_block fd_is_block ["tree", "thing"]) (G_is_block : FnOk P w K mg base CX0 2 f_is_block fd_is_block ["tree", "thing"] (spIsB Z 1)) : FnOk P w K mg base CX0 3 f fd ["tree", "block"] (spPlace Z) := by
  refine F.ok sc_place_of (fun vs H Q E h => ?_) (fun cdv A outer s H vs Q E hr h => ?_)
  · obtain ⟨x, hs, k, rfl, _⟩ := h
    rfl
  · obtain ⟨x, hs, k, rfl, ht, h1, h2, q⟩ := h
    refine ⟨_, (pss_cons (ps_if (pt_not (pt_val (pe_call G_is_block (hr.mono (by first | decide | omega)) (by rfl) C_is_block.g C_is_block.k C_is_block.b .nil pass0 (pa_cons (pv 0) (pa_cons (pv 1) pa_nil))))) (pss_one ps_never) pss_nil)
 (pss_one (ps_ret (pe_ix (ix_tupK (K := K) rfl) (pe_fldK (K := K) rfl (pv 0) rfl) (pe_op op_sub (pv 1) pe_int) (fun _ _ => rfl))))), ?_⟩
    walk_at "h0"
    refine ⟨x, hs, _, rfl, ht, True.intro, ?_⟩
    rw [num_nat (by omega) h2]
    have hat : atI (nats hs) ((k : Int) - 1) = some (.int (up hs k : Nat)) := by
      rw [show (k : Int) - 1 = ((k - 1 : Nat) : Int) by omega]
      exact nats_at (up_get h1 h2)
    walk_at "hs"
    obtain ⟨dx, t, e1, e2⟩ := ht
    have e3 : SqT K H t (nats hs) := .of e2
    refine ⟨x, _, dx, _, _, rfl, e1, T, N, rfl, ?_⟩
    walk_at "hs"
    exact q
def spParents (Z : Ad) : Sp := fun vs H Q _ => ∃ (x : Addr) (hs : List Nat) (k : Nat), vs = [.ref x, .int k] ∧ TreeAt Z H x hs ∧ IsTree hs ∧ 1 ≤ k ∧ k ≤ hs.length ∧ ∀ D H', Same H H' → H D = none → H' D = some (.tup (nats (way hs k))) → Q (.ref D) H'
theorem ok_parents {f : Addr} {fd : FuncData} (F : Fun K "parents" "parents" s_parents f fd) (B : Bl Z mg) {f_place_of : Addr} {fd_place_of : FuncData} (C_place_of : Cal K mg "place_of" f_place_of fd_place_of ["tree", "block"]) (G_place_of : FnOk P w K mg base CX0 3 f_place_of fd_place_of ["tree", "block"] (spPlace Z)) : FnOk P w K mg base CX0 4 f fd ["tree", "block"] (spParents Z) := by
  refine F.ok sc_parents (fun vs H Q E h => ?_) (fun cdv A outer s H vs Q E hr h => ?_)
  · obtain ⟨x, hs, k, rfl, _⟩ := h
    rfl
  · obtain ⟨x, hs, k, rfl, ht, it, h1, h2, q⟩ := h
    refine ⟨_, (pss_cons (ps_set (i := 2) sc_parents.nd rfl (Or.inl rfl) (pe_lst (pa_cons (pe_call G_place_of (hr.mono (by first | decide | omega)) (by rfl) C_place_of.g C_place_of.k C_place_of.b .nil pass0 (pa_cons (pv 0) (pa_cons (pv 1) pa_nil))) pa_nil)))
 (pss_cons (ps_while PassesOwn.never (pt_cmpR op_ne (pe_ix (ix_listK (K := K) rfl) (pv 2) (pe_un un_neg pe_int) (fun _ _ => rfl)) pe_int (nomark _)) (pss_one (ps_expr (pe_bmK (K := K) rfl PySem.F.plainAttrs_list PySem.F.slot_list_append PySem.F.type_list_append mt_append (pv 2) (pa_cons (pe_call G_place_of (hr.mono (by first | decide | omega)) (by rfl) C_place_of.g C_place_of.k C_place_of.b .nil pass0 (pa_cons (pv 0) (pa_cons (pe_ix (ix_listK (K := K) rfl) (pv 2) (pe_un un_neg pe_int) (fun _ _ => rfl)) pa_nil))) pa_nil)))))
 (pss_one (ps_ret (pe_callTy (call_tplK (K := K) rfl) (by rfl) B.b_tuple (by decide +kernel) (pa_cons (pv 2) pa_nil)))))), ?_⟩
    walk_at "h0"
    refine ⟨x, hs, k, rfl, ht, h1, h2, ?_⟩
    walk_at "hs"
    intro L hL
    walk_at "hs"
    refine ⟨fun m σ' H' => ∃ n : Nat, n + m = hs.length ∧ 1 ≤ n ∧ σ' = [some (.ref x), some (.int k), some (.ref L)] ∧ Same H H' ∧ (∀ j, j < n → upN hs j k ≠ 0) ∧ H' L = some (.lst (nats ((List.range n).map fun i => upN hs (i + 1) k))), ⟨hs.length - 1, 1, by omega, by omega, rfl, by walk_at "sm", fun j hj => ?_, upd_same⟩, ?_⟩
    · have e : j = 0 := by omega
      subst e
      show k ≠ 0
      omega
    · rintro m σ' H' ⟨n, hn, n1, rfl, s1, hz, eL⟩
      obtain ⟨n, rfl⟩ : ∃ n', n = n' + 1 := ⟨n - 1, by omega⟩
      have el : nats ((List.range (n + 1)).map fun i => upN hs (i + 1) k) = nats ((List.range n).map fun i => upN hs (i + 1) k) ++ [.int (upN hs (n + 1) k : Nat)] := by
        rw [List.range_succ, List.map_append, nats_append]
        rfl
      have hL1 : SqL K H' L (nats ((List.range (n + 1)).map fun i => upN hs (i + 1) k)) := .of eL
      have hat : atI (nats ((List.range (n + 1)).map fun i => upN hs (i + 1) k)) (-1) = some (.int (upN hs (n + 1) k : Nat)) := by
        rw [el]
        exact atI_last _ _
      walk_at "hs"
      refine x_isd (fun c => ?_) (fun c => ?_)
      · have c' : upN hs (n + 1) k ≠ 0 := fun e => c (by rw [e]; rfl)
        have hlt : n + 1 < hs.length := by
          refine Nat.lt_of_not_le fun hle => c' ?_
          exact upN_more (it.comes k h2) hle
        have hup := upN_le it.le (n + 1) k h2
        refine ⟨fun σ' H2 => σ' = [some (.ref x), some (.int k), some (.ref L)] ∧ Same H H2 ∧ H2 L = some (.lst (nats ((List.range (n + 1 + 1)).map fun i => upN hs (i + 1) k))), fun σ' H2 hN => ⟨m - 1, by omega, n + 1 + 1, by omega, by omega, hN.1, hN.2.1, fun j hj => ?_, hN.2.2⟩, ?_⟩
        · by_cases e : j = n + 1
          · rw [e]
            exact c'
          · exact hz j (by omega)
        · walk_at "hs"
          refine ⟨x, hs, upN hs (n + 1) k, rfl, ht.same s1, by omega, hup, ?_⟩
          walk_at "hs"
          refine x_append eL (by rw [nats_length, List.length_map, List.length_range]; exact szLt (by have := it.most; omega)) ?_
          walk_at "hs"
          refine ⟨rfl, by walk_at "sm", ?_⟩
          rw [upd_same, List.range_succ (n := n + 1), List.map_append, nats_append, List.map_cons, List.map_nil, upN_succ hs (n + 1)]
          rfl
      · have c' : upN hs (n + 1) k = 0 := by
          refine Decidable.byContradiction fun e => c fun e' => e ?_
          omega
        walk_at "hs"
        intro D hD
        refine q D _ (by walk_at "sm") (s1.free hD) ?_
        rw [upd_same, way, wayN_eq hs hs.length k (n + 1) hz c' (by omega)]
end
set_option maxRecDepth 100000
set_option maxHeartbeats 1000000
open PySem PySem.Spec L2


theorem sc_beneath : FnScope ["tree", "place", "blocks", "block"] ["tree", "place"] (defScope s_beneath) := ⟨rfl, rfl, rfl, by decide +kernel, rfl, by decide +kernel, by decide +kernel⟩
section
variable {P : Program} {w : World} {K : PySem.W.Frag} {mg : Str → Option Value} {base : Heap} {Z : Ad}
def spUnder (Z : Ad) : Sp := fun vs H Q _ => ∃ (x : Addr) (hs : List Nat) (p : Nat), vs = [.ref x, .int p] ∧ TreeAt Z H x hs ∧ IsTree hs ∧ p ≤ hs.length ∧ ∀ D H', Same H H' → H D = none → H' D = some (.tup (nats (kids hs p))) → Q (.ref D) H'
def spBeneath (Z : Ad) : Sp := fun vs H Q _ => ∃ (x : Addr) (hs : List Nat) (p : Nat), vs = [.ref x, .int p] ∧ TreeAt Z H x hs ∧ IsTree hs ∧ p ≤ hs.length ∧ ∀ D H', Same H H' → H D = none → H' D = some (.tup (nats (below hs p))) → Q (.ref D) H'
theorem ok_beneath {f : Addr} {fd : FuncData} (F : Fun K "beneath" "beneath" s_beneath f fd) (B : Bl Z mg) (T : Cls K Z.a_Tree) (N : NoAttr K Z.a_Tree "hung") {f_is_place : Addr} {fd_is_place : FuncData} (C_is_place : Cal K mg "is_place" f_is_place fd_is_place ["tree", "thing"]) (G_is_place : FnOk P w K mg base CX0 2 f_is_place fd_is_place ["tree", "thing"] (spIsB Z 0))
    {f_parents : Addr} {fd_parents : FuncData} (C_parents : Cal K mg "parents" f_parents fd_parents ["tree", "block"]) (G_parents : FnOk P w K mg base CX0 4 f_parents fd_parents ["tree", "block"] (spParents Z)) : FnOk P w K mg base CX0 5 f fd ["tree", "place"] (spBeneath Z) := by
  refine F.ok sc_beneath (fun vs H Q E h => ?_) (fun cdv A outer s H vs Q E hr h => ?_)
  · obtain ⟨x, hs, p, rfl, _⟩ := h
    rfl
  · obtain ⟨x, hs, p, rfl, ht, it, hp, q⟩ := h
    refine ⟨_, (pss_cons (ps_if (pt_not (pt_val (pe_call G_is_place (hr.mono (by first | decide | omega)) (by rfl) C_is_place.g C_is_place.k C_is_place.b .nil pass0 (pa_cons (pv 0) (pa_cons (pv 1) pa_nil))))) (pss_one ps_never) pss_nil)
 (pss_cons (ps_set (i := 2) sc_beneath.nd rfl (Or.inl rfl) (pe_callTy call_rng2 (by rfl) B.b_range (by decide +kernel) (pa_cons pe_int (pa_cons (pe_op op_add (pe_callB (call_lenK (K := K) rfl) (by rfl) B.b_len PySem.boot_len (pa_cons (pe_fldK (K := K) rfl (pv 0) rfl) pa_nil)) pe_int) pa_nil))))
 (pss_one (ps_ret (pe_callTy (call_tplK (K := K) rfl) (by rfl) B.b_tuple (by decide +kernel) (pa_cons (pe_lc (own := [("block", 3)]) rfl sc_beneath.nd (pi_rngV (pv 2)) (blkOk_by (N := ["tree", "place", "blocks", "block"]) (sc := defScope s_beneath) (by decide +kernel)) (fun _ _ _ _ _ => (pg_name (i := 3) sc_beneath.nd rfl (Or.inl rfl))) (fun _ _ _ _ _ => (pts_one (pt_cmpR (op_inK (K := K) rfl) (pv 1) (pe_call G_parents (hr.mono (by first | decide | omega)) (by rfl) C_parents.g C_parents.k C_parents.b .nil pass0 (pa_cons (pv 0) (pa_cons (pv 3) pa_nil))) (by rfl)))) (fun _ _ _ _ _ => (pv 3))) pa_nil)))))), ?_⟩
    walk_at "h0"
    refine ⟨x, hs, _, rfl, ht, True.intro, ?_⟩
    rw [num_nat (by omega) hp]
    walk_at "hs"
    obtain ⟨dx, t, h1, h2⟩ := id ht
    have h3 : SqT K H t (nats hs) := .of h2
    refine ⟨x, _, dx, _, _, rfl, h1, T, N, rfl, ?_⟩
    walk_at "hs"
    rw [nats_length]
    intro R hR
    walk_at "hs"
    have := it.most
    refine ⟨R, _, _, rfl, upd_same, ⟨by omega, by omega, by omega, by omega⟩, fun D hD => ?_⟩
    have nD : H D = none := Same.free (same_new (Same.refl _) hR) hD
    have en : Int.toNat ((hs.length : Int) + 1 - 1) = hs.length := by omega
    refine lc_range (lo := 1) (n := Int.toNat ((hs.length : Int) + 1 - 1)) (fun i H' => Same H H' ∧ H' D = some (.lst (nats ((List.range' 1 i).filter fun b => decide (p ∈ way hs b)))))
      ⟨same_mut (same_new (Same.refl _) hR) nD, upd_same⟩ ?_ ?_
    · rintro i H' hi ⟨s1, eD⟩
      walk_at "hs"
      refine ⟨rfl, ?_⟩
      walk_at "hs"
      have ec : ((1 : Int) + (i : Int)) = ((i + 1 : Nat) : Int) := by omega
      refine ⟨x, hs, i + 1, by rw [ec]; rfl, ht.same s1, it, by omega, by omega, fun U H2 s2 nU eU => ?_⟩
      have eD2 := s2 _ _ eD
      refine x_inNT (.of eU) ?_
      walk_at "hs"
      refine x_isd (fun c => ?_) (fun c => ?_)
      · walk_at "hs"
        refine ⟨_, eD2, by rw [nats_length]; exact szLt (by have := filter_len (fun b => decide (p ∈ way hs b)) i; omega), same_mut (s1.trans s2) nD, ?_⟩
        rw [upd_same, filter_snoc, if_pos (decide_eq_true c), nats_append, ec]
        rfl
      · refine ⟨s1.trans s2, ?_⟩
        rw [eD2, filter_snoc, if_neg (by rw [decide_eq_true_eq]; exact c), List.append_nil]
    · rintro H' ⟨s1, eD⟩
      rw [en] at eD
      have hL : SqL K H' D _ := .of eD
      walk_at "hs"
      intro U hU
      exact q U _ (by walk_at "sm") (s1.free hU) upd_same
def spWay (K : PySem.W.Frag) : Sp := fun vs H Q _ => ∃ (t : Addr) (hs : List Nat) (k : Nat), vs = [.ref t, .int k] ∧ SqT K H t (nats hs) ∧ (∀ x ∈ hs, x ≤ hs.length) ∧ hs.length ≤ 40 ∧ k ≤ hs.length ∧ ∀ D H', Same H H' → H D = none → H' D = some (.lst (nats (way hs k))) → Q (.ref D) H'
end
set_option maxRecDepth 100000
set_option maxHeartbeats 2000000
open PySem PySem.Spec L2


theorem sc_moved : FnScope ["tree", "block", "place"] ["tree", "block", "place"] (defScope s_moved) := ⟨rfl, rfl, rfl, by decide +kernel, rfl, by decide +kernel, by decide +kernel⟩
section
variable {P : Program} {w : World} {K : PySem.W.Frag} {mg : Str → Option Value} {base : Heap} {Z : Ad}
def spOrd (K : PySem.W.Frag) (Z : Ad) : Sp := fun vs H Q _ => ∃ (x t : Addr) (hs ms : List Nat), vs = [.ref x, .ref t] ∧ TreeAt Z H x hs ∧ IsTree hs ∧ SqT K H t (nats ms) ∧ IsOrd hs.length ms ∧ ∀ H', Same H H' → Q (.bl true) H'
def spCalled (K : PySem.W.Frag) (Z : Ad) : Sp := fun vs H Q _ => ∃ (x t : Addr) (hs ms : List Nat), vs = [.ref x, .ref t] ∧ TreeAt Z H x hs ∧ IsTree hs ∧ SqT K H t (nats ms) ∧ IsOrd hs.length ms ∧ ∀ m H', Same H H' → H m = none → TreeAt Z H' m (call2 hs ms) → Q (.ref m) H'
def spMoved (Z : Ad) : Sp := fun vs H Q E => ∃ (x : Addr) (hs : List Nat) (b p : Nat), vs = [.ref x, .int b, .int p] ∧ TreeAt Z H x hs ∧ IsTree hs ∧ 1 ≤ b ∧ b ≤ hs.length ∧ p ≤ hs.length ∧
  (p ≠ b → b ∉ way hs p → ∀ m H', Same H H' → H m = none → TreeAt Z H' m (put hs b p) → Q (.ref m) H') ∧ ((p = b ∨ b ∈ way hs p) → ∀ H', Same H H' → E (.ref Z.a_Beneath) none H')
theorem ok_moved {f fI : Addr} {fd : FuncData} (F : Fun K "moved" "moved" s_moved f fd) (B : Bl Z mg) (T : Cls K Z.a_Tree) (N : NoAttr K Z.a_Tree "hung") (X_Beneath : SupC P K Z.a_Beneath fI) {f_is_block : Addr} {fd_is_block : FuncData} (C_is_block : Cal K mg "is_block" f_is_block fd_is_block ["tree", "thing"]) (G_is_block : FnOk P w K mg base CX0 2 f_is_block fd_is_block ["tree", "thing"] (spIsB Z 1))
    {f_is_place : Addr} {fd_is_place : FuncData} (C_is_place : Cal K mg "is_place" f_is_place fd_is_place ["tree", "thing"]) (G_is_place : FnOk P w K mg base CX0 2 f_is_place fd_is_place ["tree", "thing"] (spIsB Z 0)) {f_beneath : Addr} {fd_beneath : FuncData} (C_beneath : Cal K mg "beneath" f_beneath fd_beneath ["tree", "place"]) (G_beneath : FnOk P w K mg base CX0 5 f_beneath fd_beneath ["tree", "place"] (spBeneath Z))
    {f_Tree___init__ : Addr} {fd_Tree___init__ : FuncData} (C_Tree___init__ : CalM K f_Tree___init__ fd_Tree___init__ ["self", "hung"]) (G_Tree___init__ : FnOk P w K mg base (L2.CX P w) 3 f_Tree___init__ fd_Tree___init__ ["self", "hung"] (spTree Z)) (M_Tree : Mk K Z.a_Tree f_Tree___init__) : FnOk P w K mg base (L2.CX P w) 6 f fd ["tree", "block", "place"] (spMoved Z) := by
  refine F.okX sc_moved (fun vs H Q E h => ?_) (fun cdv A outer s H vs Q E hr h => ?_)
  · obtain ⟨x, hs, b, p, rfl, _⟩ := h
    rfl
  · obtain ⟨x, hs, b, p, rfl, ht, it, b1, b2, hp, q, qe⟩ := h
    refine ⟨_, (pss_cons (ps_if (pt_not (pt_val (pe_call G_is_block (hr.mono (by first | decide | omega)) (by rfl) C_is_block.g C_is_block.k C_is_block.b .nil pass0 (pa_cons (pv 0) (pa_cons (pv 1) pa_nil))))) (pss_one ps_never) pss_nil)
 (pss_cons (ps_if (pt_not (pt_val (pe_call G_is_place (hr.mono (by first | decide | omega)) (by rfl) C_is_place.g C_is_place.k C_is_place.b .nil pass0 (pa_cons (pv 0) (pa_cons (pv 2) pa_nil))))) (pss_one ps_never) pss_nil)
 (pss_cons (ps_if (PW.pt (pw_or (pt_cmpR op_eq (pv 2) (pv 1) (nomark _)) (pw_or1 (pt_cmpR (op_inK (K := K) rfl) (pv 2) (pe_call G_beneath (hr.mono (by first | decide | omega)) (by rfl) C_beneath.g C_beneath.k C_beneath.b .nil pass0 (pa_cons (pv 0) (pa_cons (pv 1) pa_nil))) (by rfl))))) (pss_one (ps_raise rfl (takes_of rfl rfl rfl rfl) (pmk_sup X_Beneath (hr.mono (by first | decide | omega)) (by rfl) B.k_Beneath B.b_super))) pss_nil)
 (pss_one (ps_ret (pe_make M_Tree G_Tree___init__ (hr.mono (by first | decide | omega)) (by rfl) B.k_Tree C_Tree___init__.b .nil passE (pa_cons (pe_op (op_catAK (K := K) rfl) (pe_op (op_catAK (K := K) rfl) (pe_slice (sl_tupAK (K := K) rfl) (pe_fldK (K := K) rfl (pv 0) rfl) po_none (po_some (pe_op op_sub (pv 1) pe_int))) (pe_tup (pa_cons (pv 2) pa_nil))) (pe_slice (sl_tupAK (K := K) rfl) (pe_fldK (K := K) rfl (pv 0) rfl) (po_some (pv 1)) po_none)) pa_nil))))))), ?_⟩
    walk_at "h0"
    refine ⟨x, hs, _, rfl, ht, True.intro, ?_⟩
    rw [num_nat (by omega) b2]
    walk_at "hs"
    refine ⟨x, hs, _, rfl, ht, True.intro, ?_⟩
    rw [num_nat (by omega) hp]
    walk_at "hs"
    have dz : decide ((p : Int) = (b : Int)) = decide (p = b) := by
      rw [decide_eq_decide]
      omega
    refine x_isd (fun c => ?_) (fun c => ?_)
    · walk_at "hs"
      exact qe (.inl (by omega)) _ (Same.refl _)
    · have c' : p ≠ b := fun e => c (by rw [e])
      walk_at "hs"
      refine ⟨x, hs, b, rfl, ht, it, b2, fun D H1 s1 nD eD => ?_⟩
      refine x_inNT (.of eD) ?_
      walk_at "hs"
      refine x_isd (fun c2 => ?_) (fun c2 => ?_)
      · have c3 := (below_mem hp).mp c2
        walk_at "hs"
        exact qe (.inr c3) _ s1
      · have c3 : b ∉ way hs p := fun h => c2 ((below_mem hp).mpr h)
        walk_at "hs"
        refine x_make ?_
        walk_at "hs"
        have := it.most
        have nl := nats_length hs
        obtain ⟨dx, u, h1, h2⟩ := ht.same s1
        refine ⟨x, _, dx, _, _, rfl, h1, T, N, rfl, ?_⟩
        walk_at "hs"
        refine x_slA h2 fun D2 H2 s2 e2 => ?_
        rw [show ((b : Int) - 1) = ((b - 1 : Nat) : Int) by omega, cut_take] at e2
        walk_at "hs"
        intro p1 n1
        walk_at "hs"
        refine x_catA (keepN e2 n1) upd_same (by rw [List.length_take, List.length_cons, List.length_nil]; omega) fun D3 H3 s3 e3 => ?_
        have s13 : Same H1 H3 := fun a o e => s3 _ _ (keepN (s2 _ _ e) n1)
        walk_at "hs"
        refine ⟨x, _, dx, _, _, rfl, s13 _ _ h1, T, N, rfl, ?_⟩
        walk_at "hs"
        refine x_slA (s13 _ _ h2) fun D4 H4 s4 e4 => ?_
        rw [cut_drop] at e4
        refine x_catA (s4 _ _ e3) e4 (by rw [List.length_append, List.length_take, List.length_drop, List.length_cons, List.length_nil]; omega) fun D5 H5 s5 e5 => ?_
        rw [put_cut b1 b2] at e5
        walk_at "hs"
        refine make_tree (Q := Q) (put_tree it b1 b2 hp c' c3) e5 fun m H6 nm s6 tr => ?_
        have s05 : Same H H5 := fun a o e => s5 _ _ (s4 _ _ (s13 _ _ (s1 _ _ e)))
        exact q c' c3 m H6 (s05.trans s6) (s05.free nm) tr
end
set_option maxRecDepth 100000
set_option maxHeartbeats 1000000
open PySem PySem.Spec L2


theorem sc__is_tuple_of : FnScope ["many", "thing"] ["many", "thing"] (defScope s__is_tuple_of) := ⟨rfl, rfl, rfl, by decide +kernel, rfl, by decide +kernel, by decide +kernel⟩
theorem sc__is_up : FnScope ["blocks", "block", "thing"] ["blocks", "block", "thing"] (defScope s__is_up) := ⟨rfl, rfl, rfl, by decide +kernel, rfl, by decide +kernel, by decide +kernel⟩
theorem sc__is_listing : FnScope ["place", "block", "thing"] ["place", "block", "thing"] (defScope s__is_listing) := ⟨rfl, rfl, rfl, by decide +kernel, rfl, by decide +kernel, by decide +kernel⟩
theorem sc_Words___init__ : FnScope ["self", "blocks", "ups", "lists", "block", "place"] ["self", "blocks", "ups", "lists"] (defScope s_Words___init__) := ⟨rfl, rfl, rfl, by decide +kernel, rfl, by decide +kernel, by decide +kernel⟩
theorem putF_len (f : Str) (v : V) : ∀ fs : List (Str × V), (putF f v fs).length ≤ fs.length + 1
  | [] => Nat.le_refl _
  | (g, x) :: r => by
    have ih := putF_len f v r
    unfold putF
    split
    · simp
    · rw [List.length_cons, List.length_cons]
      omega
def refs (as : List Addr) : List V := as.map V.ref
theorem refs_length (as : List Addr) : (refs as).length = as.length := List.length_map ..
theorem refs_get {as : List Addr} {i : Nat} {a : Addr} (h : as[i]? = some a) : (refs as)[i]? = some (.ref a) := by
  unfold refs
  rw [List.getElem?_map, h]
  rfl
theorem refs_app (c d : List Addr) : refs (c ++ d) = refs c ++ refs d := List.map_append ..
/-- rows, told by where they are -/
structure Rows (H : Hp) (as : List Addr) (ls : List (List (Option Bool))) : Prop where
  len : as.length = ls.length
  at_ : ∀ (i : Nat) (a : Addr) (r : List (Option Bool)), as[i]? = some a → ls[i]? = some r → H a = some (.tup (wds r))
theorem Rows.same {H H' : Hp} {as : List Addr} {ls : List (List (Option Bool))} (s : Same H H') (h : Rows H as ls) : Rows H' as ls := ⟨h.len, fun i a r ha hr => s _ _ (h.at_ i a r ha hr)⟩
theorem Rows.but {H H' : Hp} {p : Addr} {as : List Addr} {ls : List (List (Option Bool))} (b : But p H H') (n : ∀ xs, H p ≠ some (.tup xs)) (h : Rows H as ls) : Rows H' as ls := ⟨h.len, fun i a r ha hr => b _ _ (fun e => n _ (e ▸ h.at_ i a r ha hr)) (h.at_ i a r ha hr)⟩
theorem Rows.get {H : Hp} {as : List Addr} {ls : List (List (Option Bool))} (h : Rows H as ls) {i : Nat} (hi : i < ls.length) : ∃ a, as[i]? = some a ∧ H a = some (.tup (wds ls[i])) := by
  have h1 : i < as.length := by rw [h.len]; exact hi
  exact ⟨as[i], List.getElem?_eq_getElem h1, h.at_ i _ _ (List.getElem?_eq_getElem h1) (List.getElem?_eq_getElem hi)⟩
/-- the class of words -/
structure WCls (K : PySem.W.Frag) (Z : Ad) : Prop where
  c : Cls K Z.a_Words
  nb : NoAttr K Z.a_Words "blocks"
  nu : NoAttr K Z.a_Words "ups"
  nl : NoAttr K Z.a_Words "lists"
/-- words at x -/
def WordsAt (Z : Ad) (H : Hp) (x : Addr) (n : Nat) (us : List (Option Nat)) (ls : List (List (Option Bool))) : Prop := ∃ dx fs tu tl as, H x = some (.ins Z.a_Words dx fs) ∧ fs.lookup ("blocks" : Str) = some (.int n) ∧ fs.lookup ("ups" : Str) = some (.ref tu) ∧ fs.lookup ("lists" : Str) = some (.ref tl) ∧ H tu = some (.tup (upvs us)) ∧ H tl = some (.tup (refs as)) ∧ Rows H as ls
theorem WordsAt.same {Z : Ad} {H H' : Hp} {x : Addr} {n : Nat} {us : List (Option Nat)} {ls : List (List (Option Bool))} (s : Same H H') (h : WordsAt Z H x n us ls) : WordsAt Z H' x n us ls := by
  obtain ⟨dx, fs, tu, tl, as, h1, h2, h3, h4, h5, h6, h7⟩ := h
  exact ⟨dx, fs, tu, tl, as, s _ _ h1, h2, h3, h4, s _ _ h5, s _ _ h6, h7.same s⟩
section
variable {P : Program} {w : World} {K : PySem.W.Frag} {mg : Str → Option Value} {base : Heap} {Z : Ad}
def spIsTup : Sp := fun vs H Q _ => ∃ (m : Int) (t : Addr) (xs : List V), vs = [.int m, .ref t] ∧ H t = some (.tup xs) ∧ (xs.length : Int) = m ∧ Q (.bl true) H
theorem ok_isTup {f : Addr} {fd : FuncData} (F : Fun K "_is_tuple_of" "_is_tuple_of" s__is_tuple_of f fd) (B : Bl Z mg) : FnOk P w K mg base CX0 1 f fd ["many", "thing"] spIsTup := by
  refine F.ok sc__is_tuple_of (fun vs H Q E h => ?_) (fun cdv A outer s H vs Q E hr h => ?_)
  · obtain ⟨m, t, xs, rfl, _⟩ := h
    rfl
  · obtain ⟨m, t, xs, rfl, ht, hm, q⟩ := h
    refine ⟨_, (pss_one (ps_ret (pe_and (pe_callB (call_isiK' (K := K) rfl) (by rfl) B.b_isinstance (by decide +kernel) (pa_cons (pv 1) (pa_cons (pe_bltn (v := .ty "tuple") (by rfl) B.b_tuple (by decide +kernel) rfl) pa_nil))) (pe_one (pe_cmpR op_eq (pe_callB (call_lenK (K := K) rfl) (by rfl) B.b_len PySem.boot_len (pa_cons (pv 1) pa_nil)) (pv 0) (nomark _)))))), ?_⟩
    walk_at "h0"
    rw [decide_eq_true hm]
    exact q
def spIsUp : Sp := fun vs H Q _ => ∃ (n : Nat) (b : Int) (o : Option Nat), vs = [.int n, .int b, upV o] ∧ (∀ q, o = some q → q ≤ n ∧ (q : Int) ≠ b) ∧ Q (.bl true) H
theorem ok_isUp {f : Addr} {fd : FuncData} (F : Fun K "_is_up" "_is_up" s__is_up f fd) (B : Bl Z mg) {f_is_within : Addr} {fd_is_within : FuncData} (C_is_within : Cal K mg "is_within" f_is_within fd_is_within ["least", "most", "thing"]) (G_is_within : FnOk P w K mg base CX0 1 f_is_within fd_is_within ["least", "most", "thing"] spWithin) : FnOk P w K mg base CX0 2 f fd ["blocks", "block", "thing"] spIsUp := by
  refine F.ok sc__is_up (fun vs H Q E h => ?_) (fun cdv A outer s H vs Q E hr h => ?_)
  · obtain ⟨n, b, o, rfl, _⟩ := h
    rfl
  · obtain ⟨n, b, o, rfl, ho, q⟩ := h
    refine ⟨_, (pss_one (ps_ret (pe_or (pe_cmpR op_isNk (pv 2) pe_non (nomark _)) (pe_one (pe_and (pe_call G_is_within (hr.mono (by first | decide | omega)) (by rfl) C_is_within.g C_is_within.k C_is_within.b .nil pass0 (pa_cons pe_int (pa_cons (pv 0) (pa_cons (pv 2) pa_nil)))) (pe_one (pe_cmpR op_ne (pv 2) (pv 1) (nomark _)))))))), ?_⟩
    cases o with
    | none =>
      dsimp only [upV]
      walk_at "h0"
      exact q
    | some k =>
      dsimp only [upV]
      walk_at "h0"
      obtain ⟨h1, h2⟩ := ho k rfl
      refine ⟨_, _, _, rfl, True.intro, ?_⟩
      rw [num_nat (by omega) h1]
      walk_at "hs"
      rw [decide_eq_true h2]
      exact q
def spIsLst : Sp := fun vs H Q _ => ∃ (p b : Int) (o : Option Bool), vs = [.int p, .int b, wdV o] ∧ (p = b → o = some false) ∧ Q (.bl true) H
theorem ok_isLst {f : Addr} {fd : FuncData} (F : Fun K "_is_listing" "_is_listing" s__is_listing f fd) (B : Bl Z mg) : FnOk P w K mg base CX0 1 f fd ["place", "block", "thing"] spIsLst := by
  refine F.ok sc__is_listing (fun vs H Q E h => ?_) (fun cdv A outer s H vs Q E hr h => ?_)
  · obtain ⟨p, b, o, rfl, _⟩ := h
    rfl
  · obtain ⟨p, b, o, rfl, ho, q⟩ := h
    refine ⟨_, (pss_cons (ps_if (pt_cmpR op_eq (pv 0) (pv 1) (nomark _)) (pss_one (ps_ret (pe_cmpR op_isBk (pv 2) pe_bl (nomark _)))) pss_nil)
 (pss_one (ps_ret (pe_or (pe_cmpR op_isNk (pv 2) pe_non (nomark _)) (pe_one (pe_callB (call_isiK' (K := K) rfl) (by rfl) B.b_isinstance (by decide +kernel) (pa_cons (pv 2) (pa_cons (pe_bltn (v := .ty "bool") (by rfl) B.b_bool (by decide +kernel) rfl) pa_nil)))))))), ?_⟩
    walk_at "h0"
    refine x_isd (fun c => ?_) (fun c => ?_)
    · walk_at "hs"
      rw [decide_eq_true (ho c)]
      exact q
    · walk_at "hs"
      cases o with
      | none =>
        dsimp only [wdV]
        walk_at "hs"
        exact q
      | some k =>
        dsimp only [wdV]
        walk_at "hs"
        exact q
def spWords (Z : Ad) : Sp := fun vs H Q _ => ∃ (x dx tu tl : Addr) (n : Nat) (us : List (Option Nat)) (ls : List (List (Option Bool))) (as : List Addr), vs = [.ref x, .int n, .ref tu, .ref tl] ∧ H x = some (.ins Z.a_Words dx []) ∧ H tu = some (.tup (upvs us)) ∧ H tl = some (.tup (refs as)) ∧ Rows H as ls ∧ WdOk n us ls ∧
  ∀ H', But x H H' → WordsAt Z H' x n us ls → Q .non H'
theorem ok_words {f : Addr} {fd : FuncData} (F : Fun K "__init__" "Words.__init__" s_Words___init__ f fd) (B : Bl Z mg) (W : WCls K Z) {f_is_within : Addr} {fd_is_within : FuncData} (C_is_within : Cal K mg "is_within" f_is_within fd_is_within ["least", "most", "thing"]) (G_is_within : FnOk P w K mg base CX0 1 f_is_within fd_is_within ["least", "most", "thing"] spWithin) {f__is_tuple_of : Addr} {fd__is_tuple_of : FuncData} (C__is_tuple_of : Cal K mg "_is_tuple_of" f__is_tuple_of fd__is_tuple_of ["many", "thing"]) (G__is_tuple_of : FnOk P w K mg base CX0 1 f__is_tuple_of fd__is_tuple_of ["many", "thing"] spIsTup)
    {f__is_up : Addr} {fd__is_up : FuncData} (C__is_up : Cal K mg "_is_up" f__is_up fd__is_up ["blocks", "block", "thing"]) (G__is_up : FnOk P w K mg base CX0 2 f__is_up fd__is_up ["blocks", "block", "thing"] spIsUp) {f__is_listing : Addr} {fd__is_listing : FuncData} (C__is_listing : Cal K mg "_is_listing" f__is_listing fd__is_listing ["place", "block", "thing"]) (G__is_listing : FnOk P w K mg base CX0 1 f__is_listing fd__is_listing ["place", "block", "thing"] spIsLst) : FnOk P w K mg base CX0 3 f fd ["self", "blocks", "ups", "lists"] (spWords Z) := by
  refine F.ok sc_Words___init__ (fun vs H Q E h => ?_) (fun cdv A outer s H vs Q E hr h => ?_)
  · obtain ⟨x, dx, tu, tl, n, us, ls, as, rfl, _⟩ := h
    rfl
  · obtain ⟨x, dx, tu, tl, n, us, ls, as, rfl, hx, hu, hl, hw, ok, q⟩ := h
    refine ⟨_, (pss_cons (ps_if (pt_not (pt_val (pe_call G_is_within (hr.mono (by first | decide | omega)) (by rfl) C_is_within.g C_is_within.k C_is_within.b .nil pass0 (pa_cons pe_int (pa_cons (pe_glob (v := .int (40)) rfl B.c_MOST_BLOCKS ⟨_, rfl⟩) (pa_cons (pv 1) pa_nil)))))) (pss_one ps_never) pss_nil)
 (pss_cons (ps_if (pt_not (pt_val (pe_call G__is_tuple_of (hr.mono (by first | decide | omega)) (by rfl) C__is_tuple_of.g C__is_tuple_of.k C__is_tuple_of.b .nil pass0 (pa_cons (pv 1) (pa_cons (pv 2) pa_nil))))) (pss_one ps_never) pss_nil)
 (pss_cons (ps_for PassesOwn.never rfl (pi_range2 rfl B.b_range (pa_cons pe_int (pa_cons (pe_op op_add (pv 1) pe_int) pa_nil))) (pg_name (i := 4) sc_Words___init__.nd rfl (Or.inl rfl)) (pss_one (ps_if (pt_not (pt_val (pe_call G__is_up (hr.mono (by first | decide | omega)) (by rfl) C__is_up.g C__is_up.k C__is_up.b .nil pass0 (pa_cons (pv 1) (pa_cons (pv 4) (pa_cons (pe_ix (ix_tupK (K := K) rfl) (pv 2) (pe_op op_sub (pv 4) pe_int) (fun _ _ => rfl)) pa_nil)))))) (pss_one ps_never) pss_nil)))
 (pss_cons (ps_if (pt_not (pt_val (pe_call G__is_tuple_of (hr.mono (by first | decide | omega)) (by rfl) C__is_tuple_of.g C__is_tuple_of.k C__is_tuple_of.b .nil pass0 (pa_cons (pe_op op_add (pv 1) pe_int) (pa_cons (pv 3) pa_nil))))) (pss_one ps_never) pss_nil)
 (pss_cons (ps_for PassesOwn.never rfl (pi_range1 rfl B.b_range (pa_cons (pe_op op_add (pv 1) pe_int) pa_nil)) (pg_name (i := 5) sc_Words___init__.nd rfl (Or.inl rfl)) (pss_one (ps_if (pt_not (pt_val (pe_call G__is_tuple_of (hr.mono (by first | decide | omega)) (by rfl) C__is_tuple_of.g C__is_tuple_of.k C__is_tuple_of.b .nil pass0 (pa_cons (pv 1) (pa_cons (pe_ix (ix_tupK (K := K) rfl) (pv 3) (pv 5) (fun _ _ => rfl)) pa_nil))))) (pss_one ps_never) pss_nil)))
 (pss_cons (ps_for PassesOwn.never rfl (pi_range1 rfl B.b_range (pa_cons (pe_op op_add (pv 1) pe_int) pa_nil)) (pg_name (i := 5) sc_Words___init__.nd rfl (Or.inl rfl)) (pss_one (ps_for PassesOwn.never rfl (pi_range2 rfl B.b_range (pa_cons pe_int (pa_cons (pe_op op_add (pv 1) pe_int) pa_nil))) (pg_name (i := 4) sc_Words___init__.nd rfl (Or.inl rfl)) (pss_one (ps_if (pt_not (pt_val (pe_call G__is_listing (hr.mono (by first | decide | omega)) (by rfl) C__is_listing.g C__is_listing.k C__is_listing.b .nil pass0 (pa_cons (pv 5) (pa_cons (pv 4) (pa_cons (pe_ix (ix_tupK (K := K) rfl) (pe_ix (ix_tupK (K := K) rfl) (pv 3) (pv 5) (fun _ _ => rfl)) (pe_op op_sub (pv 4) pe_int) (fun _ _ => rfl)) pa_nil)))))) (pss_one ps_never) pss_nil)))))
 (pss_cons (ps_fld (pv 0) (pv 1) rfl)
 (pss_cons (ps_fld (pv 0) (pv 2) rfl)
 (pss_one (ps_fld (pv 0) (pv 3) rfl)))))))))), ?_⟩
    have n1 := ok.n1
    have n2 := ok.n2
    have uln := ok.ul
    have lln := ok.ll
    have asn : as.length = n + 1 := by rw [hw.len, lln]
    walk_at "h0"
    refine ⟨_, _, _, rfl, True.intro, ?_⟩
    rw [show numV 1 40 (.int (n : Nat)) = true from num_nat (n := 40) (by omega) (by omega)]
    walk_at "hs"
    refine ⟨_, tu, _, rfl, hu, by rw [upvs_length, uln], ?_⟩
    walk_at "hs"
    refine ⟨1, (n : Int) + 1, rfl, ⟨by omega, by omega, by omega, by omega⟩, ?_⟩
    refine lp_range (lo := 1) (n := Int.toNat ((n : Int) + 1 - 1)) (fun i σ' H' => (∃ x4 x5, σ' = [some (.ref x), some (.int n), some (.ref tu), some (.ref tl), x4, x5]) ∧ H' = H)
      ⟨⟨_, _, rfl⟩, rfl⟩ ?_ ?_
    · rintro i σ' H' hi ⟨⟨x4, x5, rfl⟩, rfl⟩
      have hi' : i < us.length := by omega
      have ha := at_pred (upvs_get (List.getElem?_eq_getElem hi'))
      have ht : SqT K H' tu (upvs us) := .of hu
      walk_at "hs"
      refine ⟨n, _, _, rfl, fun k hk => ?_, ?_⟩
      · have := ok.uo i k (by rw [List.getElem?_eq_getElem hi', hk])
        exact ⟨this.1, fun e => this.2 (by omega)⟩
      walk_at "hs"
      exact ⟨⟨_, _, rfl⟩, rfl⟩
    rintro σ' H' ⟨⟨x4, x5, rfl⟩, rfl⟩
    walk_at "hs"
    refine ⟨_, tl, _, rfl, hl, by rw [refs_length, asn]; rfl, ?_⟩
    walk_at "hs"
    refine ⟨(n : Int) + 1, rfl, by omega, by omega, ?_⟩
    have tt : SqT K H' tl (refs as) := .of hl
    have row : ∀ i : Nat, i < n + 1 → ∃ a, ∃ h : i < ls.length, atI (refs as) (0 + (i : Int)) = some (.ref a) ∧ H' a = some (.tup (wds ls[i])) := fun i hi => by
      obtain ⟨a, ha, he⟩ := hw.get (i := i) (by omega)
      refine ⟨a, by omega, ?_, he⟩
      rw [Int.zero_add]
      exact atI_nat (refs_get ha)
    refine lp_range (lo := 0) (n := Int.toNat ((n : Int) + 1)) (fun i σ' H2 => (∃ x4 x5, σ' = [some (.ref x), some (.int n), some (.ref tu), some (.ref tl), x4, x5]) ∧ H2 = H')
      ⟨⟨_, _, rfl⟩, rfl⟩ ?_ ?_
    · rintro i σ' H2 hi ⟨⟨x4, x5, rfl⟩, rfl⟩
      obtain ⟨a, hil, ha, he⟩ := row i (by omega)
      walk_at "hs"
      refine ⟨_, a, _, rfl, he, by rw [wds_length, ok.rl _ (List.getElem_mem hil)], ?_⟩
      walk_at "hs"
      exact ⟨⟨_, _, rfl⟩, rfl⟩
    rintro σ' H2 ⟨⟨x4, x5, rfl⟩, rfl⟩
    walk_at "hs"
    refine ⟨(n : Int) + 1, rfl, by omega, by omega, ?_⟩
    refine lp_range (lo := 0) (n := Int.toNat ((n : Int) + 1)) (fun i σ' H3 => (∃ x4 x5, σ' = [some (.ref x), some (.int n), some (.ref tu), some (.ref tl), x4, x5]) ∧ H3 = H2)
      ⟨⟨_, _, rfl⟩, rfl⟩ ?_ ?_
    · rintro i σ' H3 hi ⟨⟨x4, x5, rfl⟩, rfl⟩
      obtain ⟨a, hil, ha, he⟩ := row i (by omega)
      have rln := ok.rl _ (List.getElem_mem hil)
      walk_at "hs"
      refine ⟨1, (n : Int) + 1, rfl, ⟨by omega, by omega, by omega, by omega⟩, ?_⟩
      refine lp_range (lo := 1) (n := Int.toNat ((n : Int) + 1 - 1)) (fun j σ' H4 => (∃ x4, σ' = [some (.ref x), some (.int n), some (.ref tu), some (.ref tl), x4, some (.int (0 + (i : Int)))]) ∧ H4 = H3)
        ⟨⟨_, rfl⟩, rfl⟩ ?_ ?_
      · rintro j σ' H4 hj ⟨⟨x4, rfl⟩, rfl⟩
        have hjl : j < ls[i].length := by omega
        have hb := at_pred (wds_get (List.getElem?_eq_getElem hjl))
        have ht : SqT K H4 a (wds ls[i]) := .of he
        walk_at "hs"
        refine ⟨_, _, _, rfl, fun e => ?_, ?_⟩
        · have := ok.dg i ls[i] (List.getElem?_eq_getElem hil) (by omega)
          rw [show i - 1 = j by omega, List.getElem?_eq_getElem hjl] at this
          exact Option.some.inj this
        walk_at "hs"
        exact ⟨⟨_, rfl⟩, rfl⟩
      · rintro σ' H4 ⟨⟨x4, rfl⟩, rfl⟩
        exact ⟨⟨_, _, rfl⟩, rfl⟩
    rintro σ' H3 ⟨⟨x4, x5, rfl⟩, rfl⟩
    walk_at "hs"
    refine ⟨x, _, dx, _, rfl, hx, W.c, W.nb, by decide, ?_⟩
    walk_at "hs"
    refine ⟨x, _, dx, _, rfl, upd_same, W.c, W.nu, Nat.lt_of_le_of_lt (putF_len ..) (by decide), ?_⟩
    walk_at "hs"
    refine ⟨x, _, dx, _, rfl, upd_same, W.c, W.nl, Nat.lt_of_le_of_lt (putF_len ..) (Nat.lt_of_le_of_lt (Nat.succ_le_succ (putF_len ..)) (by decide)), ?_⟩
    walk_at "hs"
    have nu : tu ≠ x := fun e => by
      rw [e, hx] at hu
      cases hu
    have nl : tl ≠ x := fun e => by
      rw [e, hx] at hl
      cases hl
    refine q _ (((But.refl x H3).mut).mut.mut) ⟨dx, _, tu, tl, as, upd_same, rfl, rfl, rfl, keepM nu (keepM nu (keepM nu hu)), keepM nl (keepM nl (keepM nl hl)), ?_⟩
    exact hw.but (((But.refl x H3).mut).mut.mut) fun xs e => by
      rw [hx] at e
      cases e
end
set_option maxRecDepth 100000
set_option maxHeartbeats 1000000
open PySem PySem.Spec L2


theorem sc_words_of_ups : FnScope ["ups", "places", "lists", "place", "up"] ["ups"] (defScope s_words_of_ups) := ⟨rfl, rfl, rfl, by decide +kernel, rfl, by decide +kernel, by decide +kernel⟩
theorem sc_words_of : FnScope ["tree"] ["tree"] (defScope s_words_of) := ⟨rfl, rfl, rfl, by decide +kernel, rfl, by decide +kernel, by decide +kernel⟩
theorem upvs_some (hs : List Nat) : upvs (rightU hs) = nats hs := by
  unfold upvs rightU nats
  rw [List.map_map]
  rfl
section
variable {P : Program} {w : World} {K : PySem.W.Frag} {mg : Str → Option Value} {base : Heap} {Z : Ad}
theorem make_words {H : Hp} {Q : VK} {E : XK} {tu tl : Addr} {n : Nat} {us : List (Option Nat)} {ls : List (List (Option Bool))} {as : List Addr} (hu : H tu = some (.tup (upvs us))) (hl : H tl = some (.tup (refs as))) (hr : Rows H as ls) (ok : WdOk n us ls) (q : ∀ m H', H m = none → Same H H' → WordsAt Z H' m n us ls → Q (.ref m) H') :
    ∀ x dx, H x = none → H dx = none → dx ≠ x → spWords Z (.ref x :: ([.int n, .ref tu, .ref tl] ++ [])) (upd (upd H dx (.own x)) x (.ins Z.a_Words dx [])) (fun v H2 => v = .non ∧ Q (.ref x) H2) E := by
  intro m dm hm hdm ne
  have hm2 : upd H dm (.own m) m = none := by
    rw [upd_ne (Ne.symm ne)]
    exact hm
  have s0 : Same H (upd (upd H dm (.own m)) m (.ins Z.a_Words dm [])) := same_new (same_new (Same.refl H) hdm) hm2
  refine ⟨m, dm, tu, tl, n, us, ls, as, rfl, upd_same, s0 _ _ hu, s0 _ _ hl, hr.same s0, ok, fun H' b1 hw => ⟨rfl, ?_⟩⟩
  have s1 : Same H H' := fun b o e => b1 _ _ (ne_of_none e hm) (s0 _ _ e)
  exact q m H' hm s1 hw
def spWof (K : PySem.W.Frag) (Z : Ad) : Sp := fun vs H Q _ => ∃ (t : Addr) (hs : List Nat), vs = [.ref t] ∧ H t = some (.tup (nats hs)) ∧ IsTree hs ∧ ∀ m H', H m = none → Same H H' → WordsAt Z H' m hs.length (rightU hs) (rightL hs) → Q (.ref m) H'
theorem ok_wofUps {f : Addr} {fd : FuncData} (F : Fun K "words_of_ups" "words_of_ups" s_words_of_ups f fd) (B : Bl Z mg) {f_Words___init__ : Addr} {fd_Words___init__ : FuncData} (C_Words___init__ : CalM K f_Words___init__ fd_Words___init__ ["self", "blocks", "ups", "lists"]) (G_Words___init__ : FnOk P w K mg base CX0 3 f_Words___init__ fd_Words___init__ ["self", "blocks", "ups", "lists"] (spWords Z)) (M_Words : Mk K Z.a_Words f_Words___init__) : FnOk P w K mg base CX0 5 f fd ["ups"] (spWof K Z) := by
  refine F.ok sc_words_of_ups (fun vs H Q E h => ?_) (fun cdv A outer s H vs Q E hr h => ?_)
  · obtain ⟨t, hs, rfl, _⟩ := h
    rfl
  · obtain ⟨t, hs, rfl, ht, it, q⟩ := h
    refine ⟨_, (pss_cons (ps_set (i := 1) sc_words_of_ups.nd rfl (Or.inl rfl) (pe_callTy call_rng1 (by rfl) B.b_range (by decide +kernel) (pa_cons (pe_op op_add (pe_callB (call_lenK (K := K) rfl) (by rfl) B.b_len PySem.boot_len (pa_cons (pv 0) pa_nil)) pe_int) pa_nil)))
 (pss_cons (ps_setLc (i := 2) (own := [("place", 3)]) rfl sc_words_of_ups.nd rfl rfl (sw_true rfl rfl rfl (by decide +kernel)) (pi_rngV (pv 1)) (blkOk_by (N := ["ups", "places", "lists", "place", "up"]) (sc := defScope s_words_of_ups) (by decide +kernel)) (fun _ _ _ _ _ => (pg_name (i := 3) sc_words_of_ups.nd rfl (Or.inr rfl))) (fun _ _ _ _ _ => pts_nil) (fun _ _ _ _ _ => (pe_callTy (call_tplK (K := K) rfl) (by rfl) B.b_tuple (by decide +kernel) (pa_cons (pe_lc (own := [("up", 4)]) rfl sc_words_of_ups.nd (pi_tupK (K := K) rfl (pv 0)) (blkOk_nest (N := ["ups", "places", "lists", "place", "up"]) (sc := defScope s_words_of_ups) (by decide +kernel) rfl) (fun _ _ _ _ _ => (pg_name (i := 4) sc_words_of_ups.nd rfl (Or.inl rfl))) (fun _ _ _ _ _ => pts_nil) (fun _ _ _ _ _ => (pe_cmpR op_eq (pv 4) (pv 3) (nomark _)))) pa_nil))))
 (pss_one (ps_ret (pe_make M_Words G_Words___init__ (hr.mono (by first | decide | omega)) (by rfl) B.k_Words C_Words___init__.b .nil pass0 (pa_cons (pe_callB (call_lenK (K := K) rfl) (by rfl) B.b_len PySem.boot_len (pa_cons (pv 0) pa_nil)) (pa_cons (pv 0) (pa_cons (pe_callTy (call_tplK (K := K) rfl) (by rfl) B.b_tuple (by decide +kernel) (pa_cons (pv 2) pa_nil)) pa_nil)))))))), ?_⟩
    walk_at "h0"
    rw [nats_length]
    refine ⟨_, rfl, fun R hR => ?_⟩
    walk_at "hs"
    have h40 := it.most
    refine ⟨R, _, _, rfl, upd_same, ⟨by omega, by omega, by omega, by omega⟩, fun D hD => ?_⟩
    have nD : H D = none := Same.free (same_new (Same.refl _) hR) hD
    refine lc_range (lo := 0) (n := Int.toNat ((hs.length : Int) + 1 - 0)) (fun i H' => Same H H' ∧ ∃ as : List Addr, as.length = i ∧ H' D = some (.lst (refs as)) ∧ ∀ (k : Nat) (a : Addr), as[k]? = some a → H' a = some (.tup (wds (hs.map fun h => some (decide (h = k))))))
      ⟨same_mut (same_new (Same.refl _) hR) nD, [], rfl, upd_same, fun k a h => by cases h⟩ ?_ ?_
    · rintro i H' hi ⟨s1, as, la, eD, rows⟩
      have ht1 : SqT K H' t (nats hs) := .of (s1 _ _ ht)
      walk_at "hs"
      refine ⟨rfl, ?_⟩
      walk_at "hs"
      refine ⟨t, rfl, ⟨_, ht1⟩, fun D2 hD2 => ?_⟩
      refine lc_tup (K := K) (xs := nats hs) (fun j H2 => Same H' H2 ∧ H2 D2 = some (.lst (wds ((hs.take j).map fun h => some (decide (h = i)))))) ⟨same_new (Same.refl _) hD2, upd_same⟩ (fun j H2 _ h => h.1.seqT ht1) ?_ ?_
      · rintro j v H2 hv ⟨s2, eD2⟩
        have hj : j < hs.length := by
          have := (List.getElem?_eq_some_iff.mp hv).1
          rwa [nats_length] at this
        have hv2 : v = .int (hs[j] : Nat) := by
          have e := nats_get (List.getElem?_eq_getElem hj)
          rw [hv] at e
          exact Option.some.inj e
        subst hv2
        walk_at "hs"
        refine ⟨rfl, ?_⟩
        walk_at "hs"
        refine ⟨_, eD2, szLt (by rw [wds_length, List.length_map, List.length_take]; omega), same_mut s2 hD2, ?_⟩
        rw [upd_same, List.take_succ, List.getElem?_eq_getElem hj, List.map_append, wds_app]
        have e : decide (((hs[j] : Nat) : Int) = 0 + (i : Int)) = decide (hs[j] = i) := by
          rw [decide_eq_decide]
          omega
        rw [e]
        rfl
      · rintro H2 ⟨s2, eD2⟩
        rw [nats_length, List.take_length] at eD2
        walk_at "hs"
        intro U hU
        have hUD : U ≠ D := Ne.symm (ne_of_none (s2 _ _ eD) hU)
        refine ⟨refs as, keepN (s2 _ _ eD) hU, szLt (by rw [refs_length]; omega), same_mut (same_new (s1.trans s2) hU) nD, as ++ [U], by rw [List.length_append, la]; rfl, by rw [upd_same, refs_app]; rfl, fun k a h => ?_⟩
        rcases Nat.lt_or_ge k as.length with hk | hk
        · rw [List.getElem?_append_left hk] at h
          have e := rows k a h
          exact keepM (fun z => by rw [z, eD] at e; cases e) (keepN (s2 _ _ e) hU)
        · rw [List.getElem?_append_right hk] at h
          have hk0 : k - as.length = 0 := by
            have := (List.getElem?_eq_some_iff.mp h).1
            rw [List.length_singleton] at this
            omega
          rw [hk0] at h
          have ea : U = a := Option.some.inj h
          subst ea
          have ek : k = i := by omega
          subst ek
          exact keepM hUD upd_same
    · rintro H' ⟨s1, as, la, eD, rows⟩
      walk_at "hs"
      refine x_make ?_
      have ht1 : SqT K H' t (nats hs) := .of (s1 _ _ ht)
      walk_at "hs"
      rw [nats_length]
      walk_at "hs"
      intro U hU
      walk_at "hs"
      have s2 : Same H (upd H' U (.tup (refs as))) := same_new s1 hU
      refine make_words (tu := t) (us := rightU hs) (ls := rightL hs) (as := as) (by rw [upvs_some]; exact s2 _ _ ht) upd_same ⟨by rw [la, rightL_len]; omega, fun k a r ha hr => ?_⟩ (right_ok it) fun m H3 nm s3 hw => q m H3 (s2.free nm) (s2.trans s3) hw
      have hk := (List.getElem?_eq_some_iff.mp ha).1
      rw [rightL_get (by omega)] at hr
      cases hr
      exact keepN (rows k a ha) hU
def spWordsOf (Z : Ad) : Sp := fun vs H Q _ => ∃ (x : Addr) (hs : List Nat), vs = [.ref x] ∧ TreeAt Z H x hs ∧ IsTree hs ∧ ∀ m H', H m = none → Same H H' → WordsAt Z H' m hs.length (rightU hs) (rightL hs) → Q (.ref m) H'
theorem ok_wordsOf {f : Addr} {fd : FuncData} (F : Fun K "words_of" "words_of" s_words_of f fd) (B : Bl Z mg) (T : Cls K Z.a_Tree) (N : NoAttr K Z.a_Tree "hung") {f_words_of_ups : Addr} {fd_words_of_ups : FuncData} (C_words_of_ups : Cal K mg "words_of_ups" f_words_of_ups fd_words_of_ups ["ups"]) (G_words_of_ups : FnOk P w K mg base CX0 5 f_words_of_ups fd_words_of_ups ["ups"] (spWof K Z)) : FnOk P w K mg base CX0 6 f fd ["tree"] (spWordsOf Z) := by
  refine F.ok sc_words_of (fun vs H Q E h => ?_) (fun cdv A outer s H vs Q E hr h => ?_)
  · obtain ⟨x, hs, rfl, _⟩ := h
    rfl
  · obtain ⟨x, hs, rfl, ⟨dx, t, h1, h2⟩, it, q⟩ := h
    refine ⟨_, (pss_one (ps_ret (pe_call G_words_of_ups (hr.mono (by first | decide | omega)) (by rfl) C_words_of_ups.g C_words_of_ups.k C_words_of_ups.b .nil pass0 (pa_cons (pe_fldK (K := K) rfl (pv 0) rfl) pa_nil)))), ?_⟩
    walk_at "h0"
    refine ⟨x, _, dx, _, _, rfl, h1, T, N, rfl, ?_⟩
    walk_at "hs"
    exact ⟨t, hs, rfl, h2, it, q⟩
end
set_option maxRecDepth 100000
set_option maxHeartbeats 1000000
open PySem PySem.Spec L2


theorem sc_costs : FnScope ["words", "block", "up", "listed", "many", "found", "place", "wrong", "of_place"] ["words", "block"] (defScope s_costs) := ⟨rfl, rfl, rfl, by decide +kernel, rfl, by decide +kernel, by decide +kernel⟩
theorem sc_cost : FnScope ["words", "block", "place"] ["words", "block", "place"] (defScope s_cost) := ⟨rfl, rfl, rfl, by decide +kernel, rfl, by decide +kernel, by decide +kernel⟩
/-- costs by places, None for the block itself -/
def costsV (us : List (Option Nat)) (ls : List (List (Option Bool))) (b k : Nat) : List V := (List.range k).map fun p => if p = b then V.non else .int (costN us ls b p : Nat)
theorem costsV_len (us : List (Option Nat)) (ls : List (List (Option Bool))) (b k : Nat) : (costsV us ls b k).length = k := by
  unfold costsV
  rw [List.length_map, List.length_range]
theorem costsV_snoc (us : List (Option Nat)) (ls : List (List (Option Bool))) (b k : Nat) : costsV us ls b (k + 1) = costsV us ls b k ++ [if k = b then V.non else .int (costN us ls b k : Nat)] := by
  unfold costsV
  rw [List.range_succ, List.map_append]
  rfl
theorem costsV_get (us : List (Option Nat)) (ls : List (List (Option Bool))) (b : Nat) {k i : Nat} (h : i < k) : (costsV us ls b k)[i]? = some (if i = b then V.non else .int (costN us ls b i : Nat)) := by
  unfold costsV
  rw [List.getElem?_map, List.getElem?_range h]
  rfl
section
variable {P : Program} {w : World} {K : PySem.W.Frag} {mg : Str → Option Value} {base : Heap} {Z : Ad}
def spCosts (Z : Ad) : Sp := fun vs H Q _ => ∃ (x : Addr) (n b : Nat) (us : List (Option Nat)) (ls : List (List (Option Bool))), vs = [.ref x, .int b] ∧ WordsAt Z H x n us ls ∧ WdOk n us ls ∧ 1 ≤ b ∧ b ≤ n ∧ ∀ D H', Same H H' → H D = none → H' D = some (.lst (costsV us ls b (n + 1))) → Q (.ref D) H'
theorem ok_costs {f : Addr} {fd : FuncData} (F : Fun K "costs" "costs" s_costs f fd) (B : Bl Z mg) (W : WCls K Z) : FnOk P w K mg base CX0 1 f fd ["words", "block"] (spCosts Z) := by
  refine F.ok sc_costs (fun vs H Q E h => ?_) (fun cdv A outer s H vs Q E hr h => ?_)
  · obtain ⟨x, n, b, us, ls, rfl, _⟩ := h
    rfl
  · obtain ⟨x, n, b, us, ls, rfl, ⟨dx, fs, tu, tl, as, h1, h2, h3, h4, h5, h6, h7⟩, ok, b1, b2, q⟩ := h
    have n2 := ok.n2
    have hub : b - 1 < us.length := by rw [ok.ul]; omega
    have au : atI (upvs us) ((b : Int) - 1) = some (upV us[b - 1]) := by
      rw [show (b : Int) - 1 = ((b - 1 : Nat) : Int) by omega]
      exact upvs_at (List.getElem?_eq_getElem hub)
    have tu5 : SqT K H tu (upvs us) := .of h5
    have tl6 : SqT K H tl (refs as) := .of h6
    have asn : as.length = n + 1 := by rw [h7.len, ok.ll]
    have cl : (col ls b).length = n + 1 := by rw [col_len, ok.ll]
    refine ⟨_, (pss_cons (ps_set (i := 2) sc_costs.nd rfl (Or.inl rfl) (pe_ix (ix_tupK (K := K) rfl) (pe_fldK (K := K) rfl (pv 0) rfl) (pe_op op_sub (pv 1) pe_int) (fun _ _ => rfl)))
 (pss_cons (ps_setLc (i := 3) (own := [("of_place", 8)]) rfl sc_costs.nd rfl rfl (sw_true rfl rfl rfl (by decide +kernel)) (pi_tup (pe_fldK (K := K) rfl (pv 0) rfl)) (blkOk_by (N := ["words", "block", "up", "listed", "many", "found", "place", "wrong", "of_place"]) (sc := defScope s_costs) (by decide +kernel)) (fun _ _ _ _ _ => (pg_name (i := 8) sc_costs.nd rfl (Or.inl rfl))) (fun _ _ _ _ _ => pts_nil) (fun _ _ _ _ _ => (pe_ix (ix_tupK (K := K) rfl) (pv 8) (pe_op op_sub (pv 1) pe_int) (fun _ _ => rfl))))
 (pss_cons (ps_set (i := 4) sc_costs.nd rfl (Or.inl rfl) (pe_bmK (K := K) rfl PySem.F.plainAttrs_list PySem.F.slot_list_count PySem.F.type_list_count (mt_lcountB (K := K) rfl) (pv 3) (pa_cons pe_bl pa_nil)))
 (pss_cons (ps_set (i := 5) sc_costs.nd rfl (Or.inl rfl) (pe_lst pa_nil))
 (pss_cons (ps_for PassesOwn.never rfl (pi_range1 rfl B.b_range (pa_cons (pe_op op_add (pe_fldK (K := K) rfl (pv 0) rfl) pe_int) pa_nil)) (pg_name (i := 6) sc_costs.nd rfl (Or.inl rfl)) (C8.pss_cut (ps_set (i := 7) sc_costs.nd rfl (Or.inl rfl) (pe_ifExp (pt_cmpR op_isBk (pe_ix (ix_listK (K := K) rfl) (pv 3) (pv 6) (fun _ _ => rfl)) pe_bl (nomark _)) (pe_op op_sub (pv 4) pe_int) (pv 4)))
 (C8.pss_cut (ps_if (pt_cmpR op_isBk (pe_ix (ix_listK (K := K) rfl) (pv 3) (pv 6) (fun _ _ => rfl)) pe_bl (nomark _)) (pss_one (ps_aug (i := 7) sc_costs.nd rfl (Or.inl rfl) pe_int ip_add)) pss_nil)
 (C8.pss_cut (ps_if (PW.pt (pw_and (pt_cmpR op_notNk (pv 2) pe_non (nomark _)) (pw_and1 (pt_cmpR op_ne (pv 2) (pv 6) (nomark _))))) (pss_one (ps_aug (i := 7) sc_costs.nd rfl (Or.inl rfl) pe_int ip_add)) pss_nil)
 (pss_one (ps_expr (pe_bmK (K := K) rfl PySem.F.plainAttrs_list PySem.F.slot_list_append PySem.F.type_list_append mt_append (pv 5) (pa_cons (pe_ifExp (pt_cmpR op_eq (pv 6) (pv 1) (nomark _)) pe_non (pv 7)) pa_nil))))))))
 (pss_one (ps_ret (pv 5)))))))), ?_⟩
    walk_at "h0"
    refine ⟨x, _, dx, _, _, rfl, h1, W.c, W.nu, h3, ?_⟩
    walk_at "hs"
    refine ⟨x, _, dx, _, _, rfl, h1, W.c, W.nl, h4, ?_⟩
    refine ⟨tl, rfl, ⟨_, tl6⟩, fun L hL => ?_⟩
    refine lc_tup (K := K) (xs := refs as) (fun j H2 => Same H H2 ∧ H2 L = some (.lst (wds ((col ls b).take j)))) ⟨same_new (Same.refl _) hL, upd_same⟩ (fun j H2 _ h => h.1.seqT tl6) ?_ ?_
    · rintro j v H2 hv ⟨s2, eL⟩
      have hj : j < ls.length := by
        have := (List.getElem?_eq_some_iff.mp hv).1
        rw [refs_length, asn] at this
        rw [ok.ll]
        exact this
      obtain ⟨a, ha, he⟩ := h7.get hj
      have hv2 : v = .ref a := by
        have e := refs_get ha
        rw [hv] at e
        exact Option.some.inj e
      subst hv2
      have rln := ok.rl _ (List.getElem_mem hj)
      have hbj : b - 1 < ls[j].length := by omega
      have ta : SqT K H2 a (wds ls[j]) := .of (s2 _ _ he)
      have ab : atI (wds ls[j]) ((b : Int) - 1) = some (wdV ls[j][b - 1]) := by
        rw [show (b : Int) - 1 = ((b - 1 : Nat) : Int) by omega]
        exact wds_at (List.getElem?_eq_getElem hbj)
      walk_at "hs"
      refine ⟨rfl, ?_⟩
      walk_at "hs"
      refine ⟨_, eL, szLt (by rw [wds_length, List.length_take]; omega), same_mut s2 hL, ?_⟩
      have ec : (col ls b)[j]? = some ls[j][b - 1] := by
        unfold col
        rw [List.getElem?_map, List.getElem?_eq_getElem hj]
        show some ((ls[j][b - 1]?).getD none) = _
        rw [List.getElem?_eq_getElem hbj]
        rfl
      rw [upd_same, List.take_succ, ec, wds_app]
      rfl
    rintro H1 ⟨s1, eL⟩
    rw [refs_length, asn, ← cl, List.take_length] at eL
    walk_at "hs"
    refine x_cntB (.of eL) ?_
    walk_at "hs"
    intro D hD
    walk_at "hs"
    refine ⟨x, _, dx, _, _, rfl, keepN (s1 _ _ h1) hD, W.c, W.nb, h2, ?_⟩
    walk_at "hs"
    refine ⟨(n : Int) + 1, rfl, by omega, by omega, ?_⟩
    have eL1 := keepN (o' := .lst []) eL hD
    have nLD : L ≠ D := ne_of_none eL hD
    refine lp_range (lo := 0) (n := Int.toNat ((n : Int) + 1)) (fun i σ' H' => (∃ x6 x7, σ' = [some (.ref x), some (.int b), some (upV us[b - 1]), some (.ref L), some (.int ((col ls b).count (some true) : Nat)), some (.ref D), x6, x7, none]) ∧ Same H H' ∧ H' L = some (.lst (wds (col ls b))) ∧ H' D = some (.lst (costsV us ls b i)))
      ⟨⟨_, _, rfl⟩, same_new s1 hD, eL1, upd_same⟩ ?_ ?_
    · rintro i σ' H' hi ⟨⟨x6, x7, rfl⟩, s2, eL2, eD⟩
      have hic : i < (col ls b).length := by omega
      obtain ⟨o, ho⟩ : ∃ o, (col ls b)[i]? = some o := ⟨_, List.getElem?_eq_getElem hic⟩
      have ao : atI (wds (col ls b)) (0 + (i : Int)) = some (wdV o) := by
        rw [Int.zero_add]
        exact wds_at ho
      have tL : SqL K H' L (wds (col ls b)) := .of eL2
      have key := cost_is (us := us) (ls := ls) (b := b) (p := i) (by rw [ok.ll]; omega)
      rw [ho] at key
      walk_at "hs"
      refine ⟨fun σ' H2 => ∃ v : Int, σ' = [some (.ref x), some (.int b), some (upV us[b - 1]), some (.ref L), some (.int ((col ls b).count (some true) : Nat)), some (.ref D), some (.int (0 + (i : Int))), some (.int v), none] ∧ H2 = H' ∧ v + (if o = some true then 1 else 0) = (trueN (col ls b) : Nat), ?_, ?_⟩
      · walk_at "hs"
        refine x_isd (fun c => ?_) (fun c => ?_)
        · walk_at "hs"
          refine ⟨_, rfl, rfl, ?_⟩
          rw [if_pos c]
          show ((col ls b).count (some true) : Nat) - (1 : Int) + 1 = ((col ls b).count (some true) : Nat)
          omega
        · walk_at "hs"
          refine ⟨_, rfl, rfl, ?_⟩
          rw [if_neg c]
          show ((col ls b).count (some true) : Nat) + (0 : Int) = ((col ls b).count (some true) : Nat)
          omega
      rintro σ2 H2 ⟨v, rfl, rfl, hv⟩
      refine ⟨fun σ' H3 => ∃ v : Int, σ' = [some (.ref x), some (.int b), some (upV us[b - 1]), some (.ref L), some (.int ((col ls b).count (some true) : Nat)), some (.ref D), some (.int (0 + (i : Int))), some (.int v), none] ∧ H3 = H2 ∧ v + (if o = some true then 1 else 0) = (trueN (col ls b) : Nat) + (if o = some false then 1 else 0), ?_, ?_⟩
      · walk_at "hs"
        refine x_isd (fun c => ?_) (fun c => ?_)
        · walk_at "hs"
          refine ⟨_, rfl, rfl, ?_⟩
          rw [if_pos c]
          omega
        · walk_at "hs"
          refine ⟨_, rfl, rfl, ?_⟩
          rw [if_neg c]
          omega
      rintro σ3 H3 ⟨v, rfl, rfl, hv⟩
      refine ⟨fun σ' H4 => σ' = [some (.ref x), some (.int b), some (upV us[b - 1]), some (.ref L), some (.int ((col ls b).count (some true) : Nat)), some (.ref D), some (.int (0 + (i : Int))), some (.int (costN us ls b i : Nat)), none] ∧ H4 = H3, ?_, ?_⟩
      · have eu : up1 us b i = match us[b - 1] with | some q => if q = i then 0 else 1 | none => 0 := by
          unfold up1
          rw [List.getElem?_eq_getElem hub]
          cases us[b - 1] <;> rfl
        have fin : ∀ z : Int, z = v + (up1 us b i : Nat) → z = (costN us ls b i : Nat) := fun z hz => by
          rw [hz]
          simp only [Option.some.injEq] at key hv
          split at key <;> split at key <;> simp_all <;> omega
        cases hu : us[b - 1] with
        | none =>
          rw [hu] at eu
          dsimp only [upV]
          walk_at "hs"
          rw [fin v (by rw [eu]; show v = v + ((0 : Nat) : Int); omega)]
          exact ⟨rfl, rfl⟩
        | some k =>
          rw [hu] at eu
          dsimp only [upV]
          walk_at "hs"
          refine x_isd (fun c => ?_) (fun c => ?_)
          · walk_at "hs"
            rw [fin (v + 1) (by rw [eu]; show v + 1 = v + ((if k = i then 0 else 1 : Nat) : Int); rw [if_neg (by omega)]; rfl)]
            exact ⟨rfl, rfl⟩
          · walk_at "hs"
            rw [fin v (by rw [eu]; show v = v + ((if k = i then 0 else 1 : Nat) : Int); rw [if_pos (by omega)]; omega)]
            exact ⟨rfl, rfl⟩
      rintro σ4 H4 ⟨rfl, rfl⟩
      walk_at "hs"
      refine x_isd (fun c => ?_) (fun c => ?_)
      · walk_at "hs"
        refine x_append eD (by rw [costsV_len]; exact szLt (by omega)) ?_
        walk_at "hs"
        refine ⟨⟨_, _, rfl⟩, ?_, keepM nLD eL2, ?_⟩
        · exact same_mut s2 (s1.free hD)
        · rw [upd_same, costsV_snoc, if_pos (by omega)]
      · walk_at "hs"
        refine x_append eD (by rw [costsV_len]; exact szLt (by omega)) ?_
        walk_at "hs"
        refine ⟨⟨_, _, rfl⟩, ?_, keepM nLD eL2, ?_⟩
        · exact same_mut s2 (s1.free hD)
        · rw [upd_same, costsV_snoc, if_neg (by omega)]
    · rintro σ' H' ⟨⟨x6, x7, rfl⟩, s2, eL2, eD⟩
      walk_at "hs"
      exact q D H' s2 (s1.free hD) eD
end
set_option maxRecDepth 100000
set_option maxHeartbeats 1000000
open PySem PySem.Spec L2


theorem sc_wrong_words : FnScope ["words", "tree", "block", "place"] ["words", "tree"] (defScope s_wrong_words) := ⟨rfl, rfl, rfl, by decide +kernel, rfl, by decide +kernel, by decide +kernel⟩
theorem sc__vote : FnScope ["words", "block", "by_place", "least", "wrong", "place"] ["words", "block"] (defScope s__vote) := ⟨rfl, rfl, rfl, by decide +kernel, rfl, by decide +kernel, by decide +kernel⟩
theorem sc_votes : FnScope ["words", "block"] ["words"] (defScope s_votes) := ⟨rfl, rfl, rfl, by decide +kernel, rfl, by decide +kernel, by decide +kernel⟩
/-- what a vote tells -/
def VoteAt (H : Hp) (q : Addr) (us : List (Option Nat)) (ls : List (List (Option Bool))) (n b : Nat) : Prop := ∃ (m : Nat) (T : Addr), MinIs us ls n b m ∧ H q = some (.tup [.int m, .ref T]) ∧ H T = some (.tup (nats (plN us ls b m (n + 1))))
theorem VoteAt.same {H H' : Hp} {q : Addr} {us : List (Option Nat)} {ls : List (List (Option Bool))} {n b : Nat} (s : Same H H') (h : VoteAt H q us ls n b) : VoteAt H' q us ls n b := by
  obtain ⟨m, T, h1, h2, h3⟩ := h
  exact ⟨m, T, h1, s _ _ h2, s _ _ h3⟩
section
variable {P : Program} {w : World} {K : PySem.W.Frag} {mg : Str → Option Value} {base : Heap} {Z : Ad}
def spCost (Z : Ad) : Sp := fun vs H Q _ => ∃ (x : Addr) (n b p : Nat) (us : List (Option Nat)) (ls : List (List (Option Bool))), vs = [.ref x, .int b, .int p] ∧ WordsAt Z H x n us ls ∧ WdOk n us ls ∧ 1 ≤ b ∧ b ≤ n ∧ p ≤ n ∧ p ≠ b ∧ ∀ H', Same H H' → Q (.int (costN us ls b p : Nat)) H'
theorem ok_cost {f : Addr} {fd : FuncData} (F : Fun K "cost" "cost" s_cost f fd) (B : Bl Z mg) (W : WCls K Z) {f_is_within : Addr} {fd_is_within : FuncData} (C_is_within : Cal K mg "is_within" f_is_within fd_is_within ["least", "most", "thing"]) (G_is_within : FnOk P w K mg base CX0 1 f_is_within fd_is_within ["least", "most", "thing"] spWithin) {f_costs : Addr} {fd_costs : FuncData} (C_costs : Cal K mg "costs" f_costs fd_costs ["words", "block"]) (G_costs : FnOk P w K mg base CX0 1 f_costs fd_costs ["words", "block"] (spCosts Z)) : FnOk P w K mg base CX0 2 f fd ["words", "block", "place"] (spCost Z) := by
  refine F.ok sc_cost (fun vs H Q E h => ?_) (fun cdv A outer s H vs Q E hr h => ?_)
  · obtain ⟨x, n, b, p, us, ls, rfl, _⟩ := h
    rfl
  · obtain ⟨x, n, b, p, us, ls, rfl, hw, ok, b1, b2, hp, hb, q⟩ := h
    obtain ⟨dx, fs, tu, tl, as, h1, h2, h3, h4, h5, h6, h7⟩ := id hw
    refine ⟨_, (pss_cons (ps_if (pt_not (pt_val (pe_call G_is_within (hr.mono (by first | decide | omega)) (by rfl) C_is_within.g C_is_within.k C_is_within.b .nil pass0 (pa_cons pe_int (pa_cons (pe_fldK (K := K) rfl (pv 0) rfl) (pa_cons (pv 1) pa_nil)))))) (pss_one ps_never) pss_nil)
 (pss_cons (ps_if (PW.pt (pw_or (pt_not (pt_val (pe_call G_is_within (hr.mono (by first | decide | omega)) (by rfl) C_is_within.g C_is_within.k C_is_within.b .nil pass0 (pa_cons pe_int (pa_cons (pe_fldK (K := K) rfl (pv 0) rfl) (pa_cons (pv 2) pa_nil)))))) (pw_or1 (pt_cmpR op_eq (pv 2) (pv 1) (nomark _))))) (pss_one ps_never) pss_nil)
 (pss_one (ps_ret (pe_ix (ix_listK (K := K) rfl) (pe_call G_costs (hr.mono (by first | decide | omega)) (by rfl) C_costs.g C_costs.k C_costs.b .nil pass0 (pa_cons (pv 0) (pa_cons (pv 1) pa_nil))) (pv 2) (fun _ _ => rfl)))))), ?_⟩
    walk_at "h0"
    refine ⟨x, _, dx, _, _, rfl, h1, W.c, W.nb, h2, ?_⟩
    walk_at "hs"
    refine ⟨_, _, _, rfl, True.intro, ?_⟩
    rw [num_nat (by omega) b2]
    walk_at "hs"
    refine ⟨x, _, dx, _, _, rfl, h1, W.c, W.nb, h2, ?_⟩
    walk_at "hs"
    refine ⟨_, _, _, rfl, True.intro, ?_⟩
    rw [num_nat (by omega) hp]
    walk_at "hs"
    refine x_isdF (by omega) ?_
    walk_at "hs"
    refine ⟨x, n, b, us, ls, rfl, hw, ok, b1, b2, fun D H1 s1 nD eD => ?_⟩
    have a1 : atI (costsV us ls b (n + 1)) (p : Int) = some (.int (costN us ls b p : Nat)) := by
      have := costsV_get us ls b (k := n + 1) (i := p) (by omega)
      rw [if_neg hb] at this
      exact atI_nat this
    have tD : SqL K H1 D (costsV us ls b (n + 1)) := .of eD
    walk_at "hs"
    exact q H1 s1
def spWrong (Z : Ad) : Sp := fun vs H Q _ => ∃ (x y : Addr) (n : Nat) (us : List (Option Nat)) (ls : List (List (Option Bool))) (hs : List Nat), vs = [.ref x, .ref y] ∧ WordsAt Z H x n us ls ∧ WdOk n us ls ∧ TreeAt Z H y hs ∧ IsTree hs ∧ hs.length = n ∧ ∀ H', Same H H' → Q (.int (wrongN us ls 1 hs : Nat)) H'
theorem ok_wrong {f : Addr} {fd : FuncData} (F : Fun K "wrong_words" "wrong_words" s_wrong_words f fd) (B : Bl Z mg) (W : WCls K Z) (T : IsC K Z.a_Tree) (N : NoAttr K Z.a_Tree "hung") {f_cost : Addr} {fd_cost : FuncData} (C_cost : Cal K mg "cost" f_cost fd_cost ["words", "block", "place"]) (G_cost : FnOk P w K mg base CX0 2 f_cost fd_cost ["words", "block", "place"] (spCost Z)) : FnOk P w K mg base CX0 3 f fd ["words", "tree"] (spWrong Z) := by
  refine F.ok sc_wrong_words (fun vs H Q E h => ?_) (fun cdv A outer s H vs Q E hr h => ?_)
  · obtain ⟨x, y, n, us, ls, hs, rfl, _⟩ := h
    rfl
  · obtain ⟨x, y, n, us, ls, hs, rfl, hw, ok, ht, it, hn, q⟩ := h
    obtain ⟨dx, fs, tu, tl, as, h1, h2, h3, h4, h5, h6, h7⟩ := id hw
    obtain ⟨dy, t, k1, k2⟩ := id ht
    have n2 := ok.n2
    refine ⟨_, (pss_cons (ps_if (PW.pt (pw_or (pt_not (pt_val (pe_callB (call_isiK' (K := K) rfl) (by rfl) B.b_isinstance (by decide +kernel) (pa_cons (pv 1) (pa_cons (pe_glob (v := .ref Z.a_Tree) rfl B.k_Tree rfl) pa_nil))))) (pw_or1 (pt_cmpR op_ne (pe_callB (call_lenK (K := K) rfl) (by rfl) B.b_len PySem.boot_len (pa_cons (pe_fldK (K := K) rfl (pv 1) rfl) pa_nil)) (pe_fldK (K := K) rfl (pv 0) rfl) (nomark _))))) (pss_one ps_never) pss_nil)
 (pss_one (ps_ret (pe_callB (cr_sumK (K := K) rfl rfl) (by rfl) B.b_sum (by decide +kernel) (pa_cons (pe_lc (own := [("block", 2), ("place", 3)]) rfl sc_wrong_words.nd (pi_enumTK (K := K) rfl rfl (by rfl) B.b_enumerate (by decide) (by decide) (pa_cons (pe_fldK (K := K) rfl (pv 1) rfl) pa_nil)) (blkOk_by (N := ["words", "tree", "block", "place"]) (sc := defScope s_wrong_words) (by decide +kernel)) (fun _ _ _ _ _ => (pg_tupK (K := K) (n := 2) rfl rfl (pgs_cons (pg_name (i := 2) sc_wrong_words.nd rfl (Or.inl rfl)) (pgs_cons (pg_name (i := 3) sc_wrong_words.nd rfl (Or.inl rfl)) pgs_nil)))) (fun _ _ _ _ _ => pts_nil) (fun _ _ _ _ _ => (pe_call G_cost (hr.mono (by first | decide | omega)) (by rfl) C_cost.g C_cost.k C_cost.b .nil pass0 (pa_cons (pv 0) (pa_cons (pv 2) (pa_cons (pv 3) pa_nil)))))) pa_nil))))), ?_⟩
    walk_at "h0"
    refine isi_own T k1 ?_
    walk_at "hs"
    refine ⟨y, _, dy, _, _, rfl, k1, T.cl, N, rfl, ?_⟩
    have kt : SqT K H t (nats hs) := .of k2
    walk_at "hs"
    refine ⟨x, _, dx, _, _, rfl, h1, W.c, W.nb, h2, ?_⟩
    walk_at "hs"
    rw [nats_length]
    refine x_isdF (by omega) ?_
    walk_at "hs"
    refine ⟨y, _, dy, _, _, rfl, k1, T.cl, N, rfl, ?_⟩
    walk_at "hs"
    refine x_ent1 (.of k2) fun D hD => ?_
    refine lc_enumT (K := K) (xs := nats hs) (fun i H' => Same H H' ∧ ∃ ns : List Int, H' D = some (.lst (ns.map V.int)) ∧ ns.length = i ∧ ns.sum = (wrongN us ls 1 (hs.take i) : Nat))
      ⟨same_new (Same.refl _) hD, [], upd_same, rfl, rfl⟩ (fun i H' _ h => .of (h.1 _ _ k2)) ?_ ?_
    · rintro i v H' U hv ⟨s1, ns, eD, nl, sm⟩ hU
      have hi : i < hs.length := by
        have := (List.getElem?_eq_some_iff.mp hv).1
        rwa [nats_length] at this
      have hv2 : v = .int (hs[i] : Nat) := by
        have e := nats_get (List.getElem?_eq_getElem hi)
        rw [hv] at e
        exact Option.some.inj e
      subst hv2
      walk_at "hs"
      refine ⟨rfl, ?_⟩
      walk_at "hs"
      have ec : ((1 : Int) + (i : Int)) = ((i + 1 : Nat) : Int) := by omega
      have hup : up hs (i + 1) = hs[i] := by
        unfold up
        rw [if_neg (by omega), List.getD_eq_getElem?_getD, Nat.add_sub_cancel, List.getElem?_eq_getElem hi]
        rfl
      have hne : hs[i] ≠ i + 1 := fun e => by
        have := (right_ok it).uo i hs[i] (by unfold rightU; rw [List.getElem?_map, List.getElem?_eq_getElem hi]; rfl)
        exact this.2 e
      have hle := it.le hs[i] (List.getElem_mem hi)
      refine ⟨x, n, i + 1, hs[i], us, ls, by rw [ec]; rfl, hw.same (same_new s1 hU), ok, by omega, by omega, by omega, hne, fun H2 s2 => ?_⟩
      have eD2 := s2 _ _ (keepN eD hU)
      refine ⟨_, eD2, by rw [List.length_map, nl]; exact szLt (by omega), same_mut ((same_new s1 hU).trans s2) hD, ns ++ [((costN us ls (i + 1) hs[i] : Nat) : Int)], ?_, by rw [List.length_append, nl]; rfl, ?_⟩
      · rw [upd_same, List.map_append]
        rfl
      · rw [List.sum_append, sm, List.take_succ, List.getElem?_eq_getElem hi]
        show ((wrongN us ls 1 (hs.take i) : Nat) : Int) + [((costN us ls (i + 1) hs[i] : Nat) : Int)].sum = ((wrongN us ls 1 (hs.take i ++ [hs[i]]) : Nat) : Int)
        rw [wrongN_snoc, List.length_take, Nat.min_eq_left (by omega), Nat.add_comm 1 i, List.sum_cons, List.sum_nil]
        omega
    · rintro H' ⟨s1, ns, eD, nl, sm⟩
      rw [nats_length, List.take_length] at sm
      walk_at "hs"
      refine ⟨D, ns, rfl, .of eD, ?_⟩
      rw [sm]
      exact q _ s1
def spVote (Z : Ad) : Sp := fun vs H Q _ => ∃ (x : Addr) (n b : Nat) (us : List (Option Nat)) (ls : List (List (Option Bool))), vs = [.ref x, .int b] ∧ WordsAt Z H x n us ls ∧ WdOk n us ls ∧ 1 ≤ b ∧ b ≤ n ∧ ∀ q H', Same H H' → H q = none → VoteAt H' q us ls n b → Q (.ref q) H'
theorem ok_vote {f : Addr} {fd : FuncData} (F : Fun K "_vote" "_vote" s__vote f fd) (B : Bl Z mg) {f_costs : Addr} {fd_costs : FuncData} (C_costs : Cal K mg "costs" f_costs fd_costs ["words", "block"]) (G_costs : FnOk P w K mg base CX0 1 f_costs fd_costs ["words", "block"] (spCosts Z)) : FnOk P w K mg base CX0 2 f fd ["words", "block"] (spVote Z) := by
  refine F.ok sc__vote (fun vs H Q E h => ?_) (fun cdv A outer s H vs Q E hr h => ?_)
  · obtain ⟨x, n, b, us, ls, rfl, _⟩ := h
    rfl
  · obtain ⟨x, n, b, us, ls, rfl, hw, ok, b1, b2, q⟩ := h
    have n2 := ok.n2
    refine ⟨_, (pss_cons (ps_set (i := 2) sc__vote.nd rfl (Or.inl rfl) (pe_call G_costs (hr.mono (by first | decide | omega)) (by rfl) C_costs.g C_costs.k C_costs.b .nil pass0 (pa_cons (pv 0) (pa_cons (pv 1) pa_nil))))
 (pss_cons (ps_set (i := 3) sc__vote.nd rfl (Or.inr rfl) (pe_callB (cr_minLK (K := K) rfl rfl) (by rfl) B.b_min (by decide +kernel) (pa_cons (pe_lc (own := [("wrong", 4)]) rfl sc__vote.nd (pi_list (pv 2)) (blkOk_by (N := ["words", "block", "by_place", "least", "wrong", "place"]) (sc := defScope s__vote) (by decide +kernel)) (fun _ _ _ _ _ => (pg_name (i := 4) sc__vote.nd rfl (Or.inl rfl))) (fun _ _ _ _ _ => (pts_one (pt_cmpR op_notNk (pv 4) pe_non (nomark _)))) (fun _ _ _ _ _ => (pv 4))) pa_nil)))
 (pss_one (ps_ret (pe_tup (pa_cons (pv 3) (pa_cons (pe_callTy (call_tplK (K := K) rfl) (by rfl) B.b_tuple (by decide +kernel) (pa_cons (pe_lc (own := [("place", 5), ("wrong", 4)]) rfl sc__vote.nd (pi_enumLK (K := K) rfl (by rfl) B.b_enumerate (pa_cons (pv 2) pa_nil)) (blkOk_by (N := ["words", "block", "by_place", "least", "wrong", "place"]) (sc := defScope s__vote) (by decide +kernel)) (fun _ _ _ _ _ => (pg_tupK (K := K) (n := 2) rfl rfl (pgs_cons (pg_name (i := 5) sc__vote.nd rfl (Or.inl rfl)) (pgs_cons (pg_name (i := 4) sc__vote.nd rfl (Or.inl rfl)) pgs_nil)))) (fun _ _ _ _ _ => (pts_one (pt_cmpR op_eq (pv 4) (pv 3) (nomark _)))) (fun _ _ _ _ _ => (pv 5))) pa_nil)) pa_nil))))))), ?_⟩
    walk_at "h0"
    refine ⟨x, n, b, us, ls, rfl, hw, ok, b1, b2, fun C H1 s1 nC eC => ?_⟩
    walk_at "hs"
    have item : ∀ (i : Nat) (v : V), (costsV us ls b (n + 1))[i]? = some v → i < n + 1 ∧ v = (if i = b then V.non else .int (costN us ls b i : Nat)) := fun i v hv => by
      have hi := (List.getElem?_eq_some_iff.mp hv).1
      rw [costsV_len] at hi
      rw [costsV_get us ls b hi] at hv
      exact ⟨hi, (Option.some.inj hv).symm⟩
    refine ⟨C, rfl, ⟨_, .of eC⟩, fun L hL => ?_⟩
    refine lc_list (K := K) (xs := costsV us ls b (n + 1)) (fun i H2 => Same H1 H2 ∧ H2 L = some (.lst (nats (csN us ls b i)))) ⟨same_new (Same.refl _) hL, upd_same⟩ (fun i H2 _ h => .of (h.1 _ _ eC)) ?_ ?_
    · rintro i v H2 hv ⟨s2, eL⟩
      obtain ⟨hi, rfl⟩ := item i v hv
      have sl := csN_len us ls b i
      by_cases e : i = b
      · rw [if_pos e]
        walk_at "hs"
        refine ⟨rfl, ?_⟩
        walk_at "hs"
        refine ⟨s2, ?_⟩
        rw [eL, csN_snoc, if_pos e, List.append_nil]
      · rw [if_neg e]
        walk_at "hs"
        refine ⟨rfl, ?_⟩
        walk_at "hs"
        refine ⟨_, eL, by rw [nats_length]; exact szLt (by omega), same_mut s2 hL, ?_⟩
        rw [upd_same, csN_snoc, if_neg e, nats_append]
        rfl
    rintro H2 ⟨s2, eL⟩
    rw [costsV_len] at eL
    walk_at "hs"
    refine ⟨L, (csN us ls b (n + 1)).map fun (k : Nat) => (k : Int), rfl, .of (by rw [nats_ints]; exact eL), by rw [List.length_map]; exact csN_pos b1, fun m hm hall => ?_⟩
    obtain ⟨m, hm', rfl⟩ := List.mem_map.mp hm
    have hmin : MinIs us ls n b m := csN_min hm' fun y hy => by
      have := hall (Int.ofNat y) (List.mem_map.mpr ⟨y, hy, rfl⟩)
      exact Int.ofNat_le.mp this
    walk_at "hs"
    refine x_enl1 (.of (s2 _ _ eC)) fun D hD => ?_
    refine lc_enumL (K := K) (xs := costsV us ls b (n + 1)) (fun i H3 => Same H2 H3 ∧ H3 D = some (.lst (nats (plN us ls b m i)))) ⟨same_new (Same.refl _) hD, upd_same⟩ (fun i H3 _ h => .of (h.1 _ _ (s2 _ _ eC))) ?_ ?_
    · rintro i v H3 U hv ⟨s3, eD⟩ hU
      obtain ⟨hi, rfl⟩ := item i v hv
      have sl := plN_len us ls b m i
      walk_at "hs"
      refine ⟨rfl, ?_⟩
      walk_at "hs"
      by_cases e : i = b
      · rw [if_pos e]
        walk_at "hs"
        refine x_isdF (fun z => by cases z) ?_
        refine ⟨same_new s3 hU, ?_⟩
        rw [keepN eD hU, plN_snoc, if_neg (fun z => z.1 e), List.append_nil]
      · rw [if_neg e]
        walk_at "hs"
        refine x_isd (fun c => ?_) (fun c => ?_)
        · walk_at "hs"
          refine ⟨_, keepN eD hU, by rw [nats_length]; exact szLt (by omega), same_mut (same_new s3 hU) hD, ?_⟩
          rw [upd_same, plN_snoc, if_pos ⟨e, Int.ofNat.inj c⟩, nats_append]
          rfl
        · refine ⟨same_new s3 hU, ?_⟩
          rw [keepN eD hU, plN_snoc, if_neg (fun z => c (by rw [z.2])), List.append_nil]
    · rintro H3 ⟨s3, eD⟩
      rw [costsV_len] at eD
      walk_at "hs"
      intro U hU
      walk_at "hs"
      intro q1 hq1
      have s03 : Same H H3 := (s1.trans s2).trans s3
      have s4 : Same H (upd H3 U (.tup (nats (plN us ls b m (n + 1))))) := same_new s03 hU
      exact q q1 _ (same_new s4 hq1) (s4.free hq1) ⟨m, U, hmin, upd_same, keepN upd_same hq1⟩
def spVotes (Z : Ad) : Sp := fun vs H Q _ => ∃ (x : Addr) (n : Nat) (us : List (Option Nat)) (ls : List (List (Option Bool))), vs = [.ref x] ∧ WordsAt Z H x n us ls ∧ WdOk n us ls ∧ ∀ D qs H', Same H H' → H D = none → H' D = some (.lst (refs qs)) → qs.length = n → (∀ (k : Nat) q, qs[k]? = some q → VoteAt H' q us ls n (k + 1)) → Q (.ref D) H'
theorem ok_votes {f : Addr} {fd : FuncData} (F : Fun K "votes" "votes" s_votes f fd) (B : Bl Z mg) (W : WCls K Z) {f__vote : Addr} {fd__vote : FuncData} (C__vote : Cal K mg "_vote" f__vote fd__vote ["words", "block"]) (G__vote : FnOk P w K mg base CX0 2 f__vote fd__vote ["words", "block"] (spVote Z)) : FnOk P w K mg base CX0 3 f fd ["words"] (spVotes Z) := by
  refine F.ok sc_votes (fun vs H Q E h => ?_) (fun cdv A outer s H vs Q E hr h => ?_)
  · obtain ⟨x, n, us, ls, rfl, _⟩ := h
    rfl
  · obtain ⟨x, n, us, ls, rfl, hw, ok, q⟩ := h
    obtain ⟨dx, fs, tu, tl, as, h1, h2, h3, h4, h5, h6, h7⟩ := id hw
    have n2 := ok.n2
    refine ⟨_, (pss_one (ps_ret (pe_lc (own := [("block", 1)]) rfl sc_votes.nd (pi_range2 rfl B.b_range (pa_cons pe_int (pa_cons (pe_op op_add (pe_fldK (K := K) rfl (pv 0) rfl) pe_int) pa_nil))) (blkOk_by (N := ["words", "block"]) (sc := defScope s_votes) (by decide +kernel)) (fun _ _ _ _ _ => (pg_name (i := 1) sc_votes.nd rfl (Or.inl rfl))) (fun _ _ _ _ _ => pts_nil) (fun _ _ _ _ _ => (pe_call G__vote (hr.mono (by first | decide | omega)) (by rfl) C__vote.g C__vote.k C__vote.b .nil pass0 (pa_cons (pv 0) (pa_cons (pv 1) pa_nil))))))), ?_⟩
    walk_at "h0"
    refine ⟨x, _, dx, _, _, rfl, h1, W.c, W.nb, h2, ?_⟩
    walk_at "hs"
    refine ⟨1, (n : Int) + 1, rfl, ⟨by omega, by omega, by omega, by omega⟩, fun D hD => ?_⟩
    refine lc_range (lo := 1) (n := Int.toNat ((n : Int) + 1 - 1)) (fun i H' => Same H H' ∧ ∃ qs : List Addr, qs.length = i ∧ H' D = some (.lst (refs qs)) ∧ ∀ (k : Nat) q, qs[k]? = some q → VoteAt H' q us ls n (k + 1))
      ⟨same_new (Same.refl _) hD, [], rfl, upd_same, fun k q h => by cases h⟩ ?_ ?_
    · rintro i H' hi ⟨s1, qs, lq, eD, hq⟩
      walk_at "hs"
      refine ⟨rfl, ?_⟩
      walk_at "hs"
      have ec : ((1 : Int) + (i : Int)) = ((i + 1 : Nat) : Int) := by omega
      refine ⟨x, n, i + 1, us, ls, by rw [ec]; rfl, hw.same s1, ok, by omega, by omega, fun q1 H2 s2 nq vq => ?_⟩
      have eD2 := s2 _ _ eD
      have keep : ∀ (q : Addr) (b : Nat), VoteAt H2 q us ls n b → VoteAt (upd H2 D (.lst (refs qs ++ [.ref q1]))) q us ls n b := fun q b h => by
        obtain ⟨m, T, g1, g2, g3⟩ := h
        exact ⟨m, T, g1, keepM (fun z => by rw [z, eD2] at g2; cases g2) g2, keepM (fun z => by rw [z, eD2] at g3; cases g3) g3⟩
      refine ⟨_, eD2, by rw [refs_length, lq]; exact szLt (by omega), same_mut (s1.trans s2) hD, qs ++ [q1], by rw [List.length_append, lq]; rfl, by rw [upd_same, refs_app]; rfl, fun k q h => keep q _ ?_⟩
      rcases Nat.lt_or_ge k qs.length with hk | hk
      · rw [List.getElem?_append_left hk] at h
        exact (hq k q h).same s2
      · rw [List.getElem?_append_right hk] at h
        have hk0 : k - qs.length = 0 := by
          have := (List.getElem?_eq_some_iff.mp h).1
          rw [List.length_singleton] at this
          omega
        rw [hk0] at h
        have ea : q1 = q := Option.some.inj h
        subst ea
        rw [show k = i by omega]
        exact vq
    · rintro H' ⟨s1, qs, lq, eD, hq⟩
      walk_at "hs"
      exact q D qs H' s1 hD eD (by omega) hq
end
set_option maxRecDepth 100000
set_option maxHeartbeats 1000000
open PySem PySem.Spec L2


theorem sc__law_is_int : FnScope ["_law_thing"] ["_law_thing"] (defScope s__law_is_int) := ⟨rfl, rfl, rfl, by decide +kernel, rfl, by decide +kernel, by decide +kernel⟩
theorem sc__law_same : FnScope ["_law_told", "_law_due", "_law_at", "_law_one"] ["_law_told", "_law_due"] (defScope s__law_same) := ⟨rfl, rfl, rfl, by decide +kernel, rfl, by decide +kernel, by decide +kernel⟩
theorem sc__law_right_words : FnScope ["_law_hung_here", "_law_lists", "_law_place", "_law_there"] ["_law_hung_here"] (defScope s__law_right_words) := ⟨rfl, rfl, rfl, by decide +kernel, rfl, by decide +kernel, by decide +kernel⟩
/-- whole numbers, alike through and through -/
def AlI (H : Hp) : Nat → V → V → Prop
  | 0, x, y => ∃ i : Int, x = .int i ∧ y = .int i
  | n + 1, x, y => (∃ i : Int, x = .int i ∧ y = .int i) ∨
      (∃ (a b : Addr) (xs ys : List V), x = .ref a ∧ y = .ref b ∧ H a = some (.lst xs) ∧ H b = some (.lst ys) ∧ xs.length = ys.length ∧ ys.length ≤ 1000 ∧ ∀ i (h1 : i < xs.length) (h2 : i < ys.length), AlI H n xs[i] ys[i]) ∨
      (∃ (a b : Addr) (xs ys : List V), x = .ref a ∧ y = .ref b ∧ H a = some (.tup xs) ∧ H b = some (.tup ys) ∧ xs.length = ys.length ∧ ys.length ≤ 1000 ∧ ∀ i (h1 : i < xs.length) (h2 : i < ys.length), AlI H n xs[i] ys[i])
theorem AlI.same {H H' : Hp} : ∀ {n : Nat} {x y : V}, Same H H' → AlI H n x y → AlI H' n x y
  | 0, _, _, _, h => h
  | n + 1, x, y, s, h => by
    rcases h with h | ⟨a, b, xs, ys, e1, e2, h1, h2, hl, hz, h⟩ | ⟨a, b, xs, ys, e1, e2, h1, h2, hl, hz, h⟩
    · exact .inl h
    · exact .inr (.inl ⟨a, b, xs, ys, e1, e2, s _ _ h1, s _ _ h2, hl, hz, fun i k1 k2 => (h i k1 k2).same s⟩)
    · exact .inr (.inr ⟨a, b, xs, ys, e1, e2, s _ _ h1, s _ _ h2, hl, hz, fun i k1 k2 => (h i k1 k2).same s⟩)
theorem AlI.int {H : Hp} {n : Nat} (i : Int) : AlI H n (.int i) (.int i) := by
  cases n with
  | zero => exact ⟨i, rfl, rfl⟩
  | succ n => exact .inl ⟨i, rfl, rfl⟩
theorem AlI.nats {H : Hp} {n : Nat} {a b : Addr} {l : List Nat} (ha : H a = some (.tup (nats l))) (hb : H b = some (.tup (nats l))) (hl : l.length ≤ 1000) : AlI H (n + 1) (.ref a) (.ref b) := by
  refine .inr (.inr ⟨a, b, _, _, rfl, rfl, ha, hb, rfl, by rw [nats_length]; exact hl, fun i h1 h2 => ?_⟩)
  have h3 : i < l.length := by rwa [nats_length] at h1
  have e := nats_get (List.getElem?_eq_getElem h3)
  rw [List.getElem?_eq_getElem h1] at e
  rw [Option.some.inj e]
  exact .int _
section
variable {P : Program} {w : World} {K : PySem.W.Frag} {mg : Str → Option Value} {base : Heap} {Z : Ad}
def spIsInt : Sp := fun vs H Q _ => ∃ i : Int, vs = [.int i] ∧ Q (.bl true) H
theorem ok_isInt {f : Addr} {fd : FuncData} (F : Fun K "_law_is_int" "_law_is_int" s__law_is_int f fd) (B : Bl Z mg) : FnOk P w K mg base CX0 1 f fd ["_law_thing"] spIsInt := by
  refine F.ok sc__law_is_int (fun vs H Q E h => ?_) (fun cdv A outer s H vs Q E hr h => ?_)
  · obtain ⟨i, rfl, _⟩ := h
    rfl
  · obtain ⟨i, rfl, q⟩ := h
    refine ⟨_, (pss_one (ps_ret (pe_and (pe_callB (call_isiK' (K := K) rfl) (by rfl) B.b_isinstance (by decide +kernel) (pa_cons (pv 0) (pa_cons (pe_bltn (v := .ty "int") (by rfl) B.b_int (by decide +kernel) rfl) pa_nil))) (pe_one (pe_not (pe_callB (call_isiK' (K := K) rfl) (by rfl) B.b_isinstance (by decide +kernel) (pa_cons (pv 0) (pa_cons (pe_bltn (v := .ty "bool") (by rfl) B.b_bool (by decide +kernel) rfl) pa_nil)))))))), ?_⟩
    walk_at "h0"
    exact q
def spSame (n : Nat) : Sp := fun vs H Q _ => ∃ (x y : V), vs = [x, y] ∧ AlI H n x y ∧ ∀ H', Same H H' → Q (.bl true) H'
theorem fnF {f : Addr} {fd : FuncData} {ps : List Str} : FnOk P w K mg base CX0 1 f fd ps (fun _ _ _ _ => False) := ⟨fun _ _ _ _ h => h.elim, fun _ _ _ _ _ _ _ _ _ _ _ _ _ h => h.elim⟩
theorem same_int {f : Addr} {fd : FuncData} (F : Fun K "_law_same" "_law_same" s__law_same f fd) (B : Bl Z mg) {f__law_is_int : Addr} {fd__law_is_int : FuncData} (C__law_is_int : Cal K mg "_law_is_int" f__law_is_int fd__law_is_int ["_law_thing"]) (G__law_is_int : FnOk P w K mg base CX0 1 f__law_is_int fd__law_is_int ["_law_thing"] spIsInt) {i : Int} {cdv : Value} {A : Around} {outer : List Env} {s : Shared} {H : Hp} {Q : VK} {E : XK} {j : Nat} (G__law_same : FnOk P w K mg base CX0 1 f fd ["_law_told", "_law_due"] (fun _ _ _ _ => False)) (C__law_same : Cal K mg "_law_same" f fd ["_law_told", "_law_due"]) (q : ∀ H', Same H H' → Q (.bl true) H') (hr : Room (j + 1) (A.deeper (PyProof.Rows.envOfC "_law_same" (defScope s__law_same) s.heap.objs.size f cdv))) :
    ∃ t, PSs (cxOf CX0 P w K mg base ["_law_told", "_law_due", "_law_at", "_law_one"] "_law_same" (defScope s__law_same) f cdv A outer s H E).nox (defBody s__law_same) t ∧ t { nx := fun _ H' => Q .non H', rt := Q } (L2.start ["_law_told", "_law_due", "_law_at", "_law_one"] [.int i, .int i]) H := by
  refine ⟨_, (pss_cons (ps_if (pt_val (pe_callB (call_isiTK (K := K) rfl) (by rfl) B.b_isinstance (by decide +kernel) (pa_cons (pv 1) (pa_cons (pe_tup (pa_cons (pe_bltn (v := .ty "tuple") (by rfl) B.b_tuple (by decide +kernel) rfl) (pa_cons (pe_bltn (v := .ty "list") (by rfl) B.b_list (by decide +kernel) rfl) pa_nil))) pa_nil)))) (pss_cons (ps_if (PW.pt (pw_or (pt_cmpR op_ne (pe_callB (call_isiK' (K := K) rfl) (by rfl) B.b_isinstance (by decide +kernel) (pa_cons (pv 1) (pa_cons (pe_bltn (v := .ty "list") (by rfl) B.b_list (by decide +kernel) rfl) pa_nil))) (pe_callB (call_isiK' (K := K) rfl) (by rfl) B.b_isinstance (by decide +kernel) (pa_cons (pv 0) (pa_cons (pe_bltn (v := .ty "list") (by rfl) B.b_list (by decide +kernel) rfl) pa_nil))) (nomark _)) (pw_or1 (pt_cmpR op_ne (pe_callB (call_isiK' (K := K) rfl) (by rfl) B.b_isinstance (by decide +kernel) (pa_cons (pv 1) (pa_cons (pe_bltn (v := .ty "tuple") (by rfl) B.b_tuple (by decide +kernel) rfl) pa_nil))) (pe_callB (call_isiK' (K := K) rfl) (by rfl) B.b_isinstance (by decide +kernel) (pa_cons (pv 0) (pa_cons (pe_bltn (v := .ty "tuple") (by rfl) B.b_tuple (by decide +kernel) rfl) pa_nil))) (nomark _))))) (pss_one (ps_ret pe_bl)) pss_nil)
 (pss_cons (ps_if (pt_cmpR op_ne (pe_callB (call_lenK (K := K) rfl) (by rfl) B.b_len PySem.boot_len (pa_cons (pv 0) pa_nil)) (pe_callB (call_lenK (K := K) rfl) (by rfl) B.b_len PySem.boot_len (pa_cons (pv 1) pa_nil)) (nomark _)) (pss_one (ps_ret pe_bl)) pss_nil)
 (pss_one (ps_ret (pe_callB (cr_allK (K := K) rfl rfl) (by rfl) B.b_all (by decide +kernel) (pa_cons (pe_lc (own := [("_law_at", 2), ("_law_one", 3)]) rfl sc__law_same.nd (pi_enumLK (K := K) rfl (by rfl) B.b_enumerate (pa_cons (pv 1) pa_nil)) (blkOk_by (N := ["_law_told", "_law_due", "_law_at", "_law_one"]) (sc := defScope s__law_same) (by decide +kernel)) (fun _ _ _ _ _ => (pg_tupK (K := K) (n := 2) rfl rfl (pgs_cons (pg_name (i := 2) sc__law_same.nd rfl (Or.inl rfl)) (pgs_cons (pg_name (i := 3) sc__law_same.nd rfl (Or.inl rfl)) pgs_nil)))) (fun _ _ _ _ _ => pts_nil) (fun _ _ _ _ _ => (pe_call G__law_same (hr.mono (by first | decide | omega)) (by rfl) C__law_same.g C__law_same.k C__law_same.b .nil pass0 (pa_cons (pe_ix (ix_listK (K := K) rfl) (pv 0) (pv 2) (fun _ _ => rfl)) (pa_cons (pv 3) pa_nil))))) pa_nil)))))) pss_nil)
 (pss_cons (ps_if (PW.pt (pw_or (pt_val (pe_callB (call_isiK' (K := K) rfl) (by rfl) B.b_isinstance (by decide +kernel) (pa_cons (pv 1) (pa_cons (pe_bltn (v := .ty "str") (by rfl) B.b_str (by decide +kernel) rfl) pa_nil)))) (pw_or1 (pt_cmpR op_isNk (pv 1) pe_non (nomark _))))) (pss_one (ps_ret (pe_and (pe_cmpR op_eq (pv 0) (pv 1) (nomark _)) (pe_one (pe_cmpR op_eq (pe_callB (call_isiK' (K := K) rfl) (by rfl) B.b_isinstance (by decide +kernel) (pa_cons (pv 0) (pa_cons (pe_bltn (v := .ty "str") (by rfl) B.b_str (by decide +kernel) rfl) pa_nil))) (pe_callB (call_isiK' (K := K) rfl) (by rfl) B.b_isinstance (by decide +kernel) (pa_cons (pv 1) (pa_cons (pe_bltn (v := .ty "str") (by rfl) B.b_str (by decide +kernel) rfl) pa_nil))) (nomark _)))))) pss_nil)
 (pss_one (ps_ret (pe_and (pe_call G__law_is_int (hr.mono (by first | decide | omega)) (by rfl) C__law_is_int.g C__law_is_int.k C__law_is_int.b .nil pass0 (pa_cons (pv 0) pa_nil)) (pe_one (pe_cmpR op_eq (pv 0) (pv 1) (nomark _)))))))), ?_⟩
  walk_at "h0"
  intro p hp
  walk_at "hs"
  refine x_isiTn (t := "int") upd_same (.base (.int i)) (by decide +kernel) (by decide +kernel) ?_
  walk_at "hs"
  refine ⟨i, rfl, ?_⟩
  walk_at "hs"
  rw [decide_eq_true rfl]
  exact q _ (by walk_at "sm")
theorem ok_same {f : Addr} {fd : FuncData} (F : Fun K "_law_same" "_law_same" s__law_same f fd) (B : Bl Z mg) (C__law_same : Cal K mg "_law_same" f fd ["_law_told", "_law_due"]) {f__law_is_int : Addr} {fd__law_is_int : FuncData} (C__law_is_int : Cal K mg "_law_is_int" f__law_is_int fd__law_is_int ["_law_thing"]) (G__law_is_int : FnOk P w K mg base CX0 1 f__law_is_int fd__law_is_int ["_law_thing"] spIsInt) : ∀ n, FnOk P w K mg base CX0 (n + 2) f fd ["_law_told", "_law_due"] (spSame n)
  | 0 => by
    refine F.ok sc__law_same (fun vs H Q E h => ?_) (fun cdv A outer s H vs Q E hr h => ?_)
    · obtain ⟨x, y, rfl, _⟩ := h
      rfl
    · obtain ⟨x, y, rfl, ⟨i, rfl, rfl⟩, q⟩ := h
      exact same_int F B C__law_is_int G__law_is_int fnF C__law_same q hr
  | n + 1 => by
    have G__law_same := ok_same F B C__law_same C__law_is_int G__law_is_int n
    refine F.ok sc__law_same (fun vs H Q E h => ?_) (fun cdv A outer s H vs Q E hr h => ?_)
    · obtain ⟨x, y, rfl, _⟩ := h
      rfl
    · obtain ⟨x, y, rfl, hal, q⟩ := h
      rcases hal with ⟨i, rfl, rfl⟩ | ⟨a, b, xs, ys, rfl, rfl, ha, hb, hl, hsz, hal⟩ | ⟨a, b, xs, ys, rfl, rfl, ha, hb, hl, hsz, hal⟩
      · exact same_int F B C__law_is_int G__law_is_int fnF C__law_same q hr
      · refine ⟨_, (pss_cons (ps_if (pt_val (pe_callB (call_isiTK (K := K) rfl) (by rfl) B.b_isinstance (by decide +kernel) (pa_cons (pv 1) (pa_cons (pe_tup (pa_cons (pe_bltn (v := .ty "tuple") (by rfl) B.b_tuple (by decide +kernel) rfl) (pa_cons (pe_bltn (v := .ty "list") (by rfl) B.b_list (by decide +kernel) rfl) pa_nil))) pa_nil)))) (pss_cons (ps_if (PW.pt (pw_or (pt_cmpR op_ne (pe_callB (call_isiK' (K := K) rfl) (by rfl) B.b_isinstance (by decide +kernel) (pa_cons (pv 1) (pa_cons (pe_bltn (v := .ty "list") (by rfl) B.b_list (by decide +kernel) rfl) pa_nil))) (pe_callB (call_isiK' (K := K) rfl) (by rfl) B.b_isinstance (by decide +kernel) (pa_cons (pv 0) (pa_cons (pe_bltn (v := .ty "list") (by rfl) B.b_list (by decide +kernel) rfl) pa_nil))) (nomark _)) (pw_or1 (pt_cmpR op_ne (pe_callB (call_isiK' (K := K) rfl) (by rfl) B.b_isinstance (by decide +kernel) (pa_cons (pv 1) (pa_cons (pe_bltn (v := .ty "tuple") (by rfl) B.b_tuple (by decide +kernel) rfl) pa_nil))) (pe_callB (call_isiK' (K := K) rfl) (by rfl) B.b_isinstance (by decide +kernel) (pa_cons (pv 0) (pa_cons (pe_bltn (v := .ty "tuple") (by rfl) B.b_tuple (by decide +kernel) rfl) pa_nil))) (nomark _))))) (pss_one (ps_ret pe_bl)) pss_nil)
 (pss_cons (ps_if (pt_cmpR op_ne (pe_callB (call_lenK (K := K) rfl) (by rfl) B.b_len PySem.boot_len (pa_cons (pv 0) pa_nil)) (pe_callB (call_lenK (K := K) rfl) (by rfl) B.b_len PySem.boot_len (pa_cons (pv 1) pa_nil)) (nomark _)) (pss_one (ps_ret pe_bl)) pss_nil)
 (pss_one (ps_ret (pe_callB (cr_allK (K := K) rfl rfl) (by rfl) B.b_all (by decide +kernel) (pa_cons (pe_lc (own := [("_law_at", 2), ("_law_one", 3)]) rfl sc__law_same.nd (pi_enumLK (K := K) rfl (by rfl) B.b_enumerate (pa_cons (pv 1) pa_nil)) (blkOk_by (N := ["_law_told", "_law_due", "_law_at", "_law_one"]) (sc := defScope s__law_same) (by decide +kernel)) (fun _ _ _ _ _ => (pg_tupK (K := K) (n := 2) rfl rfl (pgs_cons (pg_name (i := 2) sc__law_same.nd rfl (Or.inl rfl)) (pgs_cons (pg_name (i := 3) sc__law_same.nd rfl (Or.inl rfl)) pgs_nil)))) (fun _ _ _ _ _ => pts_nil) (fun _ _ _ _ _ => (pe_call G__law_same (hr.mono (by first | decide | omega)) (by rfl) C__law_same.g C__law_same.k C__law_same.b .nil pass0 (pa_cons (pe_ix (ix_listK (K := K) rfl) (pv 0) (pv 2) (fun _ _ => rfl)) (pa_cons (pv 3) pa_nil))))) pa_nil)))))) pss_nil)
 (pss_cons (ps_if (PW.pt (pw_or (pt_val (pe_callB (call_isiK' (K := K) rfl) (by rfl) B.b_isinstance (by decide +kernel) (pa_cons (pv 1) (pa_cons (pe_bltn (v := .ty "str") (by rfl) B.b_str (by decide +kernel) rfl) pa_nil)))) (pw_or1 (pt_cmpR op_isNk (pv 1) pe_non (nomark _))))) (pss_one (ps_ret (pe_and (pe_cmpR op_eq (pv 0) (pv 1) (nomark _)) (pe_one (pe_cmpR op_eq (pe_callB (call_isiK' (K := K) rfl) (by rfl) B.b_isinstance (by decide +kernel) (pa_cons (pv 0) (pa_cons (pe_bltn (v := .ty "str") (by rfl) B.b_str (by decide +kernel) rfl) pa_nil))) (pe_callB (call_isiK' (K := K) rfl) (by rfl) B.b_isinstance (by decide +kernel) (pa_cons (pv 1) (pa_cons (pe_bltn (v := .ty "str") (by rfl) B.b_str (by decide +kernel) rfl) pa_nil))) (nomark _)))))) pss_nil)
 (pss_one (ps_ret (pe_and (pe_call G__law_is_int (hr.mono (by first | decide | omega)) (by rfl) C__law_is_int.g C__law_is_int.k C__law_is_int.b .nil pass0 (pa_cons (pv 0) pa_nil)) (pe_one (pe_cmpR op_eq (pv 0) (pv 1) (nomark _)))))))), ?_⟩
        walk_at "h0"
        intro p hp
        walk_at "hs"
        refine x_isiTb (t := "list") upd_same (.base (.lst (by walk_at "hu"))) (by decide +kernel) (by decide +kernel) ?_
        walk_at "hs"
        refine x_isdF (by omega) ?_
        walk_at "hs"
        refine x_enl1 (.of (keepN hb hp)) fun D hD => ?_
        have nD : H D = none := Same.free (H' := upd H p _) (same_new (Same.refl _) hp) hD
        refine lc_enumL (K := K) (xs := ys) (fun i H' => Same H H' ∧ H' D = some (.lst ((List.replicate i true).map V.bl)))
          ⟨by walk_at "sm", upd_same⟩ (fun i H' _ h => .of (h.1 _ _ hb)) ?_ ?_
        · rintro i v H' U hv ⟨s1, eD⟩ hU
          have h2 := (List.getElem?_eq_some_iff.mp hv).1
          have h1 : i < xs.length := by omega
          have ev : v = ys[i] := by
            rw [List.getElem?_eq_getElem h2] at hv
            exact (Option.some.inj hv).symm
          subst ev
          have a1 : atI xs (i : Int) = some xs[i] := atI_nat (List.getElem?_eq_getElem h1)
          have ha' := keepN (o' := .tup [.int (i : Nat), ys[i]]) (s1 _ _ ha) hU
          walk_at "hs"
          refine ⟨rfl, ?_⟩
          walk_at "hs"
          refine ⟨_, _, rfl, (hal i h1 h2).same (same_new s1 hU), fun H2 s2 => ?_⟩
          refine ⟨_, s2 _ _ (keepN eD hU), szLt (by rw [List.length_map, List.length_replicate]; omega), same_mut ((same_new s1 hU).trans s2) nD, ?_⟩
          rw [upd_same, List.replicate_succ', List.map_append]
          rfl
        · rintro H' ⟨s1, eD⟩
          walk_at "hs"
          refine ⟨D, _, rfl, SqL.of eD, ?_⟩
          rw [show (List.replicate ys.length true).all id = true by simp]
          exact q _ s1
      · refine ⟨_, (pss_cons (ps_if (pt_val (pe_callB (call_isiTK (K := K) rfl) (by rfl) B.b_isinstance (by decide +kernel) (pa_cons (pv 1) (pa_cons (pe_tup (pa_cons (pe_bltn (v := .ty "tuple") (by rfl) B.b_tuple (by decide +kernel) rfl) (pa_cons (pe_bltn (v := .ty "list") (by rfl) B.b_list (by decide +kernel) rfl) pa_nil))) pa_nil)))) (pss_cons (ps_if (PW.pt (pw_or (pt_cmpR op_ne (pe_callB (call_isiK' (K := K) rfl) (by rfl) B.b_isinstance (by decide +kernel) (pa_cons (pv 1) (pa_cons (pe_bltn (v := .ty "list") (by rfl) B.b_list (by decide +kernel) rfl) pa_nil))) (pe_callB (call_isiK' (K := K) rfl) (by rfl) B.b_isinstance (by decide +kernel) (pa_cons (pv 0) (pa_cons (pe_bltn (v := .ty "list") (by rfl) B.b_list (by decide +kernel) rfl) pa_nil))) (nomark _)) (pw_or1 (pt_cmpR op_ne (pe_callB (call_isiK' (K := K) rfl) (by rfl) B.b_isinstance (by decide +kernel) (pa_cons (pv 1) (pa_cons (pe_bltn (v := .ty "tuple") (by rfl) B.b_tuple (by decide +kernel) rfl) pa_nil))) (pe_callB (call_isiK' (K := K) rfl) (by rfl) B.b_isinstance (by decide +kernel) (pa_cons (pv 0) (pa_cons (pe_bltn (v := .ty "tuple") (by rfl) B.b_tuple (by decide +kernel) rfl) pa_nil))) (nomark _))))) (pss_one (ps_ret pe_bl)) pss_nil)
 (pss_cons (ps_if (pt_cmpR op_ne (pe_callB (call_lenK (K := K) rfl) (by rfl) B.b_len PySem.boot_len (pa_cons (pv 0) pa_nil)) (pe_callB (call_lenK (K := K) rfl) (by rfl) B.b_len PySem.boot_len (pa_cons (pv 1) pa_nil)) (nomark _)) (pss_one (ps_ret pe_bl)) pss_nil)
 (pss_one (ps_ret (pe_callB (cr_allK (K := K) rfl rfl) (by rfl) B.b_all (by decide +kernel) (pa_cons (pe_lc (own := [("_law_at", 2), ("_law_one", 3)]) rfl sc__law_same.nd (pi_enumT0 (K := K) rfl rfl (by rfl) B.b_enumerate (pa_cons (pv 1) pa_nil)) (blkOk_by (N := ["_law_told", "_law_due", "_law_at", "_law_one"]) (sc := defScope s__law_same) (by decide +kernel)) (fun _ _ _ _ _ => (pg_tupK (K := K) (n := 2) rfl rfl (pgs_cons (pg_name (i := 2) sc__law_same.nd rfl (Or.inl rfl)) (pgs_cons (pg_name (i := 3) sc__law_same.nd rfl (Or.inl rfl)) pgs_nil)))) (fun _ _ _ _ _ => pts_nil) (fun _ _ _ _ _ => (pe_call G__law_same (hr.mono (by first | decide | omega)) (by rfl) C__law_same.g C__law_same.k C__law_same.b .nil pass0 (pa_cons (pe_ix (ix_tupK (K := K) rfl) (pv 0) (pv 2) (fun _ _ => rfl)) (pa_cons (pv 3) pa_nil))))) pa_nil)))))) pss_nil)
 (pss_cons (ps_if (PW.pt (pw_or (pt_val (pe_callB (call_isiK' (K := K) rfl) (by rfl) B.b_isinstance (by decide +kernel) (pa_cons (pv 1) (pa_cons (pe_bltn (v := .ty "str") (by rfl) B.b_str (by decide +kernel) rfl) pa_nil)))) (pw_or1 (pt_cmpR op_isNk (pv 1) pe_non (nomark _))))) (pss_one (ps_ret (pe_and (pe_cmpR op_eq (pv 0) (pv 1) (nomark _)) (pe_one (pe_cmpR op_eq (pe_callB (call_isiK' (K := K) rfl) (by rfl) B.b_isinstance (by decide +kernel) (pa_cons (pv 0) (pa_cons (pe_bltn (v := .ty "str") (by rfl) B.b_str (by decide +kernel) rfl) pa_nil))) (pe_callB (call_isiK' (K := K) rfl) (by rfl) B.b_isinstance (by decide +kernel) (pa_cons (pv 1) (pa_cons (pe_bltn (v := .ty "str") (by rfl) B.b_str (by decide +kernel) rfl) pa_nil))) (nomark _)))))) pss_nil)
 (pss_one (ps_ret (pe_and (pe_call G__law_is_int (hr.mono (by first | decide | omega)) (by rfl) C__law_is_int.g C__law_is_int.k C__law_is_int.b .nil pass0 (pa_cons (pv 0) pa_nil)) (pe_one (pe_cmpR op_eq (pv 0) (pv 1) (nomark _)))))))), ?_⟩
        walk_at "h0"
        intro p hp
        walk_at "hs"
        refine x_isiT1 (t := "tuple") upd_same (.base (.tup (by walk_at "hu"))) (by decide +kernel) (by decide +kernel) ?_
        walk_at "hs"
        refine x_isdF (by omega) ?_
        walk_at "hs"
        refine x_ent1 (.of (keepN hb hp)) fun D hD => ?_
        have nD : H D = none := Same.free (H' := upd H p _) (same_new (Same.refl _) hp) hD
        refine lc_enumT (K := K) (xs := ys) (fun i H' => Same H H' ∧ H' D = some (.lst ((List.replicate i true).map V.bl)))
          ⟨by walk_at "sm", upd_same⟩ (fun i H' _ h => .of (h.1 _ _ hb)) ?_ ?_
        · rintro i v H' U hv ⟨s1, eD⟩ hU
          have h2 := (List.getElem?_eq_some_iff.mp hv).1
          have h1 : i < xs.length := by omega
          have ev : v = ys[i] := by
            rw [List.getElem?_eq_getElem h2] at hv
            exact (Option.some.inj hv).symm
          subst ev
          have a1 : atI xs (0 + (i : Int)) = some xs[i] := by
            rw [Int.zero_add]
            exact atI_nat (List.getElem?_eq_getElem h1)
          have ha' := keepN (o' := .tup [.int (0 + (i : Int)), ys[i]]) (s1 _ _ ha) hU
          walk_at "hs"
          refine ⟨rfl, ?_⟩
          walk_at "hs"
          refine ⟨_, _, rfl, (hal i h1 h2).same (same_new s1 hU), fun H2 s2 => ?_⟩
          refine ⟨_, s2 _ _ (keepN eD hU), szLt (by rw [List.length_map, List.length_replicate]; omega), same_mut ((same_new s1 hU).trans s2) nD, ?_⟩
          rw [upd_same, List.replicate_succ', List.map_append]
          rfl
        · rintro H' ⟨s1, eD⟩
          walk_at "hs"
          refine ⟨D, _, rfl, SqL.of eD, ?_⟩
          rw [show (List.replicate ys.length true).all id = true by simp]
          exact q _ s1
/-- words as the law has them: a pair of rows -/
def ToldAt (H : Hp) (t : Addr) (us : List (Option Nat)) (ls : List (List (Option Bool))) : Prop := ∃ tu tl as, H t = some (.tup [.ref tu, .ref tl]) ∧ H tu = some (.tup (upvs us)) ∧ H tl = some (.tup (refs as)) ∧ Rows H as ls
theorem ToldAt.same {H H' : Hp} {t : Addr} {us : List (Option Nat)} {ls : List (List (Option Bool))} (s : Same H H') (h : ToldAt H t us ls) : ToldAt H' t us ls := by
  obtain ⟨tu, tl, as, h1, h2, h3, h4⟩ := h
  exact ⟨tu, tl, as, s _ _ h1, s _ _ h2, s _ _ h3, h4.same s⟩
theorem ToldAt.but {H H' : Hp} {p t : Addr} {us : List (Option Nat)} {ls : List (List (Option Bool))} (b : But p H H') (n : ∀ xs, H p ≠ some (.tup xs)) (h : ToldAt H t us ls) : ToldAt H' t us ls := by
  obtain ⟨tu, tl, as, h1, h2, h3, h4⟩ := h
  exact ⟨tu, tl, as, b _ _ (fun e => n _ (e ▸ h1)) h1, b _ _ (fun e => n _ (e ▸ h2)) h2, b _ _ (fun e => n _ (e ▸ h3)) h3, h4.but b n⟩
def spRight (K : PySem.W.Frag) : Sp := fun vs H Q _ => ∃ (t : Addr) (hs : List Nat), vs = [.ref t] ∧ H t = some (.tup (nats hs)) ∧ IsTree hs ∧ ∀ m H', H m = none → Same H H' → ToldAt H' m (rightU hs) (rightL hs) → Q (.ref m) H'
theorem ok_right {f : Addr} {fd : FuncData} (F : Fun K "_law_right_words" "_law_right_words" s__law_right_words f fd) (B : Bl Z mg) : FnOk P w K mg base CX0 1 f fd ["_law_hung_here"] (spRight K) := by
  refine F.ok sc__law_right_words (fun vs H Q E h => ?_) (fun cdv A outer s H vs Q E hr h => ?_)
  · obtain ⟨t, hs, rfl, _⟩ := h
    rfl
  · obtain ⟨t, hs, rfl, ht, it, q⟩ := h
    refine ⟨_, (pss_cons (ps_set (i := 1) sc__law_right_words.nd rfl (Or.inl rfl) (pe_lst pa_nil))
 (pss_cons (ps_for PassesOwn.never rfl (pi_range1 rfl B.b_range (pa_cons (pe_op op_add (pe_callB (call_lenK (K := K) rfl) (by rfl) B.b_len PySem.boot_len (pa_cons (pv 0) pa_nil)) pe_int) pa_nil)) (pg_name (i := 2) sc__law_right_words.nd rfl (Or.inr rfl)) (pss_one (ps_expr (pe_bmK (K := K) rfl PySem.F.plainAttrs_list PySem.F.slot_list_append PySem.F.type_list_append mt_append (pv 1) (pa_cons (pe_callTy (call_tplK (K := K) rfl) (by rfl) B.b_tuple (by decide +kernel) (pa_cons (pe_lc (own := [("_law_there", 3)]) rfl sc__law_right_words.nd (pi_tup (pv 0)) (blkOk_by (N := ["_law_hung_here", "_law_lists", "_law_place", "_law_there"]) (sc := defScope s__law_right_words) (by decide +kernel)) (fun _ _ _ _ _ => (pg_name (i := 3) sc__law_right_words.nd rfl (Or.inl rfl))) (fun _ _ _ _ _ => pts_nil) (fun _ _ _ _ _ => (pe_cmpR op_eq (pv 3) (pv 2) (nomark _)))) pa_nil)) pa_nil)))))
 (pss_one (ps_ret (pe_tup (pa_cons (pv 0) (pa_cons (pe_callTy (call_tplK (K := K) rfl) (by rfl) B.b_tuple (by decide +kernel) (pa_cons (pv 1) pa_nil)) pa_nil))))))), ?_⟩
    walk_at "h0"
    intro D hD
    walk_at "hs"
    have ht0 : SqT K (upd H D (.lst [])) t (nats hs) := .of (keepN ht hD)
    walk_at "hs"
    rw [nats_length]
    have h40 := it.most
    refine ⟨(hs.length : Int) + 1, rfl, by omega, by omega, ?_⟩
    refine lp_range (lo := 0) (n := Int.toNat ((hs.length : Int) + 1)) (fun i σ' H' => (∃ x2, σ' = [some (.ref t), some (.ref D), x2, none]) ∧ Same H H' ∧ ∃ as : List Addr, as.length = i ∧ H' D = some (.lst (refs as)) ∧ ∀ (k : Nat) (a : Addr), as[k]? = some a → H' a = some (.tup (wds (hs.map fun h => some (decide (h = k))))))
      ⟨⟨_, rfl⟩, same_new (Same.refl _) hD, [], rfl, upd_same, fun k a h => by cases h⟩ ?_ ?_
    · rintro i σ' H' hi ⟨⟨x2, rfl⟩, s1, as, la, eD, rows⟩
      have ht1 : SqT K H' t (nats hs) := .of (s1 _ _ ht)
      walk_at "hs"
      refine ⟨t, rfl, ⟨_, ht1⟩, fun D2 hD2 => ?_⟩
      refine lc_tup (K := K) (xs := nats hs) (fun j H2 => Same H' H2 ∧ H2 D2 = some (.lst (wds ((hs.take j).map fun h => some (decide (h = i)))))) ⟨same_new (Same.refl _) hD2, upd_same⟩ (fun j H2 _ h => h.1.seqT ht1) ?_ ?_
      · rintro j v H2 hv ⟨s2, eD2⟩
        have hj : j < hs.length := by
          have := (List.getElem?_eq_some_iff.mp hv).1
          rwa [nats_length] at this
        have hv2 : v = .int (hs[j] : Nat) := by
          have e := nats_get (List.getElem?_eq_getElem hj)
          rw [hv] at e
          exact Option.some.inj e
        subst hv2
        walk_at "hs"
        refine ⟨rfl, ?_⟩
        walk_at "hs"
        refine ⟨_, eD2, szLt (by rw [wds_length, List.length_map, List.length_take]; omega), same_mut s2 hD2, ?_⟩
        rw [upd_same, List.take_succ, List.getElem?_eq_getElem hj, List.map_append, wds_app]
        have e : decide (((hs[j] : Nat) : Int) = 0 + (i : Int)) = decide (hs[j] = i) := by
          rw [decide_eq_decide]
          omega
        rw [e]
        rfl
      · rintro H2 ⟨s2, eD2⟩
        rw [nats_length, List.take_length] at eD2
        walk_at "hs"
        intro U hU
        have hUD : U ≠ D := Ne.symm (ne_of_none (s2 _ _ eD) hU)
        walk_at "hs"
        refine x_append (keepN (s2 _ _ eD) hU) (by rw [refs_length]; exact szLt (by omega)) ?_
        walk_at "hs"
        refine ⟨⟨_, rfl⟩, same_mut (same_new (s1.trans s2) hU) hD, as ++ [U], by rw [List.length_append, la]; rfl, by rw [upd_same, refs_app]; rfl, fun k a h => ?_⟩
        rcases Nat.lt_or_ge k as.length with hk | hk
        · rw [List.getElem?_append_left hk] at h
          have e := rows k a h
          exact keepM (fun z => by rw [z, eD] at e; cases e) (keepN (s2 _ _ e) hU)
        · rw [List.getElem?_append_right hk] at h
          have hk0 : k - as.length = 0 := by
            have := (List.getElem?_eq_some_iff.mp h).1
            rw [List.length_singleton] at this
            omega
          rw [hk0] at h
          have ea : U = a := Option.some.inj h
          subst ea
          have ek : k = i := by omega
          subst ek
          exact keepM hUD upd_same
    · rintro σ' H' ⟨⟨x2, rfl⟩, s1, as, la, eD, rows⟩
      walk_at "hs"
      intro U hU
      walk_at "hs"
      intro V hV
      have s2 : Same H (upd H' U (.tup (refs as))) := same_new s1 hU
      refine q V _ (s2.free hV) (same_new s2 hV) ⟨t, U, as, upd_same, keepN (by rw [upvs_some]; exact s2 _ _ ht) hV, keepN upd_same hV, ⟨by rw [la, rightL_len]; omega, fun k a r ha hr => ?_⟩⟩
      have hk := (List.getElem?_eq_some_iff.mp ha).1
      rw [rightL_get (by omega)] at hr
      cases hr
      exact keepN (keepN (rows k a ha) hU) hV
end
set_option maxRecDepth 100000
set_option maxHeartbeats 2000000
open PySem PySem.Spec L2


theorem sc__law_drawn_words : FnScope ["_law_tape_here", "_law_hung_here", "_law_ups", "_law_lists", "_law_some", "_law_told", "_law_at", "_law_place", "_law_other", "_law_rows", "_law_row", "_law_drawn", "_law_flag", "_law_one"] ["_law_tape_here", "_law_hung_here"] (defScope s__law_drawn_words) := ⟨rfl, rfl, rfl, by decide +kernel, rfl, by decide +kernel, by decide +kernel⟩
theorem Rows.mut {H : Hp} {q : Addr} {ys : List V} {o : HO} {as : List Addr} {ls : List (List (Option Bool))} (hq : H q = some (.lst ys)) (h : Rows H as ls) : Rows (upd H q o) as ls := ⟨h.len, fun i a r ha hr => keepM (fun e => by
  have := h.at_ i a r ha hr
  rw [e, hq] at this
  cases this) (h.at_ i a r ha hr)⟩
theorem PoolAt.notTup {H : Hp} {p : Addr} {F : Addr → Prop} (h : PoolAt H p F) : ∀ xs, H p ≠ some (.tup xs) := fun xs e => by
  obtain ⟨ys, e2⟩ := h.lst
  rw [e] at e2
  cases e2
section
variable {P : Program} {w : World} {K : PySem.W.Frag} {mg : Str → Option Value} {base : Heap} {Z : Ad}
def spDrawn : Sp := fun vs H Q _ => ∃ (p t : Addr) (hs : List Nat) (F : Addr → Prop), vs = [.ref p, .ref t] ∧ PoolAt H p F ∧ H t = some (.tup (nats hs)) ∧ IsTree hs ∧ ∀ m us ls H', WdOk hs.length us ls → But p H H' → PoolAt H' p F → H m = none → ToldAt H' m us ls → Q (.ref m) H'
theorem ok_drawn {f : Addr} {fd : FuncData} (F : Fun K "_law_drawn_words" "_law_drawn_words" s__law_drawn_words f fd) (B : Bl Z mg) {f__law_right_words : Addr} {fd__law_right_words : FuncData} (C__law_right_words : Cal K mg "_law_right_words" f__law_right_words fd__law_right_words ["_law_hung_here"]) (G__law_right_words : FnOk P w K mg base CX0 1 f__law_right_words fd__law_right_words ["_law_hung_here"] (spRight K)) {f__law_any : Addr} {fd__law_any : FuncData} (C__law_any : Cal K mg "_law_any" f__law_any fd__law_any ["_law_tape_here", "_law_some"]) (G__law_any : FnOk P w K mg base CX0 2 f__law_any fd__law_any ["_law_tape_here", "_law_some"] (spAny K)) {f__law_pick : Addr} {fd__law_pick : FuncData} (C__law_pick : Cal K mg "_law_pick" f__law_pick fd__law_pick ["_law_tape_here", "_law_many"]) (G__law_pick : FnOk P w K mg base CX0 1 f__law_pick fd__law_pick ["_law_tape_here", "_law_many"] spDraw) : FnOk P w K mg base CX0 3 f fd ["_law_tape_here", "_law_hung_here"] spDrawn := by
  refine F.ok sc__law_drawn_words (fun vs H Q E h => ?_) (fun cdv A outer s H vs Q E hr h => ?_)
  · obtain ⟨p, t, hs, Fo, rfl, _⟩ := h
    rfl
  · obtain ⟨p, t, hs, Fo, rfl, hp, ht, it, q⟩ := h
    refine ⟨_, (pss_cons (ps_asg (pe_call G__law_right_words (hr.mono (by first | decide | omega)) (by rfl) C__law_right_words.g C__law_right_words.k C__law_right_words.b .nil pass0 (pa_cons (pv 1) pa_nil)) (pg_tup rfl (pgs_cons (pg_name (i := 2) sc__law_drawn_words.nd rfl (Or.inl rfl)) (pgs_cons (pg_name (i := 3) sc__law_drawn_words.nd rfl (Or.inl rfl)) pgs_nil))))
 (pss_cons (ps_setLc (i := 4) (own := [("_law_place", 7)]) rfl sc__law_drawn_words.nd rfl rfl (sw_true rfl rfl rfl (by decide +kernel)) (pi_range1 rfl B.b_range (pa_cons (pe_op op_add (pe_callB (call_lenK (K := K) rfl) (by rfl) B.b_len PySem.boot_len (pa_cons (pv 1) pa_nil)) pe_int) pa_nil)) (blkOk_by (N := ["_law_tape_here", "_law_hung_here", "_law_ups", "_law_lists", "_law_some", "_law_told", "_law_at", "_law_place", "_law_other", "_law_rows", "_law_row", "_law_drawn", "_law_flag", "_law_one"]) (sc := defScope s__law_drawn_words) (by decide +kernel)) (fun _ _ _ _ _ => (pg_name (i := 7) sc__law_drawn_words.nd rfl (Or.inl rfl))) (fun _ _ _ _ _ => pts_nil) (fun _ _ _ _ _ => (pv 7)))
 (pss_cons (ps_set (i := 5) sc__law_drawn_words.nd rfl (Or.inl rfl) (pe_lst pa_nil))
 (pss_cons (ps_for PassesOwn.never rfl (pi_enumT0 (K := K) rfl rfl (by rfl) B.b_enumerate (pa_cons (pv 2) pa_nil)) (pg_tup rfl (pgs_cons (pg_name (i := 6) sc__law_drawn_words.nd rfl (Or.inr rfl)) (pgs_cons (pg_name (i := 7) sc__law_drawn_words.nd rfl (Or.inl rfl)) pgs_nil))) (pss_cons (ps_set (i := 8) sc__law_drawn_words.nd rfl (Or.inl rfl) (pe_call G__law_any (hr.mono (by first | decide | omega)) (by rfl) C__law_any.g C__law_any.k C__law_any.b .nil pass0 (pa_cons (pv 0) (pa_cons (pe_lc (own := [("_law_one", 13)]) rfl sc__law_drawn_words.nd (pi_list (pv 4)) (blkOk_by (N := ["_law_tape_here", "_law_hung_here", "_law_ups", "_law_lists", "_law_some", "_law_told", "_law_at", "_law_place", "_law_other", "_law_rows", "_law_row", "_law_drawn", "_law_flag", "_law_one"]) (sc := defScope s__law_drawn_words) (by decide +kernel)) (fun _ _ _ _ _ => (pg_name (i := 13) sc__law_drawn_words.nd rfl (Or.inl rfl))) (fun _ _ _ _ _ => (pts_one (pt_cmpR op_ne (pv 13) (pe_op op_add (pv 6) pe_int) (nomark _)))) (fun _ _ _ _ _ => (pv 13))) pa_nil))))
 (pss_one (ps_expr (pe_bmK (K := K) rfl PySem.F.plainAttrs_list PySem.F.slot_list_append PySem.F.type_list_append mt_append (pv 5) (pa_cons (pe_ix (ix_listK (K := K) rfl) (pe_lst (pa_cons pe_non (pa_cons (pv 8) (pa_cons (pv 7) (pa_cons (pv 7) (pa_cons (pv 7) pa_nil)))))) (pe_call G__law_pick (hr.mono (by first | decide | omega)) (by rfl) C__law_pick.g C__law_pick.k C__law_pick.b .nil pass0 (pa_cons (pv 0) (pa_cons pe_int pa_nil))) (fun _ _ => rfl)) pa_nil))))))
 (pss_cons (ps_set (i := 9) sc__law_drawn_words.nd rfl (Or.inl rfl) (pe_lst pa_nil))
 (pss_cons (ps_for PassesOwn.never rfl (pi_enumT0 (K := K) rfl rfl (by rfl) B.b_enumerate (pa_cons (pv 3) pa_nil)) (pg_tup rfl (pgs_cons (pg_name (i := 7) sc__law_drawn_words.nd rfl (Or.inl rfl)) (pgs_cons (pg_name (i := 10) sc__law_drawn_words.nd rfl (Or.inl rfl)) pgs_nil))) (pss_cons (ps_set (i := 11) sc__law_drawn_words.nd rfl (Or.inl rfl) (pe_lst pa_nil))
 (pss_cons (ps_for PassesOwn.never rfl (pi_tup (pv 10)) (pg_name (i := 12) sc__law_drawn_words.nd rfl (Or.inl rfl)) (pss_one (ps_expr (pe_bmK (K := K) rfl PySem.F.plainAttrs_list PySem.F.slot_list_append PySem.F.type_list_append mt_append (pv 11) (pa_cons (pe_ix (ix_listK (K := K) rfl) (pe_lst (pa_cons pe_non (pa_cons (pe_not (pv 12)) (pa_cons (pv 12) (pa_cons (pv 12) (pa_cons (pv 12) (pa_cons (pv 12) (pa_cons (pv 12) pa_nil)))))))) (pe_call G__law_pick (hr.mono (by first | decide | omega)) (by rfl) C__law_pick.g C__law_pick.k C__law_pick.b .nil pass0 (pa_cons (pv 0) (pa_cons pe_int pa_nil))) (fun _ _ => rfl)) pa_nil)))))
 (C8.pss_cut (ps_if (pt_cmpR op_gt (pv 7) pe_int (nomark _)) (pss_one (ps_asg pe_bl (pg_sub (pv 11) (pe_op op_sub (pv 7) pe_int) set_list))) pss_nil)
 (pss_one (ps_expr (pe_bmK (K := K) rfl PySem.F.plainAttrs_list PySem.F.slot_list_append PySem.F.type_list_append mt_append (pv 9) (pa_cons (pe_callTy (call_tplK (K := K) rfl) (by rfl) B.b_tuple (by decide +kernel) (pa_cons (pv 11) pa_nil)) pa_nil))))))))
 (pss_one (ps_ret (pe_tup (pa_cons (pe_callTy (call_tplK (K := K) rfl) (by rfl) B.b_tuple (by decide +kernel) (pa_cons (pv 5) pa_nil)) (pa_cons (pe_callTy (call_tplK (K := K) rfl) (by rfl) B.b_tuple (by decide +kernel) (pa_cons (pv 9) pa_nil)) pa_nil))))))))))), ?_⟩
    have h40 := it.most
    have h1 := it.pos
    have ntp : t ≠ p := fun e => hp.notTup _ (e ▸ ht)
    walk_at "h0"
    refine ⟨t, hs, rfl, ht, it, fun m0 H1 nm0 s1 ⟨tu, tl, as, e0, eu, el, hw⟩ => ?_⟩
    have p1 := hp.same s1
    have em0 : SqT K H1 m0 [.ref tu, .ref tl] := .of e0
    walk_at "hs"
    have ht1 : SqT K H1 t (nats hs) := .of (s1 _ _ ht)
    walk_at "hs"
    rw [nats_length]
    refine ⟨(hs.length : Int) + 1, rfl, by omega, by omega, fun S hS => ?_⟩
    have nS : H S = none := s1.free hS
    refine lc_range (lo := 0) (n := Int.toNat ((hs.length : Int) + 1)) (fun i H' => Same H1 H' ∧ H' S = some (.lst (nats (List.range i)))) ⟨same_new (Same.refl _) hS, upd_same⟩ ?_ ?_
    · rintro i H' hi ⟨s2, eS⟩
      walk_at "hs"
      refine ⟨rfl, ?_⟩
      walk_at "hs"
      refine ⟨_, eS, by rw [nats_length, List.length_range]; exact szLt (by omega), same_mut s2 hS, ?_⟩
      rw [upd_same, List.range_succ, nats_append, Int.zero_add]
      rfl
    rintro H2 ⟨s2, eS⟩
    rw [show Int.toNat ((hs.length : Int) + 1) = hs.length + 1 by omega] at eS
    have s12 := s1.trans s2
    have p2 := p1.same s2
    have eu2 := s2 _ _ eu
    have el2 := s2 _ _ el
    have hw2 := hw.same s2
    have nSp : S ≠ p := p1.ne hS
    walk_at "hs"
    intro T hT
    have nT : H T = none := s12.free hT
    walk_at "hs"
    refine x_ent1 (.of (keepN eu2 hT)) ?_
    have ntup : tu ≠ p := fun e => p2.notTup _ (e ▸ eu2)
    have ntlp : tl ≠ p := fun e => p2.notTup _ (e ▸ el2)
    refine lp_enumT (K := K) (xs := upvs (rightU hs)) (fun i σ' H' => (∃ x6 x7 x8, σ' = [some (.ref p), some (.ref t), some (.ref tu), some (.ref tl), some (.ref S), some (.ref T), x6, x7, x8, none, none, none, none, none]) ∧ But p H2 H' ∧ PoolAt H' p (fun a => a = T ∨ Fo a) ∧ ∃ us : List (Option Nat), us.length = i ∧ H' T = some (.lst (upvs us)) ∧ ∀ (b q : Nat), us[b]? = some (some q) → q ≤ hs.length ∧ q ≠ b + 1)
      ⟨⟨_, _, _, rfl⟩, But.new (But.refl p H2) hT, p2.own hT, [], rfl, upd_same, fun b q h => by cases h⟩ (fun i σ' H' _ h => .of (h.2.1 _ _ ntup eu2)) ?_ ?_
    · rintro i v σ' H' U hv ⟨⟨x6, x7, x8, rfl⟩, b3, p3, us, lu, eT, hus⟩ hU
      have hi : i < hs.length := by
        have := (List.getElem?_eq_some_iff.mp hv).1
        rwa [upvs_some, nats_length] at this
      have hv2 : v = .int (hs[i] : Nat) := by
        have e := nats_get (List.getElem?_eq_getElem hi)
        rw [upvs_some, e] at hv
        exact (Option.some.inj hv).symm
      subst hv2
      walk_at "hs"
      have eS3 : upd H' U (.tup [.int (0 + (i : Int)), .int (hs[i] : Nat)]) S = some (.lst (nats (List.range (hs.length + 1)))) := keepN (b3 _ _ nSp eS) hU
      have tS3 : SqL K (upd H' U (.tup [.int (0 + (i : Int)), .int (hs[i] : Nat)])) S (nats (List.range (hs.length + 1))) := .of eS3
      refine ⟨S, rfl, ⟨_, tS3⟩, fun D hD => ?_⟩
      have p4 := p3.newH (o := .tup [.int (0 + (i : Int)), .int (hs[i] : Nat)]) hU
      refine lc_list (K := K) (xs := nats (List.range (hs.length + 1))) (fun j H4 => Same (upd H' U (.tup [.int (0 + (i : Int)), .int (hs[i] : Nat)])) H4 ∧ H4 D = some (.lst (nats ((List.range j).filter fun z => decide (z ≠ i + 1)))))
        ⟨same_new (Same.refl _) hD, upd_same⟩ (fun j H4 _ h => h.1.seq tS3) ?_ ?_
      · rintro j v H4 hv4 ⟨s4, eD⟩
        have hj : j < hs.length + 1 := by
          have := (List.getElem?_eq_some_iff.mp hv4).1
          rwa [nats_length, List.length_range] at this
        have hv5 : v = .int (j : Nat) := by
          rw [nats_get (List.getElem?_range hj)] at hv4
          exact (Option.some.inj hv4).symm
        subst hv5
        walk_at "hs"
        refine ⟨rfl, ?_⟩
        walk_at "hs"
        have fl : ((List.range j).filter fun z => decide (z ≠ i + 1)).length ≤ j := Nat.le_trans (List.length_filter_le _ _) (Nat.le_of_eq List.length_range)
        refine x_isd (fun c => ?_) (fun c => ?_)
        · walk_at "hs"
          refine ⟨_, eD, by rw [nats_length]; exact szLt (by omega), same_mut s4 hD, ?_⟩
          rw [upd_same, List.range_succ, List.filter_append, List.filter_cons_of_pos (by rw [decide_eq_true_eq]; omega), List.filter_nil, nats_append]
          rfl
        · refine ⟨s4, ?_⟩
          rw [eD, List.range_succ, List.filter_append, List.filter_cons_of_neg (by rw [decide_eq_true_eq]; omega), List.filter_nil, List.append_nil]
      rintro H4 ⟨s4, eD⟩
      rw [nats_length, List.length_range] at eD
      have p5 := p4.same s4
      walk_at "hs"
      have fl : ((List.range (hs.length + 1)).filter fun z => decide (z ≠ i + 1)).length ≤ hs.length + 1 := Nat.le_trans (List.length_filter_le _ _) (Nat.le_of_eq List.length_range)
      have f0 : 0 < ((List.range (hs.length + 1)).filter fun z => decide (z ≠ i + 1)).length := List.length_pos_of_mem (a := 0) (by rw [List.mem_filter, List.mem_range, decide_eq_true_eq]; omega)
      refine ⟨p, D, _, _, rfl, p5, .of eD, p4.ne hD, by rw [nats_length]; exact f0, by rw [nats_length]; omega, fun x H5 hx b5 p5' => ?_⟩
      obtain ⟨o, ho, rfl⟩ := List.mem_map.mp hx
      rw [List.mem_filter, List.mem_range, decide_eq_true_eq] at ho
      have eT5 : H5 T = some (.lst (upvs us)) := b5 _ _ (p5.neF (.inl rfl)) (s4 _ _ (keepN eT hU))
      walk_at "hs"
      intro W hW
      walk_at "hs"
      refine ⟨p, 5, _, rfl, p5'.newH hW, by decide, by decide, fun d H6 d0 d1 b6 p6 => ?_⟩
      have eW6 : SqL K H6 W [.non, .int (Int.ofNat o), .int (hs[i] : Nat), .int (hs[i] : Nat), .int (hs[i] : Nat)] := .of (b6 _ _ (p5'.ne hW) upd_same)
      obtain ⟨v, hv6, hm⟩ := at_lt (xs := [V.non, .int (Int.ofNat o), .int (hs[i] : Nat), .int (hs[i] : Nat), .int (hs[i] : Nat)]) d0 d1
      have eT6 : H6 T = some (.lst (upvs us)) := b6 _ _ (p5'.neF (.inl rfl)) (keepN eT5 hW)
      obtain ⟨z, rfl, hz⟩ : ∃ z : Option Nat, v = upV z ∧ ∀ q, z = some q → q ≤ hs.length ∧ q ≠ i + 1 := by
        have hne : hs[i] ≠ i + 1 := fun e => ((right_ok it).uo i hs[i] (by unfold rightU; rw [List.getElem?_map, List.getElem?_eq_getElem hi]; rfl)).2 e
        have hle := it.le hs[i] (List.getElem_mem hi)
        have pl : ∃ z : Option Nat, V.int (hs[i] : Nat) = upV z ∧ ∀ q, z = some q → q ≤ hs.length ∧ q ≠ i + 1 := ⟨some hs[i], rfl, fun q e => by cases e; exact ⟨hle, hne⟩⟩
        simp only [List.mem_cons, List.not_mem_nil, or_false] at hm
        rcases hm with rfl | rfl | rfl | rfl | rfl
        · exact ⟨none, rfl, fun q e => by cases e⟩
        · exact ⟨some o, rfl, fun q e => by cases e; exact ⟨by omega, ho.2⟩⟩
        · exact pl
        · exact pl
        · exact pl
      walk_at "hs"
      refine x_append eT6 (by rw [upvs_length]; exact szLt (by omega)) ?_
      walk_at "hs"
      refine ⟨⟨_, _, _, rfl⟩, ?_, p6.mut (.inl rfl), us ++ [z], by rw [List.length_append, lu]; rfl, by rw [upd_same, upvs_app]; rfl, fun b q h => ?_⟩
      · exact ((((((b3.new hU).trans (But.of s4)).trans b5).new hW).trans b6)).mutF hT
      · rcases Nat.lt_or_ge b us.length with hb | hb
        · rw [List.getElem?_append_left hb] at h
          exact hus b q h
        · rw [List.getElem?_append_right hb] at h
          have hb0 : b - us.length = 0 := by
            have := (List.getElem?_eq_some_iff.mp h).1
            rw [List.length_singleton] at this
            omega
          rw [hb0] at h
          have := hz q (Option.some.inj h)
          rw [show b = i by omega]
          exact this
    rintro σ' H3 ⟨⟨x6, x7, x8, rfl⟩, b3, p3, us, lu, eT, hus⟩
    rw [upvs_length] at lu
    have lun : us.length = hs.length := by
      rw [lu]
      unfold rightU
      rw [List.length_map]
    walk_at "hs"
    intro R hR
    have nRT : T ≠ R := ne_of_none eT hR
    walk_at "hs"
    have el3 := b3 _ _ ntlp el2
    have hw3 : Rows H3 as (rightL hs) := hw2.but b3 p2.notTup
    refine x_ent1 (.of (keepN el3 hR)) ?_
    have rl0 : (rightL hs).length = hs.length + 1 := rightL_len hs
    have lasn : as.length = hs.length + 1 := by rw [hw.len, rl0]
    have nTp : T ≠ p := p3.neF (.inl rfl)
    refine lp_enumT (K := K) (xs := refs as) (fun k σ' H' => (∃ x6 x7 x8 x10 x11 x12, σ' = [some (.ref p), some (.ref t), some (.ref tu), some (.ref tl), some (.ref S), some (.ref T), x6, x7, x8, some (.ref R), x10, x11, x12, none]) ∧ But p H3 H' ∧ PoolAt H' p (fun a => a = R ∨ a = T ∨ Fo a) ∧ ∃ as2 ls2, as2.length = k ∧ Rows H' as2 ls2 ∧ H' R = some (.lst (refs as2)) ∧ (∀ r ∈ ls2, r.length = hs.length) ∧ ∀ (g : Nat) r, ls2[g]? = some r → 1 ≤ g → r[g - 1]? = some (some false))
      ⟨⟨_, _, _, _, _, _, rfl⟩, But.new (But.refl p H3) hR, p3.own hR, [], [], rfl, ⟨rfl, fun i a r h => by cases h⟩, upd_same, fun r h => (nomatch h), fun g r h => by cases h⟩ (fun i σ' H' _ h => .of (h.2.1 _ _ ntlp el3)) ?_ ?_
    · rintro k v σ' H' U hv ⟨⟨x6, x7, x8, x10, x11, x12, rfl⟩, b4, p4, as2, ls2, la2, hw4, eR, rlen, rdg⟩ hU
      have hk : k < (rightL hs).length := by
        have := (List.getElem?_eq_some_iff.mp hv).1
        rw [refs_length, lasn] at this
        omega
      obtain ⟨a, ha, he⟩ := (hw3.but b4 p3.notTup).get hk
      have hv2 : v = .ref a := by
        rw [refs_get ha] at hv
        exact (Option.some.inj hv).symm
      subst hv2
      have erow : (rightL hs)[k] = hs.map fun h => some (decide (h = k)) := by
        have := rightL_get (hs := hs) (p := k) (by omega)
        rw [List.getElem?_eq_getElem hk] at this
        exact Option.some.inj this
      rw [erow] at he
      have nap : a ≠ p := fun e => p4.notTup _ (e ▸ he)
      walk_at "hs"
      intro W hW
      have p5 := p4.newH (o := .tup [.int (0 + (k : Int)), .ref a]) hU
      have nRW : R ≠ W := ne_of_none (keepN eR hU) hW
      walk_at "hs"
      refine ⟨a, rfl, ⟨_, .of (keepN (keepN he hU) hW)⟩, ?_⟩
      refine lp_tup (K := K) (xs := wds (hs.map fun h => some (decide (h = k)))) (fun j σ' H'' => (∃ x12, σ' = [some (.ref p), some (.ref t), some (.ref tu), some (.ref tl), some (.ref S), some (.ref T), x6, some (.int (0 + (k : Int))), x8, some (.ref R), some (.ref a), some (.ref W), x12, none]) ∧ But p (upd H' U (.tup [.int (0 + (k : Int)), .ref a])) H'' ∧ PoolAt H'' p (fun z => z = W ∨ z = R ∨ z = T ∨ Fo z) ∧ ∃ c : List (Option Bool), c.length = j ∧ H'' W = some (.lst (wds c)))
        ⟨⟨_, rfl⟩, But.new (But.refl _ _) hW, p5.own hW, [], rfl, upd_same⟩ (fun j σ' H'' _ h => .of (h.2.1 _ _ nap (keepN he hU))) ?_ ?_
      · rintro j v σ' H5 hv5 ⟨⟨x12, rfl⟩, b5, p6, c, lc, eW⟩
        have hj : j < hs.length := by
          have := (List.getElem?_eq_some_iff.mp hv5).1
          rwa [wds_length, List.length_map] at this
        have hv6 : v = .bl (decide (hs[j] = k)) := by
          rw [wds_get (o := some (decide (hs[j] = k))) (by rw [List.getElem?_map, List.getElem?_eq_getElem hj]; rfl)] at hv5
          exact (Option.some.inj hv5).symm
        subst hv6
        generalize decide (hs[j] = k) = fl
        walk_at "hs"
        intro X hX
        walk_at "hs"
        refine ⟨p, 7, _, rfl, p6.newH hX, by decide, by decide, fun d H6 d0 d1 b6 p7 => ?_⟩
        have eX6 : SqL K H6 X [.non, .bl (!fl), .bl fl, .bl fl, .bl fl, .bl fl, .bl fl] := .of (b6 _ _ (p6.ne hX) upd_same)
        obtain ⟨v, hv7, hm⟩ := at_lt (xs := [V.non, .bl (!fl), .bl fl, .bl fl, .bl fl, .bl fl, .bl fl]) d0 d1
        have eW6 : H6 W = some (.lst (wds c)) := b6 _ _ (p6.neF (.inl rfl)) (keepN eW hX)
        obtain ⟨z, rfl⟩ : ∃ z : Option Bool, v = wdV z := by
          simp only [List.mem_cons, List.not_mem_nil, or_false] at hm
          rcases hm with rfl | rfl | rfl | rfl | rfl | rfl | rfl
          · exact ⟨none, rfl⟩
          · exact ⟨some (!fl), rfl⟩
          all_goals exact ⟨some fl, rfl⟩
        walk_at "hs"
        refine x_append eW6 (by rw [wds_length]; exact szLt (by omega)) ?_
        walk_at "hs"
        refine ⟨⟨_, rfl⟩, ?_, p7.mut (.inl rfl), c ++ [z], by rw [List.length_append, lc]; rfl, by rw [upd_same, wds_app]; rfl⟩
        exact ((b5.new hX).trans b6).mutF hW
      rintro σ' H5 ⟨⟨x12, rfl⟩, b5, p6, c, lc, eW⟩
      rw [wds_length, List.length_map] at lc
      refine ⟨fun σ' H6 => σ' = [some (.ref p), some (.ref t), some (.ref tu), some (.ref tl), some (.ref S), some (.ref T), x6, some (.int (0 + (k : Int))), x8, some (.ref R), some (.ref a), some (.ref W), x12, none] ∧ But p (upd H' U (.tup [.int (0 + (k : Int)), .ref a])) H6 ∧ PoolAt H6 p (fun z => z = W ∨ z = R ∨ z = T ∨ Fo z) ∧ ∃ c : List (Option Bool), c.length = hs.length ∧ (1 ≤ k → c[k - 1]? = some (some false)) ∧ H6 W = some (.lst (wds c)), ?_, ?_⟩
      · walk_at "hs"
        refine x_isd (fun cc => ?_) (fun cc => ?_)
        · have hix : ixN (wds c).length (0 + (k : Int) - 1) = some (k - 1) := by
            rw [show (0 + (k : Int) - 1) = ((k - 1 : Nat) : Int) by omega]
            exact ixN_nat (by rw [wds_length]; omega)
          walk_at "hs"
          refine ⟨rfl, b5.mutF hW, p6.mut (.inl rfl), c.set (k - 1) (some false), by rw [List.length_set, lc], fun _ => by rw [List.getElem?_set_self (by omega)], ?_⟩
          rw [upd_same]
          unfold wds
          rw [List.map_set]
          rfl
        · walk_at "hs"
          exact ⟨rfl, b5, p6, c, lc, fun h => absurd h (by omega), eW⟩
      rintro σ6 H6 ⟨rfl, b6, p7, c, lc, dg, eW⟩
      have eR6 : H6 R = some (.lst (refs as2)) := b6 _ _ (p4.neF (.inl rfl)) (keepN eR hU)
      walk_at "hs"
      intro X hX
      walk_at "hs"
      refine x_append (keepN eR6 hX) (by rw [refs_length]; exact szLt (by omega)) ?_
      walk_at "hs"
      have b7 : But p H3 (upd (upd H6 X (.tup (wds c))) R (.lst (refs as2 ++ [.ref X]))) := (((b4.new hU).trans b6).new hX).mutF hR
      have hw6 : Rows (upd (upd H6 X (.tup (wds c))) R (.lst (refs as2 ++ [.ref X]))) as2 ls2 := (((hw4.same (same_new (Same.refl _) hU)).but b6 p5.notTup).same (same_new (Same.refl _) hX)).mut (keepN eR6 hX)
      have nXR : X ≠ R := Ne.symm (ne_of_none eR6 hX)
      refine ⟨⟨_, _, _, _, _, _, rfl⟩, b7, ((p7.newH hX).mut (.inr (.inl rfl))).weak fun z h => .inr h, as2 ++ [X], ls2 ++ [c], by rw [List.length_append, la2]; rfl, ⟨by rw [List.length_append, List.length_append, hw4.len]; rfl, fun g z r hz hr => ?_⟩, by rw [upd_same, refs_app]; rfl, fun r h => ?_, fun g r h g1 => ?_⟩
      · rcases Nat.lt_or_ge g as2.length with hg | hg
        · rw [List.getElem?_append_left hg] at hz
          rw [List.getElem?_append_left (by rw [← hw4.len]; exact hg)] at hr
          exact hw6.at_ g z r hz hr
        · rw [List.getElem?_append_right hg] at hz
          rw [List.getElem?_append_right (by rw [← hw4.len]; exact hg)] at hr
          have hg0 : g - as2.length = 0 := by
            have := (List.getElem?_eq_some_iff.mp hz).1
            rw [List.length_singleton] at this
            omega
          rw [hg0] at hz
          rw [← hw4.len, hg0] at hr
          cases hz
          cases hr
          exact keepM nXR upd_same
      · rcases List.mem_append.mp h with h | h
        · exact rlen r h
        · rw [List.mem_singleton.mp h]
          exact lc
      · have l2 : ls2.length = k := by rw [← hw4.len, la2]
        rcases Nat.lt_or_ge g ls2.length with hg | hg
        · rw [List.getElem?_append_left hg] at h
          exact rdg g r h g1
        · rw [List.getElem?_append_right hg] at h
          have hg0 : g - ls2.length = 0 := by
            have := (List.getElem?_eq_some_iff.mp h).1
            rw [List.length_singleton] at this
            omega
          rw [hg0] at h
          cases h
          rw [show g = k by omega]
          exact dg (by omega)
    rintro σ' H4 ⟨⟨x6, x7, x8, x10, x11, x12, rfl⟩, b4, p4, as2, ls2, la2, hw4, eR, rlen, rdg⟩
    rw [refs_length, lasn] at la2
    have eT4 : H4 T = some (.lst (upvs us)) := b4 _ _ nTp eT
    walk_at "hs"
    intro X hX
    walk_at "hs"
    intro Y hY
    walk_at "hs"
    intro m hm
    have b24 : But p H H4 := ((But.of s12).trans b3).trans b4
    have p6 := ((p4.newH (o := .tup (upvs us)) hX).newH (o := .tup (refs as2)) hY)
    have b6 : But p H (upd (upd H4 X (.tup (upvs us))) Y (.tup (refs as2))) := (b24.new hX).new hY
    refine q m us ls2 _ ⟨h1, h40, lun, hus, by rw [← hw4.len, la2], rlen, rdg⟩ (b6.new hm) ((p6.newH hm).weak fun z h => .inr (.inr h)) (b6.freeB (p6.ne hm) hm) ⟨X, Y, as2, upd_same, keepN (keepN upd_same hY) hm, keepN upd_same hm, ?_⟩
    exact ((hw4.same (same_new (Same.refl _) hX)).same (same_new (Same.refl _) hY)).same (same_new (Same.refl _) hm)
end
set_option maxRecDepth 100000
set_option maxHeartbeats 2000000
open PySem PySem.Spec L2


theorem sc__law_cost : FnScope ["_law_told", "_law_block", "_law_place", "_law_ups", "_law_lists", "_law_got", "_law_other", "_law_row"] ["_law_told", "_law_block", "_law_place"] (defScope s__law_cost) := ⟨rfl, rfl, rfl, by decide +kernel, rfl, by decide +kernel, by decide +kernel⟩
theorem sc__law_sum : FnScope ["_law_told", "_law_hung_here", "_law_at", "_law_place"] ["_law_told", "_law_hung_here"] (defScope s__law_sum) := ⟨rfl, rfl, rfl, by decide +kernel, rfl, by decide +kernel, by decide +kernel⟩
theorem sc__law_all_costs : FnScope ["_law_told", "_law_block", "_law_got", "_law_place"] ["_law_told", "_law_block"] (defScope s__law_all_costs) := ⟨rfl, rfl, rfl, by decide +kernel, rfl, by decide +kernel, by decide +kernel⟩
theorem sc__law_is_beneath : FnScope ["_law_hung_here", "_law_place", "_law_block", "_law_here"] ["_law_hung_here", "_law_place", "_law_block"] (defScope s__law_is_beneath) := ⟨rfl, rfl, rfl, by decide +kernel, rfl, by decide +kernel, by decide +kernel⟩
theorem ToldAt.get {H : Hp} {t : Addr} {us : List (Option Nat)} {ls : List (List (Option Bool))} (h : ToldAt H t us ls) : ∃ tu tl as, H t = some (.tup [.ref tu, .ref tl]) ∧ H tu = some (.tup (upvs us)) ∧ H tl = some (.tup (refs as)) ∧ Rows H as ls := h
/-- the law's costs as a dict -/
def kvsN (us : List (Option Nat)) (ls : List (List (Option Bool))) (b k : Nat) : List (Key × V) := ((List.range k).filter fun p => decide (p ≠ b)).map fun (p : Nat) => ((Sum.inl (p : Int) : Key), V.int (costN us ls b p : Nat))
theorem kvsN_len (us : List (Option Nat)) (ls : List (List (Option Bool))) (b k : Nat) : (kvsN us ls b k).length ≤ k := by
  unfold kvsN
  rw [List.length_map]
  exact Nat.le_trans (List.length_filter_le _ _) (Nat.le_of_eq List.length_range)
theorem kvsN_snoc (us : List (Option Nat)) (ls : List (List (Option Bool))) (b k : Nat) : kvsN us ls b (k + 1) = if k = b then kvsN us ls b k else putK (kvsN us ls b k) (Sum.inl (k : Int)) (.int (costN us ls b k : Nat)) := by
  by_cases h : k = b
  · rw [if_pos h]
    unfold kvsN
    rw [List.range_succ, List.filter_append, List.filter_cons_of_neg (by rw [decide_eq_true_eq]; exact fun z => z h), List.filter_nil, List.append_nil]
  · rw [if_neg h]
    have na : ¬ ((kvsN us ls b k).any fun kv => decide (kv.1 = (Sum.inl (k : Int) : Key))) = true := by
      rw [List.any_eq_true]
      rintro ⟨kv, hm, e⟩
      unfold kvsN at hm
      obtain ⟨p, hp, rfl⟩ := List.mem_map.mp hm
      rw [decide_eq_true_eq] at e
      have e' := Sum.inl.inj e
      rw [List.mem_filter, List.mem_range] at hp
      omega
    unfold putK
    rw [if_neg na]
    unfold kvsN
    rw [List.range_succ, List.filter_append, List.filter_cons_of_pos (by rw [decide_eq_true_eq]; exact h), List.filter_nil, List.map_append, List.map_cons, List.map_nil]
section
variable {P : Program} {w : World} {K : PySem.W.Frag} {mg : Str → Option Value} {base : Heap} {Z : Ad}
def spLCost : Sp := fun vs H Q _ => ∃ (t : Addr) (n b p : Nat) (us : List (Option Nat)) (ls : List (List (Option Bool))), vs = [.ref t, .int b, .int p] ∧ ToldAt H t us ls ∧ WdOk n us ls ∧ 1 ≤ b ∧ b ≤ n ∧ ∀ H', Same H H' → Q (.int (costN us ls b p : Nat)) H'
theorem ok_lcost {f : Addr} {fd : FuncData} (F : Fun K "_law_cost" "_law_cost" s__law_cost f fd) (B : Bl Z mg) : FnOk P w K mg base CX0 1 f fd ["_law_told", "_law_block", "_law_place"] spLCost := by
  refine F.ok sc__law_cost (fun vs H Q E h => ?_) (fun cdv A outer s H vs Q E hr h => ?_)
  · obtain ⟨t, n, b, p, us, ls, rfl, _⟩ := h
    rfl
  · obtain ⟨t, n, b, p, us, ls, rfl, ⟨tu, tl, as, e0, eu, el, hw⟩, ok, b1, b2, q⟩ := h
    have n2 := ok.n2
    have hub : b - 1 < us.length := by rw [ok.ul]; omega
    have au : atI (upvs us) ((b : Int) - 1) = some (upV us[b - 1]) := by
      rw [show (b : Int) - 1 = ((b - 1 : Nat) : Int) by omega]
      exact upvs_at (List.getElem?_eq_getElem hub)
    have asn : as.length = n + 1 := by rw [hw.len, ok.ll]
    have cl : (col ls b).length = n + 1 := by rw [col_len, ok.ll]
    have st0 : SqT K H t [.ref tu, .ref tl] := .of e0
    have stu : SqT K H tu (upvs us) := .of eu
    refine ⟨_, (pss_cons (ps_asg (pv 0) (pg_tup rfl (pgs_cons (pg_name (i := 3) sc__law_cost.nd rfl (Or.inl rfl)) (pgs_cons (pg_name (i := 4) sc__law_cost.nd rfl (Or.inl rfl)) pgs_nil))))
 (C8.pss_cut (ps_set (i := 5) sc__law_cost.nd rfl (Or.inl rfl) (pe_callTy call_int (by rfl) B.b_int (by decide +kernel) (pa_cons (pe_and (pe_cmpR op_notNk (pe_ix (ix_tupK (K := K) rfl) (pv 3) (pe_op op_sub (pv 1) pe_int) (fun _ _ => rfl)) pe_non (nomark _)) (pe_one (pe_cmpR op_ne (pe_ix (ix_tupK (K := K) rfl) (pv 3) (pe_op op_sub (pv 1) pe_int) (fun _ _ => rfl)) (pv 2) (nomark _)))) pa_nil)))
 (pss_cons (ps_for PassesOwn.never rfl (pi_enumT0 (K := K) rfl rfl (by rfl) B.b_enumerate (pa_cons (pv 4) pa_nil)) (pg_tup rfl (pgs_cons (pg_name (i := 6) sc__law_cost.nd rfl (Or.inl rfl)) (pgs_cons (pg_name (i := 7) sc__law_cost.nd rfl (Or.inl rfl)) pgs_nil))) (pss_one (ps_if (PW.pt (pw_and (pt_cmpR op_notNk (pe_ix (ix_tupK (K := K) rfl) (pv 7) (pe_op op_sub (pv 1) pe_int) (fun _ _ => rfl)) pe_non (nomark _)) (pw_and1 (pt_cmpR op_ne (pe_ix (ix_tupK (K := K) rfl) (pv 7) (pe_op op_sub (pv 1) pe_int) (fun _ _ => rfl)) (pe_cmpR op_eq (pv 6) (pv 2) (nomark _)) (nomark _))))) (pss_one (ps_set (i := 5) sc__law_cost.nd rfl (Or.inl rfl) (pe_op op_add (pv 5) pe_int))) pss_nil)))
 (pss_one (ps_ret (pv 5)))))), ?_⟩
    walk_at "h0"
    have eu1 : up1 us b p = match us[b - 1] with | some q => if q = p then 0 else 1 | none => 0 := by
      unfold up1
      rw [List.getElem?_eq_getElem hub]
      cases us[b - 1] <;> rfl
    refine ⟨fun σ' H' => σ' = [some (.ref t), some (.int b), some (.int p), some (.ref tu), some (.ref tl), some (.int (up1 us b p : Nat)), none, none] ∧ H' = H, ?_, ?_⟩
    · cases hu : us[b - 1] with
      | none =>
        rw [hu] at eu1 au
        dsimp only [upV] at au
        walk_at "hs"
        refine .inr ⟨false, rfl, ?_⟩
        walk_at "hs"
        rw [eu1]
        exact ⟨rfl, rfl⟩
      | some k =>
        rw [hu] at eu1 au
        dsimp only [upV] at au
        walk_at "hs"
        refine .inr ⟨decide ((k : Int) ≠ (p : Int)), rfl, ?_⟩
        walk_at "hs"
        rw [eu1]
        refine ⟨?_, rfl⟩
        by_cases e : k = p
        · subst e
          rw [show decide ((k : Int) ≠ (k : Int)) = false from decide_eq_false fun z => z rfl]
          show _ = [_, _, _, _, _, some (V.int ((if k = k then 0 else 1 : Nat) : Int)), _, _]
          rw [if_pos rfl]
          rfl
        · rw [show decide ((k : Int) ≠ (p : Int)) = true from decide_eq_true fun z => e (by omega)]
          show _ = [_, _, _, _, _, some (V.int ((if k = p then 0 else 1 : Nat) : Int)), _, _]
          rw [if_neg e]
          rfl
    rintro σ1 H1 ⟨rfl, rfl⟩
    walk_at "hs"
    refine x_ent1 (.of el) ?_
    refine lp_enumT (K := K) (xs := refs as) (fun i σ' H' => (∃ x6 x7, σ' = [some (.ref t), some (.int b), some (.int p), some (.ref tu), some (.ref tl), some (.int ((up1 us b p + sumW p 0 ((col ls b).take i) : Nat) : Int)), x6, x7]) ∧ Same H1 H')
      ⟨⟨_, _, rfl⟩, Same.refl _⟩ (fun i σ' H' _ h => .of (h.2 _ _ el)) ?_ ?_
    · rintro i v σ' H' U hv ⟨⟨x6, x7, rfl⟩, s2⟩ hU
      have hi : i < ls.length := by
        have := (List.getElem?_eq_some_iff.mp hv).1
        rw [refs_length, asn] at this
        rw [ok.ll]
        exact this
      obtain ⟨a, ha, he⟩ := hw.get hi
      have hv2 : v = .ref a := by
        rw [refs_get ha] at hv
        exact (Option.some.inj hv).symm
      subst hv2
      have rln := ok.rl _ (List.getElem_mem hi)
      have hbj : b - 1 < ls[i].length := by omega
      have ab : atI (wds ls[i]) ((b : Int) - 1) = some (wdV ls[i][b - 1]) := by
        rw [show (b : Int) - 1 = ((b - 1 : Nat) : Int) by omega]
        exact wds_at (List.getElem?_eq_getElem hbj)
      have ec : (col ls b)[i]? = some ls[i][b - 1] := by
        unfold col
        rw [List.getElem?_map, List.getElem?_eq_getElem hi]
        show some ((ls[i][b - 1]?).getD none) = _
        rw [List.getElem?_eq_getElem hbj]
        rfl
      have hic := (List.getElem?_eq_some_iff.mp ec).1
      have step : sumW p 0 ((col ls b).take (i + 1)) = sumW p 0 ((col ls b).take i) + wr1 i p ls[i][b - 1] := by
        rw [List.take_succ, ec, sumW_app, List.length_take, Nat.min_eq_left (by omega), Nat.zero_add]
        show _ + (wr1 i p ls[i][b - 1] + 0) = _
        omega
      have ta : SqT K (upd H' U (.tup [.int (0 + (i : Int)), .ref a])) a (wds ls[i]) := .of (keepN (s2 _ _ he) hU)
      have s3 : Same H1 (upd H' U (.tup [.int (0 + (i : Int)), .ref a])) := same_new s2 hU
      walk_at "hs"
      generalize ls[i][b - 1] = o at ab step ⊢
      cases o with
      | none =>
        dsimp only [wdV] at ab
        dsimp only [wdV]
        walk_at "hs"
        refine ⟨⟨some (.int (0 + (i : Int))), some (.ref a), ?_⟩, s3⟩
        rw [step]
        rfl
      | some g =>
        dsimp only [wdV] at ab
        dsimp only [wdV]
        walk_at "hs"
        have eg : decide ((0 + (i : Int)) = (p : Int)) = decide (i = p) := by
          rw [decide_eq_decide]
          omega
        rw [eg]
        have ws : wr1 i p (some g) = if g = decide (i = p) then 0 else 1 := rfl
        refine x_isd (fun c => ?_) (fun c => ?_)
        · walk_at "hs"
          refine ⟨⟨some (.int (0 + (i : Int))), some (.ref a), ?_⟩, s3⟩
          rw [step, ws, if_neg c]
          rfl
        · refine ⟨⟨some (.int (0 + (i : Int))), some (.ref a), ?_⟩, s3⟩
          rw [step, ws, if_pos (Decidable.not_not.mp c)]
          rfl
    · rintro σ' H' ⟨⟨x6, x7, rfl⟩, s2⟩
      rw [refs_length, asn, ← cl, List.take_length]
      walk_at "hs"
      exact q _ s2
def spLSum : Sp := fun vs H Q _ => ∃ (t h : Addr) (n : Nat) (us : List (Option Nat)) (ls : List (List (Option Bool))) (hs : List Nat), vs = [.ref t, .ref h] ∧ ToldAt H t us ls ∧ WdOk n us ls ∧ H h = some (.tup (nats hs)) ∧ hs.length = n ∧ ∀ H', Same H H' → Q (.int (wrongN us ls 1 hs : Nat)) H'
theorem ok_lsum {f : Addr} {fd : FuncData} (F : Fun K "_law_sum" "_law_sum" s__law_sum f fd) (B : Bl Z mg) {f__law_cost : Addr} {fd__law_cost : FuncData} (C__law_cost : Cal K mg "_law_cost" f__law_cost fd__law_cost ["_law_told", "_law_block", "_law_place"]) (G__law_cost : FnOk P w K mg base CX0 1 f__law_cost fd__law_cost ["_law_told", "_law_block", "_law_place"] spLCost) : FnOk P w K mg base CX0 2 f fd ["_law_told", "_law_hung_here"] spLSum := by
  refine F.ok sc__law_sum (fun vs H Q E h => ?_) (fun cdv A outer s H vs Q E hr h => ?_)
  · obtain ⟨t, h, n, us, ls, hs, rfl, _⟩ := h
    rfl
  · obtain ⟨t, h, n, us, ls, hs, rfl, hw, ok, hh, hn, q⟩ := h
    have n2 := ok.n2
    refine ⟨_, (pss_one (ps_ret (pe_callB (cr_sumK (K := K) rfl rfl) (by rfl) B.b_sum (by decide +kernel) (pa_cons (pe_lc (own := [("_law_at", 2), ("_law_place", 3)]) rfl sc__law_sum.nd (pi_enumT0 (K := K) rfl rfl (by rfl) B.b_enumerate (pa_cons (pv 1) pa_nil)) (blkOk_by (N := ["_law_told", "_law_hung_here", "_law_at", "_law_place"]) (sc := defScope s__law_sum) (by decide +kernel)) (fun _ _ _ _ _ => (pg_tupK (K := K) (n := 2) rfl rfl (pgs_cons (pg_name (i := 2) sc__law_sum.nd rfl (Or.inl rfl)) (pgs_cons (pg_name (i := 3) sc__law_sum.nd rfl (Or.inl rfl)) pgs_nil)))) (fun _ _ _ _ _ => pts_nil) (fun _ _ _ _ _ => (pe_call G__law_cost (hr.mono (by first | decide | omega)) (by rfl) C__law_cost.g C__law_cost.k C__law_cost.b .nil pass0 (pa_cons (pv 0) (pa_cons (pe_op op_add (pv 2) pe_int) (pa_cons (pv 3) pa_nil)))))) pa_nil)))), ?_⟩
    walk_at "h0"
    refine x_ent1 (.of hh) fun D hD => ?_
    refine lc_enumT (K := K) (xs := nats hs) (fun i H' => Same H H' ∧ ∃ ns : List Int, H' D = some (.lst (ns.map V.int)) ∧ ns.length = i ∧ ns.sum = (wrongN us ls 1 (hs.take i) : Nat))
      ⟨same_new (Same.refl _) hD, [], upd_same, rfl, rfl⟩ (fun i H' _ h => .of (h.1 _ _ hh)) ?_ ?_
    · rintro i v H' U hv ⟨s1, ns, eD, nl, sm⟩ hU
      have hi : i < hs.length := by
        have := (List.getElem?_eq_some_iff.mp hv).1
        rwa [nats_length] at this
      have hv2 : v = .int (hs[i] : Nat) := by
        have e := nats_get (List.getElem?_eq_getElem hi)
        rw [hv] at e
        exact Option.some.inj e
      subst hv2
      walk_at "hs"
      refine ⟨rfl, ?_⟩
      walk_at "hs"
      have ec : (0 : Int) + (i : Int) + 1 = ((i + 1 : Nat) : Int) := by omega
      refine ⟨t, n, i + 1, hs[i], us, ls, by rw [ec]; rfl, hw.same (same_new s1 hU), ok, by omega, by omega, fun H2 s2 => ?_⟩
      have eD2 := s2 _ _ (keepN eD hU)
      refine ⟨_, eD2, by rw [List.length_map, nl]; exact szLt (by omega), same_mut ((same_new s1 hU).trans s2) hD, ns ++ [((costN us ls (i + 1) hs[i] : Nat) : Int)], ?_, by rw [List.length_append, nl]; rfl, ?_⟩
      · rw [upd_same, List.map_append]
        rfl
      · rw [List.sum_append, sm, List.take_succ, List.getElem?_eq_getElem hi]
        show ((wrongN us ls 1 (hs.take i) : Nat) : Int) + [((costN us ls (i + 1) hs[i] : Nat) : Int)].sum = ((wrongN us ls 1 (hs.take i ++ [hs[i]]) : Nat) : Int)
        rw [wrongN_snoc, List.length_take, Nat.min_eq_left (by omega), Nat.add_comm 1 i, List.sum_cons, List.sum_nil]
        omega
    · rintro H' ⟨s1, ns, eD, nl, sm⟩
      rw [nats_length, List.take_length] at sm
      walk_at "hs"
      refine ⟨D, ns, rfl, .of eD, ?_⟩
      rw [sm]
      exact q _ s1
def spAll : Sp := fun vs H Q _ => ∃ (t : Addr) (n b : Nat) (us : List (Option Nat)) (ls : List (List (Option Bool))), vs = [.ref t, .int b] ∧ ToldAt H t us ls ∧ WdOk n us ls ∧ 1 ≤ b ∧ b ≤ n ∧ ∀ D H', Same H H' → H D = none → H' D = some (.dK (kvsN us ls b (n + 1))) → Q (.ref D) H'
theorem ok_all {f : Addr} {fd : FuncData} (F : Fun K "_law_all_costs" "_law_all_costs" s__law_all_costs f fd) (B : Bl Z mg) {f__law_cost : Addr} {fd__law_cost : FuncData} (C__law_cost : Cal K mg "_law_cost" f__law_cost fd__law_cost ["_law_told", "_law_block", "_law_place"]) (G__law_cost : FnOk P w K mg base CX0 1 f__law_cost fd__law_cost ["_law_told", "_law_block", "_law_place"] spLCost) : FnOk P w K mg base CX0 2 f fd ["_law_told", "_law_block"] spAll := by
  refine F.ok sc__law_all_costs (fun vs H Q E h => ?_) (fun cdv A outer s H vs Q E hr h => ?_)
  · obtain ⟨t, n, b, us, ls, rfl, _⟩ := h
    rfl
  · obtain ⟨t, n, b, us, ls, rfl, hw, ok, b1, b2, q⟩ := h
    obtain ⟨tu, tl, as, e0, eu, el, hr4⟩ := hw.get
    have n2 := ok.n2
    have asn : as.length = n + 1 := by rw [hr4.len, ok.ll]
    refine ⟨_, (pss_cons (ps_set (i := 2) sc__law_all_costs.nd rfl (Or.inl rfl) pe_dnewK)
 (pss_cons (ps_for PassesOwn.never rfl (pi_range1 rfl B.b_range (pa_cons (pe_callB (call_lenK (K := K) rfl) (by rfl) B.b_len PySem.boot_len (pa_cons (pe_ix (ix_tupK (K := K) rfl) (pv 0) pe_int (fun _ _ => rfl)) pa_nil)) pa_nil)) (pg_name (i := 3) sc__law_all_costs.nd rfl (Or.inl rfl)) (pss_one (ps_if (pt_cmpR op_ne (pv 3) (pv 1) (nomark _)) (pss_one (ps_asg (pe_call G__law_cost (hr.mono (by first | decide | omega)) (by rfl) C__law_cost.g C__law_cost.k C__law_cost.b .nil pass0 (pa_cons (pv 0) (pa_cons (pv 1) (pa_cons (pv 3) pa_nil)))) (pg_sub (pv 2) (pv 3) (set_dict (units1 hr))))) pss_nil)))
 (pss_one (ps_ret (pv 2))))), ?_⟩
    walk_at "h0"
    intro D hD
    have k0 : SqT K (upd H D (.dK [])) t [.ref tu, .ref tl] := .of (keepN e0 hD)
    have k1 : SqT K (upd H D (.dK [])) tl (refs as) := .of (keepN el hD)
    walk_at "hs"
    rw [refs_length, asn]
    refine ⟨((n + 1 : Nat) : Int), rfl, by omega, by omega, ?_⟩
    refine lp_range (lo := 0) (n := Int.toNat ((n + 1 : Nat) : Int)) (fun i σ' H' => (∃ x3, σ' = [some (.ref t), some (.int b), some (.ref D), x3]) ∧ Same H H' ∧ H' D = some (.dK (kvsN us ls b i)))
      ⟨⟨_, rfl⟩, same_new (Same.refl _) hD, upd_same⟩ ?_ ?_
    · rintro i σ' H' hi ⟨⟨x3, rfl⟩, s1, eD⟩
      have kl := kvsN_len us ls b i
      walk_at "hs"
      refine x_isd (fun c => ?_) (fun c => ?_)
      · walk_at "hs"
        refine ⟨t, n, b, i, us, ls, by rw [Int.zero_add]; rfl, hw.same s1, ok, b1, b2, fun H2 s2 => ?_⟩
        walk_at "hs"
        refine ⟨D, _, rfl, .inl ⟨_, Sum.inl (0 + (i : Int)), s2 _ _ eD, rfl, szLt (by omega), rfl⟩, ?_⟩
        walk_at "hs"
        refine ⟨⟨_, rfl⟩, same_mut (s1.trans s2) hD, ?_⟩
        rw [upd_same, kvsN_snoc, if_neg (by omega), Int.zero_add]
      · walk_at "hs"
        refine ⟨⟨_, rfl⟩, s1, ?_⟩
        rw [eD, kvsN_snoc, if_pos (by omega)]
    · rintro σ' H' ⟨⟨x3, rfl⟩, s1, eD⟩
      walk_at "hs"
      exact q D H' s1 hD eD
def spBen : Sp := fun vs H Q _ => ∃ (t : Addr) (hs : List Nat) (k b : Nat), vs = [.ref t, .int k, .int b] ∧ H t = some (.tup (nats hs)) ∧ IsTree hs ∧ k ≤ hs.length ∧ 1 ≤ b ∧ ∀ H', Same H H' → Q (.bl (decide (k = b ∨ b ∈ way hs k))) H'
theorem ok_ben {f : Addr} {fd : FuncData} (F : Fun K "_law_is_beneath" "_law_is_beneath" s__law_is_beneath f fd) (B : Bl Z mg) : FnOk P w K mg base CX0 1 f fd ["_law_hung_here", "_law_place", "_law_block"] spBen := by
  refine F.ok sc__law_is_beneath (fun vs H Q E h => ?_) (fun cdv A outer s H vs Q E hr h => ?_)
  · obtain ⟨t, hs, k, b, rfl, _⟩ := h
    rfl
  · obtain ⟨t, hs, k, b, rfl, ht, it, hk, b1, q⟩ := h
    refine ⟨_, (pss_cons (ps_set (i := 3) sc__law_is_beneath.nd rfl (Or.inl rfl) (pv 1))
 (pss_cons (ps_while PassesOwn.never (pt_cmpR (op_notInK (K := K) rfl) (pv 3) (pe_lst (pa_cons pe_int (pa_cons (pv 2) pa_nil))) (by rfl)) (pss_one (ps_set (i := 3) sc__law_is_beneath.nd rfl (Or.inl rfl) (pe_ix (ix_tupK (K := K) rfl) (pv 0) (pe_op op_sub (pv 3) pe_int) (fun _ _ => rfl)))))
 (pss_one (ps_ret (pe_cmpR op_eq (pv 3) (pv 2) (nomark _)))))), ?_⟩
    walk_at "h0"
    have n2 := it.most
    refine ⟨fun m σ' H' => ∃ st : Nat, st + m = hs.length ∧ σ' = [some (.ref t), some (.int k), some (.int b), some (.int (upN hs st k : Nat))] ∧ Same H H' ∧ ∀ j, j < st → upN hs j k ≠ 0 ∧ upN hs j k ≠ b, ⟨hs.length, 0, Nat.zero_add _, rfl, Same.refl _, fun j h => absurd h (Nat.not_lt_zero _)⟩, ?_⟩
    rintro m σ' H' ⟨st, hst, rfl, s1, hj⟩
    walk_at "hs"
    intro L hL
    refine x_ninNL (l := [0, b]) (.of upd_same) ?_
    walk_at "hs"
    have ht1 : SqT K (upd H' L (.lst [.int 0, .int b])) t (nats hs) := .of (keepN (s1 _ _ ht) hL)
    have s2 : Same H (upd H' L (.lst [.int 0, .int b])) := same_new s1 hL
    refine x_isnd (fun c => ?_) (fun c => ?_)
    · have c0 : upN hs st k ≠ 0 := fun e => c (by rw [e]; exact List.mem_cons_self)
      have cb : upN hs st k ≠ b := fun e => c (by rw [e]; exact List.mem_cons_of_mem _ List.mem_cons_self)
      have hlt : st < hs.length := Nat.lt_of_not_le fun hle => c0 (upN_more (it.comes k hk) hle)
      have hup := upN_le it.le st k hk
      have hat : atI (nats hs) ((upN hs st k : Nat) - 1 : Int) = some (.int (upN hs (st + 1) k : Nat)) := by
        rw [show ((upN hs st k : Nat) - 1 : Int) = ((upN hs st k - 1 : Nat) : Int) by omega, upN_succ]
        exact nats_at (up_get (by omega) hup)
      refine ⟨fun σ' H2 => σ' = [some (.ref t), some (.int k), some (.int b), some (.int (upN hs (st + 1) k : Nat))] ∧ Same H H2, fun σ' H2 hN => ⟨m - 1, by omega, st + 1, by omega, hN.1, hN.2, fun j hj2 => ?_⟩, ?_⟩
      · by_cases e : j = st
        · rw [e]
          exact ⟨c0, cb⟩
        · exact hj j (by omega)
      · walk_at "hs"
        exact ⟨rfl, s2⟩
    · walk_at "hs"
      have ed : decide (((upN hs st k : Nat) : Int) = (b : Int)) = decide (k = b ∨ b ∈ way hs k) := by
        rw [decide_eq_decide]
        constructor
        · intro e
          have e' : upN hs st k = b := by omega
          by_cases h0 : st = 0
          · subst h0
            exact .inl e'
          · refine .inr ((way_mem hs b hs.length k).mpr ⟨st - 1, by omega, (hj (st - 1) (by omega)).1, ?_⟩)
            rw [show st - 1 + 1 = st by omega]
            exact e'
        · intro e
          have hc : upN hs st k = 0 ∨ upN hs st k = b := by
            rcases List.mem_cons.mp c with h | h
            · exact .inl h
            · exact .inr (List.mem_singleton.mp h)
          rcases hc with h0 | h0
          · exfalso
            rcases e with e | e
            · by_cases z : st = 0
              · subst z
                have : upN hs 0 k = k := rfl
                omega
              · exact (hj 0 (by omega)).2 e
            · obtain ⟨j, j1, j2, j3⟩ := (way_mem hs b hs.length k).mp e
              rcases Nat.lt_or_ge (j + 1) st with h | h
              · exact (hj _ h).2 j3
              · rw [upN_more h0 h] at j3
                omega
          · omega
      rw [ed]
      exact q _ s2
end
set_option maxRecDepth 100000
set_option maxHeartbeats 2000000
open PySem PySem.Spec L2


theorem sc__law_moves : FnScope ["_law_tape_here", "_law_hung_here", "_law_many", "_law_got", "_law_turn", "_law_block", "_law_some", "_law_place"] ["_law_tape_here", "_law_hung_here", "_law_many"] (defScope s__law_moves) := ⟨rfl, rfl, rfl, by decide +kernel, rfl, by decide +kernel, by decide +kernel⟩
theorem sc__law_costs_right : FnScope ["_law_tape_here", "_law_told", "_law_made", "_law_many", "_law_votes_due", "_law_blocks", "_law_block", "_law_costs", "_law_place", "_law_least", "_law_some", "_law_got"] ["_law_tape_here", "_law_told", "_law_made"] (defScope s__law_costs_right) := ⟨rfl, rfl, rfl, by decide +kernel, rfl, by decide +kernel, by decide +kernel⟩
theorem lp_keys {d : Addr} {o : Obj} {kvs : List (Key × V)} {g : TG} {tb : TS} {nx : L2.St → Hp → Prop} {rt : VK} {σ : L2.St} {H : Hp} (Pv : Nat → L2.St → Hp → Prop) (h0 : Pv 0 σ H) (hl : ∀ i σ H, Pv i σ H → H d = some (.frz o (.dK kvs)))
    (hs : ∀ i k v σ H, kvs[i]? = some (k, v) → Pv i σ H → g (kV k) σ H fun σ2 H2 => tb { nx := Pv (i + 1), rt := rt, bk := nx, ct := Pv (i + 1) } σ2 H2) (hd : ∀ σ H, Pv kvs.length σ H → nx σ H) :
    ∃ W : Nat → Nat → L2.St → Hp → Prop, (∃ m, W 0 m σ H) ∧ ∀ i m σ H, W i m σ H → ((Itk d o kvs).stop i H ∧ nx σ H) ∨ ((Itk d o kvs).go i H ∧ ∃ N : L2.St → Hp → Prop, (∀ σ' H', N σ' H' → ∃ m', m' < m ∧ W (i + 1) m' σ' H') ∧ ∀ x H', (Itk d o kvs).yld i H x H' → g x σ H' fun σ2 H2 => tb { nx := N, rt := rt, bk := nx, ct := N } σ2 H2) := by
  refine ⟨fun i m σ H => m = kvs.length - i ∧ i ≤ kvs.length ∧ Pv i σ H, ⟨_, rfl, Nat.zero_le _, h0⟩, ?_⟩
  rintro i m σ H ⟨rfl, hi, p⟩
  by_cases hlt : i < kvs.length
  · refine .inr ⟨⟨hl i σ H p, hlt⟩, Pv (i + 1), fun σ' H' p' => ⟨_, by omega, rfl, hlt, p'⟩, ?_⟩
    rintro x H' ⟨rfl, k, v, e, rfl⟩
    exact hs i k v σ _ e p
  · have e : i = kvs.length := by omega
    subst e
    exact .inl ⟨⟨hl _ σ H p, Nat.le_refl _⟩, hd σ H p⟩
/-- a move, as the law draws it -/
def MovesAt (H : Hp) (m : Addr) (b k : Nat) : Prop := ∃ (G m1 : Addr) (v : V), H m = some (.tup [.ref G, v]) ∧ H G = some (.tup [.ref m1]) ∧ H m1 = some (.tup [.int b, .int k])
section
variable {P : Program} {w : World} {K : PySem.W.Frag} {mg : Str → Option Value} {base : Heap} {Z : Ad}
def spMoves : Sp := fun vs H Q _ => ∃ (p t : Addr) (hs : List Nat) (F : Addr → Prop), vs = [.ref p, .ref t, .int 1] ∧ PoolAt H p F ∧ H t = some (.tup (nats hs)) ∧ IsTree hs ∧ ∀ m b k H', 1 ≤ b → b ≤ hs.length → k ≤ hs.length → ¬ (k = b ∨ b ∈ way hs k) → But p H H' → PoolAt H' p F → H m = none → MovesAt H' m b k → Q (.ref m) H'
theorem ok_moves {f : Addr} {fd : FuncData} (F : Fun K "_law_moves" "_law_moves" s__law_moves f fd) (B : Bl Z mg) {f__law_is_beneath : Addr} {fd__law_is_beneath : FuncData} (C__law_is_beneath : Cal K mg "_law_is_beneath" f__law_is_beneath fd__law_is_beneath ["_law_hung_here", "_law_place", "_law_block"]) (G__law_is_beneath : FnOk P w K mg base CX0 1 f__law_is_beneath fd__law_is_beneath ["_law_hung_here", "_law_place", "_law_block"] spBen) {f__law_any : Addr} {fd__law_any : FuncData} (C__law_any : Cal K mg "_law_any" f__law_any fd__law_any ["_law_tape_here", "_law_some"]) (G__law_any : FnOk P w K mg base CX0 2 f__law_any fd__law_any ["_law_tape_here", "_law_some"] (spAny K)) {f__law_pick : Addr} {fd__law_pick : FuncData} (C__law_pick : Cal K mg "_law_pick" f__law_pick fd__law_pick ["_law_tape_here", "_law_many"]) (G__law_pick : FnOk P w K mg base CX0 1 f__law_pick fd__law_pick ["_law_tape_here", "_law_many"] spDraw) : FnOk P w K mg base CX0 3 f fd ["_law_tape_here", "_law_hung_here", "_law_many"] spMoves := by
  refine F.ok sc__law_moves (fun vs H Q E h => ?_) (fun cdv A outer s H vs Q E hr h => ?_)
  · obtain ⟨p, t, hs, Fo, rfl, _⟩ := h
    rfl
  · obtain ⟨p, t, hs, Fo, rfl, hp, ht, it, q⟩ := h
    refine ⟨_, (pss_cons (ps_set (i := 3) sc__law_moves.nd rfl (Or.inl rfl) (pe_lst pa_nil))
 (pss_cons (ps_for PassesOwn.never rfl (pi_range1 rfl B.b_range (pa_cons (pv 2) pa_nil)) (pg_name (i := 4) sc__law_moves.nd rfl (Or.inl rfl)) (pss_cons (ps_set (i := 5) sc__law_moves.nd rfl (Or.inr rfl) (pe_op op_add pe_int (pe_call G__law_pick (hr.mono (by first | decide | omega)) (by rfl) C__law_pick.g C__law_pick.k C__law_pick.b .nil pass0 (pa_cons (pv 0) (pa_cons (pe_callB (call_lenK (K := K) rfl) (by rfl) B.b_len PySem.boot_len (pa_cons (pv 1) pa_nil)) pa_nil)))))
 (pss_cons (ps_setLc (i := 6) (own := [("_law_place", 7)]) rfl sc__law_moves.nd rfl rfl (sw_true rfl rfl rfl (by decide +kernel)) (pi_range1 rfl B.b_range (pa_cons (pe_op op_add (pe_callB (call_lenK (K := K) rfl) (by rfl) B.b_len PySem.boot_len (pa_cons (pv 1) pa_nil)) pe_int) pa_nil)) (blkOk_by (N := ["_law_tape_here", "_law_hung_here", "_law_many", "_law_got", "_law_turn", "_law_block", "_law_some", "_law_place"]) (sc := defScope s__law_moves) (by decide +kernel)) (fun _ _ _ _ _ => (pg_name (i := 7) sc__law_moves.nd rfl (Or.inl rfl))) (fun _ _ _ _ _ => (pts_one (pt_not (pt_val (pe_call G__law_is_beneath (hr.mono (by first | decide | omega)) (by rfl) C__law_is_beneath.g C__law_is_beneath.k C__law_is_beneath.b .nil pass0 (pa_cons (pv 1) (pa_cons (pv 7) (pa_cons (pv 5) pa_nil)))))))) (fun _ _ _ _ _ => (pv 7)))
 (pss_cons (ps_set (i := 7) sc__law_moves.nd rfl (Or.inl rfl) (pe_call G__law_any (hr.mono (by first | decide | omega)) (by rfl) C__law_any.g C__law_any.k C__law_any.b .nil pass0 (pa_cons (pv 0) (pa_cons (pv 6) pa_nil))))
 (pss_cons (ps_expr (pe_bmK (K := K) rfl PySem.F.plainAttrs_list PySem.F.slot_list_append PySem.F.type_list_append mt_append (pv 3) (pa_cons (pe_tup (pa_cons (pv 5) (pa_cons (pv 7) pa_nil))) pa_nil)))
 (pss_one (ps_set (i := 1) sc__law_moves.nd rfl (Or.inr rfl) (pe_op (op_catAK (K := K) rfl) (pe_op (op_catAK (K := K) rfl) (pe_slice (sl_tupAK (K := K) rfl) (pv 1) po_none (po_some (pe_op op_sub (pv 5) pe_int))) (pe_tup (pa_cons (pv 7) pa_nil))) (pe_slice (sl_tupAK (K := K) rfl) (pv 1) (po_some (pv 5)) po_none)))))))))
 (pss_one (ps_ret (pe_tup (pa_cons (pe_callTy (call_tplK (K := K) rfl) (by rfl) B.b_tuple (by decide +kernel) (pa_cons (pv 3) pa_nil)) (pa_cons (pv 1) pa_nil))))))), ?_⟩
    have h40 := it.most
    have h1 := it.pos
    walk_at "h0"
    intro G hG
    walk_at "hs"
    refine ⟨1, rfl, by decide, by decide, ?_⟩
    refine lp_range (lo := 0) (n := Int.toNat 1) (fun i σ' H' => (i = 0 → σ' = [some (.ref p), some (.ref t), some (.int 1), some (.ref G), none, none, none, none] ∧ H' = upd H G (.lst [])) ∧ (0 < i → ∃ (v : V) (x4 x5 x6 x7 : Option V) (b k : Nat) (m1 : Addr), σ' = [some (.ref p), some v, some (.int 1), some (.ref G), x4, x5, x6, x7] ∧ But p H H' ∧ PoolAt H' p (fun a => a = G ∨ Fo a) ∧ H' G = some (.lst [.ref m1]) ∧ H' m1 = some (.tup [.int b, .int k]) ∧ 1 ≤ b ∧ b ≤ hs.length ∧ k ≤ hs.length ∧ ¬ (k = b ∨ b ∈ way hs k)))
      ⟨fun _ => ⟨rfl, rfl⟩, fun h => absurd h (Nat.not_lt_zero _)⟩ ?_ ?_
    · rintro i σ' H' hi ⟨h0, _⟩
      have hi0 : i = 0 := by
        have : i < 1 := hi
        omega
      obtain ⟨rfl, rfl⟩ := h0 hi0
      subst hi0
      have p1 := hp.own (o := .lst []) hG
      have eG0 : upd H G (.lst []) G = some (.lst []) := upd_same
      have st : SqT K (upd H G (.lst [])) t (nats hs) := .of (keepN ht hG)
      have b1 : But p H (upd H G (.lst [])) := But.new (But.refl p H) hG
      have ntp : t ≠ p := fun e => hp.notTup _ (e ▸ ht)
      generalize upd H G (.lst []) = H1 at *
      walk_at "hs"
      rw [nats_length]
      refine ⟨p, _, _, rfl, p1, by omega, by omega, fun d H2 d0 d1 b2 p2 => ?_⟩
      obtain ⟨dn, rfl⟩ := Int.eq_ofNat_of_zero_le d0
      have eb : (1 + (dn : Int)) = ((dn + 1 : Nat) : Int) := by omega
      have st2 : SqT K H2 t (nats hs) := b2.seqT ntp st
      have et2 : H2 t = some (.tup (nats hs)) := b2 _ _ ntp (b1 _ _ ntp ht)
      have eG2 := b2 _ _ (p1.neF (.inl rfl)) eG0
      walk_at "hs"
      rw [nats_length, eb]
      refine ⟨(hs.length : Int) + 1, rfl, by omega, by omega, fun S hS => ?_⟩
      refine lc_range (lo := 0) (n := Int.toNat ((hs.length : Int) + 1)) (fun i H' => Same H2 H' ∧ H' S = some (.lst (nats ((List.range i).filter fun k => !decide (k = dn + 1 ∨ dn + 1 ∈ way hs k))))) ⟨same_new (Same.refl _) hS, upd_same⟩ ?_ ?_
      · rintro i H' hi2 ⟨s3, eS⟩
        have fl : ((List.range i).filter fun k => !decide (k = dn + 1 ∨ dn + 1 ∈ way hs k)).length ≤ i := Nat.le_trans (List.length_filter_le _ _) (Nat.le_of_eq List.length_range)
        walk_at "hs"
        refine ⟨rfl, ?_⟩
        walk_at "hs"
        refine ⟨t, hs, i, dn + 1, by rw [Int.zero_add]; rfl, s3 _ _ et2, it, by omega, by omega, fun H4 s4 => ?_⟩
        walk_at "hs"
        refine x_isnd (fun c => ?_) (fun c => ?_)
        · walk_at "hs"
          refine ⟨_, s4 _ _ eS, by rw [nats_length]; exact szLt (by omega), same_mut (s3.trans s4) hS, ?_⟩
          rw [upd_same, List.range_succ, List.filter_append, List.filter_cons_of_pos (by rw [decide_eq_false c]; rfl), List.filter_nil, nats_append, Int.zero_add]
          rfl
        · refine ⟨s3.trans s4, ?_⟩
          rw [s4 _ _ eS, List.range_succ, List.filter_append, List.filter_cons_of_neg (by rw [decide_eq_true c]; decide), List.filter_nil, List.append_nil]
      rintro H3 ⟨s3, eS⟩
      have fl : ((List.range (Int.toNat ((hs.length : Int) + 1))).filter fun k => !decide (k = dn + 1 ∨ dn + 1 ∈ way hs k)).length ≤ hs.length + 1 := Nat.le_trans (List.length_filter_le _ _) (Nat.le_trans (Nat.le_of_eq List.length_range) (by omega))
      have f0 : 0 < ((List.range (Int.toNat ((hs.length : Int) + 1))).filter fun k => !decide (k = dn + 1 ∨ dn + 1 ∈ way hs k)).length := List.length_pos_of_mem (a := 0) (by
        rw [List.mem_filter, List.mem_range, Bool.not_eq_true', decide_eq_false_iff_not]
        refine ⟨by omega, fun z => ?_⟩
        rcases z with z | z
        · omega
        · unfold way at z
          rw [wayN_nil] at z
          cases z)
      have p3 := p2.same s3
      walk_at "hs"
      refine ⟨p, S, _, _, rfl, p3, .of eS, p2.ne hS, by rw [nats_length]; exact f0, by rw [nats_length]; omega, fun x H4 hx b4 p4 => ?_⟩
      obtain ⟨k, hk, rfl⟩ := List.mem_map.mp hx
      rw [List.mem_filter, List.mem_range, Bool.not_eq_true', decide_eq_false_iff_not] at hk
      have eG4 := b4 _ _ (p3.neF (.inl rfl)) (s3 _ _ eG2)
      have et4 : H4 t = some (.tup (nats hs)) := b4 _ _ ntp (s3 _ _ et2)
      walk_at "hs"
      intro m1 hm1
      have nGm : m1 ≠ G := Ne.symm (ne_of_none eG4 hm1)
      walk_at "hs"
      refine x_append (keepN eG4 hm1) (by decide) ?_
      walk_at "hs"
      have ntG : t ≠ G := fun e => by
        rw [e, eG4] at et4
        cases et4
      have et5 : upd (upd H4 m1 (.tup [.int ((dn + 1 : Nat) : Int), .int (Int.ofNat k)])) G (.lst ([] ++ [.ref m1])) t = some (.tup (nats hs)) := keepM ntG (keepN et4 hm1)
      have p5 : PoolAt (upd (upd H4 m1 (.tup [.int ((dn + 1 : Nat) : Int), .int (Int.ofNat k)])) G (.lst ([] ++ [.ref m1]))) p (fun a => a = G ∨ Fo a) := (p4.newH hm1).mut (.inl rfl)
      have eG5 : upd (upd H4 m1 (.tup [.int ((dn + 1 : Nat) : Int), .int (Int.ofNat k)])) G (.lst ([] ++ [.ref m1])) G = some (.lst [.ref m1]) := upd_same
      have em5 : upd (upd H4 m1 (.tup [.int ((dn + 1 : Nat) : Int), .int (Int.ofNat k)])) G (.lst ([] ++ [.ref m1])) m1 = some (.tup [.int ((dn + 1 : Nat) : Int), .int (Int.ofNat k)]) := keepM nGm upd_same
      have b5 : But p H (upd (upd H4 m1 (.tup [.int ((dn + 1 : Nat) : Int), .int (Int.ofNat k)])) G (.lst ([] ++ [.ref m1]))) := ((((b1.trans b2).trans (But.of s3)).trans b4).new hm1).mutF hG
      generalize upd (upd H4 m1 (.tup [.int ((dn + 1 : Nat) : Int), .int (Int.ofNat k)])) G (.lst ([] ++ [.ref m1])) = H5 at *
      refine x_slA et5 fun D2 H6 s6 e6 => ?_
      walk_at "hs"
      intro q1 hq1
      walk_at "hs"
      refine x_catA (keepN e6 hq1) upd_same (by have := cutV_length (nats hs) none (some (((dn + 1 : Nat) : Int) - 1)); rw [nats_length] at this; rw [List.length_cons, List.length_nil]; omega) fun D3 H7 s7 e7 => ?_
      have s57 : Same H5 H7 := fun a o e => s7 _ _ (keepN (s6 _ _ e) hq1)
      walk_at "hs"
      refine x_slA (s57 _ _ et5) fun D4 H8 s8 e8 => ?_
      refine x_catA (s8 _ _ e7) e8 (by have h5 := cutV_length (nats hs) none (some (((dn + 1 : Nat) : Int) - 1)); have h6 := cutV_length (nats hs) (some ((dn + 1 : Nat) : Int)) none; rw [nats_length] at h5 h6; rw [List.length_append, List.length_cons, List.length_nil]; omega) fun D5 H9 s9 e9 => ?_
      have s59 : Same H5 H9 := fun a o e => s9 _ _ (s8 _ _ (s57 _ _ e))
      walk_at "hs"
      exact ⟨fun h => absurd h (Nat.succ_ne_zero _), fun _ => ⟨_, _, _, _, _, dn + 1, k, m1, rfl, b5.trans (But.of s59), p5.same s59, s59 _ _ eG5, s59 _ _ em5, by omega, by omega, by omega, hk.2⟩⟩
    · rintro σ' H' ⟨_, h⟩
      obtain ⟨v, x4, x5, x6, x7, b, k, m1, rfl, b5, p5, eG, em, k1, k2, k3, k4⟩ := h Nat.one_pos
      walk_at "hs"
      intro X hX
      walk_at "hs"
      intro m hm
      have p6 := (p5.newH (o := .tup [.ref m1]) hX)
      have b6 : But p H (upd H' X (.tup [.ref m1])) := b5.new hX
      exact q m b k _ k1 k2 k3 k4 (b6.new hm) ((p6.newH hm).weak fun z h => .inr h) (b6.freeB (p6.ne hm) hm) ⟨X, m1, v, upd_same, keepN upd_same hm, keepN (keepN em hX) hm⟩
end
set_option maxRecDepth 100000
set_option maxHeartbeats 4000000
open PySem PySem.Spec L2


theorem range_take : ∀ {k n s : Nat}, k ≤ n → (List.range' s n).take k = List.range' s k
  | 0, _, _, _ => rfl
  | k + 1, 0, _, h => absurd h (by omega)
  | k + 1, n + 1, s, h => by
    rw [List.range'_succ, List.range'_succ, List.take_succ_cons, range_take (by omega)]
theorem WordsAt.but {H H' : Hp} {p x : Addr} {ys : List V} {n : Nat} {us : List (Option Nat)} {ls : List (List (Option Bool))} (b : But p H H') (hp : H p = some (.lst ys)) (h : WordsAt Z H x n us ls) : WordsAt Z H' x n us ls := by
  obtain ⟨dx, fs, tu, tl, as, h1, h2, h3, h4, h5, h6, h7⟩ := h
  exact ⟨dx, fs, tu, tl, as, b _ _ (fun e => by rw [e, hp] at h1; cases h1) h1, h2, h3, h4, b _ _ (fun e => by rw [e, hp] at h5; cases h5) h5, b _ _ (fun e => by rw [e, hp] at h6; cases h6) h6, h7.but b fun xs e => by rw [hp] at e; cases e⟩
theorem WordsAt.frz {H : Hp} {p x : Addr} {kvs : List (Key × V)} {o : HO} {n : Nat} {us : List (Option Nat)} {ls : List (List (Option Bool))} (hp : H p = some (.dK kvs)) (h : WordsAt Z H x n us ls) : WordsAt Z (upd H p o) x n us ls := by
  obtain ⟨dx, fs, tu, tl, as, h1, h2, h3, h4, h5, h6, h7⟩ := h
  exact ⟨dx, fs, tu, tl, as, keepM (fun e => by rw [e, hp] at h1; cases h1) h1, h2, h3, h4, keepM (fun e => by rw [e, hp] at h5; cases h5) h5, keepM (fun e => by rw [e, hp] at h6; cases h6) h6, h7.len, fun i a r ha hr => keepM (fun e => by have := h7.at_ i a r ha hr; rw [e, hp] at this; cases this) (h7.at_ i a r ha hr)⟩
theorem kvsN_vals (us : List (Option Nat)) (ls : List (List (Option Bool))) (b k : Nat) : (kvsN us ls b k).map (·.2) = ((csN us ls b k).map fun (j : Nat) => (j : Int)).map V.int := by
  unfold kvsN csN
  rw [List.map_map, List.map_map, List.map_map]
  rfl
/-- the places but the block itself -/
def othN (b k : Nat) : List Nat := (List.range k).filter fun p => decide (p ≠ b)
theorem kvsN_keys (us : List (Option Nat)) (ls : List (List (Option Bool))) (b k : Nat) : ((kvsN us ls b k).map fun kv => kV kv.1) = nats (othN b k) := by
  unfold kvsN othN nats
  rw [List.map_map]
  rfl
theorem othN_len (b k : Nat) : (othN b k).length ≤ k := Nat.le_trans (List.length_filter_le _ _) (Nat.le_of_eq List.length_range)
theorem othN_mem {b k p : Nat} (h : p ∈ othN b k) : p < k ∧ p ≠ b := by
  unfold othN at h
  rw [List.mem_filter, List.mem_range, decide_eq_true_eq] at h
  exact h
theorem othN_sorted (b k : Nat) : (othN b k).Pairwise (· < ·) := List.Pairwise.filter _ List.pairwise_lt_range
theorem plN_oth (us : List (Option Nat)) (ls : List (List (Option Bool))) (b m k : Nat) : (othN b k).filter (fun p => decide (costN us ls b p = m)) = plN us ls b m k := by
  unfold othN plN
  rw [List.filter_filter]
  congr 1
  funext p
  rw [Bool.and_comm]
theorem VoteAt.al {H : Hp} {q r : Addr} {us : List (Option Nat)} {ls : List (List (Option Bool))} {n b k : Nat} (hn : n ≤ 40) (h : VoteAt H q us ls n b) (g : VoteAt H r us ls n b) : AlI H (k + 2) (.ref q) (.ref r) := by
  obtain ⟨m, T, h1, h2, h3⟩ := h
  obtain ⟨m', T', g1, g2, g3⟩ := g
  have e := h1.det g1
  subst e
  refine .inr (.inr ⟨q, r, _, _, rfl, rfl, h2, g2, rfl, by show 2 ≤ 1000; decide, fun i k1 k2 => ?_⟩)
  match i, k1 with
  | 0, _ => exact .int _
  | 1, _ => exact .nats h3 g3 (Nat.le_trans (plN_len _ _ _ _ _) (by omega))
  | i + 2, k1 => exact absurd k1 (by show ¬ i + 2 < 2; omega)
theorem VoteAt.mut {H : Hp} {q d : Addr} {ys : List V} {o : HO} {us : List (Option Nat)} {ls : List (List (Option Bool))} {n b : Nat} (hd : H d = some (.lst ys)) (h : VoteAt H q us ls n b) : VoteAt (upd H d o) q us ls n b := by
  obtain ⟨m, T, g1, g2, g3⟩ := h
  exact ⟨m, T, g1, keepM (fun z => by rw [z, hd] at g2; cases g2) g2, keepM (fun z => by rw [z, hd] at g3; cases g3) g3⟩
theorem AlI.lists {H : Hp} {n : Nat} {a b : Addr} {xs ys : List V} (ha : H a = some (.lst xs)) (hb : H b = some (.lst ys)) (hl : xs.length = ys.length) (hz : ys.length ≤ 1000) (h : ∀ i (h1 : i < xs.length) (h2 : i < ys.length), AlI H n xs[i] ys[i]) : AlI H (n + 1) (.ref a) (.ref b) := .inr (.inl ⟨a, b, xs, ys, rfl, rfl, ha, hb, hl, hz, h⟩)
theorem kvsN_get {us : List (Option Nat)} {ls : List (List (Option Bool))} {b k i : Nat} {kv : Key × V} (h : (kvsN us ls b k)[i]? = some kv) : ∃ p : Nat, p < k ∧ p ≠ b ∧ kv = (Sum.inl (p : Int), .int (costN us ls b p : Nat)) := by
  have hm := List.mem_of_getElem? h
  unfold kvsN at hm
  obtain ⟨p, hp, rfl⟩ := List.mem_map.mp hm
  rw [List.mem_filter, List.mem_range, decide_eq_true_eq] at hp
  exact ⟨p, hp.1, hp.2, rfl⟩
theorem kvsN_val {us : List (Option Nat)} {ls : List (List (Option Bool))} {b p : Nat} (hb : p ≠ b) : ∀ {k : Nat}, p < k → valV (kvsN us ls b k) (Sum.inl (p : Int)) = some (.int (costN us ls b p : Nat))
  | 0, h => absurd h (Nat.not_lt_zero _)
  | k + 1, h => by
    rw [kvsN_snoc]
    by_cases e : p = k
    · subst e
      rw [if_neg hb, valV_put, if_pos rfl]
    · have ih := kvsN_val (us := us) (ls := ls) hb (k := k) (by omega)
      split
      · exact ih
      · rw [valV_put, if_neg (fun z => e (by have := Sum.inl.inj z; omega))]
        exact ih
section
variable {P : Program} {w : World} {K : PySem.W.Frag} {mg : Str → Option Value} {base : Heap} {Z : Ad}
def spCR (Z : Ad) : Sp := fun vs H Q _ => ∃ (v : V) (t x : Addr) (n : Nat) (us : List (Option Nat)) (ls : List (List (Option Bool))), vs = [v, .ref t, .ref x] ∧ ToldAt H t us ls ∧ WordsAt Z H x n us ls ∧ WdOk n us ls ∧ ∀ H', Same H H' → Q (.bl true) H'
theorem ok_cr {f : Addr} {fd : FuncData} (F : Fun K "_law_costs_right" "_law_costs_right" s__law_costs_right f fd) (B : Bl Z mg) {f__law_all_costs : Addr} {fd__law_all_costs : FuncData} (C__law_all_costs : Cal K mg "_law_all_costs" f__law_all_costs fd__law_all_costs ["_law_told", "_law_block"]) (G__law_all_costs : FnOk P w K mg base CX0 2 f__law_all_costs fd__law_all_costs ["_law_told", "_law_block"] spAll) {f__law_same : Addr} {fd__law_same : FuncData} (C__law_same : Cal K mg "_law_same" f__law_same fd__law_same ["_law_told", "_law_due"]) (G__law_same : FnOk P w K mg base CX0 5 f__law_same fd__law_same ["_law_told", "_law_due"] (spSame 3)) {f_cost : Addr} {fd_cost : FuncData} (C_cost : Cal K mg "cost" f_cost fd_cost ["words", "block", "place"]) (G_cost : FnOk P w K mg base CX0 2 f_cost fd_cost ["words", "block", "place"] (spCost Z)) {f_votes : Addr} {fd_votes : FuncData} (C_votes : Cal K mg "votes" f_votes fd_votes ["words"]) (G_votes : FnOk P w K mg base CX0 3 f_votes fd_votes ["words"] (spVotes Z)) : FnOk P w K mg base CX0 6 f fd ["_law_tape_here", "_law_told", "_law_made"] (spCR Z) := by
  refine F.ok sc__law_costs_right (fun vs H Q E h => ?_) (fun cdv A outer s H vs Q E hr h => ?_)
  · obtain ⟨v, t, x, n, us, ls, rfl, _⟩ := h
    rfl
  · obtain ⟨v, t, x, n, us, ls, rfl, hw, hx, ok, q⟩ := h
    obtain ⟨tu, tl, as, e0, eu, el, hr4⟩ := hw.get
    have n1 := ok.n1
    have n2 := ok.n2
    refine ⟨_, (pss_cons (ps_set (i := 3) sc__law_costs_right.nd rfl (Or.inl rfl) (pe_callB (call_lenK (K := K) rfl) (by rfl) B.b_len PySem.boot_len (pa_cons (pe_ix (ix_tupK (K := K) rfl) (pv 1) pe_int (fun _ _ => rfl)) pa_nil)))
 (pss_cons (ps_set (i := 4) sc__law_costs_right.nd rfl (Or.inl rfl) (pe_lst pa_nil))
 (pss_cons (ps_set (i := 5) sc__law_costs_right.nd rfl (Or.inl rfl) (pe_listRg rfl (by rfl) B.b_list (prg_2 (by rfl) B.b_range pe_int (pe_op op_add (pv 3) pe_int))))
 (C8.pss_cut (ps_if (pt_cmpR op_gt (pv 3) pe_int (nomark _)) (pss_one (ps_set (i := 5) sc__law_costs_right.nd rfl (Or.inl rfl) (pe_slice (sl_listK (K := K) rfl) (pv 5) po_none (po_some pe_int)))) pss_nil)
 (pss_cons (ps_for PassesOwn.never rfl (pi_list (pv 5)) (pg_name (i := 6) sc__law_costs_right.nd rfl (Or.inl rfl)) (pss_cons (ps_set (i := 7) sc__law_costs_right.nd rfl (Or.inr rfl) (pe_call G__law_all_costs (hr.mono (by first | decide | omega)) (by rfl) C__law_all_costs.g C__law_all_costs.k C__law_all_costs.b .nil pass0 (pa_cons (pv 1) (pa_cons (pv 6) pa_nil))))
 (pss_cons (ps_lock (ps_for PassesOwn.never rfl (pi_keys (pv 7)) (pg_name (i := 8) sc__law_costs_right.nd rfl (Or.inl rfl)) (pss_one (ps_if (pt_not (pt_val (pe_call G__law_same (hr.mono (by first | decide | omega)) (by rfl) C__law_same.g C__law_same.k C__law_same.b .nil pass0 (pa_cons (pe_call G_cost (hr.mono (by first | decide | omega)) (by rfl) C_cost.g C_cost.k C_cost.b .nil pass0 (pa_cons (pv 2) (pa_cons (pv 6) (pa_cons (pv 8) pa_nil)))) (pa_cons (pe_dget (units1 hr) (pv 7) (pv 8) (fun _ _ => rfl)) pa_nil))))) (pss_one (ps_ret pe_bl)) pss_nil))))
 (pss_cons (ps_set (i := 9) sc__law_costs_right.nd rfl (Or.inr rfl) (pe_minVals rfl (by rfl) B.b_min (pv 7)))
 (pss_cons (ps_setLc (i := 10) (own := [("_law_place", 8)]) rfl sc__law_costs_right.nd rfl rfl (sw_true rfl rfl rfl (by decide +kernel)) (pi_list (pe_callB (cr_sortedK (K := K) rfl) (by rfl) B.b_sorted (by decide +kernel) (pa_cons (pe_callTy (call_list_dK rfl) (by rfl) B.b_list (by decide +kernel) (pa_cons (pv 7) pa_nil)) pa_nil))) (blkOk_by (N := ["_law_tape_here", "_law_told", "_law_made", "_law_many", "_law_votes_due", "_law_blocks", "_law_block", "_law_costs", "_law_place", "_law_least", "_law_some", "_law_got"]) (sc := defScope s__law_costs_right) (by decide +kernel)) (fun _ _ _ _ _ => (pg_name (i := 8) sc__law_costs_right.nd rfl (Or.inl rfl))) (fun _ _ _ _ _ => (pts_one (pt_cmpR op_eq (pe_dget (units1 hr) (pv 7) (pv 8) (fun _ _ => rfl)) (pv 9) (nomark _)))) (fun _ _ _ _ _ => (pv 8)))
 (pss_one (ps_expr (pe_bmK (K := K) rfl PySem.F.plainAttrs_list PySem.F.slot_list_append PySem.F.type_list_append mt_append (pv 4) (pa_cons (pe_tup (pa_cons (pv 9) (pa_cons (pe_callTy (call_tplK (K := K) rfl) (by rfl) B.b_tuple (by decide +kernel) (pa_cons (pv 10) pa_nil)) pa_nil))) pa_nil)))))))))
 (pss_cons (ps_set (i := 11) sc__law_costs_right.nd rfl (Or.inl rfl) (pe_call G_votes (hr.mono (by first | decide | omega)) (by rfl) C_votes.g C_votes.k C_votes.b .nil pass0 (pa_cons (pv 2) pa_nil)))
 (pss_cons (ps_if (PW.pt (pw_or (pt_not (pt_val (pe_callB (call_isiK' (K := K) rfl) (by rfl) B.b_isinstance (by decide +kernel) (pa_cons (pv 11) (pa_cons (pe_bltn (v := .ty "list") (by rfl) B.b_list (by decide +kernel) rfl) pa_nil))))) (pw_or (pt_cmpR op_ne (pe_callB (call_lenK (K := K) rfl) (by rfl) B.b_len PySem.boot_len (pa_cons (pv 11) pa_nil)) (pv 3) (nomark _)) (pw_or1 (pt_not (pt_val (pe_call G__law_same (hr.mono (by first | decide | omega)) (by rfl) C__law_same.g C__law_same.k C__law_same.b .nil pass0 (pa_cons (pe_slice (sl_listK (K := K) rfl) (pv 11) po_none (po_some (pe_callB (call_lenK (K := K) rfl) (by rfl) B.b_len PySem.boot_len (pa_cons (pv 5) pa_nil)))) (pa_cons (pv 4) pa_nil))))))))) (pss_one (ps_ret pe_bl)) pss_nil)
 (pss_cons (ps_expr (pe_bmK (K := K) rfl PySem.F.plainAttrs_list PySem.F.slot_list_append PySem.F.type_list_append mt_append (pv 11) (pa_cons pe_non pa_nil)))
 (pss_one (ps_ret (pe_call G__law_same (hr.mono (by first | decide | omega)) (by rfl) C__law_same.g C__law_same.k C__law_same.b .nil pass0 (pa_cons (pe_slice (sl_listK (K := K) rfl) (pe_call G_votes (hr.mono (by first | decide | omega)) (by rfl) C_votes.g C_votes.k C_votes.b .nil pass0 (pa_cons (pv 2) pa_nil)) po_none (po_some (pe_callB (call_lenK (K := K) rfl) (by rfl) B.b_len PySem.boot_len (pa_cons (pv 5) pa_nil)))) (pa_cons (pv 4) pa_nil))))))))))))), ?_⟩
    have k0 : SqT K H t [.ref tu, .ref tl] := .of e0
    have k1 : SqT K H tu (upvs us) := .of eu
    walk_at "h0"
    rw [upvs_length, ok.ul]
    intro VD hVD
    walk_at "hs"
    refine ⟨⟨by omega, by omega, by omega, by omega, by omega⟩, fun L hL => ?_⟩
    rw [rgV_nats]
    have nVL : VD ≠ L := ne_of_none upd_same hL
    refine ⟨fun σ' H' => ∃ (BL : Addr) (m : Nat), σ' = [some v, some (.ref t), some (.ref x), some (.int n), some (.ref VD), some (.ref BL), none, none, none, none, none, none] ∧ 1 ≤ m ∧ m ≤ n ∧ BL ≠ VD ∧ H' BL = some (.lst (nats (List.range' 1 m))) ∧ H' VD = some (.lst []) ∧ Same H H', ?_, ?_⟩
    · walk_at "hs"
      refine x_isd (fun c => ?_) (fun c => ?_)
      · walk_at "hs"
        intro L2 hL2
        have nVL2 : VD ≠ L2 := ne_of_none (keepN upd_same hL) hL2
        walk_at "hs"
        refine ⟨L2, 3, rfl, by decide, by omega, Ne.symm nVL2, ?_, keepN (keepN upd_same hL) hL2, same_new (same_new (same_new (Same.refl _) hVD) hL) hL2⟩
        rw [upd_same, show ((3 : Int)) = ((3 : Nat) : Int) from rfl, cut_take, nats_take, range_take (by omega)]
      · walk_at "hs"
        exact ⟨L, n, rfl, n1, Nat.le_refl _, Ne.symm nVL, upd_same, keepN upd_same hL, same_new (same_new (Same.refl _) hVD) hL⟩
    rintro σ1 H1 ⟨BL, m, rfl, m1, m2, nBV, eBL, eVD, s1⟩
    have notT : ∀ xs, H1 VD ≠ some (.tup xs) := fun xs e => by
      rw [eVD] at e
      cases e
    have hw1 := hw.same s1
    have hx1 := hx.same s1
    walk_at "hs"
    refine ⟨BL, rfl, ⟨_, .of eBL⟩, ?_⟩
    refine lp_list (K := K) (xs := nats (List.range' 1 m)) (fun i σ' H' => (∃ x6 x7 x8 x9 x10, σ' = [some v, some (.ref t), some (.ref x), some (.int n), some (.ref VD), some (.ref BL), x6, x7, x8, x9, x10, none]) ∧ But VD H1 H' ∧ ∃ qs : List Addr, qs.length = i ∧ H' VD = some (.lst (refs qs)) ∧ ∀ (k : Nat) q, qs[k]? = some q → VoteAt H' q us ls n (k + 1))
      ⟨⟨_, _, _, _, _, rfl⟩, But.refl _ _, [], rfl, eVD, fun k q h => by cases h⟩ (fun i σ' H' _ h => .of (h.2.1 _ _ nBV eBL)) ?_ ?_
    · rintro i vv σ' H' hvv ⟨⟨x6, x7, x8, x9, x10, rfl⟩, b2, qs, lq, eVD2, hq⟩
      have hi : i < m := by
        have := (List.getElem?_eq_some_iff.mp hvv).1
        rwa [nats_length, List.length_range'] at this
      have hv2 : vv = .int ((i + 1 : Nat) : Int) := by
        rw [nats_get (x := i + 1) (by rw [List.getElem?_range' hi, Nat.one_mul, Nat.add_comm])] at hvv
        exact (Option.some.inj hvv).symm
      subst hv2
      have hw2 := hw1.but b2 notT
      have hx2 := hx1.but b2 eVD
      walk_at "hs"
      refine ⟨t, n, i + 1, us, ls, rfl, hw2, ok, by omega, by omega, fun C H3 s3 nC eC => ?_⟩
      have nCV : C ≠ VD := Ne.symm (ne_of_none eVD2 nC)
      have hx3 := hx2.same s3
      walk_at "hs"
      refine ⟨C, _, eC, trivial, fun od => ?_⟩
      walk_at "hs"
      refine x_keysV rfl upd_same ?_
      have hx4 : WordsAt Z (upd H3 C (.frz od (.dK (kvsN us ls (i + 1) (n + 1))))) x n us ls := hx3.frz eC
      refine lp_keys (fun j σ' H4 => (∃ x8, σ' = [some v, some (.ref t), some (.ref x), some (.int n), some (.ref VD), some (.ref BL), some (.int ((i + 1 : Nat) : Int)), some (.ref C), x8, x9, x10, none]) ∧ Same (upd H3 C (.frz od (.dK (kvsN us ls (i + 1) (n + 1))))) H4)
        ⟨⟨_, rfl⟩, Same.refl _⟩ (fun j σ' H4 h => h.2 _ _ upd_same) ?_ ?_
      · rintro j kk vl σ' H4 hkv ⟨⟨x8, rfl⟩, s4⟩
        obtain ⟨p, hp, hpb, hk⟩ := kvsN_get hkv
        have hk1 : kk = Sum.inl (p : Int) := congrArg Prod.fst hk
        have hk2 : vl = .int (costN us ls (i + 1) p : Nat) := congrArg Prod.snd hk
        subst hk1 hk2
        show gName 8 (V.int (p : Int)) _ _ _
        walk_at "hs"
        refine ⟨x, n, i + 1, p, us, ls, rfl, hx4.same s4, ok, by omega, by omega, by omega, hpb, fun H5 s5 => ?_⟩
        have eC5 := s5 _ _ (s4 _ _ (upd_same (o := .frz od (.dK (kvsN us ls (i + 1) (n + 1))))))
        walk_at "hs"
        refine x_dget ?_
        walk_at "hs"
        refine ⟨C, _, rfl, .inl ⟨_, Sum.inl (p : Int), .inr ⟨od, eC5⟩, rfl, (kvsN_val hpb hp).symm⟩, ?_⟩
        walk_at "hs"
        refine ⟨_, _, rfl, .int _, fun H6 s6 => ?_⟩
        walk_at "hs"
        exact ⟨⟨_, rfl⟩, (s4.trans s5).trans s6⟩
      rintro σ' H4 ⟨⟨x8, rfl⟩, s4⟩
      refine ⟨s4 _ _ upd_same, ?_⟩
      have s34 : Same H3 (upd H4 C (.dK (kvsN us ls (i + 1) (n + 1)))) := same_unlock eC s4
      have eC4 : upd H4 C (.dK (kvsN us ls (i + 1) (n + 1))) C = some (.dK (kvsN us ls (i + 1) (n + 1))) := upd_same
      generalize upd H4 C (.dK (kvsN us ls (i + 1) (n + 1))) = H5 at s34 eC4 ⊢
      have s25 := s3.trans s34
      walk_at "hs"
      refine ⟨.ref C, rfl, C, _, (csN us ls (i + 1) (n + 1)).map fun (k : Nat) => (k : Int), rfl, eC4, kvsN_vals _ _ _ _, fun z => ?_, fun mm hm hall => ?_⟩
      · have := csN_pos (us := us) (ls := ls) (n := n) (b := i + 1) (by omega)
        rw [List.map_eq_nil_iff.mp z] at this
        exact absurd this (Nat.lt_irrefl _)
      obtain ⟨mn, hm', rfl⟩ := List.mem_map.mp hm
      have hmin : MinIs us ls n (i + 1) mn := csN_min hm' fun y hy => by
        have := hall (y : Int) (List.mem_map.mpr ⟨y, hy, rfl⟩)
        exact Int.ofNat_le.mp this
      walk_at "hs"
      refine ⟨C, _, rfl, eC4, fun L3 hL3 => ?_⟩
      rw [kvsN_keys]
      have ol := othN_len (i + 1) (n + 1)
      walk_at "hs"
      refine x_sortN (l := othN (i + 1) (n + 1)) (ys := othN (i + 1) (n + 1)) (.of upd_same) (by omega) (List.Perm.refl _) (othN_sorted _ _) fun S hS => ?_
      walk_at "hs"
      refine ⟨S, rfl, ⟨_, .of upd_same⟩, fun D hD => ?_⟩
      have s57 : Same H5 (upd (upd H5 L3 (.lst (nats (othN (i + 1) (n + 1))))) S (.lst (nats (othN (i + 1) (n + 1))))) := same_new (same_new (Same.refl _) hL3) hS
      have eS : upd (upd H5 L3 (.lst (nats (othN (i + 1) (n + 1))))) S (.lst (nats (othN (i + 1) (n + 1)))) S = some (.lst (nats (othN (i + 1) (n + 1)))) := upd_same
      generalize upd (upd H5 L3 (.lst (nats (othN (i + 1) (n + 1))))) S (.lst (nats (othN (i + 1) (n + 1)))) = H7 at *
      refine lc_list (K := K) (xs := nats (othN (i + 1) (n + 1))) (fun j H8 => Same H7 H8 ∧ H8 D = some (.lst (nats (((othN (i + 1) (n + 1)).take j).filter fun p => decide (costN us ls (i + 1) p = mn))))) ⟨same_new (Same.refl _) hD, upd_same⟩ (fun j H8 _ h => .of (h.1 _ _ eS)) ?_ ?_
      · rintro j vv H8 hvv ⟨s8, eD⟩
        have hj : j < (othN (i + 1) (n + 1)).length := by
          have := (List.getElem?_eq_some_iff.mp hvv).1
          rwa [nats_length] at this
        obtain ⟨p, hpj⟩ : ∃ p, (othN (i + 1) (n + 1))[j]? = some p := ⟨_, List.getElem?_eq_getElem hj⟩
        have hv3 : vv = .int (p : Nat) := by
          rw [nats_get hpj] at hvv
          exact (Option.some.inj hvv).symm
        subst hv3
        obtain ⟨hp, hpb⟩ := othN_mem (List.mem_of_getElem? hpj)
        have fl : (((othN (i + 1) (n + 1)).take j).filter fun p => decide (costN us ls (i + 1) p = mn)).length ≤ j := Nat.le_trans (List.length_filter_le _ _) (by rw [List.length_take]; omega)
        have eC8 := s8 _ _ (s57 _ _ eC4)
        walk_at "hs"
        refine ⟨rfl, ?_⟩
        walk_at "hs"
        refine x_dget ?_
        walk_at "hs"
        refine ⟨C, _, rfl, .inl ⟨_, Sum.inl (p : Int), .inl eC8, rfl, (kvsN_val hpb hp).symm⟩, ?_⟩
        walk_at "hs"
        refine x_isd (fun c => ?_) (fun c => ?_)
        · walk_at "hs"
          refine ⟨_, eD, by rw [nats_length]; exact szLt (by omega), same_mut s8 hD, ?_⟩
          rw [upd_same, List.take_succ, hpj, List.filter_append]
          show some (HO.lst (nats _ ++ [V.int (p : Int)])) = some (.lst (nats (_ ++ List.filter _ [p])))
          rw [List.filter_cons_of_pos (by rw [decide_eq_true_eq]; omega), List.filter_nil, nats_append]
          rfl
        · refine ⟨s8, ?_⟩
          rw [eD, List.take_succ, hpj, List.filter_append]
          show some (HO.lst (nats _)) = some (.lst (nats (_ ++ List.filter _ [p])))
          rw [List.filter_cons_of_neg (by rw [decide_eq_true_eq]; omega), List.filter_nil, List.append_nil]
      rintro H8 ⟨s8, eD⟩
      rw [nats_length, List.take_length, plN_oth] at eD
      have s28 := (s25.trans s57).trans s8
      have eVD8 := s28 _ _ eVD2
      walk_at "hs"
      intro U hU
      walk_at "hs"
      intro q1 hq1
      walk_at "hs"
      have eVD9 := keepN (keepN (o' := .tup (nats (plN us ls (i + 1) mn (n + 1)))) eVD8 hU) hq1 (o' := .tup [.int (mn : Nat), .ref U])
      refine x_append eVD9 (by rw [refs_length, lq]; exact szLt (by omega)) ?_
      walk_at "hs"
      have v1 : VoteAt (upd (upd H8 U (.tup (nats (plN us ls (i + 1) mn (n + 1))))) q1 (.tup [.int (mn : Nat), .ref U])) q1 us ls n (i + 1) := ⟨mn, U, hmin, upd_same, keepN upd_same hq1⟩
      have s29 : Same H' (upd (upd H8 U (.tup (nats (plN us ls (i + 1) mn (n + 1))))) q1 (.tup [.int (mn : Nat), .ref U])) := same_new (same_new s28 hU) hq1
      refine ⟨⟨_, _, _, _, _, rfl⟩, (b2.trans (But.of s29)).mut, qs ++ [q1], by rw [List.length_append, lq]; rfl, by rw [upd_same, refs_app]; rfl, fun k q h => ?_⟩
      rcases Nat.lt_or_ge k qs.length with hk | hk
      · rw [List.getElem?_append_left hk] at h
        exact ((hq k q h).same s29).mut eVD9
      · rw [List.getElem?_append_right hk] at h
        have hk0 : k - qs.length = 0 := by
          have := (List.getElem?_eq_some_iff.mp h).1
          rw [List.length_singleton] at this
          omega
        rw [hk0] at h
        have ea : q1 = q := Option.some.inj h
        subst ea
        rw [show k = i by omega]
        exact v1.mut eVD9
    rintro σ' H2 ⟨⟨x6, x7, x8, x9, x10, rfl⟩, b2, qs, lq, eVD2, hq⟩
    rw [nats_length, List.length_range'] at lq
    have s02 : Same H H2 := fun b o e => b2 b o (ne_of_none e hVD) (s1 b o e)
    have hx2 := hx1.but b2 eVD
    have eBL2 := b2 _ _ nBV eBL
    walk_at "hs"
    refine ⟨x, n, us, ls, rfl, hx2, ok, fun G gs H3 s3 nG eG lg hg => ?_⟩
    have eBL3 := s3 _ _ eBL2
    have eVD3 := s3 _ _ eVD2
    have nGV : VD ≠ G := ne_of_none eVD2 nG
    have nGB : BL ≠ G := ne_of_none eBL2 nG
    have gl : (refs gs).length = n := by rw [refs_length, lg]
    walk_at "hs"
    rw [gl]
    refine x_isdF (by omega) ?_
    walk_at "hs"
    intro S hS
    rw [nats_length, List.length_range', cut_take]
    walk_at "hs"
    have al : ∀ (H4 : Hp) (ga : List Addr), ga.length = n → (∀ (k : Nat) q, ga[k]? = some q → VoteAt H4 q us ls n (k + 1)) → (∀ (k : Nat) q, qs[k]? = some q → VoteAt H4 q us ls n (k + 1)) → ∀ (i : Nat) (h1 : i < ((refs ga).take m).length) (h2 : i < (refs qs).length), AlI H4 2 ((refs ga).take m)[i] (refs qs)[i] := fun H4 ga gal g1 g2 i h1 h2 => by
      have h3 : i < qs.length := by rwa [refs_length] at h2
      have h4 : i < ga.length := by
        rw [List.length_take, refs_length] at h1
        omega
      have e1 : ((refs ga).take m)[i] = .ref ga[i] := by
        rw [List.getElem_take]
        have := refs_get (List.getElem?_eq_getElem h4)
        exact (List.getElem?_eq_some_iff.mp this).2
      have e2 : (refs qs)[i] = .ref qs[i] := by
        have := refs_get (List.getElem?_eq_getElem h3)
        exact (List.getElem?_eq_some_iff.mp this).2
      rw [e1, e2]
      exact VoteAt.al (k := 0) n2 (g1 i _ (List.getElem?_eq_getElem h4)) (g2 i _ (List.getElem?_eq_getElem h3))
    have lenE : ∀ ga : List Addr, ga.length = n → ((refs ga).take m).length = (refs qs).length := fun ga gal => by
      rw [List.length_take, refs_length, refs_length, gal, lq, Nat.min_eq_left m2]
    have lenQ : (refs qs).length ≤ 1000 := by
      rw [refs_length, lq]
      omega
    have s34 : Same H3 (upd H3 S (.lst ((refs gs).take m))) := same_new (Same.refl _) hS
    refine ⟨_, _, rfl, AlI.lists (n := 2) upd_same (keepN eVD3 hS) (lenE gs lg) lenQ (al _ gs lg (fun k q h => (hg k q h).same s34) fun k q h => ((hq k q h).same s3).same s34), fun H4 s4 => ?_⟩
    have s24 : Same H2 H4 := (s3.trans s34).trans s4
    have eG4 := s4 _ _ (keepN eG hS (o' := .lst ((refs gs).take m)))
    walk_at "hs"
    refine x_append eG4 (by rw [gl]; exact szLt (by omega)) ?_
    walk_at "hs"
    have hx5 := (hx2.same s24).but (But.mut (But.refl G H4) (o := .lst (refs gs ++ [.non]))) eG4
    have eVD5 : upd H4 G (.lst (refs gs ++ [.non])) VD = some (.lst (refs qs)) := keepM nGV (s24 _ _ eVD2)
    have eBL5 : upd H4 G (.lst (refs gs ++ [.non])) BL = some (.lst (nats (List.range' 1 m))) := keepM nGB (s24 _ _ eBL2)
    have hq5 : ∀ (k : Nat) q, qs[k]? = some q → VoteAt (upd H4 G (.lst (refs gs ++ [.non]))) q us ls n (k + 1) := fun k q h => ((hq k q h).same s24).mut eG4
    have s05 : Same H (upd H4 G (.lst (refs gs ++ [.non]))) := same_mut (s02.trans s24) (s02.free nG)
    generalize upd H4 G (.lst (refs gs ++ [.non])) = H5 at hx5 eVD5 eBL5 hq5 s05 ⊢
    refine ⟨x, n, us, ls, rfl, hx5, ok, fun G2 gs2 H6 s6 nG2 eG2 lg2 hg2 => ?_⟩
    have eBL6 := s6 _ _ eBL5
    have eVD6 := s6 _ _ eVD5
    walk_at "hs"
    intro S2 hS2
    rw [nats_length, List.length_range', cut_take]
    walk_at "hs"
    have s67 : Same H6 (upd H6 S2 (.lst ((refs gs2).take m))) := same_new (Same.refl _) hS2
    refine ⟨_, _, rfl, AlI.lists (n := 2) upd_same (keepN eVD6 hS2) (lenE gs2 lg2) lenQ (al _ gs2 lg2 (fun k q h => (hg2 k q h).same s67) fun k q h => ((hq5 k q h).same s6).same s67), fun H7 s7 => ?_⟩
    exact q _ (((s05.trans s6).trans s67).trans s7)
end
set_option maxRecDepth 100000
set_option maxHeartbeats 4000000
open PySem PySem.Spec L2


theorem Rows.dp {K : PySem.W.Frag} {H : Hp} : ∀ {as : List Addr} {ls : List (List (Option Bool))}, Rows H as ls → DpAll K H (refs as) (dls ls)
  | [], [], _ => .nil
  | a :: as, r :: ls, h => .cons (.tup (.of (h.at_ 0 a r rfl rfl)) (dpAll_wds r)) (Rows.dp ⟨by simpa using h.len, fun i a r ha hr => h.at_ (i + 1) a r ha hr⟩)
  | [], _ :: _, h => by simpa using h.len
  | _ :: _, [], h => by simpa using h.len
theorem ToldAt.dp {K : PySem.W.Frag} {H : Hp} {t : Addr} {us : List (Option Nat)} {ls : List (List (Option Bool))} (h : ToldAt H t us ls) : Dp K H (.ref t) (wordsPD us ls) := by
  obtain ⟨tu, tl, as, h1, h2, h3, h4⟩ := h
  exact .tup (.of h1) (.cons (.tup (.of h2) (dpAll_upvs us)) (.cons (.tup (.of h3) h4.dp) .nil))
theorem x_neWords {K : PySem.W.Frag} {H : Hp} {Q : VK} {a b : Addr} {us : List (Option Nat)} {ls : List (List (Option Bool))} (h1 : ToldAt H a us ls) (h2 : ToldAt H b us ls) (q : Q (.bl false) H) : rNeD K (.ref a) (.ref b) H Q := by
  refine ⟨wordsPD us ls, wordsPD us ls, h1.dp, h2.dp, wordsPD_shaped _ _, wordsPD_shaped _ _, ?_⟩
  rw [wordsPD_eqv]
  exact q
theorem spWords_of {Z : Ad} {H : Hp} {R : Hp → Prop} {E : XK} {tu tl m dm : Addr} {n : Nat} {us : List (Option Nat)} {ls : List (List (Option Bool))} {as : List Addr} (hu : H tu = some (.tup (upvs us))) (hl : H tl = some (.tup (refs as))) (hr : Rows H as ls) (ok : WdOk n us ls) (hm : H m = none) (hdm : H dm = none) (ne : dm ≠ m) (q : ∀ H', Same H H' → WordsAt Z H' m n us ls → R H') :
    spWords Z (.ref m :: ([.int n, .ref tu, .ref tl] ++ [])) (upd (upd H dm (.own m)) m (.ins Z.a_Words dm [])) (fun v H2 => v = .non ∧ R H2) E := by
  have hm2 : upd H dm (.own m) m = none := by
    rw [upd_ne (Ne.symm ne)]
    exact hm
  have s0 : Same H (upd (upd H dm (.own m)) m (.ins Z.a_Words dm [])) := same_new (same_new (Same.refl H) hdm) hm2
  refine ⟨m, dm, tu, tl, n, us, ls, as, rfl, upd_same, s0 _ _ hu, s0 _ _ hl, hr.same s0, ok, fun H' b1 hw => ⟨rfl, ?_⟩⟩
  have s1 : Same H H' := fun b o e => b1 _ _ (ne_of_none e hm) (s0 _ _ e)
  exact q H' s1 hw
theorem spTree_of {Z : Ad} {H : Hp} {R : Hp → Prop} {a m dm : Addr} {hs : List Nat} (t : IsTree hs) (ha : H a = some (.tup (nats hs))) (hm : H m = none) (hdm : H dm = none) (ne : dm ≠ m) (q : ∀ H', Same H H' → TreeAt Z H' m hs → R H') :
    spTree Z (.ref m :: ([.ref a] ++ [])) (upd (upd H dm (.own m)) m (.ins Z.a_Tree dm [])) (fun v H2 => v = .non ∧ R H2) (fun _ _ _ => False) := by
  have hm2 : upd H dm (.own m) m = none := by
    rw [upd_ne (Ne.symm ne)]
    exact hm
  have s0 : Same H (upd (upd H dm (.own m)) m (.ins Z.a_Tree dm [])) := same_new (same_new (Same.refl H) hdm) hm2
  have hk : ∀ y ∈ nats hs, Kn H y := fun y hy => by
    obtain ⟨n, _, rfl⟩ := List.mem_map.mp hy
    exact True.intro
  have hx : Thing H (.ref a) := .inl ⟨a, _, rfl, ha, hk⟩
  have due : DueV H (.ref a) .ok := .inl ⟨a, _, rfl, ha, tree_ok t, hk⟩
  refine ⟨m, dm, .ref a, rfl, upd_same, hx.same s0, fun H' hd b1 hm1 => ⟨rfl, ?_⟩, fun d e v H' nd hd ht s1 he => nd ((hx.back s0 hd).det due)⟩
  have s1 : Same H H' := fun b o e => b1 _ _ (ne_of_none e hm) (s0 _ _ e)
  exact q H' s1 ⟨dm, a, hm1, s1 _ _ ha⟩
section
variable {P : Program} {w : World} {K : PySem.W.Frag} {mg : Str → Option Value} {base : Heap} {Z : Ad}
theorem ok_law {f : Addr} {fd : FuncData} (F : Fun K "law" "law" s_law f fd) (B : Bl Z mg) (T : IsC K Z.a_Tree) (N : NoAttr K Z.a_Tree "hung") (W : WCls K Z)
    {f__law_tape : Addr} {fd__law_tape : FuncData} (C__law_tape : Cal K mg "_law_tape" f__law_tape fd__law_tape ["_law_script"]) (G__law_tape : FnOk P w K mg base CX0 1 f__law_tape fd__law_tape ["_law_script"] (spPool K))
    {f__law_pick : Addr} {fd__law_pick : FuncData} (C__law_pick : Cal K mg "_law_pick" f__law_pick fd__law_pick ["_law_tape_here", "_law_many"]) (G__law_pick : FnOk P w K mg base CX0 1 f__law_pick fd__law_pick ["_law_tape_here", "_law_many"] spDraw)
    {f__law_hung : Addr} {fd__law_hung : FuncData} (C__law_hung : Cal K mg "_law_hung" f__law_hung fd__law_hung ["_law_tape_here", "_law_many"]) (G__law_hung : FnOk P w K mg base CX0 3 f__law_hung fd__law_hung ["_law_tape_here", "_law_many"] spHung)
    {f__law_drawn_words : Addr} {fd__law_drawn_words : FuncData} (C__law_drawn_words : Cal K mg "_law_drawn_words" f__law_drawn_words fd__law_drawn_words ["_law_tape_here", "_law_hung_here"]) (G__law_drawn_words : FnOk P w K mg base CX0 3 f__law_drawn_words fd__law_drawn_words ["_law_tape_here", "_law_hung_here"] spDrawn)
    {f__law_costs_right : Addr} {fd__law_costs_right : FuncData} (C__law_costs_right : Cal K mg "_law_costs_right" f__law_costs_right fd__law_costs_right ["_law_tape_here", "_law_told", "_law_made"]) (G__law_costs_right : FnOk P w K mg base CX0 6 f__law_costs_right fd__law_costs_right ["_law_tape_here", "_law_told", "_law_made"] (spCR Z))
    {f__law_same : Addr} {fd__law_same : FuncData} (C__law_same : Cal K mg "_law_same" f__law_same fd__law_same ["_law_told", "_law_due"]) (G__law_same : FnOk P w K mg base CX0 5 f__law_same fd__law_same ["_law_told", "_law_due"] (spSame 3))
    {f__law_sum : Addr} {fd__law_sum : FuncData} (C__law_sum : Cal K mg "_law_sum" f__law_sum fd__law_sum ["_law_told", "_law_hung_here"]) (G__law_sum : FnOk P w K mg base CX0 2 f__law_sum fd__law_sum ["_law_told", "_law_hung_here"] spLSum)
    {f__law_moves : Addr} {fd__law_moves : FuncData} (C__law_moves : Cal K mg "_law_moves" f__law_moves fd__law_moves ["_law_tape_here", "_law_hung_here", "_law_many"]) (G__law_moves : FnOk P w K mg base CX0 3 f__law_moves fd__law_moves ["_law_tape_here", "_law_hung_here", "_law_many"] spMoves)
    {f__law_cost : Addr} {fd__law_cost : FuncData} (C__law_cost : Cal K mg "_law_cost" f__law_cost fd__law_cost ["_law_told", "_law_block", "_law_place"]) (G__law_cost : FnOk P w K mg base CX0 1 f__law_cost fd__law_cost ["_law_told", "_law_block", "_law_place"] spLCost)
    {f__law_right_words : Addr} {fd__law_right_words : FuncData} (C__law_right_words : Cal K mg "_law_right_words" f__law_right_words fd__law_right_words ["_law_hung_here"]) (G__law_right_words : FnOk P w K mg base CX0 1 f__law_right_words fd__law_right_words ["_law_hung_here"] (spRight K))
    {f_wrong_words : Addr} {fd_wrong_words : FuncData} (C_wrong_words : Cal K mg "wrong_words" f_wrong_words fd_wrong_words ["words", "tree"]) (G_wrong_words : FnOk P w K mg base CX0 3 f_wrong_words fd_wrong_words ["words", "tree"] (spWrong Z))
    {f_words_of : Addr} {fd_words_of : FuncData} (C_words_of : Cal K mg "words_of" f_words_of fd_words_of ["tree"]) (G_words_of : FnOk P w K mg base CX0 6 f_words_of fd_words_of ["tree"] (spWordsOf Z))
    {f_moved : Addr} {fd_moved : FuncData} (C_moved : Cal K mg "moved" f_moved fd_moved ["tree", "block", "place"]) (G_moved : FnOk P w K mg base (L2.CX P w) 6 f_moved fd_moved ["tree", "block", "place"] (spMoved Z))
    {f_Words___init__ : Addr} {fd_Words___init__ : FuncData} (C_Words___init__ : CalM K f_Words___init__ fd_Words___init__ ["self", "blocks", "ups", "lists"]) (G_Words___init__ : FnOk P w K mg base CX0 3 f_Words___init__ fd_Words___init__ ["self", "blocks", "ups", "lists"] (spWords Z)) (M_Words : Mk K Z.a_Words f_Words___init__)
    {f_Tree___init__ : Addr} {fd_Tree___init__ : FuncData} (C_Tree___init__ : CalM K f_Tree___init__ fd_Tree___init__ ["self", "hung"]) (G_Tree___init__ : FnOk P w K mg base (L2.CX P w) 3 f_Tree___init__ fd_Tree___init__ ["self", "hung"] (spTree Z)) (M_Tree : Mk K Z.a_Tree f_Tree___init__) : FnOk P w K mg base CX0 8 f fd ["_law_script"] (spLaw K) := by
  refine F.ok sc_law (fun vs H Q E h => ?_) (fun cdv A outer s H vs Q E hr h => ?_)
  · obtain ⟨a, ns, rfl, _⟩ := h
    rfl
  · obtain ⟨a, ns, rfl, hS, hl, q⟩ := h
    refine ⟨_, (pss_cons (ps_set (i := 1) sc_law.nd rfl (Or.inl rfl) (pe_call G__law_tape (hr.mono (by first | decide | omega)) (by rfl) C__law_tape.g C__law_tape.k C__law_tape.b .nil pass0 (pa_cons (pv 0) pa_nil)))
 (pss_cons (ps_for PassesOwn.never rfl (pi_range1 rfl B.b_range (pa_cons pe_int pa_nil)) (pg_name (i := 2) sc_law.nd rfl (Or.inl rfl)) (pss_cons (ps_set (i := 3) sc_law.nd rfl (Or.inl rfl) (pe_ix (ix_listK (K := K) rfl) (pe_lst (pa_cons (pe_op op_add pe_int (pe_call G__law_pick (hr.mono (by first | decide | omega)) (by rfl) C__law_pick.g C__law_pick.k C__law_pick.b .nil pass0 (pa_cons (pv 1) (pa_cons pe_int pa_nil)))) (pa_cons pe_int pa_nil))) (pe_callTy call_int (by rfl) B.b_int (by decide +kernel) (pa_cons (pe_cmpR op_eq (pe_call G__law_pick (hr.mono (by first | decide | omega)) (by rfl) C__law_pick.g C__law_pick.k C__law_pick.b .nil pass0 (pa_cons (pv 1) (pa_cons pe_int pa_nil))) pe_int (nomark _)) pa_nil)) (fun _ _ => rfl)))
 (pss_cons (ps_par (i := 4) (j := 5) (by rfl) sc_law.nd rfl rfl (by decide) rfl rfl (pa_cons (pe_call G__law_hung (hr.mono (by first | decide | omega)) (by rfl) C__law_hung.g C__law_hung.k C__law_hung.b .nil pass0 (pa_cons (pv 1) (pa_cons (pv 3) pa_nil))) (pa_cons (pe_call G__law_hung (hr.mono (by first | decide | omega)) (by rfl) C__law_hung.g C__law_hung.k C__law_hung.b .nil pass0 (pa_cons (pv 1) (pa_cons (pv 3) pa_nil))) pa_nil)) (by rfl))
 (pss_cons (ps_set (i := 6) sc_law.nd rfl (Or.inl rfl) (pe_call G__law_drawn_words (hr.mono (by first | decide | omega)) (by rfl) C__law_drawn_words.g C__law_drawn_words.k C__law_drawn_words.b .nil pass0 (pa_cons (pv 1) (pa_cons (pv 4) pa_nil))))
 (pss_cons (ps_set (i := 7) sc_law.nd rfl (Or.inl rfl) (pe_make M_Words G_Words___init__ (hr.mono (by first | decide | omega)) (by rfl) B.k_Words C_Words___init__.b .nil pass0 (pa_cons (pv 3) (pa_cons (pe_ix (ix_tupK (K := K) rfl) (pv 6) pe_int (fun _ _ => rfl)) (pa_cons (pe_ix (ix_tupK (K := K) rfl) (pv 6) pe_int (fun _ _ => rfl)) pa_nil)))))
 (pss_cons (ps_if (pt_not (pt_val (pe_call G__law_costs_right (hr.mono (by first | decide | omega)) (by rfl) C__law_costs_right.g C__law_costs_right.k C__law_costs_right.b .nil pass0 (pa_cons (pv 1) (pa_cons (pv 6) (pa_cons (pv 7) pa_nil)))))) (pss_one (ps_ret pe_bl)) pss_nil)
 (pss_cons (ps_for PassesOwn.never rfl (pi_list (pe_lst (pa_cons (pv 4) (pa_cons (pv 5) pa_nil)))) (pg_name (i := 8) sc_law.nd rfl (Or.inl rfl)) (pss_one (ps_if (pt_not (pt_val (pe_call G__law_same (hr.mono (by first | decide | omega)) (by rfl) C__law_same.g C__law_same.k C__law_same.b .nil pass0 (pa_cons (pe_call G_wrong_words (hr.mono (by first | decide | omega)) (by rfl) C_wrong_words.g C_wrong_words.k C_wrong_words.b .nil pass0 (pa_cons (pv 7) (pa_cons (pe_make M_Tree G_Tree___init__ (hr.mono (by first | decide | omega)) (by rfl) B.k_Tree C_Tree___init__.b .nil passE (pa_cons (pv 8) pa_nil)) pa_nil))) (pa_cons (pe_call G__law_sum (hr.mono (by first | decide | omega)) (by rfl) C__law_sum.g C__law_sum.k C__law_sum.b .nil pass0 (pa_cons (pv 6) (pa_cons (pv 8) pa_nil))) pa_nil))))) (pss_one (ps_ret pe_bl)) pss_nil)))
 (pss_cons (ps_asg (pe_call G__law_moves (hr.mono (by first | decide | omega)) (by rfl) C__law_moves.g C__law_moves.k C__law_moves.b .nil pass0 (pa_cons (pv 1) (pa_cons (pv 4) (pa_cons pe_int pa_nil)))) (pg_tup rfl (pgs_cons (pg_name (i := 9) sc_law.nd rfl (Or.inl rfl)) (pgs_cons (pg_name (i := 10) sc_law.nd rfl (Or.inl rfl)) pgs_nil))))
 (pss_cons (ps_asg (pe_ix (ix_tupK (K := K) rfl) (pv 9) pe_int (fun _ _ => rfl)) (pg_tup rfl (pgs_cons (pg_name (i := 11) sc_law.nd rfl (Or.inl rfl)) (pgs_cons (pg_name (i := 12) sc_law.nd rfl (Or.inl rfl)) pgs_nil))))
 (pss_cons (ps_set (i := 13) sc_law.nd rfl (Or.inl rfl) (pe_op op_sub (pe_call G__law_cost (hr.mono (by first | decide | omega)) (by rfl) C__law_cost.g C__law_cost.k C__law_cost.b .nil pass0 (pa_cons (pv 6) (pa_cons (pv 11) (pa_cons (pv 12) pa_nil)))) (pe_call G__law_cost (hr.mono (by first | decide | omega)) (by rfl) C__law_cost.g C__law_cost.k C__law_cost.b .nil pass0 (pa_cons (pv 6) (pa_cons (pv 11) (pa_cons (pe_ix (ix_tupK (K := K) rfl) (pv 4) (pe_op op_sub (pv 11) pe_int) (fun _ _ => rfl)) pa_nil))))))
 (pss_cons (ps_if (pt_cmpR op_ne (pe_call G_wrong_words (hr.mono (by first | decide | omega)) (by rfl) C_wrong_words.g C_wrong_words.k C_wrong_words.b .nil pass0 (pa_cons (pv 7) (pa_cons (pe_call G_moved (hr.mono (by first | decide | omega)) (by rfl) C_moved.g C_moved.k C_moved.b .nil passE (pa_cons (pe_make M_Tree G_Tree___init__ (hr.mono (by first | decide | omega)) (by rfl) B.k_Tree C_Tree___init__.b .nil passE (pa_cons (pv 4) pa_nil)) (pa_cons (pv 11) (pa_cons (pv 12) pa_nil)))) pa_nil))) (pe_op op_add (pe_call G__law_sum (hr.mono (by first | decide | omega)) (by rfl) C__law_sum.g C__law_sum.k C__law_sum.b .nil pass0 (pa_cons (pv 6) (pa_cons (pv 4) pa_nil))) (pv 13)) (nomark _)) (pss_one (ps_ret pe_bl)) pss_nil)
 (pss_cons (ps_set (i := 14) sc_law.nd rfl (Or.inl rfl) (pe_call G_words_of (hr.mono (by first | decide | omega)) (by rfl) C_words_of.g C_words_of.k C_words_of.b .nil pass0 (pa_cons (pe_make M_Tree G_Tree___init__ (hr.mono (by first | decide | omega)) (by rfl) B.k_Tree C_Tree___init__.b .nil passE (pa_cons (pv 4) pa_nil)) pa_nil)))
 (pss_cons (ps_if (PW.pt (pw_or (pt_not (pt_val (pe_call G__law_same (hr.mono (by first | decide | omega)) (by rfl) C__law_same.g C__law_same.k C__law_same.b .nil pass0 (pa_cons (pe_fldK (K := K) rfl (pv 14) rfl) (pa_cons (pv 3) pa_nil))))) (pw_or1 (pt_cmpR (op_neDK (K := K) rfl hr.units) (pe_tup (pa_cons (pe_fldK (K := K) rfl (pv 14) rfl) (pa_cons (pe_fldK (K := K) rfl (pv 14) rfl) pa_nil))) (pe_call G__law_right_words (hr.mono (by first | decide | omega)) (by rfl) C__law_right_words.g C__law_right_words.k C__law_right_words.b .nil pass0 (pa_cons (pv 4) pa_nil)) (nomark _))))) (pss_one (ps_ret pe_bl)) pss_nil)
 (pss_cons (ps_set (i := 15) sc_law.nd rfl (Or.inl rfl) (pe_callB (call_lenK (K := K) rfl) (by rfl) B.b_len PySem.boot_len (pa_cons (pe_lc (own := [("_law_here", 16), ("_law_there", 17)]) rfl sc_law.nd (pi_zipAK (K := K) rfl (by rfl) B.b_zip (pa_cons (pv 4) (pa_cons (pv 5) pa_nil))) (blkOk_by (N := ["_law_script", "_law_tape_here", "_law_turn", "_law_many", "_law_hung_here", "_law_other", "_law_told", "_law_made", "_law_one", "_law_moves_here", "_law_later", "_law_block", "_law_place", "_law_more", "_law_right", "_law_apart", "_law_here", "_law_there"]) (sc := defScope s_law) (by decide +kernel)) (fun _ _ _ _ _ => (pg_tupK (K := K) (n := 2) rfl rfl (pgs_cons (pg_name (i := 16) sc_law.nd rfl (Or.inl rfl)) (pgs_cons (pg_name (i := 17) sc_law.nd rfl (Or.inl rfl)) pgs_nil)))) (fun _ _ _ _ _ => (pts_one (pt_cmpR op_ne (pv 16) (pv 17) (nomark _)))) (fun _ _ _ _ _ => pe_int)) pa_nil)))
 (pss_one (ps_if (PW.pt (pw_or (pt_cmpR op_ne (pe_call G_wrong_words (hr.mono (by first | decide | omega)) (by rfl) C_wrong_words.g C_wrong_words.k C_wrong_words.b .nil pass0 (pa_cons (pv 14) (pa_cons (pe_make M_Tree G_Tree___init__ (hr.mono (by first | decide | omega)) (by rfl) B.k_Tree C_Tree___init__.b .nil passE (pa_cons (pv 5) pa_nil)) pa_nil))) (pe_op op_mul pe_int (pv 15)) (nomark _)) (pw_or1 (pt_cmpR op_ne (pe_call G_wrong_words (hr.mono (by first | decide | omega)) (by rfl) C_wrong_words.g C_wrong_words.k C_wrong_words.b .nil pass0 (pa_cons (pv 14) (pa_cons (pe_make M_Tree G_Tree___init__ (hr.mono (by first | decide | omega)) (by rfl) B.k_Tree C_Tree___init__.b .nil passE (pa_cons (pv 4) pa_nil)) pa_nil))) pe_int (nomark _))))) (pss_one (ps_ret pe_bl)) pss_nil))))))))))))))))
 (pss_one (ps_ret pe_bl)))), ?_⟩
    walk_at "h0"
    refine ⟨a, ns, rfl, hS, hl, fun p H1 s1 np p1 => ?_⟩
    walk_at "hs"
    refine ⟨2, rfl, by decide, by decide, ?_⟩
    refine lp_range (lo := 0) (n := Int.toNat 2) (fun i σ' H' => (∃ x2 x3 x4 x5 x6 x7 x8 x9 x10 x11 x12 x13 x14 x15, σ' = [some (.ref a), some (.ref p), x2, x3, x4, x5, x6, x7, x8, x9, x10, x11, x12, x13, x14, x15, none, none]) ∧ PoolAt H' p (fun _ => False))
      ⟨⟨_, _, _, _, _, _, _, _, _, _, _, _, _, _, rfl⟩, p1⟩ ?_ ?_
    · rintro i σ' H2 hi ⟨⟨x2, x3, x4, x5, x6, x7, x8, x9, x10, x11, x12, x13, x14, x15, rfl⟩, p2⟩
      walk_at "hs"
      refine ⟨p, 7, _, rfl, p2, by decide, by decide, fun d H3 d0 d1 b3 p3 => ?_⟩
      walk_at "hs"
      intro LL hLL
      have p4 := p3.newH (o := .lst [.int (1 + d), .int 40]) hLL
      walk_at "hs"
      refine ⟨p, 24, _, rfl, p4, by decide, by decide, fun d' H4 e0 e1 b4 p5 => ?_⟩
      have eLL := b4 _ _ (p3.ne hLL) (upd_same (o := .lst [V.int (1 + d), .int 40]))
      walk_at "hs"
      refine .inr ⟨_, rfl, ?_⟩
      obtain ⟨n, hn, n1, n2⟩ : ∃ n : Nat, atI [V.int (1 + d), .int 40] (if decide (d' = 0) = true then 1 else 0) = some (.int (n : Int)) ∧ 1 ≤ n ∧ n ≤ 40 := by
        by_cases c : d' = 0
        · rw [decide_eq_true c]
          exact ⟨40, rfl, by decide, by decide⟩
        · rw [decide_eq_false c]
          refine ⟨(1 + d).toNat, ?_, by omega, by omega⟩
          show some (V.int (1 + d)) = _
          rw [show ((1 + d).toNat : Int) = 1 + d by omega]
      have sLL : SqL K H4 LL [.int (1 + d), .int 40] := .of eLL
      walk_at "hs"
      refine ⟨p, n, _, rfl, p5, n1, n2, fun Hu hs H5 it hln b5 p6 nHu eHu => ?_⟩
      walk_at "hs"
      refine ⟨p, n, _, rfl, p6, n1, n2, fun Ot gs H6 it2 gln b6 p7 nOt eOt => ?_⟩
      have nHp : Hu ≠ p := p5.ne nHu
      have nOp : Ot ≠ p := p6.ne nOt
      have eHu6 := b6 _ _ nHp eHu
      walk_at "hs"
      refine ⟨p, Hu, hs, _, rfl, p7, eHu6, it, fun m us ls H7 ok b7 p8 nm tw => ?_⟩
      rw [hln] at ok
      obtain ⟨tu, tl, as, g0, gu, gl, gr⟩ := tw.get
      have sm : SqT K H7 m [.ref tu, .ref tl] := .of g0
      walk_at "hs"
      refine x_make ?_
      walk_at "hs"
      intro md dm hmd hdm hne
      refine spWords_of gu gl gr ok hmd hdm hne fun H8 s8 wat8 => ?_
      walk_at "hs"
      refine ⟨.ref p, m, md, n, us, ls, rfl, tw.same s8, wat8, ok, fun H9 s9 => ?_⟩
      have eHu9 : H9 Hu = some (.tup (nats hs)) := s9 _ _ (s8 _ _ (b7 _ _ nHp eHu6))
      have eOt9 : H9 Ot = some (.tup (nats gs)) := s9 _ _ (s8 _ _ (b7 _ _ nOp eOt))
      have tw9 : ToldAt H9 m us ls := (tw.same s8).same s9
      have wat9 : WordsAt Z H9 md n us ls := wat8.same s9
      have p9 : PoolAt H9 p (fun _ => False) := (p8.same s8).same s9
      clear b3 p3 p4 hLL b4 p5 eLL sLL b5 p6 nHu eHu b6 p7 nOt eOt eHu6 b7 p8 nm tw g0 gu gl gr sm hmd hdm hne s8 wat8 s9
      walk_at "hs"
      intro LL2 hLL2
      refine ⟨LL2, rfl, ⟨_, .of upd_same⟩, ?_⟩
      refine lp_list (K := K) (xs := [V.ref Hu, .ref Ot]) (fun j σ' H' => (∃ x8, σ' = [some (.ref a), some (.ref p), some (.int (0 + (i : Int))), some (.int n), some (.ref Hu), some (.ref Ot), some (.ref m), some (.ref md), x8, x9, x10, x11, x12, x13, x14, x15, none, none]) ∧ Same (upd H9 LL2 (.lst [.ref Hu, .ref Ot])) H')
        ⟨⟨_, rfl⟩, Same.refl _⟩ (fun j σ' H' _ h => .of (h.2 _ _ upd_same)) ?_ ?_
      · rintro j vv σ' H' hvv ⟨⟨x8, rfl⟩, s10⟩
        have s90 : Same H9 H' := (same_new (Same.refl _) hLL2).trans s10
        obtain ⟨O, os, rfl, eO, itO, lnO⟩ : ∃ O os, vv = V.ref O ∧ H9 O = some (.tup (nats os)) ∧ IsTree os ∧ os.length = n := by
          match j, hvv with
          | 0, hvv => exact ⟨Hu, hs, (Option.some.inj hvv).symm, eHu9, it, hln⟩
          | 1, hvv => exact ⟨Ot, gs, (Option.some.inj hvv).symm, eOt9, it2, gln⟩
          | j + 2, hvv => cases hvv
        walk_at "hs"
        refine x_make ?_
        walk_at "hs"
        intro td dm htd hdm hne
        refine spTree_of itO (s90 _ _ eO) htd hdm hne fun H11 s11 tr => ?_
        have s911 := s90.trans s11
        walk_at "hs"
        refine ⟨md, td, n, us, ls, os, rfl, wat9.same s911, ok, tr, itO, lnO, fun H12 s12 => ?_⟩
        have s912 := s911.trans s12
        walk_at "hs"
        refine ⟨m, O, n, us, ls, os, rfl, tw9.same s912, ok, s912 _ _ eO, lnO, fun H13 s13 => ?_⟩
        walk_at "hs"
        refine ⟨_, _, rfl, .int _, fun H14 s14 => ?_⟩
        walk_at "hs"
        exact ⟨⟨_, rfl⟩, ((s10.trans s11).trans s12).trans (s13.trans s14)⟩
      rintro σ' H10 ⟨⟨x8, rfl⟩, s10'⟩
      have s10 : Same H9 H10 := (same_new (Same.refl _) hLL2).trans s10'
      have eHu10 := s10 _ _ eHu9
      have eOt10 := s10 _ _ eOt9
      have tw10 := tw9.same s10
      have wat10 := wat9.same s10
      have p10 := p9.same s10
      clear s10 s10' hLL2 eHu9 eOt9 tw9 wat9 p9
      walk_at "hs"
      refine ⟨p, Hu, hs, _, rfl, p10, eHu10, it, fun mv b k H12 b1 b2 k2 hnot b12 p12 nmv mvat => ?_⟩
      have eHu12 := b12 _ _ nHp eHu10
      have eOt12 := b12 _ _ nOp eOt10
      have tw12 := tw10.but b12 p10.notTup
      obtain ⟨pl, epl⟩ := p10.lst
      have wat12 := wat10.but b12 epl
      clear epl pl p10 tw10 wat10 eHu10 eOt10 b12 nmv
      obtain ⟨G, m1, vL, q1, q2, q3⟩ := mvat
      have sq1 : SqT K H12 mv [.ref G, vL] := .of q1
      have sq2 : SqT K H12 G [.ref m1] := .of q2
      have sq3 : SqT K H12 m1 [.int b, .int k] := .of q3
      walk_at "hs"
      refine ⟨m, n, b, k, us, ls, rfl, tw12, ok, b1, by omega, fun H13 s13 => ?_⟩
      have eHu13 := s13 _ _ eHu12
      have tHu13 : SqT K H13 Hu (nats hs) := .of eHu13
      have aHu : atI (nats hs) ((b : Int) - 1) = some (.int (up hs b : Nat)) := by
        rw [show (b : Int) - 1 = ((b - 1 : Nat) : Int) by omega]
        exact nats_at (up_get b1 b2)
      walk_at "hs"
      refine ⟨m, n, b, up hs b, us, ls, rfl, tw12.same s13, ok, b1, by omega, fun H14 s14 => ?_⟩
      have s124 := s13.trans s14
      have eHu14 := s124 _ _ eHu12
      have eOt14 := s124 _ _ eOt12
      have tw14 := tw12.same s124
      have wat14 := wat12.same s124
      have p14 := p12.same s124
      clear s13 s14 s124 eHu13 tHu13 eHu12 eOt12 tw12 wat12 p12 sq1 sq2 sq3 q1 q2 q3
      walk_at "hs"
      refine x_make ?_
      walk_at "hs"
      intro td dm htd hdm hne
      refine spTree_of it eHu14 htd hdm hne fun H15 s15 tr => ?_
      walk_at "hs"
      refine ⟨td, hs, b, k, rfl, tr, it, b1, b2, k2, fun c1 c2 tm H16 s16 ntm tr2 => ?_, fun c => absurd c hnot⟩
      have s1416 := s15.trans s16
      walk_at "hs"
      refine ⟨md, tm, n, us, ls, put hs b k, rfl, wat14.same s1416, ok, tr2, put_tree it b1 b2 k2 c1 c2, by rw [put_len, hln], fun H17 s17 => ?_⟩
      have s1417 := s1416.trans s17
      walk_at "hs"
      refine ⟨m, Hu, n, us, ls, hs, rfl, tw14.same s1417, ok, s1417 _ _ eHu14, hln, fun H18 s18 => ?_⟩
      have key : ((wrongN us ls 1 (put hs b k) : Nat) : Int) = (wrongN us ls 1 hs : Nat) + ((costN us ls b k : Nat) - (costN us ls b (up hs b) : Nat)) := by
        have e := wrongN_set us ls hs 1 (b - 1) k (by omega)
        have e1 : up hs b = hs.getD (b - 1) 0 := by
          unfold up
          rw [if_neg (by omega)]
        rw [← e1, show 1 + (b - 1) = b by omega] at e
        unfold put
        omega
      walk_at "hs"
      refine x_isdF (fun z => z key) ?_
      have s1418 := s1417.trans s18
      have eHu18 := s1418 _ _ eHu14
      have eOt18 := s1418 _ _ eOt14
      have p18 := p14.same s1418
      clear s15 s16 s1416 s17 s1417 s18 s1418 eHu14 eOt14 p14 tw14 wat14 tr tr2 htd hdm hne key
      walk_at "hs"
      refine x_make ?_
      walk_at "hs"
      intro td2 dm2 htd hdm hne
      refine spTree_of it eHu18 htd hdm hne fun H19 s19 tr => ?_
      walk_at "hs"
      refine ⟨td2, hs, rfl, tr, it, fun wr H20 nwr s20 wrat => ?_⟩
      have okr := right_ok it
      rw [hln] at wrat okr
      have s1820 := s19.trans s20
      have eHu20 := s1820 _ _ eHu18
      have eOt20 := s1820 _ _ eOt18
      have p20 := p18.same s1820
      clear s19 s20 s1820 eHu18 eOt18 p18 tr htd hdm hne
      walk_at "hs"
      obtain ⟨dx, fs, ru, rl, ras, w1, w2, w3, w4, w5, w6, w7⟩ := id wrat
      refine ⟨wr, _, dx, _, _, rfl, w1, W.c, W.nb, w2, ?_⟩
      walk_at "hs"
      refine ⟨_, _, rfl, .int _, fun H21 s21 => ?_⟩
      walk_at "hs"
      refine ⟨wr, _, dx, _, _, rfl, s21 _ _ w1, W.c, W.nu, w3, ?_⟩
      walk_at "hs"
      refine ⟨wr, _, dx, _, _, rfl, s21 _ _ w1, W.c, W.nl, w4, ?_⟩
      walk_at "hs"
      intro pr hpr
      walk_at "hs"
      refine ⟨Hu, hs, rfl, keepN (s21 _ _ eHu20) hpr, it, fun rw2 H22 nrw s22 tw2 => ?_⟩
      have s2022 : Same H20 H22 := (same_new s21 hpr).trans s22
      have tw1 : ToldAt H22 pr (rightU hs) (rightL hs) := ⟨ru, rl, ras, s22 _ _ upd_same, s2022 _ _ w5, s2022 _ _ w6, w7.same s2022⟩
      refine x_neWords tw1 tw2 ?_
      have eHu22 := s2022 _ _ eHu20
      have eOt22 := s2022 _ _ eOt20
      have p22 := p20.same s2022
      have wrat22 := wrat.same s2022
      clear tw1 tw2 nrw hpr s21 s22 s2022 eHu20 eOt20 p20 w1 w2 w3 w4 w5 w6 w7 wrat
      walk_at "hs"
      refine x_zipA ?_
      walk_at "hs"
      refine ⟨Hu, Ot, _, _, rfl, .inr ⟨.of eHu22, .of eOt22, fun D hD => ?_⟩⟩
      have lhg : (nats hs).length = (nats gs).length := by rw [nats_length, nats_length, hln, gln]
      refine lc_zipT (K := K) (xs := nats hs) (ys := nats gs) lhg (fun i H' => Same H22 H' ∧ H' D = some (.lst (List.replicate (apartN (hs.take i) (gs.take i)) (.int 1)))) ⟨same_new (Same.refl _) hD, upd_same⟩ (fun i H' _ h => ⟨.of (h.1 _ _ eHu22), .of (h.1 _ _ eOt22)⟩) ?_ ?_
      · rintro i vx vy H' U hvx hvy ⟨s23, eD⟩ hU
        have hi1 : i < hs.length := by
          have := (List.getElem?_eq_some_iff.mp hvx).1
          rwa [nats_length] at this
        have hi2 : i < gs.length := by omega
        have ex : vx = .int (hs[i] : Nat) := by
          rw [nats_get (List.getElem?_eq_getElem hi1)] at hvx
          exact (Option.some.inj hvx).symm
        have ey : vy = .int (gs[i] : Nat) := by
          rw [nats_get (List.getElem?_eq_getElem hi2)] at hvy
          exact (Option.some.inj hvy).symm
        subst ex ey
        have step : apartN (hs.take (i + 1)) (gs.take (i + 1)) = apartN (hs.take i) (gs.take i) + if hs[i] = gs[i] then 0 else 1 := by
          rw [List.take_succ, List.take_succ, List.getElem?_eq_getElem hi1, List.getElem?_eq_getElem hi2]
          exact apartN_snoc _ _ (by rw [List.length_take, List.length_take]; omega)
        have apl : apartN (hs.take i) (gs.take i) ≤ i := apartN_le _ _ _ (by rw [List.length_take]; omega)
        walk_at "hs"
        refine ⟨rfl, ?_⟩
        walk_at "hs"
        refine x_isd (fun c => ?_) (fun c => ?_)
        · walk_at "hs"
          refine ⟨_, keepN eD hU, by rw [List.length_replicate]; exact szLt (by omega), same_mut (same_new s23 hU) hD, ?_⟩
          rw [upd_same, step, if_neg (by omega), List.replicate_succ']
        · refine ⟨same_new s23 hU, ?_⟩
          rw [keepN eD hU, step, if_pos (by omega)]
          rfl
      rintro H23 ⟨s23, eD⟩
      rw [nats_length, List.take_length, hln, ← gln, List.take_length] at eD
      have tD : SqL K H23 D (List.replicate (apartN hs gs) (V.int 1)) := .of eD
      have eHu23 := s23 _ _ eHu22
      have eOt23 := s23 _ _ eOt22
      have p23 := p22.same s23
      have wrat23 := wrat22.same s23
      have h3 : wrongN (rightU hs) (rightL hs) 1 gs = 3 * apartN hs gs := by
        have := right_wrong it gs 1 (Nat.le_refl _) (by omega) (fun g hg => by have := it2.le g hg; omega)
        rw [Nat.sub_self, List.drop_zero] at this
        exact this
      have h0 : wrongN (rightU hs) (rightL hs) 1 hs = 0 := by
        have := right_wrong it hs 1 (Nat.le_refl _) (by omega) (fun g hg => it.le g hg)
        rw [Nat.sub_self, List.drop_zero, apartN_self] at this
        exact this
      walk_at "hs"
      rw [List.length_replicate]
      refine x_make ?_
      walk_at "hs"
      intro td3 dm3 htd hdm hne
      refine spTree_of it2 eOt23 htd hdm hne fun H24 s24 tr => ?_
      walk_at "hs"
      refine ⟨wr, td3, n, rightU hs, rightL hs, gs, rfl, wrat23.same s24, okr, tr, it2, gln, fun H25 s25 => ?_⟩
      have apl2 : apartN hs gs ≤ 40 := Nat.le_trans (apartN_le _ _ _ (Nat.le_refl _)) (by omega)
      walk_at "hs"
      refine x_isdF (fun z => z (by rw [h3]; omega)) ?_
      walk_at "hs"
      refine x_make ?_
      walk_at "hs"
      intro td4 dm4 htd4 hdm4 hne4
      refine spTree_of it ((s24.trans s25) _ _ eHu23) htd4 hdm4 hne4 fun H26 s26 tr4 => ?_
      walk_at "hs"
      refine ⟨wr, td4, n, rightU hs, rightL hs, hs, rfl, wrat23.same ((s24.trans s25).trans s26), okr, tr4, it, hln, fun H27 s27 => ?_⟩
      walk_at "hs"
      refine x_isdF (fun z => z (by rw [h0]; rfl)) ?_
      walk_at "hs"
      exact ⟨⟨_, _, _, _, _, _, _, _, _, _, _, _, _, _, rfl⟩, p23.same (((s24.trans s25).trans s26).trans s27)⟩
    · rintro σ' H' ⟨⟨x2, x3, x4, x5, x6, x7, x8, x9, x10, x11, x12, x13, x14, x15, rfl⟩, p2⟩
      walk_at "hs"
      exact q _
end
set_option maxRecDepth 100000
set_option maxHeartbeats 2000000
open PySem PySem.Spec L2 PyProof.Rows
theorem kit_ref {K : PySem.W.Frag} {t : Value} {C : Addr} {b : Bool} (hn : (t == Value.ref C) = false) (h : PySem.W.isClsIn K C = true) (ht : PySem.W.typeIn K (.ref C) = some (.type "type")) (hs : PySem.W.subIn K t (.ref C) = some b) : PySem.W.kitOne K t (.ref C) = some b := by
  have e2 : ((PySem.W.clsIn K C).isSome && PySem.W.typeIn K (.ref C) == some (.type "type")) = true := by
    have h2' : (PySem.W.clsIn K C).isSome = true := h
    rw [h2', ht] <;> rfl
  unfold PySem.W.kitOne
  rw [hn, if_neg Bool.false_ne_true]
  show (if ((PySem.W.clsIn K C).isSome && PySem.W.typeIn K (.ref C) == some (.type "type")) = true then PySem.W.subIn K t (.ref C) else none) = some b
  rw [if_pos e2]
  exact hs
theorem sub_tuple (K : PySem.W.Frag) (C : Addr) : PySem.W.subIn K (.type "tuple") (.ref C) = some false := by
  have e2 : PySem.fastBuiltinMro "tuple" = some [.type "tuple", .type "object"] := by decide +kernel
  show (PySem.fastBuiltinMro "tuple").map (·.contains (Value.ref C)) = some false
  rw [e2]
  rfl
theorem all_mk {P : Program} {w : World} {K : PySem.W.Frag} {h : Heap} {mg : Str → Option Value} {fa : Addr} (X : K.In h) (G : h.Ns mainGlobals mg) (hfa : mg "law" = some (.ref fa))
    {c_VoteError : Addr}
    {c_BadTree : Addr}
    {c_NoBlock : Addr}
    {c_NoPlace : Addr}
    {c_Beneath : Addr}
    {c_OtherBlocks : Addr}
    {c_BadWords : Addr}
    {c_Tree : Addr}
    {c_Words : Addr}
    {t_MOST_BLOCKS : PySem.Tok}
    {f_is_within : Addr} {od_is_within an_is_within : Option Addr} {sl_is_within : Array (Option Value)} {oc_is_within kV_is_within dc_is_within pm_is_within cd_is_within ct_is_within : Value}
    {f__comes_to_head : Addr} {od__comes_to_head an__comes_to_head : Option Addr} {sl__comes_to_head : Array (Option Value)} {oc__comes_to_head kV__comes_to_head dc__comes_to_head pm__comes_to_head cd__comes_to_head ct__comes_to_head : Value}
    {f_BadTree___init__ : Addr} {od_BadTree___init__ an_BadTree___init__ : Option Addr} {sl_BadTree___init__ : Array (Option Value)} {oc_BadTree___init__ kV_BadTree___init__ dc_BadTree___init__ pm_BadTree___init__ cd_BadTree___init__ ct_BadTree___init__ : Value}
    {f_Tree___init__ : Addr} {od_Tree___init__ an_Tree___init__ : Option Addr} {sl_Tree___init__ : Array (Option Value)} {oc_Tree___init__ kV_Tree___init__ dc_Tree___init__ pm_Tree___init__ cd_Tree___init__ ct_Tree___init__ : Value}
    {f_is_block : Addr} {od_is_block an_is_block : Option Addr} {sl_is_block : Array (Option Value)} {oc_is_block kV_is_block dc_is_block pm_is_block cd_is_block ct_is_block : Value}
    {f_is_place : Addr} {od_is_place an_is_place : Option Addr} {sl_is_place : Array (Option Value)} {oc_is_place kV_is_place dc_is_place pm_is_place cd_is_place ct_is_place : Value}
    {f_place_of : Addr} {od_place_of an_place_of : Option Addr} {sl_place_of : Array (Option Value)} {oc_place_of kV_place_of dc_place_of pm_place_of cd_place_of ct_place_of : Value}
    {f_parents : Addr} {od_parents an_parents : Option Addr} {sl_parents : Array (Option Value)} {oc_parents kV_parents dc_parents pm_parents cd_parents ct_parents : Value}
    {f_beneath : Addr} {od_beneath an_beneath : Option Addr} {sl_beneath : Array (Option Value)} {oc_beneath kV_beneath dc_beneath pm_beneath cd_beneath ct_beneath : Value}
    {f_moved : Addr} {od_moved an_moved : Option Addr} {sl_moved : Array (Option Value)} {oc_moved kV_moved dc_moved pm_moved cd_moved ct_moved : Value}
    {f_Words___init__ : Addr} {od_Words___init__ an_Words___init__ : Option Addr} {sl_Words___init__ : Array (Option Value)} {oc_Words___init__ kV_Words___init__ dc_Words___init__ pm_Words___init__ cd_Words___init__ ct_Words___init__ : Value}
    {f__is_tuple_of : Addr} {od__is_tuple_of an__is_tuple_of : Option Addr} {sl__is_tuple_of : Array (Option Value)} {oc__is_tuple_of kV__is_tuple_of dc__is_tuple_of pm__is_tuple_of cd__is_tuple_of ct__is_tuple_of : Value}
    {f__is_up : Addr} {od__is_up an__is_up : Option Addr} {sl__is_up : Array (Option Value)} {oc__is_up kV__is_up dc__is_up pm__is_up cd__is_up ct__is_up : Value}
    {f__is_listing : Addr} {od__is_listing an__is_listing : Option Addr} {sl__is_listing : Array (Option Value)} {oc__is_listing kV__is_listing dc__is_listing pm__is_listing cd__is_listing ct__is_listing : Value}
    {f_words_of : Addr} {od_words_of an_words_of : Option Addr} {sl_words_of : Array (Option Value)} {oc_words_of kV_words_of dc_words_of pm_words_of cd_words_of ct_words_of : Value}
    {f_words_of_ups : Addr} {od_words_of_ups an_words_of_ups : Option Addr} {sl_words_of_ups : Array (Option Value)} {oc_words_of_ups kV_words_of_ups dc_words_of_ups pm_words_of_ups cd_words_of_ups ct_words_of_ups : Value}
    {f_costs : Addr} {od_costs an_costs : Option Addr} {sl_costs : Array (Option Value)} {oc_costs kV_costs dc_costs pm_costs cd_costs ct_costs : Value}
    {f_cost : Addr} {od_cost an_cost : Option Addr} {sl_cost : Array (Option Value)} {oc_cost kV_cost dc_cost pm_cost cd_cost ct_cost : Value}
    {f_wrong_words : Addr} {od_wrong_words an_wrong_words : Option Addr} {sl_wrong_words : Array (Option Value)} {oc_wrong_words kV_wrong_words dc_wrong_words pm_wrong_words cd_wrong_words ct_wrong_words : Value}
    {f_votes : Addr} {od_votes an_votes : Option Addr} {sl_votes : Array (Option Value)} {oc_votes kV_votes dc_votes pm_votes cd_votes ct_votes : Value}
    {f__vote : Addr} {od__vote an__vote : Option Addr} {sl__vote : Array (Option Value)} {oc__vote kV__vote dc__vote pm__vote cd__vote ct__vote : Value}
    {f__law_tape : Addr} {od__law_tape an__law_tape : Option Addr} {sl__law_tape : Array (Option Value)} {oc__law_tape kV__law_tape dc__law_tape pm__law_tape cd__law_tape ct__law_tape : Value}
    {f__law_pick : Addr} {od__law_pick an__law_pick : Option Addr} {sl__law_pick : Array (Option Value)} {oc__law_pick kV__law_pick dc__law_pick pm__law_pick cd__law_pick ct__law_pick : Value}
    {f__law_any : Addr} {od__law_any an__law_any : Option Addr} {sl__law_any : Array (Option Value)} {oc__law_any kV__law_any dc__law_any pm__law_any cd__law_any ct__law_any : Value}
    {f__law_mixed : Addr} {od__law_mixed an__law_mixed : Option Addr} {sl__law_mixed : Array (Option Value)} {oc__law_mixed kV__law_mixed dc__law_mixed pm__law_mixed cd__law_mixed ct__law_mixed : Value}
    {f__law_is_int : Addr} {od__law_is_int an__law_is_int : Option Addr} {sl__law_is_int : Array (Option Value)} {oc__law_is_int kV__law_is_int dc__law_is_int pm__law_is_int cd__law_is_int ct__law_is_int : Value}
    {f__law_same : Addr} {od__law_same an__law_same : Option Addr} {sl__law_same : Array (Option Value)} {oc__law_same kV__law_same dc__law_same pm__law_same cd__law_same ct__law_same : Value}
    {f__law_hung : Addr} {od__law_hung an__law_hung : Option Addr} {sl__law_hung : Array (Option Value)} {oc__law_hung kV__law_hung dc__law_hung pm__law_hung cd__law_hung ct__law_hung : Value}
    {f__law_right_words : Addr} {od__law_right_words an__law_right_words : Option Addr} {sl__law_right_words : Array (Option Value)} {oc__law_right_words kV__law_right_words dc__law_right_words pm__law_right_words cd__law_right_words ct__law_right_words : Value}
    {f__law_drawn_words : Addr} {od__law_drawn_words an__law_drawn_words : Option Addr} {sl__law_drawn_words : Array (Option Value)} {oc__law_drawn_words kV__law_drawn_words dc__law_drawn_words pm__law_drawn_words cd__law_drawn_words ct__law_drawn_words : Value}
    {f__law_cost : Addr} {od__law_cost an__law_cost : Option Addr} {sl__law_cost : Array (Option Value)} {oc__law_cost kV__law_cost dc__law_cost pm__law_cost cd__law_cost ct__law_cost : Value}
    {f__law_all_costs : Addr} {od__law_all_costs an__law_all_costs : Option Addr} {sl__law_all_costs : Array (Option Value)} {oc__law_all_costs kV__law_all_costs dc__law_all_costs pm__law_all_costs cd__law_all_costs ct__law_all_costs : Value}
    {f__law_is_beneath : Addr} {od__law_is_beneath an__law_is_beneath : Option Addr} {sl__law_is_beneath : Array (Option Value)} {oc__law_is_beneath kV__law_is_beneath dc__law_is_beneath pm__law_is_beneath cd__law_is_beneath ct__law_is_beneath : Value}
    {f__law_moves : Addr} {od__law_moves an__law_moves : Option Addr} {sl__law_moves : Array (Option Value)} {oc__law_moves kV__law_moves dc__law_moves pm__law_moves cd__law_moves ct__law_moves : Value}
    {f__law_sum : Addr} {od__law_sum an__law_sum : Option Addr} {sl__law_sum : Array (Option Value)} {oc__law_sum kV__law_sum dc__law_sum pm__law_sum cd__law_sum ct__law_sum : Value}
    {f__law_costs_right : Addr} {od__law_costs_right an__law_costs_right : Option Addr} {sl__law_costs_right : Array (Option Value)} {oc__law_costs_right kV__law_costs_right dc__law_costs_right pm__law_costs_right cd__law_costs_right ct__law_costs_right : Value}
    {f_law : Addr} {od_law an_law : Option Addr} {sl_law : Array (Option Value)} {oc_law kV_law dc_law pm_law cd_law ct_law : Value}
    {nm q : Str} {N : Addr} {bs bm : List Value} {sn : List Str} {sub : List Value} {ab : Bool} {col : Option Bool} {dd : Option Addr} {m0 m1 m2 m3 m5 : Option Value}
    {nmU qU : Str} {NU : Addr} {bsU bmU : List Value} {snU : List Str} {subU : List Value} {abU : Bool} {colU : Option Bool} {ddU : Option Addr} {u0 u1 u2 u3 u5 : Option Value} {f_U : Addr} {ocU : Value} {odU anU : Option Addr} {kVU docU pmU ctU : Value} {cdU ccU : Addr} {slU : Array (Option Value)} {qqU : Str} {e p0 p1 p2 p3 p4 : Pos} {clU : Value} {cldU : Option Addr} {cslU : Array (Option Value)} {cclU : Value} {cddU : Option Addr} {vsU : Array Value} {ccsU : Array (Option Value)} {fileU : Str} {tfU : Tok}
    (n_VoteError : PySem.W.nsIn K mainGlobals "VoteError" = some (some (.ref c_VoteError)))
    (n_BadTree : PySem.W.nsIn K mainGlobals "BadTree" = some (some (.ref c_BadTree)))
    (n_NoBlock : PySem.W.nsIn K mainGlobals "NoBlock" = some (some (.ref c_NoBlock)))
    (n_NoPlace : PySem.W.nsIn K mainGlobals "NoPlace" = some (some (.ref c_NoPlace)))
    (n_Beneath : PySem.W.nsIn K mainGlobals "Beneath" = some (some (.ref c_Beneath)))
    (n_OtherBlocks : PySem.W.nsIn K mainGlobals "OtherBlocks" = some (some (.ref c_OtherBlocks)))
    (n_BadWords : PySem.W.nsIn K mainGlobals "BadWords" = some (some (.ref c_BadWords)))
    (n_Tree : PySem.W.nsIn K mainGlobals "Tree" = some (some (.ref c_Tree)))
    (n_Words : PySem.W.nsIn K mainGlobals "Words" = some (some (.ref c_Words)))
    (n_MOST_BLOCKS : PySem.W.nsIn K mainGlobals "MOST_BLOCKS" = some (some (.int 40 t_MOST_BLOCKS)))
    (z_ValueError : PySem.W.nsIn K mainGlobals "ValueError" = some none)
    (z_all : PySem.W.nsIn K mainGlobals "all" = some none)
    (z_bool : PySem.W.nsIn K mainGlobals "bool" = some none)
    (z_enumerate : PySem.W.nsIn K mainGlobals "enumerate" = some none)
    (z_int : PySem.W.nsIn K mainGlobals "int" = some none)
    (z_isinstance : PySem.W.nsIn K mainGlobals "isinstance" = some none)
    (z_len : PySem.W.nsIn K mainGlobals "len" = some none)
    (z_list : PySem.W.nsIn K mainGlobals "list" = some none)
    (z_min : PySem.W.nsIn K mainGlobals "min" = some none)
    (z_range : PySem.W.nsIn K mainGlobals "range" = some none)
    (z_sorted : PySem.W.nsIn K mainGlobals "sorted" = some none)
    (z_str : PySem.W.nsIn K mainGlobals "str" = some none)
    (z_sum : PySem.W.nsIn K mainGlobals "sum" = some none)
    (z_super : PySem.W.nsIn K mainGlobals "super" = some none)
    (z_tuple : PySem.W.nsIn K mainGlobals "tuple" = some none)
    (z_zip : PySem.W.nsIn K mainGlobals "zip" = some none)
    (a_is_within : PySem.W.nsIn K mainGlobals "is_within" = some (some (.ref f_is_within)))
    (l_is_within : K.lookup f_is_within = some ⟨oc_is_within, od_is_within, .func (PySem.W.fnOf "is_within" "is_within" (defArgs s_is_within) (defBody s_is_within) (defScope s_is_within) .none kV_is_within dc_is_within pm_is_within an_is_within cd_is_within ct_is_within), sl_is_within⟩)
    (c_is_within : PySem.W.codeIn K cd_is_within "is_within" = true)
    (k_is_within : PySem.W.keepIn K (.ref f_is_within) = true)
    (a__comes_to_head : PySem.W.nsIn K mainGlobals "_comes_to_head" = some (some (.ref f__comes_to_head)))
    (l__comes_to_head : K.lookup f__comes_to_head = some ⟨oc__comes_to_head, od__comes_to_head, .func (PySem.W.fnOf "_comes_to_head" "_comes_to_head" (defArgs s__comes_to_head) (defBody s__comes_to_head) (defScope s__comes_to_head) .none kV__comes_to_head dc__comes_to_head pm__comes_to_head an__comes_to_head cd__comes_to_head ct__comes_to_head), sl__comes_to_head⟩)
    (c__comes_to_head : PySem.W.codeIn K cd__comes_to_head "_comes_to_head" = true)
    (k__comes_to_head : PySem.W.keepIn K (.ref f__comes_to_head) = true)
    (a_BadTree___init__ : PySem.W.findIn K (.ref c_BadTree) "__init__" = some (some (.ref f_BadTree___init__)))
    (i_BadTree___init__ : PySem.W.isFn K (.ref f_BadTree___init__) = true)
    (l_BadTree___init__ : K.lookup f_BadTree___init__ = some ⟨oc_BadTree___init__, od_BadTree___init__, .func (PySem.W.fnOf "__init__" "BadTree.__init__" (defArgs s_BadTree___init__) (defBody s_BadTree___init__) (defScope s_BadTree___init__) .none kV_BadTree___init__ dc_BadTree___init__ pm_BadTree___init__ an_BadTree___init__ cd_BadTree___init__ ct_BadTree___init__), sl_BadTree___init__⟩)
    (c_BadTree___init__ : PySem.W.codeIn K cd_BadTree___init__ "BadTree.__init__" = true)
    (k_BadTree___init__ : PySem.W.keepIn K (.ref f_BadTree___init__) = true)
    (a_Tree___init__ : PySem.W.findIn K (.ref c_Tree) "__init__" = some (some (.ref f_Tree___init__)))
    (i_Tree___init__ : PySem.W.isFn K (.ref f_Tree___init__) = true)
    (l_Tree___init__ : K.lookup f_Tree___init__ = some ⟨oc_Tree___init__, od_Tree___init__, .func (PySem.W.fnOf "__init__" "Tree.__init__" (defArgs s_Tree___init__) (defBody s_Tree___init__) (defScope s_Tree___init__) .none kV_Tree___init__ dc_Tree___init__ pm_Tree___init__ an_Tree___init__ cd_Tree___init__ ct_Tree___init__), sl_Tree___init__⟩)
    (c_Tree___init__ : PySem.W.codeIn K cd_Tree___init__ "Tree.__init__" = true)
    (k_Tree___init__ : PySem.W.keepIn K (.ref f_Tree___init__) = true)
    (a_is_block : PySem.W.nsIn K mainGlobals "is_block" = some (some (.ref f_is_block)))
    (l_is_block : K.lookup f_is_block = some ⟨oc_is_block, od_is_block, .func (PySem.W.fnOf "is_block" "is_block" (defArgs s_is_block) (defBody s_is_block) (defScope s_is_block) .none kV_is_block dc_is_block pm_is_block an_is_block cd_is_block ct_is_block), sl_is_block⟩)
    (c_is_block : PySem.W.codeIn K cd_is_block "is_block" = true)
    (k_is_block : PySem.W.keepIn K (.ref f_is_block) = true)
    (a_is_place : PySem.W.nsIn K mainGlobals "is_place" = some (some (.ref f_is_place)))
    (l_is_place : K.lookup f_is_place = some ⟨oc_is_place, od_is_place, .func (PySem.W.fnOf "is_place" "is_place" (defArgs s_is_place) (defBody s_is_place) (defScope s_is_place) .none kV_is_place dc_is_place pm_is_place an_is_place cd_is_place ct_is_place), sl_is_place⟩)
    (c_is_place : PySem.W.codeIn K cd_is_place "is_place" = true)
    (k_is_place : PySem.W.keepIn K (.ref f_is_place) = true)
    (a_place_of : PySem.W.nsIn K mainGlobals "place_of" = some (some (.ref f_place_of)))
    (l_place_of : K.lookup f_place_of = some ⟨oc_place_of, od_place_of, .func (PySem.W.fnOf "place_of" "place_of" (defArgs s_place_of) (defBody s_place_of) (defScope s_place_of) .none kV_place_of dc_place_of pm_place_of an_place_of cd_place_of ct_place_of), sl_place_of⟩)
    (c_place_of : PySem.W.codeIn K cd_place_of "place_of" = true)
    (k_place_of : PySem.W.keepIn K (.ref f_place_of) = true)
    (a_parents : PySem.W.nsIn K mainGlobals "parents" = some (some (.ref f_parents)))
    (l_parents : K.lookup f_parents = some ⟨oc_parents, od_parents, .func (PySem.W.fnOf "parents" "parents" (defArgs s_parents) (defBody s_parents) (defScope s_parents) .none kV_parents dc_parents pm_parents an_parents cd_parents ct_parents), sl_parents⟩)
    (c_parents : PySem.W.codeIn K cd_parents "parents" = true)
    (k_parents : PySem.W.keepIn K (.ref f_parents) = true)
    (a_beneath : PySem.W.nsIn K mainGlobals "beneath" = some (some (.ref f_beneath)))
    (l_beneath : K.lookup f_beneath = some ⟨oc_beneath, od_beneath, .func (PySem.W.fnOf "beneath" "beneath" (defArgs s_beneath) (defBody s_beneath) (defScope s_beneath) .none kV_beneath dc_beneath pm_beneath an_beneath cd_beneath ct_beneath), sl_beneath⟩)
    (c_beneath : PySem.W.codeIn K cd_beneath "beneath" = true)
    (k_beneath : PySem.W.keepIn K (.ref f_beneath) = true)
    (a_moved : PySem.W.nsIn K mainGlobals "moved" = some (some (.ref f_moved)))
    (l_moved : K.lookup f_moved = some ⟨oc_moved, od_moved, .func (PySem.W.fnOf "moved" "moved" (defArgs s_moved) (defBody s_moved) (defScope s_moved) .none kV_moved dc_moved pm_moved an_moved cd_moved ct_moved), sl_moved⟩)
    (c_moved : PySem.W.codeIn K cd_moved "moved" = true)
    (k_moved : PySem.W.keepIn K (.ref f_moved) = true)
    (a_Words___init__ : PySem.W.findIn K (.ref c_Words) "__init__" = some (some (.ref f_Words___init__)))
    (i_Words___init__ : PySem.W.isFn K (.ref f_Words___init__) = true)
    (l_Words___init__ : K.lookup f_Words___init__ = some ⟨oc_Words___init__, od_Words___init__, .func (PySem.W.fnOf "__init__" "Words.__init__" (defArgs s_Words___init__) (defBody s_Words___init__) (defScope s_Words___init__) .none kV_Words___init__ dc_Words___init__ pm_Words___init__ an_Words___init__ cd_Words___init__ ct_Words___init__), sl_Words___init__⟩)
    (c_Words___init__ : PySem.W.codeIn K cd_Words___init__ "Words.__init__" = true)
    (k_Words___init__ : PySem.W.keepIn K (.ref f_Words___init__) = true)
    (a__is_tuple_of : PySem.W.nsIn K mainGlobals "_is_tuple_of" = some (some (.ref f__is_tuple_of)))
    (l__is_tuple_of : K.lookup f__is_tuple_of = some ⟨oc__is_tuple_of, od__is_tuple_of, .func (PySem.W.fnOf "_is_tuple_of" "_is_tuple_of" (defArgs s__is_tuple_of) (defBody s__is_tuple_of) (defScope s__is_tuple_of) .none kV__is_tuple_of dc__is_tuple_of pm__is_tuple_of an__is_tuple_of cd__is_tuple_of ct__is_tuple_of), sl__is_tuple_of⟩)
    (c__is_tuple_of : PySem.W.codeIn K cd__is_tuple_of "_is_tuple_of" = true)
    (k__is_tuple_of : PySem.W.keepIn K (.ref f__is_tuple_of) = true)
    (a__is_up : PySem.W.nsIn K mainGlobals "_is_up" = some (some (.ref f__is_up)))
    (l__is_up : K.lookup f__is_up = some ⟨oc__is_up, od__is_up, .func (PySem.W.fnOf "_is_up" "_is_up" (defArgs s__is_up) (defBody s__is_up) (defScope s__is_up) .none kV__is_up dc__is_up pm__is_up an__is_up cd__is_up ct__is_up), sl__is_up⟩)
    (c__is_up : PySem.W.codeIn K cd__is_up "_is_up" = true)
    (k__is_up : PySem.W.keepIn K (.ref f__is_up) = true)
    (a__is_listing : PySem.W.nsIn K mainGlobals "_is_listing" = some (some (.ref f__is_listing)))
    (l__is_listing : K.lookup f__is_listing = some ⟨oc__is_listing, od__is_listing, .func (PySem.W.fnOf "_is_listing" "_is_listing" (defArgs s__is_listing) (defBody s__is_listing) (defScope s__is_listing) .none kV__is_listing dc__is_listing pm__is_listing an__is_listing cd__is_listing ct__is_listing), sl__is_listing⟩)
    (c__is_listing : PySem.W.codeIn K cd__is_listing "_is_listing" = true)
    (k__is_listing : PySem.W.keepIn K (.ref f__is_listing) = true)
    (a_words_of : PySem.W.nsIn K mainGlobals "words_of" = some (some (.ref f_words_of)))
    (l_words_of : K.lookup f_words_of = some ⟨oc_words_of, od_words_of, .func (PySem.W.fnOf "words_of" "words_of" (defArgs s_words_of) (defBody s_words_of) (defScope s_words_of) .none kV_words_of dc_words_of pm_words_of an_words_of cd_words_of ct_words_of), sl_words_of⟩)
    (c_words_of : PySem.W.codeIn K cd_words_of "words_of" = true)
    (k_words_of : PySem.W.keepIn K (.ref f_words_of) = true)
    (a_words_of_ups : PySem.W.nsIn K mainGlobals "words_of_ups" = some (some (.ref f_words_of_ups)))
    (l_words_of_ups : K.lookup f_words_of_ups = some ⟨oc_words_of_ups, od_words_of_ups, .func (PySem.W.fnOf "words_of_ups" "words_of_ups" (defArgs s_words_of_ups) (defBody s_words_of_ups) (defScope s_words_of_ups) .none kV_words_of_ups dc_words_of_ups pm_words_of_ups an_words_of_ups cd_words_of_ups ct_words_of_ups), sl_words_of_ups⟩)
    (c_words_of_ups : PySem.W.codeIn K cd_words_of_ups "words_of_ups" = true)
    (k_words_of_ups : PySem.W.keepIn K (.ref f_words_of_ups) = true)
    (a_costs : PySem.W.nsIn K mainGlobals "costs" = some (some (.ref f_costs)))
    (l_costs : K.lookup f_costs = some ⟨oc_costs, od_costs, .func (PySem.W.fnOf "costs" "costs" (defArgs s_costs) (defBody s_costs) (defScope s_costs) .none kV_costs dc_costs pm_costs an_costs cd_costs ct_costs), sl_costs⟩)
    (c_costs : PySem.W.codeIn K cd_costs "costs" = true)
    (k_costs : PySem.W.keepIn K (.ref f_costs) = true)
    (a_cost : PySem.W.nsIn K mainGlobals "cost" = some (some (.ref f_cost)))
    (l_cost : K.lookup f_cost = some ⟨oc_cost, od_cost, .func (PySem.W.fnOf "cost" "cost" (defArgs s_cost) (defBody s_cost) (defScope s_cost) .none kV_cost dc_cost pm_cost an_cost cd_cost ct_cost), sl_cost⟩)
    (c_cost : PySem.W.codeIn K cd_cost "cost" = true)
    (k_cost : PySem.W.keepIn K (.ref f_cost) = true)
    (a_wrong_words : PySem.W.nsIn K mainGlobals "wrong_words" = some (some (.ref f_wrong_words)))
    (l_wrong_words : K.lookup f_wrong_words = some ⟨oc_wrong_words, od_wrong_words, .func (PySem.W.fnOf "wrong_words" "wrong_words" (defArgs s_wrong_words) (defBody s_wrong_words) (defScope s_wrong_words) .none kV_wrong_words dc_wrong_words pm_wrong_words an_wrong_words cd_wrong_words ct_wrong_words), sl_wrong_words⟩)
    (c_wrong_words : PySem.W.codeIn K cd_wrong_words "wrong_words" = true)
    (k_wrong_words : PySem.W.keepIn K (.ref f_wrong_words) = true)
    (a_votes : PySem.W.nsIn K mainGlobals "votes" = some (some (.ref f_votes)))
    (l_votes : K.lookup f_votes = some ⟨oc_votes, od_votes, .func (PySem.W.fnOf "votes" "votes" (defArgs s_votes) (defBody s_votes) (defScope s_votes) .none kV_votes dc_votes pm_votes an_votes cd_votes ct_votes), sl_votes⟩)
    (c_votes : PySem.W.codeIn K cd_votes "votes" = true)
    (k_votes : PySem.W.keepIn K (.ref f_votes) = true)
    (a__vote : PySem.W.nsIn K mainGlobals "_vote" = some (some (.ref f__vote)))
    (l__vote : K.lookup f__vote = some ⟨oc__vote, od__vote, .func (PySem.W.fnOf "_vote" "_vote" (defArgs s__vote) (defBody s__vote) (defScope s__vote) .none kV__vote dc__vote pm__vote an__vote cd__vote ct__vote), sl__vote⟩)
    (c__vote : PySem.W.codeIn K cd__vote "_vote" = true)
    (k__vote : PySem.W.keepIn K (.ref f__vote) = true)
    (a__law_tape : PySem.W.nsIn K mainGlobals "_law_tape" = some (some (.ref f__law_tape)))
    (l__law_tape : K.lookup f__law_tape = some ⟨oc__law_tape, od__law_tape, .func (PySem.W.fnOf "_law_tape" "_law_tape" (defArgs s__law_tape) (defBody s__law_tape) (defScope s__law_tape) .none kV__law_tape dc__law_tape pm__law_tape an__law_tape cd__law_tape ct__law_tape), sl__law_tape⟩)
    (c__law_tape : PySem.W.codeIn K cd__law_tape "_law_tape" = true)
    (k__law_tape : PySem.W.keepIn K (.ref f__law_tape) = true)
    (a__law_pick : PySem.W.nsIn K mainGlobals "_law_pick" = some (some (.ref f__law_pick)))
    (l__law_pick : K.lookup f__law_pick = some ⟨oc__law_pick, od__law_pick, .func (PySem.W.fnOf "_law_pick" "_law_pick" (defArgs s__law_pick) (defBody s__law_pick) (defScope s__law_pick) .none kV__law_pick dc__law_pick pm__law_pick an__law_pick cd__law_pick ct__law_pick), sl__law_pick⟩)
    (c__law_pick : PySem.W.codeIn K cd__law_pick "_law_pick" = true)
    (k__law_pick : PySem.W.keepIn K (.ref f__law_pick) = true)
    (a__law_any : PySem.W.nsIn K mainGlobals "_law_any" = some (some (.ref f__law_any)))
    (l__law_any : K.lookup f__law_any = some ⟨oc__law_any, od__law_any, .func (PySem.W.fnOf "_law_any" "_law_any" (defArgs s__law_any) (defBody s__law_any) (defScope s__law_any) .none kV__law_any dc__law_any pm__law_any an__law_any cd__law_any ct__law_any), sl__law_any⟩)
    (c__law_any : PySem.W.codeIn K cd__law_any "_law_any" = true)
    (k__law_any : PySem.W.keepIn K (.ref f__law_any) = true)
    (a__law_mixed : PySem.W.nsIn K mainGlobals "_law_mixed" = some (some (.ref f__law_mixed)))
    (l__law_mixed : K.lookup f__law_mixed = some ⟨oc__law_mixed, od__law_mixed, .func (PySem.W.fnOf "_law_mixed" "_law_mixed" (defArgs s__law_mixed) (defBody s__law_mixed) (defScope s__law_mixed) .none kV__law_mixed dc__law_mixed pm__law_mixed an__law_mixed cd__law_mixed ct__law_mixed), sl__law_mixed⟩)
    (c__law_mixed : PySem.W.codeIn K cd__law_mixed "_law_mixed" = true)
    (k__law_mixed : PySem.W.keepIn K (.ref f__law_mixed) = true)
    (a__law_is_int : PySem.W.nsIn K mainGlobals "_law_is_int" = some (some (.ref f__law_is_int)))
    (l__law_is_int : K.lookup f__law_is_int = some ⟨oc__law_is_int, od__law_is_int, .func (PySem.W.fnOf "_law_is_int" "_law_is_int" (defArgs s__law_is_int) (defBody s__law_is_int) (defScope s__law_is_int) .none kV__law_is_int dc__law_is_int pm__law_is_int an__law_is_int cd__law_is_int ct__law_is_int), sl__law_is_int⟩)
    (c__law_is_int : PySem.W.codeIn K cd__law_is_int "_law_is_int" = true)
    (k__law_is_int : PySem.W.keepIn K (.ref f__law_is_int) = true)
    (a__law_same : PySem.W.nsIn K mainGlobals "_law_same" = some (some (.ref f__law_same)))
    (l__law_same : K.lookup f__law_same = some ⟨oc__law_same, od__law_same, .func (PySem.W.fnOf "_law_same" "_law_same" (defArgs s__law_same) (defBody s__law_same) (defScope s__law_same) .none kV__law_same dc__law_same pm__law_same an__law_same cd__law_same ct__law_same), sl__law_same⟩)
    (c__law_same : PySem.W.codeIn K cd__law_same "_law_same" = true)
    (k__law_same : PySem.W.keepIn K (.ref f__law_same) = true)
    (a__law_hung : PySem.W.nsIn K mainGlobals "_law_hung" = some (some (.ref f__law_hung)))
    (l__law_hung : K.lookup f__law_hung = some ⟨oc__law_hung, od__law_hung, .func (PySem.W.fnOf "_law_hung" "_law_hung" (defArgs s__law_hung) (defBody s__law_hung) (defScope s__law_hung) .none kV__law_hung dc__law_hung pm__law_hung an__law_hung cd__law_hung ct__law_hung), sl__law_hung⟩)
    (c__law_hung : PySem.W.codeIn K cd__law_hung "_law_hung" = true)
    (k__law_hung : PySem.W.keepIn K (.ref f__law_hung) = true)
    (a__law_right_words : PySem.W.nsIn K mainGlobals "_law_right_words" = some (some (.ref f__law_right_words)))
    (l__law_right_words : K.lookup f__law_right_words = some ⟨oc__law_right_words, od__law_right_words, .func (PySem.W.fnOf "_law_right_words" "_law_right_words" (defArgs s__law_right_words) (defBody s__law_right_words) (defScope s__law_right_words) .none kV__law_right_words dc__law_right_words pm__law_right_words an__law_right_words cd__law_right_words ct__law_right_words), sl__law_right_words⟩)
    (c__law_right_words : PySem.W.codeIn K cd__law_right_words "_law_right_words" = true)
    (k__law_right_words : PySem.W.keepIn K (.ref f__law_right_words) = true)
    (a__law_drawn_words : PySem.W.nsIn K mainGlobals "_law_drawn_words" = some (some (.ref f__law_drawn_words)))
    (l__law_drawn_words : K.lookup f__law_drawn_words = some ⟨oc__law_drawn_words, od__law_drawn_words, .func (PySem.W.fnOf "_law_drawn_words" "_law_drawn_words" (defArgs s__law_drawn_words) (defBody s__law_drawn_words) (defScope s__law_drawn_words) .none kV__law_drawn_words dc__law_drawn_words pm__law_drawn_words an__law_drawn_words cd__law_drawn_words ct__law_drawn_words), sl__law_drawn_words⟩)
    (c__law_drawn_words : PySem.W.codeIn K cd__law_drawn_words "_law_drawn_words" = true)
    (k__law_drawn_words : PySem.W.keepIn K (.ref f__law_drawn_words) = true)
    (a__law_cost : PySem.W.nsIn K mainGlobals "_law_cost" = some (some (.ref f__law_cost)))
    (l__law_cost : K.lookup f__law_cost = some ⟨oc__law_cost, od__law_cost, .func (PySem.W.fnOf "_law_cost" "_law_cost" (defArgs s__law_cost) (defBody s__law_cost) (defScope s__law_cost) .none kV__law_cost dc__law_cost pm__law_cost an__law_cost cd__law_cost ct__law_cost), sl__law_cost⟩)
    (c__law_cost : PySem.W.codeIn K cd__law_cost "_law_cost" = true)
    (k__law_cost : PySem.W.keepIn K (.ref f__law_cost) = true)
    (a__law_all_costs : PySem.W.nsIn K mainGlobals "_law_all_costs" = some (some (.ref f__law_all_costs)))
    (l__law_all_costs : K.lookup f__law_all_costs = some ⟨oc__law_all_costs, od__law_all_costs, .func (PySem.W.fnOf "_law_all_costs" "_law_all_costs" (defArgs s__law_all_costs) (defBody s__law_all_costs) (defScope s__law_all_costs) .none kV__law_all_costs dc__law_all_costs pm__law_all_costs an__law_all_costs cd__law_all_costs ct__law_all_costs), sl__law_all_costs⟩)
    (c__law_all_costs : PySem.W.codeIn K cd__law_all_costs "_law_all_costs" = true)
    (k__law_all_costs : PySem.W.keepIn K (.ref f__law_all_costs) = true)
    (a__law_is_beneath : PySem.W.nsIn K mainGlobals "_law_is_beneath" = some (some (.ref f__law_is_beneath)))
    (l__law_is_beneath : K.lookup f__law_is_beneath = some ⟨oc__law_is_beneath, od__law_is_beneath, .func (PySem.W.fnOf "_law_is_beneath" "_law_is_beneath" (defArgs s__law_is_beneath) (defBody s__law_is_beneath) (defScope s__law_is_beneath) .none kV__law_is_beneath dc__law_is_beneath pm__law_is_beneath an__law_is_beneath cd__law_is_beneath ct__law_is_beneath), sl__law_is_beneath⟩)
    (c__law_is_beneath : PySem.W.codeIn K cd__law_is_beneath "_law_is_beneath" = true)
    (k__law_is_beneath : PySem.W.keepIn K (.ref f__law_is_beneath) = true)
    (a__law_moves : PySem.W.nsIn K mainGlobals "_law_moves" = some (some (.ref f__law_moves)))
    (l__law_moves : K.lookup f__law_moves = some ⟨oc__law_moves, od__law_moves, .func (PySem.W.fnOf "_law_moves" "_law_moves" (defArgs s__law_moves) (defBody s__law_moves) (defScope s__law_moves) .none kV__law_moves dc__law_moves pm__law_moves an__law_moves cd__law_moves ct__law_moves), sl__law_moves⟩)
    (c__law_moves : PySem.W.codeIn K cd__law_moves "_law_moves" = true)
    (k__law_moves : PySem.W.keepIn K (.ref f__law_moves) = true)
    (a__law_sum : PySem.W.nsIn K mainGlobals "_law_sum" = some (some (.ref f__law_sum)))
    (l__law_sum : K.lookup f__law_sum = some ⟨oc__law_sum, od__law_sum, .func (PySem.W.fnOf "_law_sum" "_law_sum" (defArgs s__law_sum) (defBody s__law_sum) (defScope s__law_sum) .none kV__law_sum dc__law_sum pm__law_sum an__law_sum cd__law_sum ct__law_sum), sl__law_sum⟩)
    (c__law_sum : PySem.W.codeIn K cd__law_sum "_law_sum" = true)
    (k__law_sum : PySem.W.keepIn K (.ref f__law_sum) = true)
    (a__law_costs_right : PySem.W.nsIn K mainGlobals "_law_costs_right" = some (some (.ref f__law_costs_right)))
    (l__law_costs_right : K.lookup f__law_costs_right = some ⟨oc__law_costs_right, od__law_costs_right, .func (PySem.W.fnOf "_law_costs_right" "_law_costs_right" (defArgs s__law_costs_right) (defBody s__law_costs_right) (defScope s__law_costs_right) .none kV__law_costs_right dc__law_costs_right pm__law_costs_right an__law_costs_right cd__law_costs_right ct__law_costs_right), sl__law_costs_right⟩)
    (c__law_costs_right : PySem.W.codeIn K cd__law_costs_right "_law_costs_right" = true)
    (k__law_costs_right : PySem.W.keepIn K (.ref f__law_costs_right) = true)
    (a_law : PySem.W.nsIn K mainGlobals "law" = some (some (.ref f_law)))
    (l_law : K.lookup f_law = some ⟨oc_law, od_law, .func (PySem.W.fnOf "law" "law" (defArgs s_law) (defBody s_law) (defScope s_law) .none kV_law dc_law pm_law an_law cd_law ct_law), sl_law⟩)
    (c_law : PySem.W.codeIn K cd_law "law" = true)
    (k_law : PySem.W.keepIn K (.ref f_law) = true)
    (pgTree : PySem.W.plainGet K c_Tree Str.empty = true)
    (hdTree : PySem.W.hasDictIn K c_Tree = true)
    (poTree : PySem.W.plainOver K c_Tree = true)
    (saTree : PySem.W.findIn K (.ref c_Tree) "__setattr__" = some (some (.builtin "object.__setattr__")))
    (mkTree : PySem.W.makesIn K c_Tree = true)
    (kcTree : PySem.W.keepIn K (.ref c_Tree) = true)
    (noTree_hung : PySem.W.findIn K (.ref c_Tree) "hung" = some none)
    (pgWords : PySem.W.plainGet K c_Words Str.empty = true)
    (hdWords : PySem.W.hasDictIn K c_Words = true)
    (poWords : PySem.W.plainOver K c_Words = true)
    (saWords : PySem.W.findIn K (.ref c_Words) "__setattr__" = some (some (.builtin "object.__setattr__")))
    (mkWords : PySem.W.makesIn K c_Words = true)
    (kcWords : PySem.W.keepIn K (.ref c_Words) = true)
    (noWords_blocks : PySem.W.findIn K (.ref c_Words) "blocks" = some none)
    (noWords_ups : PySem.W.findIn K (.ref c_Words) "ups" = some none)
    (noWords_lists : PySem.W.findIn K (.ref c_Words) "lists" = some none)
    (haT : PySem.W.findIn K (.ref c_Tree) "__class__" = some (some (.builtin "object.__class__")))
    (hmT : PySem.W.mroIn K c_Tree (.type "object") = some true)
    (icT : PySem.W.isClsIn K c_Tree = true)
    (tyT : PySem.W.typeIn K (.ref c_Tree) = some (.type "type"))
    (spO : PySem.W.specialIn K (.builtin "object.__class__") "__get__" = some (some (.builtin "getset_descriptor.__get__")))
    (tkO : PySem.W.takesIn K (.builtin "object.__class__") = some true)
    (xL : K.lookup c_BadTree = some (excClassObj nm q c_BadTree N bs bm true sn sub ab col dd m0 m1 m2 m3 m5 "ValueError.__new__"))
    (rv : PySem.HandSPX.refsVE bm = true)
    (saB : PySem.W.findIn K (.ref c_BadTree) "__setattr__" = some (some (.builtin "object.__setattr__")))
    (exB : PySem.W.subIn K (.ref c_BadTree) (.type "BaseException") = some true)
    (tyB : PySem.W.typeIn K (.ref c_BadTree) = some (.type "type"))
    (kcB : PySem.W.keepIn K (.ref c_BadTree) = true)
    (tiB : PySem.W.typeIn K (.ref f_BadTree___init__) = some (.type "function"))
    (noB : PySem.W.findIn K (.ref c_BadTree) "part" = some none)
    (xU : K.lookup c_Beneath = some (excClassObj nmU qU c_Beneath NU bsU bmU true snU subU abU colU ddU u0 u1 u2 u3 u5 "ValueError.__new__"))
    (rvU : PySem.HandSPX.refsVE bmU = true)
    (saU : PySem.W.findIn K (.ref c_Beneath) "__setattr__" = some (some (.builtin "object.__setattr__")))
    (exU : PySem.W.subIn K (.ref c_Beneath) (.type "BaseException") = some true)
    (tyU : PySem.W.typeIn K (.ref c_Beneath) = some (.type "type"))
    (kcU : PySem.W.keepIn K (.ref c_Beneath) = true)
    (iU : PySem.W.findIn K (.ref c_Beneath) "__init__" = some (some (.ref f_U)))
    (tiU : PySem.W.typeIn K (.ref f_U) = some (.type "function"))
    (lU : K.lookup f_U = some ⟨ocU, odU, .func (PySem.W.ksFn "__init__" qqU (siA e) (siB p0 p1 p2 p3 p4) siS .none kVU docU pmU anU (.ref cdU) ctU ccU), slU⟩)
    (cU : PySem.W.codeIn K (.ref cdU) qqU = true)
    (ceU : K.lookup ccU = some ⟨clU, cldU, .cell (some (.ref c_Beneath)), cslU⟩)
    (coU : K.lookup cdU = some ⟨cclU, cddU, .fields vsU, ccsU⟩)
    (vsU2 : vsU[2]? = some (.str fileU tfU))
    (fiU : ((P.main.file : Str) == fileU) = true)
    (evU : SupEv p0 p1 p2 p3)
    (upU : PySem.W.ks_superIn K c_Beneath c_Beneath "__init__" = some (some (.builtin "ValueError.__init__")))
    (meU : PySem.W.mroIn K c_Beneath (.ref c_Beneath) = some true)
    (veU : PySem.W.subIn K (.ref c_Beneath) (.type "ValueError") = some true)
    (opU : PySem.W.nsIn K cStatics "thirdparty.any" = some none)
    (tpU : (P.main.scope.names.lookup ("super" : Str)).isSome = false)
    : ∃ fd : FuncData, (∀ (s : Shared) (v : Value), BindsTo s fd ⟨[v], []⟩ [("_law_script", v)]) ∧ ∀ base : Heap, K.In base → base.Ns mainGlobals mg → FnOk P w K mg base CX0 8 fa fd ["_law_script"] (spLaw K) := by
  have e := hfa.symm.trans (PySem.W.mg_of X G a_law)
  cases e
  have F_is_within := fun_mk (st := s_is_within) l_is_within c_is_within k_is_within
  have b_is_within := F_is_within.binds (ps := ["least", "most", "thing"]) fun _ _ _ _ _ _ us hl => match us, hl with | [_, _, _], _ => rfl
  have C_is_within := Cal.mk (PySem.W.mg_of X G a_is_within) k_is_within b_is_within
  have F__comes_to_head := fun_mk (st := s__comes_to_head) l__comes_to_head c__comes_to_head k__comes_to_head
  have b__comes_to_head := F__comes_to_head.binds (ps := ["hung", "block"]) fun _ _ _ _ _ _ us hl => match us, hl with | [_, _], _ => rfl
  have C__comes_to_head := Cal.mk (PySem.W.mg_of X G a__comes_to_head) k__comes_to_head b__comes_to_head
  have F_BadTree___init__ := fun_mk (st := s_BadTree___init__) l_BadTree___init__ c_BadTree___init__ k_BadTree___init__
  have b_BadTree___init__ := F_BadTree___init__.binds (ps := ["self", "part"]) fun _ _ _ _ _ _ us hl => match us, hl with | [_, _], _ => rfl
  have C_BadTree___init__ := CalM.mk k_BadTree___init__ b_BadTree___init__
  have F_Tree___init__ := fun_mk (st := s_Tree___init__) l_Tree___init__ c_Tree___init__ k_Tree___init__
  have b_Tree___init__ := F_Tree___init__.binds (ps := ["self", "hung"]) fun _ _ _ _ _ _ us hl => match us, hl with | [_, _], _ => rfl
  have C_Tree___init__ := CalM.mk k_Tree___init__ b_Tree___init__
  have F_is_block := fun_mk (st := s_is_block) l_is_block c_is_block k_is_block
  have b_is_block := F_is_block.binds (ps := ["tree", "thing"]) fun _ _ _ _ _ _ us hl => match us, hl with | [_, _], _ => rfl
  have C_is_block := Cal.mk (PySem.W.mg_of X G a_is_block) k_is_block b_is_block
  have F_is_place := fun_mk (st := s_is_place) l_is_place c_is_place k_is_place
  have b_is_place := F_is_place.binds (ps := ["tree", "thing"]) fun _ _ _ _ _ _ us hl => match us, hl with | [_, _], _ => rfl
  have C_is_place := Cal.mk (PySem.W.mg_of X G a_is_place) k_is_place b_is_place
  have F_place_of := fun_mk (st := s_place_of) l_place_of c_place_of k_place_of
  have b_place_of := F_place_of.binds (ps := ["tree", "block"]) fun _ _ _ _ _ _ us hl => match us, hl with | [_, _], _ => rfl
  have C_place_of := Cal.mk (PySem.W.mg_of X G a_place_of) k_place_of b_place_of
  have F_parents := fun_mk (st := s_parents) l_parents c_parents k_parents
  have b_parents := F_parents.binds (ps := ["tree", "block"]) fun _ _ _ _ _ _ us hl => match us, hl with | [_, _], _ => rfl
  have C_parents := Cal.mk (PySem.W.mg_of X G a_parents) k_parents b_parents
  have F_beneath := fun_mk (st := s_beneath) l_beneath c_beneath k_beneath
  have b_beneath := F_beneath.binds (ps := ["tree", "place"]) fun _ _ _ _ _ _ us hl => match us, hl with | [_, _], _ => rfl
  have C_beneath := Cal.mk (PySem.W.mg_of X G a_beneath) k_beneath b_beneath
  have F_moved := fun_mk (st := s_moved) l_moved c_moved k_moved
  have b_moved := F_moved.binds (ps := ["tree", "block", "place"]) fun _ _ _ _ _ _ us hl => match us, hl with | [_, _, _], _ => rfl
  have C_moved := Cal.mk (PySem.W.mg_of X G a_moved) k_moved b_moved
  have F_Words___init__ := fun_mk (st := s_Words___init__) l_Words___init__ c_Words___init__ k_Words___init__
  have b_Words___init__ := F_Words___init__.binds (ps := ["self", "blocks", "ups", "lists"]) fun _ _ _ _ _ _ us hl => match us, hl with | [_, _, _, _], _ => rfl
  have C_Words___init__ := CalM.mk k_Words___init__ b_Words___init__
  have F__is_tuple_of := fun_mk (st := s__is_tuple_of) l__is_tuple_of c__is_tuple_of k__is_tuple_of
  have b__is_tuple_of := F__is_tuple_of.binds (ps := ["many", "thing"]) fun _ _ _ _ _ _ us hl => match us, hl with | [_, _], _ => rfl
  have C__is_tuple_of := Cal.mk (PySem.W.mg_of X G a__is_tuple_of) k__is_tuple_of b__is_tuple_of
  have F__is_up := fun_mk (st := s__is_up) l__is_up c__is_up k__is_up
  have b__is_up := F__is_up.binds (ps := ["blocks", "block", "thing"]) fun _ _ _ _ _ _ us hl => match us, hl with | [_, _, _], _ => rfl
  have C__is_up := Cal.mk (PySem.W.mg_of X G a__is_up) k__is_up b__is_up
  have F__is_listing := fun_mk (st := s__is_listing) l__is_listing c__is_listing k__is_listing
  have b__is_listing := F__is_listing.binds (ps := ["place", "block", "thing"]) fun _ _ _ _ _ _ us hl => match us, hl with | [_, _, _], _ => rfl
  have C__is_listing := Cal.mk (PySem.W.mg_of X G a__is_listing) k__is_listing b__is_listing
  have F_words_of := fun_mk (st := s_words_of) l_words_of c_words_of k_words_of
  have b_words_of := F_words_of.binds (ps := ["tree"]) fun _ _ _ _ _ _ us hl => match us, hl with | [_], _ => rfl
  have C_words_of := Cal.mk (PySem.W.mg_of X G a_words_of) k_words_of b_words_of
  have F_words_of_ups := fun_mk (st := s_words_of_ups) l_words_of_ups c_words_of_ups k_words_of_ups
  have b_words_of_ups := F_words_of_ups.binds (ps := ["ups"]) fun _ _ _ _ _ _ us hl => match us, hl with | [_], _ => rfl
  have C_words_of_ups := Cal.mk (PySem.W.mg_of X G a_words_of_ups) k_words_of_ups b_words_of_ups
  have F_costs := fun_mk (st := s_costs) l_costs c_costs k_costs
  have b_costs := F_costs.binds (ps := ["words", "block"]) fun _ _ _ _ _ _ us hl => match us, hl with | [_, _], _ => rfl
  have C_costs := Cal.mk (PySem.W.mg_of X G a_costs) k_costs b_costs
  have F_cost := fun_mk (st := s_cost) l_cost c_cost k_cost
  have b_cost := F_cost.binds (ps := ["words", "block", "place"]) fun _ _ _ _ _ _ us hl => match us, hl with | [_, _, _], _ => rfl
  have C_cost := Cal.mk (PySem.W.mg_of X G a_cost) k_cost b_cost
  have F_wrong_words := fun_mk (st := s_wrong_words) l_wrong_words c_wrong_words k_wrong_words
  have b_wrong_words := F_wrong_words.binds (ps := ["words", "tree"]) fun _ _ _ _ _ _ us hl => match us, hl with | [_, _], _ => rfl
  have C_wrong_words := Cal.mk (PySem.W.mg_of X G a_wrong_words) k_wrong_words b_wrong_words
  have F_votes := fun_mk (st := s_votes) l_votes c_votes k_votes
  have b_votes := F_votes.binds (ps := ["words"]) fun _ _ _ _ _ _ us hl => match us, hl with | [_], _ => rfl
  have C_votes := Cal.mk (PySem.W.mg_of X G a_votes) k_votes b_votes
  have F__vote := fun_mk (st := s__vote) l__vote c__vote k__vote
  have b__vote := F__vote.binds (ps := ["words", "block"]) fun _ _ _ _ _ _ us hl => match us, hl with | [_, _], _ => rfl
  have C__vote := Cal.mk (PySem.W.mg_of X G a__vote) k__vote b__vote
  have F__law_tape := fun_mk (st := s__law_tape) l__law_tape c__law_tape k__law_tape
  have b__law_tape := F__law_tape.binds (ps := ["_law_script"]) fun _ _ _ _ _ _ us hl => match us, hl with | [_], _ => rfl
  have C__law_tape := Cal.mk (PySem.W.mg_of X G a__law_tape) k__law_tape b__law_tape
  have F__law_pick := fun_mk (st := s__law_pick) l__law_pick c__law_pick k__law_pick
  have b__law_pick := F__law_pick.binds (ps := ["_law_tape_here", "_law_many"]) fun _ _ _ _ _ _ us hl => match us, hl with | [_, _], _ => rfl
  have C__law_pick := Cal.mk (PySem.W.mg_of X G a__law_pick) k__law_pick b__law_pick
  have F__law_any := fun_mk (st := s__law_any) l__law_any c__law_any k__law_any
  have b__law_any := F__law_any.binds (ps := ["_law_tape_here", "_law_some"]) fun _ _ _ _ _ _ us hl => match us, hl with | [_, _], _ => rfl
  have C__law_any := Cal.mk (PySem.W.mg_of X G a__law_any) k__law_any b__law_any
  have F__law_mixed := fun_mk (st := s__law_mixed) l__law_mixed c__law_mixed k__law_mixed
  have b__law_mixed := F__law_mixed.binds (ps := ["_law_tape_here", "_law_some"]) fun _ _ _ _ _ _ us hl => match us, hl with | [_, _], _ => rfl
  have C__law_mixed := Cal.mk (PySem.W.mg_of X G a__law_mixed) k__law_mixed b__law_mixed
  have F__law_is_int := fun_mk (st := s__law_is_int) l__law_is_int c__law_is_int k__law_is_int
  have b__law_is_int := F__law_is_int.binds (ps := ["_law_thing"]) fun _ _ _ _ _ _ us hl => match us, hl with | [_], _ => rfl
  have C__law_is_int := Cal.mk (PySem.W.mg_of X G a__law_is_int) k__law_is_int b__law_is_int
  have F__law_same := fun_mk (st := s__law_same) l__law_same c__law_same k__law_same
  have b__law_same := F__law_same.binds (ps := ["_law_told", "_law_due"]) fun _ _ _ _ _ _ us hl => match us, hl with | [_, _], _ => rfl
  have C__law_same := Cal.mk (PySem.W.mg_of X G a__law_same) k__law_same b__law_same
  have F__law_hung := fun_mk (st := s__law_hung) l__law_hung c__law_hung k__law_hung
  have b__law_hung := F__law_hung.binds (ps := ["_law_tape_here", "_law_many"]) fun _ _ _ _ _ _ us hl => match us, hl with | [_, _], _ => rfl
  have C__law_hung := Cal.mk (PySem.W.mg_of X G a__law_hung) k__law_hung b__law_hung
  have F__law_right_words := fun_mk (st := s__law_right_words) l__law_right_words c__law_right_words k__law_right_words
  have b__law_right_words := F__law_right_words.binds (ps := ["_law_hung_here"]) fun _ _ _ _ _ _ us hl => match us, hl with | [_], _ => rfl
  have C__law_right_words := Cal.mk (PySem.W.mg_of X G a__law_right_words) k__law_right_words b__law_right_words
  have F__law_drawn_words := fun_mk (st := s__law_drawn_words) l__law_drawn_words c__law_drawn_words k__law_drawn_words
  have b__law_drawn_words := F__law_drawn_words.binds (ps := ["_law_tape_here", "_law_hung_here"]) fun _ _ _ _ _ _ us hl => match us, hl with | [_, _], _ => rfl
  have C__law_drawn_words := Cal.mk (PySem.W.mg_of X G a__law_drawn_words) k__law_drawn_words b__law_drawn_words
  have F__law_cost := fun_mk (st := s__law_cost) l__law_cost c__law_cost k__law_cost
  have b__law_cost := F__law_cost.binds (ps := ["_law_told", "_law_block", "_law_place"]) fun _ _ _ _ _ _ us hl => match us, hl with | [_, _, _], _ => rfl
  have C__law_cost := Cal.mk (PySem.W.mg_of X G a__law_cost) k__law_cost b__law_cost
  have F__law_all_costs := fun_mk (st := s__law_all_costs) l__law_all_costs c__law_all_costs k__law_all_costs
  have b__law_all_costs := F__law_all_costs.binds (ps := ["_law_told", "_law_block"]) fun _ _ _ _ _ _ us hl => match us, hl with | [_, _], _ => rfl
  have C__law_all_costs := Cal.mk (PySem.W.mg_of X G a__law_all_costs) k__law_all_costs b__law_all_costs
  have F__law_is_beneath := fun_mk (st := s__law_is_beneath) l__law_is_beneath c__law_is_beneath k__law_is_beneath
  have b__law_is_beneath := F__law_is_beneath.binds (ps := ["_law_hung_here", "_law_place", "_law_block"]) fun _ _ _ _ _ _ us hl => match us, hl with | [_, _, _], _ => rfl
  have C__law_is_beneath := Cal.mk (PySem.W.mg_of X G a__law_is_beneath) k__law_is_beneath b__law_is_beneath
  have F__law_moves := fun_mk (st := s__law_moves) l__law_moves c__law_moves k__law_moves
  have b__law_moves := F__law_moves.binds (ps := ["_law_tape_here", "_law_hung_here", "_law_many"]) fun _ _ _ _ _ _ us hl => match us, hl with | [_, _, _], _ => rfl
  have C__law_moves := Cal.mk (PySem.W.mg_of X G a__law_moves) k__law_moves b__law_moves
  have F__law_sum := fun_mk (st := s__law_sum) l__law_sum c__law_sum k__law_sum
  have b__law_sum := F__law_sum.binds (ps := ["_law_told", "_law_hung_here"]) fun _ _ _ _ _ _ us hl => match us, hl with | [_, _], _ => rfl
  have C__law_sum := Cal.mk (PySem.W.mg_of X G a__law_sum) k__law_sum b__law_sum
  have F__law_costs_right := fun_mk (st := s__law_costs_right) l__law_costs_right c__law_costs_right k__law_costs_right
  have b__law_costs_right := F__law_costs_right.binds (ps := ["_law_tape_here", "_law_told", "_law_made"]) fun _ _ _ _ _ _ us hl => match us, hl with | [_, _, _], _ => rfl
  have C__law_costs_right := Cal.mk (PySem.W.mg_of X G a__law_costs_right) k__law_costs_right b__law_costs_right
  have F_law := fun_mk (st := s_law) l_law c_law k_law
  have b_law := F_law.binds (ps := ["_law_script"]) fun _ _ _ _ _ _ us hl => match us, hl with | [_], _ => rfl
  have C_law := Cal.mk (PySem.W.mg_of X G a_law) k_law b_law
  have B : Bl ⟨c_VoteError, c_BadTree, c_NoBlock, c_NoPlace, c_Beneath, c_OtherBlocks, c_BadWords, c_Tree, c_Words, t_MOST_BLOCKS⟩ mg := ⟨PySem.W.mg_none_of X G z_ValueError, PySem.W.mg_none_of X G z_all, PySem.W.mg_none_of X G z_bool, PySem.W.mg_none_of X G z_enumerate, PySem.W.mg_none_of X G z_int, PySem.W.mg_none_of X G z_isinstance, PySem.W.mg_none_of X G z_len, PySem.W.mg_none_of X G z_list, PySem.W.mg_none_of X G z_min, PySem.W.mg_none_of X G z_range, PySem.W.mg_none_of X G z_sorted, PySem.W.mg_none_of X G z_str, PySem.W.mg_none_of X G z_sum, PySem.W.mg_none_of X G z_super, PySem.W.mg_none_of X G z_tuple, PySem.W.mg_none_of X G z_zip, PySem.W.mg_of X G n_VoteError, PySem.W.mg_of X G n_BadTree, PySem.W.mg_of X G n_NoBlock, PySem.W.mg_of X G n_NoPlace, PySem.W.mg_of X G n_Beneath, PySem.W.mg_of X G n_OtherBlocks, PySem.W.mg_of X G n_BadWords, PySem.W.mg_of X G n_Tree, PySem.W.mg_of X G n_Words, PySem.W.mg_of X G n_MOST_BLOCKS⟩
  have hc : Cls K c_Tree := ⟨pgTree, hdTree, poTree, saTree⟩
  have hI : IsC K c_Tree := ⟨hc, haT, spO, tkO, hmT, if_pos (beq_self_eq_true _), kit_ref rfl icT tyT (sub_tuple K c_Tree)⟩
  have noT := noTree_hung
  have hW : WCls K ⟨c_VoteError, c_BadTree, c_NoBlock, c_NoPlace, c_Beneath, c_OtherBlocks, c_BadWords, c_Tree, c_Words, t_MOST_BLOCKS⟩ := ⟨⟨pgWords, hdWords, poWords, saWords⟩, noWords_blocks, noWords_ups, noWords_lists⟩
  have hX : OexC K c_BadTree := ⟨⟨nm, q, N, bs, bm, sn, sub, ab, col, dd, m0, m1, m2, m3, m5, xL, rv⟩, saB, exB, tyB, kcB⟩
  have hE : ExcF K c_BadTree f_BadTree___init__ "part" := ⟨hX, a_BadTree___init__, tiB, noB⟩
  have hU : SupC P K c_Beneath f_U := ⟨⟨⟨nmU, qU, NU, bsU, bmU, snU, subU, abU, colU, ddU, u0, u1, u2, u3, u5, xU, rvU⟩, saU, exU, tyU, kcU⟩, iU, tiU, ⟨ocU, odU, kVU, docU, pmU, anU, cdU, ctU, slU, ccU, qqU, e, p0, p1, p2, p3, p4, lU, cU, ⟨clU, cldU, cslU, ceU⟩, cclU, cddU, vsU, ccsU, fileU, tfU, coU, vsU2, fiU, evU⟩, upU, meU, veU, opU, tpU⟩
  have hM : Mk K c_Tree f_Tree___init__ := ⟨mkTree, a_Tree___init__, i_Tree___init__, kcTree⟩
  have hMW : Mk K c_Words f_Words___init__ := ⟨mkWords, a_Words___init__, i_Words___init__, kcWords⟩
  refine ⟨PySem.W.fnOf "law" "law" (defArgs s_law) (defBody s_law) (defScope s_law) .none kV_law dc_law pm_law an_law cd_law ct_law, fun s v => .of_eq rfl, fun base _ _ => ?_⟩
  have G_pick := ok_tpick (P := P) (w := w) (base := base) F__law_pick B
  have G_tape := ok_tape (P := P) (w := w) (base := base) F__law_tape B
  have G_any := ok_any F__law_any B C__law_pick G_pick
  have G_mixed := ok_mixed F__law_mixed B C__law_pick G_pick
  have G_hung := ok_hung F__law_hung B C__law_any G_any C__law_mixed G_mixed
  have G_within := ok_within (P := P) (w := w) (base := base) F_is_within B
  have G_comes := ok_comes (P := P) (w := w) (base := base) F__comes_to_head B
  have G_bad := ok_bad (mg := mg) (P := P) (w := w) (base := base) (Z := ⟨c_VoteError, c_BadTree, c_NoBlock, c_NoPlace, c_Beneath, c_OtherBlocks, c_BadWords, c_Tree, c_Words, t_MOST_BLOCKS⟩) F_BadTree___init__ hE
  have G_tree := ok_tree F_Tree___init__ B hc noT C_is_within G_within C__comes_to_head G_comes C_BadTree___init__ G_bad hE
  have G_isb := ok_isBlock F_is_block B hc noT C_is_within G_within
  have G_isp := ok_isPlace F_is_place B hc noT C_is_within G_within
  have G_place := ok_place F_place_of B hc noT C_is_block G_isb
  have G_par := ok_parents F_parents B C_place_of G_place
  have G_ben := ok_beneath F_beneath B hc noT C_is_place G_isp C_parents G_par
  have G_moved := ok_moved F_moved B hc noT hU C_is_block G_isb C_is_place G_isp C_beneath G_ben C_Tree___init__ G_tree hM
  have G_tup := ok_isTup (P := P) (w := w) (base := base) F__is_tuple_of B
  have G_up := ok_isUp F__is_up B C_is_within G_within
  have G_lst := ok_isLst (P := P) (w := w) (base := base) F__is_listing B
  have G_words := ok_words F_Words___init__ B hW C_is_within G_within C__is_tuple_of G_tup C__is_up G_up C__is_listing G_lst
  have G_wups := ok_wofUps F_words_of_ups B C_Words___init__ G_words hMW
  have G_wof := ok_wordsOf F_words_of B hc noT C_words_of_ups G_wups
  have G_costs := ok_costs (P := P) (w := w) (base := base) F_costs B hW
  have G_cost := ok_cost F_cost B hW C_is_within G_within C_costs G_costs
  have G_wrong := ok_wrong F_wrong_words B hW hI noT C_cost G_cost
  have G_vote := ok_vote F__vote B C_costs G_costs
  have G_votes := ok_votes F_votes B hW C__vote G_vote
  have G_int := ok_isInt (P := P) (w := w) (base := base) F__law_is_int B
  have G_same := ok_same F__law_same B C__law_same C__law_is_int G_int 3
  have G_right := ok_right (P := P) (w := w) (base := base) F__law_right_words B
  have G_drawn := ok_drawn F__law_drawn_words B C__law_right_words G_right C__law_any G_any C__law_pick G_pick
  have G_lcost := ok_lcost (P := P) (w := w) (base := base) F__law_cost B
  have G_lsum := ok_lsum F__law_sum B C__law_cost G_lcost
  have G_all := ok_all F__law_all_costs B C__law_cost G_lcost
  have G_lben := ok_ben (P := P) (w := w) (base := base) F__law_is_beneath B
  have G_moves := ok_moves F__law_moves B C__law_is_beneath G_lben C__law_any G_any C__law_pick G_pick
  have G_cr := ok_cr F__law_costs_right B C__law_all_costs G_all C__law_same G_same C_cost G_cost C_votes G_votes
  exact ok_law F_law B hI noT hW C__law_tape G_tape C__law_pick G_pick C__law_hung G_hung C__law_drawn_words G_drawn C__law_costs_right G_cr C__law_same G_same C__law_sum G_lsum C__law_moves G_moves C__law_cost G_lcost C__law_right_words G_right C_wrong_words G_wrong C_words_of G_wof C_moved G_moved C_Words___init__ G_words hMW C_Tree___init__ G_tree hM
end Fv
open PySem PySem.W PyProof.Rows in
set_option maxRecDepth 100000 in
set_option maxHeartbeats 0 in
theorem PySem.Challenge.cw_foldervotes_k26_whole_costs_and_votes_holds : PySem.Challenge.rw_foldervotes_k26_whole_costs_and_votes.Holds := by
  w_on; o_law; k_headL; (case hw => w_witness2)
  k_fill
  refine L2.walk_of (l := PySem.Challenge.rw_foldervotes_k26_whole_costs_and_votes) (n := 63) (k := 8) (x := "_law_script") (CX := fun _ => L2.CX0) (sp := fun w => Fv.spLaw _) rfl (by decide) rfl ⟨rfl, by decide, by decide⟩ (fun w h Y => PySem.W.kIn_of Y) ?F (fun _ _ a ns hl _ hS => ⟨a, ns, rfl, hS, hl, fun _ => rfl⟩) (fun _ _ _ _ _ h => h)
  case F =>
    intro w mg fa h KX G hmg
    refine' Fv.all_mk KX G hmg ?n_VoteError ?n_BadTree ?n_NoBlock ?n_NoPlace ?n_Beneath ?n_OtherBlocks ?n_BadWords ?n_Tree ?n_Words ?n_MOST_BLOCKS ?z_ValueError ?z_all ?z_bool ?z_enumerate ?z_int ?z_isinstance ?z_len ?z_list ?z_min ?z_range ?z_sorted ?z_str ?z_sum ?z_super ?z_tuple ?z_zip ?a_is_within ?l_is_within ?c_is_within ?k_is_within ?a__comes_to_head ?l__comes_to_head ?c__comes_to_head ?k__comes_to_head ?a_BadTree___init__ ?i_BadTree___init__ ?l_BadTree___init__ ?c_BadTree___init__ ?k_BadTree___init__ ?a_Tree___init__ ?i_Tree___init__ ?l_Tree___init__ ?c_Tree___init__ ?k_Tree___init__ ?a_is_block ?l_is_block ?c_is_block ?k_is_block ?a_is_place ?l_is_place ?c_is_place ?k_is_place ?a_place_of ?l_place_of ?c_place_of ?k_place_of ?a_parents ?l_parents ?c_parents ?k_parents ?a_beneath ?l_beneath ?c_beneath ?k_beneath ?a_moved ?l_moved ?c_moved ?k_moved ?a_Words___init__ ?i_Words___init__ ?l_Words___init__ ?c_Words___init__ ?k_Words___init__ ?a__is_tuple_of ?l__is_tuple_of ?c__is_tuple_of ?k__is_tuple_of ?a__is_up ?l__is_up ?c__is_up ?k__is_up ?a__is_listing ?l__is_listing ?c__is_listing ?k__is_listing ?a_words_of ?l_words_of ?c_words_of ?k_words_of ?a_words_of_ups ?l_words_of_ups ?c_words_of_ups ?k_words_of_ups ?a_costs ?l_costs ?c_costs ?k_costs ?a_cost ?l_cost ?c_cost ?k_cost ?a_wrong_words ?l_wrong_words ?c_wrong_words ?k_wrong_words ?a_votes ?l_votes ?c_votes ?k_votes ?a__vote ?l__vote ?c__vote ?k__vote ?a__law_tape ?l__law_tape ?c__law_tape ?k__law_tape ?a__law_pick ?l__law_pick ?c__law_pick ?k__law_pick ?a__law_any ?l__law_any ?c__law_any ?k__law_any ?a__law_mixed ?l__law_mixed ?c__law_mixed ?k__law_mixed ?a__law_is_int ?l__law_is_int ?c__law_is_int ?k__law_is_int ?a__law_same ?l__law_same ?c__law_same ?k__law_same ?a__law_hung ?l__law_hung ?c__law_hung ?k__law_hung ?a__law_right_words ?l__law_right_words ?c__law_right_words ?k__law_right_words ?a__law_drawn_words ?l__law_drawn_words ?c__law_drawn_words ?k__law_drawn_words ?a__law_cost ?l__law_cost ?c__law_cost ?k__law_cost ?a__law_all_costs ?l__law_all_costs ?c__law_all_costs ?k__law_all_costs ?a__law_is_beneath ?l__law_is_beneath ?c__law_is_beneath ?k__law_is_beneath ?a__law_moves ?l__law_moves ?c__law_moves ?k__law_moves ?a__law_sum ?l__law_sum ?c__law_sum ?k__law_sum ?a__law_costs_right ?l__law_costs_right ?c__law_costs_right ?k__law_costs_right ?a_law ?l_law ?c_law ?k_law ?pgTree ?hdTree ?poTree ?saTree ?mkTree ?kcTree ?noTree_hung ?pgWords ?hdWords ?poWords ?saWords ?mkWords ?kcWords ?noWords_blocks ?noWords_ups ?noWords_lists ?haT ?hmT ?icT ?tyT ?spO ?tkO ?xL ?rv ?saB ?exB ?tyB ?kcB ?tiB ?noB ?xU ?rvU ?saU ?exU ?tyU ?kcU ?iU ?tiU ?lU ?cU ?ceU ?coU ?vsU2 ?fiU ?evU ?upU ?meU ?veU ?opU ?tpU
    (case n_VoteError => k_is)
    (case n_BadTree => k_is)
    (case n_NoBlock => k_is)
    (case n_NoPlace => k_is)
    (case n_Beneath => k_is)
    (case n_OtherBlocks => k_is)
    (case n_BadWords => k_is)
    (case n_Tree => k_is)
    (case n_Words => k_is)
    (case n_MOST_BLOCKS => k_is)
    (case z_ValueError => k_is)
    (case z_all => k_is)
    (case z_bool => k_is)
    (case z_enumerate => k_is)
    (case z_int => k_is)
    (case z_isinstance => k_is)
    (case z_len => k_is)
    (case z_list => k_is)
    (case z_min => k_is)
    (case z_range => k_is)
    (case z_sorted => k_is)
    (case z_str => k_is)
    (case z_sum => k_is)
    (case z_super => k_is)
    (case z_tuple => k_is)
    (case z_zip => k_is)
    (case a_is_within => k_is)
    (case l_is_within => k_is)
    (case c_is_within => k_is)
    (case k_is_within => k_is)
    (case a__comes_to_head => k_is)
    (case l__comes_to_head => k_is)
    (case c__comes_to_head => k_is)
    (case k__comes_to_head => k_is)
    (case a_BadTree___init__ => k_is)
    (case i_BadTree___init__ => k_is)
    (case l_BadTree___init__ => k_is)
    (case c_BadTree___init__ => k_is)
    (case k_BadTree___init__ => k_is)
    (case a_Tree___init__ => k_is)
    (case i_Tree___init__ => k_is)
    (case l_Tree___init__ => k_is)
    (case c_Tree___init__ => k_is)
    (case k_Tree___init__ => k_is)
    (case a_is_block => k_is)
    (case l_is_block => k_is)
    (case c_is_block => k_is)
    (case k_is_block => k_is)
    (case a_is_place => k_is)
    (case l_is_place => k_is)
    (case c_is_place => k_is)
    (case k_is_place => k_is)
    (case a_place_of => k_is)
    (case l_place_of => k_is)
    (case c_place_of => k_is)
    (case k_place_of => k_is)
    (case a_parents => k_is)
    (case l_parents => k_is)
    (case c_parents => k_is)
    (case k_parents => k_is)
    (case a_beneath => k_is)
    (case l_beneath => k_is)
    (case c_beneath => k_is)
    (case k_beneath => k_is)
    (case a_moved => k_is)
    (case l_moved => k_is)
    (case c_moved => k_is)
    (case k_moved => k_is)
    (case a_Words___init__ => k_is)
    (case i_Words___init__ => k_is)
    (case l_Words___init__ => k_is)
    (case c_Words___init__ => k_is)
    (case k_Words___init__ => k_is)
    (case a__is_tuple_of => k_is)
    (case l__is_tuple_of => k_is)
    (case c__is_tuple_of => k_is)
    (case k__is_tuple_of => k_is)
    (case a__is_up => k_is)
    (case l__is_up => k_is)
    (case c__is_up => k_is)
    (case k__is_up => k_is)
    (case a__is_listing => k_is)
    (case l__is_listing => k_is)
    (case c__is_listing => k_is)
    (case k__is_listing => k_is)
    (case a_words_of => k_is)
    (case l_words_of => k_is)
    (case c_words_of => k_is)
    (case k_words_of => k_is)
    (case a_words_of_ups => k_is)
    (case l_words_of_ups => k_is)
    (case c_words_of_ups => k_is)
    (case k_words_of_ups => k_is)
    (case a_costs => k_is)
    (case l_costs => k_is)
    (case c_costs => k_is)
    (case k_costs => k_is)
    (case a_cost => k_is)
    (case l_cost => k_is)
    (case c_cost => k_is)
    (case k_cost => k_is)
    (case a_wrong_words => k_is)
    (case l_wrong_words => k_is)
    (case c_wrong_words => k_is)
    (case k_wrong_words => k_is)
    (case a_votes => k_is)
    (case l_votes => k_is)
    (case c_votes => k_is)
    (case k_votes => k_is)
    (case a__vote => k_is)
    (case l__vote => k_is)
    (case c__vote => k_is)
    (case k__vote => k_is)
    (case a__law_tape => k_is)
    (case l__law_tape => k_is)
    (case c__law_tape => k_is)
    (case k__law_tape => k_is)
    (case a__law_pick => k_is)
    (case l__law_pick => k_is)
    (case c__law_pick => k_is)
    (case k__law_pick => k_is)
    (case a__law_any => k_is)
    (case l__law_any => k_is)
    (case c__law_any => k_is)
    (case k__law_any => k_is)
    (case a__law_mixed => k_is)
    (case l__law_mixed => k_is)
    (case c__law_mixed => k_is)
    (case k__law_mixed => k_is)
    (case a__law_is_int => k_is)
    (case l__law_is_int => k_is)
    (case c__law_is_int => k_is)
    (case k__law_is_int => k_is)
    (case a__law_same => k_is)
    (case l__law_same => k_is)
    (case c__law_same => k_is)
    (case k__law_same => k_is)
    (case a__law_hung => k_is)
    (case l__law_hung => k_is)
    (case c__law_hung => k_is)
    (case k__law_hung => k_is)
    (case a__law_right_words => k_is)
    (case l__law_right_words => k_is)
    (case c__law_right_words => k_is)
    (case k__law_right_words => k_is)
    (case a__law_drawn_words => k_is)
    (case l__law_drawn_words => k_is)
    (case c__law_drawn_words => k_is)
    (case k__law_drawn_words => k_is)
    (case a__law_cost => k_is)
    (case l__law_cost => k_is)
    (case c__law_cost => k_is)
    (case k__law_cost => k_is)
    (case a__law_all_costs => k_is)
    (case l__law_all_costs => k_is)
    (case c__law_all_costs => k_is)
    (case k__law_all_costs => k_is)
    (case a__law_is_beneath => k_is)
    (case l__law_is_beneath => k_is)
    (case c__law_is_beneath => k_is)
    (case k__law_is_beneath => k_is)
    (case a__law_moves => k_is)
    (case l__law_moves => k_is)
    (case c__law_moves => k_is)
    (case k__law_moves => k_is)
    (case a__law_sum => k_is)
    (case l__law_sum => k_is)
    (case c__law_sum => k_is)
    (case k__law_sum => k_is)
    (case a__law_costs_right => k_is)
    (case l__law_costs_right => k_is)
    (case c__law_costs_right => k_is)
    (case k__law_costs_right => k_is)
    (case a_law => k_is)
    (case l_law => k_is)
    (case c_law => k_is)
    (case k_law => k_is)
    (case pgTree => k_is)
    (case hdTree => k_is)
    (case poTree => k_is)
    (case saTree => k_is)
    (case mkTree => k_is)
    (case kcTree => k_is)
    (case noTree_hung => k_is)
    (case pgWords => k_is)
    (case hdWords => k_is)
    (case poWords => k_is)
    (case saWords => k_is)
    (case mkWords => k_is)
    (case kcWords => k_is)
    (case noWords_blocks => k_is)
    (case noWords_ups => k_is)
    (case noWords_lists => k_is)
    (case haT => k_is)
    (case hmT => k_is)
    (case icT => k_is)
    (case tyT => k_is)
    (case spO => k_is)
    (case tkO => k_is)
    (case xL => k_is)
    (case rv => decide +kernel)
    (case saB => k_is)
    (case exB => k_is)
    (case tyB => k_is)
    (case kcB => k_is)
    (case tiB => k_is)
    (case noB => k_is)
    (case xU => k_is)
    (case rvU => decide +kernel)
    (case saU => k_is)
    (case exU => k_is)
    (case tyU => k_is)
    (case kcU => k_is)
    (case iU => k_is)
    (case tiU => k_is)
    (case lU => k_is)
    (case cU => k_is)
    (case ceU => k_is)
    (case coU => k_is)
    (case vsU2 => rfl)
    (case fiU => first | rfl | decide +kernel)
    (case evU => exact fun _ _ _ _ _ => ⟨_, rfl⟩)
    (case upU => ks_is)
    (case meU => k_is)
    (case veU => k_is)
    (case opU => k_is)
    (case tpU => first | rfl | decide +kernel)
