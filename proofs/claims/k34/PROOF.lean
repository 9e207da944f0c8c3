import PyProof.Rows.All
import Wide.All
import OpenK.AllK
import Wide.FinOn
import HandS.Base
import HandS.Call
import HandS.List
import HandS.Comp
import HandS.Ends
import HandS.Words
import HandS.Codes
import HandS.IsInst
import HandS.Flow
import HandS.Conv
import HandS.Iter
import KE.GoesEnum
import KE.GoesEnumKw
import KE.GoesMore
import HandS.Exc
import HandS.ExcOwn
import HandS.ExcInit
import HandS.TryOnly
import HandS.WordsExc
import KE.KExcIs
import HandS.ExcField
import HandS.ExcIs
import HandS.TupMul
import HandS.Sort
import KE.KExcSuper
import HandS.Small
import PyProof.TupleOfSeq
import HandS.TupAny
import HandS.Star
import HandS.SetFor
import PyProof.EqKinds
import PyProof.InstNe
import OpenK.KOwn
import KE.KIndexOf
import HandS.SortRule
import HandS.Zip
import HandS.Dict
import HandS.Style
import KE.KRevSl
import KE.KEqDict
import HandS.SuiteRaise
import HandS.RaiseFrom
import HandS.ExcInitHot
import KE.KTryMore
import PySem.Challenge.RW_foldervotes_k34_histories_judged
import KE.OsRunLaw
set_option Elab.async false
set_option linter.all false
set_option maxRecDepth 100000
set_option maxHeartbeats 4000000
namespace Fv
open PySem PySem.Spec PyProof.Rows L2
section
variable {K : PySem.W.Frag} {σ : L2.St} {H H' H1 H2 : Hp} {i : Nat} {v x y : V} {Q : VK} {D : Ends} {t u : TS} {te ta tb : TE} {tt tt2 : TT} {a b p q : Addr} {o o' : HO} {xs ys : List V}
theorem x_seq (h : t { D with nx := u D } σ H) : tSeq t u D σ H := h
theorem x_next (h : D.nx σ H) : tNext D σ H := h
theorem x_drop (h : te σ H fun _ H1 => D.nx σ H1) : tDrop te D σ H := h
theorem x_ret (h : te σ H D.rt) : tRet te D σ H := h
theorem x_retN (h : D.rt .non H) : tRetN D σ H := h
theorem x_ifs (h : tt σ H fun b H1 => if b = true then t D σ H1 else u D σ H1) : tIfS tt t u D σ H := h
theorem x_asg {g : TG} (h : te σ H fun x H1 => g x σ H1 D.nx) : tAsg te g D σ H := h
theorem x_gname {R : L2.St → Hp → Prop} (h : R (σ.set i (some v)) H) : gName i v σ H R := h
theorem x_gsub {to ti : TE} {s : TSet} {R : L2.St → Hp → Prop} (h : to σ H fun o H1 => ti σ H1 fun i H2 => s o i v H2 fun H3 => R σ H3) : gSub to ti s v σ H R := h
theorem x_gtup {n : Nat} {g : TGs} {R : L2.St → Hp → Prop} (h : SqT K H a xs) (hl : xs.length = n) (q : g xs σ H R) : gTup K n g (.ref a) σ H R := ⟨a, xs, rfl, h, hl, q⟩
theorem x_gcons {g : TG} {gs : TGs} {R : L2.St → Hp → Prop} (h : g x σ H fun σ' H' => gs xs σ' H' R) : gCons g gs (x :: xs) σ H R := ⟨x, xs, rfl, h⟩
theorem x_gnil {R : L2.St → Hp → Prop} (h : R σ H) : gNil [] σ H R := ⟨rfl, h⟩
theorem x_var (h : σ[i]? = some (some v)) (q : Q v H) : tVar i σ H Q := ⟨v, h, q⟩
theorem x_c (q : Q v H) : tC v σ H Q := q
theorem x_op {r : R2} (h : ta σ H fun x H1 => tb σ H1 fun y H2 => r x y H2 Q) : tOp r ta tb σ H Q := h
theorem x_un {r : V → Hp → VK → Prop} (h : ta σ H fun x H1 => r x H1 Q) : tUn r ta σ H Q := h
theorem x_i0 {g : Int → Int → V} {i j : Int} (q : Q (g i j) H) : rI0 g (.int i) (.int j) H Q := ⟨i, j, rfl, rfl, q⟩
theorem x_i {C : Int → Int → Prop} {g : Int → Int → V} {i j : Int} (c : C i j) (q : Q (g i j) H) : rI C g (.int i) (.int j) H Q := ⟨i, j, rfl, rfl, c, q⟩
theorem x_u {g : Int → V} {i : Int} (q : Q (g i) H) : rU g (.int i) H Q := ⟨i, rfl, q⟩
theorem x_eq (h : scal x y = true) (q : Q (.bl (decide (x = y))) H) : rEq x y H Q := ⟨h, q⟩
theorem x_ne (h : scal x y = true) (q : Q (.bl (!decide (x = y))) H) : rNe x y H Q := ⟨h, q⟩
theorem x_eqI {i j : Int} (q : Q (.bl (decide (i = j))) H) : rEq (.int i) (.int j) H Q := ⟨rfl, by
  have e : decide (V.int i = V.int j) = decide (i = j) := by
    rw [Bool.eq_iff_iff]
    simp
  rw [e]
  exact q⟩
theorem x_neI {i j : Int} (q : Q (.bl (decide (i ≠ j))) H) : rNe (.int i) (.int j) H Q := ⟨rfl, by
  have e : (!decide (V.int i = V.int j)) = decide (i ≠ j) := by
    rw [Bool.eq_iff_iff]
    simp
  rw [e]
  exact q⟩
theorem x_ixL {i : Int} (h : SqL K H p xs) (ha : atI xs i = some v) (q : Q v H) : rIxL K (.ref p) (.int i) H Q := ⟨p, xs, i, v, rfl, rfl, h, ha, q⟩
theorem x_ixT {i : Int} (h : SqT K H p xs) (ha : atI xs i = some v) (q : Q v H) : rIxT K (.ref p) (.int i) H Q := ⟨p, xs, i, v, rfl, rfl, h, ha, q⟩
theorem x_setL {i : Int} {j : Nat} {R : Hp → Prop} (h : H p = some (.lst xs)) (hi : ixN xs.length i = some j) (q : R (upd H p (.lst (xs.set j v)))) : rSetL (.ref p) (.int i) v H R := ⟨p, xs, i, j, rfl, rfl, h, hi, q⟩
theorem x_test {R : Bool → Hp → Prop} (h : te σ H fun x H' => ∃ k, x = .bl k ∧ R k H') : tTest te σ H R := h
theorem x_b {R : Bool → Hp → Prop} (h : te σ H fun x H1 => ∃ c, x = .bl c ∧ R c H1) : tB te σ H R := h
theorem x_isb {c : Bool} {R : Bool → Prop} (h : R c) : ∃ k, V.bl c = .bl k ∧ R k := ⟨c, rfl, h⟩
theorem x_isi {c : Int} {R : Int → Prop} (h : R c) : ∃ k, V.int c = .int k ∧ R k := ⟨c, rfl, h⟩
theorem x_and {R : Bool → Hp → Prop} (h : tt σ H fun c H1 => if c = true then tt2 σ H1 R else R false H1) : tAnd tt tt2 σ H R := h
theorem x_or {R : Bool → Hp → Prop} (h : tt σ H fun c H1 => if c = true then R true H1 else tt2 σ H1 R) : tOr tt tt2 σ H R := h
theorem x_not {R : Bool → Hp → Prop} (h : tt σ H fun c H1 => R (!c) H1) : tNot tt σ H R := h
theorem x_andV (h : ta σ H fun x H1 => ∃ c, x = .bl c ∧ if c = true then tb σ H1 Q else Q (.bl false) H1) : tAndV ta tb σ H Q := h
theorem x_orV (h : ta σ H fun x H1 => ∃ c, x = .bl c ∧ if c = true then Q (.bl true) H1 else tb σ H1 Q) : tOrV ta tb σ H Q := h
theorem x_notV (h : ta σ H fun x H1 => ∃ c, x = .bl c ∧ Q (.bl (!c)) H1) : tNotV ta σ H Q := h
theorem x_ifx (h : tt σ H fun c H1 => if c = true then ta σ H1 Q else tb σ H1 Q) : tIf tt ta tb σ H Q := h
theorem x_nil {R : List V → Hp → Prop} (q : R [] H) : tNil σ H R := q
theorem x_cons {tr : TA} {R : List V → Hp → Prop} (h : te σ H fun x H1 => tr σ H1 fun xs H2 => R (x :: xs) H2) : tCons te tr σ H R := h
theorem x_cb {r : List V → Hp → VK → Prop} {ts : TA} (h : ts σ H fun vs H1 => r vs H1 Q) : tCB r ts σ H Q := h
theorem x_call {sp : Sp} {dvs : List V} {E : XK} {ts : TA} (h : ts σ H fun vs H1 => sp (vs ++ dvs) H1 Q E) : tCall sp dvs E ts σ H Q := h
theorem x_lst {ts : TA} (h : ts σ H fun xs H1 => xs.length ≤ sizeLine ∧ ∀ p, H1 p = none → Q (.ref p) (upd H1 p (.lst xs))) : tLst ts σ H Q := h
theorem x_tup {ts : TA} (h : ts σ H fun xs H1 => xs.length ≤ sizeLine ∧ ∀ p, H1 p = none → Q (.ref p) (upd H1 p (.tup xs))) : tTup ts σ H Q := h
theorem x_sl {r : V → Option Int → Option Int → Hp → VK → Prop} {tl th : TO} (h : te σ H fun x H1 => tl σ H1 fun l H2 => th σ H2 fun u H3 => r x l u H3 Q) : tSl r te tl th σ H Q := h
theorem x_nopart {R : Option Int → Hp → Prop} (h : R none H) : tNoPart σ H R := h
theorem x_part {R : Option Int → Hp → Prop} (h : te σ H fun x H1 => ∃ i, x = .int i ∧ R (some i) H1) : tPart te σ H R := h
theorem x_slL {lo hi : Option Int} (h : SqL K H a xs) (q : ∀ p, H p = none → Q (.ref p) (upd H p (.lst (cutV xs lo hi)))) : rSlL K (.ref a) lo hi H Q := ⟨a, xs, rfl, h, q⟩
theorem x_bm {T : String} {r : V → List V → Hp → VK → Prop} {ts : TA} (h : te σ H fun x H1 => tyV K T x H1 ∧ ts σ H1 fun xs H2 => r x xs H2 Q) : tBM K T r te ts σ H Q := h
theorem x_bm0 {T : String} {r : V → List V → Hp → VK → Prop} (h : te σ H fun x H1 => tyV K T x H1 ∧ r x [] H1 Q) : tBM0 K T r te σ H Q := h
theorem x_append (h : H p = some (.lst xs)) (hl : xs.length < sizeLine) (q : Q .non (upd H p (.lst (xs ++ [v])))) : rAppend (.ref p) [v] H Q := ⟨p, xs, v, rfl, rfl, h, hl, q⟩
theorem x_fld {C dx : Addr} {fs : List (Str × V)} {f : Str} (h : te σ H fun x H1 => ∃ a C dx fs v, x = .ref a ∧ H1 a = some (.ins C dx fs) ∧ Cls K C ∧ NoAttr K C f ∧ fs.lookup f = some v ∧ Q v H1) : tFld K te f σ H Q := h
theorem x_par {j : Nat} {ts : TA} (h : ts σ H fun vs H1 => ∃ v w, vs = [v, w] ∧ D.nx ((σ.set i (some v)).set j (some w)) H1) : tPar i j ts D σ H := h
theorem x_par2 {R : V → V → Prop} (h : R x y) : ∃ v w, [x, y] = [v, w] ∧ R v w := ⟨x, y, rfl, h⟩
theorem x_chain {r r' : R2} {tc : TE} (h : ta σ H fun x H1 => tb σ H1 fun y H2 => r x y H2 fun z H3 => ∃ k, z = .bl k ∧ (if k = true then tc σ H3 fun w' H4 => r' y w' H4 Q else Q (.bl false) H3)) : tChain r r' ta tb tc σ H Q := h
theorem x_aug {ti : TIp} (h : σ[i]? = some (some x)) (q : te σ H fun y H1 => ti x y H1 fun z H2 => D.nx (σ.set i (some z)) H2) : tAug i te ti D σ H := ⟨x, h, q⟩
theorem x_ipI {f : Int → Int → Int} {i j : Int} (q : Q (.int (f i j)) H) : ipI f (.int i) (.int j) H Q := ⟨i, j, rfl, rfl, q⟩
theorem x_ilist {R : It → Hp → Prop} {tl : TE} (h : tl σ H fun x H1 => ∃ a, x = .ref a ∧ (∃ xs, SqL K H1 a xs) ∧ R (Itl K a) H1) : iList K tl σ H R := h
theorem x_itup {R : It → Hp → Prop} {tl : TE} (h : tl σ H fun x H1 => ∃ a, x = .ref a ∧ (∃ xs, SqT K H1 a xs) ∧ R (Itt K a) H1) : iTup K tl σ H R := h
theorem x_isseq {A : List V → Prop} {R : Addr → Prop} (h : A xs) (q : R a) : ∃ b, V.ref a = .ref b ∧ (∃ xs, A xs) ∧ R b := ⟨a, rfl, ⟨xs, h⟩, q⟩
theorem x_rng1 {R : It → Hp → Prop} {ts : TA} (h : ts σ H fun vs H1 => ∃ j : Int, vs = [.int j] ∧ -(2 ^ 62) ≤ j ∧ j < 2 ^ 62 ∧ R (Itr 0 j.toNat) H1) : iRng1 ts σ H R := h
theorem x_rng2 {R : It → Hp → Prop} {ts : TA} (h : ts σ H fun vs H1 => ∃ i j : Int, vs = [.int i, .int j] ∧ (-(2 ^ 62) ≤ i ∧ i < 2 ^ 62 ∧ -(2 ^ 62) ≤ j ∧ j < 2 ^ 62) ∧ R (Itr i (j - i).toNat) H1) : iRng2 ts σ H R := h
theorem x_is1 {j : Int} {P1 P2 : Int → Prop} {R : Int → Prop} (h1 : P1 j) (h2 : P2 j) (q : R j) : ∃ k : Int, [V.int j] = [.int k] ∧ P1 k ∧ P2 k ∧ R k := ⟨j, rfl, h1, h2, q⟩
theorem x_is2 {i j : Int} {P1 : Int → Int → Prop} {R : Int → Int → Prop} (h1 : P1 i j) (q : R i j) : ∃ k l : Int, [V.int i, V.int j] = [.int k, .int l] ∧ P1 k l ∧ R k l := ⟨i, j, rfl, h1, q⟩
theorem x_yes {R : Bool → Hp → Prop} (h : R true H) : tYes σ H R := h
def rLen (K : PySem.W.Frag) : List V → Hp → VK → Prop := fun xs H Q => ∃ p ys, xs = [.ref p] ∧ (SqL K H p ys ∨ SqT K H p ys) ∧ Q (.int ys.length) H
def rInt : List V → Hp → VK → Prop := fun xs H Q => (∃ i, xs = [.int i] ∧ Q (.int i) H) ∨ ∃ k, xs = [.bl k] ∧ Q (.int (if k then 1 else 0)) H
def rAbs : List V → Hp → VK → Prop := fun xs H Q => ∃ i, xs = [.int i] ∧ Q (.int (if i < 0 then -i else i)) H
def rListOf (K : PySem.W.Frag) : List V → Hp → VK → Prop := fun xs H Q => ∃ p ys, xs = [.ref p] ∧ (SqL K H p ys ∨ SqT K H p ys) ∧ ∀ l, H l = none → Q (.ref l) (upd H l (.lst ys))
def rTupOf (K : PySem.W.Frag) : List V → Hp → VK → Prop := fun xs H Q => ∃ p ys, xs = [.ref p] ∧ ((SqL K H p ys ∧ ∀ l, H l = none → Q (.ref l) (upd H l (.tup ys))) ∨ (SqT K H p ys ∧ Q (.ref p) H))
theorem call_len {X : Cx} : CallR X (.builtin "len") (rLen X.K) := call_len_seq
theorem call_int {X : Cx} : CallR X (.type "int") rInt := call_int1
theorem call_ab {X : Cx} : CallR X (.builtin "abs") rAbs := call_abs
theorem call_lst {X : Cx} : CallR X (.type "list") (rListOf X.K) := call_list_of
theorem call_tpl {X : Cx} : CallR X (.type "tuple") (rTupOf X.K) := call_tuple_of
theorem x_lenL (h : SqL K H p xs) (q : Q (.int xs.length) H) : rLen K [.ref p] H Q := ⟨p, xs, rfl, .inl h, q⟩
theorem x_lenT (h : SqT K H p xs) (q : Q (.int xs.length) H) : rLen K [.ref p] H Q := ⟨p, xs, rfl, .inr h, q⟩
theorem x_int1 {j : Int} (q : Q (.int j) H) : rInt [.int j] H Q := .inl ⟨j, rfl, q⟩
theorem x_abs {j : Int} (q : Q (.int (if j < 0 then -j else j)) H) : rAbs [.int j] H Q := ⟨j, rfl, q⟩
theorem x_listL (h : SqL K H p xs) (q : ∀ l, H l = none → Q (.ref l) (upd H l (.lst xs))) : rListOf K [.ref p] H Q := ⟨p, xs, rfl, .inl h, q⟩
theorem x_listT (h : SqT K H p xs) (q : ∀ l, H l = none → Q (.ref l) (upd H l (.lst xs))) : rListOf K [.ref p] H Q := ⟨p, xs, rfl, .inr h, q⟩
theorem x_tupL (h : SqL K H p xs) (q : ∀ l, H l = none → Q (.ref l) (upd H l (.tup xs))) : rTupOf K [.ref p] H Q := ⟨p, xs, rfl, .inl ⟨h, q⟩⟩
theorem x_tupT (h : SqT K H p xs) (q : Q (.ref p) H) : rTupOf K [.ref p] H Q := ⟨p, xs, rfl, .inr ⟨h, q⟩⟩
theorem x_isd {c : Prop} [Decidable c] {A B : Prop} (h1 : c → A) (h2 : ¬ c → B) : if decide c = true then A else B := by
  by_cases h : c
  · rw [if_pos (decide_eq_true h)]
    exact h1 h
  · rw [if_neg (by rw [decide_eq_false h]; exact Bool.false_ne_true)]
    exact h2 h
theorem x_isdT {c : Prop} [Decidable c] {A B : Prop} (h : c) (h1 : A) : if decide c = true then A else B := x_isd (fun _ => h1) fun n => (n h).elim
theorem x_isdF {c : Prop} [Decidable c] {A B : Prop} (h : ¬ c) (h1 : B) : if decide c = true then A else B := x_isd (fun n => (h n).elim) fun _ => h1
theorem x_nF {A B : Prop} (h : A) : if (!false) = true then A else B := iteT h
theorem x_nT {A B : Prop} (h : B) : if (!true) = true then A else B := iteF h
theorem lp_range {g : TG} {tb : TS} {nx : L2.St → Hp → Prop} {rt : VK} {σ : L2.St} {H : Hp} {lo : Int} {n : Nat} (Pv : Nat → L2.St → Hp → Prop) (h0 : Pv 0 σ H) (hs : ∀ i σ H, i < n → Pv i σ H → g (.int (lo + i)) σ H fun σ2 H2 => tb { nx := Pv (i + 1), rt := rt, bk := nx, ct := Pv (i + 1) } σ2 H2) (hd : ∀ σ H, Pv n σ H → nx σ H) :
    ∃ W : Nat → Nat → L2.St → Hp → Prop, (∃ m, W 0 m σ H) ∧ ∀ i m σ H, W i m σ H → ((Itr lo n).stop i H ∧ nx σ H) ∨ ((Itr lo n).go i H ∧ ∃ N : L2.St → Hp → Prop, (∀ σ' H', N σ' H' → ∃ m', m' < m ∧ W (i + 1) m' σ' H') ∧ ∀ x H', (Itr lo n).yld i H x H' → g x σ H' fun σ2 H2 => tb { nx := N, rt := rt, bk := nx, ct := N } σ2 H2) :=
  for_range (D := { nx := nx, rt := rt}) Pv h0 hs hd
theorem lp_list {g : TG} {tb : TS} {nx : L2.St → Hp → Prop} {rt : VK} {σ : L2.St} {H : Hp} {K : PySem.W.Frag} {a : Addr} {xs : List V} (Pv : Nat → L2.St → Hp → Prop) (h0 : Pv 0 σ H) (hl : ∀ i σ H, i ≤ xs.length → Pv i σ H → SqL K H a xs) (hs : ∀ i x σ H, xs[i]? = some x → Pv i σ H → g x σ H fun σ2 H2 => tb { nx := Pv (i + 1), rt := rt, bk := nx, ct := Pv (i + 1) } σ2 H2) (hd : ∀ σ H, Pv xs.length σ H → nx σ H) :
    ∃ W : Nat → Nat → L2.St → Hp → Prop, (∃ m, W 0 m σ H) ∧ ∀ i m σ H, W i m σ H → ((Itl K a).stop i H ∧ nx σ H) ∨ ((Itl K a).go i H ∧ ∃ N : L2.St → Hp → Prop, (∀ σ' H', N σ' H' → ∃ m', m' < m ∧ W (i + 1) m' σ' H') ∧ ∀ x H', (Itl K a).yld i H x H' → g x σ H' fun σ2 H2 => tb { nx := N, rt := rt, bk := nx, ct := N } σ2 H2) :=
  for_list (D := { nx := nx, rt := rt}) Pv h0 hl hs hd
theorem lp_tup {g : TG} {tb : TS} {nx : L2.St → Hp → Prop} {rt : VK} {σ : L2.St} {H : Hp} {K : PySem.W.Frag} {a : Addr} {xs : List V} (Pv : Nat → L2.St → Hp → Prop) (h0 : Pv 0 σ H) (hl : ∀ i σ H, i ≤ xs.length → Pv i σ H → SqT K H a xs) (hs : ∀ i x σ H, xs[i]? = some x → Pv i σ H → g x σ H fun σ2 H2 => tb { nx := Pv (i + 1), rt := rt, bk := nx, ct := Pv (i + 1) } σ2 H2) (hd : ∀ σ H, Pv xs.length σ H → nx σ H) :
    ∃ W : Nat → Nat → L2.St → Hp → Prop, (∃ m, W 0 m σ H) ∧ ∀ i m σ H, W i m σ H → ((Itt K a).stop i H ∧ nx σ H) ∨ ((Itt K a).go i H ∧ ∃ N : L2.St → Hp → Prop, (∀ σ' H', N σ' H' → ∃ m', m' < m ∧ W (i + 1) m' σ' H') ∧ ∀ x H', (Itt K a).yld i H x H' → g x σ H' fun σ2 H2 => tb { nx := N, rt := rt, bk := nx, ct := N } σ2 H2) :=
  for_tup (D := { nx := nx, rt := rt}) Pv h0 hl hs hd
/-! heaps -/
theorem keepN (h : H a = some o) (hp : H p = none) : upd H p o' a = some o := by
  rw [upd_ne (ne_of_none h hp)]
  exact h
theorem keepM (n : a ≠ p) (h : H a = some o) : upd H p o' a = some o := by
  rw [upd_ne n]
  exact h
theorem keepLM (n : a ≠ p) (h : SqL K H a xs) : SqL K (upd H p o') a xs := by
  rcases h with (h | ⟨u, h⟩) | h
  · exact .inl (.inl (keepM n h))
  · exact .inl (.inr ⟨u, keepM n h⟩)
  · exact .inr h
theorem keepLN (h : SqL K H a xs) (hp : H p = none) : SqL K (upd H p o') a xs := by
  rcases h with (h | ⟨u, h⟩) | h
  · exact .inl (.inl (keepN h hp))
  · exact .inl (.inr ⟨u, keepN h hp⟩)
  · exact .inr h
theorem keepTM (n : a ≠ p) (h : SqT K H a xs) : SqT K (upd H p o') a xs := by
  rcases h with (h | ⟨u, h⟩) | h
  · exact .inl (.inl (keepM n h))
  · exact .inl (.inr ⟨u, keepM n h⟩)
  · exact .inr h
theorem keepTN (h : SqT K H a xs) (hp : H p = none) : SqT K (upd H p o') a xs := by
  rcases h with (h | ⟨u, h⟩) | h
  · exact .inl (.inl (keepN h hp))
  · exact .inl (.inr ⟨u, keepN h hp⟩)
  · exact .inr h
theorem _root_.L2.Same.seqT {K : PySem.W.Frag} {H H' : Hp} {a : Addr} {xs : List V} (e : Same H H') (h : SqT K H a xs) : SqT K H' a xs := by
  rcases h with (h | ⟨o, h⟩) | h
  · exact .inl (.inl (e _ _ h))
  · exact .inl (.inr ⟨o, e _ _ h⟩)
  · exact .inr h
theorem same_new (s : Same H H1) (hp : H1 p = none) : Same H (upd H1 p o) := fun b u e => keepN (s b u e) hp
theorem same_mut (s : Same H H1) (hp : H p = none) : Same H (upd H1 p o) := fun b u e => keepM (ne_of_none e hp) (s b u e)
/-- all but what stands at p is as it was -/
def But (p : Addr) (H H' : Hp) : Prop := ∀ b o, b ≠ p → H b = some o → H' b = some o
theorem But.refl (p : Addr) (H : Hp) : But p H H := fun _ _ _ h => h
theorem But.trans (a : But p H H1) (b : But p H1 H2) : But p H H2 := fun c o n h => b c o n (a c o n h)
theorem But.of (s : Same H H1) : But p H H1 := fun b o _ h => s b o h
theorem But.new (s : But p H H1) (hq : H1 q = none) : But p H (upd H1 q o) := fun b u n e => keepN (s b u n e) hq
theorem But.mut (s : But p H H1) : But p H (upd H1 p o) := fun b u n e => keepM n (s b u n e)
theorem But.mutF (s : But p H H1) (hq : H q = none) : But p H (upd H1 q o) := fun b u n e => keepM (ne_of_none e hq) (s b u n e)
theorem But.seq (s : But p H H1) (n : a ≠ p) (h : SqL K H a xs) : SqL K H1 a xs := by
  rcases h with (h | ⟨o, h⟩) | h
  · exact .inl (.inl (s _ _ n h))
  · exact .inl (.inr ⟨o, s _ _ n h⟩)
  · exact .inr h
theorem But.seqT (s : But p H H1) (n : a ≠ p) (h : SqT K H a xs) : SqT K H1 a xs := by
  rcases h with (h | ⟨o, h⟩) | h
  · exact .inl (.inl (s _ _ n h))
  · exact .inl (.inr ⟨o, s _ _ n h⟩)
  · exact .inr h
theorem But.same (s : But p H H1) (hp : H p = none) : Same H H1 := fun b o e => s b o (ne_of_none e hp) e
end
theorem same_trans {H H1 H2 : Hp} (b : Same H1 H2) (a : Same H H1) : Same H H2 := Same.trans a b
theorem but_trans {H H1 H2 : Hp} {p : Addr} (b : But p H1 H2) (a : But p H H1) : But p H H2 := But.trans a b
theorem ne_none' {H : Hp} {a b : Addr} {o : HO} (h' : H b = none) (h : H a = some o) : b ≠ a := Ne.symm (ne_of_none h h')
theorem cut1 (xs : List V) : cutV xs (some 1) none = xs.drop 1 := by
  unfold cutV
  rw [show HT.sIx xs.length 0 (some 1) = min 1 xs.length from HT.sIx_nat xs.length 0 1, HT.sIx_none]
  cases xs with
  | nil => rfl
  | cons x r =>
    rw [show min 1 (x :: r).length = 1 by
      rw [List.length_cons]
      omega]
    show (List.take ((x :: r).length - 1) r) = r
    rw [List.length_cons, Nat.add_sub_cancel]
    exact List.take_length
theorem at_mod {xs : List V} {z : Int} (h : 0 < xs.length) : ∃ v, atI xs (z % (xs.length : Int)) = some v ∧ v ∈ xs := by
  have h1 : 0 ≤ z % (xs.length : Int) := Int.emod_nonneg _ (by omega)
  have h2 : z % (xs.length : Int) < xs.length := Int.emod_lt_of_pos _ (by omega)
  obtain ⟨j, hj⟩ := Int.eq_ofNat_of_zero_le h1
  have hl : j < xs.length := by omega
  refine ⟨xs[j], ?_, List.getElem_mem hl⟩
  rw [hj]
  exact atI_nat (List.getElem?_eq_getElem hl)
theorem at_lt {xs : List V} {d : Int} (h1 : 0 ≤ d) (h2 : d < xs.length) : ∃ v, atI xs d = some v ∧ v ∈ xs := by
  obtain ⟨j, hj⟩ := Int.eq_ofNat_of_zero_le h1
  have hl : j < xs.length := by omega
  refine ⟨xs[j], ?_, List.getElem_mem hl⟩
  rw [hj]
  exact atI_nat (List.getElem?_eq_getElem hl)
/-- a def that is called by its name -/
structure Cal (K : PySem.W.Frag) (mg : Str → Option Value) (x : Str) (f : Addr) (fd : FuncData) (ps : List Str) : Prop where
  g : mg x = some (.ref f)
  k : PySem.W.keepIn K (.ref f) = true
  b : Binds K fd ps []
theorem szLe {n : Nat} (h : n ≤ 100000) : n ≤ sizeLine := Nat.le_trans h (by decide)
theorem szLt {n : Nat} (h : n < 100000) : n < sizeLine := Nat.lt_of_lt_of_le h (by decide)
end Fv
set_option maxRecDepth 100000
set_option maxHeartbeats 1000000
namespace Fv
open PySem PySem.Spec L2
/-- a value of a kind that is known -/
def Kn (H : Hp) : V → Prop
  | .non => True
  | .bl _ => True
  | .int _ => True
  | .str _ => True
  | .ref a => (∃ xs, H a = some (.lst xs)) ∨ (∃ xs, H a = some (.tup xs)) ∨ ∃ kvs, H a = some (.dK kvs)
  | _ => False
theorem Kn.same {H H' : Hp} {x : V} (s : Same H H') (h : Kn H x) : Kn H' x := by
  cases x with
  | ref a =>
    rcases h with ⟨xs, h⟩ | ⟨xs, h⟩ | ⟨xs, h⟩
    · exact .inl ⟨xs, s _ _ h⟩
    · exact .inr (.inl ⟨xs, s _ _ h⟩)
    · exact .inr (.inr ⟨xs, s _ _ h⟩)
  | _ => exact h
theorem Kn.but {H H' : Hp} {p : Addr} {x : V} (s : But p H H') (hp : x ≠ .ref p) (h : Kn H x) : Kn H' x := by
  cases x with
  | ref a =>
    have n : a ≠ p := fun e => hp (by rw [e])
    rcases h with ⟨xs, h⟩ | ⟨xs, h⟩ | ⟨xs, h⟩
    · exact .inl ⟨xs, s _ _ n h⟩
    · exact .inr (.inl ⟨xs, s _ _ n h⟩)
    · exact .inr (.inr ⟨xs, s _ _ n h⟩)
  | _ => exact h
def isIntV : V → Bool
  | .int _ => true
  | .bl _ => true
  | _ => false
def isBlV : V → Bool
  | .bl _ => true
  | _ => false
def numV (lo hi : Int) : V → Bool
  | .int i => decide (lo ≤ i) && decide (i ≤ hi)
  | _ => false
theorem numT {lo hi i : Int} (c : lo ≤ i) : numV lo hi (.int i) = decide (i ≤ hi) := by
  show (decide (lo ≤ i) && decide (i ≤ hi)) = _
  rw [decide_eq_true c]
  rfl
theorem numF {lo hi i : Int} (c : ¬ lo ≤ i) : numV lo hi (.int i) = false := by
  show (decide (lo ≤ i) && decide (i ≤ hi)) = _
  rw [decide_eq_false c]
  rfl
section
variable {K : PySem.W.Frag} {σ : L2.St} {H H' H1 H2 : Hp} {i : Nat} {v x y : V} {Q : VK} {a b p q : Addr} {o o' : HO} {xs ys : List V}
theorem x_isK {T : String} {t : String} {b : Bool} (ty : TyX K H x (.type t)) (e : kitB t T = some b) (q : Q (.bl b) H) : rIsi K [x, .ty T] H Q := ⟨x, .ty T, .type t, .type T, b, rfl, .ty T, ty, kit_ty e, q⟩
theorem x_isInt (h : Kn H x) (q : Q (.bl (isIntV x)) H) : rIsi K [x, .ty "int"] H Q := by
  cases x with
  | non => exact x_isK (b := false) (.base .non) (by decide +kernel) q
  | bl b => exact x_isK (b := true) (.base (.bl b)) (by decide +kernel) q
  | int i => exact x_isK (b := true) (.base (.int i)) (by decide +kernel) q
  | str i => exact x_isK (b := false) (.base (.str i)) (by decide +kernel) q
  | byt b => exact h.elim
  | flt b => exact h.elim
  | ty b => exact h.elim
  | ref a =>
    rcases h with ⟨xs, h⟩ | ⟨xs, h⟩ | ⟨xs, h⟩
    · exact x_isK (b := false) (.base (.lst h)) (by decide +kernel) q
    · exact x_isK (b := false) (.base (.tup h)) (by decide +kernel) q
    · exact x_isK (b := false) (.base (.dK h)) (by decide +kernel) q
theorem x_isBl (h : Kn H x) (q : Q (.bl (isBlV x)) H) : rIsi K [x, .ty "bool"] H Q := by
  cases x with
  | non => exact x_isK (b := false) (.base .non) (by decide +kernel) q
  | bl b => exact x_isK (b := true) (.base (.bl b)) (by decide +kernel) q
  | int i => exact x_isK (b := false) (.base (.int i)) (by decide +kernel) q
  | str i => exact x_isK (b := false) (.base (.str i)) (by decide +kernel) q
  | byt b => exact h.elim
  | flt b => exact h.elim
  | ty b => exact h.elim
  | ref a =>
    rcases h with ⟨xs, h⟩ | ⟨xs, h⟩ | ⟨xs, h⟩
    · exact x_isK (b := false) (.base (.lst h)) (by decide +kernel) q
    · exact x_isK (b := false) (.base (.tup h)) (by decide +kernel) q
    · exact x_isK (b := false) (.base (.dK h)) (by decide +kernel) q
/-- isinstance(x, (T1, T2)), the pair just laid -/
theorem x_isiT2 {T1 T2 t : String} {b1 b2 : Bool} (hp : H p = some (.tup [.ty T1, .ty T2])) (ty : TyX K H x (.type t)) (e1 : kitB t T1 = some b1) (e2 : kitB t T2 = some b2) (q : Q (.bl (b1 || b2)) H) : rIsiT K [x, .ref p] H Q := by
  refine ⟨x, p, [.ty T1, .ty T2], .type t, [.type T1, .type T2], b1 || b2, rfl, hp, .cons (.ty _) (.cons (.ty _) .nil), ty, ?_, q⟩
  cases b1 with
  | true => exact kitAny_cons (kit_ty e1) (fun h => nomatch h) (fun _ => rfl)
  | false =>
    refine kitAny_cons (kit_ty e1) (fun _ => ?_) (fun h => nomatch h)
    cases b2 with
    | true => exact kitAny_cons (kit_ty e2) (fun h => nomatch h) (fun _ => rfl)
    | false => exact kitAny_cons (kit_ty e2) (fun _ => kitAny_nil) (fun h => nomatch h)
end
section
variable {K : PySem.W.Frag} {H : Hp} {Q : VK} {a : Addr} {xs : List V}
theorem isi_non_int (q : Q (.bl false) H) : rIsi K [.non, .ty "int"] H Q := x_isK (b := false) (.base .non) (by decide +kernel) q
theorem isi_non_bool (q : Q (.bl false) H) : rIsi K [.non, .ty "bool"] H Q := x_isK (b := false) (.base .non) (by decide +kernel) q
theorem isi_non_tuple (q : Q (.bl false) H) : rIsi K [.non, .ty "tuple"] H Q := x_isK (b := false) (.base .non) (by decide +kernel) q
theorem isi_non_list (q : Q (.bl false) H) : rIsi K [.non, .ty "list"] H Q := x_isK (b := false) (.base .non) (by decide +kernel) q
theorem isi_non_dict (q : Q (.bl false) H) : rIsi K [.non, .ty "dict"] H Q := x_isK (b := false) (.base .non) (by decide +kernel) q
theorem isi_non_str (q : Q (.bl false) H) : rIsi K [.non, .ty "str"] H Q := x_isK (b := false) (.base .non) (by decide +kernel) q
theorem isi_bl_int {c : Bool} (q : Q (.bl true) H) : rIsi K [.bl c, .ty "int"] H Q := x_isK (b := true) (.base (.bl c)) (by decide +kernel) q
theorem isi_bl_bool {c : Bool} (q : Q (.bl true) H) : rIsi K [.bl c, .ty "bool"] H Q := x_isK (b := true) (.base (.bl c)) (by decide +kernel) q
theorem isi_bl_tuple {c : Bool} (q : Q (.bl false) H) : rIsi K [.bl c, .ty "tuple"] H Q := x_isK (b := false) (.base (.bl c)) (by decide +kernel) q
theorem isi_bl_list {c : Bool} (q : Q (.bl false) H) : rIsi K [.bl c, .ty "list"] H Q := x_isK (b := false) (.base (.bl c)) (by decide +kernel) q
theorem isi_bl_dict {c : Bool} (q : Q (.bl false) H) : rIsi K [.bl c, .ty "dict"] H Q := x_isK (b := false) (.base (.bl c)) (by decide +kernel) q
theorem isi_bl_str {c : Bool} (q : Q (.bl false) H) : rIsi K [.bl c, .ty "str"] H Q := x_isK (b := false) (.base (.bl c)) (by decide +kernel) q
theorem isi_int_int {j : Int} (q : Q (.bl true) H) : rIsi K [.int j, .ty "int"] H Q := x_isK (b := true) (.base (.int j)) (by decide +kernel) q
theorem isi_int_bool {j : Int} (q : Q (.bl false) H) : rIsi K [.int j, .ty "bool"] H Q := x_isK (b := false) (.base (.int j)) (by decide +kernel) q
theorem isi_int_tuple {j : Int} (q : Q (.bl false) H) : rIsi K [.int j, .ty "tuple"] H Q := x_isK (b := false) (.base (.int j)) (by decide +kernel) q
theorem isi_int_list {j : Int} (q : Q (.bl false) H) : rIsi K [.int j, .ty "list"] H Q := x_isK (b := false) (.base (.int j)) (by decide +kernel) q
theorem isi_int_dict {j : Int} (q : Q (.bl false) H) : rIsi K [.int j, .ty "dict"] H Q := x_isK (b := false) (.base (.int j)) (by decide +kernel) q
theorem isi_int_str {j : Int} (q : Q (.bl false) H) : rIsi K [.int j, .ty "str"] H Q := x_isK (b := false) (.base (.int j)) (by decide +kernel) q
theorem isi_str_int {j : Str} (q : Q (.bl false) H) : rIsi K [.str j, .ty "int"] H Q := x_isK (b := false) (.base (.str j)) (by decide +kernel) q
theorem isi_str_bool {j : Str} (q : Q (.bl false) H) : rIsi K [.str j, .ty "bool"] H Q := x_isK (b := false) (.base (.str j)) (by decide +kernel) q
theorem isi_str_tuple {j : Str} (q : Q (.bl false) H) : rIsi K [.str j, .ty "tuple"] H Q := x_isK (b := false) (.base (.str j)) (by decide +kernel) q
theorem isi_str_list {j : Str} (q : Q (.bl false) H) : rIsi K [.str j, .ty "list"] H Q := x_isK (b := false) (.base (.str j)) (by decide +kernel) q
theorem isi_str_dict {j : Str} (q : Q (.bl false) H) : rIsi K [.str j, .ty "dict"] H Q := x_isK (b := false) (.base (.str j)) (by decide +kernel) q
theorem isi_str_str {j : Str} (q : Q (.bl true) H) : rIsi K [.str j, .ty "str"] H Q := x_isK (b := true) (.base (.str j)) (by decide +kernel) q
theorem isi_lst_int (h : H a = some (.lst xs)) (q : Q (.bl false) H) : rIsi K [.ref a, .ty "int"] H Q := x_isK (b := false) (.base (.lst h)) (by decide +kernel) q
theorem isi_lst_bool (h : H a = some (.lst xs)) (q : Q (.bl false) H) : rIsi K [.ref a, .ty "bool"] H Q := x_isK (b := false) (.base (.lst h)) (by decide +kernel) q
theorem isi_lst_tuple (h : H a = some (.lst xs)) (q : Q (.bl false) H) : rIsi K [.ref a, .ty "tuple"] H Q := x_isK (b := false) (.base (.lst h)) (by decide +kernel) q
theorem isi_lst_list (h : H a = some (.lst xs)) (q : Q (.bl true) H) : rIsi K [.ref a, .ty "list"] H Q := x_isK (b := true) (.base (.lst h)) (by decide +kernel) q
theorem isi_lst_dict (h : H a = some (.lst xs)) (q : Q (.bl false) H) : rIsi K [.ref a, .ty "dict"] H Q := x_isK (b := false) (.base (.lst h)) (by decide +kernel) q
theorem isi_lst_str (h : H a = some (.lst xs)) (q : Q (.bl false) H) : rIsi K [.ref a, .ty "str"] H Q := x_isK (b := false) (.base (.lst h)) (by decide +kernel) q
theorem isi_tup_int (h : H a = some (.tup xs)) (q : Q (.bl false) H) : rIsi K [.ref a, .ty "int"] H Q := x_isK (b := false) (.base (.tup h)) (by decide +kernel) q
theorem isi_tup_bool (h : H a = some (.tup xs)) (q : Q (.bl false) H) : rIsi K [.ref a, .ty "bool"] H Q := x_isK (b := false) (.base (.tup h)) (by decide +kernel) q
theorem isi_tup_tuple (h : H a = some (.tup xs)) (q : Q (.bl true) H) : rIsi K [.ref a, .ty "tuple"] H Q := x_isK (b := true) (.base (.tup h)) (by decide +kernel) q
theorem isi_tup_list (h : H a = some (.tup xs)) (q : Q (.bl false) H) : rIsi K [.ref a, .ty "list"] H Q := x_isK (b := false) (.base (.tup h)) (by decide +kernel) q
theorem isi_tup_dict (h : H a = some (.tup xs)) (q : Q (.bl false) H) : rIsi K [.ref a, .ty "dict"] H Q := x_isK (b := false) (.base (.tup h)) (by decide +kernel) q
theorem isi_tup_str (h : H a = some (.tup xs)) (q : Q (.bl false) H) : rIsi K [.ref a, .ty "str"] H Q := x_isK (b := false) (.base (.tup h)) (by decide +kernel) q
theorem isi_dK_int {kvs : List (Key × V)} (h : H a = some (.dK kvs)) (q : Q (.bl false) H) : rIsi K [.ref a, .ty "int"] H Q := x_isK (b := false) (.base (.dK h)) (by decide +kernel) q
theorem isi_dK_bool {kvs : List (Key × V)} (h : H a = some (.dK kvs)) (q : Q (.bl false) H) : rIsi K [.ref a, .ty "bool"] H Q := x_isK (b := false) (.base (.dK h)) (by decide +kernel) q
theorem isi_dK_tuple {kvs : List (Key × V)} (h : H a = some (.dK kvs)) (q : Q (.bl false) H) : rIsi K [.ref a, .ty "tuple"] H Q := x_isK (b := false) (.base (.dK h)) (by decide +kernel) q
theorem isi_dK_list {kvs : List (Key × V)} (h : H a = some (.dK kvs)) (q : Q (.bl false) H) : rIsi K [.ref a, .ty "list"] H Q := x_isK (b := false) (.base (.dK h)) (by decide +kernel) q
theorem isi_dK_dict {kvs : List (Key × V)} (h : H a = some (.dK kvs)) (q : Q (.bl true) H) : rIsi K [.ref a, .ty "dict"] H Q := x_isK (b := true) (.base (.dK h)) (by decide +kernel) q
theorem isi_dK_str {kvs : List (Key × V)} (h : H a = some (.dK kvs)) (q : Q (.bl false) H) : rIsi K [.ref a, .ty "str"] H Q := x_isK (b := false) (.base (.dK h)) (by decide +kernel) q
end
section
variable {K : PySem.W.Frag} {σ : L2.St} {H H' H1 H2 : Hp} {i : Nat} {v x y : V} {Q : VK} {a b p q : Addr} {o o' : HO} {xs ys : List V}
theorem x_isiTn {T1 T2 t : String} (hp : H p = some (.tup [.ty T1, .ty T2])) (ty : TyX K H x (.type t)) (e1 : kitB t T1 = some false) (e2 : kitB t T2 = some false) (q : Q (.bl false) H) : rIsiT K [x, .ref p] H Q := x_isiT2 hp ty e1 e2 q
theorem x_isiT1 {T1 T2 t : String} (hp : H p = some (.tup [.ty T1, .ty T2])) (ty : TyX K H x (.type t)) (e1 : kitB t T1 = some true) (e2 : kitB t T2 = some false) (q : Q (.bl true) H) : rIsiT K [x, .ref p] H Q := x_isiT2 hp ty e1 e2 q
theorem x_isiTb {T1 T2 t : String} (hp : H p = some (.tup [.ty T1, .ty T2])) (ty : TyX K H x (.type t)) (e1 : kitB t T1 = some false) (e2 : kitB t T2 = some true) (q : Q (.bl true) H) : rIsiT K [x, .ref p] H Q := x_isiT2 hp ty e1 e2 q
def sca : V → Bool
  | .non => true
  | .bl _ => true
  | .int _ => true
  | .str _ => true
  | _ => false
/-- two values that are the same through and through, at most so deep -/
def Al (K : PySem.W.Frag) (H : Hp) : Nat → V → V → Prop
  | 0, x, y => x = y ∧ sca x = true
  | n + 1, x, y => (x = y ∧ sca x = true) ∨
      (∃ (a b : Addr) (xs ys : List V), x = .ref a ∧ y = .ref b ∧ H a = some (.lst xs) ∧ H b = some (.lst ys) ∧ xs.length = ys.length ∧ ys.length ≤ 1000 ∧ ∀ i (h1 : i < xs.length) (h2 : i < ys.length), Al K H n xs[i] ys[i]) ∨
      (∃ (a b : Addr) (xs ys : List V), x = .ref a ∧ y = .ref b ∧ H a = some (.tup xs) ∧ H b = some (.tup ys) ∧ xs.length = ys.length ∧ ys.length ≤ 1000 ∧ ∀ i (h1 : i < xs.length) (h2 : i < ys.length), Al K H n xs[i] ys[i])
theorem Al.same : ∀ {n : Nat} {x y : V}, Same H H' → Al K H n x y → Al K H' n x y
  | 0, _, _, _, h => h
  | n + 1, x, y, s, h => by
    rcases h with h | ⟨a, b, xs, ys, e1, e2, h1, h2, hl, hz, h⟩ | ⟨a, b, xs, ys, e1, e2, h1, h2, hl, hz, h⟩
    · exact .inl h
    · exact .inr (.inl ⟨a, b, xs, ys, e1, e2, s _ _ h1, s _ _ h2, hl, hz, fun i k1 k2 => (h i k1 k2).same s⟩)
    · exact .inr (.inr ⟨a, b, xs, ys, e1, e2, s _ _ h1, s _ _ h2, hl, hz, fun i k1 k2 => (h i k1 k2).same s⟩)
theorem Al.up {n : Nat} (h : Al K H n x y) : Al K H (n + 1) x y := by
  induction n generalizing x y with
  | zero => exact .inl h
  | succ n ih =>
    rcases h with h | ⟨a, b, xs, ys, e1, e2, h1, h2, hl, hz, h⟩ | ⟨a, b, xs, ys, e1, e2, h1, h2, hl, hz, h⟩
    · exact .inl h
    · exact .inr (.inl ⟨a, b, xs, ys, e1, e2, h1, h2, hl, hz, fun i k1 k2 => ih (h i k1 k2)⟩)
    · exact .inr (.inr ⟨a, b, xs, ys, e1, e2, h1, h2, hl, hz, fun i k1 k2 => ih (h i k1 k2)⟩)
theorem Al.le {n m : Nat} (hm : n ≤ m) (h : Al K H n x y) : Al K H m x y := by
  induction hm with
  | refl => exact h
  | step _ ih => exact ih.up
theorem Al.sca {n : Nat} (hx : Fv.sca x = true) : Al K H n x x := by
  cases n with
  | zero => exact ⟨rfl, hx⟩
  | succ n => exact .inl ⟨rfl, hx⟩
theorem Al.tups {n : Nat} {zs : List V} (ha : H a = some (.tup zs)) (hb : H b = some (.tup zs)) (hz : zs.length ≤ 1000) (h : ∀ z ∈ zs, Fv.sca z = true) : Al K H (n + 1) (.ref a) (.ref b) :=
  .inr (.inr ⟨a, b, zs, zs, rfl, rfl, ha, hb, rfl, hz, fun i h1 h2 => Al.sca (h _ (List.getElem_mem h1))⟩)
theorem Al.lsts {n : Nat} {zs : List V} (ha : H a = some (.lst zs)) (hb : H b = some (.lst zs)) (hz : zs.length ≤ 1000) (h : ∀ z ∈ zs, Fv.sca z = true) : Al K H (n + 1) (.ref a) (.ref b) :=
  .inr (.inl ⟨a, b, zs, zs, rfl, rfl, ha, hb, rfl, hz, fun i h1 h2 => Al.sca (h _ (List.getElem_mem h1))⟩)
theorem Al.lst1 {n : Nat} (ha : H a = some (.lst [x])) (hb : H b = some (.lst [y])) (h : Al K H n x y) : Al K H (n + 1) (.ref a) (.ref b) :=
  .inr (.inl ⟨a, b, [x], [y], rfl, rfl, ha, hb, rfl, (by show _ + 1 ≤ 1000; simp), fun i h1 h2 => by
    cases i with
    | zero => exact h
    | succ i => exact absurd h1 (by show ¬ i + 1 < 1; omega)⟩)
theorem Al.tup1 {n : Nat} (ha : H a = some (.tup [x])) (hb : H b = some (.tup [y])) (h : Al K H n x y) : Al K H (n + 1) (.ref a) (.ref b) :=
  .inr (.inr ⟨a, b, [x], [y], rfl, rfl, ha, hb, rfl, (by show _ + 1 ≤ 1000; simp), fun i h1 h2 => by
    cases i with
    | zero => exact h
    | succ i => exact absurd h1 (by show ¬ i + 1 < 1; omega)⟩)
theorem Al.lst2 {n : Nat} {x2 y2 : V} (ha : H a = some (.lst [x, x2])) (hb : H b = some (.lst [y, y2])) (h : Al K H n x y) (h2 : Al K H n x2 y2) : Al K H (n + 1) (.ref a) (.ref b) :=
  .inr (.inl ⟨a, b, [x, x2], [y, y2], rfl, rfl, ha, hb, rfl, (by show _ + 1 ≤ 1000; simp), fun i k1 k2 => by
    match i, k1 with
    | 0, _ => exact h
    | 1, _ => exact h2
    | i + 2, k1 => exact absurd k1 (by show ¬ i + 2 < 2; omega)⟩)
end
section
variable {X : Cx} {K : PySem.W.Frag}
theorem ix_listK (e : X.K = K) : IxR X (rIxL K) := by
  subst e
  exact ix_list
theorem ix_tupK (e : X.K = K) : IxR X (rIxT K) := by
  subst e
  exact ix_tup
theorem call_lenK (e : X.K = K) : CallR X (.builtin "len") (rLen K) := by
  subst e
  exact call_len
theorem call_lstK (e : X.K = K) : CallR X (.type "list") (rListOf K) := by
  subst e
  exact call_lst
theorem call_tplK (e : X.K = K) : CallR X (.type "tuple") (rTupOf K) := by
  subst e
  exact call_tpl
theorem call_isiK' (e : X.K = K) : CallR X (.builtin "isinstance") (rIsi K) := by
  subst e
  exact call_isi
theorem call_isiTK (e : X.K = K) : CallR X (.builtin "isinstance") (rIsiT K) := by
  subst e
  exact call_isiT
theorem sl_listK (e : X.K = K) : SlR X (rSlL K) := by
  subst e
  exact sl_list
theorem op_inK (e : X.K = K) : OpR X (compareOp .In) (rIn K false) := by
  subst e
  exact op_in_seq
theorem op_notInK (e : X.K = K) : OpR X (compareOp .NotIn) (rIn K true) := by
  subst e
  exact op_notIn_seq
theorem op_eqDK (e : X.K = K) (hu : X.A.units + 64 < cLine) : OpR X (compareOp .Eq) (rEqD K) := by
  subst e
  exact op_eqD hu
theorem op_neDK (e : X.K = K) (hu : X.A.units + 64 < cLine) : OpR X (compareOp .NotEq) (rNeD K) := by
  subst e
  exact op_neD hu
theorem cr_allK (e : X.K = K) (hc : X.calm = true) : CallR X (.builtin "all") (rAll K) := by
  subst e
  exact cr_all hc
section
variable {o e value : Expr} {f : Str} {pos apos cpos : Pos} {ta to : TE} {es : List Expr} {t : TA} {name : Str} {T id : String} {r : V → List V → Hp → VK → Prop}
theorem pe_fldK (k : X.K = K) (he : PE X e ta) (hb : attributeBase e f X.env (eval e X.env) = eval e X.env) : PE X (.Attribute e f pos) (tFld K ta f) := by
  subst k
  exact pe_fld he hb
theorem pe_bm0K (k : X.K = K) (pa : PlainAttrs T) (slot : Slot T name id) (hty : typeOf (.builtin id) = pure (.type "method_descriptor")) (hm : MtR X id r) (ho : PE X o to)
    (h1 : attributeBase o name X.env (eval o X.env) = eval o X.env := by rfl) (h2 : (apos.endLine == cpos.line) = true := by rfl) : PE X (.Call (.Attribute o name apos) [] [] cpos) (tBM0 K T r to) := by
  subst k
  exact pe_bm0 pa slot hty hm ho h1 h2
theorem pe_bmK (k : X.K = K) (pa : PlainAttrs T) (slot : Slot T name id) (hty : typeOf (.builtin id) = pure (.type "method_descriptor")) (hm : MtR X id r) (ho : PE X o to) (ha : PA X [e] t)
    (h1 : attributeBase o name X.env (eval o X.env) = eval o X.env := by rfl)
    (h2 : ((backTo cpos (starEach [e] X.env)).all (fun x => !x.1) && (backToKw cpos (keywordEach [] X.env)).all (fun x => x.1.isSome) && decide ([e].length + ([] : List Keyword).length + (if ([] : List Keyword).isEmpty then 0 else 1) < 30)) = true := by rfl)
    (h3 : (apos.endLine == cpos.line) = true := by rfl) (h4 : starEach [e] X.env = (false, eval e X.env) :: starEach [] X.env := by rfl) (h5 : (backTo cpos (starEach [] X.env)).any (·.1) = false := by rfl) :
    PE X (.Call (.Attribute o name apos) [e] [] cpos) (tBM K T r to t) := by
  subst k
  exact pe_bm pa slot hty hm ho ha h1 h2 h3 h4 h5
end
end
def rIsNk : R2 := fun x y H Q => y = .non ∧ Q (.bl (decide (x = .non))) H
def rNotNk : R2 := fun x y H Q => y = .non ∧ Q (.bl (!decide (x = .non))) H
section
variable {X : Cx} {K : PySem.W.Frag} {H : Hp} {Q : VK} {x v : V} {p : Addr} {i : Int} {xs : List V}
theorem op_isNk : OpR X (compareOp .Is) rIsNk := op_isN
theorem op_notNk : OpR X (compareOp .IsNot) rNotNk := op_notN
theorem x_isN0 (q : Q (.bl true) H) : rIsNk .non .non H Q := ⟨rfl, q⟩
theorem x_isN1 {b : Bool} (q : Q (.bl false) H) : rIsNk (.bl b) .non H Q := ⟨rfl, q⟩
theorem x_isN2 {b : Int} (q : Q (.bl false) H) : rIsNk (.int b) .non H Q := ⟨rfl, q⟩
theorem x_isN3 {b : Str} (q : Q (.bl false) H) : rIsNk (.str b) .non H Q := ⟨rfl, q⟩
theorem x_isN4 {b : Addr} (q : Q (.bl false) H) : rIsNk (.ref b) .non H Q := ⟨rfl, q⟩
theorem x_notN0 (q : Q (.bl false) H) : rNotNk .non .non H Q := ⟨rfl, q⟩
theorem x_notN1 {b : Bool} (q : Q (.bl true) H) : rNotNk (.bl b) .non H Q := ⟨rfl, q⟩
theorem x_notN2 {b : Int} (q : Q (.bl true) H) : rNotNk (.int b) .non H Q := ⟨rfl, q⟩
theorem x_notN3 {b : Str} (q : Q (.bl true) H) : rNotNk (.str b) .non H Q := ⟨rfl, q⟩
theorem x_notN4 {b : Addr} (q : Q (.bl true) H) : rNotNk (.ref b) .non H Q := ⟨rfl, q⟩
theorem ix_seqK (e : X.K = K) : IxR X (rIx K) := by
  subst e
  exact ix_seq
theorem x_ixSL (h : SqL K H p xs) (ha : atI xs i = some v) (q : Q v H) : rIx K (.ref p) (.int i) H Q := .inl (x_ixL h ha q)
theorem x_ixST (h : SqT K H p xs) (ha : atI xs i = some v) (q : Q v H) : rIx K (.ref p) (.int i) H Q := .inr (.inl (x_ixT h ha q))
theorem x_eqB {b c : Bool} (q : Q (.bl (decide (b = c))) H) : rEq (.bl b) (.bl c) H Q := ⟨rfl, by
  have e : decide (V.bl b = V.bl c) = decide (b = c) := by
    rw [Bool.eq_iff_iff]
    simp
  rw [e]
  exact q⟩
theorem x_neB {b c : Bool} (q : Q (.bl (decide (b ≠ c))) H) : rNe (.bl b) (.bl c) H Q := ⟨rfl, by
  have e : (!decide (V.bl b = V.bl c)) = decide (b ≠ c) := by
    rw [Bool.eq_iff_iff]
    simp
  rw [e]
  exact q⟩
theorem x_eqS {b c : Str} (q : Q (.bl (decide (b = c))) H) : rEq (.str b) (.str c) H Q := ⟨rfl, by
  have e : decide (V.str b = V.str c) = decide (b = c) := by
    rw [Bool.eq_iff_iff]
    simp
  rw [e]
  exact q⟩
end
def nats (l : List Nat) : List V := l.map fun (n : Nat) => V.int (Int.ofNat n)
theorem nats_length (l : List Nat) : (nats l).length = l.length := List.length_map ..
theorem nats_get {l : List Nat} {i x : Nat} (h : l[i]? = some x) : (nats l)[i]? = some (.int x) := by
  unfold nats
  rw [List.getElem?_map, h]
  rfl
theorem nats_at {l : List Nat} {i x : Nat} (h : l[i]? = some x) : atI (nats l) (i : Int) = some (.int x) := atI_nat (nats_get h)
theorem nats_append (l m : List Nat) : nats (l ++ m) = nats l ++ nats m := List.map_append ..
theorem nats_set (l : List Nat) (i x : Nat) : (nats l).set i (.int x) = nats (l.set i x) := by
  unfold nats
  rw [List.map_set]
  rfl
theorem nats_erase : ∀ (l : List Nat) (i : Nat), (nats l).eraseIdx i = nats (l.eraseIdx i)
  | [], _ => rfl
  | _ :: _, 0 => rfl
  | a :: l, i + 1 => by
    show V.int a :: (nats l).eraseIdx i = V.int a :: nats (l.eraseIdx i)
    rw [nats_erase l i]
theorem nats_sca {l : List Nat} : ∀ z ∈ nats l, sca z = true := fun z hz => by
  obtain ⟨n, _, rfl⟩ := List.mem_map.mp hz
  rfl
theorem ixN_nat {n k : Nat} (h : k < n) : ixN n (k : Int) = some k := by
  unfold ixN
  rw [if_pos (by omega), if_pos (by omega)]
  rfl
theorem rgV_nats (n : Nat) : rgV 1 ((n : Int) + 1) = nats (List.range' 1 n) := by
  unfold rgV nats
  rw [List.range'_eq_map_range, List.map_map, show ((n : Int) + 1 - 1).toNat = n by omega]
  refine List.map_congr_left fun i _ => ?_
  show V.int (1 + (i : Int)) = V.int ((1 + i : Nat) : Int)
  rw [Int.natCast_add]
  rfl
section
variable {K : PySem.W.Frag} {σ : L2.St} {H : Hp} {Q : VK} {a p : Addr} {xs : List V} {ta tb : TE}
theorem x_listRg1 (h : ta σ H fun x H1 => ∃ n, x = .int n ∧ (RgOk 0 n ∧ ∀ q, H1 q = none → Q (.ref q) (upd H1 q (.lst (rgV 0 n))))) : tLstRg (tRg1 ta) σ H Q := h
theorem x_listRg2 (h : ta σ H fun x H1 => tb σ H1 fun y H2 => ∃ i j, x = .int i ∧ y = .int j ∧ (RgOk i j ∧ ∀ q, H2 q = none → Q (.ref q) (upd H2 q (.lst (rgV i j))))) : tLstRg (tRg2 ta tb) σ H Q := h
theorem x_tupRg1 (h : ta σ H fun x H1 => ∃ n, x = .int n ∧ (RgOk 0 n ∧ ∀ q, H1 q = none → Q (.ref q) (upd H1 q (.tup (rgV 0 n))))) : tTupRg (tRg1 ta) σ H Q := h
theorem x_ij {i j : Int} {R : Int → Int → Prop} (h : R i j) : ∃ k l, V.int i = .int k ∧ V.int j = .int l ∧ R k l := ⟨i, j, rfl, rfl, h⟩
theorem x_tyL {R : Prop} (h : SqL K H a xs) (q : R) : tyV K "list" (.ref a) H ∧ R := ⟨.inl ⟨rfl, _, h⟩, q⟩
theorem x_popAt {i : Int} {k : Nat} {y : V} (h : H p = some (.lst xs)) (h1 : -(2 ^ 63) ≤ i) (h2 : i < 2 ^ 63) (hi : ixN xs.length i = some k) (hy : xs[k]? = some y) (q : Q y (upd H p (.lst (xs.eraseIdx k)))) : rPopAt (.ref p) [.int i] H Q := ⟨p, xs, i, k, y, rfl, rfl, h, h1, h2, (ixN_seq hi).1, hy, q⟩
end
/-! the head alone is opened -/
theorem x_for {wi : TI} {g : TG} {tb : TS} {D : Ends} {σ : L2.St} {H : Hp} (h : wi σ H fun J H1 => ∃ W : Nat → Nat → L2.St → Hp → Prop, (∃ m, W 0 m σ H1) ∧ ∀ i m σ H, W i m σ H →
  (J.stop i H ∧ D.nx σ H) ∨ (J.go i H ∧ ∃ N : L2.St → Hp → Prop, (∀ σ' H', N σ' H' → ∃ m', m' < m ∧ W (i + 1) m' σ' H') ∧ ∀ x H', J.yld i H x H' → g x σ H' fun σ2 H2 => tb { nx := N, rt := D.rt, bk := D.nx, ct := N } σ2 H2)) : tFor wi g tb D σ H := h
theorem x_while {c : TT} {tb : TS} {D : Ends} {σ : L2.St} {H : Hp} (h : ∃ W : Nat → L2.St → Hp → Prop, (∃ m, W m σ H) ∧ ∀ m σ H, W m σ H →
  c σ H fun b H1 => if b = true then ∃ N : L2.St → Hp → Prop, (∀ σ' H', N σ' H' → ∃ m', m' < m ∧ W m' σ' H') ∧ tb { nx := N, rt := D.rt, bk := D.nx, ct := N } σ H1 else D.nx σ H1) : tWhile c tb D σ H := h
theorem x_lc {wi : TI} {g : TG} {tt : TT} {te : TE} {vs : List Nat} {σ : L2.St} {H : Hp} {Q : VK} (h : wi σ H fun J H1 => ∀ D, H1 D = none → ∃ W : Nat → Nat → Hp → Prop, (∃ m, W 0 m (upd H1 D (.lst []))) ∧ ∀ i m H, W i m H →
  (J.stop i H ∧ Q (.ref D) H) ∨ (J.go i H ∧ ∃ Nx : Hp → Prop, (∀ H', Nx H' → ∃ m', m' < m ∧ W (i + 1) m' H') ∧ ∀ x H', J.yld i H x H' → g x (wipe σ vs) H' fun σ2 H2 => wipe σ2 vs = wipe σ vs ∧ tt σ2 H2 fun b H3 =>
    if b = true then te σ2 H3 fun y H4 => ∃ acc, H4 D = some (.lst acc) ∧ acc.length < sizeLine ∧ Nx (upd H4 D (.lst (acc ++ [y]))) else Nx H3)) : tLc wi g tt te vs σ H Q := h
theorem x_lc2 {wi : TI} {g : TG} {tt : TT} {wi1 : TI} {g1 : TG} {tt1 : TT} {te : TE} {vs vs1 : List Nat} {σ : L2.St} {H : Hp} {Q : VK} (h : wi σ H fun J H1 => ∀ D, H1 D = none → ∃ W : Nat → Nat → Hp → Prop, (∃ m, W 0 m (upd H1 D (.lst []))) ∧ ∀ i m H, W i m H →
  (J.stop i H ∧ Q (.ref D) H) ∨ (J.go i H ∧ ∃ Nx : Hp → Prop, (∀ H', Nx H' → ∃ m', m' < m ∧ W (i + 1) m' H') ∧ ∀ x H', J.yld i H x H' → g x (wipe σ vs) H' fun σ2 H2 => wipe σ2 vs = wipe σ vs ∧ tt σ2 H2 fun b H3 =>
    if b = true then wi1 σ2 H3 fun J1 H4 => ∃ W1 : Nat → Nat → Hp → Prop, (∃ m, W1 0 m H4) ∧ ∀ j k H, W1 j k H →
      (J1.stop j H ∧ Nx H) ∨ (J1.go j H ∧ ∃ Nx1 : Hp → Prop, (∀ H', Nx1 H' → ∃ k', k' < k ∧ W1 (j + 1) k' H') ∧ ∀ x H', J1.yld j H x H' → g1 x (wipe σ2 vs1) H' fun σ3 H5 => wipe σ3 vs1 = wipe σ2 vs1 ∧ tt1 σ3 H5 fun b H6 =>
        if b = true then te σ3 H6 fun y H7 => ∃ acc, H7 D = some (.lst acc) ∧ acc.length < sizeLine ∧ Nx1 (upd H7 D (.lst (acc ++ [y]))) else Nx1 H6)
    else Nx H3)) : tLc2 wi g tt wi1 g1 tt1 te vs vs1 σ H Q := h
end Fv
/-! trees as lists of places; nothing of the program here -/
namespace Fv
def up (hs : List Nat) (k : Nat) : Nat := if k = 0 then 0 else hs.getD (k - 1) 0
def upN (hs : List Nat) : Nat → Nat → Nat
  | 0, k => k
  | j + 1, k => upN hs j (up hs k)
structure IsTree (hs : List Nat) : Prop where
  pos : 1 ≤ hs.length
  most : hs.length ≤ 40
  le : ∀ x ∈ hs, x ≤ hs.length
  comes : ∀ k, k ≤ hs.length → upN hs hs.length k = 0
theorem up_zero (hs : List Nat) : up hs 0 = 0 := rfl
theorem upN_zero (hs : List Nat) : ∀ j, upN hs j 0 = 0
  | 0 => rfl
  | j + 1 => by
    show upN hs j (up hs 0) = 0
    rw [up_zero]
    exact upN_zero hs j
theorem upN_add (hs : List Nat) : ∀ i j k, upN hs (i + j) k = upN hs j (upN hs i k)
  | 0, j, k => by
    rw [Nat.zero_add]
    rfl
  | i + 1, j, k => by
    rw [Nat.add_right_comm]
    exact upN_add hs i j (up hs k)
theorem upN_succ (hs : List Nat) (j k : Nat) : upN hs (j + 1) k = up hs (upN hs j k) := upN_add hs j 1 k
theorem upN_more {hs : List Nat} {i j k : Nat} (h : upN hs i k = 0) (hj : i ≤ j) : upN hs j k = 0 := by
  obtain ⟨d, rfl⟩ := Nat.le.dest hj
  rw [upN_add, h]
  exact upN_zero hs d
theorem up_le {hs : List Nat} (h : ∀ x ∈ hs, x ≤ hs.length) (k : Nat) : up hs k ≤ hs.length := by
  unfold up
  split
  · exact Nat.zero_le _
  · rw [List.getD_eq_getElem?_getD]
    cases e : hs[k - 1]? with
    | none => exact Nat.zero_le _
    | some x => exact h x (List.mem_of_getElem? e)
theorem upN_le {hs : List Nat} (h : ∀ x ∈ hs, x ≤ hs.length) : ∀ j k, k ≤ hs.length → upN hs j k ≤ hs.length
  | 0, _, hk => hk
  | j + 1, k, _ => upN_le h j (up hs k) (up_le h k)
theorem up_at {hs : List Nat} {k x : Nat} (hk : k ≠ 0) (h : hs[k - 1]? = some x) : up hs k = x := by
  unfold up
  rw [if_neg hk, List.getD_eq_getElem?_getD, h]
  rfl
/-- what is drawn: the blocks in some order, each under one ahead of it, or the head -/
def Drawn (hs : List Nat) : Prop := ∃ ms : List Nat, ms.Perm (List.range' 1 hs.length) ∧ ∀ (i x : Nat), ms[i]? = some x → ∃ j y : Nat, j ≤ i ∧ (0 :: ms)[j]? = some y ∧ hs[x - 1]? = some y
theorem Drawn.tree {hs : List Nat} (h : Drawn hs) (h1 : 1 ≤ hs.length) (h2 : hs.length ≤ 40) : IsTree hs := by
  obtain ⟨ms, hp, hd⟩ := h
  have hlen : ms.length = hs.length := by rw [hp.length_eq, List.length_range']
  have mem : ∀ x, x ∈ ms ↔ 1 ≤ x ∧ x < 1 + hs.length := fun x => by rw [hp.mem_iff, List.mem_range'_1]
  have key : ∀ i x, ms[i]? = some x → upN hs (i + 1) x = 0 := by
    intro i
    induction i using Nat.strongRecOn with
    | ind i ih =>
      intro x hx
      obtain ⟨j, y, hj, hy, e⟩ := hd i x hx
      have x1 := (mem x).mp (List.mem_of_getElem? hx)
      show upN hs i (up hs x) = 0
      rw [up_at (by omega) e]
      cases j with
      | zero =>
        have e0 : 0 = y := Option.some.inj hy
        rw [← e0]
        exact upN_zero hs i
      | succ j => exact upN_more (ih j (by omega) y hy) (by omega)
  refine ⟨h1, h2, fun x hx => ?_, fun k hk => ?_⟩
  · obtain ⟨p, hp1, e⟩ := List.getElem_of_mem hx
    have hm := (mem (p + 1)).mpr ⟨by omega, by omega⟩
    obtain ⟨i, hi, e2⟩ := List.getElem_of_mem hm
    obtain ⟨j, y, hj, hy, e3⟩ := hd i (p + 1) (by rw [List.getElem?_eq_getElem hi, e2])
    have e4 : hs[p]? = some y := e3
    rw [List.getElem?_eq_getElem hp1, e] at e4
    cases e4
    cases j with
    | zero =>
      have e0 : 0 = x := Option.some.inj hy
      omega
    | succ j =>
      have := (mem x).mp (List.mem_of_getElem? (show ms[j]? = some x from hy))
      omega
  · by_cases h0 : k = 0
    · rw [h0]
      exact upN_zero hs _
    · obtain ⟨i, hi, e2⟩ := List.getElem_of_mem ((mem k).mpr ⟨by omega, by omega⟩)
      exact upN_more (key i k (by rw [List.getElem?_eq_getElem hi, e2])) (by omega)
theorem perm_erase : ∀ {l : List Nat} {i : Nat} {x : Nat}, l[i]? = some x → (x :: l.eraseIdx i).Perm l
  | [], _, _, h => by simp at h
  | a :: l, 0, x, h => by
    have e : a = x := Option.some.inj h
    rw [e]
    exact List.Perm.refl _
  | a :: l, i + 1, x, h => by
    have ih := perm_erase (l := l) (i := i) (x := x) h
    exact (List.Perm.swap a x _).trans (ih.cons a)
/-! whatever leads, the head is come to in as many steps as there are blocks, or never -/
theorem bounded_len : ∀ (n : Nat) (l : List Nat), l.Nodup → (∀ x ∈ l, 1 ≤ x ∧ x ≤ n) → l.length ≤ n
  | 0, l, _, h => by
    cases l with
    | nil => exact Nat.le_refl _
    | cons x r =>
      have := h x List.mem_cons_self
      omega
  | n + 1, l, hn, h => by
    have h1 : (l.erase (n + 1)).length ≤ n := bounded_len n _ (hn.erase _) fun x hx => by
      have hx1 := (List.Nodup.mem_erase_iff hn).mp hx
      have := h x hx1.2
      omega
    by_cases hm : n + 1 ∈ l
    · rw [List.length_erase_of_mem hm] at h1
      omega
    · rw [List.erase_of_not_mem hm] at h1
      omega
theorem comes_by {hs : List Nat} (h : ∀ x ∈ hs, x ≤ hs.length) {j k : Nat} (hk : k ≤ hs.length) (hj : upN hs j k = 0) : upN hs hs.length k = 0 := by
  -- the least such number of steps
  have ex : ∃ d, upN hs d k = 0 ∧ ∀ d', d' < d → upN hs d' k ≠ 0 := by
    induction j using Nat.strongRecOn with
    | ind j ih =>
      by_cases hx : ∃ d, d < j ∧ upN hs d k = 0
      · obtain ⟨d, hd, e⟩ := hx
        exact ih d hd e
      · exact ⟨j, hj, fun d' hd e => hx ⟨d', hd, e⟩⟩
  obtain ⟨d, e, least⟩ := ex
  refine upN_more e ?_
  have hl : ((List.range d).map fun i => upN hs i k).length ≤ hs.length := by
    refine bounded_len hs.length _ ?_ fun x hx => ?_
    · rw [List.nodup_iff_pairwise_ne, List.pairwise_map]
      refine List.Pairwise.imp_of_mem (R := (· < ·)) (fun {a b} ha hb hlt heq => ?_) List.pairwise_lt_range
      rw [List.mem_range] at ha hb
      -- from a equal places one comes to the head as soon from a as from b
      have e1 : upN hs (a + (d - b)) k = 0 := by
        rw [upN_add, heq, ← upN_add, show b + (d - b) = d by omega]
        exact e
      exact least _ (by omega) e1
    · obtain ⟨i, hi, rfl⟩ := List.mem_map.mp hx
      rw [List.mem_range] at hi
      have := least i hi
      have := upN_le h i k hk
      omega
  rw [List.length_map, List.length_range] at hl
  exact hl
end Fv
set_option maxRecDepth 100000
set_option maxHeartbeats 1000000
namespace Fv
open PySem PySem.Spec L2
section
variable {K : PySem.W.Frag} {σ : L2.St} {H : Hp} {Q : VK} {a b p : Addr} {xs ys : List V} {ta tb : TE}
theorem But.freeB {H H1 : Hp} {p q : Addr} (b : But p H H1) (n : q ≠ p) (h : H1 q = none) : H q = none := by
  cases e : H q with
  | none => rfl
  | some o =>
    rw [b q o n e] at h
    cases h
theorem x_cat (h1 : H a = some (.lst xs)) (h2 : H b = some (.lst ys)) (hl : xs.length + ys.length ≤ sizeLine) (q : ∀ p, H p = none → Q (.ref p) (upd H p (.lst (xs ++ ys)))) : rCat (.ref a) (.ref b) H Q := ⟨a, b, xs, ys, rfl, rfl, h1, h2, hl, q⟩
theorem rep_one : ∀ (n : Nat) (v : V), (List.replicate n [v]).flatten = List.replicate n v
  | 0, _ => rfl
  | n + 1, v => by
    rw [List.replicate_succ, List.flatten_cons, rep_one n v, List.replicate_succ]
    rfl
theorem x_rep1 {n : Nat} {v : V} (h1 : H a = some (.lst [v])) (hn : n ≤ 1000) (q : ∀ p, H p = none → Q (.ref p) (upd H p (.lst (List.replicate n v)))) : rRep (.ref a) (.int n) H Q := by
  refine ⟨a, n, [v], rfl, rfl, h1, by omega, by omega, szLe (by show 1 * _ ≤ _; omega), fun p hp => ?_⟩
  rw [show (n : Int).toNat = n from rfl, rep_one]
  exact q p hp
theorem nats_rep (n : Nat) : List.replicate n (V.int 0) = nats (List.replicate n 0) := by
  unfold nats
  rw [List.map_replicate]
  rfl
end
end Fv
set_option maxRecDepth 100000
set_option maxHeartbeats 1000000
namespace Fv
open PySem PySem.Spec L2
/-- enumerate of a tuple from a written number on: each item in a new pair -/
def Itn (K : PySem.W.Frag) (t : Addr) (k : Int) : It where
  go := fun i H => ∃ (xs : List V) (x : V), SqT K H t xs ∧ xs[i]? = some x
  yld := fun i H v H' => ∃ (T : Addr) (x : V), v = .ref T ∧ H T = none ∧ H' = upd H T (.tup [.int (k + (i : Int)), x]) ∧ ∀ xs, SqT K H t xs → xs[i]? = some x
  stop := fun i H => ∃ xs : List V, SqT K H t xs ∧ xs.length = i
theorem isTuple_of {h : Heap} {a : Addr} {its : Array Value} (x : PyProof.Rows.IsTup h a its) : h.IsTuple a its := by
  obtain ⟨o, e, c, n, d⟩ := x
  exact ⟨o, e, c, n, d⟩
theorem turn_enumT {P : Program} {w : World} {K : PySem.W.Frag} {elts : List Expr} {kk : Nat} {tpos : Pos} (k : Int) (t e it : Addr) (nt : t ≠ it) (ne : e ≠ it) (ne' : e ≠ t) :
    Turn P w K (.Tuple elts kk tpos) (Itn K t k) [e, it] e (fun i h => (∃ old, IsEnum h e it (k + (i : Int)) old) ∧ h.IsTupleIter it t i) where
  mem := List.mem_cons_self
  obj := fun i h st b hb => by
    obtain ⟨⟨old, he⟩, ⟨o, ho, hc, hd⟩⟩ := st
    rcases List.mem_cons.mp hb with rfl | hb
    · exact ⟨_, he, fun v q => nomatch q⟩
    · rw [List.mem_singleton.mp hb]
      exact ⟨o, ho, fun v q => by rw [hd] at q; cases q⟩
  keep := fun i h h' st kp => ⟨st.1.elim fun old he => ⟨old, kp e List.mem_cons_self _ he⟩, st.2.at fun o q => kp it (List.mem_cons_of_mem _ List.mem_cons_self) o q⟩
  item := by
    intro X hP hw hK hc i pins s σ H E I hf st hg
    subst hP hw hK
    obtain ⟨xs, x, hq, hx⟩ := hg
    obtain ⟨its, rv, p, hz⟩ := I.tuple hq
    obtain ⟨u, hu, ru⟩ := rv.get hx
    have hil : i < its.length := (List.getElem?_eq_some_iff.mp hu).1
    have W := WalksT.enumFrom (prog := X.prog) (w := X.w) (A := X.A) k (Draws.tuple (prog := X.prog) (w := X.w) (A := X.A.in1) (it := it) (t := t) (show X.A.in1.handled = none from I.ok.hd hc) nt its.toArray) e ne (by simp [ne, ne']) (by simp)
    refine W.item i s _ E (by simpa using hil) ⟨st.1, st.2, isTuple_of p⟩ fun T vals h' tk hP' hT hTup hMid hk => ?_
    refine ⟨_, rfl, W.go elts kk tpos i T _ _ E hMid fun h'' hst' hk' => ?_⟩
    obtain ⟨tk2, y, hy, rfl⟩ := hP'
    have ey : y = u := by
      have e1 : its.toArray[i]? = some u := by simpa using hu
      rw [e1] at hy
      exact (Option.some.inj hy).symm
    subst ey
    have hfp : ∀ b ∈ [e, it], b < s.heap.objs.size := fun b hb => by
      obtain ⟨⟨old, he⟩, ⟨o, ho, _⟩⟩ := st
      rcases List.mem_cons.mp hb with rfl | hb
      · exact Heap.lt_size he
      · rw [List.mem_singleton.mp hb]
        exact Heap.lt_size ho
    have hTn : T ∉ [e, it] := W.apart i T _ hMid
    have hTup2 : h''.IsTuple T #[.int (k + (i : Int)) tk2, y] := by
      obtain ⟨o, e1, c1, n1, d1⟩ := hTup
      exact ⟨o, hk' _ _ hTn e1, c1, n1, d1⟩
    have new : ObjOk X.prog X.w (upd H T (.tup [.int (k + (i : Int)), x])) h'' T (.tup [.int (k + (i : Int)), x]) := by
      obtain ⟨o, e1, c1, n1, d1⟩ := hTup2
      exact ⟨by show 2 ≤ sizeLine; decide, [.int (k + (i : Int)) tk2, y], .cons ⟨_, rfl⟩ (.cons ru .nil), ⟨o, e1, c1, n1, d1⟩⟩
    have I1 : Inv X pins σ (upd H T (.tup [.int (k + (i : Int)), x])) { s with heap := h'', toks := tk } :=
      I.turnedNew (ch := [e, it]) (fun b ob hb q => hk' b ob hb (hk b ob hb q)) hf hT new
    refine ⟨.ref T, _, I1, rfl, ⟨T, x, rfl, I.hok.fresh hT, rfl, fun ys hys => by rw [I.tuple_inj hys hq]; exact hx⟩, ⟨hst'.1, hst'.2.1⟩, fun b hb => ?_⟩
    have hbT : b ≠ T := fun z => absurd (hfp b hb) (by rw [z]; exact Nat.not_lt.mpr hT)
    rw [upd_ne hbT]
    exact (hf b hb).1
  done := by
    intro X hP hw hK hc i pins s σ H E I hf st hg
    subst hP hw hK
    obtain ⟨xs, hq, hx⟩ := hg
    obtain ⟨its, rv, p, hz⟩ := I.tuple hq
    have W := WalksT.enumFrom (prog := X.prog) (w := X.w) (A := X.A) k (Draws.tuple (prog := X.prog) (w := X.w) (A := X.A.in1) (it := it) (t := t) (show X.A.in1.handled = none from I.ok.hd hc) nt its.toArray) e ne (by simp [ne, ne']) (by simp)
    have el : i = its.toArray.size := by
      rw [← hx, Vals.length rv]
      simp
    rw [el] at st
    refine W.done s _ E ⟨st.1, st.2, isTuple_of p⟩ fun h' tk hk => ⟨rfl, ?_⟩
    have nh : ∀ b u, H b = some u → b ∉ [e, it] := fun b u hb z => by
      have q := (hf b z).1
      rw [q] at hb
      cases hb
    refine I.step (g' := s.gens) (d' := s.drawn) (ch := [e, it]) (fun b hb => ⟨(hf b hb).2.2.2.1, (hf b hb).2.1, (hf b hb).2.2.2.2.1, (hf b hb).2.2.2.2.2⟩) (fun b o _ _ hc e _ => hk b o hc e) (fun b o _ _ hc e _ => ⟨o.slots, hk b o hc e⟩)
      (fun _ _ _ _ n => n) (fun b o hc e => ⟨o, hk b o hc e⟩) (fun _ _ q => q) (fun _ _ _ q => q) (fun _ ps q => ⟨#[], by rw [q]; simp⟩) (fun m hm => ?_) (fun b u hb => ?_) I.bare
    · obtain ⟨o, es, ep, ho, r⟩ := hm
      exact ⟨o, es, ep, hk _ o (fun z => (hf _ z).2.1 rfl) ho, r⟩
    · refine (I.hok b u hb).stay (fun c v hc q => hk c v ?_ q) (fun _ q => q) fun _ _ q => q
      rcases hc with z | z
      · rw [z]
        exact nh b u hb
      · exact nh c _ z
  self := fun A i s Q E st h => by
    obtain ⟨⟨old, he⟩, _⟩ := st
    exact wpAny_pyIter_enum he h
/-- enumerate(e, start=k), k written -/
def iEnT (K : PySem.W.Frag) (k : Int) (ta : TA) : TI := fun σ H R => ta σ H fun vs H1 => ∃ (t : Addr) (xs : List V), vs = [.ref t] ∧ SqT K H1 t xs ∧ R (Itn K t k) H1
theorem pi_enumT {X : Cx} {e : Expr} {ta : TA} {p pos tpos kpos kp : Pos} {elts : List Expr} {kk j : Nat} {k : Int} (hc : X.calm = true) (hg : Gl X "enumerate") (hm : X.mg "enumerate" = none) (h0 : -(2 ^ 63) ≤ k) (h1 : k < 2 ^ 63) (ha : PA X [e] ta)
    (hs : starEach [e] X.env = (false, eval e X.env) :: starEach [] X.env := by rfl) :
    PI X (.Tuple elts kk tpos) (.Call (.Name "enumerate" p) [e] [⟨some "start", .Constant (.int k) j kp, kpos⟩] pos) (iEnT X.K k ta) := by
  refine ⟨fun pins s σ H R I h => ?_⟩
  refine wpAny_Call_Name_kw (ld_blt I hg hm (u := .type "enumerate") (by decide +kernel) ?_)
  refine PySem.W.callWith_of (P := fun _ => True) (by rw [hs]; rfl) (fun h _ => ⟨_, .inr (.inl rfl), PySem.W.Looks.of_pure rfl⟩) (PyProof.Rows.evalArgs_kw2 rfl (thn (ha.run pos pins s σ H _ I h) fun us s1 ⟨vs, H1, I1, r1, t, xs, ev, hq, q⟩ => ?_) hs)
  have hkw : PK X [⟨some "start", .Constant (.int k) j kp, kpos⟩] (tCons (tC (.int k)) tNil) := pk_cons pe_int pk_nil
  refine thn (hkw.run pos pins s1 σ H1 (fun zs H2 => zs = [.int k] ∧ H2 = H1) I1 ⟨rfl, rfl⟩) fun ks s2 ⟨zs, H2, I2, r2, ez, eH⟩ => ⟨True.intro, ?_⟩
  subst ev ez eH
  cases r1 with
  | cons r rr =>
    cases rr
    cases r
    cases r2 with
    | cons rk rrk =>
      cases rrk
      obtain ⟨tk, rfl⟩ := rk
      obtain ⟨its, rv, p', hz⟩ := I2.tuple hq
      refine enum_begins_start (begins_tuple t its.toArray) (isTuple_of p') h0 h1 fun h' he hit hsz hkp => ?_
      refine wpAny_pyIter_enum he ?_
      have I3 : Inv X pins σ H2 { s2 with heap := h' } := I2.kept (t' := s2.toks) hkp
      have ht : t < s2.heap.objs.size := p'.lt
      have hn : ∀ b, s2.heap.objs.size ≤ b → H2 b = none := fun b hb => I2.hok.fresh hb
      refine ⟨s2.heap.objs.size + 1, [s2.heap.objs.size + 1, s2.heap.objs.size], _, _, H2, rfl, I3, turn_enumT k t (s2.heap.objs.size + 1) s2.heap.objs.size (Nat.ne_of_lt ht) (Nat.succ_ne_self _) (Nat.ne_of_gt (Nat.lt_succ_of_lt ht)),
        ⟨⟨.none, ?_⟩, ⟨_, hit, rfl, rfl⟩⟩, fun b hb => ?_, q⟩
      · rw [show k + ((0 : Nat) : Int) = k by omega]
        exact he
      · have hle : s2.heap.objs.size ≤ b := by
          rcases List.mem_cons.mp hb with rfl | hb
          · exact Nat.le_succ _
          · rw [List.mem_singleton.mp hb]
            exact Nat.le_refl _
        exact I2.fpOk hle (hn b hle)
end Fv
set_option maxRecDepth 100000
set_option maxHeartbeats 1000000
namespace Fv
open PySem PySem.Spec L2
theorem lp_enumT {K : PySem.W.Frag} {t : Addr} {k : Int} {xs : List V} {g : TG} {tb : TS} {nx : L2.St → Hp → Prop} {rt : VK} {σ : L2.St} {H : Hp} (Pv : Nat → L2.St → Hp → Prop) (h0 : Pv 0 σ H) (hl : ∀ i σ H, i ≤ xs.length → Pv i σ H → SqT K H t xs)
    (hs : ∀ i x σ H T, xs[i]? = some x → Pv i σ H → H T = none → g (.ref T) σ (upd H T (.tup [.int (k + (i : Int)), x])) fun σ2 H2 => tb { nx := Pv (i + 1), rt := rt, bk := nx, ct := Pv (i + 1) } σ2 H2) (hd : ∀ σ H, Pv xs.length σ H → nx σ H) :
    ∃ W : Nat → Nat → L2.St → Hp → Prop, (∃ m, W 0 m σ H) ∧ ∀ i m σ H, W i m σ H → ((Itn K t k).stop i H ∧ nx σ H) ∨ ((Itn K t k).go i H ∧ ∃ N : L2.St → Hp → Prop, (∀ σ' H', N σ' H' → ∃ m', m' < m ∧ W (i + 1) m' σ' H') ∧ ∀ x H', (Itn K t k).yld i H x H' → g x σ H' fun σ2 H2 => tb { nx := N, rt := rt, bk := nx, ct := N } σ2 H2) := by
  refine ⟨fun i m σ H => m = xs.length - i ∧ i ≤ xs.length ∧ Pv i σ H, ⟨_, rfl, Nat.zero_le _, h0⟩, ?_⟩
  rintro i m σ H ⟨rfl, hi, p⟩
  have q := hl i σ H hi p
  by_cases hlt : i < xs.length
  · refine .inr ⟨⟨xs, xs[i], q, List.getElem?_eq_getElem hlt⟩, Pv (i + 1), fun σ' H' p' => ⟨_, by omega, rfl, hlt, p'⟩, fun x H' y => ?_⟩
    obtain ⟨T, z, rfl, hT, rfl, hz⟩ := y
    exact hs i z σ H T (hz xs q) p hT
  · have e : i = xs.length := by omega
    subst e
    exact .inl ⟨⟨xs, q, rfl⟩, hd σ H p⟩
theorem lc_enumT {K : PySem.W.Frag} {t : Addr} {k : Int} {xs : List V} {g : TG} {tt : TT} {te : TE} {vs : List Nat} {σ : L2.St} {H1 : Hp} {D : Addr} {Qd : Hp → Prop} (Pv : Nat → Hp → Prop) (h0 : Pv 0 (upd H1 D (.lst []))) (hl : ∀ i H, i ≤ xs.length → Pv i H → SqT K H t xs)
    (hs : ∀ i x H T, xs[i]? = some x → Pv i H → H T = none → g (.ref T) (wipe σ vs) (upd H T (.tup [.int (k + (i : Int)), x])) fun σ2 H2 => wipe σ2 vs = wipe σ vs ∧ tt σ2 H2 fun b H3 =>
      if b = true then te σ2 H3 fun y H4 => ∃ acc, H4 D = some (.lst acc) ∧ acc.length < sizeLine ∧ Pv (i + 1) (upd H4 D (.lst (acc ++ [y]))) else Pv (i + 1) H3) (hd : ∀ H, Pv xs.length H → Qd H) :
    ∃ W : Nat → Nat → Hp → Prop, (∃ m, W 0 m (upd H1 D (.lst []))) ∧ ∀ i m H, W i m H → ((Itn K t k).stop i H ∧ Qd H) ∨ ((Itn K t k).go i H ∧ ∃ Nx : Hp → Prop, (∀ H', Nx H' → ∃ m', m' < m ∧ W (i + 1) m' H') ∧ ∀ x H', (Itn K t k).yld i H x H' → g x (wipe σ vs) H' fun σ2 H2 => wipe σ2 vs = wipe σ vs ∧ tt σ2 H2 fun b H3 =>
        if b = true then te σ2 H3 fun y H4 => ∃ acc, H4 D = some (.lst acc) ∧ acc.length < sizeLine ∧ Nx (upd H4 D (.lst (acc ++ [y]))) else Nx H3) := by
  refine ⟨fun i m H => m = xs.length - i ∧ i ≤ xs.length ∧ Pv i H, ⟨_, rfl, Nat.zero_le _, h0⟩, ?_⟩
  rintro i m H ⟨rfl, hi, p⟩
  have q := hl i H hi p
  by_cases hlt : i < xs.length
  · refine .inr ⟨⟨xs, xs[i], q, List.getElem?_eq_getElem hlt⟩, Pv (i + 1), fun H' p' => ⟨_, by omega, rfl, hlt, p'⟩, fun x H' y => ?_⟩
    obtain ⟨T, z, rfl, hT, rfl, hz⟩ := y
    exact hs i z H T (hz xs q) p hT
  · have e : i = xs.length := by omega
    subst e
    exact .inl ⟨⟨xs, q, rfl⟩, hd H p⟩
section
variable {K : PySem.W.Frag} {σ : L2.St} {H : Hp} {Q : VK} {a p : Addr} {xs : List V} {ta tb : TE}
theorem x_ent {R : It → Hp → Prop} {k : Int} {ts : TA} (h : ts σ H fun vs H1 => ∃ (t : Addr) (xs : List V), vs = [.ref t] ∧ SqT K H1 t xs ∧ R (Itn K t k) H1) : iEnT K k ts σ H R := h
theorem x_ent1 {R : Addr → Prop} (h : SqT K H a xs) (q : R a) : ∃ (t : Addr) (ys : List V), [V.ref a] = [.ref t] ∧ SqT K H t ys ∧ R t := ⟨a, xs, rfl, h, q⟩
end
theorem pi_enumTK {X : Cx} {K : PySem.W.Frag} {e : Expr} {ta : TA} {p pos tpos kpos kp : Pos} {elts : List Expr} {kk j : Nat} {k : Int} (eK : X.K = K) (hc : X.calm = true) (hg : Gl X "enumerate") (hm : X.mg "enumerate" = none) (h0 : -(2 ^ 63) ≤ k) (h1 : k < 2 ^ 63) (ha : PA X [e] ta)
    (hs : starEach [e] X.env = (false, eval e X.env) :: starEach [] X.env := by rfl) :
    PI X (.Tuple elts kk tpos) (.Call (.Name "enumerate" p) [e] [⟨some "start", .Constant (.int k) j kp, kpos⟩] pos) (iEnT K k ta) := by
  subst eK
  exact pi_enumT hc hg hm h0 h1 ha hs
theorem x_isnd {c : Prop} [Decidable c] {A B : Prop} (h1 : ¬ c → A) (h2 : c → B) : if (!decide c) = true then A else B := by
  by_cases h : c
  · rw [decide_eq_true h]
    exact iteF (h2 h)
  · rw [decide_eq_false h]
    exact iteT (h1 h)
theorem num_int {lo hi : Int} {x : V} (h : numV lo hi x = true) : ∃ z, x = .int z ∧ lo ≤ z ∧ z ≤ hi := by
  cases x with
  | int i =>
    have h' : (decide (lo ≤ i) && decide (i ≤ hi)) = true := h
    rw [Bool.and_eq_true, decide_eq_true_eq, decide_eq_true_eq] at h'
    exact ⟨i, rfl, h'.1, h'.2⟩
  | _ => cases h
theorem at_pred {xs : List V} {i : Nat} {x : V} (h : xs[i]? = some x) : atI xs (1 + (i : Int) - 1) = some x := by
  rw [show 1 + (i : Int) - 1 = (i : Int) by omega]
  exact atI_nat h
/-! what is due for a tuple -/
inductive Due where
  | hung
  | block (k : Nat)
  | ring (k : Nat)
  | ok
/-- an item that is no place, or the block itself -/
def badV (n i : Nat) (x : V) : Prop := numV 0 n x = false ∨ x = .int ((i + 1 : Nat) : Int)
inductive DueIs (xs : List V) : Due → Prop where
  | hung : ¬ (1 ≤ xs.length ∧ xs.length ≤ 40) → DueIs xs .hung
  | block {i : Nat} {x : V} : 1 ≤ xs.length → xs.length ≤ 40 → (∀ j y, j < i → xs[j]? = some y → ¬ badV xs.length j y) → xs[i]? = some x → badV xs.length i x → DueIs xs (.block (i + 1))
  | ring {hs : List Nat} {k : Nat} : 1 ≤ xs.length → xs.length ≤ 40 → xs = nats hs → (∀ j y, xs[j]? = some y → ¬ badV xs.length j y) → (∀ j, 1 ≤ j → j < k → upN hs hs.length j = 0) → 1 ≤ k → k ≤ hs.length → upN hs hs.length k ≠ 0 → DueIs xs (.ring k)
  | ok {hs : List Nat} : IsTree hs → xs = nats hs → (∀ j y, xs[j]? = some y → ¬ badV xs.length j y) → DueIs xs .ok
theorem nats_inj : ∀ {l m : List Nat}, nats l = nats m → l = m
  | [], [], _ => rfl
  | [], _ :: _, h => by cases h
  | _ :: _, [], h => by cases h
  | a :: l, b :: m, h => by
    have h' : V.int (Int.ofNat a) :: nats l = V.int (Int.ofNat b) :: nats m := h
    injection h' with h1 h2
    injection h1 with h1
    injection h1 with h1
    rw [h1, nats_inj h2]
theorem DueIs.det {xs : List V} {d e : Due} (h : DueIs xs d) (h' : DueIs xs e) : d = e := by
  cases h with
  | hung n =>
    cases h' with
    | hung _ => rfl
    | block a b _ _ _ => exact (n ⟨a, b⟩).elim
    | ring a b _ _ _ _ _ _ => exact (n ⟨a, b⟩).elim
    | ok t e _ => exact (n ⟨by rw [e, nats_length]; exact t.pos, by rw [e, nats_length]; exact t.most⟩).elim
  | @block i x a b f e1 bd =>
    cases h' with
    | hung n => exact (n ⟨a, b⟩).elim
    | @block j y _ _ f2 e2 bd2 =>
      rcases Nat.lt_trichotomy i j with h | h | h
      · exact (f2 _ _ h e1 bd).elim
      · rw [h]
      · exact (f _ _ h e2 bd2).elim
    | ring _ _ _ f2 _ _ _ _ => exact (f2 _ _ e1 bd).elim
    | ok _ _ f2 => exact (f2 _ _ e1 bd).elim
  | @ring hs k a b e f g k1 k2 nz =>
    cases h' with
    | hung n => exact (n ⟨a, b⟩).elim
    | block _ _ _ e2 bd => exact (f _ _ e2 bd).elim
    | @ring hs2 k' _ _ e2 _ g2 k1' k2' nz2 =>
      have eh := nats_inj (e.symm.trans e2)
      subst eh
      rcases Nat.lt_trichotomy k k' with h | h | h
      · exact (nz (g2 k k1 h)).elim
      · rw [h]
      · exact (nz2 (g k' k1' h)).elim
    | @ok hs2 t e2 _ =>
      have eh := nats_inj (e.symm.trans e2)
      subst eh
      exact (nz (t.comes k k2)).elim
  | @ok hs t e f =>
    cases h' with
    | hung n => exact (n ⟨by rw [e, nats_length]; exact t.pos, by rw [e, nats_length]; exact t.most⟩).elim
    | block _ _ _ e2 bd => exact (f _ _ e2 bd).elim
    | @ring hs2 k' _ _ e2 _ g2 k1' k2' nz2 =>
      have eh := nats_inj (e.symm.trans e2)
      subst eh
      exact (nz2 (t.comes k' k2')).elim
    | ok _ _ _ => rfl
/-- no bad one: they are places -/
theorem good_nats {xs : List V} (n : Nat) (h : ∀ (j : Nat) y, xs[j]? = some y → numV 0 n y = true) : ∃ hs : List Nat, xs = nats hs ∧ ∀ x ∈ hs, x ≤ n := by
  induction xs with
  | nil => exact ⟨[], rfl, fun _ h => nomatch h⟩
  | cons x r ih =>
    obtain ⟨hs, e, hle⟩ := ih fun j y hy => h (j + 1) y hy
    have hx := h 0 x rfl
    cases x with
    | int i =>
      have hx' : (decide ((0 : Int) ≤ i) && decide (i ≤ (n : Int))) = true := hx
      rw [Bool.and_eq_true, decide_eq_true_eq, decide_eq_true_eq] at hx'
      obtain ⟨m, rfl⟩ := Int.eq_ofNat_of_zero_le hx'.1
      refine ⟨m :: hs, by rw [e]; rfl, fun y hy => ?_⟩
      rcases List.mem_cons.mp hy with rfl | hy
      · omega
      · exact hle y hy
    | _ => cases hx
end Fv
set_option maxRecDepth 100000
set_option maxHeartbeats 1000000
namespace Fv
open PySem PySem.Spec L2
theorem x_mko {C : Addr} {sp : Sp} {dvs : List V} {ta : TA} {σ : L2.St} {H : Hp} {Q : XK} (h : ta σ H fun vs H1 => vs.length ≤ 1000 ∧ ∀ a, H1 a = none → sp (.ref a :: (vs ++ dvs)) (upd H1 a (exo a C none)) (fun v H2 => v = .non ∧ ∃ (d : Addr) (fs : List (Str × V)), H2 a = some (exo a C (some d)) ∧ H2 d = some (exd d fs) ∧ H1 d = none ∧ Q (.ref C) (some d) (upd (del H2 a) d (.xd fs))) (fun _ _ _ => False)) : tMkO C sp dvs ta σ H Q := h
theorem x_ost {K : PySem.W.Frag} {f : Str} {to te : TE} {D : Ends} {σ : L2.St} {H : Hp} (h : te σ H fun y H1 => to σ H1 fun x H2 => ∃ a C : Addr, x = .ref a ∧ OexC K C ∧ PySem.W.findIn K (.ref C) f = some none ∧ ((H2 a = some (exo a C none) ∧ ∀ dx, H2 dx = none → dx ≠ a → D.nx σ (upd (upd H2 dx (exd dx [(f, y)])) a (exo a C (some dx)))) ∨ ∃ (dx : Addr) (fs : List (Str × V)), H2 a = some (exo a C (some dx)) ∧ H2 dx = some (exd dx fs) ∧ fs.length ≤ 900 ∧ D.nx σ (upd H2 dx (exd dx ((f, y) :: fs))))) : tOst K f to te D σ H := h
theorem x_sfld {K : PySem.W.Frag} {ta tv : TE} {f : Str} {D : Ends} {σ : L2.St} {H : Hp} (h : tv σ H fun y H1 => ta σ H1 fun x H2 => ∃ a C dx fs, x = .ref a ∧ H2 a = some (.ins C dx fs) ∧ Cls K C ∧ NoAttr K C f ∧ fs.length < 1000 ∧ D.nx σ (upd H2 a (.ins C dx (putF f y fs)))) : sFld K ta tv f D σ H := h
/-- a method, called by its class or through another -/
structure CalM (K : PySem.W.Frag) (f : Addr) (fd : FuncData) (ps : List Str) : Prop where
  k : PySem.W.keepIn K (.ref f) = true
  b : Binds K fd ps []
/-- an own error with one field, set by its __init__ -/
structure ExcF (K : PySem.W.Frag) (C fI : Addr) (f : Str) : Prop where
  T : OexC K C
  i : PySem.W.findIn K (.ref C) "__init__" = some (some (.ref fI))
  t : PySem.W.typeIn K (.ref fI) = some (.type "function")
  n : PySem.W.findIn K (.ref C) f = some none
def spField (C : Addr) (f : Str) : Sp := fun vs H Q _ => ∃ (a : Addr) (v : V), vs = [.ref a, v] ∧ H a = some (exo a C none) ∧ ∀ dx, H dx = none → dx ≠ a → Q .non (upd (upd H dx (exd dx [(f, v)])) a (exo a C (some dx)))
/-- raise C(v): the error's own dict is new, all that was tracked stands -/
theorem mk_field {C : Addr} {f : Str} {v : V} {H : Hp} {Q : XK} (h : ∀ d H', Same H H' → H d = none → H' d = some (.xd [(f, v)]) → Q (.ref C) (some d) H') :
    [v].length ≤ 1000 ∧ ∀ a, H a = none → spField C f (.ref a :: ([v] ++ [])) (upd H a (exo a C none)) (fun v H2 => v = .non ∧ ∃ (d : Addr) (fs : List (Str × V)), H2 a = some (exo a C (some d)) ∧ H2 d = some (exd d fs) ∧ H d = none ∧ Q (.ref C) (some d) (upd (del H2 a) d (.xd fs))) (fun _ _ _ => False) := by
  refine ⟨by show 1 ≤ 1000; decide, fun a ha => ⟨a, v, rfl, upd_same, fun dx hd ne => ⟨rfl, dx, [(f, v)], upd_same, ?_, ?_, ?_⟩⟩⟩
  · rw [upd_ne ne, upd_same]
  · rw [upd_ne ne] at hd
    exact hd
  · rw [upd_ne ne] at hd
    refine h dx _ (fun b o e => ?_) hd upd_same
    have nb := ne_of_none e ha
    rw [upd_ne (ne_of_none e hd), del_ne nb, upd_ne nb, upd_ne (ne_of_none e hd), upd_ne nb]
    exact e
end Fv
set_option maxRecDepth 100000
set_option maxHeartbeats 1000000
namespace Fv
open PySem PySem.Spec L2
/-! tuples of places compared -/
def dn (l : List Nat) : List PyData := l.map fun (n : Nat) => PyData.int (Int.ofNat n)
theorem dpAll_nats {K : PySem.W.Frag} {H : Hp} : ∀ l : List Nat, DpAll K H (nats l) (dn l)
  | [] => .nil
  | a :: l => .cons (.int _) (dpAll_nats l)
theorem dn_lay : ∀ l : List Nat, PyData.canLayAll0 (dn l) = true
  | [] => rfl
  | a :: l => by
    show (PyData.canLay0 (.int (Int.ofNat a)) && PyData.canLayAll0 (dn l)) = true
    rw [dn_lay l]
    rfl
theorem dn_depth : ∀ l : List Nat, PyData.depthAll (dn l) = 0
  | [] => rfl
  | a :: l => by
    show max (PyData.depth (.int (Int.ofNat a))) (PyData.depthAll (dn l)) = 0
    rw [dn_depth l]
    rfl
theorem dn_shaped (l : List Nat) : SeqAt.shaped (.tuple (dn l)) = true := by
  show (PyData.canLayAll0 (dn l) && decide (PyData.depthAll (dn l) + 1 ≤ 64)) = true
  rw [dn_lay, dn_depth]
  rfl
theorem dn_eqv : ∀ l m : List Nat, PyData.eqvAll (dn l) (dn m) = decide (l = m)
  | [], [] => by simp [dn, PyData.eqvAll]
  | [], _ :: _ => by simp [dn, PyData.eqvAll]
  | _ :: _, [] => by simp [dn, PyData.eqvAll]
  | a :: l, b :: m => by
    show PyData.eqvAll (.int (Int.ofNat a) :: dn l) (.int (Int.ofNat b) :: dn m) = _
    rw [PyData.eqvAll, dn_eqv l m, PyData.eqv, Bool.eq_iff_iff]
    simp
    intro _
    omega
section
variable {K : PySem.W.Frag} {H : Hp} {Q : VK} {a b : Addr} {l m : List Nat}
theorem x_eqTup (h1 : SqT K H a (nats l)) (h2 : SqT K H b (nats m)) (q : Q (.bl (decide (l = m))) H) : rEqD K (.ref a) (.ref b) H Q := by
  refine ⟨.tuple (dn l), .tuple (dn m), .tup h1 (dpAll_nats l), .tup h2 (dpAll_nats m), dn_shaped l, dn_shaped m, ?_⟩
  rw [PyData.eqv, dn_eqv]
  exact q
theorem x_neTup (h1 : SqT K H a (nats l)) (h2 : SqT K H b (nats m)) (q : Q (.bl (!decide (l = m))) H) : rNeD K (.ref a) (.ref b) H Q := by
  refine ⟨.tuple (dn l), .tuple (dn m), .tup h1 (dpAll_nats l), .tup h2 (dpAll_nats m), dn_shaped l, dn_shaped m, ?_⟩
  rw [PyData.eqv, dn_eqv]
  exact q
end
/-! x == y by x's own __eq__ -/
structure OwnQ (K : PySem.W.Frag) (C f : Addr) : Prop where
  s : PySem.W.findIn K (.ref C) "__eq__" = some (some (.ref f))
  fn : PySem.W.isFn K (.ref f) = true
def rOwn (C : Addr) (sp : Sp) : R2 := fun x y H Q => ∃ (a b dx : Addr) (fs : List (Str × V)), x = .ref a ∧ y = .ref b ∧ H a = some (.ins C dx fs) ∧ ((∃ dy gs, H b = some (.ins C dy gs)) ∨ ∃ xs, H b = some (.tup xs)) ∧
  sp [.ref a, .ref b] H (fun v H' => ∃ r, v = .bl r ∧ Q (.bl r) H') (fun _ _ _ => False)
theorem tup_apart (K : PySem.W.Frag) (C : Addr) : PySem.W.notFirst K C (.type "tuple") = true := by
  have e : PySem.W.subIn K (.type "tuple") (.ref C) = some false := by
    have e2 : PySem.fastBuiltinMro "tuple" = some [.type "tuple", .type "object"] := by decide +kernel
    show (PySem.fastBuiltinMro "tuple").map (·.contains (Value.ref C)) = some false
    rw [e2]
    rfl
  unfold PySem.W.notFirst
  rw [e]
  rfl
theorem op_own {X : Cx} {C f : Addr} {fd : FuncData} {ps : List Str} {sp : Sp} {n : Nat} (O : OwnQ X.K C f) (F : FnOk X.prog X.w X.K X.mg X.base CX0 n f fd ps sp) (hb : Binds X.K fd ps []) (hr : Room n X.A) : OpR X (compareOp .Eq) (rOwn C sp) := by
  intro pins s σ H x y v u Q I rx ry h
  obtain ⟨a, b, dx, fs, rfl, rfl, ha, hB, hsp⟩ := h
  cases rx
  cases ry
  show wpAny (model X.prog X.w) X.A (richCompare .Eq (.ref a) (.ref b)) (EP X pins σ Q) X.xe s
  obtain ⟨mA, J, _⟩ := ins_get I.hok ha
  obtain ⟨od, J, _⟩ := J.look
  obtain ⟨m, hF⟩ := I.fr
  have r2 : Vals [V.ref a, V.ref b] [Value.ref a, Value.ref b] := .cons rfl (.cons rfl .nil)
  have back : wpAny (model X.prog X.w) X.A (call (.ref f) [.ref a, .ref b]) (PySem.W.CmpBack (EP X pins σ Q)) X.xe s := by
    refine thn (run_fn F hr hb .nil pass0 I r2 hsp) fun w' s' ⟨z, H', I', rz, r, ez, q⟩ => ?_
    subst ez
    cases rz
    exact ⟨.bl r, H', I', rfl, q⟩
  rcases hB with ⟨dy, gs, hB⟩ | ⟨xs, hB⟩
  · obtain ⟨mB, J', _⟩ := ins_get I.hok hB
    obtain ⟨od', J', _⟩ := J'.look
    exact PySem.W.cmp_K (op := .Eq) (tb := .ref C) hr.units0 hF I.ok.mod.kin J J'.type (by simp [PySem.W.notFirst]) O.s O.fn back
  · obtain ⟨_, _, _, o, h1, h2, _⟩ := (show ObjOk X.prog X.w H s.heap b (.tup xs) from I.hok b _ hB)
    exact PySem.W.cmp_K (op := .Eq) (tb := .type "tuple") hr.units0 hF I.ok.mod.kin J (fun A Q E s k q => wpAny_typeOf_ref (k _ _ h1) (by rw [h2]; exact q)) (tup_apart X.K C) O.s O.fn back
/-! what isinstance asks of an own class -/
structure IsC (K : PySem.W.Frag) (C : Addr) : Prop where
  cl : Cls K C
  ha : PySem.W.findIn K (.ref C) "__class__" = some (some (.builtin "object.__class__"))
  hn : PySem.W.specialIn K (.builtin "object.__class__") "__get__" = some (some (.builtin "getset_descriptor.__get__"))
  ht : PySem.W.takesIn K (.builtin "object.__class__") = some true
  hm : PySem.W.mroIn K C (.type "object") = some true
  own : PySem.W.kitOne K (.ref C) (.ref C) = some true
  tup : PySem.W.kitOne K (.type "tuple") (.ref C) = some false
section
variable {K : PySem.W.Frag} {H : Hp} {Q : VK} {a C dx : Addr} {fs : List (Str × V)} {xs : List V}
theorem isi_own (c : IsC K C) (h : H a = some (.ins C dx fs)) (q : Q (.bl true) H) : rIsi K [.ref a, .ref C] H Q := ⟨.ref a, .ref C, .ref C, .ref C, true, rfl, .own C, .base (.ins h c.cl c.ha c.hn c.ht c.hm), c.own, q⟩
theorem isi_tupOwn (c : IsC K C) (h : H a = some (.tup xs)) (q : Q (.bl false) H) : rIsi K [.ref a, .ref C] H Q := ⟨.ref a, .ref C, .type "tuple", .ref C, false, rfl, .own C, .base (.tup h), c.tup, q⟩
theorem x_fldQ {te : TE} {f : Str} {σ : L2.St} (h : te σ H fun x H1 => ∃ a C dx fs v, x = .ref a ∧ H1 a = some (.ins C dx fs) ∧ Cls K C ∧ NoAttr K C f ∧ fs.lookup f = some v ∧ Q v H1) : tFld K te f σ H Q := h
theorem x_fld1 {v : V} {f : Str} (h : H a = some (.ins C dx fs)) (c : Cls K C) (n : NoAttr K C f) (l : fs.lookup f = some v) (q : Q v H) : ∃ a' C' dx' fs' v', V.ref a = .ref a' ∧ H a' = some (.ins C' dx' fs') ∧ Cls K C' ∧ NoAttr K C' f ∧ fs'.lookup f = some v' ∧ Q v' H := ⟨a, C, dx, fs, v, rfl, h, c, n, l, q⟩
end
end Fv
set_option maxRecDepth 100000
set_option maxHeartbeats 1000000
namespace Fv
open PySem PySem.Spec L2 PyProof.Rows
/-- what leaves the body of a try is the wish at any cells of the right number -/
theorem passLen {X : Cx} {W : WX} {n : Nat} (tk : Takes X W) (hn : X.N.length = n) : Passes (L2.CX X.prog X.w) X (fun cls d H => ∀ σ : L2.St, σ.length = n → W cls d σ H) := fun pins σ H s e s' I c => by
  refine passAt tk σ pins H s e s' I ?_
  obtain ⟨a, B, H', cls, d, h1, h2, h3, h4, h5, h6, h7, h8⟩ := c
  exact ⟨a, B, H', cls, d, h1, h2, h3, h4, h5, h6, h7, h8 σ (I.len.trans hn)⟩
/-- isinstance(e, C), e the caught error, which holds a field -/
def rIsF (K : PySem.W.Frag) (D a : Addr) (cls : Value) (d : Option Addr) : List V → Hp → VK → Prop := fun xs H Q => ∃ (C dd : Addr) (fs : List (Str × V)), xs = [.ref a, .ref C] ∧ cls = .ref D ∧ d = some dd ∧ H dd = some (.xd fs) ∧ PySem.W.kitOne K (.ref D) (.ref C) = some true ∧ Q (.bl true) H
theorem call_isF {X : Cx} {a D : Addr} {oe : Obj} {cls : Value} {d : Option Addr} {pn : List (Addr × Obj)} (C : L2.ExcC X.K D) (hz : Zc cls d oe) (hf : ∃ vs, oe.data = .fields vs) : CallR (X.suite a ((a, oe) :: pn)) (.builtin "isinstance") (rIsF X.K D a cls d) := by
  intro pins s σ H xs us Q I r h
  obtain ⟨B, dd, fs, rfl, rfl, rfl, ea, e, q⟩ := h
  cases r with
  | cons rx rr =>
    cases rr with
    | cons rt rr =>
      cases rr
      cases rx
      cases rt
      obtain ⟨hget, _⟩ := I.pin (a, oe) (List.mem_append.mpr (.inl List.mem_cons_self))
      obtain ⟨vs, hv⟩ := hf
      have hx : ObjOk X.prog X.w H s.heap dd (.xd fs) := I.hok dd _ ea
      obtain ⟨mA, hns, hr⟩ := hx
      obtain ⟨od, ho, hl⟩ := lookIn_ns hns
      have J : PySem.W.InstAt s.heap a oe D (some od) := ⟨hget, hz.1, by unfold PySem.W.notCls; rw [hv] <;> rfl, by rw [hz.2]; exact ho⟩
      have hcl : (PySem.W.clsIn X.K D).isSome = true := by
        obtain ⟨cd, hc, _⟩ := PySem.W.any_some C.hd
        rw [hc]
        rfl
      exact PySem.W.kia_one (PySem.W.kitx_exc hcl C.hg C.hk C.hs C.ha C.hn C.ht C.hm) I.kIn J e (fun z => nomatch z) fun tk => ⟨.bl true, H, I.kept (t' := tk) fun _ _ z => z, rfl, q⟩
theorem x_make {C : Addr} {sp : Sp} {dvs : List V} {E : XK} {t : TA} {σ : L2.St} {H : Hp} {Q : VK} (h : t σ H fun vs H1 => ∀ x dx, H1 x = none → H1 dx = none → dx ≠ x → sp (.ref x :: (vs ++ dvs)) (upd (upd H1 dx (.own x)) x (.ins C dx [])) (fun v H2 => v = .non ∧ Q (.ref x) H2) E) : tMake C sp dvs E t σ H Q := h
theorem x_xf {a : Addr} {cls : Value} {d : Option Addr} {C : Addr} {f : Str} {te : TE} {σ : L2.St} {H : Hp} {Q : VK} (h : te σ H fun x H1 => x = .ref a ∧ cls = .ref C ∧ ∃ (dd : Addr) (fs : List (Str × V)) (v : V), d = some dd ∧ H1 dd = some (.xd fs) ∧ fs.lookup f = some v ∧ Q v H1) : tXf a cls d C f te σ H Q := h
end Fv
set_option maxRecDepth 100000
set_option maxHeartbeats 1000000
namespace Fv
open PySem PySem.Spec L2
section
variable {X : Cx} {K : PySem.W.Frag} {H : Hp} {Q : VK} {a b : Addr} {xs ys : List V} {v : V}
/-- a callee from which nothing comes out -/
theorem passE {P : Program} {w : World} : Passes (L2.CX P w) X (fun _ _ _ => False) := fun pins σ H s e s' I c => by
  obtain ⟨a, B, H', cls, d, h1, h2, h3, h4, h5, h6, h7, h8⟩ := c
  exact h8.elim
theorem op_catTK (e : X.K = K) : OpR X (binaryOp .Add) (rCatT K) := by
  subst e
  exact op_catT
theorem op_repTK (e : X.K = K) : OpR X (binaryOp .Mult) (rRepT K) := by
  subst e
  exact op_repT
theorem x_catT (h1 : SqT K H a xs) (h2 : SqT K H b ys) (nx : xs ≠ []) (ny : ys ≠ []) (hl : xs.length + ys.length ≤ 10000) (q : ∀ p, H p = none → Q (.ref p) (upd H p (.tup (xs ++ ys)))) : rCatT K (.ref a) (.ref b) H Q :=
  ⟨a, b, xs, ys, rfl, rfl, h1, h2, nx, szLe (by omega), fun e => (ny e).elim, fun _ => q⟩
theorem x_repT1 {k : Nat} (h : SqT K H a [v]) (h2 : 2 ≤ k) (hk : k ≤ 1000) (q : ∀ p, H p = none → Q (.ref p) (upd H p (.tup (List.replicate k v)))) : rRepT K (.ref a) (.int k) H Q :=
  ⟨a, k, [v], rfl, rfl, h, by simp, by omega, by omega, (by show 1 ≤ 1000; decide), fun p hp => by
    have e := rep_one k v
    rw [Int.toNat_natCast, e]
    exact q p hp⟩
end
end Fv
set_option maxRecDepth 100000
set_option maxHeartbeats 1000000
namespace Fv
open PySem PySem.Spec PyProof.Rows L2
/-! a range kept by a name, and walked -/
def rRng2 : List V → Hp → VK → Prop := fun vs H Q => ∃ i j, vs = [V.int i, V.int j] ∧ ∀ p, H p = none → Q (.ref p) (upd H p (.rng i j))
theorem call_rng2 {X : Cx} : CallR X (.type "range") rRng2 := cr_range2
def iRngV (te : TE) : TI := fun σ H R => te σ H fun x H1 => ∃ (a : Addr) (lo hi : Int), x = .ref a ∧ H1 a = some (.rng lo hi) ∧ (-(2 ^ 62) ≤ lo ∧ lo < 2 ^ 62 ∧ -(2 ^ 62) ≤ hi ∧ hi < 2 ^ 62) ∧ R (Itr lo (hi - lo).toNat) H1
theorem pi_rngV {X : Cx} {tg e : Expr} {te : TE} (he : PE X e te) : PI X tg e (iRngV te) := by
  refine ⟨fun pins s σ H R I h => thn (he.run pins s σ H _ I h) fun u s1 ⟨x, H1, I1, rx, a, lo, hi, ex, ea, ⟨h1, h2, h3, h4⟩, q⟩ => ?_⟩
  subst ex
  obtain rfl : u = Value.ref a := rx
  obtain ⟨t, u, v, ho⟩ := (show ∃ t u v, s1.heap.get? a = some { cls := .type "range", data := .fields #[.int lo t, .int hi u, .int 1 v] } from I1.hok a _ ea)
  refine wpAny_pyIter_range (a := lo) (b := hi) (c := 1) (t := t) (u := u) (v := v) ho (small_one h1 h2 h3 h4) ?_
  refine ⟨s1.heap.objs.size, [s1.heap.objs.size], _, _, H1, rfl, I1.kept (t' := s1.toks) fun b o e => Heap.get?_push_of_some _ e, turn_range _ lo (hi - lo).toNat, ?_, fun b hb => ?_, q⟩
  · have e1 : lo + ((0 : Nat) : Int) * 1 = lo := by simp
    have e2 : (((hi - lo).toNat : Nat) : Int) - ((0 : Nat) : Int) = Builtin.Range.rangeSize lo hi 1 := by rw [rangeSize_one]; split <;> omega
    show IsRangeIter _ _ (lo + ((0 : Nat) : Int) * 1) ((((hi - lo).toNat : Nat) : Int) - ((0 : Nat) : Int)) 1
    rw [e1, e2]
    exact Heap.get?_push_size _ rfl
  · have e : b = s1.heap.objs.size := by simpa using hb
    subst e
    exact I1.fpOk (Nat.le_refl _) (I1.hok.fresh (Nat.le_refl _))
theorem pg_tupK {X : Cx} {K : PySem.W.Frag} {es : List Expr} {k : Nat} {t : TGs} {n : Nat} {pos : Pos} (eK : X.K = K) (hc : X.calm = true) (h : PGs X es t)
    (hn : (assignEach es X.env).length = n := by rfl) (hst : (assignEach es X.env).findIdx? (·.1) = none := by rfl) : PG X (.Tuple es k pos) (gTup K n t) := by
  subst eK
  exact pg_tup hc h hn hst
section
variable {K : PySem.W.Frag} {σ : L2.St} {H : Hp} {Q : VK} {a p : Addr} {xs : List V} {v : V}
theorem x_rng2v {i j : Int} (q : ∀ p, H p = none → Q (.ref p) (upd H p (.rng i j))) : rRng2 [.int i, .int j] H Q := ⟨i, j, rfl, q⟩
theorem x_irngV {R : It → Hp → Prop} {te : TE} (h : te σ H fun x H1 => ∃ (a : Addr) (lo hi : Int), x = .ref a ∧ H1 a = some (.rng lo hi) ∧ (-(2 ^ 62) ≤ lo ∧ lo < 2 ^ 62 ∧ -(2 ^ 62) ≤ hi ∧ hi < 2 ^ 62) ∧ R (Itr lo (hi - lo).toNat) H1) : iRngV te σ H R := h
theorem atI_last (xs : List V) (v : V) : atI (xs ++ [v]) (-1) = some v := by
  unfold atI ixN
  rw [if_neg (by decide), if_pos (by rw [List.length_append]; show -((xs.length + 1 : Nat) : Int) ≤ -1; omega)]
  show (xs ++ [v])[_]? = _
  have e : ((-1 : Int) + ((xs ++ [v]).length : Nat)).toNat = xs.length := by
    rw [List.length_append]
    show ((-1 : Int) + ((xs.length + 1 : Nat) : Int)).toNat = xs.length
    omega
  first
    | (rw [e]; simp)
    | simp
theorem flat_nats (l : List Nat) : (nats l).all flatV = true := by
  rw [List.all_eq_true]
  intro x hx
  obtain ⟨n, _, rfl⟩ := List.mem_map.mp hx
  rfl
theorem in_nats (k : Nat) : ∀ l : List Nat, inV (.int k) (nats l) = decide (k ∈ l)
  | [] => rfl
  | a :: l => by
    show (eqV (.int a) (.int k) || inV (.int k) (nats l)) = decide (k ∈ a :: l)
    rw [in_nats k l, Bool.eq_iff_iff]
    simp only [Bool.or_eq_true, decide_eq_true_eq, List.mem_cons]
    have e : eqV (.int a) (.int k) = decide ((a : Int) = (k : Int)) := by
      show ((a : Int) == (k : Int)) = _
      rfl
    rw [e, decide_eq_true_eq]
    constructor
    · rintro (h | h)
      · exact .inl (by omega)
      · exact .inr h
    · rintro (h | h)
      · exact .inl (by omega)
      · exact .inr h
theorem x_inNT {k : Nat} {l : List Nat} (h : SqT K H p (nats l)) (q : Q (.bl (decide (k ∈ l))) H) : rIn K false (.int k) (.ref p) H Q := by
  refine ⟨p, _, rfl, .inr h, rfl, flat_nats l, ?_⟩
  show Q (.bl (inV (.int k) (nats l))) H
  rw [in_nats]
  exact q
end
end Fv
set_option maxRecDepth 100000
set_option maxHeartbeats 1000000
namespace Fv
open PySem PySem.Spec PySem.Calls PyProof.Rows
/-! an error of the package whose __init__ says super().__init__() and no more -/
def siA (p : Pos) : Arguments := { posonlyargs := [], args := [{ arg := "self", annotation := none, pos := p }], vararg := none, kwonlyargs := [], kw_defaults := [], kwarg := none, defaults := [] }
def siB (p0 p1 p2 p3 p4 : Pos) : List Stmt := [.Expr (.Call (.Attribute (.Call (.Name "super" p0) [] [] p1) "__init__" p2) [] [] p3) p4]
def siS : Scope := { kind := .function, names := [(PySem.Str.ofString "self", .local), (PySem.Str.ofString "__class__", .free), (PySem.Str.ofString "super", .globalImplicit)], isGenerator := false, isCoroutine := false, more := [] }
/-- how the model reads super().__init__(), its places being these -/
def SupEv (p0 p1 p2 p3 : Pos) : Prop := ∀ (q : Str) (L a cc : Addr) (cd : Value), ∃ pl : Sem Bool,
  eval (.Call (.Attribute (.Call (.Name "super" p0) [] [] p1) "__init__" p2) [] [] p3) (PySem.W.ksEnv q siS L a cd cc) = (do
    let o ← attributeBase (.Call (.Name "super" p0) [] [] p1) "__init__" (PySem.W.ksEnv q siS L a cd cc) (eval (.Call (.Name "super" p0) [] [] p1) (PySem.W.ksEnv q siS L a cd cc))
    standAt p2.atName
    let (f, first) ← holding [o] (getMethod o "__init__" pl)
    callWith p3 f first (backTo p3 (starEach [] (PySem.W.ksEnv q siS L a cd cc))) [])
/-- what the written part says of such a class at C, and of its __init__, at fI -/
structure SupC (P : Program) (K : PySem.W.Frag) (C fI : Addr) : Prop where
  x : L2.OexC K C
  iC : PySem.W.findIn K (.ref C) "__init__" = some (some (.ref fI))
  tC : PySem.W.typeIn K (.ref fI) = some (.type "function")
  fn : ∃ (oc : Value) (od : Option Addr) (kV doc pm : Value) (an : Option Addr) (cda : Addr) (ct : Value) (osl : Array (Option Value)) (cc : Addr) (q : Str) (p p0 p1 p2 p3 p4 : Pos),
    K.lookup fI = some ⟨oc, od, .func (PySem.W.ksFn "__init__" q (siA p) (siB p0 p1 p2 p3 p4) siS .none kV doc pm an (.ref cda) ct cc), osl⟩ ∧ PySem.W.codeIn K (.ref cda) q = true ∧ (∃ (cl : Value) (cld : Option Addr) (csl : Array (Option Value)), K.lookup cc = some ⟨cl, cld, .cell (some (.ref C)), csl⟩) ∧
    ∃ (ccl : Value) (cdd : Option Addr) (vs : Array Value) (ccs : Array (Option Value)) (file : Str) (tf : Tok), K.lookup cda = some ⟨ccl, cdd, .fields vs, ccs⟩ ∧ vs[2]? = some (.str file tf) ∧ ((P.main.file : Str) == file) = true ∧ SupEv p0 p1 p2 p3
  up : PySem.W.ks_superIn K C C "__init__" = some (some (.builtin "ValueError.__init__"))
  me : PySem.W.mroIn K C (.ref C) = some true
  ve : PySem.W.subIn K (.ref C) (.type "ValueError") = some true
  op : PySem.W.nsIn K cStatics "thirdparty.any" = some none
  tp : (P.main.scope.names.lookup ("super" : Str)).isSome = false
section
variable {P : Program} {w : World} {A : Around} {R : Result → Shared → Prop} {s : Shared} {K : PySem.W.Frag} {C fI : Addr}
theorem sup_init (T : SupC P K C fI) {x t0 : Addr} {mg mb : Str → Option Value} (X : K.In s.heap) (hlim : s.heap.NoLimit) (hg : s.heap.Ns mainGlobals mg) (hms : mg "super" = none) (hb : s.heap.Ns builtinsNs mb) (hbs : mb "super" = some (.type "super"))
    (hx : s.heap.get? x = some (PySem.HandSPX.excO C t0)) (hroom : A.depth < recursionLimit)
    (hq : ∀ h' tk t1, (∀ b o, b ≠ x → s.heap.get? b = some o → h'.get? b = some o) → h'.get? x = some (PySem.HandSPX.excO C t1) → R (.ok (.ret .none)) { s with heap := h', toks := tk }) :
    codeAny (model P w) A (.call (.ref fI) ⟨[.ref x], []⟩) R s := by
  obtain ⟨oc, od, kV, doc, pm, an, cda, ct, osl, cc, q, p, p0, p1, p2, p3, p4, ho, hcd, ⟨cl, cld, csl, hcell⟩, ccl, cdd, vs, ccs, file, tf, hcode, hvs, hfile, hev⟩ := T.fn
  obtain ⟨nm, q', N, bs, bm, sn, sub, ab, col, dd, k0, k1, k2, k3, k5, hC, hbm⟩ := T.x.cls
  have hcl : PySem.W.clsIn K C = some { name := nm, bases := bs, mro := .ref C :: bm, ns := N, qualname := q', hasDict := true, slotNames := sn, subclasses := sub, abstract := ab, collection := col, hasDel := false } := by
    unfold PySem.W.clsIn
    rw [hC] <;> rfl
  refine ks_codeAny_call_defAt (binds := [("self", .ref x)]) hroom (X _ _ ho) rfl hlim (PySem.W.codeRec_of X hcd) rfl (BindsTo.of_eq rfl) (show ∀ x ∈ siS.names, x.2 ≠ NameKind.cell by decide) (fun y hy => ?_) (fun h₁ hns hk₁ => ?_)
  · simp only [List.mem_cons, List.not_mem_nil, or_false] at hy
    subst hy
    rfl
  have X1 : K.In h₁ := X.keeps hk₁
  have hx1 := hk₁ _ _ hx
  have hC1 := X1 _ _ hC
  obtain ⟨hp, g, d, tk, os⟩ := s
  obtain ⟨pl, he⟩ := hev q hp.objs.size fI cc (.ref cda)
  refine ks_wpAt_execs_cons (ks_wpAt_Expr_any (ks_wpAt_MethodCall (pl := pl) ?_ he))
  refine ks_wpAt_super_base rfl rfl rfl rfl (X1 _ _ ho) rfl rfl rfl (X1 _ _ hcode) rfl hvs hfile T.tp ?_
  refine PySem.W.ks_loadName_global rfl rfl (loadGlobal_builtin (hg.keeps hk₁) hms (hb.keeps hk₁) hbs ⟨rfl, ?_⟩)
  refine wpAny_loadName_free rfl rfl rfl ⟨_, X1 _ _ hcell, rfl⟩ ?_
  refine wpAny_loadName_local (v := .ref x) rfl rfl hns rfl ?_
  refine ks_wpAny_isType_cls hC1 rfl ⟨rfl, ?_⟩
  refine ks_wpAny_call_super hC1 rfl hx1 rfl (fun c e => by cases e) (PySem.W.looks_mroIn X1 T.me) (fun h2 hso k2 => ?_)
  have X2 : K.In h2 := X1.keeps k2
  have hx2 := k2 _ _ hx1
  have I2 : PySem.W.InstAt h2 x (PySem.HandSPX.excO C t0) C none := ⟨hx2, rfl, rfl, trivial⟩
  have hup : PySem.W.alongIn K "__init__" (((Value.ref C :: bm).dropWhile (· != Value.ref C)).drop 1) = some (some (.builtin "ValueError.__init__")) := by
    have e := T.up
    unfold PySem.W.ks_superIn at e
    rw [hcl] at e
    exact e
  refine PySem.W.kxs_getMethod PySem.W.kxs_ValueError hso (PySem.W.looks_opaque X2 T.op) (l₀ := .ref C :: bm) ?_ rfl X2 hup (I2.type.andThen (PySem.W.looks_subIn X2 T.ve)) (PySem.W.ks_ne X2 I2 hcl) (by decide) ?_
  · exact fun A Q E s k q => wpAny_bind (PySem.W.looks_clsIn X2 hcl A _ E s k (wpAny_pure q))
  have hu : (h2.push (PySem.W.kxs_mw "ValueError.__init__" x)).get? h2.objs.size = some (PySem.W.kxs_mw "ValueError.__init__" x) := Heap.get?_push_at rfl rfl
  have k3 : ∀ b o, h2.get? b = some o → (h2.push (PySem.W.kxs_mw "ValueError.__init__" x)).get? b = some o := fun b o e => Heap.get?_push_of_some _ e
  refine PySem.W.kxs_callWith (i := "ValueError.__init__") (x := x) rfl (PyProof.Rows.evalArgs_empty ⟨hu, ?_⟩)
  have FB := PySem.F.excBase_ValueError
  have hC3 := k3 _ _ (X2 _ _ hC)
  have hx3 := k3 _ _ hx2
  refine wpAny_call (codeAny_of_tree ?_)
  show wpAny _ _ (callAny (.ref h2.objs.size) ⟨[], []⟩) _ _ _
  unfold callAny
  refine wpAny_bind (wpAny_load hu ?_)
  show wpAny _ _ (if (Value.type "method-wrapper" == Value.type "method" || Value.type "method-wrapper" == Value.type "builtin_function_or_method" || Value.type "method-wrapper" == Value.type "method-wrapper") = true then
    (if (Value.type "method-wrapper" != Value.type "method") = true then (do checkBoundCall "ValueError.__init__" ⟨[.ref x], []⟩; again (.builtin "ValueError.__init__" ⟨[.ref x], []⟩)) else again (.call (.builtin "ValueError.__init__") ⟨[.ref x], []⟩)) else _) _ _ _
  rw [if_pos (by decide), if_pos (by decide)]
  refine wpAny_bind (PySem.W.check_bound_init FB.toExcCallFacts hC3 hx3 rfl (wpAny_pure ⟨PySem.plainId_quiet FB.init.plain _, codeAny_builtin FB.initEntry ?_⟩))
  refine PySem.W.exc_init_tree (cls := .ref C) (t0 := t0) (dv := none) (c2 := .none) (c3 := .none) (b4 := .bool false) hx3 (by rw [sizeLine_eq]; decide) fun h4 k4 hx4 _ => ?_
  show PySem.wpAt _ _ _ (execs [] _) _ _ _
  exact PySem.wpAt_of_wpAny (wpAny_execs_nil (hq h4 _ _ (fun b o nb e => k4 b o nb (k3 _ _ (k2 _ _ (hk₁ _ _ e)))) hx4))
theorem sup_made (T : SupC P K C fI) {mg mb : Str → Option Value} (X : K.In s.heap) (hlim : s.heap.NoLimit) (hg : s.heap.Ns mainGlobals mg) (hms : mg "super" = none) (hb : s.heap.Ns builtinsNs mb) (hbs : mb "super" = some (.type "super")) (hroom : A.depth + 1 < recursionLimit)
    (hq : ∀ h' tk e t1, (∀ b o, s.heap.get? b = some o → h'.get? b = some o) → s.heap.objs.size ≤ e → h'.get? e = some (PySem.HandSPX.excO C t1) → R (.ok (.ret (.ref e))) { s with heap := h', toks := tk }) :
    codeAny (model P w) A (.call (.ref C) ⟨[], []⟩) R s := by
  obtain ⟨nm, q', N, bs, bm, sn, sub, ab, col, dd, k0, k1, k2, k3, k5, hC, hbm⟩ := T.x.cls
  obtain ⟨hp, g, dr, tk, os⟩ := s
  have k : ∀ b o, hp.get? b = some o → ((hp.push (PySem.W.kdv_tup [])).push (PySem.HandSPX.excO C hp.objs.size)).get? b = some o := fun b o e => Heap.get?_push_of_some _ (Heap.get?_push_of_some _ e)
  have hget : ((hp.push (PySem.W.kdv_tup [])).push (PySem.HandSPX.excO C hp.objs.size)).get? (hp.objs.size + 1) = some (PySem.HandSPX.excO C hp.objs.size) := by heap_get
  refine PySem.HandSPX.call_own PySem.F.excBase_ValueError (fun Y => PySem.HandSPX.refsVE_contains Y bm hbm) (X _ _ hC) (PySem.W.looks_findIn X T.iC) (fun self => PySem.W.bind_fn X self T.tC) (by rw [sizeLine_eq]; decide) ?_
  refine sup_init (s := ⟨(hp.push (PySem.W.kdv_tup [])).push (PySem.HandSPX.excO C hp.objs.size), g, dr, tk, os⟩) T (X.keeps k) (hlim.keeps k) (hg.keeps k) hms (hb.keeps k) hbs hget ?_ fun h' tk' t1 k' hx => ?_
  · show A.depth + 1 < recursionLimit
    exact hroom
  · refine ⟨rfl, hq h' tk' (hp.objs.size + 1) t1 (fun b o e => k' b o ?_ (k b o e)) (Nat.le_succ _) hx⟩
    exact Nat.ne_of_lt (Nat.lt_succ_of_lt (Heap.lt_size e))
end
end Fv
namespace Fv
open PySem PySem.Spec PyProof.Rows L2
/-- C(), C such a class: all that was tracked stands, and no dict is made -/
theorem pmk_sup {X : Cx} {C fI : Addr} {x : Str} {p pos : Pos} (T : SupC X.prog X.K C fI) (hr : Room 1 X.A) (hg : Gl X x) (hm : X.mg x = some (.ref C)) (hs : X.mg "super" = none) (hdb : (x == ("__debug__" : Str)) = false := by decide) :
    PMk X (.Call (.Name x p) [] [] pos) (fun _ H Q => Q (.ref C) none H) := by
  intro pins s σ H Q I h
  refine wpAny_Call_Name_kw (ld_glob I hg hm ?_ hdb)
  refine PySem.W.callWith_K0 I.kIn T.x.kC ?_
  obtain ⟨mb, hb1, hb2⟩ := I.mod.blt
  have hlim := I.nolimit
  have hgl : s.heap.Ns mainGlobals X.mg := I.mod.glob.keeps I.bk
  have hbl : s.heap.Ns builtinsNs mb := hb1.keeps I.bk
  obtain ⟨hp, g, d, t, os⟩ := s
  refine wpAny_call (sup_made T I.kIn hlim hgl hs hbl ((hb2 "super" (by decide)).trans (by first | rfl | decide +kernel | kernel_rfl)) (by have := hr.dp; omega) fun h' tk' e t1 k ge hx => ?_)
  obtain ⟨G', g1, g2⟩ := restrict h' fun b => decide (b ≠ e)
  have gk : ∀ b, b ≠ e → G'.get? b = h'.get? b := fun b hb => g1 b (decide_eq_true hb)
  have g0 : G'.get? e = none := g2 e (by simp)
  have old : ∀ b o, hp.get? b = some o → G'.get? b = some o := fun b o q => (gk b (Nat.ne_of_lt (Nat.lt_of_lt_of_le (Heap.lt_size q) ge))).trans (k b o q)
  have J : Inv X pins σ H ⟨G', g, d, tk', os⟩ := I.kept (t' := tk') old
  refine ⟨e, _, _, ⟨G', g, d, tk', os⟩, H, .ref C, none, rfl, J, fun b o q => ?_, g0, hx, ⟨rfl, rfl⟩, rfl, rfl, I.hok.fresh ge, rfl, I.bare, raises_own T.x.exC T.x.tyC, h⟩
  by_cases hb : b = e
  · have q' : G'.get? b = some o := q
    rw [hb, g0] at q'
    cases q'
  · exact (gk b hb).symm.trans q
end Fv
set_option maxRecDepth 100000
set_option maxHeartbeats 1000000
namespace Fv
open PySem PySem.Spec PyProof.Rows L2
/-! sorted(t), t a tuple of whole numbers -/
def rSortT (K : PySem.W.Frag) : List V → Hp → VK → Prop := fun vs H Q => ∃ (a : Addr) (ns : List Int), vs = [V.ref a] ∧ SqT K H a (ns.map V.int) ∧ ns.length < 64 ∧
  ∀ (zs : List Int) (p : Addr), zs.Perm ns → zs.Pairwise (· ≤ ·) → H p = none → Q (.ref p) (upd H p (.lst (zs.map V.int)))
theorem cr_sortT {X : Cx} {K : PySem.W.Frag} (e : X.K = K) : CallR X (.builtin "sorted") (rSortT K) := by
  subst e
  intro pins s σ H vs us Q I r h
  obtain ⟨a, ns, rfl, hs, h64, q⟩ := h
  obtain ⟨its, rv, pt, hz⟩ := I.tuple hs
  rw [Vals.ref1 r]
  have hi := rv.ints
  have hl : its.length = ns.length := hi.length
  obtain ⟨o, ho, hc, n, hd⟩ := id pt
  refine Calls.call_function_entry kind_sorted plain_sorted entry_sorted (args_sorted1 _) ?_
  unfold Builtin.«sorted»
  refine wpAny_bind (m := checkCount "sorted" 1 1 _) (wpAny_pure (wpAny_bind (wpAny_collect_seq a (.inr rfl) ho hc hd (fun h' k => wpAny_bind (wpAny_newList ?_)) ?_)))
  · have hoL : (h'.push (seqObj "list" its.toArray 0)).get? h'.objs.size = some (seqObj "list" its.toArray 0) := Heap.get?_push_size _ rfl
    have J : Inv X pins σ H { s with heap := h', toks := s.toks } := I.kept (t' := s.toks) k
    show wpAny _ _ _ _ _ { s with heap := h'.push (seqObj "list" its.toArray 0) }
    refine wpAny_bind (wpAny_holding (wpAny_call_entry slot_list_sort ⟨_, hoL, rfl⟩ entry_list_sort (list_sort_tree hoL hi (by rw [hl]; exact h64) fun out zs a1 a2 a3 => ⟨_, rfl, wpAny_pure ⟨_, rfl, ?_⟩⟩) (args_list_sort _)))
    obtain ⟨ep, he⟩ := sortedHeap_at (vs := its) (out := out) hoL
    have hlen : (zs.map V.int).length ≤ sizeLine := by rw [List.length_map, a2.length_eq]; exact szLe (by omega)
    refine ⟨.ref h'.objs.size, upd H h'.objs.size (.lst (zs.map V.int)), J.laid (t' := s.toks) (fun b u e => ?_) (Nat.le_refl _) ⟨hlen, out.toList, ep, vals_of_ints a1, he⟩, rfl, q zs _ a2 a3 (J.hok.fresh (Nat.le_refl _))⟩
    have hb := Heap.lt_size e
    refine (sortedHeap_old (Nat.ne_of_lt hb) (by rw [size_push']; exact Nat.lt_succ_of_lt hb)).trans ?_
    exact Heap.get?_push_of_some _ e
  · rw [List.size_toArray, hl]
    exact szLe (by omega)
end Fv
/-! trees with a block hung elsewhere, or called anew -/
namespace Fv
def wayN (hs : List Nat) : Nat → Nat → List Nat
  | 0, _ => []
  | n + 1, k => if k = 0 then [] else up hs k :: wayN hs n (up hs k)
def way (hs : List Nat) (k : Nat) : List Nat := wayN hs hs.length k
theorem way_mem (hs : List Nat) (x : Nat) : ∀ n k, x ∈ wayN hs n k ↔ ∃ j, j < n ∧ upN hs j k ≠ 0 ∧ upN hs (j + 1) k = x
  | 0, k => by
    constructor
    · intro h
      cases h
    · rintro ⟨j, h, _⟩
      omega
  | n + 1, k => by
    show x ∈ (if k = 0 then [] else up hs k :: wayN hs n (up hs k)) ↔ _
    by_cases h0 : k = 0
    · rw [if_pos h0]
      constructor
      · intro h
        cases h
      · rintro ⟨j, _, h, _⟩
        rw [h0] at h
        exact (h (upN_zero hs j)).elim
    · rw [if_neg h0, List.mem_cons, way_mem hs x n (up hs k)]
      constructor
      · rintro (rfl | ⟨j, h1, h2, h3⟩)
        · exact ⟨0, by omega, h0, rfl⟩
        · exact ⟨j + 1, by omega, h2, h3⟩
      · rintro ⟨j, h1, h2, h3⟩
        cases j with
        | zero => exact .inl h3.symm
        | succ j => exact .inr ⟨j, by omega, h2, h3⟩
theorem up_get {hs : List Nat} {k : Nat} (h1 : 1 ≤ k) (h2 : k ≤ hs.length) : hs[k - 1]? = some (up hs k) := by
  have h : k - 1 < hs.length := by omega
  rw [List.getElem?_eq_getElem h, up_at (by omega) (List.getElem?_eq_getElem h)]
/-- on the way from p: b is p, or above it -/
theorem on_way {hs : List Nat} (t : IsTree hs) {b p : Nat} (hb : 1 ≤ b) (hp : p ≤ hs.length) (n1 : p ≠ b) (n2 : b ∉ way hs p) : ∀ j, upN hs j p ≠ b := by
  intro j e
  cases j with
  | zero => exact n1 e
  | succ j =>
    have nz : upN hs j p ≠ 0 := fun h => by
      rw [upN_succ, h] at e
      have : up hs 0 = 0 := rfl
      omega
    refine n2 ((way_mem hs b _ _).mpr ⟨j, ?_, nz, e⟩)
    refine Nat.lt_of_not_le fun hle => nz ?_
    exact upN_more (t.comes p hp) hle
/-- block b under p -/
def put (hs : List Nat) (b p : Nat) : List Nat := hs.set (b - 1) p
theorem put_len (hs : List Nat) (b p : Nat) : (put hs b p).length = hs.length := List.length_set
theorem up_put {hs : List Nat} {b p : Nat} (hb : 1 ≤ b) (hb2 : b ≤ hs.length) (k : Nat) : up (put hs b p) k = if k = b then p else up hs k := by
  unfold up put
  by_cases h0 : k = 0
  · rw [if_pos h0, if_neg (by omega), if_pos h0]
  · rw [if_neg h0, if_neg h0, List.getD_eq_getElem?_getD, List.getElem?_set, List.getD_eq_getElem?_getD]
    by_cases h : k = b
    · subst h
      rw [if_pos rfl, if_pos rfl, if_pos (by omega)]
      rfl
    · rw [if_neg (by omega), if_neg h]
theorem upN_put {hs : List Nat} {b p : Nat} (hb : 1 ≤ b) (hb2 : b ≤ hs.length) {k : Nat} : ∀ j, (∀ i, i < j → upN hs i k ≠ b) → upN (put hs b p) j k = upN hs j k
  | 0, _ => rfl
  | j + 1, h => by
    rw [upN_succ, upN_succ, upN_put hb hb2 j fun i hi => h i (by omega), up_put hb hb2, if_neg (h j (by omega))]
theorem put_tree {hs : List Nat} (t : IsTree hs) {b p : Nat} (hb : 1 ≤ b) (hb2 : b ≤ hs.length) (hp : p ≤ hs.length) (n1 : p ≠ b) (n2 : b ∉ way hs p) : IsTree (put hs b p) := by
  have np := on_way t hb hp n1 n2
  have hle : ∀ x ∈ put hs b p, x ≤ (put hs b p).length := fun x hx => by
    rw [put_len]
    rcases List.mem_or_eq_of_mem_set hx with hx | rfl
    · exact t.le x hx
    · exact hp
  have hpz : upN (put hs b p) hs.length p = 0 := by
    rw [upN_put hb hb2 _ fun i _ => np i]
    exact t.comes p hp
  refine ⟨by rw [put_len]; exact t.pos, by rw [put_len]; exact t.most, hle, fun k hk => ?_⟩
  have hk' : k ≤ hs.length := by rwa [put_len] at hk
  have go : ∀ j, upN hs j k = b → upN (put hs b p) (put hs b p).length k = 0 := by
    intro j
    induction j using Nat.strongRecOn with
    | ind j ih =>
      intro hj
      by_cases hx : ∃ i, i < j ∧ upN hs i k = b
      · obtain ⟨i, hi, e⟩ := hx
        exact ih i hi e
      · have e := upN_put (p := p) hb hb2 (k := k) j fun i hi e => hx ⟨i, hi, e⟩
        refine comes_by (j := j + (1 + hs.length)) hle hk ?_
        rw [upN_add, e, hj, upN_add]
        show upN (put hs b p) hs.length (up (put hs b p) b) = 0
        rw [up_put hb hb2, if_pos rfl]
        exact hpz
  by_cases hx : ∃ j, upN hs j k = b
  · obtain ⟨j, e⟩ := hx
    exact go j e
  · refine comes_by (j := hs.length) hle hk ?_
    rw [upN_put hb hb2 _ fun i _ e => hx ⟨i, e⟩]
    exact t.comes k hk'
/-! names -/
def IsOrd (n : Nat) (ms : List Nat) : Prop := ms.Perm (List.range' 1 n)
theorem IsOrd.len {n : Nat} {ms : List Nat} (o : IsOrd n ms) : ms.length = n := by rw [o.length_eq, List.length_range']
theorem IsOrd.mem {n : Nat} {ms : List Nat} (o : IsOrd n ms) {x : Nat} : x ∈ ms ↔ 1 ≤ x ∧ x ≤ n := by
  rw [o.mem_iff, List.mem_range'_1]
  omega
theorem IsOrd.nodup {n : Nat} {ms : List Nat} (o : IsOrd n ms) : ms.Nodup := o.nodup_iff.mpr List.nodup_range'
theorem IsOrd.rg {n k : Nat} {ms : List Nat} (o : IsOrd n ms) (h1 : 1 ≤ k) (h2 : k ≤ n) : 1 ≤ up ms k ∧ up ms k ≤ n := o.mem.mp (List.mem_of_getElem? (up_get h1 (by rw [o.len]; exact h2)))
theorem IsOrd.rg0 {n k : Nat} {ms : List Nat} (o : IsOrd n ms) (h2 : k ≤ n) : up ms k ≤ n := by
  by_cases h : k = 0
  · subst h
    exact Nat.zero_le _
  · exact (o.rg (by omega) h2).2
theorem IsOrd.inj {n k l : Nat} {ms : List Nat} (o : IsOrd n ms) (hk : k ≤ n) (hl : l ≤ n) (e : up ms k = up ms l) : k = l := by
  by_cases hk0 : k = 0
  · subst hk0
    by_cases hl0 : l = 0
    · exact hl0.symm
    · have := (o.rg (k := l) (by omega) hl).1
      rw [← e] at this
      exact absurd this (by show ¬ 1 ≤ 0; omega)
  · by_cases hl0 : l = 0
    · subst hl0
      have := (o.rg (k := k) (by omega) hk).1
      rw [e] at this
      exact absurd this (by show ¬ 1 ≤ 0; omega)
    · have h1 := up_get (hs := ms) (k := k) (by omega) (by rw [o.len]; exact hk)
      have h2 := up_get (hs := ms) (k := l) (by omega) (by rw [o.len]; exact hl)
      rw [e] at h1
      have h3 : k - 1 < ms.length := by rw [o.len]; omega
      have := (List.getElem?_inj h3 o.nodup).mp (h1.trans h2.symm)
      omega
theorem IsOrd.surj {n x : Nat} {ms : List Nat} (o : IsOrd n ms) (h1 : 1 ≤ x) (h2 : x ≤ n) : ∃ k, 1 ≤ k ∧ k ≤ n ∧ up ms k = x := by
  obtain ⟨i, hi, e⟩ := List.getElem_of_mem (o.mem.mpr ⟨h1, h2⟩)
  have := o.len
  exact ⟨i + 1, by omega, by omega, up_at (by omega) (by rw [Nat.add_sub_cancel, List.getElem?_eq_getElem hi, e])⟩
/-- the first i blocks called anew -/
def callN (hs ms : List Nat) : Nat → List Nat
  | 0 => List.replicate hs.length 0
  | i + 1 => (callN hs ms i).set (up ms (i + 1) - 1) (up ms (up hs (i + 1)))
def call2 (hs ms : List Nat) : List Nat := callN hs ms hs.length
theorem callN_len (hs ms : List Nat) : ∀ i, (callN hs ms i).length = hs.length
  | 0 => List.length_replicate
  | i + 1 => by
    show ((callN hs ms i).set _ _).length = _
    rw [List.length_set, callN_len hs ms i]
theorem callN_get {hs ms : List Nat} (o : IsOrd hs.length ms) : ∀ i, i ≤ hs.length → ∀ c, 1 ≤ c → c ≤ i → (callN hs ms i)[up ms c - 1]? = some (up ms (up hs c))
  | 0, _, c, h1, h2 => absurd h2 (by omega)
  | i + 1, hi, c, h1, h2 => by
    show ((callN hs ms i).set (up ms (i + 1) - 1) (up ms (up hs (i + 1))))[up ms c - 1]? = _
    have a := o.rg (k := i + 1) (by omega) hi
    have b := o.rg (k := c) h1 (by omega)
    rw [List.getElem?_set]
    by_cases e : c = i + 1
    · subst e
      rw [if_pos rfl, if_pos (by rw [callN_len]; omega)]
    · have ne : up ms (i + 1) - 1 ≠ up ms c - 1 := fun h => e (o.inj (by omega) hi (by omega))
      rw [if_neg ne]
      exact callN_get o i (by omega) c h1 (by omega)
theorem call2_len (hs ms : List Nat) : (call2 hs ms).length = hs.length := callN_len hs ms _
theorem call2_up {hs ms : List Nat} (o : IsOrd hs.length ms) {c : Nat} (h2 : c ≤ hs.length) : up (call2 hs ms) (up ms c) = up ms (up hs c) := by
  by_cases h0 : c = 0
  · subst h0
    rfl
  · have a := o.rg (k := c) (by omega) h2
    exact up_at (by omega) (callN_get o _ (Nat.le_refl _) c (by omega) h2)
theorem call2_upN {hs ms : List Nat} (t : IsTree hs) (o : IsOrd hs.length ms) {c : Nat} (h2 : c ≤ hs.length) : ∀ j, upN (call2 hs ms) j (up ms c) = up ms (upN hs j c)
  | 0 => rfl
  | j + 1 => by
    rw [upN_succ, upN_succ, call2_upN t o h2 j]
    exact call2_up o (upN_le t.le j c h2)
/-- two lists that tell alike of all blocks -/
theorem same_ups {xs ys : List Nat} (hl : xs.length = ys.length) (h : ∀ k, 1 ≤ k → k ≤ xs.length → up xs k = up ys k) : xs = ys := by
  refine List.ext_getElem? fun i => ?_
  by_cases hi : i < xs.length
  · have a := up_get (hs := xs) (k := i + 1) (by omega) (by omega)
    have b := up_get (hs := ys) (k := i + 1) (by omega) (by omega)
    rw [Nat.add_sub_cancel] at a b
    rw [a, b, h (i + 1) (by omega) (by omega)]
  · rw [List.getElem?_eq_none (by omega), List.getElem?_eq_none (by omega)]
theorem call2_tree {hs ms : List Nat} (t : IsTree hs) (o : IsOrd hs.length ms) : IsTree (call2 hs ms) := by
  refine ⟨by rw [call2_len]; exact t.pos, by rw [call2_len]; exact t.most, fun x hx => ?_, fun k hk => ?_⟩
  · rw [call2_len]
    obtain ⟨i, hi, e⟩ := List.getElem_of_mem hx
    rw [call2_len] at hi
    obtain ⟨c, c1, c2, ec⟩ := o.surj (x := i + 1) (by omega) (by omega)
    have hu := call2_up o c2
    rw [ec] at hu
    have hg := up_get (hs := call2 hs ms) (k := i + 1) (by omega) (by rw [call2_len]; omega)
    rw [Nat.add_sub_cancel, List.getElem?_eq_getElem (by rw [call2_len]; exact hi), hu] at hg
    rw [← e, Option.some.inj hg]
    exact o.rg0 (up_le t.le c)
  · rw [call2_len] at hk ⊢
    by_cases h0 : k = 0
    · subst h0
      exact upN_zero _ _
    · obtain ⟨c, c1, c2, ec⟩ := o.surj (x := k) (by omega) hk
      rw [← ec, call2_upN t o c2, t.comes c c2]
      rfl
/-- called behind moved, and moved behind called -/
theorem call_put {hs ms : List Nat} (o : IsOrd hs.length ms) {b p : Nat} (hb : 1 ≤ b) (hb2 : b ≤ hs.length) (hp : p ≤ hs.length) : call2 (put hs b p) ms = put (call2 hs ms) (up ms b) (up ms p) := by
  have rb := o.rg hb hb2
  have op : IsOrd (put hs b p).length ms := by
    rw [put_len]
    exact o
  refine same_ups (by rw [call2_len, put_len, put_len, call2_len]) fun k h1 h2 => ?_
  rw [call2_len, put_len] at h2
  obtain ⟨c, c1, c2, ec⟩ := o.surj h1 h2
  rw [← ec, call2_up op (by rw [put_len]; exact c2), up_put hb hb2, up_put (by omega) (by rw [call2_len]; omega), call2_up o c2]
  by_cases e : c = b
  · subst e
    rw [if_pos rfl, if_pos rfl]
  · rw [if_neg e, if_neg fun h => e (o.inj c2 hb2 h)]
theorem call_free {hs ms : List Nat} (t : IsTree hs) (o : IsOrd hs.length ms) {b p : Nat} (hb : 1 ≤ b) (hb2 : b ≤ hs.length) (hp : p ≤ hs.length) (n1 : p ≠ b) (n2 : b ∉ way hs p) : up ms p ≠ up ms b ∧ up ms b ∉ way (call2 hs ms) (up ms p) := by
  refine ⟨fun e => n1 (o.inj hp hb2 e), fun h => ?_⟩
  obtain ⟨j, _, _, e⟩ := (way_mem _ _ _ _).mp h
  rw [call2_upN t o hp] at e
  exact on_way t hb hp n1 n2 (j + 1) (o.inj (upN_le t.le _ p hp) hb2 e)
/-- in the order turned about it is the first one again -/
theorem call_back {hs ms ks : List Nat} (t : IsTree hs) (o : IsOrd hs.length ms) (o' : IsOrd hs.length ks) (h : ∀ b, 1 ≤ b → b ≤ hs.length → up ks (up ms b) = b) : call2 (call2 hs ms) ks = hs := by
  have o2 : IsOrd (call2 hs ms).length ks := by
    rw [call2_len]
    exact o'
  refine same_ups (by rw [call2_len, call2_len]) fun k h1 h2 => ?_
  rw [call2_len, call2_len] at h2
  have rk := o.rg h1 h2
  have e := call2_up o2 (c := up ms k) (by rw [call2_len]; exact rk.2)
  rw [h k h1 h2, call2_up o h2] at e
  rw [e]
  by_cases h0 : up hs k = 0
  · rw [h0]
    rfl
  · exact h _ (by omega) (up_le t.le k)
end Fv
set_option maxRecDepth 100000
set_option maxHeartbeats 1000000
namespace Fv
open PySem PySem.Spec L2
section
variable {X : Cx} {K : PySem.W.Frag} {H : Hp} {Q : VK} {σ : L2.St} {a b : Addr} {xs ys : List V} {l m : List Nat}
theorem sl_tupAK (e : X.K = K) : SlR X (rSlA K) := by
  subst e
  exact sl_tupA
theorem op_catAK (e : X.K = K) : OpR X (binaryOp .Add) (rCatA K) := by
  subst e
  exact op_catA
theorem x_slA {lo hi : Option Int} (h : H a = some (.tup xs)) (q : ∀ D H', Same H H' → H' D = some (.tup (cutV xs lo hi)) → Q (.ref D) H') : rSlA K (.ref a) lo hi H Q := by
  refine ⟨a, xs, rfl, .of h, fun hw => ?_, fun _ p hp => q p _ (same_new (Same.refl _) hp) upd_same⟩
  refine q a H (Same.refl _) ?_
  rw [h]
  unfold cutV
  rw [hw.1, hw.2, List.drop_zero, Nat.sub_zero, List.take_length]
theorem x_catA (h1 : H a = some (.tup xs)) (h2 : H b = some (.tup ys)) (hl : xs.length + ys.length ≤ 10000) (q : ∀ D H', Same H H' → H' D = some (.tup (xs ++ ys)) → Q (.ref D) H') : rCatA K (.ref a) (.ref b) H Q := by
  refine ⟨a, b, xs, ys, rfl, rfl, .of h1, .of h2, szLe (by omega), fun e => ?_, fun _ e => ?_, fun _ _ p hp => q p _ (same_new (Same.refl _) hp) upd_same⟩
  · subst e
    exact q b H (Same.refl _) h2
  · subst e
    exact q a H (Same.refl _) (by rw [h1, List.append_nil])
theorem cut_take (xs : List V) (k : Nat) : cutV xs none (some (k : Int)) = xs.take k := by
  unfold cutV
  rw [HT.sIx_none, HT.sIx_nat, List.drop_zero, Nat.sub_zero]
  by_cases h : k ≤ xs.length
  · rw [Nat.min_eq_left h]
  · rw [Nat.min_eq_right (by omega), List.take_length, List.take_of_length_le (by omega)]
theorem cut_drop (xs : List V) (k : Nat) : cutV xs (some (k : Int)) none = xs.drop k := by
  unfold cutV
  rw [HT.sIx_nat, HT.sIx_none]
  by_cases h : k ≤ xs.length
  · rw [Nat.min_eq_left h]
    exact List.take_of_length_le (by rw [List.length_drop]; exact Nat.le_refl _)
  · rw [Nat.min_eq_right (by omega), List.drop_length, List.drop_of_length_le (by omega), List.take_nil]
theorem put_cut {hs : List Nat} {b p : Nat} (h1 : 1 ≤ b) (h2 : b ≤ hs.length) : (nats hs).take (b - 1) ++ [V.int (p : Nat)] ++ (nats hs).drop b = nats (put hs b p) := by
  have e : put hs b p = hs.take (b - 1) ++ p :: hs.drop (b - 1 + 1) := by
    unfold put
    rw [List.set_eq_take_append_cons_drop, if_pos (by omega)]
  rw [e, nats_append, Nat.sub_add_cancel h1, List.append_assoc]
  unfold nats
  rw [List.map_take, List.map_cons, List.map_drop]
  rfl
theorem x_eqLst (h1 : SqL K H a (nats l)) (h2 : SqL K H b (nats m)) (q : Q (.bl (decide (l = m))) H) : rEqD K (.ref a) (.ref b) H Q := by
  refine ⟨.list (dn l), .list (dn m), .lst h1 (dpAll_nats l), .lst h2 (dpAll_nats m), ?_, ?_, ?_⟩
  · have := dn_shaped l
    exact this
  · have := dn_shaped m
    exact this
  · rw [PyData.eqv, dn_eqv]
    exact q
theorem x_inNL {k : Nat} (h : SqL K H a (nats l)) (q : Q (.bl (decide (k ∈ l))) H) : rIn K false (.int k) (.ref a) H Q := by
  refine ⟨a, _, rfl, .inl h, rfl, flat_nats l, ?_⟩
  show Q (.bl (inV (.int k) (nats l))) H
  rw [in_nats]
  exact q
theorem take_snoc {α : Type} {l : List α} {i : Nat} {x : α} (h : l[i]? = some x) : l.take (i + 1) = l.take i ++ [x] := by
  rw [List.take_succ, h]
  rfl
theorem x_star {te : TE} {t : TA} {R : List V → Hp → Prop} (h : te σ H fun x H1 => ∃ p xs, x = V.ref p ∧ (SqT K H1 p xs ∨ SqL K H1 p xs) ∧ t σ H1 fun ys H2 => R (xs ++ ys) H2) : StX.tStar K te t σ H R := h
theorem x_sortT {ns : List Int} (h : SqT K H a (ns.map V.int)) (h64 : ns.length < 64) (q : ∀ (zs : List Int) (p : Addr), zs.Perm ns → zs.Pairwise (· ≤ ·) → H p = none → Q (.ref p) (upd H p (.lst (zs.map V.int)))) : rSortT K [.ref a] H Q := ⟨a, ns, rfl, h, h64, q⟩
/-- an order of all blocks, in order -/
theorem sorted_ord {n : Nat} {ms : List Nat} {zs : List Int} (o : IsOrd n ms) (hp : zs.Perm (ms.map fun (k : Nat) => (k : Int))) (hs : zs.Pairwise (· ≤ ·)) : zs.map V.int = nats (List.range' 1 n) := by
  have e : zs = (List.range' 1 n).map fun (k : Nat) => (k : Int) := by
    refine (hp.trans (o.map _)).eq_of_pairwise (fun a b _ _ h1 h2 => Int.le_antisymm h1 h2) hs ?_
    rw [List.pairwise_map]
    refine (List.pairwise_le_range' (s := 1) (n := n)).imp fun {x y} hxy => ?_
    exact Int.ofNat_le.mpr hxy
  rw [e, List.map_map]
  rfl
theorem nats_ints (l : List Nat) : (l.map fun (k : Nat) => (k : Int)).map V.int = nats l := by
  rw [List.map_map]
  rfl
theorem names_at {ms : List Nat} {k : Nat} (h : k ≤ ms.length) : atI (nats (0 :: ms)) (k : Int) = some (.int (up ms k : Nat)) := by
  refine nats_at ?_
  cases k with
  | zero => rfl
  | succ k => exact up_get (hs := ms) (k := k + 1) (by omega) h
end
theorem below_mem {hs : List Nat} {b p : Nat} (hp : p ≤ hs.length) : p ∈ (List.range' 1 hs.length).filter (fun c => decide (b ∈ way hs c)) ↔ b ∈ way hs p := by
  rw [List.mem_filter, List.mem_range'_1, decide_eq_true_eq]
  constructor
  · exact fun h => h.2
  · intro h
    refine ⟨⟨?_, by omega⟩, h⟩
    refine Nat.one_le_iff_ne_zero.mpr fun e => ?_
    subst e
    obtain ⟨j, _, nz, _⟩ := (way_mem hs b _ _).mp h
    exact nz (upN_zero hs j)
end Fv
set_option maxRecDepth 100000
set_option maxHeartbeats 1000000
namespace PySem
open Sem (wp)
set_option maxHeartbeats 1000000 in
theorem meets_enumerate_new0 {v : Value} {o : Obj} {H : Heap → Prop} (B : Begins v o H) :
    Meets (Builtin.«enumerate.__new__» ⟨[.type "enumerate", v], []⟩) (fun _ R s => H s.heap ∧
      R (.ok (.ret (.ref (s.heap.push o).objs.size))) { s with heap := (s.heap.push o).push { cls := .type "enumerate", data := .fields #[.none, .bool false, .ref s.heap.objs.size, rawInt 0, .none, .none] } }) :=
  .of_wp fun prog w A R s h => by
    obtain ⟨hp, g, d, tk, os⟩ := s; obtain ⟨h1, h⟩ := h
    have hsub := sub_enumerate
    have q1 : ∀ {A' : Around} {E : Value → Shared → Prop} {Q : Value → Shared → Prop}, Q (.ref hp.objs.size) ⟨hp.push o, g, d, tk, os⟩ → wpAny (model prog w) A' (pyIter v) Q E ⟨hp, g, d, tk, os⟩ :=
      fun q => B.iter prog w _ _ ⟨hp, g, d, tk, os⟩ _ h1 q
    wp_walk using q1
    refine wpAny_stack_any fun st => wpAny_pure ?_
    split
    · rename_i c _ _ _ _ _
      cases (c == Value.type "enumerate")
      · wp_walk using q1
        exact ⟨_, rfl, h⟩
      · wp_walk using q1
        exact ⟨_, rfl, h⟩
    · wp_walk using q1
      exact ⟨_, rfl, h⟩
section
variable {prog : Program} {w : World} {A : Around} {E : Value → Shared → Prop} {s : Shared}
theorem enum_begins0 {v : Value} {o : Obj} {H : Heap → Prop} {Q : Value → Shared → Prop} (B : Begins v o H) (h1 : H s.heap)
    (h : ∀ h', IsEnum h' (s.heap.objs.size + 1) s.heap.objs.size 0 .none → h'.get? s.heap.objs.size = some o → h'.objs.size = s.heap.objs.size + 2 →
      (∀ b o, s.heap.get? b = some o → h'.get? b = some o) → Q (.ref (s.heap.objs.size + 1)) { s with heap := h' }) :
    wpAny (model prog w) A (call (.type "enumerate") [v]) Q E s := by
  refine callType_new F.called_enumerate (by decide) (F.typeCall_enumerate_1 _) (F.newCall_enumerate_1 _) (fun obj => F.args_object_init_2 obj _) F.entry_enumerate_new
    (meets_enumerate_new0 B) ⟨h1, ?_⟩
  have hz : (s.heap.push o).objs.size = s.heap.objs.size + 1 := Heap.size_push ..
  show _ ∧ _
  rw [hz]
  have he : IsEnum ((s.heap.push o).push { cls := .type "enumerate", data := .fields #[.none, .bool false, .ref s.heap.objs.size, rawInt 0, .none, .none] }) (s.heap.objs.size + 1) s.heap.objs.size 0 .none := by
    have := Heap.get?_push_size (s.heap.push o) (o := { cls := .type "enumerate", data := .fields #[.none, .bool false, .ref s.heap.objs.size, rawInt 0, .none, .none] }) rfl
    rw [hz] at this; exact this
  refine ⟨⟨_, he, rfl⟩, h _ he (Heap.get?_push_of_some _ (Heap.get?_push_size _ B.free)) (by rw [Heap.size_push, hz]) fun b o x => Heap.get?_push_of_some _ (Heap.get?_push_of_some _ x)⟩
end
end PySem
namespace Fv
open PySem PySem.Spec L2
theorem pi_enumT0 {X : Cx} {K : PySem.W.Frag} {e : Expr} {ta : TA} {p pos tpos : Pos} {elts : List Expr} {kk : Nat} (eK : X.K = K) (hc : X.calm = true) (hg : Gl X "enumerate") (hm : X.mg "enumerate" = none) (ha : PA X [e] ta) (hs : starEach [e] X.env = [(false, eval e X.env)] := by rfl) :
    PI X (.Tuple elts kk tpos) (.Call (.Name "enumerate" p) [e] [] pos) (iEnT K 0 ta) := by
  subst eK
  refine ⟨fun pins s σ H R I h => ?_⟩
  refine PyProof.Rows.Call_ (ld_blt I hg hm (u := .type "enumerate") (by decide +kernel) (PyProof.Rows.callWith_type1 (thn (ha.run pos pins s σ H _ I h) fun us s1 ⟨vs, H1, I1, r1, t, xs, ex, hq, q⟩ => ?_) hs rfl))
  subst ex
  cases r1 with
  | cons r rr =>
    cases rr
    cases r
    obtain ⟨its, rv, p', hz⟩ := I1.tuple hq
    refine enum_begins0 (begins_tuple t its.toArray) (isTuple_of p') fun h' he hit hsz hkp => wpAny_pyIter_enum he ?_
    have I3 : Inv X pins σ H1 { s1 with heap := h' } := I1.kept (t' := s1.toks) hkp
    have ht : t < s1.heap.objs.size := p'.lt
    have hn : ∀ b, s1.heap.objs.size ≤ b → H1 b = none := fun b hb => I1.hok.fresh hb
    refine ⟨s1.heap.objs.size + 1, [s1.heap.objs.size + 1, s1.heap.objs.size], _, _, H1, rfl, I3, turn_enumT 0 t (s1.heap.objs.size + 1) s1.heap.objs.size (Nat.ne_of_lt ht) (Nat.succ_ne_self _) (Nat.ne_of_gt (Nat.lt_succ_of_lt ht)),
      ⟨⟨.none, ?_⟩, ⟨_, hit, rfl, rfl⟩⟩, fun b hb => ?_, q⟩
    · exact he
    · have hle : s1.heap.objs.size ≤ b := by
        rcases List.mem_cons.mp hb with rfl | hb
        · exact Nat.le_succ _
        · rw [List.mem_singleton.mp hb]
          exact Nat.le_refl _
      exact I1.fpOk hle (hn b hle)
theorem pi_enumLK {X : Cx} {K : PySem.W.Frag} {e : Expr} {ta : TA} {p pos tpos : Pos} {elts : List Expr} {kk : Nat} (eK : X.K = K) (hg : Gl X "enumerate") (hm : X.mg "enumerate" = none) (ha : PA X [e] ta) (hs : starEach [e] X.env = [(false, eval e X.env)] := by rfl) :
    PI X (.Tuple elts kk tpos) (.Call (.Name "enumerate" p) [e] [] pos) (iEnum K ta) := by
  subst eK
  exact pi_enum hg hm ha hs
theorem x_enl {K : PySem.W.Frag} {σ : L2.St} {H : Hp} {R : It → Hp → Prop} {ts : TA} (h : ts σ H fun vs H1 => ∃ (t : Addr) (xs : List V), vs = [.ref t] ∧ SqL K H1 t xs ∧ R (Ite K t) H1) : iEnum K ts σ H R := h
theorem x_enl1 {K : PySem.W.Frag} {H : Hp} {a : Addr} {xs : List V} {R : Addr → Prop} (h : SqL K H a xs) (q : R a) : ∃ (t : Addr) (ys : List V), [V.ref a] = [.ref t] ∧ SqL K H t ys ∧ R t := ⟨a, xs, rfl, h, q⟩
theorem lp_enumL {K : PySem.W.Frag} {t : Addr} {xs : List V} {g : TG} {tb : TS} {nx : L2.St → Hp → Prop} {rt : VK} {σ : L2.St} {H : Hp} (Pv : Nat → L2.St → Hp → Prop) (h0 : Pv 0 σ H) (hl : ∀ i σ H, i ≤ xs.length → Pv i σ H → SqL K H t xs)
    (hs : ∀ i x σ H T, xs[i]? = some x → Pv i σ H → H T = none → g (.ref T) σ (upd H T (.tup [.int (i : Nat), x])) fun σ2 H2 => tb { nx := Pv (i + 1), rt := rt, bk := nx, ct := Pv (i + 1) } σ2 H2) (hd : ∀ σ H, Pv xs.length σ H → nx σ H) :
    ∃ W : Nat → Nat → L2.St → Hp → Prop, (∃ m, W 0 m σ H) ∧ ∀ i m σ H, W i m σ H → ((Ite K t).stop i H ∧ nx σ H) ∨ ((Ite K t).go i H ∧ ∃ N : L2.St → Hp → Prop, (∀ σ' H', N σ' H' → ∃ m', m' < m ∧ W (i + 1) m' σ' H') ∧ ∀ x H', (Ite K t).yld i H x H' → g x σ H' fun σ2 H2 => tb { nx := N, rt := rt, bk := nx, ct := N } σ2 H2) := by
  refine ⟨fun i m σ H => m = xs.length - i ∧ i ≤ xs.length ∧ Pv i σ H, ⟨_, rfl, Nat.zero_le _, h0⟩, ?_⟩
  rintro i m σ H ⟨rfl, hi, p⟩
  have q := hl i σ H hi p
  by_cases hlt : i < xs.length
  · refine .inr ⟨⟨xs, xs[i], q, List.getElem?_eq_getElem hlt⟩, Pv (i + 1), fun σ' H' p' => ⟨_, by omega, rfl, hlt, p'⟩, fun x H' y => ?_⟩
    obtain ⟨T, z, rfl, hT, rfl, hz⟩ := y
    exact hs i z σ H T (hz xs q) p hT
  · have e : i = xs.length := by omega
    subst e
    exact .inl ⟨⟨xs, q, Nat.le_refl _⟩, hd σ H p⟩
theorem lc_enumL {K : PySem.W.Frag} {t : Addr} {xs : List V} {g : TG} {tt : TT} {te : TE} {vs : List Nat} {σ : L2.St} {H1 : Hp} {D : Addr} {Qd : Hp → Prop} (Pv : Nat → Hp → Prop) (h0 : Pv 0 (upd H1 D (.lst []))) (hl : ∀ i H, i ≤ xs.length → Pv i H → SqL K H t xs)
    (hs : ∀ i x H T, xs[i]? = some x → Pv i H → H T = none → g (.ref T) (wipe σ vs) (upd H T (.tup [.int (i : Nat), x])) fun σ2 H2 => wipe σ2 vs = wipe σ vs ∧ tt σ2 H2 fun b H3 =>
      if b = true then te σ2 H3 fun y H4 => ∃ acc, H4 D = some (.lst acc) ∧ acc.length < sizeLine ∧ Pv (i + 1) (upd H4 D (.lst (acc ++ [y]))) else Pv (i + 1) H3) (hd : ∀ H, Pv xs.length H → Qd H) :
    ∃ W : Nat → Nat → Hp → Prop, (∃ m, W 0 m (upd H1 D (.lst []))) ∧ ∀ i m H, W i m H → ((Ite K t).stop i H ∧ Qd H) ∨ ((Ite K t).go i H ∧ ∃ Nx : Hp → Prop, (∀ H', Nx H' → ∃ m', m' < m ∧ W (i + 1) m' H') ∧ ∀ x H', (Ite K t).yld i H x H' → g x (wipe σ vs) H' fun σ2 H2 => wipe σ2 vs = wipe σ vs ∧ tt σ2 H2 fun b H3 =>
        if b = true then te σ2 H3 fun y H4 => ∃ acc, H4 D = some (.lst acc) ∧ acc.length < sizeLine ∧ Nx (upd H4 D (.lst (acc ++ [y]))) else Nx H3) := by
  refine ⟨fun i m H => m = xs.length - i ∧ i ≤ xs.length ∧ Pv i H, ⟨_, rfl, Nat.zero_le _, h0⟩, ?_⟩
  rintro i m H ⟨rfl, hi, p⟩
  have q := hl i H hi p
  by_cases hlt : i < xs.length
  · refine .inr ⟨⟨xs, xs[i], q, List.getElem?_eq_getElem hlt⟩, Pv (i + 1), fun H' p' => ⟨_, by omega, rfl, hlt, p'⟩, fun x H' y => ?_⟩
    obtain ⟨T, z, rfl, hT, rfl, hz⟩ := y
    exact hs i z H T (hz xs q) p hT
  · have e : i = xs.length := by omega
    subst e
    exact .inl ⟨⟨xs, q, Nat.le_refl _⟩, hd H p⟩
/-! flags and None -/
def wdV : Option Bool → V
  | none => .non
  | some b => .bl b
def wds (c : List (Option Bool)) : List V := c.map wdV
def isTr : Value → Bool
  | .bool b => b
  | _ => false
theorem isTr_count : ∀ {us : List Value} {c : List (Option Bool)}, Vals (wds c) us → us.countP isTr = c.count (some true)
  | _, [], .nil => rfl
  | _, some b :: c, .cons r t => by
    have ih := isTr_count (c := c) t
    have e : _ = Value.bool b := r
    subst e
    rw [List.countP_cons, List.count_cons, ih]
    cases b <;> rfl
  | _, none :: c, .cons r t => by
    have ih := isTr_count (c := c) t
    have e : _ = Value.none := r
    subst e
    rw [List.countP_cons, List.count_cons, ih]
    rfl
theorem isTr_eq {A : Around} {s : Shared} : ∀ {us : List Value} {c : List (Option Bool)}, Vals (wds c) us → ∀ y ∈ us, SeqAt.EqAt A s y (.bool true) (isTr y)
  | _, [], .nil => fun y hy => by cases hy
  | _, some b :: c, .cons r t => fun y hy => by
    have e : _ = Value.bool b := r
    subst e
    rcases List.mem_cons.mp hy with e | e
    · subst e
      have := SeqAt.EqAt.bool_bool (A := A) (s := s) b true
      cases b <;> exact this
    · exact isTr_eq (c := c) t y e
  | _, none :: c, .cons r t => fun y hy => by
    have e : _ = Value.none := r
    subst e
    rcases List.mem_cons.mp hy with e | e
    · subst e
      exact SeqAt.EqAt.none_bool (A := A) (s := s) true
    · exact isTr_eq (c := c) t y e
def rCntB (K : PySem.W.Frag) : V → List V → Hp → VK → Prop := fun x xs H Q => ∃ (p : Addr) (c : List (Option Bool)), x = .ref p ∧ xs = [.bl true] ∧ SqL K H p (wds c) ∧ Q (.int (c.count (some true) : Nat)) H
theorem mt_lcountB {X : Cx} {K : PySem.W.Frag} (eK : X.K = K) : MtR X "list.count" (rCntB K) := by
  subst eK
  intro pins s σ H x xs v us Q I rx rxs h
  obtain ⟨p, c, rfl, rfl, hs, q⟩ := h
  cases rx
  obtain ⟨u, rfl, ru⟩ := rxs.one
  have eu : u = Value.bool true := ru
  subst eu
  obtain ⟨its, rv, ⟨⟨cls, dd, data, sl⟩, n, ho, hc, hdn, hd⟩, hlen⟩ := I.list hs
  simp only at hc hd
  subst hc hd
  refine call_meets PySem.F.slot_list_count ⟨_, ho, rfl⟩ PySem.F.entry_list_count (PySem.F.args_list_count_2 _ _)
    (SeqAt.list_countAt p its.toArray n dd sl (.bool true) isTr) ⟨ho, fun y hy => isTr_eq rv y (by simpa using hy), ?_⟩
  have ec : its.toArray.toList.countP isTr = c.count (some true) := by
    have e : its.toArray.toList = its := by simp
    rw [e]
    exact isTr_count rv
  refine ⟨.int (c.count (some true) : Nat), H, I.tok _, ⟨s.toks, ?_⟩, q⟩
  show Value.int ((its.toArray.toList.countP isTr : Nat) : Int) s.toks = Value.int ((c.count (some true) : Nat) : Int) s.toks
  rw [ec]
def rIsBk : R2 := fun x y H Q => ∃ (o : Option Bool) (b : Bool), x = wdV o ∧ y = .bl b ∧ Q (.bl (decide (o = some b))) H
def rNotBk : R2 := fun x y H Q => ∃ (o : Option Bool) (b : Bool), x = wdV o ∧ y = .bl b ∧ Q (.bl (!decide (o = some b))) H
theorem op_isBk {X : Cx} : OpR X (compareOp .Is) rIsBk := by
  intro pins s σ H x y v u Q I rx ry h
  obtain ⟨o, b, rfl, rfl, q⟩ := h
  cases (show u = Value.bool b from ry)
  cases o with
  | none =>
    cases (show v = Value.none from rx)
    exact wpAny_is_other rfl (fun z => nomatch z) ⟨.bl false, H, I, rfl, by simpa using q⟩
  | some a =>
    cases (show v = Value.bool a from rx)
    by_cases e : a = b
    · subst e
      exact wpAny_is_self rfl ⟨.bl true, H, I, rfl, by simpa using q⟩
    · exact wpAny_is_other rfl (fun z => e (Value.bool.inj z)) ⟨.bl false, H, I, rfl, by simpa [e] using q⟩
theorem op_notBk {X : Cx} : OpR X (compareOp .IsNot) rNotBk := by
  intro pins s σ H x y v u Q I rx ry h
  obtain ⟨o, b, rfl, rfl, q⟩ := h
  cases (show u = Value.bool b from ry)
  cases o with
  | none =>
    cases (show v = Value.none from rx)
    exact wpAny_isNot_other rfl (fun z => nomatch z) ⟨.bl true, H, I, rfl, by simpa using q⟩
  | some a =>
    cases (show v = Value.bool a from rx)
    by_cases e : a = b
    · subst e
      exact wpAny_isNot_self rfl ⟨.bl false, H, I, rfl, by simpa using q⟩
    · exact wpAny_isNot_other rfl (fun z => e (Value.bool.inj z)) ⟨.bl true, H, I, rfl, by simpa [e] using q⟩
theorem x_isBk {H : Hp} {Q : VK} {o : Option Bool} {b : Bool} (q : Q (.bl (decide (o = some b))) H) : rIsBk (wdV o) (.bl b) H Q := ⟨o, b, rfl, rfl, q⟩
theorem x_notBk {H : Hp} {Q : VK} {o : Option Bool} {b : Bool} (q : Q (.bl (!decide (o = some b))) H) : rNotBk (wdV o) (.bl b) H Q := ⟨o, b, rfl, rfl, q⟩
theorem x_cntB {K : PySem.W.Frag} {H : Hp} {Q : VK} {p : Addr} {c : List (Option Bool)} (h : SqL K H p (wds c)) (q : Q (.int (c.count (some true) : Nat)) H) : rCntB K (.ref p) [.bl true] H Q := ⟨p, c, rfl, rfl, h, q⟩
/-- a place, or None -/
def upV : Option Nat → V
  | none => .non
  | some q => .int (q : Nat)
def upvs (us : List (Option Nat)) : List V := us.map upV
theorem wds_length (c : List (Option Bool)) : (wds c).length = c.length := List.length_map ..
theorem upvs_length (c : List (Option Nat)) : (upvs c).length = c.length := List.length_map ..
theorem wds_get {c : List (Option Bool)} {i : Nat} {o : Option Bool} (h : c[i]? = some o) : (wds c)[i]? = some (wdV o) := by
  unfold wds
  rw [List.getElem?_map, h]
  rfl
theorem upvs_get {c : List (Option Nat)} {i : Nat} {o : Option Nat} (h : c[i]? = some o) : (upvs c)[i]? = some (upV o) := by
  unfold upvs
  rw [List.getElem?_map, h]
  rfl
theorem wds_at {c : List (Option Bool)} {i : Nat} {o : Option Bool} (h : c[i]? = some o) : atI (wds c) (i : Int) = some (wdV o) := atI_nat (wds_get h)
theorem upvs_at {c : List (Option Nat)} {i : Nat} {o : Option Nat} (h : c[i]? = some o) : atI (upvs c) (i : Int) = some (upV o) := atI_nat (upvs_get h)
theorem wds_app (c d : List (Option Bool)) : wds (c ++ d) = wds c ++ wds d := List.map_append ..
theorem upvs_app (c d : List (Option Nat)) : upvs (c ++ d) = upvs c ++ upvs d := List.map_append ..
end Fv
set_option maxRecDepth 100000
set_option maxHeartbeats 1000000
namespace Fv
open PySem PySem.Spec PyProof.Rows L2
/-! x != y by x's own __eq__ -/
structure OwnN (K : PySem.W.Frag) (C f : Addr) : Prop where
  c : ∃ (nm q : Str) (N : Addr) (bs : List Value) (hd : Bool) (sn : List Str) (sub : List Value) (ab : Bool) (col : Option Bool) (dd : Option Addr) (k0 k1 k2 k3 k5 : Option Value) (newId : String),
    K.lookup C = some (excClassObj nm q C N bs [.type "object"] hd sn sub ab col dd k0 k1 k2 k3 k5 newId) ∧ PySem.W.nsOkIn K N = true ∧ PySem.W.nsIn K N "__eq__" = some (some (.ref f)) ∧ PySem.W.nsIn K N "__ne__" = some none
  t : PySem.W.typeIn K (.ref f) = some (.type "function")
theorem ns_some {K : PySem.W.Frag} {h : Heap} {N : Addr} {m : Str → Option Value} {n : Str} {v : Value} (X : K.In h) (G : h.Ns N m) (e : PySem.W.nsIn K N n = some (some v)) : m n = some v := by
  obtain ⟨o, es, ep, ho, hd, _, hf⟩ := G
  unfold PySem.W.nsIn at e
  split at e
  · rename_i c d es' n' sl q
    have z := X _ _ q
    rw [ho] at z
    cases z
    cases hd
    split at e
    · rename_i en he
      cases e
      rw [← hf]
      unfold nsFind findBy
      rw [← Array.find?_toList, he]
      rfl
    · split at e <;> cases e
  · cases e
def rOwnN (C : Addr) (sp : Sp) : R2 := fun x y H Q => ∃ (a b dx dy : Addr) (fs gs : List (Str × V)), x = .ref a ∧ y = .ref b ∧ H a = some (.ins C dx fs) ∧ H b = some (.ins C dy gs) ∧
  sp [.ref a, .ref b] H (fun v H' => ∃ r, v = .bl r ∧ Q (.bl (!r)) H') (fun _ _ _ => False)
theorem op_ownN {X : Cx} {C f : Addr} {fd : FuncData} {ps : List Str} {sp : Sp} {n : Nat} (O : OwnN X.K C f) (F : FnOk X.prog X.w X.K X.mg X.base CX0 n f fd ps sp) (hb : Binds X.K fd ps []) (hr : Room (n + 1) X.A) : OpR X (compareOp .NotEq) (rOwnN C sp) := by
  intro pins s σ H x y v u Q I rx ry h
  obtain ⟨a, b, dx, dy, fs, gs, rfl, rfl, ha, hB, hsp⟩ := h
  cases rx
  cases ry
  obtain ⟨nm, q, N, bs, hd, sn, sub, ab, col, dd, k0, k1, k2, k3, k5, newId, hC, n1, n2, n3⟩ := O.c
  obtain ⟨mA, J, _⟩ := ins_get I.hok ha
  obtain ⟨od, J, _⟩ := J.look
  obtain ⟨mB, J', _⟩ := ins_get I.hok hB
  obtain ⟨od', J', _⟩ := J'.look
  have KI := I.kIn
  have G : s.heap.Ns N (s.heap.nsMap N) := .of_isNs (PySem.W.isNs_of_in KI n1)
  obtain ⟨of, hof, hoc⟩ : ∃ of, s.heap.get? f = some of ∧ of.cls = .type "function" := by
    have e : (X.K.lookup f).map (·.cls) = some (.type "function") := O.t
    cases z : X.K.lookup f with
    | none =>
      rw [z] at e
      cases e
    | some of =>
      rw [z] at e
      exact ⟨of, KI _ _ z, Option.some.inj e⟩
  have W : s.heap.OwnEqNoNe a C f "object" [.type "object"] :=
    ⟨_, of, nm, q, N, bs, hd, sn, sub, ab, col, dd, k0, k1, k2, k3, k5, newId, s.heap.nsMap N, _, J.at_, J.cls, KI _ _ hC, G, ns_some KI G n2, hof, hoc, PySem.F.cmp_object.mro, PySem.F.cmp_object.eq.lookup, PySem.W.ns_none_of KI G n3⟩
  have hu : X.A.units + 1 < cLine := by have := hr.un; omega
  have hI0 := I.env0
  have r2 : Vals [V.ref a, V.ref b] [Value.ref a, Value.ref b] := .cons rfl (.cons rfl .nil)
  have hl : ([Value.ref a, Value.ref b] ++ []).length = ps.length := by rw [← (r2.append .nil).length]; exact F.len _ _ _ _ hsp
  have hbt := hb s [.ref a, .ref b] I.kIn hl
  have call := F.run X.A.in1 X.stack s H ⟨[.ref a, .ref b], []⟩ _ _ _ _ hr.in1 hI0.in1 hbt (r2.append .nil) hsp
  obtain ⟨hp, g, d, t, os⟩ := s
  refine PySem.richCompare_ne_ownEq PySem.F.cmp_object W J'.at_ J'.cls hu (wpAny_call (codeAny_mono call fun r s' hq => ?_))
  cases r with
  | error e => exact hq.elim
  | ok fl =>
    cases fl with
    | ret u =>
      obtain ⟨z, H', I', rz, r, ez, q⟩ := I.after hq
      subst ez
      cases rz
      exact ⟨_, rfl, .bl (!r), H', I', rfl, q⟩
    | next => exact False.elim hq
    | brk => exact False.elim hq
    | cont => exact False.elim hq
/-! t.index(k), t a tuple of whole numbers that holds k -/
def rTix (K : PySem.W.Frag) : V → List V → Hp → VK → Prop := fun x xs H Q => ∃ (p : Addr) (ns : List Int) (k : Int), x = .ref p ∧ xs = [.int k] ∧ SqT K H p (ns.map V.int) ∧ k ∈ ns ∧ Q (.int (ns.idxOf k : Nat)) H
theorem mt_tix {X : Cx} {K : PySem.W.Frag} (e : X.K = K) : MtR X "tuple.index" (rTix K) := by
  subst e
  intro pins s σ H x xs v us Q I rx rs h
  obtain ⟨p, ns, k, rfl, rfl, hq, hk, q⟩ := h
  cases rx
  obtain ⟨u, rfl, t, rfl⟩ := vals1 rs
  obtain ⟨its, r, pl, hz⟩ := I.tuple hq
  exact PySem.SeqAt.tuple_index_ints (isTuple_of pl) r.ints hk ⟨.int _, H, I.tok _, ⟨_, rfl⟩, q⟩
theorem x_tix {K : PySem.W.Frag} {H : Hp} {Q : VK} {p : Addr} {ms : List Nat} {k : Nat} (h : SqT K H p (nats ms)) (hk : k ∈ ms) (q : Q (.int (ms.idxOf k : Nat)) H) : rTix K (.ref p) [.int k] H Q := by
  refine ⟨p, ms.map fun (j : Nat) => (j : Int), k, rfl, rfl, by rw [nats_ints]; exact h, List.mem_map.mpr ⟨k, hk, rfl⟩, ?_⟩
  have e : (ms.map fun (j : Nat) => (j : Int)).idxOf (k : Int) = ms.idxOf k := by
    clear hk q h
    induction ms with
    | nil => rfl
    | cons m ms ih =>
      rw [List.map_cons, List.idxOf_cons, List.idxOf_cons, ih]
      have eb : ((m : Int) == (k : Int)) = (m == k) := by
        rw [Bool.eq_iff_iff, beq_iff_eq, beq_iff_eq]
        omega
      rw [eb]
  rw [e]
  exact q
/-- the order turned about -/
def turned (ms : List Nat) (n : Nat) : List Nat := (List.range' 1 n).map fun k => ms.idxOf k + 1
theorem turned_len (ms : List Nat) (n : Nat) : (turned ms n).length = n := by
  unfold turned
  rw [List.length_map, List.length_range']
theorem turned_up {ms : List Nat} {n k : Nat} (h1 : 1 ≤ k) (h2 : k ≤ n) : up (turned ms n) k = ms.idxOf k + 1 := by
  refine up_at (by omega) ?_
  unfold turned
  rw [List.getElem?_map, List.getElem?_range' (by omega)]
  show some (ms.idxOf (1 + 1 * (k - 1)) + 1) = _
  rw [show 1 + 1 * (k - 1) = k by omega]
theorem idx_up {ms : List Nat} {n b : Nat} (o : IsOrd n ms) (h1 : 1 ≤ b) (h2 : b ≤ n) : ms.idxOf (up ms b) + 1 = b := by
  have hg := up_get (hs := ms) h1 (by rw [o.len]; exact h2)
  obtain ⟨hl, he⟩ := List.getElem?_eq_some_iff.mp hg
  rw [← he, o.nodup.idxOf_getElem _ hl]
  omega
theorem turned_ord {n : Nat} {ms : List Nat} (o : IsOrd n ms) : IsOrd n (turned ms n) := by
  refine (List.perm_ext_iff_of_nodup ?_ List.nodup_range').mpr fun x => ?_
  · unfold turned
    refine List.pairwise_map.mpr ((List.Pairwise.and_mem.mp (show List.Pairwise (· ≠ ·) (List.range' 1 n) from List.nodup_range')).imp fun {a b} hab e => hab.2.2 ?_)
    have ha := hab.1
    have hb := hab.2.1
    have ra := List.mem_range'_1.mp ha
    have rb := List.mem_range'_1.mp hb
    have e2 : ms.idxOf a = ms.idxOf b := by omega
    have ia := List.getElem_idxOf (List.idxOf_lt_length_iff.mpr (o.mem.mpr ⟨by omega, by omega⟩ : a ∈ ms))
    have ib := List.getElem_idxOf (List.idxOf_lt_length_iff.mpr (o.mem.mpr ⟨by omega, by omega⟩ : b ∈ ms))
    rw [← ia, ← ib]
    congr 1
  · unfold turned
    rw [List.mem_map, List.mem_range'_1]
    constructor
    · rintro ⟨a, ha, rfl⟩
      have ra := List.mem_range'_1.mp ha
      have := List.idxOf_lt_length_iff.mpr (o.mem.mpr ⟨by omega, by omega⟩ : a ∈ ms)
      rw [o.len] at this
      omega
    · intro hx
      have r := o.rg (k := x) (by omega) (by omega)
      refine ⟨up ms x, List.mem_range'_1.mpr (by omega), idx_up o (by omega) (by omega)⟩
theorem turned_back {n b : Nat} {ms : List Nat} (o : IsOrd n ms) (h1 : 1 ≤ b) (h2 : b ≤ n) : up (turned ms n) (up ms b) = b := by
  have r := o.rg h1 h2
  rw [turned_up r.1 r.2, idx_up o h1 h2]
end Fv
set_option maxRecDepth 100000
set_option maxHeartbeats 1000000
namespace Fv
open PySem PySem.Spec PyProof.Rows L2
/-! a tuple of which it is known that it has no dict: its methods may be called -/
def FrT (H : Hp) (a : Addr) (xs : List V) : Prop := ∃ o : Obj, H a = some (.frz o (.tup xs)) ∧ o.cls = .type "tuple" ∧ o.dict = none
theorem FrT.sq {K : PySem.W.Frag} {H : Hp} {a : Addr} {xs : List V} (h : FrT H a xs) : SqT K H a xs := by
  obtain ⟨o, e, _, _⟩ := h
  exact .inl (.inr ⟨o, e⟩)
theorem FrT.same {H H' : Hp} {a : Addr} {xs : List V} (s : Same H H') (h : FrT H a xs) : FrT H' a xs := by
  obtain ⟨o, e, c, d⟩ := h
  exact ⟨o, s _ _ e, c, d⟩
theorem FrT.but {H H' : Hp} {p a : Addr} {xs : List V} (s : But p H H') (n : a ≠ p) (h : FrT H a xs) : FrT H' a xs := by
  obtain ⟨o, e, c, d⟩ := h
  exact ⟨o, s _ _ n e, c, d⟩
/-- tuple(l), l a list: a new tuple without a dict -/
def rTupF (K : PySem.W.Frag) : List V → Hp → VK → Prop := fun xs H Q => ∃ p ys, xs = [.ref p] ∧ SqL K H p ys ∧ ∀ l (o : Obj), H l = none → o.cls = .type "tuple" → o.dict = none → Q (.ref l) (upd H l (.frz o (.tup ys)))
theorem call_tupF {X : Cx} {K : PySem.W.Frag} (e : X.K = K) : CallR X (.type "tuple") (rTupF K) := by
  subst e
  intro pins s σ H xs us Q I r h
  obtain ⟨p, ys, rfl, hq, q⟩ := h
  obtain ⟨u, rfl, rx⟩ := vals1 r
  cases rx
  obtain ⟨its, r', pl, hz⟩ := I.list hq
  have hlen := r'.length
  refine call_tuple_list pl.isList (fun h' kp => ?_) (by simp only [List.size_toArray] <;> omega)
  have I1 : Inv X pins σ H { s with heap := h' } := I.kept (t' := s.toks) kp
  have at0 : (h'.push { cls := .type "tuple", data := .seq its.toArray }).get? h'.objs.size = some { cls := .type "tuple", data := .seq its.toArray } := Heap.get?_push_size _ rfl
  have I2 : Inv X pins σ (upd H h'.objs.size (.frz { cls := .type "tuple", data := .seq its.toArray } (.tup ys))) { s with heap := h'.push { cls := .type "tuple", data := .seq its.toArray } } := by
    refine I1.laid (t' := s.toks) (fun b o e => Heap.get?_push_of_some _ e) (Nat.le_refl _) ?_
    exact (show ObjOk X.prog X.w _ _ _ (.frz { cls := .type "tuple", data := .seq its.toArray } (.tup ys)) from ⟨at0, hz, its, r', IsTup.new _ _⟩)
  exact ⟨.ref h'.objs.size, _, I2, rfl, q _ _ (I1.hok.fresh (Nat.le_refl _)) rfl rfl⟩
/-- isinstance(t, tuple), t a tuple of any kind -/
def rIsT (K : PySem.W.Frag) : List V → Hp → VK → Prop := fun xs H Q => ∃ a ys, xs = [.ref a, .ty "tuple"] ∧ SqT K H a ys ∧ Q (.bl true) H
theorem call_isT {X : Cx} {K : PySem.W.Frag} (e : X.K = K) : CallR X (.builtin "isinstance") (rIsT K) := by
  subst e
  intro pins s σ H xs us Q I r h
  obtain ⟨a, ys, rfl, hq, q⟩ := h
  obtain ⟨u1, u2, rfl, r1, r2⟩ := vals2 r
  cases r1
  cases r2
  obtain ⟨its, r', ⟨o, h1, h2, _⟩, hz⟩ := I.tuple hq
  exact PySem.W.kia_one (K := X.K) (t := .type "tuple") PySem.W.kitx_tuple I.kIn ⟨o, h1, h2⟩ (if_pos (beq_self_eq_true _) : PySem.W.kitOne X.K (.type "tuple") (.type "tuple") = some true) (fun z => nomatch z) fun tk => ⟨.bl true, H, I.tok tk, rfl, q⟩
section
variable {X : Cx} {K : PySem.W.Frag} {o e : Expr} {es : List Expr} {to : TE} {t : TA} {name : Str} {apos cpos : Pos} {id : String} {r : V → List V → Hp → VK → Prop}
/-- t.m(..), t such a tuple -/
def tBT (r : V → List V → Hp → VK → Prop) (to : TE) (t : TA) : TE := fun σ H Q => to σ H fun x H1 => ∃ a ys, x = .ref a ∧ FrT H1 a ys ∧ t σ H1 fun xs H2 => r x xs H2 Q
theorem pe_bmT (slot : Slot "tuple" name id) (hty : typeOf (.builtin id) = pure (.type "method_descriptor")) (hm : MtR X id r) (ho : PE X o to) (ha : PA X (e :: es) t)
    (hbase : attributeBase o name X.env (eval o X.env) = eval o X.env := by rfl)
    (hfew : ((backTo cpos (starEach (e :: es) X.env)).all (fun x => !x.1) && (backToKw cpos (keywordEach [] X.env)).all (fun x => x.1.isSome) && decide ((e :: es).length + ([] : List Keyword).length + (if ([] : List Keyword).isEmpty then 0 else 1) < 30)) = true := by rfl)
    (hline : (apos.endLine == cpos.line) = true := by rfl) (hs : starEach (e :: es) X.env = (false, eval e X.env) :: starEach es X.env := by rfl) (hplain : (backTo cpos (starEach es X.env)).any (·.1) = false := by rfl) :
    PE X (.Call (.Attribute o name apos) (e :: es) [] cpos) (tBT r to t) := by
  refine ⟨fun pins s σ H Q I h => ?_⟩
  refine wpAny_Call_method_late hbase hfew hline rfl (thn (ho.run pins s σ H _ I h) fun v s1 ⟨x, H1, I1, r1, a, ys, ex, hf, q1⟩ => ?_)
  subst ex
  obtain rfl : v = Value.ref a := r1
  obtain ⟨ob, eo, hc, hd⟩ := hf
  obtain ⟨h0, _⟩ := (show ObjOk X.prog X.w H1 s1.heap a (.frz ob (.tup ys)) from I1.hok a _ eo)
  refine ⟨"tuple", id, PySem.F.plainAttrs_tuple, slot, hty, ⟨ob, h0, hc⟩, fun b eb => ?_, ?_⟩
  · cases eb
    exact ⟨ob, h0, hd⟩
  · have hA := ha.run cpos pins s1 σ H1 _ I1 q1
    rw [hs] at hA ⊢
    have hpl : ((false, eval e X.env) :: backTo cpos (starEach es X.env)).any (·.1) = false := by
      show (false || (backTo cpos (starEach es X.env)).any (·.1)) = false
      rw [hplain] <;> rfl
    refine Calls.callWith_builtin hpl (Calls.evalArgs_plain (thn hA fun us s2 ⟨vs, H2, I2, r2, q2⟩ => ?_))
    exact hm pins s2 σ H2 (.ref a) vs _ us Q I2 rfl r2 q2
end
theorem x_catA2 {K : PySem.W.Frag} {H : Hp} {Q : VK} {a b : Addr} {xs ys : List V} (h1 : SqT K H a xs) (h2 : SqT K H b ys) (nx : xs ≠ []) (ny : ys ≠ []) (hl : xs.length + ys.length ≤ 10000) (q : ∀ p, H p = none → Q (.ref p) (upd H p (.tup (xs ++ ys)))) : rCatA K (.ref a) (.ref b) H Q :=
  ⟨a, b, xs, ys, rfl, rfl, h1, h2, szLe (by omega), fun e => (nx e).elim, fun _ e => (ny e).elim, fun _ _ => q⟩
theorem nats_ne {l : List Nat} (h : 1 ≤ l.length) : nats l ≠ [] := fun e => by
  have := congrArg List.length e
  rw [nats_length] at this
  exact absurd this (by show ¬ l.length = 0; omega)
end Fv
/-! what places tell of trees -/
namespace Fv
theorem wayN_eq (hs : List Nat) : ∀ m k n, (∀ j, j < n → upN hs j k ≠ 0) → upN hs n k = 0 → n ≤ m → wayN hs m k = (List.range n).map fun i => upN hs (i + 1) k
  | m, k, 0, _, h, _ => by
    have e : k = 0 := h
    subst e
    cases m with
    | zero => rfl
    | succ m => exact if_pos rfl
  | 0, k, n + 1, _, _, h => absurd h (by omega)
  | m + 1, k, n + 1, hn, h, hm => by
    have k0 : k ≠ 0 := hn 0 (by omega)
    show (if k = 0 then [] else up hs k :: wayN hs m (up hs k)) = _
    rw [if_neg k0, wayN_eq hs m (up hs k) n (fun j hj => hn (j + 1) (by omega)) h (by omega), List.range_succ_eq_map, List.map_cons, List.map_map]
    rfl
theorem wayN_snoc (hs : List Nat) : ∀ i k, wayN hs (i + 1) k = wayN hs i k ++ if upN hs i k = 0 then [] else [upN hs (i + 1) k]
  | 0, k => by
    show (if k = 0 then [] else [up hs k]) = [] ++ _
    rfl
  | i + 1, k => by
    show (if k = 0 then [] else up hs k :: wayN hs (i + 1) (up hs k)) = (if k = 0 then [] else up hs k :: wayN hs i (up hs k)) ++ _
    by_cases h : k = 0
    · subst h
      rw [if_pos rfl, if_pos rfl, upN_zero, if_pos rfl]
      rfl
    · rw [if_neg h, if_neg h, wayN_snoc hs i (up hs k)]
      rfl
theorem range_snoc (n : Nat) : List.range' 1 (n + 1) = List.range' 1 n ++ [1 + n] := by
  rw [List.range'_concat, Nat.one_mul]
/-- the blocks that hang just under a place, and those beneath it -/
def kids (hs : List Nat) (p : Nat) : List Nat := (List.range' 1 hs.length).filter fun b => decide (up hs b = p)
def below (hs : List Nat) (p : Nat) : List Nat := (List.range' 1 hs.length).filter fun b => decide (p ∈ way hs b)
theorem filter_snoc (g : Nat → Bool) (n : Nat) : (List.range' 1 (n + 1)).filter g = (List.range' 1 n).filter g ++ if g (n + 1) = true then [n + 1] else [] := by
  rw [range_snoc, List.filter_append, Nat.add_comm 1 n]
  congr 1
  by_cases h : g (n + 1) = true
  · rw [if_pos h, List.filter_cons_of_pos h]
    rfl
  · rw [if_neg h, List.filter_cons_of_neg h]
    rfl
theorem filter_len (g : Nat → Bool) (n : Nat) : ((List.range' 1 n).filter g).length ≤ n := by
  refine Nat.le_trans (List.length_filter_le _ _) ?_
  rw [List.length_range']
  exact Nat.le_refl _
theorem wayN_len (hs : List Nat) : ∀ n k, (wayN hs n k).length ≤ n
  | 0, _ => Nat.le_refl _
  | n + 1, k => by
    show (if k = 0 then [] else up hs k :: wayN hs n (up hs k)).length ≤ n + 1
    split
    · exact Nat.zero_le _
    · exact Nat.succ_le_succ (wayN_len hs n _)
theorem wayN_nil (hs : List Nat) : ∀ n, wayN hs n 0 = []
  | 0 => rfl
  | n + 1 => if_pos rfl
theorem wayN_cons (hs : List Nat) (n : Nat) {k : Nat} (h : k ≠ 0) : wayN hs (n + 1) k = up hs k :: wayN hs n (up hs k) := if_neg h
theorem wayN_take (hs : List Nat) : ∀ m j k, (wayN hs m k).take j = wayN hs (min j m) k
  | m, 0, k => by
    rw [Nat.zero_min]
    exact List.take_zero
  | 0, j + 1, k => by
    rw [Nat.min_zero]
    rfl
  | m + 1, j + 1, k => by
    rw [show min (j + 1) (m + 1) = min j m + 1 by omega]
    by_cases h : k = 0
    · rw [h, wayN_nil, wayN_nil, List.take_nil]
    · rw [wayN_cons hs m h, wayN_cons hs _ h, List.take_succ_cons, wayN_take hs m j]
theorem wayN_stop {hs : List Nat} : ∀ {n k m}, upN hs n k = 0 → n ≤ m → wayN hs m k = wayN hs n k
  | 0, k, m, h, _ => by
    have e : k = 0 := h
    rw [e, wayN_nil, wayN_nil]
  | n + 1, k, 0, _, h2 => absurd h2 (by omega)
  | n + 1, k, m + 1, h, h2 => by
    by_cases h0 : k = 0
    · rw [h0, wayN_nil, wayN_nil]
    · rw [wayN_cons hs m h0, wayN_cons hs n h0, wayN_stop (n := n) (k := up hs k) (m := m) h (by omega)]
theorem way_take {hs : List Nat} (t : IsTree hs) {k : Nat} (hk : k ≤ hs.length) (d : Nat) : (way hs k).take d = wayN hs d k := by
  unfold way
  rw [wayN_take]
  by_cases h : d ≤ hs.length
  · rw [Nat.min_eq_left h]
  · rw [Nat.min_eq_right (by omega), wayN_stop (n := hs.length) (m := d) (t.comes k hk) (by omega)]
theorem wayN_le {hs : List Nat} (h : ∀ x ∈ hs, x ≤ hs.length) {n k x : Nat} (hx : x ∈ wayN hs n k) : x ≤ hs.length := by
  obtain ⟨j, _, nz, e⟩ := (way_mem hs x n k).mp hx
  rw [← e, upN_succ]
  exact up_le h _
/-- no place leads to itself -/
theorem no_ring {hs : List Nat} (t : IsTree hs) {k m : Nat} (hk : k ≤ hs.length) (h0 : k ≠ 0) (hm : 1 ≤ m) : upN hs m k ≠ k := by
  intro e
  have go : ∀ i, upN hs (i * m) k = k := fun i => by
    induction i with
    | zero =>
      rw [Nat.zero_mul]
      rfl
    | succ i ih => rw [Nat.add_mul, Nat.one_mul, upN_add, ih, e]
  have h1 := go hs.length
  have h2 : upN hs (hs.length * m) k = 0 := upN_more (t.comes k hk) (Nat.le_mul_of_pos_right _ hm)
  rw [h2] at h1
  exact h0 h1.symm
theorem wayN_at {hs : List Nat} : ∀ {n k i x}, (wayN hs n k)[i]? = some x → i < n ∧ upN hs i k ≠ 0 ∧ upN hs (i + 1) k = x
  | 0, _, _, _, h => by cases h
  | n + 1, k, i, x, h => by
    by_cases h0 : k = 0
    · rw [h0, wayN_nil] at h
      cases h
    · rw [wayN_cons hs n h0] at h
      cases i with
      | zero => exact ⟨by omega, h0, Option.some.inj h⟩
      | succ i =>
        rw [List.getElem?_cons_succ] at h
        obtain ⟨a, b, c⟩ := wayN_at h
        exact ⟨by omega, b, c⟩
theorem wayN_nodup {hs : List Nat} (t : IsTree hs) {n k : Nat} (hk : k ≤ hs.length) : (wayN hs n k).Nodup := by
  have key : ∀ (i j x : Nat), i < j → (wayN hs n k)[i]? = some x → (wayN hs n k)[j]? = some x → False := fun i j x hij h1 h2 => by
    obtain ⟨_, _, e1⟩ := wayN_at h1
    obtain ⟨_, n2, e2⟩ := wayN_at h2
    have nz : x ≠ 0 := fun e => by
      rw [e] at e1
      exact n2 (upN_more e1 (by omega))
    have hx : x ≤ hs.length := by
      rw [← e1]
      exact upN_le t.le _ k hk
    refine no_ring t (m := j - i) hx nz (by omega) ?_
    rw [← e1, ← upN_add, show i + 1 + (j - i) = j + 1 by omega, e1, e2]
  refine List.pairwise_iff_getElem.mpr fun i j hi hj hij e => ?_
  refine key i j _ hij (List.getElem?_eq_getElem hi) ?_
  rw [List.getElem?_eq_getElem hj, e]
/-! levels beneath a place -/
def lev (hs : List Nat) (p : Nat) : Nat → List Nat
  | 0 => [p]
  | i + 1 => (lev hs p i).flatMap (kids hs)
def withUp (hs : List Nat) (bs : List Nat) : List (Nat × Nat) := bs.map fun b => (b, up hs b)
def acc (hs : List Nat) (p : Nat) : Nat → List Nat
  | 0 => []
  | i + 1 => acc hs p i ++ lev hs p (i + 1)
theorem kids_mem {hs : List Nat} {b p : Nat} : b ∈ kids hs p ↔ 1 ≤ b ∧ b ≤ hs.length ∧ up hs b = p := by
  unfold kids
  rw [List.mem_filter, List.mem_range'_1, decide_eq_true_eq]
  omega
theorem kids_nodup (hs : List Nat) (p : Nat) : (kids hs p).Nodup := List.Pairwise.filter _ List.nodup_range'
theorem lev_mem {hs : List Nat} {p : Nat} (t : IsTree hs) (hp : p ≤ hs.length) : ∀ i b, b ∈ lev hs p i ↔ b ≤ hs.length ∧ upN hs i b = p ∧ ∀ j, j < i → upN hs j b ≠ 0
  | 0, b => by
    show b ∈ [p] ↔ _
    rw [List.mem_singleton]
    constructor
    · rintro rfl
      exact ⟨hp, rfl, fun j h => absurd h (by omega)⟩
    · exact fun h => h.2.1
  | i + 1, b => by
    show b ∈ (lev hs p i).flatMap (kids hs) ↔ _
    rw [List.mem_flatMap]
    constructor
    · rintro ⟨a, ha, hb⟩
      obtain ⟨b1, b2, rfl⟩ := kids_mem.mp hb
      obtain ⟨_, e, nz⟩ := (lev_mem t hp i _).mp ha
      refine ⟨b2, e, fun j hj => ?_⟩
      cases j with
      | zero =>
        show b ≠ 0
        omega
      | succ j => exact nz j (by omega)
    · rintro ⟨h1, h2, h3⟩
      have b0 : b ≠ 0 := h3 0 (by omega)
      exact ⟨up hs b, (lev_mem t hp i _).mpr ⟨up_le t.le b, h2, fun j hj => h3 (j + 1) (by omega)⟩, kids_mem.mpr ⟨by omega, h1, rfl⟩⟩
theorem lev_nodup {hs : List Nat} {p : Nat} : ∀ i, (lev hs p i).Nodup
  | 0 => List.pairwise_singleton _ _
  | i + 1 => by
    show ((lev hs p i).flatMap (kids hs)).Nodup
    refine List.pairwise_flatMap.mpr ⟨fun a _ => kids_nodup hs a, (lev_nodup i).imp fun {a b} hab x hx y hy e => hab ?_⟩
    subst e
    exact (kids_mem.mp hx).2.2.symm.trans (kids_mem.mp hy).2.2
theorem acc_mem {hs : List Nat} {p : Nat} (t : IsTree hs) (hp : p ≤ hs.length) : ∀ d b, b ∈ acc hs p d ↔ b ≤ hs.length ∧ p ∈ wayN hs d b
  | 0, b => by
    show b ∈ [] ↔ _ ∧ p ∈ []
    simp
  | d + 1, b => by
    show b ∈ acc hs p d ++ lev hs p (d + 1) ↔ _
    rw [List.mem_append, acc_mem t hp d, lev_mem t hp, way_mem, way_mem]
    constructor
    · rintro (⟨h1, j, h2, h3, h4⟩ | ⟨h1, h2, h3⟩)
      · exact ⟨h1, j, by omega, h3, h4⟩
      · exact ⟨h1, d, by omega, h3 d (by omega), h2⟩
    · rintro ⟨h1, j, h2, h3, h4⟩
      by_cases e : j < d
      · exact .inl ⟨h1, j, e, h3, h4⟩
      · have e2 : j = d := by omega
        subst e2
        exact .inr ⟨h1, h4, fun i hi z => h3 (upN_more z (by omega))⟩
theorem acc_nodup {hs : List Nat} {p : Nat} (t : IsTree hs) (hp : p ≤ hs.length) : ∀ d, (acc hs p d).Nodup
  | 0 => List.Pairwise.nil
  | d + 1 => by
    show (acc hs p d ++ lev hs p (d + 1)).Nodup
    refine List.nodup_append.mpr ⟨acc_nodup t hp d, lev_nodup _, fun x hx y hy e => ?_⟩
    subst e
    obtain ⟨h1, hw⟩ := (acc_mem t hp d x).mp hx
    obtain ⟨j, h2, h3, h4⟩ := (way_mem _ _ _ _).mp hw
    obtain ⟨_, e, nz⟩ := (lev_mem t hp _ x).mp hy
    have p0 : p ≠ 0 := by
      rw [← h4]
      exact nz (j + 1) (by omega)
    refine no_ring t (m := d - j) hp p0 (by omega) ?_
    have e2 : upN hs (d + 1) x = upN hs (d - j) (upN hs (j + 1) x) := by
      rw [← upN_add, show j + 1 + (d - j) = d + 1 by omega]
    rw [h4, e] at e2
    exact e2.symm
/-- the blocks beneath a place by at most so many steps, and the ties of these -/
def near (hs : List Nat) (d p : Nat) : List Nat := (List.range' 1 hs.length).filter fun b => decide (p ∈ wayN hs d b)
def tiesN (hs : List Nat) (d p : Nat) : List (Nat × Nat) := withUp hs (near hs d p)
theorem near_mem {hs : List Nat} {d p b : Nat} : b ∈ near hs d p ↔ b ≤ hs.length ∧ p ∈ wayN hs d b := by
  unfold near
  rw [List.mem_filter, List.mem_range'_1, decide_eq_true_eq]
  constructor
  · rintro ⟨h1, h2⟩
    exact ⟨by omega, h2⟩
  · rintro ⟨h1, h2⟩
    refine ⟨⟨Nat.one_le_iff_ne_zero.mpr fun e => ?_, by omega⟩, h2⟩
    rw [e, wayN_nil] at h2
    cases h2
theorem acc_perm {hs : List Nat} {p : Nat} (t : IsTree hs) (hp : p ≤ hs.length) (d : Nat) : (acc hs p d).Perm (near hs d p) := by
  refine (List.perm_ext_iff_of_nodup (acc_nodup t hp d) (List.Pairwise.filter _ List.nodup_range')).mpr fun b => ?_
  rw [acc_mem t hp]
  exact near_mem.symm
theorem near_len (hs : List Nat) (d p : Nat) : (near hs d p).length ≤ hs.length := filter_len _ _
theorem acc_len {hs : List Nat} {p : Nat} (t : IsTree hs) (hp : p ≤ hs.length) (d : Nat) : (acc hs p d).length ≤ hs.length := by
  rw [(acc_perm t hp d).length_eq]
  exact near_len hs d p
theorem lev_len {hs : List Nat} {p : Nat} (t : IsTree hs) (hp : p ≤ hs.length) (i : Nat) : (lev hs p i).length ≤ hs.length := by
  cases i with
  | zero =>
    show 1 ≤ _
    exact t.pos
  | succ i =>
    have h := acc_len t hp (i + 1)
    have e : acc hs p (i + 1) = acc hs p i ++ lev hs p (i + 1) := rfl
    rw [e, List.length_append] at h
    omega
theorem next_ties (hs : List Nat) (p i : Nat) : ((lev hs p i).flatMap fun a => (kids hs a).map fun b => (b, a)) = withUp hs (lev hs p (i + 1)) := by
  show _ = ((lev hs p i).flatMap (kids hs)).map _
  rw [List.map_flatMap]
  congr 1
  funext a
  refine List.map_congr_left fun b hb => ?_
  rw [(kids_mem.mp hb).2.2]
/-- pairs in order, each first item once -/
def ltPr (x y : Nat × Nat) : Prop := x.1 < y.1 ∨ (x.1 = y.1 ∧ x.2 < y.2)
theorem ties_sorted {hs : List Nat} {p d : Nat} {ys : List (Nat × Nat)} (t : IsTree hs) (hp : p ≤ hs.length) (h1 : ys.Perm (withUp hs (acc hs p d))) (h2 : ys.Pairwise fun x y => ¬ ltPr y x) : ys = tiesN hs d p := by
  refine (h1.trans ((acc_perm t hp d).map _)).eq_of_pairwise (le := fun x y => ¬ ltPr y x) (fun a b _ _ k1 k2 => ?_) h2 ?_
  · unfold ltPr at k1 k2
    refine Prod.ext ?_ ?_ <;> omega
  · show ((near hs d p).map fun b => (b, up hs b)).Pairwise _
    unfold near
    rw [List.pairwise_map]
    refine List.Pairwise.filter _ ((List.pairwise_lt_range' (s := 1) (n := hs.length)).imp fun {a b} hab => ?_)
    unfold ltPr
    show ¬ (b < a ∨ _ ∧ _)
    omega
/-! what is told otherwise -/
def telD (hs gs : List Nat) (u d p : Nat) : Bool := decide (wayN hs u p = wayN gs u p) && decide (tiesN hs d p = tiesN gs d p)
def unlikeN (hs gs : List Nat) (u d : Nat) : List Nat := (List.range (hs.length + 1)).filter fun p => !telD hs gs u d p
theorem telD_iff {hs gs : List Nat} {u d p : Nat} : telD hs gs u d p = true ↔ wayN hs u p = wayN gs u p ∧ tiesN hs d p = tiesN gs d p := by
  unfold telD
  rw [Bool.and_eq_true, decide_eq_true_eq, decide_eq_true_eq]
theorem telD_self (hs : List Nat) (u d p : Nat) : telD hs hs u d p = true := telD_iff.mpr ⟨rfl, rfl⟩
theorem telD_comm (hs gs : List Nat) (u d p : Nat) : telD hs gs u d p = telD gs hs u d p := by
  rw [Bool.eq_iff_iff, telD_iff, telD_iff]
  exact ⟨fun h => ⟨h.1.symm, h.2.symm⟩, fun h => ⟨h.1.symm, h.2.symm⟩⟩
theorem unlike_mem {hs gs : List Nat} {u d p : Nat} : p ∈ unlikeN hs gs u d ↔ p ≤ hs.length ∧ telD hs gs u d p = false := by
  unfold unlikeN
  rw [List.mem_filter, List.mem_range, Bool.not_eq_true', Nat.lt_succ_iff]
theorem unlike_len (hs gs : List Nat) (u d : Nat) : (unlikeN hs gs u d).length ≤ hs.length + 1 := by
  refine Nat.le_trans (List.length_filter_le _ _) ?_
  rw [List.length_range]
  exact Nat.le_refl _
theorem unlike_self (hs : List Nat) (u d : Nat) : unlikeN hs hs u d = [] := by
  refine List.filter_eq_nil_iff.mpr fun p _ h => ?_
  rw [telD_self] at h
  cases h
theorem unlike_comm {hs gs : List Nat} (hl : hs.length = gs.length) (u d : Nat) : unlikeN hs gs u d = unlikeN gs hs u d := by
  unfold unlikeN
  rw [hl]
  refine List.filter_congr fun p _ => ?_
  rw [telD_comm]
theorem unlike_sorted (hs gs : List Nat) (u d : Nat) : (unlikeN hs gs u d).Pairwise (· < ·) := List.Pairwise.filter _ List.pairwise_lt_range
theorem ties_mem {hs : List Nat} {d p : Nat} {x : Nat × Nat} : x ∈ tiesN hs d p ↔ x.1 ≤ hs.length ∧ p ∈ wayN hs d x.1 ∧ x.2 = up hs x.1 := by
  unfold tiesN withUp
  rw [List.mem_map]
  constructor
  · rintro ⟨b, hb, rfl⟩
    have := near_mem.mp hb
    exact ⟨this.1, this.2, rfl⟩
  · rintro ⟨h1, h2, h3⟩
    exact ⟨x.1, near_mem.mpr ⟨h1, h2⟩, Prod.ext rfl h3.symm⟩
theorem ties_eq {hs gs : List Nat} {d p : Nat} (hl : hs.length = gs.length) : tiesN hs d p = tiesN gs d p ↔ ∀ b, b ≤ hs.length → (p ∈ wayN hs d b ↔ p ∈ wayN gs d b) ∧ (p ∈ wayN hs d b → up hs b = up gs b) := by
  constructor
  · intro e b hb
    have k1 : p ∈ wayN hs d b → p ∈ wayN gs d b ∧ up hs b = up gs b := fun h => by
      have := (ties_mem (x := (b, up hs b))).mpr ⟨hb, h, rfl⟩
      rw [e] at this
      have := ties_mem.mp this
      exact ⟨this.2.1, this.2.2⟩
    have k2 : p ∈ wayN gs d b → p ∈ wayN hs d b := fun h => by
      have := (ties_mem (hs := gs) (x := (b, up gs b))).mpr ⟨by rw [← hl]; exact hb, h, rfl⟩
      rw [← e] at this
      exact (ties_mem.mp this).2.1
    exact ⟨⟨fun h => (k1 h).1, k2⟩, fun h => (k1 h).2⟩
  · intro h
    have en : near hs d p = near gs d p := by
      unfold near
      rw [← hl]
      refine List.filter_congr fun b hb => ?_
      have := List.mem_range'_1.mp hb
      rw [Bool.eq_iff_iff, decide_eq_true_eq, decide_eq_true_eq]
      exact (h b (by omega)).1
    unfold tiesN withUp
    rw [← en]
    refine List.map_congr_left fun b hb => ?_
    have := near_mem.mp hb
    rw [(h b this.1).2 this.2]
/-- a block hung elsewhere -/
theorem moved_seen {hs : List Nat} {b q u d : Nat} (hb : 1 ≤ b) (hb2 : b ≤ hs.length) (hq : up hs b ≠ q) : (0 < u → telD hs (put hs b q) u d b = false) ∧ (0 < d → telD hs (put hs b q) u d (up hs b) = false ∧ telD hs (put hs b q) u d q = false) := by
  have eb : up (put hs b q) b = q := by rw [up_put hb hb2, if_pos rfl]
  have b0 : b ≠ 0 := by omega
  refine ⟨fun hu => ?_, fun hd => ⟨?_, ?_⟩⟩
  · refine Bool.eq_false_iff.mpr fun h => ?_
    have e := (telD_iff.mp h).1
    obtain ⟨u, rfl⟩ : ∃ u', u = u' + 1 := ⟨u - 1, by omega⟩
    rw [wayN_cons _ _ b0, wayN_cons _ _ b0, eb] at e
    exact hq (List.cons.inj e).1
  · refine Bool.eq_false_iff.mpr fun h => ?_
    have e := (telD_iff.mp h).2
    obtain ⟨d, rfl⟩ : ∃ d', d = d' + 1 := ⟨d - 1, by omega⟩
    have := (ties_mem (hs := hs) (d := d + 1) (p := up hs b) (x := (b, up hs b))).mpr ⟨hb2, by rw [wayN_cons _ _ b0]; exact List.mem_cons_self, rfl⟩
    rw [e] at this
    have := (ties_mem.mp this).2.2
    rw [eb] at this
    exact hq this
  · refine Bool.eq_false_iff.mpr fun h => ?_
    have e := (telD_iff.mp h).2
    obtain ⟨d, rfl⟩ : ∃ d', d = d' + 1 := ⟨d - 1, by omega⟩
    have := (ties_mem (hs := put hs b q) (d := d + 1) (p := q) (x := (b, q))).mpr ⟨by rw [put_len]; exact hb2, by rw [wayN_cons _ _ b0, eb]; exact List.mem_cons_self, eb.symm⟩
    rw [← e] at this
    exact hq (ties_mem.mp this).2.2.symm
theorem way_sub {hs : List Nat} {d d' k x : Nat} (h : d ≤ d') (hx : x ∈ wayN hs d k) : x ∈ wayN hs d' k := by
  obtain ⟨j, h1, h2, h3⟩ := (way_mem _ _ _ _).mp hx
  exact (way_mem _ _ _ _).mpr ⟨j, by omega, h2, h3⟩
/-- a greater view tells no less -/
theorem wider {hs gs : List Nat} {u u' d d' p : Nat} (t : IsTree hs) (t' : IsTree gs) (hl : hs.length = gs.length) (hu : u ≤ u') (hd : d ≤ d') (h : telD hs gs u' d' p = true) : telD hs gs u d p = true := by
  obtain ⟨e1, e2⟩ := telD_iff.mp h
  refine telD_iff.mpr ⟨?_, (ties_eq hl).mpr ?_⟩
  · have := congrArg (List.take u) e1
    rwa [wayN_take, wayN_take, Nat.min_eq_left hu] at this
  · have key : ∀ (xs ys : List Nat), IsTree xs → xs.length = ys.length → tiesN xs d' p = tiesN ys d' p → ∀ d, d ≤ d' → ∀ b, b ≤ xs.length → p ∈ wayN xs d b → p ∈ wayN ys d b ∧ up xs b = up ys b := by
      intro xs ys tx el e d
      induction d with
      | zero =>
        intro _ b _ hx
        cases hx
      | succ d ih =>
        intro hd b hb hx
        have b0 : b ≠ 0 := fun z => by
          rw [z, wayN_nil] at hx
          cases hx
        have hu := ((ties_eq el).mp e b hb).2 (way_sub hd hx)
        refine ⟨?_, hu⟩
        rw [wayN_cons _ _ b0] at hx ⊢
        rw [← hu]
        rcases List.mem_cons.mp hx with hx | hx
        · rw [hx]
          exact List.mem_cons_self
        · exact List.mem_cons_of_mem _ (ih (by omega) _ (up_le tx.le b) hx).1
    intro b hb
    have k1 := key hs gs t hl e2 d hd b hb
    have k2 := key gs hs t' hl.symm e2.symm d hd b (by rw [← hl]; exact hb)
    exact ⟨⟨fun h => (k1 h).1, fun h => (k2 h).1⟩, fun h => (k1 h).2⟩
/-! called anew -/
theorem wayN_called {hs ms : List Nat} (t : IsTree hs) (o : IsOrd hs.length ms) : ∀ n k, k ≤ hs.length → wayN (call2 hs ms) n (up ms k) = (wayN hs n k).map (up ms)
  | 0, _, _ => rfl
  | n + 1, k, hk => by
    by_cases h : k = 0
    · rw [h, up_zero, wayN_nil, wayN_nil]
      rfl
    · have r := o.rg (k := k) (by omega) hk
      rw [wayN_cons _ _ h, wayN_cons _ _ (by omega), call2_up o hk, wayN_called t o n _ (up_le t.le k)]
      rfl
theorem map_inj_on {ms : List Nat} {n : Nat} (o : IsOrd n ms) : ∀ {xs ys : List Nat}, (∀ x ∈ xs, x ≤ n) → (∀ y ∈ ys, y ≤ n) → xs.map (up ms) = ys.map (up ms) → xs = ys
  | [], [], _, _, _ => rfl
  | [], _ :: _, _, _, e => by cases e
  | _ :: _, [], _, _, e => by cases e
  | x :: xs, y :: ys, hx, hy, e => by
    rw [List.map_cons, List.map_cons] at e
    obtain ⟨e1, e2⟩ := List.cons.inj e
    rw [o.inj (hx x List.mem_cons_self) (hy y List.mem_cons_self) e1, map_inj_on o (fun z hz => hx z (List.mem_cons_of_mem _ hz)) (fun z hz => hy z (List.mem_cons_of_mem _ hz)) e2]
theorem mem_called {hs ms : List Nat} (t : IsTree hs) (o : IsOrd hs.length ms) {d p b : Nat} (hp : p ≤ hs.length) (hb : b ≤ hs.length) : up ms p ∈ wayN (call2 hs ms) d (up ms b) ↔ p ∈ wayN hs d b := by
  rw [wayN_called t o d b hb, List.mem_map]
  constructor
  · rintro ⟨x, hx, e⟩
    rw [← o.inj (wayN_le t.le hx) hp e]
    exact hx
  · exact fun h => ⟨p, h, rfl⟩
theorem telD_called {hs gs ms : List Nat} (t : IsTree hs) (t' : IsTree gs) (hl : hs.length = gs.length) (o : IsOrd hs.length ms) {u d p : Nat} (hp : p ≤ hs.length) : telD (call2 hs ms) (call2 gs ms) u d (up ms p) = telD hs gs u d p := by
  have o' : IsOrd gs.length ms := by
    rw [← hl]
    exact o
  have hp' : p ≤ gs.length := by rw [← hl]; exact hp
  rw [Bool.eq_iff_iff, telD_iff, telD_iff, ties_eq hl, ties_eq (by rw [call2_len, call2_len, hl]), wayN_called t o u p hp, wayN_called t' o' u p hp', call2_len]
  have e1 : ((wayN hs u p).map (up ms) = (wayN gs u p).map (up ms)) ↔ wayN hs u p = wayN gs u p :=
    ⟨fun e => map_inj_on o (fun x hx => wayN_le t.le hx) (fun x hx => by rw [hl]; exact wayN_le t'.le hx) e, fun e => by rw [e]⟩
  rw [e1]
  refine and_congr_right fun _ => ⟨fun h b hb => ?_, fun h c hc => ?_⟩
  · have := h (up ms b) (o.rg0 hb)
    rw [mem_called t o hp hb, mem_called t' o' hp' (by rw [← hl]; exact hb), call2_up o hb, call2_up o' (by rw [← hl]; exact hb)] at this
    exact ⟨this.1, fun hw => o.inj (up_le t.le b) (by rw [hl]; exact up_le t'.le b) (this.2 hw)⟩
  · obtain ⟨b, hb, rfl⟩ : ∃ b, b ≤ hs.length ∧ up ms b = c := by
      by_cases c0 : c = 0
      · exact ⟨0, by omega, c0.symm⟩
      · obtain ⟨k, _, k2, k3⟩ := o.surj (x := c) (by omega) hc
        exact ⟨k, k2, k3⟩
    rw [mem_called t o hp hb, mem_called t' o' hp' (by rw [← hl]; exact hb), call2_up o hb, call2_up o' (by rw [← hl]; exact hb)]
    have := h b hb
    exact ⟨this.1, fun hw => by rw [this.2 hw]⟩
theorem unlike_called {hs gs ms : List Nat} (t : IsTree hs) (t' : IsTree gs) (hl : hs.length = gs.length) (o : IsOrd hs.length ms) {u d : Nat} : ((unlikeN hs gs u d).map (up ms)).Perm (unlikeN (call2 hs ms) (call2 gs ms) u d) := by
  refine (List.perm_ext_iff_of_nodup ?_ ((unlike_sorted _ _ _ _).imp fun {a b} h => Nat.ne_of_lt h)).mpr fun c => ?_
  · refine List.pairwise_map.mpr ((List.Pairwise.and_mem.mp (unlike_sorted hs gs u d)).imp fun {a b} h e => ?_)
    have := o.inj (unlike_mem.mp h.1).1 (unlike_mem.mp h.2.1).1 e
    have := h.2.2
    omega
  · rw [List.mem_map, unlike_mem, call2_len]
    constructor
    · rintro ⟨p, hp, rfl⟩
      have := unlike_mem.mp hp
      exact ⟨o.rg0 this.1, by rw [telD_called t t' hl o this.1]; exact this.2⟩
    · rintro ⟨h1, h2⟩
      obtain ⟨b, hb, rfl⟩ : ∃ b, b ≤ hs.length ∧ up ms b = c := by
        by_cases c0 : c = 0
        · exact ⟨0, by omega, c0.symm⟩
        · obtain ⟨k, _, k2, k3⟩ := o.surj (x := c) (by omega) h1
          exact ⟨k, k2, k3⟩
      rw [telD_called t t' hl o hb] at h2
      exact ⟨b, unlike_mem.mpr ⟨hb, h2⟩, rfl⟩
end Fv
set_option maxRecDepth 100000
set_option maxHeartbeats 1000000
namespace Fv
open PySem PySem.Spec PyProof.Rows L2
/-! comprehensions with two for -/
theorem lc2_list {K : PySem.W.Frag} {a : Addr} {xs : List V} {g : TG} {tt : TT} {vs : List Nat} {σ : L2.St} {H0 : Hp} {Qd : Hp → Prop} {Bd : L2.St → Hp → (Hp → Prop) → Prop} (Pv : Nat → Hp → Prop) (h0 : Pv 0 H0) (hl : ∀ i H, i ≤ xs.length → Pv i H → SqL K H a xs)
    (hs : ∀ i x H, xs[i]? = some x → Pv i H → g x (wipe σ vs) H fun σ2 H2 => wipe σ2 vs = wipe σ vs ∧ tt σ2 H2 fun b H3 => if b = true then Bd σ2 H3 (Pv (i + 1)) else Pv (i + 1) H3) (hd : ∀ H, Pv xs.length H → Qd H) :
    ∃ W : Nat → Nat → Hp → Prop, (∃ m, W 0 m H0) ∧ ∀ i m H, W i m H →
      ((Itl K a).stop i H ∧ Qd H) ∨ ((Itl K a).go i H ∧ ∃ Nx : Hp → Prop, (∀ H', Nx H' → ∃ m', m' < m ∧ W (i + 1) m' H') ∧ ∀ x H', (Itl K a).yld i H x H' → g x (wipe σ vs) H' fun σ2 H2 => wipe σ2 vs = wipe σ vs ∧ tt σ2 H2 fun b H3 =>
        if b = true then Bd σ2 H3 Nx else Nx H3) := by
  refine ⟨fun i m H => m = xs.length - i ∧ i ≤ xs.length ∧ Pv i H, ⟨xs.length, by simp, Nat.zero_le _, h0⟩, ?_⟩
  rintro i m H ⟨rfl, hi, p⟩
  have q := hl i H hi p
  by_cases hlt : i < xs.length
  · refine .inr ⟨⟨xs, xs[i], q, by simp [hlt]⟩, Pv (i + 1), fun H' p' => ⟨xs.length - (i + 1), by omega, rfl, hlt, p'⟩, fun x H' y => ?_⟩
    obtain ⟨e, y⟩ := y
    subst e
    exact hs i x _ (y xs q) p
  · have e : i = xs.length := by omega
    subst e
    exact .inl ⟨⟨xs, q, Nat.le_refl _⟩, hd H p⟩
theorem lc2_tup {K : PySem.W.Frag} {a : Addr} {xs : List V} {g : TG} {tt : TT} {vs : List Nat} {σ : L2.St} {H0 : Hp} {Qd : Hp → Prop} {Bd : L2.St → Hp → (Hp → Prop) → Prop} (Pv : Nat → Hp → Prop) (h0 : Pv 0 H0) (hl : ∀ i H, i ≤ xs.length → Pv i H → SqT K H a xs)
    (hs : ∀ i x H, xs[i]? = some x → Pv i H → g x (wipe σ vs) H fun σ2 H2 => wipe σ2 vs = wipe σ vs ∧ tt σ2 H2 fun b H3 => if b = true then Bd σ2 H3 (Pv (i + 1)) else Pv (i + 1) H3) (hd : ∀ H, Pv xs.length H → Qd H) :
    ∃ W : Nat → Nat → Hp → Prop, (∃ m, W 0 m H0) ∧ ∀ i m H, W i m H →
      ((Itt K a).stop i H ∧ Qd H) ∨ ((Itt K a).go i H ∧ ∃ Nx : Hp → Prop, (∀ H', Nx H' → ∃ m', m' < m ∧ W (i + 1) m' H') ∧ ∀ x H', (Itt K a).yld i H x H' → g x (wipe σ vs) H' fun σ2 H2 => wipe σ2 vs = wipe σ vs ∧ tt σ2 H2 fun b H3 =>
        if b = true then Bd σ2 H3 Nx else Nx H3) := by
  refine ⟨fun i m H => m = xs.length - i ∧ i ≤ xs.length ∧ Pv i H, ⟨xs.length, by simp, Nat.zero_le _, h0⟩, ?_⟩
  rintro i m H ⟨rfl, hi, p⟩
  have q := hl i H hi p
  by_cases hlt : i < xs.length
  · refine .inr ⟨⟨xs, xs[i], q, by simp [hlt]⟩, Pv (i + 1), fun H' p' => ⟨xs.length - (i + 1), by omega, rfl, hlt, p'⟩, fun x H' y => ?_⟩
    obtain ⟨e, y⟩ := y
    subst e
    exact hs i x _ (y xs q) p
  · have e : i = xs.length := by omega
    subst e
    exact .inl ⟨⟨xs, q, Nat.le_refl _⟩, hd H p⟩
/-! lists of pairs -/
def PrV (H : Hp) (v : V) (x : Nat × Nat) : Prop := ∃ t, v = .ref t ∧ H t = some (.tup [.int (x.1 : Nat), .int (x.2 : Nat)])
def PrsV (H : Hp) : List V → List (Nat × Nat) → Prop
  | [], [] => True
  | v :: vs, x :: xs => PrV H v x ∧ PrsV H vs xs
  | [], _ :: _ => False
  | _ :: _, [] => False
theorem PrV.same {H H' : Hp} {v : V} {x : Nat × Nat} (s : Same H H') (h : PrV H v x) : PrV H' v x := by
  obtain ⟨t, e, h⟩ := h
  exact ⟨t, e, s _ _ h⟩
theorem PrV.mut {H : Hp} {v : V} {x : Nat × Nat} {q : Addr} {ys : List V} {o : HO} (hq : H q = some (.lst ys)) (h : PrV H v x) : PrV (upd H q o) v x := by
  obtain ⟨t, e, h⟩ := h
  refine ⟨t, e, keepM (fun z => ?_) h⟩
  rw [z, hq] at h
  cases h
theorem PrsV.imp {H H' : Hp} (f : ∀ v x, PrV H v x → PrV H' v x) : ∀ {vs : List V} {xs : List (Nat × Nat)}, PrsV H vs xs → PrsV H' vs xs
  | [], [], _ => True.intro
  | _ :: _, _ :: _, h => ⟨f _ _ h.1, PrsV.imp f h.2⟩
  | [], _ :: _, h => h.elim
  | _ :: _, [], h => h.elim
theorem PrsV.same {H H' : Hp} {vs : List V} {xs : List (Nat × Nat)} (s : Same H H') (h : PrsV H vs xs) : PrsV H' vs xs := h.imp fun _ _ k => k.same s
theorem PrsV.mut {H : Hp} {vs : List V} {xs : List (Nat × Nat)} {q : Addr} {ys : List V} {o : HO} (hq : H q = some (.lst ys)) (h : PrsV H vs xs) : PrsV (upd H q o) vs xs := h.imp fun _ _ k => k.mut hq
theorem PrsV.app {H : Hp} : ∀ {vs ws : List V} {xs ys : List (Nat × Nat)}, PrsV H vs xs → PrsV H ws ys → PrsV H (vs ++ ws) (xs ++ ys)
  | [], _, [], _, _, h => h
  | _ :: _, _, _ :: _, _, h, k => ⟨h.1, PrsV.app h.2 k⟩
  | [], _, _ :: _, _, h, _ => h.elim
  | _ :: _, _, [], _, h, _ => h.elim
theorem PrsV.len {H : Hp} : ∀ {vs : List V} {xs : List (Nat × Nat)}, PrsV H vs xs → vs.length = xs.length
  | [], [], _ => rfl
  | _ :: _, _ :: _, h => congrArg (· + 1) (PrsV.len h.2)
  | [], _ :: _, h => h.elim
  | _ :: _, [], h => h.elim
theorem PrsV.at {H : Hp} : ∀ {vs : List V} {xs : List (Nat × Nat)} {i : Nat} {v : V}, PrsV H vs xs → vs[i]? = some v → ∃ x, xs[i]? = some x ∧ PrV H v x
  | [], [], _, _, _, h => by cases h
  | _ :: _, x :: _, 0, _, h, e => by
    have e' := Option.some.inj e
    subst e'
    exact ⟨x, rfl, h.1⟩
  | _ :: _, _ :: _, i + 1, _, h, e => PrsV.at (i := i) h.2 e
  | [], _ :: _, _, _, h, _ => h.elim
  | _ :: _, [], _, _, h, _ => h.elim
/-- what a pair's value tells -/
def keyOf (H : Hp) (v : V) : Int × Int := match v with
  | .ref t => match H t with
    | some (.tup [.int a, .int b]) => (a, b)
    | _ => (0, 0)
  | _ => (0, 0)
def natsOf (H : Hp) (v : V) : Nat × Nat := ((keyOf H v).1.toNat, (keyOf H v).2.toNat)
theorem PrV.key {H : Hp} {v : V} {x : Nat × Nat} (h : PrV H v x) : keyOf H v = ((x.1 : Int), (x.2 : Int)) := by
  obtain ⟨t, rfl, h⟩ := h
  unfold keyOf
  dsimp only
  rw [h]
theorem PrV.nats {H : Hp} {v : V} {x : Nat × Nat} (h : PrV H v x) : natsOf H v = x := by
  unfold natsOf
  rw [h.key]
  rfl
theorem PrsV.nats {H : Hp} : ∀ {vs : List V} {xs : List (Nat × Nat)}, PrsV H vs xs → vs.map (natsOf H) = xs
  | [], [], _ => rfl
  | v :: vs, x :: xs, h => by rw [List.map_cons, h.1.nats, PrsV.nats h.2]
  | [], _ :: _, h => h.elim
  | _ :: _, [], h => h.elim
theorem PrsV.of {H : Hp} : ∀ {vs : List V}, (∀ v ∈ vs, ∃ x, PrV H v x) → PrsV H vs (vs.map (natsOf H))
  | [], _ => True.intro
  | v :: vs, h => by
    obtain ⟨x, hx⟩ := h v List.mem_cons_self
    exact ⟨by rw [hx.nats]; exact hx, PrsV.of fun w hw => h w (List.mem_cons_of_mem _ hw)⟩
theorem PrsV.all {H : Hp} {vs : List V} {xs : List (Nat × Nat)} (h : PrsV H vs xs) {v : V} (hv : v ∈ vs) : ∃ x, PrV H v x := by
  obtain ⟨i, hi, e⟩ := List.getElem_of_mem hv
  obtain ⟨x, _, hx⟩ := h.at (i := i) (v := v) (by rw [List.getElem?_eq_getElem hi, e])
  exact ⟨x, hx⟩
theorem cr_sortedPO' {X : Cx} {K : PySem.W.Frag} (e : X.K = K) : CallR X (.builtin "sorted") (rSortedPO K) := by
  subst e
  exact cr_sortedPO
theorem x_sortP {K : PySem.W.Frag} {H : Hp} {Q : VK} {a : Addr} {hs : List Nat} {d k : Nat} {vs : List V} (t : IsTree hs) (hk : k ≤ hs.length) (h : SqL K H a vs) (hp : PrsV H vs (withUp hs (acc hs k d))) (q : ∀ ys p, PrsV H ys (tiesN hs d k) → H p = none → Q (.ref p) (upd H p (.lst ys))) : rSortedPO K [.ref a] H Q := by
  refine ⟨a, vs, keyOf H, rfl, h, fun v hv => ?_, fun ys p hs1 hs2 hn => ?_⟩
  · obtain ⟨x, hx⟩ := hp.all hv
    obtain ⟨t, e1, e2⟩ := id hx
    refine ⟨t, e1, ?_⟩
    rw [hx.key]
    exact e2
  · have pm := hs2.perm
    have hy : PrsV H ys (ys.map (natsOf H)) := PrsV.of fun v hv => hp.all (pm.mem_iff.mp hv)
    refine q ys p ?_ hn
    have e : ys.map (natsOf H) = tiesN hs d k := by
      refine ties_sorted t hk ?_ ?_
      · rw [← hp.nats]
        exact pm.map _
      · rw [List.pairwise_map]
        refine (List.Pairwise.and_mem.mp hs1).imp fun {x y} hxy => ?_
        obtain ⟨m1, m2, lt⟩ := hxy
        obtain ⟨a1, ha⟩ := hp.all (pm.mem_iff.mp m1)
        obtain ⟨b1, hb⟩ := hp.all (pm.mem_iff.mp m2)
        rw [ha.nats, hb.nats]
        have lt : SrtO.lexB (keyOf H y) (keyOf H x) = false := lt
        rw [ha.key, hb.key] at lt
        unfold ltPr
        intro z
        refine Bool.false_ne_true (lt.symm.trans (SrtO.lexB_iff.mpr ?_))
        show ((b1.1 : Nat) : Int) < ((a1.1 : Nat) : Int) ∨ ((b1.1 : Nat) : Int) = ((a1.1 : Nat) : Int) ∧ ((b1.2 : Nat) : Int) < ((a1.2 : Nat) : Int)
        omega
    rw [← e]
    exact hy
end Fv
set_option maxRecDepth 100000
set_option maxHeartbeats 1000000
namespace Fv
open PySem PySem.Spec PyProof.Rows L2
def pD (x : Nat × Nat) : PyData := .tuple [.int (Int.ofNat x.1), .int (Int.ofNat x.2)]
def pds (ts : List (Nat × Nat)) : List PyData := ts.map pD
theorem pds_lay : ∀ l, PyData.canLayAll0 (pds l) = true
  | [] => rfl
  | a :: l => by
    show (PyData.canLay0 (pD a) && PyData.canLayAll0 (pds l)) = true
    rw [pds_lay l]
    rfl
theorem pds_depth : ∀ l, PyData.depthAll (pds l) ≤ 1
  | [] => Nat.zero_le _
  | a :: l => by
    show max (PyData.depth (pD a)) (PyData.depthAll (pds l)) ≤ 1
    have e : PyData.depth (pD a) = 1 := rfl
    rw [e]
    have := pds_depth l
    omega
theorem pD_eqv (a b : Nat × Nat) : PyData.eqv (pD a) (pD b) = decide (a = b) := by
  show PyData.eqv (.tuple [.int (Int.ofNat a.1), .int (Int.ofNat a.2)]) (.tuple [.int (Int.ofNat b.1), .int (Int.ofNat b.2)]) = _
  obtain ⟨a1, a2⟩ := a
  obtain ⟨b1, b2⟩ := b
  rw [PyData.eqv, PyData.eqvAll, PyData.eqvAll, PyData.eqvAll, PyData.eqv, PyData.eqv, Bool.eq_iff_iff]
  simp
  omega
theorem pds_eqv : ∀ l m, PyData.eqvAll (pds l) (pds m) = decide (l = m)
  | [], [] => by simp [pds, PyData.eqvAll]
  | [], _ :: _ => by simp [pds, PyData.eqvAll]
  | _ :: _, [] => by simp [pds, PyData.eqvAll]
  | a :: l, b :: m => by
    show PyData.eqvAll (pD a :: pds l) (pD b :: pds m) = _
    rw [PyData.eqvAll, pds_eqv l m, pD_eqv, Bool.eq_iff_iff]
    simp
def telPD (r : List Nat) (ts : List (Nat × Nat)) : PyData := .tuple [.tuple (dn r), .tuple (pds ts)]
theorem telPD_shaped (r : List Nat) (ts : List (Nat × Nat)) : SeqAt.shaped (telPD r ts) = true := by
  show (PyData.canLayAll0 [.tuple (dn r), .tuple (pds ts)] && decide (PyData.depthAll [.tuple (dn r), .tuple (pds ts)] + 1 ≤ 64)) = true
  have e1 : PyData.canLayAll0 [.tuple (dn r), .tuple (pds ts)] = true := by
    show (PyData.canLayAll0 (dn r) && (PyData.canLayAll0 (pds ts) && true)) = true
    rw [dn_lay, pds_lay]
    rfl
  have e2 : PyData.depthAll [.tuple (dn r), .tuple (pds ts)] + 1 ≤ 64 := by
    show max (PyData.depthAll (dn r) + 1) (max (PyData.depthAll (pds ts) + 1) 0) + 1 ≤ 64
    have := pds_depth ts
    rw [dn_depth]
    omega
  rw [e1, decide_eq_true e2]
  rfl
theorem telPD_eqv (r r' : List Nat) (ts ts' : List (Nat × Nat)) : PyData.eqv (telPD r ts) (telPD r' ts') = (decide (r = r') && decide (ts = ts')) := by
  show PyData.eqv (.tuple [.tuple (dn r), .tuple (pds ts)]) (.tuple [.tuple (dn r'), .tuple (pds ts')]) = _
  rw [PyData.eqv, PyData.eqvAll, PyData.eqvAll, PyData.eqvAll, PyData.eqv, PyData.eqv, dn_eqv, pds_eqv]
  simp
/-- a value that is a telling -/
def TelAt (H : Hp) (v : V) (r : List Nat) (ts : List (Nat × Nat)) : Prop := ∃ (a b c : Addr) (vs : List V), v = .ref a ∧ H a = some (.tup [.ref b, .ref c]) ∧ H b = some (.tup (nats r)) ∧ H c = some (.tup vs) ∧ PrsV H vs ts
theorem TelAt.same {H H' : Hp} {v : V} {r : List Nat} {ts : List (Nat × Nat)} (s : Same H H') (h : TelAt H v r ts) : TelAt H' v r ts := by
  obtain ⟨a, b, c, vs, e, h1, h2, h3, h4⟩ := h
  exact ⟨a, b, c, vs, e, s _ _ h1, s _ _ h2, s _ _ h3, h4.same s⟩
section
variable {K : PySem.W.Frag} {H : Hp} {Q : VK}
theorem PrsV.dp : ∀ {vs : List V} {ts : List (Nat × Nat)}, PrsV H vs ts → DpAll K H vs (pds ts)
  | [], [], _ => .nil
  | v :: vs, x :: xs, h => by
    obtain ⟨t, e, ht⟩ := h.1
    subst e
    exact .cons (.tup (.of ht) (.cons (.int _) (.cons (.int _) .nil))) (PrsV.dp h.2)
  | [], _ :: _, h => h.elim
  | _ :: _, [], h => h.elim
theorem TelAt.dp {v : V} {r : List Nat} {ts : List (Nat × Nat)} (h : TelAt H v r ts) : Dp K H v (telPD r ts) := by
  obtain ⟨a, b, c, vs, e, h1, h2, h3, h4⟩ := h
  subst e
  exact .tup (.of h1) (.cons (.tup (.of h2) (dpAll_nats r)) (.cons (.tup (.of h3) h4.dp) .nil))
theorem x_neTel {x y : V} {r r' : List Nat} {ts ts' : List (Nat × Nat)} (h1 : TelAt H x r ts) (h2 : TelAt H y r' ts') (q : Q (.bl (!(decide (r = r') && decide (ts = ts')))) H) : rNeD K x y H Q := by
  refine ⟨telPD r ts, telPD r' ts', h1.dp, h2.dp, telPD_shaped _ _, telPD_shaped _ _, ?_⟩
  rw [telPD_eqv]
  exact q
theorem Al.pair {n : Nat} {v w : V} {x : Nat × Nat} (h1 : PrV H v x) (h2 : PrV H w x) : Al K H (n + 1) v w := by
  obtain ⟨t, e, ht⟩ := h1
  obtain ⟨u, e', hu⟩ := h2
  subst e e'
  refine Al.tups ht hu (by show 2 ≤ 1000; decide) fun z hz => ?_
  rcases List.mem_cons.mp hz with rfl | hz
  · rfl
  · rw [List.mem_singleton.mp hz]
    rfl
theorem TelAt.al {v w : V} {r : List Nat} {ts : List (Nat × Nat)} (hr : r.length ≤ 1000) (hts : ts.length ≤ 1000) (h1 : TelAt H v r ts) (h2 : TelAt H w r ts) : Al K H 3 v w := by
  obtain ⟨a, b, c, vs, e, h1, h2', h3, h4⟩ := h1
  obtain ⟨a', b', c', vs', e', k1, k2, k3, k4⟩ := h2
  subst e e'
  refine .inr (.inr ⟨a, a', _, _, rfl, rfl, h1, k1, rfl, (by show 2 ≤ 1000; decide), fun i hi1 hi2 => ?_⟩)
  match i with
  | 0 => exact Al.tups h2' k2 (by rw [nats_length]; exact hr) nats_sca
  | 1 =>
    refine .inr (.inr ⟨c, c', vs, vs', rfl, rfl, h3, k3, h4.len.trans k4.len.symm, by rw [k4.len]; exact hts, fun j hj1 hj2 => ?_⟩)
    obtain ⟨x, hx, px⟩ := h4.at (List.getElem?_eq_getElem hj1)
    obtain ⟨y, hy, py⟩ := k4.at (List.getElem?_eq_getElem hj2)
    rw [hx] at hy
    cases hy
    exact Al.pair px py
  | i + 2 => exact absurd hi1 (by show ¬ i + 2 < 2; omega)
end
end Fv
set_option maxRecDepth 100000
set_option maxHeartbeats 1000000
namespace Fv
open PySem PySem.Spec PyProof.Rows L2
/-! range(n), kept by a name -/
def rRng1 : List V → Hp → VK → Prop := fun vs H Q => ∃ j : Int, vs = [V.int j] ∧ ∀ p, H p = none → Q (.ref p) (upd H p (.rng 0 j))
theorem call_rng1 {X : Cx} : CallR X (.type "range") rRng1 := by
  intro pins s σ H vs us Q I r h
  obtain ⟨j, rfl, q⟩ := h
  obtain ⟨u1, rfl, ri⟩ := vals1 r
  obtain ⟨t, rfl⟩ := ri
  refine call_range_1 ⟨.ref s.heap.objs.size, upd H s.heap.objs.size (.rng 0 j), I.laid (fun b o e => Heap.get?_push_of_some _ e) (Nat.le_refl _) ?_, rfl, q _ (I.hok.fresh (Nat.le_refl _))⟩
  exact ⟨_, _, _, Heap.get?_push_size _ rfl⟩
theorem pi_tupK {X : Cx} {K : PySem.W.Frag} {tg e : Expr} {te : TE} (eK : X.K = K) (he : PE X e te) : PI X tg e (iTup K te) := by
  subst eK
  exact pi_tup he
theorem pi_listK {X : Cx} {K : PySem.W.Frag} {tg e : Expr} {te : TE} (eK : X.K = K) (he : PE X e te) : PI X tg e (iList K te) := by
  subst eK
  exact pi_list he
theorem nats_take (l : List Nat) (n : Nat) : (nats l).take n = nats (l.take n) := by
  unfold nats
  rw [List.map_take]
section
variable {K : PySem.W.Frag} {H : Hp} {Q : VK} {l b p : Addr} {xs zs : List V}
theorem x_rngA1 {j : Int} (q : ∀ p, H p = none → Q (.ref p) (upd H p (.rng 0 j))) : rRng1 [.int j] H Q := ⟨j, rfl, q⟩
theorem x_extend (h1 : H l = some (.lst xs)) (h2 : H b = some (.lst zs)) (hz : xs.length + zs.length ≤ 10000) (q : Q .non (upd H l (.lst (xs ++ zs)))) : rExtend (.ref l) [.ref b] H Q := ⟨l, b, xs, zs, rfl, rfl, h1, h2, szLe (by omega), q⟩
theorem range0_snoc (g : Nat → Bool) (n : Nat) : (List.range (n + 1)).filter g = (List.range n).filter g ++ if g n = true then [n] else [] := by
  rw [List.range_succ, List.filter_append]
  congr 1
  by_cases h : g n = true
  · rw [if_pos h, List.filter_cons_of_pos h]
    rfl
  · rw [if_neg h, List.filter_cons_of_neg h]
    rfl
theorem all_true (n : Nat) : ((List.replicate n true).map V.bl).length = n := by rw [List.length_map, List.length_replicate]
end
end Fv
namespace Fv
open PySem PySem.Spec L2
/-- a comprehension in a comprehension: the outer one's scope, as it stands in its def's -/
def relS (scope sc : Scope) : Scope := { scope with names := scope.names.map fun (n, k) => if (k == .free && sc.kind == .function && sc.names.lookup n == some .cell) then (n, .cell) else (n, k) }
theorem blkOk_nest {X : Cx} {s : Shared} {H : Hp} {scope sc2 sc : Scope} {cl : List (Str × Addr)} {C : Addr} {e : Env} {fp : List Addr} {N : List Str} {own : List (Str × Nat)} (h : blkC N (relS scope sc) sc2 own = true) (hs : e.scope = sc) : BlkOk N (X.blk s H scope (compEnvC scope cl C e) fp).env.scope sc2 own := by
  subst hs
  exact blkOk_by h
theorem cr_sumK {X : Cx} {K : PySem.W.Frag} (e : X.K = K) (hc : X.calm = true) : CallR X (.builtin "sum") (rSum K) := by
  subst e
  exact cr_sum hc
end Fv
/-! the first fact, and twins -/
namespace Fv
def dist (u d : Nat) : Nat := (if 0 < d then d + 1 else 0) + if 0 < u then 1 else 0
theorem nodup_sub : ∀ {xs ys : List Nat}, xs.Nodup → (∀ x ∈ xs, x ∈ ys) → xs.length ≤ ys.length
  | [], _, _, _ => Nat.zero_le _
  | x :: xs, ys, hn, h => by
    have hx := h x List.mem_cons_self
    have hn2 := List.nodup_cons.mp hn
    have ih := nodup_sub (xs := xs) (ys := ys.erase x) hn2.2 fun z hz => by
      have hne : z ≠ x := fun e => hn2.1 (by rw [← e]; exact hz)
      exact (List.mem_erase_of_ne hne).mpr (h z (List.mem_cons_of_mem _ hz))
    rw [List.length_erase_of_mem hx] at ih
    have : 0 < ys.length := List.length_pos_of_mem hx
    rw [List.length_cons]
    omega
/-- those above a block that hangs otherwise tell so -/
theorem chain_apart {hs gs : List Nat} {u d b : Nat} (hb : b ≤ hs.length) (b0 : b ≠ 0) (ne : up hs b ≠ up gs b) (h0 : telD hs gs u d 0 = true) : ∀ i, i ≤ d → upN hs i b ≠ 0 ∧ (1 ≤ i → telD hs gs u d (upN hs i b) = false)
  | 0, _ => ⟨b0, fun h => absurd h (by omega)⟩
  | i + 1, hi => by
    have ih := (chain_apart hb b0 ne h0 i (by omega)).1
    have f : telD hs gs u d (upN hs (i + 1) b) = false := by
      refine Bool.eq_false_iff.mpr fun h => ?_
      have e := (telD_iff.mp h).2
      have m := (ties_mem (hs := hs) (d := d) (p := upN hs (i + 1) b) (x := (b, up hs b))).mpr ⟨hb, (way_mem _ _ _ _).mpr ⟨i, by omega, ih, rfl⟩, rfl⟩
      rw [e] at m
      exact ne (ties_mem.mp m).2.2
    refine ⟨fun z => ?_, fun _ => f⟩
    rw [z, h0] at f
    cases f
theorem up_inj_chain {hs : List Nat} (t : IsTree hs) {b i j : Nat} (hb : b ≤ hs.length) (hij : i < j) (nz : upN hs i b ≠ 0) : upN hs i b ≠ upN hs j b := fun e => by
  refine no_ring t (upN_le t.le i b hb) nz (m := j - i) (by omega) ?_
  rw [← upN_add, show i + (j - i) = j by omega]
  exact e.symm
theorem least_block {hs gs : List Nat} (t : IsTree hs) (hl : hs.length = gs.length) (ne : hs ≠ gs) : ∃ b, b ≤ hs.length ∧ b ≠ 0 ∧ up hs b ≠ up gs b ∧ ∀ i, 1 ≤ i → up hs (upN hs i b) = up gs (upN hs i b) := by
  have ex : ∃ b, 1 ≤ b ∧ b ≤ hs.length ∧ up hs b ≠ up gs b := by
    exact Classical.byContradiction fun h => ne (same_ups hl fun k h1 h2 => Classical.byContradiction fun h3 => h ⟨k, h1, h2, h3⟩)
  have go : ∀ j, (∃ b, 1 ≤ b ∧ b ≤ hs.length ∧ up hs b ≠ up gs b ∧ upN hs j b = 0) → ∃ b, b ≤ hs.length ∧ b ≠ 0 ∧ up hs b ≠ up gs b ∧ ∀ i, 1 ≤ i → up hs (upN hs i b) = up gs (upN hs i b) := by
    intro j
    induction j using Nat.strongRecOn with
    | ind j ih =>
      rintro ⟨b, b1, b2, b3, b4⟩
      by_cases h : ∃ i, 1 ≤ i ∧ up hs (upN hs i b) ≠ up gs (upN hs i b)
      · obtain ⟨i, i1, i2⟩ := h
        have nz : upN hs i b ≠ 0 := fun z => i2 (by rw [z]; rfl)
        have hij : i < j := Nat.lt_of_not_le fun hle => nz (upN_more b4 hle)
        refine ih (j - i) (by omega) ⟨upN hs i b, by omega, upN_le t.le i b b2, i2, ?_⟩
        rw [← upN_add, show i + (j - i) = j by omega]
        exact b4
      · exact ⟨b, b2, by omega, b3, fun i h1 => Classical.byContradiction fun h2 => h ⟨i, h1, h2⟩⟩
  obtain ⟨b, b1, b2, b3⟩ := ex
  exact go hs.length ⟨b, b1, b2, b3, t.comes b b2⟩
theorem same_chain {hs gs : List Nat} {x : Nat} (h : ∀ i, up hs (upN hs i x) = up gs (upN hs i x)) : ∀ i, upN gs i x = upN hs i x
  | 0 => rfl
  | i + 1 => by rw [upN_succ, upN_succ, same_chain h i, h i]
theorem first_fact {hs gs : List Nat} {u d : Nat} (t : IsTree hs) (t' : IsTree gs) (hl : hs.length = gs.length) (ne : hs ≠ gs) (h0 : telD hs gs u d 0 = true) : dist u d ≤ (unlikeN hs gs u d).length := by
  obtain ⟨b, hb, b0, hne, hup⟩ := least_block t hl ne
  have hb' : b ≤ gs.length := by rw [← hl]; exact hb
  have A := chain_apart hb b0 hne h0
  have C := chain_apart (hs := gs) (gs := hs) hb' b0 hne.symm (by rw [telD_comm]; exact h0)
  have memA : ∀ i, 1 ≤ i → i ≤ d → upN hs i b ∈ unlikeN hs gs u d := fun i h1 h2 => unlike_mem.mpr ⟨upN_le t.le i b hb, (A i h2).2 h1⟩
  have memC : ∀ i, 1 ≤ i → i ≤ d → upN gs i b ∈ unlikeN hs gs u d := fun i h1 h2 => unlike_mem.mpr ⟨by rw [hl]; exact upN_le t'.le i b hb', by rw [telD_comm]; exact (C i h2).2 h1⟩
  -- those of the ties
  have ties : ∃ L : List Nat, L.Nodup ∧ (∀ x ∈ L, x ∈ unlikeN hs gs u d) ∧ b ∉ L ∧ L.length = if 0 < d then d + 1 else 0 := by
    by_cases hd : 0 < d
    · have nodA : ((List.range d).map fun i => upN hs (i + 1) b).Nodup := by
        refine List.pairwise_map.mpr ((List.Pairwise.and_mem.mp (List.pairwise_lt_range (n := d))).imp fun {i j} h e => ?_)
        obtain ⟨hi, hj, hij⟩ := h
        rw [List.mem_range] at hi hj
        exact up_inj_chain t hb (show i + 1 < j + 1 by omega) (A (i + 1) (by omega)).1 e
      have inA : ∀ x ∈ (List.range d).map fun i => upN hs (i + 1) b, ∃ i, 1 ≤ i ∧ i ≤ d ∧ x = upN hs i b := fun x hx => by
        obtain ⟨i, hi, rfl⟩ := List.mem_map.mp hx
        rw [List.mem_range] at hi
        exact ⟨i + 1, by omega, by omega, rfl⟩
      have bA : ∀ i, 1 ≤ i → i ≤ d + 1 → b ≠ upN hs i b := fun i h1 h2 => up_inj_chain t hb (i := 0) (by omega) b0
      have key : ∃ e, e ∈ unlikeN hs gs u d ∧ e ∉ ((List.range d).map fun i => upN hs (i + 1) b) ∧ b ≠ e := by
        by_cases hc : up gs b ∈ (List.range d).map fun i => upN hs (i + 1) b
        · obtain ⟨j, j1, j2, ej⟩ := inA _ hc
          have j3 : 2 ≤ j := by
            refine Nat.lt_of_not_le fun h => hne ?_
            have : j = 1 := by omega
            subst this
            exact ej.symm
          have hch := same_chain (hs := hs) (gs := gs) (x := upN hs j b) fun i => by
            rw [← upN_add]
            exact hup (j + i) (by omega)
          have ee : upN hs (d + 1) b = upN gs (d + 2 - j) b := by
            have e1 : upN hs (d + 1) b = upN hs (d + 1 - j) (upN hs j b) := by rw [← upN_add, show j + (d + 1 - j) = d + 1 by omega]
            rw [e1, ← hch, ← ej, show d + 2 - j = 1 + (d + 1 - j) by omega, upN_add]
            rfl
          refine ⟨upN hs (d + 1) b, by rw [ee]; exact memC _ (by omega) (by omega), fun hx => ?_, bA (d + 1) (by omega) (by omega)⟩
          obtain ⟨i, i1, i2, ei⟩ := inA _ hx
          exact up_inj_chain t hb (show i < d + 1 by omega) (A i i2).1 ei.symm
        · refine ⟨up gs b, memC 1 (by omega) hd, hc, fun e => ?_⟩
          exact no_ring t' hb' b0 (m := 1) (by omega) e.symm
      obtain ⟨e, e1, e2, e3⟩ := key
      refine ⟨e :: (List.range d).map fun i => upN hs (i + 1) b, List.nodup_cons.mpr ⟨e2, nodA⟩, fun x hx => ?_, fun hx => ?_, ?_⟩
      · rcases List.mem_cons.mp hx with rfl | hx
        · exact e1
        · obtain ⟨i, i1, i2, rfl⟩ := inA x hx
          exact memA i i1 i2
      · rcases List.mem_cons.mp hx with h | hx
        · exact e3 h
        · obtain ⟨i, i1, i2, ei⟩ := inA b hx
          exact bA i i1 (by omega) ei
      · rw [if_pos hd, List.length_cons, List.length_map, List.length_range]
    · exact ⟨[], List.Pairwise.nil, (fun x h => by cases h), (fun h => by cases h), by rw [if_neg hd]; rfl⟩
  obtain ⟨L, l1, l2, l3, l4⟩ := ties
  unfold dist
  rw [← l4]
  by_cases hu : 0 < u
  · rw [if_pos hu]
    have mb : b ∈ unlikeN hs gs u d := by
      refine unlike_mem.mpr ⟨hb, Bool.eq_false_iff.mpr fun h => ?_⟩
      have e := (telD_iff.mp h).1
      obtain ⟨u, rfl⟩ : ∃ u', u = u' + 1 := ⟨u - 1, by omega⟩
      rw [wayN_cons _ _ b0, wayN_cons _ _ b0] at e
      exact hne (List.cons.inj e).1
    have := nodup_sub (xs := b :: L) (ys := unlikeN hs gs u d) (List.nodup_cons.mpr ⟨l3, l1⟩) fun x hx => by
      rcases List.mem_cons.mp hx with rfl | hx
      · exact mb
      · exact l2 x hx
    rwa [List.length_cons] at this
  · rw [if_neg hu]
    exact nodup_sub l1 l2
/-! twins: a row of d + 1, and one block more under its last but one, or its last -/
def twin (n d y : Nat) : List Nat := List.range (d + 1) ++ y :: List.replicate (n - d - 2) 0
theorem twin_len {n d y : Nat} (h : d + 2 ≤ n) : (twin n d y).length = n := by
  unfold twin
  rw [List.length_append, List.length_range, List.length_cons, List.length_replicate]
  omega
theorem twin_up {n d y : Nat} (h : d + 2 ≤ n) (k : Nat) : up (twin n d y) k = if k ≤ d + 1 then k - 1 else if k = d + 2 then y else 0 := by
  by_cases h0 : k = 0
  · subst h0
    rw [if_pos (by omega)]
    rfl
  · unfold up
    rw [if_neg h0, List.getD_eq_getElem?_getD]
    unfold twin
    by_cases h1 : k ≤ d + 1
    · rw [if_pos h1, List.getElem?_append_left (by rw [List.length_range]; omega), List.getElem?_range (by omega)]
      rfl
    · rw [if_neg h1, List.getElem?_append_right (by rw [List.length_range]; omega), List.length_range]
      by_cases h2 : k = d + 2
      · subst h2
        rw [if_pos rfl, show d + 2 - 1 - (d + 1) = 0 by omega]
        rfl
      · rw [if_neg h2, show k - 1 - (d + 1) = (k - d - 3) + 1 by omega, List.getElem?_cons_succ, List.getElem?_replicate]
        split <;> rfl
theorem twin_row {n d y : Nat} (h : d + 2 ≤ n) {k : Nat} (hk : k ≤ d + 1) : ∀ j, upN (twin n d y) j k = k - j
  | 0 => rfl
  | j + 1 => by rw [upN_succ, twin_row h hk j, twin_up h, if_pos (by omega)]; omega
theorem twin_last {n d y : Nat} (h : d + 2 ≤ n) (hy : y ≤ d + 1) (j : Nat) : upN (twin n d y) (j + 1) (d + 2) = y - j := by
  show upN (twin n d y) j (up (twin n d y) (d + 2)) = _
  rw [twin_up h, if_neg (by omega), if_pos rfl, twin_row h hy]
theorem twin_rest {n d y k : Nat} (h : d + 2 ≤ n) (hk : d + 2 < k) : up (twin n d y) k = 0 := by
  rw [twin_up h, if_neg (by omega), if_neg (by omega)]
theorem twin_tree {n d y : Nat} (h : d + 2 ≤ n) (hn : n ≤ 40) (hy : y ≤ d + 1) : IsTree (twin n d y) := by
  have hle : ∀ x ∈ twin n d y, x ≤ (twin n d y).length := fun x hx => by
    rw [twin_len h]
    unfold twin at hx
    rcases List.mem_append.mp hx with hx | hx
    · rw [List.mem_range] at hx
      omega
    · rcases List.mem_cons.mp hx with rfl | hx
      · omega
      · rw [(List.mem_replicate.mp hx).2]
        exact Nat.zero_le _
  refine ⟨by rw [twin_len h]; omega, by rw [twin_len h]; exact hn, hle, fun k hk => ?_⟩
  by_cases h1 : k ≤ d + 1
  · exact comes_by (j := k) hle hk (by rw [twin_row h h1]; omega)
  · by_cases h2 : k = d + 2
    · subst h2
      exact comes_by (j := d + 1 + 1) hle hk (by rw [twin_last h hy]; omega)
    · exact comes_by (j := 1) hle hk (twin_rest h (by omega))
theorem twin_ne {n d : Nat} (h : d + 2 ≤ n) : twin n d d ≠ twin n d (d + 1) := fun e => by
  have a := twin_up (y := d) h (d + 2)
  have b := twin_up (y := d + 1) h (d + 2)
  rw [if_neg (by omega), if_pos rfl] at a b
  rw [e, b] at a
  omega
/-- but the last but one, all hang alike -/
theorem twin_alike {n d k : Nat} (h : d + 2 ≤ n) (hk : k ≠ d + 2) : up (twin n d d) k = up (twin n d (d + 1)) k := by
  rw [twin_up h, twin_up h, if_neg hk, if_neg hk]
theorem twin_up_ne {n d y : Nat} (h : d + 2 ≤ n) (hy : y ≤ d + 1) (k : Nat) : up (twin n d y) k ≠ d + 2 := by
  rw [twin_up h]
  split
  · omega
  · split <;> omega
theorem twin_way {n d : Nat} (h : d + 2 ≤ n) : ∀ m k, k ≠ d + 2 → wayN (twin n d d) m k = wayN (twin n d (d + 1)) m k
  | 0, _, _ => rfl
  | m + 1, k, hk => by
    by_cases h0 : k = 0
    · rw [h0, wayN_nil, wayN_nil]
    · rw [wayN_cons _ _ h0, wayN_cons _ _ h0, ← twin_alike h hk, twin_way h m _ (twin_up_ne h (by omega) k)]
theorem twin_last_way {n d y m p : Nat} (h : d + 2 ≤ n) (hy : y ≤ d + 1) (hm : m ≤ y) : p ∈ wayN (twin n d y) m (d + 2) ↔ p ≤ y ∧ y < p + m := by
  rw [way_mem]
  constructor
  · rintro ⟨j, h1, h2, h3⟩
    rw [twin_last h hy] at h3
    omega
  · rintro ⟨h1, h2⟩
    refine ⟨y - p, by omega, ?_, by rw [twin_last h hy]; omega⟩
    cases e : y - p with
    | zero =>
      show d + 2 ≠ 0
      omega
    | succ j =>
      rw [twin_last h hy]
      omega
theorem twin_tel {n d u p : Nat} (h : d + 2 ≤ n) : telD (twin n d d) (twin n d (d + 1)) u d p = true ↔ ¬ ((0 < d ∧ 1 ≤ p ∧ p ≤ d + 1) ∨ (0 < u ∧ p = d + 2)) := by
  rw [telD_iff, ties_eq (by rw [twin_len h, twin_len h]), twin_len h]
  have up1 : up (twin n d d) (d + 2) = d := by rw [twin_up h, if_neg (by omega), if_pos rfl]
  have up2 : up (twin n d (d + 1)) (d + 2) = d + 1 := by rw [twin_up h, if_neg (by omega), if_pos rfl]
  have w1 := twin_last_way (n := n) (y := d) (m := d) (p := p) h (by omega) (by omega)
  have w2 := twin_last_way (n := n) (y := d + 1) (m := d) (p := p) h (by omega) (by omega)
  constructor
  · rintro ⟨e1, e2⟩ (⟨k1, k2, k3⟩ | ⟨k1, rfl⟩)
    · obtain ⟨f1, f2⟩ := e2 (d + 2) h
      rw [w1, w2] at f1
      rw [w1, up1, up2] at f2
      by_cases hp : p ≤ d
      · have := f2 ⟨hp, by omega⟩
        omega
      · have := f1.mpr ⟨by omega, by omega⟩
        omega
    · obtain ⟨u, rfl⟩ : ∃ u', u = u' + 1 := ⟨u - 1, by omega⟩
      rw [wayN_cons _ _ (by omega), wayN_cons _ _ (by omega), up1, up2] at e1
      have := (List.cons.inj e1).1
      omega
  · intro hn
    refine ⟨?_, fun b hb => ?_⟩
    · by_cases hp : p = d + 2
      · have u0 : u = 0 := by
          refine Nat.eq_zero_of_not_pos fun hu => hn (.inr ⟨hu, hp⟩)
        rw [u0]
        rfl
      · exact twin_way h u p hp
    · by_cases hb2 : b = d + 2
      · subst hb2
        rw [w1, w2]
        have : ¬ (0 < d ∧ 1 ≤ p ∧ p ≤ d + 1) := fun z => hn (.inl z)
        constructor
        · omega
        · intro z
          omega
      · rw [twin_way h d b hb2, twin_alike h hb2]
        exact ⟨Iff.rfl, fun _ => rfl⟩
theorem twin_unlike {n d u : Nat} (h : d + 2 ≤ n) : (unlikeN (twin n d d) (twin n d (d + 1)) u d).length = dist u d := by
  have e : (unlikeN (twin n d d) (twin n d (d + 1)) u d).Perm (List.range' 1 (if 0 < d then d + 1 else 0) ++ if 0 < u then [d + 2] else []) := by
    refine (List.perm_ext_iff_of_nodup ((unlike_sorted _ _ _ _).imp fun {a b} h => Nat.ne_of_lt h) ?_).mpr fun p => ?_
    · refine List.nodup_append.mpr ⟨List.nodup_range', ?_, fun x hx y hy e => ?_⟩
      · split
        · exact List.pairwise_singleton _ _
        · exact List.Pairwise.nil
      · have h1 := List.mem_range'_1.mp hx
        split at hy
        · have h2 := List.mem_singleton.mp hy
          split at h1 <;> omega
        · cases hy
    · rw [unlike_mem, twin_len h, List.mem_append, List.mem_range'_1]
      have k := twin_tel (u := u) (p := p) h
      rw [← Bool.not_eq_true, k, Decidable.not_not]
      by_cases hd : 0 < d
      · by_cases hu : 0 < u
        · rw [if_pos hd, if_pos hu, List.mem_singleton]
          omega
        · rw [if_pos hd, if_neg hu]
          simp only [List.not_mem_nil, or_false]
          omega
      · by_cases hu : 0 < u
        · rw [if_neg hd, if_pos hu, List.mem_singleton]
          omega
        · rw [if_neg hd, if_neg hu]
          simp only [List.not_mem_nil, or_false]
          omega
  rw [e.length_eq, List.length_append, List.length_range']
  unfold dist
  congr 1
  split <;> rfl
theorem twin_head {n d u : Nat} (h : d + 2 ≤ n) : telD (twin n d d) (twin n d (d + 1)) u d 0 = true := (twin_tel h).mpr (by omega)
end Fv
/-! all trees of so many blocks, and all pairs of them -/
namespace Fv
def rowsN (n : Nat) : Nat → List (List Nat)
  | 0 => [[]]
  | b + 1 => (rowsN n b).flatMap fun r => ((List.range (n + 1)).filter fun p => decide (p ≠ b + 1)).map fun p => r ++ [p]
def isT (hs : List Nat) : Bool := (List.range' 1 hs.length).all fun k => decide (upN hs hs.length k = 0)
def allTrees (n : Nat) : List (List Nat) := (rowsN n n).filter isT
theorem rows_mem (n : Nat) : ∀ b (r : List Nat), r ∈ rowsN n b ↔ r.length = b ∧ ∀ (i x : Nat), r[i]? = some x → x ≤ n ∧ x ≠ i + 1
  | 0, r => by
    show r ∈ [[]] ↔ _
    rw [List.mem_singleton]
    constructor
    · rintro rfl
      exact ⟨rfl, fun i x h => by cases h⟩
    · exact fun h => List.eq_nil_of_length_eq_zero h.1
  | b + 1, r => by
    show r ∈ (rowsN n b).flatMap _ ↔ _
    rw [List.mem_flatMap]
    constructor
    · rintro ⟨s, hs, hr⟩
      obtain ⟨p, hp, rfl⟩ := List.mem_map.mp hr
      obtain ⟨l1, l2⟩ := (rows_mem n b s).mp hs
      rw [List.mem_filter, List.mem_range, decide_eq_true_eq] at hp
      refine ⟨by rw [List.length_append, l1]; rfl, fun i x h => ?_⟩
      by_cases hi : i < s.length
      · rw [List.getElem?_append_left hi] at h
        exact l2 i x h
      · have hl := (List.getElem?_eq_some_iff.mp h).1
        rw [List.length_append] at hl
        have hl : i < s.length + 1 := hl
        have e : i = s.length := by omega
        subst e
        rw [List.getElem?_append_right (Nat.le_refl _), Nat.sub_self] at h
        have e2 : p = x := Option.some.inj h
        subst e2
        rw [l1]
        exact ⟨by omega, hp.2⟩
    · rintro ⟨l1, l2⟩
      have hne : r ≠ [] := fun e => by
        rw [e] at l1
        cases l1
      have hd := List.dropLast_concat_getLast hne
      have ll : r.dropLast.length = b := by rw [List.length_dropLast, l1]; rfl
      have hlast : r[b]? = some (r.getLast hne) := by
        rw [List.getLast_eq_getElem, ← List.getElem?_eq_getElem]
        congr 1
        omega
      refine ⟨r.dropLast, (rows_mem n b _).mpr ⟨ll, fun i x h => ?_⟩, List.mem_map.mpr ⟨r.getLast hne, ?_, hd⟩⟩
      · have hi := (List.getElem?_eq_some_iff.mp h).1
        refine l2 i x ?_
        rw [← hd, List.getElem?_append_left hi]
        exact h
      · rw [List.mem_filter, List.mem_range, decide_eq_true_eq]
        have := l2 b _ hlast
        exact ⟨by omega, this.2⟩
theorem rows_nodup (n : Nat) : ∀ b, (rowsN n b).Nodup
  | 0 => List.pairwise_singleton _ _
  | b + 1 => by
    show ((rowsN n b).flatMap _).Nodup
    refine List.pairwise_flatMap.mpr ⟨fun r _ => ?_, (rows_nodup n b).imp fun {r s} hrs x hx y hy e => hrs ?_⟩
    · refine List.pairwise_map.mpr ((List.Pairwise.filter _ (List.nodup_range (n := n + 1))).imp fun {p q} hpq e => hpq ?_)
      have := List.append_cancel_left e
      exact (List.cons.inj this).1
    · obtain ⟨p, _, rfl⟩ := List.mem_map.mp hx
      obtain ⟨q, _, rfl⟩ := List.mem_map.mp hy
      exact (List.append_inj' e rfl).1
theorem rows_len (n : Nat) : ∀ b, (rowsN n b).length ≤ (n + 1) ^ b
  | 0 => Nat.le_refl _
  | b + 1 => by
    show ((rowsN n b).flatMap _).length ≤ _
    rw [List.length_flatMap]
    have h : ∀ m : List (List Nat), (m.map fun r => (((List.range (n + 1)).filter fun p => decide (p ≠ b + 1)).map fun p => r ++ [p]).length).sum ≤ m.length * (n + 1) := fun m => by
      induction m with
      | nil => exact Nat.zero_le _
      | cons r m ih =>
        rw [List.map_cons, List.sum_cons, List.length_map, List.length_cons, Nat.add_mul, Nat.one_mul]
        have := List.length_filter_le (fun p => decide (p ≠ b + 1)) (List.range (n + 1))
        rw [List.length_range] at this
        omega
    refine Nat.le_trans (h _) ?_
    rw [Nat.pow_succ]
    exact Nat.mul_le_mul_right _ (rows_len n b)
theorem all_mem {n : Nat} (h1 : 1 ≤ n) (h2 : n ≤ 40) {hs : List Nat} : hs ∈ allTrees n ↔ hs.length = n ∧ IsTree hs := by
  unfold allTrees
  rw [List.mem_filter, rows_mem]
  unfold isT
  rw [List.all_eq_true]
  constructor
  · rintro ⟨⟨l1, l2⟩, c⟩
    have hle : ∀ x ∈ hs, x ≤ hs.length := fun x hx => by
      obtain ⟨i, hi, e⟩ := List.getElem_of_mem hx
      rw [l1]
      exact (l2 i x (by rw [List.getElem?_eq_getElem hi, e])).1
    refine ⟨l1, by omega, by omega, hle, fun k hk => ?_⟩
    by_cases h0 : k = 0
    · rw [h0]
      exact upN_zero hs _
    · exact of_decide_eq_true (c k (List.mem_range'_1.mpr (by omega)))
  · rintro ⟨l1, t⟩
    refine ⟨⟨l1, fun i x hx => ⟨?_, fun e => ?_⟩⟩, fun k hk => decide_eq_true (t.comes k (by have := List.mem_range'_1.mp hk; omega))⟩
    · rw [← l1]
      exact t.le x (List.mem_of_getElem? hx)
    · have hi := (List.getElem?_eq_some_iff.mp hx).1
      refine no_ring t (k := i + 1) (m := 1) (by omega) (by omega) (by omega) ?_
      show up hs (i + 1) = i + 1
      rw [up_at (by omega) (by rw [Nat.add_sub_cancel]; exact hx), e]
theorem all_nodup (n : Nat) : (allTrees n).Nodup := List.Pairwise.filter _ (rows_nodup n n)
theorem all_len (n : Nat) : (allTrees n).length ≤ (n + 1) ^ n := Nat.le_trans (List.length_filter_le _ _) (rows_len n n)
/-- how many tell otherwise, for all pairs whose heads tell alike -/
def foundI (T : List (List Nat)) (u d i : Nat) : List Nat := ((List.range i).filter fun j => telD (T.getD j []) (T.getD i []) u d 0).map fun j => (unlikeN (T.getD i []) (T.getD j []) u d).length
def foundN (T : List (List Nat)) (u d i : Nat) : List Nat := (List.range i).flatMap fun k => foundI T u d k
theorem foundN_succ (T : List (List Nat)) (u d i : Nat) : foundN T u d (i + 1) = foundN T u d i ++ foundI T u d i := by
  unfold foundN
  rw [List.range_succ, List.flatMap_append]
  simp
theorem foundI_len (T : List (List Nat)) (u d i : Nat) : (foundI T u d i).length ≤ i := by
  unfold foundI
  rw [List.length_map]
  refine Nat.le_trans (List.length_filter_le _ _) ?_
  rw [List.length_range]
  exact Nat.le_refl _
theorem foundN_len (T : List (List Nat)) (u d : Nat) : ∀ i, (foundN T u d i).length ≤ i * i
  | 0 => Nat.le_refl _
  | i + 1 => by
    rw [foundN_succ, List.length_append]
    have := foundN_len T u d i
    have := foundI_len T u d i
    have e : (i + 1) * (i + 1) = i * i + i + i + 1 := by rw [Nat.add_mul, Nat.mul_add]; omega
    omega
theorem found_mem {T : List (List Nat)} {u d m x : Nat} : x ∈ foundN T u d m ↔ ∃ i j, j < i ∧ i < m ∧ telD (T.getD j []) (T.getD i []) u d 0 = true ∧ x = (unlikeN (T.getD i []) (T.getD j []) u d).length := by
  unfold foundN foundI
  rw [List.mem_flatMap]
  constructor
  · rintro ⟨i, hi, hx⟩
    obtain ⟨j, hj, rfl⟩ := List.mem_map.mp hx
    rw [List.mem_filter, List.mem_range] at hj
    exact ⟨i, j, hj.1, List.mem_range.mp hi, hj.2, rfl⟩
  · rintro ⟨i, j, h1, h2, h3, rfl⟩
    exact ⟨i, List.mem_range.mpr h2, List.mem_map.mpr ⟨j, List.mem_filter.mpr ⟨List.mem_range.mpr h1, h3⟩, rfl⟩⟩
theorem getD_mem {T : List (List Nat)} {i : Nat} (h : i < T.length) : T.getD i [] ∈ T := by
  rw [List.getD_eq_getElem?_getD, List.getElem?_eq_getElem h]
  exact List.getElem_mem h
theorem found_least {n u d x : Nat} (h1 : 1 ≤ n) (h2 : n ≤ 40) (hx : x ∈ foundN (allTrees n) u d (allTrees n).length) : dist u d ≤ x := by
  obtain ⟨i, j, hij, hi, ht, rfl⟩ := found_mem.mp hx
  have mi := (all_mem h1 h2).mp (getD_mem hi)
  have mj := (all_mem h1 h2).mp (getD_mem (show j < (allTrees n).length by omega))
  refine first_fact mi.2 mj.2 (by rw [mi.1, mj.1]) (fun e => ?_) (by rw [telD_comm]; exact ht)
  rw [List.getD_eq_getElem?_getD, List.getD_eq_getElem?_getD, List.getElem?_eq_getElem hi, List.getElem?_eq_getElem (show j < (allTrees n).length by omega)] at e
  have := (List.getElem_inj (h₀ := hi) (h₁ := show j < (allTrees n).length by omega) (all_nodup n)).mp e
  omega
theorem found_twins {n u d : Nat} (h2 : n ≤ 40) (h : d + 2 ≤ n) : dist u d ∈ foundN (allTrees n) u d (allTrees n).length := by
  have h1 : 1 ≤ n := by omega
  have ma := (all_mem h1 h2).mpr ⟨twin_len (y := d) h, twin_tree h h2 (by omega)⟩
  have mb := (all_mem h1 h2).mpr ⟨twin_len (y := d + 1) h, twin_tree h h2 (by omega)⟩
  obtain ⟨a, ha, ea⟩ := List.getElem_of_mem ma
  obtain ⟨b, hb, eb⟩ := List.getElem_of_mem mb
  have ga : (allTrees n).getD a [] = twin n d d := by
    rw [List.getD_eq_getElem?_getD, List.getElem?_eq_getElem ha]
    exact ea
  have gb : (allTrees n).getD b [] = twin n d (d + 1) := by
    rw [List.getD_eq_getElem?_getD, List.getElem?_eq_getElem hb]
    exact eb
  rcases Nat.lt_trichotomy a b with hab | hab | hab
  · refine found_mem.mpr ⟨b, a, hab, hb, by rw [ga, gb]; exact twin_head h, ?_⟩
    rw [ga, gb, unlike_comm (by rw [twin_len h, twin_len h]), twin_unlike h]
  · subst hab
    rw [ga] at gb
    exact (twin_ne h gb).elim
  · refine found_mem.mpr ⟨a, b, hab, ha, by rw [ga, gb, telD_comm]; exact twin_head h, ?_⟩
    rw [ga, gb, twin_unlike h]
end Fv
/-! words of places; nothing of the program here -/
namespace Fv
/-- the words of n blocks -/
structure WdOk (n : Nat) (us : List (Option Nat)) (ls : List (List (Option Bool))) : Prop where
  n1 : 1 ≤ n
  n2 : n ≤ 40
  ul : us.length = n
  uo : ∀ b q, us[b]? = some (some q) → q ≤ n ∧ q ≠ b + 1
  ll : ls.length = n + 1
  rl : ∀ r ∈ ls, r.length = n
  dg : ∀ p r, ls[p]? = some r → 1 ≤ p → r[p - 1]? = some (some false)
def up1 (us : List (Option Nat)) (b p : Nat) : Nat := match us[b - 1]? with
  | some (some q) => if q = p then 0 else 1
  | _ => 0
/-- what the places say of this block -/
def col (ls : List (List (Option Bool))) (b : Nat) : List (Option Bool) := ls.map fun r => (r[b - 1]?).getD none
def wr1 (o p : Nat) : Option Bool → Nat
  | none => 0
  | some f => if f = decide (o = p) then 0 else 1
def sumW (p : Nat) : Nat → List (Option Bool) → Nat
  | _, [] => 0
  | o, f :: r => wr1 o p f + sumW p (o + 1) r
def costN (us : List (Option Nat)) (ls : List (List (Option Bool))) (b p : Nat) : Nat := up1 us b p + sumW p 0 (col ls b)
def trueN (c : List (Option Bool)) : Nat := c.count (some true)
theorem sumW_off (p : Nat) : ∀ (o : Nat) (c : List (Option Bool)), p < o → sumW p o c = trueN c
  | _, [], _ => rfl
  | o, f :: r, h => by
    have ih := sumW_off p (o + 1) r (by omega)
    have e : decide (o = p) = false := decide_eq_false (by omega)
    unfold sumW trueN
    rw [ih, List.count_cons]
    unfold trueN
    cases f with
    | none => simp [wr1]
    | some b => cases b <;> simp [wr1, e] <;> omega
theorem sumW_at (p : Nat) : ∀ (o : Nat) (c : List (Option Bool)), o ≤ p → p < o + c.length → sumW p o c + (if c[p - o]? = some (some true) then 1 else 0) = trueN c + (if c[p - o]? = some (some false) then 1 else 0)
  | o, [], h1, h2 => by
    rw [List.length_nil] at h2
    omega
  | o, f :: r, h1, h2 => by
    rw [List.length_cons] at h2
    by_cases e : o = p
    · subst e
      have ih := sumW_off o (o + 1) r (by omega)
      rw [Nat.sub_self]
      unfold sumW
      rw [ih]
      unfold trueN
      rw [List.count_cons]
      cases f with
      | none => simp [wr1]
      | some b => cases b <;> simp [wr1] <;> omega
    · have ih := sumW_at p (o + 1) r (by omega) (by omega)
      have e1 : p - o = (p - (o + 1)) + 1 := by omega
      rw [e1, List.getElem?_cons_succ]
      unfold sumW
      have e2 : trueN (f :: r) = trueN r + (if f = some true then 1 else 0) := by
        unfold trueN
        rw [List.count_cons]
        congr 1
        cases f with
        | none => rfl
        | some b => cases b <;> rfl
      have e3 : wr1 o p f = (if f = some true then 1 else 0) := by
        have e : decide (o = p) = false := decide_eq_false e
        cases f with
        | none => simp [wr1]
        | some b => cases b <;> simp [wr1, e]
      omega
theorem sumW_app (p : Nat) : ∀ (o : Nat) (c d : List (Option Bool)), sumW p o (c ++ d) = sumW p o c + sumW p (o + c.length) d
  | o, [], d => by simp [sumW]
  | o, f :: r, d => by
    have ih := sumW_app p (o + 1) r d
    show wr1 o p f + sumW p (o + 1) (r ++ d) = wr1 o p f + sumW p (o + 1) r + _
    rw [ih, List.length_cons, show o + 1 + r.length = o + (r.length + 1) by omega]
    omega
theorem wr1_le (o p : Nat) (f : Option Bool) : wr1 o p f ≤ 1 := by
  unfold wr1
  split
  · omega
  · split <;> omega
theorem sumW_le (p : Nat) : ∀ (o : Nat) (c : List (Option Bool)), sumW p o c ≤ c.length
  | _, [] => Nat.le_refl _
  | o, f :: r => by
    have ih := sumW_le p (o + 1) r
    have := wr1_le o p f
    unfold sumW
    rw [List.length_cons]
    omega
theorem up1_le (us : List (Option Nat)) (b p : Nat) : up1 us b p ≤ 1 := by
  unfold up1
  split
  · split <;> omega
  · omega
theorem col_len (ls : List (List (Option Bool))) (b : Nat) : (col ls b).length = ls.length := by
  unfold col
  rw [List.length_map]
theorem costN_le (us : List (Option Nat)) (ls : List (List (Option Bool))) (b p : Nat) : costN us ls b p ≤ ls.length + 1 := by
  have := up1_le us b p
  have := sumW_le p 0 (col ls b)
  rw [col_len] at this
  unfold costN
  omega
/-- what the program reckons -/
theorem cost_is {us : List (Option Nat)} {ls : List (List (Option Bool))} {b p : Nat} (hp : p < ls.length) : costN us ls b p + (if (col ls b)[p]? = some (some true) then 1 else 0) = trueN (col ls b) + (if (col ls b)[p]? = some (some false) then 1 else 0) + up1 us b p := by
  have := sumW_at p 0 (col ls b) (by omega) (by rw [col_len]; omega)
  rw [Nat.sub_zero] at this
  unfold costN
  omega
/-- a tree's right words -/
def rightL (hs : List Nat) : List (List (Option Bool)) := (List.range (hs.length + 1)).map fun p => hs.map fun h => some (decide (h = p))
def rightU (hs : List Nat) : List (Option Nat) := hs.map some
theorem rightL_len (hs : List Nat) : (rightL hs).length = hs.length + 1 := by
  unfold rightL
  rw [List.length_map, List.length_range]
theorem rightL_get {hs : List Nat} {p : Nat} (h : p ≤ hs.length) : (rightL hs)[p]? = some (hs.map fun h => some (decide (h = p))) := by
  unfold rightL
  rw [List.getElem?_map, List.getElem?_range (by omega)]
  rfl
theorem right_ok {hs : List Nat} (t : IsTree hs) : WdOk hs.length (rightU hs) (rightL hs) where
  n1 := t.pos
  n2 := t.most
  ul := by
    unfold rightU
    rw [List.length_map]
  uo := fun b q h => by
    unfold rightU at h
    rw [List.getElem?_map] at h
    cases e : hs[b]? with
    | none =>
      rw [e] at h
      cases h
    | some c =>
      rw [e] at h
      have : c = q := Option.some.inj (Option.some.inj h)
      subst this
      refine ⟨t.le c (List.mem_of_getElem? e), fun z => ?_⟩
      subst z
      have hb := (List.getElem?_eq_some_iff.mp e).1
      have eu : up hs (b + 1) = b + 1 := by
        unfold up
        rw [if_neg (by omega), List.getD_eq_getElem?_getD, Nat.add_sub_cancel, e]
        rfl
      have : ∀ j, upN hs j (b + 1) = b + 1 := fun j => by
        induction j with
        | zero => rfl
        | succ j ih =>
          show upN hs j (up hs (b + 1)) = b + 1
          rw [eu, ih]
      have h2 := t.comes (b + 1) (by omega)
      rw [this] at h2
      omega
  ll := rightL_len hs
  rl := fun r hr => by
    unfold rightL at hr
    obtain ⟨p, _, rfl⟩ := List.mem_map.mp hr
    rw [List.length_map]
  dg := fun p r h h1 => by
    have hp := (List.getElem?_eq_some_iff.mp h).1
    rw [rightL_len] at hp
    rw [rightL_get (by omega)] at h
    cases h
    have hb : p - 1 < hs.length := by omega
    rw [List.getElem?_map, List.getElem?_eq_getElem hb]
    show some (some _) = _
    congr 2
    refine decide_eq_false fun z => ?_
    have eu : up hs p = p := by
      unfold up
      rw [if_neg (by omega), List.getD_eq_getElem?_getD, List.getElem?_eq_getElem hb]
      exact z
    have : ∀ j, upN hs j p = p := fun j => by
      induction j with
      | zero => rfl
      | succ j ih =>
        show upN hs j (up hs p) = p
        rw [eu, ih]
    have h2 := t.comes p (by omega)
    rw [this] at h2
    omega
theorem right_col {hs : List Nat} {b : Nat} (b1 : 1 ≤ b) (b2 : b ≤ hs.length) : col (rightL hs) b = (List.range (hs.length + 1)).map fun p => some (decide (up hs b = p)) := by
  unfold col rightL
  rw [List.map_map]
  refine List.map_congr_left fun p _ => ?_
  show (((hs.map fun h => some (decide (h = p)))[b - 1]?).getD none) = _
  have hb : b - 1 < hs.length := by omega
  rw [List.getElem?_map, List.getElem?_eq_getElem hb]
  show some (decide (hs[b - 1] = p)) = _
  have : up hs b = hs[b - 1] := by
    unfold up
    rw [if_neg (by omega), List.getD_eq_getElem?_getD, List.getElem?_eq_getElem hb]
    rfl
  rw [this]
theorem sumW_range (u p : Nat) : ∀ (k o : Nat), sumW p o ((List.range' o k).map fun q => some (decide (u = q))) = if u = p then 0 else (if o ≤ u ∧ u < o + k then 1 else 0) + (if o ≤ p ∧ p < o + k then 1 else 0)
  | 0, o => by
    have h1 : ¬ (o ≤ u ∧ u < o + 0) := by omega
    have h2 : ¬ (o ≤ p ∧ p < o + 0) := by omega
    rw [if_neg h1, if_neg h2]
    simp [sumW]
  | k + 1, o => by
    have ih := sumW_range u p k (o + 1)
    rw [List.range'_succ, List.map_cons]
    unfold sumW
    rw [ih]
    by_cases e : u = p
    · subst e
      have : wr1 o u (some (decide (u = o))) = 0 := by
        unfold wr1
        have : decide (u = o) = decide (o = u) := by
          rw [decide_eq_decide]
          exact eq_comm
        exact if_pos this
      rw [this, if_pos rfl, if_pos rfl]
    · rw [if_neg e, if_neg e]
      by_cases e1 : u = o
      · have e2 : ¬ o = p := by omega
        have : wr1 o p (some (decide (u = o))) = 1 := by
          unfold wr1
          rw [decide_eq_true e1, decide_eq_false e2]
          rfl
        rw [this, if_neg (c := o + 1 ≤ u ∧ u < o + 1 + k) (by omega), if_pos (c := o ≤ u ∧ u < o + (k + 1)) (by omega)]
        by_cases e3 : o + 1 ≤ p ∧ p < o + 1 + k
        · rw [if_pos e3, if_pos (by omega)]
        · rw [if_neg e3, if_neg (by omega)]
      · by_cases e2 : o = p
        · have : wr1 o p (some (decide (u = o))) = 1 := by
            unfold wr1
            rw [decide_eq_false e1, decide_eq_true e2]
            rfl
          rw [this, if_neg (c := o + 1 ≤ p ∧ p < o + 1 + k) (by omega), if_pos (c := o ≤ p ∧ p < o + (k + 1)) (by omega)]
          by_cases e3 : o + 1 ≤ u ∧ u < o + 1 + k
          · rw [if_pos e3, if_pos (by omega)]
          · rw [if_neg e3, if_neg (by omega)]
        · have : wr1 o p (some (decide (u = o))) = 0 := by
            unfold wr1
            rw [decide_eq_false e1, decide_eq_false e2]
            rfl
          rw [this]
          by_cases e3 : o + 1 ≤ u ∧ u < o + 1 + k
          · rw [if_pos e3, if_pos (c := o ≤ u ∧ u < o + (k + 1)) (by omega)]
            by_cases e4 : o + 1 ≤ p ∧ p < o + 1 + k
            · rw [if_pos e4, if_pos (by omega)]
            · rw [if_neg e4, if_neg (by omega)]
          · rw [if_neg e3, if_neg (c := o ≤ u ∧ u < o + (k + 1)) (by omega)]
            by_cases e4 : o + 1 ≤ p ∧ p < o + 1 + k
            · rw [if_pos e4, if_pos (by omega)]
            · rw [if_neg e4, if_neg (by omega)]
/-- three words are wrong, or none -/
theorem right_cost {hs : List Nat} (t : IsTree hs) {b p : Nat} (b1 : 1 ≤ b) (b2 : b ≤ hs.length) (hp : p ≤ hs.length) : costN (rightU hs) (rightL hs) b p = if up hs b = p then 0 else 3 := by
  unfold costN
  have hb : b - 1 < hs.length := by omega
  have eu : up hs b = hs[b - 1] := by
    unfold up
    rw [if_neg (by omega), List.getD_eq_getElem?_getD, List.getElem?_eq_getElem hb]
    rfl
  have hu : up hs b ≤ hs.length := by
    rw [eu]
    exact t.le _ (List.getElem_mem hb)
  have e1 : up1 (rightU hs) b p = if up hs b = p then 0 else 1 := by
    unfold up1 rightU
    rw [List.getElem?_map, List.getElem?_eq_getElem hb, eu]
    rfl
  rw [e1, right_col b1 b2, List.range_eq_range', sumW_range]
  by_cases e : up hs b = p
  · rw [if_pos e, if_pos e, if_pos e]
  · rw [if_neg e, if_neg e, if_neg e, if_pos ⟨by omega, by omega⟩, if_pos ⟨by omega, by omega⟩]
/-- all blocks' costs -/
def wrongN (us : List (Option Nat)) (ls : List (List (Option Bool))) : Nat → List Nat → Nat
  | _, [] => 0
  | b, p :: r => costN us ls b p + wrongN us ls (b + 1) r
theorem wrongN_snoc (us : List (Option Nat)) (ls : List (List (Option Bool))) : ∀ (b : Nat) (hs : List Nat) (p : Nat), wrongN us ls b (hs ++ [p]) = wrongN us ls b hs + costN us ls (b + hs.length) p
  | b, [], p => by simp [wrongN]
  | b, h :: r, p => by
    have ih := wrongN_snoc us ls (b + 1) r p
    rw [List.cons_append]
    unfold wrongN
    rw [ih, List.length_cons, show b + 1 + r.length = b + (r.length + 1) by omega]
    omega
theorem wrongN_set (us : List (Option Nat)) (ls : List (List (Option Bool))) : ∀ (hs : List Nat) (b i p : Nat), i < hs.length → wrongN us ls b (hs.set i p) + costN us ls (b + i) (hs.getD i 0) = wrongN us ls b hs + costN us ls (b + i) p
  | [], b, i, p, h => absurd h (Nat.not_lt_zero _)
  | x :: r, b, 0, p, _ => by
    simp only [List.set_cons_zero, wrongN, Nat.add_zero, List.getD_cons_zero]
    omega
  | x :: r, b, i + 1, p, h => by
    have ih := wrongN_set us ls r (b + 1) i p (by rw [List.length_cons] at h; omega)
    simp only [List.set_cons_succ, wrongN, List.getD_cons_succ]
    rw [show b + (i + 1) = b + 1 + i by omega]
    omega
/-- blocks that hang elsewhere -/
def apartN : List Nat → List Nat → Nat
  | a :: r, b :: s => (if a = b then 0 else 1) + apartN r s
  | _, _ => 0
theorem right_wrong {hs : List Nat} (t : IsTree hs) : ∀ (gs : List Nat) (b : Nat), 1 ≤ b → b - 1 + gs.length ≤ hs.length → (∀ g ∈ gs, g ≤ hs.length) → wrongN (rightU hs) (rightL hs) b gs = 3 * apartN (hs.drop (b - 1)) gs
  | [], b, _, _, _ => by
    unfold wrongN
    cases hs.drop (b - 1) <;> rfl
  | g :: r, b, b1, h, hg => by
    rw [List.length_cons] at h
    have hb : b - 1 < hs.length := by omega
    have ih := right_wrong t r (b + 1) (by omega) (by omega) fun x hx => hg x (List.mem_cons_of_mem _ hx)
    have eu : up hs b = hs[b - 1] := by
      unfold up
      rw [if_neg (by omega), List.getD_eq_getElem?_getD, List.getElem?_eq_getElem hb]
      rfl
    unfold wrongN
    rw [ih, right_cost t b1 (by omega) (hg g List.mem_cons_self), List.drop_eq_getElem_cons hb, show b + 1 - 1 = b - 1 + 1 by omega]
    show _ = 3 * ((if hs[b - 1] = g then 0 else 1) + apartN (hs.drop (b - 1 + 1)) r)
    rw [eu]
    by_cases e : hs[b - 1] = g
    · rw [if_pos e, if_pos e]
      omega
    · rw [if_neg e, if_neg e]
      omega
theorem apartN_self : ∀ hs : List Nat, apartN hs hs = 0
  | [] => rfl
  | a :: r => by
    unfold apartN
    rw [if_pos rfl, apartN_self r]
theorem wrongN_le (us : List (Option Nat)) (ls : List (List (Option Bool))) : ∀ (b : Nat) (hs : List Nat), wrongN us ls b hs ≤ hs.length * (ls.length + 1)
  | b, [] => by simp [wrongN]
  | b, h :: r => by
    have ih := wrongN_le us ls (b + 1) r
    have := costN_le us ls b h
    unfold wrongN
    rw [List.length_cons, Nat.succ_mul]
    omega
end Fv
/-! votes; nothing of the program here -/
namespace Fv
/-- the least cost of this block -/
structure MinIs (us : List (Option Nat)) (ls : List (List (Option Bool))) (n b m : Nat) : Prop where
  some : ∃ p, p ≤ n ∧ p ≠ b ∧ costN us ls b p = m
  all : ∀ p, p ≤ n → p ≠ b → m ≤ costN us ls b p
theorem MinIs.det {us : List (Option Nat)} {ls : List (List (Option Bool))} {n b m k : Nat} (h : MinIs us ls n b m) (g : MinIs us ls n b k) : m = k := by
  obtain ⟨p, hp, hb, e⟩ := h.some
  obtain ⟨q, hq, hc, f⟩ := g.some
  have h1 := h.all q hq hc
  have h2 := g.all p hp hb
  omega
/-- where it hangs at that cost -/
def plN (us : List (Option Nat)) (ls : List (List (Option Bool))) (b m k : Nat) : List Nat := (List.range k).filter fun p => decide (p ≠ b) && decide (costN us ls b p = m)
theorem plN_snoc (us : List (Option Nat)) (ls : List (List (Option Bool))) (b m k : Nat) : plN us ls b m (k + 1) = plN us ls b m k ++ if k ≠ b ∧ costN us ls b k = m then [k] else [] := by
  unfold plN
  rw [List.range_succ, List.filter_append]
  congr 1
  by_cases h : k ≠ b ∧ costN us ls b k = m
  · rw [if_pos h, List.filter_cons_of_pos (by rw [decide_eq_true h.1, decide_eq_true h.2]; rfl), List.filter_nil]
  · rw [if_neg h, List.filter_cons_of_neg, List.filter_nil]
    rw [Bool.and_eq_true, decide_eq_true_eq, decide_eq_true_eq]
    exact h
theorem plN_len (us : List (Option Nat)) (ls : List (List (Option Bool))) (b m k : Nat) : (plN us ls b m k).length ≤ k := by
  unfold plN
  exact Nat.le_trans (List.length_filter_le _ _) (Nat.le_of_eq List.length_range)
/-- the costs but at the block itself -/
def csN (us : List (Option Nat)) (ls : List (List (Option Bool))) (b k : Nat) : List Nat := ((List.range k).filter fun p => decide (p ≠ b)).map (costN us ls b)
theorem csN_snoc (us : List (Option Nat)) (ls : List (List (Option Bool))) (b k : Nat) : csN us ls b (k + 1) = csN us ls b k ++ if k = b then [] else [costN us ls b k] := by
  unfold csN
  rw [List.range_succ, List.filter_append, List.map_append]
  congr 1
  by_cases h : k = b
  · rw [if_pos h, List.filter_cons_of_neg (by rw [decide_eq_true_eq]; exact fun z => z h), List.filter_nil, List.map_nil]
  · rw [if_neg h, List.filter_cons_of_pos (by rw [decide_eq_true_eq]; exact h), List.filter_nil, List.map_cons, List.map_nil]
theorem csN_len (us : List (Option Nat)) (ls : List (List (Option Bool))) (b k : Nat) : (csN us ls b k).length ≤ k := by
  unfold csN
  rw [List.length_map]
  exact Nat.le_trans (List.length_filter_le _ _) (Nat.le_of_eq List.length_range)
theorem csN_min {us : List (Option Nat)} {ls : List (List (Option Bool))} {n b m : Nat} (h : m ∈ csN us ls b (n + 1)) (a : ∀ y ∈ csN us ls b (n + 1), m ≤ y) : MinIs us ls n b m := by
  have mem : ∀ y, y ∈ csN us ls b (n + 1) ↔ ∃ p, p ≤ n ∧ p ≠ b ∧ costN us ls b p = y := fun y => by
    unfold csN
    rw [List.mem_map]
    constructor
    · rintro ⟨p, hp, e⟩
      rw [List.mem_filter, List.mem_range, decide_eq_true_eq] at hp
      exact ⟨p, by omega, hp.2, e⟩
    · rintro ⟨p, hp, hb, e⟩
      refine ⟨p, ?_, e⟩
      rw [List.mem_filter, List.mem_range, decide_eq_true_eq]
      exact ⟨by omega, hb⟩
  exact ⟨(mem m).mp h, fun p hp hb => a _ ((mem _).mpr ⟨p, hp, hb, rfl⟩)⟩
theorem csN_pos {us : List (Option Nat)} {ls : List (List (Option Bool))} {n b : Nat} (b1 : 1 ≤ b) : 0 < (csN us ls b (n + 1)).length := by
  unfold csN
  rw [List.length_map]
  refine List.length_pos_of_mem (a := 0) ?_
  rw [List.mem_filter, List.mem_range, decide_eq_true_eq]
  omega
end Fv
set_option maxRecDepth 100000
set_option maxHeartbeats 1000000
namespace Fv
open PySem PySem.Spec PyProof.Rows L2 RZ
theorem pi_zipAK {X : Cx} {K : PySem.W.Frag} {e e2 : Expr} {ta : TA} {p pos tpos : Pos} {elts : List Expr} {kk : Nat} (eK : X.K = K) (hg : Gl X "zip") (hm : X.mg "zip" = none) (ha : PA X [e, e2] ta)
    (hs : starEach [e, e2] X.env = (false, eval e X.env) :: starEach [e2] X.env := by rfl) (hpl : (backTo pos (starEach [e2] X.env)).any (·.1) = false := by rfl) :
    PI X (.Tuple elts kk tpos) (.Call (.Name "zip" p) [e, e2] [] pos) (iZipA K ta) := by
  subst eK
  exact pi_zipA hg hm ha hs hpl
theorem x_zipA {K : PySem.W.Frag} {σ : L2.St} {H : Hp} {R : It → Hp → Prop} {ts : TA} (h : ts σ H fun vs H1 => ∃ a b xs ys, vs = [.ref a, .ref b] ∧ ((SqL K H1 a xs ∧ SqL K H1 b ys ∧ R (Itz K a b) H1) ∨ (SqT K H1 a xs ∧ SqT K H1 b ys ∧ R (ItzT K a b) H1))) : iZipA K ts σ H R := h
theorem lc_zipT {K : PySem.W.Frag} {a b : Addr} {xs ys : List V} (hxy : xs.length = ys.length) {g : TG} {tt : TT} {te : TE} {vs : List Nat} {σ : L2.St} {H1 : Hp} {D : Addr} {Qd : Hp → Prop} (Pv : Nat → Hp → Prop) (h0 : Pv 0 (upd H1 D (.lst []))) (hl : ∀ i H, i ≤ xs.length → Pv i H → SqT K H a xs ∧ SqT K H b ys)
    (hs : ∀ i x y H T, xs[i]? = some x → ys[i]? = some y → Pv i H → H T = none → g (.ref T) (wipe σ vs) (upd H T (.tup [x, y])) fun σ2 H2 => wipe σ2 vs = wipe σ vs ∧ tt σ2 H2 fun b H3 =>
      if b = true then te σ2 H3 fun y H4 => ∃ acc, H4 D = some (.lst acc) ∧ acc.length < sizeLine ∧ Pv (i + 1) (upd H4 D (.lst (acc ++ [y]))) else Pv (i + 1) H3) (hd : ∀ H, Pv xs.length H → Qd H) :
    ∃ W : Nat → Nat → Hp → Prop, (∃ m, W 0 m (upd H1 D (.lst []))) ∧ ∀ i m H, W i m H → ((ItzT K a b).stop i H ∧ Qd H) ∨ ((ItzT K a b).go i H ∧ ∃ Nx : Hp → Prop, (∀ H', Nx H' → ∃ m', m' < m ∧ W (i + 1) m' H') ∧ ∀ x H', (ItzT K a b).yld i H x H' → g x (wipe σ vs) H' fun σ2 H2 => wipe σ2 vs = wipe σ vs ∧ tt σ2 H2 fun b H3 =>
        if b = true then te σ2 H3 fun y H4 => ∃ acc, H4 D = some (.lst acc) ∧ acc.length < sizeLine ∧ Nx (upd H4 D (.lst (acc ++ [y]))) else Nx H3) := by
  refine ⟨fun i m H => m = xs.length - i ∧ i ≤ xs.length ∧ Pv i H, ⟨_, rfl, Nat.zero_le _, h0⟩, ?_⟩
  rintro i m H ⟨rfl, hi, p⟩
  obtain ⟨q, r⟩ := hl i H hi p
  by_cases hlt : i < xs.length
  · have hlt2 : i < ys.length := by omega
    refine .inr ⟨⟨xs, ys, xs[i], ys[i], q, r, List.getElem?_eq_getElem hlt, List.getElem?_eq_getElem hlt2⟩, Pv (i + 1), fun H' p' => ⟨_, by omega, rfl, hlt, p'⟩, fun x H' y => ?_⟩
    obtain ⟨T, z, u, rfl, hT, rfl, hz, hu⟩ := y
    exact hs i z u H T (hz xs q) (hu ys r) p hT
  · have e : i = xs.length := by omega
    subst e
    exact .inl ⟨⟨xs, ys, q, r, .inl (Nat.le_refl _)⟩, hd H p⟩
/-! words as data -/
def wD : Option Bool → PyData
  | none => .none
  | some b => .bool b
def uD : Option Nat → PyData
  | none => .none
  | some q => .int (Int.ofNat q)
def dw (c : List (Option Bool)) : List PyData := c.map wD
def du (c : List (Option Nat)) : List PyData := c.map uD
def dls (ls : List (List (Option Bool))) : List PyData := ls.map fun r => .tuple (dw r)
theorem dw_lay : ∀ c, PyData.canLayAll0 (dw c) = true
  | [] => rfl
  | a :: l => by
    show (PyData.canLay0 (wD a) && PyData.canLayAll0 (dw l)) = true
    rw [dw_lay l]
    cases a <;> rfl
theorem dw_depth : ∀ c, PyData.depthAll (dw c) = 0
  | [] => rfl
  | a :: l => by
    show max (PyData.depth (wD a)) (PyData.depthAll (dw l)) = 0
    rw [dw_depth l]
    cases a <;> rfl
theorem dw_eqv : ∀ c, PyData.eqvAll (dw c) (dw c) = true
  | [] => by simp [dw, PyData.eqvAll]
  | a :: l => by
    show PyData.eqvAll (wD a :: dw l) (wD a :: dw l) = true
    rw [PyData.eqvAll, dw_eqv l]
    cases a with
    | none => simp [wD, PyData.eqv]
    | some b => cases b <;> simp [wD, PyData.eqv]
theorem du_lay : ∀ c, PyData.canLayAll0 (du c) = true
  | [] => rfl
  | a :: l => by
    show (PyData.canLay0 (uD a) && PyData.canLayAll0 (du l)) = true
    rw [du_lay l]
    cases a <;> rfl
theorem du_depth : ∀ c, PyData.depthAll (du c) = 0
  | [] => rfl
  | a :: l => by
    show max (PyData.depth (uD a)) (PyData.depthAll (du l)) = 0
    rw [du_depth l]
    cases a <;> rfl
theorem du_eqv : ∀ c, PyData.eqvAll (du c) (du c) = true
  | [] => by simp [du, PyData.eqvAll]
  | a :: l => by
    show PyData.eqvAll (uD a :: du l) (uD a :: du l) = true
    rw [PyData.eqvAll, du_eqv l]
    cases a with
    | none => simp [uD, PyData.eqv]
    | some b => simp [uD, PyData.eqv]
theorem dls_lay : ∀ c, PyData.canLayAll0 (dls c) = true
  | [] => rfl
  | a :: l => by
    show (PyData.canLayAll0 (dw a) && PyData.canLayAll0 (dls l)) = true
    rw [dls_lay l, dw_lay]
    rfl
theorem dls_depth : ∀ c, PyData.depthAll (dls c) ≤ 1
  | [] => Nat.zero_le _
  | a :: l => by
    show max (PyData.depthAll (dw a) + 1) (PyData.depthAll (dls l)) ≤ 1
    have := dls_depth l
    rw [dw_depth]
    omega
theorem dls_eqv : ∀ c, PyData.eqvAll (dls c) (dls c) = true
  | [] => by simp [dls, PyData.eqvAll]
  | a :: l => by
    show PyData.eqvAll (.tuple (dw a) :: dls l) (.tuple (dw a) :: dls l) = true
    rw [PyData.eqvAll, dls_eqv l, PyData.eqv, dw_eqv]
    rfl
def wordsPD (us : List (Option Nat)) (ls : List (List (Option Bool))) : PyData := .tuple [.tuple (du us), .tuple (dls ls)]
theorem wordsPD_shaped (us : List (Option Nat)) (ls : List (List (Option Bool))) : SeqAt.shaped (wordsPD us ls) = true := by
  show (PyData.canLayAll0 [.tuple (du us), .tuple (dls ls)] && decide (PyData.depthAll [.tuple (du us), .tuple (dls ls)] + 1 ≤ 64)) = true
  have e1 : PyData.canLayAll0 [.tuple (du us), .tuple (dls ls)] = true := by
    show (PyData.canLayAll0 (du us) && (PyData.canLayAll0 (dls ls) && true)) = true
    rw [du_lay, dls_lay]
    rfl
  have e2 : PyData.depthAll [.tuple (du us), .tuple (dls ls)] + 1 ≤ 64 := by
    show max (PyData.depthAll (du us) + 1) (max (PyData.depthAll (dls ls) + 1) 0) + 1 ≤ 64
    have := dls_depth ls
    rw [du_depth]
    omega
  rw [e1, decide_eq_true e2]
  rfl
theorem wordsPD_eqv (us : List (Option Nat)) (ls : List (List (Option Bool))) : PyData.eqv (wordsPD us ls) (wordsPD us ls) = true := by
  show PyData.eqv (.tuple [.tuple (du us), .tuple (dls ls)]) (.tuple [.tuple (du us), .tuple (dls ls)]) = _
  rw [PyData.eqv, PyData.eqvAll, PyData.eqvAll, PyData.eqvAll, PyData.eqv, PyData.eqv, du_eqv, dls_eqv]
  rfl
theorem dpAll_wds {K : PySem.W.Frag} {H : Hp} : ∀ c : List (Option Bool), DpAll K H (wds c) (dw c)
  | [] => .nil
  | none :: l => .cons .non (dpAll_wds l)
  | some b :: l => .cons (.bl b) (dpAll_wds l)
theorem dpAll_upvs {K : PySem.W.Frag} {H : Hp} : ∀ c : List (Option Nat), DpAll K H (upvs c) (du c)
  | [] => .nil
  | none :: l => .cons .non (dpAll_upvs l)
  | some b :: l => .cons (.int _) (dpAll_upvs l)
theorem apartN_snoc : ∀ {l m : List Nat} (a b : Nat), l.length = m.length → apartN (l ++ [a]) (m ++ [b]) = apartN l m + if a = b then 0 else 1
  | [], [], a, b, _ => by
    show (if a = b then 0 else 1) + 0 = 0 + _
    omega
  | [], _ :: _, _, _, h => by simp at h
  | _ :: _, [], _, _, h => by simp at h
  | x :: l, y :: m, a, b, h => by
    have ih := apartN_snoc (l := l) (m := m) a b (by simpa using h)
    show (if x = y then 0 else 1) + apartN (l ++ [a]) (m ++ [b]) = (if x = y then 0 else 1) + apartN l m + _
    rw [ih]
    omega
theorem apartN_le : ∀ (l m : List Nat) (k : Nat), l.length ≤ k → apartN l m ≤ k
  | [], m, k, _ => by
    cases m <;> exact Nat.zero_le _
  | _ :: _, [], k, _ => Nat.zero_le _
  | x :: l, y :: m, 0, h => absurd h (by rw [List.length_cons]; omega)
  | x :: l, y :: m, k + 1, h => by
    have ih := apartN_le l m k (by rw [List.length_cons] at h; omega)
    show (if x = y then 0 else 1) + apartN l m ≤ k + 1
    split <;> omega
end Fv
set_option maxRecDepth 100000
set_option maxHeartbeats 1000000
namespace Fv
open PySem PySem.Spec PyProof.Rows L2
/-! lists of lists of pairs that are written in turn -/
def TsAt (H : Hp) (as : List Addr) (g : Nat → List (Nat × Nat)) : Prop := ∀ p a, as[p]? = some a → ∃ vs, H a = some (.lst vs) ∧ PrsV H vs (g p)
theorem TsAt.same {H H' : Hp} {as : List Addr} {g : Nat → List (Nat × Nat)} (s : Same H H') (h : TsAt H as g) : TsAt H' as g := fun p a e => by
  obtain ⟨vs, h1, h2⟩ := h p a e
  exact ⟨vs, s _ _ h1, h2.same s⟩
theorem TsAt.mut {H : Hp} {as : List Addr} {g : Nat → List (Nat × Nat)} {q : Addr} {ys : List V} {o : HO} (hq : H q = some (.lst ys)) (n : q ∉ as) (h : TsAt H as g) : TsAt (upd H q o) as g := fun p a e => by
  obtain ⟨vs, h1, h2⟩ := h p a e
  exact ⟨vs, keepM (fun z => n (by rw [← z]; exact List.mem_of_getElem? e)) h1, h2.mut hq⟩
theorem TsAt.congr {H : Hp} {as : List Addr} {g g' : Nat → List (Nat × Nat)} (e : ∀ p, p < as.length → g p = g' p) (h : TsAt H as g) : TsAt H as g' := fun p a ha => by
  rw [← e p (List.getElem?_eq_some_iff.mp ha).1]
  exact h p a ha
theorem TsAt.step {H : Hp} {as : List Addr} {g : Nat → List (Nat × Nat)} {q : Nat} {a U : Addr} {vs : List V} {x : Nat × Nat} (hn : as.Nodup) (h : TsAt H as g) (ha : as[q]? = some a) (hU : H U = some (.tup [.int (x.1 : Nat), .int (x.2 : Nat)])) (hv : H a = some (.lst vs)) (hp : PrsV H vs (g q)) :
    TsAt (upd H a (.lst (vs ++ [.ref U]))) as (fun p => g p ++ if p = q then [x] else []) := fun p b e => by
  have nUa : U ≠ a := fun z => by
    rw [z, hv] at hU
    cases hU
  by_cases hpq : p = q
  · subst hpq
    rw [ha] at e
    cases e
    refine ⟨_, upd_same, ?_⟩
    dsimp only
    rw [if_pos rfl]
    exact (hp.mut hv).app ⟨⟨U, rfl, keepM nUa hU⟩, True.intro⟩
  · obtain ⟨ws, h1, h2⟩ := h p b e
    refine ⟨ws, keepM (fun z => hpq ?_) h1, ?_⟩
    · subst z
      exact (List.getElem?_inj (List.getElem?_eq_some_iff.mp e).1 hn).mp (e.trans ha.symm)
    · dsimp only
      rw [if_neg hpq, List.append_nil]
      exact h2.mut hv
theorem refs_at {as : List Addr} {p : Nat} {a : Addr} (e : as[p]? = some a) : atI (as.map V.ref) (p : Int) = some (.ref a) := by
  refine atI_nat ?_
  rw [List.getElem?_map, e]
  rfl
theorem cr_sortedK {X : Cx} {K : PySem.W.Frag} (e : X.K = K) : CallR X (.builtin "sorted") (rSorted K) := by
  subst e
  exact cr_sorted
end Fv
set_option maxRecDepth 100000
set_option maxHeartbeats 1000000
namespace Fv
open PySem PySem.Spec PyProof.Rows L2
section
variable {K : PySem.W.Frag} {H : Hp} {Q : VK} {a : Addr} {l : List Nat} {k : Nat}
theorem x_ninNT (h : SqT K H a (nats l)) (q : Q (.bl (!decide (k ∈ l))) H) : rIn K true (.int k) (.ref a) H Q := by
  refine ⟨a, _, rfl, .inr h, rfl, flat_nats l, ?_⟩
  show Q (.bl (!inV (.int k) (nats l))) H
  rw [in_nats]
  exact q
theorem x_ninNL (h : SqL K H a (nats l)) (q : Q (.bl (!decide (k ∈ l))) H) : rIn K true (.int k) (.ref a) H Q := by
  refine ⟨a, _, rfl, .inl h, rfl, flat_nats l, ?_⟩
  show Q (.bl (!inV (.int k) (nats l))) H
  rw [in_nats]
  exact q
/-- whole numbers in order -/
theorem x_sortN {ys : List Nat} (h : SqL K H a (nats l)) (hl : l.length < 64) (hp : l.Perm ys) (hs : ys.Pairwise (· < ·)) (q : ∀ p, H p = none → Q (.ref p) (upd H p (.lst (nats ys)))) : rSorted K [.ref a] H Q := by
  refine ⟨a, l.map fun (k : Nat) => (k : Int), rfl, by rw [nats_ints]; exact h, by rw [List.length_map]; exact hl, fun zs p hz hw hn => ?_⟩
  have e : zs = ys.map fun (k : Nat) => (k : Int) := by
    refine (hz.trans (hp.map _)).eq_of_pairwise (fun a b _ _ h1 h2 => Int.le_antisymm h1 h2) hw ?_
    rw [List.pairwise_map]
    refine hs.imp fun {x y} hxy => ?_
    omega
  rw [e, nats_ints]
  exact q p hn
theorem put_same {hs : List Nat} {b : Nat} (h1 : 1 ≤ b) (h2 : b ≤ hs.length) : put hs b (up hs b) = hs := by
  refine same_ups (put_len _ _ _) fun k _ _ => ?_
  rw [up_put h1 h2]
  split
  · rename_i e
    rw [e]
  · rfl
end
end Fv
set_option maxRecDepth 100000
set_option maxHeartbeats 4000000
namespace Fv
open PySem PySem.Spec PyProof.Rows L2
/-! t * k, k any number -/
theorem tuple_mulW1 (l : Addr) (items : Array Value) (n : Nat) (dd : Option Addr) (sl : Array (Option Value)) (u : Tok) :
    Meets (Builtin.«tuple.__mul__» ⟨[.ref l, .int 1 u], []⟩) (fun _ R s => s.heap.get? l = some { cls := .type "tuple", dict := dd, data := .seq items n, slots := sl } ∧ R (.ok (.ret (Value.ref l))) s) :=
  .of_wp fun prog w A R s h => by
    obtain ⟨hp, g, d, tk, os⟩ := s
    obtain ⟨hl, h⟩ := h
    have f1 := AutoSeq1.idx_int
    have c1 : (items.isEmpty || (1 : Int) == 1) = true := by rw [Bool.or_eq_true]; exact .inr rfl
    wp_walk using wpAny_loadPart' hl
    repeat (first
      | (refine wpAny_ite_true (decide_eq_true c1) ?_; wp_walk using wpAny_loadPart' hl)
      | (refine wpAny_ite_false (by decide) ?_; wp_walk using wpAny_loadPart' hl))
    exact ⟨_, rfl, h⟩
theorem tuple_mulW0 (l : Addr) (items : Array Value) (n : Nat) (dd : Option Addr) (sl : Array (Option Value)) (x : Int) (u : Tok) (c0 : (decide (x < -(2 ^ 63)) || decide (x ≥ 2 ^ 63)) = false) (c1 : (items.isEmpty || x == 1) = false) (c2 : (decide (x ≤ 0) || items.isEmpty) = true) :
    Meets (Builtin.«tuple.__mul__» ⟨[.ref l, .int x u], []⟩) (fun _ R s => s.heap.get? l = some { cls := .type "tuple", dict := dd, data := .seq items n, slots := sl } ∧
      R (.ok (.ret (Value.ref s.heap.objs.size))) { s with heap := s.heap.push { cls := Value.type "tuple", data := Data.seq #[] }, toks := s.toks }) :=
  .of_wp fun prog w A R s h => by
    obtain ⟨hp, g, d, tk, os⟩ := s
    obtain ⟨hl, h⟩ := h
    have f1 := AutoSeq1.idx_int
    wp_walk using wpAny_loadPart' hl
    repeat (first
      | (refine wpAny_ite_false (decide_eq_false (by rw [c0]; exact Bool.false_ne_true)) ?_; wp_walk using wpAny_loadPart' hl)
      | (refine wpAny_ite_false (decide_eq_false (by rw [c1]; exact Bool.false_ne_true)) ?_; wp_walk using wpAny_loadPart' hl)
      | (refine wpAny_ite_true (decide_eq_true c2) ?_; wp_walk using wpAny_loadPart' hl)
      | (refine wpAny_ite_false (by decide) ?_; wp_walk using wpAny_loadPart' hl))
    exact ⟨_, rfl, h⟩
def rRepA (K : PySem.W.Frag) : R2 := fun x y H Q => ∃ (l : Addr) (k : Int) (xs : List V), x = .ref l ∧ y = .int k ∧ SqT K H l xs ∧ xs ≠ [] ∧ -1000 ≤ k ∧ k ≤ 1000 ∧ xs.length ≤ 1000 ∧ (k = 1 → Q (.ref l) H) ∧ (k ≤ 0 → ∀ p, H p = none → Q (.ref p) (upd H p (.tup []))) ∧ (2 ≤ k → ∀ p, H p = none → Q (.ref p) (upd H p (.tup (List.replicate k.toNat xs).flatten)))
theorem op_repA {X : Cx} : OpR X (binaryOp .Mult) (rRepA X.K) := by
  intro pins s σ H x y v u Q I rx ry h
  obtain ⟨l, k, xs, rfl, rfl, hT, hne, h1, h2, hz, q1, q0, q2⟩ := h
  by_cases hk : 2 ≤ k
  · exact op_repT pins s σ H _ _ v u Q I rx ry ⟨l, k, xs, rfl, rfl, hT, hne, hk, h2, hz, q2 hk⟩
  cases rx
  obtain ⟨t, rfl⟩ := ry
  obtain ⟨its, r, ⟨⟨cls, dd, data, sl⟩, ho, hc, n, hd⟩, hs⟩ := I.tuple hT
  simp only at hc hd
  subst hc hd
  have hle : its.length = xs.length := r.length.symm
  have hn : its ≠ [] := fun e => hne (by
    rw [e] at hle
    exact List.eq_nil_of_length_eq_zero hle.symm)
  have hi : its.toArray.isEmpty = false := by
    cases its with
    | nil => exact absurd rfl hn
    | cons a b => rfl
  by_cases k1 : k = 1
  · subst k1
    exact wpAny_binaryOp_repeat_ref (T := "tuple") (U := "int") (by decide) ⟨_, ho, rfl⟩ (fun s' => typeIs_int s' 1 t) noFill_tuple_mul F.fills_int_mul F.slot_int_rmul repeat_tuple F.slot_int_index.lookup
      (call_meets F.slot_int_rmul (typeIs_int s 1 t) F.entry_int_rmul (F.args_int_rmul_2 _ _) (int_rmul_tuple 1 t l its.toArray n dd sl)
        ⟨ho, rfl, ⟨_, ho, rfl⟩, call_meets F.slot_tuple_mul ⟨_, ho, rfl⟩ F.entry_tuple_mul (F.args_tuple_mul_2 _ _) (tuple_mulW1 l its.toArray n dd sl t) ⟨ho, .ref l, H, I, rfl, q1 rfl⟩⟩)
  · have c0 : (decide (k < -(2 ^ 63)) || decide (k ≥ 2 ^ 63)) = false := by
      rw [decide_eq_false (by omega), decide_eq_false (by omega)] <;> rfl
    have c1 : (its.toArray.isEmpty || k == 1) = false := by
      rw [hi, Bool.false_or]
      exact beq_eq_false_iff_ne.mpr (by omega)
    have c2 : (decide (k ≤ 0) || its.toArray.isEmpty) = true := by
      rw [decide_eq_true (show k ≤ 0 by omega)]
      rfl
    refine wpAny_binaryOp_repeat_ref (T := "tuple") (U := "int") (by decide) ⟨_, ho, rfl⟩ (fun s' => typeIs_int s' k t) noFill_tuple_mul F.fills_int_mul F.slot_int_rmul repeat_tuple F.slot_int_index.lookup
      (call_meets F.slot_int_rmul (typeIs_int s k t) F.entry_int_rmul (F.args_int_rmul_2 _ _) (int_rmul_tuple k t l its.toArray n dd sl)
        ⟨ho, rfl, ⟨_, ho, rfl⟩, call_meets F.slot_tuple_mul ⟨_, ho, rfl⟩ F.entry_tuple_mul (F.args_tuple_mul_2 _ _) (tuple_mulW0 l its.toArray n dd sl k t c0 c1 c2) ⟨ho, ?_⟩⟩)
    refine ⟨.ref s.heap.objs.size, _, I.laid (t' := s.toks) (o := .tup []) (fun b ob q => Heap.get?_push_of_some _ q) (Nat.le_refl _) ?_, rfl, q0 (by omega) _ (I.hok.fresh (Nat.le_refl _))⟩
    exact ⟨Nat.zero_le _, [], .nil, IsTup.new _ _⟩
theorem op_repAK {X : Cx} {K : PySem.W.Frag} (e : X.K = K) : OpR X (binaryOp .Mult) (rRepA K) := by
  subst e
  exact op_repA
section
variable {K : PySem.W.Frag} {H : Hp} {Q : VK} {a : Addr} {v : V}
/-- (v,) * k -/
theorem x_repA1 {k : Int} (h : H a = some (.tup [v])) (h1 : -1000 ≤ k) (h2 : k ≤ 1000) (q : ∀ p H', Same H H' → H' p = some (.tup (List.replicate k.toNat v)) → Q (.ref p) H') : rRepA K (.ref a) (.int k) H Q := by
  refine ⟨a, k, [v], rfl, rfl, .of h, by simp, h1, h2, (by show 1 ≤ 1000; decide), fun e => ?_, fun e p hp => ?_, fun e p hp => ?_⟩
  · subst e
    exact q a H (Same.refl _) h
  · refine q p _ (same_new (Same.refl _) hp) ?_
    rw [upd_same, show k.toNat = 0 by omega]
    rfl
  · refine q p _ (same_new (Same.refl _) hp) ?_
    rw [upd_same, rep_one]
end
end Fv
set_option maxRecDepth 100000
set_option maxHeartbeats 1000000
namespace Fv
open PySem PySem.Spec PyProof.Rows L2
section
variable {P : Program} {w : World} {K : PySem.W.Frag} {mg : Str → Option Value} {base : Heap} {k : Nat} {f : Addr} {fd : FuncData} {ps : List Str} {sp sp' : Sp}
/-- from which nothing comes out serves where something may -/
theorem fnUp (G : FnOk P w K mg base CX0 k f fd ps sp) : FnOk P w K mg base (L2.CX P w) k f fd ps sp :=
  ⟨G.len, fun A outer s H args us vs Q E hr e0 hb r h => codeAny_mono (G.run A outer s H args us vs Q E hr e0 hb r h) fun r s' q => by
    cases r with
    | error e => exact (show False from q).elim
    | ok fl => cases fl <;> exact q⟩
/-- two promises of one def -/
theorem fnOr {CX : CXT} (G : FnOk P w K mg base CX k f fd ps sp) (G' : FnOk P w K mg base CX k f fd ps sp') : FnOk P w K mg base CX k f fd ps (fun vs H Q E => sp vs H Q E ∨ sp' vs H Q E) :=
  ⟨fun vs H Q E h => h.elim (G.len vs H Q E) (G'.len vs H Q E), fun A outer s H args us vs Q E hr e0 hb r h => h.elim (G.run A outer s H args us vs Q E hr e0 hb r) (G'.run A outer s H args us vs Q E hr e0 hb r)⟩
end
/-- isinstance(e, C), e the caught error without fields, whatever its class -/
def rIsM (K : PySem.W.Frag) (a : Addr) (cls : Value) (d : Option Addr) : List V → Hp → VK → Prop := fun xs H Q => ∃ (D : Addr) (c : V) (cv : Value) (b : Bool), cls = .ref D ∧ d = none ∧ L2.ExcC K D ∧ xs = [.ref a, c] ∧ (∀ u, RelV c u → u = cv) ∧ PySem.W.kitOne K (.ref D) cv = some b ∧ Q (.bl b) H
theorem call_isM {X : Cx} {K : PySem.W.Frag} {a : Addr} {oe : Obj} {cls : Value} {d : Option Addr} {pn : List (Addr × Obj)} (eK : X.K = K) (hz : Zc cls d oe) (hf : ∃ vs, oe.data = .fields vs) : CallR (X.suite a ((a, oe) :: pn)) (.builtin "isinstance") (rIsM K a cls d) := by
  subst eK
  intro pins s σ H xs us Q I r h
  obtain ⟨D, c, cv, b, rfl, rfl, hC, rfl, hcv, e, q⟩ := h
  exact call_isE hC hz hf pins s σ H _ us Q I r ⟨c, cv, b, rfl, hcv, e, q⟩
theorem mt_indexK {X : Cx} {K : PySem.W.Frag} (e : X.K = K) : MtR X "list.index" (rIndex K) := by
  subst e
  exact mt_index
section
variable {K : PySem.W.Frag} {H : Hp} {Q : VK} {a C dx : Addr} {fs : List (Str × V)}
theorem isi_insTuple (c : IsC K C) (nt : PySem.W.kitOne K (.ref C) (.type "tuple") = some false) (h : H a = some (.ins C dx fs)) (q : Q (.bl false) H) : rIsi K [.ref a, .ty "tuple"] H Q :=
  ⟨.ref a, .ty "tuple", .ref C, .type "tuple", false, rfl, .ty "tuple", .base (.ins h c.cl c.ha c.hn c.ht c.hm), nt, q⟩
end
end Fv
set_option maxRecDepth 100000
set_option maxHeartbeats 1000000
namespace Fv
open PySem PySem.Spec L2 PyProof.Rows
/-- isinstance(e, T), T a built-in class, e the caught error, which holds a field -/
def rIsFT (K : PySem.W.Frag) (D a : Addr) (cls : Value) (d : Option Addr) : List V → Hp → VK → Prop := fun xs H Q => ∃ (T : String) (dd : Addr) (fs : List (Str × V)), xs = [.ref a, .ty T] ∧ cls = .ref D ∧ d = some dd ∧ H dd = some (.xd fs) ∧ PySem.W.kitOne K (.ref D) (.type T) = some true ∧ Q (.bl true) H
theorem call_isFT {X : Cx} {a D : Addr} {oe : Obj} {cls : Value} {d : Option Addr} {pn : List (Addr × Obj)} (C : L2.ExcC X.K D) (hz : Zc cls d oe) (hf : ∃ vs, oe.data = .fields vs) : CallR (X.suite a ((a, oe) :: pn)) (.builtin "isinstance") (rIsFT X.K D a cls d) := by
  intro pins s σ H xs us Q I r h
  obtain ⟨B, dd, fs, rfl, rfl, rfl, ea, e, q⟩ := h
  cases r with
  | cons rx rr =>
    cases rr with
    | cons rt rr =>
      cases rr
      cases rx
      cases rt
      obtain ⟨hget, _⟩ := I.pin (a, oe) (List.mem_append.mpr (.inl List.mem_cons_self))
      obtain ⟨vs, hv⟩ := hf
      have hx : ObjOk X.prog X.w H s.heap dd (.xd fs) := I.hok dd _ ea
      obtain ⟨mA, hns, hr⟩ := hx
      obtain ⟨od, ho, hl⟩ := lookIn_ns hns
      have J : PySem.W.InstAt s.heap a oe D (some od) := ⟨hget, hz.1, by unfold PySem.W.notCls; rw [hv] <;> rfl, by rw [hz.2]; exact ho⟩
      have hcl : (PySem.W.clsIn X.K D).isSome = true := by
        obtain ⟨cd, hc, _⟩ := PySem.W.any_some C.hd
        rw [hc]
        rfl
      exact PySem.W.kia_one (PySem.W.kitx_exc hcl C.hg C.hk C.hs C.ha C.hn C.ht C.hm) I.kIn J e (fun z => nomatch z) fun tk => ⟨.bl true, H, I.kept (t' := tk) fun _ _ z => z, rfl, q⟩
theorem du_eqvD : ∀ c d : List (Option Nat), PyData.eqvAll (du c) (du d) = decide (c = d)
  | [], [] => by simp [du, PyData.eqvAll]
  | [], _ :: _ => by simp [du, PyData.eqvAll]
  | _ :: _, [] => by simp [du, PyData.eqvAll]
  | a :: l, b :: m => by
    show PyData.eqvAll (uD a :: du l) (uD b :: du m) = _
    rw [PyData.eqvAll, du_eqvD l m, Bool.eq_iff_iff]
    cases a <;> cases b <;> simp [uD, PyData.eqv]
    intro _
    omega
theorem dw_eqvD : ∀ c d : List (Option Bool), PyData.eqvAll (dw c) (dw d) = decide (c = d)
  | [], [] => by simp [dw, PyData.eqvAll]
  | [], _ :: _ => by simp [dw, PyData.eqvAll]
  | _ :: _, [] => by simp [dw, PyData.eqvAll]
  | a :: l, b :: m => by
    show PyData.eqvAll (wD a :: dw l) (wD b :: dw m) = _
    rw [PyData.eqvAll, dw_eqvD l m, Bool.eq_iff_iff]
    cases a <;> cases b <;> simp [wD, PyData.eqv]
theorem dls_eqvD : ∀ c d : List (List (Option Bool)), PyData.eqvAll (dls c) (dls d) = decide (c = d)
  | [], [] => by simp [dls, PyData.eqvAll]
  | [], _ :: _ => by simp [dls, PyData.eqvAll]
  | _ :: _, [] => by simp [dls, PyData.eqvAll]
  | a :: l, b :: m => by
    show PyData.eqvAll (.tuple (dw a) :: dls l) (.tuple (dw b) :: dls m) = _
    rw [PyData.eqvAll, dls_eqvD l m, PyData.eqv, dw_eqvD, Bool.eq_iff_iff]
    simp
/-! C(..) in the body of a try: what the cells hold is known in the suite -/
section
variable {X : Cx} {CX : CXT} {k : Nat} {f C : Addr} {fd : FuncData} {ps : List Str} {sp : Sp} {dvs : List V} {ds : List Value} {E : L2.St → XK} {x : Str} {p pos : Pos} {e : Expr} {es : List Expr} {t : TA}
theorem run_makeS {pins : List (Addr × Obj)} {σ : L2.St} {H : Hp} {s : Shared} {Q : VK} {us : List Value} {vs : List V} (M : Mk X.K C f) (F : FnOk X.prog X.w X.K X.mg X.base CX k f fd ps sp) (hr : Room (k + 1) X.A) (hb : Binds X.K fd ps ds) (hd : Vals dvs ds)
    (hx : L2.PassesAt CX X σ (E σ)) (I : Inv X pins σ H s) (r : Vals vs us)
    (h : ∀ x dx, H x = none → H dx = none → dx ≠ x → sp (.ref x :: (vs ++ dvs)) (upd (upd H dx (.own x)) x (.ins C dx [])) (fun v H2 => v = .non ∧ Q (.ref x) H2) (E σ)) :
    wpAny (model X.prog X.w) X.A (call (.ref C) us) (EP X pins σ Q) X.xe s := by
  have hq := h (s.heap.objs.size + 1) s.heap.objs.size (I.hok.fresh (Nat.le_succ _)) (I.hok.fresh (Nat.le_refl _)) (Nat.ne_of_lt (Nat.lt_succ_self _))
  have I2 := Inv.made (C := C) I
  have r2 : Vals (V.ref (s.heap.objs.size + 1) :: (vs ++ dvs)) (Value.ref (s.heap.objs.size + 1) :: (us ++ ds)) := .cons rfl (r.append hd)
  have hl : (Value.ref (s.heap.objs.size + 1) :: us ++ ds).length = ps.length := by
    have e := r2.length
    rw [F.len _ _ _ _ hq] at e
    exact e.symm
  refine wpAny_call (make_map (f := f) I.kIn M.makes M.init (beq_iff_eq.mp M.fn) (codeAny_mono (F.run _ X.stack _ _ ⟨Value.ref (s.heap.objs.size + 1) :: us, []⟩ (Value.ref (s.heap.objs.size + 1) :: (us ++ ds)) _ _ (E σ) (hr.make C us [])
    (I2.env0.make C us []) (hb _ (Value.ref (s.heap.objs.size + 1) :: us) I2.kIn hl) r2 hq) fun r s' hq' => ?_))
  cases r with
  | error e => exact hx pins _ _ e s' I2 hq'
  | ok fl =>
    cases fl with
    | ret u =>
      obtain ⟨v, H', I3, rv, ev, q3⟩ := I2.after hq'
      subst ev
      exact ⟨rv, ⟨V.ref (s.heap.objs.size + 1), H', I3, rfl, q3⟩⟩
    | next => exact False.elim hq'
    | brk => exact False.elim hq'
    | cont => exact False.elim hq'
def tMakeS (C : Addr) (sp : Sp) (dvs : List V) (E : L2.St → XK) (t : TA) : TE := fun σ H Q => t σ H fun vs H1 => ∀ x dx, H1 x = none → H1 dx = none → dx ≠ x → sp (.ref x :: (vs ++ dvs)) (upd (upd H1 dx (.own x)) x (.ins C dx [])) (fun v H2 => v = .non ∧ Q (.ref x) H2) (E σ)
theorem pe_makeS (M : Mk X.K C f) (F : FnOk X.prog X.w X.K X.mg X.base CX k f fd ps sp) (hr : Room (k + 1) X.A) (hg : Gl X x) (hm : X.mg x = some (.ref C)) (hb : Binds X.K fd ps ds) (hd : Vals dvs ds) (hx : ∀ σ, L2.PassesAt CX X σ (E σ))
    (ha : PA X (e :: es) t) (hdb : (x == ("__debug__" : Str)) = false := by decide) (he : starEach (e :: es) X.env = (false, eval e X.env) :: starEach es X.env := by rfl) (hpl : (backTo pos (starEach es X.env)).any (·.1) = false := by rfl) :
    PE X (.Call (.Name x p) (e :: es) [] pos) (tMakeS C sp dvs E t) := by
  refine ⟨fun pins s σ H Q I h => ?_⟩
  refine wpAny_Call_Name_kw (ld_glob I hg hm ?_ hdb)
  refine PySem.W.callWith_K (h₀ := X.base) I.ok.mod.kin M.kp (thn (ha.run pos pins s σ H _ I h) fun us s1 ⟨vs, H1, I1, r, q⟩ => ⟨I1.kIn, ?_⟩) he hpl
  exact run_makeS M F hr hb hd (hx σ) I1 r q
theorem x_makeS {C : Addr} {sp : Sp} {dvs : List V} {E : L2.St → XK} {t : TA} {σ : L2.St} {H : Hp} {Q : VK} (h : t σ H fun vs H1 => ∀ x dx, H1 x = none → H1 dx = none → dx ≠ x → sp (.ref x :: (vs ++ dvs)) (upd (upd H1 dx (.own x)) x (.ins C dx [])) (fun v H2 => v = .non ∧ Q (.ref x) H2) (E σ)) : tMakeS C sp dvs E t σ H Q := h
end
end Fv
set_option maxRecDepth 100000
set_option maxHeartbeats 1000000
namespace Fv
open PySem PySem.Spec PyProof.Rows L2 RZ
theorem lc_zipL {K : PySem.W.Frag} {a b : Addr} {xs ys : List V} (hxy : xs.length = ys.length) {g : TG} {tt : TT} {te : TE} {vs : List Nat} {σ : L2.St} {H1 : Hp} {D : Addr} {Qd : Hp → Prop} (Pv : Nat → Hp → Prop) (h0 : Pv 0 (upd H1 D (.lst []))) (hl : ∀ i H, i ≤ xs.length → Pv i H → SqL K H a xs ∧ SqL K H b ys)
    (hs : ∀ i x y H T, xs[i]? = some x → ys[i]? = some y → Pv i H → H T = none → g (.ref T) (wipe σ vs) (upd H T (.tup [x, y])) fun σ2 H2 => wipe σ2 vs = wipe σ vs ∧ tt σ2 H2 fun b H3 =>
      if b = true then te σ2 H3 fun y H4 => ∃ acc, H4 D = some (.lst acc) ∧ acc.length < sizeLine ∧ Pv (i + 1) (upd H4 D (.lst (acc ++ [y]))) else Pv (i + 1) H3) (hd : ∀ H, Pv xs.length H → Qd H) :
    ∃ W : Nat → Nat → Hp → Prop, (∃ m, W 0 m (upd H1 D (.lst []))) ∧ ∀ i m H, W i m H → ((Itz K a b).stop i H ∧ Qd H) ∨ ((Itz K a b).go i H ∧ ∃ Nx : Hp → Prop, (∀ H', Nx H' → ∃ m', m' < m ∧ W (i + 1) m' H') ∧ ∀ x H', (Itz K a b).yld i H x H' → g x (wipe σ vs) H' fun σ2 H2 => wipe σ2 vs = wipe σ vs ∧ tt σ2 H2 fun b H3 =>
        if b = true then te σ2 H3 fun y H4 => ∃ acc, H4 D = some (.lst acc) ∧ acc.length < sizeLine ∧ Nx (upd H4 D (.lst (acc ++ [y]))) else Nx H3) := by
  refine ⟨fun i m H => m = xs.length - i ∧ i ≤ xs.length ∧ Pv i H, ⟨_, rfl, Nat.zero_le _, h0⟩, ?_⟩
  rintro i m H ⟨rfl, hi, p⟩
  obtain ⟨q, r⟩ := hl i H hi p
  by_cases hlt : i < xs.length
  · have hlt2 : i < ys.length := by omega
    refine .inr ⟨⟨xs, ys, xs[i], ys[i], q, r, List.getElem?_eq_getElem hlt, List.getElem?_eq_getElem hlt2⟩, Pv (i + 1), fun H' p' => ⟨_, by omega, rfl, hlt, p'⟩, fun x H' y => ?_⟩
    obtain ⟨T, z, u, rfl, hT, rfl, hz, hu⟩ := y
    exact hs i z u H T (hz xs q) (hu ys r) p hT
  · have e : i = xs.length := by omega
    subst e
    exact .inl ⟨⟨xs, ys, q, r, .inl (Nat.le_refl _)⟩, hd H p⟩
/-- two values compared through and through: what comes of it -/
def Cm (H : Hp) : Nat → V → V → Bool → Prop
  | 0, x, y, r => sca x = true ∧ sca y = true ∧ r = decide (x = y)
  | n + 1, x, y, r => (sca x = true ∧ sca y = true ∧ r = decide (x = y)) ∨
      (∃ (a b : Addr) (xs ys : List V), x = .ref a ∧ y = .ref b ∧ ((H a = some (.lst xs) ∧ H b = some (.lst ys)) ∨ (H a = some (.tup xs) ∧ H b = some (.tup ys))) ∧ xs.length ≤ 1000 ∧ ys.length ≤ 1000 ∧
        ((xs.length ≠ ys.length ∧ r = false) ∨ (xs.length = ys.length ∧ ∃ rs : List Bool, rs.length = xs.length ∧ r = rs.all id ∧ ∀ i (h1 : i < xs.length) (h2 : i < ys.length) (h3 : i < rs.length), Cm H n xs[i] ys[i] rs[i])))
theorem Cm.same {H H' : Hp} : ∀ {n : Nat} {x y : V} {r : Bool}, Same H H' → Cm H n x y r → Cm H' n x y r
  | 0, _, _, _, _, h => h
  | n + 1, x, y, r, s, h => by
    rcases h with h | ⟨a, b, xs, ys, e1, e2, h1, hx, hy, h⟩
    · exact .inl h
    · refine .inr ⟨a, b, xs, ys, e1, e2, ?_, hx, hy, ?_⟩
      · rcases h1 with ⟨h1, h2⟩ | ⟨h1, h2⟩
        · exact .inl ⟨s _ _ h1, s _ _ h2⟩
        · exact .inr ⟨s _ _ h1, s _ _ h2⟩
      · rcases h with h | ⟨hl, rs, r1, r2, h⟩
        · exact .inl h
        · exact .inr ⟨hl, rs, r1, r2, fun i k1 k2 k3 => (h i k1 k2 k3).same s⟩
/-! words as data, compared -/
theorem dw_eq : ∀ c d : List (Option Bool), PyData.eqvAll (dw c) (dw d) = decide (c = d)
  | [], [] => by simp [dw, PyData.eqvAll]
  | [], _ :: _ => by simp [dw, PyData.eqvAll]
  | _ :: _, [] => by simp [dw, PyData.eqvAll]
  | a :: l, b :: m => by
    show PyData.eqvAll (wD a :: dw l) (wD b :: dw m) = _
    rw [PyData.eqvAll, dw_eq l m, Bool.eq_iff_iff]
    cases a <;> cases b <;> simp [wD, PyData.eqv]
theorem du_eq : ∀ c d : List (Option Nat), PyData.eqvAll (du c) (du d) = decide (c = d)
  | [], [] => by simp [du, PyData.eqvAll]
  | [], _ :: _ => by simp [du, PyData.eqvAll]
  | _ :: _, [] => by simp [du, PyData.eqvAll]
  | a :: l, b :: m => by
    show PyData.eqvAll (uD a :: du l) (uD b :: du m) = _
    rw [PyData.eqvAll, du_eq l m, Bool.eq_iff_iff]
    cases a <;> cases b <;> simp [uD, PyData.eqv]
    intro _
    omega
theorem dls_eq : ∀ c d : List (List (Option Bool)), PyData.eqvAll (dls c) (dls d) = decide (c = d)
  | [], [] => by simp [dls, PyData.eqvAll]
  | [], _ :: _ => by simp [dls, PyData.eqvAll]
  | _ :: _, [] => by simp [dls, PyData.eqvAll]
  | a :: l, b :: m => by
    show PyData.eqvAll (.tuple (dw a) :: dls l) (.tuple (dw b) :: dls m) = _
    rw [PyData.eqvAll, dls_eq l m, PyData.eqv, dw_eq, Bool.eq_iff_iff]
    simp
def wholeD (n : Nat) (us : List (Option Nat)) (ls : List (List (Option Bool))) : PyData := .tuple [.int (n : Int), .tuple (du us), .tuple (dls ls)]
theorem wholeD_shaped (n : Nat) (us : List (Option Nat)) (ls : List (List (Option Bool))) : SeqAt.shaped (wholeD n us ls) = true := by
  show (PyData.canLayAll0 [.int (n : Int), .tuple (du us), .tuple (dls ls)] && decide (PyData.depthAll [.int (n : Int), .tuple (du us), .tuple (dls ls)] + 1 ≤ 64)) = true
  have e1 : PyData.canLayAll0 [.int (n : Int), .tuple (du us), .tuple (dls ls)] = true := by
    show (true && (PyData.canLayAll0 (du us) && (PyData.canLayAll0 (dls ls) && true))) = true
    rw [du_lay, dls_lay]
    rfl
  have e2 : PyData.depthAll [.int (n : Int), .tuple (du us), .tuple (dls ls)] + 1 ≤ 64 := by
    show max 0 (max (PyData.depthAll (du us) + 1) (max (PyData.depthAll (dls ls) + 1) 0)) + 1 ≤ 64
    have := dls_depth ls
    rw [du_depth]
    omega
  rw [e1, decide_eq_true e2]
  rfl
theorem wholeD_eqv {n n' : Nat} {us us' : List (Option Nat)} {ls ls' : List (List (Option Bool))} : PyData.eqv (wholeD n us ls) (wholeD n' us' ls') = decide (n = n' ∧ us = us' ∧ ls = ls') := by
  show PyData.eqv (.tuple [.int (n : Int), .tuple (du us), .tuple (dls ls)]) (.tuple [.int (n' : Int), .tuple (du us'), .tuple (dls ls')]) = _
  rw [PyData.eqv, PyData.eqvAll, PyData.eqvAll, PyData.eqvAll, PyData.eqvAll, PyData.eqv, PyData.eqv, PyData.eqv, du_eq, dls_eq, Bool.eq_iff_iff]
  simp
  intro _ _
  omega
end Fv
set_option maxRecDepth 100000
set_option maxHeartbeats 1000000
namespace Fv
open PySem PySem.Spec PySem.SeqAt PyProof.Rows L2
/-! t[::-1], t a tuple -/
theorem rev_adjust (n : Nat) : Builtin.Slice.sliceAdjust none none (-1) (n : Int) = ((n : Int) - 1, -1) := by
  first
  | rfl
  | (unfold Builtin.Slice.sliceAdjust; simp)
theorem rev_places (n : Nat) : Builtin.Slice.slicePlaces ((n : Int) - 1) (-1) (-1) = n := by
  unfold Builtin.Slice.slicePlaces
  simp
  all_goals omega
theorem fm_congr {α β : Type} {f g : α → Option β} : ∀ {l : List α}, (∀ x ∈ l, f x = g x) → l.filterMap f = l.filterMap g
  | [], _ => rfl
  | a :: l, h => by
    rw [List.filterMap_cons, List.filterMap_cons, h a List.mem_cons_self, fm_congr fun x hx => h x (List.mem_cons_of_mem _ hx)]
theorem rev_pick (xs : Array Value) : ((List.range xs.size).filterMap fun (k : Nat) => xs[(((xs.size : Int) - 1) + (k : Int) * (-1)).toNat]?).toArray = xs.toList.reverse.toArray := by
  have e : (List.range xs.size).filterMap (fun (k : Nat) => xs[(((xs.size : Int) - 1) + (k : Int) * (-1)).toNat]?) = ((List.range xs.size).map fun k => xs.size - 1 - k).filterMap (xs[·]?) := by
    rw [List.filterMap_map]
    refine fm_congr fun k hk => ?_
    have := List.mem_range.mp hk
    show xs[(((xs.size : Int) - 1) + (k : Int) * (-1)).toNat]? = xs[xs.size - 1 - k]?
    congr 1
    omega
  rw [e, PySem.W.krv_range, List.filterMap_reverse, PySem.W.krv_all]
section
variable {prog : Program} {w : World} {A : Around} {E : Value → Shared → Prop} {s : Shared}
theorem getItem_tuple_rev {t sl : Addr} {items : Array Value} {vl vu vs : Value} {Q : Value → Shared → Prop} (ht : IsTup s.heap t items) (hs : s.heap.IsSliceOf sl vl vu vs) (pl : IsPart vl none) (pu : IsPart vu none) (ps : IsPart vs (some (-1)))
    (h : Q (.ref s.heap.objs.size) { s with heap := s.heap.push { cls := .type "tuple", data := .seq items.toList.reverse.toArray } })
    (hsz : items.size ≤ sizeLine) : wpAny (model prog w) A (getItem (.ref t) (.ref sl)) Q E s := by
  have htake : sizeOk (.seq items.toList.reverse.toArray) := by
    show items.toList.reverse.toArray.size ≤ sizeLine
    rw [List.size_toArray, List.length_reverse, Array.length_toList]
    exact hsz
  obtain ⟨os, hos, hcs, hds⟩ := id hs
  have hTs : s.TypeIs (.ref sl) "slice" := ⟨os, hos, hcs⟩
  unfold getItem
  try with_reducible refine wpAny_holding ?_
  first | refine wpAny_bind (wpAny_pure ?_) | skip
  refine wpAny_bind (wpAny_sequenceKey ht.typeIs (by decide) ?_)
  refine wpAny_bind (wpAny_callSpecial?_slot (name := Str.ofString "__getitem__") ht.typeIs PyProof.Rows.slot_tuple_getitem
    (wpAny_call_entry PyProof.Rows.slot_tuple_getitem ht.typeIs PyProof.Rows.entry_tuple_getitem ?_ (PyProof.Rows.args_tuple_getitem _ _)))
  show wpAny _ _ (Builtin.Tuple.tupleItemsOf (.ref t) >>= _) _ _ s
  refine wpAny_bind (tupleItemsOf_ ht ?_)
  refine wpAny_bind (wpAny_typeOf hTs ?_)
  rw [if_pos (by decide)]
  have app : ∀ {A : Around} {E : Value → Shared → Prop} {Q : Int × Int × Nat → Shared → Prop}, Q ((items.size : Int) - 1, -1, items.size) s → wpAny (model prog w) A (Builtin.Slice.sliceApplied (.ref sl) (pure (items.size : Int))) Q E s := fun {A E Q} h => by
    unfold Builtin.Slice.sliceApplied Builtin.Slice.sliceFields
    refine wpAny_bind (wpAny_bind (wpAny_field hos hds (x := vl) rfl (wpAny_bind (wpAny_field hos hds (x := vu) rfl (wpAny_bind (wpAny_field hos hds (x := vs) rfl (wpAny_pure ?_)))))))
    refine wpAny_bind (HT.slicePart_ ps ?_)
    show wpAny _ _ (if ((-1 : Int) == 0) = true then _ else _) _ _ s
    rw [if_neg (by decide)]
    refine wpAny_bind (HT.slicePart_ pl (wpAny_bind (HT.slicePart_ pu (wpAny_bind (wpAny_pure ?_)))))
    show wpAny _ _ (match Builtin.Slice.sliceAdjust none none (-1) (items.size : Int) with | (lo, hi) => pure (lo, (-1 : Int), Builtin.Slice.slicePlaces lo hi (-1))) _ _ s
    rw [rev_adjust]
    show wpAny _ _ (pure ((items.size : Int) - 1, (-1 : Int), Builtin.Slice.slicePlaces ((items.size : Int) - 1) (-1) (-1))) _ _ s
    rw [rev_places]
    exact wpAny_pure h
  refine wpAny_bind (app ?_)
  have hno : ¬ (((items.size : Int) - 1 == 0 && (-1 : Int) == 1 && items.size == items.size) = true) := by
    intro q
    rw [Bool.and_eq_true, Bool.and_eq_true] at q
    exact absurd q.1.2 (by decide)
  show wpAny _ _ (if ((items.size : Int) - 1 == 0 && (-1 : Int) == 1 && items.size == items.size) = true then _ else _) _ _ s
  rw [if_neg hno, rev_pick]
  first
    | exact wpAny_bind (m := Builtin.Tuple.tupleExact _) (wpAny_newObj_type (wpAny_pure ⟨_, rfl, wpAny_pure h⟩) htake)
    | exact wpAny_bind (m := Builtin.Tuple.tupleExact _) (wpAny_newObj_type (wpAny_bind (wpAny_pure (wpAny_pure ⟨_, rfl, wpAny_pure h⟩))) htake)
    | exact wpAny_bind (wpAny_bind (m := Builtin.Tuple.tupleExact _) (wpAny_newObj_type (wpAny_pure (wpAny_pure ⟨_, rfl, wpAny_pure h⟩)) htake))
    | exact wpAny_bind (wpAny_bind (m := Builtin.Tuple.tupleExact _) (wpAny_newObj_type (wpAny_pure ⟨_, rfl, wpAny_pure h⟩) htake))
end
def tRevT (K : PySem.W.Frag) (te : TE) : TE := fun σ H Q => te σ H fun x H1 => ∃ a xs, x = .ref a ∧ SqT K H1 a xs ∧ ∀ p, H1 p = none → Q (.ref p) (upd H1 p (.tup xs.reverse))
section
variable {X : Cx}
theorem pe_revT {K : PySem.W.Frag} {e : Expr} {te : TE} {k : Nat} {p1 p2 p3 pos : Pos} (eK : X.K = K) (he : PE X e te) : PE X (.Subscript e (.Slice none none (some (.UnaryOp .USub (.Constant (.int 1) k p1) p2)) p3) pos) (tRevT K te) := by
  subst eK
  refine ⟨fun pins s σ H Q I h => ?_⟩
  refine Subscript_ (thn (he.run pins s σ H _ I h) fun v s1 ⟨x, H1, I1, r1, q1⟩ => ?_)
  obtain ⟨a, xs, ex, hx, q⟩ := q1
  subst ex
  cases r1
  have hst : PO X (some (.UnaryOp .USub (.Constant (.int 1) k p1) p2)) (tPart (tUn (rU fun i => .int (-i)) (tC (.int 1)))) := po_some (pe_un un_neg pe_int)
  refine wpAny_Slice (thn (po_none.run pins s1 σ H1 (fun o H2 => o = none ∧ H2 = H1) I1 ⟨rfl, rfl⟩) fun vl s2 ⟨l, H2, I2, pl, el, e2⟩ => ?_)
  subst el e2
  refine thn (po_none.run pins s2 σ H2 (fun o H3 => o = none ∧ H3 = H2) I2 ⟨rfl, rfl⟩) fun vu s3 ⟨u, H3, I3, pu, eu, e3⟩ => ?_
  subst eu e3
  refine thn (hst.run pins s3 σ H3 (fun o H4 => o = some (-1) ∧ H4 = H3) I3 ⟨1, rfl, -1, rfl, rfl, rfl⟩) fun vs s4 ⟨o, H4, I4, ps, eo, e4⟩ => ?_
  subst eo e4
  have I5 : Inv X pins σ H4 { s4 with heap := s4.heap.push { cls := .type "slice", data := .fields #[vl, vu, vs] } } := I4.kept (t' := s4.toks) fun b ob q => Heap.get?_push_of_some _ q
  obtain ⟨its, r, ht, hz⟩ := I5.tuple hx
  have hlen := r.length
  show wpAny (model X.prog X.w) X.A (subscriptTail e (.Slice none none (some (.UnaryOp .USub (.Constant (.int 1) k p1) p2)) p3) (.ref a) (.ref s4.heap.objs.size)) (EP X pins σ Q) X.xe { s4 with heap := s4.heap.push { cls := .type "slice", data := .fields #[vl, vu, vs] } }
  refine tail_any (ops := [.ref a, .ref s4.heap.objs.size]) ht.typeIs (PyProof.Rows.slot_tuple_getitem.lookup) ?_ (by with_unfolding_all rfl)
  refine getItem_tuple_rev ht (Heap.IsSliceOf.new _ vl vu vs) pl pu ps ?_ (by rw [List.size_toArray]; omega)
  refine ⟨.ref _, _, I5.laid (t' := s4.toks) (o := .tup xs.reverse) (fun b ob q => Heap.get?_push_of_some _ q) (Nat.le_refl _) ?_, rfl, q _ (I5.hok.fresh (Nat.le_refl _))⟩
  exact ⟨by rw [List.length_reverse]; exact hz, _, r.reverse, IsTup.new _ _⟩
end
theorem x_revT {K : PySem.W.Frag} {te : TE} {σ : L2.St} {H : Hp} {Q : VK} (h : te σ H fun x H1 => ∃ a xs, x = .ref a ∧ SqT K H1 a xs ∧ ∀ p, H1 p = none → Q (.ref p) (upd H1 p (.tup xs.reverse))) : tRevT K te σ H Q := h
/-! x == n, x of any kind that is known, n a whole number -/
section
variable {prog : Program} {w : World} {A : Around} {E : Value → Shared → Prop} {s : Shared}
theorem int_eq_declines_dict (b : Int) (u : Tok) (l : Addr) (o : Obj) (hc : o.cls = .type "dict") (hd : ∃ es ep, o.data = .dict es ep) :
    Meets (Builtin.«int.__eq__» ⟨[.int b u, .ref l], []⟩) (fun _ R s => s.heap.get? l = some o ∧ R (.ok (.ret .notImplemented)) s) :=
  .of_wp fun prog w A R s h => by
    obtain ⟨hp, g, d, tk, os⟩ := s
    obtain ⟨hl, h⟩ := h
    have hT : (⟨hp, g, d, tk, os⟩ : Shared).TypeIs (.ref l) "dict" := ⟨o, hl, hc⟩
    have f1 := F.sub_dict_int
    wp_walk using wpAny_load hl, wpAny_typeOf hT
    obtain ⟨es, ep, hd⟩ := hd
    rw [hd]
    wp_walk
    exact ⟨_, rfl, h⟩
theorem rc_dict_int {a : Addr} {o : Obj} {b : Int} {u : Tok} {Q : Value → Shared → Prop} (ho : s.heap.get? a = some o) (hc : o.cls = .type "dict") (hd : ∃ es ep, o.data = .dict es ep) (hu : A.units < cLine) (h : Q (.bool false) s) : wpAny (model prog w) A (richCompare .Eq (.ref a) (.int b u)) Q E s := by
  have hT : s.TypeIs (.ref a) "dict" := ⟨o, ho, hc⟩
  refine rc_eq_decline_or (k := false) hT (typeIs_int s b u) (by decide) F.sub_int_dict F.slot_dict_eq F.slot_int_eq_refl
    (fun _ hq => wpAny_call_entry F.slot_dict_eq hT F.entry_dict_eq ?_ (F.args_dict_eq_2 _ _))
    (fun _ hq => call_meets F.slot_int_eq_refl (typeIs_int s b u) F.entry_int_eq (F.args_int_eq_2 _ _) (int_eq_declines_dict b u a o hc hd) ⟨ho, hq⟩)
    (fun _ hq => wpAny_of_eq (rfl : isSame (.ref a) (.int b u) = pure false) hq) (.inr hu) h
  show wpAny _ _ (Builtin.Dict.dictSlotArgs "__eq__" ⟨[.ref a, .int b u], []⟩ >>= _) _ _ s
  refine wpAny_bind ?_
  unfold Builtin.Dict.dictSlotArgs
  refine wpAny_bind (wpAny_notOrdered_dict hT ?_)
  show wpAny _ _ (pure (Value.ref a, Value.int b u)) _ _ s
  refine wpAny_pure ?_
  refine wpAny_bind (wpAny_isInstance (T := "int") (typeIs_int s b u) F.sub_int_dict ?_)
  simp only [Bool.not_false, if_true]
  exact wpAny_bind (wpAny_rule (wpAny_pure ⟨_, rfl, hq⟩))
end
def plainV (H : Hp) (x : V) : Prop := sca x = true ∨ ∃ a, x = .ref a ∧ ((∃ xs, H a = some (.lst xs)) ∨ (∃ xs, H a = some (.tup xs)) ∨ ∃ kvs : List (Key × V), H a = some (.dK kvs))
def rEqA (C : Addr) (sp : Sp) : R2 := fun x y H Q => ∃ n : Int, y = .int n ∧ ((plainV H x ∧ ∀ r : Bool, Q (.bl r) H) ∨
  ∃ a dx fs, x = .ref a ∧ H a = some (.ins C dx fs) ∧ sp [.ref a, .int n] H (fun v H' => ∃ r, v = .bl r ∧ Q (.bl r) H') (fun _ _ _ => False))
theorem int_apart (K : PySem.W.Frag) (C : Addr) : PySem.W.notFirst K C (.type "int") = true := by
  have e : PySem.W.subIn K (.type "int") (.ref C) = some false := by
    have e2 : PySem.fastBuiltinMro "int" = some [.type "int", .type "object"] := by decide +kernel
    show (PySem.fastBuiltinMro "int").map (·.contains (Value.ref C)) = some false
    rw [e2]
    rfl
  unfold PySem.W.notFirst
  rw [e]
  rfl
theorem op_eqA {X : Cx} {C f : Addr} {fd : FuncData} {ps : List Str} {sp : Sp} {n : Nat} (O : OwnQ X.K C f) (F : FnOk X.prog X.w X.K X.mg X.base CX0 n f fd ps sp) (hb : Binds X.K fd ps []) (hr : Room n X.A) : OpR X (compareOp .Eq) (rEqA C sp) := by
  intro pins s σ H x y v u Q I rx ry h
  obtain ⟨n, rfl, h⟩ := h
  obtain ⟨t, rfl⟩ := ry
  show wpAny (model X.prog X.w) X.A (richCompare .Eq v (.int n t)) (EP X pins σ Q) X.xe s
  rcases h with ⟨hp, q⟩ | ⟨a, dx, fs, rfl, ha, hsp⟩
  · have fin : ∀ r : Bool, EP X pins σ Q (.bool r) s := fun r => ⟨.bl r, H, I, rfl, q r⟩
    rcases hp with hs | ⟨a, rfl, ⟨xs, ha⟩ | ⟨xs, ha⟩ | ⟨kvs, ha⟩⟩
    · cases x with
      | non =>
        cases (show v = Value.none from rx)
        exact RcAt.none_int n t _ _ _ _ (fin _)
      | bl b =>
        cases (show v = Value.bool b from rx)
        exact RcAt.bool_int b n t _ _ _ _ (fin _)
      | int i =>
        obtain ⟨t', rfl⟩ := rx
        exact RcAt.int_int i t' n t _ _ _ _ (fin _)
      | str z =>
        obtain ⟨t', rfl⟩ := rx
        exact RcAt.str_int z t' n t _ _ _ _ (fin _)
      | _ => cases hs
    · cases rx
      obtain ⟨its, r, ht, hz⟩ := I.list (SqL.of ha)
      exact RcAt.list_int n t ht.isList hr.units0 _ _ _ _ (fin _)
    · cases rx
      obtain ⟨its, r, ht, hz⟩ := I.tuple (SqT.of ha)
      exact RcAt.tuple_int n t (isTuple_of ht) hr.units0 _ _ _ _ (fin _)
    · cases rx
      obtain ⟨_, _, vs, _, hd⟩ := (show ObjOk X.prog X.w H s.heap a (.dK kvs) from I.hok a _ ha)
      obtain ⟨o', ho', hc'⟩ := id hd.typeIs
      obtain ⟨o, es, ep, ho, _, hd2, _⟩ := hd
      rw [ho] at ho'
      cases ho'
      exact rc_dict_int ho hc' ⟨es, ep, hd2⟩ hr.units0 (fin _)
  · cases rx
    obtain ⟨mA, J, _⟩ := ins_get I.hok ha
    obtain ⟨od, J, _⟩ := J.look
    obtain ⟨m, hF⟩ := I.fr
    have r2 : Vals [V.ref a, V.int n] [Value.ref a, Value.int n t] := .cons rfl (.cons ⟨_, rfl⟩ .nil)
    have back : wpAny (model X.prog X.w) X.A (call (.ref f) [.ref a, .int n t]) (PySem.W.CmpBack (EP X pins σ Q)) X.xe s := by
      refine thn (run_fn F hr hb .nil pass0 I r2 hsp) fun w' s' ⟨z, H', I', rz, r, ez, q⟩ => ?_
      subst ez
      cases rz
      exact ⟨.bl r, H', I', rfl, q⟩
    exact PySem.W.cmp_K (op := .Eq) (tb := .type "int") hr.units0 hF I.ok.mod.kin J (fun A Q E s k q => wpAny_typeOf (typeIs_int _ n t) q) (int_apart X.K C) O.s O.fn back
/-! {i: v} -/
theorem x_disp0 {H : Hp} {Q : VK} {σ : L2.St} {i : Int} {v : V} {tv : TE} (hv : ∀ (G : Hp) (R : VK), R v G → tv σ G R) (q : ∀ p, H p = none → Q (.ref p) (upd H p (.dK [(.inl i, v)]))) : tDisp [(tC (.int i), tv)] σ H Q := fun p hp =>
  hv _ _ ⟨upd_same, [(.inl i, v)], rfl, by show 1 ≤ 15; decide, by rw [upd_upd]; exact q p hp⟩
section
variable {H : Hp} {Q : VK} {xs : List V} {kvs : List (Key × V)}
theorem lstH (h : ∀ p G, Same H G → H p = none → G p = some (.lst xs) → Q (.ref p) G) : ∀ p, H p = none → Q (.ref p) (upd H p (.lst xs)) := fun p hp => h p _ (same_new (Same.refl _) hp) hp upd_same
theorem tupH (h : ∀ p G, Same H G → H p = none → G p = some (.tup xs) → Q (.ref p) G) : ∀ p, H p = none → Q (.ref p) (upd H p (.tup xs)) := fun p hp => h p _ (same_new (Same.refl _) hp) hp upd_same
theorem dKH (h : ∀ p G, Same H G → H p = none → G p = some (.dK kvs) → Q (.ref p) G) : ∀ p, H p = none → Q (.ref p) (upd H p (.dK kvs)) := fun p hp => h p _ (same_new (Same.refl _) hp) hp upd_same
end
end Fv
set_option maxRecDepth 100000
set_option maxHeartbeats 2000000
namespace Fv
open PySem PySem.Spec PyProof.Rows L2
/-! a try whose first clause takes all that its body raises -/
theorem upSlots_of {h h' : Heap} (k : ∀ b o, h.get? b = some o → h'.get? b = some o) : h.UpToSlots h' := fun b o e _ => ⟨o.slots, k b o e⟩
theorem flying_of {B h h' : Heap} {l : List Env} {a : Addr} {Z : Obj → Prop} (k : ∀ b o, h.get? b = some o → h'.get? b = some o) (x : HandSPX.FlyingZ B l a Z h) : HandSPX.FlyingZ B l a Z h' := by
  obtain ⟨k1, k2, k3, oe, vs, T, oT, ts, t1, t2, t3, t4, t5, t6, t7, t8⟩ := x
  exact ⟨fun b o e => k _ _ (k1 b o e), k2, k3.of_keeps fun b o e _ => ⟨o, k _ _ e, rfl⟩, oe, vs, T, oT, ts, k _ _ t1, t2, t3, t4, t5, t6, k _ _ t7, t8⟩
theorem unframed {B h : Heap} {l : List Env} {a : Addr} {o : Obj} {vs : Array Value} (ff : h.FunFrames B l) (e : h.get? a = some o) (dd : o.data = .fields vs) : a ∉ frs l := fun hm => by
  obtain ⟨_, u, e', nf⟩ := ff.mem hm
  rw [e] at e'
  cases e'
  exact nf _ dd
/-- what is raised in the body, and is taken by the clause -/
def wAs1 (K : PySem.W.Frag) (c : Value) (i : Nat) (ts : Addr → Value → Option Addr → TS) (D : Ends) : WX := fun cls d σ H => PySem.W.exmOne K cls c = some true ∧ ∀ a, H a = none →
  ts a cls d { nx := fun σ' H' => D.nx (σ'.set i none) H', rt := D.rt, bk := fun σ' H' => D.bk (σ'.set i none) H', ct := fun σ' H' => D.ct (σ'.set i none) H' } (σ.set i (some (.ref a))) H
section
variable {X : Cx} {x n : Str} {c : Value} {i : Nat} {body suite : List Stmt} {b₀ : Stmt} {np pos pos' : Pos} {tb : WX → TS} {ts : Addr → Value → Option Addr → TS} {hds : List ExceptHandler}
theorem sp_untry {xe : Value → Shared → Prop} {pins : List (Addr × Obj)} {D : Ends} {f : Flow} {s1 : Shared} (ok : X.Ok) (h : SP (X.tr (X.pn ++ pins) xe) [] D f s1) : SP X pins D f s1 := by
  cases f with
  | next =>
    obtain ⟨σ', H', J, q⟩ := h
    exact ⟨σ', H', J.ofTry ok, q⟩
  | brk =>
    obtain ⟨σ', H', J, q⟩ := h
    exact ⟨σ', H', J.ofTry ok, q⟩
  | cont =>
    obtain ⟨σ', H', J, q⟩ := h
    exact ⟨σ', H', J.ofTry ok, q⟩
  | ret u =>
    obtain ⟨v, σ', H', J, r, q⟩ := h
    exact ⟨v, σ', H', J.ofTry ok, r, q⟩
theorem ps_try_as1 (hs : X.stack = X.env :: X.outer) (hf : X.env.frame = some X.env.locals) (hN : X.N.Nodup) (hi : X.N[i]? = some n) (hln : X.env.kindOf n = some .local) (hc : Names X x c)
    (hb : ∀ (W : WX) (pn : List (Addr × Obj)) (xe : Value → Shared → Prop), L2.Takes (X.tr pn xe) W → PassesOwn (model X.prog X.w) X.A X.env xe → PSs (X.tr pn xe) body (tb W))
    (hsu : ∀ (a : Addr) (oe : Obj) (cls : Value) (d : Option Addr) (pn : List (Addr × Obj)), Zc cls d oe → (∃ vs, oe.data = .fields vs) → PSs (X.suite a ((a, oe) :: pn)) (b₀ :: suite) (ts a cls d)) :
    PS X (.Try body (.ExceptHandler (some (.Name x np)) (some n) (b₀ :: suite) pos' :: hds) [] [] pos) (fun D σ H => tb (wAs1 X.K c i ts D) D σ H) := by
  constructor
  intro pins s σ H D I h
  have ok := I.ok
  have fr : X.A.frames = some (X.env :: X.outer) := ok.frames.trans (by rw [hs])
  refine wpAny_Try_except (wpAny_mono ((hb (wAs1 X.K c i ts D) (X.pn ++ pins) (fun e s₁ => wpAny (model X.prog X.w) X.A (noteFrame e X.env) (fun _ s₂ => wpAny (model X.prog X.w) X.A (setFlight e none) (fun _ s₃ =>
    wpAny (model X.prog X.w) X.A (handleBy e X.env (.ExceptHandler (some (.Name x np)) (some n) (b₀ :: suite) pos' :: hds)) (SP X pins D) X.xe s₃) X.xe s₂) X.xe s₁) (fun u s' xx => ?_) PassesOwn.looking).run [] s σ H D (I.toTry _) h) (fun f s1 hsp => ?_) (fun _ _ he => he))
  · obtain ⟨a, B, sI, ps', σ', H', cls, d, rfl, J', nb, up, sky, na, os, ag, hit, hyes⟩ := xx
    have J : Inv X pins σ' H' sI := J'.ofTry ok
    rw [show (X.tr (X.pn ++ pins) _).stack = X.env :: X.outer from hs] at sky
    refine Sky.land (L := X.env.locals) Zc.steady fr hf sky fun h3 fl3 up3 => ?_
    obtain ⟨o3, v3, g3, z3, d3⟩ := fl3.there
    have J3 : Inv X pins σ' H' { s' with heap := h3 } := J.landed nb fl3.1 (up.trans up3) os ag
    have nfr := unframed fl3.2.2.1 g3 d3
    have nL : a ≠ X.env.locals := fun z => nfr (List.mem_filterMap.mpr ⟨X.env, List.mem_cons_self, by rw [hf, z]⟩)
    have nF : a ∉ X.fs := fun hm => by
      obtain ⟨e, he, q⟩ := List.mem_filterMap.mp hm
      exact nfr (List.mem_filterMap.mpr ⟨e, List.mem_cons_of_mem _ he, q⟩)
    have S3 := J3.suite g3 d3 na nL nF
    have ty : PySem.W.Looks (model X.prog X.w) h3 (typeOf (.ref a)) cls := fun A Q E s k q => wpAny_typeOf_ref (k _ _ g3) (by rw [z3.1]; exact q)
    have mt := PySem.W.exm_one (M := model X.prog X.w) J3.kIn ty hit
    have nm : ∀ {Q : Value → Shared → Prop} {E : Value → Shared → Prop}, Q c { s' with heap := h3 } → wpAny (model X.prog X.w) (X.A.mark (some (.ref a))) (eval (.Name x np) X.env) Q E { s' with heap := h3 } := fun {Q E} q => by
      rcases hc with ⟨hg, hd, hm | ⟨hm, hv, hn⟩⟩
      · exact ld_glob (X := X.suite a ((a, o3) :: (X.pn ++ pins))) S3 hg hm q hd
      · exact ld_blt (X := X.suite a ((a, o3) :: (X.pn ++ pins))) S3 hg hm hv q hn hd
    refine wpAny_handleBy_cons (codeAny_handlers_test (nm (mt.here ?_))) (by intro q; cases q)
    refine codeAny_handlers_suite_as (HandSPX.lands_againZ fl3 fun h4 fl4 up4 => ?_)
    obtain ⟨o4, v4, g4, z4, d4⟩ := fl4.there
    have J4 : Inv X pins σ' H' { s' with heap := h4 } := J.landed nb fl4.1 ((up.trans up3).trans up4) os ag
    have S4 := J4.suite g4 d4 na nL nF
    refine store_ok (X := X.suite a ((a, o4) :: (X.pn ++ pins))) (v := .ref a) S4 hN hi (.inl hln) rfl (fun s5 S5 => ?_) (.inr hln)
    refine wpAny_mono ((hsu a o4 cls d (X.pn ++ pins) z4 ⟨_, d4⟩).run [] s5 _ H' _ S5 (hyes a na)) (fun f s6 hsp => ?_) (fun _ _ z => z.elim)
    have fin : ∀ {σ6 : L2.St} {H6 : Hp} {Q : Shared → Prop}, Inv (X.suite a ((a, o4) :: (X.pn ++ pins))) [] σ6 H6 s6 → (∀ s7, Inv X pins (σ6.set i none) H6 s7 → Q s7) →
        wpAny (model X.prog X.w) X.A (do bindName X.env n .none; unbindBehindTheSuite X.env n pos') (fun _ s7 => Q s7) X.xe s6 := fun S6 hq => gone_ok (S6.unsuite ok) hN hi hln hq
    cases f with
    | next =>
      obtain ⟨σ6, H6, S6, q6⟩ := hsp
      exact fin S6 fun _ J7 => ⟨_, _, J7, q6⟩
    | brk =>
      obtain ⟨σ6, H6, S6, q6⟩ := hsp
      exact fin S6 fun _ J7 => ⟨_, _, J7, q6⟩
    | cont =>
      obtain ⟨σ6, H6, S6, q6⟩ := hsp
      exact fin S6 fun _ J7 => ⟨_, _, J7, q6⟩
    | ret u =>
      obtain ⟨v6, σ6, H6, S6, r6, q6⟩ := hsp
      exact fin S6 fun _ J7 => ⟨_, _, _, J7, r6, q6⟩
  · have hsp' := sp_untry ok hsp
    cases f with
    | next => exact wpAny_execs_nil hsp'
    | brk => exact hsp'
    | cont => exact hsp'
    | ret u => exact hsp'
end
/-! except (A, B, C): a suite that may raise -/
def wTup3 (K : PySem.W.Frag) (c1 c2 c3 : Value) (ts : Addr → Value → Option Addr → TS) (D : Ends) : WX := fun cls d σ H => PySem.W.exmAny K cls [c1, c2, c3] = some true ∧ ∀ a, H a = none → ts a cls d D σ H
section
variable {X : Cx} {x1 x2 x3 : Str} {c1 c2 c3 : Value} {body suite : List Stmt} {b₀ : Stmt} {n1 n2 n3 tpos pos pos' : Pos} {k : Nat} {tb : WX → TS} {ts : Addr → Value → Option Addr → TS} {hds : List ExceptHandler} {Wout : WX}
theorem ps_try_tup3 (hs : X.stack = X.env :: X.outer) (hf : X.env.frame = some X.env.locals) (w1 : Names X x1 c1) (w2 : Names X x2 c2) (w3 : Names X x3 c3) (hpa : ∀ hd : Option Value, PassesOwnAt (model X.prog X.w) (X.A.mark hd) X.A X.env X.xe) (tk : L2.Takes X Wout)
    (hb : ∀ (W : WX) (pn : List (Addr × Obj)) (xe : Value → Shared → Prop), L2N.Takes (X.tr pn xe) W → PassesOwn (model X.prog X.w) X.A X.env xe → PSs (X.tr pn xe) body (tb W))
    (hsu : ∀ (a : Addr) (oe : Obj) (cls : Value) (d : Option Addr) (pn : List (Addr × Obj)), L2N.Zn cls d oe → (∃ vs, oe.data = .fields vs) → L2.Takes (L2H.suiteX X a ((a, oe) :: pn)) Wout → L2H.HotC (L2H.suiteX X a ((a, oe) :: pn)) →
      PSs (L2H.suiteX X a ((a, oe) :: pn)) (b₀ :: suite) (ts a cls d))
    (ha : starEach [.Name x1 n1, .Name x2 n2, .Name x3 n3] X.env = [(false, eval (.Name x1 n1) X.env), (false, eval (.Name x2 n2) X.env), (false, eval (.Name x3 n3) X.env)] := by rfl) :
    PS X (.Try body (.ExceptHandler (some (.Tuple [.Name x1 n1, .Name x2 n2, .Name x3 n3] k tpos)) none (b₀ :: suite) pos' :: hds) [] [] pos) (fun D σ H => tb (wTup3 X.K c1 c2 c3 ts D) D σ H) := by
  constructor
  intro pins s σ H D I h
  have ok := I.ok
  have fr : X.A.frames = some (X.env :: X.outer) := ok.frames.trans (by rw [hs])
  refine wpAny_Try_except (wpAny_mono ((hb (wTup3 X.K c1 c2 c3 ts D) (X.pn ++ pins) (fun e s₁ => wpAny (model X.prog X.w) X.A (noteFrame e X.env) (fun _ s₂ => wpAny (model X.prog X.w) X.A (setFlight e none) (fun _ s₃ =>
    wpAny (model X.prog X.w) X.A (handleBy e X.env (.ExceptHandler (some (.Tuple [.Name x1 n1, .Name x2 n2, .Name x3 n3] k tpos)) none (b₀ :: suite) pos' :: hds)) (SP X pins D) X.xe s₃) X.xe s₂) X.xe s₁) (fun u s' xx => ?_) PassesOwn.looking).run [] s σ H D (I.toTry _) h) (fun f s1 hsp => ?_) (fun _ _ he => he))
  · obtain ⟨a, B, sI, ps', σ', H', cls, d, rfl, J', nb, up, sky, na, os, ag, hit, hyes⟩ := xx
    have J : Inv X pins σ' H' sI := J'.ofTry ok
    rw [show (X.tr (X.pn ++ pins) _).stack = X.env :: X.outer from hs] at sky
    refine L2N.Sky.land (L := X.env.locals) L2N.Zn.steady fr hf sky fun h3 fl3 up3 => ?_
    obtain ⟨o3, v3, g3, z3, d3⟩ := fl3.there
    have J3 : Inv X pins σ' H' { s' with heap := h3 } := J.landed nb fl3.1 (up.trans up3) os ag
    have nfr := unframed fl3.2.2.1 g3 d3
    have nL : a ≠ X.env.locals := fun z => nfr (List.mem_filterMap.mpr ⟨X.env, List.mem_cons_self, by rw [hf, z]⟩)
    have nF : a ∉ X.fs := fun hm => by
      obtain ⟨e, he, q⟩ := List.mem_filterMap.mp hm
      exact nfr (List.mem_filterMap.mpr ⟨e, List.mem_cons_of_mem _ he, q⟩)
    have S3 := J3.suite g3 d3 na nL nF
    have nm : ∀ {x : Str} {c : Value} {p : Pos} {Q : Value → Shared → Prop} {E : Value → Shared → Prop}, Names X x c → Q c { s' with heap := h3 } → wpAny (model X.prog X.w) (X.A.mark (some (.ref a))) (eval (.Name x p) X.env) Q E { s' with heap := h3 } := fun {x c p Q E} hc q => by
      rcases hc with ⟨hg, hd, hm | ⟨hm, hv, hn⟩⟩
      · exact ld_glob (X := X.suite a ((a, o3) :: (X.pn ++ pins))) S3 hg hm q hd
      · exact ld_blt (X := X.suite a ((a, o3) :: (X.pn ++ pins))) S3 hg hm hv q hn hd
    have ext : ∀ b o, h3.get? b = some o → (h3.push { cls := .type "tuple", data := .seq [c1, c2, c3].toArray }).get? b = some o := fun b o e => Heap.get?_push_of_some _ e
    have ty : PySem.W.Looks (model X.prog X.w) (h3.push { cls := .type "tuple", data := .seq [c1, c2, c3].toArray }) (typeOf (.ref a)) cls := fun A Q E s k q => wpAny_typeOf_ref (k _ _ (ext _ _ g3)) (by rw [z3.1]; exact q)
    have mt := PySem.W.exm_tup3 (M := model X.prog X.w) (J3.kIn.keeps ext) ty (Heap.get?_push_size h3 rfl) hit
    have flX := flying_of ext fl3
    refine wpAny_handleBy_cons (codeAny_handlers_test (wpAny_Tuple_spliced ?_)) (by intro q; cases q)
    rw [ha]
    refine Calls.spliced_cons (nm w1 (Calls.spliced_cons (nm w2 (Calls.spliced_cons (nm w3 (Calls.spliced_nil ⟨by show 3 ≤ sizeLine; decide, mt.here ?_⟩))))))
    refine codeAny_handlers_suite (HandSPX.lands_againZ flX fun h4 fl4 up4 => ?_)
    obtain ⟨o4, v4, g4, z4, d4⟩ := fl4.there
    have J4 : Inv X pins σ' H' { s' with heap := h4 } := J.landed nb fl4.1 (((up.trans up3).trans (upSlots_of ext)).trans up4) os ag
    have S4 := J4.suite g4 d4 na nL nF
    have tkS : L2.Takes (L2H.suiteX X a ((a, o4) :: (X.pn ++ pins))) Wout := fun u2 s2 ⟨a2, B2, t2, p2, σ2, H2, c2, e2, q1, q2, q3, q4, q5, q6, q7, q8, q9⟩ => tk u2 s2 ⟨a2, B2, t2, pins, σ2, H2, c2, e2, q1, L2H.unsuiteX q2 ok, q3, q4, q5, q6, q7, q8, q9⟩
    have hot : L2H.HotC (L2H.suiteX X a ((a, o4) :: (X.pn ++ pins))) := ⟨(a, o4), ⟨rfl, v4, d4, z4.2.2 v4 d4⟩, List.mem_cons_self⟩
    refine wpAny_mono ((hsu a o4 cls d (X.pn ++ pins) z4 ⟨_, d4⟩ tkS hot).run [] _ _ H' _ (L2H.suiteX_of S4) (hyes a na)) (fun f s6 hsp => ?_) (fun e6 s6 z => hpa (some (.ref a)) e6 s6 z)
    cases f with
    | next =>
      obtain ⟨σ6, H6, S6, q6⟩ := hsp
      exact ⟨_, _, L2H.unsuiteX S6 ok, q6⟩
    | brk =>
      obtain ⟨σ6, H6, S6, q6⟩ := hsp
      exact ⟨_, _, L2H.unsuiteX S6 ok, q6⟩
    | cont =>
      obtain ⟨σ6, H6, S6, q6⟩ := hsp
      exact ⟨_, _, L2H.unsuiteX S6 ok, q6⟩
    | ret u =>
      obtain ⟨v6, σ6, H6, S6, r6, q6⟩ := hsp
      exact ⟨_, _, _, L2H.unsuiteX S6 ok, r6, q6⟩
  · have hsp' := sp_untry ok hsp
    cases f with
    | next => exact wpAny_execs_nil hsp'
    | brk => exact hsp'
    | cont => exact hsp'
    | ret u => exact hsp'
end
end Fv
set_option maxRecDepth 100000
set_option maxHeartbeats 1000000
namespace Fv
open PySem PySem.Spec PyProof.Rows L2
/-- C(), C an error's class that says super().__init__(): its context is None -/
theorem pmk_supN {X : Cx} {C fI : Addr} {x : Str} {p pos : Pos} (T : SupC X.prog X.K C fI) (hr : Room 1 X.A) (hg : Gl X x) (hm : X.mg x = some (.ref C)) (hs : X.mg "super" = none) (hdb : (x == ("__debug__" : Str)) = false := by decide) :
    L2N.PMk X (.Call (.Name x p) [] [] pos) (fun _ H Q => Q (.ref C) none H) := by
  intro pins s σ H Q I h
  refine wpAny_Call_Name_kw (ld_glob I hg hm ?_ hdb)
  refine PySem.W.callWith_K0 I.kIn T.x.kC ?_
  obtain ⟨mb, hb1, hb2⟩ := I.mod.blt
  have hlim := I.nolimit
  have hgl : s.heap.Ns mainGlobals X.mg := I.mod.glob.keeps I.bk
  have hbl : s.heap.Ns builtinsNs mb := hb1.keeps I.bk
  obtain ⟨hp, g, d, t, os⟩ := s
  refine wpAny_call (sup_made T I.kIn hlim hgl hs hbl ((hb2 "super" (by decide)).trans (by first | rfl | decide +kernel | kernel_rfl)) (by have := hr.dp; omega) fun h' tk' e t1 k ge hx => ?_)
  obtain ⟨G', g1, g2⟩ := restrict h' fun b => decide (b ≠ e)
  have gk : ∀ b, b ≠ e → G'.get? b = h'.get? b := fun b hb => g1 b (decide_eq_true hb)
  have g0 : G'.get? e = none := g2 e (by simp)
  have old : ∀ b o, hp.get? b = some o → G'.get? b = some o := fun b o q => (gk b (Nat.ne_of_lt (Nat.lt_of_lt_of_le (Heap.lt_size q) ge))).trans (k b o q)
  have J : Inv X pins σ H ⟨G', g, d, tk', os⟩ := I.kept (t' := tk') old
  refine ⟨e, _, _, ⟨G', g, d, tk', os⟩, H, .ref C, none, rfl, J, fun b o q => ?_, g0, hx, ⟨rfl, rfl, fun vs hv => by cases hv; rfl⟩, rfl, rfl, I.hok.fresh ge, rfl, I.bare, raises_own T.x.exC T.x.tyC, h⟩
  by_cases hb : b = e
  · have q' : G'.get? b = some o := q
    rw [hb, g0] at q'
    cases q'
  · exact (gk b hb).symm.trans q
theorem passLenN {X : Cx} {W : WX} {n : Nat} (tk : L2N.Takes X W) (hn : X.N.length = n) : Passes (L2N.CX X.prog X.w) X (fun cls d H => ∀ σ : L2.St, σ.length = n → W cls d σ H) := fun pins σ H s e s' I c => by
  refine L2N.passAt tk σ pins H s e s' I ?_
  obtain ⟨a, B, H', cls, d, h1, h2, h3, h4, h5, h6, h7, h8⟩ := c
  exact ⟨a, B, H', cls, d, h1, h2, h3, h4, h5, h6, h7, h8 σ (I.len.trans hn)⟩
section
variable {P : Program} {w : World} {K : PySem.W.Frag} {mg : Str → Option Value} {base : Heap}
/-- a def that may raise, the errors' contexts being None -/
theorem okN {x qual : Str} {st : Stmt} {f : Addr} {fd : FuncData} {N ps : List Str} {k : Nat} {sp : Sp} (F : Fun K x qual st f fd) (S : FnScope N ps (defScope st)) (len : ∀ vs H Q E, sp vs H Q E → vs.length = ps.length)
    (hbody : ∀ (cdv : Value) (A : Around) (outer : List Env) (s : Shared) (H : Hp) (vs : List V) (Q : VK) (E : XK), Room k (A.deeper (envOfC qual (defScope st) s.heap.objs.size f cdv)) → sp vs H Q E →
      ∃ t, PSs (cxOf (L2N.CX P w) P w K mg base N qual (defScope st) f cdv A outer s H E) (defBody st) t ∧ t { nx := fun _ H' => Q .non H', rt := Q } (L2.start N vs) H) : FnOk P w K mg base (L2N.CX P w) (k + 1) f fd ps sp := by
  obtain ⟨oc, od, kV, doc, pm, an, cdv, ct, osl, rfl, lk, hcd⟩ := F.ex
  exact fn_of lk hcd S len fun A outer s H vs Q E hr hsp => hbody cdv A outer s H vs Q E hr hsp
/-- a def called while an exception is handled -/
theorem okH {x qual : Str} {st : Stmt} {f : Addr} {fd : FuncData} {N ps : List Str} {k : Nat} {sp : Sp} (F : Fun K x qual st f fd) (S : FnScope N ps (defScope st)) (len : ∀ vs H Q E, sp vs H Q E → vs.length = ps.length)
    (hbody : ∀ (cdv : Value) (A : Around) (outer : List Env) (s : Shared) (H : Hp) (vs : List V) (Q : VK) (E : XK) (p : Addr × Obj), sp vs H Q E →
      ∃ t, PSs (L2H.cxH CX0 P w K mg base N qual (defScope st) f cdv A outer s H E p) (defBody st) t ∧ t { nx := fun _ H' => Q .non H', rt := Q } (L2.start N vs) H) : L2H.FnH P w K mg base CX0 (k + 1) f fd ps sp := by
  obtain ⟨oc, od, kV, doc, pm, an, cdv, ct, osl, rfl, lk, hcd⟩ := F.ex
  exact L2H.fn_ofH lk hcd S len fun A outer s H vs Q E p _ _ hsp => hbody cdv A outer s H vs Q E p hsp
end
theorem x_callS {sp : Sp} {E : L2.St → XK} {t : TA} {σ : L2.St} {H : Hp} {Q : VK} (h : t σ H fun vs H1 => sp vs H1 Q (E σ)) : tCallS sp E t σ H Q := h
end Fv
set_option maxRecDepth 100000
set_option maxHeartbeats 1000000
namespace Fv
open PySem PySem.Spec L2
def top (i : Nat) : Stmt := PySem.Challenge.pw_foldervotes_k34_histories_judged.main.body.getD i (.Pass ⟨0, 0, 0, 0⟩)
abbrev s_VoteError___str__ : Stmt := inClass (top 1) 0
abbrev s_BadTree___init__ : Stmt := inClass (top 2) 0
abbrev s_NoBlock___init__ : Stmt := inClass (top 3) 0
abbrev s_NoPlace___init__ : Stmt := inClass (top 4) 0
abbrev s_Beneath___init__ : Stmt := inClass (top 5) 0
abbrev s_BadHistory___init__ : Stmt := inClass (top 6) 0
abbrev s_is_within : Stmt := top 8
abbrev s_is_pair : Stmt := top 9
abbrev s_Tree___init__ : Stmt := inClass (top 12) 0
abbrev s_Tree___eq__ : Stmt := inClass (top 12) 1
abbrev s__comes_to_head : Stmt := top 13
abbrev s_is_block : Stmt := top 14
abbrev s_is_place : Stmt := top 15
abbrev s_place_of : Stmt := top 16
abbrev s_parents : Stmt := top 17
abbrev s_beneath : Stmt := top 18
abbrev s_moved : Stmt := top 19
abbrev s_History___init__ : Stmt := inClass (top 22) 0
abbrev s_History___eq__ : Stmt := inClass (top 22) 1
abbrev s_now : Stmt := top 23
abbrev s__law_hand : Stmt := top 25
abbrev s__law_draw : Stmt := top 26
abbrev s__law_tree : Stmt := top 27
abbrev s__law_row : Stmt := top 28
abbrev s__law_is_tree : Stmt := top 29
abbrev s__law_trees : Stmt := top 30
abbrev s__law_beneath : Stmt := top 31
abbrev s__law_put : Stmt := top 32
abbrev s__law_moves : Stmt := top 33
abbrev s__law_had : Stmt := top 34
abbrev s__law_is_round : Stmt := top 35
abbrev s__law_deep : Stmt := top 36
abbrev s__law_odd : Stmt := top 37
abbrev s__law_is_whole : Stmt := top 38
abbrev s__law_due : Stmt := top 39
abbrev s__law_answer : Stmt := top 40
abbrev s__law_bent : Stmt := top 41
abbrev s_law : Stmt := top 42
structure Ad where
  a_VoteError : Addr
  a_BadTree : Addr
  a_NoBlock : Addr
  a_NoPlace : Addr
  a_Beneath : Addr
  a_BadHistory : Addr
  a_Tree : Addr
  a_History : Addr
  t_MOST_BLOCKS : PySem.Tok
  t_MOST_MOVES : PySem.Tok
structure Bl (Z : Ad) (mg : Str → Option Value) : Prop where
  b_ValueError : mg "ValueError" = none
  b_abs : mg "abs" = none
  b_all : mg "all" = none
  b_bool : mg "bool" = none
  b_dict : mg "dict" = none
  b_enumerate : mg "enumerate" = none
  b_int : mg "int" = none
  b_isinstance : mg "isinstance" = none
  b_len : mg "len" = none
  b_list : mg "list" = none
  b_range : mg "range" = none
  b_sorted : mg "sorted" = none
  b_str : mg "str" = none
  b_super : mg "super" = none
  b_tuple : mg "tuple" = none
  k_VoteError : mg "VoteError" = some (.ref Z.a_VoteError)
  k_BadTree : mg "BadTree" = some (.ref Z.a_BadTree)
  k_NoBlock : mg "NoBlock" = some (.ref Z.a_NoBlock)
  k_NoPlace : mg "NoPlace" = some (.ref Z.a_NoPlace)
  k_Beneath : mg "Beneath" = some (.ref Z.a_Beneath)
  k_BadHistory : mg "BadHistory" = some (.ref Z.a_BadHistory)
  k_Tree : mg "Tree" = some (.ref Z.a_Tree)
  k_History : mg "History" = some (.ref Z.a_History)
  c_MOST_BLOCKS : mg "MOST_BLOCKS" = some (.int 40 Z.t_MOST_BLOCKS)
  c_MOST_MOVES : mg "MOST_MOVES" = some (.int 100 Z.t_MOST_MOVES)
end Fv
set_option maxRecDepth 100000
set_option maxHeartbeats 1000000
namespace Fv
open PySem PySem.Spec L2
local macro_rules | `(tactic| walk_at "ne") => `(tactic| first
  | assumption
  | (apply Ne.symm; assumption)
  | exact ne_of_none (by assumption) (by assumption)
  | (apply Ne.symm; exact ne_of_none (by assumption) (by assumption))
  | exact ne_none' (by assumption) (by walk_at "hu")
  | (apply Ne.symm; exact ne_none' (by assumption) (by walk_at "hu")))
local macro_rules | `(tactic| walk_at "hu") => `(tactic| first
  | with_reducible assumption
  | with_reducible exact upd_same
  | ((with_reducible show upd _ _ _ _ = some _); first | with_reducible exact upd_same | (with_reducible exact keepN (by walk_at "hu") (by assumption)) | (with_reducible exact keepM (by walk_at "ne") (by walk_at "hu"))))
local macro_rules | `(tactic| walk_at "hl") => `(tactic| first
  | with_reducible assumption
  | with_reducible exact SqL.of (by assumption)
  | ((with_reducible show SqL _ (upd _ _ _) _ _); first
    | with_reducible exact SqL.of upd_same
    | with_reducible exact keepLN (by walk_at "hl") (by assumption)
    | with_reducible exact keepLM (by walk_at "ne") (by walk_at "hl"))
  | with_reducible exact Same.seq (by assumption) (by walk_at "hl")
  | with_reducible exact But.seq (by assumption) (by walk_at "ne") (by walk_at "hl"))
local macro_rules | `(tactic| walk_at "ht") => `(tactic| first
  | with_reducible assumption
  | with_reducible exact SqT.of (by assumption)
  | ((with_reducible show SqT _ (upd _ _ _) _ _); first
    | with_reducible exact SqT.of upd_same
    | with_reducible exact keepTN (by walk_at "ht") (by assumption)
    | with_reducible exact keepTM (by walk_at "ne") (by walk_at "ht"))
  | with_reducible exact Same.seqT (by assumption) (by walk_at "ht")
  | with_reducible exact But.seqT (by assumption) (by walk_at "ne") (by walk_at "ht"))
local macro_rules | `(tactic| walk_at "sm") => `(tactic| first
  | with_reducible assumption
  | with_reducible exact Same.refl _
  | ((with_reducible show Same _ (upd _ _ _)); first
    | with_reducible exact same_new (by walk_at "sm") (by assumption)
    | with_reducible exact same_mut (by walk_at "sm") (by assumption))
  | ((with_reducible refine same_trans (by assumption) ?_); walk_at "sm"))
local macro_rules | `(tactic| walk_at "bt") => `(tactic| first
  | with_reducible assumption
  | with_reducible exact But.refl _ _
  | with_reducible exact But.of (by assumption)
  | ((with_reducible show But _ _ (upd _ _ _)); first
    | ((with_reducible refine But.mut ?_); walk_at "bt")
    | with_reducible exact But.new (by walk_at "bt") (by assumption)
    | with_reducible exact But.mutF (by walk_at "bt") (by assumption))
  | ((with_reducible refine but_trans (by assumption) ?_); walk_at "bt")
  | ((with_reducible refine but_trans (But.of (by assumption)) ?_); walk_at "bt"))
local macro_rules | `(tactic| walk_at "kn") => `(tactic| first
  | with_reducible assumption
  | exact True.intro
  | with_reducible exact Kn.same (by assumption) (by walk_at "kn")
  | with_reducible exact Kn.same (same_new (Same.refl _) (by assumption)) (by walk_at "kn"))
local macro_rules | `(tactic| walk_at "h1") => `(tactic| first
  | with_reducible refine x_seq ?_
  | with_reducible refine x_next ?_
  | with_reducible refine x_drop ?_
  | with_reducible refine x_ret ?_
  | with_reducible refine x_retN ?_
  | with_reducible refine x_ifs ?_
  | with_reducible refine x_asg ?_
  | with_reducible refine x_gname ?_
  | with_reducible refine x_gsub ?_
  | ((with_reducible show tVar _ _ _ _); with_reducible refine x_var (by with_unfolding_all rfl) ?_)
  | with_reducible refine x_c ?_
  | with_reducible refine x_op ?_
  | with_reducible refine x_un ?_
  | with_reducible refine x_i0 ?_
  | ((with_reducible show rI _ _ (V.int _) (V.int _) _ _); with_reducible refine x_i (by with_unfolding_all (first | assumption | decide | (show (0 : Int) < _; first | assumption | decide | omega) | exact ⟨by first | assumption | decide | omega, by first | assumption | decide | omega⟩ | exact Or.inl ⟨by first | decide | omega, by first | decide | omega⟩ | exact Or.inr ⟨by first | decide | omega, by first | decide | omega⟩)) ?_)
  | with_reducible refine x_u ?_
  | with_reducible refine x_isN0 ?_
  | with_reducible refine x_isN1 ?_
  | with_reducible refine x_isN2 ?_
  | with_reducible refine x_isN3 ?_
  | with_reducible refine x_isN4 ?_
  | with_reducible refine x_notN0 ?_
  | with_reducible refine x_notN1 ?_
  | with_reducible refine x_notN2 ?_
  | with_reducible refine x_notN3 ?_
  | with_reducible refine x_notN4 ?_
  | with_reducible refine x_eqB ?_
  | with_reducible refine x_neB ?_
  | with_reducible refine x_eqS ?_
  | with_reducible refine x_eqI ?_
  | with_reducible refine x_neI ?_
  | ((with_reducible show rEq _ _ _ _); with_reducible refine x_eq (by with_unfolding_all rfl) ?_)
  | ((with_reducible show rNe _ _ _ _); with_reducible refine x_ne (by with_unfolding_all rfl) ?_)
  | ((with_reducible show rIxL _ (V.ref _) (V.int _) _ _); with_reducible refine x_ixL (by walk_at "hl") (by first | assumption | with_unfolding_all exact atI_nat (j := 0) rfl | with_unfolding_all exact atI_nat (j := 1) rfl | with_unfolding_all rfl) ?_)
  | ((with_reducible show rIxT _ (V.ref _) (V.int _) _ _); with_reducible refine x_ixT (by walk_at "ht") (by first | assumption | with_unfolding_all exact atI_nat (j := 0) rfl | with_unfolding_all exact atI_nat (j := 1) rfl | with_unfolding_all rfl) ?_)
  | ((with_reducible show rIx _ (V.ref _) (V.int _) _ _); first
    | with_reducible refine x_ixSL (by walk_at "hl") (by first | assumption | with_unfolding_all exact atI_nat (j := 0) rfl | with_unfolding_all exact atI_nat (j := 1) rfl | with_unfolding_all rfl) ?_
    | with_reducible refine x_ixST (by walk_at "ht") (by first | assumption | with_unfolding_all exact atI_nat (j := 0) rfl | with_unfolding_all exact atI_nat (j := 1) rfl | with_unfolding_all rfl) ?_)
  | ((with_reducible show rSetL (V.ref _) (V.int _) _ _ _); with_reducible refine x_setL (by walk_at "hu") (by first | assumption | with_unfolding_all rfl) ?_)
  | with_reducible refine x_test ?_
  | with_reducible refine x_b ?_
  | with_reducible refine x_isb ?_
  | ((with_reducible show if decide _ = true then _ else _); with_reducible refine x_isdT (by first | with_unfolding_all rfl | with_unfolding_all decide) ?_)
  | ((with_reducible show if decide _ = true then _ else _); with_reducible refine x_isdF (by with_unfolding_all decide) ?_)
  | with_reducible refine x_isi ?_
  | with_reducible refine x_and ?_
  | with_reducible refine x_or ?_
  | with_reducible refine x_not ?_
  | with_reducible refine x_andV ?_
  | with_reducible refine x_orV ?_
  | with_reducible refine x_notV ?_
  | with_reducible refine x_ifx ?_
  | with_reducible refine x_nil ?_
  | with_reducible refine x_cons ?_
  | with_reducible refine x_cb ?_
  | with_reducible refine x_call ?_
  | with_reducible refine x_lst ?_
  | with_reducible refine x_tup ?_
  | with_reducible refine x_sl ?_
  | with_reducible refine x_nopart ?_
  | with_reducible refine x_part ?_
  | ((with_reducible show rSlL _ (V.ref _) _ _ _ _); with_reducible refine x_slL (by walk_at "hl") ?_)
  | with_reducible refine x_listRg1 ?_
  | with_reducible refine x_listRg2 ?_
  | with_reducible refine x_tupRg1 ?_
  | with_reducible refine x_ij ?_
  | ((with_reducible show tyV _ "list" (V.ref _) _ ∧ _); with_reducible refine x_tyL (by walk_at "hl") ?_)
  | with_reducible refine x_bm ?_
  | with_reducible refine x_bm0 ?_
  | with_reducible refine x_fldQ ?_
  | with_reducible refine x_par ?_
  | with_reducible refine x_par2 ?_
  | with_reducible refine x_chain ?_
  | ((with_reducible show tAug _ _ _ _ _ _); with_reducible refine x_aug (by with_unfolding_all rfl) ?_)
  | with_reducible refine x_ipI ?_
  | with_reducible refine x_for ?_
  | with_reducible refine x_while ?_
  | with_reducible refine x_ent ?_
  | with_reducible refine x_enl ?_
  | with_reducible refine x_isBk ?_
  | with_reducible refine x_notBk ?_
  | with_reducible refine x_mko ?_
  | with_reducible refine x_sfld ?_
  | with_reducible refine x_ost ?_
  | ((with_reducible show gTup _ _ _ (V.ref _) _ _ _); with_reducible refine x_gtup (by walk_at "ht") (by with_unfolding_all rfl) ?_)
  | with_reducible refine x_gcons ?_
  | with_reducible refine x_gnil ?_
  | with_reducible refine x_lc ?_
  | with_reducible refine x_lc2 ?_
  | with_reducible refine x_ilist ?_
  | with_reducible refine x_itup ?_
  | with_reducible refine x_rng1 ?_
  | with_reducible refine x_rng2v ?_
  | with_reducible refine x_irngV ?_
  | with_reducible refine x_star ?_
  | with_reducible refine x_rng2 ?_
  | with_reducible refine x_yes ?_
  | ((with_reducible show rLen _ [V.ref _] _ _); with_reducible refine x_lenL (by walk_at "hl") ?_)
  | ((with_reducible show rLen _ [V.ref _] _ _); with_reducible refine x_lenT (by walk_at "ht") ?_)
  | ((with_reducible show rListOf _ [V.ref _] _ _); with_reducible refine x_listL (by walk_at "hl") ?_)
  | ((with_reducible show rListOf _ [V.ref _] _ _); with_reducible refine x_listT (by walk_at "ht") ?_)
  | ((with_reducible show rTupOf _ [V.ref _] _ _); with_reducible refine x_tupL (by walk_at "hl") ?_)
  | ((with_reducible show rTupOf _ [V.ref _] _ _); with_reducible refine x_tupT (by walk_at "ht") ?_)
  | ((with_reducible show List.length _ ≤ sizeLine ∧ _); with_reducible refine And.intro (szLe (by with_unfolding_all (simp only [List.length_cons, List.length_nil]; decide))) ?_)
  | with_reducible refine x_int1 ?_
  | with_reducible refine x_abs ?_
  | with_reducible refine isi_non_int ?_
  | with_reducible refine isi_bl_int ?_
  | with_reducible refine isi_int_int ?_
  | with_reducible refine isi_str_int ?_
  | ((with_reducible show rIsi _ [V.ref _, V.ty "int"] _ _); first | with_reducible refine isi_lst_int (by walk_at "hu") ?_ | with_reducible refine isi_tup_int (by walk_at "hu") ?_ | with_reducible refine isi_dK_int (by walk_at "hu") ?_)
  | with_reducible refine isi_non_bool ?_
  | with_reducible refine isi_bl_bool ?_
  | with_reducible refine isi_int_bool ?_
  | with_reducible refine isi_str_bool ?_
  | ((with_reducible show rIsi _ [V.ref _, V.ty "bool"] _ _); first | with_reducible refine isi_lst_bool (by walk_at "hu") ?_ | with_reducible refine isi_tup_bool (by walk_at "hu") ?_ | with_reducible refine isi_dK_bool (by walk_at "hu") ?_)
  | with_reducible refine isi_non_tuple ?_
  | with_reducible refine isi_bl_tuple ?_
  | with_reducible refine isi_int_tuple ?_
  | with_reducible refine isi_str_tuple ?_
  | ((with_reducible show rIsi _ [V.ref _, V.ty "tuple"] _ _); first | with_reducible refine isi_lst_tuple (by walk_at "hu") ?_ | with_reducible refine isi_tup_tuple (by walk_at "hu") ?_ | with_reducible refine isi_dK_tuple (by walk_at "hu") ?_)
  | with_reducible refine isi_non_list ?_
  | with_reducible refine isi_bl_list ?_
  | with_reducible refine isi_int_list ?_
  | with_reducible refine isi_str_list ?_
  | ((with_reducible show rIsi _ [V.ref _, V.ty "list"] _ _); first | with_reducible refine isi_lst_list (by walk_at "hu") ?_ | with_reducible refine isi_tup_list (by walk_at "hu") ?_ | with_reducible refine isi_dK_list (by walk_at "hu") ?_)
  | with_reducible refine isi_non_dict ?_
  | with_reducible refine isi_bl_dict ?_
  | with_reducible refine isi_int_dict ?_
  | with_reducible refine isi_str_dict ?_
  | ((with_reducible show rIsi _ [V.ref _, V.ty "dict"] _ _); first | with_reducible refine isi_lst_dict (by walk_at "hu") ?_ | with_reducible refine isi_tup_dict (by walk_at "hu") ?_ | with_reducible refine isi_dK_dict (by walk_at "hu") ?_)
  | with_reducible refine isi_non_str ?_
  | with_reducible refine isi_bl_str ?_
  | with_reducible refine isi_int_str ?_
  | with_reducible refine isi_str_str ?_
  | ((with_reducible show rIsi _ [V.ref _, V.ty "str"] _ _); first | with_reducible refine isi_lst_str (by walk_at "hu") ?_ | with_reducible refine isi_tup_str (by walk_at "hu") ?_ | with_reducible refine isi_dK_str (by walk_at "hu") ?_)
  | ((with_reducible show rIsi _ [_, V.ty "int"] _ _); with_reducible refine x_isInt (by walk_at "kn") ?_)
  | ((with_reducible show rIsi _ [_, V.ty "bool"] _ _); with_reducible refine x_isBl (by walk_at "kn") ?_)
  | with_reducible refine x_nF ?_
  | with_reducible refine x_nT ?_
  | with_reducible refine iteT ?_
  | with_reducible refine iteF ?_)
local macro_rules | `(tactic| walk_at "hs") => `(tactic| repeat (walk_at "h1"; try dsimp only [Bool.not_true, Bool.not_false]))
local macro_rules | `(tactic| walk_at "h0") => `(tactic| ((try dsimp only [cxOf, L2.start, List.map_cons, List.map_nil, List.length_cons, List.length_nil, List.replicate, List.cons_append, List.nil_append, Nat.reduceAdd, Nat.reduceSub]); walk_at "hs"))

theorem sc__law_draw : FnScope ["_law_hand_here", "_law_many", "_law_cell", "_law_digit", "_law_number"] ["_law_hand_here", "_law_many"] (defScope s__law_draw) := ⟨rfl, rfl, rfl, by decide +kernel, rfl, by decide +kernel, by decide +kernel⟩
/-- the hand at p: its list, where it is read, what is left of a great number, the mix, how often it was turned; F: what others own, and it does not -/
def PoolAt (H : Hp) (p : Addr) (F : Addr → Prop) : Prop := (∃ (g : Addr) (gs : List Int) (i c m n : Int), H p = some (.lst [.ref g, .int i, .int c, .int m, .int n]) ∧ H g = some (.lst (gs.map V.int)) ∧ 0 ≤ i ∧ g ≠ p ∧ ¬ F g ∧ ¬ F p) ∧ ∀ a, F a → ∃ o, H a = some o
def spDraw : Sp := fun vs H Q _ => ∃ (p : Addr) (m : Int) (F : Addr → Prop), vs = [.ref p, .int m] ∧ PoolAt H p F ∧ 0 < m ∧ m < 1073741824 ∧ ∀ (d : Int) H', 0 ≤ d → d < m → But p H H' → PoolAt H' p F → Q (.int d) H'
theorem prot {H H' : Hp} {p : Addr} {F : Addr → Prop} (b : But p H H') (h : ∀ a, F a → ∃ o, H a = some o) (n : ¬ F p) : ∀ a, F a → ∃ o, H' a = some o := fun a ha => by
  obtain ⟨o, e⟩ := h a ha
  exact ⟨o, b a o (fun z => n (z ▸ ha)) e⟩
section
variable {P : Program} {w : World} {K : PySem.W.Frag} {mg : Str → Option Value} {base : Heap} {Z : Ad}
theorem ok_draw {f : Addr} {fd : FuncData} (F : Fun K "_law_draw" "_law_draw" s__law_draw f fd) (B : Bl Z mg) : FnOk P w K mg base CX0 1 f fd ["_law_hand_here", "_law_many"] spDraw := by
  refine F.ok sc__law_draw (fun vs H Q E h => ?_) (fun cdv A outer s H vs Q E hr h => ?_)
  · obtain ⟨p, m, F, rfl, _⟩ := h
    rfl
  · obtain ⟨p, m, Fo, rfl, ⟨⟨g, gs, i, c, x, n, hp, hg, i0, ng, fg, fp⟩, hF⟩, m0, m1, q⟩ := h
    refine ⟨_, (C8.pss_cut (ps_if (PW.pt (pw_and (pt_cmpR op_eq (pe_ix (ix_listK (K := K) rfl) (pv 0) pe_int (fun _ _ => rfl)) pe_int (nomark _)) (pw_and1 (pt_cmpR op_lt (pe_ix (ix_listK (K := K) rfl) (pv 0) pe_int (fun _ _ => rfl)) (pe_callB (call_lenK (K := K) rfl) (by rfl) B.b_len PySem.boot_len (pa_cons (pe_ix (ix_listK (K := K) rfl) (pv 0) pe_int (fun _ _ => rfl)) pa_nil)) (nomark _))))) (pss_cons (ps_set (i := 2) sc__law_draw.nd rfl (Or.inl rfl) (pe_ix (ix_listK (K := K) rfl) (pe_ix (ix_listK (K := K) rfl) (pv 0) pe_int (fun _ _ => rfl)) (pe_ix (ix_listK (K := K) rfl) (pv 0) pe_int (fun _ _ => rfl)) (fun _ _ => rfl)))
 (pss_cons (ps_asg (pe_op op_add (pe_ix (ix_listK (K := K) rfl) (pv 0) pe_int (fun _ _ => rfl)) pe_int) (pg_sub (pv 0) pe_int set_list))
 (pss_cons (ps_asg (pe_op op_mod (pe_callTy call_int (by rfl) B.b_int (by decide +kernel) (pa_cons (pe_op op_add (pe_op op_add (pe_op op_mul (pe_ix (ix_listK (K := K) rfl) (pv 0) pe_int (fun _ _ => rfl)) pe_int) (pv 2)) pe_int) pa_nil)) pe_int) (pg_sub (pv 0) pe_int set_list))
 (pss_one (ps_if (pt_cmpR op_ge (pv 2) (pe_op op_pow pe_int pe_int) (nomark _)) (pss_one (ps_asg (pv 2) (pg_sub (pv 0) pe_int set_list))) pss_nil))))) pss_nil)
 (pss_cons (ps_if (pt_cmpR op_gt (pe_ix (ix_listK (K := K) rfl) (pv 0) pe_int (fun _ _ => rfl)) pe_int (nomark _)) (pss_cons (ps_set (i := 3) sc__law_draw.nd rfl (Or.inl rfl) (pe_op op_mod (pe_callTy call_int (by rfl) B.b_int (by decide +kernel) (pa_cons (pe_ix (ix_listK (K := K) rfl) (pv 0) pe_int (fun _ _ => rfl)) pa_nil)) (pv 1)))
 (pss_cons (ps_asg (pe_op op_fdiv (pe_ix (ix_listK (K := K) rfl) (pv 0) pe_int (fun _ _ => rfl)) (pv 1)) (pg_sub (pv 0) pe_int set_list))
 (pss_one (ps_ret (pv 3))))) pss_nil)
 (pss_cons (ps_asg (pe_op op_add (pe_ix (ix_listK (K := K) rfl) (pv 0) pe_int (fun _ _ => rfl)) pe_int) (pg_sub (pv 0) pe_int set_list))
 (pss_cons (ps_set (i := 4) sc__law_draw.nd rfl (Or.inl rfl) (pe_op op_mod (pe_callTy call_int (by rfl) B.b_int (by decide +kernel) (pa_cons (pe_op op_mul (pe_callTy call_int (by rfl) B.b_int (by decide +kernel) (pa_cons (pe_op op_add (pe_ix (ix_listK (K := K) rfl) (pv 0) pe_int (fun _ _ => rfl)) (pe_op op_mul pe_int (pe_ix (ix_listK (K := K) rfl) (pv 0) pe_int (fun _ _ => rfl)))) pa_nil)) pe_int) pa_nil)) pe_int))
 (pss_cons (ps_set (i := 4) sc__law_draw.nd rfl (Or.inl rfl) (pe_op op_mod (pe_callTy call_int (by rfl) B.b_int (by decide +kernel) (pa_cons (pe_op op_mul (pv 4) (pe_op op_add (pe_op op_fdiv (pv 4) pe_int) pe_int)) pa_nil)) pe_int))
 (pss_cons (ps_set (i := 4) sc__law_draw.nd rfl (Or.inl rfl) (pe_op op_mod (pe_callTy call_int (by rfl) B.b_int (by decide +kernel) (pa_cons (pe_op op_mul (pv 4) (pe_op op_add (pe_op op_fdiv (pv 4) pe_int) pe_int)) pa_nil)) pe_int))
 (pss_one (ps_ret (pe_op op_mod (pe_callTy call_int (by rfl) B.b_int (by decide +kernel) (pa_cons (pe_op op_fdiv (pv 4) pe_int) pa_nil)) (pv 1)))))))))), ?_⟩
    walk_at "h0"
    refine ⟨fun σ' H' => (∃ z, σ' = [some (.ref p), some (.int m), z, none, none]) ∧ But p H H' ∧ PoolAt H' p Fo, ?_, ?_⟩
    · walk_at "hs"
      refine x_isd (fun c1 => ?_) (fun c1 => ?_)
      · walk_at "hs"
        refine x_isd (fun c2 => ?_) (fun c2 => ?_)
        · obtain ⟨k, rfl⟩ := Int.eq_ofNat_of_zero_le i0
          have hk : k < gs.length := by
            rw [List.length_map] at c2
            omega
          have ag : atI (gs.map V.int) (k : Int) = some (.int gs[k]) := atI_nat (by rw [List.getElem?_map, List.getElem?_eq_getElem hk]; rfl)
          walk_at "hs"
          refine x_isd (fun c3 => ?_) (fun c3 => ?_)
          · walk_at "hs"
            exact ⟨⟨_, rfl⟩, by walk_at "bt", ⟨g, gs, _, _, _, n, upd_same, by walk_at "hu", by omega, ng, fg, fp⟩, prot (by walk_at "bt") hF fp⟩
          · walk_at "hs"
            exact ⟨⟨_, rfl⟩, by walk_at "bt", ⟨g, gs, _, _, _, n, upd_same, by walk_at "hu", by omega, ng, fg, fp⟩, prot (by walk_at "bt") hF fp⟩
        · walk_at "hs"
          exact ⟨⟨_, rfl⟩, But.refl _ _, ⟨g, gs, i, c, x, n, hp, hg, i0, ng, fg, fp⟩, hF⟩
      · walk_at "hs"
        exact ⟨⟨_, rfl⟩, But.refl _ _, ⟨g, gs, i, c, x, n, hp, hg, i0, ng, fg, fp⟩, hF⟩
    · rintro σ' H1 ⟨⟨z, rfl⟩, b1, ⟨g, gs, i, c, x, n, hp, hg, i0, ng, fg, fp⟩, hF⟩
      walk_at "hs"
      refine x_isd (fun c1 => ?_) (fun c1 => ?_)
      · walk_at "hs"
        exact q _ _ (Int.emod_nonneg _ (by omega)) (Int.emod_lt_of_pos _ m0) (by walk_at "bt") ⟨⟨g, gs, _, _, _, n, upd_same, by walk_at "hu", i0, ng, fg, fp⟩, prot (But.mut (But.refl _ _)) hF fp⟩
      · walk_at "hs"
        exact q _ _ (Int.emod_nonneg _ (by omega)) (Int.emod_lt_of_pos _ m0) (by walk_at "bt") ⟨⟨g, gs, _, _, _, _, upd_same, by walk_at "hu", i0, ng, fg, fp⟩, prot (But.mut (But.refl _ _)) hF fp⟩
end
set_option maxRecDepth 100000
set_option maxHeartbeats 1000000
open PySem PySem.Spec L2


theorem sc__law_hand : FnScope ["_law_script", "_law_cells", "_law_cell"] ["_law_script"] (defScope s__law_hand) := ⟨rfl, rfl, rfl, by decide +kernel, rfl, by decide +kernel, by decide +kernel⟩
section
variable {P : Program} {w : World} {K : PySem.W.Frag} {mg : Str → Option Value} {base : Heap} {Z : Ad}

theorem PoolAt.same {H H' : Hp} {p : Addr} {F : Addr → Prop} (s : Same H H') (h : PoolAt H p F) : PoolAt H' p F := by
  obtain ⟨⟨g, gs, i, c, x, n, hp, hg, r⟩, hF⟩ := h
  exact ⟨⟨g, gs, i, c, x, n, s _ _ hp, s _ _ hg, r⟩, fun a ha => by
    obtain ⟨o, e⟩ := hF a ha
    exact ⟨o, s _ _ e⟩⟩
theorem PoolAt.ne {H : Hp} {p q : Addr} {F : Addr → Prop} (h : PoolAt H p F) (hq : H q = none) : q ≠ p := by
  obtain ⟨⟨g, gs, i, c, x, n, hp, _⟩, _⟩ := h
  exact ne_none' hq hp
theorem PoolAt.neF {H : Hp} {p q : Addr} {F : Addr → Prop} (h : PoolAt H p F) (hq : F q) : q ≠ p := by
  obtain ⟨⟨g, gs, i, c, x, n, hp, hg, i0, ng, fg, fp⟩, _⟩ := h
  exact fun e => fp (e ▸ hq)
theorem PoolAt.newH {H : Hp} {p q : Addr} {o : HO} {F : Addr → Prop} (h : PoolAt H p F) (hq : H q = none) : PoolAt (upd H q o) p F := h.same (same_new (Same.refl H) hq)
/-- a new object, owned by another -/
theorem PoolAt.own {H : Hp} {p q : Addr} {o : HO} {F : Addr → Prop} (h : PoolAt H p F) (hq : H q = none) : PoolAt (upd H q o) p (fun a => a = q ∨ F a) := by
  obtain ⟨⟨g, gs, i, c, x, n, hp, hg, i0, ng, fg, fp⟩, hF⟩ := h
  refine ⟨⟨g, gs, i, c, x, n, keepN hp hq, keepN hg hq, i0, ng, fun e => ?_, fun e => ?_⟩, fun a ha => ?_⟩
  · exact e.elim (ne_of_none hg hq) fg
  · exact e.elim (ne_of_none hp hq) fp
  · rcases ha with rfl | ha
    · exact ⟨o, upd_same⟩
    · obtain ⟨u, e⟩ := hF a ha
      exact ⟨u, keepN e hq⟩
theorem PoolAt.mut {H : Hp} {p q : Addr} {o : HO} {F : Addr → Prop} (h : PoolAt H p F) (hq : F q) : PoolAt (upd H q o) p F := by
  obtain ⟨⟨g, gs, i, c, x, n, hp, hg, i0, ng, fg, fp⟩, hF⟩ := h
  refine ⟨⟨g, gs, i, c, x, n, keepM (fun e => fp (e ▸ hq)) hp, keepM (fun e => fg (e ▸ hq)) hg, i0, ng, fg, fp⟩, fun a ha => ?_⟩
  by_cases e : a = q
  · exact ⟨o, by rw [e, upd_same]⟩
  · obtain ⟨u, hu⟩ := hF a ha
    exact ⟨u, keepM e hu⟩
theorem PoolAt.weak {H : Hp} {p : Addr} {F G : Addr → Prop} (h : PoolAt H p F) (w : ∀ a, G a → F a) : PoolAt H p G := by
  obtain ⟨⟨g, gs, i, c, x, n, hp, hg, i0, ng, fg, fp⟩, hF⟩ := h
  exact ⟨⟨g, gs, i, c, x, n, hp, hg, i0, ng, fun e => fg (w _ e), fun e => fp (w _ e)⟩, fun a ha => hF a (w a ha)⟩
def spPool (K : PySem.W.Frag) : Sp := fun vs H Q _ => ∃ (a : Addr) (ns : List Int), vs = [.ref a] ∧ SqL K H a (ns.map V.int) ∧ ns.length ≤ 63 ∧ ∀ p H', Same H H' → H p = none → PoolAt H' p (fun _ => False) → Q (.ref p) H'
theorem ok_hand {f : Addr} {fd : FuncData} (F : Fun K "_law_hand" "_law_hand" s__law_hand f fd) (B : Bl Z mg) : FnOk P w K mg base CX0 1 f fd ["_law_script"] (spPool K) := by
  refine F.ok sc__law_hand (fun vs H Q E h => ?_) (fun cdv A outer s H vs Q E hr h => ?_)
  · obtain ⟨a, ns, rfl, _⟩ := h
    rfl
  · obtain ⟨a, ns, rfl, hS, hl, q⟩ := h
    refine ⟨_, (pss_cons (ps_setLc (i := 1) (own := [("_law_cell", 2)]) rfl sc__law_hand.nd rfl rfl (sw_true rfl rfl rfl (by decide +kernel)) (pi_list (pe_slice (sl_listK (K := K) rfl) (pv 0) po_none (po_some pe_int))) (blkOk_by (N := ["_law_script", "_law_cells", "_law_cell"]) (sc := defScope s__law_hand) (by decide +kernel)) (fun _ _ _ _ _ => (pg_name (i := 2) sc__law_hand.nd rfl (Or.inl rfl))) (fun _ _ _ _ _ => pts_nil) (fun _ _ _ _ _ => (pe_callB call_ab (by rfl) B.b_abs (by decide +kernel) (pa_cons (pe_callTy call_int (by rfl) B.b_int (by decide +kernel) (pa_cons (pv 2) pa_nil)) pa_nil))))
 (pss_one (ps_ret (pe_lst (pa_cons (pv 1) (pa_cons pe_int (pa_cons pe_int (pa_cons (pe_op op_add pe_int (pe_callB (call_lenK (K := K) rfl) (by rfl) B.b_len PySem.boot_len (pa_cons (pv 1) pa_nil))) (pa_cons pe_int pa_nil))))))))), ?_⟩
    walk_at "h0"
    intro c hc
    refine ⟨c, rfl, ⟨_, SqL.of upd_same⟩, fun D hD => ?_⟩
    have hcD : D ≠ c := by walk_at "ne"
    have nD : H D = none := Same.free (H' := upd H c _) (same_new (Same.refl _) hc) hD
    have hsz : (cutV (ns.map V.int) none (some 63)).length ≤ 63 := Nat.le_trans (cutV_length _ _ _) (by rw [List.length_map]; exact hl)
    have hints : ∀ x ∈ cutV (ns.map V.int) none (some 63), ∃ n : Int, x = .int n := fun x hx => by
      obtain ⟨n, _, rfl⟩ := List.mem_map.mp (List.mem_of_mem_drop (List.mem_of_mem_take hx))
      exact ⟨n, rfl⟩
    refine lc_list (K := K) (a := c) (xs := cutV (ns.map V.int) none (some 63)) (fun i H' => ∃ g : List Int, g.length ≤ i ∧ Same H H' ∧ H' c = some (.lst (cutV (ns.map V.int) none (some 63))) ∧ H' D = some (.lst (g.map V.int)))
      ⟨[], Nat.le_refl _, by walk_at "sm", by walk_at "hu", upd_same⟩ (fun i H' _ ⟨_, _, _, e, _⟩ => SqL.of e) ?_ ?_
    · rintro i x H' hx ⟨g, hg, s', ec, eD⟩
      obtain ⟨n, rfl⟩ := hints x (List.mem_of_getElem? hx)
      walk_at "hs"
      refine ⟨rfl, ?_⟩
      walk_at "hs"
      refine ⟨_, eD, szLt (by rw [List.length_map]; have := (List.getElem?_eq_some_iff.mp hx).1; omega), g ++ [if n < 0 then -n else n], by rw [List.length_append]; exact Nat.add_le_add_right hg 1, by walk_at "sm", by walk_at "hu", ?_⟩
      rw [upd_same, List.map_append]
      rfl
    · rintro H1 ⟨g, hg, s1, ec, eD⟩
      walk_at "hs"
      intro p hp
      exact q p _ (by walk_at "sm") (s1.free hp) ⟨⟨D, g, _, _, _, _, upd_same, by walk_at "hu", by decide, by walk_at "ne", fun e => e, fun e => e⟩, fun a e => e.elim⟩
def spAny (K : PySem.W.Frag) : Sp := fun vs H Q _ => ∃ (p t : Addr) (xs : List V) (F : Addr → Prop), vs = [.ref p, .ref t] ∧ PoolAt H p F ∧ SqL K H t xs ∧ t ≠ p ∧ 0 < xs.length ∧ xs.length ≤ 1000 ∧ ∀ x H', x ∈ xs → But p H H' → PoolAt H' p F → Q x H'
abbrev spPick (K : PySem.W.Frag) : Sp := spAny K
end
set_option maxRecDepth 100000
set_option maxHeartbeats 1000000
open PySem PySem.Spec L2


theorem sc_is_within : FnScope ["least", "most", "thing"] ["least", "most", "thing"] (defScope s_is_within) := ⟨rfl, rfl, rfl, by decide +kernel, rfl, by decide +kernel, by decide +kernel⟩
section
variable {P : Program} {w : World} {K : PySem.W.Frag} {mg : Str → Option Value} {base : Heap} {Z : Ad}

def spNum (hi : Nat) : Sp := fun vs H Q _ => ∃ (x : V) (lo hi : Int), vs = [x, .int lo, .int hi] ∧ Kn H x ∧ Q (.bl (numV lo hi x)) H
def spWithin : Sp := fun vs H Q _ => ∃ (x : V) (lo hi : Int), vs = [.int lo, .int hi, x] ∧ Kn H x ∧ Q (.bl (numV lo hi x)) H
theorem ok_within {f : Addr} {fd : FuncData} (F : Fun K "is_within" "is_within" s_is_within f fd) (B : Bl Z mg) : FnOk P w K mg base CX0 1 f fd ["least", "most", "thing"] spWithin := by
  refine F.ok sc_is_within (fun vs H Q E h => ?_) (fun cdv A outer s H vs Q E hr h => ?_)
  · obtain ⟨x, lo, hi, rfl, _⟩ := h
    rfl
  · obtain ⟨x, lo, hi, rfl, hk, q⟩ := h
    refine ⟨_, (pss_cons (ps_if (PW.pt (pw_or (pt_not (pt_val (pe_callB (call_isiK' (K := K) rfl) (by rfl) B.b_isinstance (by decide +kernel) (pa_cons (pv 2) (pa_cons (pe_bltn (v := .ty "int") (by rfl) B.b_int (by decide +kernel) rfl) pa_nil))))) (pw_or1 (pt_val (pe_callB (call_isiK' (K := K) rfl) (by rfl) B.b_isinstance (by decide +kernel) (pa_cons (pv 2) (pa_cons (pe_bltn (v := .ty "bool") (by rfl) B.b_bool (by decide +kernel) rfl) pa_nil))))))) (pss_one (ps_ret pe_bl)) pss_nil)
 (pss_one (ps_ret (pe_chain op_le op_le (pv 0) (pv 2) (pv 1))))), ?_⟩
    walk_at "h0"
    cases x with
    | bl b =>
      walk_at "hs"
      refine iteF ?_
      walk_at "hs"
      exact q
    | int i =>
      refine iteF ?_
      walk_at "hs"
      refine x_isd (fun c => ?_) (fun c => ?_)
      · walk_at "hs"
        have e : numV lo hi (.int i) = decide (i ≤ hi) := numT c
        rw [← e]
        exact q
      · have e : numV lo hi (.int i) = false := numF c
        rw [e] at q
        exact q
    | non => exact iteT (iteT q)
    | str s => exact iteT (iteT q)
    | ref a => exact iteT (iteT q)
    | _ => exact hk.elim
end
set_option maxRecDepth 100000
set_option maxHeartbeats 1000000
open PySem PySem.Spec L2


section
variable {P : Program} {w : World} {K : PySem.W.Frag} {mg : Str → Option Value} {base : Heap} {Z : Ad}
def spMixed (K : PySem.W.Frag) : Sp := fun vs H Q _ => ∃ (p t : Addr) (n : Nat) (F : Addr → Prop), vs = [.ref p, .ref t] ∧ PoolAt H p F ∧ SqL K H t (nats (List.range' 1 n)) ∧ t ≠ p ∧ 1 ≤ n ∧ n ≤ 40 ∧ ∀ (D : Addr) (ms : List Nat) H', ms.Perm (List.range' 1 n) → But p H H' → PoolAt H' p F → H D = none → H' D = some (.lst (nats ms)) → Q (.ref D) H'
def spHung : Sp := fun vs H Q _ => ∃ (p : Addr) (n : Nat) (F : Addr → Prop), vs = [.ref p, .int n] ∧ PoolAt H p F ∧ 1 ≤ n ∧ n ≤ 40 ∧ ∀ (D : Addr) (hs : List Nat) H', IsTree hs → hs.length = n → But p H H' → PoolAt H' p F → H D = none → H' D = some (.tup (nats hs)) → Q (.ref D) H'
end
set_option maxRecDepth 100000
set_option maxHeartbeats 1000000
open PySem PySem.Spec L2


theorem sc__comes_to_head : FnScope ["hung", "block", "place", "steps"] ["hung", "block"] (defScope s__comes_to_head) := ⟨rfl, rfl, rfl, by decide +kernel, rfl, by decide +kernel, by decide +kernel⟩
section
variable {P : Program} {w : World} {K : PySem.W.Frag} {mg : Str → Option Value} {base : Heap} {Z : Ad}

def spComes (K : PySem.W.Frag) : Sp := fun vs H Q _ => ∃ (t : Addr) (hs : List Nat) (k : Nat), vs = [.ref t, .int k] ∧ SqT K H t (nats hs) ∧ (∀ x ∈ hs, x ≤ hs.length) ∧ k ≤ hs.length ∧ Q (.bl (decide (upN hs hs.length k = 0))) H
theorem ok_comes {f : Addr} {fd : FuncData} (F : Fun K "_comes_to_head" "_comes_to_head" s__comes_to_head f fd) (B : Bl Z mg) : FnOk P w K mg base CX0 1 f fd ["hung", "block"] (spComes K) := by
  refine F.ok sc__comes_to_head (fun vs H Q E h => ?_) (fun cdv A outer s H vs Q E hr h => ?_)
  · obtain ⟨t, hs, k, rfl, _⟩ := h
    rfl
  · obtain ⟨t, hs, k, rfl, ht, hle, hk, q⟩ := h
    refine ⟨_, (pss_cons (ps_set (i := 2) sc__comes_to_head.nd rfl (Or.inl rfl) (pv 1))
 (pss_cons (ps_set (i := 3) sc__comes_to_head.nd rfl (Or.inl rfl) pe_int)
 (pss_cons (ps_while PassesOwn.never (PW.pt (pw_and (pt_cmpR op_ne (pv 2) pe_int (nomark _)) (pw_and1 (pt_cmpR op_lt (pv 3) (pe_callB (call_lenK (K := K) rfl) (by rfl) B.b_len PySem.boot_len (pa_cons (pv 0) pa_nil)) (nomark _))))) (pss_cons (ps_set (i := 2) sc__comes_to_head.nd rfl (Or.inl rfl) (pe_ix (ix_tupK (K := K) rfl) (pv 0) (pe_op op_sub (pv 2) pe_int) (fun _ _ => rfl)))
 (pss_one (ps_aug (i := 3) sc__comes_to_head.nd rfl (Or.inl rfl) pe_int ip_add))))
 (pss_one (ps_ret (pe_cmpR op_eq (pv 2) pe_int (nomark _))))))), ?_⟩
    walk_at "h0"
    refine ⟨fun m σ' H' => ∃ st : Nat, st + m = hs.length ∧ σ' = [some (.ref t), some (.int k), some (.int (upN hs st k : Nat)), some (.int st)] ∧ H' = H, ⟨hs.length, 0, Nat.zero_add _, rfl, rfl⟩, ?_⟩
    rintro m σ' H' ⟨st, hst, rfl, rfl⟩
    walk_at "hs"
    refine x_isd (fun c => ?_) (fun c => ?_)
    · walk_at "hs"
      rw [nats_length]
      refine x_isd (fun c2 => ?_) (fun c2 => ?_)
      · have hup := upN_le hle st k hk
        have hat : atI (nats hs) ((upN hs st k : Nat) - 1 : Int) = some (.int (upN hs (st + 1) k : Nat)) := by
          rw [show ((upN hs st k : Nat) - 1 : Int) = ((upN hs st k - 1 : Nat) : Int) by omega]
          refine nats_at ?_
          rw [upN_succ]
          have h1 : upN hs st k - 1 < hs.length := by omega
          rw [List.getElem?_eq_getElem h1]
          have := up_at (hs := hs) (k := upN hs st k) (by omega) (List.getElem?_eq_getElem h1)
          rw [this]
        walk_at "hs"
        refine ⟨fun σ' H2 => σ' = [some (.ref t), some (.int k), some (.int (upN hs (st + 1) k : Nat)), some (.int ((st + 1 : Nat) : Int))] ∧ H2 = H', fun σ' H2 hN => ⟨m - 1, by omega, st + 1, by omega, hN.1, hN.2⟩, ?_⟩
        walk_at "hs"
        exact ⟨rfl, rfl⟩
      · walk_at "hs"
        have e : st = hs.length := by omega
        rw [← e] at q
        have e2 : decide (((upN hs st k : Nat) : Int) = 0) = decide (upN hs st k = 0) := by
          rw [decide_eq_decide]
          omega
        rw [e2]
        exact q
    · walk_at "hs"
      have h0 : upN hs st k = 0 := by omega
      have h1 := upN_more (j := hs.length) h0 (by omega)
      rw [h1] at q
      rw [h0]
      exact q
/-- what the law tells as due -/
def dueV : Due → V
  | .hung => .str "hung"
  | .block k => .int k
  | .ring _ => .non
  | .ok => .non
/-- a value that tells what is due -/
def TellsDue (H : Hp) (v : V) : Due → Prop
  | .hung => v = .str "hung"
  | .block k => v = .int (k : Nat)
  | .ring k => ∃ a, v = .ref a ∧ H a = some (.tup [.str "ring", .int (k : Nat)])
  | .ok => v = .non
/-- what is due for a value: of a tuple by its items, else hung -/
def DueV (H : Hp) (x : V) (d : Due) : Prop := (∃ a xs, x = .ref a ∧ H a = some (.tup xs) ∧ DueIs xs d ∧ ∀ y ∈ xs, Kn H y) ∨ ((∀ a xs, x = .ref a → H a ≠ some (.tup xs)) ∧ Kn H x ∧ d = .hung)
def spDue : Sp := fun vs H Q _ => ∃ (x : V), vs = [x] ∧ ((∃ a xs, x = .ref a ∧ H a = some (.tup xs) ∧ ∀ y ∈ xs, Kn H y) ∨ ((∀ a xs, x = .ref a → H a ≠ some (.tup xs)) ∧ Kn H x)) ∧ ∀ (d : Due) (v : V) H', Same H H' → DueV H x d → TellsDue H' v d → Q v H'
theorem kn_not {x : V} {H : Hp} {Q : VK} (h : ∀ a xs, x = .ref a → H a ≠ some (.tup xs)) (k : Kn H x) (q : Q (.bl false) H) : rIsi K [x, .ty "tuple"] H Q := by
  cases x with
  | non => exact isi_non_tuple q
  | bl b => exact isi_bl_tuple q
  | int b => exact isi_int_tuple q
  | str b => exact isi_str_tuple q
  | ref a =>
    rcases k with ⟨xs, e⟩ | ⟨xs, e⟩ | ⟨xs, e⟩
    · exact isi_lst_tuple e q
    · exact (h a xs rfl e).elim
    · exact isi_dK_tuple e q
  | _ => exact k.elim
end
set_option maxRecDepth 100000
set_option maxHeartbeats 1000000
open PySem PySem.Spec L2


theorem sc_BadTree___init__ : FnScope ["self", "part"] ["self", "part"] (defScope s_BadTree___init__) := ⟨rfl, rfl, rfl, by decide +kernel, rfl, by decide +kernel, by decide +kernel⟩
theorem sc_Tree___init__ : FnScope ["self", "hung", "block", "place"] ["self", "hung"] (defScope s_Tree___init__) := ⟨rfl, rfl, rfl, by decide +kernel, rfl, by decide +kernel, by decide +kernel⟩
section
variable {P : Program} {w : World} {K : PySem.W.Frag} {mg : Str → Option Value} {base : Heap} {Z : Ad}

theorem ok_bad {f : Addr} {fd : FuncData} (F : Fun K "__init__" "BadTree.__init__" s_BadTree___init__ f fd) (X_BadTree : ExcF K Z.a_BadTree f "part") : FnOk P w K mg base CX0 1 f fd ["self", "part"] (spField Z.a_BadTree "part") := by
  refine F.ok sc_BadTree___init__ (fun vs H Q E h => ?_) (fun cdv A outer s H vs Q E hr h => ?_)
  · obtain ⟨a, v, rfl, _⟩ := h
    rfl
  · obtain ⟨a, v, rfl, ha, q⟩ := h
    refine ⟨_, (pss_one (ps_ost (pv 0) (pv 1))), ?_⟩
    walk_at "h0"
    exact ⟨a, _, rfl, X_BadTree.T, X_BadTree.n, .inl ⟨ha, q⟩⟩
def spTree (Z : Ad) : Sp := fun vs H Q E => ∃ (x dx : Addr) (h : V), vs = [.ref x, h] ∧ H x = some (.ins Z.a_Tree dx []) ∧ ((∃ a xs, h = .ref a ∧ H a = some (.tup xs) ∧ ∀ y ∈ xs, Kn H y) ∨ ((∀ a xs, h = .ref a → H a ≠ some (.tup xs)) ∧ Kn H h)) ∧
  (∀ H', DueV H h .ok → But x H H' → H' x = some (.ins Z.a_Tree dx [("hung", h)]) → Q .non H') ∧ (∀ (d : Due) (e : Addr) (v : V) H', d ≠ .ok → DueV H h d → TellsDue H' v d → Same H H' → H' e = some (.xd [("part", v)]) → E (.ref Z.a_BadTree) (some e) H')
theorem ok_tree {f : Addr} {fd : FuncData} (F : Fun K "__init__" "Tree.__init__" s_Tree___init__ f fd) (B : Bl Z mg) (T : Cls K Z.a_Tree) (N : NoAttr K Z.a_Tree "hung") {f_is_within : Addr} {fd_is_within : FuncData} (C_is_within : Cal K mg "is_within" f_is_within fd_is_within ["least", "most", "thing"]) (G_is_within : FnOk P w K mg base CX0 1 f_is_within fd_is_within ["least", "most", "thing"] spWithin) {f__comes_to_head : Addr} {fd__comes_to_head : FuncData} (C__comes_to_head : Cal K mg "_comes_to_head" f__comes_to_head fd__comes_to_head ["hung", "block"]) (G__comes_to_head : FnOk P w K mg base CX0 1 f__comes_to_head fd__comes_to_head ["hung", "block"] (spComes K))
    {f_BadTree___init__ : Addr} {fd_BadTree___init__ : FuncData} (C_BadTree___init__ : CalM K f_BadTree___init__ fd_BadTree___init__ ["self", "part"]) (G_BadTree___init__ : FnOk P w K mg base CX0 1 f_BadTree___init__ fd_BadTree___init__ ["self", "part"] (spField Z.a_BadTree "part")) (X_BadTree : ExcF K Z.a_BadTree f_BadTree___init__ "part") : FnOk P w K mg base (L2.CX P w) 3 f fd ["self", "hung"] (spTree Z) := by
  refine F.okX sc_Tree___init__ (fun vs H Q E h => ?_) (fun cdv A outer s H vs Q E hr h => ?_)
  · obtain ⟨x, dx, h, rfl, _⟩ := h
    rfl
  · obtain ⟨x, dx, hv, rfl, hx, hk, q, qe⟩ := h
    refine ⟨_, (pss_cons (ps_if (PW.pt (pw_or (pt_not (pt_val (pe_callB (call_isiK' (K := K) rfl) (by rfl) B.b_isinstance (by decide +kernel) (pa_cons (pv 1) (pa_cons (pe_bltn (v := .ty "tuple") (by rfl) B.b_tuple (by decide +kernel) rfl) pa_nil))))) (pw_or1 (pt_not (pt_chain op_le op_le pe_int (pe_callB (call_lenK (K := K) rfl) (by rfl) B.b_len PySem.boot_len (pa_cons (pv 1) pa_nil)) (pe_glob (v := .int (40)) rfl B.c_MOST_BLOCKS ⟨_, rfl⟩)))))) (pss_one (ps_raise rfl (takes_of rfl rfl rfl rfl) (pmk_oex X_BadTree.T X_BadTree.i X_BadTree.t G_BadTree___init__ (hr.mono (by first | decide | omega)) C_BadTree___init__.b .nil pass0 (by rfl) B.k_BadTree (pa_cons pe_str pa_nil)))) pss_nil)
 (pss_cons (ps_for (passes_of rfl) rfl (pi_enumTK (K := K) rfl rfl (by rfl) B.b_enumerate (by decide) (by decide) (pa_cons (pv 1) pa_nil)) (pg_tup rfl (pgs_cons (pg_name (i := 2) sc_Tree___init__.nd rfl (Or.inl rfl)) (pgs_cons (pg_name (i := 3) sc_Tree___init__.nd rfl (Or.inl rfl)) pgs_nil))) (pss_one (ps_if (PW.pt (pw_or (pt_not (pt_val (pe_call G_is_within (hr.mono (by first | decide | omega)) (by rfl) C_is_within.g C_is_within.k C_is_within.b .nil pass0 (pa_cons pe_int (pa_cons (pe_callB (call_lenK (K := K) rfl) (by rfl) B.b_len PySem.boot_len (pa_cons (pv 1) pa_nil)) (pa_cons (pv 3) pa_nil)))))) (pw_or1 (pt_cmpR op_eq (pv 3) (pv 2) (nomark _))))) (pss_one (ps_raise rfl (takes_of rfl rfl rfl rfl) (pmk_oex X_BadTree.T X_BadTree.i X_BadTree.t G_BadTree___init__ (hr.mono (by first | decide | omega)) C_BadTree___init__.b .nil pass0 (by rfl) B.k_BadTree (pa_cons (pv 2) pa_nil)))) pss_nil)))
 (pss_cons (ps_for (passes_of rfl) rfl (pi_range2 rfl B.b_range (pa_cons pe_int (pa_cons (pe_op op_add (pe_callB (call_lenK (K := K) rfl) (by rfl) B.b_len PySem.boot_len (pa_cons (pv 1) pa_nil)) pe_int) pa_nil))) (pg_name (i := 2) sc_Tree___init__.nd rfl (Or.inl rfl)) (pss_one (ps_if (pt_not (pt_val (pe_call G__comes_to_head (hr.mono (by first | decide | omega)) (by rfl) C__comes_to_head.g C__comes_to_head.k C__comes_to_head.b .nil pass0 (pa_cons (pv 1) (pa_cons (pv 2) pa_nil))))) (pss_one (ps_raise rfl (takes_of rfl rfl rfl rfl) (pmk_oex X_BadTree.T X_BadTree.i X_BadTree.t G_BadTree___init__ (hr.mono (by first | decide | omega)) C_BadTree___init__.b .nil pass0 (by rfl) B.k_BadTree (pa_cons (pe_tup (pa_cons pe_str (pa_cons (pv 2) pa_nil))) pa_nil)))) pss_nil)))
 (pss_one (ps_fld (pv 0) (pv 1) rfl))))), ?_⟩
    have raised : ∀ (d : Due) (v : V) H1, d ≠ .ok → DueV H hv d → Same H H1 → (∀ H2, Same H1 H2 → TellsDue H2 v d) → [v].length ≤ 1000 ∧ ∀ a, H1 a = none → spField Z.a_BadTree "part" (.ref a :: ([v] ++ [])) (upd H1 a (exo a Z.a_BadTree none)) (fun v H2 => v = .non ∧ ∃ (d : Addr) (fs : List (Str × V)), H2 a = some (exo a Z.a_BadTree (some d)) ∧ H2 d = some (exd d fs) ∧ H1 d = none ∧ E (.ref Z.a_BadTree) (some d) (upd (del H2 a) d (.xd fs))) (fun _ _ _ => False) := fun d v H1 nd hd s1 ht =>
      mk_field fun e H' s2 _ he => qe d e v H' nd hd (ht H' s2) (s1.trans s2) he
    rcases hk with ⟨a, xs, rfl, ha, hk⟩ | ⟨hn, hk⟩
    · have qq : ∀ (d : Due) (v : V) H1, d ≠ .ok → DueIs xs d → Same H H1 → (∀ H2, Same H1 H2 → TellsDue H2 v d) → _ := fun d v H1 nd hd => raised d v H1 nd (.inl ⟨a, xs, rfl, ha, hd, hk⟩)
      have nxa : x ≠ a := fun e => by
        rw [e, ha] at hx
        cases hx
      walk_at "h0"
      refine x_isd (fun c1 => ?_) (fun c1 => ?_)
      · walk_at "hs"
        refine x_isnd (fun c2 => ?_) (fun c2 => ?_)
        · walk_at "hs"
          exact qq .hung _ H (fun e => by cases e) (.hung (by omega)) (Same.refl _) fun _ _ => rfl
        · walk_at "hs"
          refine x_ent1 (.of ha) ?_
          refine lp_enumT (K := K) (xs := xs) (fun i σ' H' => (∃ x2 x3, σ' = [some (.ref x), some (.ref a), x2, x3]) ∧ Same H H' ∧ ∀ j y, j < i → xs[j]? = some y → ¬ badV xs.length j y)
            ⟨⟨_, _, rfl⟩, Same.refl _, fun j y h => absurd h (Nat.not_lt_zero _)⟩ (fun i σ' H' _ h => .of (h.2.1 _ _ ha)) ?_ ?_
          · rintro i xi σ' H' T hxi ⟨⟨x2, x3, rfl⟩, s1, hgood⟩ hT
            have ha1 := s1 _ _ ha
            have kx := (hk _ (List.mem_of_getElem? hxi)).same (same_new (o := .tup [.int (1 + (i : Int)), xi]) s1 hT)
            have hi := (List.getElem?_eq_some_iff.mp hxi).1
            have bad : badV xs.length i xi → _ := fun b => qq (.block (i + 1)) (.int (1 + (i : Int))) (upd H' T (.tup [.int (1 + (i : Int)), xi])) (fun e => by cases e) (.block (by omega) (by omega) hgood hxi b) (same_new s1 hT) (fun _ _ => by
              show V.int (1 + (i : Int)) = V.int ((i + 1 : Nat) : Int)
              congr 1
              omega)
            walk_at "hs"
            refine ⟨_, _, _, rfl, kx, ?_⟩
            walk_at "hs"
            cases hn : numV 0 xs.length xi with
            | false =>
              walk_at "hs"
              exact bad (.inl hn)
            | true =>
              obtain ⟨z, rfl, z0, z1⟩ := num_int hn
              walk_at "hs"
              refine x_isd (fun c => ?_) (fun c => ?_)
              · walk_at "hs"
                exact bad (.inr (by rw [c]; congr 1; omega))
              · walk_at "hs"
                refine ⟨⟨_, _, rfl⟩, same_new s1 hT, fun j y hj hy => ?_⟩
                by_cases e : j = i
                · subst e
                  rw [hxi] at hy
                  cases hy
                  rintro (h | h)
                  · rw [hn] at h
                    cases h
                  · injection h with h
                    exact c (by rw [h]; omega)
                · exact hgood j y (by omega) hy
          · rintro σ' H' ⟨⟨x2, x3, rfl⟩, s1, hgood⟩
            have ha1 := s1 _ _ ha
            have hgood' : ∀ (j : Nat) y, xs[j]? = some y → ¬ badV xs.length j y := fun j y hy => hgood j y (by have := (List.getElem?_eq_some_iff.mp hy).1; omega) hy
            obtain ⟨hs, rfl, hle⟩ := good_nats xs.length fun j y hy => by
              cases hn : numV 0 xs.length y with
              | true => rfl
              | false => exact (hgood' j y hy (.inl hn)).elim
            have hlen := nats_length hs
            rw [hlen] at hle
            walk_at "hs"
            refine ⟨1, ((nats hs).length : Int) + 1, rfl, ⟨by omega, by omega, by omega, by omega⟩, ?_⟩
            refine lp_range (lo := 1) (n := Int.toNat (((nats hs).length : Int) + 1 - 1)) (fun i σ' H2 => (∃ x2 x3, σ' = [some (.ref x), some (.ref a), x2, x3]) ∧ Same H H2 ∧ ∀ j, 1 ≤ j → j < i + 1 → upN hs hs.length j = 0)
              ⟨⟨_, _, rfl⟩, s1, fun j h1 h2 => by omega⟩ ?_ ?_
            · rintro i σ' H2 hi ⟨⟨x2, x3, rfl⟩, s2, hz⟩
              have ha2 := s2 _ _ ha
              walk_at "hs"
              refine ⟨a, hs, i + 1, by rw [show 1 + (i : Int) = ((i + 1 : Nat) : Int) by omega]; rfl, .of ha2, hle, by omega, ?_⟩
              walk_at "hs"
              refine x_isnd (fun c => ?_) (fun c => ?_)
              · walk_at "hs"
                intro p hp
                walk_at "hs"
                refine qq (.ring (i + 1)) _ _ (fun e => by cases e) (.ring (by omega) (by omega) rfl hgood' (fun j h1 h2 => hz j h1 h2) (by omega) (by omega) c) (same_new s2 hp) fun H3 s3 => ⟨p, rfl, ?_⟩
                rw [s3 _ _ upd_same, show (1 + (i : Int)) = ((i + 1 : Nat) : Int) by omega]
              · walk_at "hs"
                refine ⟨⟨_, _, rfl⟩, s2, fun j h1 h2 => ?_⟩
                by_cases e : j = i + 1
                · rw [e]
                  exact c
                · exact hz j h1 (by omega)
            · rintro σ' H2 ⟨⟨x2, x3, rfl⟩, s2, hz⟩
              have hx2 := s2 _ _ hx
              walk_at "hs"
              refine ⟨x, _, dx, _, rfl, hx2, T, N, by decide, ?_⟩
              walk_at "hs"
              refine q _ (.inl ⟨a, nats hs, rfl, ha, .ok ⟨by omega, by omega, hle, fun k hk => by
                by_cases h0 : k = 0
                · rw [h0]
                  exact upN_zero hs _
                · exact hz k (by omega) (by omega)⟩ rfl hgood', hk⟩) (But.mut (.of s2)) upd_same
      · walk_at "hs"
        exact qq .hung _ H (fun e => by cases e) (.hung (by omega)) (Same.refl _) fun _ _ => rfl
    · walk_at "h0"
      refine kn_not hn hk ?_
      walk_at "hs"
      exact raised .hung _ H (fun e => by cases e) (.inr ⟨hn, hk, rfl⟩) (Same.refl _) fun _ _ => rfl
end
set_option maxRecDepth 100000
set_option maxHeartbeats 1000000
open PySem PySem.Spec L2


theorem sc_Tree___eq__ : FnScope ["self", "other"] ["self", "other"] (defScope s_Tree___eq__) := ⟨rfl, rfl, rfl, by decide +kernel, rfl, by decide +kernel, by decide +kernel⟩
section
variable {P : Program} {w : World} {K : PySem.W.Frag} {mg : Str → Option Value} {base : Heap} {Z : Ad}

/-- a tree that has been made -/
def TreeAt (Z : Ad) (H : Hp) (x : Addr) (hs : List Nat) : Prop := ∃ dx t, H x = some (.ins Z.a_Tree dx [("hung", .ref t)]) ∧ H t = some (.tup (nats hs))
theorem TreeAt.same {H H' : Hp} {x : Addr} {hs : List Nat} (s : Same H H') (h : TreeAt Z H x hs) : TreeAt Z H' x hs := by
  obtain ⟨dx, t, h1, h2⟩ := h
  exact ⟨dx, t, s _ _ h1, s _ _ h2⟩
def spEqT (Z : Ad) : Sp := fun vs H Q _ => ∃ (a b : Addr) (hs : List Nat), vs = [.ref a, .ref b] ∧ TreeAt Z H a hs ∧ ((∃ gs, TreeAt Z H b gs ∧ Q (.bl (decide (hs = gs))) H) ∨ ((∃ xs, H b = some (.tup xs)) ∧ Q (.bl false) H))
theorem ok_eqT {f : Addr} {fd : FuncData} (F : Fun K "__eq__" "Tree.__eq__" s_Tree___eq__ f fd) (B : Bl Z mg) (T : IsC K Z.a_Tree) (N : NoAttr K Z.a_Tree "hung") : FnOk P w K mg base CX0 1 f fd ["self", "other"] (spEqT Z) := by
  refine F.ok sc_Tree___eq__ (fun vs H Q E h => ?_) (fun cdv A outer s H vs Q E hr h => ?_)
  · obtain ⟨a, b, hs, rfl, _⟩ := h
    rfl
  · obtain ⟨a, b, hs, rfl, ⟨dx, t, hx, ht⟩, h⟩ := h
    refine ⟨_, (pss_one (ps_ret (pe_and (pe_callB (call_isiK' (K := K) rfl) (by rfl) B.b_isinstance (by decide +kernel) (pa_cons (pv 1) (pa_cons (pe_glob (v := .ref Z.a_Tree) rfl B.k_Tree rfl) pa_nil))) (pe_one (pe_cmpR (op_eqDK (K := K) rfl hr.units) (pe_fldK (K := K) rfl (pv 0) rfl) (pe_fldK (K := K) rfl (pv 1) rfl) (nomark _)))))), ?_⟩
    walk_at "h0"
    rcases h with ⟨gs, ⟨dy, u, hy, hu⟩, q⟩ | ⟨⟨xs, hb⟩, q⟩
    · refine isi_own T hy ?_
      walk_at "hs"
      refine ⟨a, _, dx, _, _, rfl, hx, T.cl, N, rfl, ?_⟩
      walk_at "hs"
      refine ⟨b, _, dy, _, _, rfl, hy, T.cl, N, rfl, ?_⟩
      exact x_eqTup (.of ht) (.of hu) q
    · refine isi_tupOwn T hb ?_
      walk_at "hs"
      exact q
end
set_option maxRecDepth 100000
set_option maxHeartbeats 1000000
open PySem PySem.Spec L2


theorem sc__law_odd : FnScope ["_law_hand_here", "_law_thing", "_law_odd_here"] ["_law_hand_here", "_law_thing"] (defScope s__law_odd) := ⟨rfl, rfl, rfl, by decide +kernel, rfl, by decide +kernel, by decide +kernel⟩
section
variable {P : Program} {w : World} {K : PySem.W.Frag} {mg : Str → Option Value} {base : Heap} {Z : Ad}

def spOdd : Sp := fun vs H Q _ => ∃ (p : Addr) (n : Nat) (F : Addr → Prop), vs = [.ref p, .int n] ∧ PoolAt H p F ∧ ∀ v H', Kn H' v → v ≠ .ref p → But p H H' → PoolAt H' p F → Q v H'
/-! the law's own call of Tree, caught -/
end
set_option maxRecDepth 100000
set_option maxHeartbeats 1000000
open PySem PySem.Spec L2


section
variable {P : Program} {w : World} {K : PySem.W.Frag} {mg : Str → Option Value} {base : Heap} {Z : Ad}

/-- any tuple of what is known, or another known thing -/
def Thing (H : Hp) (x : V) : Prop := (∃ a xs, x = .ref a ∧ H a = some (.tup xs) ∧ ∀ y ∈ xs, Kn H y) ∨ ((∀ a xs, x = .ref a → H a ≠ some (.tup xs)) ∧ Kn H x)
theorem Thing.same {H H' : Hp} {x : V} (s : Same H H') (h : Thing H x) : Thing H' x := by
  rcases h with ⟨a, xs, rfl, ha, hk⟩ | ⟨hn, hk⟩
  · exact .inl ⟨a, xs, rfl, s _ _ ha, fun y hy => (hk y hy).same s⟩
  · refine .inr ⟨fun a xs e ha => ?_, hk.same s⟩
    subst e
    rcases hk with ⟨ys, e⟩ | ⟨ys, e⟩ | ⟨ys, e⟩
    · have := (s _ _ e).symm.trans ha
      cases this
    · exact hn a ys rfl e
    · have := (s _ _ e).symm.trans ha
      cases this
theorem Thing.back {H H' : Hp} {x : V} {d : Due} (h : Thing H x) (s : Same H H') (hd : DueV H' x d) : DueV H x d := by
  rcases h with ⟨a, xs, rfl, ha, hk⟩ | ⟨hn, hk⟩
  · rcases hd with ⟨b, ys, e, hb, hi, _⟩ | ⟨hn, _, _⟩
    · cases e
      have := (s _ _ ha).symm.trans hb
      cases this
      exact .inl ⟨a, xs, rfl, ha, hi, hk⟩
    · exact (hn a xs rfl (s _ _ ha)).elim
  · rcases hd with ⟨b, ys, rfl, hb, hi, _⟩ | ⟨_, _, e⟩
    · rcases hk with ⟨zs, e⟩ | ⟨zs, e⟩ | ⟨zs, e⟩
      · have := (s _ _ e).symm.trans hb
        cases this
      · exact (hn b zs rfl e).elim
      · have := (s _ _ e).symm.trans hb
        cases this
    · exact .inr ⟨hn, hk, e⟩
def spWord : Sp := fun vs H Q _ => ∃ (x : V), vs = [x] ∧ Thing H x ∧ ∀ (d : Due) (v : V) H', Same H H' → DueV H x d → TellsDue H' v d → Q v H'
structure WordX (K : PySem.W.Frag) (Z : Ad) : Prop where
  e : L2.ExcC K Z.a_BadTree
  f : XfC K Z.a_BadTree
  n : PySem.W.findIn K (.ref Z.a_BadTree) "part" = some none
  k : PySem.W.kitOne K (.ref Z.a_BadTree) (.ref Z.a_VoteError) = some true
  m : PySem.W.exmOne K (.ref Z.a_BadTree) (.ref Z.a_BadTree) = some true
end
set_option maxRecDepth 100000
set_option maxHeartbeats 4000000
open PySem PySem.Spec L2


theorem sc_law : FnScope ["_law_script", "_law_hand_here", "_law_turn", "_law_many", "_law_hung", "_law_moves_here", "_law_last", "_law_made", "_law_again", "_law_thing", "_law_due_here", "_law_told"] ["_law_script"] (defScope s_law) := ⟨rfl, rfl, rfl, by decide +kernel, rfl, by decide +kernel, by decide +kernel⟩
section
variable {P : Program} {w : World} {K : PySem.W.Frag} {mg : Str → Option Value} {base : Heap} {Z : Ad}

theorem TellsDue.same {H H' : Hp} {v : V} {d : Due} (s : Same H H') (h : TellsDue H v d) : TellsDue H' v d := by
  cases d with
  | ring k =>
    obtain ⟨a, rfl, ha⟩ := h
    exact ⟨a, rfl, s _ _ ha⟩
  | _ => exact h
theorem TellsDue.al {H : Hp} {v u : V} {d : Due} (h : TellsDue H v d) (h' : TellsDue H u d) : Al K H 1 v u := by
  cases d with
  | ring k =>
    obtain ⟨a, rfl, ha⟩ := h
    obtain ⟨b, rfl, hb⟩ := h'
    exact Al.tups ha hb (by show 2 ≤ 1000; decide) fun z hz => by
      simp only [List.mem_cons, List.not_mem_nil, or_false] at hz
      rcases hz with rfl | rfl <;> rfl
  | hung =>
    cases h
    cases h'
    exact Al.sca rfl
  | block k =>
    cases h
    cases h'
    exact Al.sca rfl
  | ok =>
    cases h
    cases h'
    exact Al.sca rfl
theorem DueV.det {H : Hp} {x : V} {d e : Due} (h : DueV H x d) (h' : DueV H x e) : d = e := by
  rcases h with ⟨a, xs, rfl, ha, hi, _⟩ | ⟨hn, _, rfl⟩
  · rcases h' with ⟨b, ys, e, hb, hj, _⟩ | ⟨hn, _, _⟩
    · cases e
      have := ha.symm.trans hb
      cases this
      exact hi.det hj
    · exact (hn a xs rfl ha).elim
  · rcases h' with ⟨b, ys, rfl, hb, _, _⟩ | ⟨_, _, rfl⟩
    · exact (hn b ys rfl hb).elim
    · rfl
theorem tree_ok {hs : List Nat} (t : IsTree hs) : DueIs (nats hs) .ok := by
  refine .ok t rfl fun j y hy => ?_
  obtain ⟨x, hx, rfl⟩ : ∃ x : Nat, hs[j]? = some x ∧ y = .int x := by
    unfold nats at hy
    rw [List.getElem?_map] at hy
    cases e : hs[j]? with
    | none =>
      rw [e] at hy
      cases hy
    | some x =>
      rw [e] at hy
      exact ⟨x, rfl, (Option.some.inj hy).symm⟩
  have hle := t.le x (List.mem_of_getElem? hx)
  have hj := (List.getElem?_eq_some_iff.mp hx).1
  rw [nats_length]
  rintro (h | h)
  · rw [numT (by omega)] at h
    have := of_decide_eq_false h
    omega
  · injection h with h
    have e : x = j + 1 := by omega
    subst e
    have u : up hs (j + 1) = j + 1 := up_at (by omega) (by rw [Nat.add_sub_cancel]; exact hx)
    have un : ∀ n, upN hs n (j + 1) = j + 1 := fun n => by
      induction n with
      | zero => rfl
      | succ n ih =>
        show upN hs n (up hs (j + 1)) = j + 1
        rw [u]
        exact ih
    have := t.comes (j + 1) (by omega)
    rw [un] at this
    omega
theorem make_tree {H : Hp} {Q : VK} {a : Addr} {hs : List Nat} (t : IsTree hs) (ha : H a = some (.tup (nats hs))) (q : ∀ m H', H m = none → Same H H' → TreeAt Z H' m hs → Q (.ref m) H') :
    ∀ x dx, H x = none → H dx = none → dx ≠ x → spTree Z (.ref x :: ([.ref a] ++ [])) (upd (upd H dx (.own x)) x (.ins Z.a_Tree dx [])) (fun v H2 => v = .non ∧ Q (.ref x) H2) (fun _ _ _ => False) := by
  intro m dm hm hdm ne
  have hm2 : upd H dm (.own m) m = none := by
    rw [upd_ne (Ne.symm ne)]
    exact hm
  have s0 : Same H (upd (upd H dm (.own m)) m (.ins Z.a_Tree dm [])) := same_new (same_new (Same.refl H) hdm) hm2
  have hk : ∀ y ∈ nats hs, Kn H y := fun y hy => by
    obtain ⟨n, _, rfl⟩ := List.mem_map.mp hy
    exact True.intro
  have hx : Thing H (.ref a) := .inl ⟨a, _, rfl, ha, hk⟩
  have due : DueV H (.ref a) .ok := .inl ⟨a, _, rfl, ha, tree_ok t, hk⟩
  refine ⟨m, dm, .ref a, rfl, upd_same, hx.same s0, fun H' hd b1 hm1 => ⟨rfl, ?_⟩, fun d e v H' nd hd ht s1 he => nd ((hx.back s0 hd).det due)⟩
  have s1 : Same H H' := fun b o e => b1 _ _ (ne_of_none e hm) (s0 _ _ e)
  exact q m H' hm s1 ⟨dm, a, hm1, s1 _ _ ha⟩
theorem eq_trees {H : Hp} {Q : VK} {a b : Addr} {hs gs : List Nat} (h1 : TreeAt Z H a hs) (h2 : TreeAt Z H b gs) (q : Q (.bl (decide (hs = gs))) H) : rOwn Z.a_Tree (spEqT Z) (.ref a) (.ref b) H Q := by
  obtain ⟨dx, t, ha, ht⟩ := id h1
  obtain ⟨dy, u, hb, hu⟩ := id h2
  exact ⟨a, b, dx, _, rfl, rfl, ha, .inl ⟨_, _, hb⟩, a, b, hs, rfl, h1, .inl ⟨gs, h2, _, rfl, q⟩⟩
theorem eq_treeTup {H : Hp} {Q : VK} {a b : Addr} {hs : List Nat} {xs : List V} (h1 : TreeAt Z H a hs) (h2 : H b = some (.tup xs)) (q : Q (.bl false) H) : rOwn Z.a_Tree (spEqT Z) (.ref a) (.ref b) H Q := by
  obtain ⟨dx, t, ha, ht⟩ := id h1
  exact ⟨a, b, dx, _, rfl, rfl, ha, .inr ⟨_, h2⟩, a, b, hs, rfl, h1, .inr ⟨⟨_, h2⟩, _, rfl, q⟩⟩
theorem Kn.setL {H : Hp} {L : Addr} {xs ys : List V} {v : V} (hL : H L = some (.lst xs)) (k : Kn H v) : Kn (upd H L (.lst ys)) v := by
  cases v with
  | ref a =>
    by_cases e : a = L
    · subst e
      exact .inl ⟨ys, upd_same⟩
    · rcases k with ⟨z, h⟩ | ⟨z, h⟩ | ⟨z, h⟩
      · exact .inl ⟨z, keepM e h⟩
      · exact .inr (.inl ⟨z, keepM e h⟩)
      · exact .inr (.inr ⟨z, keepM e h⟩)
  | _ => exact k
theorem x_tree {H : Hp} {Q : VK} {a : Addr} {hs : List Nat} {σ : L2.St} {i : Nat} (hv : σ[i]? = some (some (.ref a))) (t : IsTree hs) (ha : H a = some (.tup (nats hs))) (q : ∀ m H', H m = none → Same H H' → TreeAt Z H' m hs → Q (.ref m) H') :
    tMake Z.a_Tree (spTree Z) [] (fun _ _ _ => False) (tCons (tVar i) tNil) σ H Q := ⟨_, hv, make_tree t ha q⟩
theorem PoolAt.lst {H : Hp} {p : Addr} {F : Addr → Prop} (h : PoolAt H p F) : ∃ xs, H p = some (.lst xs) := by
  obtain ⟨⟨g, z, gs, ss, c, n, hp, _⟩, _⟩ := h
  exact ⟨_, hp⟩
theorem Kn.pool {H H' : Hp} {p : Addr} {F : Addr → Prop} {v : V} (hp : PoolAt H' p F) (b : But p H H') (k : Kn H v) : Kn H' v := by
  by_cases e : v = .ref p
  · subst e
    exact .inl hp.lst
  · exact k.but b e
theorem Thing.pool {H H' : Hp} {p : Addr} {F F' : Addr → Prop} {v : V} (hp : PoolAt H p F) (hp' : PoolAt H' p F') (b : But p H H') (k : Thing H v) : Thing H' v := by
  obtain ⟨zs, ep⟩ := hp.lst
  obtain ⟨ws, ep'⟩ := hp'.lst
  rcases k with ⟨a, xs, rfl, ha, hk⟩ | ⟨hn, hk⟩
  · refine .inl ⟨a, xs, rfl, b _ _ (fun e => ?_) ha, fun y hy => (hk y hy).pool hp' b⟩
    subst e
    rw [ha] at ep
    cases ep
  · refine .inr ⟨fun a xs e ha => ?_, hk.pool hp' b⟩
    subst e
    by_cases e : a = p
    · subst e
      rw [ha] at ep'
      cases ep'
    · rcases hk with ⟨ys, h⟩ | ⟨ys, h⟩ | ⟨ys, h⟩
      · have := (b _ _ e h).symm.trans ha
        cases this
      · exact hn a ys rfl h
      · have := (b _ _ e h).symm.trans ha
        cases this
theorem thing_lst {H : Hp} {a : Addr} {xs : List V} (h : H a = some (.lst xs)) : Thing H (.ref a) := by
  refine .inr ⟨fun b ys e hb => ?_, .inl ⟨_, h⟩⟩
  cases e
  rw [h] at hb
  cases hb
theorem thing_dK {H : Hp} {a : Addr} {xs : List (Key × V)} (h : H a = some (.dK xs)) : Thing H (.ref a) := by
  refine .inr ⟨fun b ys e hb => ?_, .inr (.inr ⟨_, h⟩)⟩
  cases e
  rw [h] at hb
  cases hb
theorem thing_nats {H : Hp} {a : Addr} {l : List Nat} (h : H a = some (.tup (nats l))) : Thing H (.ref a) := .inl ⟨a, _, rfl, h, fun y hy => by
  obtain ⟨n, _, rfl⟩ := List.mem_map.mp hy
  exact True.intro⟩
theorem pick_at {H0 H : Hp} {p M : Addr} {items : List V} {F : Addr → Prop} {Q : VK} {E : XK} (hp : PoolAt H0 p F) (s : Same H0 H) (hM : H M = some (.lst items)) (n : M ≠ p) (h0 : 0 < items.length) (h1 : items.length ≤ 1000) (ht : ∀ v ∈ items, Thing H v)
    (q : ∀ v H5, Thing H5 v → But p H0 H5 → PoolAt H5 p F → Q v H5) : spPick K ([.ref p, .ref M] ++ []) H Q E :=
  ⟨p, M, items, F, rfl, hp.same s, .of hM, n, h0, h1, fun v H5 hm b5 p5 => q v H5 ((ht v hm).pool (hp.same s) p5 b5) (fun b o nb e => b5 b o nb (s b o e)) p5⟩
def spLaw (K : PySem.W.Frag) : Sp := fun vs H Q _ => ∃ (a : Addr) (ns : List Int), vs = [.ref a] ∧ SqL K H a (ns.map V.int) ∧ ns.length ≤ 63 ∧ ∀ H', Q (.bl true) H'
end
set_option maxRecDepth 100000
set_option maxHeartbeats 1000000
open PySem PySem.Spec L2


theorem sc_is_block : FnScope ["tree", "thing"] ["tree", "thing"] (defScope s_is_block) := ⟨rfl, rfl, rfl, by decide +kernel, rfl, by decide +kernel, by decide +kernel⟩
theorem sc_is_place : FnScope ["tree", "thing"] ["tree", "thing"] (defScope s_is_place) := ⟨rfl, rfl, rfl, by decide +kernel, rfl, by decide +kernel, by decide +kernel⟩
theorem sc_place_of : FnScope ["tree", "block"] ["tree", "block"] (defScope s_place_of) := ⟨rfl, rfl, rfl, by decide +kernel, rfl, by decide +kernel, by decide +kernel⟩
theorem sc_parents : FnScope ["tree", "block", "above"] ["tree", "block"] (defScope s_parents) := ⟨rfl, rfl, rfl, by decide +kernel, rfl, by decide +kernel, by decide +kernel⟩
section
variable {P : Program} {w : World} {K : PySem.W.Frag} {mg : Str → Option Value} {base : Heap} {Z : Ad}
def spIsB (Z : Ad) (lo : Int) : Sp := fun vs H Q _ => ∃ (x : Addr) (hs : List Nat) (v : V), vs = [.ref x, v] ∧ TreeAt Z H x hs ∧ Kn H v ∧ Q (.bl (numV lo hs.length v)) H
theorem ok_isBlock {f : Addr} {fd : FuncData} (F : Fun K "is_block" "is_block" s_is_block f fd) (B : Bl Z mg) (T : Cls K Z.a_Tree) (N : NoAttr K Z.a_Tree "hung") {f_is_within : Addr} {fd_is_within : FuncData} (C_is_within : Cal K mg "is_within" f_is_within fd_is_within ["least", "most", "thing"]) (G_is_within : FnOk P w K mg base CX0 1 f_is_within fd_is_within ["least", "most", "thing"] spWithin) : FnOk P w K mg base CX0 2 f fd ["tree", "thing"] (spIsB Z 1) := by
  refine F.ok sc_is_block (fun vs H Q E h => ?_) (fun cdv A outer s H vs Q E hr h => ?_)
  · obtain ⟨x, hs, v, rfl, _⟩ := h
    rfl
  · obtain ⟨x, hs, v, rfl, ht, hk, q⟩ := h
    refine ⟨_, (pss_one (ps_ret (pe_call G_is_within (hr.mono (by first | decide | omega)) (by rfl) C_is_within.g C_is_within.k C_is_within.b .nil pass0 (pa_cons pe_int (pa_cons (pe_callB (call_lenK (K := K) rfl) (by rfl) B.b_len PySem.boot_len (pa_cons (pe_fldK (K := K) rfl (pv 0) rfl) pa_nil)) (pa_cons (pv 1) pa_nil)))))), ?_⟩
    walk_at "h0"
    obtain ⟨dx, t, h1, h2⟩ := ht
    have h3 : SqT K H t (nats hs) := .of h2
    refine ⟨x, _, dx, _, _, rfl, h1, T, N, rfl, ?_⟩
    walk_at "hs"
    rw [nats_length]
    exact ⟨v, 1, _, rfl, hk, q⟩
theorem ok_isPlace {f : Addr} {fd : FuncData} (F : Fun K "is_place" "is_place" s_is_place f fd) (B : Bl Z mg) (T : Cls K Z.a_Tree) (N : NoAttr K Z.a_Tree "hung") {f_is_within : Addr} {fd_is_within : FuncData} (C_is_within : Cal K mg "is_within" f_is_within fd_is_within ["least", "most", "thing"]) (G_is_within : FnOk P w K mg base CX0 1 f_is_within fd_is_within ["least", "most", "thing"] spWithin) : FnOk P w K mg base CX0 2 f fd ["tree", "thing"] (spIsB Z 0) := by
  refine F.ok sc_is_place (fun vs H Q E h => ?_) (fun cdv A outer s H vs Q E hr h => ?_)
  · obtain ⟨x, hs, v, rfl, _⟩ := h
    rfl
  · obtain ⟨x, hs, v, rfl, ht, hk, q⟩ := h
    refine ⟨_, (pss_one (ps_ret (pe_call G_is_within (hr.mono (by first | decide | omega)) (by rfl) C_is_within.g C_is_within.k C_is_within.b .nil pass0 (pa_cons pe_int (pa_cons (pe_callB (call_lenK (K := K) rfl) (by rfl) B.b_len PySem.boot_len (pa_cons (pe_fldK (K := K) rfl (pv 0) rfl) pa_nil)) (pa_cons (pv 1) pa_nil)))))), ?_⟩
    walk_at "h0"
    obtain ⟨dx, t, h1, h2⟩ := ht
    have h3 : SqT K H t (nats hs) := .of h2
    refine ⟨x, _, dx, _, _, rfl, h1, T, N, rfl, ?_⟩
    walk_at "hs"
    rw [nats_length]
    exact ⟨v, 0, _, rfl, hk, q⟩
theorem num_nat {lo : Int} {n k : Nat} (h1 : lo ≤ k) (h2 : k ≤ n) : numV lo n (.int k) = true := by
  rw [numT h1]
  exact decide_eq_true (by omega)
def spPlace (Z : Ad) : Sp := fun vs H Q _ => ∃ (x : Addr) (hs : List Nat) (k : Nat), vs = [.ref x, .int k] ∧ TreeAt Z H x hs ∧ 1 ≤ k ∧ k ≤ hs.length ∧ Q (.int (up hs k : Nat)) H
theorem ok_place {f : Addr} {fd : FuncData} (F : Fun K "place_of" "place_of" s_place_of f fd) (B : Bl Z mg) (T : Cls K Z.a_Tree) (N : NoAttr K Z.a_Tree "hung") {f_is_block : Addr} {fd_is_block : FuncData} (C_is_block : Cal K mg "is_block" f_is_block fd_is_block ["tree", "thing"]) (G_is_block : FnOk P w K mg base CX0 2 f_is_block fd_is_block ["tree", "thing"] (spIsB Z 1)) : FnOk P w K mg base CX0 3 f fd ["tree", "block"] (spPlace Z) := by
  refine F.ok sc_place_of (fun vs H Q E h => ?_) (fun cdv A outer s H vs Q E hr h => ?_)
  · obtain ⟨x, hs, k, rfl, _⟩ := h
    rfl
  · obtain ⟨x, hs, k, rfl, ht, h1, h2, q⟩ := h
    refine ⟨_, (pss_cons (ps_if (pt_not (pt_val (pe_call G_is_block (hr.mono (by first | decide | omega)) (by rfl) C_is_block.g C_is_block.k C_is_block.b .nil pass0 (pa_cons (pv 0) (pa_cons (pv 1) pa_nil))))) (pss_one ps_never) pss_nil)
 (pss_one (ps_ret (pe_ix (ix_tupK (K := K) rfl) (pe_fldK (K := K) rfl (pv 0) rfl) (pe_op op_sub (pv 1) pe_int) (fun _ _ => rfl))))), ?_⟩
    walk_at "h0"
    refine ⟨x, hs, _, rfl, ht, True.intro, ?_⟩
    rw [num_nat (by omega) h2]
    have hat : atI (nats hs) ((k : Int) - 1) = some (.int (up hs k : Nat)) := by
      rw [show (k : Int) - 1 = ((k - 1 : Nat) : Int) by omega]
      exact nats_at (up_get h1 h2)
    walk_at "hs"
    obtain ⟨dx, t, e1, e2⟩ := ht
    have e3 : SqT K H t (nats hs) := .of e2
    refine ⟨x, _, dx, _, _, rfl, e1, T, N, rfl, ?_⟩
    walk_at "hs"
    exact q
def spParents (Z : Ad) : Sp := fun vs H Q _ => ∃ (x : Addr) (hs : List Nat) (k : Nat), vs = [.ref x, .int k] ∧ TreeAt Z H x hs ∧ IsTree hs ∧ 1 ≤ k ∧ k ≤ hs.length ∧ ∀ D H', Same H H' → H D = none → H' D = some (.tup (nats (way hs k))) → Q (.ref D) H'
theorem ok_parents {f : Addr} {fd : FuncData} (F : Fun K "parents" "parents" s_parents f fd) (B : Bl Z mg) {f_place_of : Addr} {fd_place_of : FuncData} (C_place_of : Cal K mg "place_of" f_place_of fd_place_of ["tree", "block"]) (G_place_of : FnOk P w K mg base CX0 3 f_place_of fd_place_of ["tree", "block"] (spPlace Z)) : FnOk P w K mg base CX0 4 f fd ["tree", "block"] (spParents Z) := by
  refine F.ok sc_parents (fun vs H Q E h => ?_) (fun cdv A outer s H vs Q E hr h => ?_)
  · obtain ⟨x, hs, k, rfl, _⟩ := h
    rfl
  · obtain ⟨x, hs, k, rfl, ht, it, h1, h2, q⟩ := h
    refine ⟨_, (pss_cons (ps_set (i := 2) sc_parents.nd rfl (Or.inl rfl) (pe_lst (pa_cons (pe_call G_place_of (hr.mono (by first | decide | omega)) (by rfl) C_place_of.g C_place_of.k C_place_of.b .nil pass0 (pa_cons (pv 0) (pa_cons (pv 1) pa_nil))) pa_nil)))
 (pss_cons (ps_while PassesOwn.never (pt_cmpR op_ne (pe_ix (ix_listK (K := K) rfl) (pv 2) (pe_un un_neg pe_int) (fun _ _ => rfl)) pe_int (nomark _)) (pss_one (ps_expr (pe_bmK (K := K) rfl PySem.F.plainAttrs_list PySem.F.slot_list_append PySem.F.type_list_append mt_append (pv 2) (pa_cons (pe_call G_place_of (hr.mono (by first | decide | omega)) (by rfl) C_place_of.g C_place_of.k C_place_of.b .nil pass0 (pa_cons (pv 0) (pa_cons (pe_ix (ix_listK (K := K) rfl) (pv 2) (pe_un un_neg pe_int) (fun _ _ => rfl)) pa_nil))) pa_nil)))))
 (pss_one (ps_ret (pe_callTy (call_tplK (K := K) rfl) (by rfl) B.b_tuple (by decide +kernel) (pa_cons (pv 2) pa_nil)))))), ?_⟩
    walk_at "h0"
    refine ⟨x, hs, k, rfl, ht, h1, h2, ?_⟩
    walk_at "hs"
    intro L hL
    walk_at "hs"
    refine ⟨fun m σ' H' => ∃ n : Nat, n + m = hs.length ∧ 1 ≤ n ∧ σ' = [some (.ref x), some (.int k), some (.ref L)] ∧ Same H H' ∧ (∀ j, j < n → upN hs j k ≠ 0) ∧ H' L = some (.lst (nats ((List.range n).map fun i => upN hs (i + 1) k))), ⟨hs.length - 1, 1, by omega, by omega, rfl, by walk_at "sm", fun j hj => ?_, upd_same⟩, ?_⟩
    · have e : j = 0 := by omega
      subst e
      show k ≠ 0
      omega
    · rintro m σ' H' ⟨n, hn, n1, rfl, s1, hz, eL⟩
      obtain ⟨n, rfl⟩ : ∃ n', n = n' + 1 := ⟨n - 1, by omega⟩
      have el : nats ((List.range (n + 1)).map fun i => upN hs (i + 1) k) = nats ((List.range n).map fun i => upN hs (i + 1) k) ++ [.int (upN hs (n + 1) k : Nat)] := by
        rw [List.range_succ, List.map_append, nats_append]
        rfl
      have hL1 : SqL K H' L (nats ((List.range (n + 1)).map fun i => upN hs (i + 1) k)) := .of eL
      have hat : atI (nats ((List.range (n + 1)).map fun i => upN hs (i + 1) k)) (-1) = some (.int (upN hs (n + 1) k : Nat)) := by
        rw [el]
        exact atI_last _ _
      walk_at "hs"
      refine x_isd (fun c => ?_) (fun c => ?_)
      · have c' : upN hs (n + 1) k ≠ 0 := fun e => c (by rw [e]; rfl)
        have hlt : n + 1 < hs.length := by
          refine Nat.lt_of_not_le fun hle => c' ?_
          exact upN_more (it.comes k h2) hle
        have hup := upN_le it.le (n + 1) k h2
        refine ⟨fun σ' H2 => σ' = [some (.ref x), some (.int k), some (.ref L)] ∧ Same H H2 ∧ H2 L = some (.lst (nats ((List.range (n + 1 + 1)).map fun i => upN hs (i + 1) k))), fun σ' H2 hN => ⟨m - 1, by omega, n + 1 + 1, by omega, by omega, hN.1, hN.2.1, fun j hj => ?_, hN.2.2⟩, ?_⟩
        · by_cases e : j = n + 1
          · rw [e]
            exact c'
          · exact hz j (by omega)
        · walk_at "hs"
          refine ⟨x, hs, upN hs (n + 1) k, rfl, ht.same s1, by omega, hup, ?_⟩
          walk_at "hs"
          refine x_append eL (by rw [nats_length, List.length_map, List.length_range]; exact szLt (by have := it.most; omega)) ?_
          walk_at "hs"
          refine ⟨rfl, by walk_at "sm", ?_⟩
          rw [upd_same, List.range_succ (n := n + 1), List.map_append, nats_append, List.map_cons, List.map_nil, upN_succ hs (n + 1)]
          rfl
      · have c' : upN hs (n + 1) k = 0 := by
          refine Decidable.byContradiction fun e => c fun e' => e ?_
          omega
        walk_at "hs"
        intro D hD
        refine q D _ (by walk_at "sm") (s1.free hD) ?_
        rw [upd_same, way, wayN_eq hs hs.length k (n + 1) hz c' (by omega)]
end
set_option maxRecDepth 100000
set_option maxHeartbeats 1000000
open PySem PySem.Spec L2


theorem sc_beneath : FnScope ["tree", "place", "blocks", "block"] ["tree", "place"] (defScope s_beneath) := ⟨rfl, rfl, rfl, by decide +kernel, rfl, by decide +kernel, by decide +kernel⟩
section
variable {P : Program} {w : World} {K : PySem.W.Frag} {mg : Str → Option Value} {base : Heap} {Z : Ad}
def spUnder (Z : Ad) : Sp := fun vs H Q _ => ∃ (x : Addr) (hs : List Nat) (p : Nat), vs = [.ref x, .int p] ∧ TreeAt Z H x hs ∧ IsTree hs ∧ p ≤ hs.length ∧ ∀ D H', Same H H' → H D = none → H' D = some (.tup (nats (kids hs p))) → Q (.ref D) H'
def spBeneath (Z : Ad) : Sp := fun vs H Q _ => ∃ (x : Addr) (hs : List Nat) (p : Nat), vs = [.ref x, .int p] ∧ TreeAt Z H x hs ∧ IsTree hs ∧ p ≤ hs.length ∧ ∀ D H', Same H H' → H D = none → H' D = some (.tup (nats (below hs p))) → Q (.ref D) H'
theorem ok_beneath {f : Addr} {fd : FuncData} (F : Fun K "beneath" "beneath" s_beneath f fd) (B : Bl Z mg) (T : Cls K Z.a_Tree) (N : NoAttr K Z.a_Tree "hung") {f_is_place : Addr} {fd_is_place : FuncData} (C_is_place : Cal K mg "is_place" f_is_place fd_is_place ["tree", "thing"]) (G_is_place : FnOk P w K mg base CX0 2 f_is_place fd_is_place ["tree", "thing"] (spIsB Z 0))
    {f_parents : Addr} {fd_parents : FuncData} (C_parents : Cal K mg "parents" f_parents fd_parents ["tree", "block"]) (G_parents : FnOk P w K mg base CX0 4 f_parents fd_parents ["tree", "block"] (spParents Z)) : FnOk P w K mg base CX0 5 f fd ["tree", "place"] (spBeneath Z) := by
  refine F.ok sc_beneath (fun vs H Q E h => ?_) (fun cdv A outer s H vs Q E hr h => ?_)
  · obtain ⟨x, hs, p, rfl, _⟩ := h
    rfl
  · obtain ⟨x, hs, p, rfl, ht, it, hp, q⟩ := h
    refine ⟨_, (pss_cons (ps_if (pt_not (pt_val (pe_call G_is_place (hr.mono (by first | decide | omega)) (by rfl) C_is_place.g C_is_place.k C_is_place.b .nil pass0 (pa_cons (pv 0) (pa_cons (pv 1) pa_nil))))) (pss_one ps_never) pss_nil)
 (pss_cons (ps_set (i := 2) sc_beneath.nd rfl (Or.inl rfl) (pe_callTy call_rng2 (by rfl) B.b_range (by decide +kernel) (pa_cons pe_int (pa_cons (pe_op op_add (pe_callB (call_lenK (K := K) rfl) (by rfl) B.b_len PySem.boot_len (pa_cons (pe_fldK (K := K) rfl (pv 0) rfl) pa_nil)) pe_int) pa_nil))))
 (pss_one (ps_ret (pe_callTy (call_tplK (K := K) rfl) (by rfl) B.b_tuple (by decide +kernel) (pa_cons (pe_lc (own := [("block", 3)]) rfl sc_beneath.nd (pi_rngV (pv 2)) (blkOk_by (N := ["tree", "place", "blocks", "block"]) (sc := defScope s_beneath) (by decide +kernel)) (fun _ _ _ _ _ => (pg_name (i := 3) sc_beneath.nd rfl (Or.inl rfl))) (fun _ _ _ _ _ => (pts_one (pt_cmpR (op_inK (K := K) rfl) (pv 1) (pe_call G_parents (hr.mono (by first | decide | omega)) (by rfl) C_parents.g C_parents.k C_parents.b .nil pass0 (pa_cons (pv 0) (pa_cons (pv 3) pa_nil))) (by rfl)))) (fun _ _ _ _ _ => (pv 3))) pa_nil)))))), ?_⟩
    walk_at "h0"
    refine ⟨x, hs, _, rfl, ht, True.intro, ?_⟩
    rw [num_nat (by omega) hp]
    walk_at "hs"
    obtain ⟨dx, t, h1, h2⟩ := id ht
    have h3 : SqT K H t (nats hs) := .of h2
    refine ⟨x, _, dx, _, _, rfl, h1, T, N, rfl, ?_⟩
    walk_at "hs"
    rw [nats_length]
    intro R hR
    walk_at "hs"
    have := it.most
    refine ⟨R, _, _, rfl, upd_same, ⟨by omega, by omega, by omega, by omega⟩, fun D hD => ?_⟩
    have nD : H D = none := Same.free (same_new (Same.refl _) hR) hD
    have en : Int.toNat ((hs.length : Int) + 1 - 1) = hs.length := by omega
    refine lc_range (lo := 1) (n := Int.toNat ((hs.length : Int) + 1 - 1)) (fun i H' => Same H H' ∧ H' D = some (.lst (nats ((List.range' 1 i).filter fun b => decide (p ∈ way hs b)))))
      ⟨same_mut (same_new (Same.refl _) hR) nD, upd_same⟩ ?_ ?_
    · rintro i H' hi ⟨s1, eD⟩
      walk_at "hs"
      refine ⟨rfl, ?_⟩
      walk_at "hs"
      have ec : ((1 : Int) + (i : Int)) = ((i + 1 : Nat) : Int) := by omega
      refine ⟨x, hs, i + 1, by rw [ec]; rfl, ht.same s1, it, by omega, by omega, fun U H2 s2 nU eU => ?_⟩
      have eD2 := s2 _ _ eD
      refine x_inNT (.of eU) ?_
      walk_at "hs"
      refine x_isd (fun c => ?_) (fun c => ?_)
      · walk_at "hs"
        refine ⟨_, eD2, by rw [nats_length]; exact szLt (by have := filter_len (fun b => decide (p ∈ way hs b)) i; omega), same_mut (s1.trans s2) nD, ?_⟩
        rw [upd_same, filter_snoc, if_pos (decide_eq_true c), nats_append, ec]
        rfl
      · refine ⟨s1.trans s2, ?_⟩
        rw [eD2, filter_snoc, if_neg (by rw [decide_eq_true_eq]; exact c), List.append_nil]
    · rintro H' ⟨s1, eD⟩
      rw [en] at eD
      have hL : SqL K H' D _ := .of eD
      walk_at "hs"
      intro U hU
      exact q U _ (by walk_at "sm") (s1.free hU) upd_same
def spWay (K : PySem.W.Frag) : Sp := fun vs H Q _ => ∃ (t : Addr) (hs : List Nat) (k : Nat), vs = [.ref t, .int k] ∧ SqT K H t (nats hs) ∧ (∀ x ∈ hs, x ≤ hs.length) ∧ hs.length ≤ 40 ∧ k ≤ hs.length ∧ ∀ D H', Same H H' → H D = none → H' D = some (.lst (nats (way hs k))) → Q (.ref D) H'
end
set_option maxRecDepth 100000
set_option maxHeartbeats 2000000
open PySem PySem.Spec L2


theorem sc_moved : FnScope ["tree", "block", "place"] ["tree", "block", "place"] (defScope s_moved) := ⟨rfl, rfl, rfl, by decide +kernel, rfl, by decide +kernel, by decide +kernel⟩
section
variable {P : Program} {w : World} {K : PySem.W.Frag} {mg : Str → Option Value} {base : Heap} {Z : Ad}
def spOrd (K : PySem.W.Frag) (Z : Ad) : Sp := fun vs H Q _ => ∃ (x t : Addr) (hs ms : List Nat), vs = [.ref x, .ref t] ∧ TreeAt Z H x hs ∧ IsTree hs ∧ SqT K H t (nats ms) ∧ IsOrd hs.length ms ∧ ∀ H', Same H H' → Q (.bl true) H'
def spCalled (K : PySem.W.Frag) (Z : Ad) : Sp := fun vs H Q _ => ∃ (x t : Addr) (hs ms : List Nat), vs = [.ref x, .ref t] ∧ TreeAt Z H x hs ∧ IsTree hs ∧ SqT K H t (nats ms) ∧ IsOrd hs.length ms ∧ ∀ m H', Same H H' → H m = none → TreeAt Z H' m (call2 hs ms) → Q (.ref m) H'
def spMoved (Z : Ad) : Sp := fun vs H Q E => ∃ (x : Addr) (hs : List Nat) (b p : Nat), vs = [.ref x, .int b, .int p] ∧ TreeAt Z H x hs ∧ IsTree hs ∧ 1 ≤ b ∧ b ≤ hs.length ∧ p ≤ hs.length ∧
  (p ≠ b → b ∉ way hs p → ∀ m H', Same H H' → H m = none → TreeAt Z H' m (put hs b p) → Q (.ref m) H') ∧ ((p = b ∨ b ∈ way hs p) → ∀ H', Same H H' → E (.ref Z.a_Beneath) none H')
theorem ok_moved {f fI : Addr} {fd : FuncData} (F : Fun K "moved" "moved" s_moved f fd) (B : Bl Z mg) (T : Cls K Z.a_Tree) (N : NoAttr K Z.a_Tree "hung") (X_Beneath : SupC P K Z.a_Beneath fI) {f_is_block : Addr} {fd_is_block : FuncData} (C_is_block : Cal K mg "is_block" f_is_block fd_is_block ["tree", "thing"]) (G_is_block : FnOk P w K mg base CX0 2 f_is_block fd_is_block ["tree", "thing"] (spIsB Z 1))
    {f_is_place : Addr} {fd_is_place : FuncData} (C_is_place : Cal K mg "is_place" f_is_place fd_is_place ["tree", "thing"]) (G_is_place : FnOk P w K mg base CX0 2 f_is_place fd_is_place ["tree", "thing"] (spIsB Z 0)) {f_beneath : Addr} {fd_beneath : FuncData} (C_beneath : Cal K mg "beneath" f_beneath fd_beneath ["tree", "place"]) (G_beneath : FnOk P w K mg base CX0 5 f_beneath fd_beneath ["tree", "place"] (spBeneath Z))
    {f_Tree___init__ : Addr} {fd_Tree___init__ : FuncData} (C_Tree___init__ : CalM K f_Tree___init__ fd_Tree___init__ ["self", "hung"]) (G_Tree___init__ : FnOk P w K mg base (L2.CX P w) 3 f_Tree___init__ fd_Tree___init__ ["self", "hung"] (spTree Z)) (M_Tree : Mk K Z.a_Tree f_Tree___init__) : FnOk P w K mg base (L2.CX P w) 6 f fd ["tree", "block", "place"] (spMoved Z) := by
  refine F.okX sc_moved (fun vs H Q E h => ?_) (fun cdv A outer s H vs Q E hr h => ?_)
  · obtain ⟨x, hs, b, p, rfl, _⟩ := h
    rfl
  · obtain ⟨x, hs, b, p, rfl, ht, it, b1, b2, hp, q, qe⟩ := h
    refine ⟨_, (pss_cons (ps_if (pt_not (pt_val (pe_call G_is_block (hr.mono (by first | decide | omega)) (by rfl) C_is_block.g C_is_block.k C_is_block.b .nil pass0 (pa_cons (pv 0) (pa_cons (pv 1) pa_nil))))) (pss_one ps_never) pss_nil)
 (pss_cons (ps_if (pt_not (pt_val (pe_call G_is_place (hr.mono (by first | decide | omega)) (by rfl) C_is_place.g C_is_place.k C_is_place.b .nil pass0 (pa_cons (pv 0) (pa_cons (pv 2) pa_nil))))) (pss_one ps_never) pss_nil)
 (pss_cons (ps_if (PW.pt (pw_or (pt_cmpR op_eq (pv 2) (pv 1) (nomark _)) (pw_or1 (pt_cmpR (op_inK (K := K) rfl) (pv 2) (pe_call G_beneath (hr.mono (by first | decide | omega)) (by rfl) C_beneath.g C_beneath.k C_beneath.b .nil pass0 (pa_cons (pv 0) (pa_cons (pv 1) pa_nil))) (by rfl))))) (pss_one (ps_raise rfl (takes_of rfl rfl rfl rfl) (pmk_sup X_Beneath (hr.mono (by first | decide | omega)) (by rfl) B.k_Beneath B.b_super))) pss_nil)
 (pss_one (ps_ret (pe_make M_Tree G_Tree___init__ (hr.mono (by first | decide | omega)) (by rfl) B.k_Tree C_Tree___init__.b .nil passE (pa_cons (pe_op (op_catAK (K := K) rfl) (pe_op (op_catAK (K := K) rfl) (pe_slice (sl_tupAK (K := K) rfl) (pe_fldK (K := K) rfl (pv 0) rfl) po_none (po_some (pe_op op_sub (pv 1) pe_int))) (pe_tup (pa_cons (pv 2) pa_nil))) (pe_slice (sl_tupAK (K := K) rfl) (pe_fldK (K := K) rfl (pv 0) rfl) (po_some (pv 1)) po_none)) pa_nil))))))), ?_⟩
    walk_at "h0"
    refine ⟨x, hs, _, rfl, ht, True.intro, ?_⟩
    rw [num_nat (by omega) b2]
    walk_at "hs"
    refine ⟨x, hs, _, rfl, ht, True.intro, ?_⟩
    rw [num_nat (by omega) hp]
    walk_at "hs"
    have dz : decide ((p : Int) = (b : Int)) = decide (p = b) := by
      rw [decide_eq_decide]
      omega
    refine x_isd (fun c => ?_) (fun c => ?_)
    · walk_at "hs"
      exact qe (.inl (by omega)) _ (Same.refl _)
    · have c' : p ≠ b := fun e => c (by rw [e])
      walk_at "hs"
      refine ⟨x, hs, b, rfl, ht, it, b2, fun D H1 s1 nD eD => ?_⟩
      refine x_inNT (.of eD) ?_
      walk_at "hs"
      refine x_isd (fun c2 => ?_) (fun c2 => ?_)
      · have c3 := (below_mem hp).mp c2
        walk_at "hs"
        exact qe (.inr c3) _ s1
      · have c3 : b ∉ way hs p := fun h => c2 ((below_mem hp).mpr h)
        walk_at "hs"
        refine x_make ?_
        walk_at "hs"
        have := it.most
        have nl := nats_length hs
        obtain ⟨dx, u, h1, h2⟩ := ht.same s1
        refine ⟨x, _, dx, _, _, rfl, h1, T, N, rfl, ?_⟩
        walk_at "hs"
        refine x_slA h2 fun D2 H2 s2 e2 => ?_
        rw [show ((b : Int) - 1) = ((b - 1 : Nat) : Int) by omega, cut_take] at e2
        walk_at "hs"
        intro p1 n1
        walk_at "hs"
        refine x_catA (keepN e2 n1) upd_same (by rw [List.length_take, List.length_cons, List.length_nil]; omega) fun D3 H3 s3 e3 => ?_
        have s13 : Same H1 H3 := fun a o e => s3 _ _ (keepN (s2 _ _ e) n1)
        walk_at "hs"
        refine ⟨x, _, dx, _, _, rfl, s13 _ _ h1, T, N, rfl, ?_⟩
        walk_at "hs"
        refine x_slA (s13 _ _ h2) fun D4 H4 s4 e4 => ?_
        rw [cut_drop] at e4
        refine x_catA (s4 _ _ e3) e4 (by rw [List.length_append, List.length_take, List.length_drop, List.length_cons, List.length_nil]; omega) fun D5 H5 s5 e5 => ?_
        rw [put_cut b1 b2] at e5
        walk_at "hs"
        refine make_tree (Q := Q) (put_tree it b1 b2 hp c' c3) e5 fun m H6 nm s6 tr => ?_
        have s05 : Same H H5 := fun a o e => s5 _ _ (s4 _ _ (s13 _ _ (s1 _ _ e)))
        exact q c' c3 m H6 (s05.trans s6) (s05.free nm) tr
end
set_option maxRecDepth 100000
set_option maxHeartbeats 1000000
open PySem PySem.Spec L2


theorem sc__law_is_whole : FnScope ["_law_thing", "_law_least", "_law_most"] ["_law_thing", "_law_least", "_law_most"] (defScope s__law_is_whole) := ⟨rfl, rfl, rfl, by decide +kernel, rfl, by decide +kernel, by decide +kernel⟩
theorem sc_is_pair : FnScope ["thing"] ["thing"] (defScope s_is_pair) := ⟨rfl, rfl, rfl, by decide +kernel, rfl, by decide +kernel, by decide +kernel⟩
def tupOf (H : Hp) : V → Option (List V)
  | .ref a => match H a with
    | some (.tup xs) => some xs
    | _ => none
  | _ => none
def isBlB : V → Bool
  | .bl _ => true
  | _ => false
def lenIs (H : Hp) (m : Int) (x : V) : Bool := match tupOf H x with
  | some xs => decide ((xs.length : Int) = m)
  | none => false
/-- a value of a known kind -/
def Kv (Z : Ad) (H : Hp) : V → Prop
  | .non => True
  | .bl _ => True
  | .int _ => True
  | .str _ => True
  | .ref a => (∃ xs, H a = some (.lst xs)) ∨ (∃ xs, H a = some (.tup xs)) ∨ (∃ kvs : List (Key × V), H a = some (.dK kvs)) ∨ ∃ dx fs, H a = some (.ins Z.a_Tree dx fs)
  | _ => False
def KvD (Z : Ad) (H : Hp) : Nat → V → Prop
  | 0, v => Kv Z H v
  | n + 1, v => Kv Z H v ∧ ∀ xs, tupOf H v = some xs → ∀ x ∈ xs, KvD Z H n x
theorem KvD.kv {Z : Ad} {H : Hp} {n : Nat} {v : V} (h : KvD Z H n v) : Kv Z H v := by
  cases n with
  | zero => exact h
  | succ n => exact h.1
theorem Kv.some {Z : Ad} {H : Hp} {a : Addr} (h : Kv Z H (.ref a)) : ∃ o, H a = some o := by
  rcases h with ⟨x, e⟩ | ⟨x, e⟩ | ⟨x, e⟩ | ⟨x, y, e⟩ <;> exact ⟨_, e⟩
theorem tupOf_same {Z : Ad} {H H' : Hp} {v : V} (s : Same H H') (k : Kv Z H v) : tupOf H' v = tupOf H v := by
  cases v with
  | ref a =>
    obtain ⟨o, e⟩ := k.some
    show (match H' a with | some (.tup xs) => some xs | _ => none) = (match H a with | some (.tup xs) => some xs | _ => none)
    rw [s _ _ e, e]
  | _ => rfl
theorem Kv.same {Z : Ad} {H H' : Hp} {v : V} (s : Same H H') (k : Kv Z H v) : Kv Z H' v := by
  cases v with
  | ref a =>
    rcases k with ⟨x, e⟩ | ⟨x, e⟩ | ⟨x, e⟩ | ⟨x, y, e⟩
    · exact .inl ⟨x, s _ _ e⟩
    · exact .inr (.inl ⟨x, s _ _ e⟩)
    · exact .inr (.inr (.inl ⟨x, s _ _ e⟩))
    · exact .inr (.inr (.inr ⟨x, y, s _ _ e⟩))
  | _ => exact k
theorem KvD.same {Z : Ad} {H H' : Hp} (s : Same H H') : ∀ {n : Nat} {v : V}, KvD Z H n v → KvD Z H' n v
  | 0, _, h => Kv.same s h
  | n + 1, v, h => ⟨h.1.same s, fun xs e x hx => by
    rw [tupOf_same s h.1] at e
    exact (h.2 xs e x hx).same s⟩
/-- what is asked of the class of words, for isinstance -/
structure InsK (K : PySem.W.Frag) (Z : Ad) : Prop where
  i : IsC K Z.a_Tree
  k : ∀ T : String, T = "int" ∨ T = "bool" ∨ T = "tuple" ∨ T = "list" → PySem.W.kitOne K (.ref Z.a_Tree) (.type T) = some false
section
variable {P : Program} {w : World} {K : PySem.W.Frag} {mg : Str → Option Value} {base : Heap} {Z : Ad}
theorem isi_insTy {H : Hp} {Q : VK} {a C dx : Addr} {fs : List (Str × V)} {T : String} {b : Bool} (c : IsC K C) (k : PySem.W.kitOne K (.ref C) (.type T) = some b) (h : H a = some (.ins C dx fs)) (q : Q (.bl b) H) : rIsi K [.ref a, .ty T] H Q := ⟨.ref a, .ty T, .ref C, .type T, b, rfl, .ty _, .base (.ins h c.cl c.ha c.hn c.ht c.hm), k, q⟩
theorem kv_tuple {H : Hp} {Q : VK} {x : V} (I : InsK K Z) (k : Kv Z H x) (q : Q (.bl (tupOf H x).isSome) H) : rIsi K [x, .ty "tuple"] H Q := by
  cases x with
  | non => exact isi_non_tuple q
  | bl b => exact isi_bl_tuple q
  | int b => exact isi_int_tuple q
  | str b => exact isi_str_tuple q
  | ref a =>
    have e : tupOf H (.ref a) = match H a with | some (.tup xs) => some xs | _ => none := rfl
    rcases k with ⟨xs, h⟩ | ⟨xs, h⟩ | ⟨xs, h⟩ | ⟨dx, fs, h⟩
    · rw [e, h] at q
      exact isi_lst_tuple h q
    · rw [e, h] at q
      exact isi_tup_tuple h q
    · rw [e, h] at q
      exact isi_dK_tuple h q
    · rw [e, h] at q
      exact isi_insTy I.i (I.k _ (.inr (.inr (.inl rfl)))) h q
  | _ => exact k.elim
def isIntB : V → Bool
  | .int _ => true
  | .bl _ => true
  | _ => false
theorem kv_int {H : Hp} {Q : VK} {x : V} (I : InsK K Z) (k : Kv Z H x) (q : Q (.bl (isIntB x)) H) : rIsi K [x, .ty "int"] H Q := by
  cases x with
  | non => exact isi_non_int q
  | bl b => exact isi_bl_int q
  | int b => exact isi_int_int q
  | str b => exact isi_str_int q
  | ref a =>
    rcases k with ⟨xs, h⟩ | ⟨xs, h⟩ | ⟨xs, h⟩ | ⟨dx, fs, h⟩
    · exact isi_lst_int h q
    · exact isi_tup_int h q
    · exact isi_dK_int h q
    · exact isi_insTy I.i (I.k _ (.inl rfl)) h q
  | _ => exact k.elim
theorem kv_bool {H : Hp} {Q : VK} {x : V} (I : InsK K Z) (k : Kv Z H x) (q : Q (.bl (isBlB x)) H) : rIsi K [x, .ty "bool"] H Q := by
  cases x with
  | non => exact isi_non_bool q
  | bl b => exact isi_bl_bool q
  | int b => exact isi_int_bool q
  | str b => exact isi_str_bool q
  | ref a =>
    rcases k with ⟨xs, h⟩ | ⟨xs, h⟩ | ⟨xs, h⟩ | ⟨dx, fs, h⟩
    · exact isi_lst_bool h q
    · exact isi_tup_bool h q
    · exact isi_dK_bool h q
    · exact isi_insTy I.i (I.k _ (.inr (.inl rfl))) h q
  | _ => exact k.elim
theorem tupOf_ref {H : Hp} {x : V} {xs : List V} (h : tupOf H x = some xs) : ∃ a, x = .ref a ∧ H a = some (.tup xs) := by
  cases x with
  | ref a =>
    have e : (match H a with | some (.tup xs) => some xs | _ => none) = some xs := h
    cases ha : H a with
    | none => rw [ha] at e; cases e
    | some o =>
      rw [ha] at e
      cases o with
      | tup ys =>
        cases e
        exact ⟨a, rfl, ha⟩
      | _ => cases e
  | _ => cases h
def spWithinK (Z : Ad) : Sp := fun vs H Q _ => ∃ (x : V) (lo hi : Int), vs = [.int lo, .int hi, x] ∧ Kv Z H x ∧ Q (.bl (numV lo hi x)) H
theorem ok_withinK {f : Addr} {fd : FuncData} (F : Fun K "is_within" "is_within" s_is_within f fd) (B : Bl Z mg) (I : InsK K Z) : FnOk P w K mg base CX0 1 f fd ["least", "most", "thing"] (spWithinK Z) := by
  refine F.ok sc_is_within (fun vs H Q E h => ?_) (fun cdv A outer s H vs Q E hr h => ?_)
  · obtain ⟨x, lo, hi, rfl, _⟩ := h
    rfl
  · obtain ⟨x, lo, hi, rfl, hk, q⟩ := h
    refine ⟨_, (pss_cons (ps_if (PW.pt (pw_or (pt_not (pt_val (pe_callB (call_isiK' (K := K) rfl) (by rfl) B.b_isinstance (by decide +kernel) (pa_cons (pv 2) (pa_cons (pe_bltn (v := .ty "int") (by rfl) B.b_int (by decide +kernel) rfl) pa_nil))))) (pw_or1 (pt_val (pe_callB (call_isiK' (K := K) rfl) (by rfl) B.b_isinstance (by decide +kernel) (pa_cons (pv 2) (pa_cons (pe_bltn (v := .ty "bool") (by rfl) B.b_bool (by decide +kernel) rfl) pa_nil))))))) (pss_one (ps_ret pe_bl)) pss_nil)
 (pss_one (ps_ret (pe_chain op_le op_le (pv 0) (pv 2) (pv 1))))), ?_⟩
    walk_at "h0"
    refine kv_int I hk ?_
    cases x with
    | bl b =>
      dsimp only [isIntB]
      walk_at "hs"
      exact q
    | int i =>
      dsimp only [isIntB]
      walk_at "hs"
      refine x_isd (fun c => ?_) (fun c => ?_)
      · walk_at "hs"
        have e : numV lo hi (.int i) = decide (i ≤ hi) := numT c
        rw [← e]
        exact q
      · have e : numV lo hi (.int i) = false := numF c
        rw [e] at q
        exact q
    | non =>
      dsimp only [isIntB]
      walk_at "hs"
      exact q
    | str s =>
      dsimp only [isIntB]
      walk_at "hs"
      exact q
    | ref a =>
      dsimp only [isIntB]
      walk_at "hs"
      exact q
    | _ => exact hk.elim
def spWholeK (Z : Ad) : Sp := fun vs H Q _ => ∃ (x : V) (lo hi : Int), vs = [x, .int lo, .int hi] ∧ Kv Z H x ∧ Q (.bl (numV lo hi x)) H
theorem ok_wholeK {f : Addr} {fd : FuncData} (F : Fun K "_law_is_whole" "_law_is_whole" s__law_is_whole f fd) (B : Bl Z mg) (I : InsK K Z) : FnOk P w K mg base CX0 1 f fd ["_law_thing", "_law_least", "_law_most"] (spWholeK Z) := by
  refine F.ok sc__law_is_whole (fun vs H Q E h => ?_) (fun cdv A outer s H vs Q E hr h => ?_)
  · obtain ⟨x, lo, hi, rfl, _⟩ := h
    rfl
  · obtain ⟨x, lo, hi, rfl, hk, q⟩ := h
    refine ⟨_, (pss_one (ps_ret (pe_and (pe_callB (call_isiK' (K := K) rfl) (by rfl) B.b_isinstance (by decide +kernel) (pa_cons (pv 0) (pa_cons (pe_bltn (v := .ty "int") (by rfl) B.b_int (by decide +kernel) rfl) pa_nil))) (pe_and (pe_not (pe_callB (call_isiK' (K := K) rfl) (by rfl) B.b_isinstance (by decide +kernel) (pa_cons (pv 0) (pa_cons (pe_bltn (v := .ty "bool") (by rfl) B.b_bool (by decide +kernel) rfl) pa_nil)))) (pe_one (pe_chain op_le op_le (pv 1) (pv 0) (pv 2))))))), ?_⟩
    walk_at "h0"
    refine kv_int I hk ?_
    cases x with
    | bl b =>
      dsimp only [isIntB]
      walk_at "hs"
      exact q
    | int i =>
      dsimp only [isIntB]
      walk_at "hs"
      refine x_isd (fun c => ?_) (fun c => ?_)
      · walk_at "hs"
        have e : numV lo hi (.int i) = decide (i ≤ hi) := numT c
        rw [← e]
        exact q
      · have e : numV lo hi (.int i) = false := numF c
        rw [e] at q
        exact q
    | non =>
      dsimp only [isIntB]
      walk_at "hs"
      exact q
    | str s =>
      dsimp only [isIntB]
      walk_at "hs"
      exact q
    | ref a =>
      dsimp only [isIntB]
      walk_at "hs"
      exact q
    | _ => exact hk.elim
end
theorem lenIs_none {H : Hp} {m : Int} {x : V} (h : tupOf H x = none) : lenIs H m x = false := by
  unfold lenIs
  rw [h]
theorem lenIs_some {H : Hp} {m : Int} {x : V} {xs : List V} (h : tupOf H x = some xs) : lenIs H m x = decide ((xs.length : Int) = m) := by
  unfold lenIs
  rw [h]
/-- all stands but what lists hold -/
def LsB (H H' : Hp) : Prop := ∀ a o, H a = some o → H' a = some o ∨ ∃ xs ys, o = .lst xs ∧ H' a = some (.lst ys)
theorem LsB.of_same {H H' : Hp} (s : Same H H') : LsB H H' := fun a o e => .inl (s _ _ e)
theorem LsB.of_but {H H' : Hp} {p : Addr} {F F' : Addr → Prop} (b : But p H H') (h : PoolAt H p F) (h' : PoolAt H' p F') : LsB H H' := fun a o e => by
  by_cases z : a = p
  · subst z
    obtain ⟨xs, e1⟩ := h.lst
    obtain ⟨ys, e2⟩ := h'.lst
    rw [e1] at e
    exact .inr ⟨xs, ys, (Option.some.inj e).symm, e2⟩
  · exact .inl (b _ _ z e)
theorem LsB.mut {H : Hp} {p : Addr} {xs ys : List V} (h : H p = some (.lst xs)) : LsB H (upd H p (.lst ys)) := fun a o e => by
  by_cases z : a = p
  · subst z
    rw [h] at e
    exact .inr ⟨xs, ys, (Option.some.inj e).symm, upd_same⟩
  · exact .inl (by rw [upd_ne z]; exact e)
theorem tupOf_lsb {Z : Ad} {H H' : Hp} {v : V} (s : LsB H H') (k : Kv Z H v) : tupOf H' v = tupOf H v := by
  cases v with
  | ref a =>
    obtain ⟨o, e⟩ := k.some
    show (match H' a with | some (.tup xs) => some xs | _ => none) = (match H a with | some (.tup xs) => some xs | _ => none)
    rcases s _ _ e with e2 | ⟨xs, ys, rfl, e2⟩
    · rw [e, e2]
    · rw [e, e2]
  | _ => rfl
theorem kv_lsb {Z : Ad} {H H' : Hp} {v : V} (s : LsB H H') (k : Kv Z H v) : Kv Z H' v := by
  cases v with
  | ref a =>
    have go : ∀ o, H a = some o → (∀ xs, o ≠ .lst xs) → H' a = some o := fun o e n => by
      rcases s _ _ e with e2 | ⟨xs, ys, e1, _⟩
      · exact e2
      · exact (n _ e1).elim
    rcases k with ⟨x, e⟩ | ⟨x, e⟩ | ⟨x, e⟩ | ⟨x, y, e⟩
    · rcases s _ _ e with e2 | ⟨xs, ys, _, e2⟩
      · exact .inl ⟨x, e2⟩
      · exact .inl ⟨ys, e2⟩
    · exact .inr (.inl ⟨x, go _ e fun _ z => by cases z⟩)
    · exact .inr (.inr (.inl ⟨x, go _ e fun _ z => by cases z⟩))
    · exact .inr (.inr (.inr ⟨x, y, go _ e fun _ z => by cases z⟩))
  | _ => exact k
theorem kvd_lsb {Z : Ad} {H H' : Hp} (s : LsB H H') : ∀ {n : Nat} {v : V}, KvD Z H n v → KvD Z H' n v
  | 0, _, h => kv_lsb s h
  | n + 1, v, h => ⟨kv_lsb s h.1, fun xs e x hx => by
    rw [tupOf_lsb s h.1] at e
    exact kvd_lsb s (h.2 xs e x hx)⟩
def tupO : HO → Option (List V)
  | .tup xs => some xs
  | _ => none
theorem tupOf_at {H : Hp} {a : Addr} {o : HO} (h : H a = some o) : tupOf H (.ref a) = tupO o := by
  show (match H a with | some (.tup xs) => some xs | _ => none) = _
  rw [h]
  cases o <;> rfl
theorem kvd_tupN {Z : Ad} {H : Hp} {a : Addr} {xs : List V} {n : Nat} (h : H a = some (.tup xs)) (k : ∀ x ∈ xs, KvD Z H n x) : KvD Z H (n + 1) (.ref a) :=
  ⟨.inr (.inl ⟨_, h⟩), fun ys e x hx => by
    rw [tupOf_at h] at e
    cases e
    exact k x hx⟩
theorem kvd_tup {Z : Ad} {H : Hp} {a : Addr} {xs : List V} (h : H a = some (.tup xs)) (k : ∀ x ∈ xs, ∀ n, KvD Z H n x) : ∀ n, KvD Z H n (.ref a)
  | 0 => .inr (.inl ⟨_, h⟩)
  | n + 1 => kvd_tupN h fun x hx => k x hx n
theorem kvd_lst {Z : Ad} {H : Hp} {a : Addr} {xs : List V} (h : H a = some (.lst xs)) : ∀ n, KvD Z H n (.ref a)
  | 0 => .inl ⟨_, h⟩
  | n + 1 => ⟨.inl ⟨_, h⟩, fun ys e x hx => by
    rw [tupOf_at h] at e
    cases e⟩
theorem kvd_dK {Z : Ad} {H : Hp} {a : Addr} {kvs : List (Key × V)} (h : H a = some (.dK kvs)) : ∀ n, KvD Z H n (.ref a)
  | 0 => .inr (.inr (.inl ⟨_, h⟩))
  | n + 1 => ⟨.inr (.inr (.inl ⟨_, h⟩)), fun ys e x hx => by
    rw [tupOf_at h] at e
    cases e⟩
theorem kvd_ins {Z : Ad} {H : Hp} {a dx : Addr} {fs : List (Str × V)} (h : H a = some (.ins Z.a_Tree dx fs)) : ∀ n, KvD Z H n (.ref a)
  | 0 => .inr (.inr (.inr ⟨_, _, h⟩))
  | n + 1 => ⟨.inr (.inr (.inr ⟨_, _, h⟩)), fun ys e x hx => by
    rw [tupOf_at h] at e
    cases e⟩
theorem kvd_sca {Z : Ad} {H : Hp} {v : V} (h : sca v = true) : ∀ n, KvD Z H n v := by
  have k : Kv Z H v := by
    cases v with
    | non => exact trivial
    | bl b => exact trivial
    | int i => exact trivial
    | str s => exact trivial
    | _ => cases h
  have t : tupOf H v = none := by
    cases v with
    | ref a => cases h
    | _ => rfl
  intro n
  cases n with
  | zero => exact k
  | succ n => exact ⟨k, fun xs e x hx => by rw [t] at e; cases e⟩
theorem KvD.down {Z : Ad} {H : Hp} : ∀ {n : Nat} {v : V}, KvD Z H (n + 1) v → KvD Z H n v
  | 0, _, h => h.1
  | n + 1, _, h => ⟨h.1, fun xs e x hx => (h.2 xs e x hx).down⟩
set_option maxRecDepth 100000
set_option maxHeartbeats 2000000
open PySem PySem.Spec L2


theorem sc__law_deep : FnScope ["_law_kind", "_law_thing", "_law_turn"] ["_law_kind"] (defScope s__law_deep) := ⟨rfl, rfl, rfl, by decide +kernel, rfl, by decide +kernel, by decide +kernel⟩
/-- of a known kind through and through -/
def Kd (Z : Ad) (H : Hp) (v : V) : Prop := ∀ n, KvD Z H n v
theorem Kd.same {Z : Ad} {H H' : Hp} {v : V} (h : Kd Z H v) (s : Same H H') : Kd Z H' v := fun n => (h n).same s
theorem Kd.lsb {Z : Ad} {H H' : Hp} {v : V} (h : Kd Z H v) (s : LsB H H') : Kd Z H' v := fun n => kvd_lsb s (h n)
theorem kd_sca {Z : Ad} {H : Hp} {v : V} (h : sca v = true) : Kd Z H v := kvd_sca h
theorem kd_lst {Z : Ad} {H : Hp} {a : Addr} {xs : List V} (h : H a = some (.lst xs)) : Kd Z H (.ref a) := kvd_lst h
theorem kd_dK {Z : Ad} {H : Hp} {a : Addr} {kvs : List (Key × V)} (h : H a = some (.dK kvs)) : Kd Z H (.ref a) := kvd_dK h
theorem kd_tup {Z : Ad} {H : Hp} {a : Addr} {xs : List V} (h : H a = some (.tup xs)) (k : ∀ x ∈ xs, Kd Z H x) : Kd Z H (.ref a) := kvd_tup h k
theorem kd_tup1 {Z : Ad} {H : Hp} {a : Addr} {x : V} (h : H a = some (.tup [x])) (k : Kd Z H x) : Kd Z H (.ref a) := kd_tup h fun y hy => by rw [List.mem_singleton.mp hy]; exact k
theorem kd_tup2 {Z : Ad} {H : Hp} {a : Addr} {x y : V} (h : H a = some (.tup [x, y])) (k : Kd Z H x) (k2 : Kd Z H y) : Kd Z H (.ref a) := kd_tup h fun z hz => by
  rcases List.mem_cons.mp hz with rfl | hz
  · exact k
  · rw [List.mem_singleton.mp hz]; exact k2
theorem kd_tup3 {Z : Ad} {H : Hp} {a : Addr} {x y u : V} (h : H a = some (.tup [x, y, u])) (k : Kd Z H x) (k2 : Kd Z H y) (k3 : Kd Z H u) : Kd Z H (.ref a) := kd_tup h fun z hz => by
  rcases List.mem_cons.mp hz with rfl | hz
  · exact k
  · rcases List.mem_cons.mp hz with rfl | hz
    · exact k2
    · rw [List.mem_singleton.mp hz]; exact k3
section
variable {P : Program} {w : World} {K : PySem.W.Frag} {mg : Str → Option Value} {base : Heap} {Z : Ad}
def spDeepH (Z : Ad) : Sp := fun vs H Q _ => ∃ (k : Int), vs = [.int k] ∧ 0 ≤ k ∧ k < 3 ∧ ∀ v H', Same H H' → Kd Z H' v → Kn H' v → Q v H'
theorem ok_deepH {f : Addr} {fd : FuncData} (F : Fun K "_law_deep" "_law_deep" s__law_deep f fd) (B : Bl Z mg) : FnOk P w K mg base CX0 1 f fd ["_law_kind"] (spDeepH Z) := by
  refine F.ok sc__law_deep (fun vs H Q E h => ?_) (fun cdv A outer s H vs Q E hr h => ?_)
  · obtain ⟨k, rfl, _⟩ := h
    rfl
  · obtain ⟨k, rfl, k0, k1, q⟩ := h
    refine ⟨_, (pss_cons (ps_set (i := 1) sc__law_deep.nd rfl (Or.inl rfl) (pe_tup pa_nil))
 (pss_cons (ps_for PassesOwn.never rfl (pi_range1 rfl B.b_range (pa_cons pe_int pa_nil)) (pg_name (i := 2) sc__law_deep.nd rfl (Or.inl rfl)) (pss_one (ps_set (i := 1) sc__law_deep.nd rfl (Or.inl rfl) (pe_ix (ix_listK (K := K) rfl) (pe_lst (pa_cons (pe_tup (pa_cons (pe_tup (pa_cons (pv 1) pa_nil)) pa_nil)) (pa_cons (pe_lst (pa_cons (pe_lst (pa_cons (pv 1) pa_nil)) pa_nil)) (pa_cons (pe_tup (pa_cons pe_str (pa_cons (pe_lst (pa_cons (pv 1) pa_nil)) pa_nil))) pa_nil)))) (pv 0) (fun _ _ => rfl)))))
 (pss_one (ps_ret (pv 1))))), ?_⟩
    walk_at "h0"
    intro a0 n0
    have s0 : Same H (upd H a0 (.tup [])) := same_new (Same.refl _) n0
    have e0 : upd H a0 (.tup []) a0 = some (.tup []) := upd_same
    generalize upd H a0 (.tup []) = H0 at s0 e0 ⊢
    walk_at "hs"
    refine ⟨18, rfl, by decide, by decide, ?_⟩
    refine lp_range (lo := 0) (n := Int.toNat 18) (fun i σ' H' => ∃ (v : V) (x2 : Option V), σ' = [some (.int k), some v, x2] ∧ Same H H' ∧ Kd Z H' v ∧ Kn H' v)
      ⟨.ref a0, none, rfl, s0, kd_tup e0 (fun x hx => by cases hx), .inr (.inl ⟨_, e0⟩)⟩ ?_ ?_
    · rintro i σ' H1 hi ⟨v, x2, rfl, s1, kv, _⟩
      walk_at "hs"
      intro a1 n1
      have t1 : Same H1 (upd H1 a1 (.tup [v])) := same_new (Same.refl _) n1
      have e1 : upd H1 a1 (.tup [v]) a1 = some (.tup [v]) := upd_same
      generalize upd H1 a1 (.tup [v]) = G1 at t1 e1 ⊢
      walk_at "hs"
      intro a2 n2
      have t2 : Same G1 (upd G1 a2 (.tup [.ref a1])) := same_new (Same.refl _) n2
      have e2 : upd G1 a2 (.tup [.ref a1]) a2 = some (.tup [.ref a1]) := upd_same
      generalize upd G1 a2 (.tup [.ref a1]) = G2 at t2 e2 ⊢
      walk_at "hs"
      intro b1 n3
      have t3 : Same G2 (upd G2 b1 (.lst [v])) := same_new (Same.refl _) n3
      have e3 : upd G2 b1 (.lst [v]) b1 = some (.lst [v]) := upd_same
      generalize upd G2 b1 (.lst [v]) = G3 at t3 e3 ⊢
      walk_at "hs"
      intro b2 n4
      have t4 : Same G3 (upd G3 b2 (.lst [.ref b1])) := same_new (Same.refl _) n4
      have e4 : upd G3 b2 (.lst [.ref b1]) b2 = some (.lst [.ref b1]) := upd_same
      generalize upd G3 b2 (.lst [.ref b1]) = G4 at t4 e4 ⊢
      walk_at "hs"
      intro c1 n5
      have t5 : Same G4 (upd G4 c1 (.lst [v])) := same_new (Same.refl _) n5
      have e5 : upd G4 c1 (.lst [v]) c1 = some (.lst [v]) := upd_same
      generalize upd G4 c1 (.lst [v]) = G5 at t5 e5 ⊢
      walk_at "hs"
      intro c2 n6
      have t6 : Same G5 (upd G5 c2 (.tup [.str "rows", .ref c1])) := same_new (Same.refl _) n6
      have e6 : upd G5 c2 (.tup [.str "rows", .ref c1]) c2 = some (.tup [.str "rows", .ref c1]) := upd_same
      generalize upd G5 c2 (.tup [.str "rows", .ref c1]) = G6 at t6 e6 ⊢
      walk_at "hs"
      intro L nL
      have t7 : Same G6 (upd G6 L (.lst [.ref a2, .ref b2, .ref c2])) := same_new (Same.refl _) nL
      have eL : upd G6 L (.lst [.ref a2, .ref b2, .ref c2]) L = some (.lst [.ref a2, .ref b2, .ref c2]) := upd_same
      generalize upd G6 L (.lst [.ref a2, .ref b2, .ref c2]) = G7 at t7 eL ⊢
      have sL : SqL K G7 L [.ref a2, .ref b2, .ref c2] := .of eL
      obtain ⟨y, hv, hm⟩ := at_lt (xs := [V.ref a2, .ref b2, .ref c2]) k0 k1
      have t67 := t6.trans t7
      have t57 := t5.trans t67
      have t47 := t4.trans t57
      have t37 := t3.trans t47
      have t27 := t2.trans t37
      have t17 := t1.trans t27
      have kv7 := kv.same t17
      walk_at "hs"
      refine ⟨y, _, rfl, s1.trans t17, ?_, ?_⟩
      · simp only [List.mem_cons, List.not_mem_nil, or_false] at hm
        rcases hm with rfl | rfl | rfl
        · exact kd_tup1 (t37 _ _ e2) (kd_tup1 (t27 _ _ e1) kv7)
        · exact kd_lst (t57 _ _ e4)
        · exact kd_tup2 (t7 _ _ e6) (kd_sca rfl) (kd_lst (t67 _ _ e5))
      · simp only [List.mem_cons, List.not_mem_nil, or_false] at hm
        rcases hm with rfl | rfl | rfl
        · exact .inr (.inl ⟨_, t37 _ _ e2⟩)
        · exact .inl ⟨_, t57 _ _ e4⟩
        · exact .inr (.inl ⟨_, t7 _ _ e6⟩)
    · rintro σ' H1 ⟨v, x2, rfl, s1, kv, kn⟩
      walk_at "hs"
      exact q v H1 s1 kv kn
def spOddH (Z : Ad) : Sp := fun vs H Q _ => ∃ (p : Addr) (x : V) (F : Addr → Prop), vs = [.ref p, x] ∧ PoolAt H p F ∧ Kd Z H x ∧ ∀ v H', Kd Z H' v → (Kn H x → Kn H' v) → But p H H' → PoolAt H' p F → Q v H'
theorem ok_oddH {f : Addr} {fd : FuncData} (F : Fun K "_law_odd" "_law_odd" s__law_odd f fd) (B : Bl Z mg) {f__law_draw : Addr} {fd__law_draw : FuncData} (C__law_draw : Cal K mg "_law_draw" f__law_draw fd__law_draw ["_law_hand_here", "_law_many"]) (G__law_draw : FnOk P w K mg base CX0 1 f__law_draw fd__law_draw ["_law_hand_here", "_law_many"] spDraw) {f__law_deep : Addr} {fd__law_deep : FuncData} (C__law_deep : Cal K mg "_law_deep" f__law_deep fd__law_deep ["_law_kind"]) (G__law_deep : FnOk P w K mg base CX0 1 f__law_deep fd__law_deep ["_law_kind"] (spDeepH Z)) : FnOk P w K mg base CX0 2 f fd ["_law_hand_here", "_law_thing"] (spOddH Z) := by
  refine F.ok sc__law_odd (fun vs H Q E h => ?_) (fun cdv A outer s H vs Q E hr h => ?_)
  · obtain ⟨p, x, Fo, rfl, _⟩ := h
    rfl
  · obtain ⟨p, x, Fo, rfl, hp, kx, q⟩ := h
    refine ⟨_, (pss_cons (ps_set (i := 2) sc__law_odd.nd rfl (Or.inl rfl) (pe_lst (pa_cons pe_non (pa_cons pe_bl (pa_cons pe_bl (pa_cons pe_int (pa_cons (pe_un un_neg pe_int) (pa_cons pe_str (pa_cons pe_str (pa_cons (pe_tup pa_nil) (pa_cons (pe_lst pa_nil) (pa_cons pe_dnewK (pa_cons (pe_tup (pa_cons pe_int pa_nil)) (pa_cons (pe_tup (pa_cons (pe_tup (pa_cons pe_int (pa_cons pe_int pa_nil))) pa_nil)) (pa_cons (pe_tup (pa_cons pe_non pa_nil)) (pa_cons (pe_op op_pow pe_int pe_int) (pa_cons (pv 1) pa_nil)))))))))))))))))
 (pss_one (ps_ret (pe_ix (ix_listK (K := K) rfl) (pe_op op_cat (pv 2) (pe_lst (pa_cons (pe_call G__law_deep (hr.mono (by first | decide | omega)) (by rfl) C__law_deep.g C__law_deep.k C__law_deep.b .nil pass0 (pa_cons pe_int pa_nil)) (pa_cons (pe_call G__law_deep (hr.mono (by first | decide | omega)) (by rfl) C__law_deep.g C__law_deep.k C__law_deep.b .nil pass0 (pa_cons pe_int pa_nil)) (pa_cons (pe_call G__law_deep (hr.mono (by first | decide | omega)) (by rfl) C__law_deep.g C__law_deep.k C__law_deep.b .nil pass0 (pa_cons pe_int pa_nil)) pa_nil))))) (pe_call G__law_draw (hr.mono (by first | decide | omega)) (by rfl) C__law_draw.g C__law_draw.k C__law_draw.b .nil pass0 (pa_cons (pv 0) (pa_cons pe_int pa_nil))) (fun _ _ => rfl))))), ?_⟩
    walk_at "h0"
    intro a1 n1
    have t1 : Same H (upd H a1 (.tup [])) := same_new (Same.refl _) n1
    have e1 : upd H a1 (.tup []) a1 = some (.tup []) := upd_same
    generalize upd H a1 (.tup []) = G1 at t1 e1 ⊢
    walk_at "hs"
    intro a2 n2
    have t2 : Same G1 (upd G1 a2 (.lst [])) := same_new (Same.refl _) n2
    have e2 : upd G1 a2 (.lst []) a2 = some (.lst []) := upd_same
    generalize upd G1 a2 (.lst []) = G2 at t2 e2 ⊢
    walk_at "hs"
    intro a3 n3
    have t3 : Same G2 (upd G2 a3 (.dK [])) := same_new (Same.refl _) n3
    have e3 : upd G2 a3 (.dK []) a3 = some (.dK []) := upd_same
    generalize upd G2 a3 (.dK []) = G3 at t3 e3 ⊢
    walk_at "hs"
    intro a4 n4
    have t4 : Same G3 (upd G3 a4 (.tup [.int 0])) := same_new (Same.refl _) n4
    have e4 : upd G3 a4 (.tup [.int 0]) a4 = some (.tup [.int 0]) := upd_same
    generalize upd G3 a4 (.tup [.int 0]) = G4 at t4 e4 ⊢
    walk_at "hs"
    intro a5 n5
    have t5 : Same G4 (upd G4 a5 (.tup [.int 0, .int 1])) := same_new (Same.refl _) n5
    have e5 : upd G4 a5 (.tup [.int 0, .int 1]) a5 = some (.tup [.int 0, .int 1]) := upd_same
    generalize upd G4 a5 (.tup [.int 0, .int 1]) = G5 at t5 e5 ⊢
    walk_at "hs"
    intro a6 n6
    have t6 : Same G5 (upd G5 a6 (.tup [.ref a5])) := same_new (Same.refl _) n6
    have e6 : upd G5 a6 (.tup [.ref a5]) a6 = some (.tup [.ref a5]) := upd_same
    generalize upd G5 a6 (.tup [.ref a5]) = G6 at t6 e6 ⊢
    walk_at "hs"
    intro a7 n7
    have t7 : Same G6 (upd G6 a7 (.tup [.non])) := same_new (Same.refl _) n7
    have e7 : upd G6 a7 (.tup [.non]) a7 = some (.tup [.non]) := upd_same
    generalize upd G6 a7 (.tup [.non]) = G7 at t7 e7 ⊢
    walk_at "hs"
    intro L nL
    have t8 : Same G7 (upd G7 L (.lst [.non, .bl true, .bl false, .int 0, .int (-1), .str "0", .str "", .ref a1, .ref a2, .ref a3, .ref a4, .ref a6, .ref a7, .int (10 ^ Int.toNat 39), x])) := same_new (Same.refl _) nL
    have eL : upd G7 L (.lst [.non, .bl true, .bl false, .int 0, .int (-1), .str "0", .str "", .ref a1, .ref a2, .ref a3, .ref a4, .ref a6, .ref a7, .int (10 ^ Int.toNat 39), x]) L = some (.lst [.non, .bl true, .bl false, .int 0, .int (-1), .str "0", .str "", .ref a1, .ref a2, .ref a3, .ref a4, .ref a6, .ref a7, .int (10 ^ Int.toNat 39), x]) := upd_same
    generalize upd G7 L (.lst [.non, .bl true, .bl false, .int 0, .int (-1), .str "0", .str "", .ref a1, .ref a2, .ref a3, .ref a4, .ref a6, .ref a7, .int (10 ^ Int.toNat 39), x]) = G8 at t8 eL ⊢
    walk_at "hs"
    refine ⟨0, rfl, by decide, by decide, fun d0 G9 t9 k0 m0 => ?_⟩
    walk_at "hs"
    refine ⟨1, rfl, by decide, by decide, fun d1 G10 t10 k1 m1 => ?_⟩
    walk_at "hs"
    refine ⟨2, rfl, by decide, by decide, fun d2 G11 t11 k2 m2 => ?_⟩
    walk_at "hs"
    intro M nM
    have t12 : Same G11 (upd G11 M (.lst [d0, d1, d2])) := same_new (Same.refl _) nM
    have eM : upd G11 M (.lst [d0, d1, d2]) M = some (.lst [d0, d1, d2]) := upd_same
    generalize upd G11 M (.lst [d0, d1, d2]) = G12 at t12 eM ⊢
    have u12 := t11.trans t12
    have u11 := t10.trans u12
    have u10 := t9.trans u11
    have u9 := t8.trans u10
    have u8 := t7.trans u9
    have u7 := t6.trans u8
    have u6 := t5.trans u7
    have u5 := t4.trans u6
    have u4 := t3.trans u5
    have u3 := t2.trans u4
    have u2 := t1.trans u3
    refine x_cat (u10 _ _ eL) eM (szLe (by show 15 + 3 ≤ 100000; decide)) fun R hR => ?_
    have w1 := same_new (Same.refl G12) hR (o := .lst ([.non, .bl true, .bl false, .int 0, .int (-1), .str "0", .str "", .ref a1, .ref a2, .ref a3, .ref a4, .ref a6, .ref a7, .int (10 ^ Int.toNat 39), x] ++ [d0, d1, d2]))
    have eR := upd_same (H := G12) (a := R) (o := .lst ([.non, .bl true, .bl false, .int 0, .int (-1), .str "0", .str "", .ref a1, .ref a2, .ref a3, .ref a4, .ref a6, .ref a7, .int (10 ^ Int.toNat 39), x] ++ [d0, d1, d2]))
    have sR := u2.trans w1
    have pR := hp.same sR
    have nRp : R ≠ p := (hp.same u2).ne hR
    generalize upd G12 R _ = G at w1 eR sR pR ⊢
    have key : ∀ y ∈ [V.non, .bl true, .bl false, .int 0, .int (-1), .str "0", .str "", .ref a1, .ref a2, .ref a3, .ref a4, .ref a6, .ref a7, .int (10 ^ Int.toNat 39), x] ++ [d0, d1, d2], Kd Z G y ∧ (Kn H x → Kn G y) := fun y hy => by
      rcases List.mem_append.mp hy with hy | hy
      · simp only [List.mem_cons, List.not_mem_nil, or_false] at hy
        rcases hy with rfl | rfl | rfl | rfl | rfl | rfl | rfl | rfl | rfl | rfl | rfl | rfl | rfl | rfl | rfl
        · exact ⟨kd_sca rfl, fun _ => trivial⟩
        · exact ⟨kd_sca rfl, fun _ => trivial⟩
        · exact ⟨kd_sca rfl, fun _ => trivial⟩
        · exact ⟨kd_sca rfl, fun _ => trivial⟩
        · exact ⟨kd_sca rfl, fun _ => trivial⟩
        · exact ⟨kd_sca rfl, fun _ => trivial⟩
        · exact ⟨kd_sca rfl, fun _ => trivial⟩
        · have z := w1 _ _ (u3 _ _ e1)
          exact ⟨kd_tup z (fun x hx => by cases hx), fun _ => .inr (.inl ⟨_, z⟩)⟩
        · have z := w1 _ _ (u4 _ _ e2)
          exact ⟨kd_lst z, fun _ => .inl ⟨_, z⟩⟩
        · have z := w1 _ _ (u5 _ _ e3)
          exact ⟨kd_dK z, fun _ => .inr (.inr ⟨_, z⟩)⟩
        · have z := w1 _ _ (u6 _ _ e4)
          exact ⟨kd_tup1 z (kd_sca rfl), fun _ => .inr (.inl ⟨_, z⟩)⟩
        · have z := w1 _ _ (u8 _ _ e6)
          have z2 := w1 _ _ (u7 _ _ e5)
          exact ⟨kd_tup1 z (kd_tup2 z2 (kd_sca rfl) (kd_sca rfl)), fun _ => .inr (.inl ⟨_, z⟩)⟩
        · have z := w1 _ _ (u9 _ _ e7)
          exact ⟨kd_tup1 z (kd_sca rfl), fun _ => .inr (.inl ⟨_, z⟩)⟩
        · exact ⟨kd_sca rfl, fun _ => trivial⟩
        · exact ⟨kx.same sR, fun h => h.same sR⟩
      · simp only [List.mem_cons, List.not_mem_nil, or_false] at hy
        rcases hy with rfl | rfl | rfl
        · exact ⟨k0.same (u11.trans w1), fun _ => m0.same (u11.trans w1)⟩
        · exact ⟨k1.same (u12.trans w1), fun _ => m1.same (u12.trans w1)⟩
        · exact ⟨k2.same (t12.trans w1), fun _ => m2.same (t12.trans w1)⟩
    clear t1 t2 t3 t4 t5 t6 t7 t8 t9 t10 t11 t12 u3 u4 u5 u6 u7 u8 u9 u10 u11 u12 e1 e2 e3 e4 e5 e6 e7 eL eM w1 k0 k1 k2 m0 m1 m2
    walk_at "hs"
    refine ⟨p, 18, _, rfl, pR, by decide, by decide, fun d G2 g0 g1 b2 p2 => ?_⟩
    have sR2 := SqL.of (K := K) (b2 _ _ nRp eR)
    obtain ⟨y, hv, hm⟩ := at_lt (xs := [V.non, .bl true, .bl false, .int 0, .int (-1), .str "0", .str "", .ref a1, .ref a2, .ref a3, .ref a4, .ref a6, .ref a7, .int (10 ^ Int.toNat 39), x] ++ [d0, d1, d2]) g0 g1
    walk_at "hs"
    exact q y G2 ((key y hm).1.lsb (LsB.of_but b2 pR p2)) (fun h => ((key y hm).2 h).pool p2 b2) ((But.of sR).trans b2) p2
end
set_option maxRecDepth 100000
set_option maxHeartbeats 2000000
open PySem PySem.Spec L2


section
variable {P : Program} {w : World} {K : PySem.W.Frag} {mg : Str → Option Value} {base : Heap} {Z : Ad}
def spPairK (Z : Ad) : Sp := fun vs H Q _ => ∃ (x : V), vs = [x] ∧ Kv Z H x ∧ Q (.bl (lenIs H 2 x)) H
theorem ok_pairK {f : Addr} {fd : FuncData} (F : Fun K "is_pair" "is_pair" s_is_pair f fd) (B : Bl Z mg) (I : InsK K Z) : FnOk P w K mg base CX0 1 f fd ["thing"] (spPairK Z) := by
  refine F.ok sc_is_pair (fun vs H Q E h => ?_) (fun cdv A outer s H vs Q E hr h => ?_)
  · obtain ⟨x, rfl, _⟩ := h
    rfl
  · obtain ⟨x, rfl, hk, q⟩ := h
    refine ⟨_, (pss_one (ps_ret (pe_and (pe_callB (call_isiK' (K := K) rfl) (by rfl) B.b_isinstance (by decide +kernel) (pa_cons (pv 0) (pa_cons (pe_bltn (v := .ty "tuple") (by rfl) B.b_tuple (by decide +kernel) rfl) pa_nil))) (pe_one (pe_cmpR op_eq (pe_callB (call_lenK (K := K) rfl) (by rfl) B.b_len PySem.boot_len (pa_cons (pv 0) pa_nil)) pe_int (nomark _)))))), ?_⟩
    walk_at "h0"
    refine kv_tuple I hk ?_
    unfold lenIs at q
    cases e : tupOf H x with
    | none =>
      rw [e] at q
      dsimp only [Option.isSome_none]
      walk_at "hs"
      exact q
    | some xs =>
      rw [e] at q
      obtain ⟨a, rfl, ha⟩ := tupOf_ref e
      dsimp only [Option.isSome_some]
      walk_at "hs"
      exact q
def spIsBK (Z : Ad) (lo : Int) : Sp := fun vs H Q _ => ∃ (x : Addr) (hs : List Nat) (v : V), vs = [.ref x, v] ∧ TreeAt Z H x hs ∧ Kv Z H v ∧ Q (.bl (numV lo hs.length v)) H
theorem ok_isBlockK {f : Addr} {fd : FuncData} (F : Fun K "is_block" "is_block" s_is_block f fd) (B : Bl Z mg) (T : Cls K Z.a_Tree) (N : NoAttr K Z.a_Tree "hung") {f_is_within : Addr} {fd_is_within : FuncData} (C_is_within : Cal K mg "is_within" f_is_within fd_is_within ["least", "most", "thing"]) (G_is_within : FnOk P w K mg base CX0 1 f_is_within fd_is_within ["least", "most", "thing"] (spWithinK Z)) : FnOk P w K mg base CX0 2 f fd ["tree", "thing"] (spIsBK Z 1) := by
  refine F.ok sc_is_block (fun vs H Q E h => ?_) (fun cdv A outer s H vs Q E hr h => ?_)
  · obtain ⟨x, hs, v, rfl, _⟩ := h
    rfl
  · obtain ⟨x, hs, v, rfl, ht, hk, q⟩ := h
    refine ⟨_, (pss_one (ps_ret (pe_call G_is_within (hr.mono (by first | decide | omega)) (by rfl) C_is_within.g C_is_within.k C_is_within.b .nil pass0 (pa_cons pe_int (pa_cons (pe_callB (call_lenK (K := K) rfl) (by rfl) B.b_len PySem.boot_len (pa_cons (pe_fldK (K := K) rfl (pv 0) rfl) pa_nil)) (pa_cons (pv 1) pa_nil)))))), ?_⟩
    walk_at "h0"
    obtain ⟨dx, t, h1, h2⟩ := ht
    have h3 : SqT K H t (nats hs) := .of h2
    refine ⟨x, _, dx, _, _, rfl, h1, T, N, rfl, ?_⟩
    walk_at "hs"
    rw [nats_length]
    exact ⟨v, 1, _, rfl, hk, q⟩
theorem ok_isPlaceK {f : Addr} {fd : FuncData} (F : Fun K "is_place" "is_place" s_is_place f fd) (B : Bl Z mg) (T : Cls K Z.a_Tree) (N : NoAttr K Z.a_Tree "hung") {f_is_within : Addr} {fd_is_within : FuncData} (C_is_within : Cal K mg "is_within" f_is_within fd_is_within ["least", "most", "thing"]) (G_is_within : FnOk P w K mg base CX0 1 f_is_within fd_is_within ["least", "most", "thing"] (spWithinK Z)) : FnOk P w K mg base CX0 2 f fd ["tree", "thing"] (spIsBK Z 0) := by
  refine F.ok sc_is_place (fun vs H Q E h => ?_) (fun cdv A outer s H vs Q E hr h => ?_)
  · obtain ⟨x, hs, v, rfl, _⟩ := h
    rfl
  · obtain ⟨x, hs, v, rfl, ht, hk, q⟩ := h
    refine ⟨_, (pss_one (ps_ret (pe_call G_is_within (hr.mono (by first | decide | omega)) (by rfl) C_is_within.g C_is_within.k C_is_within.b .nil pass0 (pa_cons pe_int (pa_cons (pe_callB (call_lenK (K := K) rfl) (by rfl) B.b_len PySem.boot_len (pa_cons (pe_fldK (K := K) rfl (pv 0) rfl) pa_nil)) (pa_cons (pv 1) pa_nil)))))), ?_⟩
    walk_at "h0"
    obtain ⟨dx, t, h1, h2⟩ := ht
    have h3 : SqT K H t (nats hs) := .of h2
    refine ⟨x, _, dx, _, _, rfl, h1, T, N, rfl, ?_⟩
    walk_at "hs"
    rw [nats_length]
    exact ⟨v, 0, _, rfl, hk, q⟩
/-- a move that is let: its block, its place -/
def okMv (hs : List Nat) : V → V → Option (Nat × Nat)
  | .int b, .int p => if 1 ≤ b ∧ b ≤ hs.length ∧ 0 ≤ p ∧ p ≤ hs.length ∧ p ≠ b ∧ b.toNat ∉ way hs p.toNat then some (b.toNat, p.toNat) else none
  | _, _ => none
theorem num_out {lo : Int} {n : Nat} {v : V} (h : numV lo n v = true) : ∃ z : Int, v = .int z ∧ lo ≤ z ∧ z ≤ n := by
  cases v with
  | int z =>
    have h : (decide (lo ≤ z) && decide (z ≤ n)) = true := h
    rw [Bool.and_eq_true, decide_eq_true_eq, decide_eq_true_eq] at h
    exact ⟨z, rfl, h.1, h.2⟩
  | _ => cases h
def spMovedK (Z : Ad) : Sp := fun vs H Q E => ∃ (x : Addr) (hs : List Nat) (b p : V), vs = [.ref x, b, p] ∧ TreeAt Z H x hs ∧ IsTree hs ∧ Kv Z H b ∧ Kv Z H p ∧
  (∀ c d, okMv hs b p = some (c, d) → ∀ m H', Same H H' → H m = none → TreeAt Z H' m (put hs c d) → Q (.ref m) H') ∧ (okMv hs b p = none → ∀ c H', c = Z.a_NoBlock ∨ c = Z.a_NoPlace ∨ c = Z.a_Beneath → Same H H' → E (.ref c) none H')
theorem ok_movedK {f fI fJ fL : Addr} {fd : FuncData} (F : Fun K "moved" "moved" s_moved f fd) (B : Bl Z mg) (T : Cls K Z.a_Tree) (N : NoAttr K Z.a_Tree "hung") (X_NoBlock : SupC P K Z.a_NoBlock fI) (X_NoPlace : SupC P K Z.a_NoPlace fJ) (X_Beneath : SupC P K Z.a_Beneath fL) {f_is_block : Addr} {fd_is_block : FuncData} (C_is_block : Cal K mg "is_block" f_is_block fd_is_block ["tree", "thing"]) (G_is_block : FnOk P w K mg base CX0 2 f_is_block fd_is_block ["tree", "thing"] (spIsBK Z 1))
    {f_is_place : Addr} {fd_is_place : FuncData} (C_is_place : Cal K mg "is_place" f_is_place fd_is_place ["tree", "thing"]) (G_is_place : FnOk P w K mg base CX0 2 f_is_place fd_is_place ["tree", "thing"] (spIsBK Z 0)) {f_beneath : Addr} {fd_beneath : FuncData} (C_beneath : Cal K mg "beneath" f_beneath fd_beneath ["tree", "place"]) (G_beneath : FnOk P w K mg base CX0 5 f_beneath fd_beneath ["tree", "place"] (spBeneath Z))
    {f_Tree___init__ : Addr} {fd_Tree___init__ : FuncData} (C_Tree___init__ : CalM K f_Tree___init__ fd_Tree___init__ ["self", "hung"]) (G_Tree___init__ : FnOk P w K mg base (L2.CX P w) 3 f_Tree___init__ fd_Tree___init__ ["self", "hung"] (spTree Z)) (M_Tree : Mk K Z.a_Tree f_Tree___init__) : FnOk P w K mg base (L2N.CX P w) 6 f fd ["tree", "block", "place"] (spMovedK Z) := by
  refine okN F sc_moved (fun vs H Q E h => ?_) (fun cdv A outer s H vs Q E hr h => ?_)
  · obtain ⟨x, hs, b, p, rfl, _⟩ := h
    rfl
  · obtain ⟨x, hs, b, p, rfl, ht, it, kb, kp, q, qe⟩ := h
    refine ⟨_, (pss_cons (ps_if (pt_not (pt_val (pe_call G_is_block (hr.mono (by first | decide | omega)) (by rfl) C_is_block.g C_is_block.k C_is_block.b .nil pass0 (pa_cons (pv 0) (pa_cons (pv 1) pa_nil))))) (pss_one (L2N.ps_raise rfl (L2N.takes_of rfl rfl rfl rfl) (pmk_supN X_NoBlock (hr.mono (by first | decide | omega)) (by rfl) B.k_NoBlock B.b_super))) pss_nil)
 (pss_cons (ps_if (pt_not (pt_val (pe_call G_is_place (hr.mono (by first | decide | omega)) (by rfl) C_is_place.g C_is_place.k C_is_place.b .nil pass0 (pa_cons (pv 0) (pa_cons (pv 2) pa_nil))))) (pss_one (L2N.ps_raise rfl (L2N.takes_of rfl rfl rfl rfl) (pmk_supN X_NoPlace (hr.mono (by first | decide | omega)) (by rfl) B.k_NoPlace B.b_super))) pss_nil)
 (pss_cons (ps_if (PW.pt (pw_or (pt_cmpR op_eq (pv 2) (pv 1) (nomark _)) (pw_or1 (pt_cmpR (op_inK (K := K) rfl) (pv 2) (pe_call G_beneath (hr.mono (by first | decide | omega)) (by rfl) C_beneath.g C_beneath.k C_beneath.b .nil pass0 (pa_cons (pv 0) (pa_cons (pv 1) pa_nil))) (by rfl))))) (pss_one (L2N.ps_raise rfl (L2N.takes_of rfl rfl rfl rfl) (pmk_supN X_Beneath (hr.mono (by first | decide | omega)) (by rfl) B.k_Beneath B.b_super))) pss_nil)
 (pss_one (ps_ret (pe_make M_Tree G_Tree___init__ (hr.mono (by first | decide | omega)) (by rfl) B.k_Tree C_Tree___init__.b .nil passE (pa_cons (pe_op (op_catAK (K := K) rfl) (pe_op (op_catAK (K := K) rfl) (pe_slice (sl_tupAK (K := K) rfl) (pe_fldK (K := K) rfl (pv 0) rfl) po_none (po_some (pe_op op_sub (pv 1) pe_int))) (pe_tup (pa_cons (pv 2) pa_nil))) (pe_slice (sl_tupAK (K := K) rfl) (pe_fldK (K := K) rfl (pv 0) rfl) (po_some (pv 1)) po_none)) pa_nil))))))), ?_⟩
    walk_at "h0"
    refine ⟨x, hs, _, rfl, ht, kb, ?_⟩
    cases hb : numV 1 hs.length b with
    | false =>
      walk_at "hs"
      refine qe ?_ _ _ (.inl rfl) (Same.refl _)
      cases b with
      | int b =>
        cases p with
        | int p =>
          have : (decide ((1 : Int) ≤ b) && decide (b ≤ hs.length)) = false := hb
          rw [Bool.and_eq_false_iff, decide_eq_false_iff_not, decide_eq_false_iff_not] at this
          exact if_neg (fun h => this.elim (fun z => z h.1) fun z => z h.2.1)
        | _ => rfl
      | _ => rfl
    | true =>
      obtain ⟨b, rfl, b1, b2⟩ := num_out hb
      obtain ⟨b, rfl⟩ := Int.eq_ofNat_of_zero_le (show 0 ≤ b by omega)
      walk_at "hs"
      refine ⟨x, hs, _, rfl, ht, kp, ?_⟩
      cases hp : numV 0 hs.length p with
      | false =>
        walk_at "hs"
        refine qe ?_ _ _ (.inr (.inl rfl)) (Same.refl _)
        cases p with
        | int p =>
          have : (decide ((0 : Int) ≤ p) && decide (p ≤ hs.length)) = false := hp
          rw [Bool.and_eq_false_iff, decide_eq_false_iff_not, decide_eq_false_iff_not] at this
          exact if_neg (fun h => this.elim (fun z => z h.2.2.1) fun z => z h.2.2.2.1)
        | _ => rfl
      | true =>
        obtain ⟨p, rfl, p1, p2⟩ := num_out hp
        obtain ⟨p, rfl⟩ := Int.eq_ofNat_of_zero_le p1
        walk_at "hs"
        refine x_isd (fun c => ?_) (fun c => ?_)
        · walk_at "hs"
          exact qe (if_neg fun h => h.2.2.2.2.1 c) _ _ (.inr (.inr rfl)) (Same.refl _)
        have c' : p ≠ b := fun e => c (by rw [e])
        walk_at "hs"
        refine ⟨x, hs, b, rfl, ht, it, by omega, fun D H1 s1 nD eD => ?_⟩
        refine x_inNT (.of eD) ?_
        walk_at "hs"
        refine x_isd (fun c2 => ?_) (fun c2 => ?_)
        · have c3 := (below_mem (by omega)).mp c2
          walk_at "hs"
          exact qe (if_neg fun h => h.2.2.2.2.2 c3) _ _ (.inr (.inr rfl)) s1
        · have c3 : b ∉ way hs p := fun h => c2 ((below_mem (by omega)).mpr h)
          have ok : okMv hs (.int (b : Int)) (.int (p : Int)) = some (b, p) := if_pos ⟨b1, b2, p1, p2, c, c3⟩
          walk_at "hs"
          refine x_make ?_
          walk_at "hs"
          have := it.most
          have nl := nats_length hs
          obtain ⟨dx, u, h1, h2⟩ := ht.same s1
          refine ⟨x, _, dx, _, _, rfl, h1, T, N, rfl, ?_⟩
          walk_at "hs"
          refine x_slA h2 fun D2 H2 s2 e2 => ?_
          rw [show ((b : Int) - 1) = ((b - 1 : Nat) : Int) by omega, cut_take] at e2
          walk_at "hs"
          intro p1 n1
          walk_at "hs"
          refine x_catA (keepN e2 n1) upd_same (by rw [List.length_take, List.length_cons, List.length_nil]; omega) fun D3 H3 s3 e3 => ?_
          have s13 : Same H1 H3 := fun a o e => s3 _ _ (keepN (s2 _ _ e) n1)
          walk_at "hs"
          refine ⟨x, _, dx, _, _, rfl, s13 _ _ h1, T, N, rfl, ?_⟩
          walk_at "hs"
          refine x_slA (s13 _ _ h2) fun D4 H4 s4 e4 => ?_
          rw [cut_drop] at e4
          refine x_catA (s4 _ _ e3) e4 (by rw [List.length_append, List.length_take, List.length_drop, List.length_cons, List.length_nil]; omega) fun D5 H5 s5 e5 => ?_
          rw [put_cut (by omega) (by omega)] at e5
          walk_at "hs"
          refine make_tree (Q := Q) (put_tree it (by omega) (by omega) (by omega) c' c3) e5 fun m H6 nm s6 tr => ?_
          have s05 : Same H H5 := fun a o e => s5 _ _ (s4 _ _ (s13 _ _ (s1 _ _ e)))
          exact q b p ok m H6 (s05.trans s6) (s05.free nm) tr
end
set_option maxRecDepth 100000
set_option maxHeartbeats 2000000
open PySem PySem.Spec L2


theorem sc_BadHistory___init__ : FnScope ["self", "part"] ["self", "part"] (defScope s_BadHistory___init__) := ⟨rfl, rfl, rfl, by decide +kernel, rfl, by decide +kernel, by decide +kernel⟩
theorem sc_History___init__ : FnScope ["self", "tree", "moves", "last", "at", "move"] ["self", "tree", "moves"] (defScope s_History___init__) := ⟨rfl, rfl, rfl, by decide +kernel, rfl, by decide +kernel, by decide +kernel⟩
theorem putF_len (f : Str) (v : V) : ∀ fs : List (Str × V), (putF f v fs).length ≤ fs.length + 1
  | [] => Nat.le_refl _
  | (g, x) :: r => by
    have ih := putF_len f v r
    unfold putF
    split
    · simp
    · rw [List.length_cons, List.length_cons]
      omega
/-! what is due of moves -/
def stepM (H : Hp) (hs : List Nat) (m : V) : Option (Nat × Nat) := match tupOf H m with
  | some [b, p] => okMv hs b p
  | _ => none
def runs (H : Hp) : List Nat → List V → Option (List Nat)
  | hs, [] => some hs
  | hs, m :: r => match stepM H hs m with
    | none => none
    | some x => runs H (put hs x.1 x.2) r
def badAt (H : Hp) : List Nat → List V → Option Nat
  | _, [] => none
  | hs, m :: r => match stepM H hs m with
    | none => some 0
    | some x => (badAt H (put hs x.1 x.2) r).map (· + 1)
theorem runs_snoc {H : Hp} {m : V} {gs : List Nat} {x : Nat × Nat} (h2 : stepM H gs m = some x) : ∀ {l : List V} {hs : List Nat}, runs H hs l = some gs → runs H hs (l ++ [m]) = some (put gs x.1 x.2)
  | [], hs, h => by
    cases h
    show (match stepM H gs m with | none => none | some x => runs H (put gs x.1 x.2) []) = _
    rw [h2]
    rfl
  | a :: l, hs, h => by
    have h : (match stepM H hs a with | none => none | some x => runs H (put hs x.1 x.2) l) = some gs := h
    show (match stepM H hs a with | none => none | some x => runs H (put hs x.1 x.2) (l ++ [m])) = _
    cases e : stepM H hs a with
    | none => rw [e] at h; cases h
    | some y =>
      rw [e] at h
      exact runs_snoc h2 h
theorem badAt_none {H : Hp} {gs : List Nat} : ∀ {l : List V} {hs : List Nat}, runs H hs l = some gs → badAt H hs l = none
  | [], hs, h => rfl
  | a :: l, hs, h => by
    have h : (match stepM H hs a with | none => none | some x => runs H (put hs x.1 x.2) l) = some gs := h
    show (match stepM H hs a with | none => some 0 | some x => (badAt H (put hs x.1 x.2) l).map (· + 1)) = none
    cases e : stepM H hs a with
    | none => rw [e] at h; cases h
    | some y =>
      rw [e] at h
      show (badAt H (put hs y.1 y.2) l).map (· + 1) = none
      rw [badAt_none h]
      rfl
theorem badAt_some {H : Hp} {gs : List Nat} {m : V} (h2 : stepM H gs m = none) : ∀ {k : Nat} {l : List V} {hs : List Nat}, runs H hs (l.take k) = some gs → l[k]? = some m → badAt H hs l = some k
  | _, [], hs, _, e => by cases e
  | 0, a :: l, hs, h, e => by
    cases h
    cases e
    show (match stepM H gs m with | none => some 0 | some x => (badAt H (put gs x.1 x.2) l).map (· + 1)) = _
    rw [h2]
  | k + 1, a :: l, hs, h, e => by
    have h : (match stepM H hs a with | none => none | some x => runs H (put hs x.1 x.2) (l.take k)) = some gs := h
    show (match stepM H hs a with | none => some 0 | some x => (badAt H (put hs x.1 x.2) l).map (· + 1)) = _
    cases e2 : stepM H hs a with
    | none => rw [e2] at h; cases h
    | some y =>
      rw [e2] at h
      show (badAt H (put hs y.1 y.2) l).map (· + 1) = _
      rw [badAt_some h2 h e]
      rfl
theorem okMv_is {hs : List Nat} {b p : V} {x : Nat × Nat} (h : okMv hs b p = some x) : b = .int (x.1 : Nat) ∧ p = .int (x.2 : Nat) ∧ 1 ≤ x.1 ∧ x.1 ≤ hs.length ∧ x.2 ≤ hs.length ∧ x.2 ≠ x.1 ∧ x.1 ∉ way hs x.2 := by
  cases b with
  | int b => cases p with
    | int p =>
      replace h : (if 1 ≤ b ∧ b ≤ hs.length ∧ 0 ≤ p ∧ p ≤ hs.length ∧ p ≠ b ∧ b.toNat ∉ way hs p.toNat then some (b.toNat, p.toNat) else none) = some x := h
      by_cases c : 1 ≤ b ∧ b ≤ hs.length ∧ 0 ≤ p ∧ p ≤ hs.length ∧ p ≠ b ∧ b.toNat ∉ way hs p.toNat
      · rw [if_pos c] at h
        cases h
        obtain ⟨c1, c2, c3, c4, c5, c6⟩ := c
        refine ⟨?_, ?_, ?_, ?_, ?_, ?_, c6⟩
        · show V.int b = .int (b.toNat : Nat)
          rw [Int.toNat_of_nonneg (by omega)]
        · show V.int p = .int (p.toNat : Nat)
          rw [Int.toNat_of_nonneg c3]
        all_goals (show _; dsimp only; omega)
      · rw [if_neg c] at h
        cases h
    | _ => cases h
  | _ => cases h
theorem step_is {H : Hp} {hs : List Nat} {m : V} {x : Nat × Nat} (h : stepM H hs m = some x) : tupOf H m = some [.int (x.1 : Nat), .int (x.2 : Nat)] ∧ 1 ≤ x.1 ∧ x.1 ≤ hs.length ∧ x.2 ≤ hs.length ∧ x.2 ≠ x.1 ∧ x.1 ∉ way hs x.2 := by
  unfold stepM at h
  cases e : tupOf H m with
  | none => rw [e] at h; cases h
  | some l =>
    rw [e] at h
    match l, h with
    | [b, p], h =>
      obtain ⟨e1, e2, e3⟩ := okMv_is h
      rw [e1, e2]
      exact ⟨rfl, e3⟩
    | [], h => cases h
    | [_], h => cases h
    | _ :: _ :: _ :: _, h => cases h
theorem runs_tree {H : Hp} : ∀ {l : List V} {hs gs : List Nat}, IsTree hs → runs H hs l = some gs → IsTree gs ∧ gs.length = hs.length
  | [], hs, gs, t, h => by
    cases h
    exact ⟨t, rfl⟩
  | a :: l, hs, gs, t, h => by
    have h : (match stepM H hs a with | none => none | some x => runs H (put hs x.1 x.2) l) = some gs := h
    cases e : stepM H hs a with
    | none => rw [e] at h; cases h
    | some y =>
      rw [e] at h
      obtain ⟨_, e1, e2, e3, e4, e5⟩ := step_is e
      obtain ⟨t2, l2⟩ := runs_tree (put_tree t e1 e2 e3 e4 e5) h
      exact ⟨t2, l2.trans (put_len _ _ _)⟩
inductive DH where
  | moves
  | at (k : Nat)
  | ok
def dueH (H : Hp) (hs : List Nat) (mv : V) : DH := match tupOf H mv with
  | none => .moves
  | some xs => if xs.length > 100 then .moves else match badAt H hs xs with
    | some k => .at k
    | none => .ok
def valH : DH → V
  | .moves => .str "moves"
  | .at k => .int (k : Nat)
  | .ok => .str "let"
theorem step_same {Z : Ad} {H H' : Hp} {hs : List Nat} {m : V} (s : Same H H') (k : Kv Z H m) : stepM H' hs m = stepM H hs m := by
  unfold stepM
  rw [tupOf_same s k]
theorem badAt_same {Z : Ad} {H H' : Hp} (s : Same H H') : ∀ {l : List V} {hs : List Nat}, (∀ m ∈ l, Kv Z H m) → badAt H' hs l = badAt H hs l
  | [], hs, _ => rfl
  | a :: l, hs, h => by
    show (match stepM H' hs a with | none => some 0 | some x => (badAt H' (put hs x.1 x.2) l).map (· + 1)) = (match stepM H hs a with | none => some 0 | some x => (badAt H (put hs x.1 x.2) l).map (· + 1))
    rw [step_same s (h a List.mem_cons_self)]
    cases stepM H hs a with
    | none => rfl
    | some y =>
      show (badAt H' (put hs y.1 y.2) l).map (· + 1) = (badAt H (put hs y.1 y.2) l).map (· + 1)
      rw [badAt_same s fun m hm => h m (List.mem_cons_of_mem _ hm)]
theorem runs_same {Z : Ad} {H H' : Hp} (s : Same H H') : ∀ {l : List V} {hs : List Nat}, (∀ m ∈ l, Kv Z H m) → runs H' hs l = runs H hs l
  | [], hs, _ => rfl
  | a :: l, hs, h => by
    show (match stepM H' hs a with | none => none | some x => runs H' (put hs x.1 x.2) l) = (match stepM H hs a with | none => none | some x => runs H (put hs x.1 x.2) l)
    rw [step_same s (h a List.mem_cons_self)]
    cases stepM H hs a with
    | none => rfl
    | some y => exact runs_same s fun m hm => h m (List.mem_cons_of_mem _ hm)
theorem dueH_same {Z : Ad} {H H' : Hp} {hs : List Nat} {mv : V} (s : Same H H') (k : KvD Z H 1 mv) : dueH H' hs mv = dueH H hs mv := by
  unfold dueH
  rw [tupOf_same s k.1]
  cases e : tupOf H mv with
  | none => rfl
  | some xs =>
    show (if xs.length > 100 then DH.moves else match badAt H' hs xs with | some k => .at k | none => .ok) = (if xs.length > 100 then DH.moves else match badAt H hs xs with | some k => .at k | none => .ok)
    rw [badAt_same s fun m hm => k.2 xs e m hm]
theorem due_moves {H : Hp} {hs : List Nat} {mv : V} (h : ∀ xs, tupOf H mv = some xs → xs.length > 100) : dueH H hs mv = .moves := by
  unfold dueH
  cases e : tupOf H mv with
  | none => rfl
  | some xs => exact if_pos (h xs e)
theorem due_at {H : Hp} {hs gs : List Nat} {mv m : V} {xs : List V} {k : Nat} (e : tupOf H mv = some xs) (hl : ¬ xs.length > 100) (h1 : runs H hs (xs.take k) = some gs) (h2 : xs[k]? = some m) (h3 : stepM H gs m = none) : dueH H hs mv = .at k := by
  unfold dueH
  rw [e]
  refine (if_neg hl).trans ?_
  rw [badAt_some h3 h1 h2]
theorem due_ok {H : Hp} {hs gs : List Nat} {mv : V} {xs : List V} (e : tupOf H mv = some xs) (hl : ¬ xs.length > 100) (h1 : runs H hs xs = some gs) : dueH H hs mv = .ok := by
  unfold dueH
  rw [e]
  refine (if_neg hl).trans ?_
  rw [badAt_none h1]
/-- no tree: what isinstance says -/
structure TyAp (K : PySem.W.Frag) (Z : Ad) : Prop where
  k : ∀ T : String, T = "NoneType" ∨ T = "bool" ∨ T = "int" ∨ T = "str" ∨ T = "list" ∨ T = "tuple" ∨ T = "dict" → PySem.W.kitOne K (.type T) (.ref Z.a_Tree) = some false
section
variable {P : Program} {w : World} {K : PySem.W.Frag} {mg : Str → Option Value} {base : Heap} {Z : Ad}
theorem isi_noTree {H : Hp} {Q : VK} {x : V} (T : TyAp K Z) (k : Kn H x) (q : Q (.bl false) H) : rIsi K [x, .ref Z.a_Tree] H Q := by
  have go : ∀ t : String, TyX K H x (.type t) → PySem.W.kitOne K (.type t) (.ref Z.a_Tree) = some false → rIsi K [x, .ref Z.a_Tree] H Q := fun t ty e => ⟨x, .ref Z.a_Tree, .type t, .ref Z.a_Tree, false, rfl, .own Z.a_Tree, ty, e, q⟩
  cases x with
  | non => exact go _ (.base .non) (T.k _ (.inl rfl))
  | bl b => exact go _ (.base (.bl b)) (T.k _ (.inr (.inl rfl)))
  | int b => exact go _ (.base (.int b)) (T.k _ (.inr (.inr (.inl rfl))))
  | str b => exact go _ (.base (.str b)) (T.k _ (.inr (.inr (.inr (.inl rfl)))))
  | ref a =>
    rcases k with ⟨xs, h⟩ | ⟨xs, h⟩ | ⟨xs, h⟩
    · exact go _ (.base (.lst h)) (T.k _ (.inr (.inr (.inr (.inr (.inl rfl))))))
    · exact go _ (.base (.tup h)) (T.k _ (.inr (.inr (.inr (.inr (.inr (.inl rfl)))))))
    · exact go _ (.base (.dK h)) (T.k _ (.inr (.inr (.inr (.inr (.inr (.inr rfl)))))))
  | _ => exact k.elim
theorem ok_badH {f : Addr} {fd : FuncData} (F : Fun K "__init__" "BadHistory.__init__" s_BadHistory___init__ f fd) (X_BadHistory : ExcF K Z.a_BadHistory f "part") : FnOk P w K mg base CX0 1 f fd ["self", "part"] (spField Z.a_BadHistory "part") := by
  refine F.ok sc_BadHistory___init__ (fun vs H Q E h => ?_) (fun cdv A outer s H vs Q E hr h => ?_)
  · obtain ⟨a, v, rfl, _⟩ := h
    rfl
  · obtain ⟨a, v, rfl, ha, q⟩ := h
    refine ⟨_, (pss_one (ps_ost (pv 0) (pv 1))), ?_⟩
    walk_at "h0"
    exact ⟨a, _, rfl, X_BadHistory.T, X_BadHistory.n, .inl ⟨ha, q⟩⟩
theorem ok_badHot {f : Addr} {fd : FuncData} (F : Fun K "__init__" "BadHistory.__init__" s_BadHistory___init__ f fd) (X_BadHistory : ExcF K Z.a_BadHistory f "part") : L2H.FnH P w K mg base CX0 1 f fd ["self", "part"] (spField Z.a_BadHistory "part") := by
  refine okH F sc_BadHistory___init__ (fun vs H Q E h => ?_) (fun cdv A outer s H vs Q E p h => ?_)
  · obtain ⟨a, v, rfl, _⟩ := h
    rfl
  · obtain ⟨a, v, rfl, ha, q⟩ := h
    refine ⟨_, (pss_one (ps_ost (pv 0) (pv 1))), ?_⟩
    walk_at "h0"
    exact ⟨a, _, rfl, X_BadHistory.T, X_BadHistory.n, .inl ⟨ha, q⟩⟩
/-- the errors that a move may raise -/
structure MvX (K : PySem.W.Frag) (Z : Ad) : Prop where
  k : ∀ c, c = Z.a_NoBlock ∨ c = Z.a_NoPlace ∨ c = Z.a_Beneath → PySem.W.exmAny K (.ref c) [.ref Z.a_NoBlock, .ref Z.a_NoPlace, .ref Z.a_Beneath] = some true
/-- the class of histories -/
structure HisC (K : PySem.W.Frag) (Z : Ad) : Prop where
  c : Cls K Z.a_History
  nt : NoAttr K Z.a_History "tree"
  nm : NoAttr K Z.a_History "moves"
def spHist (Z : Ad) : Sp := fun vs H Q E => ∃ (h dh : Addr) (tv mv : V), vs = [.ref h, tv, mv] ∧ H h = some (.ins Z.a_History dh []) ∧ KvD Z H 2 mv ∧
  ((∃ x hs, tv = .ref x ∧ TreeAt Z H x hs ∧ IsTree hs ∧ (dueH H hs mv = .ok → ∀ H', But h H H' → H' h = some (.ins Z.a_History dh [("tree", tv), ("moves", mv)]) → Q .non H') ∧ (∀ e H', dueH H hs mv ≠ .ok → Same H H' → H' e = some (.xd [("part", valH (dueH H hs mv))]) → E (.ref Z.a_BadHistory) (some e) H')) ∨
  (Kn H tv ∧ ∀ e H', Same H H' → H' e = some (.xd [("part", .str "tree")]) → E (.ref Z.a_BadHistory) (some e) H'))
theorem ok_hist {f : Addr} {fd : FuncData} (F : Fun K "__init__" "History.__init__" s_History___init__ f fd) (B : Bl Z mg) (I : InsK K Z) (A0 : TyAp K Z) (MX : MvX K Z) (HC : HisC K Z) {f_is_pair : Addr} {fd_is_pair : FuncData} (C_is_pair : Cal K mg "is_pair" f_is_pair fd_is_pair ["thing"]) (G_is_pair : FnOk P w K mg base CX0 1 f_is_pair fd_is_pair ["thing"] (spPairK Z)) {f_moved : Addr} {fd_moved : FuncData} (C_moved : Cal K mg "moved" f_moved fd_moved ["tree", "block", "place"]) (G_moved : FnOk P w K mg base (L2N.CX P w) 6 f_moved fd_moved ["tree", "block", "place"] (spMovedK Z))
    {f_BadHistory___init__ : Addr} {fd_BadHistory___init__ : FuncData} (C_BadHistory___init__ : CalM K f_BadHistory___init__ fd_BadHistory___init__ ["self", "part"]) (G_BadHistory___init__ : FnOk P w K mg base CX0 1 f_BadHistory___init__ fd_BadHistory___init__ ["self", "part"] (spField Z.a_BadHistory "part")) (G_H : L2H.FnH P w K mg base CX0 1 f_BadHistory___init__ fd_BadHistory___init__ ["self", "part"] (spField Z.a_BadHistory "part")) (X_BadHistory : ExcF K Z.a_BadHistory f_BadHistory___init__ "part") : FnOk P w K mg base (L2.CX P w) 7 f fd ["self", "tree", "moves"] (spHist Z) := by
  refine F.okX sc_History___init__ (fun vs H Q E h => ?_) (fun cdv A outer s H vs Q E hr h => ?_)
  · obtain ⟨h, dh, tv, mv, rfl, _⟩ := h
    rfl
  · obtain ⟨h, dh, tv, mv, rfl, hh, km, hc⟩ := h
    refine ⟨_, (pss_cons (ps_if (pt_not (pt_val (pe_callB (call_isiK' (K := K) rfl) (by rfl) B.b_isinstance (by decide +kernel) (pa_cons (pv 1) (pa_cons (pe_glob (v := .ref Z.a_Tree) rfl B.k_Tree rfl) pa_nil))))) (pss_one (ps_raise rfl (takes_of rfl rfl rfl rfl) (pmk_oex X_BadHistory.T X_BadHistory.i X_BadHistory.t G_BadHistory___init__ (hr.mono (by first | decide | omega)) C_BadHistory___init__.b .nil pass0 (by rfl) B.k_BadHistory (pa_cons pe_str pa_nil)))) pss_nil)
 (pss_cons (ps_if (PW.pt (pw_or (pt_not (pt_val (pe_callB (call_isiK' (K := K) rfl) (by rfl) B.b_isinstance (by decide +kernel) (pa_cons (pv 2) (pa_cons (pe_bltn (v := .ty "tuple") (by rfl) B.b_tuple (by decide +kernel) rfl) pa_nil))))) (pw_or1 (pt_cmpR op_gt (pe_callB (call_lenK (K := K) rfl) (by rfl) B.b_len PySem.boot_len (pa_cons (pv 2) pa_nil)) (pe_glob (v := .int (100)) rfl B.c_MOST_MOVES ⟨_, rfl⟩) (nomark _))))) (pss_one (ps_raise rfl (takes_of rfl rfl rfl rfl) (pmk_oex X_BadHistory.T X_BadHistory.i X_BadHistory.t G_BadHistory___init__ (hr.mono (by first | decide | omega)) C_BadHistory___init__.b .nil pass0 (by rfl) B.k_BadHistory (pa_cons pe_str pa_nil)))) pss_nil)
 (pss_cons (ps_set (i := 3) sc_History___init__.nd rfl (Or.inl rfl) (pv 1))
 (pss_cons (ps_for (passes_of rfl) rfl (pi_enumT0 (K := K) rfl rfl (by rfl) B.b_enumerate (pa_cons (pv 2) pa_nil)) (pg_tup rfl (pgs_cons (pg_name (i := 4) sc_History___init__.nd rfl (Or.inl rfl)) (pgs_cons (pg_name (i := 5) sc_History___init__.nd rfl (Or.inl rfl)) pgs_nil))) (pss_cons (ps_if (pt_not (pt_val (pe_call G_is_pair (hr.mono (by first | decide | omega)) (by rfl) C_is_pair.g C_is_pair.k C_is_pair.b .nil pass0 (pa_cons (pv 5) pa_nil)))) (pss_one (ps_raise rfl (takes_of rfl rfl rfl rfl) (pmk_oex X_BadHistory.T X_BadHistory.i X_BadHistory.t G_BadHistory___init__ (hr.mono (by first | decide | omega)) C_BadHistory___init__.b .nil pass0 (by rfl) B.k_BadHistory (pa_cons (pv 4) pa_nil)))) pss_nil)
 (pss_one (ps_try_tup3 rfl rfl ⟨rfl, by decide, Or.inl B.k_NoBlock⟩ ⟨rfl, by decide, Or.inl B.k_NoPlace⟩ ⟨rfl, by decide, Or.inl B.k_Beneath⟩ (L2H.passesAt_of rfl) (takes_of rfl rfl rfl rfl) (fun W pn xe tk po => (pss_one (ps_set (i := 3) sc_History___init__.nd rfl (Or.inl rfl) (pe_callS (E := WE W) G_moved (hr.mono (by first | decide | omega)) (by rfl) C_moved.g C_moved.k C_moved.b (fun σ => L2N.passAt tk σ) (pa_cons (pv 3) (pa_cons (pe_ix (ix_tupK (K := K) rfl) (pv 5) pe_int (fun _ _ => rfl)) (pa_cons (pe_ix (ix_tupK (K := K) rfl) (pv 5) pe_int (fun _ _ => rfl)) pa_nil))))))) (fun a oe cls d pn hz hf tkS hot => (pss_one (L2H.ps_raiseHN hot tkS (L2H.pmk5_oexH X_BadHistory.T X_BadHistory.i X_BadHistory.t G_H (L2H.roomH_mark (hr.mono (by first | decide | omega)) _) hot C_BadHistory___init__.b pass0 (by rfl) B.k_BadHistory (pa_cons (pv 4) pa_nil)))))))))
 (pss_cons (ps_fld (pv 0) (pv 1) rfl)
 (pss_one (ps_fld (pv 0) (pv 2) rfl))))))), ?_⟩
    walk_at "h0"
    rcases hc with ⟨x, hs, rfl, tr, it, q, qe⟩ | ⟨kt, qe⟩
    · obtain ⟨dx, tt, h1, h2⟩ := id tr
      refine isi_own I.i h1 ?_
      walk_at "hs"
      have raised : ∀ (v : V) (d : DH) H1, dueH H hs mv = d → d ≠ .ok → valH d = v → Same H H1 → [v].length ≤ 1000 ∧ ∀ a, H1 a = none → spField Z.a_BadHistory "part" (.ref a :: ([v] ++ [])) (upd H1 a (exo a Z.a_BadHistory none)) (fun v H2 => v = .non ∧ ∃ (d : Addr) (fs : List (Str × V)), H2 a = some (exo a Z.a_BadHistory (some d)) ∧ H2 d = some (exd d fs) ∧ H1 d = none ∧ E (.ref Z.a_BadHistory) (some d) (upd (del H2 a) d (.xd fs))) (fun _ _ _ => False) := fun v d H1 hd nd hv s1 =>
        mk_field fun e H' s2 _ he => qe e H' (hd ▸ nd) (s1.trans s2) (by rw [hd, hv]; exact he)
      refine kv_tuple I km.kv ?_
      cases em : tupOf H mv with
      | none =>
        dsimp only [Option.isSome_none]
        walk_at "hs"
        exact raised _ .moves H (due_moves fun xs e => by rw [em] at e; cases e) (fun e => by cases e) rfl (Same.refl _)
      | some xs =>
        obtain ⟨tm, rfl, etm⟩ := tupOf_ref em
        have stm : SqT K H tm xs := .of etm
        dsimp only [Option.isSome_some]
        walk_at "hs"
        refine x_isd (fun c => ?_) (fun c => ?_)
        · walk_at "hs"
          exact raised _ .moves H (due_moves fun ys e => by rw [em] at e; cases e; omega) (fun e => by cases e) rfl (Same.refl _)
        have hl : ¬ xs.length > 100 := by omega
        have kx : ∀ m ∈ xs, KvD Z H 1 m := km.2 xs em
        walk_at "hs"
        refine x_ent1 stm ?_
        refine lp_enumT (K := K) (xs := xs) (fun i σ' H' => (∃ xl gs x4 x5, σ' = [some (.ref h), some (.ref x), some (.ref tm), some (.ref xl), x4, x5] ∧ runs H hs (xs.take i) = some gs ∧ TreeAt Z H' xl gs) ∧ Same H H')
          ⟨⟨x, hs, _, _, rfl, rfl, tr⟩, Same.refl _⟩ (fun i σ' H' _ hp => .of (hp.2 _ _ etm)) ?_ ?_
        · rintro i m σ' H1 T hm ⟨⟨xl, gs, x4, x5, rfl, hrun, trl⟩, s1⟩ hT
          have hmem : m ∈ xs := List.mem_of_getElem? hm
          have km1 := (kx m hmem).same s1
          have rt := runs_tree it hrun
          have bad : stepM H gs m = none → dueH H hs (.ref tm) = .at i := fun h3 => due_at em hl hrun hm h3
          have s2 : Same H (upd H1 T (.tup [.int (0 + (i : Int)), m])) := same_new s1 hT
          have km2 : KvD Z (upd H1 T (.tup [.int (0 + (i : Int)), m])) 1 m := (kx m hmem).same s2
          have trl2 := trl.same (same_new (Same.refl _) hT (o := .tup [.int (0 + (i : Int)), m]))
          have st : SqT K (upd H1 T (.tup [.int (0 + (i : Int)), m])) T [.int (0 + (i : Int)), m] := .of upd_same
          have vi : valH (.at i) = .int (0 + (i : Int)) := by rw [Int.zero_add]; rfl
          generalize upd H1 T (.tup [.int (0 + (i : Int)), m]) = H2 at *
          walk_at "hs"
          refine ⟨m, rfl, km2.kv, ?_⟩
          cases hp : lenIs H2 2 m with
          | false =>
            walk_at "hs"
            refine raised _ (.at i) H2 (bad ?_) (fun e => by cases e) vi s2
            have e2 := tupOf_same (Z := Z) s2 (kx m hmem).kv
            unfold stepM
            unfold lenIs at hp
            rw [e2] at hp
            cases e3 : tupOf H m with
            | none => rfl
            | some l =>
              rw [e3] at hp
              match l, hp with
              | [], _ => rfl
              | [_], _ => rfl
              | [_, _], hp => simp at hp
              | _ :: _ :: _ :: _, _ => rfl
          | true =>
            obtain ⟨b, p, em2⟩ : ∃ b p, tupOf H2 m = some [b, p] := by
              unfold lenIs at hp
              cases e3 : tupOf H2 m with
              | none => rw [e3] at hp; cases hp
              | some l =>
                rw [e3] at hp
                match l, hp with
                | [], hp => simp at hp
                | [_], hp => simp at hp
                | [b, p], _ => exact ⟨b, p, rfl⟩
                | _ :: _ :: _ :: _, hp =>
                  have := of_decide_eq_true hp
                  simp only [List.length_cons] at this
                  omega
            obtain ⟨am, rfl, eam⟩ := tupOf_ref em2
            have sam : SqT K H2 am [b, p] := .of eam
            have sm : stepM H gs (.ref am) = okMv gs b p := by
              rw [← step_same (Z := Z) s2 (kx _ hmem).kv]
              unfold stepM
              rw [em2]
            walk_at "hs"
            refine x_callS ?_
            walk_at "hs"
            refine ⟨xl, gs, b, p, rfl, trl2, rt.1, (km2.2 _ em2 b (by simp)), (km2.2 _ em2 p (by simp)), fun c d hok m2 H3 s3 nm tr3 => ?_, fun hno c H3 hc s3 => ⟨MX.k c hc, fun a na => ?_⟩⟩
            · walk_at "hs"
              refine ⟨⟨m2, put gs c d, _, _, rfl, ?_, tr3⟩, s2.trans s3⟩
              rw [List.take_succ, hm]
              exact runs_snoc (x := (c, d)) (sm.trans hok) hrun
            · walk_at "hs"
              exact raised _ (.at i) H3 (bad (sm.trans hno)) (fun e => by cases e) vi (s2.trans s3)
        · rintro σ' H1 ⟨⟨xl, gs, x4, x5, rfl, hrun, trl⟩, s1⟩
          rw [List.take_length] at hrun
          have dok := due_ok em hl hrun
          have hh1 := s1 _ _ hh
          walk_at "hs"
          refine ⟨h, _, dh, [], rfl, hh1, HC.c, HC.nt, by decide, ?_⟩
          walk_at "hs"
          refine ⟨h, _, dh, _, rfl, upd_same, HC.c, HC.nm, Nat.lt_of_le_of_lt (putF_len ..) (by decide), ?_⟩
          walk_at "hs"
          refine q dok _ (((But.of s1).mut).mut) ?_
          rw [upd_same]
          rfl
    · refine isi_noTree A0 kt ?_
      walk_at "hs"
      exact mk_field fun e H' s2 _ he => qe e H' s2 he
end
set_option maxRecDepth 100000
set_option maxHeartbeats 2000000
open PySem PySem.Spec L2


theorem sc_History___eq__ : FnScope ["self", "other"] ["self", "other"] (defScope s_History___eq__) := ⟨rfl, rfl, rfl, by decide +kernel, rfl, by decide +kernel, by decide +kernel⟩
theorem sc_now : FnScope ["history", "hung", "block", "place"] ["history"] (defScope s_now) := ⟨rfl, rfl, rfl, by decide +kernel, rfl, by decide +kernel, by decide +kernel⟩
/-! moves that are let, one after the other -/
def okPr (hs : List Nat) (x : Nat × Nat) : Prop := 1 ≤ x.1 ∧ x.1 ≤ hs.length ∧ x.2 ≤ hs.length ∧ x.2 ≠ x.1 ∧ x.1 ∉ way hs x.2
def final (hs : List Nat) (ms : List (Nat × Nat)) : List Nat := ms.foldl (fun h x => put h x.1 x.2) hs
def OkAll (hs : List Nat) (ms : List (Nat × Nat)) : Prop := ∀ i x, ms[i]? = some x → okPr (final hs (ms.take i)) x
theorem final_snoc (hs : List Nat) (ms : List (Nat × Nat)) (x : Nat × Nat) : final hs (ms ++ [x]) = put (final hs ms) x.1 x.2 := by
  unfold final
  rw [List.foldl_append]
  rfl
theorem final_take {hs : List Nat} {ms : List (Nat × Nat)} {i : Nat} {x : Nat × Nat} (h : ms[i]? = some x) : final hs (ms.take (i + 1)) = put (final hs (ms.take i)) x.1 x.2 := by
  rw [List.take_succ, h]
  exact final_snoc _ _ _
theorem final_len (hs : List Nat) : ∀ (ms : List (Nat × Nat)), (final hs ms).length = hs.length := fun ms => by
  unfold final
  induction ms generalizing hs with
  | nil => rfl
  | cons x ms ih =>
    rw [List.foldl_cons, ih, put_len]
theorem OkAll.nil (hs : List Nat) : OkAll hs [] := fun i x h => by cases h
theorem OkAll.snoc {hs : List Nat} {ms : List (Nat × Nat)} {x : Nat × Nat} (h : OkAll hs ms) (k : okPr (final hs ms) x) : OkAll hs (ms ++ [x]) := fun i y e => by
  rcases Nat.lt_or_ge i ms.length with c | c
  · rw [List.getElem?_append_left c] at e
    rw [List.take_append_of_le_length (by omega)]
    exact h i y e
  · rw [List.getElem?_append_right c] at e
    have hi : i - ms.length = 0 := by
      have := (List.getElem?_eq_some_iff.mp e).1
      rw [List.length_singleton] at this
      omega
    rw [hi] at e
    cases e
    have : i = ms.length := by omega
    subst this
    rw [List.take_append_of_le_length (Nat.le_refl _), List.take_length]
    exact k
theorem OkAll.trees {hs : List Nat} {ms : List (Nat × Nat)} (t : IsTree hs) (h : OkAll hs ms) : ∀ i, IsTree (final hs (ms.take i))
  | 0 => t
  | i + 1 => by
    have ih := OkAll.trees t h i
    cases e : ms[i]? with
    | none =>
      have hl := List.getElem?_eq_none_iff.mp e
      rw [List.take_of_length_le (by omega)]
      rw [List.take_of_length_le hl] at ih
      exact ih
    | some x =>
      rw [final_take e]
      obtain ⟨h1, h2, h3, h4, h5⟩ := h i x e
      exact put_tree ih h1 h2 h3 h4 h5
theorem OkAll.tree {hs : List Nat} {ms : List (Nat × Nat)} (t : IsTree hs) (h : OkAll hs ms) : IsTree (final hs ms) := by
  have := h.trees t ms.length
  rwa [List.take_length] at this
theorem step_ok {H : Hp} {hs : List Nat} {v : V} {x : Nat × Nat} (p : PrV H v x) (k : okPr hs x) : stepM H hs v = some x := by
  obtain ⟨t, rfl, ht⟩ := p
  obtain ⟨k1, k2, k3, k4, k5⟩ := k
  unfold stepM
  rw [tupOf_at ht]
  show okMv hs (.int (x.1 : Nat)) (.int (x.2 : Nat)) = some x
  exact if_pos ⟨by omega, by omega, by omega, by omega, fun e => k4 (by omega), k5⟩
theorem runs_ok {H : Hp} {hs : List Nat} {vs : List V} {ms : List (Nat × Nat)} (pv : PrsV H vs ms) (h : OkAll hs ms) : ∀ i, i ≤ vs.length → runs H hs (vs.take i) = some (final hs (ms.take i))
  | 0, _ => rfl
  | i + 1, hi => by
    have hv := List.getElem?_eq_getElem (l := vs) (i := i) (by omega)
    obtain ⟨x, hx, px⟩ := pv.at hv
    rw [List.take_succ, hv, final_take hx]
    exact runs_snoc (step_ok px (h i x hx)) (runs_ok pv h i (by omega))
theorem kvd_prs {Z : Ad} {H : Hp} {u : Addr} {vs : List V} {ms : List (Nat × Nat)} (hu : H u = some (.tup vs)) (pv : PrsV H vs ms) : ∀ n, KvD Z H n (.ref u) := kvd_tup hu fun v hv => by
  obtain ⟨x, t, rfl, ht⟩ := pv.all hv
  exact kvd_tup ht fun y hy => by
    rcases List.mem_cons.mp hy with rfl | hy
    · exact kvd_sca rfl
    · rw [List.mem_singleton.mp hy]
      exact kvd_sca rfl
theorem hist_due {H : Hp} {u : Addr} {hs : List Nat} {vs : List V} {ms : List (Nat × Nat)} (hu : H u = some (.tup vs)) (pv : PrsV H vs ms) (h : OkAll hs ms) (hl : ms.length ≤ 100) : dueH H hs (.ref u) = .ok := by
  have e : tupOf H (.ref u) = some vs := tupOf_at hu
  have r := runs_ok pv h vs.length (Nat.le_refl _)
  rw [List.take_length] at r
  exact due_ok e (by rw [pv.len]; omega) r
/-- a history at x -/
def HistAt (Z : Ad) (H : Hp) (x : Addr) (hs : List Nat) (ms : List (Nat × Nat)) : Prop := ∃ dh t u vs, H x = some (.ins Z.a_History dh [("tree", .ref t), ("moves", .ref u)]) ∧ TreeAt Z H t hs ∧ H u = some (.tup vs) ∧ PrsV H vs ms
theorem HistAt.same {Z : Ad} {H H' : Hp} {x : Addr} {hs : List Nat} {ms : List (Nat × Nat)} (s : Same H H') (h : HistAt Z H x hs ms) : HistAt Z H' x hs ms := by
  obtain ⟨dh, t, u, vs, h1, h2, h3, h4⟩ := h
  exact ⟨dh, t, u, vs, s _ _ h1, h2.same s, s _ _ h3, h4.same s⟩
theorem pdT_shaped (l : List (Nat × Nat)) : SeqAt.shaped (.tuple (pds l)) = true := by
  show (PyData.canLayAll0 (pds l) && decide (PyData.depthAll (pds l) + 1 ≤ 64)) = true
  have := pds_depth l
  rw [pds_lay, decide_eq_true (by omega)]
  rfl
section
variable {P : Program} {w : World} {K : PySem.W.Frag} {mg : Str → Option Value} {base : Heap} {Z : Ad}
theorem x_eqPrs {H : Hp} {Q : VK} {a b : Addr} {vs ws : List V} {ms ns : List (Nat × Nat)} (h1 : H a = some (.tup vs)) (h2 : H b = some (.tup ws)) (p1 : PrsV H vs ms) (p2 : PrsV H ws ns) (q : Q (.bl (decide (ms = ns))) H) : rEqD K (.ref a) (.ref b) H Q := by
  refine ⟨.tuple (pds ms), .tuple (pds ns), .tup (.of h1) p1.dp, .tup (.of h2) p2.dp, pdT_shaped ms, pdT_shaped ns, ?_⟩
  rw [PyData.eqv, pds_eqv]
  exact q
theorem x_nePrs {H : Hp} {Q : VK} {a b : Addr} {vs ws : List V} {ms ns : List (Nat × Nat)} (h1 : H a = some (.tup vs)) (h2 : H b = some (.tup ws)) (p1 : PrsV H vs ms) (p2 : PrsV H ws ns) (q : Q (.bl (!decide (ms = ns))) H) : rNeD K (.ref a) (.ref b) H Q := by
  refine ⟨.tuple (pds ms), .tuple (pds ns), .tup (.of h1) p1.dp, .tup (.of h2) p2.dp, pdT_shaped ms, pdT_shaped ns, ?_⟩
  rw [PyData.eqv, pds_eqv]
  exact q
theorem make_hist {H : Hp} {R : Addr → Hp → Prop} {t u : Addr} {hs : List Nat} {vs : List V} {ms : List (Nat × Nat)} (tr : TreeAt Z H t hs) (it : IsTree hs) (hu : H u = some (.tup vs)) (pv : PrsV H vs ms) (ok : OkAll hs ms) (hl : ms.length ≤ 100) (q : ∀ m H', H m = none → Same H H' → HistAt Z H' m hs ms → R m H') :
    ∀ x dx, H x = none → H dx = none → dx ≠ x → spHist Z (.ref x :: ([.ref t, .ref u] ++ [])) (upd (upd H dx (.own x)) x (.ins Z.a_History dx [])) (fun v H2 => v = .non ∧ R x H2) (fun _ _ _ => False) := by
  intro m dm hm hdm ne
  have hm2 : upd H dm (.own m) m = none := by
    rw [upd_ne (Ne.symm ne)]
    exact hm
  have s0 : Same H (upd (upd H dm (.own m)) m (.ins Z.a_History dm [])) := same_new (same_new (Same.refl H) hdm) hm2
  have du := hist_due (s0 _ _ hu) (pv.same s0) ok hl
  refine ⟨m, dm, _, _, rfl, upd_same, kvd_prs (s0 _ _ hu) (pv.same s0) 2, .inl ⟨t, hs, rfl, tr.same s0, it, fun _ H' b1 e => ⟨rfl, ?_⟩, fun _ _ nd => (nd du).elim⟩⟩
  have s1 : Same H H' := fun b o e => b1 _ _ (ne_of_none e hm) (s0 _ _ e)
  exact q m H' hm s1 ⟨dm, t, u, vs, e, tr.same s1, s1 _ _ hu, pv.same s1⟩
def spEqH (Z : Ad) : Sp := fun vs H Q _ => ∃ (a b : Addr) (hs : List Nat) (ms : List (Nat × Nat)), vs = [.ref a, .ref b] ∧ HistAt Z H a hs ms ∧ ((∃ gs ns, HistAt Z H b gs ns ∧ Q (.bl (decide (hs = gs ∧ ms = ns))) H) ∨ ((∃ xs, H b = some (.tup xs)) ∧ Q (.bl false) H))
theorem ok_eqH {f : Addr} {fd : FuncData} (F : Fun K "__eq__" "History.__eq__" s_History___eq__ f fd) (B : Bl Z mg) (T : IsC K Z.a_History) (HC : HisC K Z) {f_Tree___eq__ : Addr} {fd_Tree___eq__ : FuncData} (C_Tree___eq__ : CalM K f_Tree___eq__ fd_Tree___eq__ ["self", "other"]) (G_Tree___eq__ : FnOk P w K mg base CX0 1 f_Tree___eq__ fd_Tree___eq__ ["self", "other"] (spEqT Z)) (O_Tree : OwnQ K Z.a_Tree f_Tree___eq__) : FnOk P w K mg base CX0 2 f fd ["self", "other"] (spEqH Z) := by
  refine F.ok sc_History___eq__ (fun vs H Q E h => ?_) (fun cdv A outer s H vs Q E hr h => ?_)
  · obtain ⟨a, b, hs, ms, rfl, _⟩ := h
    rfl
  · obtain ⟨a, b, hs, ms, rfl, ⟨dh, t, u, us, h1, h2, h3, h4⟩, h⟩ := h
    refine ⟨_, (pss_cons (ps_if (pt_not (pt_val (pe_callB (call_isiK' (K := K) rfl) (by rfl) B.b_isinstance (by decide +kernel) (pa_cons (pv 1) (pa_cons (pe_glob (v := .ref Z.a_History) rfl B.k_History rfl) pa_nil))))) (pss_one (ps_ret pe_bl)) pss_nil)
 (pss_one (ps_ret (pe_and (pe_cmpR (op_own O_Tree G_Tree___eq__ C_Tree___eq__.b (hr.mono (by first | decide | omega))) (pe_fldK (K := K) rfl (pv 0) rfl) (pe_fldK (K := K) rfl (pv 1) rfl) (nomark _)) (pe_one (pe_cmpR (op_eqDK (K := K) rfl hr.units) (pe_fldK (K := K) rfl (pv 0) rfl) (pe_fldK (K := K) rfl (pv 1) rfl) (nomark _))))))), ?_⟩
    walk_at "h0"
    rcases h with ⟨gs, ns, ⟨dk, t2, u2, ws, g1, g2, g3, g4⟩, q⟩ | ⟨⟨xs, hb⟩, q⟩
    · refine isi_own T g1 ?_
      walk_at "hs"
      refine ⟨a, _, dh, _, _, rfl, h1, HC.c, HC.nt, rfl, ?_⟩
      walk_at "hs"
      refine ⟨b, _, dk, _, _, rfl, g1, HC.c, HC.nt, rfl, ?_⟩
      refine eq_trees h2 g2 ?_
      by_cases c : hs = gs
      · rw [decide_eq_true c]
        walk_at "hs"
        refine ⟨a, _, dh, _, _, rfl, h1, HC.c, HC.nm, rfl, ?_⟩
        walk_at "hs"
        refine ⟨b, _, dk, _, _, rfl, g1, HC.c, HC.nm, rfl, ?_⟩
        refine x_eqPrs h3 g3 h4 g4 ?_
        walk_at "hs"
        rw [show decide (hs = gs ∧ ms = ns) = decide (ms = ns) by rw [decide_eq_decide]; exact ⟨fun h => h.2, fun h => ⟨c, h⟩⟩] at q
        exact q
      · rw [decide_eq_false c]
        walk_at "hs"
        rw [decide_eq_false fun h => c h.1] at q
        exact q
    · refine isi_tupOwn T hb ?_
      walk_at "hs"
      exact q
def spNow (Z : Ad) : Sp := fun vs H Q _ => ∃ (x : Addr) (hs : List Nat) (ms : List (Nat × Nat)), vs = [.ref x] ∧ HistAt Z H x hs ms ∧ IsTree hs ∧ OkAll hs ms ∧ ∀ m H', H m = none → Same H H' → TreeAt Z H' m (final hs ms) → Q (.ref m) H'
theorem ok_now {f : Addr} {fd : FuncData} (F : Fun K "now" "now" s_now f fd) (B : Bl Z mg) (HC : HisC K Z) (T : Cls K Z.a_Tree) (N : NoAttr K Z.a_Tree "hung") {f_Tree___init__ : Addr} {fd_Tree___init__ : FuncData} (C_Tree___init__ : CalM K f_Tree___init__ fd_Tree___init__ ["self", "hung"]) (G_Tree___init__ : FnOk P w K mg base (L2.CX P w) 3 f_Tree___init__ fd_Tree___init__ ["self", "hung"] (spTree Z)) (M_Tree : Mk K Z.a_Tree f_Tree___init__) : FnOk P w K mg base CX0 5 f fd ["history"] (spNow Z) := by
  refine F.ok sc_now (fun vs H Q E h => ?_) (fun cdv A outer s H vs Q E hr h => ?_)
  · obtain ⟨x, hs, ms, rfl, _⟩ := h
    rfl
  · obtain ⟨x, hs, ms, rfl, ⟨dh, t, u, vs, h1, ⟨dt, tt, h2, h2'⟩, h3, h4⟩, it, ok, q⟩ := h
    refine ⟨_, (pss_cons (ps_set (i := 1) sc_now.nd rfl (Or.inl rfl) (pe_callTy (call_lstK (K := K) rfl) (by rfl) B.b_list (by decide +kernel) (pa_cons (pe_fldK (K := K) rfl (pe_fldK (K := K) rfl (pv 0) rfl) rfl) pa_nil)))
 (pss_cons (ps_for PassesOwn.never rfl (pi_tup (pe_fldK (K := K) rfl (pv 0) rfl)) (pg_tup rfl (pgs_cons (pg_name (i := 2) sc_now.nd rfl (Or.inl rfl)) (pgs_cons (pg_name (i := 3) sc_now.nd rfl (Or.inl rfl)) pgs_nil))) (pss_one (ps_asg (pv 3) (pg_sub (pv 1) (pe_op op_sub (pv 2) pe_int) set_list))))
 (pss_one (ps_ret (pe_make M_Tree G_Tree___init__ (hr.mono (by first | decide | omega)) (by rfl) B.k_Tree C_Tree___init__.b .nil passE (pa_cons (pe_callTy (call_tplK (K := K) rfl) (by rfl) B.b_tuple (by decide +kernel) (pa_cons (pv 1) pa_nil)) pa_nil)))))), ?_⟩
    walk_at "h0"
    refine ⟨x, _, dh, _, _, rfl, h1, HC.c, HC.nt, rfl, ?_⟩
    walk_at "hs"
    refine ⟨t, _, dt, _, _, rfl, h2, T, N, rfl, ?_⟩
    have s2 : SqT K H tt (nats hs) := .of h2'
    walk_at "hs"
    intro L hL
    walk_at "hs"
    refine ⟨x, _, dh, _, _, rfl, keepN h1 hL, HC.c, HC.nm, rfl, ?_⟩
    refine ⟨u, rfl, ⟨_, SqT.of (keepN h3 hL)⟩, ?_⟩
    refine lp_tup (K := K) (xs := vs) (fun i σ' H' => (∃ x2 x3, σ' = [some (.ref x), some (.ref L), x2, x3]) ∧ Same H H' ∧ H' L = some (.lst (nats (final hs (ms.take i)))))
      ⟨⟨_, _, rfl⟩, same_new (Same.refl _) hL, upd_same⟩ (fun i σ' H' _ h => .of (h.2.1 _ _ h3)) ?_ ?_
    · rintro i v σ' H' hv ⟨⟨x2, x3, rfl⟩, s1, eL⟩
      obtain ⟨y, hy, py⟩ := h4.at hv
      obtain ⟨a, rfl, ha⟩ := py.same s1
      have sa : SqT K H' a [.int (y.1 : Nat), .int (y.2 : Nat)] := .of ha
      obtain ⟨k1, k2, k3, k4, k5⟩ := ok i y hy
      have ix : ixN (nats (final hs (ms.take i))).length ((y.1 : Nat) - 1 : Int) = some (y.1 - 1) := by
        rw [show ((y.1 : Nat) - 1 : Int) = ((y.1 - 1 : Nat) : Int) by omega]
        exact ixN_nat (by rw [nats_length]; omega)
      walk_at "hs"
      refine ⟨⟨_, _, rfl⟩, same_mut s1 hL, ?_⟩
      rw [upd_same, final_take hy, nats_set]
      rfl
    · rintro σ' H' ⟨⟨x2, x3, rfl⟩, s1, eL⟩
      have hml : ms.length = vs.length := h4.len.symm
      rw [← hml, List.take_length] at eL
      have sL : SqL K H' L (nats (final hs ms)) := .of eL
      walk_at "hs"
      refine x_make ?_
      walk_at "hs"
      intro U hU
      walk_at "hs"
      refine make_tree (Q := Q) (ok.tree it) upd_same fun m H3 nm s3 tr => ?_
      exact q m H3 (s1.free (Same.free (same_new (Same.refl _) hU) nm)) (s1.trans ((same_new (Same.refl _) hU).trans s3)) tr
end
set_option maxRecDepth 100000
set_option maxHeartbeats 2000000
open PySem PySem.Spec L2


theorem sc__law_tree : FnScope ["_law_hand_here", "_law_many", "_law_left", "_law_places", "_law_found", "_law_block"] ["_law_hand_here", "_law_many"] (defScope s__law_tree) := ⟨rfl, rfl, rfl, by decide +kernel, rfl, by decide +kernel, by decide +kernel⟩
theorem sc__law_row : FnScope ["_law_hung", "_law_place", "_law_found", "_law_here"] ["_law_hung", "_law_place"] (defScope s__law_row) := ⟨rfl, rfl, rfl, by decide +kernel, rfl, by decide +kernel, by decide +kernel⟩
theorem sc__law_beneath : FnScope ["_law_hung", "_law_place", "_law_block"] ["_law_hung", "_law_place"] (defScope s__law_beneath) := ⟨rfl, rfl, rfl, by decide +kernel, rfl, by decide +kernel, by decide +kernel⟩
theorem sc__law_put : FnScope ["_law_hung", "_law_block", "_law_place"] ["_law_hung", "_law_block", "_law_place"] (defScope s__law_put) := ⟨rfl, rfl, rfl, by decide +kernel, rfl, by decide +kernel, by decide +kernel⟩
/-- what hangs beneath a block, itself with it -/
def inner (hs : List Nat) (b : Nat) : List Nat := (List.range' 1 hs.length).filter fun c => decide (b ∈ c :: way hs c)
theorem inner_mem {hs : List Nat} {b p : Nat} (hp : p ≤ hs.length) (hb : 1 ≤ b) : p ∈ inner hs b ↔ (p = b ∨ b ∈ way hs p) := by
  unfold inner
  rw [List.mem_filter, List.mem_range'_1, decide_eq_true_eq, List.mem_cons]
  constructor
  · rintro ⟨_, h | h⟩
    · exact .inl h.symm
    · exact .inr h
  · intro h
    refine ⟨⟨?_, by omega⟩, h.imp Eq.symm id⟩
    rcases h with rfl | h
    · exact hb
    · refine Nat.one_le_iff_ne_zero.mpr fun e => ?_
      subst e
      obtain ⟨j, _, nz, _⟩ := (way_mem hs b _ _).mp h
      exact nz (upN_zero hs j)
section
variable {P : Program} {w : World} {K : PySem.W.Frag} {mg : Str → Option Value} {base : Heap} {Z : Ad}
def spHungW : Sp := fun vs H Q _ => ∃ (p : Addr) (n : Nat) (F : Addr → Prop), vs = [.ref p, .int n] ∧ PoolAt H p F ∧ 1 ≤ n ∧ n ≤ 40 ∧ ∀ (D : Addr) (hs : List Nat) H', IsTree hs → hs.length = n → But p H H' → PoolAt H' p F → H' D = some (.tup (nats hs)) → Q (.ref D) H'
theorem ok_wtree {f : Addr} {fd : FuncData} (F : Fun K "_law_tree" "_law_tree" s__law_tree f fd) (B : Bl Z mg) {f__law_draw : Addr} {fd__law_draw : FuncData} (C__law_draw : Cal K mg "_law_draw" f__law_draw fd__law_draw ["_law_hand_here", "_law_many"]) (G__law_draw : FnOk P w K mg base CX0 1 f__law_draw fd__law_draw ["_law_hand_here", "_law_many"] spDraw) : FnOk P w K mg base CX0 2 f fd ["_law_hand_here", "_law_many"] spHungW := by
  refine F.ok sc__law_tree (fun vs H Q E h => ?_) (fun cdv A outer s H vs Q E hr h => ?_)
  · obtain ⟨p, n, Fo, rfl, _⟩ := h
    rfl
  · obtain ⟨p, n, Fo, rfl, hp, n1, n2, q⟩ := h
    refine ⟨_, (pss_cons (ps_set (i := 2) sc__law_tree.nd rfl (Or.inl rfl) (pe_listRg rfl (by rfl) B.b_list (prg_2 (by rfl) B.b_range pe_int (pe_op op_add (pv 1) pe_int))))
 (pss_cons (ps_set (i := 3) sc__law_tree.nd rfl (Or.inl rfl) (pe_lst (pa_cons pe_int pa_nil)))
 (pss_cons (ps_set (i := 4) sc__law_tree.nd rfl (Or.inl rfl) (pe_op op_rep (pe_lst (pa_cons pe_int pa_nil)) (pv 1)))
 (pss_cons (ps_while PassesOwn.never (pt_cmpR op_gt (pe_callB (call_lenK (K := K) rfl) (by rfl) B.b_len PySem.boot_len (pa_cons (pv 2) pa_nil)) pe_int (nomark _)) (pss_cons (ps_set (i := 5) sc__law_tree.nd rfl (Or.inl rfl) (pe_bmK (K := K) rfl PySem.F.plainAttrs_list PySem.F.slot_list_pop PySem.F.type_list_pop mt_popAt (pv 2) (pa_cons (pe_call G__law_draw (hr.mono (by first | decide | omega)) (by rfl) C__law_draw.g C__law_draw.k C__law_draw.b .nil pass0 (pa_cons (pv 0) (pa_cons (pe_callB (call_lenK (K := K) rfl) (by rfl) B.b_len PySem.boot_len (pa_cons (pv 2) pa_nil)) pa_nil))) pa_nil)))
 (pss_cons (ps_asg (pe_ix (ix_listK (K := K) rfl) (pv 3) (pe_call G__law_draw (hr.mono (by first | decide | omega)) (by rfl) C__law_draw.g C__law_draw.k C__law_draw.b .nil pass0 (pa_cons (pv 0) (pa_cons (pe_callB (call_lenK (K := K) rfl) (by rfl) B.b_len PySem.boot_len (pa_cons (pv 3) pa_nil)) pa_nil))) (fun _ _ => rfl)) (pg_sub (pv 4) (pe_op op_sub (pv 5) pe_int) set_list))
 (pss_one (ps_expr (pe_bmK (K := K) rfl PySem.F.plainAttrs_list PySem.F.slot_list_append PySem.F.type_list_append mt_append (pv 3) (pa_cons (pv 5) pa_nil)))))))
 (pss_one (ps_ret (pe_callTy (call_tplK (K := K) rfl) (by rfl) B.b_tuple (by decide +kernel) (pa_cons (pv 4) pa_nil)))))))), ?_⟩
    walk_at "h0"
    refine ⟨⟨by omega, by omega, by omega, by omega, by omega⟩, fun L hL => ?_⟩
    rw [rgV_nats]
    walk_at "hs"
    intro O hO
    walk_at "hs"
    intro l1 hl1
    walk_at "hs"
    refine x_rep1 upd_same (by omega) fun R hR => ?_
    rw [nats_rep]
    walk_at "hs"
    have pL := hp.own (o := .lst (nats (List.range' 1 n))) hL
    have pO := pL.own (o := .lst [.int 0]) hO
    have pl := pO.newH (o := .lst [.int 0]) hl1
    have pR := pl.own (o := .lst (nats (List.replicate n 0))) hR
    have nO : O ≠ L := Ne.symm (ne_of_none upd_same hO)
    have eL0 : upd (upd (upd (upd H L (.lst (nats (List.range' 1 n)))) O (.lst [.int 0])) l1 (.lst [.int 0])) R (.lst (nats (List.replicate n 0))) L = some (.lst (nats (List.range' 1 n))) := keepN (keepN (keepN upd_same hO) hl1) hR
    have eO0 : upd (upd (upd (upd H L (.lst (nats (List.range' 1 n)))) O (.lst [.int 0])) l1 (.lst [.int 0])) R (.lst (nats (List.replicate n 0))) O = some (.lst (nats [0])) := keepN (keepN upd_same hl1) hR
    have RL : R ≠ L := Ne.symm (ne_of_none (keepN (keepN upd_same hO) hl1) hR)
    have RO : R ≠ O := Ne.symm (ne_of_none (keepN upd_same hl1) hR)
    have fL : H L = none := hL
    have fO : H O = none := Same.free (H' := upd H L _) (same_new (Same.refl _) hL) hO
    have fl1 : H l1 = none := Same.free (same_new (same_new (Same.refl _) hL) hO) hl1
    have fR : H R = none := Same.free (same_new (same_new (same_new (Same.refl _) hL) hO) hl1) hR
    have b0 : But p H (upd (upd (upd (upd H L (.lst (nats (List.range' 1 n)))) O (.lst [.int 0])) l1 (.lst [.int 0])) R (.lst (nats (List.replicate n 0)))) := ((((But.refl p H).new hL).new hO).new hl1).new hR
    have eR0 := upd_same (H := upd (upd (upd H L (.lst (nats (List.range' 1 n)))) O (.lst [.int 0])) l1 (.lst [.int 0])) (a := R) (o := .lst (nats (List.replicate n 0)))
    generalize upd (upd (upd (upd H L (.lst (nats (List.range' 1 n)))) O (.lst [.int 0])) l1 (.lst [.int 0])) R (.lst (nats (List.replicate n 0))) = H0 at *
    refine ⟨fun mu σ' H' => (∃ x5, σ' = [some (.ref p), some (.int n), some (.ref L), some (.ref O), some (.ref R), x5]) ∧ ∃ ls ms fs : List Nat, mu = ls.length ∧ (ms ++ ls).Perm (List.range' 1 n) ∧ fs.length = n ∧ But p H H' ∧ PoolAt H' p (fun a => a = R ∨ a = O ∨ a = L ∨ Fo a) ∧ H' L = some (.lst (nats ls)) ∧ H' O = some (.lst (nats (0 :: ms))) ∧ H' R = some (.lst (nats fs)) ∧ ∀ (i' x : Nat), ms[i']? = some x → ∃ j y : Nat, j ≤ i' ∧ (0 :: ms)[j]? = some y ∧ fs[x - 1]? = some y,
      ⟨n, ⟨_, rfl⟩, List.range' 1 n, [], List.replicate n 0, by rw [List.length_range'], List.Perm.refl _, List.length_replicate, b0, pR, eL0, eO0, eR0, fun i' x h => by cases h⟩, ?_⟩
    rintro mu σ' H' ⟨⟨x5, rfl⟩, ls, ms, fs, rfl, hpm, hfs, b2, p2, eL, eO, eR, hd⟩
    have hlen : ms.length + ls.length = n := by rw [← List.length_append, hpm.length_eq, List.length_range']
    have sL : SqL K H' L (nats ls) := .of eL
    walk_at "hs"
    rw [nats_length]
    refine x_isd (fun c => ?_) (fun c => ?_)
    · refine ⟨fun σ' H2 => (∃ x5, σ' = [some (.ref p), some (.int n), some (.ref L), some (.ref O), some (.ref R), x5]) ∧ ∃ ks ms fs : List Nat, ks.length < ls.length ∧ (ms ++ ks).Perm (List.range' 1 n) ∧ fs.length = n ∧ But p H H2 ∧ PoolAt H2 p (fun a => a = R ∨ a = O ∨ a = L ∨ Fo a) ∧ H2 L = some (.lst (nats ks)) ∧ H2 O = some (.lst (nats (0 :: ms))) ∧ H2 R = some (.lst (nats fs)) ∧ ∀ (i' x : Nat), ms[i']? = some x → ∃ j y : Nat, j ≤ i' ∧ (0 :: ms)[j]? = some y ∧ fs[x - 1]? = some y,
        fun σ' H2 hN => ?_, ?_⟩
      · obtain ⟨hσ, ks, ms, fs, h1, h2⟩ := hN
        exact ⟨ks.length, h1, hσ, ks, ms, fs, rfl, h2⟩
      walk_at "hs"
      rw [nats_length]
      refine ⟨p, _, _, rfl, p2, by omega, by omega, fun d H2 d0 d1 b3 p3 => ?_⟩
      obtain ⟨k, rfl⟩ := Int.eq_ofNat_of_zero_le d0
      have hk : k < ls.length := by omega
      have eL2 := b3 _ _ (p2.neF (.inr (.inr (.inl rfl)))) eL
      have eO2 := b3 _ _ (p2.neF (.inr (.inl rfl))) eO
      have eR2 := b3 _ _ (p2.neF (.inl rfl)) eR
      walk_at "hs"
      refine x_popAt eL2 (by omega) (by omega) (ixN_nat (by rw [nats_length]; exact hk)) (nats_get (List.getElem?_eq_getElem hk)) ?_
      have eO3 : upd H2 L (.lst ((nats ls).eraseIdx k)) O = some (.lst (nats (0 :: ms))) := keepM nO eO2
      have eR3 : upd H2 L (.lst ((nats ls).eraseIdx k)) R = some (.lst (nats fs)) := keepM RL eR2
      have p4 := p3.mut (o := .lst ((nats ls).eraseIdx k)) (.inr (.inr (.inl rfl)))
      have b4 : But p H (upd H2 L (.lst ((nats ls).eraseIdx k))) := (b2.trans b3).mutF fL
      have eL3 : upd H2 L (.lst ((nats ls).eraseIdx k)) L = some (.lst (nats (ls.eraseIdx k))) := by rw [upd_same, nats_erase]
      have hxm : 1 ≤ ls[k] ∧ ls[k] ≤ n := by
        have := List.mem_range'_1.mp (hpm.mem_iff.mp (List.mem_append.mpr (.inr (List.getElem_mem hk))))
        omega
      generalize upd H2 L (.lst ((nats ls).eraseIdx k)) = H3 at *
      have nl : (nats (0 :: ms)).length = ms.length + 1 := by rw [nats_length, List.length_cons]
      have sO3 : SqL K H3 O (nats (0 :: ms)) := .of eO3
      walk_at "hs"
      rw [nl]
      refine ⟨p, _, _, rfl, p4, by omega, by omega, fun d2 H5 d20 d21 b6 p6 => ?_⟩
      obtain ⟨k2, rfl⟩ := Int.eq_ofNat_of_zero_le d20
      have k2l : k2 < (0 :: ms).length := by rw [List.length_cons]; omega
      have eO5 := b6 _ _ (p4.neF (.inr (.inl rfl))) eO3
      have eL5 := b6 _ _ (p4.neF (.inr (.inr (.inl rfl)))) eL3
      have eR5 := b6 _ _ (p4.neF (.inl rfl)) eR3
      have sO5 : SqL K H5 O (nats (0 :: ms)) := .of eO5
      have at5 : atI (nats (0 :: ms)) (k2 : Int) = some (.int ((0 :: ms)[k2] : Nat)) := atI_nat (nats_get (List.getElem?_eq_getElem k2l))
      have at6 : ixN (nats fs).length ((ls[k] : Nat) - 1 : Int) = some (ls[k] - 1) := by
        rw [show ((ls[k] : Nat) - 1 : Int) = ((ls[k] - 1 : Nat) : Int) by omega]
        exact ixN_nat (by rw [nats_length]; omega)
      walk_at "hs"
      refine x_append (keepM (Ne.symm RO) eO5) (by rw [nats_length, List.length_cons]; exact szLt (by omega)) ?_
      walk_at "hs"
      have f5 : But p H H5 := b4.trans b6
      refine ⟨⟨_, rfl⟩, ls.eraseIdx k, ms ++ [ls[k]], fs.set (ls[k] - 1) (0 :: ms)[k2], ?_, ?_, by rw [List.length_set]; exact hfs, (f5.mutF fR).mutF fO, (p6.mut (.inl rfl)).mut (.inr (.inl rfl)), ?_, ?_, ?_, fun i' x hx => ?_⟩
      · rw [List.length_eraseIdx_of_lt hk]
        omega
      · rw [List.append_assoc]
        exact ((perm_erase (List.getElem?_eq_getElem hk)).append_left ms).trans hpm
      · rw [upd_ne (Ne.symm nO), upd_ne (Ne.symm RL)]
        exact eL5
      · rw [upd_same, show nats (0 :: (ms ++ [ls[k]])) = nats (0 :: ms) ++ nats [ls[k]] from nats_append (0 :: ms) [ls[k]]]
        rfl
      · rw [upd_ne RO, upd_same, nats_set]
      · rcases Nat.lt_or_ge i' ms.length with h | h
        · rw [List.getElem?_append_left h] at hx
          obtain ⟨j, y, hj, hy, hf⟩ := hd i' x hx
          refine ⟨j, y, hj, by rw [← List.cons_append, List.getElem?_append_left (by rw [List.length_cons]; omega)]; exact hy, ?_⟩
          have hne : ls[k] - 1 ≠ x - 1 := fun e2 => by
            have hxm' := List.mem_range'_1.mp (hpm.mem_iff.mp (List.mem_append.mpr (.inl (List.mem_of_getElem? hx))))
            have nd : (ms ++ ls).Nodup := hpm.nodup_iff.mpr (List.nodup_range' ..)
            have e3 : x = ls[k] := by omega
            exact (List.nodup_append.mp nd).2.2 x (List.mem_of_getElem? hx) ls[k] (List.getElem_mem hk) e3
          rw [List.getElem?_set_ne hne]
          exact hf
        · rw [List.getElem?_append_right h] at hx
          have hk0 : i' - ms.length = 0 := by
            have := (List.getElem?_eq_some_iff.mp hx).1
            rw [List.length_singleton] at this
            omega
          rw [hk0] at hx
          have ex : ls[k] = x := Option.some.inj hx
          subst ex
          rw [List.length_cons] at k2l
          refine ⟨k2, (0 :: ms)[k2], by omega, by rw [← List.cons_append, List.getElem?_append_left (by rw [List.length_cons]; omega)]; exact List.getElem?_eq_getElem _, by rw [List.getElem?_set_self (by omega)]⟩
    · have e : ls = [] := List.length_eq_zero_iff.mp (by omega)
      rw [e, List.append_nil] at hpm
      have htree : IsTree fs := Drawn.tree ⟨ms, by rw [hfs]; exact hpm, hd⟩ (by omega) (by omega)
      have sR : SqL K H' R (nats fs) := .of eR
      walk_at "hs"
      intro D hD
      exact q D fs _ htree hfs (b2.new hD) ((p2.newH hD).weak fun a h => .inr (.inr (.inr h))) upd_same
def spRow (K : PySem.W.Frag) : Sp := fun vs H Q _ => ∃ (t : Addr) (hs : List Nat) (k : Nat), vs = [.ref t, .int k] ∧ H t = some (.tup (nats hs)) ∧ IsTree hs ∧ k ≤ hs.length ∧ ∀ D H', Same H H' → H D = none → H' D = some (.lst (nats (way hs k))) → Q (.ref D) H'
theorem ok_row {f : Addr} {fd : FuncData} (F : Fun K "_law_row" "_law_row" s__law_row f fd) (B : Bl Z mg) : FnOk P w K mg base CX0 1 f fd ["_law_hung", "_law_place"] (spRow K) := by
  refine F.ok sc__law_row (fun vs H Q E h => ?_) (fun cdv A outer s H vs Q E hr h => ?_)
  · obtain ⟨t, hs, k, rfl, _⟩ := h
    rfl
  · obtain ⟨t, hs, k, rfl, ht, it, hk, q⟩ := h
    refine ⟨_, (pss_cons (ps_set (i := 2) sc__law_row.nd rfl (Or.inl rfl) (pe_lst pa_nil))
 (pss_cons (ps_set (i := 3) sc__law_row.nd rfl (Or.inl rfl) (pv 1))
 (pss_cons (ps_while PassesOwn.never (pt_cmpR op_ne (pv 3) pe_int (nomark _)) (pss_cons (ps_set (i := 3) sc__law_row.nd rfl (Or.inl rfl) (pe_ix (ix_tupK (K := K) rfl) (pv 0) (pe_op op_sub (pv 3) pe_int) (fun _ _ => rfl)))
 (pss_one (ps_expr (pe_bmK (K := K) rfl PySem.F.plainAttrs_list PySem.F.slot_list_append PySem.F.type_list_append mt_append (pv 2) (pa_cons (pv 3) pa_nil))))))
 (pss_one (ps_ret (pv 2)))))), ?_⟩
    walk_at "h0"
    intro D hD
    walk_at "hs"
    refine ⟨fun m σ' H' => ∃ n : Nat, n + m = hs.length + 1 ∧ (∀ j, j < n → upN hs j k ≠ 0) ∧ σ' = [some (.ref t), some (.int k), some (.ref D), some (.int (upN hs n k : Nat))] ∧ Same H H' ∧ H' D = some (.lst (nats ((List.range n).map fun i => upN hs (i + 1) k))), ⟨hs.length + 1, 0, by omega, fun j hj => absurd hj (Nat.not_lt_zero _), rfl, same_new (Same.refl _) hD, upd_same⟩, ?_⟩
    rintro m σ' H' ⟨n, hn, hz, rfl, s1, eD⟩
    walk_at "hs"
    refine x_isd (fun c => ?_) (fun c => ?_)
    · have c' : upN hs n k ≠ 0 := fun e => c (by rw [e]; rfl)
      have hlt : n < hs.length := by
        refine Nat.lt_of_not_le fun hle => c' ?_
        exact upN_more (it.comes k hk) hle
      have hup := upN_le it.le n k hk
      have hat : atI (nats hs) ((upN hs n k : Nat) - 1 : Int) = some (.int (upN hs (n + 1) k : Nat)) := by
        rw [show ((upN hs n k : Nat) - 1 : Int) = ((upN hs n k - 1 : Nat) : Int) by omega, upN_succ]
        exact nats_at (up_get (by omega) hup)
      have st : SqT K H' t (nats hs) := .of (s1 _ _ ht)
      refine ⟨fun σ' H2 => σ' = [some (.ref t), some (.int k), some (.ref D), some (.int (upN hs (n + 1) k : Nat))] ∧ Same H H2 ∧ H2 D = some (.lst (nats ((List.range (n + 1)).map fun i => upN hs (i + 1) k))), fun σ' H2 hN => ⟨m - 1, by omega, n + 1, by omega, fun j hj => ?_, hN.1, hN.2.1, hN.2.2⟩, ?_⟩
      · by_cases e : j = n
        · rw [e]
          exact c'
        · exact hz j (by omega)
      · walk_at "hs"
        have := it.most
        refine x_append eD (by rw [nats_length, List.length_map, List.length_range]; exact szLt (by omega)) ?_
        walk_at "hs"
        refine ⟨rfl, same_mut s1 hD, ?_⟩
        rw [upd_same, List.range_succ, List.map_append, nats_append]
        rfl
    · have c' : upN hs n k = 0 := by
        refine Decidable.byContradiction fun e => c fun e' => e ?_
        omega
      have hle : n ≤ hs.length := by
        refine Nat.le_of_not_lt fun h => hz hs.length h (it.comes k hk)
      walk_at "hs"
      refine q D _ s1 hD ?_
      rw [eD, way, wayN_eq hs hs.length k n hz c' hle]
end
set_option maxRecDepth 100000
set_option maxHeartbeats 2000000
open PySem PySem.Spec L2


section
variable {P : Program} {w : World} {K : PySem.W.Frag} {mg : Str → Option Value} {base : Heap} {Z : Ad}
def spInner (K : PySem.W.Frag) : Sp := fun vs H Q _ => ∃ (t : Addr) (hs : List Nat) (b : Nat), vs = [.ref t, .int b] ∧ H t = some (.tup (nats hs)) ∧ IsTree hs ∧ 1 ≤ b ∧ b ≤ hs.length ∧ ∀ D H', Same H H' → H D = none → H' D = some (.lst (nats (inner hs b))) → Q (.ref D) H'
theorem ok_inner {f : Addr} {fd : FuncData} (F : Fun K "_law_beneath" "_law_beneath" s__law_beneath f fd) (B : Bl Z mg) {f__law_row : Addr} {fd__law_row : FuncData} (C__law_row : Cal K mg "_law_row" f__law_row fd__law_row ["_law_hung", "_law_place"]) (G__law_row : FnOk P w K mg base CX0 1 f__law_row fd__law_row ["_law_hung", "_law_place"] (spRow K)) : FnOk P w K mg base CX0 2 f fd ["_law_hung", "_law_place"] (spInner K) := by
  refine F.ok sc__law_beneath (fun vs H Q E h => ?_) (fun cdv A outer s H vs Q E hr h => ?_)
  · obtain ⟨t, hs, b, rfl, _⟩ := h
    rfl
  · obtain ⟨t, hs, b, rfl, ht, it, b1, b2, q⟩ := h
    refine ⟨_, (pss_one (ps_ret (pe_op op_cat (pe_lc (own := [("_law_block", 2)]) rfl sc__law_beneath.nd (pi_range2 rfl B.b_range (pa_cons pe_int (pa_cons (pe_op op_add (pe_callB (call_lenK (K := K) rfl) (by rfl) B.b_len PySem.boot_len (pa_cons (pv 0) pa_nil)) pe_int) pa_nil))) (blkOk_by (N := ["_law_hung", "_law_place", "_law_block"]) (sc := defScope s__law_beneath) (by decide +kernel)) (fun _ _ _ _ _ => (pg_name (i := 2) sc__law_beneath.nd rfl (Or.inl rfl))) (fun _ _ _ _ _ => (pts_one (pt_cmpR (op_inK (K := K) rfl) (pv 1) (pe_op op_cat (pe_lst (pa_cons (pv 2) pa_nil)) (pe_call G__law_row (hr.mono (by first | decide | omega)) (by rfl) C__law_row.g C__law_row.k C__law_row.b .nil pass0 (pa_cons (pv 0) (pa_cons (pv 2) pa_nil)))) (by rfl)))) (fun _ _ _ _ _ => (pv 2))) (pe_op op_rep (pe_lst (pa_cons pe_int pa_nil)) (pe_callTy call_int (by rfl) B.b_int (by decide +kernel) (pa_cons (pe_cmpR op_eq (pv 1) pe_int (nomark _)) pa_nil)))))), ?_⟩
    have h40 := it.most
    have st0 : SqT K H t (nats hs) := .of ht
    walk_at "h0"
    rw [nats_length]
    refine ⟨1, (hs.length : Int) + 1, rfl, ⟨by omega, by omega, by omega, by omega⟩, fun D hD => ?_⟩
    refine lc_range (lo := 1) (n := Int.toNat ((hs.length : Int) + 1 - 1)) (fun i G => Same H G ∧ G D = some (.lst (nats ((List.range' 1 i).filter fun c => decide (b ∈ c :: way hs c))))) ⟨same_new (Same.refl _) hD, upd_same⟩ ?_ ?_
    · rintro i G hi ⟨s1, eD⟩
      have hi' : i < hs.length := by omega
      walk_at "hs"
      refine ⟨rfl, ?_⟩
      have hz : (1 : Int) + (i : Int) = ((i + 1 : Nat) : Int) := by omega
      rw [hz]
      walk_at "hs"
      intro a1 n1
      have s2 : Same G (upd G a1 (.lst [.int ((i + 1 : Nat) : Int)])) := same_new (Same.refl _) n1
      have e1 : upd G a1 (.lst [.int ((i + 1 : Nat) : Int)]) a1 = some (.lst [.int ((i + 1 : Nat) : Int)]) := upd_same
      generalize upd G a1 (.lst [.int ((i + 1 : Nat) : Int)]) = G1 at s2 e1 ⊢
      walk_at "hs"
      refine ⟨t, hs, i + 1, rfl, s2 _ _ (s1 _ _ ht), it, by omega, fun D2 G2 s3 n2 e2 => ?_⟩
      have lw : (way hs (i + 1)).length ≤ 40 := Nat.le_trans (wayN_len _ _ _) h40
      refine x_cat (s3 _ _ e1) e2 (szLe (by rw [nats_length]; show 1 + _ ≤ _; omega)) fun E hE => ?_
      have s4 : Same G (upd G2 E (.lst ([V.int ((i + 1 : Nat) : Int)] ++ nats (way hs (i + 1))))) := (s2.trans s3).trans (same_new (Same.refl _) hE)
      have eE := upd_same (H := G2) (a := E) (o := .lst ([V.int ((i + 1 : Nat) : Int)] ++ nats (way hs (i + 1))))
      generalize upd G2 E _ = G4 at s4 eE ⊢
      have eE' : G4 E = some (.lst (nats ((i + 1) :: way hs (i + 1)))) := eE
      refine x_inNL (.of eE') ?_
      walk_at "hs"
      have hl : ((List.range' 1 i).filter fun c => decide (b ∈ c :: way hs c)).length ≤ i := filter_len _ _
      have sn := filter_snoc (fun c => decide (b ∈ c :: way hs c)) i
      refine x_isd (fun c => ?_) (fun c => ?_)
      · walk_at "hs"
        refine ⟨_, s4 _ _ eD, szLt (by rw [nats_length]; omega), same_mut (s1.trans s4) hD, ?_⟩
        rw [upd_same, sn, if_pos (decide_eq_true c), nats_append]
        rfl
      · refine ⟨s1.trans s4, ?_⟩
        rw [sn, if_neg (by rw [decide_eq_true_eq]; exact c), List.append_nil]
        exact s4 _ _ eD
    · rintro G ⟨s1, eD⟩
      have en : Int.toNat ((hs.length : Int) + 1 - 1) = hs.length := by omega
      rw [en] at eD
      walk_at "hs"
      intro a1 n1
      have s2 : Same G (upd G a1 (.lst [.int 0])) := same_new (Same.refl _) n1
      have e1 : upd G a1 (.lst [.int 0]) a1 = some (.lst [.int 0]) := upd_same
      generalize upd G a1 (.lst [.int 0]) = G1 at s2 e1 ⊢
      walk_at "hs"
      refine .inr ⟨_, rfl, ?_⟩
      have e0 : (if decide ((b : Int) = 0) = true then (1 : Int) else 0) = ((0 : Nat) : Int) := by
        rw [decide_eq_false (by omega)]
        rfl
      rw [e0]
      walk_at "hs"
      refine x_rep1 e1 (by decide) fun R hR => ?_
      walk_at "hs"
      have hl : (inner hs b).length ≤ hs.length := filter_len _ _
      refine x_cat (keepN (s2 _ _ eD) hR) upd_same (szLe (by rw [nats_length]; have : (List.replicate 0 (V.int 0)).length = 0 := rfl; have hl2 : ((List.range' 1 hs.length).filter fun c => decide (b ∈ c :: way hs c)).length ≤ hs.length := filter_len _ _; omega)) fun E hE => ?_
      walk_at "hs"
      have s3 := (s1.trans s2).trans (same_new (Same.refl _) hR (o := .lst (List.replicate 0 (V.int 0))))
      refine q E _ (s3.trans (same_new (Same.refl _) hE)) (s3.free hE) ?_
      rw [upd_same]
      show some (HO.lst (nats _ ++ [])) = _
      rw [List.append_nil]
      rfl
def spPutT : Sp := fun vs H Q _ => ∃ (t : Addr) (hs : List Nat) (b p : Nat), vs = [.ref t, .int b, .int p] ∧ H t = some (.tup (nats hs)) ∧ 1 ≤ b ∧ b ≤ hs.length ∧ hs.length ≤ 40 ∧ ∀ D H', Same H H' → H' D = some (.tup (nats (put hs b p))) → Q (.ref D) H'
theorem ok_putT {f : Addr} {fd : FuncData} (F : Fun K "_law_put" "_law_put" s__law_put f fd) (B : Bl Z mg) : FnOk P w K mg base CX0 1 f fd ["_law_hung", "_law_block", "_law_place"] spPutT := by
  refine F.ok sc__law_put (fun vs H Q E h => ?_) (fun cdv A outer s H vs Q E hr h => ?_)
  · obtain ⟨t, hs, b, p, rfl, _⟩ := h
    rfl
  · obtain ⟨t, hs, b, p, rfl, ht, b1, b2, h40, q⟩ := h
    refine ⟨_, (pss_one (ps_ret (pe_op (op_catAK (K := K) rfl) (pe_op (op_catAK (K := K) rfl) (pe_slice (sl_tupAK (K := K) rfl) (pv 0) po_none (po_some (pe_op op_sub (pv 1) pe_int))) (pe_tup (pa_cons (pv 2) pa_nil))) (pe_slice (sl_tupAK (K := K) rfl) (pv 0) (po_some (pv 1)) po_none)))), ?_⟩
    have nl := nats_length hs
    walk_at "h0"
    refine x_slA ht fun D2 H2 s2 e2 => ?_
    rw [show ((b : Int) - 1) = ((b - 1 : Nat) : Int) by omega, cut_take] at e2
    walk_at "hs"
    intro p1 n1
    walk_at "hs"
    refine x_catA (keepN e2 n1) upd_same (by rw [List.length_take, List.length_cons, List.length_nil]; omega) fun D3 H3 s3 e3 => ?_
    have s13 : Same H H3 := fun a o e => s3 _ _ (keepN (s2 _ _ e) n1)
    walk_at "hs"
    refine x_slA (s13 _ _ ht) fun D4 H4 s4 e4 => ?_
    rw [cut_drop] at e4
    refine x_catA (s4 _ _ e3) e4 (by rw [List.length_append, List.length_take, List.length_drop, List.length_cons, List.length_nil]; omega) fun D5 H5 s5 e5 => ?_
    rw [put_cut b1 b2] at e5
    walk_at "hs"
    exact q D5 H5 ((s13.trans s4).trans s5) e5
end
set_option maxRecDepth 100000
set_option maxHeartbeats 2000000
open PySem PySem.Spec L2


theorem sc__law_moves : FnScope ["_law_hand_here", "_law_hung", "_law_many", "_law_moves_here", "_law_elder", "_law_turn", "_law_block", "_law_inner", "_law_places", "_law_place"] ["_law_hand_here", "_law_hung", "_law_many"] (defScope s__law_moves) := ⟨rfl, rfl, rfl, by decide +kernel, rfl, by decide +kernel, by decide +kernel⟩
theorem PoolAt.notTup {H : Hp} {p : Addr} {F : Addr → Prop} (h : PoolAt H p F) : ∀ xs, H p ≠ some (.tup xs) := fun xs e => by
  obtain ⟨ys, e2⟩ := h.lst
  rw [e] at e2
  cases e2
theorem PrV.but {H H' : Hp} {p : Addr} {v : V} {x : Nat × Nat} (b : But p H H') (n : ∀ xs, H p ≠ some (.tup xs)) (h : PrV H v x) : PrV H' v x := by
  obtain ⟨t, e, ht⟩ := h
  exact ⟨t, e, b _ _ (fun z => n _ (z ▸ ht)) ht⟩
theorem PrsV.but {H H' : Hp} {p : Addr} {vs : List V} {xs : List (Nat × Nat)} (b : But p H H') (n : ∀ xs, H p ≠ some (.tup xs)) (h : PrsV H vs xs) : PrsV H' vs xs := h.imp fun _ _ k => k.but b n
/-- the places to which a block may be moved -/
def frees (hs : List Nat) (b : Nat) : List Nat := (List.range (hs.length + 1)).filter fun p => !decide (p ∈ inner hs b)
theorem zero_free (hs : List Nat) (b : Nat) : 0 ∈ frees hs b := by
  unfold frees
  rw [List.mem_filter, List.mem_range]
  refine ⟨by omega, ?_⟩
  rw [Bool.not_eq_true', decide_eq_false_iff_not]
  unfold inner
  rw [List.mem_filter, List.mem_range'_1]
  exact fun h => absurd h.1.1 (by decide)
theorem frees_ok {hs : List Nat} {b p : Nat} (b1 : 1 ≤ b) (b2 : b ≤ hs.length) (h : p ∈ frees hs b) : okPr hs (b, p) := by
  unfold frees at h
  rw [List.mem_filter, List.mem_range, Bool.not_eq_true', decide_eq_false_iff_not] at h
  have hp : p ≤ hs.length := by omega
  have h2 := fun z => h.2 ((inner_mem hp b1).mpr z)
  exact ⟨b1, b2, hp, fun e => h2 (.inl e), fun e => h2 (.inr e)⟩
theorem frees_len (hs : List Nat) (b : Nat) : (frees hs b).length ≤ hs.length + 1 := by
  unfold frees
  exact Nat.le_trans (List.length_filter_le _ _) (by rw [List.length_range]; exact Nat.le_refl _)
section
variable {P : Program} {w : World} {K : PySem.W.Frag} {mg : Str → Option Value} {base : Heap} {Z : Ad}
def spMovs : Sp := fun vs H Q _ => ∃ (p t : Addr) (hs : List Nat) (k : Int) (F : Addr → Prop), vs = [.ref p, .ref t, .int k] ∧ PoolAt H p F ∧ H t = some (.tup (nats hs)) ∧ IsTree hs ∧ 0 ≤ k ∧ k ≤ 80 ∧
  ∀ (m u g : Addr) (us : List V) (ms : List (Nat × Nat)) H', (ms.length : Int) = k → OkAll hs ms → But p H H' → PoolAt H' p F → H' m = some (.tup [.ref u, .ref g]) → H' u = some (.tup us) → PrsV H' us ms → H' g = some (.tup (nats (final hs ms))) → Q (.ref m) H'
theorem ok_movs {f : Addr} {fd : FuncData} (F : Fun K "_law_moves" "_law_moves" s__law_moves f fd) (B : Bl Z mg) {f__law_draw : Addr} {fd__law_draw : FuncData} (C__law_draw : Cal K mg "_law_draw" f__law_draw fd__law_draw ["_law_hand_here", "_law_many"]) (G__law_draw : FnOk P w K mg base CX0 1 f__law_draw fd__law_draw ["_law_hand_here", "_law_many"] spDraw) {f__law_beneath : Addr} {fd__law_beneath : FuncData} (C__law_beneath : Cal K mg "_law_beneath" f__law_beneath fd__law_beneath ["_law_hung", "_law_place"]) (G__law_beneath : FnOk P w K mg base CX0 2 f__law_beneath fd__law_beneath ["_law_hung", "_law_place"] (spInner K)) {f__law_put : Addr} {fd__law_put : FuncData} (C__law_put : Cal K mg "_law_put" f__law_put fd__law_put ["_law_hung", "_law_block", "_law_place"]) (G__law_put : FnOk P w K mg base CX0 1 f__law_put fd__law_put ["_law_hung", "_law_block", "_law_place"] spPutT) : FnOk P w K mg base CX0 3 f fd ["_law_hand_here", "_law_hung", "_law_many"] spMovs := by
  refine F.ok sc__law_moves (fun vs H Q E h => ?_) (fun cdv A outer s H vs Q E hr h => ?_)
  · obtain ⟨p, t, hs, k, Fo, rfl, _⟩ := h
    rfl
  · obtain ⟨p, t, hs, k, Fo, rfl, hp, ht, it, k0, k1, q⟩ := h
    refine ⟨_, (pss_cons (ps_par (i := 3) (j := 4) (by rfl) sc__law_moves.nd rfl rfl (by decide) rfl rfl (pa_cons (pe_tup pa_nil) (pa_cons (pv 1) pa_nil)) (by rfl))
 (pss_cons (ps_for PassesOwn.never rfl (pi_range1 rfl B.b_range (pa_cons (pv 2) pa_nil)) (pg_name (i := 5) sc__law_moves.nd rfl (Or.inl rfl)) (pss_cons (ps_set (i := 6) sc__law_moves.nd rfl (Or.inl rfl) (pe_op op_add pe_int (pe_call G__law_draw (hr.mono (by first | decide | omega)) (by rfl) C__law_draw.g C__law_draw.k C__law_draw.b .nil pass0 (pa_cons (pv 0) (pa_cons (pe_callB (call_lenK (K := K) rfl) (by rfl) B.b_len PySem.boot_len (pa_cons (pv 1) pa_nil)) pa_nil)))))
 (pss_cons (ps_set (i := 7) sc__law_moves.nd rfl (Or.inr rfl) (pe_call G__law_beneath (hr.mono (by first | decide | omega)) (by rfl) C__law_beneath.g C__law_beneath.k C__law_beneath.b .nil pass0 (pa_cons (pv 1) (pa_cons (pv 6) pa_nil))))
 (pss_cons (ps_setLc (i := 8) (own := [("_law_place", 9)]) rfl sc__law_moves.nd rfl rfl (sw_true rfl rfl rfl (by decide +kernel)) (pi_range1 rfl B.b_range (pa_cons (pe_op op_add (pe_callB (call_lenK (K := K) rfl) (by rfl) B.b_len PySem.boot_len (pa_cons (pv 1) pa_nil)) pe_int) pa_nil)) (blkOk_by (N := ["_law_hand_here", "_law_hung", "_law_many", "_law_moves_here", "_law_elder", "_law_turn", "_law_block", "_law_inner", "_law_places", "_law_place"]) (sc := defScope s__law_moves) (by decide +kernel)) (fun _ _ _ _ _ => (pg_name (i := 9) sc__law_moves.nd rfl (Or.inl rfl))) (fun _ _ _ _ _ => (pts_one (pt_cmpR (op_notInK (K := K) rfl) (pv 9) (pv 7) (by rfl)))) (fun _ _ _ _ _ => (pv 9)))
 (pss_cons (ps_set (i := 9) sc__law_moves.nd rfl (Or.inl rfl) (pe_ix (ix_listK (K := K) rfl) (pv 8) (pe_call G__law_draw (hr.mono (by first | decide | omega)) (by rfl) C__law_draw.g C__law_draw.k C__law_draw.b .nil pass0 (pa_cons (pv 0) (pa_cons (pe_callB (call_lenK (K := K) rfl) (by rfl) B.b_len PySem.boot_len (pa_cons (pv 8) pa_nil)) pa_nil))) (fun _ _ => rfl)))
 (C8.pss_cut (ps_if (PW.pt (pw_and (pt_cmpR op_eq (pe_call G__law_draw (hr.mono (by first | decide | omega)) (by rfl) C__law_draw.g C__law_draw.k C__law_draw.b .nil pass0 (pa_cons (pv 0) (pa_cons pe_int pa_nil))) pe_int (nomark _)) (pw_and1 (pt_cmpR (op_inK (K := K) rfl) (pe_ix (ix_tupK (K := K) rfl) (pv 4) (pe_op op_sub (pv 6) pe_int) (fun _ _ => rfl)) (pv 8) (by rfl))))) (pss_one (ps_set (i := 9) sc__law_moves.nd rfl (Or.inl rfl) (pe_ix (ix_tupK (K := K) rfl) (pv 4) (pe_op op_sub (pv 6) pe_int) (fun _ _ => rfl)))) pss_nil)
 (pss_cons (ps_set (i := 3) sc__law_moves.nd rfl (Or.inl rfl) (pe_op (op_catAK (K := K) rfl) (pv 3) (pe_tup (pa_cons (pe_tup (pa_cons (pv 6) (pa_cons (pv 9) pa_nil))) pa_nil))))
 (pss_one (ps_set (i := 1) sc__law_moves.nd rfl (Or.inl rfl) (pe_call G__law_put (hr.mono (by first | decide | omega)) (by rfl) C__law_put.g C__law_put.k C__law_put.b .nil pass0 (pa_cons (pv 1) (pa_cons (pv 6) (pa_cons (pv 9) pa_nil)))))))))))))
 (pss_one (ps_ret (pe_tup (pa_cons (pv 3) (pa_cons (pv 1) pa_nil))))))), ?_⟩
    have h40 := it.most
    have h1 := it.pos
    walk_at "h0"
    intro U nU
    have s1 : Same H (upd H U (.tup [])) := same_new (Same.refl _) nU
    have eU : upd H U (.tup []) U = some (.tup []) := upd_same
    generalize upd H U (.tup []) = H1 at s1 eU ⊢
    walk_at "hs"
    refine ⟨k, rfl, by omega, by omega, ?_⟩
    refine lp_range (lo := 0) (n := Int.toNat k) (fun i σ' H' => (∃ g u x5 x6 x7 x8 x9, σ' = [some (.ref p), some (.ref g), some (.int k), some (.ref u), some (.ref t), x5, x6, x7, x8, x9] ∧ ∃ us ms, ms.length = i ∧ OkAll hs ms ∧ H' u = some (.tup us) ∧ PrsV H' us ms ∧ H' g = some (.tup (nats (final hs ms)))) ∧ But p H H' ∧ PoolAt H' p Fo ∧ H' t = some (.tup (nats hs)))
      ⟨⟨t, U, _, _, _, _, _, rfl, [], [], rfl, OkAll.nil hs, eU, trivial, s1 _ _ ht⟩, But.of s1, hp.same s1, s1 _ _ ht⟩ ?_ ?_
    · clear eU s1 nU hp ht
      rintro i σ' H2 hi ⟨⟨g, u, x5, x6, x7, x8, x9, rfl, us, ms, lm, ok, eu, pu, eg⟩, b2, p2, et⟩
      have itf := ok.tree it
      have fl := final_len hs ms
      generalize hgs : final hs ms = gs at itf fl eg
      have sg : SqT K H2 g (nats gs) := .of eg
      walk_at "hs"
      rw [nats_length]
      refine ⟨p, _, Fo, rfl, p2, by omega, by omega, fun d H3 d0 d1 b3 p3 => ?_⟩
      obtain ⟨b, hb⟩ : ∃ b : Nat, 1 + d = (b : Int) := ⟨(1 + d).toNat, by omega⟩
      have bb1 : 1 ≤ b := by omega
      have bb2 : b ≤ gs.length := by omega
      have tp : ∀ {a : Addr} {xs : List V}, H2 a = some (.tup xs) → H3 a = some (.tup xs) := fun {a xs} e => b3 _ _ (fun z => p2.notTup _ (z ▸ e)) e
      have eg3 := tp eg
      have eu3 := tp eu
      have et3 := tp et
      have pu3 := pu.but b3 p2.notTup
      walk_at "hs"
      rw [hb]
      refine ⟨g, gs, b, rfl, eg3, itf, bb1, bb2, fun I H4 s4 nI eI => ?_⟩
      have sg4 : SqT K H4 g (nats gs) := .of (s4 _ _ eg3)
      walk_at "hs"
      rw [nats_length]
      refine ⟨(gs.length : Int) + 1, rfl, by omega, by omega, fun D hD => ?_⟩
      have nDp : D ≠ p := (p3.same s4).ne hD
      refine lc_range (lo := 0) (n := Int.toNat ((gs.length : Int) + 1)) (fun j G => Same H4 G ∧ G D = some (.lst (nats ((List.range j).filter fun c => !decide (c ∈ inner gs b))))) ⟨same_new (Same.refl _) hD, upd_same⟩ ?_ ?_
      · rintro j G hj ⟨s5, eD⟩
        rw [Int.zero_add]
        walk_at "hs"
        refine ⟨rfl, ?_⟩
        walk_at "hs"
        refine x_ninNL (.of (s5 _ _ eI)) ?_
        walk_at "hs"
        have hl : ((List.range j).filter fun c => !decide (c ∈ inner gs b)).length ≤ j := Nat.le_trans (List.length_filter_le _ _) (by rw [List.length_range]; exact Nat.le_refl _)
        have sn := range0_snoc (fun c => !decide (c ∈ inner gs b)) j
        cases c : !decide (j ∈ inner gs b) with
        | true =>
          walk_at "hs"
          refine ⟨_, eD, szLt (by rw [nats_length]; omega), same_mut s5 hD, ?_⟩
          rw [upd_same, sn, if_pos c, nats_append]
          rfl
        | false =>
          refine ⟨s5, ?_⟩
          rw [sn, if_neg (by rw [c]; exact Bool.false_ne_true), List.append_nil]
          exact eD
      · rintro G ⟨s5, eD⟩
        have en : Int.toNat ((gs.length : Int) + 1) = gs.length + 1 := by omega
        rw [en] at eD
        have eD : G D = some (.lst (nats (frees gs b))) := eD
        have s25 := s4.trans s5
        have sD : SqL K G D (nats (frees gs b)) := .of eD
        have p5 := p3.same s25
        have fpos : 0 < (frees gs b).length := List.length_pos_of_mem (zero_free gs b)
        have flen := frees_len gs b
        walk_at "hs"
        rw [nats_length]
        refine ⟨p, _, Fo, rfl, p5, by omega, by omega, fun d2 H6 d20 d21 b6 p6 => ?_⟩
        obtain ⟨y, hv, hm⟩ := at_lt (xs := nats (frees gs b)) d20 (by rw [nats_length]; exact d21)
        have eD6 := b6 _ _ nDp eD
        have sD6 : SqL K H6 D (nats (frees gs b)) := .of eD6
        obtain ⟨yn, hyn, rfl⟩ : ∃ yn ∈ frees gs b, y = .int (yn : Nat) := by
          obtain ⟨z, hz, e⟩ := List.mem_map.mp hm
          exact ⟨z, hz, e.symm⟩
        have tp6 : ∀ {a : Addr} {xs : List V}, G a = some (.tup xs) → H6 a = some (.tup xs) := fun {a xs} e => b6 _ _ (fun z => p5.notTup _ (z ▸ e)) e
        have eg6 := tp6 (s25 _ _ eg3)
        have eu6 := tp6 (s25 _ _ eu3)
        have et6 := tp6 (s25 _ _ et3)
        have pu6 := (pu3.same s25).but b6 p5.notTup
        have b06 : But p H H6 := ((b2.trans b3).trans (But.of s25)).trans b6
        clear eg eu et pu eg3 eu3 et3 pu3 sg sg4 eI sD eD s4 s5 s25 b2 b3 b6 p2 p3 p5 tp tp6 nI
        walk_at "hs"
        refine ⟨fun σ' H' => (∃ yn ∈ frees gs b, σ' = [some (.ref p), some (.ref g), some (.int k), some (.ref u), some (.ref t), some (.int (0 + (i : Int))), some (.int (b : Nat)), some (.ref I), some (.ref D), some (.int (yn : Nat))]) ∧ But p H H' ∧ PoolAt H' p Fo ∧ H' t = some (.tup (nats hs)) ∧ H' u = some (.tup us) ∧ PrsV H' us ms ∧ H' g = some (.tup (nats gs)), ?_, ?_⟩
        · walk_at "hs"
          refine ⟨p, 4, Fo, rfl, p6, by decide, by decide, fun d3 H7 d30 d31 b7 p7 => ?_⟩
          have tp7 : ∀ {a : Addr} {xs : List V}, H6 a = some (.tup xs) → H7 a = some (.tup xs) := fun {a xs} e => b7 _ _ (fun z => p6.notTup _ (z ▸ e)) e
          have eg7 := tp7 eg6
          have eu7 := tp7 eu6
          have et7 := tp7 et6
          have pu7 := pu6.but b7 p6.notTup
          have st7 : SqT K H7 t (nats hs) := .of et7
          have aT : atI (nats hs) ((b : Int) - 1) = some (.int (up hs b : Nat)) := by
            rw [show (b : Int) - 1 = ((b - 1 : Nat) : Int) by omega]
            exact nats_at (up_get bb1 (by omega))
          have eD7 : H7 D = some (.lst (nats (frees gs b))) := b7 _ _ nDp eD6
          walk_at "hs"
          refine x_isd (fun c => ?_) (fun c => ?_)
          · walk_at "hs"
            refine x_inNL (.of eD7) ?_
            walk_at "hs"
            refine x_isd (fun c2 => ?_) (fun c2 => ?_)
            · walk_at "hs"
              exact ⟨⟨_, c2, rfl⟩, b06.trans b7, p7, et7, eu7, pu7, eg7⟩
            · walk_at "hs"
              exact ⟨⟨_, hyn, rfl⟩, b06.trans b7, p7, et7, eu7, pu7, eg7⟩
          · walk_at "hs"
            exact ⟨⟨_, hyn, rfl⟩, b06.trans b7, p7, et7, eu7, pu7, eg7⟩
        · clear eg6 eu6 et6 pu6 b06 p6 sD6 eD6 hyn hm hv yn
          rintro σ' H7 ⟨⟨yn, hyn, rfl⟩, b7, p7, et, eu, pu, eg⟩
          have opr := frees_ok bb1 bb2 hyn
          walk_at "hs"
          intro T1 nT1
          have s1 : Same H7 (upd H7 T1 (.tup [.int (b : Nat), .int (yn : Nat)])) := same_new (Same.refl _) nT1
          have eT1 : upd H7 T1 (.tup [.int (b : Nat), .int (yn : Nat)]) T1 = some (.tup [.int (b : Nat), .int (yn : Nat)]) := upd_same
          generalize upd H7 T1 (.tup [.int (b : Nat), .int (yn : Nat)]) = H8 at s1 eT1 ⊢
          walk_at "hs"
          intro T2 nT2
          have s2 : Same H8 (upd H8 T2 (.tup [.ref T1])) := same_new (Same.refl _) nT2
          have eT2 : upd H8 T2 (.tup [.ref T1]) T2 = some (.tup [.ref T1]) := upd_same
          generalize upd H8 T2 (.tup [.ref T1]) = H9 at s2 eT2 ⊢
          have s12 := s1.trans s2
          refine x_catA (s12 _ _ eu) eT2 (by rw [pu.len]; show _ + 1 ≤ _; omega) fun T3 H10 s3 eT3 => ?_
          have s13 := s12.trans s3
          walk_at "hs"
          refine ⟨g, gs, b, yn, rfl, s13 _ _ eg, bb1, bb2, by omega, fun G2 H11 s4 eG2 => ?_⟩
          have s14 := s13.trans s4
          walk_at "hs"
          refine ⟨⟨G2, T3, _, _, _, _, _, rfl, us ++ [.ref T1], ms ++ [(b, yn)], by rw [List.length_append, lm]; rfl, ?_, s4 _ _ eT3, (pu.same s14).app ⟨⟨T1, rfl, s4 _ _ (s3 _ _ (s2 _ _ eT1))⟩, trivial⟩, ?_⟩, b7.trans (But.of s14), p7.same s14, s14 _ _ et⟩
          · exact ok.snoc (by rw [hgs]; exact opr)
          · rw [final_snoc, hgs]
            exact eG2
    · rintro σ' HE ⟨⟨g, u, x5, x6, x7, x8, x9, rfl, us, ms, lm, ok, eu, pu, eg⟩, b2, p2, et⟩
      walk_at "hs"
      intro m nm
      have s1 : Same HE (upd HE m (.tup [.ref u, .ref g])) := same_new (Same.refl _) nm
      have em : upd HE m (.tup [.ref u, .ref g]) m = some (.tup [.ref u, .ref g]) := upd_same
      generalize upd HE m (.tup [.ref u, .ref g]) = G at s1 em ⊢
      exact q m u g us ms G (by omega) ok (b2.trans (But.of s1)) (p2.same s1) em (s1 _ _ eu) (pu.same s1) (s1 _ _ eg)
end
set_option maxRecDepth 100000
set_option maxHeartbeats 2000000
open PySem PySem.Spec L2


theorem sc__law_bent : FnScope ["_law_hand_here", "_law_many", "_law_moves_here", "_law_tree_here", "_law_long", "_law_at", "_law_block", "_law_place", "_law_things", "_law_new"] ["_law_hand_here", "_law_many", "_law_moves_here", "_law_tree_here"] (defScope s__law_bent) := ⟨rfl, rfl, rfl, by decide +kernel, rfl, by decide +kernel, by decide +kernel⟩
theorem kd_pr {Z : Ad} {H : Hp} {v : V} {x : Nat × Nat} (h : PrV H v x) : Kd Z H v := by
  obtain ⟨t, rfl, ht⟩ := h
  exact kd_tup2 ht (kd_sca rfl) (kd_sca rfl)
theorem kd_prs {Z : Ad} {H : Hp} {vs : List V} {ms : List (Nat × Nat)} (h : PrsV H vs ms) : ∀ v ∈ vs, Kd Z H v := fun v hv => by
  obtain ⟨x, p⟩ := h.all hv
  exact kd_pr p
theorem mem_cutV {xs : List V} {lo hi : Option Int} {x : V} (h : x ∈ cutV xs lo hi) : x ∈ xs := List.mem_of_mem_drop (List.mem_of_mem_take h)
section
variable {P : Program} {w : World} {K : PySem.W.Frag} {mg : Str → Option Value} {base : Heap} {Z : Ad}
def spBentH (Z : Ad) : Sp := fun vs H Q _ => ∃ (p u t : Addr) (n : Nat) (us : List V) (ms : List (Nat × Nat)) (F : Addr → Prop), vs = [.ref p, .int n, .ref u, .ref t] ∧ PoolAt H p F ∧ 1 ≤ n ∧ n ≤ 40 ∧ H u = some (.tup us) ∧ PrsV H us ms ∧ ms.length ≤ 80 ∧ (∃ dx fs, H t = some (.ins Z.a_Tree dx fs)) ∧
  ∀ v H', Kd Z H' v → But p H H' → PoolAt H' p F → Q v H'
theorem ok_bentH {f : Addr} {fd : FuncData} (F : Fun K "_law_bent" "_law_bent" s__law_bent f fd) (B : Bl Z mg) {f__law_draw : Addr} {fd__law_draw : FuncData} (C__law_draw : Cal K mg "_law_draw" f__law_draw fd__law_draw ["_law_hand_here", "_law_many"]) (G__law_draw : FnOk P w K mg base CX0 1 f__law_draw fd__law_draw ["_law_hand_here", "_law_many"] spDraw) {f__law_odd : Addr} {fd__law_odd : FuncData} (C__law_odd : Cal K mg "_law_odd" f__law_odd fd__law_odd ["_law_hand_here", "_law_thing"]) (G__law_odd : FnOk P w K mg base CX0 2 f__law_odd fd__law_odd ["_law_hand_here", "_law_thing"] (spOddH Z)) : FnOk P w K mg base CX0 3 f fd ["_law_hand_here", "_law_many", "_law_moves_here", "_law_tree_here"] (spBentH Z) := by
  refine F.ok sc__law_bent (fun vs H Q E h => ?_) (fun cdv A outer s H vs Q E hr h => ?_)
  · obtain ⟨p, u, t, n, us, ms, Fo, rfl, _⟩ := h
    rfl
  · obtain ⟨p, u, t, n, us, ms, Fo, rfl, hp, n1, n2, hu, pu, lm, ⟨dx, fs, hT⟩, q⟩ := h
    refine ⟨_, (pss_cons (ps_if (PW.pt (pw_or (pt_cmpR op_eq (pe_call G__law_draw (hr.mono (by first | decide | omega)) (by rfl) C__law_draw.g C__law_draw.k C__law_draw.b .nil pass0 (pa_cons (pv 0) (pa_cons pe_int pa_nil))) pe_int (nomark _)) (pw_or1 (pt_cmpR op_eq (pe_callB (call_lenK (K := K) rfl) (by rfl) B.b_len PySem.boot_len (pa_cons (pv 2) pa_nil)) pe_int (nomark _))))) (pss_cons (ps_set (i := 4) sc__law_bent.nd rfl (Or.inl rfl) (pe_op (op_repAK (K := K) rfl) (pe_tup (pa_cons (pe_tup (pa_cons pe_int (pa_cons pe_int pa_nil))) pa_nil)) (pe_op op_add pe_int (pe_call G__law_draw (hr.mono (by first | decide | omega)) (by rfl) C__law_draw.g C__law_draw.k C__law_draw.b .nil pass0 (pa_cons (pv 0) (pa_cons pe_int pa_nil))))))
 (pss_one (ps_ret (pe_ix (ix_listK (K := K) rfl) (pe_lst (pa_cons (pe_callTy (call_lstK (K := K) rfl) (by rfl) B.b_list (by decide +kernel) (pa_cons (pv 2) pa_nil)) (pa_cons pe_non (pa_cons pe_str (pa_cons (pe_tup (pa_cons pe_non pa_nil)) (pa_cons (pv 4) (pa_cons (pe_tup (pa_cons (pv 2) pa_nil)) (pa_cons pe_dnewK (pa_cons (pv 3) (pa_cons (pe_call G__law_odd (hr.mono (by first | decide | omega)) (by rfl) C__law_odd.g C__law_odd.k C__law_odd.b .nil pass0 (pa_cons (pv 0) (pa_cons (pv 3) pa_nil))) pa_nil)))))))))) (pe_call G__law_draw (hr.mono (by first | decide | omega)) (by rfl) C__law_draw.g C__law_draw.k C__law_draw.b .nil pass0 (pa_cons (pv 0) (pa_cons pe_int pa_nil))) (fun _ _ => rfl))))) pss_nil)
 (pss_cons (ps_set (i := 5) sc__law_bent.nd rfl (Or.inl rfl) (pe_call G__law_draw (hr.mono (by first | decide | omega)) (by rfl) C__law_draw.g C__law_draw.k C__law_draw.b .nil pass0 (pa_cons (pv 0) (pa_cons (pe_callB (call_lenK (K := K) rfl) (by rfl) B.b_len PySem.boot_len (pa_cons (pv 2) pa_nil)) pa_nil))))
 (pss_cons (ps_asg (pe_ix (ix_tupK (K := K) rfl) (pv 2) (pv 5) (fun _ _ => rfl)) (pg_tup rfl (pgs_cons (pg_name (i := 6) sc__law_bent.nd rfl (Or.inl rfl)) (pgs_cons (pg_name (i := 7) sc__law_bent.nd rfl (Or.inl rfl)) pgs_nil))))
 (pss_cons (ps_set (i := 8) sc__law_bent.nd rfl (Or.inl rfl) (pe_lst (pa_cons (pe_tup (pa_cons (pv 6) (pa_cons (pv 6) pa_nil))) (pa_cons (pe_tup (pa_cons (pe_op op_add pe_int (pe_call G__law_draw (hr.mono (by first | decide | omega)) (by rfl) C__law_draw.g C__law_draw.k C__law_draw.b .nil pass0 (pa_cons (pv 0) (pa_cons (pv 1) pa_nil)))) (pa_cons (pe_call G__law_draw (hr.mono (by first | decide | omega)) (by rfl) C__law_draw.g C__law_draw.k C__law_draw.b .nil pass0 (pa_cons (pv 0) (pa_cons (pe_op op_add (pv 1) pe_int) pa_nil))) pa_nil))) (pa_cons (pe_tup (pa_cons pe_int (pa_cons (pv 7) pa_nil))) (pa_cons (pe_tup (pa_cons (pe_op op_add (pv 1) pe_int) (pa_cons (pv 7) pa_nil))) pa_nil))))))
 (pss_cons (ps_set (i := 8) sc__law_bent.nd rfl (Or.inl rfl) (pe_op op_cat (pv 8) (pe_lst (pa_cons (pe_tup (pa_cons (pv 6) (pa_cons (pe_op op_add (pv 1) pe_int) pa_nil))) (pa_cons (pe_tup (pa_cons (pv 6) (pa_cons (pe_un un_neg pe_int) pa_nil))) (pa_cons (pe_tup (pa_cons pe_bl (pa_cons (pv 7) pa_nil))) (pa_cons (pe_tup (pa_cons (pv 6) (pa_cons pe_bl pa_nil))) (pa_cons (pe_lst (pa_cons (pv 6) (pa_cons (pv 7) pa_nil))) (pa_cons (pe_tup (pa_cons (pv 6) pa_nil)) (pa_cons pe_non pa_nil))))))))))
 (pss_cons (ps_set (i := 9) sc__law_bent.nd rfl (Or.inl rfl) (pe_ix (ix_listK (K := K) rfl) (pe_op op_cat (pv 8) (pe_lst (pa_cons (pe_tup (pa_cons (pv 6) (pa_cons (pv 7) (pa_cons pe_int pa_nil)))) (pa_cons (pe_tup (pa_cons (pv 6) (pa_cons pe_str pa_nil))) (pa_cons (pe_call G__law_odd (hr.mono (by first | decide | omega)) (by rfl) C__law_odd.g C__law_odd.k C__law_odd.b .nil pass0 (pa_cons (pv 0) (pa_cons (pv 3) pa_nil))) (pa_cons (pe_tup (pa_cons (pe_call G__law_odd (hr.mono (by first | decide | omega)) (by rfl) C__law_odd.g C__law_odd.k C__law_odd.b .nil pass0 (pa_cons (pv 0) (pa_cons (pv 3) pa_nil))) (pa_cons (pv 7) pa_nil))) pa_nil)))))) (pe_call G__law_draw (hr.mono (by first | decide | omega)) (by rfl) C__law_draw.g C__law_draw.k C__law_draw.b .nil pass0 (pa_cons (pv 0) (pa_cons pe_int pa_nil))) (fun _ _ => rfl)))
 (pss_one (ps_ret (pe_op (op_catAK (K := K) rfl) (pe_op (op_catAK (K := K) rfl) (pe_slice (sl_tupAK (K := K) rfl) (pv 2) po_none (po_some (pv 5))) (pe_tup (pa_cons (pv 9) pa_nil))) (pe_slice (sl_tupAK (K := K) rfl) (pv 2) (po_some (pe_op op_add (pv 5) pe_int)) po_none)))))))))), ?_⟩
    have lus : us.length = ms.length := pu.len
    walk_at "h0"
    refine ⟨p, 4, Fo, rfl, hp, by decide, by decide, fun d0 H1 c0 c1 b1 p1 => ?_⟩
    have cu : ∀ {G G' : Hp}, But p G G' → PoolAt G p Fo → G u = some (.tup us) → G' u = some (.tup us) := fun b pp e => b _ _ (fun z => pp.notTup _ (z ▸ e)) e
    have hu1 := cu b1 hp hu
    have pu1 := pu.but b1 hp.notTup
    have kt1 : Kd Z H1 (.ref t) := Kd.lsb (fun n => kvd_ins hT n) (LsB.of_but b1 hp p1)
    have ku : ∀ {G : Hp}, G u = some (.tup us) → PrsV G us ms → Kd Z G (.ref u) := fun e pp => kd_tup e (kd_prs pp)
    -- the first kind
    have first : ∀ (H1 : Hp), But p H H1 → PoolAt H1 p Fo → H1 u = some (.tup us) → PrsV H1 us ms → Kd Z H1 (.ref t) → True := fun _ _ _ _ _ _ => trivial
    clear first hu pu hT
    have su1 : SqT K H1 u us := .of hu1
    walk_at "hs"
    refine x_isd (fun e => ?_) (fun e => ?_)
    · walk_at "hs"
      intro a1 m1
      have t1 : Same H1 (upd H1 a1 (.tup [.int 1, .int 0])) := same_new (Same.refl _) m1
      have e1 : upd H1 a1 (.tup [.int 1, .int 0]) a1 = some (.tup [.int 1, .int 0]) := upd_same
      generalize upd H1 a1 (.tup [.int 1, .int 0]) = G1 at t1 e1 ⊢
      walk_at "hs"
      intro a2 m2
      have t2 : Same G1 (upd G1 a2 (.tup [.ref a1])) := same_new (Same.refl _) m2
      have g2 : upd G1 a2 (.tup [.ref a1]) a2 = some (.tup [.ref a1]) := upd_same
      generalize upd G1 a2 (.tup [.ref a1]) = G2 at t2 g2 ⊢
      walk_at "hs"
      have t12 := t1.trans t2
      refine ⟨p, 2, Fo, rfl, p1.same t12, by decide, by decide, fun d2 G3 q0 q1 b3 p3 => ?_⟩
      have f2 := b3 _ _ (fun z => (p1.same t12).notTup _ (z ▸ g2)) g2
      have f1 := b3 _ _ (fun z => (p1.same t12).notTup _ (z ▸ t2 _ _ e1)) (t2 _ _ e1)
      have hu3 := cu b3 (p1.same t12) (t12 _ _ hu1)
      have pu3 := (pu1.same t12).but b3 (p1.same t12).notTup
      have kt3 := (kt1.same t12).lsb (LsB.of_but b3 (p1.same t12) p3)
      have b13 : But p H G3 := (b1.trans (But.of t12)).trans b3
      clear t1 t2 e1 g2 t12 b3
      walk_at "hs"
      refine x_repA1 f2 (by omega) (by omega) fun a3 G4 t4 e3 => ?_
      walk_at "hs"
      have su4 : SqT K G4 u us := .of (t4 _ _ hu3)
      walk_at "hs"
      intro a4 m4
      have t5 : Same G4 (upd G4 a4 (.lst us)) := same_new (Same.refl _) m4
      have e4 : upd G4 a4 (.lst us) a4 = some (.lst us) := upd_same
      generalize upd G4 a4 (.lst us) = G5 at t5 e4 ⊢
      walk_at "hs"
      intro a5 m5
      have t6 : Same G5 (upd G5 a5 (.tup [.non])) := same_new (Same.refl _) m5
      have e5 : upd G5 a5 (.tup [.non]) a5 = some (.tup [.non]) := upd_same
      generalize upd G5 a5 (.tup [.non]) = G6 at t6 e5 ⊢
      walk_at "hs"
      intro a6 m6
      have t7 : Same G6 (upd G6 a6 (.tup [.ref u])) := same_new (Same.refl _) m6
      have e6 : upd G6 a6 (.tup [.ref u]) a6 = some (.tup [.ref u]) := upd_same
      generalize upd G6 a6 (.tup [.ref u]) = G7 at t7 e6 ⊢
      walk_at "hs"
      intro a7 m7
      have t8 : Same G7 (upd G7 a7 (.dK [])) := same_new (Same.refl _) m7
      have e7 : upd G7 a7 (.dK []) a7 = some (.dK []) := upd_same
      generalize upd G7 a7 (.dK []) = G8 at t8 e7 ⊢
      have w7 := t7.trans t8
      have w6 := t6.trans w7
      have w5 := t5.trans w6
      have w4 := t4.trans w5
      have p8 := p3.same w4
      have kl : ∀ y ∈ [V.ref a4, .non, .str "moves", .ref a5, .ref a3, .ref a6, .ref a7, .ref t], Kd Z G8 y := fun y hy => by
        simp only [List.mem_cons, List.not_mem_nil, or_false] at hy
        rcases hy with rfl | rfl | rfl | rfl | rfl | rfl | rfl | rfl
        · exact kd_lst (w6 _ _ e4)
        · exact kd_sca rfl
        · exact kd_sca rfl
        · exact kd_tup1 (w7 _ _ e5) (kd_sca rfl)
        · refine kd_tup (w5 _ _ e3) fun y hy => ?_
          rw [List.eq_of_mem_replicate hy]
          exact kd_tup2 (w4 _ _ f1) (kd_sca rfl) (kd_sca rfl)
        · exact kd_tup1 (t8 _ _ e6) (ku (w4 _ _ hu3) (pu3.same w4))
        · exact kd_dK e7
        · exact kt3.same w4
      walk_at "hs"
      refine ⟨p, .ref t, Fo, rfl, p8, kt3.same w4, fun v G9 kv _ b9 p9 => ?_⟩
      walk_at "hs"
      intro L nL
      have t10 : Same G9 (upd G9 L (.lst [.ref a4, .non, .str "moves", .ref a5, .ref a3, .ref a6, .ref a7, .ref t, v])) := same_new (Same.refl _) nL
      have eL : upd G9 L (.lst [.ref a4, .non, .str "moves", .ref a5, .ref a3, .ref a6, .ref a7, .ref t, v]) L = some (.lst [.ref a4, .non, .str "moves", .ref a5, .ref a3, .ref a6, .ref a7, .ref t, v]) := upd_same
      generalize upd G9 L (.lst [.ref a4, .non, .str "moves", .ref a5, .ref a3, .ref a6, .ref a7, .ref t, v]) = G10 at t10 eL ⊢
      have p10 := p9.same t10
      have nLp : L ≠ p := p9.ne nL
      have kl2 : ∀ y ∈ [V.ref a4, .non, .str "moves", .ref a5, .ref a3, .ref a6, .ref a7, .ref t, v], Kd Z G10 y := fun y hy => by
        rcases List.mem_append.mp (show y ∈ [V.ref a4, .non, .str "moves", .ref a5, .ref a3, .ref a6, .ref a7, .ref t] ++ [v] from hy) with hy | hy
        · exact ((kl y hy).lsb (LsB.of_but b9 p8 p9)).same t10
        · rw [List.mem_singleton.mp hy]
          exact kv.same t10
      walk_at "hs"
      refine ⟨p, 9, Fo, rfl, p10, by decide, by decide, fun d3 G11 r0 r1 b11 p11 => ?_⟩
      have sL := SqL.of (K := K) (b11 _ _ nLp eL)
      obtain ⟨y, hv, hm⟩ := at_lt (xs := [V.ref a4, .non, .str "moves", .ref a5, .ref a3, .ref a6, .ref a7, .ref t, v]) r0 r1
      walk_at "hs"
      exact q y G11 ((kl2 y hm).lsb (LsB.of_but b11 p10 p11)) ((((b13.trans (But.of w4)).trans b9).trans (But.of t10)).trans b11) p11
    · walk_at "hs"
      refine x_isd (fun e2 => ?_) (fun e2 => ?_)
      · walk_at "hs"
        intro a1 m1
        have t1 : Same H1 (upd H1 a1 (.tup [.int 1, .int 0])) := same_new (Same.refl _) m1
        have e1 : upd H1 a1 (.tup [.int 1, .int 0]) a1 = some (.tup [.int 1, .int 0]) := upd_same
        generalize upd H1 a1 (.tup [.int 1, .int 0]) = G1 at t1 e1 ⊢
        walk_at "hs"
        intro a2 m2
        have t2 : Same G1 (upd G1 a2 (.tup [.ref a1])) := same_new (Same.refl _) m2
        have g2 : upd G1 a2 (.tup [.ref a1]) a2 = some (.tup [.ref a1]) := upd_same
        generalize upd G1 a2 (.tup [.ref a1]) = G2 at t2 g2 ⊢
        walk_at "hs"
        have t12 := t1.trans t2
        refine ⟨p, 2, Fo, rfl, p1.same t12, by decide, by decide, fun d2 G3 q0 q1 b3 p3 => ?_⟩
        have f2 := b3 _ _ (fun z => (p1.same t12).notTup _ (z ▸ g2)) g2
        have f1 := b3 _ _ (fun z => (p1.same t12).notTup _ (z ▸ t2 _ _ e1)) (t2 _ _ e1)
        have hu3 := cu b3 (p1.same t12) (t12 _ _ hu1)
        have pu3 := (pu1.same t12).but b3 (p1.same t12).notTup
        have kt3 := (kt1.same t12).lsb (LsB.of_but b3 (p1.same t12) p3)
        have b13 : But p H G3 := (b1.trans (But.of t12)).trans b3
        clear t1 t2 e1 g2 t12 b3
        walk_at "hs"
        refine x_repA1 f2 (by omega) (by omega) fun a3 G4 t4 e3 => ?_
        walk_at "hs"
        have su4 : SqT K G4 u us := .of (t4 _ _ hu3)
        walk_at "hs"
        intro a4 m4
        have t5 : Same G4 (upd G4 a4 (.lst us)) := same_new (Same.refl _) m4
        have e4 : upd G4 a4 (.lst us) a4 = some (.lst us) := upd_same
        generalize upd G4 a4 (.lst us) = G5 at t5 e4 ⊢
        walk_at "hs"
        intro a5 m5
        have t6 : Same G5 (upd G5 a5 (.tup [.non])) := same_new (Same.refl _) m5
        have e5 : upd G5 a5 (.tup [.non]) a5 = some (.tup [.non]) := upd_same
        generalize upd G5 a5 (.tup [.non]) = G6 at t6 e5 ⊢
        walk_at "hs"
        intro a6 m6
        have t7 : Same G6 (upd G6 a6 (.tup [.ref u])) := same_new (Same.refl _) m6
        have e6 : upd G6 a6 (.tup [.ref u]) a6 = some (.tup [.ref u]) := upd_same
        generalize upd G6 a6 (.tup [.ref u]) = G7 at t7 e6 ⊢
        walk_at "hs"
        intro a7 m7
        have t8 : Same G7 (upd G7 a7 (.dK [])) := same_new (Same.refl _) m7
        have e7 : upd G7 a7 (.dK []) a7 = some (.dK []) := upd_same
        generalize upd G7 a7 (.dK []) = G8 at t8 e7 ⊢
        have w7 := t7.trans t8
        have w6 := t6.trans w7
        have w5 := t5.trans w6
        have w4 := t4.trans w5
        have p8 := p3.same w4
        have kl : ∀ y ∈ [V.ref a4, .non, .str "moves", .ref a5, .ref a3, .ref a6, .ref a7, .ref t], Kd Z G8 y := fun y hy => by
          simp only [List.mem_cons, List.not_mem_nil, or_false] at hy
          rcases hy with rfl | rfl | rfl | rfl | rfl | rfl | rfl | rfl
          · exact kd_lst (w6 _ _ e4)
          · exact kd_sca rfl
          · exact kd_sca rfl
          · exact kd_tup1 (w7 _ _ e5) (kd_sca rfl)
          · refine kd_tup (w5 _ _ e3) fun y hy => ?_
            rw [List.eq_of_mem_replicate hy]
            exact kd_tup2 (w4 _ _ f1) (kd_sca rfl) (kd_sca rfl)
          · exact kd_tup1 (t8 _ _ e6) (ku (w4 _ _ hu3) (pu3.same w4))
          · exact kd_dK e7
          · exact kt3.same w4
        walk_at "hs"
        refine ⟨p, .ref t, Fo, rfl, p8, kt3.same w4, fun v G9 kv _ b9 p9 => ?_⟩
        walk_at "hs"
        intro L nL
        have t10 : Same G9 (upd G9 L (.lst [.ref a4, .non, .str "moves", .ref a5, .ref a3, .ref a6, .ref a7, .ref t, v])) := same_new (Same.refl _) nL
        have eL : upd G9 L (.lst [.ref a4, .non, .str "moves", .ref a5, .ref a3, .ref a6, .ref a7, .ref t, v]) L = some (.lst [.ref a4, .non, .str "moves", .ref a5, .ref a3, .ref a6, .ref a7, .ref t, v]) := upd_same
        generalize upd G9 L (.lst [.ref a4, .non, .str "moves", .ref a5, .ref a3, .ref a6, .ref a7, .ref t, v]) = G10 at t10 eL ⊢
        have p10 := p9.same t10
        have nLp : L ≠ p := p9.ne nL
        have kl2 : ∀ y ∈ [V.ref a4, .non, .str "moves", .ref a5, .ref a3, .ref a6, .ref a7, .ref t, v], Kd Z G10 y := fun y hy => by
          rcases List.mem_append.mp (show y ∈ [V.ref a4, .non, .str "moves", .ref a5, .ref a3, .ref a6, .ref a7, .ref t] ++ [v] from hy) with hy | hy
          · exact ((kl y hy).lsb (LsB.of_but b9 p8 p9)).same t10
          · rw [List.mem_singleton.mp hy]
            exact kv.same t10
        walk_at "hs"
        refine ⟨p, 9, Fo, rfl, p10, by decide, by decide, fun d3 G11 r0 r1 b11 p11 => ?_⟩
        have sL := SqL.of (K := K) (b11 _ _ nLp eL)
        obtain ⟨y, hv, hm⟩ := at_lt (xs := [V.ref a4, .non, .str "moves", .ref a5, .ref a3, .ref a6, .ref a7, .ref t, v]) r0 r1
        walk_at "hs"
        exact q y G11 ((kl2 y hm).lsb (LsB.of_but b11 p10 p11)) ((((b13.trans (But.of w4)).trans b9).trans (But.of t10)).trans b11) p11
      · walk_at "hs"
        refine ⟨p, _, Fo, rfl, p1, by omega, by omega, fun d H2 g0 g1 b2 p2 => ?_⟩
        obtain ⟨j, rfl⟩ := Int.eq_ofNat_of_zero_le g0
        have hj : j < us.length := by omega
        have hu2 := cu b2 p1 hu1
        have pu2 := pu1.but b2 p1.notTup
        have kt2 := kt1.lsb (LsB.of_but b2 p1 p2)
        have bb := b1.trans b2
        clear hu1 pu1 kt1 b1 b2 p1 su1
        have su2 : SqT K H2 u us := .of hu2
        obtain ⟨x, hx, t2, ex, ht2⟩ := pu2.at (List.getElem?_eq_getElem hj)
        have aj : atI us (j : Int) = some (.ref t2) := by
          rw [← ex]
          exact atI_nat (List.getElem?_eq_getElem hj)
        have st2 : SqT K H2 t2 [.int (x.1 : Nat), .int (x.2 : Nat)] := .of ht2
        walk_at "hs"
        intro a1 m1
        have s1 : Same H2 (upd H2 a1 (.tup [.int (x.1 : Nat), .int (x.1 : Nat)])) := same_new (Same.refl _) m1
        have e1 : upd H2 a1 (.tup [.int (x.1 : Nat), .int (x.1 : Nat)]) a1 = some (.tup [.int (x.1 : Nat), .int (x.1 : Nat)]) := upd_same
        generalize upd H2 a1 (.tup [.int (x.1 : Nat), .int (x.1 : Nat)]) = G1 at s1 e1 ⊢
        have k1 : Kd Z G1 (.ref a1) := kd_tup2 e1 (kd_sca rfl) (kd_sca rfl)
        walk_at "hs"
        have p3 := p2.same s1
        refine ⟨p, n, Fo, rfl, p3, by omega, by omega, fun d1 G2 c10 c11 b3 p4 => ?_⟩
        walk_at "hs"
        refine ⟨p, n + 1, Fo, rfl, p4, by omega, by omega, fun d2 G3 c20 c21 b4 p5 => ?_⟩
        have kA := (k1.lsb (LsB.of_but b3 p3 p4)).lsb (LsB.of_but b4 p4 p5)
        have hu3 := cu b4 p4 (cu b3 p3 (s1 _ _ hu2))
        have pu3 := (((pu2.same s1).but b3 p3.notTup).but b4 p4.notTup)
        have kt3 := ((kt2.same s1).lsb (LsB.of_but b3 p3 p4)).lsb (LsB.of_but b4 p4 p5)
        have bb3 := ((bb.trans (But.of s1)).trans b3).trans b4
        clear k1 hu2 pu2 kt2 bb b3 b4 p3 p4 p2 s1 e1 su2 st2 ht2
        walk_at "hs"
        intro a2 m2
        have s2 : Same G3 (upd G3 a2 (.tup [.int (1 + d1), .int d2])) := same_new (Same.refl _) m2
        have g2 : upd G3 a2 (.tup [.int (1 + d1), .int d2]) a2 = some (.tup [.int (1 + d1), .int d2]) := upd_same
        generalize upd G3 a2 (.tup [.int (1 + d1), .int d2]) = G4 at s2 g2 ⊢
        walk_at "hs"
        intro a3 m3
        have s3 : Same G4 (upd G4 a3 (.tup [.int 0, .int (x.2 : Nat)])) := same_new (Same.refl _) m3
        have e3 : upd G4 a3 (.tup [.int 0, .int (x.2 : Nat)]) a3 = some (.tup [.int 0, .int (x.2 : Nat)]) := upd_same
        generalize upd G4 a3 (.tup [.int 0, .int (x.2 : Nat)]) = G5 at s3 e3 ⊢
        walk_at "hs"
        intro a4 m4
        have s4 : Same G5 (upd G5 a4 (.tup [.int ((n : Int) + 1), .int (x.2 : Nat)])) := same_new (Same.refl _) m4
        have e4 : upd G5 a4 (.tup [.int ((n : Int) + 1), .int (x.2 : Nat)]) a4 = some (.tup [.int ((n : Int) + 1), .int (x.2 : Nat)]) := upd_same
        generalize upd G5 a4 (.tup [.int ((n : Int) + 1), .int (x.2 : Nat)]) = G6 at s4 e4 ⊢
        walk_at "hs"
        intro L1 mL1
        have s5 : Same G6 (upd G6 L1 (.lst [.ref a1, .ref a2, .ref a3, .ref a4])) := same_new (Same.refl _) mL1
        have eL1 : upd G6 L1 (.lst [.ref a1, .ref a2, .ref a3, .ref a4]) L1 = some (.lst [.ref a1, .ref a2, .ref a3, .ref a4]) := upd_same
        generalize upd G6 L1 (.lst [.ref a1, .ref a2, .ref a3, .ref a4]) = G7 at s5 eL1 ⊢
        walk_at "hs"
        intro a5 m5
        have s6 : Same G7 (upd G7 a5 (.tup [.int (x.1 : Nat), .int ((n : Int) + 1)])) := same_new (Same.refl _) m5
        have e5 : upd G7 a5 (.tup [.int (x.1 : Nat), .int ((n : Int) + 1)]) a5 = some (.tup [.int (x.1 : Nat), .int ((n : Int) + 1)]) := upd_same
        generalize upd G7 a5 (.tup [.int (x.1 : Nat), .int ((n : Int) + 1)]) = G8 at s6 e5 ⊢
        walk_at "hs"
        intro a6 m6
        have s7 : Same G8 (upd G8 a6 (.tup [.int (x.1 : Nat), .int (-1)])) := same_new (Same.refl _) m6
        have e6 : upd G8 a6 (.tup [.int (x.1 : Nat), .int (-1)]) a6 = some (.tup [.int (x.1 : Nat), .int (-1)]) := upd_same
        generalize upd G8 a6 (.tup [.int (x.1 : Nat), .int (-1)]) = G9 at s7 e6 ⊢
        walk_at "hs"
        intro a7 m7
        have s8 : Same G9 (upd G9 a7 (.tup [.bl true, .int (x.2 : Nat)])) := same_new (Same.refl _) m7
        have e7 : upd G9 a7 (.tup [.bl true, .int (x.2 : Nat)]) a7 = some (.tup [.bl true, .int (x.2 : Nat)]) := upd_same
        generalize upd G9 a7 (.tup [.bl true, .int (x.2 : Nat)]) = G10 at s8 e7 ⊢
        walk_at "hs"
        intro a8 m8
        have s9 : Same G10 (upd G10 a8 (.tup [.int (x.1 : Nat), .bl true])) := same_new (Same.refl _) m8
        have e8 : upd G10 a8 (.tup [.int (x.1 : Nat), .bl true]) a8 = some (.tup [.int (x.1 : Nat), .bl true]) := upd_same
        generalize upd G10 a8 (.tup [.int (x.1 : Nat), .bl true]) = G11 at s9 e8 ⊢
        walk_at "hs"
        intro a9 m9
        have s10 : Same G11 (upd G11 a9 (.lst [.int (x.1 : Nat), .int (x.2 : Nat)])) := same_new (Same.refl _) m9
        have e9 : upd G11 a9 (.lst [.int (x.1 : Nat), .int (x.2 : Nat)]) a9 = some (.lst [.int (x.1 : Nat), .int (x.2 : Nat)]) := upd_same
        generalize upd G11 a9 (.lst [.int (x.1 : Nat), .int (x.2 : Nat)]) = G12 at s10 e9 ⊢
        walk_at "hs"
        intro aA mA
        have s11 : Same G12 (upd G12 aA (.tup [.int (x.1 : Nat)])) := same_new (Same.refl _) mA
        have eA : upd G12 aA (.tup [.int (x.1 : Nat)]) aA = some (.tup [.int (x.1 : Nat)]) := upd_same
        generalize upd G12 aA (.tup [.int (x.1 : Nat)]) = G13 at s11 eA ⊢
        walk_at "hs"
        intro L2 mL2
        have s12 : Same G13 (upd G13 L2 (.lst [.ref a5, .ref a6, .ref a7, .ref a8, .ref a9, .ref aA, .non])) := same_new (Same.refl _) mL2
        have eL2 : upd G13 L2 (.lst [.ref a5, .ref a6, .ref a7, .ref a8, .ref a9, .ref aA, .non]) L2 = some (.lst [.ref a5, .ref a6, .ref a7, .ref a8, .ref a9, .ref aA, .non]) := upd_same
        generalize upd G13 L2 (.lst [.ref a5, .ref a6, .ref a7, .ref a8, .ref a9, .ref aA, .non]) = G14 at s12 eL2 ⊢
        have v11 := s11.trans s12
        have v10 := s10.trans v11
        have v9 := s9.trans v10
        have v8 := s8.trans v9
        have v7 := s7.trans v8
        have v6 := s6.trans v7
        have v5 := s5.trans v6
        have v4 := s4.trans v5
        have v3 := s3.trans v4
        have v2 := s2.trans v3
        walk_at "hs"
        refine x_cat (v6 _ _ eL1) eL2 (szLe (by show 4 + 7 ≤ 100000; decide)) fun L3 mL3 => ?_
        have s13 := same_new (Same.refl G14) mL3 (o := .lst ([.ref a1, .ref a2, .ref a3, .ref a4] ++ [V.ref a5, .ref a6, .ref a7, .ref a8, .ref a9, .ref aA, .non]))
        have eL3 := upd_same (H := G14) (a := L3) (o := .lst ([.ref a1, .ref a2, .ref a3, .ref a4] ++ [V.ref a5, .ref a6, .ref a7, .ref a8, .ref a9, .ref aA, .non]))
        have nL3 : L3 ≠ p := (p5.same v2).ne mL3
        generalize upd G14 L3 _ = G15 at s13 eL3 ⊢
        have v13 := v2.trans s13
        have kl : ∀ y ∈ [V.ref a1, .ref a2, .ref a3, .ref a4] ++ [V.ref a5, .ref a6, .ref a7, .ref a8, .ref a9, .ref aA, .non], Kd Z G15 y := fun y hy => by
          simp only [List.cons_append, List.nil_append, List.mem_cons, List.not_mem_nil, or_false] at hy
          rcases hy with rfl | rfl | rfl | rfl | rfl | rfl | rfl | rfl | rfl | rfl | rfl
          · exact kA.same v13
          · exact kd_tup2 (s13 _ _ (v3 _ _ g2)) (kd_sca rfl) (kd_sca rfl)
          · exact kd_tup2 (s13 _ _ (v4 _ _ e3)) (kd_sca rfl) (kd_sca rfl)
          · exact kd_tup2 (s13 _ _ (v5 _ _ e4)) (kd_sca rfl) (kd_sca rfl)
          · exact kd_tup2 (s13 _ _ (v7 _ _ e5)) (kd_sca rfl) (kd_sca rfl)
          · exact kd_tup2 (s13 _ _ (v8 _ _ e6)) (kd_sca rfl) (kd_sca rfl)
          · exact kd_tup2 (s13 _ _ (v9 _ _ e7)) (kd_sca rfl) (kd_sca rfl)
          · exact kd_tup2 (s13 _ _ (v10 _ _ e8)) (kd_sca rfl) (kd_sca rfl)
          · exact kd_lst (s13 _ _ (v11 _ _ e9))
          · exact kd_tup1 (s13 _ _ (s12 _ _ eA)) (kd_sca rfl)
          · exact kd_sca rfl
        have p15 := p5.same v13
        have hu15 := v13 _ _ hu3
        have pu15 := pu3.same v13
        have kt15 := kt3.same v13
        have bb15 := bb3.trans (But.of v13)
        clear kA g2 e3 e4 e5 e6 e7 e8 e9 eA eL1 eL2 s2 s3 s4 s5 s6 s7 s8 s9 s10 s11 s12 s13 v2 v3 v4 v5 v6 v7 v8 v9 v10 v11 v13 hu3 pu3 kt3 bb3 p5 m2 m3 m4 mL1 m5 m6 m7 m8 m9 mA mL2 mL3
        walk_at "hs"
        intro bA w1
        have s1 : Same G15 (upd G15 bA (.tup [.int (x.1 : Nat), .int (x.2 : Nat), .int 0])) := same_new (Same.refl _) w1
        have e1 : upd G15 bA (.tup [.int (x.1 : Nat), .int (x.2 : Nat), .int 0]) bA = some (.tup [.int (x.1 : Nat), .int (x.2 : Nat), .int 0]) := upd_same
        generalize upd G15 bA (.tup [.int (x.1 : Nat), .int (x.2 : Nat), .int 0]) = H3 at s1 e1 ⊢
        walk_at "hs"
        intro bB w2
        have s2 : Same H3 (upd H3 bB (.tup [.int (x.1 : Nat), .str "0"])) := same_new (Same.refl _) w2
        have g2 : upd H3 bB (.tup [.int (x.1 : Nat), .str "0"]) bB = some (.tup [.int (x.1 : Nat), .str "0"]) := upd_same
        generalize upd H3 bB (.tup [.int (x.1 : Nat), .str "0"]) = H4 at s2 g2 ⊢
        have s12 := s1.trans s2
        have kb1 : Kd Z H4 (.ref bA) := kd_tup3 (s2 _ _ e1) (kd_sca rfl) (kd_sca rfl) (kd_sca rfl)
        have kb2 : Kd Z H4 (.ref bB) := kd_tup2 g2 (kd_sca rfl) (kd_sca rfl)
        have p16 := p15.same s12
        walk_at "hs"
        refine ⟨p, .ref t, Fo, rfl, p16, kt15.same s12, fun z1 H5 kz1 _ b5 p17 => ?_⟩
        have q5 := LsB.of_but b5 p16 p17
        walk_at "hs"
        refine ⟨p, .ref t, Fo, rfl, p17, (kt15.same s12).lsb q5, fun z2 H6 kz2 _ b6 p18 => ?_⟩
        have q6 := LsB.of_but b6 p17 p18
        walk_at "hs"
        intro bC w3
        have s3 : Same H6 (upd H6 bC (.tup [z2, .int (x.2 : Nat)])) := same_new (Same.refl _) w3
        have e3 : upd H6 bC (.tup [z2, .int (x.2 : Nat)]) bC = some (.tup [z2, .int (x.2 : Nat)]) := upd_same
        generalize upd H6 bC (.tup [z2, .int (x.2 : Nat)]) = H7 at s3 e3 ⊢
        walk_at "hs"
        intro L4 w4
        have s4 : Same H7 (upd H7 L4 (.lst [.ref bA, .ref bB, z1, .ref bC])) := same_new (Same.refl _) w4
        have e4 : upd H7 L4 (.lst [.ref bA, .ref bB, z1, .ref bC]) L4 = some (.lst [.ref bA, .ref bB, z1, .ref bC]) := upd_same
        generalize upd H7 L4 (.lst [.ref bA, .ref bB, z1, .ref bC]) = H8 at s4 e4 ⊢
        have s34 := s3.trans s4
        have eL3b := s34 _ _ (b6 _ _ nL3 (b5 _ _ nL3 (s12 _ _ eL3)))
        refine x_cat eL3b e4 (szLe (by show 11 + 4 ≤ 100000; decide)) fun L5 w5 => ?_
        have s5 := same_new (Same.refl H8) w5 (o := .lst (([.ref a1, .ref a2, .ref a3, .ref a4] ++ [V.ref a5, .ref a6, .ref a7, .ref a8, .ref a9, .ref aA, .non]) ++ [V.ref bA, .ref bB, z1, .ref bC]))
        have eL5 := upd_same (H := H8) (a := L5) (o := .lst (([.ref a1, .ref a2, .ref a3, .ref a4] ++ [V.ref a5, .ref a6, .ref a7, .ref a8, .ref a9, .ref aA, .non]) ++ [V.ref bA, .ref bB, z1, .ref bC]))
        have nL5 : L5 ≠ p := (p18.same s34).ne w5
        generalize upd H8 L5 _ = H9 at s5 eL5 ⊢
        have s345 := s34.trans s5
        have kl2 : ∀ y ∈ ([V.ref a1, .ref a2, .ref a3, .ref a4] ++ [V.ref a5, .ref a6, .ref a7, .ref a8, .ref a9, .ref aA, .non]) ++ [V.ref bA, .ref bB, z1, .ref bC], Kd Z H9 y := fun y hy => by
          rcases List.mem_append.mp hy with hy | hy
          · exact ((((kl y hy).same s12).lsb q5).lsb q6).same s345
          · simp only [List.mem_cons, List.not_mem_nil, or_false] at hy
            rcases hy with rfl | rfl | rfl | rfl
            · exact ((kb1.lsb q5).lsb q6).same s345
            · exact ((kb2.lsb q5).lsb q6).same s345
            · exact (kz1.lsb q6).same s345
            · exact kd_tup2 (s5 _ _ (s4 _ _ e3)) (kz2.same s345) (kd_sca rfl)
        have p19 := p18.same s345
        have hu19 := s345 _ _ (cu b6 p17 (cu b5 p16 (s12 _ _ hu15)))
        have pu19 := (((pu15.same s12).but b5 p16.notTup).but b6 p17.notTup).same s345
        have bb19 := (((bb15.trans (But.of s12)).trans b5).trans b6).trans (But.of s345)
        clear kl kb1 kb2 kz1 kz2 q5 q6 s345 s34 s5 s4 s3 e3 e4 eL3b eL3 b5 b6 s12 s1 s2 e1 g2 p15 p16 p17 p18 hu15 pu15 kt15 bb15
        walk_at "hs"
        refine ⟨p, 15, Fo, rfl, p19, by decide, by decide, fun d3 H10 r0 r1 b20 p20 => ?_⟩
        have sL5 := SqL.of (K := K) (b20 _ _ nL5 eL5)
        obtain ⟨y, hv, hm⟩ := at_lt (xs := ([V.ref a1, .ref a2, .ref a3, .ref a4] ++ [V.ref a5, .ref a6, .ref a7, .ref a8, .ref a9, .ref aA, .non]) ++ [V.ref bA, .ref bB, z1, .ref bC]) r0 r1
        have ky := (kl2 y hm).lsb (LsB.of_but b20 p19 p20)
        have hu20 := cu b20 p19 hu19
        have pu20 := pu19.but b20 p19.notTup
        walk_at "hs"
        refine x_slA hu20 fun c1 H11 s1 e1 => ?_
        walk_at "hs"
        intro c2 w6
        have s2 : Same H11 (upd H11 c2 (.tup [y])) := same_new (Same.refl _) w6
        have g2 : upd H11 c2 (.tup [y]) c2 = some (.tup [y]) := upd_same
        generalize upd H11 c2 (.tup [y]) = H12 at s2 g2 ⊢
        have lc1 := cutV_length us none (some (j : Int))
        refine x_catA (s2 _ _ e1) g2 (by show _ + 1 ≤ _; omega) fun c3 H13 s3 e3 => ?_
        have s13 := (s1.trans s2).trans s3
        walk_at "hs"
        refine x_slA (s13 _ _ hu20) fun c4 H14 s4 e4 => ?_
        have lc2 := cutV_length us (some ((j : Int) + 1)) none
        refine x_catA (s4 _ _ e3) e4 (by rw [List.length_append]; show _ + 1 + _ ≤ _; omega) fun c5 H15 s5 e5 => ?_
        have s15 := (s13.trans s4).trans s5
        walk_at "hs"
        refine q _ H15 (kd_tup e5 fun z hz => ?_) ((bb19.trans b20).trans (But.of s15)) (p20.same s15)
        have ku20 := kd_prs (Z := Z) (pu20.same s15)
        rcases List.mem_append.mp hz with hz | hz
        · rcases List.mem_append.mp hz with hz | hz
          · exact ku20 z (mem_cutV hz)
          · rw [List.mem_singleton.mp hz]
            exact ky.same s15
        · exact ku20 z (mem_cutV hz)
end
set_option maxRecDepth 100000
set_option maxHeartbeats 2000000
open PySem PySem.Spec L2


theorem sc__law_due : FnScope ["_law_hung", "_law_moves_here", "_law_index", "_law_move"] ["_law_hung", "_law_moves_here"] (defScope s__law_due) := ⟨rfl, rfl, rfl, by decide +kernel, rfl, by decide +kernel, by decide +kernel⟩
theorem sc__law_answer : FnScope ["_law_tree_here", "_law_moves_here", "_law_word", "e"] ["_law_tree_here", "_law_moves_here"] (defScope s__law_answer) := ⟨rfl, rfl, rfl, by decide +kernel, rfl, by decide +kernel, by decide +kernel⟩
theorem num_no {lo : Int} {n : Nat} {z : Int} (h : numV lo n (.int z) = false) : ¬ (lo ≤ z ∧ z ≤ n) := by
  have h : (decide (lo ≤ z) && decide (z ≤ n)) = false := h
  rw [Bool.and_eq_false_iff, decide_eq_false_iff_not, decide_eq_false_iff_not] at h
  exact fun c => h.elim (fun z => z c.1) fun z => z c.2
theorem ok_no1 {hs : List Nat} {b p : V} (h : numV 1 hs.length b = false) : okMv hs b p = none := by
  cases b with
  | int b => cases p with
    | int p => exact if_neg fun c => num_no h ⟨c.1, c.2.1⟩
    | _ => rfl
  | _ => rfl
theorem ok_no2 {hs : List Nat} {b p : V} (h : numV 0 hs.length p = false) : okMv hs b p = none := by
  cases b with
  | int b => cases p with
    | int p => exact if_neg fun c => num_no h ⟨c.2.2.1, c.2.2.2.1⟩
    | _ => rfl
  | _ => cases p <;> rfl
/-- what is asked of the class of errors about histories -/
structure ErrH (K : PySem.W.Frag) (Z : Ad) : Prop where
  f : XfC K Z.a_BadHistory
  n : PySem.W.findIn K (.ref Z.a_BadHistory) "part" = some none
  m : PySem.W.exmOne K (.ref Z.a_BadHistory) (.ref Z.a_BadHistory) = some true
section
variable {P : Program} {w : World} {K : PySem.W.Frag} {mg : Str → Option Value} {base : Heap} {Z : Ad}
def spDueH (Z : Ad) : Sp := fun vs H Q _ => ∃ (t : Addr) (mv : V) (hs : List Nat), vs = [.ref t, mv] ∧ H t = some (.tup (nats hs)) ∧ IsTree hs ∧ KvD Z H 2 mv ∧ ∀ H', Same H H' → Q (valH (dueH H hs mv)) H'
theorem ok_dueH {f : Addr} {fd : FuncData} (F : Fun K "_law_due" "_law_due" s__law_due f fd) (B : Bl Z mg) (I : InsK K Z) {f__law_is_whole : Addr} {fd__law_is_whole : FuncData} (C__law_is_whole : Cal K mg "_law_is_whole" f__law_is_whole fd__law_is_whole ["_law_thing", "_law_least", "_law_most"]) (G__law_is_whole : FnOk P w K mg base CX0 1 f__law_is_whole fd__law_is_whole ["_law_thing", "_law_least", "_law_most"] (spWholeK Z)) {f__law_beneath : Addr} {fd__law_beneath : FuncData} (C__law_beneath : Cal K mg "_law_beneath" f__law_beneath fd__law_beneath ["_law_hung", "_law_place"]) (G__law_beneath : FnOk P w K mg base CX0 2 f__law_beneath fd__law_beneath ["_law_hung", "_law_place"] (spInner K)) {f__law_put : Addr} {fd__law_put : FuncData} (C__law_put : Cal K mg "_law_put" f__law_put fd__law_put ["_law_hung", "_law_block", "_law_place"]) (G__law_put : FnOk P w K mg base CX0 1 f__law_put fd__law_put ["_law_hung", "_law_block", "_law_place"] spPutT) : FnOk P w K mg base CX0 3 f fd ["_law_hung", "_law_moves_here"] (spDueH Z) := by
  refine F.ok sc__law_due (fun vs H Q E h => ?_) (fun cdv A outer s H vs Q E hr h => ?_)
  · obtain ⟨t, mv, hs, rfl, _⟩ := h
    rfl
  · obtain ⟨t, mv, hs, rfl, ht, it, km, q⟩ := h
    refine ⟨_, (pss_cons (ps_if (PW.pt (pw_or (pt_not (pt_val (pe_callB (call_isiK' (K := K) rfl) (by rfl) B.b_isinstance (by decide +kernel) (pa_cons (pv 1) (pa_cons (pe_bltn (v := .ty "tuple") (by rfl) B.b_tuple (by decide +kernel) rfl) pa_nil))))) (pw_or1 (pt_cmpR op_gt (pe_callB (call_lenK (K := K) rfl) (by rfl) B.b_len PySem.boot_len (pa_cons (pv 1) pa_nil)) pe_int (nomark _))))) (pss_one (ps_ret pe_str)) pss_nil)
 (pss_cons (ps_for PassesOwn.never rfl (pi_enumT0 (K := K) rfl rfl (by rfl) B.b_enumerate (pa_cons (pv 1) pa_nil)) (pg_tup rfl (pgs_cons (pg_name (i := 2) sc__law_due.nd rfl (Or.inl rfl)) (pgs_cons (pg_name (i := 3) sc__law_due.nd rfl (Or.inl rfl)) pgs_nil))) (pss_cons (ps_if (PW.pt (pw_or (pt_not (pt_val (pe_callB (call_isiK' (K := K) rfl) (by rfl) B.b_isinstance (by decide +kernel) (pa_cons (pv 3) (pa_cons (pe_bltn (v := .ty "tuple") (by rfl) B.b_tuple (by decide +kernel) rfl) pa_nil))))) (pw_or (pt_cmpR op_ne (pe_callB (call_lenK (K := K) rfl) (by rfl) B.b_len PySem.boot_len (pa_cons (pv 3) pa_nil)) pe_int (nomark _)) (pw_or1 (pt_not (pt_val (pe_call G__law_is_whole (hr.mono (by first | decide | omega)) (by rfl) C__law_is_whole.g C__law_is_whole.k C__law_is_whole.b .nil pass0 (pa_cons (pe_ix (ix_tupK (K := K) rfl) (pv 3) pe_int (fun _ _ => rfl)) (pa_cons pe_int (pa_cons (pe_callB (call_lenK (K := K) rfl) (by rfl) B.b_len PySem.boot_len (pa_cons (pv 0) pa_nil)) pa_nil)))))))))) (pss_one (ps_ret (pv 2))) pss_nil)
 (pss_cons (ps_if (PW.pt (pw_or (pt_not (pt_val (pe_call G__law_is_whole (hr.mono (by first | decide | omega)) (by rfl) C__law_is_whole.g C__law_is_whole.k C__law_is_whole.b .nil pass0 (pa_cons (pe_ix (ix_tupK (K := K) rfl) (pv 3) pe_int (fun _ _ => rfl)) (pa_cons pe_int (pa_cons (pe_callB (call_lenK (K := K) rfl) (by rfl) B.b_len PySem.boot_len (pa_cons (pv 0) pa_nil)) pa_nil)))))) (pw_or1 (pt_cmpR (op_inK (K := K) rfl) (pe_ix (ix_tupK (K := K) rfl) (pv 3) pe_int (fun _ _ => rfl)) (pe_call G__law_beneath (hr.mono (by first | decide | omega)) (by rfl) C__law_beneath.g C__law_beneath.k C__law_beneath.b .nil pass0 (pa_cons (pv 0) (pa_cons (pe_ix (ix_tupK (K := K) rfl) (pv 3) pe_int (fun _ _ => rfl)) pa_nil))) (by rfl))))) (pss_one (ps_ret (pv 2))) pss_nil)
 (pss_one (ps_set (i := 0) sc__law_due.nd rfl (Or.inl rfl) (pe_call G__law_put (hr.mono (by first | decide | omega)) (by rfl) C__law_put.g C__law_put.k C__law_put.b .nil pass0 (pa_cons (pv 0) (pa_cons (pe_ix (ix_tupK (K := K) rfl) (pv 3) pe_int (fun _ _ => rfl)) (pa_cons (pe_ix (ix_tupK (K := K) rfl) (pv 3) pe_int (fun _ _ => rfl)) pa_nil)))))))))
 (pss_one (ps_ret pe_str)))), ?_⟩
    have told : ∀ (d : DH) (v : V) H', dueH H hs mv = d → valH d = v → Same H H' → Q v H' := fun d v H' hd hv s1 => by
      have := q H' s1
      rwa [hd, hv] at this
    clear q
    walk_at "h0"
    refine kv_tuple I km.kv ?_
    cases em : tupOf H mv with
    | none =>
      dsimp only [Option.isSome_none]
      walk_at "hs"
      exact told .moves _ H (due_moves fun xs e => by rw [em] at e; cases e) rfl (Same.refl _)
    | some xs =>
      obtain ⟨tm, rfl, etm⟩ := tupOf_ref em
      have stm : SqT K H tm xs := .of etm
      dsimp only [Option.isSome_some]
      walk_at "hs"
      refine x_isd (fun c => ?_) (fun c => ?_)
      · walk_at "hs"
        exact told .moves _ H (due_moves fun ys e => by rw [em] at e; cases e; omega) rfl (Same.refl _)
      have hl : ¬ xs.length > 100 := by omega
      have kx : ∀ m ∈ xs, KvD Z H 1 m := km.2 xs em
      walk_at "hs"
      refine x_ent1 stm ?_
      refine lp_enumT (K := K) (xs := xs) (fun i σ' H' => (∃ g gs x2 x3, σ' = [some (.ref g), some (.ref tm), x2, x3] ∧ runs H hs (xs.take i) = some gs ∧ H' g = some (.tup (nats gs))) ∧ Same H H')
        ⟨⟨t, hs, _, _, rfl, rfl, ht⟩, Same.refl _⟩ (fun i σ' H' _ hp => .of (hp.2 _ _ etm)) ?_ ?_
      · rintro i m σ' H1 T hm ⟨⟨g, gs, x2, x3, rfl, hrun, eg⟩, s1⟩ hT
        have hmem : m ∈ xs := List.mem_of_getElem? hm
        have rt := runs_tree it hrun
        have h40 := rt.1.most
        have bad : stepM H gs m = none → dueH H hs (.ref tm) = .at i := fun h3 => due_at em hl hrun hm h3
        have s2 : Same H (upd H1 T (.tup [.int (0 + (i : Int)), m])) := same_new s1 hT
        have km2 : KvD Z (upd H1 T (.tup [.int (0 + (i : Int)), m])) 1 m := (kx m hmem).same s2
        have eg2 := keepN (o' := .tup [.int (0 + (i : Int)), m]) eg hT
        have st : SqT K (upd H1 T (.tup [.int (0 + (i : Int)), m])) T [.int (0 + (i : Int)), m] := .of upd_same
        have vi : valH (.at i) = .int (0 + (i : Int)) := by rw [Int.zero_add]; rfl
        generalize upd H1 T (.tup [.int (0 + (i : Int)), m]) = H2 at *
        have sg2 : SqT K H2 g (nats gs) := .of eg2
        have e2 := tupOf_same (Z := Z) s2 (kx m hmem).kv
        walk_at "hs"
        refine kv_tuple I km2.kv ?_
        cases e3 : tupOf H2 m with
        | none =>
          have stp : stepM H gs m = none := by
            unfold stepM
            rw [← e2, e3]
          dsimp only [Option.isSome_none]
          walk_at "hs"
          exact told (.at i) _ H2 (bad stp) vi s2
        | some l =>
          obtain ⟨am, rfl, eam⟩ := tupOf_ref e3
          have sam : SqT K H2 am l := .of eam
          dsimp only [Option.isSome_some]
          walk_at "hs"
          refine x_isd (fun c2 => ?_) (fun c2 => ?_)
          · have stp : stepM H gs (.ref am) = none := by
              unfold stepM
              rw [← e2, e3]
              match l, c2 with
              | [], _ => rfl
              | [_], _ => rfl
              | [_, _], c2 => exact (c2 rfl).elim
              | _ :: _ :: _ :: _, _ => rfl
            walk_at "hs"
            exact told (.at i) _ H2 (bad stp) vi s2
          obtain ⟨b, p, rfl⟩ : ∃ b p, l = [b, p] := by
            have c3 : (l.length : Int) = 2 := Decidable.not_not.mp c2
            match l, c3 with
            | [], c3 => simp at c3
            | [_], c3 => simp at c3
            | [b, p], _ => exact ⟨b, p, rfl⟩
            | _ :: _ :: _ :: _, c3 =>
              simp only [List.length_cons] at c3
              omega
          have sm : stepM H gs (.ref am) = okMv gs b p := by
            unfold stepM
            rw [← e2, e3]
          have kb : Kv Z H2 b := km2.2 _ e3 b (by simp)
          have kp : Kv Z H2 p := km2.2 _ e3 p (by simp)
          walk_at "hs"
          rw [nats_length]
          refine ⟨b, _, _, rfl, kb, ?_⟩
          cases hb : numV 1 gs.length b with
          | false =>
            walk_at "hs"
            exact told (.at i) _ H2 (bad (sm.trans (ok_no1 hb))) vi s2
          | true =>
            obtain ⟨b, rfl, b1, b2⟩ := num_out hb
            obtain ⟨b, rfl⟩ := Int.eq_ofNat_of_zero_le (show 0 ≤ b by omega)
            walk_at "hs"
            rw [nats_length]
            refine ⟨p, _, _, rfl, kp, ?_⟩
            cases hp : numV 0 gs.length p with
            | false =>
              walk_at "hs"
              exact told (.at i) _ H2 (bad (sm.trans (ok_no2 hp))) vi s2
            | true =>
              obtain ⟨p, rfl, p1, p2⟩ := num_out hp
              obtain ⟨p, rfl⟩ := Int.eq_ofNat_of_zero_le p1
              walk_at "hs"
              refine ⟨g, gs, b, rfl, eg2, rt.1, by omega, by omega, fun D H3 s3 nD eD => ?_⟩
              refine x_inNL (.of eD) ?_
              have im := inner_mem (hs := gs) (b := b) (p := p) (by omega) (by omega)
              walk_at "hs"
              refine x_isd (fun c4 => ?_) (fun c4 => ?_)
              · walk_at "hs"
                refine told (.at i) _ H3 (bad (sm.trans (if_neg fun z => ?_))) vi (s2.trans s3)
                exact (im.mp c4).elim (fun y => z.2.2.2.2.1 (by rw [y])) z.2.2.2.2.2
              · have c5 := fun z => c4 (im.mpr z)
                have ok : okMv gs (.int (b : Int)) (.int (p : Int)) = some (b, p) := if_pos ⟨b1, b2, p1, p2, fun z => c5 (.inl (by omega)), fun z => c5 (.inr z)⟩
                have sam3 : SqT K H3 am [.int (b : Int), .int (p : Int)] := .of (s3 _ _ eam)
                walk_at "hs"
                refine ⟨g, gs, b, p, rfl, s3 _ _ eg2, by omega, by omega, h40, fun D4 H4 s4 e4 => ?_⟩
                walk_at "hs"
                refine ⟨⟨D4, put gs b p, _, _, rfl, ?_, e4⟩, (s2.trans s3).trans s4⟩
                rw [List.take_succ, hm]
                exact runs_snoc (x := (b, p)) (sm.trans ok) hrun
      · rintro σ' H1 ⟨⟨g, gs, x2, x3, rfl, hrun, eg⟩, s1⟩
        rw [List.take_length] at hrun
        walk_at "hs"
        exact told .ok _ H1 (due_ok em hl hrun) rfl s1
def spAns (Z : Ad) : Sp := fun vs H Q _ => ∃ (tv mv : V), vs = [tv, mv] ∧ KvD Z H 2 mv ∧ ((∃ x hs, tv = .ref x ∧ TreeAt Z H x hs ∧ IsTree hs ∧ ∀ H', Same H H' → Q (valH (dueH H hs mv)) H') ∨ (Kn H tv ∧ ∀ H', Same H H' → Q (.str "tree") H'))
theorem ok_ans {f : Addr} {fd : FuncData} (F : Fun K "_law_answer" "_law_answer" s__law_answer f fd) (B : Bl Z mg) (X : ErrH K Z) {f_History___init__ : Addr} {fd_History___init__ : FuncData} (C_History___init__ : CalM K f_History___init__ fd_History___init__ ["self", "tree", "moves"]) (G_History___init__ : FnOk P w K mg base (L2.CX P w) 7 f_History___init__ fd_History___init__ ["self", "tree", "moves"] (spHist Z)) (M_History : Mk K Z.a_History f_History___init__) : FnOk P w K mg base CX0 9 f fd ["_law_tree_here", "_law_moves_here"] (spAns Z) := by
  have X_f := X.f
  have X_n := X.n
  refine F.ok sc__law_answer (fun vs H Q E h => ?_) (fun cdv A outer s H vs Q E hr h => ?_)
  · obtain ⟨tv, mv, rfl, _⟩ := h
    rfl
  · obtain ⟨tv, mv, rfl, km, hc⟩ := h
    refine ⟨_, (pss_cons (ps_set (i := 2) sc__law_answer.nd rfl (Or.inl rfl) pe_str)
 (pss_cons (ps_try_as1 (i := 3) rfl rfl sc__law_answer.nd rfl rfl ⟨rfl, by decide, Or.inl B.k_BadHistory⟩ (fun W pn xe tk po => (pss_one (ps_expr (pe_makeS M_History G_History___init__ (hr.mono (by first | decide | omega)) (by rfl) B.k_History C_History___init__.b .nil (fun σ => L2.passAt tk σ) (pa_cons (pv 0) (pa_cons (pv 1) pa_nil)))))) (fun a oe cls d pn hz hf => (pss_one (ps_set (i := 2) sc__law_answer.nd rfl (Or.inl rfl) (pe_xf X_f X_n hz hf (pv 3) (by rfl))))))
 (pss_one (ps_ret (pv 2))))), ?_⟩
    walk_at "h0"
    refine x_makeS ?_
    walk_at "hs"
    intro m dm hm hdm ne
    have hm2 : upd H dm (.own m) m = none := by
      rw [upd_ne (Ne.symm ne)]
      exact hm
    have s0 : Same H (upd (upd H dm (.own m)) m (.ins Z.a_History dm [])) := same_new (same_new (Same.refl H) hdm) hm2
    refine ⟨m, dm, tv, mv, rfl, upd_same, km.same s0, ?_⟩
    rcases hc with ⟨x, hs, rfl, tr, it, q⟩ | ⟨kt, q⟩
    · have du := dueH_same (hs := hs) s0 km.down
      refine .inl ⟨x, hs, rfl, tr.same s0, it, fun hd H' b1 e => ⟨rfl, ?_⟩, fun e H' nd s1 he => ⟨X.m, fun a na => ?_⟩⟩
      · have s1 : Same H H' := fun b o e => b1 _ _ (ne_of_none e hm) (s0 _ _ e)
        have := q H' s1
        rw [du] at hd
        rw [hd] at this
        walk_at "hs"
        exact this
      · rw [du] at he
        walk_at "hs"
        refine x_xf ?_
        walk_at "hs"
        refine ⟨rfl, rfl, e, _, _, rfl, he, rfl, ?_⟩
        walk_at "hs"
        exact q H' (s0.trans s1)
    · refine .inr ⟨kt.same s0, fun e H' s1 he => ⟨X.m, fun a na => ?_⟩⟩
      walk_at "hs"
      refine x_xf ?_
      walk_at "hs"
      refine ⟨rfl, rfl, e, _, _, rfl, he, rfl, ?_⟩
      walk_at "hs"
      exact q H' (s0.trans s1)
end
set_option maxRecDepth 100000
set_option maxHeartbeats 4000000
open PySem PySem.Spec L2


theorem spTree_of {Z : Ad} {H : Hp} {R : Hp → Prop} {a m dm : Addr} {hs : List Nat} (t : IsTree hs) (ha : H a = some (.tup (nats hs))) (hm : H m = none) (hdm : H dm = none) (ne : dm ≠ m) (q : ∀ H', Same H H' → TreeAt Z H' m hs → R H') :
    spTree Z (.ref m :: ([.ref a] ++ [])) (upd (upd H dm (.own m)) m (.ins Z.a_Tree dm [])) (fun v H2 => v = .non ∧ R H2) (fun _ _ _ => False) := by
  have hm2 : upd H dm (.own m) m = none := by
    rw [upd_ne (Ne.symm ne)]
    exact hm
  have s0 : Same H (upd (upd H dm (.own m)) m (.ins Z.a_Tree dm [])) := same_new (same_new (Same.refl H) hdm) hm2
  have hk : ∀ y ∈ nats hs, Kn H y := fun y hy => by
    obtain ⟨n, _, rfl⟩ := List.mem_map.mp hy
    exact True.intro
  have hx : Thing H (.ref a) := .inl ⟨a, _, rfl, ha, hk⟩
  have due : DueV H (.ref a) .ok := .inl ⟨a, _, rfl, ha, tree_ok t, hk⟩
  refine ⟨m, dm, .ref a, rfl, upd_same, hx.same s0, fun H' hd b1 hm1 => ⟨rfl, ?_⟩, fun d e v H' nd hd ht s1 he => nd ((hx.back s0 hd).det due)⟩
  have s1 : Same H H' := fun b o e => b1 _ _ (ne_of_none e hm) (s0 _ _ e)
  exact q H' s1 ⟨dm, a, hm1, s1 _ _ ha⟩
theorem kd_nats {Z : Ad} {H : Hp} {a : Addr} {hs : List Nat} (h : H a = some (.tup (nats hs))) : Kd Z H (.ref a) := kd_tup h fun y hy => by
  obtain ⟨n, _, rfl⟩ := List.mem_map.mp hy
  exact kd_sca rfl
section
variable {P : Program} {w : World} {K : PySem.W.Frag} {mg : Str → Option Value} {base : Heap} {Z : Ad}
theorem eq_hists {H : Hp} {Q : VK} {a b : Addr} {hs gs : List Nat} {ms ns : List (Nat × Nat)} (h1 : HistAt Z H a hs ms) (h2 : HistAt Z H b gs ns) (q : Q (.bl (decide (hs = gs ∧ ms = ns))) H) : rOwn Z.a_History (spEqH Z) (.ref a) (.ref b) H Q := by
  obtain ⟨dx, t, u, vs, ha, _⟩ := id h1
  obtain ⟨dy, t2, u2, ws, hb, _⟩ := id h2
  exact ⟨a, b, dx, _, rfl, rfl, ha, .inl ⟨_, _, hb⟩, a, b, hs, ms, rfl, h1, .inl ⟨gs, ns, h2, _, rfl, q⟩⟩
theorem eq_histTup {H : Hp} {Q : VK} {a b : Addr} {hs : List Nat} {ms : List (Nat × Nat)} {xs : List V} (h1 : HistAt Z H a hs ms) (h2 : H b = some (.tup xs)) (q : Q (.bl false) H) : rOwn Z.a_History (spEqH Z) (.ref a) (.ref b) H Q := by
  obtain ⟨dx, t, u, vs, ha, _⟩ := id h1
  exact ⟨a, b, dx, _, rfl, rfl, ha, .inr ⟨_, h2⟩, a, b, hs, ms, rfl, h1, .inr ⟨⟨_, h2⟩, _, rfl, q⟩⟩
theorem ne_hists {H : Hp} {Q : VK} {a b : Addr} {hs gs : List Nat} {ms ns : List (Nat × Nat)} (h1 : HistAt Z H a hs ms) (h2 : HistAt Z H b gs ns) (q : Q (.bl (!decide (hs = gs ∧ ms = ns))) H) : rOwnN Z.a_History (spEqH Z) (.ref a) (.ref b) H Q := by
  obtain ⟨dx, t, u, vs, ha, _⟩ := id h1
  obtain ⟨dy, t2, u2, ws, hb, _⟩ := id h2
  exact ⟨a, b, dx, dy, _, _, rfl, rfl, ha, hb, a, b, hs, ms, rfl, h1, .inl ⟨gs, ns, h2, _, rfl, q⟩⟩
theorem ok_law34 {f : Addr} {fd : FuncData} (F : Fun K "law" "law" s_law f fd) (B : Bl Z mg) (Tt : Cls K Z.a_Tree) (Nt : NoAttr K Z.a_Tree "hung") (HC : HisC K Z)
    {f__law_hand : Addr} {fd__law_hand : FuncData} (C__law_hand : Cal K mg "_law_hand" f__law_hand fd__law_hand ["_law_script"]) (G__law_hand : FnOk P w K mg base CX0 1 f__law_hand fd__law_hand ["_law_script"] (spPool K))
    {f__law_draw : Addr} {fd__law_draw : FuncData} (C__law_draw : Cal K mg "_law_draw" f__law_draw fd__law_draw ["_law_hand_here", "_law_many"]) (G__law_draw : FnOk P w K mg base CX0 1 f__law_draw fd__law_draw ["_law_hand_here", "_law_many"] spDraw)
    {f__law_tree : Addr} {fd__law_tree : FuncData} (C__law_tree : Cal K mg "_law_tree" f__law_tree fd__law_tree ["_law_hand_here", "_law_many"]) (G__law_tree : FnOk P w K mg base CX0 2 f__law_tree fd__law_tree ["_law_hand_here", "_law_many"] spHungW)
    {f__law_moves : Addr} {fd__law_moves : FuncData} (C__law_moves : Cal K mg "_law_moves" f__law_moves fd__law_moves ["_law_hand_here", "_law_hung", "_law_many"]) (G__law_moves : FnOk P w K mg base CX0 3 f__law_moves fd__law_moves ["_law_hand_here", "_law_hung", "_law_many"] spMovs)
    {f__law_bent : Addr} {fd__law_bent : FuncData} (C__law_bent : Cal K mg "_law_bent" f__law_bent fd__law_bent ["_law_hand_here", "_law_many", "_law_moves_here", "_law_tree_here"]) (G__law_bent : FnOk P w K mg base CX0 3 f__law_bent fd__law_bent ["_law_hand_here", "_law_many", "_law_moves_here", "_law_tree_here"] (spBentH Z))
    {f__law_odd : Addr} {fd__law_odd : FuncData} (C__law_odd : Cal K mg "_law_odd" f__law_odd fd__law_odd ["_law_hand_here", "_law_thing"]) (G__law_odd : FnOk P w K mg base CX0 2 f__law_odd fd__law_odd ["_law_hand_here", "_law_thing"] (spOddH Z))
    {f__law_due : Addr} {fd__law_due : FuncData} (C__law_due : Cal K mg "_law_due" f__law_due fd__law_due ["_law_hung", "_law_moves_here"]) (G__law_due : FnOk P w K mg base CX0 3 f__law_due fd__law_due ["_law_hung", "_law_moves_here"] (spDueH Z))
    {f__law_answer : Addr} {fd__law_answer : FuncData} (C__law_answer : Cal K mg "_law_answer" f__law_answer fd__law_answer ["_law_tree_here", "_law_moves_here"]) (G__law_answer : FnOk P w K mg base CX0 9 f__law_answer fd__law_answer ["_law_tree_here", "_law_moves_here"] (spAns Z))
    {f_now : Addr} {fd_now : FuncData} (C_now : Cal K mg "now" f_now fd_now ["history"]) (G_now : FnOk P w K mg base CX0 5 f_now fd_now ["history"] (spNow Z))
    {f_History___eq__ : Addr} {fd_History___eq__ : FuncData} (C_History___eq__ : CalM K f_History___eq__ fd_History___eq__ ["self", "other"]) (G_History___eq__ : FnOk P w K mg base CX0 2 f_History___eq__ fd_History___eq__ ["self", "other"] (spEqH Z)) (O_History : OwnQ K Z.a_History f_History___eq__) (N_History : OwnN K Z.a_History f_History___eq__)
    {f_History___init__ : Addr} {fd_History___init__ : FuncData} (C_History___init__ : CalM K f_History___init__ fd_History___init__ ["self", "tree", "moves"]) (G_History___init__ : FnOk P w K mg base (L2.CX P w) 7 f_History___init__ fd_History___init__ ["self", "tree", "moves"] (spHist Z)) (M_History : Mk K Z.a_History f_History___init__)
    {f_Tree___init__ : Addr} {fd_Tree___init__ : FuncData} (C_Tree___init__ : CalM K f_Tree___init__ fd_Tree___init__ ["self", "hung"]) (G_Tree___init__ : FnOk P w K mg base (L2.CX P w) 3 f_Tree___init__ fd_Tree___init__ ["self", "hung"] (spTree Z)) (M_Tree : Mk K Z.a_Tree f_Tree___init__) : FnOk P w K mg base CX0 10 f fd ["_law_script"] (spLaw K) := by
  refine F.ok sc_law (fun vs H Q E h => ?_) (fun cdv A outer s H vs Q E hr h => ?_)
  · obtain ⟨a, ns, rfl, _⟩ := h
    rfl
  · obtain ⟨a, ns, rfl, hS, hl, q⟩ := h
    refine ⟨_, (pss_cons (ps_set (i := 1) sc_law.nd rfl (Or.inl rfl) (pe_call G__law_hand (hr.mono (by first | decide | omega)) (by rfl) C__law_hand.g C__law_hand.k C__law_hand.b .nil pass0 (pa_cons (pv 0) pa_nil)))
 (pss_cons (ps_for PassesOwn.never rfl (pi_range1 rfl B.b_range (pa_cons pe_int pa_nil)) (pg_name (i := 2) sc_law.nd rfl (Or.inl rfl)) (pss_cons (ps_set (i := 3) sc_law.nd rfl (Or.inl rfl) (pe_op op_add pe_int (pe_call G__law_draw (hr.mono (by first | decide | omega)) (by rfl) C__law_draw.g C__law_draw.k C__law_draw.b .nil pass0 (pa_cons (pv 1) (pa_cons pe_int pa_nil)))))
 (pss_cons (ps_set (i := 4) sc_law.nd rfl (Or.inl rfl) (pe_call G__law_tree (hr.mono (by first | decide | omega)) (by rfl) C__law_tree.g C__law_tree.k C__law_tree.b .nil pass0 (pa_cons (pv 1) (pa_cons (pv 3) pa_nil))))
 (pss_cons (ps_asg (pe_call G__law_moves (hr.mono (by first | decide | omega)) (by rfl) C__law_moves.g C__law_moves.k C__law_moves.b .nil pass0 (pa_cons (pv 1) (pa_cons (pv 4) (pa_cons (pe_call G__law_draw (hr.mono (by first | decide | omega)) (by rfl) C__law_draw.g C__law_draw.k C__law_draw.b .nil pass0 (pa_cons (pv 1) (pa_cons pe_int pa_nil))) pa_nil)))) (pg_tup rfl (pgs_cons (pg_name (i := 5) sc_law.nd rfl (Or.inl rfl)) (pgs_cons (pg_name (i := 6) sc_law.nd rfl (Or.inl rfl)) pgs_nil))))
 (pss_cons (ps_par (i := 7) (j := 8) (by rfl) sc_law.nd rfl rfl (by decide) rfl rfl (pa_cons (pe_make M_History G_History___init__ (hr.mono (by first | decide | omega)) (by rfl) B.k_History C_History___init__.b .nil passE (pa_cons (pe_make M_Tree G_Tree___init__ (hr.mono (by first | decide | omega)) (by rfl) B.k_Tree C_Tree___init__.b .nil passE (pa_cons (pv 4) pa_nil)) (pa_cons (pv 5) pa_nil))) (pa_cons (pe_make M_History G_History___init__ (hr.mono (by first | decide | omega)) (by rfl) B.k_History C_History___init__.b .nil passE (pa_cons (pe_make M_Tree G_Tree___init__ (hr.mono (by first | decide | omega)) (by rfl) B.k_Tree C_Tree___init__.b .nil passE (pa_cons (pv 4) pa_nil)) (pa_cons (pv 5) pa_nil))) pa_nil)) (by rfl))
 (pss_cons (ps_if (PW.pt (pw_or (pt_cmpR (op_neDK (K := K) rfl hr.units) (pe_fldK (K := K) rfl (pe_fldK (K := K) rfl (pv 7) rfl) rfl) (pv 4) (nomark _)) (pw_or (pt_cmpR (op_neDK (K := K) rfl hr.units) (pe_fldK (K := K) rfl (pv 7) rfl) (pv 5) (nomark _)) (pw_or (pt_cmpR (op_neDK (K := K) rfl hr.units) (pe_fldK (K := K) rfl (pe_call G_now (hr.mono (by first | decide | omega)) (by rfl) C_now.g C_now.k C_now.b .nil pass0 (pa_cons (pv 7) pa_nil)) rfl) (pv 6) (nomark _)) (pw_or1 (pt_not (pt_cmpR (op_own O_History G_History___eq__ C_History___eq__.b (hr.mono (by first | decide | omega))) (pv 7) (pv 8) (nomark _)))))))) (pss_one (ps_ret pe_bl)) pss_nil)
 (pss_cons (ps_if (PW.pt (pw_or (pt_cmpR (op_ownN N_History G_History___eq__ C_History___eq__.b (hr.mono (by first | decide | omega))) (pv 7) (pv 8) (nomark _)) (pw_or (pt_cmpR (op_own O_History G_History___eq__ C_History___eq__.b (hr.mono (by first | decide | omega))) (pv 7) (pv 5) (nomark _)) (pw_or (pt_cmpR (op_own O_History G_History___eq__ C_History___eq__.b (hr.mono (by first | decide | omega))) (pv 7) (pe_tup (pa_cons (pe_make M_Tree G_Tree___init__ (hr.mono (by first | decide | omega)) (by rfl) B.k_Tree C_Tree___init__.b .nil passE (pa_cons (pv 4) pa_nil)) (pa_cons (pv 5) pa_nil))) (nomark _)) (pw_or1 (pt_cmpR op_ne (pe_cmpR (op_own O_History G_History___eq__ C_History___eq__.b (hr.mono (by first | decide | omega))) (pv 7) (pe_make M_History G_History___init__ (hr.mono (by first | decide | omega)) (by rfl) B.k_History C_History___init__.b .nil passE (pa_cons (pe_make M_Tree G_Tree___init__ (hr.mono (by first | decide | omega)) (by rfl) B.k_Tree C_Tree___init__.b .nil passE (pa_cons (pv 4) pa_nil)) (pa_cons (pe_tup pa_nil) pa_nil))) (nomark _)) (pe_cmpR (op_eqDK (K := K) rfl hr.units) (pv 5) (pe_tup pa_nil) (nomark _)) (nomark _))))))) (pss_one (ps_ret pe_bl)) pss_nil)
 (pss_cons (ps_set (i := 9) sc_law.nd rfl (Or.inl rfl) (pe_call G__law_bent (hr.mono (by first | decide | omega)) (by rfl) C__law_bent.g C__law_bent.k C__law_bent.b .nil pass0 (pa_cons (pv 1) (pa_cons (pv 3) (pa_cons (pv 5) (pa_cons (pe_make M_Tree G_Tree___init__ (hr.mono (by first | decide | omega)) (by rfl) B.k_Tree C_Tree___init__.b .nil passE (pa_cons (pv 4) pa_nil)) pa_nil))))))
 (pss_cons (ps_par (i := 10) (j := 11) (by rfl) sc_law.nd rfl rfl (by decide) rfl rfl (pa_cons (pe_call G__law_due (hr.mono (by first | decide | omega)) (by rfl) C__law_due.g C__law_due.k C__law_due.b .nil pass0 (pa_cons (pv 4) (pa_cons (pv 9) pa_nil))) (pa_cons (pe_call G__law_answer (hr.mono (by first | decide | omega)) (by rfl) C__law_answer.g C__law_answer.k C__law_answer.b .nil pass0 (pa_cons (pe_make M_Tree G_Tree___init__ (hr.mono (by first | decide | omega)) (by rfl) B.k_Tree C_Tree___init__.b .nil passE (pa_cons (pv 4) pa_nil)) (pa_cons (pv 9) pa_nil))) pa_nil)) (by rfl))
 (pss_cons (ps_if (PW.pt (pw_or (pt_cmpR op_ne (pe_callB (call_isiK' (K := K) rfl) (by rfl) B.b_isinstance (by decide +kernel) (pa_cons (pv 10) (pa_cons (pe_bltn (v := .ty "str") (by rfl) B.b_str (by decide +kernel) rfl) pa_nil))) (pe_callB (call_isiK' (K := K) rfl) (by rfl) B.b_isinstance (by decide +kernel) (pa_cons (pv 11) (pa_cons (pe_bltn (v := .ty "str") (by rfl) B.b_str (by decide +kernel) rfl) pa_nil))) (nomark _)) (pw_or (pt_val (pe_callB (call_isiK' (K := K) rfl) (by rfl) B.b_isinstance (by decide +kernel) (pa_cons (pv 11) (pa_cons (pe_bltn (v := .ty "bool") (by rfl) B.b_bool (by decide +kernel) rfl) pa_nil)))) (pw_or1 (pt_cmpR op_ne (pv 11) (pv 10) (nomark _)))))) (pss_one (ps_ret pe_bl)) pss_nil)
 (pss_one (ps_if (pt_cmpR op_ne (pe_call G__law_answer (hr.mono (by first | decide | omega)) (by rfl) C__law_answer.g C__law_answer.k C__law_answer.b .nil pass0 (pa_cons (pe_ix (ix_listK (K := K) rfl) (pe_lst (pa_cons (pv 4) (pa_cons pe_non (pa_cons (pe_callTy (call_lstK (K := K) rfl) (by rfl) B.b_list (by decide +kernel) (pa_cons (pv 4) pa_nil)) (pa_cons (pe_call G__law_odd (hr.mono (by first | decide | omega)) (by rfl) C__law_odd.g C__law_odd.k C__law_odd.b .nil pass0 (pa_cons (pv 1) (pa_cons (pv 4) pa_nil))) pa_nil))))) (pe_call G__law_draw (hr.mono (by first | decide | omega)) (by rfl) C__law_draw.g C__law_draw.k C__law_draw.b .nil pass0 (pa_cons (pv 1) (pa_cons pe_int pa_nil))) (fun _ _ => rfl)) (pa_cons (pv 9) pa_nil))) pe_str (nomark _)) (pss_one (ps_ret pe_bl)) pss_nil))))))))))))
 (pss_one (ps_ret pe_bl)))), ?_⟩
    walk_at "h0"
    refine ⟨a, ns, rfl, hS, hl, fun p H1 s1 np p1 => ?_⟩
    walk_at "hs"
    refine ⟨5, rfl, by decide, by decide, ?_⟩
    refine lp_range (lo := 0) (n := Int.toNat 5) (fun i σ' H' => (∃ x2 x3 x4 x5 x6 x7 x8 x9 x10 x11, σ' = [some (.ref a), some (.ref p), x2, x3, x4, x5, x6, x7, x8, x9, x10, x11]) ∧ PoolAt H' p (fun _ => False))
      ⟨⟨_, _, _, _, _, _, _, _, _, _, rfl⟩, p1⟩ ?_ ?_
    · clear p1 np s1 hS hl
      rintro i σ' H2 hi ⟨⟨x2, x3, x4, x5, x6, x7, x8, x9, x10, x11, rfl⟩, p2⟩
      walk_at "hs"
      refine ⟨p, 8, _, rfl, p2, by decide, by decide, fun d H3 d0 d1 b3 p3 => ?_⟩
      obtain ⟨n, hn⟩ : ∃ n : Nat, 1 + d = (n : Int) := ⟨(1 + d).toNat, by omega⟩
      walk_at "hs"
      rw [hn]
      refine ⟨p, n, _, rfl, p3, by omega, by omega, fun D hs H4 it hln b4 p4 eD => ?_⟩
      walk_at "hs"
      refine ⟨p, 11, _, rfl, p4, by decide, by decide, fun k H5 k0 k1 b5 p5 => ?_⟩
      have eD5 := b5 _ _ (fun z => by obtain ⟨xs, e⟩ := p4.lst; rw [z, e] at eD; cases eD) eD
      walk_at "hs"
      refine ⟨p, D, hs, k, _, rfl, p5, eD5, it, by omega, by omega, fun m u g us ms H6 lm ok b6 p6 em eu pu eg => ?_⟩
      have eD6 := b6 _ _ (fun z => p5.notTup _ (z ▸ eD5)) eD5
      have sm : SqT K H6 m [.ref u, .ref g] := .of em
      have l100 : ms.length ≤ 100 := by omega
      clear b3 p3 b4 p4 eD b5 p5 eD5 b6 p2 em
      walk_at "hs"
      refine x_make ?_
      walk_at "hs"
      refine x_make ?_
      walk_at "hs"
      intro t1 dm hm hdm hne
      refine spTree_of it eD6 hm hdm hne fun H7 s7 tr1 => ?_
      walk_at "hs"
      refine make_hist tr1 it (s7 _ _ eu) (pu.same s7) ok l100 fun h1 H8 nh1 s8 hi1 => ?_
      walk_at "hs"
      refine x_make ?_
      walk_at "hs"
      refine x_make ?_
      walk_at "hs"
      have s68 := s7.trans s8
      intro t2 dm2 hm2 hdm2 hne2
      refine spTree_of it (s68 _ _ eD6) hm2 hdm2 hne2 fun H9 s9 tr2 => ?_
      have s69 := s68.trans s9
      walk_at "hs"
      refine make_hist tr2 it (s69 _ _ eu) (pu.same s69) ok l100 fun h2 H10 nh2 s10 hi2 => ?_
      have s610 := s69.trans s10
      have e_D := s610 _ _ eD6
      have e_u := s610 _ _ eu
      have p_u := pu.same s610
      have e_g := s610 _ _ eg
      have p10 := p6.same s610
      have hi1 := hi1.same (s9.trans s10)
      clear s7 s8 s9 s10 s68 s69 s610 eD6 eu pu eg p6 sm tr1 tr2 hm hdm hne hm2 hdm2 hne2 nh1 nh2
      have itf := ok.tree it
      obtain ⟨dh, q1, q2, q3, z1, ⟨dt, q4, z2, z2'⟩, z3, z4⟩ := id hi1
      have sD : SqT K H10 D (nats hs) := .of e_D
      walk_at "hs"
      refine ⟨h1, _, dh, _, _, rfl, z1, HC.c, HC.nt, rfl, ?_⟩
      walk_at "hs"
      refine ⟨q1, _, dt, _, _, rfl, z2, Tt, Nt, rfl, ?_⟩
      walk_at "hs"
      refine x_neTup (.of z2') sD ?_
      rw [decide_eq_true rfl]
      walk_at "hs"
      refine ⟨h1, _, dh, _, _, rfl, z1, HC.c, HC.nm, rfl, ?_⟩
      walk_at "hs"
      refine x_nePrs z3 e_u z4 p_u ?_
      rw [decide_eq_true rfl]
      walk_at "hs"
      refine ⟨h1, hs, ms, rfl, hi1, it, ok, fun nw H11 nnw s11 trn => ?_⟩
      obtain ⟨dn, nt, y1, y2⟩ := id trn
      walk_at "hs"
      refine ⟨nw, _, dn, _, _, rfl, y1, Tt, Nt, rfl, ?_⟩
      walk_at "hs"
      refine x_neTup (.of y2) (.of (s11 _ _ e_g)) ?_
      rw [decide_eq_true rfl]
      walk_at "hs"
      refine eq_hists (hi1.same s11) (hi2.same s11) ?_
      rw [decide_eq_true ⟨rfl, rfl⟩]
      walk_at "hs"
      refine ne_hists (hi1.same s11) (hi2.same s11) ?_
      rw [decide_eq_true ⟨rfl, rfl⟩]
      walk_at "hs"
      refine eq_histTup (hi1.same s11) (s11 _ _ e_u) ?_
      walk_at "hs"
      refine x_make ?_
      walk_at "hs"
      intro t1 dm hm hdm hne
      refine spTree_of it (s11 _ _ e_D) hm hdm hne fun H12 s12 tr1 => ?_
      walk_at "hs"
      intro C1 nC1
      have s13 : Same H12 (upd H12 C1 (.tup [.ref t1, .ref u])) := same_new (Same.refl _) nC1
      have eC1 : upd H12 C1 (.tup [.ref t1, .ref u]) C1 = some (.tup [.ref t1, .ref u]) := upd_same
      generalize upd H12 C1 (.tup [.ref t1, .ref u]) = H13 at s13 eC1 ⊢
      have s1013 := (s11.trans s12).trans s13
      refine eq_histTup (hi1.same s1013) eC1 ?_
      walk_at "hs"
      refine x_make ?_
      walk_at "hs"
      refine x_make ?_
      walk_at "hs"
      intro t2 dm2 hm2 hdm2 hne2
      refine spTree_of it (s1013 _ _ e_D) hm2 hdm2 hne2 fun H14 s14 tr2 => ?_
      walk_at "hs"
      intro C2 nC2
      have s15 : Same H14 (upd H14 C2 (.tup [])) := same_new (Same.refl _) nC2
      have eC2 : upd H14 C2 (.tup []) C2 = some (.tup []) := upd_same
      generalize upd H14 C2 (.tup []) = H15 at s15 eC2 ⊢
      refine make_hist (vs := []) (ms := []) (tr2.same s15) it eC2 trivial (OkAll.nil hs) (by decide) fun h3 H16 nh3 s16 hi3 => ?_
      have s1016 := (s1013.trans s14).trans (s15.trans s16)
      refine eq_hists (hi1.same s1016) hi3 ?_
      walk_at "hs"
      intro C3 nC3
      have s17 : Same H16 (upd H16 C3 (.tup [])) := same_new (Same.refl _) nC3
      have eC3 : upd H16 C3 (.tup []) C3 = some (.tup []) := upd_same
      generalize upd H16 C3 (.tup []) = H17 at s17 eC3 ⊢
      have s1017 := s1016.trans s17
      refine x_eqPrs (ns := []) (s1017 _ _ e_u) eC3 (p_u.same s1017) trivial ?_
      rw [show decide (hs = hs ∧ ms = []) = decide (ms = []) by rw [decide_eq_decide]; exact ⟨fun h => h.2, fun h => ⟨rfl, h⟩⟩]
      walk_at "hs"
      refine x_isdF (fun z => z rfl) ?_
      have d_D := s1017 _ _ e_D
      have d_u := s1017 _ _ e_u
      have d_p := p_u.same s1017
      have p17 := p10.same s1017
      clear s11 s12 s13 s14 s15 s16 s17 s1013 s1016 s1017 e_D e_u p_u e_g p10 hi1 hi2 hi3 z1 z2 z2' z3 z4 sD y1 y2 trn tr1 tr2 eC1 eC2 eC3 hm hdm hne hm2 hdm2 hne2 nC1 nC2 nC3 nh3 nnw
      walk_at "hs"
      refine x_make ?_
      walk_at "hs"
      intro t3 dm hm hdm hne
      refine spTree_of it d_D hm hdm hne fun H18 s18 tr3 => ?_
      obtain ⟨dt3, q5, z1, z2⟩ := id tr3
      walk_at "hs"
      refine ⟨p, u, t3, n, us, ms, _, rfl, p17.same s18, by omega, by omega, s18 _ _ d_u, d_p.same s18, by omega, ⟨_, _, z1⟩, fun th H19 kt b19 p19 => ?_⟩
      have n18 := (p17.same s18).notTup
      have d_D19 := b19 _ _ (fun z => n18 _ (z ▸ s18 _ _ d_D)) (s18 _ _ d_D)
      clear d_u d_p p17 s18 tr3 z1 z2 b19 n18 d_D hm hdm hne
      walk_at "hs"
      refine ⟨D, th, hs, rfl, d_D19, it, kt 2, fun H20 s20 => ?_⟩
      walk_at "hs"
      refine x_make ?_
      walk_at "hs"
      intro t4 dm hm hdm hne
      refine spTree_of it (s20 _ _ d_D19) hm hdm hne fun H21 s21 tr4 => ?_
      have s1921 := s20.trans s21
      walk_at "hs"
      refine ⟨.ref t4, th, rfl, (kt.same s1921) 2, .inl ⟨t4, hs, rfl, tr4, it, fun H22 s22 => ?_⟩⟩
      rw [dueH_same (hs := hs) s1921 (kt 1)]
      have s1922 := s1921.trans s22
      have d22 := s1922 _ _ d_D19
      have kt22 := kt.same s1922
      have p22 := p19.same s1922
      have sD22 : SqT K H22 D (nats hs) := .of d22
      clear s20 s21 s22 s1921 s1922 tr4 hm hdm hne d_D19 kt p19
      generalize dueH H19 hs th = du
      have last : ∀ (G : Hp), G = H22 → True := fun _ _ => trivial
      clear last
      cases du with
      | moves =>
        dsimp only [valH]
        walk_at "hs"
        rw [decide_eq_true rfl]
        walk_at "hs"
        intro a1 m1
        have s1 : Same H22 (upd H22 a1 (.lst (nats hs))) := same_new (Same.refl _) m1
        have e1 : upd H22 a1 (.lst (nats hs)) a1 = some (.lst (nats hs)) := upd_same
        generalize upd H22 a1 (.lst (nats hs)) = G1 at s1 e1 ⊢
        walk_at "hs"
        have d1 := s1 _ _ d22
        refine ⟨p, .ref D, _, rfl, p22.same s1, kd_nats d1, fun v G2 kv kn b2 p2 => ?_⟩
        have lsb2 := LsB.of_but b2 (p22.same s1) p2
        have d2 := b2 _ _ (fun z => (p22.same s1).notTup _ (z ▸ d1)) d1
        obtain ⟨ys, e2⟩ : ∃ ys, G2 a1 = some (.lst ys) := by
          rcases lsb2 _ _ e1 with e | ⟨_, ys, _, e⟩
          · exact ⟨_, e⟩
          · exact ⟨ys, e⟩
        walk_at "hs"
        intro L nL
        have s3 : Same G2 (upd G2 L (.lst [.ref D, .non, .ref a1, v])) := same_new (Same.refl _) nL
        have eL : upd G2 L (.lst [.ref D, .non, .ref a1, v]) L = some (.lst [.ref D, .non, .ref a1, v]) := upd_same
        generalize upd G2 L (.lst [.ref D, .non, .ref a1, v]) = G3 at s3 eL ⊢
        have nLp : L ≠ p := p2.ne nL
        have kl : ∀ y ∈ [V.ref D, .non, .ref a1, v], Kn G3 y := fun y hy => by
          simp only [List.mem_cons, List.not_mem_nil, or_false] at hy
          rcases hy with rfl | rfl | rfl | rfl
          · exact .inr (.inl ⟨_, s3 _ _ d2⟩)
          · exact trivial
          · exact .inl ⟨_, s3 _ _ e2⟩
          · exact (kn (.inr (.inl ⟨_, d1⟩))).same s3
        have p3 := p2.same s3
        walk_at "hs"
        refine ⟨p, 4, _, rfl, p3, by decide, by decide, fun d4 G4 c0 c1 b4 p4 => ?_⟩
        have sL := SqL.of (K := K) (b4 _ _ nLp eL)
        obtain ⟨y, hv, hm⟩ := at_lt (xs := [V.ref D, .non, .ref a1, v]) c0 c1
        walk_at "hs"
        refine ⟨y, th, rfl, ((((kt22.same s1).lsb lsb2).same s3).lsb (LsB.of_but b4 p3 p4)) 2, .inr ⟨(kl y hm).pool p4 b4, fun G5 s5 => ?_⟩⟩
        walk_at "hs"
        exact ⟨⟨_, _, _, _, _, _, _, _, _, _, rfl⟩, p4.same s5⟩
      | «at» k =>
        dsimp only [valH]
        walk_at "hs"
        refine x_isdF (fun z => z rfl) ?_
        walk_at "hs"
        intro a1 m1
        have s1 : Same H22 (upd H22 a1 (.lst (nats hs))) := same_new (Same.refl _) m1
        have e1 : upd H22 a1 (.lst (nats hs)) a1 = some (.lst (nats hs)) := upd_same
        generalize upd H22 a1 (.lst (nats hs)) = G1 at s1 e1 ⊢
        walk_at "hs"
        have d1 := s1 _ _ d22
        refine ⟨p, .ref D, _, rfl, p22.same s1, kd_nats d1, fun v G2 kv kn b2 p2 => ?_⟩
        have lsb2 := LsB.of_but b2 (p22.same s1) p2
        have d2 := b2 _ _ (fun z => (p22.same s1).notTup _ (z ▸ d1)) d1
        obtain ⟨ys, e2⟩ : ∃ ys, G2 a1 = some (.lst ys) := by
          rcases lsb2 _ _ e1 with e | ⟨_, ys, _, e⟩
          · exact ⟨_, e⟩
          · exact ⟨ys, e⟩
        walk_at "hs"
        intro L nL
        have s3 : Same G2 (upd G2 L (.lst [.ref D, .non, .ref a1, v])) := same_new (Same.refl _) nL
        have eL : upd G2 L (.lst [.ref D, .non, .ref a1, v]) L = some (.lst [.ref D, .non, .ref a1, v]) := upd_same
        generalize upd G2 L (.lst [.ref D, .non, .ref a1, v]) = G3 at s3 eL ⊢
        have nLp : L ≠ p := p2.ne nL
        have kl : ∀ y ∈ [V.ref D, .non, .ref a1, v], Kn G3 y := fun y hy => by
          simp only [List.mem_cons, List.not_mem_nil, or_false] at hy
          rcases hy with rfl | rfl | rfl | rfl
          · exact .inr (.inl ⟨_, s3 _ _ d2⟩)
          · exact trivial
          · exact .inl ⟨_, s3 _ _ e2⟩
          · exact (kn (.inr (.inl ⟨_, d1⟩))).same s3
        have p3 := p2.same s3
        walk_at "hs"
        refine ⟨p, 4, _, rfl, p3, by decide, by decide, fun d4 G4 c0 c1 b4 p4 => ?_⟩
        have sL := SqL.of (K := K) (b4 _ _ nLp eL)
        obtain ⟨y, hv, hm⟩ := at_lt (xs := [V.ref D, .non, .ref a1, v]) c0 c1
        walk_at "hs"
        refine ⟨y, th, rfl, ((((kt22.same s1).lsb lsb2).same s3).lsb (LsB.of_but b4 p3 p4)) 2, .inr ⟨(kl y hm).pool p4 b4, fun G5 s5 => ?_⟩⟩
        walk_at "hs"
        exact ⟨⟨_, _, _, _, _, _, _, _, _, _, rfl⟩, p4.same s5⟩
      | ok =>
        dsimp only [valH]
        walk_at "hs"
        rw [decide_eq_true rfl]
        walk_at "hs"
        intro a1 m1
        have s1 : Same H22 (upd H22 a1 (.lst (nats hs))) := same_new (Same.refl _) m1
        have e1 : upd H22 a1 (.lst (nats hs)) a1 = some (.lst (nats hs)) := upd_same
        generalize upd H22 a1 (.lst (nats hs)) = G1 at s1 e1 ⊢
        walk_at "hs"
        have d1 := s1 _ _ d22
        refine ⟨p, .ref D, _, rfl, p22.same s1, kd_nats d1, fun v G2 kv kn b2 p2 => ?_⟩
        have lsb2 := LsB.of_but b2 (p22.same s1) p2
        have d2 := b2 _ _ (fun z => (p22.same s1).notTup _ (z ▸ d1)) d1
        obtain ⟨ys, e2⟩ : ∃ ys, G2 a1 = some (.lst ys) := by
          rcases lsb2 _ _ e1 with e | ⟨_, ys, _, e⟩
          · exact ⟨_, e⟩
          · exact ⟨ys, e⟩
        walk_at "hs"
        intro L nL
        have s3 : Same G2 (upd G2 L (.lst [.ref D, .non, .ref a1, v])) := same_new (Same.refl _) nL
        have eL : upd G2 L (.lst [.ref D, .non, .ref a1, v]) L = some (.lst [.ref D, .non, .ref a1, v]) := upd_same
        generalize upd G2 L (.lst [.ref D, .non, .ref a1, v]) = G3 at s3 eL ⊢
        have nLp : L ≠ p := p2.ne nL
        have kl : ∀ y ∈ [V.ref D, .non, .ref a1, v], Kn G3 y := fun y hy => by
          simp only [List.mem_cons, List.not_mem_nil, or_false] at hy
          rcases hy with rfl | rfl | rfl | rfl
          · exact .inr (.inl ⟨_, s3 _ _ d2⟩)
          · exact trivial
          · exact .inl ⟨_, s3 _ _ e2⟩
          · exact (kn (.inr (.inl ⟨_, d1⟩))).same s3
        have p3 := p2.same s3
        walk_at "hs"
        refine ⟨p, 4, _, rfl, p3, by decide, by decide, fun d4 G4 c0 c1 b4 p4 => ?_⟩
        have sL := SqL.of (K := K) (b4 _ _ nLp eL)
        obtain ⟨y, hv, hm⟩ := at_lt (xs := [V.ref D, .non, .ref a1, v]) c0 c1
        walk_at "hs"
        refine ⟨y, th, rfl, ((((kt22.same s1).lsb lsb2).same s3).lsb (LsB.of_but b4 p3 p4)) 2, .inr ⟨(kl y hm).pool p4 b4, fun G5 s5 => ?_⟩⟩
        walk_at "hs"
        exact ⟨⟨_, _, _, _, _, _, _, _, _, _, rfl⟩, p4.same s5⟩
    · rintro σ' H' ⟨⟨x2, x3, x4, x5, x6, x7, x8, x9, x10, x11, rfl⟩, p2⟩
      walk_at "hs"
      exact q _
end
set_option maxRecDepth 100000
set_option maxHeartbeats 4000000
open PySem PySem.Spec L2 PyProof.Rows
theorem kit_ref {K : PySem.W.Frag} {t : Value} {C : Addr} {b : Bool} (hn : (t == Value.ref C) = false) (h : PySem.W.isClsIn K C = true) (ht : PySem.W.typeIn K (.ref C) = some (.type "type")) (hs : PySem.W.subIn K t (.ref C) = some b) : PySem.W.kitOne K t (.ref C) = some b := by
  have e2 : ((PySem.W.clsIn K C).isSome && PySem.W.typeIn K (.ref C) == some (.type "type")) = true := by
    have h2' : (PySem.W.clsIn K C).isSome = true := h
    rw [h2', ht] <;> rfl
  unfold PySem.W.kitOne
  rw [hn, if_neg Bool.false_ne_true]
  show (if ((PySem.W.clsIn K C).isSome && PySem.W.typeIn K (.ref C) == some (.type "type")) = true then PySem.W.subIn K t (.ref C) else none) = some b
  rw [if_pos e2]
  exact hs
theorem kit_typ {K : PySem.W.Frag} {C : Addr} {T : String} {b : Bool} (hm : PySem.W.kitMeta T = true) (h : PySem.W.subIn K (.ref C) (.type T) = some b) : PySem.W.kitOne K (.ref C) (.type T) = some b := by
  unfold PySem.W.kitOne
  rw [if_neg (by simp)]
  show (if PySem.W.kitMeta T = true then PySem.W.subIn K (.ref C) (.type T) else none) = some b
  rw [if_pos hm]
  exact h
theorem sub_tuple (K : PySem.W.Frag) (C : Addr) : PySem.W.subIn K (.type "tuple") (.ref C) = some false := by
  have e2 : PySem.fastBuiltinMro "tuple" = some [.type "tuple", .type "object"] := by decide +kernel
  show (PySem.fastBuiltinMro "tuple").map (·.contains (Value.ref C)) = some false
  rw [e2]
  rfl
theorem sub_int (K : PySem.W.Frag) (C : Addr) : PySem.W.subIn K (.type "int") (.ref C) = some false := by
  have e2 : PySem.fastBuiltinMro "int" = some [.type "int", .type "object"] := by decide +kernel
  show (PySem.fastBuiltinMro "int").map (·.contains (Value.ref C)) = some false
  rw [e2]
  rfl
theorem sub_bt (K : PySem.W.Frag) (C : Addr) {T : String} {l : List Value} (e2 : PySem.fastBuiltinMro T = some l) (h : l.contains (Value.ref C) = false) : PySem.W.subIn K (.type T) (.ref C) = some false := by
  show (PySem.fastBuiltinMro T).map (·.contains (Value.ref C)) = some false
  rw [e2, Option.map_some, h]
theorem exm3 {K : PySem.W.Frag} {c a b d : Value} {x y z : Bool} (h : PySem.W.exmOne K c a = some x) (h2 : PySem.W.exmOne K c b = some y) (h3 : PySem.W.exmOne K c d = some z) (e : (x || (y || (z || false))) = true) : PySem.W.exmAny K c [a, b, d] = some true := by
  simp only [PySem.W.exmAny, h, h2, h3, e]
theorem all_mk {P : Program} {w : World} {K : PySem.W.Frag} {h : Heap} {mg : Str → Option Value} {fa : Addr} (X : K.In h) (G : h.Ns mainGlobals mg) (hfa : mg "law" = some (.ref fa))
    {c_VoteError : Addr}
    {c_BadTree : Addr}
    {c_NoBlock : Addr}
    {c_NoPlace : Addr}
    {c_Beneath : Addr}
    {c_BadHistory : Addr}
    {c_Tree : Addr}
    {c_History : Addr}
    {t_MOST_BLOCKS : PySem.Tok}
    {t_MOST_MOVES : PySem.Tok}
    {f_BadTree___init__ : Addr} {od_BadTree___init__ an_BadTree___init__ : Option Addr} {sl_BadTree___init__ : Array (Option Value)} {oc_BadTree___init__ kV_BadTree___init__ dc_BadTree___init__ pm_BadTree___init__ cd_BadTree___init__ ct_BadTree___init__ : Value}
    {f_BadHistory___init__ : Addr} {od_BadHistory___init__ an_BadHistory___init__ : Option Addr} {sl_BadHistory___init__ : Array (Option Value)} {oc_BadHistory___init__ kV_BadHistory___init__ dc_BadHistory___init__ pm_BadHistory___init__ cd_BadHistory___init__ ct_BadHistory___init__ : Value}
    {f_is_within : Addr} {od_is_within an_is_within : Option Addr} {sl_is_within : Array (Option Value)} {oc_is_within kV_is_within dc_is_within pm_is_within cd_is_within ct_is_within : Value}
    {f_is_pair : Addr} {od_is_pair an_is_pair : Option Addr} {sl_is_pair : Array (Option Value)} {oc_is_pair kV_is_pair dc_is_pair pm_is_pair cd_is_pair ct_is_pair : Value}
    {f_Tree___init__ : Addr} {od_Tree___init__ an_Tree___init__ : Option Addr} {sl_Tree___init__ : Array (Option Value)} {oc_Tree___init__ kV_Tree___init__ dc_Tree___init__ pm_Tree___init__ cd_Tree___init__ ct_Tree___init__ : Value}
    {f_Tree___eq__ : Addr} {od_Tree___eq__ an_Tree___eq__ : Option Addr} {sl_Tree___eq__ : Array (Option Value)} {oc_Tree___eq__ kV_Tree___eq__ dc_Tree___eq__ pm_Tree___eq__ cd_Tree___eq__ ct_Tree___eq__ : Value}
    {f__comes_to_head : Addr} {od__comes_to_head an__comes_to_head : Option Addr} {sl__comes_to_head : Array (Option Value)} {oc__comes_to_head kV__comes_to_head dc__comes_to_head pm__comes_to_head cd__comes_to_head ct__comes_to_head : Value}
    {f_is_block : Addr} {od_is_block an_is_block : Option Addr} {sl_is_block : Array (Option Value)} {oc_is_block kV_is_block dc_is_block pm_is_block cd_is_block ct_is_block : Value}
    {f_is_place : Addr} {od_is_place an_is_place : Option Addr} {sl_is_place : Array (Option Value)} {oc_is_place kV_is_place dc_is_place pm_is_place cd_is_place ct_is_place : Value}
    {f_place_of : Addr} {od_place_of an_place_of : Option Addr} {sl_place_of : Array (Option Value)} {oc_place_of kV_place_of dc_place_of pm_place_of cd_place_of ct_place_of : Value}
    {f_parents : Addr} {od_parents an_parents : Option Addr} {sl_parents : Array (Option Value)} {oc_parents kV_parents dc_parents pm_parents cd_parents ct_parents : Value}
    {f_beneath : Addr} {od_beneath an_beneath : Option Addr} {sl_beneath : Array (Option Value)} {oc_beneath kV_beneath dc_beneath pm_beneath cd_beneath ct_beneath : Value}
    {f_moved : Addr} {od_moved an_moved : Option Addr} {sl_moved : Array (Option Value)} {oc_moved kV_moved dc_moved pm_moved cd_moved ct_moved : Value}
    {f_History___init__ : Addr} {od_History___init__ an_History___init__ : Option Addr} {sl_History___init__ : Array (Option Value)} {oc_History___init__ kV_History___init__ dc_History___init__ pm_History___init__ cd_History___init__ ct_History___init__ : Value}
    {f_History___eq__ : Addr} {od_History___eq__ an_History___eq__ : Option Addr} {sl_History___eq__ : Array (Option Value)} {oc_History___eq__ kV_History___eq__ dc_History___eq__ pm_History___eq__ cd_History___eq__ ct_History___eq__ : Value}
    {f_now : Addr} {od_now an_now : Option Addr} {sl_now : Array (Option Value)} {oc_now kV_now dc_now pm_now cd_now ct_now : Value}
    {f__law_hand : Addr} {od__law_hand an__law_hand : Option Addr} {sl__law_hand : Array (Option Value)} {oc__law_hand kV__law_hand dc__law_hand pm__law_hand cd__law_hand ct__law_hand : Value}
    {f__law_draw : Addr} {od__law_draw an__law_draw : Option Addr} {sl__law_draw : Array (Option Value)} {oc__law_draw kV__law_draw dc__law_draw pm__law_draw cd__law_draw ct__law_draw : Value}
    {f__law_tree : Addr} {od__law_tree an__law_tree : Option Addr} {sl__law_tree : Array (Option Value)} {oc__law_tree kV__law_tree dc__law_tree pm__law_tree cd__law_tree ct__law_tree : Value}
    {f__law_row : Addr} {od__law_row an__law_row : Option Addr} {sl__law_row : Array (Option Value)} {oc__law_row kV__law_row dc__law_row pm__law_row cd__law_row ct__law_row : Value}
    {f__law_beneath : Addr} {od__law_beneath an__law_beneath : Option Addr} {sl__law_beneath : Array (Option Value)} {oc__law_beneath kV__law_beneath dc__law_beneath pm__law_beneath cd__law_beneath ct__law_beneath : Value}
    {f__law_put : Addr} {od__law_put an__law_put : Option Addr} {sl__law_put : Array (Option Value)} {oc__law_put kV__law_put dc__law_put pm__law_put cd__law_put ct__law_put : Value}
    {f__law_moves : Addr} {od__law_moves an__law_moves : Option Addr} {sl__law_moves : Array (Option Value)} {oc__law_moves kV__law_moves dc__law_moves pm__law_moves cd__law_moves ct__law_moves : Value}
    {f__law_deep : Addr} {od__law_deep an__law_deep : Option Addr} {sl__law_deep : Array (Option Value)} {oc__law_deep kV__law_deep dc__law_deep pm__law_deep cd__law_deep ct__law_deep : Value}
    {f__law_odd : Addr} {od__law_odd an__law_odd : Option Addr} {sl__law_odd : Array (Option Value)} {oc__law_odd kV__law_odd dc__law_odd pm__law_odd cd__law_odd ct__law_odd : Value}
    {f__law_is_whole : Addr} {od__law_is_whole an__law_is_whole : Option Addr} {sl__law_is_whole : Array (Option Value)} {oc__law_is_whole kV__law_is_whole dc__law_is_whole pm__law_is_whole cd__law_is_whole ct__law_is_whole : Value}
    {f__law_due : Addr} {od__law_due an__law_due : Option Addr} {sl__law_due : Array (Option Value)} {oc__law_due kV__law_due dc__law_due pm__law_due cd__law_due ct__law_due : Value}
    {f__law_answer : Addr} {od__law_answer an__law_answer : Option Addr} {sl__law_answer : Array (Option Value)} {oc__law_answer kV__law_answer dc__law_answer pm__law_answer cd__law_answer ct__law_answer : Value}
    {f__law_bent : Addr} {od__law_bent an__law_bent : Option Addr} {sl__law_bent : Array (Option Value)} {oc__law_bent kV__law_bent dc__law_bent pm__law_bent cd__law_bent ct__law_bent : Value}
    {f_law : Addr} {od_law an_law : Option Addr} {sl_law : Array (Option Value)} {oc_law kV_law dc_law pm_law cd_law ct_law : Value}
    {nmNHistory qNHistory : Str} {NNHistory : Addr} {bsNHistory : List Value} {hdNHistory : Bool} {snNHistory : List Str} {subNHistory : List Value} {abNHistory : Bool} {colNHistory : Option Bool} {ddNHistory : Option Addr} {w0History w1History w2History w3History w5History : Option Value} {newNHistory : String}
    {nmBadTree qBadTree : Str} {NBadTree : Addr} {bsBadTree bmBadTree : List Value} {snBadTree : List Str} {subBadTree : List Value} {abBadTree : Bool} {colBadTree : Option Bool} {ddBadTree : Option Addr} {m0BadTree m1BadTree m2BadTree m3BadTree m5BadTree : Option Value}
    {nmBadHistory qBadHistory : Str} {NBadHistory : Addr} {bsBadHistory bmBadHistory : List Value} {snBadHistory : List Str} {subBadHistory : List Value} {abBadHistory : Bool} {colBadHistory : Option Bool} {ddBadHistory : Option Addr} {m0BadHistory m1BadHistory m2BadHistory m3BadHistory m5BadHistory : Option Value}
    {nmUNoBlock qUNoBlock : Str} {NUNoBlock : Addr} {bsUNoBlock bmUNoBlock : List Value} {snUNoBlock : List Str} {subUNoBlock : List Value} {abUNoBlock : Bool} {colUNoBlock : Option Bool} {ddUNoBlock : Option Addr} {u0NoBlock u1NoBlock u2NoBlock u3NoBlock u5NoBlock : Option Value} {f_UNoBlock : Addr} {ocUNoBlock : Value} {odUNoBlock anUNoBlock : Option Addr} {kVUNoBlock docUNoBlock pmUNoBlock ctUNoBlock : Value} {cdUNoBlock ccUNoBlock : Addr} {slUNoBlock : Array (Option Value)} {qqUNoBlock : Str} {eNoBlock p0NoBlock p1NoBlock p2NoBlock p3NoBlock p4NoBlock : Pos} {clUNoBlock : Value} {cldUNoBlock : Option Addr} {cslUNoBlock : Array (Option Value)} {cclUNoBlock : Value} {cddUNoBlock : Option Addr} {vsUNoBlock : Array Value} {ccsUNoBlock : Array (Option Value)} {fileUNoBlock : Str} {tfUNoBlock : Tok}
    {nmUNoPlace qUNoPlace : Str} {NUNoPlace : Addr} {bsUNoPlace bmUNoPlace : List Value} {snUNoPlace : List Str} {subUNoPlace : List Value} {abUNoPlace : Bool} {colUNoPlace : Option Bool} {ddUNoPlace : Option Addr} {u0NoPlace u1NoPlace u2NoPlace u3NoPlace u5NoPlace : Option Value} {f_UNoPlace : Addr} {ocUNoPlace : Value} {odUNoPlace anUNoPlace : Option Addr} {kVUNoPlace docUNoPlace pmUNoPlace ctUNoPlace : Value} {cdUNoPlace ccUNoPlace : Addr} {slUNoPlace : Array (Option Value)} {qqUNoPlace : Str} {eNoPlace p0NoPlace p1NoPlace p2NoPlace p3NoPlace p4NoPlace : Pos} {clUNoPlace : Value} {cldUNoPlace : Option Addr} {cslUNoPlace : Array (Option Value)} {cclUNoPlace : Value} {cddUNoPlace : Option Addr} {vsUNoPlace : Array Value} {ccsUNoPlace : Array (Option Value)} {fileUNoPlace : Str} {tfUNoPlace : Tok}
    {nmUBeneath qUBeneath : Str} {NUBeneath : Addr} {bsUBeneath bmUBeneath : List Value} {snUBeneath : List Str} {subUBeneath : List Value} {abUBeneath : Bool} {colUBeneath : Option Bool} {ddUBeneath : Option Addr} {u0Beneath u1Beneath u2Beneath u3Beneath u5Beneath : Option Value} {f_UBeneath : Addr} {ocUBeneath : Value} {odUBeneath anUBeneath : Option Addr} {kVUBeneath docUBeneath pmUBeneath ctUBeneath : Value} {cdUBeneath ccUBeneath : Addr} {slUBeneath : Array (Option Value)} {qqUBeneath : Str} {eBeneath p0Beneath p1Beneath p2Beneath p3Beneath p4Beneath : Pos} {clUBeneath : Value} {cldUBeneath : Option Addr} {cslUBeneath : Array (Option Value)} {cclUBeneath : Value} {cddUBeneath : Option Addr} {vsUBeneath : Array Value} {ccsUBeneath : Array (Option Value)} {fileUBeneath : Str} {tfUBeneath : Tok}
    (n_VoteError : PySem.W.nsIn K mainGlobals "VoteError" = some (some (.ref c_VoteError)))
    (n_BadTree : PySem.W.nsIn K mainGlobals "BadTree" = some (some (.ref c_BadTree)))
    (n_NoBlock : PySem.W.nsIn K mainGlobals "NoBlock" = some (some (.ref c_NoBlock)))
    (n_NoPlace : PySem.W.nsIn K mainGlobals "NoPlace" = some (some (.ref c_NoPlace)))
    (n_Beneath : PySem.W.nsIn K mainGlobals "Beneath" = some (some (.ref c_Beneath)))
    (n_BadHistory : PySem.W.nsIn K mainGlobals "BadHistory" = some (some (.ref c_BadHistory)))
    (n_Tree : PySem.W.nsIn K mainGlobals "Tree" = some (some (.ref c_Tree)))
    (n_History : PySem.W.nsIn K mainGlobals "History" = some (some (.ref c_History)))
    (n_MOST_BLOCKS : PySem.W.nsIn K mainGlobals "MOST_BLOCKS" = some (some (.int 40 t_MOST_BLOCKS)))
    (n_MOST_MOVES : PySem.W.nsIn K mainGlobals "MOST_MOVES" = some (some (.int 100 t_MOST_MOVES)))
    (z_ValueError : PySem.W.nsIn K mainGlobals "ValueError" = some none)
    (z_abs : PySem.W.nsIn K mainGlobals "abs" = some none)
    (z_all : PySem.W.nsIn K mainGlobals "all" = some none)
    (z_bool : PySem.W.nsIn K mainGlobals "bool" = some none)
    (z_dict : PySem.W.nsIn K mainGlobals "dict" = some none)
    (z_enumerate : PySem.W.nsIn K mainGlobals "enumerate" = some none)
    (z_int : PySem.W.nsIn K mainGlobals "int" = some none)
    (z_isinstance : PySem.W.nsIn K mainGlobals "isinstance" = some none)
    (z_len : PySem.W.nsIn K mainGlobals "len" = some none)
    (z_list : PySem.W.nsIn K mainGlobals "list" = some none)
    (z_range : PySem.W.nsIn K mainGlobals "range" = some none)
    (z_sorted : PySem.W.nsIn K mainGlobals "sorted" = some none)
    (z_str : PySem.W.nsIn K mainGlobals "str" = some none)
    (z_super : PySem.W.nsIn K mainGlobals "super" = some none)
    (z_tuple : PySem.W.nsIn K mainGlobals "tuple" = some none)
    (a_BadTree___init__ : PySem.W.findIn K (.ref c_BadTree) "__init__" = some (some (.ref f_BadTree___init__)))
    (i_BadTree___init__ : PySem.W.isFn K (.ref f_BadTree___init__) = true)
    (l_BadTree___init__ : K.lookup f_BadTree___init__ = some ⟨oc_BadTree___init__, od_BadTree___init__, .func (PySem.W.fnOf "__init__" "BadTree.__init__" (defArgs s_BadTree___init__) (defBody s_BadTree___init__) (defScope s_BadTree___init__) .none kV_BadTree___init__ dc_BadTree___init__ pm_BadTree___init__ an_BadTree___init__ cd_BadTree___init__ ct_BadTree___init__), sl_BadTree___init__⟩)
    (c_BadTree___init__ : PySem.W.codeIn K cd_BadTree___init__ "BadTree.__init__" = true)
    (k_BadTree___init__ : PySem.W.keepIn K (.ref f_BadTree___init__) = true)
    (a_BadHistory___init__ : PySem.W.findIn K (.ref c_BadHistory) "__init__" = some (some (.ref f_BadHistory___init__)))
    (i_BadHistory___init__ : PySem.W.isFn K (.ref f_BadHistory___init__) = true)
    (l_BadHistory___init__ : K.lookup f_BadHistory___init__ = some ⟨oc_BadHistory___init__, od_BadHistory___init__, .func (PySem.W.fnOf "__init__" "BadHistory.__init__" (defArgs s_BadHistory___init__) (defBody s_BadHistory___init__) (defScope s_BadHistory___init__) .none kV_BadHistory___init__ dc_BadHistory___init__ pm_BadHistory___init__ an_BadHistory___init__ cd_BadHistory___init__ ct_BadHistory___init__), sl_BadHistory___init__⟩)
    (c_BadHistory___init__ : PySem.W.codeIn K cd_BadHistory___init__ "BadHistory.__init__" = true)
    (k_BadHistory___init__ : PySem.W.keepIn K (.ref f_BadHistory___init__) = true)
    (a_is_within : PySem.W.nsIn K mainGlobals "is_within" = some (some (.ref f_is_within)))
    (l_is_within : K.lookup f_is_within = some ⟨oc_is_within, od_is_within, .func (PySem.W.fnOf "is_within" "is_within" (defArgs s_is_within) (defBody s_is_within) (defScope s_is_within) .none kV_is_within dc_is_within pm_is_within an_is_within cd_is_within ct_is_within), sl_is_within⟩)
    (c_is_within : PySem.W.codeIn K cd_is_within "is_within" = true)
    (k_is_within : PySem.W.keepIn K (.ref f_is_within) = true)
    (a_is_pair : PySem.W.nsIn K mainGlobals "is_pair" = some (some (.ref f_is_pair)))
    (l_is_pair : K.lookup f_is_pair = some ⟨oc_is_pair, od_is_pair, .func (PySem.W.fnOf "is_pair" "is_pair" (defArgs s_is_pair) (defBody s_is_pair) (defScope s_is_pair) .none kV_is_pair dc_is_pair pm_is_pair an_is_pair cd_is_pair ct_is_pair), sl_is_pair⟩)
    (c_is_pair : PySem.W.codeIn K cd_is_pair "is_pair" = true)
    (k_is_pair : PySem.W.keepIn K (.ref f_is_pair) = true)
    (a_Tree___init__ : PySem.W.findIn K (.ref c_Tree) "__init__" = some (some (.ref f_Tree___init__)))
    (i_Tree___init__ : PySem.W.isFn K (.ref f_Tree___init__) = true)
    (l_Tree___init__ : K.lookup f_Tree___init__ = some ⟨oc_Tree___init__, od_Tree___init__, .func (PySem.W.fnOf "__init__" "Tree.__init__" (defArgs s_Tree___init__) (defBody s_Tree___init__) (defScope s_Tree___init__) .none kV_Tree___init__ dc_Tree___init__ pm_Tree___init__ an_Tree___init__ cd_Tree___init__ ct_Tree___init__), sl_Tree___init__⟩)
    (c_Tree___init__ : PySem.W.codeIn K cd_Tree___init__ "Tree.__init__" = true)
    (k_Tree___init__ : PySem.W.keepIn K (.ref f_Tree___init__) = true)
    (a_Tree___eq__ : PySem.W.findIn K (.ref c_Tree) "__eq__" = some (some (.ref f_Tree___eq__)))
    (i_Tree___eq__ : PySem.W.isFn K (.ref f_Tree___eq__) = true)
    (l_Tree___eq__ : K.lookup f_Tree___eq__ = some ⟨oc_Tree___eq__, od_Tree___eq__, .func (PySem.W.fnOf "__eq__" "Tree.__eq__" (defArgs s_Tree___eq__) (defBody s_Tree___eq__) (defScope s_Tree___eq__) .none kV_Tree___eq__ dc_Tree___eq__ pm_Tree___eq__ an_Tree___eq__ cd_Tree___eq__ ct_Tree___eq__), sl_Tree___eq__⟩)
    (c_Tree___eq__ : PySem.W.codeIn K cd_Tree___eq__ "Tree.__eq__" = true)
    (k_Tree___eq__ : PySem.W.keepIn K (.ref f_Tree___eq__) = true)
    (a__comes_to_head : PySem.W.nsIn K mainGlobals "_comes_to_head" = some (some (.ref f__comes_to_head)))
    (l__comes_to_head : K.lookup f__comes_to_head = some ⟨oc__comes_to_head, od__comes_to_head, .func (PySem.W.fnOf "_comes_to_head" "_comes_to_head" (defArgs s__comes_to_head) (defBody s__comes_to_head) (defScope s__comes_to_head) .none kV__comes_to_head dc__comes_to_head pm__comes_to_head an__comes_to_head cd__comes_to_head ct__comes_to_head), sl__comes_to_head⟩)
    (c__comes_to_head : PySem.W.codeIn K cd__comes_to_head "_comes_to_head" = true)
    (k__comes_to_head : PySem.W.keepIn K (.ref f__comes_to_head) = true)
    (a_is_block : PySem.W.nsIn K mainGlobals "is_block" = some (some (.ref f_is_block)))
    (l_is_block : K.lookup f_is_block = some ⟨oc_is_block, od_is_block, .func (PySem.W.fnOf "is_block" "is_block" (defArgs s_is_block) (defBody s_is_block) (defScope s_is_block) .none kV_is_block dc_is_block pm_is_block an_is_block cd_is_block ct_is_block), sl_is_block⟩)
    (c_is_block : PySem.W.codeIn K cd_is_block "is_block" = true)
    (k_is_block : PySem.W.keepIn K (.ref f_is_block) = true)
    (a_is_place : PySem.W.nsIn K mainGlobals "is_place" = some (some (.ref f_is_place)))
    (l_is_place : K.lookup f_is_place = some ⟨oc_is_place, od_is_place, .func (PySem.W.fnOf "is_place" "is_place" (defArgs s_is_place) (defBody s_is_place) (defScope s_is_place) .none kV_is_place dc_is_place pm_is_place an_is_place cd_is_place ct_is_place), sl_is_place⟩)
    (c_is_place : PySem.W.codeIn K cd_is_place "is_place" = true)
    (k_is_place : PySem.W.keepIn K (.ref f_is_place) = true)
    (a_place_of : PySem.W.nsIn K mainGlobals "place_of" = some (some (.ref f_place_of)))
    (l_place_of : K.lookup f_place_of = some ⟨oc_place_of, od_place_of, .func (PySem.W.fnOf "place_of" "place_of" (defArgs s_place_of) (defBody s_place_of) (defScope s_place_of) .none kV_place_of dc_place_of pm_place_of an_place_of cd_place_of ct_place_of), sl_place_of⟩)
    (c_place_of : PySem.W.codeIn K cd_place_of "place_of" = true)
    (k_place_of : PySem.W.keepIn K (.ref f_place_of) = true)
    (a_parents : PySem.W.nsIn K mainGlobals "parents" = some (some (.ref f_parents)))
    (l_parents : K.lookup f_parents = some ⟨oc_parents, od_parents, .func (PySem.W.fnOf "parents" "parents" (defArgs s_parents) (defBody s_parents) (defScope s_parents) .none kV_parents dc_parents pm_parents an_parents cd_parents ct_parents), sl_parents⟩)
    (c_parents : PySem.W.codeIn K cd_parents "parents" = true)
    (k_parents : PySem.W.keepIn K (.ref f_parents) = true)
    (a_beneath : PySem.W.nsIn K mainGlobals "beneath" = some (some (.ref f_beneath)))
    (l_beneath : K.lookup f_beneath = some ⟨oc_beneath, od_beneath, .func (PySem.W.fnOf "beneath" "beneath" (defArgs s_beneath) (defBody s_beneath) (defScope s_beneath) .none kV_beneath dc_beneath pm_beneath an_beneath cd_beneath ct_beneath), sl_beneath⟩)
    (c_beneath : PySem.W.codeIn K cd_beneath "beneath" = true)
    (k_beneath : PySem.W.keepIn K (.ref f_beneath) = true)
    (a_moved : PySem.W.nsIn K mainGlobals "moved" = some (some (.ref f_moved)))
    (l_moved : K.lookup f_moved = some ⟨oc_moved, od_moved, .func (PySem.W.fnOf "moved" "moved" (defArgs s_moved) (defBody s_moved) (defScope s_moved) .none kV_moved dc_moved pm_moved an_moved cd_moved ct_moved), sl_moved⟩)
    (c_moved : PySem.W.codeIn K cd_moved "moved" = true)
    (k_moved : PySem.W.keepIn K (.ref f_moved) = true)
    (a_History___init__ : PySem.W.findIn K (.ref c_History) "__init__" = some (some (.ref f_History___init__)))
    (i_History___init__ : PySem.W.isFn K (.ref f_History___init__) = true)
    (l_History___init__ : K.lookup f_History___init__ = some ⟨oc_History___init__, od_History___init__, .func (PySem.W.fnOf "__init__" "History.__init__" (defArgs s_History___init__) (defBody s_History___init__) (defScope s_History___init__) .none kV_History___init__ dc_History___init__ pm_History___init__ an_History___init__ cd_History___init__ ct_History___init__), sl_History___init__⟩)
    (c_History___init__ : PySem.W.codeIn K cd_History___init__ "History.__init__" = true)
    (k_History___init__ : PySem.W.keepIn K (.ref f_History___init__) = true)
    (a_History___eq__ : PySem.W.findIn K (.ref c_History) "__eq__" = some (some (.ref f_History___eq__)))
    (i_History___eq__ : PySem.W.isFn K (.ref f_History___eq__) = true)
    (l_History___eq__ : K.lookup f_History___eq__ = some ⟨oc_History___eq__, od_History___eq__, .func (PySem.W.fnOf "__eq__" "History.__eq__" (defArgs s_History___eq__) (defBody s_History___eq__) (defScope s_History___eq__) .none kV_History___eq__ dc_History___eq__ pm_History___eq__ an_History___eq__ cd_History___eq__ ct_History___eq__), sl_History___eq__⟩)
    (c_History___eq__ : PySem.W.codeIn K cd_History___eq__ "History.__eq__" = true)
    (k_History___eq__ : PySem.W.keepIn K (.ref f_History___eq__) = true)
    (a_now : PySem.W.nsIn K mainGlobals "now" = some (some (.ref f_now)))
    (l_now : K.lookup f_now = some ⟨oc_now, od_now, .func (PySem.W.fnOf "now" "now" (defArgs s_now) (defBody s_now) (defScope s_now) .none kV_now dc_now pm_now an_now cd_now ct_now), sl_now⟩)
    (c_now : PySem.W.codeIn K cd_now "now" = true)
    (k_now : PySem.W.keepIn K (.ref f_now) = true)
    (a__law_hand : PySem.W.nsIn K mainGlobals "_law_hand" = some (some (.ref f__law_hand)))
    (l__law_hand : K.lookup f__law_hand = some ⟨oc__law_hand, od__law_hand, .func (PySem.W.fnOf "_law_hand" "_law_hand" (defArgs s__law_hand) (defBody s__law_hand) (defScope s__law_hand) .none kV__law_hand dc__law_hand pm__law_hand an__law_hand cd__law_hand ct__law_hand), sl__law_hand⟩)
    (c__law_hand : PySem.W.codeIn K cd__law_hand "_law_hand" = true)
    (k__law_hand : PySem.W.keepIn K (.ref f__law_hand) = true)
    (a__law_draw : PySem.W.nsIn K mainGlobals "_law_draw" = some (some (.ref f__law_draw)))
    (l__law_draw : K.lookup f__law_draw = some ⟨oc__law_draw, od__law_draw, .func (PySem.W.fnOf "_law_draw" "_law_draw" (defArgs s__law_draw) (defBody s__law_draw) (defScope s__law_draw) .none kV__law_draw dc__law_draw pm__law_draw an__law_draw cd__law_draw ct__law_draw), sl__law_draw⟩)
    (c__law_draw : PySem.W.codeIn K cd__law_draw "_law_draw" = true)
    (k__law_draw : PySem.W.keepIn K (.ref f__law_draw) = true)
    (a__law_tree : PySem.W.nsIn K mainGlobals "_law_tree" = some (some (.ref f__law_tree)))
    (l__law_tree : K.lookup f__law_tree = some ⟨oc__law_tree, od__law_tree, .func (PySem.W.fnOf "_law_tree" "_law_tree" (defArgs s__law_tree) (defBody s__law_tree) (defScope s__law_tree) .none kV__law_tree dc__law_tree pm__law_tree an__law_tree cd__law_tree ct__law_tree), sl__law_tree⟩)
    (c__law_tree : PySem.W.codeIn K cd__law_tree "_law_tree" = true)
    (k__law_tree : PySem.W.keepIn K (.ref f__law_tree) = true)
    (a__law_row : PySem.W.nsIn K mainGlobals "_law_row" = some (some (.ref f__law_row)))
    (l__law_row : K.lookup f__law_row = some ⟨oc__law_row, od__law_row, .func (PySem.W.fnOf "_law_row" "_law_row" (defArgs s__law_row) (defBody s__law_row) (defScope s__law_row) .none kV__law_row dc__law_row pm__law_row an__law_row cd__law_row ct__law_row), sl__law_row⟩)
    (c__law_row : PySem.W.codeIn K cd__law_row "_law_row" = true)
    (k__law_row : PySem.W.keepIn K (.ref f__law_row) = true)
    (a__law_beneath : PySem.W.nsIn K mainGlobals "_law_beneath" = some (some (.ref f__law_beneath)))
    (l__law_beneath : K.lookup f__law_beneath = some ⟨oc__law_beneath, od__law_beneath, .func (PySem.W.fnOf "_law_beneath" "_law_beneath" (defArgs s__law_beneath) (defBody s__law_beneath) (defScope s__law_beneath) .none kV__law_beneath dc__law_beneath pm__law_beneath an__law_beneath cd__law_beneath ct__law_beneath), sl__law_beneath⟩)
    (c__law_beneath : PySem.W.codeIn K cd__law_beneath "_law_beneath" = true)
    (k__law_beneath : PySem.W.keepIn K (.ref f__law_beneath) = true)
    (a__law_put : PySem.W.nsIn K mainGlobals "_law_put" = some (some (.ref f__law_put)))
    (l__law_put : K.lookup f__law_put = some ⟨oc__law_put, od__law_put, .func (PySem.W.fnOf "_law_put" "_law_put" (defArgs s__law_put) (defBody s__law_put) (defScope s__law_put) .none kV__law_put dc__law_put pm__law_put an__law_put cd__law_put ct__law_put), sl__law_put⟩)
    (c__law_put : PySem.W.codeIn K cd__law_put "_law_put" = true)
    (k__law_put : PySem.W.keepIn K (.ref f__law_put) = true)
    (a__law_moves : PySem.W.nsIn K mainGlobals "_law_moves" = some (some (.ref f__law_moves)))
    (l__law_moves : K.lookup f__law_moves = some ⟨oc__law_moves, od__law_moves, .func (PySem.W.fnOf "_law_moves" "_law_moves" (defArgs s__law_moves) (defBody s__law_moves) (defScope s__law_moves) .none kV__law_moves dc__law_moves pm__law_moves an__law_moves cd__law_moves ct__law_moves), sl__law_moves⟩)
    (c__law_moves : PySem.W.codeIn K cd__law_moves "_law_moves" = true)
    (k__law_moves : PySem.W.keepIn K (.ref f__law_moves) = true)
    (a__law_deep : PySem.W.nsIn K mainGlobals "_law_deep" = some (some (.ref f__law_deep)))
    (l__law_deep : K.lookup f__law_deep = some ⟨oc__law_deep, od__law_deep, .func (PySem.W.fnOf "_law_deep" "_law_deep" (defArgs s__law_deep) (defBody s__law_deep) (defScope s__law_deep) .none kV__law_deep dc__law_deep pm__law_deep an__law_deep cd__law_deep ct__law_deep), sl__law_deep⟩)
    (c__law_deep : PySem.W.codeIn K cd__law_deep "_law_deep" = true)
    (k__law_deep : PySem.W.keepIn K (.ref f__law_deep) = true)
    (a__law_odd : PySem.W.nsIn K mainGlobals "_law_odd" = some (some (.ref f__law_odd)))
    (l__law_odd : K.lookup f__law_odd = some ⟨oc__law_odd, od__law_odd, .func (PySem.W.fnOf "_law_odd" "_law_odd" (defArgs s__law_odd) (defBody s__law_odd) (defScope s__law_odd) .none kV__law_odd dc__law_odd pm__law_odd an__law_odd cd__law_odd ct__law_odd), sl__law_odd⟩)
    (c__law_odd : PySem.W.codeIn K cd__law_odd "_law_odd" = true)
    (k__law_odd : PySem.W.keepIn K (.ref f__law_odd) = true)
    (a__law_is_whole : PySem.W.nsIn K mainGlobals "_law_is_whole" = some (some (.ref f__law_is_whole)))
    (l__law_is_whole : K.lookup f__law_is_whole = some ⟨oc__law_is_whole, od__law_is_whole, .func (PySem.W.fnOf "_law_is_whole" "_law_is_whole" (defArgs s__law_is_whole) (defBody s__law_is_whole) (defScope s__law_is_whole) .none kV__law_is_whole dc__law_is_whole pm__law_is_whole an__law_is_whole cd__law_is_whole ct__law_is_whole), sl__law_is_whole⟩)
    (c__law_is_whole : PySem.W.codeIn K cd__law_is_whole "_law_is_whole" = true)
    (k__law_is_whole : PySem.W.keepIn K (.ref f__law_is_whole) = true)
    (a__law_due : PySem.W.nsIn K mainGlobals "_law_due" = some (some (.ref f__law_due)))
    (l__law_due : K.lookup f__law_due = some ⟨oc__law_due, od__law_due, .func (PySem.W.fnOf "_law_due" "_law_due" (defArgs s__law_due) (defBody s__law_due) (defScope s__law_due) .none kV__law_due dc__law_due pm__law_due an__law_due cd__law_due ct__law_due), sl__law_due⟩)
    (c__law_due : PySem.W.codeIn K cd__law_due "_law_due" = true)
    (k__law_due : PySem.W.keepIn K (.ref f__law_due) = true)
    (a__law_answer : PySem.W.nsIn K mainGlobals "_law_answer" = some (some (.ref f__law_answer)))
    (l__law_answer : K.lookup f__law_answer = some ⟨oc__law_answer, od__law_answer, .func (PySem.W.fnOf "_law_answer" "_law_answer" (defArgs s__law_answer) (defBody s__law_answer) (defScope s__law_answer) .none kV__law_answer dc__law_answer pm__law_answer an__law_answer cd__law_answer ct__law_answer), sl__law_answer⟩)
    (c__law_answer : PySem.W.codeIn K cd__law_answer "_law_answer" = true)
    (k__law_answer : PySem.W.keepIn K (.ref f__law_answer) = true)
    (a__law_bent : PySem.W.nsIn K mainGlobals "_law_bent" = some (some (.ref f__law_bent)))
    (l__law_bent : K.lookup f__law_bent = some ⟨oc__law_bent, od__law_bent, .func (PySem.W.fnOf "_law_bent" "_law_bent" (defArgs s__law_bent) (defBody s__law_bent) (defScope s__law_bent) .none kV__law_bent dc__law_bent pm__law_bent an__law_bent cd__law_bent ct__law_bent), sl__law_bent⟩)
    (c__law_bent : PySem.W.codeIn K cd__law_bent "_law_bent" = true)
    (k__law_bent : PySem.W.keepIn K (.ref f__law_bent) = true)
    (a_law : PySem.W.nsIn K mainGlobals "law" = some (some (.ref f_law)))
    (l_law : K.lookup f_law = some ⟨oc_law, od_law, .func (PySem.W.fnOf "law" "law" (defArgs s_law) (defBody s_law) (defScope s_law) .none kV_law dc_law pm_law an_law cd_law ct_law), sl_law⟩)
    (c_law : PySem.W.codeIn K cd_law "law" = true)
    (k_law : PySem.W.keepIn K (.ref f_law) = true)
    (pgTree : PySem.W.plainGet K c_Tree Str.empty = true)
    (hdTree : PySem.W.hasDictIn K c_Tree = true)
    (poTree : PySem.W.plainOver K c_Tree = true)
    (saTree : PySem.W.findIn K (.ref c_Tree) "__setattr__" = some (some (.builtin "object.__setattr__")))
    (mkTree : PySem.W.makesIn K c_Tree = true)
    (kcTree : PySem.W.keepIn K (.ref c_Tree) = true)
    (noTree_hung : PySem.W.findIn K (.ref c_Tree) "hung" = some none)
    (haTree : PySem.W.findIn K (.ref c_Tree) "__class__" = some (some (.builtin "object.__class__")))
    (hmTree : PySem.W.mroIn K c_Tree (.type "object") = some true)
    (icTree : PySem.W.isClsIn K c_Tree = true)
    (tyTree : PySem.W.typeIn K (.ref c_Tree) = some (.type "type"))
    (spO : PySem.W.specialIn K (.builtin "object.__class__") "__get__" = some (some (.builtin "getset_descriptor.__get__")))
    (tkO : PySem.W.takesIn K (.builtin "object.__class__") = some true)
    (pgHistory : PySem.W.plainGet K c_History Str.empty = true)
    (hdHistory : PySem.W.hasDictIn K c_History = true)
    (poHistory : PySem.W.plainOver K c_History = true)
    (saHistory : PySem.W.findIn K (.ref c_History) "__setattr__" = some (some (.builtin "object.__setattr__")))
    (mkHistory : PySem.W.makesIn K c_History = true)
    (kcHistory : PySem.W.keepIn K (.ref c_History) = true)
    (noHistory_tree : PySem.W.findIn K (.ref c_History) "tree" = some none)
    (noHistory_moves : PySem.W.findIn K (.ref c_History) "moves" = some none)
    (haHistory : PySem.W.findIn K (.ref c_History) "__class__" = some (some (.builtin "object.__class__")))
    (hmHistory : PySem.W.mroIn K c_History (.type "object") = some true)
    (icHistory : PySem.W.isClsIn K c_History = true)
    (tyHistory : PySem.W.typeIn K (.ref c_History) = some (.type "type"))
    (xNHistory : K.lookup c_History = some (excClassObj nmNHistory qNHistory c_History NNHistory bsNHistory [.type "object"] hdNHistory snNHistory subNHistory abNHistory colNHistory ddNHistory w0History w1History w2History w3History w5History newNHistory))
    (okNHistory : PySem.W.nsOkIn K NNHistory = true)
    (eqNHistory : PySem.W.nsIn K NNHistory "__eq__" = some (some (.ref f_History___eq__)))
    (neNHistory : PySem.W.nsIn K NNHistory "__ne__" = some none)
    (tqNHistory : PySem.W.typeIn K (.ref f_History___eq__) = some (.type "function"))
    (xLBadTree : K.lookup c_BadTree = some (excClassObj nmBadTree qBadTree c_BadTree NBadTree bsBadTree bmBadTree true snBadTree subBadTree abBadTree colBadTree ddBadTree m0BadTree m1BadTree m2BadTree m3BadTree m5BadTree "ValueError.__new__"))
    (rvBadTree : PySem.HandSPX.refsVE bmBadTree = true)
    (saEBadTree : PySem.W.findIn K (.ref c_BadTree) "__setattr__" = some (some (.builtin "object.__setattr__")))
    (exEBadTree : PySem.W.subIn K (.ref c_BadTree) (.type "BaseException") = some true)
    (tyEBadTree : PySem.W.typeIn K (.ref c_BadTree) = some (.type "type"))
    (kcEBadTree : PySem.W.keepIn K (.ref c_BadTree) = true)
    (tiEBadTree : PySem.W.typeIn K (.ref f_BadTree___init__) = some (.type "function"))
    (noEBadTree : PySem.W.findIn K (.ref c_BadTree) "part" = some none)
    (xLBadHistory : K.lookup c_BadHistory = some (excClassObj nmBadHistory qBadHistory c_BadHistory NBadHistory bsBadHistory bmBadHistory true snBadHistory subBadHistory abBadHistory colBadHistory ddBadHistory m0BadHistory m1BadHistory m2BadHistory m3BadHistory m5BadHistory "ValueError.__new__"))
    (rvBadHistory : PySem.HandSPX.refsVE bmBadHistory = true)
    (saEBadHistory : PySem.W.findIn K (.ref c_BadHistory) "__setattr__" = some (some (.builtin "object.__setattr__")))
    (exEBadHistory : PySem.W.subIn K (.ref c_BadHistory) (.type "BaseException") = some true)
    (tyEBadHistory : PySem.W.typeIn K (.ref c_BadHistory) = some (.type "type"))
    (kcEBadHistory : PySem.W.keepIn K (.ref c_BadHistory) = true)
    (tiEBadHistory : PySem.W.typeIn K (.ref f_BadHistory___init__) = some (.type "function"))
    (noEBadHistory : PySem.W.findIn K (.ref c_BadHistory) "part" = some none)
    (gaEBadHistory : PySem.W.findIn K (.ref c_BadHistory) "__getattribute__" = some (some (.builtin "BaseException.__getattribute__")))
    (ggEBadHistory : PySem.W.findIn K (.ref c_BadHistory) "__getattr__" = some none)
    (hdEBadHistory : PySem.W.hasDictIn K c_BadHistory = true)
    (haEBadHistory : PySem.W.findIn K (.ref c_BadHistory) "__class__" = some (some (.builtin "object.__class__")))
    (hmEBadHistory : PySem.W.mroIn K c_BadHistory (.type "object") = some true)
    (xUNoBlock : K.lookup c_NoBlock = some (excClassObj nmUNoBlock qUNoBlock c_NoBlock NUNoBlock bsUNoBlock bmUNoBlock true snUNoBlock subUNoBlock abUNoBlock colUNoBlock ddUNoBlock u0NoBlock u1NoBlock u2NoBlock u3NoBlock u5NoBlock "ValueError.__new__"))
    (rvUNoBlock : PySem.HandSPX.refsVE bmUNoBlock = true)
    (saUNoBlock : PySem.W.findIn K (.ref c_NoBlock) "__setattr__" = some (some (.builtin "object.__setattr__")))
    (exUNoBlock : PySem.W.subIn K (.ref c_NoBlock) (.type "BaseException") = some true)
    (tyUNoBlock : PySem.W.typeIn K (.ref c_NoBlock) = some (.type "type"))
    (kcUNoBlock : PySem.W.keepIn K (.ref c_NoBlock) = true)
    (iUNoBlock : PySem.W.findIn K (.ref c_NoBlock) "__init__" = some (some (.ref f_UNoBlock)))
    (tiUNoBlock : PySem.W.typeIn K (.ref f_UNoBlock) = some (.type "function"))
    (lUNoBlock : K.lookup f_UNoBlock = some ⟨ocUNoBlock, odUNoBlock, .func (PySem.W.ksFn "__init__" qqUNoBlock (siA eNoBlock) (siB p0NoBlock p1NoBlock p2NoBlock p3NoBlock p4NoBlock) siS .none kVUNoBlock docUNoBlock pmUNoBlock anUNoBlock (.ref cdUNoBlock) ctUNoBlock ccUNoBlock), slUNoBlock⟩)
    (cUNoBlock : PySem.W.codeIn K (.ref cdUNoBlock) qqUNoBlock = true)
    (ceUNoBlock : K.lookup ccUNoBlock = some ⟨clUNoBlock, cldUNoBlock, .cell (some (.ref c_NoBlock)), cslUNoBlock⟩)
    (coUNoBlock : K.lookup cdUNoBlock = some ⟨cclUNoBlock, cddUNoBlock, .fields vsUNoBlock, ccsUNoBlock⟩)
    (vsU2NoBlock : vsUNoBlock[2]? = some (.str fileUNoBlock tfUNoBlock))
    (fiUNoBlock : ((P.main.file : Str) == fileUNoBlock) = true)
    (evUNoBlock : SupEv p0NoBlock p1NoBlock p2NoBlock p3NoBlock)
    (upUNoBlock : PySem.W.ks_superIn K c_NoBlock c_NoBlock "__init__" = some (some (.builtin "ValueError.__init__")))
    (meUNoBlock : PySem.W.mroIn K c_NoBlock (.ref c_NoBlock) = some true)
    (veUNoBlock : PySem.W.subIn K (.ref c_NoBlock) (.type "ValueError") = some true)
    (opU : PySem.W.nsIn K cStatics "thirdparty.any" = some none)
    (tpU : (P.main.scope.names.lookup ("super" : Str)).isSome = false)
    (xUNoPlace : K.lookup c_NoPlace = some (excClassObj nmUNoPlace qUNoPlace c_NoPlace NUNoPlace bsUNoPlace bmUNoPlace true snUNoPlace subUNoPlace abUNoPlace colUNoPlace ddUNoPlace u0NoPlace u1NoPlace u2NoPlace u3NoPlace u5NoPlace "ValueError.__new__"))
    (rvUNoPlace : PySem.HandSPX.refsVE bmUNoPlace = true)
    (saUNoPlace : PySem.W.findIn K (.ref c_NoPlace) "__setattr__" = some (some (.builtin "object.__setattr__")))
    (exUNoPlace : PySem.W.subIn K (.ref c_NoPlace) (.type "BaseException") = some true)
    (tyUNoPlace : PySem.W.typeIn K (.ref c_NoPlace) = some (.type "type"))
    (kcUNoPlace : PySem.W.keepIn K (.ref c_NoPlace) = true)
    (iUNoPlace : PySem.W.findIn K (.ref c_NoPlace) "__init__" = some (some (.ref f_UNoPlace)))
    (tiUNoPlace : PySem.W.typeIn K (.ref f_UNoPlace) = some (.type "function"))
    (lUNoPlace : K.lookup f_UNoPlace = some ⟨ocUNoPlace, odUNoPlace, .func (PySem.W.ksFn "__init__" qqUNoPlace (siA eNoPlace) (siB p0NoPlace p1NoPlace p2NoPlace p3NoPlace p4NoPlace) siS .none kVUNoPlace docUNoPlace pmUNoPlace anUNoPlace (.ref cdUNoPlace) ctUNoPlace ccUNoPlace), slUNoPlace⟩)
    (cUNoPlace : PySem.W.codeIn K (.ref cdUNoPlace) qqUNoPlace = true)
    (ceUNoPlace : K.lookup ccUNoPlace = some ⟨clUNoPlace, cldUNoPlace, .cell (some (.ref c_NoPlace)), cslUNoPlace⟩)
    (coUNoPlace : K.lookup cdUNoPlace = some ⟨cclUNoPlace, cddUNoPlace, .fields vsUNoPlace, ccsUNoPlace⟩)
    (vsU2NoPlace : vsUNoPlace[2]? = some (.str fileUNoPlace tfUNoPlace))
    (fiUNoPlace : ((P.main.file : Str) == fileUNoPlace) = true)
    (evUNoPlace : SupEv p0NoPlace p1NoPlace p2NoPlace p3NoPlace)
    (upUNoPlace : PySem.W.ks_superIn K c_NoPlace c_NoPlace "__init__" = some (some (.builtin "ValueError.__init__")))
    (meUNoPlace : PySem.W.mroIn K c_NoPlace (.ref c_NoPlace) = some true)
    (veUNoPlace : PySem.W.subIn K (.ref c_NoPlace) (.type "ValueError") = some true)
    (xUBeneath : K.lookup c_Beneath = some (excClassObj nmUBeneath qUBeneath c_Beneath NUBeneath bsUBeneath bmUBeneath true snUBeneath subUBeneath abUBeneath colUBeneath ddUBeneath u0Beneath u1Beneath u2Beneath u3Beneath u5Beneath "ValueError.__new__"))
    (rvUBeneath : PySem.HandSPX.refsVE bmUBeneath = true)
    (saUBeneath : PySem.W.findIn K (.ref c_Beneath) "__setattr__" = some (some (.builtin "object.__setattr__")))
    (exUBeneath : PySem.W.subIn K (.ref c_Beneath) (.type "BaseException") = some true)
    (tyUBeneath : PySem.W.typeIn K (.ref c_Beneath) = some (.type "type"))
    (kcUBeneath : PySem.W.keepIn K (.ref c_Beneath) = true)
    (iUBeneath : PySem.W.findIn K (.ref c_Beneath) "__init__" = some (some (.ref f_UBeneath)))
    (tiUBeneath : PySem.W.typeIn K (.ref f_UBeneath) = some (.type "function"))
    (lUBeneath : K.lookup f_UBeneath = some ⟨ocUBeneath, odUBeneath, .func (PySem.W.ksFn "__init__" qqUBeneath (siA eBeneath) (siB p0Beneath p1Beneath p2Beneath p3Beneath p4Beneath) siS .none kVUBeneath docUBeneath pmUBeneath anUBeneath (.ref cdUBeneath) ctUBeneath ccUBeneath), slUBeneath⟩)
    (cUBeneath : PySem.W.codeIn K (.ref cdUBeneath) qqUBeneath = true)
    (ceUBeneath : K.lookup ccUBeneath = some ⟨clUBeneath, cldUBeneath, .cell (some (.ref c_Beneath)), cslUBeneath⟩)
    (coUBeneath : K.lookup cdUBeneath = some ⟨cclUBeneath, cddUBeneath, .fields vsUBeneath, ccsUBeneath⟩)
    (vsU2Beneath : vsUBeneath[2]? = some (.str fileUBeneath tfUBeneath))
    (fiUBeneath : ((P.main.file : Str) == fileUBeneath) = true)
    (evUBeneath : SupEv p0Beneath p1Beneath p2Beneath p3Beneath)
    (upUBeneath : PySem.W.ks_superIn K c_Beneath c_Beneath "__init__" = some (some (.builtin "ValueError.__init__")))
    (meUBeneath : PySem.W.mroIn K c_Beneath (.ref c_Beneath) = some true)
    (veUBeneath : PySem.W.subIn K (.ref c_Beneath) (.type "ValueError") = some true)
    (swint : PySem.W.subIn K (.ref c_Tree) (.type "int") = some false)
    (swbool : PySem.W.subIn K (.ref c_Tree) (.type "bool") = some false)
    (swtuple : PySem.W.subIn K (.ref c_Tree) (.type "tuple") = some false)
    (swlist : PySem.W.subIn K (.ref c_Tree) (.type "list") = some false)
    (hdUNoBlock : PySem.W.hasDictIn K c_NoBlock = true)
    (hdUNoPlace : PySem.W.hasDictIn K c_NoPlace = true)
    (hdUBeneath : PySem.W.hasDictIn K c_Beneath = true)
    (suNoBlock_NoBlock : PySem.W.subIn K (.ref c_NoBlock) (.ref c_NoBlock) = some true)
    (suNoBlock_NoPlace : PySem.W.subIn K (.ref c_NoBlock) (.ref c_NoPlace) = some false)
    (suNoBlock_Beneath : PySem.W.subIn K (.ref c_NoBlock) (.ref c_Beneath) = some false)
    (suNoPlace_NoBlock : PySem.W.subIn K (.ref c_NoPlace) (.ref c_NoBlock) = some false)
    (suNoPlace_NoPlace : PySem.W.subIn K (.ref c_NoPlace) (.ref c_NoPlace) = some true)
    (suNoPlace_Beneath : PySem.W.subIn K (.ref c_NoPlace) (.ref c_Beneath) = some false)
    (suBeneath_NoBlock : PySem.W.subIn K (.ref c_Beneath) (.ref c_NoBlock) = some false)
    (suBeneath_NoPlace : PySem.W.subIn K (.ref c_Beneath) (.ref c_NoPlace) = some false)
    (suBeneath_Beneath : PySem.W.subIn K (.ref c_Beneath) (.ref c_Beneath) = some true)
    (sBH : PySem.W.subIn K (.ref c_BadHistory) (.ref c_BadHistory) = some true)
    : ∃ fd : FuncData, (∀ (s : Shared) (v : Value), BindsTo s fd ⟨[v], []⟩ [("_law_script", v)]) ∧ ∀ base : Heap, K.In base → base.Ns mainGlobals mg → FnOk P w K mg base CX0 10 fa fd ["_law_script"] (spLaw K) := by
  have e := hfa.symm.trans (PySem.W.mg_of X G a_law)
  cases e
  have F_BadTree___init__ := fun_mk (st := s_BadTree___init__) l_BadTree___init__ c_BadTree___init__ k_BadTree___init__
  have b_BadTree___init__ := F_BadTree___init__.binds (ps := ["self", "part"]) fun _ _ _ _ _ _ us hl => match us, hl with | [_, _], _ => rfl
  have C_BadTree___init__ := CalM.mk k_BadTree___init__ b_BadTree___init__
  have F_BadHistory___init__ := fun_mk (st := s_BadHistory___init__) l_BadHistory___init__ c_BadHistory___init__ k_BadHistory___init__
  have b_BadHistory___init__ := F_BadHistory___init__.binds (ps := ["self", "part"]) fun _ _ _ _ _ _ us hl => match us, hl with | [_, _], _ => rfl
  have C_BadHistory___init__ := CalM.mk k_BadHistory___init__ b_BadHistory___init__
  have F_is_within := fun_mk (st := s_is_within) l_is_within c_is_within k_is_within
  have b_is_within := F_is_within.binds (ps := ["least", "most", "thing"]) fun _ _ _ _ _ _ us hl => match us, hl with | [_, _, _], _ => rfl
  have C_is_within := Cal.mk (PySem.W.mg_of X G a_is_within) k_is_within b_is_within
  have F_is_pair := fun_mk (st := s_is_pair) l_is_pair c_is_pair k_is_pair
  have b_is_pair := F_is_pair.binds (ps := ["thing"]) fun _ _ _ _ _ _ us hl => match us, hl with | [_], _ => rfl
  have C_is_pair := Cal.mk (PySem.W.mg_of X G a_is_pair) k_is_pair b_is_pair
  have F_Tree___init__ := fun_mk (st := s_Tree___init__) l_Tree___init__ c_Tree___init__ k_Tree___init__
  have b_Tree___init__ := F_Tree___init__.binds (ps := ["self", "hung"]) fun _ _ _ _ _ _ us hl => match us, hl with | [_, _], _ => rfl
  have C_Tree___init__ := CalM.mk k_Tree___init__ b_Tree___init__
  have F_Tree___eq__ := fun_mk (st := s_Tree___eq__) l_Tree___eq__ c_Tree___eq__ k_Tree___eq__
  have b_Tree___eq__ := F_Tree___eq__.binds (ps := ["self", "other"]) fun _ _ _ _ _ _ us hl => match us, hl with | [_, _], _ => rfl
  have C_Tree___eq__ := CalM.mk k_Tree___eq__ b_Tree___eq__
  have F__comes_to_head := fun_mk (st := s__comes_to_head) l__comes_to_head c__comes_to_head k__comes_to_head
  have b__comes_to_head := F__comes_to_head.binds (ps := ["hung", "block"]) fun _ _ _ _ _ _ us hl => match us, hl with | [_, _], _ => rfl
  have C__comes_to_head := Cal.mk (PySem.W.mg_of X G a__comes_to_head) k__comes_to_head b__comes_to_head
  have F_is_block := fun_mk (st := s_is_block) l_is_block c_is_block k_is_block
  have b_is_block := F_is_block.binds (ps := ["tree", "thing"]) fun _ _ _ _ _ _ us hl => match us, hl with | [_, _], _ => rfl
  have C_is_block := Cal.mk (PySem.W.mg_of X G a_is_block) k_is_block b_is_block
  have F_is_place := fun_mk (st := s_is_place) l_is_place c_is_place k_is_place
  have b_is_place := F_is_place.binds (ps := ["tree", "thing"]) fun _ _ _ _ _ _ us hl => match us, hl with | [_, _], _ => rfl
  have C_is_place := Cal.mk (PySem.W.mg_of X G a_is_place) k_is_place b_is_place
  have F_place_of := fun_mk (st := s_place_of) l_place_of c_place_of k_place_of
  have b_place_of := F_place_of.binds (ps := ["tree", "block"]) fun _ _ _ _ _ _ us hl => match us, hl with | [_, _], _ => rfl
  have C_place_of := Cal.mk (PySem.W.mg_of X G a_place_of) k_place_of b_place_of
  have F_parents := fun_mk (st := s_parents) l_parents c_parents k_parents
  have b_parents := F_parents.binds (ps := ["tree", "block"]) fun _ _ _ _ _ _ us hl => match us, hl with | [_, _], _ => rfl
  have C_parents := Cal.mk (PySem.W.mg_of X G a_parents) k_parents b_parents
  have F_beneath := fun_mk (st := s_beneath) l_beneath c_beneath k_beneath
  have b_beneath := F_beneath.binds (ps := ["tree", "place"]) fun _ _ _ _ _ _ us hl => match us, hl with | [_, _], _ => rfl
  have C_beneath := Cal.mk (PySem.W.mg_of X G a_beneath) k_beneath b_beneath
  have F_moved := fun_mk (st := s_moved) l_moved c_moved k_moved
  have b_moved := F_moved.binds (ps := ["tree", "block", "place"]) fun _ _ _ _ _ _ us hl => match us, hl with | [_, _, _], _ => rfl
  have C_moved := Cal.mk (PySem.W.mg_of X G a_moved) k_moved b_moved
  have F_History___init__ := fun_mk (st := s_History___init__) l_History___init__ c_History___init__ k_History___init__
  have b_History___init__ := F_History___init__.binds (ps := ["self", "tree", "moves"]) fun _ _ _ _ _ _ us hl => match us, hl with | [_, _, _], _ => rfl
  have C_History___init__ := CalM.mk k_History___init__ b_History___init__
  have F_History___eq__ := fun_mk (st := s_History___eq__) l_History___eq__ c_History___eq__ k_History___eq__
  have b_History___eq__ := F_History___eq__.binds (ps := ["self", "other"]) fun _ _ _ _ _ _ us hl => match us, hl with | [_, _], _ => rfl
  have C_History___eq__ := CalM.mk k_History___eq__ b_History___eq__
  have F_now := fun_mk (st := s_now) l_now c_now k_now
  have b_now := F_now.binds (ps := ["history"]) fun _ _ _ _ _ _ us hl => match us, hl with | [_], _ => rfl
  have C_now := Cal.mk (PySem.W.mg_of X G a_now) k_now b_now
  have F__law_hand := fun_mk (st := s__law_hand) l__law_hand c__law_hand k__law_hand
  have b__law_hand := F__law_hand.binds (ps := ["_law_script"]) fun _ _ _ _ _ _ us hl => match us, hl with | [_], _ => rfl
  have C__law_hand := Cal.mk (PySem.W.mg_of X G a__law_hand) k__law_hand b__law_hand
  have F__law_draw := fun_mk (st := s__law_draw) l__law_draw c__law_draw k__law_draw
  have b__law_draw := F__law_draw.binds (ps := ["_law_hand_here", "_law_many"]) fun _ _ _ _ _ _ us hl => match us, hl with | [_, _], _ => rfl
  have C__law_draw := Cal.mk (PySem.W.mg_of X G a__law_draw) k__law_draw b__law_draw
  have F__law_tree := fun_mk (st := s__law_tree) l__law_tree c__law_tree k__law_tree
  have b__law_tree := F__law_tree.binds (ps := ["_law_hand_here", "_law_many"]) fun _ _ _ _ _ _ us hl => match us, hl with | [_, _], _ => rfl
  have C__law_tree := Cal.mk (PySem.W.mg_of X G a__law_tree) k__law_tree b__law_tree
  have F__law_row := fun_mk (st := s__law_row) l__law_row c__law_row k__law_row
  have b__law_row := F__law_row.binds (ps := ["_law_hung", "_law_place"]) fun _ _ _ _ _ _ us hl => match us, hl with | [_, _], _ => rfl
  have C__law_row := Cal.mk (PySem.W.mg_of X G a__law_row) k__law_row b__law_row
  have F__law_beneath := fun_mk (st := s__law_beneath) l__law_beneath c__law_beneath k__law_beneath
  have b__law_beneath := F__law_beneath.binds (ps := ["_law_hung", "_law_place"]) fun _ _ _ _ _ _ us hl => match us, hl with | [_, _], _ => rfl
  have C__law_beneath := Cal.mk (PySem.W.mg_of X G a__law_beneath) k__law_beneath b__law_beneath
  have F__law_put := fun_mk (st := s__law_put) l__law_put c__law_put k__law_put
  have b__law_put := F__law_put.binds (ps := ["_law_hung", "_law_block", "_law_place"]) fun _ _ _ _ _ _ us hl => match us, hl with | [_, _, _], _ => rfl
  have C__law_put := Cal.mk (PySem.W.mg_of X G a__law_put) k__law_put b__law_put
  have F__law_moves := fun_mk (st := s__law_moves) l__law_moves c__law_moves k__law_moves
  have b__law_moves := F__law_moves.binds (ps := ["_law_hand_here", "_law_hung", "_law_many"]) fun _ _ _ _ _ _ us hl => match us, hl with | [_, _, _], _ => rfl
  have C__law_moves := Cal.mk (PySem.W.mg_of X G a__law_moves) k__law_moves b__law_moves
  have F__law_deep := fun_mk (st := s__law_deep) l__law_deep c__law_deep k__law_deep
  have b__law_deep := F__law_deep.binds (ps := ["_law_kind"]) fun _ _ _ _ _ _ us hl => match us, hl with | [_], _ => rfl
  have C__law_deep := Cal.mk (PySem.W.mg_of X G a__law_deep) k__law_deep b__law_deep
  have F__law_odd := fun_mk (st := s__law_odd) l__law_odd c__law_odd k__law_odd
  have b__law_odd := F__law_odd.binds (ps := ["_law_hand_here", "_law_thing"]) fun _ _ _ _ _ _ us hl => match us, hl with | [_, _], _ => rfl
  have C__law_odd := Cal.mk (PySem.W.mg_of X G a__law_odd) k__law_odd b__law_odd
  have F__law_is_whole := fun_mk (st := s__law_is_whole) l__law_is_whole c__law_is_whole k__law_is_whole
  have b__law_is_whole := F__law_is_whole.binds (ps := ["_law_thing", "_law_least", "_law_most"]) fun _ _ _ _ _ _ us hl => match us, hl with | [_, _, _], _ => rfl
  have C__law_is_whole := Cal.mk (PySem.W.mg_of X G a__law_is_whole) k__law_is_whole b__law_is_whole
  have F__law_due := fun_mk (st := s__law_due) l__law_due c__law_due k__law_due
  have b__law_due := F__law_due.binds (ps := ["_law_hung", "_law_moves_here"]) fun _ _ _ _ _ _ us hl => match us, hl with | [_, _], _ => rfl
  have C__law_due := Cal.mk (PySem.W.mg_of X G a__law_due) k__law_due b__law_due
  have F__law_answer := fun_mk (st := s__law_answer) l__law_answer c__law_answer k__law_answer
  have b__law_answer := F__law_answer.binds (ps := ["_law_tree_here", "_law_moves_here"]) fun _ _ _ _ _ _ us hl => match us, hl with | [_, _], _ => rfl
  have C__law_answer := Cal.mk (PySem.W.mg_of X G a__law_answer) k__law_answer b__law_answer
  have F__law_bent := fun_mk (st := s__law_bent) l__law_bent c__law_bent k__law_bent
  have b__law_bent := F__law_bent.binds (ps := ["_law_hand_here", "_law_many", "_law_moves_here", "_law_tree_here"]) fun _ _ _ _ _ _ us hl => match us, hl with | [_, _, _, _], _ => rfl
  have C__law_bent := Cal.mk (PySem.W.mg_of X G a__law_bent) k__law_bent b__law_bent
  have F_law := fun_mk (st := s_law) l_law c_law k_law
  have b_law := F_law.binds (ps := ["_law_script"]) fun _ _ _ _ _ _ us hl => match us, hl with | [_], _ => rfl
  have C_law := Cal.mk (PySem.W.mg_of X G a_law) k_law b_law
  have B : Bl ⟨c_VoteError, c_BadTree, c_NoBlock, c_NoPlace, c_Beneath, c_BadHistory, c_Tree, c_History, t_MOST_BLOCKS, t_MOST_MOVES⟩ mg := ⟨PySem.W.mg_none_of X G z_ValueError, PySem.W.mg_none_of X G z_abs, PySem.W.mg_none_of X G z_all, PySem.W.mg_none_of X G z_bool, PySem.W.mg_none_of X G z_dict, PySem.W.mg_none_of X G z_enumerate, PySem.W.mg_none_of X G z_int, PySem.W.mg_none_of X G z_isinstance, PySem.W.mg_none_of X G z_len, PySem.W.mg_none_of X G z_list, PySem.W.mg_none_of X G z_range, PySem.W.mg_none_of X G z_sorted, PySem.W.mg_none_of X G z_str, PySem.W.mg_none_of X G z_super, PySem.W.mg_none_of X G z_tuple, PySem.W.mg_of X G n_VoteError, PySem.W.mg_of X G n_BadTree, PySem.W.mg_of X G n_NoBlock, PySem.W.mg_of X G n_NoPlace, PySem.W.mg_of X G n_Beneath, PySem.W.mg_of X G n_BadHistory, PySem.W.mg_of X G n_Tree, PySem.W.mg_of X G n_History, PySem.W.mg_of X G n_MOST_BLOCKS, PySem.W.mg_of X G n_MOST_MOVES⟩
  have hcTree : Cls K c_Tree := ⟨pgTree, hdTree, poTree, saTree⟩
  have hMTree : Mk K c_Tree f_Tree___init__ := ⟨mkTree, a_Tree___init__, i_Tree___init__, kcTree⟩
  have hITree : IsC K c_Tree := ⟨hcTree, haTree, spO, tkO, hmTree, if_pos (beq_self_eq_true _), kit_ref rfl icTree tyTree (sub_tuple K c_Tree)⟩
  have hcHistory : Cls K c_History := ⟨pgHistory, hdHistory, poHistory, saHistory⟩
  have hMHistory : Mk K c_History f_History___init__ := ⟨mkHistory, a_History___init__, i_History___init__, kcHistory⟩
  have hIHistory : IsC K c_History := ⟨hcHistory, haHistory, spO, tkO, hmHistory, if_pos (beq_self_eq_true _), kit_ref rfl icHistory tyHistory (sub_tuple K c_History)⟩
  have hNHistory : OwnN K c_History f_History___eq__ := ⟨⟨nmNHistory, qNHistory, NNHistory, bsNHistory, hdNHistory, snNHistory, subNHistory, abNHistory, colNHistory, ddNHistory, w0History, w1History, w2History, w3History, w5History, newNHistory, xNHistory, okNHistory, eqNHistory, neNHistory⟩, tqNHistory⟩
  have hOHistory : OwnQ K c_History f_History___eq__ := ⟨a_History___eq__, i_History___eq__⟩
  have hOTree : OwnQ K c_Tree f_Tree___eq__ := ⟨a_Tree___eq__, i_Tree___eq__⟩
  have hXBadTree : OexC K c_BadTree := ⟨⟨nmBadTree, qBadTree, NBadTree, bsBadTree, bmBadTree, snBadTree, subBadTree, abBadTree, colBadTree, ddBadTree, m0BadTree, m1BadTree, m2BadTree, m3BadTree, m5BadTree, xLBadTree, rvBadTree⟩, saEBadTree, exEBadTree, tyEBadTree, kcEBadTree⟩
  have hEBadTree : ExcF K c_BadTree f_BadTree___init__ "part" := ⟨hXBadTree, a_BadTree___init__, tiEBadTree, noEBadTree⟩
  have hXBadHistory : OexC K c_BadHistory := ⟨⟨nmBadHistory, qBadHistory, NBadHistory, bsBadHistory, bmBadHistory, snBadHistory, subBadHistory, abBadHistory, colBadHistory, ddBadHistory, m0BadHistory, m1BadHistory, m2BadHistory, m3BadHistory, m5BadHistory, xLBadHistory, rvBadHistory⟩, saEBadHistory, exEBadHistory, tyEBadHistory, kcEBadHistory⟩
  have hEBadHistory : ExcF K c_BadHistory f_BadHistory___init__ "part" := ⟨hXBadHistory, a_BadHistory___init__, tiEBadHistory, noEBadHistory⟩
  have hCBadHistory : L2.ExcC K c_BadHistory := ⟨gaEBadHistory, ggEBadHistory, exEBadHistory, hdEBadHistory, haEBadHistory, spO, tkO, hmEBadHistory⟩
  have hFBadHistory : XfC K c_BadHistory := ⟨gaEBadHistory, ggEBadHistory, exEBadHistory, hdEBadHistory⟩
  have hUNoBlock : SupC P K c_NoBlock f_UNoBlock := ⟨⟨⟨nmUNoBlock, qUNoBlock, NUNoBlock, bsUNoBlock, bmUNoBlock, snUNoBlock, subUNoBlock, abUNoBlock, colUNoBlock, ddUNoBlock, u0NoBlock, u1NoBlock, u2NoBlock, u3NoBlock, u5NoBlock, xUNoBlock, rvUNoBlock⟩, saUNoBlock, exUNoBlock, tyUNoBlock, kcUNoBlock⟩, iUNoBlock, tiUNoBlock, ⟨ocUNoBlock, odUNoBlock, kVUNoBlock, docUNoBlock, pmUNoBlock, anUNoBlock, cdUNoBlock, ctUNoBlock, slUNoBlock, ccUNoBlock, qqUNoBlock, eNoBlock, p0NoBlock, p1NoBlock, p2NoBlock, p3NoBlock, p4NoBlock, lUNoBlock, cUNoBlock, ⟨clUNoBlock, cldUNoBlock, cslUNoBlock, ceUNoBlock⟩, cclUNoBlock, cddUNoBlock, vsUNoBlock, ccsUNoBlock, fileUNoBlock, tfUNoBlock, coUNoBlock, vsU2NoBlock, fiUNoBlock, evUNoBlock⟩, upUNoBlock, meUNoBlock, veUNoBlock, opU, tpU⟩
  have hUNoPlace : SupC P K c_NoPlace f_UNoPlace := ⟨⟨⟨nmUNoPlace, qUNoPlace, NUNoPlace, bsUNoPlace, bmUNoPlace, snUNoPlace, subUNoPlace, abUNoPlace, colUNoPlace, ddUNoPlace, u0NoPlace, u1NoPlace, u2NoPlace, u3NoPlace, u5NoPlace, xUNoPlace, rvUNoPlace⟩, saUNoPlace, exUNoPlace, tyUNoPlace, kcUNoPlace⟩, iUNoPlace, tiUNoPlace, ⟨ocUNoPlace, odUNoPlace, kVUNoPlace, docUNoPlace, pmUNoPlace, anUNoPlace, cdUNoPlace, ctUNoPlace, slUNoPlace, ccUNoPlace, qqUNoPlace, eNoPlace, p0NoPlace, p1NoPlace, p2NoPlace, p3NoPlace, p4NoPlace, lUNoPlace, cUNoPlace, ⟨clUNoPlace, cldUNoPlace, cslUNoPlace, ceUNoPlace⟩, cclUNoPlace, cddUNoPlace, vsUNoPlace, ccsUNoPlace, fileUNoPlace, tfUNoPlace, coUNoPlace, vsU2NoPlace, fiUNoPlace, evUNoPlace⟩, upUNoPlace, meUNoPlace, veUNoPlace, opU, tpU⟩
  have hUBeneath : SupC P K c_Beneath f_UBeneath := ⟨⟨⟨nmUBeneath, qUBeneath, NUBeneath, bsUBeneath, bmUBeneath, snUBeneath, subUBeneath, abUBeneath, colUBeneath, ddUBeneath, u0Beneath, u1Beneath, u2Beneath, u3Beneath, u5Beneath, xUBeneath, rvUBeneath⟩, saUBeneath, exUBeneath, tyUBeneath, kcUBeneath⟩, iUBeneath, tiUBeneath, ⟨ocUBeneath, odUBeneath, kVUBeneath, docUBeneath, pmUBeneath, anUBeneath, cdUBeneath, ctUBeneath, slUBeneath, ccUBeneath, qqUBeneath, eBeneath, p0Beneath, p1Beneath, p2Beneath, p3Beneath, p4Beneath, lUBeneath, cUBeneath, ⟨clUBeneath, cldUBeneath, cslUBeneath, ceUBeneath⟩, cclUBeneath, cddUBeneath, vsUBeneath, ccsUBeneath, fileUBeneath, tfUBeneath, coUBeneath, vsU2Beneath, fiUBeneath, evUBeneath⟩, upUBeneath, meUBeneath, veUBeneath, opU, tpU⟩
  have hS : InsK K ⟨c_VoteError, c_BadTree, c_NoBlock, c_NoPlace, c_Beneath, c_BadHistory, c_Tree, c_History, t_MOST_BLOCKS, t_MOST_MOVES⟩ := ⟨hITree, fun T h => by
    rcases h with rfl | rfl | rfl | rfl
    · exact kit_typ (by decide +kernel) swint
    · exact kit_typ (by decide +kernel) swbool
    · exact kit_typ (by decide +kernel) swtuple
    · exact kit_typ (by decide +kernel) swlist⟩
  have hT : TyAp K ⟨c_VoteError, c_BadTree, c_NoBlock, c_NoPlace, c_Beneath, c_BadHistory, c_Tree, c_History, t_MOST_BLOCKS, t_MOST_MOVES⟩ := ⟨fun T h => by
    rcases h with rfl | rfl | rfl | rfl | rfl | rfl | rfl
    · exact kit_ref rfl icTree tyTree (sub_bt K c_Tree (by decide +kernel : PySem.fastBuiltinMro "NoneType" = some [.type "NoneType", .type "object"]) rfl)
    · exact kit_ref rfl icTree tyTree (sub_bt K c_Tree (by decide +kernel : PySem.fastBuiltinMro "bool" = some [.type "bool", .type "int", .type "object"]) rfl)
    · exact kit_ref rfl icTree tyTree (sub_bt K c_Tree (by decide +kernel : PySem.fastBuiltinMro "int" = some [.type "int", .type "object"]) rfl)
    · exact kit_ref rfl icTree tyTree (sub_bt K c_Tree (by decide +kernel : PySem.fastBuiltinMro "str" = some [.type "str", .type "object"]) rfl)
    · exact kit_ref rfl icTree tyTree (sub_bt K c_Tree (by decide +kernel : PySem.fastBuiltinMro "list" = some [.type "list", .type "object"]) rfl)
    · exact kit_ref rfl icTree tyTree (sub_bt K c_Tree (by decide +kernel : PySem.fastBuiltinMro "tuple" = some [.type "tuple", .type "object"]) rfl)
    · exact kit_ref rfl icTree tyTree (sub_bt K c_Tree (by decide +kernel : PySem.fastBuiltinMro "dict" = some [.type "dict", .type "object"]) rfl)⟩
  have hMX : MvX K ⟨c_VoteError, c_BadTree, c_NoBlock, c_NoPlace, c_Beneath, c_BadHistory, c_Tree, c_History, t_MOST_BLOCKS, t_MOST_MOVES⟩ := ⟨fun c h => by
    rcases h with rfl | rfl | rfl
    · exact exm3 (PySem.W.exm_ref exUNoBlock hdUNoBlock tyUNoBlock suNoBlock_NoBlock) (PySem.W.exm_ref exUNoPlace hdUNoPlace tyUNoPlace suNoBlock_NoPlace) (PySem.W.exm_ref exUBeneath hdUBeneath tyUBeneath suNoBlock_Beneath) rfl
    · exact exm3 (PySem.W.exm_ref exUNoBlock hdUNoBlock tyUNoBlock suNoPlace_NoBlock) (PySem.W.exm_ref exUNoPlace hdUNoPlace tyUNoPlace suNoPlace_NoPlace) (PySem.W.exm_ref exUBeneath hdUBeneath tyUBeneath suNoPlace_Beneath) rfl
    · exact exm3 (PySem.W.exm_ref exUNoBlock hdUNoBlock tyUNoBlock suBeneath_NoBlock) (PySem.W.exm_ref exUNoPlace hdUNoPlace tyUNoPlace suBeneath_NoPlace) (PySem.W.exm_ref exUBeneath hdUBeneath tyUBeneath suBeneath_Beneath) rfl⟩
  have hHC : HisC K ⟨c_VoteError, c_BadTree, c_NoBlock, c_NoPlace, c_Beneath, c_BadHistory, c_Tree, c_History, t_MOST_BLOCKS, t_MOST_MOVES⟩ := ⟨hcHistory, noHistory_tree, noHistory_moves⟩
  have hR : ErrH K ⟨c_VoteError, c_BadTree, c_NoBlock, c_NoPlace, c_Beneath, c_BadHistory, c_Tree, c_History, t_MOST_BLOCKS, t_MOST_MOVES⟩ := ⟨hFBadHistory, noEBadHistory, PySem.W.exm_ref exEBadHistory hdEBadHistory tyEBadHistory sBH⟩
  refine ⟨PySem.W.fnOf "law" "law" (defArgs s_law) (defBody s_law) (defScope s_law) .none kV_law dc_law pm_law an_law cd_law ct_law, fun s v => .of_eq rfl, fun base _ _ => ?_⟩
  have G_draw := ok_draw (P := P) (w := w) (base := base) F__law_draw B
  have G_hand := ok_hand (P := P) (w := w) (base := base) F__law_hand B
  have G_within := ok_within (P := P) (w := w) (base := base) F_is_within B
  have G_withinK := ok_withinK (P := P) (w := w) (base := base) F_is_within B hS
  have G_comes := ok_comes (P := P) (w := w) (base := base) F__comes_to_head B
  have G_bad := ok_bad (mg := mg) (P := P) (w := w) (base := base) (Z := ⟨c_VoteError, c_BadTree, c_NoBlock, c_NoPlace, c_Beneath, c_BadHistory, c_Tree, c_History, t_MOST_BLOCKS, t_MOST_MOVES⟩) F_BadTree___init__ hEBadTree
  have G_tree := ok_tree F_Tree___init__ B hcTree noTree_hung C_is_within G_within C__comes_to_head G_comes C_BadTree___init__ G_bad hEBadTree
  have G_isb := ok_isBlock F_is_block B hcTree noTree_hung C_is_within G_within
  have G_isp := ok_isPlace F_is_place B hcTree noTree_hung C_is_within G_within
  have G_place := ok_place F_place_of B hcTree noTree_hung C_is_block G_isb
  have G_par := ok_parents F_parents B C_place_of G_place
  have G_ben := ok_beneath F_beneath B hcTree noTree_hung C_is_place G_isp C_parents G_par
  have G_isbK := ok_isBlockK F_is_block B hcTree noTree_hung C_is_within G_withinK
  have G_ispK := ok_isPlaceK F_is_place B hcTree noTree_hung C_is_within G_withinK
  have G_moved := ok_movedK F_moved B hcTree noTree_hung hUNoBlock hUNoPlace hUBeneath C_is_block G_isbK C_is_place G_ispK C_beneath G_ben C_Tree___init__ G_tree hMTree
  have G_pair := ok_pairK (P := P) (w := w) (base := base) F_is_pair B hS
  have G_badH := ok_badH (mg := mg) (P := P) (w := w) (base := base) (Z := ⟨c_VoteError, c_BadTree, c_NoBlock, c_NoPlace, c_Beneath, c_BadHistory, c_Tree, c_History, t_MOST_BLOCKS, t_MOST_MOVES⟩) F_BadHistory___init__ hEBadHistory
  have G_badHot := ok_badHot (mg := mg) (P := P) (w := w) (base := base) (Z := ⟨c_VoteError, c_BadTree, c_NoBlock, c_NoPlace, c_Beneath, c_BadHistory, c_Tree, c_History, t_MOST_BLOCKS, t_MOST_MOVES⟩) F_BadHistory___init__ hEBadHistory
  have G_hist := ok_hist F_History___init__ B hS hT hMX hHC C_is_pair G_pair C_moved G_moved C_BadHistory___init__ G_badH G_badHot hEBadHistory
  have G_eqT := ok_eqT (P := P) (w := w) (base := base) F_Tree___eq__ B hITree noTree_hung
  have G_eqH := ok_eqH F_History___eq__ B hIHistory hHC C_Tree___eq__ G_eqT hOTree
  have G_now := ok_now F_now B hHC hcTree noTree_hung C_Tree___init__ G_tree hMTree
  have G_wtree := ok_wtree F__law_tree B C__law_draw G_draw
  have G_row := ok_row (P := P) (w := w) (base := base) F__law_row B
  have G_inner := ok_inner F__law_beneath B C__law_row G_row
  have G_put := ok_putT (P := P) (w := w) (base := base) F__law_put B
  have G_movs := ok_movs F__law_moves B C__law_draw G_draw C__law_beneath G_inner C__law_put G_put
  have G_whole := ok_wholeK (P := P) (w := w) (base := base) F__law_is_whole B hS
  have G_deep := ok_deepH (P := P) (w := w) (base := base) (Z := ⟨c_VoteError, c_BadTree, c_NoBlock, c_NoPlace, c_Beneath, c_BadHistory, c_Tree, c_History, t_MOST_BLOCKS, t_MOST_MOVES⟩) F__law_deep B
  have G_odd := ok_oddH F__law_odd B C__law_draw G_draw C__law_deep G_deep
  have G_due := ok_dueH F__law_due B hS C__law_is_whole G_whole C__law_beneath G_inner C__law_put G_put
  have G_ans := ok_ans F__law_answer B hR C_History___init__ G_hist hMHistory
  have G_bent := ok_bentH F__law_bent B C__law_draw G_draw C__law_odd G_odd
  exact ok_law34 F_law B hcTree noTree_hung hHC C__law_hand G_hand C__law_draw G_draw C__law_tree G_wtree C__law_moves G_movs C__law_bent G_bent C__law_odd G_odd C__law_due G_due C__law_answer G_ans C_now G_now C_History___eq__ G_eqH hOHistory hNHistory C_History___init__ G_hist hMHistory C_Tree___init__ G_tree hMTree
end Fv
open PySem PySem.W PyProof.Rows in
set_option maxRecDepth 100000 in
set_option maxHeartbeats 0 in
theorem PySem.Challenge.cw_foldervotes_k34_histories_judged_holds : PySem.Challenge.rw_foldervotes_k34_histories_judged.Holds := by
  w_on; o_law; k_headL; (case hw => w_witness2)
  k_fill
  refine L2.walk_of (l := PySem.Challenge.rw_foldervotes_k34_histories_judged) (n := 63) (k := 10) (x := "_law_script") (CX := fun _ => L2.CX0) (sp := fun w => Fv.spLaw _) rfl (by decide) rfl ⟨rfl, by decide, by decide⟩ (fun w h Y => PySem.W.kIn_of Y) ?F (fun _ _ a ns hl _ hS => ⟨a, ns, rfl, hS, hl, fun _ => rfl⟩) (fun _ _ _ _ _ h => h)
  case F =>
   as_aux_lemma =>
    intro w mg fa h KX G hmg
    refine' Fv.all_mk KX G hmg ?n_VoteError ?n_BadTree ?n_NoBlock ?n_NoPlace ?n_Beneath ?n_BadHistory ?n_Tree ?n_History ?n_MOST_BLOCKS ?n_MOST_MOVES ?z_ValueError ?z_abs ?z_all ?z_bool ?z_dict ?z_enumerate ?z_int ?z_isinstance ?z_len ?z_list ?z_range ?z_sorted ?z_str ?z_super ?z_tuple ?a_BadTree___init__ ?i_BadTree___init__ ?l_BadTree___init__ ?c_BadTree___init__ ?k_BadTree___init__ ?a_BadHistory___init__ ?i_BadHistory___init__ ?l_BadHistory___init__ ?c_BadHistory___init__ ?k_BadHistory___init__ ?a_is_within ?l_is_within ?c_is_within ?k_is_within ?a_is_pair ?l_is_pair ?c_is_pair ?k_is_pair ?a_Tree___init__ ?i_Tree___init__ ?l_Tree___init__ ?c_Tree___init__ ?k_Tree___init__ ?a_Tree___eq__ ?i_Tree___eq__ ?l_Tree___eq__ ?c_Tree___eq__ ?k_Tree___eq__ ?a__comes_to_head ?l__comes_to_head ?c__comes_to_head ?k__comes_to_head ?a_is_block ?l_is_block ?c_is_block ?k_is_block ?a_is_place ?l_is_place ?c_is_place ?k_is_place ?a_place_of ?l_place_of ?c_place_of ?k_place_of ?a_parents ?l_parents ?c_parents ?k_parents ?a_beneath ?l_beneath ?c_beneath ?k_beneath ?a_moved ?l_moved ?c_moved ?k_moved ?a_History___init__ ?i_History___init__ ?l_History___init__ ?c_History___init__ ?k_History___init__ ?a_History___eq__ ?i_History___eq__ ?l_History___eq__ ?c_History___eq__ ?k_History___eq__ ?a_now ?l_now ?c_now ?k_now ?a__law_hand ?l__law_hand ?c__law_hand ?k__law_hand ?a__law_draw ?l__law_draw ?c__law_draw ?k__law_draw ?a__law_tree ?l__law_tree ?c__law_tree ?k__law_tree ?a__law_row ?l__law_row ?c__law_row ?k__law_row ?a__law_beneath ?l__law_beneath ?c__law_beneath ?k__law_beneath ?a__law_put ?l__law_put ?c__law_put ?k__law_put ?a__law_moves ?l__law_moves ?c__law_moves ?k__law_moves ?a__law_deep ?l__law_deep ?c__law_deep ?k__law_deep ?a__law_odd ?l__law_odd ?c__law_odd ?k__law_odd ?a__law_is_whole ?l__law_is_whole ?c__law_is_whole ?k__law_is_whole ?a__law_due ?l__law_due ?c__law_due ?k__law_due ?a__law_answer ?l__law_answer ?c__law_answer ?k__law_answer ?a__law_bent ?l__law_bent ?c__law_bent ?k__law_bent ?a_law ?l_law ?c_law ?k_law ?pgTree ?hdTree ?poTree ?saTree ?mkTree ?kcTree ?noTree_hung ?haTree ?hmTree ?icTree ?tyTree ?spO ?tkO ?pgHistory ?hdHistory ?poHistory ?saHistory ?mkHistory ?kcHistory ?noHistory_tree ?noHistory_moves ?haHistory ?hmHistory ?icHistory ?tyHistory ?xNHistory ?okNHistory ?eqNHistory ?neNHistory ?tqNHistory ?xLBadTree ?rvBadTree ?saEBadTree ?exEBadTree ?tyEBadTree ?kcEBadTree ?tiEBadTree ?noEBadTree ?xLBadHistory ?rvBadHistory ?saEBadHistory ?exEBadHistory ?tyEBadHistory ?kcEBadHistory ?tiEBadHistory ?noEBadHistory ?gaEBadHistory ?ggEBadHistory ?hdEBadHistory ?haEBadHistory ?hmEBadHistory ?xUNoBlock ?rvUNoBlock ?saUNoBlock ?exUNoBlock ?tyUNoBlock ?kcUNoBlock ?iUNoBlock ?tiUNoBlock ?lUNoBlock ?cUNoBlock ?ceUNoBlock ?coUNoBlock ?vsU2NoBlock ?fiUNoBlock ?evUNoBlock ?upUNoBlock ?meUNoBlock ?veUNoBlock ?opU ?tpU ?xUNoPlace ?rvUNoPlace ?saUNoPlace ?exUNoPlace ?tyUNoPlace ?kcUNoPlace ?iUNoPlace ?tiUNoPlace ?lUNoPlace ?cUNoPlace ?ceUNoPlace ?coUNoPlace ?vsU2NoPlace ?fiUNoPlace ?evUNoPlace ?upUNoPlace ?meUNoPlace ?veUNoPlace ?xUBeneath ?rvUBeneath ?saUBeneath ?exUBeneath ?tyUBeneath ?kcUBeneath ?iUBeneath ?tiUBeneath ?lUBeneath ?cUBeneath ?ceUBeneath ?coUBeneath ?vsU2Beneath ?fiUBeneath ?evUBeneath ?upUBeneath ?meUBeneath ?veUBeneath ?swint ?swbool ?swtuple ?swlist ?hdUNoBlock ?hdUNoPlace ?hdUBeneath ?suNoBlock_NoBlock ?suNoBlock_NoPlace ?suNoBlock_Beneath ?suNoPlace_NoBlock ?suNoPlace_NoPlace ?suNoPlace_Beneath ?suBeneath_NoBlock ?suBeneath_NoPlace ?suBeneath_Beneath ?sBH
    (case n_VoteError => k_is)
    (case n_BadTree => k_is)
    (case n_NoBlock => k_is)
    (case n_NoPlace => k_is)
    (case n_Beneath => k_is)
    (case n_BadHistory => k_is)
    (case n_Tree => k_is)
    (case n_History => k_is)
    (case n_MOST_BLOCKS => k_is)
    (case n_MOST_MOVES => k_is)
    (case z_ValueError => k_is)
    (case z_abs => k_is)
    (case z_all => k_is)
    (case z_bool => k_is)
    (case z_dict => k_is)
    (case z_enumerate => k_is)
    (case z_int => k_is)
    (case z_isinstance => k_is)
    (case z_len => k_is)
    (case z_list => k_is)
    (case z_range => k_is)
    (case z_sorted => k_is)
    (case z_str => k_is)
    (case z_super => k_is)
    (case z_tuple => k_is)
    (case a_BadTree___init__ => k_is)
    (case i_BadTree___init__ => k_is)
    (case l_BadTree___init__ => k_is)
    (case c_BadTree___init__ => k_is)
    (case k_BadTree___init__ => k_is)
    (case a_BadHistory___init__ => k_is)
    (case i_BadHistory___init__ => k_is)
    (case l_BadHistory___init__ => k_is)
    (case c_BadHistory___init__ => k_is)
    (case k_BadHistory___init__ => k_is)
    (case a_is_within => k_is)
    (case l_is_within => k_is)
    (case c_is_within => k_is)
    (case k_is_within => k_is)
    (case a_is_pair => k_is)
    (case l_is_pair => k_is)
    (case c_is_pair => k_is)
    (case k_is_pair => k_is)
    (case a_Tree___init__ => k_is)
    (case i_Tree___init__ => k_is)
    (case l_Tree___init__ => k_is)
    (case c_Tree___init__ => k_is)
    (case k_Tree___init__ => k_is)
    (case a_Tree___eq__ => k_is)
    (case i_Tree___eq__ => k_is)
    (case l_Tree___eq__ => k_is)
    (case c_Tree___eq__ => k_is)
    (case k_Tree___eq__ => k_is)
    (case a__comes_to_head => k_is)
    (case l__comes_to_head => k_is)
    (case c__comes_to_head => k_is)
    (case k__comes_to_head => k_is)
    (case a_is_block => k_is)
    (case l_is_block => k_is)
    (case c_is_block => k_is)
    (case k_is_block => k_is)
    (case a_is_place => k_is)
    (case l_is_place => k_is)
    (case c_is_place => k_is)
    (case k_is_place => k_is)
    (case a_place_of => k_is)
    (case l_place_of => k_is)
    (case c_place_of => k_is)
    (case k_place_of => k_is)
    (case a_parents => k_is)
    (case l_parents => k_is)
    (case c_parents => k_is)
    (case k_parents => k_is)
    (case a_beneath => k_is)
    (case l_beneath => k_is)
    (case c_beneath => k_is)
    (case k_beneath => k_is)
    (case a_moved => k_is)
    (case l_moved => k_is)
    (case c_moved => k_is)
    (case k_moved => k_is)
    (case a_History___init__ => k_is)
    (case i_History___init__ => k_is)
    (case l_History___init__ => k_is)
    (case c_History___init__ => k_is)
    (case k_History___init__ => k_is)
    (case a_History___eq__ => k_is)
    (case i_History___eq__ => k_is)
    (case l_History___eq__ => k_is)
    (case c_History___eq__ => k_is)
    (case k_History___eq__ => k_is)
    (case a_now => k_is)
    (case l_now => k_is)
    (case c_now => k_is)
    (case k_now => k_is)
    (case a__law_hand => k_is)
    (case l__law_hand => k_is)
    (case c__law_hand => k_is)
    (case k__law_hand => k_is)
    (case a__law_draw => k_is)
    (case l__law_draw => k_is)
    (case c__law_draw => k_is)
    (case k__law_draw => k_is)
    (case a__law_tree => k_is)
    (case l__law_tree => k_is)
    (case c__law_tree => k_is)
    (case k__law_tree => k_is)
    (case a__law_row => k_is)
    (case l__law_row => k_is)
    (case c__law_row => k_is)
    (case k__law_row => k_is)
    (case a__law_beneath => k_is)
    (case l__law_beneath => k_is)
    (case c__law_beneath => k_is)
    (case k__law_beneath => k_is)
    (case a__law_put => k_is)
    (case l__law_put => k_is)
    (case c__law_put => k_is)
    (case k__law_put => k_is)
    (case a__law_moves => k_is)
    (case l__law_moves => k_is)
    (case c__law_moves => k_is)
    (case k__law_moves => k_is)
    (case a__law_deep => k_is)
    (case l__law_deep => k_is)
    (case c__law_deep => k_is)
    (case k__law_deep => k_is)
    (case a__law_odd => k_is)
    (case l__law_odd => k_is)
    (case c__law_odd => k_is)
    (case k__law_odd => k_is)
    (case a__law_is_whole => k_is)
    (case l__law_is_whole => k_is)
    (case c__law_is_whole => k_is)
    (case k__law_is_whole => k_is)
    (case a__law_due => k_is)
    (case l__law_due => k_is)
    (case c__law_due => k_is)
    (case k__law_due => k_is)
    (case a__law_answer => k_is)
    (case l__law_answer => k_is)
    (case c__law_answer => k_is)
    (case k__law_answer => k_is)
    (case a__law_bent => k_is)
    (case l__law_bent => k_is)
    (case c__law_bent => k_is)
    (case k__law_bent => k_is)
    (case a_law => k_is)
    (case l_law => k_is)
    (case c_law => k_is)
    (case k_law => k_is)
    (case pgTree => k_is)
    (case hdTree => k_is)
    (case poTree => k_is)
    (case saTree => k_is)
    (case mkTree => k_is)
    (case kcTree => k_is)
    (case noTree_hung => k_is)
    (case haTree => k_is)
    (case hmTree => k_is)
    (case icTree => k_is)
    (case tyTree => k_is)
    (case spO => k_is)
    (case tkO => k_is)
    (case pgHistory => k_is)
    (case hdHistory => k_is)
    (case poHistory => k_is)
    (case saHistory => k_is)
    (case mkHistory => k_is)
    (case kcHistory => k_is)
    (case noHistory_tree => k_is)
    (case noHistory_moves => k_is)
    (case haHistory => k_is)
    (case hmHistory => k_is)
    (case icHistory => k_is)
    (case tyHistory => k_is)
    (case xNHistory => k_is)
    (case okNHistory => first | rfl | decide +kernel | kernel_rfl)
    (case eqNHistory => k_is)
    (case neNHistory => k_is)
    (case tqNHistory => k_is)
    (case xLBadTree => k_is)
    (case rvBadTree => decide +kernel)
    (case saEBadTree => k_is)
    (case exEBadTree => k_is)
    (case tyEBadTree => k_is)
    (case kcEBadTree => k_is)
    (case tiEBadTree => k_is)
    (case noEBadTree => k_is)
    (case xLBadHistory => k_is)
    (case rvBadHistory => decide +kernel)
    (case saEBadHistory => k_is)
    (case exEBadHistory => k_is)
    (case tyEBadHistory => k_is)
    (case kcEBadHistory => k_is)
    (case tiEBadHistory => k_is)
    (case noEBadHistory => k_is)
    (case gaEBadHistory => k_is)
    (case ggEBadHistory => k_is)
    (case hdEBadHistory => k_is)
    (case haEBadHistory => k_is)
    (case hmEBadHistory => k_is)
    (case xUNoBlock => k_is)
    (case rvUNoBlock => decide +kernel)
    (case saUNoBlock => k_is)
    (case exUNoBlock => k_is)
    (case tyUNoBlock => k_is)
    (case kcUNoBlock => k_is)
    (case iUNoBlock => k_is)
    (case tiUNoBlock => k_is)
    (case lUNoBlock => k_is)
    (case cUNoBlock => k_is)
    (case ceUNoBlock => k_is)
    (case coUNoBlock => k_is)
    (case vsU2NoBlock => rfl)
    (case fiUNoBlock => first | rfl | decide +kernel)
    (case evUNoBlock => exact fun _ _ _ _ _ => ⟨_, rfl⟩)
    (case upUNoBlock => ks_is)
    (case meUNoBlock => k_is)
    (case veUNoBlock => k_is)
    (case opU => k_is)
    (case tpU => first | rfl | decide +kernel)
    (case xUNoPlace => k_is)
    (case rvUNoPlace => decide +kernel)
    (case saUNoPlace => k_is)
    (case exUNoPlace => k_is)
    (case tyUNoPlace => k_is)
    (case kcUNoPlace => k_is)
    (case iUNoPlace => k_is)
    (case tiUNoPlace => k_is)
    (case lUNoPlace => k_is)
    (case cUNoPlace => k_is)
    (case ceUNoPlace => k_is)
    (case coUNoPlace => k_is)
    (case vsU2NoPlace => rfl)
    (case fiUNoPlace => first | rfl | decide +kernel)
    (case evUNoPlace => exact fun _ _ _ _ _ => ⟨_, rfl⟩)
    (case upUNoPlace => ks_is)
    (case meUNoPlace => k_is)
    (case veUNoPlace => k_is)
    (case xUBeneath => k_is)
    (case rvUBeneath => decide +kernel)
    (case saUBeneath => k_is)
    (case exUBeneath => k_is)
    (case tyUBeneath => k_is)
    (case kcUBeneath => k_is)
    (case iUBeneath => k_is)
    (case tiUBeneath => k_is)
    (case lUBeneath => k_is)
    (case cUBeneath => k_is)
    (case ceUBeneath => k_is)
    (case coUBeneath => k_is)
    (case vsU2Beneath => rfl)
    (case fiUBeneath => first | rfl | decide +kernel)
    (case evUBeneath => exact fun _ _ _ _ _ => ⟨_, rfl⟩)
    (case upUBeneath => ks_is)
    (case meUBeneath => k_is)
    (case veUBeneath => k_is)
    (case swint => k_is)
    (case swbool => k_is)
    (case swtuple => k_is)
    (case swlist => k_is)
    (case hdUNoBlock => k_is)
    (case hdUNoPlace => k_is)
    (case hdUBeneath => k_is)
    (case suNoBlock_NoBlock => k_is)
    (case suNoBlock_NoPlace => k_is)
    (case suNoBlock_Beneath => k_is)
    (case suNoPlace_NoBlock => k_is)
    (case suNoPlace_NoPlace => k_is)
    (case suNoPlace_Beneath => k_is)
    (case suBeneath_NoBlock => k_is)
    (case suBeneath_NoPlace => k_is)
    (case suBeneath_Beneath => k_is)
    (case sBH => k_is)
