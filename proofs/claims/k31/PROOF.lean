import PyProof.Rows.All
import Wide.All
import OpenK.AllK
import Wide.FinOn
import HandS.Base
import HandS.Call
import HandS.List
import HandS.Comp
import HandS.Ends
import HandS.Words
import HandS.Codes
import HandS.IsInst
import HandS.Flow
import HandS.Conv
import HandS.Iter
import KE.GoesEnum
import KE.GoesEnumKw
import KE.GoesMore
import HandS.Exc
import HandS.ExcOwn
import HandS.ExcInit
import HandS.TryOnly
import HandS.WordsExc
import KE.KExcIs
import HandS.ExcField
import HandS.ExcIs
import HandS.TupMul
import HandS.Sort
import KE.KExcSuper
import HandS.Small
import PyProof.TupleOfSeq
import HandS.TupAny
import HandS.Star
import HandS.SetFor
import PyProof.EqKinds
import PyProof.InstNe
import OpenK.KOwn
import KE.KIndexOf
import HandS.SortRule
import HandS.Zip
import HandS.Dict
import HandS.Style
import KE.KRevSl
import KE.KEqDict
import HandS.SuiteRaise
import HandS.RaiseFrom
import HandS.ExcInitHot
import KE.KTryMore
import HandS.Strs
import PyProof.Rows.SetFrom
import HandS.WordsDict
import HandS.DictComp
import HandS.Finally
import HandS.Walk
import KE.KDictItemsList
import KE.KDictZip
import KE.LtData
import KE.SortData
import PyProof.MinMaxWalk
import PyProof.WalksMore
import PySem.Challenge.RW_foldervotes_k31_words_refused
import HandS.Wide
import HandS.Lambda
import HandS.EndTab
import KE.KNestM
import KE.OsRunLaw
set_option Elab.async false
set_option linter.all false
namespace Fv
section
open PySem PySem.W PyProof.Rows
local macro_rules | `(tactic| k_head) => `(tactic| km_head)
set_option maxRecDepth 100000 in
set_option maxHeartbeats 0 in
open_top hd for PySem.Challenge.rw_foldervotes_k31_words_refused
end
end Fv
set_option maxRecDepth 100000
set_option maxHeartbeats 4000000
namespace Fv
open PySem PySem.Spec PyProof.Rows L2
section
variable {K : PySem.W.Frag} {σ : L2.St} {H H' H1 H2 : Hp} {i : Nat} {v x y : V} {Q : VK} {D : Ends} {t u : TS} {te ta tb : TE} {tt tt2 : TT} {a b p q : Addr} {o o' : HO} {xs ys : List V}
theorem x_seq (h : t { D with nx := u D } σ H) : tSeq t u D σ H := h
theorem x_next (h : D.nx σ H) : tNext D σ H := h
theorem x_drop (h : te σ H fun _ H1 => D.nx σ H1) : tDrop te D σ H := h
theorem x_ret (h : te σ H D.rt) : tRet te D σ H := h
theorem x_retN (h : D.rt .non H) : tRetN D σ H := h
theorem x_ifs (h : tt σ H fun b H1 => if b = true then t D σ H1 else u D σ H1) : tIfS tt t u D σ H := h
theorem x_asg {g : TG} (h : te σ H fun x H1 => g x σ H1 D.nx) : tAsg te g D σ H := h
theorem x_gname {R : L2.St → Hp → Prop} (h : R (σ.set i (some v)) H) : gName i v σ H R := h
theorem x_gsub {to ti : TE} {s : TSet} {R : L2.St → Hp → Prop} (h : to σ H fun o H1 => ti σ H1 fun i H2 => s o i v H2 fun H3 => R σ H3) : gSub to ti s v σ H R := h
theorem x_gtup {n : Nat} {g : TGs} {R : L2.St → Hp → Prop} (h : SqT K H a xs) (hl : xs.length = n) (q : g xs σ H R) : gTup K n g (.ref a) σ H R := ⟨a, xs, rfl, h, hl, q⟩
theorem x_gcons {g : TG} {gs : TGs} {R : L2.St → Hp → Prop} (h : g x σ H fun σ' H' => gs xs σ' H' R) : gCons g gs (x :: xs) σ H R := ⟨x, xs, rfl, h⟩
theorem x_gnil {R : L2.St → Hp → Prop} (h : R σ H) : gNil [] σ H R := ⟨rfl, h⟩
theorem x_var (h : σ[i]? = some (some v)) (q : Q v H) : tVar i σ H Q := ⟨v, h, q⟩
theorem x_c (q : Q v H) : tC v σ H Q := q
theorem x_op {r : R2} (h : ta σ H fun x H1 => tb σ H1 fun y H2 => r x y H2 Q) : tOp r ta tb σ H Q := h
theorem x_un {r : V → Hp → VK → Prop} (h : ta σ H fun x H1 => r x H1 Q) : tUn r ta σ H Q := h
theorem x_i0 {g : Int → Int → V} {i j : Int} (q : Q (g i j) H) : rI0 g (.int i) (.int j) H Q := ⟨i, j, rfl, rfl, q⟩
theorem x_i {C : Int → Int → Prop} {g : Int → Int → V} {i j : Int} (c : C i j) (q : Q (g i j) H) : rI C g (.int i) (.int j) H Q := ⟨i, j, rfl, rfl, c, q⟩
theorem x_u {g : Int → V} {i : Int} (q : Q (g i) H) : rU g (.int i) H Q := ⟨i, rfl, q⟩
theorem x_eq (h : scal x y = true) (q : Q (.bl (decide (x = y))) H) : rEq x y H Q := ⟨h, q⟩
theorem x_ne (h : scal x y = true) (q : Q (.bl (!decide (x = y))) H) : rNe x y H Q := ⟨h, q⟩
theorem x_eqI {i j : Int} (q : Q (.bl (decide (i = j))) H) : rEq (.int i) (.int j) H Q := ⟨rfl, by
  have e : decide (V.int i = V.int j) = decide (i = j) := by
    rw [Bool.eq_iff_iff]
    simp
  rw [e]
  exact q⟩
theorem x_neI {i j : Int} (q : Q (.bl (decide (i ≠ j))) H) : rNe (.int i) (.int j) H Q := ⟨rfl, by
  have e : (!decide (V.int i = V.int j)) = decide (i ≠ j) := by
    rw [Bool.eq_iff_iff]
    simp
  rw [e]
  exact q⟩
theorem x_ixL {i : Int} (h : SqL K H p xs) (ha : atI xs i = some v) (q : Q v H) : rIxL K (.ref p) (.int i) H Q := ⟨p, xs, i, v, rfl, rfl, h, ha, q⟩
theorem x_ixT {i : Int} (h : SqT K H p xs) (ha : atI xs i = some v) (q : Q v H) : rIxT K (.ref p) (.int i) H Q := ⟨p, xs, i, v, rfl, rfl, h, ha, q⟩
theorem x_setL {i : Int} {j : Nat} {R : Hp → Prop} (h : H p = some (.lst xs)) (hi : ixN xs.length i = some j) (q : R (upd H p (.lst (xs.set j v)))) : rSetL (.ref p) (.int i) v H R := ⟨p, xs, i, j, rfl, rfl, h, hi, q⟩
theorem x_test {R : Bool → Hp → Prop} (h : te σ H fun x H' => ∃ k, x = .bl k ∧ R k H') : tTest te σ H R := h
theorem x_b {R : Bool → Hp → Prop} (h : te σ H fun x H1 => ∃ c, x = .bl c ∧ R c H1) : tB te σ H R := h
theorem x_isb {c : Bool} {R : Bool → Prop} (h : R c) : ∃ k, V.bl c = .bl k ∧ R k := ⟨c, rfl, h⟩
theorem x_isi {c : Int} {R : Int → Prop} (h : R c) : ∃ k, V.int c = .int k ∧ R k := ⟨c, rfl, h⟩
theorem x_and {R : Bool → Hp → Prop} (h : tt σ H fun c H1 => if c = true then tt2 σ H1 R else R false H1) : tAnd tt tt2 σ H R := h
theorem x_or {R : Bool → Hp → Prop} (h : tt σ H fun c H1 => if c = true then R true H1 else tt2 σ H1 R) : tOr tt tt2 σ H R := h
theorem x_not {R : Bool → Hp → Prop} (h : tt σ H fun c H1 => R (!c) H1) : tNot tt σ H R := h
theorem x_andV (h : ta σ H fun x H1 => ∃ c, x = .bl c ∧ if c = true then tb σ H1 Q else Q (.bl false) H1) : tAndV ta tb σ H Q := h
theorem x_orV (h : ta σ H fun x H1 => ∃ c, x = .bl c ∧ if c = true then Q (.bl true) H1 else tb σ H1 Q) : tOrV ta tb σ H Q := h
theorem x_notV (h : ta σ H fun x H1 => ∃ c, x = .bl c ∧ Q (.bl (!c)) H1) : tNotV ta σ H Q := h
theorem x_ifx (h : tt σ H fun c H1 => if c = true then ta σ H1 Q else tb σ H1 Q) : tIf tt ta tb σ H Q := h
theorem x_nil {R : List V → Hp → Prop} (q : R [] H) : tNil σ H R := q
theorem x_cons {tr : TA} {R : List V → Hp → Prop} (h : te σ H fun x H1 => tr σ H1 fun xs H2 => R (x :: xs) H2) : tCons te tr σ H R := h
theorem x_cb {r : List V → Hp → VK → Prop} {ts : TA} (h : ts σ H fun vs H1 => r vs H1 Q) : tCB r ts σ H Q := h
theorem x_call {sp : Sp} {dvs : List V} {E : XK} {ts : TA} (h : ts σ H fun vs H1 => sp (vs ++ dvs) H1 Q E) : tCall sp dvs E ts σ H Q := h
theorem x_lst {ts : TA} (h : ts σ H fun xs H1 => xs.length ≤ sizeLine ∧ ∀ p, H1 p = none → Q (.ref p) (upd H1 p (.lst xs))) : tLst ts σ H Q := h
theorem x_tup {ts : TA} (h : ts σ H fun xs H1 => xs.length ≤ sizeLine ∧ ∀ p, H1 p = none → Q (.ref p) (upd H1 p (.tup xs))) : tTup ts σ H Q := h
theorem x_sl {r : V → Option Int → Option Int → Hp → VK → Prop} {tl th : TO} (h : te σ H fun x H1 => tl σ H1 fun l H2 => th σ H2 fun u H3 => r x l u H3 Q) : tSl r te tl th σ H Q := h
theorem x_nopart {R : Option Int → Hp → Prop} (h : R none H) : tNoPart σ H R := h
theorem x_part {R : Option Int → Hp → Prop} (h : te σ H fun x H1 => ∃ i, x = .int i ∧ R (some i) H1) : tPart te σ H R := h
theorem x_slL {lo hi : Option Int} (h : SqL K H a xs) (q : ∀ p, H p = none → Q (.ref p) (upd H p (.lst (cutV xs lo hi)))) : rSlL K (.ref a) lo hi H Q := ⟨a, xs, rfl, h, q⟩
theorem x_bm {T : String} {r : V → List V → Hp → VK → Prop} {ts : TA} (h : te σ H fun x H1 => tyV K T x H1 ∧ ts σ H1 fun xs H2 => r x xs H2 Q) : tBM K T r te ts σ H Q := h
theorem x_bm0 {T : String} {r : V → List V → Hp → VK → Prop} (h : te σ H fun x H1 => tyV K T x H1 ∧ r x [] H1 Q) : tBM0 K T r te σ H Q := h
theorem x_append (h : H p = some (.lst xs)) (hl : xs.length < sizeLine) (q : Q .non (upd H p (.lst (xs ++ [v])))) : rAppend (.ref p) [v] H Q := ⟨p, xs, v, rfl, rfl, h, hl, q⟩
theorem x_fld {C dx : Addr} {fs : List (Str × V)} {f : Str} (h : te σ H fun x H1 => ∃ a C dx fs v, x = .ref a ∧ H1 a = some (.ins C dx fs) ∧ Cls K C ∧ NoAttr K C f ∧ fs.lookup f = some v ∧ Q v H1) : tFld K te f σ H Q := h
theorem x_par {j : Nat} {ts : TA} (h : ts σ H fun vs H1 => ∃ v w, vs = [v, w] ∧ D.nx ((σ.set i (some v)).set j (some w)) H1) : tPar i j ts D σ H := h
theorem x_par2 {R : V → V → Prop} (h : R x y) : ∃ v w, [x, y] = [v, w] ∧ R v w := ⟨x, y, rfl, h⟩
theorem x_chain {r r' : R2} {tc : TE} (h : ta σ H fun x H1 => tb σ H1 fun y H2 => r x y H2 fun z H3 => ∃ k, z = .bl k ∧ (if k = true then tc σ H3 fun w' H4 => r' y w' H4 Q else Q (.bl false) H3)) : tChain r r' ta tb tc σ H Q := h
theorem x_aug {ti : TIp} (h : σ[i]? = some (some x)) (q : te σ H fun y H1 => ti x y H1 fun z H2 => D.nx (σ.set i (some z)) H2) : tAug i te ti D σ H := ⟨x, h, q⟩
theorem x_ipI {f : Int → Int → Int} {i j : Int} (q : Q (.int (f i j)) H) : ipI f (.int i) (.int j) H Q := ⟨i, j, rfl, rfl, q⟩
theorem x_ilist {R : It → Hp → Prop} {tl : TE} (h : tl σ H fun x H1 => ∃ a, x = .ref a ∧ (∃ xs, SqL K H1 a xs) ∧ R (Itl K a) H1) : iList K tl σ H R := h
theorem x_itup {R : It → Hp → Prop} {tl : TE} (h : tl σ H fun x H1 => ∃ a, x = .ref a ∧ (∃ xs, SqT K H1 a xs) ∧ R (Itt K a) H1) : iTup K tl σ H R := h
theorem x_isseq {A : List V → Prop} {R : Addr → Prop} (h : A xs) (q : R a) : ∃ b, V.ref a = .ref b ∧ (∃ xs, A xs) ∧ R b := ⟨a, rfl, ⟨xs, h⟩, q⟩
theorem x_rng1 {R : It → Hp → Prop} {ts : TA} (h : ts σ H fun vs H1 => ∃ j : Int, vs = [.int j] ∧ -(2 ^ 62) ≤ j ∧ j < 2 ^ 62 ∧ R (Itr 0 j.toNat) H1) : iRng1 ts σ H R := h
theorem x_rng2 {R : It → Hp → Prop} {ts : TA} (h : ts σ H fun vs H1 => ∃ i j : Int, vs = [.int i, .int j] ∧ (-(2 ^ 62) ≤ i ∧ i < 2 ^ 62 ∧ -(2 ^ 62) ≤ j ∧ j < 2 ^ 62) ∧ R (Itr i (j - i).toNat) H1) : iRng2 ts σ H R := h
theorem x_is1 {j : Int} {P1 P2 : Int → Prop} {R : Int → Prop} (h1 : P1 j) (h2 : P2 j) (q : R j) : ∃ k : Int, [V.int j] = [.int k] ∧ P1 k ∧ P2 k ∧ R k := ⟨j, rfl, h1, h2, q⟩
theorem x_is2 {i j : Int} {P1 : Int → Int → Prop} {R : Int → Int → Prop} (h1 : P1 i j) (q : R i j) : ∃ k l : Int, [V.int i, V.int j] = [.int k, .int l] ∧ P1 k l ∧ R k l := ⟨i, j, rfl, h1, q⟩
theorem x_yes {R : Bool → Hp → Prop} (h : R true H) : tYes σ H R := h
def rLen (K : PySem.W.Frag) : List V → Hp → VK → Prop := fun xs H Q => ∃ p ys, xs = [.ref p] ∧ (SqL K H p ys ∨ SqT K H p ys) ∧ Q (.int ys.length) H
def rInt : List V → Hp → VK → Prop := fun xs H Q => (∃ i, xs = [.int i] ∧ Q (.int i) H) ∨ ∃ k, xs = [.bl k] ∧ Q (.int (if k then 1 else 0)) H
def rAbs : List V → Hp → VK → Prop := fun xs H Q => ∃ i, xs = [.int i] ∧ Q (.int (if i < 0 then -i else i)) H
def rListOf (K : PySem.W.Frag) : List V → Hp → VK → Prop := fun xs H Q => ∃ p ys, xs = [.ref p] ∧ (SqL K H p ys ∨ SqT K H p ys) ∧ ∀ l, H l = none → Q (.ref l) (upd H l (.lst ys))
def rTupOf (K : PySem.W.Frag) : List V → Hp → VK → Prop := fun xs H Q => ∃ p ys, xs = [.ref p] ∧ ((SqL K H p ys ∧ ∀ l, H l = none → Q (.ref l) (upd H l (.tup ys))) ∨ (SqT K H p ys ∧ Q (.ref p) H))
theorem call_len {X : Cx} : CallR X (.builtin "len") (rLen X.K) := call_len_seq
theorem call_int {X : Cx} : CallR X (.type "int") rInt := call_int1
theorem call_ab {X : Cx} : CallR X (.builtin "abs") rAbs := call_abs
theorem call_lst {X : Cx} : CallR X (.type "list") (rListOf X.K) := call_list_of
theorem call_tpl {X : Cx} : CallR X (.type "tuple") (rTupOf X.K) := call_tuple_of
theorem x_lenL (h : SqL K H p xs) (q : Q (.int xs.length) H) : rLen K [.ref p] H Q := ⟨p, xs, rfl, .inl h, q⟩
theorem x_lenT (h : SqT K H p xs) (q : Q (.int xs.length) H) : rLen K [.ref p] H Q := ⟨p, xs, rfl, .inr h, q⟩
theorem x_int1 {j : Int} (q : Q (.int j) H) : rInt [.int j] H Q := .inl ⟨j, rfl, q⟩
theorem x_abs {j : Int} (q : Q (.int (if j < 0 then -j else j)) H) : rAbs [.int j] H Q := ⟨j, rfl, q⟩
theorem x_listL (h : SqL K H p xs) (q : ∀ l, H l = none → Q (.ref l) (upd H l (.lst xs))) : rListOf K [.ref p] H Q := ⟨p, xs, rfl, .inl h, q⟩
theorem x_listT (h : SqT K H p xs) (q : ∀ l, H l = none → Q (.ref l) (upd H l (.lst xs))) : rListOf K [.ref p] H Q := ⟨p, xs, rfl, .inr h, q⟩
theorem x_tupL (h : SqL K H p xs) (q : ∀ l, H l = none → Q (.ref l) (upd H l (.tup xs))) : rTupOf K [.ref p] H Q := ⟨p, xs, rfl, .inl ⟨h, q⟩⟩
theorem x_tupT (h : SqT K H p xs) (q : Q (.ref p) H) : rTupOf K [.ref p] H Q := ⟨p, xs, rfl, .inr ⟨h, q⟩⟩
theorem x_isd {c : Prop} [Decidable c] {A B : Prop} (h1 : c → A) (h2 : ¬ c → B) : if decide c = true then A else B := by
  by_cases h : c
  · rw [if_pos (decide_eq_true h)]
    exact h1 h
  · rw [if_neg (by rw [decide_eq_false h]; exact Bool.false_ne_true)]
    exact h2 h
theorem x_isdT {c : Prop} [Decidable c] {A B : Prop} (h : c) (h1 : A) : if decide c = true then A else B := x_isd (fun _ => h1) fun n => (n h).elim
theorem x_isdF {c : Prop} [Decidable c] {A B : Prop} (h : ¬ c) (h1 : B) : if decide c = true then A else B := x_isd (fun n => (h n).elim) fun _ => h1
theorem x_nF {A B : Prop} (h : A) : if (!false) = true then A else B := iteT h
theorem x_nT {A B : Prop} (h : B) : if (!true) = true then A else B := iteF h
theorem lp_range {g : TG} {tb : TS} {nx : L2.St → Hp → Prop} {rt : VK} {σ : L2.St} {H : Hp} {lo : Int} {n : Nat} (Pv : Nat → L2.St → Hp → Prop) (h0 : Pv 0 σ H) (hs : ∀ i σ H, i < n → Pv i σ H → g (.int (lo + i)) σ H fun σ2 H2 => tb { nx := Pv (i + 1), rt := rt, bk := nx, ct := Pv (i + 1) } σ2 H2) (hd : ∀ σ H, Pv n σ H → nx σ H) :
    ∃ W : Nat → Nat → L2.St → Hp → Prop, (∃ m, W 0 m σ H) ∧ ∀ i m σ H, W i m σ H → ((Itr lo n).stop i H ∧ nx σ H) ∨ ((Itr lo n).go i H ∧ ∃ N : L2.St → Hp → Prop, (∀ σ' H', N σ' H' → ∃ m', m' < m ∧ W (i + 1) m' σ' H') ∧ ∀ x H', (Itr lo n).yld i H x H' → g x σ H' fun σ2 H2 => tb { nx := N, rt := rt, bk := nx, ct := N } σ2 H2) :=
  for_range (D := { nx := nx, rt := rt}) Pv h0 hs hd
theorem lp_list {g : TG} {tb : TS} {nx : L2.St → Hp → Prop} {rt : VK} {σ : L2.St} {H : Hp} {K : PySem.W.Frag} {a : Addr} {xs : List V} (Pv : Nat → L2.St → Hp → Prop) (h0 : Pv 0 σ H) (hl : ∀ i σ H, i ≤ xs.length → Pv i σ H → SqL K H a xs) (hs : ∀ i x σ H, xs[i]? = some x → Pv i σ H → g x σ H fun σ2 H2 => tb { nx := Pv (i + 1), rt := rt, bk := nx, ct := Pv (i + 1) } σ2 H2) (hd : ∀ σ H, Pv xs.length σ H → nx σ H) :
    ∃ W : Nat → Nat → L2.St → Hp → Prop, (∃ m, W 0 m σ H) ∧ ∀ i m σ H, W i m σ H → ((Itl K a).stop i H ∧ nx σ H) ∨ ((Itl K a).go i H ∧ ∃ N : L2.St → Hp → Prop, (∀ σ' H', N σ' H' → ∃ m', m' < m ∧ W (i + 1) m' σ' H') ∧ ∀ x H', (Itl K a).yld i H x H' → g x σ H' fun σ2 H2 => tb { nx := N, rt := rt, bk := nx, ct := N } σ2 H2) :=
  for_list (D := { nx := nx, rt := rt}) Pv h0 hl hs hd
theorem lp_tup {g : TG} {tb : TS} {nx : L2.St → Hp → Prop} {rt : VK} {σ : L2.St} {H : Hp} {K : PySem.W.Frag} {a : Addr} {xs : List V} (Pv : Nat → L2.St → Hp → Prop) (h0 : Pv 0 σ H) (hl : ∀ i σ H, i ≤ xs.length → Pv i σ H → SqT K H a xs) (hs : ∀ i x σ H, xs[i]? = some x → Pv i σ H → g x σ H fun σ2 H2 => tb { nx := Pv (i + 1), rt := rt, bk := nx, ct := Pv (i + 1) } σ2 H2) (hd : ∀ σ H, Pv xs.length σ H → nx σ H) :
    ∃ W : Nat → Nat → L2.St → Hp → Prop, (∃ m, W 0 m σ H) ∧ ∀ i m σ H, W i m σ H → ((Itt K a).stop i H ∧ nx σ H) ∨ ((Itt K a).go i H ∧ ∃ N : L2.St → Hp → Prop, (∀ σ' H', N σ' H' → ∃ m', m' < m ∧ W (i + 1) m' σ' H') ∧ ∀ x H', (Itt K a).yld i H x H' → g x σ H' fun σ2 H2 => tb { nx := N, rt := rt, bk := nx, ct := N } σ2 H2) :=
  for_tup (D := { nx := nx, rt := rt}) Pv h0 hl hs hd
/-! heaps -/
theorem keepN (h : H a = some o) (hp : H p = none) : upd H p o' a = some o := by
  rw [upd_ne (ne_of_none h hp)]
  exact h
theorem keepM (n : a ≠ p) (h : H a = some o) : upd H p o' a = some o := by
  rw [upd_ne n]
  exact h
theorem keepLM (n : a ≠ p) (h : SqL K H a xs) : SqL K (upd H p o') a xs := by
  rcases h with (h | ⟨u, h⟩) | h
  · exact .inl (.inl (keepM n h))
  · exact .inl (.inr ⟨u, keepM n h⟩)
  · exact .inr h
theorem keepLN (h : SqL K H a xs) (hp : H p = none) : SqL K (upd H p o') a xs := by
  rcases h with (h | ⟨u, h⟩) | h
  · exact .inl (.inl (keepN h hp))
  · exact .inl (.inr ⟨u, keepN h hp⟩)
  · exact .inr h
theorem keepTM (n : a ≠ p) (h : SqT K H a xs) : SqT K (upd H p o') a xs := by
  rcases h with (h | ⟨u, h⟩) | h
  · exact .inl (.inl (keepM n h))
  · exact .inl (.inr ⟨u, keepM n h⟩)
  · exact .inr h
theorem keepTN (h : SqT K H a xs) (hp : H p = none) : SqT K (upd H p o') a xs := by
  rcases h with (h | ⟨u, h⟩) | h
  · exact .inl (.inl (keepN h hp))
  · exact .inl (.inr ⟨u, keepN h hp⟩)
  · exact .inr h
theorem _root_.L2.Same.seqT {K : PySem.W.Frag} {H H' : Hp} {a : Addr} {xs : List V} (e : Same H H') (h : SqT K H a xs) : SqT K H' a xs := by
  rcases h with (h | ⟨o, h⟩) | h
  · exact .inl (.inl (e _ _ h))
  · exact .inl (.inr ⟨o, e _ _ h⟩)
  · exact .inr h
theorem same_new (s : Same H H1) (hp : H1 p = none) : Same H (upd H1 p o) := fun b u e => keepN (s b u e) hp
theorem same_mut (s : Same H H1) (hp : H p = none) : Same H (upd H1 p o) := fun b u e => keepM (ne_of_none e hp) (s b u e)
/-- all but what stands at p is as it was -/
def But (p : Addr) (H H' : Hp) : Prop := ∀ b o, b ≠ p → H b = some o → H' b = some o
theorem But.refl (p : Addr) (H : Hp) : But p H H := fun _ _ _ h => h
theorem But.trans (a : But p H H1) (b : But p H1 H2) : But p H H2 := fun c o n h => b c o n (a c o n h)
theorem But.of (s : Same H H1) : But p H H1 := fun b o _ h => s b o h
theorem But.new (s : But p H H1) (hq : H1 q = none) : But p H (upd H1 q o) := fun b u n e => keepN (s b u n e) hq
theorem But.mut (s : But p H H1) : But p H (upd H1 p o) := fun b u n e => keepM n (s b u n e)
theorem But.mutF (s : But p H H1) (hq : H q = none) : But p H (upd H1 q o) := fun b u n e => keepM (ne_of_none e hq) (s b u n e)
theorem But.seq (s : But p H H1) (n : a ≠ p) (h : SqL K H a xs) : SqL K H1 a xs := by
  rcases h with (h | ⟨o, h⟩) | h
  · exact .inl (.inl (s _ _ n h))
  · exact .inl (.inr ⟨o, s _ _ n h⟩)
  · exact .inr h
theorem But.seqT (s : But p H H1) (n : a ≠ p) (h : SqT K H a xs) : SqT K H1 a xs := by
  rcases h with (h | ⟨o, h⟩) | h
  · exact .inl (.inl (s _ _ n h))
  · exact .inl (.inr ⟨o, s _ _ n h⟩)
  · exact .inr h
theorem But.same (s : But p H H1) (hp : H p = none) : Same H H1 := fun b o e => s b o (ne_of_none e hp) e
end
theorem same_trans {H H1 H2 : Hp} (b : Same H1 H2) (a : Same H H1) : Same H H2 := Same.trans a b
theorem but_trans {H H1 H2 : Hp} {p : Addr} (b : But p H1 H2) (a : But p H H1) : But p H H2 := But.trans a b
theorem ne_none' {H : Hp} {a b : Addr} {o : HO} (h' : H b = none) (h : H a = some o) : b ≠ a := Ne.symm (ne_of_none h h')
theorem cut1 (xs : List V) : cutV xs (some 1) none = xs.drop 1 := by
  unfold cutV
  rw [show HT.sIx xs.length 0 (some 1) = min 1 xs.length from HT.sIx_nat xs.length 0 1, HT.sIx_none]
  cases xs with
  | nil => rfl
  | cons x r =>
    rw [show min 1 (x :: r).length = 1 by
      rw [List.length_cons]
      omega]
    show (List.take ((x :: r).length - 1) r) = r
    rw [List.length_cons, Nat.add_sub_cancel]
    exact List.take_length
theorem at_mod {xs : List V} {z : Int} (h : 0 < xs.length) : ∃ v, atI xs (z % (xs.length : Int)) = some v ∧ v ∈ xs := by
  have h1 : 0 ≤ z % (xs.length : Int) := Int.emod_nonneg _ (by omega)
  have h2 : z % (xs.length : Int) < xs.length := Int.emod_lt_of_pos _ (by omega)
  obtain ⟨j, hj⟩ := Int.eq_ofNat_of_zero_le h1
  have hl : j < xs.length := by omega
  refine ⟨xs[j], ?_, List.getElem_mem hl⟩
  rw [hj]
  exact atI_nat (List.getElem?_eq_getElem hl)
theorem at_lt {xs : List V} {d : Int} (h1 : 0 ≤ d) (h2 : d < xs.length) : ∃ v, atI xs d = some v ∧ v ∈ xs := by
  obtain ⟨j, hj⟩ := Int.eq_ofNat_of_zero_le h1
  have hl : j < xs.length := by omega
  refine ⟨xs[j], ?_, List.getElem_mem hl⟩
  rw [hj]
  exact atI_nat (List.getElem?_eq_getElem hl)
/-- a def that is called by its name -/
structure Cal (K : PySem.W.Frag) (mg : Str → Option Value) (x : Str) (f : Addr) (fd : FuncData) (ps : List Str) : Prop where
  g : mg x = some (.ref f)
  k : PySem.W.keepIn K (.ref f) = true
  b : Binds K fd ps []
theorem szLe {n : Nat} (h : n ≤ 100000) : n ≤ sizeLine := Nat.le_trans h (by decide)
theorem szLt {n : Nat} (h : n < 100000) : n < sizeLine := Nat.lt_of_lt_of_le h (by decide)
end Fv
set_option maxRecDepth 100000
set_option maxHeartbeats 1000000
namespace Fv
open PySem PySem.Spec L2
/-- a value of a kind that is known -/
def Kn (H : Hp) : V → Prop
  | .non => True
  | .bl _ => True
  | .int _ => True
  | .str _ => True
  | .ref a => (∃ xs, H a = some (.lst xs)) ∨ (∃ xs, H a = some (.tup xs)) ∨ ∃ kvs, H a = some (.dK kvs)
  | _ => False
theorem Kn.same {H H' : Hp} {x : V} (s : Same H H') (h : Kn H x) : Kn H' x := by
  cases x with
  | ref a =>
    rcases h with ⟨xs, h⟩ | ⟨xs, h⟩ | ⟨xs, h⟩
    · exact .inl ⟨xs, s _ _ h⟩
    · exact .inr (.inl ⟨xs, s _ _ h⟩)
    · exact .inr (.inr ⟨xs, s _ _ h⟩)
  | _ => exact h
theorem Kn.but {H H' : Hp} {p : Addr} {x : V} (s : But p H H') (hp : x ≠ .ref p) (h : Kn H x) : Kn H' x := by
  cases x with
  | ref a =>
    have n : a ≠ p := fun e => hp (by rw [e])
    rcases h with ⟨xs, h⟩ | ⟨xs, h⟩ | ⟨xs, h⟩
    · exact .inl ⟨xs, s _ _ n h⟩
    · exact .inr (.inl ⟨xs, s _ _ n h⟩)
    · exact .inr (.inr ⟨xs, s _ _ n h⟩)
  | _ => exact h
def isIntV : V → Bool
  | .int _ => true
  | .bl _ => true
  | _ => false
def isBlV : V → Bool
  | .bl _ => true
  | _ => false
def numV (lo hi : Int) : V → Bool
  | .int i => decide (lo ≤ i) && decide (i ≤ hi)
  | _ => false
theorem numT {lo hi i : Int} (c : lo ≤ i) : numV lo hi (.int i) = decide (i ≤ hi) := by
  show (decide (lo ≤ i) && decide (i ≤ hi)) = _
  rw [decide_eq_true c]
  rfl
theorem numF {lo hi i : Int} (c : ¬ lo ≤ i) : numV lo hi (.int i) = false := by
  show (decide (lo ≤ i) && decide (i ≤ hi)) = _
  rw [decide_eq_false c]
  rfl
section
variable {K : PySem.W.Frag} {σ : L2.St} {H H' H1 H2 : Hp} {i : Nat} {v x y : V} {Q : VK} {a b p q : Addr} {o o' : HO} {xs ys : List V}
theorem x_isK {T : String} {t : String} {b : Bool} (ty : TyX K H x (.type t)) (e : kitB t T = some b) (q : Q (.bl b) H) : rIsi K [x, .ty T] H Q := ⟨x, .ty T, .type t, .type T, b, rfl, .ty T, ty, kit_ty e, q⟩
theorem x_isInt (h : Kn H x) (q : Q (.bl (isIntV x)) H) : rIsi K [x, .ty "int"] H Q := by
  cases x with
  | non => exact x_isK (b := false) (.base .non) (by decide +kernel) q
  | bl b => exact x_isK (b := true) (.base (.bl b)) (by decide +kernel) q
  | int i => exact x_isK (b := true) (.base (.int i)) (by decide +kernel) q
  | str i => exact x_isK (b := false) (.base (.str i)) (by decide +kernel) q
  | byt b => exact h.elim
  | flt b => exact h.elim
  | ty b => exact h.elim
  | ref a =>
    rcases h with ⟨xs, h⟩ | ⟨xs, h⟩ | ⟨xs, h⟩
    · exact x_isK (b := false) (.base (.lst h)) (by decide +kernel) q
    · exact x_isK (b := false) (.base (.tup h)) (by decide +kernel) q
    · exact x_isK (b := false) (.base (.dK h)) (by decide +kernel) q
theorem x_isBl (h : Kn H x) (q : Q (.bl (isBlV x)) H) : rIsi K [x, .ty "bool"] H Q := by
  cases x with
  | non => exact x_isK (b := false) (.base .non) (by decide +kernel) q
  | bl b => exact x_isK (b := true) (.base (.bl b)) (by decide +kernel) q
  | int i => exact x_isK (b := false) (.base (.int i)) (by decide +kernel) q
  | str i => exact x_isK (b := false) (.base (.str i)) (by decide +kernel) q
  | byt b => exact h.elim
  | flt b => exact h.elim
  | ty b => exact h.elim
  | ref a =>
    rcases h with ⟨xs, h⟩ | ⟨xs, h⟩ | ⟨xs, h⟩
    · exact x_isK (b := false) (.base (.lst h)) (by decide +kernel) q
    · exact x_isK (b := false) (.base (.tup h)) (by decide +kernel) q
    · exact x_isK (b := false) (.base (.dK h)) (by decide +kernel) q
/-- isinstance(x, (T1, T2)), the pair just laid -/
theorem x_isiT2 {T1 T2 t : String} {b1 b2 : Bool} (hp : H p = some (.tup [.ty T1, .ty T2])) (ty : TyX K H x (.type t)) (e1 : kitB t T1 = some b1) (e2 : kitB t T2 = some b2) (q : Q (.bl (b1 || b2)) H) : rIsiT K [x, .ref p] H Q := by
  refine ⟨x, p, [.ty T1, .ty T2], .type t, [.type T1, .type T2], b1 || b2, rfl, hp, .cons (.ty _) (.cons (.ty _) .nil), ty, ?_, q⟩
  cases b1 with
  | true => exact kitAny_cons (kit_ty e1) (fun h => nomatch h) (fun _ => rfl)
  | false =>
    refine kitAny_cons (kit_ty e1) (fun _ => ?_) (fun h => nomatch h)
    cases b2 with
    | true => exact kitAny_cons (kit_ty e2) (fun h => nomatch h) (fun _ => rfl)
    | false => exact kitAny_cons (kit_ty e2) (fun _ => kitAny_nil) (fun h => nomatch h)
end
section
variable {K : PySem.W.Frag} {H : Hp} {Q : VK} {a : Addr} {xs : List V}
theorem isi_non_int (q : Q (.bl false) H) : rIsi K [.non, .ty "int"] H Q := x_isK (b := false) (.base .non) (by decide +kernel) q
theorem isi_non_bool (q : Q (.bl false) H) : rIsi K [.non, .ty "bool"] H Q := x_isK (b := false) (.base .non) (by decide +kernel) q
theorem isi_non_tuple (q : Q (.bl false) H) : rIsi K [.non, .ty "tuple"] H Q := x_isK (b := false) (.base .non) (by decide +kernel) q
theorem isi_non_list (q : Q (.bl false) H) : rIsi K [.non, .ty "list"] H Q := x_isK (b := false) (.base .non) (by decide +kernel) q
theorem isi_non_dict (q : Q (.bl false) H) : rIsi K [.non, .ty "dict"] H Q := x_isK (b := false) (.base .non) (by decide +kernel) q
theorem isi_non_str (q : Q (.bl false) H) : rIsi K [.non, .ty "str"] H Q := x_isK (b := false) (.base .non) (by decide +kernel) q
theorem isi_bl_int {c : Bool} (q : Q (.bl true) H) : rIsi K [.bl c, .ty "int"] H Q := x_isK (b := true) (.base (.bl c)) (by decide +kernel) q
theorem isi_bl_bool {c : Bool} (q : Q (.bl true) H) : rIsi K [.bl c, .ty "bool"] H Q := x_isK (b := true) (.base (.bl c)) (by decide +kernel) q
theorem isi_bl_tuple {c : Bool} (q : Q (.bl false) H) : rIsi K [.bl c, .ty "tuple"] H Q := x_isK (b := false) (.base (.bl c)) (by decide +kernel) q
theorem isi_bl_list {c : Bool} (q : Q (.bl false) H) : rIsi K [.bl c, .ty "list"] H Q := x_isK (b := false) (.base (.bl c)) (by decide +kernel) q
theorem isi_bl_dict {c : Bool} (q : Q (.bl false) H) : rIsi K [.bl c, .ty "dict"] H Q := x_isK (b := false) (.base (.bl c)) (by decide +kernel) q
theorem isi_bl_str {c : Bool} (q : Q (.bl false) H) : rIsi K [.bl c, .ty "str"] H Q := x_isK (b := false) (.base (.bl c)) (by decide +kernel) q
theorem isi_int_int {j : Int} (q : Q (.bl true) H) : rIsi K [.int j, .ty "int"] H Q := x_isK (b := true) (.base (.int j)) (by decide +kernel) q
theorem isi_int_bool {j : Int} (q : Q (.bl false) H) : rIsi K [.int j, .ty "bool"] H Q := x_isK (b := false) (.base (.int j)) (by decide +kernel) q
theorem isi_int_tuple {j : Int} (q : Q (.bl false) H) : rIsi K [.int j, .ty "tuple"] H Q := x_isK (b := false) (.base (.int j)) (by decide +kernel) q
theorem isi_int_list {j : Int} (q : Q (.bl false) H) : rIsi K [.int j, .ty "list"] H Q := x_isK (b := false) (.base (.int j)) (by decide +kernel) q
theorem isi_int_dict {j : Int} (q : Q (.bl false) H) : rIsi K [.int j, .ty "dict"] H Q := x_isK (b := false) (.base (.int j)) (by decide +kernel) q
theorem isi_int_str {j : Int} (q : Q (.bl false) H) : rIsi K [.int j, .ty "str"] H Q := x_isK (b := false) (.base (.int j)) (by decide +kernel) q
theorem isi_str_int {j : Str} (q : Q (.bl false) H) : rIsi K [.str j, .ty "int"] H Q := x_isK (b := false) (.base (.str j)) (by decide +kernel) q
theorem isi_str_bool {j : Str} (q : Q (.bl false) H) : rIsi K [.str j, .ty "bool"] H Q := x_isK (b := false) (.base (.str j)) (by decide +kernel) q
theorem isi_str_tuple {j : Str} (q : Q (.bl false) H) : rIsi K [.str j, .ty "tuple"] H Q := x_isK (b := false) (.base (.str j)) (by decide +kernel) q
theorem isi_str_list {j : Str} (q : Q (.bl false) H) : rIsi K [.str j, .ty "list"] H Q := x_isK (b := false) (.base (.str j)) (by decide +kernel) q
theorem isi_str_dict {j : Str} (q : Q (.bl false) H) : rIsi K [.str j, .ty "dict"] H Q := x_isK (b := false) (.base (.str j)) (by decide +kernel) q
theorem isi_str_str {j : Str} (q : Q (.bl true) H) : rIsi K [.str j, .ty "str"] H Q := x_isK (b := true) (.base (.str j)) (by decide +kernel) q
theorem isi_lst_int (h : H a = some (.lst xs)) (q : Q (.bl false) H) : rIsi K [.ref a, .ty "int"] H Q := x_isK (b := false) (.base (.lst h)) (by decide +kernel) q
theorem isi_lst_bool (h : H a = some (.lst xs)) (q : Q (.bl false) H) : rIsi K [.ref a, .ty "bool"] H Q := x_isK (b := false) (.base (.lst h)) (by decide +kernel) q
theorem isi_lst_tuple (h : H a = some (.lst xs)) (q : Q (.bl false) H) : rIsi K [.ref a, .ty "tuple"] H Q := x_isK (b := false) (.base (.lst h)) (by decide +kernel) q
theorem isi_lst_list (h : H a = some (.lst xs)) (q : Q (.bl true) H) : rIsi K [.ref a, .ty "list"] H Q := x_isK (b := true) (.base (.lst h)) (by decide +kernel) q
theorem isi_lst_dict (h : H a = some (.lst xs)) (q : Q (.bl false) H) : rIsi K [.ref a, .ty "dict"] H Q := x_isK (b := false) (.base (.lst h)) (by decide +kernel) q
theorem isi_lst_str (h : H a = some (.lst xs)) (q : Q (.bl false) H) : rIsi K [.ref a, .ty "str"] H Q := x_isK (b := false) (.base (.lst h)) (by decide +kernel) q
theorem isi_tup_int (h : H a = some (.tup xs)) (q : Q (.bl false) H) : rIsi K [.ref a, .ty "int"] H Q := x_isK (b := false) (.base (.tup h)) (by decide +kernel) q
theorem isi_tup_bool (h : H a = some (.tup xs)) (q : Q (.bl false) H) : rIsi K [.ref a, .ty "bool"] H Q := x_isK (b := false) (.base (.tup h)) (by decide +kernel) q
theorem isi_tup_tuple (h : H a = some (.tup xs)) (q : Q (.bl true) H) : rIsi K [.ref a, .ty "tuple"] H Q := x_isK (b := true) (.base (.tup h)) (by decide +kernel) q
theorem isi_tup_list (h : H a = some (.tup xs)) (q : Q (.bl false) H) : rIsi K [.ref a, .ty "list"] H Q := x_isK (b := false) (.base (.tup h)) (by decide +kernel) q
theorem isi_tup_dict (h : H a = some (.tup xs)) (q : Q (.bl false) H) : rIsi K [.ref a, .ty "dict"] H Q := x_isK (b := false) (.base (.tup h)) (by decide +kernel) q
theorem isi_tup_str (h : H a = some (.tup xs)) (q : Q (.bl false) H) : rIsi K [.ref a, .ty "str"] H Q := x_isK (b := false) (.base (.tup h)) (by decide +kernel) q
theorem isi_dK_int {kvs : List (Key × V)} (h : H a = some (.dK kvs)) (q : Q (.bl false) H) : rIsi K [.ref a, .ty "int"] H Q := x_isK (b := false) (.base (.dK h)) (by decide +kernel) q
theorem isi_dK_bool {kvs : List (Key × V)} (h : H a = some (.dK kvs)) (q : Q (.bl false) H) : rIsi K [.ref a, .ty "bool"] H Q := x_isK (b := false) (.base (.dK h)) (by decide +kernel) q
theorem isi_dK_tuple {kvs : List (Key × V)} (h : H a = some (.dK kvs)) (q : Q (.bl false) H) : rIsi K [.ref a, .ty "tuple"] H Q := x_isK (b := false) (.base (.dK h)) (by decide +kernel) q
theorem isi_dK_list {kvs : List (Key × V)} (h : H a = some (.dK kvs)) (q : Q (.bl false) H) : rIsi K [.ref a, .ty "list"] H Q := x_isK (b := false) (.base (.dK h)) (by decide +kernel) q
theorem isi_dK_dict {kvs : List (Key × V)} (h : H a = some (.dK kvs)) (q : Q (.bl true) H) : rIsi K [.ref a, .ty "dict"] H Q := x_isK (b := true) (.base (.dK h)) (by decide +kernel) q
theorem isi_dK_str {kvs : List (Key × V)} (h : H a = some (.dK kvs)) (q : Q (.bl false) H) : rIsi K [.ref a, .ty "str"] H Q := x_isK (b := false) (.base (.dK h)) (by decide +kernel) q
end
section
variable {K : PySem.W.Frag} {σ : L2.St} {H H' H1 H2 : Hp} {i : Nat} {v x y : V} {Q : VK} {a b p q : Addr} {o o' : HO} {xs ys : List V}
theorem x_isiTn {T1 T2 t : String} (hp : H p = some (.tup [.ty T1, .ty T2])) (ty : TyX K H x (.type t)) (e1 : kitB t T1 = some false) (e2 : kitB t T2 = some false) (q : Q (.bl false) H) : rIsiT K [x, .ref p] H Q := x_isiT2 hp ty e1 e2 q
theorem x_isiT1 {T1 T2 t : String} (hp : H p = some (.tup [.ty T1, .ty T2])) (ty : TyX K H x (.type t)) (e1 : kitB t T1 = some true) (e2 : kitB t T2 = some false) (q : Q (.bl true) H) : rIsiT K [x, .ref p] H Q := x_isiT2 hp ty e1 e2 q
theorem x_isiTb {T1 T2 t : String} (hp : H p = some (.tup [.ty T1, .ty T2])) (ty : TyX K H x (.type t)) (e1 : kitB t T1 = some false) (e2 : kitB t T2 = some true) (q : Q (.bl true) H) : rIsiT K [x, .ref p] H Q := x_isiT2 hp ty e1 e2 q
def sca : V → Bool
  | .non => true
  | .bl _ => true
  | .int _ => true
  | .str _ => true
  | _ => false
/-- two values that are the same through and through, at most so deep -/
def Al (K : PySem.W.Frag) (H : Hp) : Nat → V → V → Prop
  | 0, x, y => x = y ∧ sca x = true
  | n + 1, x, y => (x = y ∧ sca x = true) ∨
      (∃ (a b : Addr) (xs ys : List V), x = .ref a ∧ y = .ref b ∧ H a = some (.lst xs) ∧ H b = some (.lst ys) ∧ xs.length = ys.length ∧ ys.length ≤ 1000 ∧ ∀ i (h1 : i < xs.length) (h2 : i < ys.length), Al K H n xs[i] ys[i]) ∨
      (∃ (a b : Addr) (xs ys : List V), x = .ref a ∧ y = .ref b ∧ H a = some (.tup xs) ∧ H b = some (.tup ys) ∧ xs.length = ys.length ∧ ys.length ≤ 1000 ∧ ∀ i (h1 : i < xs.length) (h2 : i < ys.length), Al K H n xs[i] ys[i])
theorem Al.same : ∀ {n : Nat} {x y : V}, Same H H' → Al K H n x y → Al K H' n x y
  | 0, _, _, _, h => h
  | n + 1, x, y, s, h => by
    rcases h with h | ⟨a, b, xs, ys, e1, e2, h1, h2, hl, hz, h⟩ | ⟨a, b, xs, ys, e1, e2, h1, h2, hl, hz, h⟩
    · exact .inl h
    · exact .inr (.inl ⟨a, b, xs, ys, e1, e2, s _ _ h1, s _ _ h2, hl, hz, fun i k1 k2 => (h i k1 k2).same s⟩)
    · exact .inr (.inr ⟨a, b, xs, ys, e1, e2, s _ _ h1, s _ _ h2, hl, hz, fun i k1 k2 => (h i k1 k2).same s⟩)
theorem Al.up {n : Nat} (h : Al K H n x y) : Al K H (n + 1) x y := by
  induction n generalizing x y with
  | zero => exact .inl h
  | succ n ih =>
    rcases h with h | ⟨a, b, xs, ys, e1, e2, h1, h2, hl, hz, h⟩ | ⟨a, b, xs, ys, e1, e2, h1, h2, hl, hz, h⟩
    · exact .inl h
    · exact .inr (.inl ⟨a, b, xs, ys, e1, e2, h1, h2, hl, hz, fun i k1 k2 => ih (h i k1 k2)⟩)
    · exact .inr (.inr ⟨a, b, xs, ys, e1, e2, h1, h2, hl, hz, fun i k1 k2 => ih (h i k1 k2)⟩)
theorem Al.le {n m : Nat} (hm : n ≤ m) (h : Al K H n x y) : Al K H m x y := by
  induction hm with
  | refl => exact h
  | step _ ih => exact ih.up
theorem Al.sca {n : Nat} (hx : Fv.sca x = true) : Al K H n x x := by
  cases n with
  | zero => exact ⟨rfl, hx⟩
  | succ n => exact .inl ⟨rfl, hx⟩
theorem Al.tups {n : Nat} {zs : List V} (ha : H a = some (.tup zs)) (hb : H b = some (.tup zs)) (hz : zs.length ≤ 1000) (h : ∀ z ∈ zs, Fv.sca z = true) : Al K H (n + 1) (.ref a) (.ref b) :=
  .inr (.inr ⟨a, b, zs, zs, rfl, rfl, ha, hb, rfl, hz, fun i h1 h2 => Al.sca (h _ (List.getElem_mem h1))⟩)
theorem Al.lsts {n : Nat} {zs : List V} (ha : H a = some (.lst zs)) (hb : H b = some (.lst zs)) (hz : zs.length ≤ 1000) (h : ∀ z ∈ zs, Fv.sca z = true) : Al K H (n + 1) (.ref a) (.ref b) :=
  .inr (.inl ⟨a, b, zs, zs, rfl, rfl, ha, hb, rfl, hz, fun i h1 h2 => Al.sca (h _ (List.getElem_mem h1))⟩)
theorem Al.lst1 {n : Nat} (ha : H a = some (.lst [x])) (hb : H b = some (.lst [y])) (h : Al K H n x y) : Al K H (n + 1) (.ref a) (.ref b) :=
  .inr (.inl ⟨a, b, [x], [y], rfl, rfl, ha, hb, rfl, (by show _ + 1 ≤ 1000; simp), fun i h1 h2 => by
    cases i with
    | zero => exact h
    | succ i => exact absurd h1 (by show ¬ i + 1 < 1; omega)⟩)
theorem Al.tup1 {n : Nat} (ha : H a = some (.tup [x])) (hb : H b = some (.tup [y])) (h : Al K H n x y) : Al K H (n + 1) (.ref a) (.ref b) :=
  .inr (.inr ⟨a, b, [x], [y], rfl, rfl, ha, hb, rfl, (by show _ + 1 ≤ 1000; simp), fun i h1 h2 => by
    cases i with
    | zero => exact h
    | succ i => exact absurd h1 (by show ¬ i + 1 < 1; omega)⟩)
theorem Al.lst2 {n : Nat} {x2 y2 : V} (ha : H a = some (.lst [x, x2])) (hb : H b = some (.lst [y, y2])) (h : Al K H n x y) (h2 : Al K H n x2 y2) : Al K H (n + 1) (.ref a) (.ref b) :=
  .inr (.inl ⟨a, b, [x, x2], [y, y2], rfl, rfl, ha, hb, rfl, (by show _ + 1 ≤ 1000; simp), fun i k1 k2 => by
    match i, k1 with
    | 0, _ => exact h
    | 1, _ => exact h2
    | i + 2, k1 => exact absurd k1 (by show ¬ i + 2 < 2; omega)⟩)
end
section
variable {X : Cx} {K : PySem.W.Frag}
theorem ix_listK (e : X.K = K) : IxR X (rIxL K) := by
  subst e
  exact ix_list
theorem ix_tupK (e : X.K = K) : IxR X (rIxT K) := by
  subst e
  exact ix_tup
theorem call_lenK (e : X.K = K) : CallR X (.builtin "len") (rLen K) := by
  subst e
  exact call_len
theorem call_lstK (e : X.K = K) : CallR X (.type "list") (rListOf K) := by
  subst e
  exact call_lst
theorem call_tplK (e : X.K = K) : CallR X (.type "tuple") (rTupOf K) := by
  subst e
  exact call_tpl
theorem call_isiK' (e : X.K = K) : CallR X (.builtin "isinstance") (rIsi K) := by
  subst e
  exact call_isi
theorem call_isiTK (e : X.K = K) : CallR X (.builtin "isinstance") (rIsiT K) := by
  subst e
  exact call_isiT
theorem sl_listK (e : X.K = K) : SlR X (rSlL K) := by
  subst e
  exact sl_list
theorem op_inK (e : X.K = K) : OpR X (compareOp .In) (rIn K false) := by
  subst e
  exact op_in_seq
theorem op_notInK (e : X.K = K) : OpR X (compareOp .NotIn) (rIn K true) := by
  subst e
  exact op_notIn_seq
theorem op_eqDK (e : X.K = K) (hu : X.A.units + 64 < cLine) : OpR X (compareOp .Eq) (rEqD K) := by
  subst e
  exact op_eqD hu
theorem op_neDK (e : X.K = K) (hu : X.A.units + 64 < cLine) : OpR X (compareOp .NotEq) (rNeD K) := by
  subst e
  exact op_neD hu
theorem cr_allK (e : X.K = K) (hc : X.calm = true) : CallR X (.builtin "all") (rAll K) := by
  subst e
  exact cr_all hc
section
variable {o e value : Expr} {f : Str} {pos apos cpos : Pos} {ta to : TE} {es : List Expr} {t : TA} {name : Str} {T id : String} {r : V → List V → Hp → VK → Prop}
theorem pe_fldK (k : X.K = K) (he : PE X e ta) (hb : attributeBase e f X.env (eval e X.env) = eval e X.env) : PE X (.Attribute e f pos) (tFld K ta f) := by
  subst k
  exact pe_fld he hb
theorem pe_bm0K (k : X.K = K) (pa : PlainAttrs T) (slot : Slot T name id) (hty : typeOf (.builtin id) = pure (.type "method_descriptor")) (hm : MtR X id r) (ho : PE X o to)
    (h1 : attributeBase o name X.env (eval o X.env) = eval o X.env := by rfl) (h2 : (apos.endLine == cpos.line) = true := by rfl) : PE X (.Call (.Attribute o name apos) [] [] cpos) (tBM0 K T r to) := by
  subst k
  exact pe_bm0 pa slot hty hm ho h1 h2
theorem pe_bmK (k : X.K = K) (pa : PlainAttrs T) (slot : Slot T name id) (hty : typeOf (.builtin id) = pure (.type "method_descriptor")) (hm : MtR X id r) (ho : PE X o to) (ha : PA X [e] t)
    (h1 : attributeBase o name X.env (eval o X.env) = eval o X.env := by rfl)
    (h2 : ((backTo cpos (starEach [e] X.env)).all (fun x => !x.1) && (backToKw cpos (keywordEach [] X.env)).all (fun x => x.1.isSome) && decide ([e].length + ([] : List Keyword).length + (if ([] : List Keyword).isEmpty then 0 else 1) < 30)) = true := by rfl)
    (h3 : (apos.endLine == cpos.line) = true := by rfl) (h4 : starEach [e] X.env = (false, eval e X.env) :: starEach [] X.env := by rfl) (h5 : (backTo cpos (starEach [] X.env)).any (·.1) = false := by rfl) :
    PE X (.Call (.Attribute o name apos) [e] [] cpos) (tBM K T r to t) := by
  subst k
  exact pe_bm pa slot hty hm ho ha h1 h2 h3 h4 h5
end
end
def rIsNk : R2 := fun x y H Q => y = .non ∧ Q (.bl (decide (x = .non))) H
def rNotNk : R2 := fun x y H Q => y = .non ∧ Q (.bl (!decide (x = .non))) H
section
variable {X : Cx} {K : PySem.W.Frag} {H : Hp} {Q : VK} {x v : V} {p : Addr} {i : Int} {xs : List V}
theorem op_isNk : OpR X (compareOp .Is) rIsNk := op_isN
theorem op_notNk : OpR X (compareOp .IsNot) rNotNk := op_notN
theorem x_isN0 (q : Q (.bl true) H) : rIsNk .non .non H Q := ⟨rfl, q⟩
theorem x_isN1 {b : Bool} (q : Q (.bl false) H) : rIsNk (.bl b) .non H Q := ⟨rfl, q⟩
theorem x_isN2 {b : Int} (q : Q (.bl false) H) : rIsNk (.int b) .non H Q := ⟨rfl, q⟩
theorem x_isN3 {b : Str} (q : Q (.bl false) H) : rIsNk (.str b) .non H Q := ⟨rfl, q⟩
theorem x_isN4 {b : Addr} (q : Q (.bl false) H) : rIsNk (.ref b) .non H Q := ⟨rfl, q⟩
theorem x_notN0 (q : Q (.bl false) H) : rNotNk .non .non H Q := ⟨rfl, q⟩
theorem x_notN1 {b : Bool} (q : Q (.bl true) H) : rNotNk (.bl b) .non H Q := ⟨rfl, q⟩
theorem x_notN2 {b : Int} (q : Q (.bl true) H) : rNotNk (.int b) .non H Q := ⟨rfl, q⟩
theorem x_notN3 {b : Str} (q : Q (.bl true) H) : rNotNk (.str b) .non H Q := ⟨rfl, q⟩
theorem x_notN4 {b : Addr} (q : Q (.bl true) H) : rNotNk (.ref b) .non H Q := ⟨rfl, q⟩
theorem ix_seqK (e : X.K = K) : IxR X (rIx K) := by
  subst e
  exact ix_seq
theorem x_ixSL (h : SqL K H p xs) (ha : atI xs i = some v) (q : Q v H) : rIx K (.ref p) (.int i) H Q := .inl (x_ixL h ha q)
theorem x_ixST (h : SqT K H p xs) (ha : atI xs i = some v) (q : Q v H) : rIx K (.ref p) (.int i) H Q := .inr (.inl (x_ixT h ha q))
theorem x_eqB {b c : Bool} (q : Q (.bl (decide (b = c))) H) : rEq (.bl b) (.bl c) H Q := ⟨rfl, by
  have e : decide (V.bl b = V.bl c) = decide (b = c) := by
    rw [Bool.eq_iff_iff]
    simp
  rw [e]
  exact q⟩
theorem x_neB {b c : Bool} (q : Q (.bl (decide (b ≠ c))) H) : rNe (.bl b) (.bl c) H Q := ⟨rfl, by
  have e : (!decide (V.bl b = V.bl c)) = decide (b ≠ c) := by
    rw [Bool.eq_iff_iff]
    simp
  rw [e]
  exact q⟩
theorem x_eqS {b c : Str} (q : Q (.bl (decide (b = c))) H) : rEq (.str b) (.str c) H Q := ⟨rfl, by
  have e : decide (V.str b = V.str c) = decide (b = c) := by
    rw [Bool.eq_iff_iff]
    simp
  rw [e]
  exact q⟩
end
def nats (l : List Nat) : List V := l.map fun (n : Nat) => V.int (Int.ofNat n)
theorem nats_length (l : List Nat) : (nats l).length = l.length := List.length_map ..
theorem nats_get {l : List Nat} {i x : Nat} (h : l[i]? = some x) : (nats l)[i]? = some (.int x) := by
  unfold nats
  rw [List.getElem?_map, h]
  rfl
theorem nats_at {l : List Nat} {i x : Nat} (h : l[i]? = some x) : atI (nats l) (i : Int) = some (.int x) := atI_nat (nats_get h)
theorem nats_append (l m : List Nat) : nats (l ++ m) = nats l ++ nats m := List.map_append ..
theorem nats_set (l : List Nat) (i x : Nat) : (nats l).set i (.int x) = nats (l.set i x) := by
  unfold nats
  rw [List.map_set]
  rfl
theorem nats_erase : ∀ (l : List Nat) (i : Nat), (nats l).eraseIdx i = nats (l.eraseIdx i)
  | [], _ => rfl
  | _ :: _, 0 => rfl
  | a :: l, i + 1 => by
    show V.int a :: (nats l).eraseIdx i = V.int a :: nats (l.eraseIdx i)
    rw [nats_erase l i]
theorem nats_sca {l : List Nat} : ∀ z ∈ nats l, sca z = true := fun z hz => by
  obtain ⟨n, _, rfl⟩ := List.mem_map.mp hz
  rfl
theorem ixN_nat {n k : Nat} (h : k < n) : ixN n (k : Int) = some k := by
  unfold ixN
  rw [if_pos (by omega), if_pos (by omega)]
  rfl
theorem rgV_nats (n : Nat) : rgV 1 ((n : Int) + 1) = nats (List.range' 1 n) := by
  unfold rgV nats
  rw [List.range'_eq_map_range, List.map_map, show ((n : Int) + 1 - 1).toNat = n by omega]
  refine List.map_congr_left fun i _ => ?_
  show V.int (1 + (i : Int)) = V.int ((1 + i : Nat) : Int)
  rw [Int.natCast_add]
  rfl
section
variable {K : PySem.W.Frag} {σ : L2.St} {H : Hp} {Q : VK} {a p : Addr} {xs : List V} {ta tb : TE}
theorem x_listRg1 (h : ta σ H fun x H1 => ∃ n, x = .int n ∧ (RgOk 0 n ∧ ∀ q, H1 q = none → Q (.ref q) (upd H1 q (.lst (rgV 0 n))))) : tLstRg (tRg1 ta) σ H Q := h
theorem x_listRg2 (h : ta σ H fun x H1 => tb σ H1 fun y H2 => ∃ i j, x = .int i ∧ y = .int j ∧ (RgOk i j ∧ ∀ q, H2 q = none → Q (.ref q) (upd H2 q (.lst (rgV i j))))) : tLstRg (tRg2 ta tb) σ H Q := h
theorem x_tupRg1 (h : ta σ H fun x H1 => ∃ n, x = .int n ∧ (RgOk 0 n ∧ ∀ q, H1 q = none → Q (.ref q) (upd H1 q (.tup (rgV 0 n))))) : tTupRg (tRg1 ta) σ H Q := h
theorem x_ij {i j : Int} {R : Int → Int → Prop} (h : R i j) : ∃ k l, V.int i = .int k ∧ V.int j = .int l ∧ R k l := ⟨i, j, rfl, rfl, h⟩
theorem x_tyL {R : Prop} (h : SqL K H a xs) (q : R) : tyV K "list" (.ref a) H ∧ R := ⟨.inl ⟨rfl, _, h⟩, q⟩
theorem x_popAt {i : Int} {k : Nat} {y : V} (h : H p = some (.lst xs)) (h1 : -(2 ^ 63) ≤ i) (h2 : i < 2 ^ 63) (hi : ixN xs.length i = some k) (hy : xs[k]? = some y) (q : Q y (upd H p (.lst (xs.eraseIdx k)))) : rPopAt (.ref p) [.int i] H Q := ⟨p, xs, i, k, y, rfl, rfl, h, h1, h2, (ixN_seq hi).1, hy, q⟩
end
/-! the head alone is opened -/
theorem x_for {wi : TI} {g : TG} {tb : TS} {D : Ends} {σ : L2.St} {H : Hp} (h : wi σ H fun J H1 => ∃ W : Nat → Nat → L2.St → Hp → Prop, (∃ m, W 0 m σ H1) ∧ ∀ i m σ H, W i m σ H →
  (J.stop i H ∧ D.nx σ H) ∨ (J.go i H ∧ ∃ N : L2.St → Hp → Prop, (∀ σ' H', N σ' H' → ∃ m', m' < m ∧ W (i + 1) m' σ' H') ∧ ∀ x H', J.yld i H x H' → g x σ H' fun σ2 H2 => tb { nx := N, rt := D.rt, bk := D.nx, ct := N } σ2 H2)) : tFor wi g tb D σ H := h
theorem x_while {c : TT} {tb : TS} {D : Ends} {σ : L2.St} {H : Hp} (h : ∃ W : Nat → L2.St → Hp → Prop, (∃ m, W m σ H) ∧ ∀ m σ H, W m σ H →
  c σ H fun b H1 => if b = true then ∃ N : L2.St → Hp → Prop, (∀ σ' H', N σ' H' → ∃ m', m' < m ∧ W m' σ' H') ∧ tb { nx := N, rt := D.rt, bk := D.nx, ct := N } σ H1 else D.nx σ H1) : tWhile c tb D σ H := h
theorem x_lc {wi : TI} {g : TG} {tt : TT} {te : TE} {vs : List Nat} {σ : L2.St} {H : Hp} {Q : VK} (h : wi σ H fun J H1 => ∀ D, H1 D = none → ∃ W : Nat → Nat → Hp → Prop, (∃ m, W 0 m (upd H1 D (.lst []))) ∧ ∀ i m H, W i m H →
  (J.stop i H ∧ Q (.ref D) H) ∨ (J.go i H ∧ ∃ Nx : Hp → Prop, (∀ H', Nx H' → ∃ m', m' < m ∧ W (i + 1) m' H') ∧ ∀ x H', J.yld i H x H' → g x (wipe σ vs) H' fun σ2 H2 => wipe σ2 vs = wipe σ vs ∧ tt σ2 H2 fun b H3 =>
    if b = true then te σ2 H3 fun y H4 => ∃ acc, H4 D = some (.lst acc) ∧ acc.length < sizeLine ∧ Nx (upd H4 D (.lst (acc ++ [y]))) else Nx H3)) : tLc wi g tt te vs σ H Q := h
theorem x_lc2 {wi : TI} {g : TG} {tt : TT} {wi1 : TI} {g1 : TG} {tt1 : TT} {te : TE} {vs vs1 : List Nat} {σ : L2.St} {H : Hp} {Q : VK} (h : wi σ H fun J H1 => ∀ D, H1 D = none → ∃ W : Nat → Nat → Hp → Prop, (∃ m, W 0 m (upd H1 D (.lst []))) ∧ ∀ i m H, W i m H →
  (J.stop i H ∧ Q (.ref D) H) ∨ (J.go i H ∧ ∃ Nx : Hp → Prop, (∀ H', Nx H' → ∃ m', m' < m ∧ W (i + 1) m' H') ∧ ∀ x H', J.yld i H x H' → g x (wipe σ vs) H' fun σ2 H2 => wipe σ2 vs = wipe σ vs ∧ tt σ2 H2 fun b H3 =>
    if b = true then wi1 σ2 H3 fun J1 H4 => ∃ W1 : Nat → Nat → Hp → Prop, (∃ m, W1 0 m H4) ∧ ∀ j k H, W1 j k H →
      (J1.stop j H ∧ Nx H) ∨ (J1.go j H ∧ ∃ Nx1 : Hp → Prop, (∀ H', Nx1 H' → ∃ k', k' < k ∧ W1 (j + 1) k' H') ∧ ∀ x H', J1.yld j H x H' → g1 x (wipe σ2 vs1) H' fun σ3 H5 => wipe σ3 vs1 = wipe σ2 vs1 ∧ tt1 σ3 H5 fun b H6 =>
        if b = true then te σ3 H6 fun y H7 => ∃ acc, H7 D = some (.lst acc) ∧ acc.length < sizeLine ∧ Nx1 (upd H7 D (.lst (acc ++ [y]))) else Nx1 H6)
    else Nx H3)) : tLc2 wi g tt wi1 g1 tt1 te vs vs1 σ H Q := h
end Fv
/-! trees as lists of places; nothing of the program here -/
namespace Fv
def up (hs : List Nat) (k : Nat) : Nat := if k = 0 then 0 else hs.getD (k - 1) 0
def upN (hs : List Nat) : Nat → Nat → Nat
  | 0, k => k
  | j + 1, k => upN hs j (up hs k)
structure IsTree (hs : List Nat) : Prop where
  pos : 1 ≤ hs.length
  most : hs.length ≤ 40
  le : ∀ x ∈ hs, x ≤ hs.length
  comes : ∀ k, k ≤ hs.length → upN hs hs.length k = 0
theorem up_zero (hs : List Nat) : up hs 0 = 0 := rfl
theorem upN_zero (hs : List Nat) : ∀ j, upN hs j 0 = 0
  | 0 => rfl
  | j + 1 => by
    show upN hs j (up hs 0) = 0
    rw [up_zero]
    exact upN_zero hs j
theorem upN_add (hs : List Nat) : ∀ i j k, upN hs (i + j) k = upN hs j (upN hs i k)
  | 0, j, k => by
    rw [Nat.zero_add]
    rfl
  | i + 1, j, k => by
    rw [Nat.add_right_comm]
    exact upN_add hs i j (up hs k)
theorem upN_succ (hs : List Nat) (j k : Nat) : upN hs (j + 1) k = up hs (upN hs j k) := upN_add hs j 1 k
theorem upN_more {hs : List Nat} {i j k : Nat} (h : upN hs i k = 0) (hj : i ≤ j) : upN hs j k = 0 := by
  obtain ⟨d, rfl⟩ := Nat.le.dest hj
  rw [upN_add, h]
  exact upN_zero hs d
theorem up_le {hs : List Nat} (h : ∀ x ∈ hs, x ≤ hs.length) (k : Nat) : up hs k ≤ hs.length := by
  unfold up
  split
  · exact Nat.zero_le _
  · rw [List.getD_eq_getElem?_getD]
    cases e : hs[k - 1]? with
    | none => exact Nat.zero_le _
    | some x => exact h x (List.mem_of_getElem? e)
theorem upN_le {hs : List Nat} (h : ∀ x ∈ hs, x ≤ hs.length) : ∀ j k, k ≤ hs.length → upN hs j k ≤ hs.length
  | 0, _, hk => hk
  | j + 1, k, _ => upN_le h j (up hs k) (up_le h k)
theorem up_at {hs : List Nat} {k x : Nat} (hk : k ≠ 0) (h : hs[k - 1]? = some x) : up hs k = x := by
  unfold up
  rw [if_neg hk, List.getD_eq_getElem?_getD, h]
  rfl
/-- what is drawn: the blocks in some order, each under one ahead of it, or the head -/
def Drawn (hs : List Nat) : Prop := ∃ ms : List Nat, ms.Perm (List.range' 1 hs.length) ∧ ∀ (i x : Nat), ms[i]? = some x → ∃ j y : Nat, j ≤ i ∧ (0 :: ms)[j]? = some y ∧ hs[x - 1]? = some y
theorem Drawn.tree {hs : List Nat} (h : Drawn hs) (h1 : 1 ≤ hs.length) (h2 : hs.length ≤ 40) : IsTree hs := by
  obtain ⟨ms, hp, hd⟩ := h
  have hlen : ms.length = hs.length := by rw [hp.length_eq, List.length_range']
  have mem : ∀ x, x ∈ ms ↔ 1 ≤ x ∧ x < 1 + hs.length := fun x => by rw [hp.mem_iff, List.mem_range'_1]
  have key : ∀ i x, ms[i]? = some x → upN hs (i + 1) x = 0 := by
    intro i
    induction i using Nat.strongRecOn with
    | ind i ih =>
      intro x hx
      obtain ⟨j, y, hj, hy, e⟩ := hd i x hx
      have x1 := (mem x).mp (List.mem_of_getElem? hx)
      show upN hs i (up hs x) = 0
      rw [up_at (by omega) e]
      cases j with
      | zero =>
        have e0 : 0 = y := Option.some.inj hy
        rw [← e0]
        exact upN_zero hs i
      | succ j => exact upN_more (ih j (by omega) y hy) (by omega)
  refine ⟨h1, h2, fun x hx => ?_, fun k hk => ?_⟩
  · obtain ⟨p, hp1, e⟩ := List.getElem_of_mem hx
    have hm := (mem (p + 1)).mpr ⟨by omega, by omega⟩
    obtain ⟨i, hi, e2⟩ := List.getElem_of_mem hm
    obtain ⟨j, y, hj, hy, e3⟩ := hd i (p + 1) (by rw [List.getElem?_eq_getElem hi, e2])
    have e4 : hs[p]? = some y := e3
    rw [List.getElem?_eq_getElem hp1, e] at e4
    cases e4
    cases j with
    | zero =>
      have e0 : 0 = x := Option.some.inj hy
      omega
    | succ j =>
      have := (mem x).mp (List.mem_of_getElem? (show ms[j]? = some x from hy))
      omega
  · by_cases h0 : k = 0
    · rw [h0]
      exact upN_zero hs _
    · obtain ⟨i, hi, e2⟩ := List.getElem_of_mem ((mem k).mpr ⟨by omega, by omega⟩)
      exact upN_more (key i k (by rw [List.getElem?_eq_getElem hi, e2])) (by omega)
theorem perm_erase : ∀ {l : List Nat} {i : Nat} {x : Nat}, l[i]? = some x → (x :: l.eraseIdx i).Perm l
  | [], _, _, h => by simp at h
  | a :: l, 0, x, h => by
    have e : a = x := Option.some.inj h
    rw [e]
    exact List.Perm.refl _
  | a :: l, i + 1, x, h => by
    have ih := perm_erase (l := l) (i := i) (x := x) h
    exact (List.Perm.swap a x _).trans (ih.cons a)
/-! whatever leads, the head is come to in as many steps as there are blocks, or never -/
theorem bounded_len : ∀ (n : Nat) (l : List Nat), l.Nodup → (∀ x ∈ l, 1 ≤ x ∧ x ≤ n) → l.length ≤ n
  | 0, l, _, h => by
    cases l with
    | nil => exact Nat.le_refl _
    | cons x r =>
      have := h x List.mem_cons_self
      omega
  | n + 1, l, hn, h => by
    have h1 : (l.erase (n + 1)).length ≤ n := bounded_len n _ (hn.erase _) fun x hx => by
      have hx1 := (List.Nodup.mem_erase_iff hn).mp hx
      have := h x hx1.2
      omega
    by_cases hm : n + 1 ∈ l
    · rw [List.length_erase_of_mem hm] at h1
      omega
    · rw [List.erase_of_not_mem hm] at h1
      omega
theorem comes_by {hs : List Nat} (h : ∀ x ∈ hs, x ≤ hs.length) {j k : Nat} (hk : k ≤ hs.length) (hj : upN hs j k = 0) : upN hs hs.length k = 0 := by
  -- the least such number of steps
  have ex : ∃ d, upN hs d k = 0 ∧ ∀ d', d' < d → upN hs d' k ≠ 0 := by
    induction j using Nat.strongRecOn with
    | ind j ih =>
      by_cases hx : ∃ d, d < j ∧ upN hs d k = 0
      · obtain ⟨d, hd, e⟩ := hx
        exact ih d hd e
      · exact ⟨j, hj, fun d' hd e => hx ⟨d', hd, e⟩⟩
  obtain ⟨d, e, least⟩ := ex
  refine upN_more e ?_
  have hl : ((List.range d).map fun i => upN hs i k).length ≤ hs.length := by
    refine bounded_len hs.length _ ?_ fun x hx => ?_
    · rw [List.nodup_iff_pairwise_ne, List.pairwise_map]
      refine List.Pairwise.imp_of_mem (R := (· < ·)) (fun {a b} ha hb hlt heq => ?_) List.pairwise_lt_range
      rw [List.mem_range] at ha hb
      -- from a equal places one comes to the head as soon from a as from b
      have e1 : upN hs (a + (d - b)) k = 0 := by
        rw [upN_add, heq, ← upN_add, show b + (d - b) = d by omega]
        exact e
      exact least _ (by omega) e1
    · obtain ⟨i, hi, rfl⟩ := List.mem_map.mp hx
      rw [List.mem_range] at hi
      have := least i hi
      have := upN_le h i k hk
      omega
  rw [List.length_map, List.length_range] at hl
  exact hl
end Fv
set_option maxRecDepth 100000
set_option maxHeartbeats 1000000
namespace Fv
open PySem PySem.Spec L2
section
variable {K : PySem.W.Frag} {σ : L2.St} {H : Hp} {Q : VK} {a b p : Addr} {xs ys : List V} {ta tb : TE}
theorem But.freeB {H H1 : Hp} {p q : Addr} (b : But p H H1) (n : q ≠ p) (h : H1 q = none) : H q = none := by
  cases e : H q with
  | none => rfl
  | some o =>
    rw [b q o n e] at h
    cases h
theorem x_cat (h1 : H a = some (.lst xs)) (h2 : H b = some (.lst ys)) (hl : xs.length + ys.length ≤ sizeLine) (q : ∀ p, H p = none → Q (.ref p) (upd H p (.lst (xs ++ ys)))) : rCat (.ref a) (.ref b) H Q := ⟨a, b, xs, ys, rfl, rfl, h1, h2, hl, q⟩
theorem rep_one : ∀ (n : Nat) (v : V), (List.replicate n [v]).flatten = List.replicate n v
  | 0, _ => rfl
  | n + 1, v => by
    rw [List.replicate_succ, List.flatten_cons, rep_one n v, List.replicate_succ]
    rfl
theorem x_rep1 {n : Nat} {v : V} (h1 : H a = some (.lst [v])) (hn : n ≤ 1000) (q : ∀ p, H p = none → Q (.ref p) (upd H p (.lst (List.replicate n v)))) : rRep (.ref a) (.int n) H Q := by
  refine ⟨a, n, [v], rfl, rfl, h1, by omega, by omega, szLe (by show 1 * _ ≤ _; omega), fun p hp => ?_⟩
  rw [show (n : Int).toNat = n from rfl, rep_one]
  exact q p hp
theorem nats_rep (n : Nat) : List.replicate n (V.int 0) = nats (List.replicate n 0) := by
  unfold nats
  rw [List.map_replicate]
  rfl
end
end Fv
set_option maxRecDepth 100000
set_option maxHeartbeats 1000000
namespace Fv
open PySem PySem.Spec L2
/-- enumerate of a tuple from a written number on: each item in a new pair -/
def Itn (K : PySem.W.Frag) (t : Addr) (k : Int) : It where
  go := fun i H => ∃ (xs : List V) (x : V), SqT K H t xs ∧ xs[i]? = some x
  yld := fun i H v H' => ∃ (T : Addr) (x : V), v = .ref T ∧ H T = none ∧ H' = upd H T (.tup [.int (k + (i : Int)), x]) ∧ ∀ xs, SqT K H t xs → xs[i]? = some x
  stop := fun i H => ∃ xs : List V, SqT K H t xs ∧ xs.length = i
theorem isTuple_of {h : Heap} {a : Addr} {its : Array Value} (x : PyProof.Rows.IsTup h a its) : h.IsTuple a its := by
  obtain ⟨o, e, c, n, d⟩ := x
  exact ⟨o, e, c, n, d⟩
theorem turn_enumT {P : Program} {w : World} {K : PySem.W.Frag} {elts : List Expr} {kk : Nat} {tpos : Pos} (k : Int) (t e it : Addr) (nt : t ≠ it) (ne : e ≠ it) (ne' : e ≠ t) :
    Turn P w K (.Tuple elts kk tpos) (Itn K t k) [e, it] e (fun i h => (∃ old, IsEnum h e it (k + (i : Int)) old) ∧ h.IsTupleIter it t i) where
  mem := List.mem_cons_self
  obj := fun i h st b hb => by
    obtain ⟨⟨old, he⟩, ⟨o, ho, hc, hd⟩⟩ := st
    rcases List.mem_cons.mp hb with rfl | hb
    · exact ⟨_, he, fun v q => nomatch q⟩
    · rw [List.mem_singleton.mp hb]
      exact ⟨o, ho, fun v q => by rw [hd] at q; cases q⟩
  keep := fun i h h' st kp => ⟨st.1.elim fun old he => ⟨old, kp e List.mem_cons_self _ he⟩, st.2.at fun o q => kp it (List.mem_cons_of_mem _ List.mem_cons_self) o q⟩
  item := by
    intro X hP hw hK hc i pins s σ H E I hf st hg
    subst hP hw hK
    obtain ⟨xs, x, hq, hx⟩ := hg
    obtain ⟨its, rv, p, hz⟩ := I.tuple hq
    obtain ⟨u, hu, ru⟩ := rv.get hx
    have hil : i < its.length := (List.getElem?_eq_some_iff.mp hu).1
    have W := WalksT.enumFrom (prog := X.prog) (w := X.w) (A := X.A) k (Draws.tuple (prog := X.prog) (w := X.w) (A := X.A.in1) (it := it) (t := t) (show X.A.in1.handled = none from I.ok.hd hc) nt its.toArray) e ne (by simp [ne, ne']) (by simp)
    refine W.item i s _ E (by simpa using hil) ⟨st.1, st.2, isTuple_of p⟩ fun T vals h' tk hP' hT hTup hMid hk => ?_
    refine ⟨_, rfl, W.go elts kk tpos i T _ _ E hMid fun h'' hst' hk' => ?_⟩
    obtain ⟨tk2, y, hy, rfl⟩ := hP'
    have ey : y = u := by
      have e1 : its.toArray[i]? = some u := by simpa using hu
      rw [e1] at hy
      exact (Option.some.inj hy).symm
    subst ey
    have hfp : ∀ b ∈ [e, it], b < s.heap.objs.size := fun b hb => by
      obtain ⟨⟨old, he⟩, ⟨o, ho, _⟩⟩ := st
      rcases List.mem_cons.mp hb with rfl | hb
      · exact Heap.lt_size he
      · rw [List.mem_singleton.mp hb]
        exact Heap.lt_size ho
    have hTn : T ∉ [e, it] := W.apart i T _ hMid
    have hTup2 : h''.IsTuple T #[.int (k + (i : Int)) tk2, y] := by
      obtain ⟨o, e1, c1, n1, d1⟩ := hTup
      exact ⟨o, hk' _ _ hTn e1, c1, n1, d1⟩
    have new : ObjOk X.prog X.w (upd H T (.tup [.int (k + (i : Int)), x])) h'' T (.tup [.int (k + (i : Int)), x]) := by
      obtain ⟨o, e1, c1, n1, d1⟩ := hTup2
      exact ⟨by show 2 ≤ sizeLine; decide, [.int (k + (i : Int)) tk2, y], .cons ⟨_, rfl⟩ (.cons ru .nil), ⟨o, e1, c1, n1, d1⟩⟩
    have I1 : Inv X pins σ (upd H T (.tup [.int (k + (i : Int)), x])) { s with heap := h'', toks := tk } :=
      I.turnedNew (ch := [e, it]) (fun b ob hb q => hk' b ob hb (hk b ob hb q)) hf hT new
    refine ⟨.ref T, _, I1, rfl, ⟨T, x, rfl, I.hok.fresh hT, rfl, fun ys hys => by rw [I.tuple_inj hys hq]; exact hx⟩, ⟨hst'.1, hst'.2.1⟩, fun b hb => ?_⟩
    have hbT : b ≠ T := fun z => absurd (hfp b hb) (by rw [z]; exact Nat.not_lt.mpr hT)
    rw [upd_ne hbT]
    exact (hf b hb).1
  done := by
    intro X hP hw hK hc i pins s σ H E I hf st hg
    subst hP hw hK
    obtain ⟨xs, hq, hx⟩ := hg
    obtain ⟨its, rv, p, hz⟩ := I.tuple hq
    have W := WalksT.enumFrom (prog := X.prog) (w := X.w) (A := X.A) k (Draws.tuple (prog := X.prog) (w := X.w) (A := X.A.in1) (it := it) (t := t) (show X.A.in1.handled = none from I.ok.hd hc) nt its.toArray) e ne (by simp [ne, ne']) (by simp)
    have el : i = its.toArray.size := by
      rw [← hx, Vals.length rv]
      simp
    rw [el] at st
    refine W.done s _ E ⟨st.1, st.2, isTuple_of p⟩ fun h' tk hk => ⟨rfl, ?_⟩
    have nh : ∀ b u, H b = some u → b ∉ [e, it] := fun b u hb z => by
      have q := (hf b z).1
      rw [q] at hb
      cases hb
    refine I.step (g' := s.gens) (d' := s.drawn) (ch := [e, it]) (fun b hb => ⟨(hf b hb).2.2.2.1, (hf b hb).2.1, (hf b hb).2.2.2.2.1, (hf b hb).2.2.2.2.2⟩) (fun b o _ _ hc e _ => hk b o hc e) (fun b o _ _ hc e _ => ⟨o.slots, hk b o hc e⟩)
      (fun _ _ _ _ n => n) (fun b o hc e => ⟨o, hk b o hc e⟩) (fun _ _ q => q) (fun _ _ _ q => q) (fun _ ps q => ⟨#[], by rw [q]; simp⟩) (fun m hm => ?_) (fun b u hb => ?_) I.bare
    · obtain ⟨o, es, ep, ho, r⟩ := hm
      exact ⟨o, es, ep, hk _ o (fun z => (hf _ z).2.1 rfl) ho, r⟩
    · refine (I.hok b u hb).stay (fun c v hc q => hk c v ?_ q) (fun _ q => q) fun _ _ q => q
      rcases hc with z | z
      · rw [z]
        exact nh b u hb
      · exact nh c _ z
  self := fun A i s Q E st h => by
    obtain ⟨⟨old, he⟩, _⟩ := st
    exact wpAny_pyIter_enum he h
/-- enumerate(e, start=k), k written -/
def iEnT (K : PySem.W.Frag) (k : Int) (ta : TA) : TI := fun σ H R => ta σ H fun vs H1 => ∃ (t : Addr) (xs : List V), vs = [.ref t] ∧ SqT K H1 t xs ∧ R (Itn K t k) H1
theorem pi_enumT {X : Cx} {e : Expr} {ta : TA} {p pos tpos kpos kp : Pos} {elts : List Expr} {kk j : Nat} {k : Int} (hc : X.calm = true) (hg : Gl X "enumerate") (hm : X.mg "enumerate" = none) (h0 : -(2 ^ 63) ≤ k) (h1 : k < 2 ^ 63) (ha : PA X [e] ta)
    (hs : starEach [e] X.env = (false, eval e X.env) :: starEach [] X.env := by rfl) :
    PI X (.Tuple elts kk tpos) (.Call (.Name "enumerate" p) [e] [⟨some "start", .Constant (.int k) j kp, kpos⟩] pos) (iEnT X.K k ta) := by
  refine ⟨fun pins s σ H R I h => ?_⟩
  refine wpAny_Call_Name_kw (ld_blt I hg hm (u := .type "enumerate") (by decide +kernel) ?_)
  refine PySem.W.callWith_of (P := fun _ => True) (by rw [hs]; rfl) (fun h _ => ⟨_, .inr (.inl rfl), PySem.W.Looks.of_pure rfl⟩) (PyProof.Rows.evalArgs_kw2 rfl (thn (ha.run pos pins s σ H _ I h) fun us s1 ⟨vs, H1, I1, r1, t, xs, ev, hq, q⟩ => ?_) hs)
  have hkw : PK X [⟨some "start", .Constant (.int k) j kp, kpos⟩] (tCons (tC (.int k)) tNil) := pk_cons pe_int pk_nil
  refine thn (hkw.run pos pins s1 σ H1 (fun zs H2 => zs = [.int k] ∧ H2 = H1) I1 ⟨rfl, rfl⟩) fun ks s2 ⟨zs, H2, I2, r2, ez, eH⟩ => ⟨True.intro, ?_⟩
  subst ev ez eH
  cases r1 with
  | cons r rr =>
    cases rr
    cases r
    cases r2 with
    | cons rk rrk =>
      cases rrk
      obtain ⟨tk, rfl⟩ := rk
      obtain ⟨its, rv, p', hz⟩ := I2.tuple hq
      refine enum_begins_start (begins_tuple t its.toArray) (isTuple_of p') h0 h1 fun h' he hit hsz hkp => ?_
      refine wpAny_pyIter_enum he ?_
      have I3 : Inv X pins σ H2 { s2 with heap := h' } := I2.kept (t' := s2.toks) hkp
      have ht : t < s2.heap.objs.size := p'.lt
      have hn : ∀ b, s2.heap.objs.size ≤ b → H2 b = none := fun b hb => I2.hok.fresh hb
      refine ⟨s2.heap.objs.size + 1, [s2.heap.objs.size + 1, s2.heap.objs.size], _, _, H2, rfl, I3, turn_enumT k t (s2.heap.objs.size + 1) s2.heap.objs.size (Nat.ne_of_lt ht) (Nat.succ_ne_self _) (Nat.ne_of_gt (Nat.lt_succ_of_lt ht)),
        ⟨⟨.none, ?_⟩, ⟨_, hit, rfl, rfl⟩⟩, fun b hb => ?_, q⟩
      · rw [show k + ((0 : Nat) : Int) = k by omega]
        exact he
      · have hle : s2.heap.objs.size ≤ b := by
          rcases List.mem_cons.mp hb with rfl | hb
          · exact Nat.le_succ _
          · rw [List.mem_singleton.mp hb]
            exact Nat.le_refl _
        exact I2.fpOk hle (hn b hle)
end Fv
set_option maxRecDepth 100000
set_option maxHeartbeats 1000000
namespace Fv
open PySem PySem.Spec L2
theorem lp_enumT {K : PySem.W.Frag} {t : Addr} {k : Int} {xs : List V} {g : TG} {tb : TS} {nx : L2.St → Hp → Prop} {rt : VK} {σ : L2.St} {H : Hp} (Pv : Nat → L2.St → Hp → Prop) (h0 : Pv 0 σ H) (hl : ∀ i σ H, i ≤ xs.length → Pv i σ H → SqT K H t xs)
    (hs : ∀ i x σ H T, xs[i]? = some x → Pv i σ H → H T = none → g (.ref T) σ (upd H T (.tup [.int (k + (i : Int)), x])) fun σ2 H2 => tb { nx := Pv (i + 1), rt := rt, bk := nx, ct := Pv (i + 1) } σ2 H2) (hd : ∀ σ H, Pv xs.length σ H → nx σ H) :
    ∃ W : Nat → Nat → L2.St → Hp → Prop, (∃ m, W 0 m σ H) ∧ ∀ i m σ H, W i m σ H → ((Itn K t k).stop i H ∧ nx σ H) ∨ ((Itn K t k).go i H ∧ ∃ N : L2.St → Hp → Prop, (∀ σ' H', N σ' H' → ∃ m', m' < m ∧ W (i + 1) m' σ' H') ∧ ∀ x H', (Itn K t k).yld i H x H' → g x σ H' fun σ2 H2 => tb { nx := N, rt := rt, bk := nx, ct := N } σ2 H2) := by
  refine ⟨fun i m σ H => m = xs.length - i ∧ i ≤ xs.length ∧ Pv i σ H, ⟨_, rfl, Nat.zero_le _, h0⟩, ?_⟩
  rintro i m σ H ⟨rfl, hi, p⟩
  have q := hl i σ H hi p
  by_cases hlt : i < xs.length
  · refine .inr ⟨⟨xs, xs[i], q, List.getElem?_eq_getElem hlt⟩, Pv (i + 1), fun σ' H' p' => ⟨_, by omega, rfl, hlt, p'⟩, fun x H' y => ?_⟩
    obtain ⟨T, z, rfl, hT, rfl, hz⟩ := y
    exact hs i z σ H T (hz xs q) p hT
  · have e : i = xs.length := by omega
    subst e
    exact .inl ⟨⟨xs, q, rfl⟩, hd σ H p⟩
theorem lc_enumT {K : PySem.W.Frag} {t : Addr} {k : Int} {xs : List V} {g : TG} {tt : TT} {te : TE} {vs : List Nat} {σ : L2.St} {H1 : Hp} {D : Addr} {Qd : Hp → Prop} (Pv : Nat → Hp → Prop) (h0 : Pv 0 (upd H1 D (.lst []))) (hl : ∀ i H, i ≤ xs.length → Pv i H → SqT K H t xs)
    (hs : ∀ i x H T, xs[i]? = some x → Pv i H → H T = none → g (.ref T) (wipe σ vs) (upd H T (.tup [.int (k + (i : Int)), x])) fun σ2 H2 => wipe σ2 vs = wipe σ vs ∧ tt σ2 H2 fun b H3 =>
      if b = true then te σ2 H3 fun y H4 => ∃ acc, H4 D = some (.lst acc) ∧ acc.length < sizeLine ∧ Pv (i + 1) (upd H4 D (.lst (acc ++ [y]))) else Pv (i + 1) H3) (hd : ∀ H, Pv xs.length H → Qd H) :
    ∃ W : Nat → Nat → Hp → Prop, (∃ m, W 0 m (upd H1 D (.lst []))) ∧ ∀ i m H, W i m H → ((Itn K t k).stop i H ∧ Qd H) ∨ ((Itn K t k).go i H ∧ ∃ Nx : Hp → Prop, (∀ H', Nx H' → ∃ m', m' < m ∧ W (i + 1) m' H') ∧ ∀ x H', (Itn K t k).yld i H x H' → g x (wipe σ vs) H' fun σ2 H2 => wipe σ2 vs = wipe σ vs ∧ tt σ2 H2 fun b H3 =>
        if b = true then te σ2 H3 fun y H4 => ∃ acc, H4 D = some (.lst acc) ∧ acc.length < sizeLine ∧ Nx (upd H4 D (.lst (acc ++ [y]))) else Nx H3) := by
  refine ⟨fun i m H => m = xs.length - i ∧ i ≤ xs.length ∧ Pv i H, ⟨_, rfl, Nat.zero_le _, h0⟩, ?_⟩
  rintro i m H ⟨rfl, hi, p⟩
  have q := hl i H hi p
  by_cases hlt : i < xs.length
  · refine .inr ⟨⟨xs, xs[i], q, List.getElem?_eq_getElem hlt⟩, Pv (i + 1), fun H' p' => ⟨_, by omega, rfl, hlt, p'⟩, fun x H' y => ?_⟩
    obtain ⟨T, z, rfl, hT, rfl, hz⟩ := y
    exact hs i z H T (hz xs q) p hT
  · have e : i = xs.length := by omega
    subst e
    exact .inl ⟨⟨xs, q, rfl⟩, hd H p⟩
section
variable {K : PySem.W.Frag} {σ : L2.St} {H : Hp} {Q : VK} {a p : Addr} {xs : List V} {ta tb : TE}
theorem x_ent {R : It → Hp → Prop} {k : Int} {ts : TA} (h : ts σ H fun vs H1 => ∃ (t : Addr) (xs : List V), vs = [.ref t] ∧ SqT K H1 t xs ∧ R (Itn K t k) H1) : iEnT K k ts σ H R := h
theorem x_ent1 {R : Addr → Prop} (h : SqT K H a xs) (q : R a) : ∃ (t : Addr) (ys : List V), [V.ref a] = [.ref t] ∧ SqT K H t ys ∧ R t := ⟨a, xs, rfl, h, q⟩
end
theorem pi_enumTK {X : Cx} {K : PySem.W.Frag} {e : Expr} {ta : TA} {p pos tpos kpos kp : Pos} {elts : List Expr} {kk j : Nat} {k : Int} (eK : X.K = K) (hc : X.calm = true) (hg : Gl X "enumerate") (hm : X.mg "enumerate" = none) (h0 : -(2 ^ 63) ≤ k) (h1 : k < 2 ^ 63) (ha : PA X [e] ta)
    (hs : starEach [e] X.env = (false, eval e X.env) :: starEach [] X.env := by rfl) :
    PI X (.Tuple elts kk tpos) (.Call (.Name "enumerate" p) [e] [⟨some "start", .Constant (.int k) j kp, kpos⟩] pos) (iEnT K k ta) := by
  subst eK
  exact pi_enumT hc hg hm h0 h1 ha hs
theorem x_isnd {c : Prop} [Decidable c] {A B : Prop} (h1 : ¬ c → A) (h2 : c → B) : if (!decide c) = true then A else B := by
  by_cases h : c
  · rw [decide_eq_true h]
    exact iteF (h2 h)
  · rw [decide_eq_false h]
    exact iteT (h1 h)
theorem num_int {lo hi : Int} {x : V} (h : numV lo hi x = true) : ∃ z, x = .int z ∧ lo ≤ z ∧ z ≤ hi := by
  cases x with
  | int i =>
    have h' : (decide (lo ≤ i) && decide (i ≤ hi)) = true := h
    rw [Bool.and_eq_true, decide_eq_true_eq, decide_eq_true_eq] at h'
    exact ⟨i, rfl, h'.1, h'.2⟩
  | _ => cases h
theorem at_pred {xs : List V} {i : Nat} {x : V} (h : xs[i]? = some x) : atI xs (1 + (i : Int) - 1) = some x := by
  rw [show 1 + (i : Int) - 1 = (i : Int) by omega]
  exact atI_nat h
/-! what is due for a tuple -/
inductive Due where
  | hung
  | block (k : Nat)
  | ring (k : Nat)
  | ok
/-- an item that is no place, or the block itself -/
def badV (n i : Nat) (x : V) : Prop := numV 0 n x = false ∨ x = .int ((i + 1 : Nat) : Int)
inductive DueIs (xs : List V) : Due → Prop where
  | hung : ¬ (1 ≤ xs.length ∧ xs.length ≤ 40) → DueIs xs .hung
  | block {i : Nat} {x : V} : 1 ≤ xs.length → xs.length ≤ 40 → (∀ j y, j < i → xs[j]? = some y → ¬ badV xs.length j y) → xs[i]? = some x → badV xs.length i x → DueIs xs (.block (i + 1))
  | ring {hs : List Nat} {k : Nat} : 1 ≤ xs.length → xs.length ≤ 40 → xs = nats hs → (∀ j y, xs[j]? = some y → ¬ badV xs.length j y) → (∀ j, 1 ≤ j → j < k → upN hs hs.length j = 0) → 1 ≤ k → k ≤ hs.length → upN hs hs.length k ≠ 0 → DueIs xs (.ring k)
  | ok {hs : List Nat} : IsTree hs → xs = nats hs → (∀ j y, xs[j]? = some y → ¬ badV xs.length j y) → DueIs xs .ok
theorem nats_inj : ∀ {l m : List Nat}, nats l = nats m → l = m
  | [], [], _ => rfl
  | [], _ :: _, h => by cases h
  | _ :: _, [], h => by cases h
  | a :: l, b :: m, h => by
    have h' : V.int (Int.ofNat a) :: nats l = V.int (Int.ofNat b) :: nats m := h
    injection h' with h1 h2
    injection h1 with h1
    injection h1 with h1
    rw [h1, nats_inj h2]
theorem DueIs.det {xs : List V} {d e : Due} (h : DueIs xs d) (h' : DueIs xs e) : d = e := by
  cases h with
  | hung n =>
    cases h' with
    | hung _ => rfl
    | block a b _ _ _ => exact (n ⟨a, b⟩).elim
    | ring a b _ _ _ _ _ _ => exact (n ⟨a, b⟩).elim
    | ok t e _ => exact (n ⟨by rw [e, nats_length]; exact t.pos, by rw [e, nats_length]; exact t.most⟩).elim
  | @block i x a b f e1 bd =>
    cases h' with
    | hung n => exact (n ⟨a, b⟩).elim
    | @block j y _ _ f2 e2 bd2 =>
      rcases Nat.lt_trichotomy i j with h | h | h
      · exact (f2 _ _ h e1 bd).elim
      · rw [h]
      · exact (f _ _ h e2 bd2).elim
    | ring _ _ _ f2 _ _ _ _ => exact (f2 _ _ e1 bd).elim
    | ok _ _ f2 => exact (f2 _ _ e1 bd).elim
  | @ring hs k a b e f g k1 k2 nz =>
    cases h' with
    | hung n => exact (n ⟨a, b⟩).elim
    | block _ _ _ e2 bd => exact (f _ _ e2 bd).elim
    | @ring hs2 k' _ _ e2 _ g2 k1' k2' nz2 =>
      have eh := nats_inj (e.symm.trans e2)
      subst eh
      rcases Nat.lt_trichotomy k k' with h | h | h
      · exact (nz (g2 k k1 h)).elim
      · rw [h]
      · exact (nz2 (g k' k1' h)).elim
    | @ok hs2 t e2 _ =>
      have eh := nats_inj (e.symm.trans e2)
      subst eh
      exact (nz (t.comes k k2)).elim
  | @ok hs t e f =>
    cases h' with
    | hung n => exact (n ⟨by rw [e, nats_length]; exact t.pos, by rw [e, nats_length]; exact t.most⟩).elim
    | block _ _ _ e2 bd => exact (f _ _ e2 bd).elim
    | @ring hs2 k' _ _ e2 _ g2 k1' k2' nz2 =>
      have eh := nats_inj (e.symm.trans e2)
      subst eh
      exact (nz2 (t.comes k' k2')).elim
    | ok _ _ _ => rfl
/-- no bad one: they are places -/
theorem good_nats {xs : List V} (n : Nat) (h : ∀ (j : Nat) y, xs[j]? = some y → numV 0 n y = true) : ∃ hs : List Nat, xs = nats hs ∧ ∀ x ∈ hs, x ≤ n := by
  induction xs with
  | nil => exact ⟨[], rfl, fun _ h => nomatch h⟩
  | cons x r ih =>
    obtain ⟨hs, e, hle⟩ := ih fun j y hy => h (j + 1) y hy
    have hx := h 0 x rfl
    cases x with
    | int i =>
      have hx' : (decide ((0 : Int) ≤ i) && decide (i ≤ (n : Int))) = true := hx
      rw [Bool.and_eq_true, decide_eq_true_eq, decide_eq_true_eq] at hx'
      obtain ⟨m, rfl⟩ := Int.eq_ofNat_of_zero_le hx'.1
      refine ⟨m :: hs, by rw [e]; rfl, fun y hy => ?_⟩
      rcases List.mem_cons.mp hy with rfl | hy
      · omega
      · exact hle y hy
    | _ => cases hx
end Fv
set_option maxRecDepth 100000
set_option maxHeartbeats 1000000
namespace Fv
open PySem PySem.Spec L2
theorem x_mko {C : Addr} {sp : Sp} {dvs : List V} {ta : TA} {σ : L2.St} {H : Hp} {Q : XK} (h : ta σ H fun vs H1 => vs.length ≤ 1000 ∧ ∀ a, H1 a = none → sp (.ref a :: (vs ++ dvs)) (upd H1 a (exo a C none)) (fun v H2 => v = .non ∧ ∃ (d : Addr) (fs : List (Str × V)), H2 a = some (exo a C (some d)) ∧ H2 d = some (exd d fs) ∧ H1 d = none ∧ Q (.ref C) (some d) (upd (del H2 a) d (.xd fs))) (fun _ _ _ => False)) : tMkO C sp dvs ta σ H Q := h
theorem x_ost {K : PySem.W.Frag} {f : Str} {to te : TE} {D : Ends} {σ : L2.St} {H : Hp} (h : te σ H fun y H1 => to σ H1 fun x H2 => ∃ a C : Addr, x = .ref a ∧ OexC K C ∧ PySem.W.findIn K (.ref C) f = some none ∧ ((H2 a = some (exo a C none) ∧ ∀ dx, H2 dx = none → dx ≠ a → D.nx σ (upd (upd H2 dx (exd dx [(f, y)])) a (exo a C (some dx)))) ∨ ∃ (dx : Addr) (fs : List (Str × V)), H2 a = some (exo a C (some dx)) ∧ H2 dx = some (exd dx fs) ∧ fs.length ≤ 900 ∧ D.nx σ (upd H2 dx (exd dx ((f, y) :: fs))))) : tOst K f to te D σ H := h
theorem x_sfld {K : PySem.W.Frag} {ta tv : TE} {f : Str} {D : Ends} {σ : L2.St} {H : Hp} (h : tv σ H fun y H1 => ta σ H1 fun x H2 => ∃ a C dx fs, x = .ref a ∧ H2 a = some (.ins C dx fs) ∧ Cls K C ∧ NoAttr K C f ∧ fs.length < 1000 ∧ D.nx σ (upd H2 a (.ins C dx (putF f y fs)))) : sFld K ta tv f D σ H := h
/-- a method, called by its class or through another -/
structure CalM (K : PySem.W.Frag) (f : Addr) (fd : FuncData) (ps : List Str) : Prop where
  k : PySem.W.keepIn K (.ref f) = true
  b : Binds K fd ps []
/-- an own error with one field, set by its __init__ -/
structure ExcF (K : PySem.W.Frag) (C fI : Addr) (f : Str) : Prop where
  T : OexC K C
  i : PySem.W.findIn K (.ref C) "__init__" = some (some (.ref fI))
  t : PySem.W.typeIn K (.ref fI) = some (.type "function")
  n : PySem.W.findIn K (.ref C) f = some none
def spField (C : Addr) (f : Str) : Sp := fun vs H Q _ => ∃ (a : Addr) (v : V), vs = [.ref a, v] ∧ H a = some (exo a C none) ∧ ∀ dx, H dx = none → dx ≠ a → Q .non (upd (upd H dx (exd dx [(f, v)])) a (exo a C (some dx)))
/-- raise C(v): the error's own dict is new, all that was tracked stands -/
theorem mk_field {C : Addr} {f : Str} {v : V} {H : Hp} {Q : XK} (h : ∀ d H', Same H H' → H d = none → H' d = some (.xd [(f, v)]) → Q (.ref C) (some d) H') :
    [v].length ≤ 1000 ∧ ∀ a, H a = none → spField C f (.ref a :: ([v] ++ [])) (upd H a (exo a C none)) (fun v H2 => v = .non ∧ ∃ (d : Addr) (fs : List (Str × V)), H2 a = some (exo a C (some d)) ∧ H2 d = some (exd d fs) ∧ H d = none ∧ Q (.ref C) (some d) (upd (del H2 a) d (.xd fs))) (fun _ _ _ => False) := by
  refine ⟨by show 1 ≤ 1000; decide, fun a ha => ⟨a, v, rfl, upd_same, fun dx hd ne => ⟨rfl, dx, [(f, v)], upd_same, ?_, ?_, ?_⟩⟩⟩
  · rw [upd_ne ne, upd_same]
  · rw [upd_ne ne] at hd
    exact hd
  · rw [upd_ne ne] at hd
    refine h dx _ (fun b o e => ?_) hd upd_same
    have nb := ne_of_none e ha
    rw [upd_ne (ne_of_none e hd), del_ne nb, upd_ne nb, upd_ne (ne_of_none e hd), upd_ne nb]
    exact e
end Fv
set_option maxRecDepth 100000
set_option maxHeartbeats 1000000
namespace Fv
open PySem PySem.Spec L2
/-! tuples of places compared -/
def dn (l : List Nat) : List PyData := l.map fun (n : Nat) => PyData.int (Int.ofNat n)
theorem dpAll_nats {K : PySem.W.Frag} {H : Hp} : ∀ l : List Nat, DpAll K H (nats l) (dn l)
  | [] => .nil
  | a :: l => .cons (.int _) (dpAll_nats l)
theorem dn_lay : ∀ l : List Nat, PyData.canLayAll0 (dn l) = true
  | [] => rfl
  | a :: l => by
    show (PyData.canLay0 (.int (Int.ofNat a)) && PyData.canLayAll0 (dn l)) = true
    rw [dn_lay l]
    rfl
theorem dn_depth : ∀ l : List Nat, PyData.depthAll (dn l) = 0
  | [] => rfl
  | a :: l => by
    show max (PyData.depth (.int (Int.ofNat a))) (PyData.depthAll (dn l)) = 0
    rw [dn_depth l]
    rfl
theorem dn_shaped (l : List Nat) : SeqAt.shaped (.tuple (dn l)) = true := by
  show (PyData.canLayAll0 (dn l) && decide (PyData.depthAll (dn l) + 1 ≤ 64)) = true
  rw [dn_lay, dn_depth]
  rfl
theorem dn_eqv : ∀ l m : List Nat, PyData.eqvAll (dn l) (dn m) = decide (l = m)
  | [], [] => by simp [dn, PyData.eqvAll]
  | [], _ :: _ => by simp [dn, PyData.eqvAll]
  | _ :: _, [] => by simp [dn, PyData.eqvAll]
  | a :: l, b :: m => by
    show PyData.eqvAll (.int (Int.ofNat a) :: dn l) (.int (Int.ofNat b) :: dn m) = _
    rw [PyData.eqvAll, dn_eqv l m, PyData.eqv, Bool.eq_iff_iff]
    simp
    intro _
    omega
section
variable {K : PySem.W.Frag} {H : Hp} {Q : VK} {a b : Addr} {l m : List Nat}
theorem x_eqTup (h1 : SqT K H a (nats l)) (h2 : SqT K H b (nats m)) (q : Q (.bl (decide (l = m))) H) : rEqD K (.ref a) (.ref b) H Q := by
  refine ⟨.tuple (dn l), .tuple (dn m), .tup h1 (dpAll_nats l), .tup h2 (dpAll_nats m), dn_shaped l, dn_shaped m, ?_⟩
  rw [PyData.eqv, dn_eqv]
  exact q
theorem x_neTup (h1 : SqT K H a (nats l)) (h2 : SqT K H b (nats m)) (q : Q (.bl (!decide (l = m))) H) : rNeD K (.ref a) (.ref b) H Q := by
  refine ⟨.tuple (dn l), .tuple (dn m), .tup h1 (dpAll_nats l), .tup h2 (dpAll_nats m), dn_shaped l, dn_shaped m, ?_⟩
  rw [PyData.eqv, dn_eqv]
  exact q
end
/-! x == y by x's own __eq__ -/
structure OwnQ (K : PySem.W.Frag) (C f : Addr) : Prop where
  s : PySem.W.findIn K (.ref C) "__eq__" = some (some (.ref f))
  fn : PySem.W.isFn K (.ref f) = true
def rOwn (C : Addr) (sp : Sp) : R2 := fun x y H Q => ∃ (a b dx : Addr) (fs : List (Str × V)), x = .ref a ∧ y = .ref b ∧ H a = some (.ins C dx fs) ∧ ((∃ dy gs, H b = some (.ins C dy gs)) ∨ ∃ xs, H b = some (.tup xs)) ∧
  sp [.ref a, .ref b] H (fun v H' => ∃ r, v = .bl r ∧ Q (.bl r) H') (fun _ _ _ => False)
theorem tup_apart (K : PySem.W.Frag) (C : Addr) : PySem.W.notFirst K C (.type "tuple") = true := by
  have e : PySem.W.subIn K (.type "tuple") (.ref C) = some false := by
    have e2 : PySem.fastBuiltinMro "tuple" = some [.type "tuple", .type "object"] := by decide +kernel
    show (PySem.fastBuiltinMro "tuple").map (·.contains (Value.ref C)) = some false
    rw [e2]
    rfl
  unfold PySem.W.notFirst
  rw [e]
  rfl
theorem op_own {X : Cx} {C f : Addr} {fd : FuncData} {ps : List Str} {sp : Sp} {n : Nat} (O : OwnQ X.K C f) (F : FnOk X.prog X.w X.K X.mg X.base CX0 n f fd ps sp) (hb : Binds X.K fd ps []) (hr : Room n X.A) : OpR X (compareOp .Eq) (rOwn C sp) := by
  intro pins s σ H x y v u Q I rx ry h
  obtain ⟨a, b, dx, fs, rfl, rfl, ha, hB, hsp⟩ := h
  cases rx
  cases ry
  show wpAny (model X.prog X.w) X.A (richCompare .Eq (.ref a) (.ref b)) (EP X pins σ Q) X.xe s
  obtain ⟨mA, J, _⟩ := ins_get I.hok ha
  obtain ⟨od, J, _⟩ := J.look
  obtain ⟨m, hF⟩ := I.fr
  have r2 : Vals [V.ref a, V.ref b] [Value.ref a, Value.ref b] := .cons rfl (.cons rfl .nil)
  have back : wpAny (model X.prog X.w) X.A (call (.ref f) [.ref a, .ref b]) (PySem.W.CmpBack (EP X pins σ Q)) X.xe s := by
    refine thn (run_fn F hr hb .nil pass0 I r2 hsp) fun w' s' ⟨z, H', I', rz, r, ez, q⟩ => ?_
    subst ez
    cases rz
    exact ⟨.bl r, H', I', rfl, q⟩
  rcases hB with ⟨dy, gs, hB⟩ | ⟨xs, hB⟩
  · obtain ⟨mB, J', _⟩ := ins_get I.hok hB
    obtain ⟨od', J', _⟩ := J'.look
    exact PySem.W.cmp_K (op := .Eq) (tb := .ref C) hr.units0 hF I.ok.mod.kin J J'.type (by simp [PySem.W.notFirst]) O.s O.fn back
  · obtain ⟨_, _, _, o, h1, h2, _⟩ := (show ObjOk X.prog X.w H s.heap b (.tup xs) from I.hok b _ hB)
    exact PySem.W.cmp_K (op := .Eq) (tb := .type "tuple") hr.units0 hF I.ok.mod.kin J (fun A Q E s k q => wpAny_typeOf_ref (k _ _ h1) (by rw [h2]; exact q)) (tup_apart X.K C) O.s O.fn back
/-! what isinstance asks of an own class -/
structure IsC (K : PySem.W.Frag) (C : Addr) : Prop where
  cl : Cls K C
  ha : PySem.W.findIn K (.ref C) "__class__" = some (some (.builtin "object.__class__"))
  hn : PySem.W.specialIn K (.builtin "object.__class__") "__get__" = some (some (.builtin "getset_descriptor.__get__"))
  ht : PySem.W.takesIn K (.builtin "object.__class__") = some true
  hm : PySem.W.mroIn K C (.type "object") = some true
  own : PySem.W.kitOne K (.ref C) (.ref C) = some true
  tup : PySem.W.kitOne K (.type "tuple") (.ref C) = some false
section
variable {K : PySem.W.Frag} {H : Hp} {Q : VK} {a C dx : Addr} {fs : List (Str × V)} {xs : List V}
theorem isi_own (c : IsC K C) (h : H a = some (.ins C dx fs)) (q : Q (.bl true) H) : rIsi K [.ref a, .ref C] H Q := ⟨.ref a, .ref C, .ref C, .ref C, true, rfl, .own C, .base (.ins h c.cl c.ha c.hn c.ht c.hm), c.own, q⟩
theorem isi_tupOwn (c : IsC K C) (h : H a = some (.tup xs)) (q : Q (.bl false) H) : rIsi K [.ref a, .ref C] H Q := ⟨.ref a, .ref C, .type "tuple", .ref C, false, rfl, .own C, .base (.tup h), c.tup, q⟩
theorem x_fldQ {te : TE} {f : Str} {σ : L2.St} (h : te σ H fun x H1 => ∃ a C dx fs v, x = .ref a ∧ H1 a = some (.ins C dx fs) ∧ Cls K C ∧ NoAttr K C f ∧ fs.lookup f = some v ∧ Q v H1) : tFld K te f σ H Q := h
theorem x_fld1 {v : V} {f : Str} (h : H a = some (.ins C dx fs)) (c : Cls K C) (n : NoAttr K C f) (l : fs.lookup f = some v) (q : Q v H) : ∃ a' C' dx' fs' v', V.ref a = .ref a' ∧ H a' = some (.ins C' dx' fs') ∧ Cls K C' ∧ NoAttr K C' f ∧ fs'.lookup f = some v' ∧ Q v' H := ⟨a, C, dx, fs, v, rfl, h, c, n, l, q⟩
end
end Fv
set_option maxRecDepth 100000
set_option maxHeartbeats 1000000
namespace Fv
open PySem PySem.Spec L2 PyProof.Rows
/-- what leaves the body of a try is the wish at any cells of the right number -/
theorem passLen {X : Cx} {W : WX} {n : Nat} (tk : Takes X W) (hn : X.N.length = n) : Passes (L2.CX X.prog X.w) X (fun cls d H => ∀ σ : L2.St, σ.length = n → W cls d σ H) := fun pins σ H s e s' I c => by
  refine passAt tk σ pins H s e s' I ?_
  obtain ⟨a, B, H', cls, d, h1, h2, h3, h4, h5, h6, h7, h8⟩ := c
  exact ⟨a, B, H', cls, d, h1, h2, h3, h4, h5, h6, h7, h8 σ (I.len.trans hn)⟩
/-- isinstance(e, C), e the caught error, which holds a field -/
def rIsF (K : PySem.W.Frag) (D a : Addr) (cls : Value) (d : Option Addr) : List V → Hp → VK → Prop := fun xs H Q => ∃ (C dd : Addr) (fs : List (Str × V)), xs = [.ref a, .ref C] ∧ cls = .ref D ∧ d = some dd ∧ H dd = some (.xd fs) ∧ PySem.W.kitOne K (.ref D) (.ref C) = some true ∧ Q (.bl true) H
theorem call_isF {X : Cx} {a D : Addr} {oe : Obj} {cls : Value} {d : Option Addr} {pn : List (Addr × Obj)} (C : L2.ExcC X.K D) (hz : Zc cls d oe) (hf : ∃ vs, oe.data = .fields vs) : CallR (X.suite a ((a, oe) :: pn)) (.builtin "isinstance") (rIsF X.K D a cls d) := by
  intro pins s σ H xs us Q I r h
  obtain ⟨B, dd, fs, rfl, rfl, rfl, ea, e, q⟩ := h
  cases r with
  | cons rx rr =>
    cases rr with
    | cons rt rr =>
      cases rr
      cases rx
      cases rt
      obtain ⟨hget, _⟩ := I.pin (a, oe) (List.mem_append.mpr (.inl List.mem_cons_self))
      obtain ⟨vs, hv⟩ := hf
      have hx : ObjOk X.prog X.w H s.heap dd (.xd fs) := I.hok dd _ ea
      obtain ⟨mA, hns, hr⟩ := hx
      obtain ⟨od, ho, hl⟩ := lookIn_ns hns
      have J : PySem.W.InstAt s.heap a oe D (some od) := ⟨hget, hz.1, by unfold PySem.W.notCls; rw [hv] <;> rfl, by rw [hz.2]; exact ho⟩
      have hcl : (PySem.W.clsIn X.K D).isSome = true := by
        obtain ⟨cd, hc, _⟩ := PySem.W.any_some C.hd
        rw [hc]
        rfl
      exact PySem.W.kia_one (PySem.W.kitx_exc hcl C.hg C.hk C.hs C.ha C.hn C.ht C.hm) I.kIn J e (fun z => nomatch z) fun tk => ⟨.bl true, H, I.kept (t' := tk) fun _ _ z => z, rfl, q⟩
theorem x_make {C : Addr} {sp : Sp} {dvs : List V} {E : XK} {t : TA} {σ : L2.St} {H : Hp} {Q : VK} (h : t σ H fun vs H1 => ∀ x dx, H1 x = none → H1 dx = none → dx ≠ x → sp (.ref x :: (vs ++ dvs)) (upd (upd H1 dx (.own x)) x (.ins C dx [])) (fun v H2 => v = .non ∧ Q (.ref x) H2) E) : tMake C sp dvs E t σ H Q := h
theorem x_xf {a : Addr} {cls : Value} {d : Option Addr} {C : Addr} {f : Str} {te : TE} {σ : L2.St} {H : Hp} {Q : VK} (h : te σ H fun x H1 => x = .ref a ∧ cls = .ref C ∧ ∃ (dd : Addr) (fs : List (Str × V)) (v : V), d = some dd ∧ H1 dd = some (.xd fs) ∧ fs.lookup f = some v ∧ Q v H1) : tXf a cls d C f te σ H Q := h
end Fv
set_option maxRecDepth 100000
set_option maxHeartbeats 1000000
namespace Fv
open PySem PySem.Spec L2
section
variable {X : Cx} {K : PySem.W.Frag} {H : Hp} {Q : VK} {a b : Addr} {xs ys : List V} {v : V}
/-- a callee from which nothing comes out -/
theorem passE {P : Program} {w : World} : Passes (L2.CX P w) X (fun _ _ _ => False) := fun pins σ H s e s' I c => by
  obtain ⟨a, B, H', cls, d, h1, h2, h3, h4, h5, h6, h7, h8⟩ := c
  exact h8.elim
theorem op_catTK (e : X.K = K) : OpR X (binaryOp .Add) (rCatT K) := by
  subst e
  exact op_catT
theorem op_repTK (e : X.K = K) : OpR X (binaryOp .Mult) (rRepT K) := by
  subst e
  exact op_repT
theorem x_catT (h1 : SqT K H a xs) (h2 : SqT K H b ys) (nx : xs ≠ []) (ny : ys ≠ []) (hl : xs.length + ys.length ≤ 10000) (q : ∀ p, H p = none → Q (.ref p) (upd H p (.tup (xs ++ ys)))) : rCatT K (.ref a) (.ref b) H Q :=
  ⟨a, b, xs, ys, rfl, rfl, h1, h2, nx, szLe (by omega), fun e => (ny e).elim, fun _ => q⟩
theorem x_repT1 {k : Nat} (h : SqT K H a [v]) (h2 : 2 ≤ k) (hk : k ≤ 1000) (q : ∀ p, H p = none → Q (.ref p) (upd H p (.tup (List.replicate k v)))) : rRepT K (.ref a) (.int k) H Q :=
  ⟨a, k, [v], rfl, rfl, h, by simp, by omega, by omega, (by show 1 ≤ 1000; decide), fun p hp => by
    have e := rep_one k v
    rw [Int.toNat_natCast, e]
    exact q p hp⟩
end
end Fv
set_option maxRecDepth 100000
set_option maxHeartbeats 1000000
namespace Fv
open PySem PySem.Spec PyProof.Rows L2
/-! a range kept by a name, and walked -/
def rRng2 : List V → Hp → VK → Prop := fun vs H Q => ∃ i j, vs = [V.int i, V.int j] ∧ ∀ p, H p = none → Q (.ref p) (upd H p (.rng i j))
theorem call_rng2 {X : Cx} : CallR X (.type "range") rRng2 := cr_range2
def iRngV (te : TE) : TI := fun σ H R => te σ H fun x H1 => ∃ (a : Addr) (lo hi : Int), x = .ref a ∧ H1 a = some (.rng lo hi) ∧ (-(2 ^ 62) ≤ lo ∧ lo < 2 ^ 62 ∧ -(2 ^ 62) ≤ hi ∧ hi < 2 ^ 62) ∧ R (Itr lo (hi - lo).toNat) H1
theorem pi_rngV {X : Cx} {tg e : Expr} {te : TE} (he : PE X e te) : PI X tg e (iRngV te) := by
  refine ⟨fun pins s σ H R I h => thn (he.run pins s σ H _ I h) fun u s1 ⟨x, H1, I1, rx, a, lo, hi, ex, ea, ⟨h1, h2, h3, h4⟩, q⟩ => ?_⟩
  subst ex
  obtain rfl : u = Value.ref a := rx
  obtain ⟨t, u, v, ho⟩ := (show ∃ t u v, s1.heap.get? a = some { cls := .type "range", data := .fields #[.int lo t, .int hi u, .int 1 v] } from I1.hok a _ ea)
  refine wpAny_pyIter_range (a := lo) (b := hi) (c := 1) (t := t) (u := u) (v := v) ho (small_one h1 h2 h3 h4) ?_
  refine ⟨s1.heap.objs.size, [s1.heap.objs.size], _, _, H1, rfl, I1.kept (t' := s1.toks) fun b o e => Heap.get?_push_of_some _ e, turn_range _ lo (hi - lo).toNat, ?_, fun b hb => ?_, q⟩
  · have e1 : lo + ((0 : Nat) : Int) * 1 = lo := by simp
    have e2 : (((hi - lo).toNat : Nat) : Int) - ((0 : Nat) : Int) = Builtin.Range.rangeSize lo hi 1 := by rw [rangeSize_one]; split <;> omega
    show IsRangeIter _ _ (lo + ((0 : Nat) : Int) * 1) ((((hi - lo).toNat : Nat) : Int) - ((0 : Nat) : Int)) 1
    rw [e1, e2]
    exact Heap.get?_push_size _ rfl
  · have e : b = s1.heap.objs.size := by simpa using hb
    subst e
    exact I1.fpOk (Nat.le_refl _) (I1.hok.fresh (Nat.le_refl _))
theorem pg_tupK {X : Cx} {K : PySem.W.Frag} {es : List Expr} {k : Nat} {t : TGs} {n : Nat} {pos : Pos} (eK : X.K = K) (hc : X.calm = true) (h : PGs X es t)
    (hn : (assignEach es X.env).length = n := by rfl) (hst : (assignEach es X.env).findIdx? (·.1) = none := by rfl) : PG X (.Tuple es k pos) (gTup K n t) := by
  subst eK
  exact pg_tup hc h hn hst
section
variable {K : PySem.W.Frag} {σ : L2.St} {H : Hp} {Q : VK} {a p : Addr} {xs : List V} {v : V}
theorem x_rng2v {i j : Int} (q : ∀ p, H p = none → Q (.ref p) (upd H p (.rng i j))) : rRng2 [.int i, .int j] H Q := ⟨i, j, rfl, q⟩
theorem x_irngV {R : It → Hp → Prop} {te : TE} (h : te σ H fun x H1 => ∃ (a : Addr) (lo hi : Int), x = .ref a ∧ H1 a = some (.rng lo hi) ∧ (-(2 ^ 62) ≤ lo ∧ lo < 2 ^ 62 ∧ -(2 ^ 62) ≤ hi ∧ hi < 2 ^ 62) ∧ R (Itr lo (hi - lo).toNat) H1) : iRngV te σ H R := h
theorem atI_last (xs : List V) (v : V) : atI (xs ++ [v]) (-1) = some v := by
  unfold atI ixN
  rw [if_neg (by decide), if_pos (by rw [List.length_append]; show -((xs.length + 1 : Nat) : Int) ≤ -1; omega)]
  show (xs ++ [v])[_]? = _
  have e : ((-1 : Int) + ((xs ++ [v]).length : Nat)).toNat = xs.length := by
    rw [List.length_append]
    show ((-1 : Int) + ((xs.length + 1 : Nat) : Int)).toNat = xs.length
    omega
  first
    | (rw [e]; simp)
    | simp
theorem flat_nats (l : List Nat) : (nats l).all flatV = true := by
  rw [List.all_eq_true]
  intro x hx
  obtain ⟨n, _, rfl⟩ := List.mem_map.mp hx
  rfl
theorem in_nats (k : Nat) : ∀ l : List Nat, inV (.int k) (nats l) = decide (k ∈ l)
  | [] => rfl
  | a :: l => by
    show (eqV (.int a) (.int k) || inV (.int k) (nats l)) = decide (k ∈ a :: l)
    rw [in_nats k l, Bool.eq_iff_iff]
    simp only [Bool.or_eq_true, decide_eq_true_eq, List.mem_cons]
    have e : eqV (.int a) (.int k) = decide ((a : Int) = (k : Int)) := by
      show ((a : Int) == (k : Int)) = _
      rfl
    rw [e, decide_eq_true_eq]
    constructor
    · rintro (h | h)
      · exact .inl (by omega)
      · exact .inr h
    · rintro (h | h)
      · exact .inl (by omega)
      · exact .inr h
theorem x_inNT {k : Nat} {l : List Nat} (h : SqT K H p (nats l)) (q : Q (.bl (decide (k ∈ l))) H) : rIn K false (.int k) (.ref p) H Q := by
  refine ⟨p, _, rfl, .inr h, rfl, flat_nats l, ?_⟩
  show Q (.bl (inV (.int k) (nats l))) H
  rw [in_nats]
  exact q
end
end Fv
set_option maxRecDepth 100000
set_option maxHeartbeats 1000000
namespace Fv
open PySem PySem.Spec PySem.Calls PyProof.Rows
/-! an error of the package whose __init__ says super().__init__() and no more -/
def siA (p : Pos) : Arguments := { posonlyargs := [], args := [{ arg := "self", annotation := none, pos := p }], vararg := none, kwonlyargs := [], kw_defaults := [], kwarg := none, defaults := [] }
def siB (p0 p1 p2 p3 p4 : Pos) : List Stmt := [.Expr (.Call (.Attribute (.Call (.Name "super" p0) [] [] p1) "__init__" p2) [] [] p3) p4]
def siS : Scope := { kind := .function, names := [(PySem.Str.ofString "self", .local), (PySem.Str.ofString "__class__", .free), (PySem.Str.ofString "super", .globalImplicit)], isGenerator := false, isCoroutine := false, more := [] }
/-- how the model reads super().__init__(), its places being these -/
def SupEv (p0 p1 p2 p3 : Pos) : Prop := ∀ (q : Str) (L a cc : Addr) (cd : Value), ∃ pl : Sem Bool,
  eval (.Call (.Attribute (.Call (.Name "super" p0) [] [] p1) "__init__" p2) [] [] p3) (PySem.W.ksEnv q siS L a cd cc) = (do
    let o ← attributeBase (.Call (.Name "super" p0) [] [] p1) "__init__" (PySem.W.ksEnv q siS L a cd cc) (eval (.Call (.Name "super" p0) [] [] p1) (PySem.W.ksEnv q siS L a cd cc))
    standAt p2.atName
    let (f, first) ← holding [o] (getMethod o "__init__" pl)
    callWith p3 f first (backTo p3 (starEach [] (PySem.W.ksEnv q siS L a cd cc))) [])
/-- what the written part says of such a class at C, and of its __init__, at fI -/
structure SupC (P : Program) (K : PySem.W.Frag) (C fI : Addr) : Prop where
  x : L2.OexC K C
  iC : PySem.W.findIn K (.ref C) "__init__" = some (some (.ref fI))
  tC : PySem.W.typeIn K (.ref fI) = some (.type "function")
  fn : ∃ (oc : Value) (od : Option Addr) (kV doc pm : Value) (an : Option Addr) (cda : Addr) (ct : Value) (osl : Array (Option Value)) (cc : Addr) (q : Str) (p p0 p1 p2 p3 p4 : Pos),
    K.lookup fI = some ⟨oc, od, .func (PySem.W.ksFn "__init__" q (siA p) (siB p0 p1 p2 p3 p4) siS .none kV doc pm an (.ref cda) ct cc), osl⟩ ∧ PySem.W.codeIn K (.ref cda) q = true ∧ (∃ (cl : Value) (cld : Option Addr) (csl : Array (Option Value)), K.lookup cc = some ⟨cl, cld, .cell (some (.ref C)), csl⟩) ∧
    ∃ (ccl : Value) (cdd : Option Addr) (vs : Array Value) (ccs : Array (Option Value)) (file : Str) (tf : Tok), K.lookup cda = some ⟨ccl, cdd, .fields vs, ccs⟩ ∧ vs[2]? = some (.str file tf) ∧ ((P.main.file : Str) == file) = true ∧ SupEv p0 p1 p2 p3
  up : PySem.W.ks_superIn K C C "__init__" = some (some (.builtin "ValueError.__init__"))
  me : PySem.W.mroIn K C (.ref C) = some true
  ve : PySem.W.subIn K (.ref C) (.type "ValueError") = some true
  op : PySem.W.nsIn K cStatics "thirdparty.any" = some none
  tp : (P.main.scope.names.lookup ("super" : Str)).isSome = false
section
variable {P : Program} {w : World} {A : Around} {R : Result → Shared → Prop} {s : Shared} {K : PySem.W.Frag} {C fI : Addr}
theorem sup_init (T : SupC P K C fI) {x t0 : Addr} {mg mb : Str → Option Value} (X : K.In s.heap) (hlim : s.heap.NoLimit) (hg : s.heap.Ns mainGlobals mg) (hms : mg "super" = none) (hb : s.heap.Ns builtinsNs mb) (hbs : mb "super" = some (.type "super"))
    (hx : s.heap.get? x = some (PySem.HandSPX.excO C t0)) (hroom : A.depth < recursionLimit)
    (hq : ∀ h' tk t1, (∀ b o, b ≠ x → s.heap.get? b = some o → h'.get? b = some o) → h'.get? x = some (PySem.HandSPX.excO C t1) → R (.ok (.ret .none)) { s with heap := h', toks := tk }) :
    codeAny (model P w) A (.call (.ref fI) ⟨[.ref x], []⟩) R s := by
  obtain ⟨oc, od, kV, doc, pm, an, cda, ct, osl, cc, q, p, p0, p1, p2, p3, p4, ho, hcd, ⟨cl, cld, csl, hcell⟩, ccl, cdd, vs, ccs, file, tf, hcode, hvs, hfile, hev⟩ := T.fn
  obtain ⟨nm, q', N, bs, bm, sn, sub, ab, col, dd, k0, k1, k2, k3, k5, hC, hbm⟩ := T.x.cls
  have hcl : PySem.W.clsIn K C = some { name := nm, bases := bs, mro := .ref C :: bm, ns := N, qualname := q', hasDict := true, slotNames := sn, subclasses := sub, abstract := ab, collection := col, hasDel := false } := by
    unfold PySem.W.clsIn
    rw [hC] <;> rfl
  refine ks_codeAny_call_defAt (binds := [("self", .ref x)]) hroom (X _ _ ho) rfl hlim (PySem.W.codeRec_of X hcd) rfl (BindsTo.of_eq rfl) (show ∀ x ∈ siS.names, x.2 ≠ NameKind.cell by decide) (fun y hy => ?_) (fun h₁ hns hk₁ => ?_)
  · simp only [List.mem_cons, List.not_mem_nil, or_false] at hy
    subst hy
    rfl
  have X1 : K.In h₁ := X.keeps hk₁
  have hx1 := hk₁ _ _ hx
  have hC1 := X1 _ _ hC
  obtain ⟨hp, g, d, tk, os⟩ := s
  obtain ⟨pl, he⟩ := hev q hp.objs.size fI cc (.ref cda)
  refine ks_wpAt_execs_cons (ks_wpAt_Expr_any (ks_wpAt_MethodCall (pl := pl) ?_ he))
  refine ks_wpAt_super_base rfl rfl rfl rfl (X1 _ _ ho) rfl rfl rfl (X1 _ _ hcode) rfl hvs hfile T.tp ?_
  refine PySem.W.ks_loadName_global rfl rfl (loadGlobal_builtin (hg.keeps hk₁) hms (hb.keeps hk₁) hbs ⟨rfl, ?_⟩)
  refine wpAny_loadName_free rfl rfl rfl ⟨_, X1 _ _ hcell, rfl⟩ ?_
  refine wpAny_loadName_local (v := .ref x) rfl rfl hns rfl ?_
  refine ks_wpAny_isType_cls hC1 rfl ⟨rfl, ?_⟩
  refine ks_wpAny_call_super hC1 rfl hx1 rfl (fun c e => by cases e) (PySem.W.looks_mroIn X1 T.me) (fun h2 hso k2 => ?_)
  have X2 : K.In h2 := X1.keeps k2
  have hx2 := k2 _ _ hx1
  have I2 : PySem.W.InstAt h2 x (PySem.HandSPX.excO C t0) C none := ⟨hx2, rfl, rfl, trivial⟩
  have hup : PySem.W.alongIn K "__init__" (((Value.ref C :: bm).dropWhile (· != Value.ref C)).drop 1) = some (some (.builtin "ValueError.__init__")) := by
    have e := T.up
    unfold PySem.W.ks_superIn at e
    rw [hcl] at e
    exact e
  refine PySem.W.kxs_getMethod PySem.W.kxs_ValueError hso (PySem.W.looks_opaque X2 T.op) (l₀ := .ref C :: bm) ?_ rfl X2 hup (I2.type.andThen (PySem.W.looks_subIn X2 T.ve)) (PySem.W.ks_ne X2 I2 hcl) (by decide) ?_
  · exact fun A Q E s k q => wpAny_bind (PySem.W.looks_clsIn X2 hcl A _ E s k (wpAny_pure q))
  have hu : (h2.push (PySem.W.kxs_mw "ValueError.__init__" x)).get? h2.objs.size = some (PySem.W.kxs_mw "ValueError.__init__" x) := Heap.get?_push_at rfl rfl
  have k3 : ∀ b o, h2.get? b = some o → (h2.push (PySem.W.kxs_mw "ValueError.__init__" x)).get? b = some o := fun b o e => Heap.get?_push_of_some _ e
  refine PySem.W.kxs_callWith (i := "ValueError.__init__") (x := x) rfl (PyProof.Rows.evalArgs_empty ⟨hu, ?_⟩)
  have FB := PySem.F.excBase_ValueError
  have hC3 := k3 _ _ (X2 _ _ hC)
  have hx3 := k3 _ _ hx2
  refine wpAny_call (codeAny_of_tree ?_)
  show wpAny _ _ (callAny (.ref h2.objs.size) ⟨[], []⟩) _ _ _
  unfold callAny
  refine wpAny_bind (wpAny_load hu ?_)
  show wpAny _ _ (if (Value.type "method-wrapper" == Value.type "method" || Value.type "method-wrapper" == Value.type "builtin_function_or_method" || Value.type "method-wrapper" == Value.type "method-wrapper") = true then
    (if (Value.type "method-wrapper" != Value.type "method") = true then (do checkBoundCall "ValueError.__init__" ⟨[.ref x], []⟩; again (.builtin "ValueError.__init__" ⟨[.ref x], []⟩)) else again (.call (.builtin "ValueError.__init__") ⟨[.ref x], []⟩)) else _) _ _ _
  rw [if_pos (by decide), if_pos (by decide)]
  refine wpAny_bind (PySem.W.check_bound_init FB.toExcCallFacts hC3 hx3 rfl (wpAny_pure ⟨PySem.plainId_quiet FB.init.plain _, codeAny_builtin FB.initEntry ?_⟩))
  refine PySem.W.exc_init_tree (cls := .ref C) (t0 := t0) (dv := none) (c2 := .none) (c3 := .none) (b4 := .bool false) hx3 (by rw [sizeLine_eq]; decide) fun h4 k4 hx4 _ => ?_
  show PySem.wpAt _ _ _ (execs [] _) _ _ _
  exact PySem.wpAt_of_wpAny (wpAny_execs_nil (hq h4 _ _ (fun b o nb e => k4 b o nb (k3 _ _ (k2 _ _ (hk₁ _ _ e)))) hx4))
theorem sup_made (T : SupC P K C fI) {mg mb : Str → Option Value} (X : K.In s.heap) (hlim : s.heap.NoLimit) (hg : s.heap.Ns mainGlobals mg) (hms : mg "super" = none) (hb : s.heap.Ns builtinsNs mb) (hbs : mb "super" = some (.type "super")) (hroom : A.depth + 1 < recursionLimit)
    (hq : ∀ h' tk e t1, (∀ b o, s.heap.get? b = some o → h'.get? b = some o) → s.heap.objs.size ≤ e → h'.get? e = some (PySem.HandSPX.excO C t1) → R (.ok (.ret (.ref e))) { s with heap := h', toks := tk }) :
    codeAny (model P w) A (.call (.ref C) ⟨[], []⟩) R s := by
  obtain ⟨nm, q', N, bs, bm, sn, sub, ab, col, dd, k0, k1, k2, k3, k5, hC, hbm⟩ := T.x.cls
  obtain ⟨hp, g, dr, tk, os⟩ := s
  have k : ∀ b o, hp.get? b = some o → ((hp.push (PySem.W.kdv_tup [])).push (PySem.HandSPX.excO C hp.objs.size)).get? b = some o := fun b o e => Heap.get?_push_of_some _ (Heap.get?_push_of_some _ e)
  have hget : ((hp.push (PySem.W.kdv_tup [])).push (PySem.HandSPX.excO C hp.objs.size)).get? (hp.objs.size + 1) = some (PySem.HandSPX.excO C hp.objs.size) := by heap_get
  refine PySem.HandSPX.call_own PySem.F.excBase_ValueError (fun Y => PySem.HandSPX.refsVE_contains Y bm hbm) (X _ _ hC) (PySem.W.looks_findIn X T.iC) (fun self => PySem.W.bind_fn X self T.tC) (by rw [sizeLine_eq]; decide) ?_
  refine sup_init (s := ⟨(hp.push (PySem.W.kdv_tup [])).push (PySem.HandSPX.excO C hp.objs.size), g, dr, tk, os⟩) T (X.keeps k) (hlim.keeps k) (hg.keeps k) hms (hb.keeps k) hbs hget ?_ fun h' tk' t1 k' hx => ?_
  · show A.depth + 1 < recursionLimit
    exact hroom
  · refine ⟨rfl, hq h' tk' (hp.objs.size + 1) t1 (fun b o e => k' b o ?_ (k b o e)) (Nat.le_succ _) hx⟩
    exact Nat.ne_of_lt (Nat.lt_succ_of_lt (Heap.lt_size e))
end
end Fv
namespace Fv
open PySem PySem.Spec PyProof.Rows L2
/-- C(), C such a class: all that was tracked stands, and no dict is made -/
theorem pmk_sup {X : Cx} {C fI : Addr} {x : Str} {p pos : Pos} (T : SupC X.prog X.K C fI) (hr : Room 1 X.A) (hg : Gl X x) (hm : X.mg x = some (.ref C)) (hs : X.mg "super" = none) (hdb : (x == ("__debug__" : Str)) = false := by decide) :
    PMk X (.Call (.Name x p) [] [] pos) (fun _ H Q => Q (.ref C) none H) := by
  intro pins s σ H Q I h
  refine wpAny_Call_Name_kw (ld_glob I hg hm ?_ hdb)
  refine PySem.W.callWith_K0 I.kIn T.x.kC ?_
  obtain ⟨mb, hb1, hb2⟩ := I.mod.blt
  have hlim := I.nolimit
  have hgl : s.heap.Ns mainGlobals X.mg := I.mod.glob.keeps I.bk
  have hbl : s.heap.Ns builtinsNs mb := hb1.keeps I.bk
  obtain ⟨hp, g, d, t, os⟩ := s
  refine wpAny_call (sup_made T I.kIn hlim hgl hs hbl ((hb2 "super" (by decide)).trans (by first | rfl | decide +kernel | kernel_rfl)) (by have := hr.dp; omega) fun h' tk' e t1 k ge hx => ?_)
  obtain ⟨G', g1, g2⟩ := restrict h' fun b => decide (b ≠ e)
  have gk : ∀ b, b ≠ e → G'.get? b = h'.get? b := fun b hb => g1 b (decide_eq_true hb)
  have g0 : G'.get? e = none := g2 e (by simp)
  have old : ∀ b o, hp.get? b = some o → G'.get? b = some o := fun b o q => (gk b (Nat.ne_of_lt (Nat.lt_of_lt_of_le (Heap.lt_size q) ge))).trans (k b o q)
  have J : Inv X pins σ H ⟨G', g, d, tk', os⟩ := I.kept (t' := tk') old
  refine ⟨e, _, _, ⟨G', g, d, tk', os⟩, H, .ref C, none, rfl, J, fun b o q => ?_, g0, hx, ⟨rfl, rfl⟩, rfl, rfl, I.hok.fresh ge, rfl, I.bare, raises_own T.x.exC T.x.tyC, h⟩
  by_cases hb : b = e
  · have q' : G'.get? b = some o := q
    rw [hb, g0] at q'
    cases q'
  · exact (gk b hb).symm.trans q
end Fv
set_option maxRecDepth 100000
set_option maxHeartbeats 1000000
namespace Fv
open PySem PySem.Spec PyProof.Rows L2
/-! sorted(t), t a tuple of whole numbers -/
def rSortT (K : PySem.W.Frag) : List V → Hp → VK → Prop := fun vs H Q => ∃ (a : Addr) (ns : List Int), vs = [V.ref a] ∧ SqT K H a (ns.map V.int) ∧ ns.length < 64 ∧
  ∀ (zs : List Int) (p : Addr), zs.Perm ns → zs.Pairwise (· ≤ ·) → H p = none → Q (.ref p) (upd H p (.lst (zs.map V.int)))
theorem cr_sortT {X : Cx} {K : PySem.W.Frag} (e : X.K = K) : CallR X (.builtin "sorted") (rSortT K) := by
  subst e
  intro pins s σ H vs us Q I r h
  obtain ⟨a, ns, rfl, hs, h64, q⟩ := h
  obtain ⟨its, rv, pt, hz⟩ := I.tuple hs
  rw [Vals.ref1 r]
  have hi := rv.ints
  have hl : its.length = ns.length := hi.length
  obtain ⟨o, ho, hc, n, hd⟩ := id pt
  refine Calls.call_function_entry kind_sorted plain_sorted entry_sorted (args_sorted1 _) ?_
  unfold Builtin.«sorted»
  refine wpAny_bind (m := checkCount "sorted" 1 1 _) (wpAny_pure (wpAny_bind (wpAny_collect_seq a (.inr rfl) ho hc hd (fun h' k => wpAny_bind (wpAny_newList ?_)) ?_)))
  · have hoL : (h'.push (seqObj "list" its.toArray 0)).get? h'.objs.size = some (seqObj "list" its.toArray 0) := Heap.get?_push_size _ rfl
    have J : Inv X pins σ H { s with heap := h', toks := s.toks } := I.kept (t' := s.toks) k
    show wpAny _ _ _ _ _ { s with heap := h'.push (seqObj "list" its.toArray 0) }
    refine wpAny_bind (wpAny_holding (wpAny_call_entry slot_list_sort ⟨_, hoL, rfl⟩ entry_list_sort (list_sort_tree hoL hi (by rw [hl]; exact h64) fun out zs a1 a2 a3 => ⟨_, rfl, wpAny_pure ⟨_, rfl, ?_⟩⟩) (args_list_sort _)))
    obtain ⟨ep, he⟩ := sortedHeap_at (vs := its) (out := out) hoL
    have hlen : (zs.map V.int).length ≤ sizeLine := by rw [List.length_map, a2.length_eq]; exact szLe (by omega)
    refine ⟨.ref h'.objs.size, upd H h'.objs.size (.lst (zs.map V.int)), J.laid (t' := s.toks) (fun b u e => ?_) (Nat.le_refl _) ⟨hlen, out.toList, ep, vals_of_ints a1, he⟩, rfl, q zs _ a2 a3 (J.hok.fresh (Nat.le_refl _))⟩
    have hb := Heap.lt_size e
    refine (sortedHeap_old (Nat.ne_of_lt hb) (by rw [size_push']; exact Nat.lt_succ_of_lt hb)).trans ?_
    exact Heap.get?_push_of_some _ e
  · rw [List.size_toArray, hl]
    exact szLe (by omega)
end Fv
/-! trees with a block hung elsewhere, or called anew -/
namespace Fv
def wayN (hs : List Nat) : Nat → Nat → List Nat
  | 0, _ => []
  | n + 1, k => if k = 0 then [] else up hs k :: wayN hs n (up hs k)
def way (hs : List Nat) (k : Nat) : List Nat := wayN hs hs.length k
theorem way_mem (hs : List Nat) (x : Nat) : ∀ n k, x ∈ wayN hs n k ↔ ∃ j, j < n ∧ upN hs j k ≠ 0 ∧ upN hs (j + 1) k = x
  | 0, k => by
    constructor
    · intro h
      cases h
    · rintro ⟨j, h, _⟩
      omega
  | n + 1, k => by
    show x ∈ (if k = 0 then [] else up hs k :: wayN hs n (up hs k)) ↔ _
    by_cases h0 : k = 0
    · rw [if_pos h0]
      constructor
      · intro h
        cases h
      · rintro ⟨j, _, h, _⟩
        rw [h0] at h
        exact (h (upN_zero hs j)).elim
    · rw [if_neg h0, List.mem_cons, way_mem hs x n (up hs k)]
      constructor
      · rintro (rfl | ⟨j, h1, h2, h3⟩)
        · exact ⟨0, by omega, h0, rfl⟩
        · exact ⟨j + 1, by omega, h2, h3⟩
      · rintro ⟨j, h1, h2, h3⟩
        cases j with
        | zero => exact .inl h3.symm
        | succ j => exact .inr ⟨j, by omega, h2, h3⟩
theorem up_get {hs : List Nat} {k : Nat} (h1 : 1 ≤ k) (h2 : k ≤ hs.length) : hs[k - 1]? = some (up hs k) := by
  have h : k - 1 < hs.length := by omega
  rw [List.getElem?_eq_getElem h, up_at (by omega) (List.getElem?_eq_getElem h)]
/-- on the way from p: b is p, or above it -/
theorem on_way {hs : List Nat} (t : IsTree hs) {b p : Nat} (hb : 1 ≤ b) (hp : p ≤ hs.length) (n1 : p ≠ b) (n2 : b ∉ way hs p) : ∀ j, upN hs j p ≠ b := by
  intro j e
  cases j with
  | zero => exact n1 e
  | succ j =>
    have nz : upN hs j p ≠ 0 := fun h => by
      rw [upN_succ, h] at e
      have : up hs 0 = 0 := rfl
      omega
    refine n2 ((way_mem hs b _ _).mpr ⟨j, ?_, nz, e⟩)
    refine Nat.lt_of_not_le fun hle => nz ?_
    exact upN_more (t.comes p hp) hle
/-- block b under p -/
def put (hs : List Nat) (b p : Nat) : List Nat := hs.set (b - 1) p
theorem put_len (hs : List Nat) (b p : Nat) : (put hs b p).length = hs.length := List.length_set
theorem up_put {hs : List Nat} {b p : Nat} (hb : 1 ≤ b) (hb2 : b ≤ hs.length) (k : Nat) : up (put hs b p) k = if k = b then p else up hs k := by
  unfold up put
  by_cases h0 : k = 0
  · rw [if_pos h0, if_neg (by omega), if_pos h0]
  · rw [if_neg h0, if_neg h0, List.getD_eq_getElem?_getD, List.getElem?_set, List.getD_eq_getElem?_getD]
    by_cases h : k = b
    · subst h
      rw [if_pos rfl, if_pos rfl, if_pos (by omega)]
      rfl
    · rw [if_neg (by omega), if_neg h]
theorem upN_put {hs : List Nat} {b p : Nat} (hb : 1 ≤ b) (hb2 : b ≤ hs.length) {k : Nat} : ∀ j, (∀ i, i < j → upN hs i k ≠ b) → upN (put hs b p) j k = upN hs j k
  | 0, _ => rfl
  | j + 1, h => by
    rw [upN_succ, upN_succ, upN_put hb hb2 j fun i hi => h i (by omega), up_put hb hb2, if_neg (h j (by omega))]
theorem put_tree {hs : List Nat} (t : IsTree hs) {b p : Nat} (hb : 1 ≤ b) (hb2 : b ≤ hs.length) (hp : p ≤ hs.length) (n1 : p ≠ b) (n2 : b ∉ way hs p) : IsTree (put hs b p) := by
  have np := on_way t hb hp n1 n2
  have hle : ∀ x ∈ put hs b p, x ≤ (put hs b p).length := fun x hx => by
    rw [put_len]
    rcases List.mem_or_eq_of_mem_set hx with hx | rfl
    · exact t.le x hx
    · exact hp
  have hpz : upN (put hs b p) hs.length p = 0 := by
    rw [upN_put hb hb2 _ fun i _ => np i]
    exact t.comes p hp
  refine ⟨by rw [put_len]; exact t.pos, by rw [put_len]; exact t.most, hle, fun k hk => ?_⟩
  have hk' : k ≤ hs.length := by rwa [put_len] at hk
  have go : ∀ j, upN hs j k = b → upN (put hs b p) (put hs b p).length k = 0 := by
    intro j
    induction j using Nat.strongRecOn with
    | ind j ih =>
      intro hj
      by_cases hx : ∃ i, i < j ∧ upN hs i k = b
      · obtain ⟨i, hi, e⟩ := hx
        exact ih i hi e
      · have e := upN_put (p := p) hb hb2 (k := k) j fun i hi e => hx ⟨i, hi, e⟩
        refine comes_by (j := j + (1 + hs.length)) hle hk ?_
        rw [upN_add, e, hj, upN_add]
        show upN (put hs b p) hs.length (up (put hs b p) b) = 0
        rw [up_put hb hb2, if_pos rfl]
        exact hpz
  by_cases hx : ∃ j, upN hs j k = b
  · obtain ⟨j, e⟩ := hx
    exact go j e
  · refine comes_by (j := hs.length) hle hk ?_
    rw [upN_put hb hb2 _ fun i _ e => hx ⟨i, e⟩]
    exact t.comes k hk'
/-! names -/
def IsOrd (n : Nat) (ms : List Nat) : Prop := ms.Perm (List.range' 1 n)
theorem IsOrd.len {n : Nat} {ms : List Nat} (o : IsOrd n ms) : ms.length = n := by rw [o.length_eq, List.length_range']
theorem IsOrd.mem {n : Nat} {ms : List Nat} (o : IsOrd n ms) {x : Nat} : x ∈ ms ↔ 1 ≤ x ∧ x ≤ n := by
  rw [o.mem_iff, List.mem_range'_1]
  omega
theorem IsOrd.nodup {n : Nat} {ms : List Nat} (o : IsOrd n ms) : ms.Nodup := o.nodup_iff.mpr List.nodup_range'
theorem IsOrd.rg {n k : Nat} {ms : List Nat} (o : IsOrd n ms) (h1 : 1 ≤ k) (h2 : k ≤ n) : 1 ≤ up ms k ∧ up ms k ≤ n := o.mem.mp (List.mem_of_getElem? (up_get h1 (by rw [o.len]; exact h2)))
theorem IsOrd.rg0 {n k : Nat} {ms : List Nat} (o : IsOrd n ms) (h2 : k ≤ n) : up ms k ≤ n := by
  by_cases h : k = 0
  · subst h
    exact Nat.zero_le _
  · exact (o.rg (by omega) h2).2
theorem IsOrd.inj {n k l : Nat} {ms : List Nat} (o : IsOrd n ms) (hk : k ≤ n) (hl : l ≤ n) (e : up ms k = up ms l) : k = l := by
  by_cases hk0 : k = 0
  · subst hk0
    by_cases hl0 : l = 0
    · exact hl0.symm
    · have := (o.rg (k := l) (by omega) hl).1
      rw [← e] at this
      exact absurd this (by show ¬ 1 ≤ 0; omega)
  · by_cases hl0 : l = 0
    · subst hl0
      have := (o.rg (k := k) (by omega) hk).1
      rw [e] at this
      exact absurd this (by show ¬ 1 ≤ 0; omega)
    · have h1 := up_get (hs := ms) (k := k) (by omega) (by rw [o.len]; exact hk)
      have h2 := up_get (hs := ms) (k := l) (by omega) (by rw [o.len]; exact hl)
      rw [e] at h1
      have h3 : k - 1 < ms.length := by rw [o.len]; omega
      have := (List.getElem?_inj h3 o.nodup).mp (h1.trans h2.symm)
      omega
theorem IsOrd.surj {n x : Nat} {ms : List Nat} (o : IsOrd n ms) (h1 : 1 ≤ x) (h2 : x ≤ n) : ∃ k, 1 ≤ k ∧ k ≤ n ∧ up ms k = x := by
  obtain ⟨i, hi, e⟩ := List.getElem_of_mem (o.mem.mpr ⟨h1, h2⟩)
  have := o.len
  exact ⟨i + 1, by omega, by omega, up_at (by omega) (by rw [Nat.add_sub_cancel, List.getElem?_eq_getElem hi, e])⟩
/-- the first i blocks called anew -/
def callN (hs ms : List Nat) : Nat → List Nat
  | 0 => List.replicate hs.length 0
  | i + 1 => (callN hs ms i).set (up ms (i + 1) - 1) (up ms (up hs (i + 1)))
def call2 (hs ms : List Nat) : List Nat := callN hs ms hs.length
theorem callN_len (hs ms : List Nat) : ∀ i, (callN hs ms i).length = hs.length
  | 0 => List.length_replicate
  | i + 1 => by
    show ((callN hs ms i).set _ _).length = _
    rw [List.length_set, callN_len hs ms i]
theorem callN_get {hs ms : List Nat} (o : IsOrd hs.length ms) : ∀ i, i ≤ hs.length → ∀ c, 1 ≤ c → c ≤ i → (callN hs ms i)[up ms c - 1]? = some (up ms (up hs c))
  | 0, _, c, h1, h2 => absurd h2 (by omega)
  | i + 1, hi, c, h1, h2 => by
    show ((callN hs ms i).set (up ms (i + 1) - 1) (up ms (up hs (i + 1))))[up ms c - 1]? = _
    have a := o.rg (k := i + 1) (by omega) hi
    have b := o.rg (k := c) h1 (by omega)
    rw [List.getElem?_set]
    by_cases e : c = i + 1
    · subst e
      rw [if_pos rfl, if_pos (by rw [callN_len]; omega)]
    · have ne : up ms (i + 1) - 1 ≠ up ms c - 1 := fun h => e (o.inj (by omega) hi (by omega))
      rw [if_neg ne]
      exact callN_get o i (by omega) c h1 (by omega)
theorem call2_len (hs ms : List Nat) : (call2 hs ms).length = hs.length := callN_len hs ms _
theorem call2_up {hs ms : List Nat} (o : IsOrd hs.length ms) {c : Nat} (h2 : c ≤ hs.length) : up (call2 hs ms) (up ms c) = up ms (up hs c) := by
  by_cases h0 : c = 0
  · subst h0
    rfl
  · have a := o.rg (k := c) (by omega) h2
    exact up_at (by omega) (callN_get o _ (Nat.le_refl _) c (by omega) h2)
theorem call2_upN {hs ms : List Nat} (t : IsTree hs) (o : IsOrd hs.length ms) {c : Nat} (h2 : c ≤ hs.length) : ∀ j, upN (call2 hs ms) j (up ms c) = up ms (upN hs j c)
  | 0 => rfl
  | j + 1 => by
    rw [upN_succ, upN_succ, call2_upN t o h2 j]
    exact call2_up o (upN_le t.le j c h2)
/-- two lists that tell alike of all blocks -/
theorem same_ups {xs ys : List Nat} (hl : xs.length = ys.length) (h : ∀ k, 1 ≤ k → k ≤ xs.length → up xs k = up ys k) : xs = ys := by
  refine List.ext_getElem? fun i => ?_
  by_cases hi : i < xs.length
  · have a := up_get (hs := xs) (k := i + 1) (by omega) (by omega)
    have b := up_get (hs := ys) (k := i + 1) (by omega) (by omega)
    rw [Nat.add_sub_cancel] at a b
    rw [a, b, h (i + 1) (by omega) (by omega)]
  · rw [List.getElem?_eq_none (by omega), List.getElem?_eq_none (by omega)]
theorem call2_tree {hs ms : List Nat} (t : IsTree hs) (o : IsOrd hs.length ms) : IsTree (call2 hs ms) := by
  refine ⟨by rw [call2_len]; exact t.pos, by rw [call2_len]; exact t.most, fun x hx => ?_, fun k hk => ?_⟩
  · rw [call2_len]
    obtain ⟨i, hi, e⟩ := List.getElem_of_mem hx
    rw [call2_len] at hi
    obtain ⟨c, c1, c2, ec⟩ := o.surj (x := i + 1) (by omega) (by omega)
    have hu := call2_up o c2
    rw [ec] at hu
    have hg := up_get (hs := call2 hs ms) (k := i + 1) (by omega) (by rw [call2_len]; omega)
    rw [Nat.add_sub_cancel, List.getElem?_eq_getElem (by rw [call2_len]; exact hi), hu] at hg
    rw [← e, Option.some.inj hg]
    exact o.rg0 (up_le t.le c)
  · rw [call2_len] at hk ⊢
    by_cases h0 : k = 0
    · subst h0
      exact upN_zero _ _
    · obtain ⟨c, c1, c2, ec⟩ := o.surj (x := k) (by omega) hk
      rw [← ec, call2_upN t o c2, t.comes c c2]
      rfl
/-- called behind moved, and moved behind called -/
theorem call_put {hs ms : List Nat} (o : IsOrd hs.length ms) {b p : Nat} (hb : 1 ≤ b) (hb2 : b ≤ hs.length) (hp : p ≤ hs.length) : call2 (put hs b p) ms = put (call2 hs ms) (up ms b) (up ms p) := by
  have rb := o.rg hb hb2
  have op : IsOrd (put hs b p).length ms := by
    rw [put_len]
    exact o
  refine same_ups (by rw [call2_len, put_len, put_len, call2_len]) fun k h1 h2 => ?_
  rw [call2_len, put_len] at h2
  obtain ⟨c, c1, c2, ec⟩ := o.surj h1 h2
  rw [← ec, call2_up op (by rw [put_len]; exact c2), up_put hb hb2, up_put (by omega) (by rw [call2_len]; omega), call2_up o c2]
  by_cases e : c = b
  · subst e
    rw [if_pos rfl, if_pos rfl]
  · rw [if_neg e, if_neg fun h => e (o.inj c2 hb2 h)]
theorem call_free {hs ms : List Nat} (t : IsTree hs) (o : IsOrd hs.length ms) {b p : Nat} (hb : 1 ≤ b) (hb2 : b ≤ hs.length) (hp : p ≤ hs.length) (n1 : p ≠ b) (n2 : b ∉ way hs p) : up ms p ≠ up ms b ∧ up ms b ∉ way (call2 hs ms) (up ms p) := by
  refine ⟨fun e => n1 (o.inj hp hb2 e), fun h => ?_⟩
  obtain ⟨j, _, _, e⟩ := (way_mem _ _ _ _).mp h
  rw [call2_upN t o hp] at e
  exact on_way t hb hp n1 n2 (j + 1) (o.inj (upN_le t.le _ p hp) hb2 e)
/-- in the order turned about it is the first one again -/
theorem call_back {hs ms ks : List Nat} (t : IsTree hs) (o : IsOrd hs.length ms) (o' : IsOrd hs.length ks) (h : ∀ b, 1 ≤ b → b ≤ hs.length → up ks (up ms b) = b) : call2 (call2 hs ms) ks = hs := by
  have o2 : IsOrd (call2 hs ms).length ks := by
    rw [call2_len]
    exact o'
  refine same_ups (by rw [call2_len, call2_len]) fun k h1 h2 => ?_
  rw [call2_len, call2_len] at h2
  have rk := o.rg h1 h2
  have e := call2_up o2 (c := up ms k) (by rw [call2_len]; exact rk.2)
  rw [h k h1 h2, call2_up o h2] at e
  rw [e]
  by_cases h0 : up hs k = 0
  · rw [h0]
    rfl
  · exact h _ (by omega) (up_le t.le k)
end Fv
set_option maxRecDepth 100000
set_option maxHeartbeats 1000000
namespace Fv
open PySem PySem.Spec L2
section
variable {X : Cx} {K : PySem.W.Frag} {H : Hp} {Q : VK} {σ : L2.St} {a b : Addr} {xs ys : List V} {l m : List Nat}
theorem sl_tupAK (e : X.K = K) : SlR X (rSlA K) := by
  subst e
  exact sl_tupA
theorem op_catAK (e : X.K = K) : OpR X (binaryOp .Add) (rCatA K) := by
  subst e
  exact op_catA
theorem x_slA {lo hi : Option Int} (h : H a = some (.tup xs)) (q : ∀ D H', Same H H' → H' D = some (.tup (cutV xs lo hi)) → Q (.ref D) H') : rSlA K (.ref a) lo hi H Q := by
  refine ⟨a, xs, rfl, .of h, fun hw => ?_, fun _ p hp => q p _ (same_new (Same.refl _) hp) upd_same⟩
  refine q a H (Same.refl _) ?_
  rw [h]
  unfold cutV
  rw [hw.1, hw.2, List.drop_zero, Nat.sub_zero, List.take_length]
theorem x_catA (h1 : H a = some (.tup xs)) (h2 : H b = some (.tup ys)) (hl : xs.length + ys.length ≤ 10000) (q : ∀ D H', Same H H' → H' D = some (.tup (xs ++ ys)) → Q (.ref D) H') : rCatA K (.ref a) (.ref b) H Q := by
  refine ⟨a, b, xs, ys, rfl, rfl, .of h1, .of h2, szLe (by omega), fun e => ?_, fun _ e => ?_, fun _ _ p hp => q p _ (same_new (Same.refl _) hp) upd_same⟩
  · subst e
    exact q b H (Same.refl _) h2
  · subst e
    exact q a H (Same.refl _) (by rw [h1, List.append_nil])
theorem cut_take (xs : List V) (k : Nat) : cutV xs none (some (k : Int)) = xs.take k := by
  unfold cutV
  rw [HT.sIx_none, HT.sIx_nat, List.drop_zero, Nat.sub_zero]
  by_cases h : k ≤ xs.length
  · rw [Nat.min_eq_left h]
  · rw [Nat.min_eq_right (by omega), List.take_length, List.take_of_length_le (by omega)]
theorem cut_drop (xs : List V) (k : Nat) : cutV xs (some (k : Int)) none = xs.drop k := by
  unfold cutV
  rw [HT.sIx_nat, HT.sIx_none]
  by_cases h : k ≤ xs.length
  · rw [Nat.min_eq_left h]
    exact List.take_of_length_le (by rw [List.length_drop]; exact Nat.le_refl _)
  · rw [Nat.min_eq_right (by omega), List.drop_length, List.drop_of_length_le (by omega), List.take_nil]
theorem put_cut {hs : List Nat} {b p : Nat} (h1 : 1 ≤ b) (h2 : b ≤ hs.length) : (nats hs).take (b - 1) ++ [V.int (p : Nat)] ++ (nats hs).drop b = nats (put hs b p) := by
  have e : put hs b p = hs.take (b - 1) ++ p :: hs.drop (b - 1 + 1) := by
    unfold put
    rw [List.set_eq_take_append_cons_drop, if_pos (by omega)]
  rw [e, nats_append, Nat.sub_add_cancel h1, List.append_assoc]
  unfold nats
  rw [List.map_take, List.map_cons, List.map_drop]
  rfl
theorem x_eqLst (h1 : SqL K H a (nats l)) (h2 : SqL K H b (nats m)) (q : Q (.bl (decide (l = m))) H) : rEqD K (.ref a) (.ref b) H Q := by
  refine ⟨.list (dn l), .list (dn m), .lst h1 (dpAll_nats l), .lst h2 (dpAll_nats m), ?_, ?_, ?_⟩
  · have := dn_shaped l
    exact this
  · have := dn_shaped m
    exact this
  · rw [PyData.eqv, dn_eqv]
    exact q
theorem x_inNL {k : Nat} (h : SqL K H a (nats l)) (q : Q (.bl (decide (k ∈ l))) H) : rIn K false (.int k) (.ref a) H Q := by
  refine ⟨a, _, rfl, .inl h, rfl, flat_nats l, ?_⟩
  show Q (.bl (inV (.int k) (nats l))) H
  rw [in_nats]
  exact q
theorem take_snoc {α : Type} {l : List α} {i : Nat} {x : α} (h : l[i]? = some x) : l.take (i + 1) = l.take i ++ [x] := by
  rw [List.take_succ, h]
  rfl
theorem x_star {te : TE} {t : TA} {R : List V → Hp → Prop} (h : te σ H fun x H1 => ∃ p xs, x = V.ref p ∧ (SqT K H1 p xs ∨ SqL K H1 p xs) ∧ t σ H1 fun ys H2 => R (xs ++ ys) H2) : StX.tStar K te t σ H R := h
theorem x_sortT {ns : List Int} (h : SqT K H a (ns.map V.int)) (h64 : ns.length < 64) (q : ∀ (zs : List Int) (p : Addr), zs.Perm ns → zs.Pairwise (· ≤ ·) → H p = none → Q (.ref p) (upd H p (.lst (zs.map V.int)))) : rSortT K [.ref a] H Q := ⟨a, ns, rfl, h, h64, q⟩
/-- an order of all blocks, in order -/
theorem sorted_ord {n : Nat} {ms : List Nat} {zs : List Int} (o : IsOrd n ms) (hp : zs.Perm (ms.map fun (k : Nat) => (k : Int))) (hs : zs.Pairwise (· ≤ ·)) : zs.map V.int = nats (List.range' 1 n) := by
  have e : zs = (List.range' 1 n).map fun (k : Nat) => (k : Int) := by
    refine (hp.trans (o.map _)).eq_of_pairwise (fun a b _ _ h1 h2 => Int.le_antisymm h1 h2) hs ?_
    rw [List.pairwise_map]
    refine (List.pairwise_le_range' (s := 1) (n := n)).imp fun {x y} hxy => ?_
    exact Int.ofNat_le.mpr hxy
  rw [e, List.map_map]
  rfl
theorem nats_ints (l : List Nat) : (l.map fun (k : Nat) => (k : Int)).map V.int = nats l := by
  rw [List.map_map]
  rfl
theorem names_at {ms : List Nat} {k : Nat} (h : k ≤ ms.length) : atI (nats (0 :: ms)) (k : Int) = some (.int (up ms k : Nat)) := by
  refine nats_at ?_
  cases k with
  | zero => rfl
  | succ k => exact up_get (hs := ms) (k := k + 1) (by omega) h
end
theorem below_mem {hs : List Nat} {b p : Nat} (hp : p ≤ hs.length) : p ∈ (List.range' 1 hs.length).filter (fun c => decide (b ∈ way hs c)) ↔ b ∈ way hs p := by
  rw [List.mem_filter, List.mem_range'_1, decide_eq_true_eq]
  constructor
  · exact fun h => h.2
  · intro h
    refine ⟨⟨?_, by omega⟩, h⟩
    refine Nat.one_le_iff_ne_zero.mpr fun e => ?_
    subst e
    obtain ⟨j, _, nz, _⟩ := (way_mem hs b _ _).mp h
    exact nz (upN_zero hs j)
end Fv
set_option maxRecDepth 100000
set_option maxHeartbeats 1000000
namespace PySem
open Sem (wp)
set_option maxHeartbeats 1000000 in
theorem meets_enumerate_new0 {v : Value} {o : Obj} {H : Heap → Prop} (B : Begins v o H) :
    Meets (Builtin.«enumerate.__new__» ⟨[.type "enumerate", v], []⟩) (fun _ R s => H s.heap ∧
      R (.ok (.ret (.ref (s.heap.push o).objs.size))) { s with heap := (s.heap.push o).push { cls := .type "enumerate", data := .fields #[.none, .bool false, .ref s.heap.objs.size, rawInt 0, .none, .none] } }) :=
  .of_wp fun prog w A R s h => by
    obtain ⟨hp, g, d, tk, os⟩ := s; obtain ⟨h1, h⟩ := h
    have hsub := sub_enumerate
    have q1 : ∀ {A' : Around} {E : Value → Shared → Prop} {Q : Value → Shared → Prop}, Q (.ref hp.objs.size) ⟨hp.push o, g, d, tk, os⟩ → wpAny (model prog w) A' (pyIter v) Q E ⟨hp, g, d, tk, os⟩ :=
      fun q => B.iter prog w _ _ ⟨hp, g, d, tk, os⟩ _ h1 q
    wp_walk using q1
    refine wpAny_stack_any fun st => wpAny_pure ?_
    split
    · rename_i c _ _ _ _ _
      cases (c == Value.type "enumerate")
      · wp_walk using q1
        exact ⟨_, rfl, h⟩
      · wp_walk using q1
        exact ⟨_, rfl, h⟩
    · wp_walk using q1
      exact ⟨_, rfl, h⟩
section
variable {prog : Program} {w : World} {A : Around} {E : Value → Shared → Prop} {s : Shared}
theorem enum_begins0 {v : Value} {o : Obj} {H : Heap → Prop} {Q : Value → Shared → Prop} (B : Begins v o H) (h1 : H s.heap)
    (h : ∀ h', IsEnum h' (s.heap.objs.size + 1) s.heap.objs.size 0 .none → h'.get? s.heap.objs.size = some o → h'.objs.size = s.heap.objs.size + 2 →
      (∀ b o, s.heap.get? b = some o → h'.get? b = some o) → Q (.ref (s.heap.objs.size + 1)) { s with heap := h' }) :
    wpAny (model prog w) A (call (.type "enumerate") [v]) Q E s := by
  refine callType_new F.called_enumerate (by decide) (F.typeCall_enumerate_1 _) (F.newCall_enumerate_1 _) (fun obj => F.args_object_init_2 obj _) F.entry_enumerate_new
    (meets_enumerate_new0 B) ⟨h1, ?_⟩
  have hz : (s.heap.push o).objs.size = s.heap.objs.size + 1 := Heap.size_push ..
  show _ ∧ _
  rw [hz]
  have he : IsEnum ((s.heap.push o).push { cls := .type "enumerate", data := .fields #[.none, .bool false, .ref s.heap.objs.size, rawInt 0, .none, .none] }) (s.heap.objs.size + 1) s.heap.objs.size 0 .none := by
    have := Heap.get?_push_size (s.heap.push o) (o := { cls := .type "enumerate", data := .fields #[.none, .bool false, .ref s.heap.objs.size, rawInt 0, .none, .none] }) rfl
    rw [hz] at this; exact this
  refine ⟨⟨_, he, rfl⟩, h _ he (Heap.get?_push_of_some _ (Heap.get?_push_size _ B.free)) (by rw [Heap.size_push, hz]) fun b o x => Heap.get?_push_of_some _ (Heap.get?_push_of_some _ x)⟩
end
end PySem
namespace Fv
open PySem PySem.Spec L2
theorem pi_enumT0 {X : Cx} {K : PySem.W.Frag} {e : Expr} {ta : TA} {p pos tpos : Pos} {elts : List Expr} {kk : Nat} (eK : X.K = K) (hc : X.calm = true) (hg : Gl X "enumerate") (hm : X.mg "enumerate" = none) (ha : PA X [e] ta) (hs : starEach [e] X.env = [(false, eval e X.env)] := by rfl) :
    PI X (.Tuple elts kk tpos) (.Call (.Name "enumerate" p) [e] [] pos) (iEnT K 0 ta) := by
  subst eK
  refine ⟨fun pins s σ H R I h => ?_⟩
  refine PyProof.Rows.Call_ (ld_blt I hg hm (u := .type "enumerate") (by decide +kernel) (PyProof.Rows.callWith_type1 (thn (ha.run pos pins s σ H _ I h) fun us s1 ⟨vs, H1, I1, r1, t, xs, ex, hq, q⟩ => ?_) hs rfl))
  subst ex
  cases r1 with
  | cons r rr =>
    cases rr
    cases r
    obtain ⟨its, rv, p', hz⟩ := I1.tuple hq
    refine enum_begins0 (begins_tuple t its.toArray) (isTuple_of p') fun h' he hit hsz hkp => wpAny_pyIter_enum he ?_
    have I3 : Inv X pins σ H1 { s1 with heap := h' } := I1.kept (t' := s1.toks) hkp
    have ht : t < s1.heap.objs.size := p'.lt
    have hn : ∀ b, s1.heap.objs.size ≤ b → H1 b = none := fun b hb => I1.hok.fresh hb
    refine ⟨s1.heap.objs.size + 1, [s1.heap.objs.size + 1, s1.heap.objs.size], _, _, H1, rfl, I3, turn_enumT 0 t (s1.heap.objs.size + 1) s1.heap.objs.size (Nat.ne_of_lt ht) (Nat.succ_ne_self _) (Nat.ne_of_gt (Nat.lt_succ_of_lt ht)),
      ⟨⟨.none, ?_⟩, ⟨_, hit, rfl, rfl⟩⟩, fun b hb => ?_, q⟩
    · exact he
    · have hle : s1.heap.objs.size ≤ b := by
        rcases List.mem_cons.mp hb with rfl | hb
        · exact Nat.le_succ _
        · rw [List.mem_singleton.mp hb]
          exact Nat.le_refl _
      exact I1.fpOk hle (hn b hle)
theorem pi_enumLK {X : Cx} {K : PySem.W.Frag} {e : Expr} {ta : TA} {p pos tpos : Pos} {elts : List Expr} {kk : Nat} (eK : X.K = K) (hg : Gl X "enumerate") (hm : X.mg "enumerate" = none) (ha : PA X [e] ta) (hs : starEach [e] X.env = [(false, eval e X.env)] := by rfl) :
    PI X (.Tuple elts kk tpos) (.Call (.Name "enumerate" p) [e] [] pos) (iEnum K ta) := by
  subst eK
  exact pi_enum hg hm ha hs
theorem x_enl {K : PySem.W.Frag} {σ : L2.St} {H : Hp} {R : It → Hp → Prop} {ts : TA} (h : ts σ H fun vs H1 => ∃ (t : Addr) (xs : List V), vs = [.ref t] ∧ SqL K H1 t xs ∧ R (Ite K t) H1) : iEnum K ts σ H R := h
theorem x_enl1 {K : PySem.W.Frag} {H : Hp} {a : Addr} {xs : List V} {R : Addr → Prop} (h : SqL K H a xs) (q : R a) : ∃ (t : Addr) (ys : List V), [V.ref a] = [.ref t] ∧ SqL K H t ys ∧ R t := ⟨a, xs, rfl, h, q⟩
theorem lp_enumL {K : PySem.W.Frag} {t : Addr} {xs : List V} {g : TG} {tb : TS} {nx : L2.St → Hp → Prop} {rt : VK} {σ : L2.St} {H : Hp} (Pv : Nat → L2.St → Hp → Prop) (h0 : Pv 0 σ H) (hl : ∀ i σ H, i ≤ xs.length → Pv i σ H → SqL K H t xs)
    (hs : ∀ i x σ H T, xs[i]? = some x → Pv i σ H → H T = none → g (.ref T) σ (upd H T (.tup [.int (i : Nat), x])) fun σ2 H2 => tb { nx := Pv (i + 1), rt := rt, bk := nx, ct := Pv (i + 1) } σ2 H2) (hd : ∀ σ H, Pv xs.length σ H → nx σ H) :
    ∃ W : Nat → Nat → L2.St → Hp → Prop, (∃ m, W 0 m σ H) ∧ ∀ i m σ H, W i m σ H → ((Ite K t).stop i H ∧ nx σ H) ∨ ((Ite K t).go i H ∧ ∃ N : L2.St → Hp → Prop, (∀ σ' H', N σ' H' → ∃ m', m' < m ∧ W (i + 1) m' σ' H') ∧ ∀ x H', (Ite K t).yld i H x H' → g x σ H' fun σ2 H2 => tb { nx := N, rt := rt, bk := nx, ct := N } σ2 H2) := by
  refine ⟨fun i m σ H => m = xs.length - i ∧ i ≤ xs.length ∧ Pv i σ H, ⟨_, rfl, Nat.zero_le _, h0⟩, ?_⟩
  rintro i m σ H ⟨rfl, hi, p⟩
  have q := hl i σ H hi p
  by_cases hlt : i < xs.length
  · refine .inr ⟨⟨xs, xs[i], q, List.getElem?_eq_getElem hlt⟩, Pv (i + 1), fun σ' H' p' => ⟨_, by omega, rfl, hlt, p'⟩, fun x H' y => ?_⟩
    obtain ⟨T, z, rfl, hT, rfl, hz⟩ := y
    exact hs i z σ H T (hz xs q) p hT
  · have e : i = xs.length := by omega
    subst e
    exact .inl ⟨⟨xs, q, Nat.le_refl _⟩, hd σ H p⟩
theorem lc_enumL {K : PySem.W.Frag} {t : Addr} {xs : List V} {g : TG} {tt : TT} {te : TE} {vs : List Nat} {σ : L2.St} {H1 : Hp} {D : Addr} {Qd : Hp → Prop} (Pv : Nat → Hp → Prop) (h0 : Pv 0 (upd H1 D (.lst []))) (hl : ∀ i H, i ≤ xs.length → Pv i H → SqL K H t xs)
    (hs : ∀ i x H T, xs[i]? = some x → Pv i H → H T = none → g (.ref T) (wipe σ vs) (upd H T (.tup [.int (i : Nat), x])) fun σ2 H2 => wipe σ2 vs = wipe σ vs ∧ tt σ2 H2 fun b H3 =>
      if b = true then te σ2 H3 fun y H4 => ∃ acc, H4 D = some (.lst acc) ∧ acc.length < sizeLine ∧ Pv (i + 1) (upd H4 D (.lst (acc ++ [y]))) else Pv (i + 1) H3) (hd : ∀ H, Pv xs.length H → Qd H) :
    ∃ W : Nat → Nat → Hp → Prop, (∃ m, W 0 m (upd H1 D (.lst []))) ∧ ∀ i m H, W i m H → ((Ite K t).stop i H ∧ Qd H) ∨ ((Ite K t).go i H ∧ ∃ Nx : Hp → Prop, (∀ H', Nx H' → ∃ m', m' < m ∧ W (i + 1) m' H') ∧ ∀ x H', (Ite K t).yld i H x H' → g x (wipe σ vs) H' fun σ2 H2 => wipe σ2 vs = wipe σ vs ∧ tt σ2 H2 fun b H3 =>
        if b = true then te σ2 H3 fun y H4 => ∃ acc, H4 D = some (.lst acc) ∧ acc.length < sizeLine ∧ Nx (upd H4 D (.lst (acc ++ [y]))) else Nx H3) := by
  refine ⟨fun i m H => m = xs.length - i ∧ i ≤ xs.length ∧ Pv i H, ⟨_, rfl, Nat.zero_le _, h0⟩, ?_⟩
  rintro i m H ⟨rfl, hi, p⟩
  have q := hl i H hi p
  by_cases hlt : i < xs.length
  · refine .inr ⟨⟨xs, xs[i], q, List.getElem?_eq_getElem hlt⟩, Pv (i + 1), fun H' p' => ⟨_, by omega, rfl, hlt, p'⟩, fun x H' y => ?_⟩
    obtain ⟨T, z, rfl, hT, rfl, hz⟩ := y
    exact hs i z H T (hz xs q) p hT
  · have e : i = xs.length := by omega
    subst e
    exact .inl ⟨⟨xs, q, Nat.le_refl _⟩, hd H p⟩
/-! flags and None -/
def wdV : Option Bool → V
  | none => .non
  | some b => .bl b
def wds (c : List (Option Bool)) : List V := c.map wdV
def isTr : Value → Bool
  | .bool b => b
  | _ => false
theorem isTr_count : ∀ {us : List Value} {c : List (Option Bool)}, Vals (wds c) us → us.countP isTr = c.count (some true)
  | _, [], .nil => rfl
  | _, some b :: c, .cons r t => by
    have ih := isTr_count (c := c) t
    have e : _ = Value.bool b := r
    subst e
    rw [List.countP_cons, List.count_cons, ih]
    cases b <;> rfl
  | _, none :: c, .cons r t => by
    have ih := isTr_count (c := c) t
    have e : _ = Value.none := r
    subst e
    rw [List.countP_cons, List.count_cons, ih]
    rfl
theorem isTr_eq {A : Around} {s : Shared} : ∀ {us : List Value} {c : List (Option Bool)}, Vals (wds c) us → ∀ y ∈ us, SeqAt.EqAt A s y (.bool true) (isTr y)
  | _, [], .nil => fun y hy => by cases hy
  | _, some b :: c, .cons r t => fun y hy => by
    have e : _ = Value.bool b := r
    subst e
    rcases List.mem_cons.mp hy with e | e
    · subst e
      have := SeqAt.EqAt.bool_bool (A := A) (s := s) b true
      cases b <;> exact this
    · exact isTr_eq (c := c) t y e
  | _, none :: c, .cons r t => fun y hy => by
    have e : _ = Value.none := r
    subst e
    rcases List.mem_cons.mp hy with e | e
    · subst e
      exact SeqAt.EqAt.none_bool (A := A) (s := s) true
    · exact isTr_eq (c := c) t y e
def rCntB (K : PySem.W.Frag) : V → List V → Hp → VK → Prop := fun x xs H Q => ∃ (p : Addr) (c : List (Option Bool)), x = .ref p ∧ xs = [.bl true] ∧ SqL K H p (wds c) ∧ Q (.int (c.count (some true) : Nat)) H
theorem mt_lcountB {X : Cx} {K : PySem.W.Frag} (eK : X.K = K) : MtR X "list.count" (rCntB K) := by
  subst eK
  intro pins s σ H x xs v us Q I rx rxs h
  obtain ⟨p, c, rfl, rfl, hs, q⟩ := h
  cases rx
  obtain ⟨u, rfl, ru⟩ := rxs.one
  have eu : u = Value.bool true := ru
  subst eu
  obtain ⟨its, rv, ⟨⟨cls, dd, data, sl⟩, n, ho, hc, hdn, hd⟩, hlen⟩ := I.list hs
  simp only at hc hd
  subst hc hd
  refine call_meets PySem.F.slot_list_count ⟨_, ho, rfl⟩ PySem.F.entry_list_count (PySem.F.args_list_count_2 _ _)
    (SeqAt.list_countAt p its.toArray n dd sl (.bool true) isTr) ⟨ho, fun y hy => isTr_eq rv y (by simpa using hy), ?_⟩
  have ec : its.toArray.toList.countP isTr = c.count (some true) := by
    have e : its.toArray.toList = its := by simp
    rw [e]
    exact isTr_count rv
  refine ⟨.int (c.count (some true) : Nat), H, I.tok _, ⟨s.toks, ?_⟩, q⟩
  show Value.int ((its.toArray.toList.countP isTr : Nat) : Int) s.toks = Value.int ((c.count (some true) : Nat) : Int) s.toks
  rw [ec]
def rIsBk : R2 := fun x y H Q => ∃ (o : Option Bool) (b : Bool), x = wdV o ∧ y = .bl b ∧ Q (.bl (decide (o = some b))) H
def rNotBk : R2 := fun x y H Q => ∃ (o : Option Bool) (b : Bool), x = wdV o ∧ y = .bl b ∧ Q (.bl (!decide (o = some b))) H
theorem op_isBk {X : Cx} : OpR X (compareOp .Is) rIsBk := by
  intro pins s σ H x y v u Q I rx ry h
  obtain ⟨o, b, rfl, rfl, q⟩ := h
  cases (show u = Value.bool b from ry)
  cases o with
  | none =>
    cases (show v = Value.none from rx)
    exact wpAny_is_other rfl (fun z => nomatch z) ⟨.bl false, H, I, rfl, by simpa using q⟩
  | some a =>
    cases (show v = Value.bool a from rx)
    by_cases e : a = b
    · subst e
      exact wpAny_is_self rfl ⟨.bl true, H, I, rfl, by simpa using q⟩
    · exact wpAny_is_other rfl (fun z => e (Value.bool.inj z)) ⟨.bl false, H, I, rfl, by simpa [e] using q⟩
theorem op_notBk {X : Cx} : OpR X (compareOp .IsNot) rNotBk := by
  intro pins s σ H x y v u Q I rx ry h
  obtain ⟨o, b, rfl, rfl, q⟩ := h
  cases (show u = Value.bool b from ry)
  cases o with
  | none =>
    cases (show v = Value.none from rx)
    exact wpAny_isNot_other rfl (fun z => nomatch z) ⟨.bl true, H, I, rfl, by simpa using q⟩
  | some a =>
    cases (show v = Value.bool a from rx)
    by_cases e : a = b
    · subst e
      exact wpAny_isNot_self rfl ⟨.bl false, H, I, rfl, by simpa using q⟩
    · exact wpAny_isNot_other rfl (fun z => e (Value.bool.inj z)) ⟨.bl true, H, I, rfl, by simpa [e] using q⟩
theorem x_isBk {H : Hp} {Q : VK} {o : Option Bool} {b : Bool} (q : Q (.bl (decide (o = some b))) H) : rIsBk (wdV o) (.bl b) H Q := ⟨o, b, rfl, rfl, q⟩
theorem x_notBk {H : Hp} {Q : VK} {o : Option Bool} {b : Bool} (q : Q (.bl (!decide (o = some b))) H) : rNotBk (wdV o) (.bl b) H Q := ⟨o, b, rfl, rfl, q⟩
theorem x_cntB {K : PySem.W.Frag} {H : Hp} {Q : VK} {p : Addr} {c : List (Option Bool)} (h : SqL K H p (wds c)) (q : Q (.int (c.count (some true) : Nat)) H) : rCntB K (.ref p) [.bl true] H Q := ⟨p, c, rfl, rfl, h, q⟩
/-- a place, or None -/
def upV : Option Nat → V
  | none => .non
  | some q => .int (q : Nat)
def upvs (us : List (Option Nat)) : List V := us.map upV
theorem wds_length (c : List (Option Bool)) : (wds c).length = c.length := List.length_map ..
theorem upvs_length (c : List (Option Nat)) : (upvs c).length = c.length := List.length_map ..
theorem wds_get {c : List (Option Bool)} {i : Nat} {o : Option Bool} (h : c[i]? = some o) : (wds c)[i]? = some (wdV o) := by
  unfold wds
  rw [List.getElem?_map, h]
  rfl
theorem upvs_get {c : List (Option Nat)} {i : Nat} {o : Option Nat} (h : c[i]? = some o) : (upvs c)[i]? = some (upV o) := by
  unfold upvs
  rw [List.getElem?_map, h]
  rfl
theorem wds_at {c : List (Option Bool)} {i : Nat} {o : Option Bool} (h : c[i]? = some o) : atI (wds c) (i : Int) = some (wdV o) := atI_nat (wds_get h)
theorem upvs_at {c : List (Option Nat)} {i : Nat} {o : Option Nat} (h : c[i]? = some o) : atI (upvs c) (i : Int) = some (upV o) := atI_nat (upvs_get h)
theorem wds_app (c d : List (Option Bool)) : wds (c ++ d) = wds c ++ wds d := List.map_append ..
theorem upvs_app (c d : List (Option Nat)) : upvs (c ++ d) = upvs c ++ upvs d := List.map_append ..
end Fv
set_option maxRecDepth 100000
set_option maxHeartbeats 1000000
namespace Fv
open PySem PySem.Spec PyProof.Rows L2
/-! x != y by x's own __eq__ -/
structure OwnN (K : PySem.W.Frag) (C f : Addr) : Prop where
  c : ∃ (nm q : Str) (N : Addr) (bs : List Value) (hd : Bool) (sn : List Str) (sub : List Value) (ab : Bool) (col : Option Bool) (dd : Option Addr) (k0 k1 k2 k3 k5 : Option Value) (newId : String),
    K.lookup C = some (excClassObj nm q C N bs [.type "object"] hd sn sub ab col dd k0 k1 k2 k3 k5 newId) ∧ PySem.W.nsOkIn K N = true ∧ PySem.W.nsIn K N "__eq__" = some (some (.ref f)) ∧ PySem.W.nsIn K N "__ne__" = some none
  t : PySem.W.typeIn K (.ref f) = some (.type "function")
theorem ns_some {K : PySem.W.Frag} {h : Heap} {N : Addr} {m : Str → Option Value} {n : Str} {v : Value} (X : K.In h) (G : h.Ns N m) (e : PySem.W.nsIn K N n = some (some v)) : m n = some v := by
  obtain ⟨o, es, ep, ho, hd, _, hf⟩ := G
  unfold PySem.W.nsIn at e
  split at e
  · rename_i c d es' n' sl q
    have z := X _ _ q
    rw [ho] at z
    cases z
    cases hd
    split at e
    · rename_i en he
      cases e
      rw [← hf]
      unfold nsFind findBy
      rw [← Array.find?_toList, he]
      rfl
    · split at e <;> cases e
  · cases e
def rOwnN (C : Addr) (sp : Sp) : R2 := fun x y H Q => ∃ (a b dx dy : Addr) (fs gs : List (Str × V)), x = .ref a ∧ y = .ref b ∧ H a = some (.ins C dx fs) ∧ H b = some (.ins C dy gs) ∧
  sp [.ref a, .ref b] H (fun v H' => ∃ r, v = .bl r ∧ Q (.bl (!r)) H') (fun _ _ _ => False)
theorem op_ownN {X : Cx} {C f : Addr} {fd : FuncData} {ps : List Str} {sp : Sp} {n : Nat} (O : OwnN X.K C f) (F : FnOk X.prog X.w X.K X.mg X.base CX0 n f fd ps sp) (hb : Binds X.K fd ps []) (hr : Room (n + 1) X.A) : OpR X (compareOp .NotEq) (rOwnN C sp) := by
  intro pins s σ H x y v u Q I rx ry h
  obtain ⟨a, b, dx, dy, fs, gs, rfl, rfl, ha, hB, hsp⟩ := h
  cases rx
  cases ry
  obtain ⟨nm, q, N, bs, hd, sn, sub, ab, col, dd, k0, k1, k2, k3, k5, newId, hC, n1, n2, n3⟩ := O.c
  obtain ⟨mA, J, _⟩ := ins_get I.hok ha
  obtain ⟨od, J, _⟩ := J.look
  obtain ⟨mB, J', _⟩ := ins_get I.hok hB
  obtain ⟨od', J', _⟩ := J'.look
  have KI := I.kIn
  have G : s.heap.Ns N (s.heap.nsMap N) := .of_isNs (PySem.W.isNs_of_in KI n1)
  obtain ⟨of, hof, hoc⟩ : ∃ of, s.heap.get? f = some of ∧ of.cls = .type "function" := by
    have e : (X.K.lookup f).map (·.cls) = some (.type "function") := O.t
    cases z : X.K.lookup f with
    | none =>
      rw [z] at e
      cases e
    | some of =>
      rw [z] at e
      exact ⟨of, KI _ _ z, Option.some.inj e⟩
  have W : s.heap.OwnEqNoNe a C f "object" [.type "object"] :=
    ⟨_, of, nm, q, N, bs, hd, sn, sub, ab, col, dd, k0, k1, k2, k3, k5, newId, s.heap.nsMap N, _, J.at_, J.cls, KI _ _ hC, G, ns_some KI G n2, hof, hoc, PySem.F.cmp_object.mro, PySem.F.cmp_object.eq.lookup, PySem.W.ns_none_of KI G n3⟩
  have hu : X.A.units + 1 < cLine := by have := hr.un; omega
  have hI0 := I.env0
  have r2 : Vals [V.ref a, V.ref b] [Value.ref a, Value.ref b] := .cons rfl (.cons rfl .nil)
  have hl : ([Value.ref a, Value.ref b] ++ []).length = ps.length := by rw [← (r2.append .nil).length]; exact F.len _ _ _ _ hsp
  have hbt := hb s [.ref a, .ref b] I.kIn hl
  have call := F.run X.A.in1 X.stack s H ⟨[.ref a, .ref b], []⟩ _ _ _ _ hr.in1 hI0.in1 hbt (r2.append .nil) hsp
  obtain ⟨hp, g, d, t, os⟩ := s
  refine PySem.richCompare_ne_ownEq PySem.F.cmp_object W J'.at_ J'.cls hu (wpAny_call (codeAny_mono call fun r s' hq => ?_))
  cases r with
  | error e => exact hq.elim
  | ok fl =>
    cases fl with
    | ret u =>
      obtain ⟨z, H', I', rz, r, ez, q⟩ := I.after hq
      subst ez
      cases rz
      exact ⟨_, rfl, .bl (!r), H', I', rfl, q⟩
    | next => exact False.elim hq
    | brk => exact False.elim hq
    | cont => exact False.elim hq
/-! t.index(k), t a tuple of whole numbers that holds k -/
def rTix (K : PySem.W.Frag) : V → List V → Hp → VK → Prop := fun x xs H Q => ∃ (p : Addr) (ns : List Int) (k : Int), x = .ref p ∧ xs = [.int k] ∧ SqT K H p (ns.map V.int) ∧ k ∈ ns ∧ Q (.int (ns.idxOf k : Nat)) H
theorem mt_tix {X : Cx} {K : PySem.W.Frag} (e : X.K = K) : MtR X "tuple.index" (rTix K) := by
  subst e
  intro pins s σ H x xs v us Q I rx rs h
  obtain ⟨p, ns, k, rfl, rfl, hq, hk, q⟩ := h
  cases rx
  obtain ⟨u, rfl, t, rfl⟩ := vals1 rs
  obtain ⟨its, r, pl, hz⟩ := I.tuple hq
  exact PySem.SeqAt.tuple_index_ints (isTuple_of pl) r.ints hk ⟨.int _, H, I.tok _, ⟨_, rfl⟩, q⟩
theorem x_tix {K : PySem.W.Frag} {H : Hp} {Q : VK} {p : Addr} {ms : List Nat} {k : Nat} (h : SqT K H p (nats ms)) (hk : k ∈ ms) (q : Q (.int (ms.idxOf k : Nat)) H) : rTix K (.ref p) [.int k] H Q := by
  refine ⟨p, ms.map fun (j : Nat) => (j : Int), k, rfl, rfl, by rw [nats_ints]; exact h, List.mem_map.mpr ⟨k, hk, rfl⟩, ?_⟩
  have e : (ms.map fun (j : Nat) => (j : Int)).idxOf (k : Int) = ms.idxOf k := by
    clear hk q h
    induction ms with
    | nil => rfl
    | cons m ms ih =>
      rw [List.map_cons, List.idxOf_cons, List.idxOf_cons, ih]
      have eb : ((m : Int) == (k : Int)) = (m == k) := by
        rw [Bool.eq_iff_iff, beq_iff_eq, beq_iff_eq]
        omega
      rw [eb]
  rw [e]
  exact q
/-- the order turned about -/
def turned (ms : List Nat) (n : Nat) : List Nat := (List.range' 1 n).map fun k => ms.idxOf k + 1
theorem turned_len (ms : List Nat) (n : Nat) : (turned ms n).length = n := by
  unfold turned
  rw [List.length_map, List.length_range']
theorem turned_up {ms : List Nat} {n k : Nat} (h1 : 1 ≤ k) (h2 : k ≤ n) : up (turned ms n) k = ms.idxOf k + 1 := by
  refine up_at (by omega) ?_
  unfold turned
  rw [List.getElem?_map, List.getElem?_range' (by omega)]
  show some (ms.idxOf (1 + 1 * (k - 1)) + 1) = _
  rw [show 1 + 1 * (k - 1) = k by omega]
theorem idx_up {ms : List Nat} {n b : Nat} (o : IsOrd n ms) (h1 : 1 ≤ b) (h2 : b ≤ n) : ms.idxOf (up ms b) + 1 = b := by
  have hg := up_get (hs := ms) h1 (by rw [o.len]; exact h2)
  obtain ⟨hl, he⟩ := List.getElem?_eq_some_iff.mp hg
  rw [← he, o.nodup.idxOf_getElem _ hl]
  omega
theorem turned_ord {n : Nat} {ms : List Nat} (o : IsOrd n ms) : IsOrd n (turned ms n) := by
  refine (List.perm_ext_iff_of_nodup ?_ List.nodup_range').mpr fun x => ?_
  · unfold turned
    refine List.pairwise_map.mpr ((List.Pairwise.and_mem.mp (show List.Pairwise (· ≠ ·) (List.range' 1 n) from List.nodup_range')).imp fun {a b} hab e => hab.2.2 ?_)
    have ha := hab.1
    have hb := hab.2.1
    have ra := List.mem_range'_1.mp ha
    have rb := List.mem_range'_1.mp hb
    have e2 : ms.idxOf a = ms.idxOf b := by omega
    have ia := List.getElem_idxOf (List.idxOf_lt_length_iff.mpr (o.mem.mpr ⟨by omega, by omega⟩ : a ∈ ms))
    have ib := List.getElem_idxOf (List.idxOf_lt_length_iff.mpr (o.mem.mpr ⟨by omega, by omega⟩ : b ∈ ms))
    rw [← ia, ← ib]
    congr 1
  · unfold turned
    rw [List.mem_map, List.mem_range'_1]
    constructor
    · rintro ⟨a, ha, rfl⟩
      have ra := List.mem_range'_1.mp ha
      have := List.idxOf_lt_length_iff.mpr (o.mem.mpr ⟨by omega, by omega⟩ : a ∈ ms)
      rw [o.len] at this
      omega
    · intro hx
      have r := o.rg (k := x) (by omega) (by omega)
      refine ⟨up ms x, List.mem_range'_1.mpr (by omega), idx_up o (by omega) (by omega)⟩
theorem turned_back {n b : Nat} {ms : List Nat} (o : IsOrd n ms) (h1 : 1 ≤ b) (h2 : b ≤ n) : up (turned ms n) (up ms b) = b := by
  have r := o.rg h1 h2
  rw [turned_up r.1 r.2, idx_up o h1 h2]
end Fv
set_option maxRecDepth 100000
set_option maxHeartbeats 1000000
namespace Fv
open PySem PySem.Spec PyProof.Rows L2
/-! a tuple of which it is known that it has no dict: its methods may be called -/
def FrT (H : Hp) (a : Addr) (xs : List V) : Prop := ∃ o : Obj, H a = some (.frz o (.tup xs)) ∧ o.cls = .type "tuple" ∧ o.dict = none
theorem FrT.sq {K : PySem.W.Frag} {H : Hp} {a : Addr} {xs : List V} (h : FrT H a xs) : SqT K H a xs := by
  obtain ⟨o, e, _, _⟩ := h
  exact .inl (.inr ⟨o, e⟩)
theorem FrT.same {H H' : Hp} {a : Addr} {xs : List V} (s : Same H H') (h : FrT H a xs) : FrT H' a xs := by
  obtain ⟨o, e, c, d⟩ := h
  exact ⟨o, s _ _ e, c, d⟩
theorem FrT.but {H H' : Hp} {p a : Addr} {xs : List V} (s : But p H H') (n : a ≠ p) (h : FrT H a xs) : FrT H' a xs := by
  obtain ⟨o, e, c, d⟩ := h
  exact ⟨o, s _ _ n e, c, d⟩
/-- tuple(l), l a list: a new tuple without a dict -/
def rTupF (K : PySem.W.Frag) : List V → Hp → VK → Prop := fun xs H Q => ∃ p ys, xs = [.ref p] ∧ SqL K H p ys ∧ ∀ l (o : Obj), H l = none → o.cls = .type "tuple" → o.dict = none → Q (.ref l) (upd H l (.frz o (.tup ys)))
theorem call_tupF {X : Cx} {K : PySem.W.Frag} (e : X.K = K) : CallR X (.type "tuple") (rTupF K) := by
  subst e
  intro pins s σ H xs us Q I r h
  obtain ⟨p, ys, rfl, hq, q⟩ := h
  obtain ⟨u, rfl, rx⟩ := vals1 r
  cases rx
  obtain ⟨its, r', pl, hz⟩ := I.list hq
  have hlen := r'.length
  refine call_tuple_list pl.isList (fun h' kp => ?_) (by simp only [List.size_toArray] <;> omega)
  have I1 : Inv X pins σ H { s with heap := h' } := I.kept (t' := s.toks) kp
  have at0 : (h'.push { cls := .type "tuple", data := .seq its.toArray }).get? h'.objs.size = some { cls := .type "tuple", data := .seq its.toArray } := Heap.get?_push_size _ rfl
  have I2 : Inv X pins σ (upd H h'.objs.size (.frz { cls := .type "tuple", data := .seq its.toArray } (.tup ys))) { s with heap := h'.push { cls := .type "tuple", data := .seq its.toArray } } := by
    refine I1.laid (t' := s.toks) (fun b o e => Heap.get?_push_of_some _ e) (Nat.le_refl _) ?_
    exact (show ObjOk X.prog X.w _ _ _ (.frz { cls := .type "tuple", data := .seq its.toArray } (.tup ys)) from ⟨at0, hz, its, r', IsTup.new _ _⟩)
  exact ⟨.ref h'.objs.size, _, I2, rfl, q _ _ (I1.hok.fresh (Nat.le_refl _)) rfl rfl⟩
/-- isinstance(t, tuple), t a tuple of any kind -/
def rIsT (K : PySem.W.Frag) : List V → Hp → VK → Prop := fun xs H Q => ∃ a ys, xs = [.ref a, .ty "tuple"] ∧ SqT K H a ys ∧ Q (.bl true) H
theorem call_isT {X : Cx} {K : PySem.W.Frag} (e : X.K = K) : CallR X (.builtin "isinstance") (rIsT K) := by
  subst e
  intro pins s σ H xs us Q I r h
  obtain ⟨a, ys, rfl, hq, q⟩ := h
  obtain ⟨u1, u2, rfl, r1, r2⟩ := vals2 r
  cases r1
  cases r2
  obtain ⟨its, r', ⟨o, h1, h2, _⟩, hz⟩ := I.tuple hq
  exact PySem.W.kia_one (K := X.K) (t := .type "tuple") PySem.W.kitx_tuple I.kIn ⟨o, h1, h2⟩ (if_pos (beq_self_eq_true _) : PySem.W.kitOne X.K (.type "tuple") (.type "tuple") = some true) (fun z => nomatch z) fun tk => ⟨.bl true, H, I.tok tk, rfl, q⟩
section
variable {X : Cx} {K : PySem.W.Frag} {o e : Expr} {es : List Expr} {to : TE} {t : TA} {name : Str} {apos cpos : Pos} {id : String} {r : V → List V → Hp → VK → Prop}
/-- t.m(..), t such a tuple -/
def tBT (r : V → List V → Hp → VK → Prop) (to : TE) (t : TA) : TE := fun σ H Q => to σ H fun x H1 => ∃ a ys, x = .ref a ∧ FrT H1 a ys ∧ t σ H1 fun xs H2 => r x xs H2 Q
theorem pe_bmT (slot : Slot "tuple" name id) (hty : typeOf (.builtin id) = pure (.type "method_descriptor")) (hm : MtR X id r) (ho : PE X o to) (ha : PA X (e :: es) t)
    (hbase : attributeBase o name X.env (eval o X.env) = eval o X.env := by rfl)
    (hfew : ((backTo cpos (starEach (e :: es) X.env)).all (fun x => !x.1) && (backToKw cpos (keywordEach [] X.env)).all (fun x => x.1.isSome) && decide ((e :: es).length + ([] : List Keyword).length + (if ([] : List Keyword).isEmpty then 0 else 1) < 30)) = true := by rfl)
    (hline : (apos.endLine == cpos.line) = true := by rfl) (hs : starEach (e :: es) X.env = (false, eval e X.env) :: starEach es X.env := by rfl) (hplain : (backTo cpos (starEach es X.env)).any (·.1) = false := by rfl) :
    PE X (.Call (.Attribute o name apos) (e :: es) [] cpos) (tBT r to t) := by
  refine ⟨fun pins s σ H Q I h => ?_⟩
  refine wpAny_Call_method_late hbase hfew hline rfl (thn (ho.run pins s σ H _ I h) fun v s1 ⟨x, H1, I1, r1, a, ys, ex, hf, q1⟩ => ?_)
  subst ex
  obtain rfl : v = Value.ref a := r1
  obtain ⟨ob, eo, hc, hd⟩ := hf
  obtain ⟨h0, _⟩ := (show ObjOk X.prog X.w H1 s1.heap a (.frz ob (.tup ys)) from I1.hok a _ eo)
  refine ⟨"tuple", id, PySem.F.plainAttrs_tuple, slot, hty, ⟨ob, h0, hc⟩, fun b eb => ?_, ?_⟩
  · cases eb
    exact ⟨ob, h0, hd⟩
  · have hA := ha.run cpos pins s1 σ H1 _ I1 q1
    rw [hs] at hA ⊢
    have hpl : ((false, eval e X.env) :: backTo cpos (starEach es X.env)).any (·.1) = false := by
      show (false || (backTo cpos (starEach es X.env)).any (·.1)) = false
      rw [hplain] <;> rfl
    refine Calls.callWith_builtin hpl (Calls.evalArgs_plain (thn hA fun us s2 ⟨vs, H2, I2, r2, q2⟩ => ?_))
    exact hm pins s2 σ H2 (.ref a) vs _ us Q I2 rfl r2 q2
end
theorem x_catA2 {K : PySem.W.Frag} {H : Hp} {Q : VK} {a b : Addr} {xs ys : List V} (h1 : SqT K H a xs) (h2 : SqT K H b ys) (nx : xs ≠ []) (ny : ys ≠ []) (hl : xs.length + ys.length ≤ 10000) (q : ∀ p, H p = none → Q (.ref p) (upd H p (.tup (xs ++ ys)))) : rCatA K (.ref a) (.ref b) H Q :=
  ⟨a, b, xs, ys, rfl, rfl, h1, h2, szLe (by omega), fun e => (nx e).elim, fun _ e => (ny e).elim, fun _ _ => q⟩
theorem nats_ne {l : List Nat} (h : 1 ≤ l.length) : nats l ≠ [] := fun e => by
  have := congrArg List.length e
  rw [nats_length] at this
  exact absurd this (by show ¬ l.length = 0; omega)
end Fv
/-! what places tell of trees -/
namespace Fv
theorem wayN_eq (hs : List Nat) : ∀ m k n, (∀ j, j < n → upN hs j k ≠ 0) → upN hs n k = 0 → n ≤ m → wayN hs m k = (List.range n).map fun i => upN hs (i + 1) k
  | m, k, 0, _, h, _ => by
    have e : k = 0 := h
    subst e
    cases m with
    | zero => rfl
    | succ m => exact if_pos rfl
  | 0, k, n + 1, _, _, h => absurd h (by omega)
  | m + 1, k, n + 1, hn, h, hm => by
    have k0 : k ≠ 0 := hn 0 (by omega)
    show (if k = 0 then [] else up hs k :: wayN hs m (up hs k)) = _
    rw [if_neg k0, wayN_eq hs m (up hs k) n (fun j hj => hn (j + 1) (by omega)) h (by omega), List.range_succ_eq_map, List.map_cons, List.map_map]
    rfl
theorem wayN_snoc (hs : List Nat) : ∀ i k, wayN hs (i + 1) k = wayN hs i k ++ if upN hs i k = 0 then [] else [upN hs (i + 1) k]
  | 0, k => by
    show (if k = 0 then [] else [up hs k]) = [] ++ _
    rfl
  | i + 1, k => by
    show (if k = 0 then [] else up hs k :: wayN hs (i + 1) (up hs k)) = (if k = 0 then [] else up hs k :: wayN hs i (up hs k)) ++ _
    by_cases h : k = 0
    · subst h
      rw [if_pos rfl, if_pos rfl, upN_zero, if_pos rfl]
      rfl
    · rw [if_neg h, if_neg h, wayN_snoc hs i (up hs k)]
      rfl
theorem range_snoc (n : Nat) : List.range' 1 (n + 1) = List.range' 1 n ++ [1 + n] := by
  rw [List.range'_concat, Nat.one_mul]
/-- the blocks that hang just under a place, and those beneath it -/
def kids (hs : List Nat) (p : Nat) : List Nat := (List.range' 1 hs.length).filter fun b => decide (up hs b = p)
def below (hs : List Nat) (p : Nat) : List Nat := (List.range' 1 hs.length).filter fun b => decide (p ∈ way hs b)
theorem filter_snoc (g : Nat → Bool) (n : Nat) : (List.range' 1 (n + 1)).filter g = (List.range' 1 n).filter g ++ if g (n + 1) = true then [n + 1] else [] := by
  rw [range_snoc, List.filter_append, Nat.add_comm 1 n]
  congr 1
  by_cases h : g (n + 1) = true
  · rw [if_pos h, List.filter_cons_of_pos h]
    rfl
  · rw [if_neg h, List.filter_cons_of_neg h]
    rfl
theorem filter_len (g : Nat → Bool) (n : Nat) : ((List.range' 1 n).filter g).length ≤ n := by
  refine Nat.le_trans (List.length_filter_le _ _) ?_
  rw [List.length_range']
  exact Nat.le_refl _
theorem wayN_len (hs : List Nat) : ∀ n k, (wayN hs n k).length ≤ n
  | 0, _ => Nat.le_refl _
  | n + 1, k => by
    show (if k = 0 then [] else up hs k :: wayN hs n (up hs k)).length ≤ n + 1
    split
    · exact Nat.zero_le _
    · exact Nat.succ_le_succ (wayN_len hs n _)
theorem wayN_nil (hs : List Nat) : ∀ n, wayN hs n 0 = []
  | 0 => rfl
  | n + 1 => if_pos rfl
theorem wayN_cons (hs : List Nat) (n : Nat) {k : Nat} (h : k ≠ 0) : wayN hs (n + 1) k = up hs k :: wayN hs n (up hs k) := if_neg h
theorem wayN_take (hs : List Nat) : ∀ m j k, (wayN hs m k).take j = wayN hs (min j m) k
  | m, 0, k => by
    rw [Nat.zero_min]
    exact List.take_zero
  | 0, j + 1, k => by
    rw [Nat.min_zero]
    rfl
  | m + 1, j + 1, k => by
    rw [show min (j + 1) (m + 1) = min j m + 1 by omega]
    by_cases h : k = 0
    · rw [h, wayN_nil, wayN_nil, List.take_nil]
    · rw [wayN_cons hs m h, wayN_cons hs _ h, List.take_succ_cons, wayN_take hs m j]
theorem wayN_stop {hs : List Nat} : ∀ {n k m}, upN hs n k = 0 → n ≤ m → wayN hs m k = wayN hs n k
  | 0, k, m, h, _ => by
    have e : k = 0 := h
    rw [e, wayN_nil, wayN_nil]
  | n + 1, k, 0, _, h2 => absurd h2 (by omega)
  | n + 1, k, m + 1, h, h2 => by
    by_cases h0 : k = 0
    · rw [h0, wayN_nil, wayN_nil]
    · rw [wayN_cons hs m h0, wayN_cons hs n h0, wayN_stop (n := n) (k := up hs k) (m := m) h (by omega)]
theorem way_take {hs : List Nat} (t : IsTree hs) {k : Nat} (hk : k ≤ hs.length) (d : Nat) : (way hs k).take d = wayN hs d k := by
  unfold way
  rw [wayN_take]
  by_cases h : d ≤ hs.length
  · rw [Nat.min_eq_left h]
  · rw [Nat.min_eq_right (by omega), wayN_stop (n := hs.length) (m := d) (t.comes k hk) (by omega)]
theorem wayN_le {hs : List Nat} (h : ∀ x ∈ hs, x ≤ hs.length) {n k x : Nat} (hx : x ∈ wayN hs n k) : x ≤ hs.length := by
  obtain ⟨j, _, nz, e⟩ := (way_mem hs x n k).mp hx
  rw [← e, upN_succ]
  exact up_le h _
/-- no place leads to itself -/
theorem no_ring {hs : List Nat} (t : IsTree hs) {k m : Nat} (hk : k ≤ hs.length) (h0 : k ≠ 0) (hm : 1 ≤ m) : upN hs m k ≠ k := by
  intro e
  have go : ∀ i, upN hs (i * m) k = k := fun i => by
    induction i with
    | zero =>
      rw [Nat.zero_mul]
      rfl
    | succ i ih => rw [Nat.add_mul, Nat.one_mul, upN_add, ih, e]
  have h1 := go hs.length
  have h2 : upN hs (hs.length * m) k = 0 := upN_more (t.comes k hk) (Nat.le_mul_of_pos_right _ hm)
  rw [h2] at h1
  exact h0 h1.symm
theorem wayN_at {hs : List Nat} : ∀ {n k i x}, (wayN hs n k)[i]? = some x → i < n ∧ upN hs i k ≠ 0 ∧ upN hs (i + 1) k = x
  | 0, _, _, _, h => by cases h
  | n + 1, k, i, x, h => by
    by_cases h0 : k = 0
    · rw [h0, wayN_nil] at h
      cases h
    · rw [wayN_cons hs n h0] at h
      cases i with
      | zero => exact ⟨by omega, h0, Option.some.inj h⟩
      | succ i =>
        rw [List.getElem?_cons_succ] at h
        obtain ⟨a, b, c⟩ := wayN_at h
        exact ⟨by omega, b, c⟩
theorem wayN_nodup {hs : List Nat} (t : IsTree hs) {n k : Nat} (hk : k ≤ hs.length) : (wayN hs n k).Nodup := by
  have key : ∀ (i j x : Nat), i < j → (wayN hs n k)[i]? = some x → (wayN hs n k)[j]? = some x → False := fun i j x hij h1 h2 => by
    obtain ⟨_, _, e1⟩ := wayN_at h1
    obtain ⟨_, n2, e2⟩ := wayN_at h2
    have nz : x ≠ 0 := fun e => by
      rw [e] at e1
      exact n2 (upN_more e1 (by omega))
    have hx : x ≤ hs.length := by
      rw [← e1]
      exact upN_le t.le _ k hk
    refine no_ring t (m := j - i) hx nz (by omega) ?_
    rw [← e1, ← upN_add, show i + 1 + (j - i) = j + 1 by omega, e1, e2]
  refine List.pairwise_iff_getElem.mpr fun i j hi hj hij e => ?_
  refine key i j _ hij (List.getElem?_eq_getElem hi) ?_
  rw [List.getElem?_eq_getElem hj, e]
/-! levels beneath a place -/
def lev (hs : List Nat) (p : Nat) : Nat → List Nat
  | 0 => [p]
  | i + 1 => (lev hs p i).flatMap (kids hs)
def withUp (hs : List Nat) (bs : List Nat) : List (Nat × Nat) := bs.map fun b => (b, up hs b)
def acc (hs : List Nat) (p : Nat) : Nat → List Nat
  | 0 => []
  | i + 1 => acc hs p i ++ lev hs p (i + 1)
theorem kids_mem {hs : List Nat} {b p : Nat} : b ∈ kids hs p ↔ 1 ≤ b ∧ b ≤ hs.length ∧ up hs b = p := by
  unfold kids
  rw [List.mem_filter, List.mem_range'_1, decide_eq_true_eq]
  omega
theorem kids_nodup (hs : List Nat) (p : Nat) : (kids hs p).Nodup := List.Pairwise.filter _ List.nodup_range'
theorem lev_mem {hs : List Nat} {p : Nat} (t : IsTree hs) (hp : p ≤ hs.length) : ∀ i b, b ∈ lev hs p i ↔ b ≤ hs.length ∧ upN hs i b = p ∧ ∀ j, j < i → upN hs j b ≠ 0
  | 0, b => by
    show b ∈ [p] ↔ _
    rw [List.mem_singleton]
    constructor
    · rintro rfl
      exact ⟨hp, rfl, fun j h => absurd h (by omega)⟩
    · exact fun h => h.2.1
  | i + 1, b => by
    show b ∈ (lev hs p i).flatMap (kids hs) ↔ _
    rw [List.mem_flatMap]
    constructor
    · rintro ⟨a, ha, hb⟩
      obtain ⟨b1, b2, rfl⟩ := kids_mem.mp hb
      obtain ⟨_, e, nz⟩ := (lev_mem t hp i _).mp ha
      refine ⟨b2, e, fun j hj => ?_⟩
      cases j with
      | zero =>
        show b ≠ 0
        omega
      | succ j => exact nz j (by omega)
    · rintro ⟨h1, h2, h3⟩
      have b0 : b ≠ 0 := h3 0 (by omega)
      exact ⟨up hs b, (lev_mem t hp i _).mpr ⟨up_le t.le b, h2, fun j hj => h3 (j + 1) (by omega)⟩, kids_mem.mpr ⟨by omega, h1, rfl⟩⟩
theorem lev_nodup {hs : List Nat} {p : Nat} : ∀ i, (lev hs p i).Nodup
  | 0 => List.pairwise_singleton _ _
  | i + 1 => by
    show ((lev hs p i).flatMap (kids hs)).Nodup
    refine List.pairwise_flatMap.mpr ⟨fun a _ => kids_nodup hs a, (lev_nodup i).imp fun {a b} hab x hx y hy e => hab ?_⟩
    subst e
    exact (kids_mem.mp hx).2.2.symm.trans (kids_mem.mp hy).2.2
theorem acc_mem {hs : List Nat} {p : Nat} (t : IsTree hs) (hp : p ≤ hs.length) : ∀ d b, b ∈ acc hs p d ↔ b ≤ hs.length ∧ p ∈ wayN hs d b
  | 0, b => by
    show b ∈ [] ↔ _ ∧ p ∈ []
    simp
  | d + 1, b => by
    show b ∈ acc hs p d ++ lev hs p (d + 1) ↔ _
    rw [List.mem_append, acc_mem t hp d, lev_mem t hp, way_mem, way_mem]
    constructor
    · rintro (⟨h1, j, h2, h3, h4⟩ | ⟨h1, h2, h3⟩)
      · exact ⟨h1, j, by omega, h3, h4⟩
      · exact ⟨h1, d, by omega, h3 d (by omega), h2⟩
    · rintro ⟨h1, j, h2, h3, h4⟩
      by_cases e : j < d
      · exact .inl ⟨h1, j, e, h3, h4⟩
      · have e2 : j = d := by omega
        subst e2
        exact .inr ⟨h1, h4, fun i hi z => h3 (upN_more z (by omega))⟩
theorem acc_nodup {hs : List Nat} {p : Nat} (t : IsTree hs) (hp : p ≤ hs.length) : ∀ d, (acc hs p d).Nodup
  | 0 => List.Pairwise.nil
  | d + 1 => by
    show (acc hs p d ++ lev hs p (d + 1)).Nodup
    refine List.nodup_append.mpr ⟨acc_nodup t hp d, lev_nodup _, fun x hx y hy e => ?_⟩
    subst e
    obtain ⟨h1, hw⟩ := (acc_mem t hp d x).mp hx
    obtain ⟨j, h2, h3, h4⟩ := (way_mem _ _ _ _).mp hw
    obtain ⟨_, e, nz⟩ := (lev_mem t hp _ x).mp hy
    have p0 : p ≠ 0 := by
      rw [← h4]
      exact nz (j + 1) (by omega)
    refine no_ring t (m := d - j) hp p0 (by omega) ?_
    have e2 : upN hs (d + 1) x = upN hs (d - j) (upN hs (j + 1) x) := by
      rw [← upN_add, show j + 1 + (d - j) = d + 1 by omega]
    rw [h4, e] at e2
    exact e2.symm
/-- the blocks beneath a place by at most so many steps, and the ties of these -/
def near (hs : List Nat) (d p : Nat) : List Nat := (List.range' 1 hs.length).filter fun b => decide (p ∈ wayN hs d b)
def tiesN (hs : List Nat) (d p : Nat) : List (Nat × Nat) := withUp hs (near hs d p)
theorem near_mem {hs : List Nat} {d p b : Nat} : b ∈ near hs d p ↔ b ≤ hs.length ∧ p ∈ wayN hs d b := by
  unfold near
  rw [List.mem_filter, List.mem_range'_1, decide_eq_true_eq]
  constructor
  · rintro ⟨h1, h2⟩
    exact ⟨by omega, h2⟩
  · rintro ⟨h1, h2⟩
    refine ⟨⟨Nat.one_le_iff_ne_zero.mpr fun e => ?_, by omega⟩, h2⟩
    rw [e, wayN_nil] at h2
    cases h2
theorem acc_perm {hs : List Nat} {p : Nat} (t : IsTree hs) (hp : p ≤ hs.length) (d : Nat) : (acc hs p d).Perm (near hs d p) := by
  refine (List.perm_ext_iff_of_nodup (acc_nodup t hp d) (List.Pairwise.filter _ List.nodup_range')).mpr fun b => ?_
  rw [acc_mem t hp]
  exact near_mem.symm
theorem near_len (hs : List Nat) (d p : Nat) : (near hs d p).length ≤ hs.length := filter_len _ _
theorem acc_len {hs : List Nat} {p : Nat} (t : IsTree hs) (hp : p ≤ hs.length) (d : Nat) : (acc hs p d).length ≤ hs.length := by
  rw [(acc_perm t hp d).length_eq]
  exact near_len hs d p
theorem lev_len {hs : List Nat} {p : Nat} (t : IsTree hs) (hp : p ≤ hs.length) (i : Nat) : (lev hs p i).length ≤ hs.length := by
  cases i with
  | zero =>
    show 1 ≤ _
    exact t.pos
  | succ i =>
    have h := acc_len t hp (i + 1)
    have e : acc hs p (i + 1) = acc hs p i ++ lev hs p (i + 1) := rfl
    rw [e, List.length_append] at h
    omega
theorem next_ties (hs : List Nat) (p i : Nat) : ((lev hs p i).flatMap fun a => (kids hs a).map fun b => (b, a)) = withUp hs (lev hs p (i + 1)) := by
  show _ = ((lev hs p i).flatMap (kids hs)).map _
  rw [List.map_flatMap]
  congr 1
  funext a
  refine List.map_congr_left fun b hb => ?_
  rw [(kids_mem.mp hb).2.2]
/-- pairs in order, each first item once -/
def ltPr (x y : Nat × Nat) : Prop := x.1 < y.1 ∨ (x.1 = y.1 ∧ x.2 < y.2)
theorem ties_sorted {hs : List Nat} {p d : Nat} {ys : List (Nat × Nat)} (t : IsTree hs) (hp : p ≤ hs.length) (h1 : ys.Perm (withUp hs (acc hs p d))) (h2 : ys.Pairwise fun x y => ¬ ltPr y x) : ys = tiesN hs d p := by
  refine (h1.trans ((acc_perm t hp d).map _)).eq_of_pairwise (le := fun x y => ¬ ltPr y x) (fun a b _ _ k1 k2 => ?_) h2 ?_
  · unfold ltPr at k1 k2
    refine Prod.ext ?_ ?_ <;> omega
  · show ((near hs d p).map fun b => (b, up hs b)).Pairwise _
    unfold near
    rw [List.pairwise_map]
    refine List.Pairwise.filter _ ((List.pairwise_lt_range' (s := 1) (n := hs.length)).imp fun {a b} hab => ?_)
    unfold ltPr
    show ¬ (b < a ∨ _ ∧ _)
    omega
/-! what is told otherwise -/
def telD (hs gs : List Nat) (u d p : Nat) : Bool := decide (wayN hs u p = wayN gs u p) && decide (tiesN hs d p = tiesN gs d p)
def unlikeN (hs gs : List Nat) (u d : Nat) : List Nat := (List.range (hs.length + 1)).filter fun p => !telD hs gs u d p
theorem telD_iff {hs gs : List Nat} {u d p : Nat} : telD hs gs u d p = true ↔ wayN hs u p = wayN gs u p ∧ tiesN hs d p = tiesN gs d p := by
  unfold telD
  rw [Bool.and_eq_true, decide_eq_true_eq, decide_eq_true_eq]
theorem telD_self (hs : List Nat) (u d p : Nat) : telD hs hs u d p = true := telD_iff.mpr ⟨rfl, rfl⟩
theorem telD_comm (hs gs : List Nat) (u d p : Nat) : telD hs gs u d p = telD gs hs u d p := by
  rw [Bool.eq_iff_iff, telD_iff, telD_iff]
  exact ⟨fun h => ⟨h.1.symm, h.2.symm⟩, fun h => ⟨h.1.symm, h.2.symm⟩⟩
theorem unlike_mem {hs gs : List Nat} {u d p : Nat} : p ∈ unlikeN hs gs u d ↔ p ≤ hs.length ∧ telD hs gs u d p = false := by
  unfold unlikeN
  rw [List.mem_filter, List.mem_range, Bool.not_eq_true', Nat.lt_succ_iff]
theorem unlike_len (hs gs : List Nat) (u d : Nat) : (unlikeN hs gs u d).length ≤ hs.length + 1 := by
  refine Nat.le_trans (List.length_filter_le _ _) ?_
  rw [List.length_range]
  exact Nat.le_refl _
theorem unlike_self (hs : List Nat) (u d : Nat) : unlikeN hs hs u d = [] := by
  refine List.filter_eq_nil_iff.mpr fun p _ h => ?_
  rw [telD_self] at h
  cases h
theorem unlike_comm {hs gs : List Nat} (hl : hs.length = gs.length) (u d : Nat) : unlikeN hs gs u d = unlikeN gs hs u d := by
  unfold unlikeN
  rw [hl]
  refine List.filter_congr fun p _ => ?_
  rw [telD_comm]
theorem unlike_sorted (hs gs : List Nat) (u d : Nat) : (unlikeN hs gs u d).Pairwise (· < ·) := List.Pairwise.filter _ List.pairwise_lt_range
theorem ties_mem {hs : List Nat} {d p : Nat} {x : Nat × Nat} : x ∈ tiesN hs d p ↔ x.1 ≤ hs.length ∧ p ∈ wayN hs d x.1 ∧ x.2 = up hs x.1 := by
  unfold tiesN withUp
  rw [List.mem_map]
  constructor
  · rintro ⟨b, hb, rfl⟩
    have := near_mem.mp hb
    exact ⟨this.1, this.2, rfl⟩
  · rintro ⟨h1, h2, h3⟩
    exact ⟨x.1, near_mem.mpr ⟨h1, h2⟩, Prod.ext rfl h3.symm⟩
theorem ties_eq {hs gs : List Nat} {d p : Nat} (hl : hs.length = gs.length) : tiesN hs d p = tiesN gs d p ↔ ∀ b, b ≤ hs.length → (p ∈ wayN hs d b ↔ p ∈ wayN gs d b) ∧ (p ∈ wayN hs d b → up hs b = up gs b) := by
  constructor
  · intro e b hb
    have k1 : p ∈ wayN hs d b → p ∈ wayN gs d b ∧ up hs b = up gs b := fun h => by
      have := (ties_mem (x := (b, up hs b))).mpr ⟨hb, h, rfl⟩
      rw [e] at this
      have := ties_mem.mp this
      exact ⟨this.2.1, this.2.2⟩
    have k2 : p ∈ wayN gs d b → p ∈ wayN hs d b := fun h => by
      have := (ties_mem (hs := gs) (x := (b, up gs b))).mpr ⟨by rw [← hl]; exact hb, h, rfl⟩
      rw [← e] at this
      exact (ties_mem.mp this).2.1
    exact ⟨⟨fun h => (k1 h).1, k2⟩, fun h => (k1 h).2⟩
  · intro h
    have en : near hs d p = near gs d p := by
      unfold near
      rw [← hl]
      refine List.filter_congr fun b hb => ?_
      have := List.mem_range'_1.mp hb
      rw [Bool.eq_iff_iff, decide_eq_true_eq, decide_eq_true_eq]
      exact (h b (by omega)).1
    unfold tiesN withUp
    rw [← en]
    refine List.map_congr_left fun b hb => ?_
    have := near_mem.mp hb
    rw [(h b this.1).2 this.2]
/-- a block hung elsewhere -/
theorem moved_seen {hs : List Nat} {b q u d : Nat} (hb : 1 ≤ b) (hb2 : b ≤ hs.length) (hq : up hs b ≠ q) : (0 < u → telD hs (put hs b q) u d b = false) ∧ (0 < d → telD hs (put hs b q) u d (up hs b) = false ∧ telD hs (put hs b q) u d q = false) := by
  have eb : up (put hs b q) b = q := by rw [up_put hb hb2, if_pos rfl]
  have b0 : b ≠ 0 := by omega
  refine ⟨fun hu => ?_, fun hd => ⟨?_, ?_⟩⟩
  · refine Bool.eq_false_iff.mpr fun h => ?_
    have e := (telD_iff.mp h).1
    obtain ⟨u, rfl⟩ : ∃ u', u = u' + 1 := ⟨u - 1, by omega⟩
    rw [wayN_cons _ _ b0, wayN_cons _ _ b0, eb] at e
    exact hq (List.cons.inj e).1
  · refine Bool.eq_false_iff.mpr fun h => ?_
    have e := (telD_iff.mp h).2
    obtain ⟨d, rfl⟩ : ∃ d', d = d' + 1 := ⟨d - 1, by omega⟩
    have := (ties_mem (hs := hs) (d := d + 1) (p := up hs b) (x := (b, up hs b))).mpr ⟨hb2, by rw [wayN_cons _ _ b0]; exact List.mem_cons_self, rfl⟩
    rw [e] at this
    have := (ties_mem.mp this).2.2
    rw [eb] at this
    exact hq this
  · refine Bool.eq_false_iff.mpr fun h => ?_
    have e := (telD_iff.mp h).2
    obtain ⟨d, rfl⟩ : ∃ d', d = d' + 1 := ⟨d - 1, by omega⟩
    have := (ties_mem (hs := put hs b q) (d := d + 1) (p := q) (x := (b, q))).mpr ⟨by rw [put_len]; exact hb2, by rw [wayN_cons _ _ b0, eb]; exact List.mem_cons_self, eb.symm⟩
    rw [← e] at this
    exact hq (ties_mem.mp this).2.2.symm
theorem way_sub {hs : List Nat} {d d' k x : Nat} (h : d ≤ d') (hx : x ∈ wayN hs d k) : x ∈ wayN hs d' k := by
  obtain ⟨j, h1, h2, h3⟩ := (way_mem _ _ _ _).mp hx
  exact (way_mem _ _ _ _).mpr ⟨j, by omega, h2, h3⟩
/-- a greater view tells no less -/
theorem wider {hs gs : List Nat} {u u' d d' p : Nat} (t : IsTree hs) (t' : IsTree gs) (hl : hs.length = gs.length) (hu : u ≤ u') (hd : d ≤ d') (h : telD hs gs u' d' p = true) : telD hs gs u d p = true := by
  obtain ⟨e1, e2⟩ := telD_iff.mp h
  refine telD_iff.mpr ⟨?_, (ties_eq hl).mpr ?_⟩
  · have := congrArg (List.take u) e1
    rwa [wayN_take, wayN_take, Nat.min_eq_left hu] at this
  · have key : ∀ (xs ys : List Nat), IsTree xs → xs.length = ys.length → tiesN xs d' p = tiesN ys d' p → ∀ d, d ≤ d' → ∀ b, b ≤ xs.length → p ∈ wayN xs d b → p ∈ wayN ys d b ∧ up xs b = up ys b := by
      intro xs ys tx el e d
      induction d with
      | zero =>
        intro _ b _ hx
        cases hx
      | succ d ih =>
        intro hd b hb hx
        have b0 : b ≠ 0 := fun z => by
          rw [z, wayN_nil] at hx
          cases hx
        have hu := ((ties_eq el).mp e b hb).2 (way_sub hd hx)
        refine ⟨?_, hu⟩
        rw [wayN_cons _ _ b0] at hx ⊢
        rw [← hu]
        rcases List.mem_cons.mp hx with hx | hx
        · rw [hx]
          exact List.mem_cons_self
        · exact List.mem_cons_of_mem _ (ih (by omega) _ (up_le tx.le b) hx).1
    intro b hb
    have k1 := key hs gs t hl e2 d hd b hb
    have k2 := key gs hs t' hl.symm e2.symm d hd b (by rw [← hl]; exact hb)
    exact ⟨⟨fun h => (k1 h).1, fun h => (k2 h).1⟩, fun h => (k1 h).2⟩
/-! called anew -/
theorem wayN_called {hs ms : List Nat} (t : IsTree hs) (o : IsOrd hs.length ms) : ∀ n k, k ≤ hs.length → wayN (call2 hs ms) n (up ms k) = (wayN hs n k).map (up ms)
  | 0, _, _ => rfl
  | n + 1, k, hk => by
    by_cases h : k = 0
    · rw [h, up_zero, wayN_nil, wayN_nil]
      rfl
    · have r := o.rg (k := k) (by omega) hk
      rw [wayN_cons _ _ h, wayN_cons _ _ (by omega), call2_up o hk, wayN_called t o n _ (up_le t.le k)]
      rfl
theorem map_inj_on {ms : List Nat} {n : Nat} (o : IsOrd n ms) : ∀ {xs ys : List Nat}, (∀ x ∈ xs, x ≤ n) → (∀ y ∈ ys, y ≤ n) → xs.map (up ms) = ys.map (up ms) → xs = ys
  | [], [], _, _, _ => rfl
  | [], _ :: _, _, _, e => by cases e
  | _ :: _, [], _, _, e => by cases e
  | x :: xs, y :: ys, hx, hy, e => by
    rw [List.map_cons, List.map_cons] at e
    obtain ⟨e1, e2⟩ := List.cons.inj e
    rw [o.inj (hx x List.mem_cons_self) (hy y List.mem_cons_self) e1, map_inj_on o (fun z hz => hx z (List.mem_cons_of_mem _ hz)) (fun z hz => hy z (List.mem_cons_of_mem _ hz)) e2]
theorem mem_called {hs ms : List Nat} (t : IsTree hs) (o : IsOrd hs.length ms) {d p b : Nat} (hp : p ≤ hs.length) (hb : b ≤ hs.length) : up ms p ∈ wayN (call2 hs ms) d (up ms b) ↔ p ∈ wayN hs d b := by
  rw [wayN_called t o d b hb, List.mem_map]
  constructor
  · rintro ⟨x, hx, e⟩
    rw [← o.inj (wayN_le t.le hx) hp e]
    exact hx
  · exact fun h => ⟨p, h, rfl⟩
theorem telD_called {hs gs ms : List Nat} (t : IsTree hs) (t' : IsTree gs) (hl : hs.length = gs.length) (o : IsOrd hs.length ms) {u d p : Nat} (hp : p ≤ hs.length) : telD (call2 hs ms) (call2 gs ms) u d (up ms p) = telD hs gs u d p := by
  have o' : IsOrd gs.length ms := by
    rw [← hl]
    exact o
  have hp' : p ≤ gs.length := by rw [← hl]; exact hp
  rw [Bool.eq_iff_iff, telD_iff, telD_iff, ties_eq hl, ties_eq (by rw [call2_len, call2_len, hl]), wayN_called t o u p hp, wayN_called t' o' u p hp', call2_len]
  have e1 : ((wayN hs u p).map (up ms) = (wayN gs u p).map (up ms)) ↔ wayN hs u p = wayN gs u p :=
    ⟨fun e => map_inj_on o (fun x hx => wayN_le t.le hx) (fun x hx => by rw [hl]; exact wayN_le t'.le hx) e, fun e => by rw [e]⟩
  rw [e1]
  refine and_congr_right fun _ => ⟨fun h b hb => ?_, fun h c hc => ?_⟩
  · have := h (up ms b) (o.rg0 hb)
    rw [mem_called t o hp hb, mem_called t' o' hp' (by rw [← hl]; exact hb), call2_up o hb, call2_up o' (by rw [← hl]; exact hb)] at this
    exact ⟨this.1, fun hw => o.inj (up_le t.le b) (by rw [hl]; exact up_le t'.le b) (this.2 hw)⟩
  · obtain ⟨b, hb, rfl⟩ : ∃ b, b ≤ hs.length ∧ up ms b = c := by
      by_cases c0 : c = 0
      · exact ⟨0, by omega, c0.symm⟩
      · obtain ⟨k, _, k2, k3⟩ := o.surj (x := c) (by omega) hc
        exact ⟨k, k2, k3⟩
    rw [mem_called t o hp hb, mem_called t' o' hp' (by rw [← hl]; exact hb), call2_up o hb, call2_up o' (by rw [← hl]; exact hb)]
    have := h b hb
    exact ⟨this.1, fun hw => by rw [this.2 hw]⟩
theorem unlike_called {hs gs ms : List Nat} (t : IsTree hs) (t' : IsTree gs) (hl : hs.length = gs.length) (o : IsOrd hs.length ms) {u d : Nat} : ((unlikeN hs gs u d).map (up ms)).Perm (unlikeN (call2 hs ms) (call2 gs ms) u d) := by
  refine (List.perm_ext_iff_of_nodup ?_ ((unlike_sorted _ _ _ _).imp fun {a b} h => Nat.ne_of_lt h)).mpr fun c => ?_
  · refine List.pairwise_map.mpr ((List.Pairwise.and_mem.mp (unlike_sorted hs gs u d)).imp fun {a b} h e => ?_)
    have := o.inj (unlike_mem.mp h.1).1 (unlike_mem.mp h.2.1).1 e
    have := h.2.2
    omega
  · rw [List.mem_map, unlike_mem, call2_len]
    constructor
    · rintro ⟨p, hp, rfl⟩
      have := unlike_mem.mp hp
      exact ⟨o.rg0 this.1, by rw [telD_called t t' hl o this.1]; exact this.2⟩
    · rintro ⟨h1, h2⟩
      obtain ⟨b, hb, rfl⟩ : ∃ b, b ≤ hs.length ∧ up ms b = c := by
        by_cases c0 : c = 0
        · exact ⟨0, by omega, c0.symm⟩
        · obtain ⟨k, _, k2, k3⟩ := o.surj (x := c) (by omega) h1
          exact ⟨k, k2, k3⟩
      rw [telD_called t t' hl o hb] at h2
      exact ⟨b, unlike_mem.mpr ⟨hb, h2⟩, rfl⟩
end Fv
/-! the first fact, and twins -/
namespace Fv
def dist (u d : Nat) : Nat := (if 0 < d then d + 1 else 0) + if 0 < u then 1 else 0
theorem nodup_sub : ∀ {xs ys : List Nat}, xs.Nodup → (∀ x ∈ xs, x ∈ ys) → xs.length ≤ ys.length
  | [], _, _, _ => Nat.zero_le _
  | x :: xs, ys, hn, h => by
    have hx := h x List.mem_cons_self
    have hn2 := List.nodup_cons.mp hn
    have ih := nodup_sub (xs := xs) (ys := ys.erase x) hn2.2 fun z hz => by
      have hne : z ≠ x := fun e => hn2.1 (by rw [← e]; exact hz)
      exact (List.mem_erase_of_ne hne).mpr (h z (List.mem_cons_of_mem _ hz))
    rw [List.length_erase_of_mem hx] at ih
    have : 0 < ys.length := List.length_pos_of_mem hx
    rw [List.length_cons]
    omega
/-- those above a block that hangs otherwise tell so -/
theorem chain_apart {hs gs : List Nat} {u d b : Nat} (hb : b ≤ hs.length) (b0 : b ≠ 0) (ne : up hs b ≠ up gs b) (h0 : telD hs gs u d 0 = true) : ∀ i, i ≤ d → upN hs i b ≠ 0 ∧ (1 ≤ i → telD hs gs u d (upN hs i b) = false)
  | 0, _ => ⟨b0, fun h => absurd h (by omega)⟩
  | i + 1, hi => by
    have ih := (chain_apart hb b0 ne h0 i (by omega)).1
    have f : telD hs gs u d (upN hs (i + 1) b) = false := by
      refine Bool.eq_false_iff.mpr fun h => ?_
      have e := (telD_iff.mp h).2
      have m := (ties_mem (hs := hs) (d := d) (p := upN hs (i + 1) b) (x := (b, up hs b))).mpr ⟨hb, (way_mem _ _ _ _).mpr ⟨i, by omega, ih, rfl⟩, rfl⟩
      rw [e] at m
      exact ne (ties_mem.mp m).2.2
    refine ⟨fun z => ?_, fun _ => f⟩
    rw [z, h0] at f
    cases f
theorem up_inj_chain {hs : List Nat} (t : IsTree hs) {b i j : Nat} (hb : b ≤ hs.length) (hij : i < j) (nz : upN hs i b ≠ 0) : upN hs i b ≠ upN hs j b := fun e => by
  refine no_ring t (upN_le t.le i b hb) nz (m := j - i) (by omega) ?_
  rw [← upN_add, show i + (j - i) = j by omega]
  exact e.symm
theorem least_block {hs gs : List Nat} (t : IsTree hs) (hl : hs.length = gs.length) (ne : hs ≠ gs) : ∃ b, b ≤ hs.length ∧ b ≠ 0 ∧ up hs b ≠ up gs b ∧ ∀ i, 1 ≤ i → up hs (upN hs i b) = up gs (upN hs i b) := by
  have ex : ∃ b, 1 ≤ b ∧ b ≤ hs.length ∧ up hs b ≠ up gs b := by
    exact Classical.byContradiction fun h => ne (same_ups hl fun k h1 h2 => Classical.byContradiction fun h3 => h ⟨k, h1, h2, h3⟩)
  have go : ∀ j, (∃ b, 1 ≤ b ∧ b ≤ hs.length ∧ up hs b ≠ up gs b ∧ upN hs j b = 0) → ∃ b, b ≤ hs.length ∧ b ≠ 0 ∧ up hs b ≠ up gs b ∧ ∀ i, 1 ≤ i → up hs (upN hs i b) = up gs (upN hs i b) := by
    intro j
    induction j using Nat.strongRecOn with
    | ind j ih =>
      rintro ⟨b, b1, b2, b3, b4⟩
      by_cases h : ∃ i, 1 ≤ i ∧ up hs (upN hs i b) ≠ up gs (upN hs i b)
      · obtain ⟨i, i1, i2⟩ := h
        have nz : upN hs i b ≠ 0 := fun z => i2 (by rw [z]; rfl)
        have hij : i < j := Nat.lt_of_not_le fun hle => nz (upN_more b4 hle)
        refine ih (j - i) (by omega) ⟨upN hs i b, by omega, upN_le t.le i b b2, i2, ?_⟩
        rw [← upN_add, show i + (j - i) = j by omega]
        exact b4
      · exact ⟨b, b2, by omega, b3, fun i h1 => Classical.byContradiction fun h2 => h ⟨i, h1, h2⟩⟩
  obtain ⟨b, b1, b2, b3⟩ := ex
  exact go hs.length ⟨b, b1, b2, b3, t.comes b b2⟩
theorem same_chain {hs gs : List Nat} {x : Nat} (h : ∀ i, up hs (upN hs i x) = up gs (upN hs i x)) : ∀ i, upN gs i x = upN hs i x
  | 0 => rfl
  | i + 1 => by rw [upN_succ, upN_succ, same_chain h i, h i]
theorem first_fact {hs gs : List Nat} {u d : Nat} (t : IsTree hs) (t' : IsTree gs) (hl : hs.length = gs.length) (ne : hs ≠ gs) (h0 : telD hs gs u d 0 = true) : dist u d ≤ (unlikeN hs gs u d).length := by
  obtain ⟨b, hb, b0, hne, hup⟩ := least_block t hl ne
  have hb' : b ≤ gs.length := by rw [← hl]; exact hb
  have A := chain_apart hb b0 hne h0
  have C := chain_apart (hs := gs) (gs := hs) hb' b0 hne.symm (by rw [telD_comm]; exact h0)
  have memA : ∀ i, 1 ≤ i → i ≤ d → upN hs i b ∈ unlikeN hs gs u d := fun i h1 h2 => unlike_mem.mpr ⟨upN_le t.le i b hb, (A i h2).2 h1⟩
  have memC : ∀ i, 1 ≤ i → i ≤ d → upN gs i b ∈ unlikeN hs gs u d := fun i h1 h2 => unlike_mem.mpr ⟨by rw [hl]; exact upN_le t'.le i b hb', by rw [telD_comm]; exact (C i h2).2 h1⟩
  -- those of the ties
  have ties : ∃ L : List Nat, L.Nodup ∧ (∀ x ∈ L, x ∈ unlikeN hs gs u d) ∧ b ∉ L ∧ L.length = if 0 < d then d + 1 else 0 := by
    by_cases hd : 0 < d
    · have nodA : ((List.range d).map fun i => upN hs (i + 1) b).Nodup := by
        refine List.pairwise_map.mpr ((List.Pairwise.and_mem.mp (List.pairwise_lt_range (n := d))).imp fun {i j} h e => ?_)
        obtain ⟨hi, hj, hij⟩ := h
        rw [List.mem_range] at hi hj
        exact up_inj_chain t hb (show i + 1 < j + 1 by omega) (A (i + 1) (by omega)).1 e
      have inA : ∀ x ∈ (List.range d).map fun i => upN hs (i + 1) b, ∃ i, 1 ≤ i ∧ i ≤ d ∧ x = upN hs i b := fun x hx => by
        obtain ⟨i, hi, rfl⟩ := List.mem_map.mp hx
        rw [List.mem_range] at hi
        exact ⟨i + 1, by omega, by omega, rfl⟩
      have bA : ∀ i, 1 ≤ i → i ≤ d + 1 → b ≠ upN hs i b := fun i h1 h2 => up_inj_chain t hb (i := 0) (by omega) b0
      have key : ∃ e, e ∈ unlikeN hs gs u d ∧ e ∉ ((List.range d).map fun i => upN hs (i + 1) b) ∧ b ≠ e := by
        by_cases hc : up gs b ∈ (List.range d).map fun i => upN hs (i + 1) b
        · obtain ⟨j, j1, j2, ej⟩ := inA _ hc
          have j3 : 2 ≤ j := by
            refine Nat.lt_of_not_le fun h => hne ?_
            have : j = 1 := by omega
            subst this
            exact ej.symm
          have hch := same_chain (hs := hs) (gs := gs) (x := upN hs j b) fun i => by
            rw [← upN_add]
            exact hup (j + i) (by omega)
          have ee : upN hs (d + 1) b = upN gs (d + 2 - j) b := by
            have e1 : upN hs (d + 1) b = upN hs (d + 1 - j) (upN hs j b) := by rw [← upN_add, show j + (d + 1 - j) = d + 1 by omega]
            rw [e1, ← hch, ← ej, show d + 2 - j = 1 + (d + 1 - j) by omega, upN_add]
            rfl
          refine ⟨upN hs (d + 1) b, by rw [ee]; exact memC _ (by omega) (by omega), fun hx => ?_, bA (d + 1) (by omega) (by omega)⟩
          obtain ⟨i, i1, i2, ei⟩ := inA _ hx
          exact up_inj_chain t hb (show i < d + 1 by omega) (A i i2).1 ei.symm
        · refine ⟨up gs b, memC 1 (by omega) hd, hc, fun e => ?_⟩
          exact no_ring t' hb' b0 (m := 1) (by omega) e.symm
      obtain ⟨e, e1, e2, e3⟩ := key
      refine ⟨e :: (List.range d).map fun i => upN hs (i + 1) b, List.nodup_cons.mpr ⟨e2, nodA⟩, fun x hx => ?_, fun hx => ?_, ?_⟩
      · rcases List.mem_cons.mp hx with rfl | hx
        · exact e1
        · obtain ⟨i, i1, i2, rfl⟩ := inA x hx
          exact memA i i1 i2
      · rcases List.mem_cons.mp hx with h | hx
        · exact e3 h
        · obtain ⟨i, i1, i2, ei⟩ := inA b hx
          exact bA i i1 (by omega) ei
      · rw [if_pos hd, List.length_cons, List.length_map, List.length_range]
    · exact ⟨[], List.Pairwise.nil, (fun x h => by cases h), (fun h => by cases h), by rw [if_neg hd]; rfl⟩
  obtain ⟨L, l1, l2, l3, l4⟩ := ties
  unfold dist
  rw [← l4]
  by_cases hu : 0 < u
  · rw [if_pos hu]
    have mb : b ∈ unlikeN hs gs u d := by
      refine unlike_mem.mpr ⟨hb, Bool.eq_false_iff.mpr fun h => ?_⟩
      have e := (telD_iff.mp h).1
      obtain ⟨u, rfl⟩ : ∃ u', u = u' + 1 := ⟨u - 1, by omega⟩
      rw [wayN_cons _ _ b0, wayN_cons _ _ b0] at e
      exact hne (List.cons.inj e).1
    have := nodup_sub (xs := b :: L) (ys := unlikeN hs gs u d) (List.nodup_cons.mpr ⟨l3, l1⟩) fun x hx => by
      rcases List.mem_cons.mp hx with rfl | hx
      · exact mb
      · exact l2 x hx
    rwa [List.length_cons] at this
  · rw [if_neg hu]
    exact nodup_sub l1 l2
/-! twins: a row of d + 1, and one block more under its last but one, or its last -/
def twin (n d y : Nat) : List Nat := List.range (d + 1) ++ y :: List.replicate (n - d - 2) 0
theorem twin_len {n d y : Nat} (h : d + 2 ≤ n) : (twin n d y).length = n := by
  unfold twin
  rw [List.length_append, List.length_range, List.length_cons, List.length_replicate]
  omega
theorem twin_up {n d y : Nat} (h : d + 2 ≤ n) (k : Nat) : up (twin n d y) k = if k ≤ d + 1 then k - 1 else if k = d + 2 then y else 0 := by
  by_cases h0 : k = 0
  · subst h0
    rw [if_pos (by omega)]
    rfl
  · unfold up
    rw [if_neg h0, List.getD_eq_getElem?_getD]
    unfold twin
    by_cases h1 : k ≤ d + 1
    · rw [if_pos h1, List.getElem?_append_left (by rw [List.length_range]; omega), List.getElem?_range (by omega)]
      rfl
    · rw [if_neg h1, List.getElem?_append_right (by rw [List.length_range]; omega), List.length_range]
      by_cases h2 : k = d + 2
      · subst h2
        rw [if_pos rfl, show d + 2 - 1 - (d + 1) = 0 by omega]
        rfl
      · rw [if_neg h2, show k - 1 - (d + 1) = (k - d - 3) + 1 by omega, List.getElem?_cons_succ, List.getElem?_replicate]
        split <;> rfl
theorem twin_row {n d y : Nat} (h : d + 2 ≤ n) {k : Nat} (hk : k ≤ d + 1) : ∀ j, upN (twin n d y) j k = k - j
  | 0 => rfl
  | j + 1 => by rw [upN_succ, twin_row h hk j, twin_up h, if_pos (by omega)]; omega
theorem twin_last {n d y : Nat} (h : d + 2 ≤ n) (hy : y ≤ d + 1) (j : Nat) : upN (twin n d y) (j + 1) (d + 2) = y - j := by
  show upN (twin n d y) j (up (twin n d y) (d + 2)) = _
  rw [twin_up h, if_neg (by omega), if_pos rfl, twin_row h hy]
theorem twin_rest {n d y k : Nat} (h : d + 2 ≤ n) (hk : d + 2 < k) : up (twin n d y) k = 0 := by
  rw [twin_up h, if_neg (by omega), if_neg (by omega)]
theorem twin_tree {n d y : Nat} (h : d + 2 ≤ n) (hn : n ≤ 40) (hy : y ≤ d + 1) : IsTree (twin n d y) := by
  have hle : ∀ x ∈ twin n d y, x ≤ (twin n d y).length := fun x hx => by
    rw [twin_len h]
    unfold twin at hx
    rcases List.mem_append.mp hx with hx | hx
    · rw [List.mem_range] at hx
      omega
    · rcases List.mem_cons.mp hx with rfl | hx
      · omega
      · rw [(List.mem_replicate.mp hx).2]
        exact Nat.zero_le _
  refine ⟨by rw [twin_len h]; omega, by rw [twin_len h]; exact hn, hle, fun k hk => ?_⟩
  by_cases h1 : k ≤ d + 1
  · exact comes_by (j := k) hle hk (by rw [twin_row h h1]; omega)
  · by_cases h2 : k = d + 2
    · subst h2
      exact comes_by (j := d + 1 + 1) hle hk (by rw [twin_last h hy]; omega)
    · exact comes_by (j := 1) hle hk (twin_rest h (by omega))
theorem twin_ne {n d : Nat} (h : d + 2 ≤ n) : twin n d d ≠ twin n d (d + 1) := fun e => by
  have a := twin_up (y := d) h (d + 2)
  have b := twin_up (y := d + 1) h (d + 2)
  rw [if_neg (by omega), if_pos rfl] at a b
  rw [e, b] at a
  omega
/-- but the last but one, all hang alike -/
theorem twin_alike {n d k : Nat} (h : d + 2 ≤ n) (hk : k ≠ d + 2) : up (twin n d d) k = up (twin n d (d + 1)) k := by
  rw [twin_up h, twin_up h, if_neg hk, if_neg hk]
theorem twin_up_ne {n d y : Nat} (h : d + 2 ≤ n) (hy : y ≤ d + 1) (k : Nat) : up (twin n d y) k ≠ d + 2 := by
  rw [twin_up h]
  split
  · omega
  · split <;> omega
theorem twin_way {n d : Nat} (h : d + 2 ≤ n) : ∀ m k, k ≠ d + 2 → wayN (twin n d d) m k = wayN (twin n d (d + 1)) m k
  | 0, _, _ => rfl
  | m + 1, k, hk => by
    by_cases h0 : k = 0
    · rw [h0, wayN_nil, wayN_nil]
    · rw [wayN_cons _ _ h0, wayN_cons _ _ h0, ← twin_alike h hk, twin_way h m _ (twin_up_ne h (by omega) k)]
theorem twin_last_way {n d y m p : Nat} (h : d + 2 ≤ n) (hy : y ≤ d + 1) (hm : m ≤ y) : p ∈ wayN (twin n d y) m (d + 2) ↔ p ≤ y ∧ y < p + m := by
  rw [way_mem]
  constructor
  · rintro ⟨j, h1, h2, h3⟩
    rw [twin_last h hy] at h3
    omega
  · rintro ⟨h1, h2⟩
    refine ⟨y - p, by omega, ?_, by rw [twin_last h hy]; omega⟩
    cases e : y - p with
    | zero =>
      show d + 2 ≠ 0
      omega
    | succ j =>
      rw [twin_last h hy]
      omega
theorem twin_tel {n d u p : Nat} (h : d + 2 ≤ n) : telD (twin n d d) (twin n d (d + 1)) u d p = true ↔ ¬ ((0 < d ∧ 1 ≤ p ∧ p ≤ d + 1) ∨ (0 < u ∧ p = d + 2)) := by
  rw [telD_iff, ties_eq (by rw [twin_len h, twin_len h]), twin_len h]
  have up1 : up (twin n d d) (d + 2) = d := by rw [twin_up h, if_neg (by omega), if_pos rfl]
  have up2 : up (twin n d (d + 1)) (d + 2) = d + 1 := by rw [twin_up h, if_neg (by omega), if_pos rfl]
  have w1 := twin_last_way (n := n) (y := d) (m := d) (p := p) h (by omega) (by omega)
  have w2 := twin_last_way (n := n) (y := d + 1) (m := d) (p := p) h (by omega) (by omega)
  constructor
  · rintro ⟨e1, e2⟩ (⟨k1, k2, k3⟩ | ⟨k1, rfl⟩)
    · obtain ⟨f1, f2⟩ := e2 (d + 2) h
      rw [w1, w2] at f1
      rw [w1, up1, up2] at f2
      by_cases hp : p ≤ d
      · have := f2 ⟨hp, by omega⟩
        omega
      · have := f1.mpr ⟨by omega, by omega⟩
        omega
    · obtain ⟨u, rfl⟩ : ∃ u', u = u' + 1 := ⟨u - 1, by omega⟩
      rw [wayN_cons _ _ (by omega), wayN_cons _ _ (by omega), up1, up2] at e1
      have := (List.cons.inj e1).1
      omega
  · intro hn
    refine ⟨?_, fun b hb => ?_⟩
    · by_cases hp : p = d + 2
      · have u0 : u = 0 := by
          refine Nat.eq_zero_of_not_pos fun hu => hn (.inr ⟨hu, hp⟩)
        rw [u0]
        rfl
      · exact twin_way h u p hp
    · by_cases hb2 : b = d + 2
      · subst hb2
        rw [w1, w2]
        have : ¬ (0 < d ∧ 1 ≤ p ∧ p ≤ d + 1) := fun z => hn (.inl z)
        constructor
        · omega
        · intro z
          omega
      · rw [twin_way h d b hb2, twin_alike h hb2]
        exact ⟨Iff.rfl, fun _ => rfl⟩
theorem twin_unlike {n d u : Nat} (h : d + 2 ≤ n) : (unlikeN (twin n d d) (twin n d (d + 1)) u d).length = dist u d := by
  have e : (unlikeN (twin n d d) (twin n d (d + 1)) u d).Perm (List.range' 1 (if 0 < d then d + 1 else 0) ++ if 0 < u then [d + 2] else []) := by
    refine (List.perm_ext_iff_of_nodup ((unlike_sorted _ _ _ _).imp fun {a b} h => Nat.ne_of_lt h) ?_).mpr fun p => ?_
    · refine List.nodup_append.mpr ⟨List.nodup_range', ?_, fun x hx y hy e => ?_⟩
      · split
        · exact List.pairwise_singleton _ _
        · exact List.Pairwise.nil
      · have h1 := List.mem_range'_1.mp hx
        split at hy
        · have h2 := List.mem_singleton.mp hy
          split at h1 <;> omega
        · cases hy
    · rw [unlike_mem, twin_len h, List.mem_append, List.mem_range'_1]
      have k := twin_tel (u := u) (p := p) h
      rw [← Bool.not_eq_true, k, Decidable.not_not]
      by_cases hd : 0 < d
      · by_cases hu : 0 < u
        · rw [if_pos hd, if_pos hu, List.mem_singleton]
          omega
        · rw [if_pos hd, if_neg hu]
          simp only [List.not_mem_nil, or_false]
          omega
      · by_cases hu : 0 < u
        · rw [if_neg hd, if_pos hu, List.mem_singleton]
          omega
        · rw [if_neg hd, if_neg hu]
          simp only [List.not_mem_nil, or_false]
          omega
  rw [e.length_eq, List.length_append, List.length_range']
  unfold dist
  congr 1
  split <;> rfl
theorem twin_head {n d u : Nat} (h : d + 2 ≤ n) : telD (twin n d d) (twin n d (d + 1)) u d 0 = true := (twin_tel h).mpr (by omega)
end Fv
/-! all trees of so many blocks, and all pairs of them -/
namespace Fv
def rowsN (n : Nat) : Nat → List (List Nat)
  | 0 => [[]]
  | b + 1 => (rowsN n b).flatMap fun r => ((List.range (n + 1)).filter fun p => decide (p ≠ b + 1)).map fun p => r ++ [p]
def isT (hs : List Nat) : Bool := (List.range' 1 hs.length).all fun k => decide (upN hs hs.length k = 0)
def allTrees (n : Nat) : List (List Nat) := (rowsN n n).filter isT
theorem rows_mem (n : Nat) : ∀ b (r : List Nat), r ∈ rowsN n b ↔ r.length = b ∧ ∀ (i x : Nat), r[i]? = some x → x ≤ n ∧ x ≠ i + 1
  | 0, r => by
    show r ∈ [[]] ↔ _
    rw [List.mem_singleton]
    constructor
    · rintro rfl
      exact ⟨rfl, fun i x h => by cases h⟩
    · exact fun h => List.eq_nil_of_length_eq_zero h.1
  | b + 1, r => by
    show r ∈ (rowsN n b).flatMap _ ↔ _
    rw [List.mem_flatMap]
    constructor
    · rintro ⟨s, hs, hr⟩
      obtain ⟨p, hp, rfl⟩ := List.mem_map.mp hr
      obtain ⟨l1, l2⟩ := (rows_mem n b s).mp hs
      rw [List.mem_filter, List.mem_range, decide_eq_true_eq] at hp
      refine ⟨by rw [List.length_append, l1]; rfl, fun i x h => ?_⟩
      by_cases hi : i < s.length
      · rw [List.getElem?_append_left hi] at h
        exact l2 i x h
      · have hl := (List.getElem?_eq_some_iff.mp h).1
        rw [List.length_append] at hl
        have hl : i < s.length + 1 := hl
        have e : i = s.length := by omega
        subst e
        rw [List.getElem?_append_right (Nat.le_refl _), Nat.sub_self] at h
        have e2 : p = x := Option.some.inj h
        subst e2
        rw [l1]
        exact ⟨by omega, hp.2⟩
    · rintro ⟨l1, l2⟩
      have hne : r ≠ [] := fun e => by
        rw [e] at l1
        cases l1
      have hd := List.dropLast_concat_getLast hne
      have ll : r.dropLast.length = b := by rw [List.length_dropLast, l1]; rfl
      have hlast : r[b]? = some (r.getLast hne) := by
        rw [List.getLast_eq_getElem, ← List.getElem?_eq_getElem]
        congr 1
        omega
      refine ⟨r.dropLast, (rows_mem n b _).mpr ⟨ll, fun i x h => ?_⟩, List.mem_map.mpr ⟨r.getLast hne, ?_, hd⟩⟩
      · have hi := (List.getElem?_eq_some_iff.mp h).1
        refine l2 i x ?_
        rw [← hd, List.getElem?_append_left hi]
        exact h
      · rw [List.mem_filter, List.mem_range, decide_eq_true_eq]
        have := l2 b _ hlast
        exact ⟨by omega, this.2⟩
theorem rows_nodup (n : Nat) : ∀ b, (rowsN n b).Nodup
  | 0 => List.pairwise_singleton _ _
  | b + 1 => by
    show ((rowsN n b).flatMap _).Nodup
    refine List.pairwise_flatMap.mpr ⟨fun r _ => ?_, (rows_nodup n b).imp fun {r s} hrs x hx y hy e => hrs ?_⟩
    · refine List.pairwise_map.mpr ((List.Pairwise.filter _ (List.nodup_range (n := n + 1))).imp fun {p q} hpq e => hpq ?_)
      have := List.append_cancel_left e
      exact (List.cons.inj this).1
    · obtain ⟨p, _, rfl⟩ := List.mem_map.mp hx
      obtain ⟨q, _, rfl⟩ := List.mem_map.mp hy
      exact (List.append_inj' e rfl).1
theorem rows_len (n : Nat) : ∀ b, (rowsN n b).length ≤ (n + 1) ^ b
  | 0 => Nat.le_refl _
  | b + 1 => by
    show ((rowsN n b).flatMap _).length ≤ _
    rw [List.length_flatMap]
    have h : ∀ m : List (List Nat), (m.map fun r => (((List.range (n + 1)).filter fun p => decide (p ≠ b + 1)).map fun p => r ++ [p]).length).sum ≤ m.length * (n + 1) := fun m => by
      induction m with
      | nil => exact Nat.zero_le _
      | cons r m ih =>
        rw [List.map_cons, List.sum_cons, List.length_map, List.length_cons, Nat.add_mul, Nat.one_mul]
        have := List.length_filter_le (fun p => decide (p ≠ b + 1)) (List.range (n + 1))
        rw [List.length_range] at this
        omega
    refine Nat.le_trans (h _) ?_
    rw [Nat.pow_succ]
    exact Nat.mul_le_mul_right _ (rows_len n b)
theorem all_mem {n : Nat} (h1 : 1 ≤ n) (h2 : n ≤ 40) {hs : List Nat} : hs ∈ allTrees n ↔ hs.length = n ∧ IsTree hs := by
  unfold allTrees
  rw [List.mem_filter, rows_mem]
  unfold isT
  rw [List.all_eq_true]
  constructor
  · rintro ⟨⟨l1, l2⟩, c⟩
    have hle : ∀ x ∈ hs, x ≤ hs.length := fun x hx => by
      obtain ⟨i, hi, e⟩ := List.getElem_of_mem hx
      rw [l1]
      exact (l2 i x (by rw [List.getElem?_eq_getElem hi, e])).1
    refine ⟨l1, by omega, by omega, hle, fun k hk => ?_⟩
    by_cases h0 : k = 0
    · rw [h0]
      exact upN_zero hs _
    · exact of_decide_eq_true (c k (List.mem_range'_1.mpr (by omega)))
  · rintro ⟨l1, t⟩
    refine ⟨⟨l1, fun i x hx => ⟨?_, fun e => ?_⟩⟩, fun k hk => decide_eq_true (t.comes k (by have := List.mem_range'_1.mp hk; omega))⟩
    · rw [← l1]
      exact t.le x (List.mem_of_getElem? hx)
    · have hi := (List.getElem?_eq_some_iff.mp hx).1
      refine no_ring t (k := i + 1) (m := 1) (by omega) (by omega) (by omega) ?_
      show up hs (i + 1) = i + 1
      rw [up_at (by omega) (by rw [Nat.add_sub_cancel]; exact hx), e]
theorem all_nodup (n : Nat) : (allTrees n).Nodup := List.Pairwise.filter _ (rows_nodup n n)
theorem all_len (n : Nat) : (allTrees n).length ≤ (n + 1) ^ n := Nat.le_trans (List.length_filter_le _ _) (rows_len n n)
/-- how many tell otherwise, for all pairs whose heads tell alike -/
def foundI (T : List (List Nat)) (u d i : Nat) : List Nat := ((List.range i).filter fun j => telD (T.getD j []) (T.getD i []) u d 0).map fun j => (unlikeN (T.getD i []) (T.getD j []) u d).length
def foundN (T : List (List Nat)) (u d i : Nat) : List Nat := (List.range i).flatMap fun k => foundI T u d k
theorem foundN_succ (T : List (List Nat)) (u d i : Nat) : foundN T u d (i + 1) = foundN T u d i ++ foundI T u d i := by
  unfold foundN
  rw [List.range_succ, List.flatMap_append]
  simp
theorem foundI_len (T : List (List Nat)) (u d i : Nat) : (foundI T u d i).length ≤ i := by
  unfold foundI
  rw [List.length_map]
  refine Nat.le_trans (List.length_filter_le _ _) ?_
  rw [List.length_range]
  exact Nat.le_refl _
theorem foundN_len (T : List (List Nat)) (u d : Nat) : ∀ i, (foundN T u d i).length ≤ i * i
  | 0 => Nat.le_refl _
  | i + 1 => by
    rw [foundN_succ, List.length_append]
    have := foundN_len T u d i
    have := foundI_len T u d i
    have e : (i + 1) * (i + 1) = i * i + i + i + 1 := by rw [Nat.add_mul, Nat.mul_add]; omega
    omega
theorem found_mem {T : List (List Nat)} {u d m x : Nat} : x ∈ foundN T u d m ↔ ∃ i j, j < i ∧ i < m ∧ telD (T.getD j []) (T.getD i []) u d 0 = true ∧ x = (unlikeN (T.getD i []) (T.getD j []) u d).length := by
  unfold foundN foundI
  rw [List.mem_flatMap]
  constructor
  · rintro ⟨i, hi, hx⟩
    obtain ⟨j, hj, rfl⟩ := List.mem_map.mp hx
    rw [List.mem_filter, List.mem_range] at hj
    exact ⟨i, j, hj.1, List.mem_range.mp hi, hj.2, rfl⟩
  · rintro ⟨i, j, h1, h2, h3, rfl⟩
    exact ⟨i, List.mem_range.mpr h2, List.mem_map.mpr ⟨j, List.mem_filter.mpr ⟨List.mem_range.mpr h1, h3⟩, rfl⟩⟩
theorem getD_mem {T : List (List Nat)} {i : Nat} (h : i < T.length) : T.getD i [] ∈ T := by
  rw [List.getD_eq_getElem?_getD, List.getElem?_eq_getElem h]
  exact List.getElem_mem h
theorem found_least {n u d x : Nat} (h1 : 1 ≤ n) (h2 : n ≤ 40) (hx : x ∈ foundN (allTrees n) u d (allTrees n).length) : dist u d ≤ x := by
  obtain ⟨i, j, hij, hi, ht, rfl⟩ := found_mem.mp hx
  have mi := (all_mem h1 h2).mp (getD_mem hi)
  have mj := (all_mem h1 h2).mp (getD_mem (show j < (allTrees n).length by omega))
  refine first_fact mi.2 mj.2 (by rw [mi.1, mj.1]) (fun e => ?_) (by rw [telD_comm]; exact ht)
  rw [List.getD_eq_getElem?_getD, List.getD_eq_getElem?_getD, List.getElem?_eq_getElem hi, List.getElem?_eq_getElem (show j < (allTrees n).length by omega)] at e
  have := (List.getElem_inj (h₀ := hi) (h₁ := show j < (allTrees n).length by omega) (all_nodup n)).mp e
  omega
theorem found_twins {n u d : Nat} (h2 : n ≤ 40) (h : d + 2 ≤ n) : dist u d ∈ foundN (allTrees n) u d (allTrees n).length := by
  have h1 : 1 ≤ n := by omega
  have ma := (all_mem h1 h2).mpr ⟨twin_len (y := d) h, twin_tree h h2 (by omega)⟩
  have mb := (all_mem h1 h2).mpr ⟨twin_len (y := d + 1) h, twin_tree h h2 (by omega)⟩
  obtain ⟨a, ha, ea⟩ := List.getElem_of_mem ma
  obtain ⟨b, hb, eb⟩ := List.getElem_of_mem mb
  have ga : (allTrees n).getD a [] = twin n d d := by
    rw [List.getD_eq_getElem?_getD, List.getElem?_eq_getElem ha]
    exact ea
  have gb : (allTrees n).getD b [] = twin n d (d + 1) := by
    rw [List.getD_eq_getElem?_getD, List.getElem?_eq_getElem hb]
    exact eb
  rcases Nat.lt_trichotomy a b with hab | hab | hab
  · refine found_mem.mpr ⟨b, a, hab, hb, by rw [ga, gb]; exact twin_head h, ?_⟩
    rw [ga, gb, unlike_comm (by rw [twin_len h, twin_len h]), twin_unlike h]
  · subst hab
    rw [ga] at gb
    exact (twin_ne h gb).elim
  · refine found_mem.mpr ⟨a, b, hab, ha, by rw [ga, gb, telD_comm]; exact twin_head h, ?_⟩
    rw [ga, gb, twin_unlike h]
end Fv
/-! words of places; nothing of the program here -/
namespace Fv
/-- the words of n blocks -/
structure WdOk (n : Nat) (us : List (Option Nat)) (ls : List (List (Option Bool))) : Prop where
  n1 : 1 ≤ n
  n2 : n ≤ 40
  ul : us.length = n
  uo : ∀ b q, us[b]? = some (some q) → q ≤ n ∧ q ≠ b + 1
  ll : ls.length = n + 1
  rl : ∀ r ∈ ls, r.length = n
  dg : ∀ p r, ls[p]? = some r → 1 ≤ p → r[p - 1]? = some (some false)
def up1 (us : List (Option Nat)) (b p : Nat) : Nat := match us[b - 1]? with
  | some (some q) => if q = p then 0 else 1
  | _ => 0
/-- what the places say of this block -/
def col (ls : List (List (Option Bool))) (b : Nat) : List (Option Bool) := ls.map fun r => (r[b - 1]?).getD none
def wr1 (o p : Nat) : Option Bool → Nat
  | none => 0
  | some f => if f = decide (o = p) then 0 else 1
def sumW (p : Nat) : Nat → List (Option Bool) → Nat
  | _, [] => 0
  | o, f :: r => wr1 o p f + sumW p (o + 1) r
def costN (us : List (Option Nat)) (ls : List (List (Option Bool))) (b p : Nat) : Nat := up1 us b p + sumW p 0 (col ls b)
def trueN (c : List (Option Bool)) : Nat := c.count (some true)
theorem sumW_off (p : Nat) : ∀ (o : Nat) (c : List (Option Bool)), p < o → sumW p o c = trueN c
  | _, [], _ => rfl
  | o, f :: r, h => by
    have ih := sumW_off p (o + 1) r (by omega)
    have e : decide (o = p) = false := decide_eq_false (by omega)
    unfold sumW trueN
    rw [ih, List.count_cons]
    unfold trueN
    cases f with
    | none => simp [wr1]
    | some b => cases b <;> simp [wr1, e] <;> omega
theorem sumW_at (p : Nat) : ∀ (o : Nat) (c : List (Option Bool)), o ≤ p → p < o + c.length → sumW p o c + (if c[p - o]? = some (some true) then 1 else 0) = trueN c + (if c[p - o]? = some (some false) then 1 else 0)
  | o, [], h1, h2 => by
    rw [List.length_nil] at h2
    omega
  | o, f :: r, h1, h2 => by
    rw [List.length_cons] at h2
    by_cases e : o = p
    · subst e
      have ih := sumW_off o (o + 1) r (by omega)
      rw [Nat.sub_self]
      unfold sumW
      rw [ih]
      unfold trueN
      rw [List.count_cons]
      cases f with
      | none => simp [wr1]
      | some b => cases b <;> simp [wr1] <;> omega
    · have ih := sumW_at p (o + 1) r (by omega) (by omega)
      have e1 : p - o = (p - (o + 1)) + 1 := by omega
      rw [e1, List.getElem?_cons_succ]
      unfold sumW
      have e2 : trueN (f :: r) = trueN r + (if f = some true then 1 else 0) := by
        unfold trueN
        rw [List.count_cons]
        congr 1
        cases f with
        | none => rfl
        | some b => cases b <;> rfl
      have e3 : wr1 o p f = (if f = some true then 1 else 0) := by
        have e : decide (o = p) = false := decide_eq_false e
        cases f with
        | none => simp [wr1]
        | some b => cases b <;> simp [wr1, e]
      omega
theorem sumW_app (p : Nat) : ∀ (o : Nat) (c d : List (Option Bool)), sumW p o (c ++ d) = sumW p o c + sumW p (o + c.length) d
  | o, [], d => by simp [sumW]
  | o, f :: r, d => by
    have ih := sumW_app p (o + 1) r d
    show wr1 o p f + sumW p (o + 1) (r ++ d) = wr1 o p f + sumW p (o + 1) r + _
    rw [ih, List.length_cons, show o + 1 + r.length = o + (r.length + 1) by omega]
    omega
theorem wr1_le (o p : Nat) (f : Option Bool) : wr1 o p f ≤ 1 := by
  unfold wr1
  split
  · omega
  · split <;> omega
theorem sumW_le (p : Nat) : ∀ (o : Nat) (c : List (Option Bool)), sumW p o c ≤ c.length
  | _, [] => Nat.le_refl _
  | o, f :: r => by
    have ih := sumW_le p (o + 1) r
    have := wr1_le o p f
    unfold sumW
    rw [List.length_cons]
    omega
theorem up1_le (us : List (Option Nat)) (b p : Nat) : up1 us b p ≤ 1 := by
  unfold up1
  split
  · split <;> omega
  · omega
theorem col_len (ls : List (List (Option Bool))) (b : Nat) : (col ls b).length = ls.length := by
  unfold col
  rw [List.length_map]
theorem costN_le (us : List (Option Nat)) (ls : List (List (Option Bool))) (b p : Nat) : costN us ls b p ≤ ls.length + 1 := by
  have := up1_le us b p
  have := sumW_le p 0 (col ls b)
  rw [col_len] at this
  unfold costN
  omega
/-- what the program reckons -/
theorem cost_is {us : List (Option Nat)} {ls : List (List (Option Bool))} {b p : Nat} (hp : p < ls.length) : costN us ls b p + (if (col ls b)[p]? = some (some true) then 1 else 0) = trueN (col ls b) + (if (col ls b)[p]? = some (some false) then 1 else 0) + up1 us b p := by
  have := sumW_at p 0 (col ls b) (by omega) (by rw [col_len]; omega)
  rw [Nat.sub_zero] at this
  unfold costN
  omega
/-- a tree's right words -/
def rightL (hs : List Nat) : List (List (Option Bool)) := (List.range (hs.length + 1)).map fun p => hs.map fun h => some (decide (h = p))
def rightU (hs : List Nat) : List (Option Nat) := hs.map some
theorem rightL_len (hs : List Nat) : (rightL hs).length = hs.length + 1 := by
  unfold rightL
  rw [List.length_map, List.length_range]
theorem rightL_get {hs : List Nat} {p : Nat} (h : p ≤ hs.length) : (rightL hs)[p]? = some (hs.map fun h => some (decide (h = p))) := by
  unfold rightL
  rw [List.getElem?_map, List.getElem?_range (by omega)]
  rfl
theorem right_ok {hs : List Nat} (t : IsTree hs) : WdOk hs.length (rightU hs) (rightL hs) where
  n1 := t.pos
  n2 := t.most
  ul := by
    unfold rightU
    rw [List.length_map]
  uo := fun b q h => by
    unfold rightU at h
    rw [List.getElem?_map] at h
    cases e : hs[b]? with
    | none =>
      rw [e] at h
      cases h
    | some c =>
      rw [e] at h
      have : c = q := Option.some.inj (Option.some.inj h)
      subst this
      refine ⟨t.le c (List.mem_of_getElem? e), fun z => ?_⟩
      subst z
      have hb := (List.getElem?_eq_some_iff.mp e).1
      have eu : up hs (b + 1) = b + 1 := by
        unfold up
        rw [if_neg (by omega), List.getD_eq_getElem?_getD, Nat.add_sub_cancel, e]
        rfl
      have : ∀ j, upN hs j (b + 1) = b + 1 := fun j => by
        induction j with
        | zero => rfl
        | succ j ih =>
          show upN hs j (up hs (b + 1)) = b + 1
          rw [eu, ih]
      have h2 := t.comes (b + 1) (by omega)
      rw [this] at h2
      omega
  ll := rightL_len hs
  rl := fun r hr => by
    unfold rightL at hr
    obtain ⟨p, _, rfl⟩ := List.mem_map.mp hr
    rw [List.length_map]
  dg := fun p r h h1 => by
    have hp := (List.getElem?_eq_some_iff.mp h).1
    rw [rightL_len] at hp
    rw [rightL_get (by omega)] at h
    cases h
    have hb : p - 1 < hs.length := by omega
    rw [List.getElem?_map, List.getElem?_eq_getElem hb]
    show some (some _) = _
    congr 2
    refine decide_eq_false fun z => ?_
    have eu : up hs p = p := by
      unfold up
      rw [if_neg (by omega), List.getD_eq_getElem?_getD, List.getElem?_eq_getElem hb]
      exact z
    have : ∀ j, upN hs j p = p := fun j => by
      induction j with
      | zero => rfl
      | succ j ih =>
        show upN hs j (up hs p) = p
        rw [eu, ih]
    have h2 := t.comes p (by omega)
    rw [this] at h2
    omega
theorem right_col {hs : List Nat} {b : Nat} (b1 : 1 ≤ b) (b2 : b ≤ hs.length) : col (rightL hs) b = (List.range (hs.length + 1)).map fun p => some (decide (up hs b = p)) := by
  unfold col rightL
  rw [List.map_map]
  refine List.map_congr_left fun p _ => ?_
  show (((hs.map fun h => some (decide (h = p)))[b - 1]?).getD none) = _
  have hb : b - 1 < hs.length := by omega
  rw [List.getElem?_map, List.getElem?_eq_getElem hb]
  show some (decide (hs[b - 1] = p)) = _
  have : up hs b = hs[b - 1] := by
    unfold up
    rw [if_neg (by omega), List.getD_eq_getElem?_getD, List.getElem?_eq_getElem hb]
    rfl
  rw [this]
theorem sumW_range (u p : Nat) : ∀ (k o : Nat), sumW p o ((List.range' o k).map fun q => some (decide (u = q))) = if u = p then 0 else (if o ≤ u ∧ u < o + k then 1 else 0) + (if o ≤ p ∧ p < o + k then 1 else 0)
  | 0, o => by
    have h1 : ¬ (o ≤ u ∧ u < o + 0) := by omega
    have h2 : ¬ (o ≤ p ∧ p < o + 0) := by omega
    rw [if_neg h1, if_neg h2]
    simp [sumW]
  | k + 1, o => by
    have ih := sumW_range u p k (o + 1)
    rw [List.range'_succ, List.map_cons]
    unfold sumW
    rw [ih]
    by_cases e : u = p
    · subst e
      have : wr1 o u (some (decide (u = o))) = 0 := by
        unfold wr1
        have : decide (u = o) = decide (o = u) := by
          rw [decide_eq_decide]
          exact eq_comm
        exact if_pos this
      rw [this, if_pos rfl, if_pos rfl]
    · rw [if_neg e, if_neg e]
      by_cases e1 : u = o
      · have e2 : ¬ o = p := by omega
        have : wr1 o p (some (decide (u = o))) = 1 := by
          unfold wr1
          rw [decide_eq_true e1, decide_eq_false e2]
          rfl
        rw [this, if_neg (c := o + 1 ≤ u ∧ u < o + 1 + k) (by omega), if_pos (c := o ≤ u ∧ u < o + (k + 1)) (by omega)]
        by_cases e3 : o + 1 ≤ p ∧ p < o + 1 + k
        · rw [if_pos e3, if_pos (by omega)]
        · rw [if_neg e3, if_neg (by omega)]
      · by_cases e2 : o = p
        · have : wr1 o p (some (decide (u = o))) = 1 := by
            unfold wr1
            rw [decide_eq_false e1, decide_eq_true e2]
            rfl
          rw [this, if_neg (c := o + 1 ≤ p ∧ p < o + 1 + k) (by omega), if_pos (c := o ≤ p ∧ p < o + (k + 1)) (by omega)]
          by_cases e3 : o + 1 ≤ u ∧ u < o + 1 + k
          · rw [if_pos e3, if_pos (by omega)]
          · rw [if_neg e3, if_neg (by omega)]
        · have : wr1 o p (some (decide (u = o))) = 0 := by
            unfold wr1
            rw [decide_eq_false e1, decide_eq_false e2]
            rfl
          rw [this]
          by_cases e3 : o + 1 ≤ u ∧ u < o + 1 + k
          · rw [if_pos e3, if_pos (c := o ≤ u ∧ u < o + (k + 1)) (by omega)]
            by_cases e4 : o + 1 ≤ p ∧ p < o + 1 + k
            · rw [if_pos e4, if_pos (by omega)]
            · rw [if_neg e4, if_neg (by omega)]
          · rw [if_neg e3, if_neg (c := o ≤ u ∧ u < o + (k + 1)) (by omega)]
            by_cases e4 : o + 1 ≤ p ∧ p < o + 1 + k
            · rw [if_pos e4, if_pos (by omega)]
            · rw [if_neg e4, if_neg (by omega)]
/-- three words are wrong, or none -/
theorem right_cost {hs : List Nat} (t : IsTree hs) {b p : Nat} (b1 : 1 ≤ b) (b2 : b ≤ hs.length) (hp : p ≤ hs.length) : costN (rightU hs) (rightL hs) b p = if up hs b = p then 0 else 3 := by
  unfold costN
  have hb : b - 1 < hs.length := by omega
  have eu : up hs b = hs[b - 1] := by
    unfold up
    rw [if_neg (by omega), List.getD_eq_getElem?_getD, List.getElem?_eq_getElem hb]
    rfl
  have hu : up hs b ≤ hs.length := by
    rw [eu]
    exact t.le _ (List.getElem_mem hb)
  have e1 : up1 (rightU hs) b p = if up hs b = p then 0 else 1 := by
    unfold up1 rightU
    rw [List.getElem?_map, List.getElem?_eq_getElem hb, eu]
    rfl
  rw [e1, right_col b1 b2, List.range_eq_range', sumW_range]
  by_cases e : up hs b = p
  · rw [if_pos e, if_pos e, if_pos e]
  · rw [if_neg e, if_neg e, if_neg e, if_pos ⟨by omega, by omega⟩, if_pos ⟨by omega, by omega⟩]
/-- all blocks' costs -/
def wrongN (us : List (Option Nat)) (ls : List (List (Option Bool))) : Nat → List Nat → Nat
  | _, [] => 0
  | b, p :: r => costN us ls b p + wrongN us ls (b + 1) r
theorem wrongN_snoc (us : List (Option Nat)) (ls : List (List (Option Bool))) : ∀ (b : Nat) (hs : List Nat) (p : Nat), wrongN us ls b (hs ++ [p]) = wrongN us ls b hs + costN us ls (b + hs.length) p
  | b, [], p => by simp [wrongN]
  | b, h :: r, p => by
    have ih := wrongN_snoc us ls (b + 1) r p
    rw [List.cons_append]
    unfold wrongN
    rw [ih, List.length_cons, show b + 1 + r.length = b + (r.length + 1) by omega]
    omega
theorem wrongN_set (us : List (Option Nat)) (ls : List (List (Option Bool))) : ∀ (hs : List Nat) (b i p : Nat), i < hs.length → wrongN us ls b (hs.set i p) + costN us ls (b + i) (hs.getD i 0) = wrongN us ls b hs + costN us ls (b + i) p
  | [], b, i, p, h => absurd h (Nat.not_lt_zero _)
  | x :: r, b, 0, p, _ => by
    simp only [List.set_cons_zero, wrongN, Nat.add_zero, List.getD_cons_zero]
    omega
  | x :: r, b, i + 1, p, h => by
    have ih := wrongN_set us ls r (b + 1) i p (by rw [List.length_cons] at h; omega)
    simp only [List.set_cons_succ, wrongN, List.getD_cons_succ]
    rw [show b + (i + 1) = b + 1 + i by omega]
    omega
/-- blocks that hang elsewhere -/
def apartN : List Nat → List Nat → Nat
  | a :: r, b :: s => (if a = b then 0 else 1) + apartN r s
  | _, _ => 0
theorem right_wrong {hs : List Nat} (t : IsTree hs) : ∀ (gs : List Nat) (b : Nat), 1 ≤ b → b - 1 + gs.length ≤ hs.length → (∀ g ∈ gs, g ≤ hs.length) → wrongN (rightU hs) (rightL hs) b gs = 3 * apartN (hs.drop (b - 1)) gs
  | [], b, _, _, _ => by
    unfold wrongN
    cases hs.drop (b - 1) <;> rfl
  | g :: r, b, b1, h, hg => by
    rw [List.length_cons] at h
    have hb : b - 1 < hs.length := by omega
    have ih := right_wrong t r (b + 1) (by omega) (by omega) fun x hx => hg x (List.mem_cons_of_mem _ hx)
    have eu : up hs b = hs[b - 1] := by
      unfold up
      rw [if_neg (by omega), List.getD_eq_getElem?_getD, List.getElem?_eq_getElem hb]
      rfl
    unfold wrongN
    rw [ih, right_cost t b1 (by omega) (hg g List.mem_cons_self), List.drop_eq_getElem_cons hb, show b + 1 - 1 = b - 1 + 1 by omega]
    show _ = 3 * ((if hs[b - 1] = g then 0 else 1) + apartN (hs.drop (b - 1 + 1)) r)
    rw [eu]
    by_cases e : hs[b - 1] = g
    · rw [if_pos e, if_pos e]
      omega
    · rw [if_neg e, if_neg e]
      omega
theorem apartN_self : ∀ hs : List Nat, apartN hs hs = 0
  | [] => rfl
  | a :: r => by
    unfold apartN
    rw [if_pos rfl, apartN_self r]
theorem wrongN_le (us : List (Option Nat)) (ls : List (List (Option Bool))) : ∀ (b : Nat) (hs : List Nat), wrongN us ls b hs ≤ hs.length * (ls.length + 1)
  | b, [] => by simp [wrongN]
  | b, h :: r => by
    have ih := wrongN_le us ls (b + 1) r
    have := costN_le us ls b h
    unfold wrongN
    rw [List.length_cons, Nat.succ_mul]
    omega
end Fv
set_option maxRecDepth 100000
set_option maxHeartbeats 1000000
namespace Fv
open PySem PySem.Spec PyProof.Rows L2
/-! comprehensions with two for -/
theorem lc2_list {K : PySem.W.Frag} {a : Addr} {xs : List V} {g : TG} {tt : TT} {vs : List Nat} {σ : L2.St} {H0 : Hp} {Qd : Hp → Prop} {Bd : L2.St → Hp → (Hp → Prop) → Prop} (Pv : Nat → Hp → Prop) (h0 : Pv 0 H0) (hl : ∀ i H, i ≤ xs.length → Pv i H → SqL K H a xs)
    (hs : ∀ i x H, xs[i]? = some x → Pv i H → g x (wipe σ vs) H fun σ2 H2 => wipe σ2 vs = wipe σ vs ∧ tt σ2 H2 fun b H3 => if b = true then Bd σ2 H3 (Pv (i + 1)) else Pv (i + 1) H3) (hd : ∀ H, Pv xs.length H → Qd H) :
    ∃ W : Nat → Nat → Hp → Prop, (∃ m, W 0 m H0) ∧ ∀ i m H, W i m H →
      ((Itl K a).stop i H ∧ Qd H) ∨ ((Itl K a).go i H ∧ ∃ Nx : Hp → Prop, (∀ H', Nx H' → ∃ m', m' < m ∧ W (i + 1) m' H') ∧ ∀ x H', (Itl K a).yld i H x H' → g x (wipe σ vs) H' fun σ2 H2 => wipe σ2 vs = wipe σ vs ∧ tt σ2 H2 fun b H3 =>
        if b = true then Bd σ2 H3 Nx else Nx H3) := by
  refine ⟨fun i m H => m = xs.length - i ∧ i ≤ xs.length ∧ Pv i H, ⟨xs.length, by simp, Nat.zero_le _, h0⟩, ?_⟩
  rintro i m H ⟨rfl, hi, p⟩
  have q := hl i H hi p
  by_cases hlt : i < xs.length
  · refine .inr ⟨⟨xs, xs[i], q, by simp [hlt]⟩, Pv (i + 1), fun H' p' => ⟨xs.length - (i + 1), by omega, rfl, hlt, p'⟩, fun x H' y => ?_⟩
    obtain ⟨e, y⟩ := y
    subst e
    exact hs i x _ (y xs q) p
  · have e : i = xs.length := by omega
    subst e
    exact .inl ⟨⟨xs, q, Nat.le_refl _⟩, hd H p⟩
theorem lc2_tup {K : PySem.W.Frag} {a : Addr} {xs : List V} {g : TG} {tt : TT} {vs : List Nat} {σ : L2.St} {H0 : Hp} {Qd : Hp → Prop} {Bd : L2.St → Hp → (Hp → Prop) → Prop} (Pv : Nat → Hp → Prop) (h0 : Pv 0 H0) (hl : ∀ i H, i ≤ xs.length → Pv i H → SqT K H a xs)
    (hs : ∀ i x H, xs[i]? = some x → Pv i H → g x (wipe σ vs) H fun σ2 H2 => wipe σ2 vs = wipe σ vs ∧ tt σ2 H2 fun b H3 => if b = true then Bd σ2 H3 (Pv (i + 1)) else Pv (i + 1) H3) (hd : ∀ H, Pv xs.length H → Qd H) :
    ∃ W : Nat → Nat → Hp → Prop, (∃ m, W 0 m H0) ∧ ∀ i m H, W i m H →
      ((Itt K a).stop i H ∧ Qd H) ∨ ((Itt K a).go i H ∧ ∃ Nx : Hp → Prop, (∀ H', Nx H' → ∃ m', m' < m ∧ W (i + 1) m' H') ∧ ∀ x H', (Itt K a).yld i H x H' → g x (wipe σ vs) H' fun σ2 H2 => wipe σ2 vs = wipe σ vs ∧ tt σ2 H2 fun b H3 =>
        if b = true then Bd σ2 H3 Nx else Nx H3) := by
  refine ⟨fun i m H => m = xs.length - i ∧ i ≤ xs.length ∧ Pv i H, ⟨xs.length, by simp, Nat.zero_le _, h0⟩, ?_⟩
  rintro i m H ⟨rfl, hi, p⟩
  have q := hl i H hi p
  by_cases hlt : i < xs.length
  · refine .inr ⟨⟨xs, xs[i], q, by simp [hlt]⟩, Pv (i + 1), fun H' p' => ⟨xs.length - (i + 1), by omega, rfl, hlt, p'⟩, fun x H' y => ?_⟩
    obtain ⟨e, y⟩ := y
    subst e
    exact hs i x _ (y xs q) p
  · have e : i = xs.length := by omega
    subst e
    exact .inl ⟨⟨xs, q, Nat.le_refl _⟩, hd H p⟩
/-! lists of pairs -/
def PrV (H : Hp) (v : V) (x : Nat × Nat) : Prop := ∃ t, v = .ref t ∧ H t = some (.tup [.int (x.1 : Nat), .int (x.2 : Nat)])
def PrsV (H : Hp) : List V → List (Nat × Nat) → Prop
  | [], [] => True
  | v :: vs, x :: xs => PrV H v x ∧ PrsV H vs xs
  | [], _ :: _ => False
  | _ :: _, [] => False
theorem PrV.same {H H' : Hp} {v : V} {x : Nat × Nat} (s : Same H H') (h : PrV H v x) : PrV H' v x := by
  obtain ⟨t, e, h⟩ := h
  exact ⟨t, e, s _ _ h⟩
theorem PrV.mut {H : Hp} {v : V} {x : Nat × Nat} {q : Addr} {ys : List V} {o : HO} (hq : H q = some (.lst ys)) (h : PrV H v x) : PrV (upd H q o) v x := by
  obtain ⟨t, e, h⟩ := h
  refine ⟨t, e, keepM (fun z => ?_) h⟩
  rw [z, hq] at h
  cases h
theorem PrsV.imp {H H' : Hp} (f : ∀ v x, PrV H v x → PrV H' v x) : ∀ {vs : List V} {xs : List (Nat × Nat)}, PrsV H vs xs → PrsV H' vs xs
  | [], [], _ => True.intro
  | _ :: _, _ :: _, h => ⟨f _ _ h.1, PrsV.imp f h.2⟩
  | [], _ :: _, h => h.elim
  | _ :: _, [], h => h.elim
theorem PrsV.same {H H' : Hp} {vs : List V} {xs : List (Nat × Nat)} (s : Same H H') (h : PrsV H vs xs) : PrsV H' vs xs := h.imp fun _ _ k => k.same s
theorem PrsV.mut {H : Hp} {vs : List V} {xs : List (Nat × Nat)} {q : Addr} {ys : List V} {o : HO} (hq : H q = some (.lst ys)) (h : PrsV H vs xs) : PrsV (upd H q o) vs xs := h.imp fun _ _ k => k.mut hq
theorem PrsV.app {H : Hp} : ∀ {vs ws : List V} {xs ys : List (Nat × Nat)}, PrsV H vs xs → PrsV H ws ys → PrsV H (vs ++ ws) (xs ++ ys)
  | [], _, [], _, _, h => h
  | _ :: _, _, _ :: _, _, h, k => ⟨h.1, PrsV.app h.2 k⟩
  | [], _, _ :: _, _, h, _ => h.elim
  | _ :: _, _, [], _, h, _ => h.elim
theorem PrsV.len {H : Hp} : ∀ {vs : List V} {xs : List (Nat × Nat)}, PrsV H vs xs → vs.length = xs.length
  | [], [], _ => rfl
  | _ :: _, _ :: _, h => congrArg (· + 1) (PrsV.len h.2)
  | [], _ :: _, h => h.elim
  | _ :: _, [], h => h.elim
theorem PrsV.at {H : Hp} : ∀ {vs : List V} {xs : List (Nat × Nat)} {i : Nat} {v : V}, PrsV H vs xs → vs[i]? = some v → ∃ x, xs[i]? = some x ∧ PrV H v x
  | [], [], _, _, _, h => by cases h
  | _ :: _, x :: _, 0, _, h, e => by
    have e' := Option.some.inj e
    subst e'
    exact ⟨x, rfl, h.1⟩
  | _ :: _, _ :: _, i + 1, _, h, e => PrsV.at (i := i) h.2 e
  | [], _ :: _, _, _, h, _ => h.elim
  | _ :: _, [], _, _, h, _ => h.elim
/-- what a pair's value tells -/
def keyOf (H : Hp) (v : V) : Int × Int := match v with
  | .ref t => match H t with
    | some (.tup [.int a, .int b]) => (a, b)
    | _ => (0, 0)
  | _ => (0, 0)
def natsOf (H : Hp) (v : V) : Nat × Nat := ((keyOf H v).1.toNat, (keyOf H v).2.toNat)
theorem PrV.key {H : Hp} {v : V} {x : Nat × Nat} (h : PrV H v x) : keyOf H v = ((x.1 : Int), (x.2 : Int)) := by
  obtain ⟨t, rfl, h⟩ := h
  unfold keyOf
  dsimp only
  rw [h]
theorem PrV.nats {H : Hp} {v : V} {x : Nat × Nat} (h : PrV H v x) : natsOf H v = x := by
  unfold natsOf
  rw [h.key]
  rfl
theorem PrsV.nats {H : Hp} : ∀ {vs : List V} {xs : List (Nat × Nat)}, PrsV H vs xs → vs.map (natsOf H) = xs
  | [], [], _ => rfl
  | v :: vs, x :: xs, h => by rw [List.map_cons, h.1.nats, PrsV.nats h.2]
  | [], _ :: _, h => h.elim
  | _ :: _, [], h => h.elim
theorem PrsV.of {H : Hp} : ∀ {vs : List V}, (∀ v ∈ vs, ∃ x, PrV H v x) → PrsV H vs (vs.map (natsOf H))
  | [], _ => True.intro
  | v :: vs, h => by
    obtain ⟨x, hx⟩ := h v List.mem_cons_self
    exact ⟨by rw [hx.nats]; exact hx, PrsV.of fun w hw => h w (List.mem_cons_of_mem _ hw)⟩
theorem PrsV.all {H : Hp} {vs : List V} {xs : List (Nat × Nat)} (h : PrsV H vs xs) {v : V} (hv : v ∈ vs) : ∃ x, PrV H v x := by
  obtain ⟨i, hi, e⟩ := List.getElem_of_mem hv
  obtain ⟨x, _, hx⟩ := h.at (i := i) (v := v) (by rw [List.getElem?_eq_getElem hi, e])
  exact ⟨x, hx⟩
theorem cr_sortedPO' {X : Cx} {K : PySem.W.Frag} (e : X.K = K) : CallR X (.builtin "sorted") (rSortedPO K) := by
  subst e
  exact cr_sortedPO
theorem x_sortP {K : PySem.W.Frag} {H : Hp} {Q : VK} {a : Addr} {hs : List Nat} {d k : Nat} {vs : List V} (t : IsTree hs) (hk : k ≤ hs.length) (h : SqL K H a vs) (hp : PrsV H vs (withUp hs (acc hs k d))) (q : ∀ ys p, PrsV H ys (tiesN hs d k) → H p = none → Q (.ref p) (upd H p (.lst ys))) : rSortedPO K [.ref a] H Q := by
  refine ⟨a, vs, keyOf H, rfl, h, fun v hv => ?_, fun ys p hs1 hs2 hn => ?_⟩
  · obtain ⟨x, hx⟩ := hp.all hv
    obtain ⟨t, e1, e2⟩ := id hx
    refine ⟨t, e1, ?_⟩
    rw [hx.key]
    exact e2
  · have pm := hs2.perm
    have hy : PrsV H ys (ys.map (natsOf H)) := PrsV.of fun v hv => hp.all (pm.mem_iff.mp hv)
    refine q ys p ?_ hn
    have e : ys.map (natsOf H) = tiesN hs d k := by
      refine ties_sorted t hk ?_ ?_
      · rw [← hp.nats]
        exact pm.map _
      · rw [List.pairwise_map]
        refine (List.Pairwise.and_mem.mp hs1).imp fun {x y} hxy => ?_
        obtain ⟨m1, m2, lt⟩ := hxy
        obtain ⟨a1, ha⟩ := hp.all (pm.mem_iff.mp m1)
        obtain ⟨b1, hb⟩ := hp.all (pm.mem_iff.mp m2)
        rw [ha.nats, hb.nats]
        have lt : SrtO.lexB (keyOf H y) (keyOf H x) = false := lt
        rw [ha.key, hb.key] at lt
        unfold ltPr
        intro z
        refine Bool.false_ne_true (lt.symm.trans (SrtO.lexB_iff.mpr ?_))
        show ((b1.1 : Nat) : Int) < ((a1.1 : Nat) : Int) ∨ ((b1.1 : Nat) : Int) = ((a1.1 : Nat) : Int) ∧ ((b1.2 : Nat) : Int) < ((a1.2 : Nat) : Int)
        omega
    rw [← e]
    exact hy
end Fv
set_option maxRecDepth 100000
set_option maxHeartbeats 1000000
namespace Fv
open PySem PySem.Spec PyProof.Rows L2
def pD (x : Nat × Nat) : PyData := .tuple [.int (Int.ofNat x.1), .int (Int.ofNat x.2)]
def pds (ts : List (Nat × Nat)) : List PyData := ts.map pD
theorem pds_lay : ∀ l, PyData.canLayAll0 (pds l) = true
  | [] => rfl
  | a :: l => by
    show (PyData.canLay0 (pD a) && PyData.canLayAll0 (pds l)) = true
    rw [pds_lay l]
    rfl
theorem pds_depth : ∀ l, PyData.depthAll (pds l) ≤ 1
  | [] => Nat.zero_le _
  | a :: l => by
    show max (PyData.depth (pD a)) (PyData.depthAll (pds l)) ≤ 1
    have e : PyData.depth (pD a) = 1 := rfl
    rw [e]
    have := pds_depth l
    omega
theorem pD_eqv (a b : Nat × Nat) : PyData.eqv (pD a) (pD b) = decide (a = b) := by
  show PyData.eqv (.tuple [.int (Int.ofNat a.1), .int (Int.ofNat a.2)]) (.tuple [.int (Int.ofNat b.1), .int (Int.ofNat b.2)]) = _
  obtain ⟨a1, a2⟩ := a
  obtain ⟨b1, b2⟩ := b
  rw [PyData.eqv, PyData.eqvAll, PyData.eqvAll, PyData.eqvAll, PyData.eqv, PyData.eqv, Bool.eq_iff_iff]
  simp
  omega
theorem pds_eqv : ∀ l m, PyData.eqvAll (pds l) (pds m) = decide (l = m)
  | [], [] => by simp [pds, PyData.eqvAll]
  | [], _ :: _ => by simp [pds, PyData.eqvAll]
  | _ :: _, [] => by simp [pds, PyData.eqvAll]
  | a :: l, b :: m => by
    show PyData.eqvAll (pD a :: pds l) (pD b :: pds m) = _
    rw [PyData.eqvAll, pds_eqv l m, pD_eqv, Bool.eq_iff_iff]
    simp
def telPD (r : List Nat) (ts : List (Nat × Nat)) : PyData := .tuple [.tuple (dn r), .tuple (pds ts)]
theorem telPD_shaped (r : List Nat) (ts : List (Nat × Nat)) : SeqAt.shaped (telPD r ts) = true := by
  show (PyData.canLayAll0 [.tuple (dn r), .tuple (pds ts)] && decide (PyData.depthAll [.tuple (dn r), .tuple (pds ts)] + 1 ≤ 64)) = true
  have e1 : PyData.canLayAll0 [.tuple (dn r), .tuple (pds ts)] = true := by
    show (PyData.canLayAll0 (dn r) && (PyData.canLayAll0 (pds ts) && true)) = true
    rw [dn_lay, pds_lay]
    rfl
  have e2 : PyData.depthAll [.tuple (dn r), .tuple (pds ts)] + 1 ≤ 64 := by
    show max (PyData.depthAll (dn r) + 1) (max (PyData.depthAll (pds ts) + 1) 0) + 1 ≤ 64
    have := pds_depth ts
    rw [dn_depth]
    omega
  rw [e1, decide_eq_true e2]
  rfl
theorem telPD_eqv (r r' : List Nat) (ts ts' : List (Nat × Nat)) : PyData.eqv (telPD r ts) (telPD r' ts') = (decide (r = r') && decide (ts = ts')) := by
  show PyData.eqv (.tuple [.tuple (dn r), .tuple (pds ts)]) (.tuple [.tuple (dn r'), .tuple (pds ts')]) = _
  rw [PyData.eqv, PyData.eqvAll, PyData.eqvAll, PyData.eqvAll, PyData.eqv, PyData.eqv, dn_eqv, pds_eqv]
  simp
/-- a value that is a telling -/
def TelAt (H : Hp) (v : V) (r : List Nat) (ts : List (Nat × Nat)) : Prop := ∃ (a b c : Addr) (vs : List V), v = .ref a ∧ H a = some (.tup [.ref b, .ref c]) ∧ H b = some (.tup (nats r)) ∧ H c = some (.tup vs) ∧ PrsV H vs ts
theorem TelAt.same {H H' : Hp} {v : V} {r : List Nat} {ts : List (Nat × Nat)} (s : Same H H') (h : TelAt H v r ts) : TelAt H' v r ts := by
  obtain ⟨a, b, c, vs, e, h1, h2, h3, h4⟩ := h
  exact ⟨a, b, c, vs, e, s _ _ h1, s _ _ h2, s _ _ h3, h4.same s⟩
section
variable {K : PySem.W.Frag} {H : Hp} {Q : VK}
theorem PrsV.dp : ∀ {vs : List V} {ts : List (Nat × Nat)}, PrsV H vs ts → DpAll K H vs (pds ts)
  | [], [], _ => .nil
  | v :: vs, x :: xs, h => by
    obtain ⟨t, e, ht⟩ := h.1
    subst e
    exact .cons (.tup (.of ht) (.cons (.int _) (.cons (.int _) .nil))) (PrsV.dp h.2)
  | [], _ :: _, h => h.elim
  | _ :: _, [], h => h.elim
theorem TelAt.dp {v : V} {r : List Nat} {ts : List (Nat × Nat)} (h : TelAt H v r ts) : Dp K H v (telPD r ts) := by
  obtain ⟨a, b, c, vs, e, h1, h2, h3, h4⟩ := h
  subst e
  exact .tup (.of h1) (.cons (.tup (.of h2) (dpAll_nats r)) (.cons (.tup (.of h3) h4.dp) .nil))
theorem x_neTel {x y : V} {r r' : List Nat} {ts ts' : List (Nat × Nat)} (h1 : TelAt H x r ts) (h2 : TelAt H y r' ts') (q : Q (.bl (!(decide (r = r') && decide (ts = ts')))) H) : rNeD K x y H Q := by
  refine ⟨telPD r ts, telPD r' ts', h1.dp, h2.dp, telPD_shaped _ _, telPD_shaped _ _, ?_⟩
  rw [telPD_eqv]
  exact q
theorem Al.pair {n : Nat} {v w : V} {x : Nat × Nat} (h1 : PrV H v x) (h2 : PrV H w x) : Al K H (n + 1) v w := by
  obtain ⟨t, e, ht⟩ := h1
  obtain ⟨u, e', hu⟩ := h2
  subst e e'
  refine Al.tups ht hu (by show 2 ≤ 1000; decide) fun z hz => ?_
  rcases List.mem_cons.mp hz with rfl | hz
  · rfl
  · rw [List.mem_singleton.mp hz]
    rfl
theorem TelAt.al {v w : V} {r : List Nat} {ts : List (Nat × Nat)} (hr : r.length ≤ 1000) (hts : ts.length ≤ 1000) (h1 : TelAt H v r ts) (h2 : TelAt H w r ts) : Al K H 3 v w := by
  obtain ⟨a, b, c, vs, e, h1, h2', h3, h4⟩ := h1
  obtain ⟨a', b', c', vs', e', k1, k2, k3, k4⟩ := h2
  subst e e'
  refine .inr (.inr ⟨a, a', _, _, rfl, rfl, h1, k1, rfl, (by show 2 ≤ 1000; decide), fun i hi1 hi2 => ?_⟩)
  match i with
  | 0 => exact Al.tups h2' k2 (by rw [nats_length]; exact hr) nats_sca
  | 1 =>
    refine .inr (.inr ⟨c, c', vs, vs', rfl, rfl, h3, k3, h4.len.trans k4.len.symm, by rw [k4.len]; exact hts, fun j hj1 hj2 => ?_⟩)
    obtain ⟨x, hx, px⟩ := h4.at (List.getElem?_eq_getElem hj1)
    obtain ⟨y, hy, py⟩ := k4.at (List.getElem?_eq_getElem hj2)
    rw [hx] at hy
    cases hy
    exact Al.pair px py
  | i + 2 => exact absurd hi1 (by show ¬ i + 2 < 2; omega)
end
end Fv
set_option maxRecDepth 100000
set_option maxHeartbeats 1000000
namespace Fv
open PySem PySem.Spec PyProof.Rows L2
/-! range(n), kept by a name -/
def rRng1 : List V → Hp → VK → Prop := fun vs H Q => ∃ j : Int, vs = [V.int j] ∧ ∀ p, H p = none → Q (.ref p) (upd H p (.rng 0 j))
theorem call_rng1 {X : Cx} : CallR X (.type "range") rRng1 := by
  intro pins s σ H vs us Q I r h
  obtain ⟨j, rfl, q⟩ := h
  obtain ⟨u1, rfl, ri⟩ := vals1 r
  obtain ⟨t, rfl⟩ := ri
  refine call_range_1 ⟨.ref s.heap.objs.size, upd H s.heap.objs.size (.rng 0 j), I.laid (fun b o e => Heap.get?_push_of_some _ e) (Nat.le_refl _) ?_, rfl, q _ (I.hok.fresh (Nat.le_refl _))⟩
  exact ⟨_, _, _, Heap.get?_push_size _ rfl⟩
theorem pi_tupK {X : Cx} {K : PySem.W.Frag} {tg e : Expr} {te : TE} (eK : X.K = K) (he : PE X e te) : PI X tg e (iTup K te) := by
  subst eK
  exact pi_tup he
theorem pi_listK {X : Cx} {K : PySem.W.Frag} {tg e : Expr} {te : TE} (eK : X.K = K) (he : PE X e te) : PI X tg e (iList K te) := by
  subst eK
  exact pi_list he
theorem nats_take (l : List Nat) (n : Nat) : (nats l).take n = nats (l.take n) := by
  unfold nats
  rw [List.map_take]
section
variable {K : PySem.W.Frag} {H : Hp} {Q : VK} {l b p : Addr} {xs zs : List V}
theorem x_rngA1 {j : Int} (q : ∀ p, H p = none → Q (.ref p) (upd H p (.rng 0 j))) : rRng1 [.int j] H Q := ⟨j, rfl, q⟩
theorem x_extend (h1 : H l = some (.lst xs)) (h2 : H b = some (.lst zs)) (hz : xs.length + zs.length ≤ 10000) (q : Q .non (upd H l (.lst (xs ++ zs)))) : rExtend (.ref l) [.ref b] H Q := ⟨l, b, xs, zs, rfl, rfl, h1, h2, szLe (by omega), q⟩
theorem range0_snoc (g : Nat → Bool) (n : Nat) : (List.range (n + 1)).filter g = (List.range n).filter g ++ if g n = true then [n] else [] := by
  rw [List.range_succ, List.filter_append]
  congr 1
  by_cases h : g n = true
  · rw [if_pos h, List.filter_cons_of_pos h]
    rfl
  · rw [if_neg h, List.filter_cons_of_neg h]
    rfl
theorem all_true (n : Nat) : ((List.replicate n true).map V.bl).length = n := by rw [List.length_map, List.length_replicate]
end
end Fv
namespace Fv
open PySem PySem.Spec L2
/-- a comprehension in a comprehension: the outer one's scope, as it stands in its def's -/
def relS (scope sc : Scope) : Scope := { scope with names := scope.names.map fun (n, k) => if (k == .free && sc.kind == .function && sc.names.lookup n == some .cell) then (n, .cell) else (n, k) }
theorem blkOk_nest {X : Cx} {s : Shared} {H : Hp} {scope sc2 sc : Scope} {cl : List (Str × Addr)} {C : Addr} {e : Env} {fp : List Addr} {N : List Str} {own : List (Str × Nat)} (h : blkC N (relS scope sc) sc2 own = true) (hs : e.scope = sc) : BlkOk N (X.blk s H scope (compEnvC scope cl C e) fp).env.scope sc2 own := by
  subst hs
  exact blkOk_by h
theorem cr_sumK {X : Cx} {K : PySem.W.Frag} (e : X.K = K) (hc : X.calm = true) : CallR X (.builtin "sum") (rSum K) := by
  subst e
  exact cr_sum hc
end Fv
/-! votes; nothing of the program here -/
namespace Fv
/-- the least cost of this block -/
structure MinIs (us : List (Option Nat)) (ls : List (List (Option Bool))) (n b m : Nat) : Prop where
  some : ∃ p, p ≤ n ∧ p ≠ b ∧ costN us ls b p = m
  all : ∀ p, p ≤ n → p ≠ b → m ≤ costN us ls b p
theorem MinIs.det {us : List (Option Nat)} {ls : List (List (Option Bool))} {n b m k : Nat} (h : MinIs us ls n b m) (g : MinIs us ls n b k) : m = k := by
  obtain ⟨p, hp, hb, e⟩ := h.some
  obtain ⟨q, hq, hc, f⟩ := g.some
  have h1 := h.all q hq hc
  have h2 := g.all p hp hb
  omega
/-- where it hangs at that cost -/
def plN (us : List (Option Nat)) (ls : List (List (Option Bool))) (b m k : Nat) : List Nat := (List.range k).filter fun p => decide (p ≠ b) && decide (costN us ls b p = m)
theorem plN_snoc (us : List (Option Nat)) (ls : List (List (Option Bool))) (b m k : Nat) : plN us ls b m (k + 1) = plN us ls b m k ++ if k ≠ b ∧ costN us ls b k = m then [k] else [] := by
  unfold plN
  rw [List.range_succ, List.filter_append]
  congr 1
  by_cases h : k ≠ b ∧ costN us ls b k = m
  · rw [if_pos h, List.filter_cons_of_pos (by rw [decide_eq_true h.1, decide_eq_true h.2]; rfl), List.filter_nil]
  · rw [if_neg h, List.filter_cons_of_neg, List.filter_nil]
    rw [Bool.and_eq_true, decide_eq_true_eq, decide_eq_true_eq]
    exact h
theorem plN_len (us : List (Option Nat)) (ls : List (List (Option Bool))) (b m k : Nat) : (plN us ls b m k).length ≤ k := by
  unfold plN
  exact Nat.le_trans (List.length_filter_le _ _) (Nat.le_of_eq List.length_range)
/-- the costs but at the block itself -/
def csN (us : List (Option Nat)) (ls : List (List (Option Bool))) (b k : Nat) : List Nat := ((List.range k).filter fun p => decide (p ≠ b)).map (costN us ls b)
theorem csN_snoc (us : List (Option Nat)) (ls : List (List (Option Bool))) (b k : Nat) : csN us ls b (k + 1) = csN us ls b k ++ if k = b then [] else [costN us ls b k] := by
  unfold csN
  rw [List.range_succ, List.filter_append, List.map_append]
  congr 1
  by_cases h : k = b
  · rw [if_pos h, List.filter_cons_of_neg (by rw [decide_eq_true_eq]; exact fun z => z h), List.filter_nil, List.map_nil]
  · rw [if_neg h, List.filter_cons_of_pos (by rw [decide_eq_true_eq]; exact h), List.filter_nil, List.map_cons, List.map_nil]
theorem csN_len (us : List (Option Nat)) (ls : List (List (Option Bool))) (b k : Nat) : (csN us ls b k).length ≤ k := by
  unfold csN
  rw [List.length_map]
  exact Nat.le_trans (List.length_filter_le _ _) (Nat.le_of_eq List.length_range)
theorem csN_min {us : List (Option Nat)} {ls : List (List (Option Bool))} {n b m : Nat} (h : m ∈ csN us ls b (n + 1)) (a : ∀ y ∈ csN us ls b (n + 1), m ≤ y) : MinIs us ls n b m := by
  have mem : ∀ y, y ∈ csN us ls b (n + 1) ↔ ∃ p, p ≤ n ∧ p ≠ b ∧ costN us ls b p = y := fun y => by
    unfold csN
    rw [List.mem_map]
    constructor
    · rintro ⟨p, hp, e⟩
      rw [List.mem_filter, List.mem_range, decide_eq_true_eq] at hp
      exact ⟨p, by omega, hp.2, e⟩
    · rintro ⟨p, hp, hb, e⟩
      refine ⟨p, ?_, e⟩
      rw [List.mem_filter, List.mem_range, decide_eq_true_eq]
      exact ⟨by omega, hb⟩
  exact ⟨(mem m).mp h, fun p hp hb => a _ ((mem _).mpr ⟨p, hp, hb, rfl⟩)⟩
theorem csN_pos {us : List (Option Nat)} {ls : List (List (Option Bool))} {n b : Nat} (b1 : 1 ≤ b) : 0 < (csN us ls b (n + 1)).length := by
  unfold csN
  rw [List.length_map]
  refine List.length_pos_of_mem (a := 0) ?_
  rw [List.mem_filter, List.mem_range, decide_eq_true_eq]
  omega
end Fv
set_option maxRecDepth 100000
set_option maxHeartbeats 1000000
namespace Fv
open PySem PySem.Spec PyProof.Rows L2
/-! lists of lists of pairs that are written in turn -/
def TsAt (H : Hp) (as : List Addr) (g : Nat → List (Nat × Nat)) : Prop := ∀ p a, as[p]? = some a → ∃ vs, H a = some (.lst vs) ∧ PrsV H vs (g p)
theorem TsAt.same {H H' : Hp} {as : List Addr} {g : Nat → List (Nat × Nat)} (s : Same H H') (h : TsAt H as g) : TsAt H' as g := fun p a e => by
  obtain ⟨vs, h1, h2⟩ := h p a e
  exact ⟨vs, s _ _ h1, h2.same s⟩
theorem TsAt.mut {H : Hp} {as : List Addr} {g : Nat → List (Nat × Nat)} {q : Addr} {ys : List V} {o : HO} (hq : H q = some (.lst ys)) (n : q ∉ as) (h : TsAt H as g) : TsAt (upd H q o) as g := fun p a e => by
  obtain ⟨vs, h1, h2⟩ := h p a e
  exact ⟨vs, keepM (fun z => n (by rw [← z]; exact List.mem_of_getElem? e)) h1, h2.mut hq⟩
theorem TsAt.congr {H : Hp} {as : List Addr} {g g' : Nat → List (Nat × Nat)} (e : ∀ p, p < as.length → g p = g' p) (h : TsAt H as g) : TsAt H as g' := fun p a ha => by
  rw [← e p (List.getElem?_eq_some_iff.mp ha).1]
  exact h p a ha
theorem TsAt.step {H : Hp} {as : List Addr} {g : Nat → List (Nat × Nat)} {q : Nat} {a U : Addr} {vs : List V} {x : Nat × Nat} (hn : as.Nodup) (h : TsAt H as g) (ha : as[q]? = some a) (hU : H U = some (.tup [.int (x.1 : Nat), .int (x.2 : Nat)])) (hv : H a = some (.lst vs)) (hp : PrsV H vs (g q)) :
    TsAt (upd H a (.lst (vs ++ [.ref U]))) as (fun p => g p ++ if p = q then [x] else []) := fun p b e => by
  have nUa : U ≠ a := fun z => by
    rw [z, hv] at hU
    cases hU
  by_cases hpq : p = q
  · subst hpq
    rw [ha] at e
    cases e
    refine ⟨_, upd_same, ?_⟩
    dsimp only
    rw [if_pos rfl]
    exact (hp.mut hv).app ⟨⟨U, rfl, keepM nUa hU⟩, True.intro⟩
  · obtain ⟨ws, h1, h2⟩ := h p b e
    refine ⟨ws, keepM (fun z => hpq ?_) h1, ?_⟩
    · subst z
      exact (List.getElem?_inj (List.getElem?_eq_some_iff.mp e).1 hn).mp (e.trans ha.symm)
    · dsimp only
      rw [if_neg hpq, List.append_nil]
      exact h2.mut hv
theorem refs_at {as : List Addr} {p : Nat} {a : Addr} (e : as[p]? = some a) : atI (as.map V.ref) (p : Int) = some (.ref a) := by
  refine atI_nat ?_
  rw [List.getElem?_map, e]
  rfl
theorem cr_sortedK {X : Cx} {K : PySem.W.Frag} (e : X.K = K) : CallR X (.builtin "sorted") (rSorted K) := by
  subst e
  exact cr_sorted
end Fv
set_option maxRecDepth 100000
set_option maxHeartbeats 1000000
namespace Fv
open PySem PySem.Spec PyProof.Rows L2
section
variable {K : PySem.W.Frag} {H : Hp} {Q : VK} {a : Addr} {l : List Nat} {k : Nat}
theorem x_ninNT (h : SqT K H a (nats l)) (q : Q (.bl (!decide (k ∈ l))) H) : rIn K true (.int k) (.ref a) H Q := by
  refine ⟨a, _, rfl, .inr h, rfl, flat_nats l, ?_⟩
  show Q (.bl (!inV (.int k) (nats l))) H
  rw [in_nats]
  exact q
theorem x_ninNL (h : SqL K H a (nats l)) (q : Q (.bl (!decide (k ∈ l))) H) : rIn K true (.int k) (.ref a) H Q := by
  refine ⟨a, _, rfl, .inl h, rfl, flat_nats l, ?_⟩
  show Q (.bl (!inV (.int k) (nats l))) H
  rw [in_nats]
  exact q
/-- whole numbers in order -/
theorem x_sortN {ys : List Nat} (h : SqL K H a (nats l)) (hl : l.length < 64) (hp : l.Perm ys) (hs : ys.Pairwise (· < ·)) (q : ∀ p, H p = none → Q (.ref p) (upd H p (.lst (nats ys)))) : rSorted K [.ref a] H Q := by
  refine ⟨a, l.map fun (k : Nat) => (k : Int), rfl, by rw [nats_ints]; exact h, by rw [List.length_map]; exact hl, fun zs p hz hw hn => ?_⟩
  have e : zs = ys.map fun (k : Nat) => (k : Int) := by
    refine (hz.trans (hp.map _)).eq_of_pairwise (fun a b _ _ h1 h2 => Int.le_antisymm h1 h2) hw ?_
    rw [List.pairwise_map]
    refine hs.imp fun {x y} hxy => ?_
    omega
  rw [e, nats_ints]
  exact q p hn
theorem put_same {hs : List Nat} {b : Nat} (h1 : 1 ≤ b) (h2 : b ≤ hs.length) : put hs b (up hs b) = hs := by
  refine same_ups (put_len _ _ _) fun k _ _ => ?_
  rw [up_put h1 h2]
  split
  · rename_i e
    rw [e]
  · rfl
end
end Fv
set_option maxRecDepth 100000
set_option maxHeartbeats 4000000
namespace Fv
open PySem PySem.Spec PyProof.Rows L2
/-! t * k, k any number -/
theorem tuple_mulW1 (l : Addr) (items : Array Value) (n : Nat) (dd : Option Addr) (sl : Array (Option Value)) (u : Tok) :
    Meets (Builtin.«tuple.__mul__» ⟨[.ref l, .int 1 u], []⟩) (fun _ R s => s.heap.get? l = some { cls := .type "tuple", dict := dd, data := .seq items n, slots := sl } ∧ R (.ok (.ret (Value.ref l))) s) :=
  .of_wp fun prog w A R s h => by
    obtain ⟨hp, g, d, tk, os⟩ := s
    obtain ⟨hl, h⟩ := h
    have f1 := AutoSeq1.idx_int
    have c1 : (items.isEmpty || (1 : Int) == 1) = true := by rw [Bool.or_eq_true]; exact .inr rfl
    wp_walk using wpAny_loadPart' hl
    repeat (first
      | (refine wpAny_ite_true (decide_eq_true c1) ?_; wp_walk using wpAny_loadPart' hl)
      | (refine wpAny_ite_false (by decide) ?_; wp_walk using wpAny_loadPart' hl))
    exact ⟨_, rfl, h⟩
theorem tuple_mulW0 (l : Addr) (items : Array Value) (n : Nat) (dd : Option Addr) (sl : Array (Option Value)) (x : Int) (u : Tok) (c0 : (decide (x < -(2 ^ 63)) || decide (x ≥ 2 ^ 63)) = false) (c1 : (items.isEmpty || x == 1) = false) (c2 : (decide (x ≤ 0) || items.isEmpty) = true) :
    Meets (Builtin.«tuple.__mul__» ⟨[.ref l, .int x u], []⟩) (fun _ R s => s.heap.get? l = some { cls := .type "tuple", dict := dd, data := .seq items n, slots := sl } ∧
      R (.ok (.ret (Value.ref s.heap.objs.size))) { s with heap := s.heap.push { cls := Value.type "tuple", data := Data.seq #[] }, toks := s.toks }) :=
  .of_wp fun prog w A R s h => by
    obtain ⟨hp, g, d, tk, os⟩ := s
    obtain ⟨hl, h⟩ := h
    have f1 := AutoSeq1.idx_int
    wp_walk using wpAny_loadPart' hl
    repeat (first
      | (refine wpAny_ite_false (decide_eq_false (by rw [c0]; exact Bool.false_ne_true)) ?_; wp_walk using wpAny_loadPart' hl)
      | (refine wpAny_ite_false (decide_eq_false (by rw [c1]; exact Bool.false_ne_true)) ?_; wp_walk using wpAny_loadPart' hl)
      | (refine wpAny_ite_true (decide_eq_true c2) ?_; wp_walk using wpAny_loadPart' hl)
      | (refine wpAny_ite_false (by decide) ?_; wp_walk using wpAny_loadPart' hl))
    exact ⟨_, rfl, h⟩
def rRepA (K : PySem.W.Frag) : R2 := fun x y H Q => ∃ (l : Addr) (k : Int) (xs : List V), x = .ref l ∧ y = .int k ∧ SqT K H l xs ∧ xs ≠ [] ∧ -1000 ≤ k ∧ k ≤ 1000 ∧ xs.length ≤ 1000 ∧ (k = 1 → Q (.ref l) H) ∧ (k ≤ 0 → ∀ p, H p = none → Q (.ref p) (upd H p (.tup []))) ∧ (2 ≤ k → ∀ p, H p = none → Q (.ref p) (upd H p (.tup (List.replicate k.toNat xs).flatten)))
theorem op_repA {X : Cx} : OpR X (binaryOp .Mult) (rRepA X.K) := by
  intro pins s σ H x y v u Q I rx ry h
  obtain ⟨l, k, xs, rfl, rfl, hT, hne, h1, h2, hz, q1, q0, q2⟩ := h
  by_cases hk : 2 ≤ k
  · exact op_repT pins s σ H _ _ v u Q I rx ry ⟨l, k, xs, rfl, rfl, hT, hne, hk, h2, hz, q2 hk⟩
  cases rx
  obtain ⟨t, rfl⟩ := ry
  obtain ⟨its, r, ⟨⟨cls, dd, data, sl⟩, ho, hc, n, hd⟩, hs⟩ := I.tuple hT
  simp only at hc hd
  subst hc hd
  have hle : its.length = xs.length := r.length.symm
  have hn : its ≠ [] := fun e => hne (by
    rw [e] at hle
    exact List.eq_nil_of_length_eq_zero hle.symm)
  have hi : its.toArray.isEmpty = false := by
    cases its with
    | nil => exact absurd rfl hn
    | cons a b => rfl
  by_cases k1 : k = 1
  · subst k1
    exact wpAny_binaryOp_repeat_ref (T := "tuple") (U := "int") (by decide) ⟨_, ho, rfl⟩ (fun s' => typeIs_int s' 1 t) noFill_tuple_mul F.fills_int_mul F.slot_int_rmul repeat_tuple F.slot_int_index.lookup
      (call_meets F.slot_int_rmul (typeIs_int s 1 t) F.entry_int_rmul (F.args_int_rmul_2 _ _) (int_rmul_tuple 1 t l its.toArray n dd sl)
        ⟨ho, rfl, ⟨_, ho, rfl⟩, call_meets F.slot_tuple_mul ⟨_, ho, rfl⟩ F.entry_tuple_mul (F.args_tuple_mul_2 _ _) (tuple_mulW1 l its.toArray n dd sl t) ⟨ho, .ref l, H, I, rfl, q1 rfl⟩⟩)
  · have c0 : (decide (k < -(2 ^ 63)) || decide (k ≥ 2 ^ 63)) = false := by
      rw [decide_eq_false (by omega), decide_eq_false (by omega)] <;> rfl
    have c1 : (its.toArray.isEmpty || k == 1) = false := by
      rw [hi, Bool.false_or]
      exact beq_eq_false_iff_ne.mpr (by omega)
    have c2 : (decide (k ≤ 0) || its.toArray.isEmpty) = true := by
      rw [decide_eq_true (show k ≤ 0 by omega)]
      rfl
    refine wpAny_binaryOp_repeat_ref (T := "tuple") (U := "int") (by decide) ⟨_, ho, rfl⟩ (fun s' => typeIs_int s' k t) noFill_tuple_mul F.fills_int_mul F.slot_int_rmul repeat_tuple F.slot_int_index.lookup
      (call_meets F.slot_int_rmul (typeIs_int s k t) F.entry_int_rmul (F.args_int_rmul_2 _ _) (int_rmul_tuple k t l its.toArray n dd sl)
        ⟨ho, rfl, ⟨_, ho, rfl⟩, call_meets F.slot_tuple_mul ⟨_, ho, rfl⟩ F.entry_tuple_mul (F.args_tuple_mul_2 _ _) (tuple_mulW0 l its.toArray n dd sl k t c0 c1 c2) ⟨ho, ?_⟩⟩)
    refine ⟨.ref s.heap.objs.size, _, I.laid (t' := s.toks) (o := .tup []) (fun b ob q => Heap.get?_push_of_some _ q) (Nat.le_refl _) ?_, rfl, q0 (by omega) _ (I.hok.fresh (Nat.le_refl _))⟩
    exact ⟨Nat.zero_le _, [], .nil, IsTup.new _ _⟩
theorem op_repAK {X : Cx} {K : PySem.W.Frag} (e : X.K = K) : OpR X (binaryOp .Mult) (rRepA K) := by
  subst e
  exact op_repA
section
variable {K : PySem.W.Frag} {H : Hp} {Q : VK} {a : Addr} {v : V}
/-- (v,) * k -/
theorem x_repA1 {k : Int} (h : H a = some (.tup [v])) (h1 : -1000 ≤ k) (h2 : k ≤ 1000) (q : ∀ p H', Same H H' → H' p = some (.tup (List.replicate k.toNat v)) → Q (.ref p) H') : rRepA K (.ref a) (.int k) H Q := by
  refine ⟨a, k, [v], rfl, rfl, .of h, by simp, h1, h2, (by show 1 ≤ 1000; decide), fun e => ?_, fun e p hp => ?_, fun e p hp => ?_⟩
  · subst e
    exact q a H (Same.refl _) h
  · refine q p _ (same_new (Same.refl _) hp) ?_
    rw [upd_same, show k.toNat = 0 by omega]
    rfl
  · refine q p _ (same_new (Same.refl _) hp) ?_
    rw [upd_same, rep_one]
end
end Fv
set_option maxRecDepth 100000
set_option maxHeartbeats 1000000
namespace Fv
open PySem PySem.Spec PyProof.Rows L2
theorem cr_minLK {X : Cx} {K : PySem.W.Frag} (e : X.K = K) (hc : X.calm = true) : CallR X (.builtin "min") (rMin K) := by
  subst e
  exact cr_min hc
/-- rows of numbers, each a tuple -/
def RowV (H : Hp) (v : V) (r : List Nat) : Prop := ∃ t, v = .ref t ∧ H t = some (.tup (nats r))
def RowsV (H : Hp) : List V → List (List Nat) → Prop
  | [], [] => True
  | v :: vs, x :: xs => RowV H v x ∧ RowsV H vs xs
  | [], _ :: _ => False
  | _ :: _, [] => False
theorem RowsV.imp {H H' : Hp} (f : ∀ v x, RowV H v x → RowV H' v x) : ∀ {vs : List V} {xs : List (List Nat)}, RowsV H vs xs → RowsV H' vs xs
  | [], [], _ => True.intro
  | _ :: _, _ :: _, h => ⟨f _ _ h.1, RowsV.imp f h.2⟩
  | [], _ :: _, h => h.elim
  | _ :: _, [], h => h.elim
theorem RowsV.same {H H' : Hp} {vs : List V} {xs : List (List Nat)} (s : Same H H') (h : RowsV H vs xs) : RowsV H' vs xs := h.imp fun _ _ ⟨t, e, k⟩ => ⟨t, e, s _ _ k⟩
theorem RowsV.mut {H : Hp} {vs : List V} {xs : List (List Nat)} {q : Addr} {ys : List V} {o : HO} (hq : H q = some (.lst ys)) (h : RowsV H vs xs) : RowsV (upd H q o) vs xs := h.imp fun _ _ ⟨t, e, k⟩ => ⟨t, e, keepM (fun z => by
  rw [z, hq] at k
  cases k) k⟩
theorem RowsV.app {H : Hp} : ∀ {vs ws : List V} {xs ys : List (List Nat)}, RowsV H vs xs → RowsV H ws ys → RowsV H (vs ++ ws) (xs ++ ys)
  | [], _, [], _, _, h => h
  | _ :: _, _, _ :: _, _, h, k => ⟨h.1, RowsV.app h.2 k⟩
  | [], _, _ :: _, _, h, _ => h.elim
  | _ :: _, _, [], _, h, _ => h.elim
theorem RowsV.len {H : Hp} : ∀ {vs : List V} {xs : List (List Nat)}, RowsV H vs xs → vs.length = xs.length
  | [], [], _ => rfl
  | _ :: _, _ :: _, h => congrArg (· + 1) (RowsV.len h.2)
  | [], _ :: _, h => h.elim
  | _ :: _, [], h => h.elim
theorem RowsV.at {H : Hp} : ∀ {vs : List V} {xs : List (List Nat)} {i : Nat} {v : V}, RowsV H vs xs → vs[i]? = some v → ∃ x, xs[i]? = some x ∧ RowV H v x
  | [], [], _, _, _, h => by cases h
  | _ :: _, x :: _, 0, _, h, e => by
    have e' := Option.some.inj e
    subst e'
    exact ⟨x, rfl, h.1⟩
  | _ :: _, _ :: _, i + 1, _, h, e => RowsV.at (i := i) h.2 e
  | [], _ :: _, _, _, h, _ => h.elim
  | _ :: _, [], _, _, h, _ => h.elim
theorem RowsV.mem {H : Hp} {vs : List V} {xs : List (List Nat)} (h : RowsV H vs xs) {v : V} (hv : v ∈ vs) : ∃ x, x ∈ xs ∧ RowV H v x := by
  obtain ⟨i, hi, e⟩ := List.getElem_of_mem hv
  obtain ⟨x, e2, hx⟩ := h.at (i := i) (v := v) (by rw [List.getElem?_eq_getElem hi, e])
  exact ⟨x, List.mem_of_getElem? e2, hx⟩
end Fv
set_option maxRecDepth 100000
set_option maxHeartbeats 1000000
namespace Fv
open PySem PySem.Spec PyProof.Rows L2 RZ
theorem pi_zipAK {X : Cx} {K : PySem.W.Frag} {e e2 : Expr} {ta : TA} {p pos tpos : Pos} {elts : List Expr} {kk : Nat} (eK : X.K = K) (hg : Gl X "zip") (hm : X.mg "zip" = none) (ha : PA X [e, e2] ta)
    (hs : starEach [e, e2] X.env = (false, eval e X.env) :: starEach [e2] X.env := by rfl) (hpl : (backTo pos (starEach [e2] X.env)).any (·.1) = false := by rfl) :
    PI X (.Tuple elts kk tpos) (.Call (.Name "zip" p) [e, e2] [] pos) (iZipA K ta) := by
  subst eK
  exact pi_zipA hg hm ha hs hpl
theorem x_zipA {K : PySem.W.Frag} {σ : L2.St} {H : Hp} {R : It → Hp → Prop} {ts : TA} (h : ts σ H fun vs H1 => ∃ a b xs ys, vs = [.ref a, .ref b] ∧ ((SqL K H1 a xs ∧ SqL K H1 b ys ∧ R (Itz K a b) H1) ∨ (SqT K H1 a xs ∧ SqT K H1 b ys ∧ R (ItzT K a b) H1))) : iZipA K ts σ H R := h
theorem lc_zipT {K : PySem.W.Frag} {a b : Addr} {xs ys : List V} (hxy : xs.length = ys.length) {g : TG} {tt : TT} {te : TE} {vs : List Nat} {σ : L2.St} {H1 : Hp} {D : Addr} {Qd : Hp → Prop} (Pv : Nat → Hp → Prop) (h0 : Pv 0 (upd H1 D (.lst []))) (hl : ∀ i H, i ≤ xs.length → Pv i H → SqT K H a xs ∧ SqT K H b ys)
    (hs : ∀ i x y H T, xs[i]? = some x → ys[i]? = some y → Pv i H → H T = none → g (.ref T) (wipe σ vs) (upd H T (.tup [x, y])) fun σ2 H2 => wipe σ2 vs = wipe σ vs ∧ tt σ2 H2 fun b H3 =>
      if b = true then te σ2 H3 fun y H4 => ∃ acc, H4 D = some (.lst acc) ∧ acc.length < sizeLine ∧ Pv (i + 1) (upd H4 D (.lst (acc ++ [y]))) else Pv (i + 1) H3) (hd : ∀ H, Pv xs.length H → Qd H) :
    ∃ W : Nat → Nat → Hp → Prop, (∃ m, W 0 m (upd H1 D (.lst []))) ∧ ∀ i m H, W i m H → ((ItzT K a b).stop i H ∧ Qd H) ∨ ((ItzT K a b).go i H ∧ ∃ Nx : Hp → Prop, (∀ H', Nx H' → ∃ m', m' < m ∧ W (i + 1) m' H') ∧ ∀ x H', (ItzT K a b).yld i H x H' → g x (wipe σ vs) H' fun σ2 H2 => wipe σ2 vs = wipe σ vs ∧ tt σ2 H2 fun b H3 =>
        if b = true then te σ2 H3 fun y H4 => ∃ acc, H4 D = some (.lst acc) ∧ acc.length < sizeLine ∧ Nx (upd H4 D (.lst (acc ++ [y]))) else Nx H3) := by
  refine ⟨fun i m H => m = xs.length - i ∧ i ≤ xs.length ∧ Pv i H, ⟨_, rfl, Nat.zero_le _, h0⟩, ?_⟩
  rintro i m H ⟨rfl, hi, p⟩
  obtain ⟨q, r⟩ := hl i H hi p
  by_cases hlt : i < xs.length
  · have hlt2 : i < ys.length := by omega
    refine .inr ⟨⟨xs, ys, xs[i], ys[i], q, r, List.getElem?_eq_getElem hlt, List.getElem?_eq_getElem hlt2⟩, Pv (i + 1), fun H' p' => ⟨_, by omega, rfl, hlt, p'⟩, fun x H' y => ?_⟩
    obtain ⟨T, z, u, rfl, hT, rfl, hz, hu⟩ := y
    exact hs i z u H T (hz xs q) (hu ys r) p hT
  · have e : i = xs.length := by omega
    subst e
    exact .inl ⟨⟨xs, ys, q, r, .inl (Nat.le_refl _)⟩, hd H p⟩
/-! words as data -/
def wD : Option Bool → PyData
  | none => .none
  | some b => .bool b
def uD : Option Nat → PyData
  | none => .none
  | some q => .int (Int.ofNat q)
def dw (c : List (Option Bool)) : List PyData := c.map wD
def du (c : List (Option Nat)) : List PyData := c.map uD
def dls (ls : List (List (Option Bool))) : List PyData := ls.map fun r => .tuple (dw r)
theorem dw_lay : ∀ c, PyData.canLayAll0 (dw c) = true
  | [] => rfl
  | a :: l => by
    show (PyData.canLay0 (wD a) && PyData.canLayAll0 (dw l)) = true
    rw [dw_lay l]
    cases a <;> rfl
theorem dw_depth : ∀ c, PyData.depthAll (dw c) = 0
  | [] => rfl
  | a :: l => by
    show max (PyData.depth (wD a)) (PyData.depthAll (dw l)) = 0
    rw [dw_depth l]
    cases a <;> rfl
theorem dw_eqv : ∀ c, PyData.eqvAll (dw c) (dw c) = true
  | [] => by simp [dw, PyData.eqvAll]
  | a :: l => by
    show PyData.eqvAll (wD a :: dw l) (wD a :: dw l) = true
    rw [PyData.eqvAll, dw_eqv l]
    cases a with
    | none => simp [wD, PyData.eqv]
    | some b => cases b <;> simp [wD, PyData.eqv]
theorem du_lay : ∀ c, PyData.canLayAll0 (du c) = true
  | [] => rfl
  | a :: l => by
    show (PyData.canLay0 (uD a) && PyData.canLayAll0 (du l)) = true
    rw [du_lay l]
    cases a <;> rfl
theorem du_depth : ∀ c, PyData.depthAll (du c) = 0
  | [] => rfl
  | a :: l => by
    show max (PyData.depth (uD a)) (PyData.depthAll (du l)) = 0
    rw [du_depth l]
    cases a <;> rfl
theorem du_eqv : ∀ c, PyData.eqvAll (du c) (du c) = true
  | [] => by simp [du, PyData.eqvAll]
  | a :: l => by
    show PyData.eqvAll (uD a :: du l) (uD a :: du l) = true
    rw [PyData.eqvAll, du_eqv l]
    cases a with
    | none => simp [uD, PyData.eqv]
    | some b => simp [uD, PyData.eqv]
theorem dls_lay : ∀ c, PyData.canLayAll0 (dls c) = true
  | [] => rfl
  | a :: l => by
    show (PyData.canLayAll0 (dw a) && PyData.canLayAll0 (dls l)) = true
    rw [dls_lay l, dw_lay]
    rfl
theorem dls_depth : ∀ c, PyData.depthAll (dls c) ≤ 1
  | [] => Nat.zero_le _
  | a :: l => by
    show max (PyData.depthAll (dw a) + 1) (PyData.depthAll (dls l)) ≤ 1
    have := dls_depth l
    rw [dw_depth]
    omega
theorem dls_eqv : ∀ c, PyData.eqvAll (dls c) (dls c) = true
  | [] => by simp [dls, PyData.eqvAll]
  | a :: l => by
    show PyData.eqvAll (.tuple (dw a) :: dls l) (.tuple (dw a) :: dls l) = true
    rw [PyData.eqvAll, dls_eqv l, PyData.eqv, dw_eqv]
    rfl
def wordsPD (us : List (Option Nat)) (ls : List (List (Option Bool))) : PyData := .tuple [.tuple (du us), .tuple (dls ls)]
theorem wordsPD_shaped (us : List (Option Nat)) (ls : List (List (Option Bool))) : SeqAt.shaped (wordsPD us ls) = true := by
  show (PyData.canLayAll0 [.tuple (du us), .tuple (dls ls)] && decide (PyData.depthAll [.tuple (du us), .tuple (dls ls)] + 1 ≤ 64)) = true
  have e1 : PyData.canLayAll0 [.tuple (du us), .tuple (dls ls)] = true := by
    show (PyData.canLayAll0 (du us) && (PyData.canLayAll0 (dls ls) && true)) = true
    rw [du_lay, dls_lay]
    rfl
  have e2 : PyData.depthAll [.tuple (du us), .tuple (dls ls)] + 1 ≤ 64 := by
    show max (PyData.depthAll (du us) + 1) (max (PyData.depthAll (dls ls) + 1) 0) + 1 ≤ 64
    have := dls_depth ls
    rw [du_depth]
    omega
  rw [e1, decide_eq_true e2]
  rfl
theorem wordsPD_eqv (us : List (Option Nat)) (ls : List (List (Option Bool))) : PyData.eqv (wordsPD us ls) (wordsPD us ls) = true := by
  show PyData.eqv (.tuple [.tuple (du us), .tuple (dls ls)]) (.tuple [.tuple (du us), .tuple (dls ls)]) = _
  rw [PyData.eqv, PyData.eqvAll, PyData.eqvAll, PyData.eqvAll, PyData.eqv, PyData.eqv, du_eqv, dls_eqv]
  rfl
theorem dpAll_wds {K : PySem.W.Frag} {H : Hp} : ∀ c : List (Option Bool), DpAll K H (wds c) (dw c)
  | [] => .nil
  | none :: l => .cons .non (dpAll_wds l)
  | some b :: l => .cons (.bl b) (dpAll_wds l)
theorem dpAll_upvs {K : PySem.W.Frag} {H : Hp} : ∀ c : List (Option Nat), DpAll K H (upvs c) (du c)
  | [] => .nil
  | none :: l => .cons .non (dpAll_upvs l)
  | some b :: l => .cons (.int _) (dpAll_upvs l)
theorem apartN_snoc : ∀ {l m : List Nat} (a b : Nat), l.length = m.length → apartN (l ++ [a]) (m ++ [b]) = apartN l m + if a = b then 0 else 1
  | [], [], a, b, _ => by
    show (if a = b then 0 else 1) + 0 = 0 + _
    omega
  | [], _ :: _, _, _, h => by simp at h
  | _ :: _, [], _, _, h => by simp at h
  | x :: l, y :: m, a, b, h => by
    have ih := apartN_snoc (l := l) (m := m) a b (by simpa using h)
    show (if x = y then 0 else 1) + apartN (l ++ [a]) (m ++ [b]) = (if x = y then 0 else 1) + apartN l m + _
    rw [ih]
    omega
theorem apartN_le : ∀ (l m : List Nat) (k : Nat), l.length ≤ k → apartN l m ≤ k
  | [], m, k, _ => by
    cases m <;> exact Nat.zero_le _
  | _ :: _, [], k, _ => Nat.zero_le _
  | x :: l, y :: m, 0, h => absurd h (by rw [List.length_cons]; omega)
  | x :: l, y :: m, k + 1, h => by
    have ih := apartN_le l m k (by rw [List.length_cons] at h; omega)
    show (if x = y then 0 else 1) + apartN l m ≤ k + 1
    split <;> omega
end Fv
set_option maxRecDepth 100000
set_option maxHeartbeats 1000000
namespace Fv
open PySem PySem.Spec PyProof.Rows L2
section
variable {P : Program} {w : World} {K : PySem.W.Frag} {mg : Str → Option Value} {base : Heap} {k : Nat} {f : Addr} {fd : FuncData} {ps : List Str} {sp sp' : Sp}
/-- from which nothing comes out serves where something may -/
theorem fnUp (G : FnOk P w K mg base CX0 k f fd ps sp) : FnOk P w K mg base (L2.CX P w) k f fd ps sp :=
  ⟨G.len, fun A outer s H args us vs Q E hr e0 hb r h => codeAny_mono (G.run A outer s H args us vs Q E hr e0 hb r h) fun r s' q => by
    cases r with
    | error e => exact (show False from q).elim
    | ok fl => cases fl <;> exact q⟩
/-- two promises of one def -/
theorem fnOr {CX : CXT} (G : FnOk P w K mg base CX k f fd ps sp) (G' : FnOk P w K mg base CX k f fd ps sp') : FnOk P w K mg base CX k f fd ps (fun vs H Q E => sp vs H Q E ∨ sp' vs H Q E) :=
  ⟨fun vs H Q E h => h.elim (G.len vs H Q E) (G'.len vs H Q E), fun A outer s H args us vs Q E hr e0 hb r h => h.elim (G.run A outer s H args us vs Q E hr e0 hb r) (G'.run A outer s H args us vs Q E hr e0 hb r)⟩
end
/-- isinstance(e, C), e the caught error without fields, whatever its class -/
def rIsM (K : PySem.W.Frag) (a : Addr) (cls : Value) (d : Option Addr) : List V → Hp → VK → Prop := fun xs H Q => ∃ (D : Addr) (c : V) (cv : Value) (b : Bool), cls = .ref D ∧ d = none ∧ L2.ExcC K D ∧ xs = [.ref a, c] ∧ (∀ u, RelV c u → u = cv) ∧ PySem.W.kitOne K (.ref D) cv = some b ∧ Q (.bl b) H
theorem call_isM {X : Cx} {K : PySem.W.Frag} {a : Addr} {oe : Obj} {cls : Value} {d : Option Addr} {pn : List (Addr × Obj)} (eK : X.K = K) (hz : Zc cls d oe) (hf : ∃ vs, oe.data = .fields vs) : CallR (X.suite a ((a, oe) :: pn)) (.builtin "isinstance") (rIsM K a cls d) := by
  subst eK
  intro pins s σ H xs us Q I r h
  obtain ⟨D, c, cv, b, rfl, rfl, hC, rfl, hcv, e, q⟩ := h
  exact call_isE hC hz hf pins s σ H _ us Q I r ⟨c, cv, b, rfl, hcv, e, q⟩
theorem mt_indexK {X : Cx} {K : PySem.W.Frag} (e : X.K = K) : MtR X "list.index" (rIndex K) := by
  subst e
  exact mt_index
section
variable {K : PySem.W.Frag} {H : Hp} {Q : VK} {a C dx : Addr} {fs : List (Str × V)}
theorem isi_insTuple (c : IsC K C) (nt : PySem.W.kitOne K (.ref C) (.type "tuple") = some false) (h : H a = some (.ins C dx fs)) (q : Q (.bl false) H) : rIsi K [.ref a, .ty "tuple"] H Q :=
  ⟨.ref a, .ty "tuple", .ref C, .type "tuple", false, rfl, .ty "tuple", .base (.ins h c.cl c.ha c.hn c.ht c.hm), nt, q⟩
end
end Fv
set_option maxRecDepth 100000
set_option maxHeartbeats 1000000
namespace Fv
open PySem PySem.Spec L2 PyProof.Rows
/-- isinstance(e, T), T a built-in class, e the caught error, which holds a field -/
def rIsFT (K : PySem.W.Frag) (D a : Addr) (cls : Value) (d : Option Addr) : List V → Hp → VK → Prop := fun xs H Q => ∃ (T : String) (dd : Addr) (fs : List (Str × V)), xs = [.ref a, .ty T] ∧ cls = .ref D ∧ d = some dd ∧ H dd = some (.xd fs) ∧ PySem.W.kitOne K (.ref D) (.type T) = some true ∧ Q (.bl true) H
theorem call_isFT {X : Cx} {a D : Addr} {oe : Obj} {cls : Value} {d : Option Addr} {pn : List (Addr × Obj)} (C : L2.ExcC X.K D) (hz : Zc cls d oe) (hf : ∃ vs, oe.data = .fields vs) : CallR (X.suite a ((a, oe) :: pn)) (.builtin "isinstance") (rIsFT X.K D a cls d) := by
  intro pins s σ H xs us Q I r h
  obtain ⟨B, dd, fs, rfl, rfl, rfl, ea, e, q⟩ := h
  cases r with
  | cons rx rr =>
    cases rr with
    | cons rt rr =>
      cases rr
      cases rx
      cases rt
      obtain ⟨hget, _⟩ := I.pin (a, oe) (List.mem_append.mpr (.inl List.mem_cons_self))
      obtain ⟨vs, hv⟩ := hf
      have hx : ObjOk X.prog X.w H s.heap dd (.xd fs) := I.hok dd _ ea
      obtain ⟨mA, hns, hr⟩ := hx
      obtain ⟨od, ho, hl⟩ := lookIn_ns hns
      have J : PySem.W.InstAt s.heap a oe D (some od) := ⟨hget, hz.1, by unfold PySem.W.notCls; rw [hv] <;> rfl, by rw [hz.2]; exact ho⟩
      have hcl : (PySem.W.clsIn X.K D).isSome = true := by
        obtain ⟨cd, hc, _⟩ := PySem.W.any_some C.hd
        rw [hc]
        rfl
      exact PySem.W.kia_one (PySem.W.kitx_exc hcl C.hg C.hk C.hs C.ha C.hn C.ht C.hm) I.kIn J e (fun z => nomatch z) fun tk => ⟨.bl true, H, I.kept (t' := tk) fun _ _ z => z, rfl, q⟩
theorem du_eqvD : ∀ c d : List (Option Nat), PyData.eqvAll (du c) (du d) = decide (c = d)
  | [], [] => by simp [du, PyData.eqvAll]
  | [], _ :: _ => by simp [du, PyData.eqvAll]
  | _ :: _, [] => by simp [du, PyData.eqvAll]
  | a :: l, b :: m => by
    show PyData.eqvAll (uD a :: du l) (uD b :: du m) = _
    rw [PyData.eqvAll, du_eqvD l m, Bool.eq_iff_iff]
    cases a <;> cases b <;> simp [uD, PyData.eqv]
    intro _
    omega
theorem dw_eqvD : ∀ c d : List (Option Bool), PyData.eqvAll (dw c) (dw d) = decide (c = d)
  | [], [] => by simp [dw, PyData.eqvAll]
  | [], _ :: _ => by simp [dw, PyData.eqvAll]
  | _ :: _, [] => by simp [dw, PyData.eqvAll]
  | a :: l, b :: m => by
    show PyData.eqvAll (wD a :: dw l) (wD b :: dw m) = _
    rw [PyData.eqvAll, dw_eqvD l m, Bool.eq_iff_iff]
    cases a <;> cases b <;> simp [wD, PyData.eqv]
theorem dls_eqvD : ∀ c d : List (List (Option Bool)), PyData.eqvAll (dls c) (dls d) = decide (c = d)
  | [], [] => by simp [dls, PyData.eqvAll]
  | [], _ :: _ => by simp [dls, PyData.eqvAll]
  | _ :: _, [] => by simp [dls, PyData.eqvAll]
  | a :: l, b :: m => by
    show PyData.eqvAll (.tuple (dw a) :: dls l) (.tuple (dw b) :: dls m) = _
    rw [PyData.eqvAll, dls_eqvD l m, PyData.eqv, dw_eqvD, Bool.eq_iff_iff]
    simp
/-! C(..) in the body of a try: what the cells hold is known in the suite -/
section
variable {X : Cx} {CX : CXT} {k : Nat} {f C : Addr} {fd : FuncData} {ps : List Str} {sp : Sp} {dvs : List V} {ds : List Value} {E : L2.St → XK} {x : Str} {p pos : Pos} {e : Expr} {es : List Expr} {t : TA}
theorem run_makeS {pins : List (Addr × Obj)} {σ : L2.St} {H : Hp} {s : Shared} {Q : VK} {us : List Value} {vs : List V} (M : Mk X.K C f) (F : FnOk X.prog X.w X.K X.mg X.base CX k f fd ps sp) (hr : Room (k + 1) X.A) (hb : Binds X.K fd ps ds) (hd : Vals dvs ds)
    (hx : L2.PassesAt CX X σ (E σ)) (I : Inv X pins σ H s) (r : Vals vs us)
    (h : ∀ x dx, H x = none → H dx = none → dx ≠ x → sp (.ref x :: (vs ++ dvs)) (upd (upd H dx (.own x)) x (.ins C dx [])) (fun v H2 => v = .non ∧ Q (.ref x) H2) (E σ)) :
    wpAny (model X.prog X.w) X.A (call (.ref C) us) (EP X pins σ Q) X.xe s := by
  have hq := h (s.heap.objs.size + 1) s.heap.objs.size (I.hok.fresh (Nat.le_succ _)) (I.hok.fresh (Nat.le_refl _)) (Nat.ne_of_lt (Nat.lt_succ_self _))
  have I2 := Inv.made (C := C) I
  have r2 : Vals (V.ref (s.heap.objs.size + 1) :: (vs ++ dvs)) (Value.ref (s.heap.objs.size + 1) :: (us ++ ds)) := .cons rfl (r.append hd)
  have hl : (Value.ref (s.heap.objs.size + 1) :: us ++ ds).length = ps.length := by
    have e := r2.length
    rw [F.len _ _ _ _ hq] at e
    exact e.symm
  refine wpAny_call (make_map (f := f) I.kIn M.makes M.init (beq_iff_eq.mp M.fn) (codeAny_mono (F.run _ X.stack _ _ ⟨Value.ref (s.heap.objs.size + 1) :: us, []⟩ (Value.ref (s.heap.objs.size + 1) :: (us ++ ds)) _ _ (E σ) (hr.make C us [])
    (I2.env0.make C us []) (hb _ (Value.ref (s.heap.objs.size + 1) :: us) I2.kIn hl) r2 hq) fun r s' hq' => ?_))
  cases r with
  | error e => exact hx pins _ _ e s' I2 hq'
  | ok fl =>
    cases fl with
    | ret u =>
      obtain ⟨v, H', I3, rv, ev, q3⟩ := I2.after hq'
      subst ev
      exact ⟨rv, ⟨V.ref (s.heap.objs.size + 1), H', I3, rfl, q3⟩⟩
    | next => exact False.elim hq'
    | brk => exact False.elim hq'
    | cont => exact False.elim hq'
def tMakeS (C : Addr) (sp : Sp) (dvs : List V) (E : L2.St → XK) (t : TA) : TE := fun σ H Q => t σ H fun vs H1 => ∀ x dx, H1 x = none → H1 dx = none → dx ≠ x → sp (.ref x :: (vs ++ dvs)) (upd (upd H1 dx (.own x)) x (.ins C dx [])) (fun v H2 => v = .non ∧ Q (.ref x) H2) (E σ)
theorem pe_makeS (M : Mk X.K C f) (F : FnOk X.prog X.w X.K X.mg X.base CX k f fd ps sp) (hr : Room (k + 1) X.A) (hg : Gl X x) (hm : X.mg x = some (.ref C)) (hb : Binds X.K fd ps ds) (hd : Vals dvs ds) (hx : ∀ σ, L2.PassesAt CX X σ (E σ))
    (ha : PA X (e :: es) t) (hdb : (x == ("__debug__" : Str)) = false := by decide) (he : starEach (e :: es) X.env = (false, eval e X.env) :: starEach es X.env := by rfl) (hpl : (backTo pos (starEach es X.env)).any (·.1) = false := by rfl) :
    PE X (.Call (.Name x p) (e :: es) [] pos) (tMakeS C sp dvs E t) := by
  refine ⟨fun pins s σ H Q I h => ?_⟩
  refine wpAny_Call_Name_kw (ld_glob I hg hm ?_ hdb)
  refine PySem.W.callWith_K (h₀ := X.base) I.ok.mod.kin M.kp (thn (ha.run pos pins s σ H _ I h) fun us s1 ⟨vs, H1, I1, r, q⟩ => ⟨I1.kIn, ?_⟩) he hpl
  exact run_makeS M F hr hb hd (hx σ) I1 r q
theorem x_makeS {C : Addr} {sp : Sp} {dvs : List V} {E : L2.St → XK} {t : TA} {σ : L2.St} {H : Hp} {Q : VK} (h : t σ H fun vs H1 => ∀ x dx, H1 x = none → H1 dx = none → dx ≠ x → sp (.ref x :: (vs ++ dvs)) (upd (upd H1 dx (.own x)) x (.ins C dx [])) (fun v H2 => v = .non ∧ Q (.ref x) H2) (E σ)) : tMakeS C sp dvs E t σ H Q := h
end
end Fv
set_option maxRecDepth 100000
set_option maxHeartbeats 1000000
namespace Fv
open PySem PySem.Spec PyProof.Rows L2 RZ
theorem lc_zipL {K : PySem.W.Frag} {a b : Addr} {xs ys : List V} (hxy : xs.length = ys.length) {g : TG} {tt : TT} {te : TE} {vs : List Nat} {σ : L2.St} {H1 : Hp} {D : Addr} {Qd : Hp → Prop} (Pv : Nat → Hp → Prop) (h0 : Pv 0 (upd H1 D (.lst []))) (hl : ∀ i H, i ≤ xs.length → Pv i H → SqL K H a xs ∧ SqL K H b ys)
    (hs : ∀ i x y H T, xs[i]? = some x → ys[i]? = some y → Pv i H → H T = none → g (.ref T) (wipe σ vs) (upd H T (.tup [x, y])) fun σ2 H2 => wipe σ2 vs = wipe σ vs ∧ tt σ2 H2 fun b H3 =>
      if b = true then te σ2 H3 fun y H4 => ∃ acc, H4 D = some (.lst acc) ∧ acc.length < sizeLine ∧ Pv (i + 1) (upd H4 D (.lst (acc ++ [y]))) else Pv (i + 1) H3) (hd : ∀ H, Pv xs.length H → Qd H) :
    ∃ W : Nat → Nat → Hp → Prop, (∃ m, W 0 m (upd H1 D (.lst []))) ∧ ∀ i m H, W i m H → ((Itz K a b).stop i H ∧ Qd H) ∨ ((Itz K a b).go i H ∧ ∃ Nx : Hp → Prop, (∀ H', Nx H' → ∃ m', m' < m ∧ W (i + 1) m' H') ∧ ∀ x H', (Itz K a b).yld i H x H' → g x (wipe σ vs) H' fun σ2 H2 => wipe σ2 vs = wipe σ vs ∧ tt σ2 H2 fun b H3 =>
        if b = true then te σ2 H3 fun y H4 => ∃ acc, H4 D = some (.lst acc) ∧ acc.length < sizeLine ∧ Nx (upd H4 D (.lst (acc ++ [y]))) else Nx H3) := by
  refine ⟨fun i m H => m = xs.length - i ∧ i ≤ xs.length ∧ Pv i H, ⟨_, rfl, Nat.zero_le _, h0⟩, ?_⟩
  rintro i m H ⟨rfl, hi, p⟩
  obtain ⟨q, r⟩ := hl i H hi p
  by_cases hlt : i < xs.length
  · have hlt2 : i < ys.length := by omega
    refine .inr ⟨⟨xs, ys, xs[i], ys[i], q, r, List.getElem?_eq_getElem hlt, List.getElem?_eq_getElem hlt2⟩, Pv (i + 1), fun H' p' => ⟨_, by omega, rfl, hlt, p'⟩, fun x H' y => ?_⟩
    obtain ⟨T, z, u, rfl, hT, rfl, hz, hu⟩ := y
    exact hs i z u H T (hz xs q) (hu ys r) p hT
  · have e : i = xs.length := by omega
    subst e
    exact .inl ⟨⟨xs, ys, q, r, .inl (Nat.le_refl _)⟩, hd H p⟩
/-- two values compared through and through: what comes of it -/
def Cm (H : Hp) : Nat → V → V → Bool → Prop
  | 0, x, y, r => sca x = true ∧ sca y = true ∧ r = decide (x = y)
  | n + 1, x, y, r => (sca x = true ∧ sca y = true ∧ r = decide (x = y)) ∨
      (∃ (a b : Addr) (xs ys : List V), x = .ref a ∧ y = .ref b ∧ ((H a = some (.lst xs) ∧ H b = some (.lst ys)) ∨ (H a = some (.tup xs) ∧ H b = some (.tup ys))) ∧ xs.length ≤ 1000 ∧ ys.length ≤ 1000 ∧
        ((xs.length ≠ ys.length ∧ r = false) ∨ (xs.length = ys.length ∧ ∃ rs : List Bool, rs.length = xs.length ∧ r = rs.all id ∧ ∀ i (h1 : i < xs.length) (h2 : i < ys.length) (h3 : i < rs.length), Cm H n xs[i] ys[i] rs[i])))
theorem Cm.same {H H' : Hp} : ∀ {n : Nat} {x y : V} {r : Bool}, Same H H' → Cm H n x y r → Cm H' n x y r
  | 0, _, _, _, _, h => h
  | n + 1, x, y, r, s, h => by
    rcases h with h | ⟨a, b, xs, ys, e1, e2, h1, hx, hy, h⟩
    · exact .inl h
    · refine .inr ⟨a, b, xs, ys, e1, e2, ?_, hx, hy, ?_⟩
      · rcases h1 with ⟨h1, h2⟩ | ⟨h1, h2⟩
        · exact .inl ⟨s _ _ h1, s _ _ h2⟩
        · exact .inr ⟨s _ _ h1, s _ _ h2⟩
      · rcases h with h | ⟨hl, rs, r1, r2, h⟩
        · exact .inl h
        · exact .inr ⟨hl, rs, r1, r2, fun i k1 k2 k3 => (h i k1 k2 k3).same s⟩
/-! words as data, compared -/
theorem dw_eq : ∀ c d : List (Option Bool), PyData.eqvAll (dw c) (dw d) = decide (c = d)
  | [], [] => by simp [dw, PyData.eqvAll]
  | [], _ :: _ => by simp [dw, PyData.eqvAll]
  | _ :: _, [] => by simp [dw, PyData.eqvAll]
  | a :: l, b :: m => by
    show PyData.eqvAll (wD a :: dw l) (wD b :: dw m) = _
    rw [PyData.eqvAll, dw_eq l m, Bool.eq_iff_iff]
    cases a <;> cases b <;> simp [wD, PyData.eqv]
theorem du_eq : ∀ c d : List (Option Nat), PyData.eqvAll (du c) (du d) = decide (c = d)
  | [], [] => by simp [du, PyData.eqvAll]
  | [], _ :: _ => by simp [du, PyData.eqvAll]
  | _ :: _, [] => by simp [du, PyData.eqvAll]
  | a :: l, b :: m => by
    show PyData.eqvAll (uD a :: du l) (uD b :: du m) = _
    rw [PyData.eqvAll, du_eq l m, Bool.eq_iff_iff]
    cases a <;> cases b <;> simp [uD, PyData.eqv]
    intro _
    omega
theorem dls_eq : ∀ c d : List (List (Option Bool)), PyData.eqvAll (dls c) (dls d) = decide (c = d)
  | [], [] => by simp [dls, PyData.eqvAll]
  | [], _ :: _ => by simp [dls, PyData.eqvAll]
  | _ :: _, [] => by simp [dls, PyData.eqvAll]
  | a :: l, b :: m => by
    show PyData.eqvAll (.tuple (dw a) :: dls l) (.tuple (dw b) :: dls m) = _
    rw [PyData.eqvAll, dls_eq l m, PyData.eqv, dw_eq, Bool.eq_iff_iff]
    simp
def wholeD (n : Nat) (us : List (Option Nat)) (ls : List (List (Option Bool))) : PyData := .tuple [.int (n : Int), .tuple (du us), .tuple (dls ls)]
theorem wholeD_shaped (n : Nat) (us : List (Option Nat)) (ls : List (List (Option Bool))) : SeqAt.shaped (wholeD n us ls) = true := by
  show (PyData.canLayAll0 [.int (n : Int), .tuple (du us), .tuple (dls ls)] && decide (PyData.depthAll [.int (n : Int), .tuple (du us), .tuple (dls ls)] + 1 ≤ 64)) = true
  have e1 : PyData.canLayAll0 [.int (n : Int), .tuple (du us), .tuple (dls ls)] = true := by
    show (true && (PyData.canLayAll0 (du us) && (PyData.canLayAll0 (dls ls) && true))) = true
    rw [du_lay, dls_lay]
    rfl
  have e2 : PyData.depthAll [.int (n : Int), .tuple (du us), .tuple (dls ls)] + 1 ≤ 64 := by
    show max 0 (max (PyData.depthAll (du us) + 1) (max (PyData.depthAll (dls ls) + 1) 0)) + 1 ≤ 64
    have := dls_depth ls
    rw [du_depth]
    omega
  rw [e1, decide_eq_true e2]
  rfl
theorem wholeD_eqv {n n' : Nat} {us us' : List (Option Nat)} {ls ls' : List (List (Option Bool))} : PyData.eqv (wholeD n us ls) (wholeD n' us' ls') = decide (n = n' ∧ us = us' ∧ ls = ls') := by
  show PyData.eqv (.tuple [.int (n : Int), .tuple (du us), .tuple (dls ls)]) (.tuple [.int (n' : Int), .tuple (du us'), .tuple (dls ls')]) = _
  rw [PyData.eqv, PyData.eqvAll, PyData.eqvAll, PyData.eqvAll, PyData.eqvAll, PyData.eqv, PyData.eqv, PyData.eqv, du_eq, dls_eq, Bool.eq_iff_iff]
  simp
  intro _ _
  omega
end Fv
set_option maxRecDepth 100000
set_option maxHeartbeats 1000000
namespace Fv
open PySem PySem.Spec PySem.SeqAt PyProof.Rows L2
/-! t[::-1], t a tuple -/
theorem rev_adjust (n : Nat) : Builtin.Slice.sliceAdjust none none (-1) (n : Int) = ((n : Int) - 1, -1) := by
  first
  | rfl
  | (unfold Builtin.Slice.sliceAdjust; simp)
theorem rev_places (n : Nat) : Builtin.Slice.slicePlaces ((n : Int) - 1) (-1) (-1) = n := by
  unfold Builtin.Slice.slicePlaces
  simp
  all_goals omega
theorem fm_congr {α β : Type} {f g : α → Option β} : ∀ {l : List α}, (∀ x ∈ l, f x = g x) → l.filterMap f = l.filterMap g
  | [], _ => rfl
  | a :: l, h => by
    rw [List.filterMap_cons, List.filterMap_cons, h a List.mem_cons_self, fm_congr fun x hx => h x (List.mem_cons_of_mem _ hx)]
theorem rev_pick (xs : Array Value) : ((List.range xs.size).filterMap fun (k : Nat) => xs[(((xs.size : Int) - 1) + (k : Int) * (-1)).toNat]?).toArray = xs.toList.reverse.toArray := by
  have e : (List.range xs.size).filterMap (fun (k : Nat) => xs[(((xs.size : Int) - 1) + (k : Int) * (-1)).toNat]?) = ((List.range xs.size).map fun k => xs.size - 1 - k).filterMap (xs[·]?) := by
    rw [List.filterMap_map]
    refine fm_congr fun k hk => ?_
    have := List.mem_range.mp hk
    show xs[(((xs.size : Int) - 1) + (k : Int) * (-1)).toNat]? = xs[xs.size - 1 - k]?
    congr 1
    omega
  rw [e, PySem.W.krv_range, List.filterMap_reverse, PySem.W.krv_all]
section
variable {prog : Program} {w : World} {A : Around} {E : Value → Shared → Prop} {s : Shared}
theorem getItem_tuple_rev {t sl : Addr} {items : Array Value} {vl vu vs : Value} {Q : Value → Shared → Prop} (ht : IsTup s.heap t items) (hs : s.heap.IsSliceOf sl vl vu vs) (pl : IsPart vl none) (pu : IsPart vu none) (ps : IsPart vs (some (-1)))
    (h : Q (.ref s.heap.objs.size) { s with heap := s.heap.push { cls := .type "tuple", data := .seq items.toList.reverse.toArray } })
    (hsz : items.size ≤ sizeLine) : wpAny (model prog w) A (getItem (.ref t) (.ref sl)) Q E s := by
  have htake : sizeOk (.seq items.toList.reverse.toArray) := by
    show items.toList.reverse.toArray.size ≤ sizeLine
    rw [List.size_toArray, List.length_reverse, Array.length_toList]
    exact hsz
  obtain ⟨os, hos, hcs, hds⟩ := id hs
  have hTs : s.TypeIs (.ref sl) "slice" := ⟨os, hos, hcs⟩
  unfold getItem
  try with_reducible refine wpAny_holding ?_
  first | refine wpAny_bind (wpAny_pure ?_) | skip
  refine wpAny_bind (wpAny_sequenceKey ht.typeIs (by decide) ?_)
  refine wpAny_bind (wpAny_callSpecial?_slot (name := Str.ofString "__getitem__") ht.typeIs PyProof.Rows.slot_tuple_getitem
    (wpAny_call_entry PyProof.Rows.slot_tuple_getitem ht.typeIs PyProof.Rows.entry_tuple_getitem ?_ (PyProof.Rows.args_tuple_getitem _ _)))
  show wpAny _ _ (Builtin.Tuple.tupleItemsOf (.ref t) >>= _) _ _ s
  refine wpAny_bind (tupleItemsOf_ ht ?_)
  refine wpAny_bind (wpAny_typeOf hTs ?_)
  rw [if_pos (by decide)]
  have app : ∀ {A : Around} {E : Value → Shared → Prop} {Q : Int × Int × Nat → Shared → Prop}, Q ((items.size : Int) - 1, -1, items.size) s → wpAny (model prog w) A (Builtin.Slice.sliceApplied (.ref sl) (pure (items.size : Int))) Q E s := fun {A E Q} h => by
    unfold Builtin.Slice.sliceApplied Builtin.Slice.sliceFields
    refine wpAny_bind (wpAny_bind (wpAny_field hos hds (x := vl) rfl (wpAny_bind (wpAny_field hos hds (x := vu) rfl (wpAny_bind (wpAny_field hos hds (x := vs) rfl (wpAny_pure ?_)))))))
    refine wpAny_bind (HT.slicePart_ ps ?_)
    show wpAny _ _ (if ((-1 : Int) == 0) = true then _ else _) _ _ s
    rw [if_neg (by decide)]
    refine wpAny_bind (HT.slicePart_ pl (wpAny_bind (HT.slicePart_ pu (wpAny_bind (wpAny_pure ?_)))))
    show wpAny _ _ (match Builtin.Slice.sliceAdjust none none (-1) (items.size : Int) with | (lo, hi) => pure (lo, (-1 : Int), Builtin.Slice.slicePlaces lo hi (-1))) _ _ s
    rw [rev_adjust]
    show wpAny _ _ (pure ((items.size : Int) - 1, (-1 : Int), Builtin.Slice.slicePlaces ((items.size : Int) - 1) (-1) (-1))) _ _ s
    rw [rev_places]
    exact wpAny_pure h
  refine wpAny_bind (app ?_)
  have hno : ¬ (((items.size : Int) - 1 == 0 && (-1 : Int) == 1 && items.size == items.size) = true) := by
    intro q
    rw [Bool.and_eq_true, Bool.and_eq_true] at q
    exact absurd q.1.2 (by decide)
  show wpAny _ _ (if ((items.size : Int) - 1 == 0 && (-1 : Int) == 1 && items.size == items.size) = true then _ else _) _ _ s
  rw [if_neg hno, rev_pick]
  first
    | exact wpAny_bind (m := Builtin.Tuple.tupleExact _) (wpAny_newObj_type (wpAny_pure ⟨_, rfl, wpAny_pure h⟩) htake)
    | exact wpAny_bind (m := Builtin.Tuple.tupleExact _) (wpAny_newObj_type (wpAny_bind (wpAny_pure (wpAny_pure ⟨_, rfl, wpAny_pure h⟩))) htake)
    | exact wpAny_bind (wpAny_bind (m := Builtin.Tuple.tupleExact _) (wpAny_newObj_type (wpAny_pure (wpAny_pure ⟨_, rfl, wpAny_pure h⟩)) htake))
    | exact wpAny_bind (wpAny_bind (m := Builtin.Tuple.tupleExact _) (wpAny_newObj_type (wpAny_pure ⟨_, rfl, wpAny_pure h⟩) htake))
end
def tRevT (K : PySem.W.Frag) (te : TE) : TE := fun σ H Q => te σ H fun x H1 => ∃ a xs, x = .ref a ∧ SqT K H1 a xs ∧ ∀ p, H1 p = none → Q (.ref p) (upd H1 p (.tup xs.reverse))
section
variable {X : Cx}
theorem pe_revT {K : PySem.W.Frag} {e : Expr} {te : TE} {k : Nat} {p1 p2 p3 pos : Pos} (eK : X.K = K) (he : PE X e te) : PE X (.Subscript e (.Slice none none (some (.UnaryOp .USub (.Constant (.int 1) k p1) p2)) p3) pos) (tRevT K te) := by
  subst eK
  refine ⟨fun pins s σ H Q I h => ?_⟩
  refine Subscript_ (thn (he.run pins s σ H _ I h) fun v s1 ⟨x, H1, I1, r1, q1⟩ => ?_)
  obtain ⟨a, xs, ex, hx, q⟩ := q1
  subst ex
  cases r1
  have hst : PO X (some (.UnaryOp .USub (.Constant (.int 1) k p1) p2)) (tPart (tUn (rU fun i => .int (-i)) (tC (.int 1)))) := po_some (pe_un un_neg pe_int)
  refine wpAny_Slice (thn (po_none.run pins s1 σ H1 (fun o H2 => o = none ∧ H2 = H1) I1 ⟨rfl, rfl⟩) fun vl s2 ⟨l, H2, I2, pl, el, e2⟩ => ?_)
  subst el e2
  refine thn (po_none.run pins s2 σ H2 (fun o H3 => o = none ∧ H3 = H2) I2 ⟨rfl, rfl⟩) fun vu s3 ⟨u, H3, I3, pu, eu, e3⟩ => ?_
  subst eu e3
  refine thn (hst.run pins s3 σ H3 (fun o H4 => o = some (-1) ∧ H4 = H3) I3 ⟨1, rfl, -1, rfl, rfl, rfl⟩) fun vs s4 ⟨o, H4, I4, ps, eo, e4⟩ => ?_
  subst eo e4
  have I5 : Inv X pins σ H4 { s4 with heap := s4.heap.push { cls := .type "slice", data := .fields #[vl, vu, vs] } } := I4.kept (t' := s4.toks) fun b ob q => Heap.get?_push_of_some _ q
  obtain ⟨its, r, ht, hz⟩ := I5.tuple hx
  have hlen := r.length
  show wpAny (model X.prog X.w) X.A (subscriptTail e (.Slice none none (some (.UnaryOp .USub (.Constant (.int 1) k p1) p2)) p3) (.ref a) (.ref s4.heap.objs.size)) (EP X pins σ Q) X.xe { s4 with heap := s4.heap.push { cls := .type "slice", data := .fields #[vl, vu, vs] } }
  refine tail_any (ops := [.ref a, .ref s4.heap.objs.size]) ht.typeIs (PyProof.Rows.slot_tuple_getitem.lookup) ?_ (by with_unfolding_all rfl)
  refine getItem_tuple_rev ht (Heap.IsSliceOf.new _ vl vu vs) pl pu ps ?_ (by rw [List.size_toArray]; omega)
  refine ⟨.ref _, _, I5.laid (t' := s4.toks) (o := .tup xs.reverse) (fun b ob q => Heap.get?_push_of_some _ q) (Nat.le_refl _) ?_, rfl, q _ (I5.hok.fresh (Nat.le_refl _))⟩
  exact ⟨by rw [List.length_reverse]; exact hz, _, r.reverse, IsTup.new _ _⟩
end
theorem x_revT {K : PySem.W.Frag} {te : TE} {σ : L2.St} {H : Hp} {Q : VK} (h : te σ H fun x H1 => ∃ a xs, x = .ref a ∧ SqT K H1 a xs ∧ ∀ p, H1 p = none → Q (.ref p) (upd H1 p (.tup xs.reverse))) : tRevT K te σ H Q := h
/-! x == n, x of any kind that is known, n a whole number -/
section
variable {prog : Program} {w : World} {A : Around} {E : Value → Shared → Prop} {s : Shared}
theorem int_eq_declines_dict (b : Int) (u : Tok) (l : Addr) (o : Obj) (hc : o.cls = .type "dict") (hd : ∃ es ep, o.data = .dict es ep) :
    Meets (Builtin.«int.__eq__» ⟨[.int b u, .ref l], []⟩) (fun _ R s => s.heap.get? l = some o ∧ R (.ok (.ret .notImplemented)) s) :=
  .of_wp fun prog w A R s h => by
    obtain ⟨hp, g, d, tk, os⟩ := s
    obtain ⟨hl, h⟩ := h
    have hT : (⟨hp, g, d, tk, os⟩ : Shared).TypeIs (.ref l) "dict" := ⟨o, hl, hc⟩
    have f1 := F.sub_dict_int
    wp_walk using wpAny_load hl, wpAny_typeOf hT
    obtain ⟨es, ep, hd⟩ := hd
    rw [hd]
    wp_walk
    exact ⟨_, rfl, h⟩
theorem rc_dict_int {a : Addr} {o : Obj} {b : Int} {u : Tok} {Q : Value → Shared → Prop} (ho : s.heap.get? a = some o) (hc : o.cls = .type "dict") (hd : ∃ es ep, o.data = .dict es ep) (hu : A.units < cLine) (h : Q (.bool false) s) : wpAny (model prog w) A (richCompare .Eq (.ref a) (.int b u)) Q E s := by
  have hT : s.TypeIs (.ref a) "dict" := ⟨o, ho, hc⟩
  refine rc_eq_decline_or (k := false) hT (typeIs_int s b u) (by decide) F.sub_int_dict F.slot_dict_eq F.slot_int_eq_refl
    (fun _ hq => wpAny_call_entry F.slot_dict_eq hT F.entry_dict_eq ?_ (F.args_dict_eq_2 _ _))
    (fun _ hq => call_meets F.slot_int_eq_refl (typeIs_int s b u) F.entry_int_eq (F.args_int_eq_2 _ _) (int_eq_declines_dict b u a o hc hd) ⟨ho, hq⟩)
    (fun _ hq => wpAny_of_eq (rfl : isSame (.ref a) (.int b u) = pure false) hq) (.inr hu) h
  show wpAny _ _ (Builtin.Dict.dictSlotArgs "__eq__" ⟨[.ref a, .int b u], []⟩ >>= _) _ _ s
  refine wpAny_bind ?_
  unfold Builtin.Dict.dictSlotArgs
  refine wpAny_bind (wpAny_notOrdered_dict hT ?_)
  show wpAny _ _ (pure (Value.ref a, Value.int b u)) _ _ s
  refine wpAny_pure ?_
  refine wpAny_bind (wpAny_isInstance (T := "int") (typeIs_int s b u) F.sub_int_dict ?_)
  simp only [Bool.not_false, if_true]
  exact wpAny_bind (wpAny_rule (wpAny_pure ⟨_, rfl, hq⟩))
end
def plainV (H : Hp) (x : V) : Prop := sca x = true ∨ ∃ a, x = .ref a ∧ ((∃ xs, H a = some (.lst xs)) ∨ (∃ xs, H a = some (.tup xs)) ∨ ∃ kvs : List (Key × V), H a = some (.dK kvs))
def rEqA (C : Addr) (sp : Sp) : R2 := fun x y H Q => ∃ n : Int, y = .int n ∧ ((plainV H x ∧ ∀ r : Bool, Q (.bl r) H) ∨
  ∃ a dx fs, x = .ref a ∧ H a = some (.ins C dx fs) ∧ sp [.ref a, .int n] H (fun v H' => ∃ r, v = .bl r ∧ Q (.bl r) H') (fun _ _ _ => False))
theorem int_apart (K : PySem.W.Frag) (C : Addr) : PySem.W.notFirst K C (.type "int") = true := by
  have e : PySem.W.subIn K (.type "int") (.ref C) = some false := by
    have e2 : PySem.fastBuiltinMro "int" = some [.type "int", .type "object"] := by decide +kernel
    show (PySem.fastBuiltinMro "int").map (·.contains (Value.ref C)) = some false
    rw [e2]
    rfl
  unfold PySem.W.notFirst
  rw [e]
  rfl
theorem op_eqA {X : Cx} {C f : Addr} {fd : FuncData} {ps : List Str} {sp : Sp} {n : Nat} (O : OwnQ X.K C f) (F : FnOk X.prog X.w X.K X.mg X.base CX0 n f fd ps sp) (hb : Binds X.K fd ps []) (hr : Room n X.A) : OpR X (compareOp .Eq) (rEqA C sp) := by
  intro pins s σ H x y v u Q I rx ry h
  obtain ⟨n, rfl, h⟩ := h
  obtain ⟨t, rfl⟩ := ry
  show wpAny (model X.prog X.w) X.A (richCompare .Eq v (.int n t)) (EP X pins σ Q) X.xe s
  rcases h with ⟨hp, q⟩ | ⟨a, dx, fs, rfl, ha, hsp⟩
  · have fin : ∀ r : Bool, EP X pins σ Q (.bool r) s := fun r => ⟨.bl r, H, I, rfl, q r⟩
    rcases hp with hs | ⟨a, rfl, ⟨xs, ha⟩ | ⟨xs, ha⟩ | ⟨kvs, ha⟩⟩
    · cases x with
      | non =>
        cases (show v = Value.none from rx)
        exact RcAt.none_int n t _ _ _ _ (fin _)
      | bl b =>
        cases (show v = Value.bool b from rx)
        exact RcAt.bool_int b n t _ _ _ _ (fin _)
      | int i =>
        obtain ⟨t', rfl⟩ := rx
        exact RcAt.int_int i t' n t _ _ _ _ (fin _)
      | str z =>
        obtain ⟨t', rfl⟩ := rx
        exact RcAt.str_int z t' n t _ _ _ _ (fin _)
      | _ => cases hs
    · cases rx
      obtain ⟨its, r, ht, hz⟩ := I.list (SqL.of ha)
      exact RcAt.list_int n t ht.isList hr.units0 _ _ _ _ (fin _)
    · cases rx
      obtain ⟨its, r, ht, hz⟩ := I.tuple (SqT.of ha)
      exact RcAt.tuple_int n t (isTuple_of ht) hr.units0 _ _ _ _ (fin _)
    · cases rx
      obtain ⟨_, _, vs, _, hd⟩ := (show ObjOk X.prog X.w H s.heap a (.dK kvs) from I.hok a _ ha)
      obtain ⟨o', ho', hc'⟩ := id hd.typeIs
      obtain ⟨o, es, ep, ho, _, hd2, _⟩ := hd
      rw [ho] at ho'
      cases ho'
      exact rc_dict_int ho hc' ⟨es, ep, hd2⟩ hr.units0 (fin _)
  · cases rx
    obtain ⟨mA, J, _⟩ := ins_get I.hok ha
    obtain ⟨od, J, _⟩ := J.look
    obtain ⟨m, hF⟩ := I.fr
    have r2 : Vals [V.ref a, V.int n] [Value.ref a, Value.int n t] := .cons rfl (.cons ⟨_, rfl⟩ .nil)
    have back : wpAny (model X.prog X.w) X.A (call (.ref f) [.ref a, .int n t]) (PySem.W.CmpBack (EP X pins σ Q)) X.xe s := by
      refine thn (run_fn F hr hb .nil pass0 I r2 hsp) fun w' s' ⟨z, H', I', rz, r, ez, q⟩ => ?_
      subst ez
      cases rz
      exact ⟨.bl r, H', I', rfl, q⟩
    exact PySem.W.cmp_K (op := .Eq) (tb := .type "int") hr.units0 hF I.ok.mod.kin J (fun A Q E s k q => wpAny_typeOf (typeIs_int _ n t) q) (int_apart X.K C) O.s O.fn back
/-! {i: v} -/
theorem x_disp0 {H : Hp} {Q : VK} {σ : L2.St} {i : Int} {v : V} {tv : TE} (hv : ∀ (G : Hp) (R : VK), R v G → tv σ G R) (q : ∀ p, H p = none → Q (.ref p) (upd H p (.dK [(.inl i, v)]))) : tDisp [(tC (.int i), tv)] σ H Q := fun p hp =>
  hv _ _ ⟨upd_same, [(.inl i, v)], rfl, by show 1 ≤ 15; decide, by rw [upd_upd]; exact q p hp⟩
section
variable {H : Hp} {Q : VK} {xs : List V} {kvs : List (Key × V)}
theorem lstH (h : ∀ p G, Same H G → H p = none → G p = some (.lst xs) → Q (.ref p) G) : ∀ p, H p = none → Q (.ref p) (upd H p (.lst xs)) := fun p hp => h p _ (same_new (Same.refl _) hp) hp upd_same
theorem tupH (h : ∀ p G, Same H G → H p = none → G p = some (.tup xs) → Q (.ref p) G) : ∀ p, H p = none → Q (.ref p) (upd H p (.tup xs)) := fun p hp => h p _ (same_new (Same.refl _) hp) hp upd_same
theorem dKH (h : ∀ p G, Same H G → H p = none → G p = some (.dK kvs) → Q (.ref p) G) : ∀ p, H p = none → Q (.ref p) (upd H p (.dK kvs)) := fun p hp => h p _ (same_new (Same.refl _) hp) hp upd_same
end
end Fv
set_option maxRecDepth 100000
set_option maxHeartbeats 1000000
/-! l[i] op= e of a list -/
namespace Fv
open PySem PySem.Spec PyProof.Rows L2
theorem get_listK {X : Cx} {K : PySem.W.Frag} (eK : X.K = K) : PGet X (rIxL K) := by
  subst eK
  rintro pn z sg G ob ix vo vi R J q1 q2 ⟨ad, cells, kk, val, rfl, rfl, sq, here, go⟩
  cases q1
  obtain ⟨tk, rfl⟩ := q2
  obtain ⟨cs, vals, isl, _⟩ := J.list sq
  obtain ⟨jj, w1, w2, _, w4, w5⟩ := atI_get here
  obtain ⟨got, g1, g2⟩ := vals.get w2
  have ln := vals.length
  have top := line63
  have ends : EP X pn sg R got z := ⟨val, G, J, g2, go⟩
  rcases Int.lt_or_le kk 0 with neg | pos
  · refine wpAny_getItem_list_neg isl.isList neg (by rw [List.size_toArray]; omega) (by omega) ?_ ends
    rw [seqIndex_neg neg w4] at w1
    have at_ : (kk + (cs.toArray.size : Int)).toNat = jj := by rw [List.size_toArray, ← ln]; injection w1
    rw [at_]
    simpa using g1
  · refine wpAny_getItem_list isl.isList pos (by omega) ?_ ends
    rw [seqIndex_of pos w5] at w1
    have at_ : kk.toNat = jj := by injection w1
    rw [at_]
    simpa using g1
end Fv
set_option maxHeartbeats 4000000
/-! elimination without fractions, up to five rows; matrices that tell more on the diagonal than beside it -/
namespace Fv
theorem cb3 (k00 k01 k02 k10 k11 k12 k20 k21 k22 m n00 n01 n02 n10 n11 n12 n20 n21 n22 : Int)
  (h0 : n00 = k11*k22 - k12*k21) (h1 : n01 = k02*k21 - k01*k22) (h2 : n02 = k01*k12 - k02*k11)
  (h3 : n10 = k12*k20 - k10*k22) (h4 : n11 = k00*k22 - k02*k20) (h5 : n12 = k02*k10 - k00*k12)
  (h6 : n20 = k10*k21 - k11*k20) (h7 : n21 = k01*k20 - k00*k21) (h8 : n22 = k00*k11 - k01*k10)
  (hm : m = k00*n00 + k01*n10 + k02*n20) :
  (n00*n11 - n01*n10 = m*k22) ∧ (n00*n12 - n02*n10 = - m*k12) ∧ (n01*n12 - n02*n11 = m*k02) ∧ (n00*n21 - n01*n20 = - m*k21) ∧ (n00*n22 - n02*n20 = m*k11) ∧ (n01*n22 - n02*n21 = -m*k01) ∧ (n10*n21 - n11*n20 = m*k20) ∧ (n10*n22 - n12*n20 = - m*k10) ∧ (n11*n22 - n12*n21 = m*k00) := by
  subst h0 h1 h2 h3 h4 h5 h6 h7 h8 hm
  refine ⟨?_, ?_, ?_, ?_, ?_, ?_, ?_, ?_, ?_⟩ <;> grind
def cb (n00 n01 n02 n10 n11 n12 n20 n21 n22 r0 r1 r2 c0 c1 c2 : Int) : Int := r0*(n00*c0+n01*c1+n02*c2) + r1*(n10*c0+n11*c1+n12*c2) + r2*(n20*c0+n21*c1+n22*c2)
theorem cb_two (n00 n01 n02 n10 n11 n12 n20 n21 n22 r0 r1 r2 s0 s1 s2 c0 c1 c2 d0 d1 d2 : Int) :
  cb n00 n01 n02 n10 n11 n12 n20 n21 n22 r0 r1 r2 c0 c1 c2 * cb n00 n01 n02 n10 n11 n12 n20 n21 n22 s0 s1 s2 d0 d1 d2
  - cb n00 n01 n02 n10 n11 n12 n20 n21 n22 r0 r1 r2 d0 d1 d2 * cb n00 n01 n02 n10 n11 n12 n20 n21 n22 s0 s1 s2 c0 c1 c2
  = (r0*s1-r1*s0)*((n00*n11 - n01*n10)*(c0*d1-c1*d0) + (n00*n12 - n02*n10)*(c0*d2-c2*d0) + (n01*n12 - n02*n11)*(c1*d2-c2*d1))
  + (r0*s2-r2*s0)*((n00*n21 - n01*n20)*(c0*d1-c1*d0) + (n00*n22 - n02*n20)*(c0*d2-c2*d0) + (n01*n22 - n02*n21)*(c1*d2-c2*d1))
  + (r1*s2-r2*s1)*((n10*n21 - n11*n20)*(c0*d1-c1*d0) + (n10*n22 - n12*n20)*(c0*d2-c2*d0) + (n11*n22 - n12*n21)*(c1*d2-c2*d1)) := by
  unfold cb
  grind
abbrev Mat := Nat → Nat → Int
def b1 (a : Mat) : Mat := fun i j => a i j * a 0 0 - a i 0 * a 0 j
def b2 (a : Mat) : Mat := fun i j => (a 0 0 * a 1 1 - a 0 1 * a 1 0) * a i j - a i 0 * (a 1 1 * a 0 j - a 0 1 * a 1 j) - a i 1 * (a 0 0 * a 1 j - a 1 0 * a 0 j)
def sOf (a : Mat) : Mat := fun i j => cb (a 1 1 * a 2 2 - a 1 2 * a 2 1) (a 0 2 * a 2 1 - a 0 1 * a 2 2) (a 0 1 * a 1 2 - a 0 2 * a 1 1) (a 1 2 * a 2 0 - a 1 0 * a 2 2) (a 0 0 * a 2 2 - a 0 2 * a 2 0) (a 0 2 * a 1 0 - a 0 0 * a 1 2) (a 1 0 * a 2 1 - a 1 1 * a 2 0) (a 0 1 * a 2 0 - a 0 0 * a 2 1) (a 0 0 * a 1 1 - a 0 1 * a 1 0) (a i 0) (a i 1) (a i 2) (a 0 j) (a 1 j) (a 2 j)
def b3 (a : Mat) : Mat := fun i j => b2 a 2 2 * a i j - sOf a i j
def tOf (a : Mat) : Mat := fun i j =>
  (a i 0 * a 3 1 - a i 1 * a 3 0) * (a 2 2 * (a 0 j * a 1 3 - a 1 j * a 0 3) - a 1 2 * (a 0 j * a 2 3 - a 2 j * a 0 3) + a 0 2 * (a 1 j * a 2 3 - a 2 j * a 1 3))
  + (a i 0 * a 3 2 - a i 2 * a 3 0) * (- a 2 1 * (a 0 j * a 1 3 - a 1 j * a 0 3) + a 1 1 * (a 0 j * a 2 3 - a 2 j * a 0 3) - a 0 1 * (a 1 j * a 2 3 - a 2 j * a 1 3))
  + (a i 1 * a 3 2 - a i 2 * a 3 1) * (a 2 0 * (a 0 j * a 1 3 - a 1 j * a 0 3) - a 1 0 * (a 0 j * a 2 3 - a 2 j * a 0 3) + a 0 0 * (a 1 j * a 2 3 - a 2 j * a 1 3))
def b4 (a : Mat) : Mat := fun i j => b2 a 2 2 * a i j * a 3 3 - a i j * sOf a 3 3 - sOf a i j * a 3 3 - b2 a 2 2 * a i 3 * a 3 j + a i 3 * sOf a 3 j + sOf a i 3 * a 3 j + tOf a i j
theorem e1 (a : Mat) (i j : Nat) : b1 a i j * b1 a 1 1 - b1 a i 1 * b1 a 1 j = a 0 0 * b2 a i j := by
  unfold b1 b2
  grind
theorem e2 (a : Mat) (i j : Nat) : b2 a i j * b2 a 2 2 - b2 a i 2 * b2 a 2 j = b1 a 1 1 * b3 a i j := by
  unfold b1 b3 sOf cb b2
  grind
theorem s_two (a : Mat) (i j : Nat) : sOf a i j * sOf a 3 3 - sOf a i 3 * sOf a 3 j = b2 a 2 2 * tOf a i j := by
  obtain ⟨h1, h2, h3, h4, h5, h6, h7, h8, h9⟩ := cb3 (a 0 0) (a 0 1) (a 0 2) (a 1 0) (a 1 1) (a 1 2) (a 2 0) (a 2 1) (a 2 2) (b2 a 2 2) _ _ _ _ _ _ _ _ _ rfl rfl rfl rfl rfl rfl rfl rfl rfl (by unfold b2; grind)
  unfold sOf
  rw [cb_two, h1, h2, h3, h4, h5, h6, h7, h8, h9]
  unfold tOf
  generalize b2 a 2 2 = m
  grind
theorem e3 (a : Mat) (i j : Nat) : b3 a i j * b3 a 3 3 - b3 a i 3 * b3 a 3 j = b2 a 2 2 * b4 a i j := by
  have h := s_two a i j
  unfold b3 b4
  generalize b2 a 2 2 = m at h ⊢
  generalize sOf a i j = s1 at h ⊢
  generalize sOf a 3 3 = s2 at h ⊢
  generalize sOf a i 3 = s3 at h ⊢
  generalize sOf a 3 j = s4 at h ⊢
  grind
/-- the stages -/
def stg (a : Mat) : Nat → Mat
  | 0 => a
  | 1 => b1 a
  | 2 => b2 a
  | 3 => b3 a
  | _ => b4 a
/-- by what is divided on the way to the next stage -/
def dvd (a : Mat) : Nat → Int
  | 0 => 1
  | k + 1 => stg a k k k
theorem stg_next (a : Mat) {k : Nat} (h : k < 4) (i j : Nat) : stg a k i j * stg a k k k - stg a k i k * stg a k k j = dvd a k * stg a (k + 1) i j := by
  match k, h with
  | 0, _ => show a i j * a 0 0 - a i 0 * a 0 j = 1 * (a i j * a 0 0 - a i 0 * a 0 j); rw [Int.one_mul]
  | 1, _ => exact e1 a i j
  | 2, _ => exact e2 a i j
  | 3, _ => exact e3 a i j
/-- the sum of a row from k to below n -/
def rs (a : Mat) (i n : Nat) : Nat → Nat → Int
  | _, 0 => 0
  | k, m + 1 => a i k + rs a i n (k + 1) m
structure Zd (n k : Nat) (a : Mat) : Prop where
  off : ∀ i j, k ≤ i → i < n → k ≤ j → j < n → i ≠ j → a i j ≤ 0
  sum : ∀ i, k ≤ i → i < n → 0 < rs a i n k (n - k)
theorem rs_neg {a : Mat} {i n : Nat} : ∀ {k m : Nat}, (∀ j, k ≤ j → j < k + m → a i j ≤ 0) → rs a i n k m ≤ 0
  | _, 0, _ => Int.le_refl 0
  | k, m + 1, h => by
    have h1 := h k (Nat.le_refl _) (by omega)
    have h2 := rs_neg (a := a) (i := i) (n := n) (k := k + 1) (m := m) fun j h1 h2 => h j (by omega) (by omega)
    show a i k + rs a i n (k + 1) m ≤ 0
    omega
theorem Zd.pivot {n k : Nat} {a : Mat} (z : Zd n k a) (h : k < n) : 0 < a k k := by
  have s := z.sum k (Nat.le_refl _) h
  obtain ⟨m, e⟩ : ∃ m, n - k = m + 1 := ⟨n - k - 1, by omega⟩
  rw [e] at s
  have s2 : 0 < a k k + rs a k n (k + 1) m := s
  have := rs_neg (a := a) (i := k) (n := n) (k := k + 1) (m := m) fun j h1 h2 => z.off k j (Nat.le_refl _) h (by omega) (by omega) (by omega)
  omega
theorem rs_lin {a b : Mat} {i p n : Nat} {x y : Int} : ∀ {k m : Nat}, (∀ j, k ≤ j → j < k + m → b i j = a i j * x - y * a p j) → rs b i n k m = rs a i n k m * x - y * rs a p n k m
  | _, 0, _ => by show (0 : Int) = 0 * x - y * 0; rw [Int.zero_mul, Int.mul_zero]; rfl
  | k, m + 1, h => by
    have h1 := h k (Nat.le_refl _) (by omega)
    have h2 := rs_lin (a := a) (b := b) (i := i) (p := p) (n := n) (x := x) (y := y) (k := k + 1) (m := m) fun j h1 h2 => h j (by omega) (by omega)
    show b i k + rs b i n (k + 1) m = (a i k + rs a i n (k + 1) m) * x - y * (a p k + rs a p n (k + 1) m)
    rw [h1, h2]
    grind
theorem rs_mul {a b : Mat} {i n : Nat} {l : Int} : ∀ {k m : Nat}, (∀ j, k ≤ j → j < k + m → b i j = l * a i j) → rs b i n k m = l * rs a i n k m
  | _, 0, _ => by show (0 : Int) = l * 0; rw [Int.mul_zero]
  | k, m + 1, h => by
    have h1 := h k (Nat.le_refl _) (by omega)
    have h2 := rs_mul (a := a) (b := b) (i := i) (n := n) (l := l) (k := k + 1) (m := m) fun j h1 h2 => h j (by omega) (by omega)
    show b i k + rs b i n (k + 1) m = l * (a i k + rs a i n (k + 1) m)
    rw [h1, h2, Int.mul_add]
theorem Zd.step {n k : Nat} {a b : Mat} {l : Int} (z : Zd n k a) (h : k < n) (l0 : 0 < l) (e : ∀ i j, a i j * a k k - a i k * a k j = l * b i j) : Zd n (k + 1) b := by
  have p := z.pivot h
  refine ⟨fun i j h1 h2 h3 h4 ne => ?_, fun i h1 h2 => ?_⟩
  · have o1 := z.off i j (by omega) h2 (by omega) h4 ne
    have o2 := z.off i k (by omega) h2 (by omega) h (by omega)
    have o3 := z.off k j (by omega) h (by omega) h4 (by omega)
    have q1 : a i j * a k k ≤ 0 := Int.mul_nonpos_of_nonpos_of_nonneg o1 (by omega)
    have q2 : 0 ≤ a i k * a k j := Int.mul_nonneg_of_nonpos_of_nonpos o2 o3
    have q3 : l * b i j ≤ 0 := by rw [← e]; omega
    exact Int.nonpos_of_mul_nonpos_right q3 l0
  · have s1 := z.sum i (by omega) h2
    have s2 := z.sum k (Nat.le_refl _) h
    have o2 := z.off i k (by omega) h2 (by omega) h (by omega)
    obtain ⟨m, em⟩ : ∃ m, n - k = m + 1 := ⟨n - k - 1, by omega⟩
    rw [em] at s1 s2
    have s1 : 0 < a i k + rs a i n (k + 1) m := s1
    have s2 : 0 < a k k + rs a k n (k + 1) m := s2
    have en : n - (k + 1) = m := by omega
    rw [en]
    have r1 := rs_lin (a := a) (b := fun i j => l * b i j) (i := i) (p := k) (n := n) (x := a k k) (y := a i k) (k := k + 1) (m := m) fun j _ _ => (e i j).symm
    have r2 := rs_mul (a := b) (b := fun i j => l * b i j) (i := i) (n := n) (l := l) (k := k + 1) (m := m) fun j _ _ => rfl
    rw [r2] at r1
    have q1 : 0 < (a i k + rs a i n (k + 1) m) * a k k := Int.mul_pos s1 p
    have q2 : a i k * (a k k + rs a k n (k + 1) m) ≤ 0 := Int.mul_nonpos_of_nonpos_of_nonneg o2 (by omega)
    have q3 : 0 < l * rs b i n (k + 1) m := by
      rw [r1]
      have : rs a i n (k + 1) m * a k k - a i k * rs a k n (k + 1) m = (a i k + rs a i n (k + 1) m) * a k k - a i k * (a k k + rs a k n (k + 1) m) := by grind
      rw [this]
      omega
    exact Int.pos_of_mul_pos_right q3 l0
/-- each stage tells more on the diagonal; what is divided by is above 0 -/
theorem stg_zd {n : Nat} {a : Mat} (z : Zd n 0 a) : ∀ k, k < n → k < 5 → Zd n k (stg a k) ∧ 0 < dvd a k
  | 0, _, _ => ⟨z, show (0 : Int) < 1 by decide⟩
  | k + 1, h, h5 => by
    obtain ⟨z1, d1⟩ := stg_zd z k (by omega) (by omega)
    exact ⟨z1.step (by omega) d1 (stg_next a (by omega)), z1.pivot (by omega)⟩
end Fv
/-! a polynomial by its worths at 1, 2, ..: not all its coefficients are 0 -/
namespace Fv
def addHd (s : Int) : List Int → List Int
  | [] => []
  | x :: r => (x + s) :: r
/-- times x - c, the coefficient behind the last one left out -/
def pmul (c : Int) (f : List Int) : List Int := List.zipWith (fun low here => low - c * here) (0 :: f.dropLast) f
def pstep (c s : Int) (f : List Int) : List Int := addHd s (pmul c f)
theorem pmul_len {c : Int} {f : List Int} : (pmul c f).length = f.length := by
  unfold pmul
  rw [List.length_zipWith, List.length_cons, List.length_dropLast]
  omega
theorem addHd_len {s : Int} {f : List Int} : (addHd s f).length = f.length := by
  cases f <;> rfl
theorem pstep_len {c s : Int} {f : List Int} : (pstep c s f).length = f.length := by
  unfold pstep
  rw [addHd_len, pmul_len]
theorem zip_sum {c : Int} : ∀ {a f : List Int}, a.length = f.length → (List.zipWith (fun low here => low - c * here) a f).sum = a.sum - c * f.sum
  | [], [], _ => by simp
  | x :: a, y :: f, h => by
    have ih := zip_sum (c := c) (a := a) (f := f) (Nat.succ.inj h)
    rw [List.zipWith_cons_cons, List.sum_cons, List.sum_cons, List.sum_cons, ih]
    grind
theorem dropLast_sum : ∀ {f : List Int}, f ≠ [] → f.dropLast.sum + f.getLast?.getD 0 = f.sum
  | [x], _ => by simp
  | x :: y :: r, _ => by
    have ih := dropLast_sum (f := y :: r) (by simp)
    rw [List.dropLast_cons_cons, List.sum_cons, List.sum_cons, List.getLast?_cons_cons]
    omega
theorem pmul_sum {c : Int} {f : List Int} (n : f ≠ []) (z : f.getLast?.getD 0 = 0) : (pmul c f).sum = f.sum - c * f.sum := by
  have l : (0 :: f.dropLast).length = f.length := by
    have : 0 < f.length := List.length_pos_iff.mpr n
    rw [List.length_cons, List.length_dropLast]
    omega
  have d := dropLast_sum n
  rw [z, Int.add_zero] at d
  unfold pmul
  rw [zip_sum l, List.sum_cons, d, Int.zero_add]
theorem addHd_sum {s : Int} {f : List Int} (n : f ≠ []) : (addHd s f).sum = f.sum + s := by
  cases f with
  | nil => exact (n rfl).elim
  | cons x r =>
    show (x + s) + r.sum = _
    rw [List.sum_cons]
    omega
/-- from index j on there are zeros -/
def Zr (j : Nat) (f : List Int) : Prop := ∀ i, j ≤ i → f.getD i 0 = 0
theorem Zr.last {f : List Int} {j : Nat} (z : Zr j f) (h : j < f.length) : f.getLast?.getD 0 = 0 := by
  have := z (f.length - 1) (by omega)
  rw [List.getLast?_eq_getElem?]
  rwa [List.getD_eq_getElem?_getD] at this
theorem Zr.step {f : List Int} {j : Nat} {c s : Int} (z : Zr j f) : Zr (j + 1) (pstep c s f) := fun i h => by
  obtain ⟨k, rfl⟩ : ∃ k, i = k + 1 := ⟨i - 1, by omega⟩
  have e1 := z (k + 1) (by omega)
  have e2 := z k (by omega)
  rw [List.getD_eq_getElem?_getD] at e1 e2 ⊢
  have key : (addHd s (pmul c f))[k + 1]? = (pmul c f)[k + 1]? := by cases pmul c f <;> rfl
  unfold pstep
  rw [key]
  unfold pmul
  rw [List.getElem?_zipWith, List.getElem?_cons_succ]
  cases h1 : f.dropLast[k]? with
  | none => rfl
  | some u =>
    cases h2 : f[k + 1]? with
    | none => rfl
    | some v =>
      rw [h2] at e1
      have hk : k < f.dropLast.length := (List.getElem?_eq_some_iff.mp h1).1
      rw [List.length_dropLast] at hk
      rw [List.getElem?_dropLast, if_pos hk] at h1
      rw [h1] at e2
      have e1 : v = 0 := e1
      have e2 : u = 0 := e2
      subst e1 e2
      show (0 : Int) - c * 0 = 0
      rw [Int.mul_zero]
      rfl
theorem zr_zeros {n : Nat} : Zr 0 (List.replicate n 0) := fun i _ => by
  rw [List.getD_eq_getElem?_getD, List.getElem?_replicate]
  split <;> rfl
/-- by the slopes, the last one first -/
def pol (sl : List Int) : Nat → List Int
  | 0 => List.replicate sl.length 0
  | j + 1 => pstep ((sl.length - 1 - j : Nat) + 1 : Int) (sl.getD (sl.length - 1 - j) 0) (pol sl j)
theorem pol_len {sl : List Int} : ∀ j, (pol sl j).length = sl.length
  | 0 => List.length_replicate
  | j + 1 => pstep_len.trans (pol_len j)
theorem pol_zr {sl : List Int} : ∀ j, Zr j (pol sl j)
  | 0 => zr_zeros
  | j + 1 => (pol_zr j).step
theorem pol_sum {sl : List Int} {w : Int} {r : List Int} (e : sl = w :: r) : (pol sl sl.length).sum = w := by
  obtain ⟨n, hn⟩ : ∃ n, sl.length = n + 1 := ⟨r.length, by rw [e]; rfl⟩
  have l := pol_len (sl := sl) n
  have ne : pol sl n ≠ [] := fun z => by
    rw [z, hn] at l
    cases l
  have nm : pmul 1 (pol sl n) ≠ [] := fun z => by
    have := pmul_len (c := 1) (f := pol sl n)
    rw [z, l, hn] at this
    cases this
  have la := (pol_zr (sl := sl) n).last (by rw [l, hn]; omega)
  rw [hn]
  show (pstep ((sl.length - 1 - n : Nat) + 1 : Int) (sl.getD (sl.length - 1 - n) 0) (pol sl n)).sum = w
  have i0 : sl.length - 1 - n = 0 := by omega
  rw [i0]
  have d : sl.getD 0 0 = w := by rw [e]; rfl
  rw [d]
  show (addHd w (pmul 1 (pol sl n))).sum = w
  rw [addHd_sum nm, pmul_sum ne la, Int.one_mul]
  omega
/-- with a sum that is not 0 some coefficient isn't 0 -/
theorem sum_some : ∀ {f : List Int}, f.sum ≠ 0 → ∃ x ∈ f, x ≠ 0
  | [], h => (h rfl).elim
  | x :: r, h => by
    by_cases c : x = 0
    · subst c
      obtain ⟨y, hy, ny⟩ := sum_some (f := r) (by rw [List.sum_cons, Int.zero_add] at h; exact h)
      exact ⟨y, List.mem_cons_of_mem _ hy, ny⟩
    · exact ⟨x, List.mem_cons_self, c⟩
end Fv
set_option maxHeartbeats 1000000
/-! bounds of the stages -/
namespace Fv
def Bd (m n k : Nat) (a : Mat) : Prop := ∀ i j, k ≤ i → i < n → k ≤ j → j < n → (a i j).natAbs < 2 ^ m
theorem mul_bd {x y : Int} {m : Nat} (hx : x.natAbs < 2 ^ m) (hy : y.natAbs < 2 ^ m) : (x * y).natAbs < 2 ^ (2 * m) := by
  rw [Int.natAbs_mul, show 2 * m = m + m by omega, Nat.pow_add]
  exact Nat.mul_lt_mul_of_lt_of_lt hx hy
theorem Bd.step {m n k : Nat} {a b : Mat} {l : Int} (z : Bd m n k a) (h : k < n) (l0 : 0 < l) (e : ∀ i j, a i j * a k k - a i k * a k j = l * b i j) : Bd (2 * m + 1) n (k + 1) b := fun i j h1 h2 h3 h4 => by
  have p1 := mul_bd (z i j (by omega) h2 (by omega) h4) (z k k (Nat.le_refl _) h (Nat.le_refl _) h)
  have p2 := mul_bd (z i k (by omega) h2 (Nat.le_refl _) h) (z k j (Nat.le_refl _) h (by omega) h4)
  have s : (l * b i j).natAbs < 2 ^ (2 * m + 1) := by
    rw [← e, Nat.pow_succ]
    omega
  rw [Int.natAbs_mul] at s
  have l1 : 1 ≤ l.natAbs := by omega
  exact Nat.lt_of_le_of_lt (by
    have := Nat.mul_le_mul_right (b i j).natAbs l1
    omega) s
def bdN : Nat → Nat
  | 0 => 40
  | k + 1 => 2 * bdN k + 1
theorem stg_bd {n : Nat} {a : Mat} (z : Zd n 0 a) (b : Bd 40 n 0 a) : ∀ k, k < n → k < 5 → Bd (bdN k) n k (stg a k)
  | 0, _, _ => b
  | k + 1, h, h5 => by
    obtain ⟨_, d⟩ := stg_zd z k (by omega) (by omega)
    exact (stg_bd z b k (by omega) (by omega)).step (by omega) d (stg_next a (by omega))
theorem log2_bd {x m : Nat} (h : x < 2 ^ m) : x.log2 ≤ m := by
  by_cases c : x = 0
  · subst c
    simp
  · exact Nat.le_of_lt ((Nat.log2_lt c).mpr h)
theorem bdN_le {k : Nat} (h : k < 5) : bdN k ≤ 700 := by
  match k, h with
  | 0, _ => decide
  | 1, _ => decide
  | 2, _ => decide
  | 3, _ => decide
  | 4, _ => decide
theorem stg_log {n : Nat} {a : Mat} (z : Zd n 0 a) (b : Bd 40 n 0 a) {k i j : Nat} (h5 : k < 5) (h1 : k ≤ i) (h2 : i < n) (h3 : k ≤ j) (h4 : j < n) : (stg a k i j).natAbs.log2 ≤ 700 :=
  Nat.le_trans (log2_bd (stg_bd z b k (by omega) h5 i j h1 h2 h3 h4)) (bdN_le h5)
/-- what is divided by at a stage -/
theorem dvd_log {n : Nat} {a : Mat} (z : Zd n 0 a) (b : Bd 40 n 0 a) {k : Nat} (h : k < n) (h5 : k < 5) : (dvd a k).natAbs.log2 ≤ 700 := by
  cases k with
  | zero =>
    show (1 : Int).natAbs.log2 ≤ 700
    decide
  | succ k => exact stg_log z b (by omega) (Nat.le_refl _) (by omega) (Nat.le_refl _) (by omega)
end Fv
set_option maxHeartbeats 1000000
/-! the matrix of the weights of a few blocks' ties -/
namespace Fv
def rowO (us : List (Option Nat)) (ls : List (List (Option Bool))) (n b : Nat) : List (Option Nat) := (List.range (n + 1)).map fun p => if p = b then none else some (costN us ls b p)
theorem rowO_len {us : List (Option Nat)} {ls : List (List (Option Bool))} {n b : Nat} : (rowO us ls n b).length = n + 1 := by
  unfold rowO
  rw [List.length_map, List.length_range]
theorem sum_set : ∀ {l : List Int} {i : Nat} {v : Int}, i < l.length → (l.set i v).sum = l.sum - l.getD i 0 + v
  | [], _, _, h => (Nat.not_lt_zero _ h).elim
  | x :: r, 0, v, _ => by
    show (v :: r).sum = (x :: r).sum - x + v
    rw [List.sum_cons, List.sum_cons]
    omega
  | x :: r, i + 1, v, h => by
    have := sum_set (l := r) (i := i) (v := v) (by simp at h; omega)
    show (x :: r.set i v).sum = (x :: r).sum - r.getD i 0 + v
    rw [List.sum_cons, List.sum_cons, this]
    omega
theorem sum_neg : ∀ {l : List Int}, (l.map fun w => -w).sum = -l.sum
  | [] => rfl
  | x :: r => by
    show (-x :: r.map fun w => -w).sum = _
    rw [List.sum_cons, sum_neg, List.sum_cons]
    omega
theorem rs_sum {a : Mat} {i n : Nat} : ∀ {m k : Nat}, rs a i n k m = ((List.range' k m).map (a i)).sum
  | 0, k => rfl
  | m + 1, k => by
    show a i k + rs a i n (k + 1) m = _
    rw [rs_sum, List.range'_succ, List.map_cons, List.sum_cons]
theorem list_range' {l : List Int} {n : Nat} (h : l.length = n) : (List.range' 0 n).map (fun j => l.getD j 0) = l := by
  refine List.ext_getElem (by rw [List.length_map, List.length_range', h]) fun i h1 h2 => ?_
  rw [List.getElem_map, List.getElem_range', List.getD_eq_getElem?_getD, Nat.zero_add, Nat.one_mul, List.getElem?_eq_getElem h2]
  rfl
theorem bd_sum {m : Nat} : ∀ {l : List Int}, (∀ w ∈ l, 0 ≤ w ∧ w.natAbs ≤ m) → 0 ≤ l.sum ∧ l.sum.natAbs ≤ l.length * m
  | [], _ => ⟨Int.le_refl 0, by simp⟩
  | x :: r, h => by
    obtain ⟨a1, a2⟩ := bd_sum (l := r) fun w hw => h w (List.mem_cons_of_mem _ hw)
    obtain ⟨b1, b2⟩ := h x List.mem_cons_self
    rw [List.sum_cons, List.length_cons, Nat.add_mul, Nat.one_mul]
    omega
/-- what is asked of the rows that make such a matrix: the own place is none, place 0 has a number -/
structure RowsOk (n x : Nat) (rows : List (List (Option Nat))) : Prop where
  n5 : n ≤ 5
  x1 : 1 ≤ x
  x36 : x ≤ 36
  len : rows.length = n
  at_ : ∀ i r, rows[i]? = some r → r.length = n + 1 ∧ r[i + 1]? = some none ∧ (∃ c, r[0]? = some (some c)) ∧ ∀ c, some c ∈ r → c ≤ 7
theorem rowO_ok {n x : Nat} {us : List (Option Nat)} {ls : List (List (Option Bool))} (n5 : n ≤ 5) (x1 : 1 ≤ x) (x36 : x ≤ 36) (ll : ls.length = n + 1) : RowsOk n x ((List.range n).map fun i => rowO us ls n (i + 1)) := by
  refine ⟨n5, x1, x36, by rw [List.length_map, List.length_range], fun i r h => ?_⟩
  rw [List.getElem?_map] at h
  by_cases c : i < n
  · rw [List.getElem?_range c] at h
    have h := Option.some.inj h
    subst h
    refine ⟨rowO_len, ?_, ⟨costN us ls (i + 1) 0, ?_⟩, fun c hc => ?_⟩
    · unfold rowO
      rw [List.getElem?_map, List.getElem?_range (by omega)]
      show some (if i + 1 = i + 1 then none else some (costN us ls (i + 1) (i + 1))) = _
      rw [if_pos rfl]
    · unfold rowO
      rw [List.getElem?_map, List.getElem?_range (by omega)]
      show some (if 0 = i + 1 then none else some (costN us ls (i + 1) 0)) = _
      rw [if_neg (by omega)]
    · unfold rowO at hc
      obtain ⟨p, _, e⟩ := List.mem_map.mp hc
      split at e
      · cases e
      · cases e
        have := costN_le us ls (i + 1) p
        omega
  · rw [List.getElem?_eq_none (by rw [List.length_range]; omega)] at h
    cases h
end Fv
set_option maxHeartbeats 1000000
namespace Fv
/-- what a cell of the costs weighs, and a row of the matrix -/
def owM (x : Int) : Option Nat → Int
  | none => 0
  | some c => x ^ c
def mrowM (x : Int) (i : Nat) (r : List (Option Nat)) : List Int := (((r.map (owM x)).tail).map fun w => -w).set i (r.map (owM x)).sum
theorem owM_bd {x : Nat} {o : Option Nat} (x1 : 1 ≤ x) (x36 : x ≤ 36) (h : ∀ c, o = some c → c ≤ 7) : 0 ≤ owM (x : Int) o ∧ (owM (x : Int) o).natAbs ≤ 36 ^ 7 := by
  cases o with
  | none => exact ⟨Int.le_refl 0, by show 0 ≤ _; omega⟩
  | some c =>
    have e : owM (x : Int) (some c) = ((x ^ c : Nat) : Int) := (Int.natCast_pow x c).symm
    rw [e]
    refine ⟨Int.natCast_nonneg _, ?_⟩
    rw [Int.natAbs_natCast]
    exact Nat.le_trans (Nat.pow_le_pow_left x36 c) (Nat.pow_le_pow_right (by decide) (h c rfl))
theorem mrowM_len {x : Int} {i n : Nat} {r : List (Option Nat)} (h : r.length = n + 1) : (mrowM x i r).length = n := by
  unfold mrowM
  rw [List.length_set, List.length_map, List.length_tail, List.length_map, h]
  rfl
theorem mrowM_get {x : Int} {i j n : Nat} {r : List (Option Nat)} (h : r.length = n + 1) (hj : j < n) : (mrowM x i r).getD j 0 = if j = i then (r.map (owM x)).sum else - owM x (r.getD (j + 1) none) := by
  unfold mrowM
  rw [List.getD_eq_getElem?_getD]
  by_cases c : j = i
  · subst c
    rw [if_pos rfl, List.getElem?_set_self (by rw [List.length_map, List.length_tail, List.length_map]; omega)]
    rfl
  · rw [if_neg c, List.getElem?_set_ne (fun z => c z.symm), List.getElem?_map, List.getElem?_tail, List.getElem?_map, List.getD_eq_getElem?_getD, List.getElem?_eq_getElem (by omega)]
    rfl
def mA (x : Nat) (rows : List (List (Option Nat))) : Mat := fun i j => (mrowM x i (rows.getD i [])).getD j 0
theorem rows_get {n x i : Nat} {rows : List (List (Option Nat))} (h : RowsOk n x rows) (hi : i < n) : rows[i]? = some (rows.getD i []) := by
  rw [List.getD_eq_getElem?_getD, List.getElem?_eq_getElem (by have := h.len; omega)]
  rfl
theorem mA_bd {n x : Nat} {rows : List (List (Option Nat))} (h : RowsOk n x rows) : Bd 40 n 0 (mA x rows) := fun i j _ hi _ hj => by
  obtain ⟨r1, r2, r3, r4⟩ := h.at_ i _ (rows_get h hi)
  generalize hr : rows.getD i [] = r at r1 r2 r3 r4
  have hn := h.n5
  have bd : ∀ o ∈ r, 0 ≤ owM (x : Int) o ∧ (owM (x : Int) o).natAbs ≤ 36 ^ 7 := fun o ho => owM_bd h.x1 h.x36 fun c e => r4 c (e ▸ ho)
  show ((mrowM x i (rows.getD i [])).getD j 0).natAbs < 2 ^ 40
  rw [hr, mrowM_get r1 hj]
  split
  · obtain ⟨_, b⟩ := bd_sum (m := 36 ^ 7) (l := r.map (owM x)) fun w hw => by
      obtain ⟨o, ho, rfl⟩ := List.mem_map.mp hw
      exact bd o ho
    rw [List.length_map, r1] at b
    have : (n + 1) * 36 ^ 7 ≤ 6 * 36 ^ 7 := Nat.mul_le_mul_right _ (by omega)
    have : 6 * 36 ^ 7 < 2 ^ 40 := by decide
    omega
  · rw [Int.natAbs_neg]
    have hm : r.getD (j + 1) none ∈ r := by
      rw [List.getD_eq_getElem?_getD, List.getElem?_eq_getElem (by omega)]
      exact List.getElem_mem _
    have := (bd _ hm).2
    have : 36 ^ 7 < 2 ^ 40 := by decide
    omega
theorem mA_row {n x i : Nat} {rows : List (List (Option Nat))} (h : RowsOk n x rows) (hi : i < n) : (List.range' 0 n).map (mA x rows i) = mrowM x i (rows.getD i []) :=
  list_range' (mrowM_len (h.at_ i _ (rows_get h hi)).1)
theorem mA_zd {n x : Nat} {rows : List (List (Option Nat))} (h : RowsOk n x rows) : Zd n 0 (mA x rows) := by
  refine ⟨fun i j _ hi _ hj ne => ?_, fun i _ hi => ?_⟩
  · obtain ⟨r1, r2, r3, r4⟩ := h.at_ i _ (rows_get h hi)
    show (mrowM x i (rows.getD i [])).getD j 0 ≤ 0
    rw [mrowM_get r1 hj, if_neg (fun z => ne z.symm)]
    have hm : (rows.getD i []).getD (j + 1) none ∈ rows.getD i [] := by
      rw [List.getD_eq_getElem?_getD (l := rows.getD i []), List.getElem?_eq_getElem (by omega)]
      exact List.getElem_mem _
    have := (owM_bd (o := (rows.getD i []).getD (j + 1) none) h.x1 h.x36 fun c e => r4 c (e ▸ hm)).1
    omega
  · rw [Nat.sub_zero, rs_sum, mA_row h hi]
    obtain ⟨r1, r2, ⟨c0, r3⟩, r4⟩ := h.at_ i _ (rows_get h hi)
    generalize rows.getD i [] = r at r1 r2 r3 r4
    cases r with
    | nil => cases r1
    | cons o t =>
      have e0 : o = some c0 := Option.some.inj r3
      subst e0
      have e1 : t[i]? = some none := r2
      unfold mrowM
      have lt : t.length = n := by simpa using r1
      rw [List.map_cons, List.tail_cons, sum_set (by rw [List.length_map, List.length_map, lt]; exact hi), sum_neg, List.sum_cons, List.getD_eq_getElem?_getD, List.getElem?_map, List.getElem?_map, e1]
      have p : 1 ≤ owM (x : Int) (some c0) := by
        have e : owM (x : Int) (some c0) = ((x ^ c0 : Nat) : Int) := (Int.natCast_pow x c0).symm
        rw [e]
        have := Nat.pow_pos (n := c0) h.x1
        omega
      show 0 < -(List.map (owM x) t).sum - (-(0 : Int)) + (owM x (some c0) + (List.map (owM x) t).sum)
      omega
end Fv
set_option maxRecDepth 100000
set_option maxHeartbeats 2000000
namespace Fv
open PySem PySem.Spec PyProof.Rows L2
/-! a try whose first clause takes all that its body raises -/
theorem upSlots_of {h h' : Heap} (k : ∀ b o, h.get? b = some o → h'.get? b = some o) : h.UpToSlots h' := fun b o e _ => ⟨o.slots, k b o e⟩
theorem flying_of {B h h' : Heap} {l : List Env} {a : Addr} {Z : Obj → Prop} (k : ∀ b o, h.get? b = some o → h'.get? b = some o) (x : HandSPX.FlyingZ B l a Z h) : HandSPX.FlyingZ B l a Z h' := by
  obtain ⟨k1, k2, k3, oe, vs, T, oT, ts, t1, t2, t3, t4, t5, t6, t7, t8⟩ := x
  exact ⟨fun b o e => k _ _ (k1 b o e), k2, k3.of_keeps fun b o e _ => ⟨o, k _ _ e, rfl⟩, oe, vs, T, oT, ts, k _ _ t1, t2, t3, t4, t5, t6, k _ _ t7, t8⟩
theorem unframed {B h : Heap} {l : List Env} {a : Addr} {o : Obj} {vs : Array Value} (ff : h.FunFrames B l) (e : h.get? a = some o) (dd : o.data = .fields vs) : a ∉ frs l := fun hm => by
  obtain ⟨_, u, e', nf⟩ := ff.mem hm
  rw [e] at e'
  cases e'
  exact nf _ dd
/-- what is raised in the body, and is taken by the clause -/
def wAs1 (K : PySem.W.Frag) (c : Value) (i : Nat) (ts : Addr → Value → Option Addr → TS) (D : Ends) : WX := fun cls d σ H => PySem.W.exmOne K cls c = some true ∧ ∀ a, H a = none →
  ts a cls d { nx := fun σ' H' => D.nx (σ'.set i none) H', rt := D.rt, bk := fun σ' H' => D.bk (σ'.set i none) H', ct := fun σ' H' => D.ct (σ'.set i none) H' } (σ.set i (some (.ref a))) H
section
variable {X : Cx} {x n : Str} {c : Value} {i : Nat} {body suite : List Stmt} {b₀ : Stmt} {np pos pos' : Pos} {tb : WX → TS} {ts : Addr → Value → Option Addr → TS} {hds : List ExceptHandler}
theorem sp_untry {xe : Value → Shared → Prop} {pins : List (Addr × Obj)} {D : Ends} {f : Flow} {s1 : Shared} (ok : X.Ok) (h : SP (X.tr (X.pn ++ pins) xe) [] D f s1) : SP X pins D f s1 := by
  cases f with
  | next =>
    obtain ⟨σ', H', J, q⟩ := h
    exact ⟨σ', H', J.ofTry ok, q⟩
  | brk =>
    obtain ⟨σ', H', J, q⟩ := h
    exact ⟨σ', H', J.ofTry ok, q⟩
  | cont =>
    obtain ⟨σ', H', J, q⟩ := h
    exact ⟨σ', H', J.ofTry ok, q⟩
  | ret u =>
    obtain ⟨v, σ', H', J, r, q⟩ := h
    exact ⟨v, σ', H', J.ofTry ok, r, q⟩
theorem ps_try_as1 (hs : X.stack = X.env :: X.outer) (hf : X.env.frame = some X.env.locals) (hN : X.N.Nodup) (hi : X.N[i]? = some n) (hln : X.env.kindOf n = some .local) (hc : Names X x c)
    (hb : ∀ (W : WX) (pn : List (Addr × Obj)) (xe : Value → Shared → Prop), L2.Takes (X.tr pn xe) W → PassesOwn (model X.prog X.w) X.A X.env xe → PSs (X.tr pn xe) body (tb W))
    (hsu : ∀ (a : Addr) (oe : Obj) (cls : Value) (d : Option Addr) (pn : List (Addr × Obj)), Zc cls d oe → (∃ vs, oe.data = .fields vs) → PSs (X.suite a ((a, oe) :: pn)) (b₀ :: suite) (ts a cls d)) :
    PS X (.Try body (.ExceptHandler (some (.Name x np)) (some n) (b₀ :: suite) pos' :: hds) [] [] pos) (fun D σ H => tb (wAs1 X.K c i ts D) D σ H) := by
  constructor
  intro pins s σ H D I h
  have ok := I.ok
  have fr : X.A.frames = some (X.env :: X.outer) := ok.frames.trans (by rw [hs])
  refine wpAny_Try_except (wpAny_mono ((hb (wAs1 X.K c i ts D) (X.pn ++ pins) (fun e s₁ => wpAny (model X.prog X.w) X.A (noteFrame e X.env) (fun _ s₂ => wpAny (model X.prog X.w) X.A (setFlight e none) (fun _ s₃ =>
    wpAny (model X.prog X.w) X.A (handleBy e X.env (.ExceptHandler (some (.Name x np)) (some n) (b₀ :: suite) pos' :: hds)) (SP X pins D) X.xe s₃) X.xe s₂) X.xe s₁) (fun u s' xx => ?_) PassesOwn.looking).run [] s σ H D (I.toTry _) h) (fun f s1 hsp => ?_) (fun _ _ he => he))
  · obtain ⟨a, B, sI, ps', σ', H', cls, d, rfl, J', nb, up, sky, na, os, ag, hit, hyes⟩ := xx
    have J : Inv X pins σ' H' sI := J'.ofTry ok
    rw [show (X.tr (X.pn ++ pins) _).stack = X.env :: X.outer from hs] at sky
    refine Sky.land (L := X.env.locals) Zc.steady fr hf sky fun h3 fl3 up3 => ?_
    obtain ⟨o3, v3, g3, z3, d3⟩ := fl3.there
    have J3 : Inv X pins σ' H' { s' with heap := h3 } := J.landed nb fl3.1 (up.trans up3) os ag
    have nfr := unframed fl3.2.2.1 g3 d3
    have nL : a ≠ X.env.locals := fun z => nfr (List.mem_filterMap.mpr ⟨X.env, List.mem_cons_self, by rw [hf, z]⟩)
    have nF : a ∉ X.fs := fun hm => by
      obtain ⟨e, he, q⟩ := List.mem_filterMap.mp hm
      exact nfr (List.mem_filterMap.mpr ⟨e, List.mem_cons_of_mem _ he, q⟩)
    have S3 := J3.suite g3 d3 na nL nF
    have ty : PySem.W.Looks (model X.prog X.w) h3 (typeOf (.ref a)) cls := fun A Q E s k q => wpAny_typeOf_ref (k _ _ g3) (by rw [z3.1]; exact q)
    have mt := PySem.W.exm_one (M := model X.prog X.w) J3.kIn ty hit
    have nm : ∀ {Q : Value → Shared → Prop} {E : Value → Shared → Prop}, Q c { s' with heap := h3 } → wpAny (model X.prog X.w) (X.A.mark (some (.ref a))) (eval (.Name x np) X.env) Q E { s' with heap := h3 } := fun {Q E} q => by
      rcases hc with ⟨hg, hd, hm | ⟨hm, hv, hn⟩⟩
      · exact ld_glob (X := X.suite a ((a, o3) :: (X.pn ++ pins))) S3 hg hm q hd
      · exact ld_blt (X := X.suite a ((a, o3) :: (X.pn ++ pins))) S3 hg hm hv q hn hd
    refine wpAny_handleBy_cons (codeAny_handlers_test (nm (mt.here ?_))) (by intro q; cases q)
    refine codeAny_handlers_suite_as (HandSPX.lands_againZ fl3 fun h4 fl4 up4 => ?_)
    obtain ⟨o4, v4, g4, z4, d4⟩ := fl4.there
    have J4 : Inv X pins σ' H' { s' with heap := h4 } := J.landed nb fl4.1 ((up.trans up3).trans up4) os ag
    have S4 := J4.suite g4 d4 na nL nF
    refine store_ok (X := X.suite a ((a, o4) :: (X.pn ++ pins))) (v := .ref a) S4 hN hi (.inl hln) rfl (fun s5 S5 => ?_) (.inr hln)
    refine wpAny_mono ((hsu a o4 cls d (X.pn ++ pins) z4 ⟨_, d4⟩).run [] s5 _ H' _ S5 (hyes a na)) (fun f s6 hsp => ?_) (fun _ _ z => z.elim)
    have fin : ∀ {σ6 : L2.St} {H6 : Hp} {Q : Shared → Prop}, Inv (X.suite a ((a, o4) :: (X.pn ++ pins))) [] σ6 H6 s6 → (∀ s7, Inv X pins (σ6.set i none) H6 s7 → Q s7) →
        wpAny (model X.prog X.w) X.A (do bindName X.env n .none; unbindBehindTheSuite X.env n pos') (fun _ s7 => Q s7) X.xe s6 := fun S6 hq => gone_ok (S6.unsuite ok) hN hi hln hq
    cases f with
    | next =>
      obtain ⟨σ6, H6, S6, q6⟩ := hsp
      exact fin S6 fun _ J7 => ⟨_, _, J7, q6⟩
    | brk =>
      obtain ⟨σ6, H6, S6, q6⟩ := hsp
      exact fin S6 fun _ J7 => ⟨_, _, J7, q6⟩
    | cont =>
      obtain ⟨σ6, H6, S6, q6⟩ := hsp
      exact fin S6 fun _ J7 => ⟨_, _, J7, q6⟩
    | ret u =>
      obtain ⟨v6, σ6, H6, S6, r6, q6⟩ := hsp
      exact fin S6 fun _ J7 => ⟨_, _, _, J7, r6, q6⟩
  · have hsp' := sp_untry ok hsp
    cases f with
    | next => exact wpAny_execs_nil hsp'
    | brk => exact hsp'
    | cont => exact hsp'
    | ret u => exact hsp'
end
/-! except (A, B, C): a suite that may raise -/
def wTup3 (K : PySem.W.Frag) (c1 c2 c3 : Value) (ts : Addr → Value → Option Addr → TS) (D : Ends) : WX := fun cls d σ H => PySem.W.exmAny K cls [c1, c2, c3] = some true ∧ ∀ a, H a = none → ts a cls d D σ H
section
variable {X : Cx} {x1 x2 x3 : Str} {c1 c2 c3 : Value} {body suite : List Stmt} {b₀ : Stmt} {n1 n2 n3 tpos pos pos' : Pos} {k : Nat} {tb : WX → TS} {ts : Addr → Value → Option Addr → TS} {hds : List ExceptHandler} {Wout : WX}
theorem ps_try_tup3 (hs : X.stack = X.env :: X.outer) (hf : X.env.frame = some X.env.locals) (w1 : Names X x1 c1) (w2 : Names X x2 c2) (w3 : Names X x3 c3) (hpa : ∀ hd : Option Value, PassesOwnAt (model X.prog X.w) (X.A.mark hd) X.A X.env X.xe) (tk : L2.Takes X Wout)
    (hb : ∀ (W : WX) (pn : List (Addr × Obj)) (xe : Value → Shared → Prop), L2N.Takes (X.tr pn xe) W → PassesOwn (model X.prog X.w) X.A X.env xe → PSs (X.tr pn xe) body (tb W))
    (hsu : ∀ (a : Addr) (oe : Obj) (cls : Value) (d : Option Addr) (pn : List (Addr × Obj)), L2N.Zn cls d oe → (∃ vs, oe.data = .fields vs) → L2.Takes (L2H.suiteX X a ((a, oe) :: pn)) Wout → L2H.HotC (L2H.suiteX X a ((a, oe) :: pn)) →
      PSs (L2H.suiteX X a ((a, oe) :: pn)) (b₀ :: suite) (ts a cls d))
    (ha : starEach [.Name x1 n1, .Name x2 n2, .Name x3 n3] X.env = [(false, eval (.Name x1 n1) X.env), (false, eval (.Name x2 n2) X.env), (false, eval (.Name x3 n3) X.env)] := by rfl) :
    PS X (.Try body (.ExceptHandler (some (.Tuple [.Name x1 n1, .Name x2 n2, .Name x3 n3] k tpos)) none (b₀ :: suite) pos' :: hds) [] [] pos) (fun D σ H => tb (wTup3 X.K c1 c2 c3 ts D) D σ H) := by
  constructor
  intro pins s σ H D I h
  have ok := I.ok
  have fr : X.A.frames = some (X.env :: X.outer) := ok.frames.trans (by rw [hs])
  refine wpAny_Try_except (wpAny_mono ((hb (wTup3 X.K c1 c2 c3 ts D) (X.pn ++ pins) (fun e s₁ => wpAny (model X.prog X.w) X.A (noteFrame e X.env) (fun _ s₂ => wpAny (model X.prog X.w) X.A (setFlight e none) (fun _ s₃ =>
    wpAny (model X.prog X.w) X.A (handleBy e X.env (.ExceptHandler (some (.Tuple [.Name x1 n1, .Name x2 n2, .Name x3 n3] k tpos)) none (b₀ :: suite) pos' :: hds)) (SP X pins D) X.xe s₃) X.xe s₂) X.xe s₁) (fun u s' xx => ?_) PassesOwn.looking).run [] s σ H D (I.toTry _) h) (fun f s1 hsp => ?_) (fun _ _ he => he))
  · obtain ⟨a, B, sI, ps', σ', H', cls, d, rfl, J', nb, up, sky, na, os, ag, hit, hyes⟩ := xx
    have J : Inv X pins σ' H' sI := J'.ofTry ok
    rw [show (X.tr (X.pn ++ pins) _).stack = X.env :: X.outer from hs] at sky
    refine L2N.Sky.land (L := X.env.locals) L2N.Zn.steady fr hf sky fun h3 fl3 up3 => ?_
    obtain ⟨o3, v3, g3, z3, d3⟩ := fl3.there
    have J3 : Inv X pins σ' H' { s' with heap := h3 } := J.landed nb fl3.1 (up.trans up3) os ag
    have nfr := unframed fl3.2.2.1 g3 d3
    have nL : a ≠ X.env.locals := fun z => nfr (List.mem_filterMap.mpr ⟨X.env, List.mem_cons_self, by rw [hf, z]⟩)
    have nF : a ∉ X.fs := fun hm => by
      obtain ⟨e, he, q⟩ := List.mem_filterMap.mp hm
      exact nfr (List.mem_filterMap.mpr ⟨e, List.mem_cons_of_mem _ he, q⟩)
    have S3 := J3.suite g3 d3 na nL nF
    have nm : ∀ {x : Str} {c : Value} {p : Pos} {Q : Value → Shared → Prop} {E : Value → Shared → Prop}, Names X x c → Q c { s' with heap := h3 } → wpAny (model X.prog X.w) (X.A.mark (some (.ref a))) (eval (.Name x p) X.env) Q E { s' with heap := h3 } := fun {x c p Q E} hc q => by
      rcases hc with ⟨hg, hd, hm | ⟨hm, hv, hn⟩⟩
      · exact ld_glob (X := X.suite a ((a, o3) :: (X.pn ++ pins))) S3 hg hm q hd
      · exact ld_blt (X := X.suite a ((a, o3) :: (X.pn ++ pins))) S3 hg hm hv q hn hd
    have ext : ∀ b o, h3.get? b = some o → (h3.push { cls := .type "tuple", data := .seq [c1, c2, c3].toArray }).get? b = some o := fun b o e => Heap.get?_push_of_some _ e
    have ty : PySem.W.Looks (model X.prog X.w) (h3.push { cls := .type "tuple", data := .seq [c1, c2, c3].toArray }) (typeOf (.ref a)) cls := fun A Q E s k q => wpAny_typeOf_ref (k _ _ (ext _ _ g3)) (by rw [z3.1]; exact q)
    have mt := PySem.W.exm_tup3 (M := model X.prog X.w) (J3.kIn.keeps ext) ty (Heap.get?_push_size h3 rfl) hit
    have flX := flying_of ext fl3
    refine wpAny_handleBy_cons (codeAny_handlers_test (wpAny_Tuple_spliced ?_)) (by intro q; cases q)
    rw [ha]
    refine Calls.spliced_cons (nm w1 (Calls.spliced_cons (nm w2 (Calls.spliced_cons (nm w3 (Calls.spliced_nil ⟨by show 3 ≤ sizeLine; decide, mt.here ?_⟩))))))
    refine codeAny_handlers_suite (HandSPX.lands_againZ flX fun h4 fl4 up4 => ?_)
    obtain ⟨o4, v4, g4, z4, d4⟩ := fl4.there
    have J4 : Inv X pins σ' H' { s' with heap := h4 } := J.landed nb fl4.1 (((up.trans up3).trans (upSlots_of ext)).trans up4) os ag
    have S4 := J4.suite g4 d4 na nL nF
    have tkS : L2.Takes (L2H.suiteX X a ((a, o4) :: (X.pn ++ pins))) Wout := fun u2 s2 ⟨a2, B2, t2, p2, σ2, H2, c2, e2, q1, q2, q3, q4, q5, q6, q7, q8, q9⟩ => tk u2 s2 ⟨a2, B2, t2, pins, σ2, H2, c2, e2, q1, L2H.unsuiteX q2 ok, q3, q4, q5, q6, q7, q8, q9⟩
    have hot : L2H.HotC (L2H.suiteX X a ((a, o4) :: (X.pn ++ pins))) := ⟨(a, o4), ⟨rfl, v4, d4, z4.2.2 v4 d4⟩, List.mem_cons_self⟩
    refine wpAny_mono ((hsu a o4 cls d (X.pn ++ pins) z4 ⟨_, d4⟩ tkS hot).run [] _ _ H' _ (L2H.suiteX_of S4) (hyes a na)) (fun f s6 hsp => ?_) (fun e6 s6 z => hpa (some (.ref a)) e6 s6 z)
    cases f with
    | next =>
      obtain ⟨σ6, H6, S6, q6⟩ := hsp
      exact ⟨_, _, L2H.unsuiteX S6 ok, q6⟩
    | brk =>
      obtain ⟨σ6, H6, S6, q6⟩ := hsp
      exact ⟨_, _, L2H.unsuiteX S6 ok, q6⟩
    | cont =>
      obtain ⟨σ6, H6, S6, q6⟩ := hsp
      exact ⟨_, _, L2H.unsuiteX S6 ok, q6⟩
    | ret u =>
      obtain ⟨v6, σ6, H6, S6, r6, q6⟩ := hsp
      exact ⟨_, _, _, L2H.unsuiteX S6 ok, r6, q6⟩
  · have hsp' := sp_untry ok hsp
    cases f with
    | next => exact wpAny_execs_nil hsp'
    | brk => exact hsp'
    | cont => exact hsp'
    | ret u => exact hsp'
end
end Fv
set_option maxRecDepth 100000
set_option maxHeartbeats 1000000
namespace Fv
open PySem PySem.Spec PyProof.Rows L2
/-- C(), C an error's class that says super().__init__(): its context is None -/
theorem pmk_supN {X : Cx} {C fI : Addr} {x : Str} {p pos : Pos} (T : SupC X.prog X.K C fI) (hr : Room 1 X.A) (hg : Gl X x) (hm : X.mg x = some (.ref C)) (hs : X.mg "super" = none) (hdb : (x == ("__debug__" : Str)) = false := by decide) :
    L2N.PMk X (.Call (.Name x p) [] [] pos) (fun _ H Q => Q (.ref C) none H) := by
  intro pins s σ H Q I h
  refine wpAny_Call_Name_kw (ld_glob I hg hm ?_ hdb)
  refine PySem.W.callWith_K0 I.kIn T.x.kC ?_
  obtain ⟨mb, hb1, hb2⟩ := I.mod.blt
  have hlim := I.nolimit
  have hgl : s.heap.Ns mainGlobals X.mg := I.mod.glob.keeps I.bk
  have hbl : s.heap.Ns builtinsNs mb := hb1.keeps I.bk
  obtain ⟨hp, g, d, t, os⟩ := s
  refine wpAny_call (sup_made T I.kIn hlim hgl hs hbl ((hb2 "super" (by decide)).trans (by first | rfl | decide +kernel | kernel_rfl)) (by have := hr.dp; omega) fun h' tk' e t1 k ge hx => ?_)
  obtain ⟨G', g1, g2⟩ := restrict h' fun b => decide (b ≠ e)
  have gk : ∀ b, b ≠ e → G'.get? b = h'.get? b := fun b hb => g1 b (decide_eq_true hb)
  have g0 : G'.get? e = none := g2 e (by simp)
  have old : ∀ b o, hp.get? b = some o → G'.get? b = some o := fun b o q => (gk b (Nat.ne_of_lt (Nat.lt_of_lt_of_le (Heap.lt_size q) ge))).trans (k b o q)
  have J : Inv X pins σ H ⟨G', g, d, tk', os⟩ := I.kept (t' := tk') old
  refine ⟨e, _, _, ⟨G', g, d, tk', os⟩, H, .ref C, none, rfl, J, fun b o q => ?_, g0, hx, ⟨rfl, rfl, fun vs hv => by cases hv; rfl⟩, rfl, rfl, I.hok.fresh ge, rfl, I.bare, raises_own T.x.exC T.x.tyC, h⟩
  by_cases hb : b = e
  · have q' : G'.get? b = some o := q
    rw [hb, g0] at q'
    cases q'
  · exact (gk b hb).symm.trans q
theorem passLenN {X : Cx} {W : WX} {n : Nat} (tk : L2N.Takes X W) (hn : X.N.length = n) : Passes (L2N.CX X.prog X.w) X (fun cls d H => ∀ σ : L2.St, σ.length = n → W cls d σ H) := fun pins σ H s e s' I c => by
  refine L2N.passAt tk σ pins H s e s' I ?_
  obtain ⟨a, B, H', cls, d, h1, h2, h3, h4, h5, h6, h7, h8⟩ := c
  exact ⟨a, B, H', cls, d, h1, h2, h3, h4, h5, h6, h7, h8 σ (I.len.trans hn)⟩
section
variable {P : Program} {w : World} {K : PySem.W.Frag} {mg : Str → Option Value} {base : Heap}
/-- a def that may raise, the errors' contexts being None -/
theorem okN {x qual : Str} {st : Stmt} {f : Addr} {fd : FuncData} {N ps : List Str} {k : Nat} {sp : Sp} (F : Fun K x qual st f fd) (S : FnScope N ps (defScope st)) (len : ∀ vs H Q E, sp vs H Q E → vs.length = ps.length)
    (hbody : ∀ (cdv : Value) (A : Around) (outer : List Env) (s : Shared) (H : Hp) (vs : List V) (Q : VK) (E : XK), Room k (A.deeper (envOfC qual (defScope st) s.heap.objs.size f cdv)) → sp vs H Q E →
      ∃ t, PSs (cxOf (L2N.CX P w) P w K mg base N qual (defScope st) f cdv A outer s H E) (defBody st) t ∧ t { nx := fun _ H' => Q .non H', rt := Q } (L2.start N vs) H) : FnOk P w K mg base (L2N.CX P w) (k + 1) f fd ps sp := by
  obtain ⟨oc, od, kV, doc, pm, an, cdv, ct, osl, rfl, lk, hcd⟩ := F.ex
  exact fn_of lk hcd S len fun A outer s H vs Q E hr hsp => hbody cdv A outer s H vs Q E hr hsp
/-- a def called while an exception is handled -/
theorem okH {x qual : Str} {st : Stmt} {f : Addr} {fd : FuncData} {N ps : List Str} {k : Nat} {sp : Sp} (F : Fun K x qual st f fd) (S : FnScope N ps (defScope st)) (len : ∀ vs H Q E, sp vs H Q E → vs.length = ps.length)
    (hbody : ∀ (cdv : Value) (A : Around) (outer : List Env) (s : Shared) (H : Hp) (vs : List V) (Q : VK) (E : XK) (p : Addr × Obj), sp vs H Q E →
      ∃ t, PSs (L2H.cxH CX0 P w K mg base N qual (defScope st) f cdv A outer s H E p) (defBody st) t ∧ t { nx := fun _ H' => Q .non H', rt := Q } (L2.start N vs) H) : L2H.FnH P w K mg base CX0 (k + 1) f fd ps sp := by
  obtain ⟨oc, od, kV, doc, pm, an, cdv, ct, osl, rfl, lk, hcd⟩ := F.ex
  exact L2H.fn_ofH lk hcd S len fun A outer s H vs Q E p _ _ hsp => hbody cdv A outer s H vs Q E p hsp
end
theorem x_callS {sp : Sp} {E : L2.St → XK} {t : TA} {σ : L2.St} {H : Hp} {Q : VK} (h : t σ H fun vs H1 => sp vs H1 Q (E σ)) : tCallS sp E t σ H Q := h
end Fv
set_option maxRecDepth 100000
set_option maxHeartbeats 4000000
namespace L2
open PySem PySem.Spec PyProof.Rows
/-! ### set(xs) of a list of ints, so that it can be walked -/
section
variable {P : Program} {w : World} {A : Around} {E : Value → Shared → Prop} {s : Shared}
set_option maxHeartbeats 3200000 in
theorem lset_call {l : Addr} {items : Array Value} (ns : List Int) {Q : Value → Shared → Prop} (hh : A.handled = none) (hl : s.heap.IsList l items) (hit : IntsAre items.toList ns) (hb : ns.length + 1 < scanBound)
    (h : ∀ (h' : Heap) (tk c : Nat), SetR w h' s.heap.objs.size (fun j => decide (j ∈ ns)) c → c ≤ ns.length → (∀ b o, s.heap.get? b = some o → h'.get? b = some o) → Q (.ref s.heap.objs.size) { s with heap := h', toks := tk }) :
    wpAny (model P w) A (call (.type "set") [.ref l]) Q E s := by
  have hn : items.size = ns.length := by rw [← Array.length_toList]; exact IntsAre.length hit
  obtain ⟨c, tl, hmro⟩ := F.called_set.mro
  have hmade := F.called_set.made
  have hsub := F.called_set.sub
  have h1 := F.called_set.notType
  have h2 := F.called_set.canCreate
  have hct := F.typeCall_set_1 (.ref l)
  refine wpAny_call (codeAny_of_tree ?_)
  show wpAny _ _ (callAny (.type "set") _) _ _ _
  refine wpAny_pure ⟨Code.quiet_builtin _ (by decide +kernel), codeAny_builtin F.entry_type_call ?_⟩
  rw [Around.under_plain (weight_type_call_type "set" [.ref l] []) rfl]
  repeat (any_goals (first | assumption | wp_step))
  generalize ho : ({ cls := .type "set", dict := none, data := .set #[] 0 (.fresh 0 0 (!w.params.followText "set-order")) } : Obj) = ob
  refine codeAny_mono (code_set_led1 (.ref l) (E := E) (Q₁ := fun x t => x = .ref s.heap.objs.size ∧ t = { s with heap := s.heap.push ob }) ⟨rfl, by rw [ho]⟩) fun r t hr => ?_
  cases r with
  | error e => exact hr
  | ok fl =>
    cases fl with
    | ret x =>
      obtain ⟨rfl, rfl⟩ := hr
      have hS : (s.heap.push ob).get? s.heap.objs.size = some ob := Heap.get?_push_size _ (by rw [← ho]; rfl)
      have hT : Shared.TypeIs { s with heap := s.heap.push ob } (.ref s.heap.objs.size) "set" := ⟨_, hS, by rw [← ho]⟩
      have hli := F.called_set.init.lookup
      have hbi := F.called_set.init.bind (.ref s.heap.objs.size)
      repeat (any_goals (first | assumption | wp_step))
      refine codeAny_mono (codeAny_call_builtin (R := wants (fun r t => r = .none ∧ ∃ h' tk c, t = { s with heap := h', toks := tk } ∧ SetR w h' s.heap.objs.size (fun j => decide (j ∈ ns)) c ∧ c ≤ ns.length ∧
          (∀ b o, s.heap.get? b = some o → h'.get? b = some o)) E) F.called_set.init.plain F.entry_set_init (check_set_init_1 hT ?_)) fun r2 t2 hr2 => ?_
      · have hl0 : (s.heap.push ob).IsList l items := hl.push _
        obtain ⟨ol, hol, hcl, nl, hdl⟩ := hl
        obtain ⟨ocls, odict, odata, oslots⟩ := ol
        simp only at hcl hdl
        subst hcl hdl
        have hol' : (s.heap.push ob).get? l = some { cls := .type "list", dict := odict, data := .seq items nl, slots := oslots } := Heap.get?_push_of_some _ hol
        have e1 := F.sub_list_set
        have e2 := F.sub_list_frozenset
        have hne : (Value.type "list" == Value.type "dict") = false := by decide
        have lt : l < s.heap.objs.size := Heap.lt_size hol
        have sz : (s.heap.push ob).objs.size = s.heap.objs.size + 1 := Heap.size_push ..
        have hneI : l ≠ (s.heap.push ob).objs.size := by rw [sz]; exact Nat.ne_of_lt (Nat.lt_succ_of_lt lt)
        have hSf : s.heap.objs.size ∉ [(s.heap.push ob).objs.size, l] := by
          rw [sz]
          simp only [List.mem_cons, List.not_mem_nil, or_false, not_or]
          exact ⟨Nat.ne_of_lt (Nat.lt_succ_self _), Nat.ne_of_gt lt⟩
        have hh3 : A.in1.in1.in1.handled = none := by simp [hh]
        subst ho
        unfold Builtin.«set.__init__» noKeywords Builtin.Frozenset.updateFrom
        generalize hPI : pyIter = PI
        wp_walk
        subst hPI
        refine wpAny_pyIter_list hl0 ?_
        refine wpAny_bind (wpAny_runValue ?_)
        have hv : ∀ (i : Nat) (v : Value), items[i]? = some v → ∃ k t, ns[i]? = some k ∧ v = .int k t := fun i v hv => by
          have hi : i < ns.length := by rw [← hn]; exact (Array.getElem?_eq_some_iff.mp hv).1
          obtain ⟨t, e⟩ := IntsAre.int_at hit i v (by rw [Array.getElem?_toList]; exact hv)
          refine ⟨ns[i], t, List.getElem?_eq_getElem hi, ?_⟩
          rw [e, List.getD_eq_getElem?_getD, List.getElem?_eq_getElem hi] <;> rfl
        refine set_update_ints ((Walks.list hh3 _ l hneI items).toS) s.heap.objs.size hSf ns hn hb hv (items.size - 0) 0 _ (by omega) (Nat.zero_le _) ⟨⟨_, Heap.get?_push_size _ rfl, rfl, rfl⟩, hl0.push _⟩ ?hZero ?hRest
        case hZero => exact ⟨0, Nat.le_refl 0, setR_new_at (Heap.get?_push_of_some _ hS)⟩
        case hRest =>
          intro t' c' hm hc' hS'
          obtain ⟨h', g2, d', tk', os'⟩ := t'
          obtain rfl : g2 = s.gens := hm.gens
          obtain rfl : d' = s.drawn := hm.drawn
          obtain rfl : os' = s.os := hm.os
          show wpAny _ _ _ _ _ _
          refine wpAny_pure ?_
          show wpAny _ _ (ret Value.none) _ _ _
          rw [hn] at hc'
          refine wpAny_pure ⟨rfl, h', tk', c', rfl, hS', hc', fun b o e => ?_⟩
          have hb0 : b < s.heap.objs.size := Heap.lt_size e
          refine hm.heap b o ?_ (Heap.get?_push_of_some _ (Heap.get?_push_of_some _ e))
          rw [sz]
          simp only [List.mem_cons, List.not_mem_nil, or_false, not_or]
          exact ⟨Nat.ne_of_lt hb0, Nat.ne_of_lt (Nat.lt_succ_of_lt hb0)⟩
      · cases r2 with
        | error e => exact hr2
        | ok fl2 =>
          cases fl2 with
          | ret r =>
            obtain ⟨rfl, h', tk, c', rfl, hS', hc', hk'⟩ := hr2
            repeat (any_goals (first | assumption | wp_step))
            exact h _ _ _ hS' hc' hk'
          | _ => exact hr2.elim
    | _ => exact hr.elim
end
section
variable {X : Cx}
/-- set(xs), xs a list of ints: a new set -/
def rSetLi (K : PySem.W.Frag) (w : World) : List V → Hp → VK → Prop := fun xs H Q => ∃ (l : Addr) (ns : List Int), xs = [.ref l] ∧ SqL K H l (ns.map V.int) ∧ ns.length < 60 ∧ ∀ p c, H p = none → c ≤ ns.length → Q (.ref p) (upd H p (SetO w p (fun j => decide (j ∈ ns)) c))
theorem cr_setLi (hc : X.calm = true) : CallR X (.type "set") (rSetLi X.K X.w) := by
  intro pins s σ H vs us Q I r h
  obtain ⟨l, ns, rfl, hl, h60, q⟩ := h
  rw [Vals.ref1 r]
  obtain ⟨its, rv, p, hz⟩ := I.list hl
  refine lset_call ns (I.ok.hd hc) p.isList (by rw [List.toList_toArray]; exact ints_of_vals rv) (by unfold scanBound; omega) fun h' tk c R hcn k => ?_
  exact ⟨.ref _, _, I.laid (t' := tk) k (Nat.le_refl _) (setO_new R), rfl, q _ _ (I.hok.fresh (Nat.le_refl _)) hcn⟩
end
end L2
set_option maxRecDepth 100000
set_option maxHeartbeats 1000000
namespace Fv
open PySem PySem.Spec PyProof.Rows L2
/-! errors of the package kept as values: made, asked of their class, their fields read -/
/-- v is an error of the class at C, made and not raised, its fields these -/
def ErV (H : Hp) (v : V) (C : Addr) (fs : List (Str × V)) : Prop := ∃ a, v = .ref a ∧ ((H a = some (exo a C none) ∧ fs = []) ∨ ∃ dx, H a = some (exo a C (some dx)) ∧ H dx = some (exd dx fs))
theorem ErV.same {H H' : Hp} {v : V} {C : Addr} {fs : List (Str × V)} (s : Same H H') (h : ErV H v C fs) : ErV H' v C fs := by
  obtain ⟨a, e, h⟩ := h
  refine ⟨a, e, ?_⟩
  rcases h with ⟨h, z⟩ | ⟨dx, h1, h2⟩
  · exact .inl ⟨s _ _ h, z⟩
  · exact .inr ⟨dx, s _ _ h1, s _ _ h2⟩
section
variable {X : Cx} {K : PySem.W.Frag}
/-- C(), kept -/
theorem pe_supV {C fI : Addr} {x : Str} {p pos : Pos} (T : SupC X.prog X.K C fI) (hr : Room 1 X.A) (hg : Gl X x) (hm : X.mg x = some (.ref C)) (hs : X.mg "super" = none) (hdb : (x == ("__debug__" : Str)) = false := by decide) :
    PE X (.Call (.Name x p) [] [] pos) (fun _ H Q => ∀ v H', Same H H' → ErV H' v C [] → Q v H') := by
  refine ⟨fun pins s σ H Q I h => ?_⟩
  refine wpAny_Call_Name_kw (ld_glob I hg hm ?_ hdb)
  refine PySem.W.callWith_K0 I.kIn T.x.kC ?_
  obtain ⟨mb, hb1, hb2⟩ := I.mod.blt
  have hlim := I.nolimit
  have hgl : s.heap.Ns mainGlobals X.mg := I.mod.glob.keeps I.bk
  have hbl : s.heap.Ns builtinsNs mb := hb1.keeps I.bk
  obtain ⟨hp, g, d, t, os⟩ := s
  refine wpAny_call (sup_made T I.kIn hlim hgl hs hbl ((hb2 "super" (by decide)).trans (by first | rfl | decide +kernel | kernel_rfl)) (by have := hr.dp; omega) fun h' tk' e t1 k ge hx => ?_)
  have hn : H e = none := I.hok.fresh ge
  have J : Inv X pins σ (upd H e (exo e C none)) ⟨h', g, d, tk', os⟩ := I.laid (t' := tk') k ge (exo_ok hx)
  exact ⟨.ref e, _, J, rfl, h _ _ (same_new (Same.refl _) hn) ⟨e, rfl, .inl ⟨upd_same, rfl⟩⟩⟩
/-- C(e, ..), C's own __init__ keeping sp, kept -/
def tMkV (C : Addr) (sp : Sp) (ta : TA) : TE := fun σ H Q => ta σ H fun vs H1 => vs.length ≤ 1000 ∧ ∀ a, H1 a = none → sp (.ref a :: vs) (upd H1 a (exo a C none)) (fun v H2 => v = .non ∧ Q (.ref a) H2) (fun _ _ _ => False)
theorem pe_oexV {CX : CXT} {x : Str} {C fI : Addr} {k : Nat} {fd : FuncData} {ps : List Str} {sp : Sp} {e : Expr} {es : List Expr} {ta : TA} {p pos : Pos} (T : OexC X.K C) (iC : PySem.W.findIn X.K (.ref C) "__init__" = some (some (.ref fI))) (tI : PySem.W.typeIn X.K (.ref fI) = some (.type "function"))
    (F1 : FnOk X.prog X.w X.K X.mg X.base CX k fI fd ps sp) (hr : Room (k + 1) X.A) (hb : L2.Binds X.K fd ps []) (hx : L2.Passes CX X (fun _ _ _ => False)) (hg : Gl X x) (hm : X.mg x = some (.ref C)) (ha : PA X (e :: es) ta)
    (hdb : (x == ("__debug__" : Str)) = false := by decide) (he : starEach (e :: es) X.env = (false, eval e X.env) :: starEach es X.env := by rfl) (hpl : (backTo pos (starEach es X.env)).any (·.1) = false := by rfl) :
    PE X (.Call (.Name x p) (e :: es) [] pos) (tMkV C sp ta) := by
  refine ⟨fun pins s σ H Q I h => ?_⟩
  obtain ⟨nm, q, N, bs, bm, sn, sub, ab, col, dd, k0, k1, k2, k3, k5, hC, hbm⟩ := T.cls
  refine wpAny_Call_Name_kw (ld_glob I hg hm ?_ hdb)
  refine PySem.W.callWith_K (h₀ := X.base) I.ok.mod.kin T.kC (thn (ha.run pos pins s σ H _ I h) fun us z ⟨vs, H1, I1, r1, hz, q1⟩ => ⟨I1.kIn, ?_⟩) he hpl
  show wpAny _ _ (call (.ref C) us) _ _ _
  obtain ⟨hp, g, dr, tk, os⟩ := z
  have le : hp.objs.size ≤ hp.objs.size + 1 := Nat.le_succ _
  have new : H1 (hp.objs.size + 1) = none := I1.hok.fresh le
  have hq := q1 (hp.objs.size + 1) new
  have kk : ∀ b o, hp.get? b = some o → ((hp.push (PySem.W.kdv_tup us)).push (PySem.HandSPX.excO C hp.objs.size)).get? b = some o := fun b o y => Heap.get?_push_of_some _ (Heap.get?_push_of_some _ y)
  have got : ((hp.push (PySem.W.kdv_tup us)).push (PySem.HandSPX.excO C hp.objs.size)).get? (hp.objs.size + 1) = some (PySem.HandSPX.excO C hp.objs.size) := by heap_get
  have J : Inv X pins σ (upd H1 (hp.objs.size + 1) (exo (hp.objs.size + 1) C none)) ⟨(hp.push (PySem.W.kdv_tup us)).push (PySem.HandSPX.excO C hp.objs.size), g, dr, tk, os⟩ := I1.laid (t' := tk) kk le (exo_ok got)
  have rr : Vals (V.ref (hp.objs.size + 1) :: vs) (Value.ref (hp.objs.size + 1) :: us) := .cons rfl r1
  have hl : (Value.ref (hp.objs.size + 1) :: us ++ []).length = ps.length := by
    rw [List.append_nil]
    have y := rr.length
    rw [F1.len _ _ _ _ hq] at y
    exact y.symm
  have us' : us.length ≤ sizeLine := by
    rw [← Paired.length r1, sizeLine_eq]
    omega
  have hbb := hb _ (Value.ref (hp.objs.size + 1) :: us) J.kIn hl
  rw [List.append_nil] at hbb
  refine wpAny_call (PySem.HandSPX.call_own F.excBase_ValueError (fun Y => PySem.HandSPX.refsVE_contains Y bm hbm) (I1.kIn _ _ hC) (PySem.W.looks_findIn I1.kIn iC) (fun self => PySem.W.bind_fn I1.kIn self tI) us'
    (codeAny_mono (F1.run _ X.stack _ _ ⟨Value.ref (hp.objs.size + 1) :: us, []⟩ (Value.ref (hp.objs.size + 1) :: us) _ _ (fun _ _ _ => False) (hr.make C us []) (J.env0.make C us []) hbb rr hq) fun r s' hq' => ?_))
  cases r with
  | error er => exact hx pins σ _ _ er s' J hq'
  | ok fl =>
    cases fl with
    | ret u =>
      have y := J.after (Q := fun v H2 => v = .non ∧ Q (.ref (hp.objs.size + 1)) H2) hq'
      obtain ⟨v, H2, J2, rv, ev, q2⟩ := y
      subst ev
      exact ⟨rv, .ref (hp.objs.size + 1), H2, J2, rfl, q2⟩
    | next => exact False.elim hq'
    | brk => exact False.elim hq'
    | cont => exact False.elim hq'
/-- isinstance(e, c), e such a value -/
def rIsV (K : PySem.W.Frag) : List V → Hp → VK → Prop := fun xs H Q => ∃ (x c : V) (C : Addr) (fs : List (Str × V)) (cv : Value) (b : Bool), xs = [x, c] ∧ ErV H x C fs ∧ L2.ExcC K C ∧ (∀ u, RelV c u → u = cv) ∧ PySem.W.kitOne K (.ref C) cv = some b ∧ Q (.bl b) H
theorem er_at {pins : List (Addr × Obj)} {σ : L2.St} {H : Hp} {s : Shared} {v : V} {C : Addr} {fs : List (Str × V)} (I : Inv X pins σ H s) (h : ErV H v C fs) : ∃ a ox od, v = .ref a ∧ PySem.W.InstAt s.heap a ox C od ∧ ∀ f, (fs.lookup f).isSome = true → ∃ ob u, od = some ob ∧ PySem.W.lookIn f ob = some (some u) ∧ ∃ y, fs.lookup f = some y ∧ RelV y u := by
  obtain ⟨a, rfl, h⟩ := h
  rcases h with ⟨h, rfl⟩ | ⟨dx, h1, h2⟩
  · obtain ⟨t, e⟩ := exo_at I.hok h
    exact ⟨a, _, none, rfl, ⟨e, rfl, rfl, trivial⟩, fun f z => absurd z (by simp)⟩
  · obtain ⟨t, e⟩ := exo_at I.hok h1
    obtain ⟨mA, hns, hr⟩ := exd_at I.hok h2
    obtain ⟨ob, ho, hl⟩ := lookIn_ns hns
    refine ⟨a, _, some ob, rfl, ⟨e, rfl, rfl, ho⟩, fun f z => ?_⟩
    obtain ⟨y, ey⟩ := Option.isSome_iff_exists.mp z
    obtain ⟨u, hu, ru⟩ := RelO.some_of (v := y) (o := mA f) (by rw [← ey]; exact hr f)
    exact ⟨ob, u, rfl, by rw [hl, hu], y, ey, ru⟩
theorem call_isV (eK : X.K = K) : CallR X (.builtin "isinstance") (rIsV K) := by
  subst eK
  intro pins s σ H xs us Q I r h
  obtain ⟨x, c, C, fs, cv, b, rfl, he, hC, hcv, e, q⟩ := h
  obtain ⟨a, ox, od, rfl, J, _⟩ := er_at I he
  cases r with
  | cons rx rr =>
    cases rr with
    | cons rt rr =>
      cases rr
      cases rx
      have ec := hcv _ rt
      subst ec
      have hcl : (PySem.W.clsIn X.K C).isSome = true := by
        obtain ⟨cd, hc, _⟩ := PySem.W.any_some hC.hd
        rw [hc]
        rfl
      exact PySem.W.kia_one (PySem.W.kitx_exc hcl hC.hg hC.hk hC.hs hC.ha hC.hn hC.ht hC.hm) I.kIn J e (fun z => nomatch z) fun tk => ⟨.bl b, H, I.kept (t' := tk) fun _ _ z => z, rfl, q⟩
/-- e.f, e such a value -/
def tFV (K : PySem.W.Frag) (f : Str) (te : TE) : TE := fun σ H Q => te σ H fun x H1 => ∃ (C : Addr) (fs : List (Str × V)) (v : V), ErV H1 x C fs ∧ L2.ExcC K C ∧ PySem.W.findIn K (.ref C) f = some none ∧ fs.lookup f = some v ∧ Q v H1
theorem pe_fV {e : Expr} {te : TE} {n : Str} {pos : Pos} (eK : X.K = K) (he : PE X e te) (hb : attributeBase e n X.env (eval e X.env) = eval e X.env := by rfl) : PE X (.Attribute e n pos) (tFV K n te) := by
  subst eK
  refine ⟨fun pins s σ H Q I h => ?_⟩
  refine attr_of hb (thn (he.run pins s σ H _ I h) fun u s1 hh => ?_)
  obtain ⟨x, H1, I1, rx, C, fs, v, her, T, hno, l, q⟩ := hh
  obtain ⟨a, ox, od, rfl, J, look⟩ := er_at I1 her
  obtain rfl : u = Value.ref a := rx
  obtain ⟨ob, u, rfl, hl, y, ey, ry⟩ := look n (by rw [l]; rfl)
  rw [l] at ey
  cases ey
  exact HandSPX.exc_get I1.kIn J T.hg T.hk T.hs (PySem.W.findObj_own T.hd hno rfl hl) (handed_of ry) ⟨v, H1, I1.tok _, ry, q⟩
theorem x_isV {H : Hp} {Q : VK} {x : V} {C D : Addr} {fs : List (Str × V)} {b : Bool} (he : ErV H x C fs) (hC : L2.ExcC K C) (k : PySem.W.kitOne K (.ref C) (.ref D) = some b) (q : Q (.bl b) H) : rIsV K [x, .ref D] H Q :=
  ⟨x, .ref D, C, fs, .ref D, b, rfl, he, hC, fun u h => by cases h; rfl, k, q⟩
theorem x_isVv {H : Hp} {Q : VK} {x : V} {C : Addr} {fs : List (Str × V)} {b : Bool} (he : ErV H x C fs) (hC : L2.ExcC K C) (k : PySem.W.kitOne K (.ref C) (.type "ValueError") = some b) (q : Q (.bl b) H) : rIsV K [x, .ty "ValueError"] H Q :=
  ⟨x, .ty "ValueError", C, fs, .type "ValueError", b, rfl, he, hC, fun u h => by cases h; rfl, k, q⟩
theorem x_fV {f : Str} {te : TE} {σ : L2.St} {H : Hp} {Q : VK} (h : te σ H fun x H1 => ∃ (C : Addr) (fs : List (Str × V)) (v : V), ErV H1 x C fs ∧ L2.ExcC K C ∧ PySem.W.findIn K (.ref C) f = some none ∧ fs.lookup f = some v ∧ Q v H1) : tFV K f te σ H Q := h
/-- a promise that is asked for more serves -/
theorem pe_weak {e : Expr} {t t' : TE} (h : PE X e t) (w : ∀ σ H Q, t' σ H Q → t σ H Q) : PE X e t' := ⟨fun pins s σ H Q I q => h.run pins s σ H Q I (w σ H Q q)⟩
theorem pa_weak {es : List Expr} {t t' : TA} (h : PA X es t) (w : ∀ σ H Q, t' σ H Q → t σ H Q) : PA X es t' := ⟨fun pos pins s σ H Q I q => h.run pos pins s σ H Q I (w σ H Q q)⟩
end
end Fv
set_option maxRecDepth 100000
set_option maxHeartbeats 1000000
namespace Fv
open PySem PySem.Spec PyProof.Rows L2
/-! a thing that is alike itself, dicts of one key among what it holds; walks of a dict's keys -/
theorem units1 {k : Nat} {A : Around} (r : Room k A) : A.units + 1 < cLine := by
  have := r.units
  omega
def Rx (H : Hp) : Nat → V → Prop
  | 0, x => sca x = true
  | n + 1, x => sca x = true ∨ (∃ a xs, x = .ref a ∧ (H a = some (.lst xs) ∨ H a = some (.tup xs)) ∧ xs.length ≤ 1000 ∧ ∀ y ∈ xs, Rx H n y) ∨ ∃ a k v, x = .ref a ∧ H a = some (.dK [(k, v)]) ∧ sca v = true
theorem Rx.sca {H : Hp} {n : Nat} {x : V} (h : Fv.sca x = true) : Rx H n x := by
  cases n with
  | zero => exact h
  | succ n => exact .inl h
theorem Rx.same : ∀ {n : Nat} {H H' : Hp} {x : V}, Same H H' → Rx H n x → Rx H' n x
  | 0, _, _, _, _, h => h
  | n + 1, H, H', x, s, h => by
    rcases h with h | ⟨a, xs, e, h1, hz, h⟩ | ⟨a, k, v, e, h1, h⟩
    · exact .inl h
    · exact .inr (.inl ⟨a, xs, e, h1.imp (s _ _) (s _ _), hz, fun y hy => (h y hy).same s⟩)
    · exact .inr (.inr ⟨a, k, v, e, s _ _ h1, h⟩)
theorem Rx.up : ∀ {n : Nat} {H : Hp} {x : V}, Rx H n x → Rx H (n + 1) x
  | 0, _, _, h => .inl h
  | n + 1, H, x, h => by
    rcases h with h | ⟨a, xs, e, h1, hz, h⟩ | h
    · exact .inl h
    · exact .inr (.inl ⟨a, xs, e, h1, hz, fun y hy => (h y hy).up⟩)
    · exact .inr (.inr h)
theorem Rx.le {n m : Nat} {H : Hp} {x : V} (hm : n ≤ m) (h : Rx H n x) : Rx H m x := by
  induction hm with
  | refl => exact h
  | step _ ih => exact ih.up
theorem Rx.of_al {K : PySem.W.Frag} : ∀ {n : Nat} {H : Hp} {x : V}, Al K H n x x → Rx H n x
  | 0, _, _, h => h.2
  | n + 1, H, x, h => by
    rcases h with h | ⟨a, b, xs, ys, e1, e2, h1, h2, hl, hz, h⟩ | ⟨a, b, xs, ys, e1, e2, h1, h2, hl, hz, h⟩
    · exact .inl h.2
    · rw [e1] at e2
      cases e2
      rw [h1] at h2
      cases h2
      refine .inr (.inl ⟨a, xs, e1, .inl h1, hz, fun y hy => ?_⟩)
      obtain ⟨i, hi, rfl⟩ := List.getElem_of_mem hy
      exact Rx.of_al (h i hi hi)
    · rw [e1] at e2
      cases e2
      rw [h1] at h2
      cases h2
      refine .inr (.inl ⟨a, xs, e1, .inr h1, hz, fun y hy => ?_⟩)
      obtain ⟨i, hi, rfl⟩ := List.getElem_of_mem hy
      exact Rx.of_al (h i hi hi)
theorem Rx.lst {n : Nat} {H : Hp} {a : Addr} {xs : List V} (h : H a = some (.lst xs)) (hz : xs.length ≤ 1000) (q : ∀ y ∈ xs, Rx H n y) : Rx H (n + 1) (.ref a) := .inr (.inl ⟨a, xs, rfl, .inl h, hz, q⟩)
theorem Rx.tup {n : Nat} {H : Hp} {a : Addr} {xs : List V} (h : H a = some (.tup xs)) (hz : xs.length ≤ 1000) (q : ∀ y ∈ xs, Rx H n y) : Rx H (n + 1) (.ref a) := .inr (.inl ⟨a, xs, rfl, .inr h, hz, q⟩)
section
variable {H H' : Hp} {a d D : Addr} {Q : VK} {σ : L2.St} {t : TE} {u : HO} {o : Obj} {kvs : List (Key × V)}
theorem x_lock (h : H d = some u) (mu : Mut (some u)) (q : ∀ od, t σ (upd H d (.frz od u)) fun v H' => H' d = some (.frz od u) ∧ Q v (upd H' d u)) : tLockE t σ H Q := ⟨d, u, h, mu, q⟩
theorem same_unlock {w : HO} (h : H d = some u) (s : Same (upd H d w) H') : Same H (upd H' d u) := fun b o e => by
  by_cases hb : b = d
  · subst hb
    rw [upd_same, ← h, e]
  · rw [upd_ne hb]
    exact s b o (by rw [upd_ne hb]; exact e)
theorem x_din {ty td : TE} (h : ty σ H fun y H1 => td σ H1 fun x H2 => ∃ a o, x = .ref a ∧ DGet H2 a y o ∧ Q (.bl o.isSome) H2) : tDIn ty td σ H Q := h
theorem x_dget {td ty : TE} (h : td σ H fun x H1 => ty σ H1 fun y H2 => ∃ a v, x = .ref a ∧ DGet H2 a y (some v) ∧ Q v H2) : tDGet td ty σ H Q := h
theorem one_val {k : Key} {v : V} : valV [(k, v)] k = some v := by
  unfold valV
  simp
theorem x_keys {td : TE} {R : It → Hp → Prop} (h : td σ H fun x H1 => ∃ d o, x = .ref d ∧ ∃ kvs, H1 d = some (.frz o (.dK kvs)) ∧ R (Itk d o kvs) H1) (w : ∀ Q Q' : VK, (∀ x H, Q x H → Q' x H) → td σ H Q → td σ H Q') : iKeys td σ H R := by
  refine w _ _ (fun x H q => ?_) h
  obtain ⟨d, o, e, kvs, h1, h2⟩ := q
  exact ⟨d, o, e, .inl ⟨kvs, h1, h2⟩⟩
theorem x_keysV {i : Nat} {R : It → Hp → Prop} (h : σ[i]? = some (some (.ref d))) (h1 : H d = some (.frz o (.dK kvs))) (q : R (Itk d o kvs) H) : iKeys (tVar i) σ H R :=
  ⟨.ref d, h, d, o, rfl, .inl ⟨kvs, h1, q⟩⟩
/-- a block over the keys of a dict that it leaves as it is -/
theorem lc_keys {g : TG} {tt : TT} {te : TE} {vs : List Nat} {H1 : Hp} {Qd : Hp → Prop} (Pv : Nat → Hp → Prop) (h0 : Pv 0 (upd H1 D (.lst []))) (hl : ∀ i H, Pv i H → H d = some (.frz o (.dK kvs)))
    (hs : ∀ i k v G, kvs[i]? = some (k, v) → Pv i G → g (kV k) (wipe σ vs) G fun σ2 G2 => wipe σ2 vs = wipe σ vs ∧ tt σ2 G2 fun b G3 => if b = true then te σ2 G3 fun y G4 => ∃ acc, G4 D = some (.lst acc) ∧ acc.length < sizeLine ∧ Pv (i + 1) (upd G4 D (.lst (acc ++ [y]))) else Pv (i + 1) G3)
    (hd : ∀ G, Pv kvs.length G → Qd G) :
    ∃ W : Nat → Nat → Hp → Prop, (∃ m, W 0 m (upd H1 D (.lst []))) ∧ ∀ i m G, W i m G →
      ((Itk d o kvs).stop i G ∧ Qd G) ∨ ((Itk d o kvs).go i G ∧ ∃ Nx : Hp → Prop, (∀ G', Nx G' → ∃ m', m' < m ∧ W (i + 1) m' G') ∧ ∀ x G', (Itk d o kvs).yld i G x G' → g x (wipe σ vs) G' fun σ2 G2 => wipe σ2 vs = wipe σ vs ∧ tt σ2 G2 fun b G3 =>
        if b = true then te σ2 G3 fun y G4 => ∃ acc, G4 D = some (.lst acc) ∧ acc.length < sizeLine ∧ Nx (upd G4 D (.lst (acc ++ [y]))) else Nx G3) := by
  refine ⟨fun i m G => m = kvs.length - i ∧ i ≤ kvs.length ∧ Pv i G, ⟨_, rfl, Nat.zero_le _, h0⟩, ?_⟩
  rintro i m G ⟨rfl, hi, p⟩
  by_cases hlt : i < kvs.length
  · refine .inr ⟨⟨hl i G p, hlt⟩, Pv (i + 1), fun G' p' => ⟨_, by omega, rfl, hlt, p'⟩, ?_⟩
    rintro x G' ⟨rfl, k, v, e, rfl⟩
    exact hs i k v _ e p
  · have e : i = kvs.length := by omega
    subst e
    exact .inl ⟨⟨hl _ G p, Nat.le_refl _⟩, hd G p⟩
end
end Fv
/-! keyed rows, what a block had; nothing of the program here -/
namespace Fv
open PySem PySem.Spec L2
/-- the dict k: x0, k + 1: x1, .. -/
def kdl : Nat → List V → List (Key × V)
  | _, [] => []
  | k, x :: r => (Sum.inl (k : Int), x) :: kdl (k + 1) r
theorem kdl_len : ∀ (k : Nat) (xs : List V), (kdl k xs).length = xs.length
  | _, [] => rfl
  | k, _ :: r => by
    show (kdl (k + 1) r).length + 1 = r.length + 1
    rw [kdl_len]
theorem kdl_get : ∀ (k : Nat) (xs : List V) (i : Nat), (kdl k xs)[i]? = xs[i]?.map fun x => (Sum.inl ((k + i : Nat) : Int), x)
  | _, [], _ => rfl
  | k, x :: r, 0 => rfl
  | k, x :: r, i + 1 => by
    show (kdl (k + 1) r)[i]? = r[i]?.map _
    rw [kdl_get (k + 1) r i, show k + 1 + i = k + (i + 1) by omega]
theorem kdl_at {k : Nat} {xs : List V} {i : Nat} {q : Key} {v : V} (h : (kdl k xs)[i]? = some (q, v)) : q = Sum.inl ((k + i : Nat) : Int) ∧ xs[i]? = some v := by
  rw [kdl_get] at h
  cases e : xs[i]? with
  | none => rw [e] at h; cases h
  | some x => rw [e] at h; cases h; exact ⟨rfl, rfl⟩
theorem kdl_val : ∀ {k : Nat} {xs : List V} {i : Nat} {x : V}, xs[i]? = some x → valV (kdl k xs) (Sum.inl ((k + i : Nat) : Int)) = some x
  | _, [], _, _, h => by cases h
  | k, y :: r, 0, x, h => by
    cases h
    exact valV_pos rfl
  | k, y :: r, i + 1, x, h => by
    show valV ((Sum.inl (k : Int), y) :: kdl (k + 1) r) _ = _
    rw [valV_neg (by
      intro e
      have := Sum.inl.inj e
      omega), show k + (i + 1) = k + 1 + i by omega]
    exact kdl_val h
theorem kdl_no : ∀ {k : Nat} {xs : List V} {b : Int}, (b < k ∨ (k : Int) + xs.length ≤ b) → valV (kdl k xs) (Sum.inl b) = none
  | _, [], _, _ => rfl
  | k, y :: r, b, h => by
    rw [List.length_cons] at h
    show valV ((Sum.inl (k : Int), y) :: kdl (k + 1) r) _ = _
    rw [valV_neg (by
      intro e
      have := Sum.inl.inj e
      omega)]
    exact kdl_no (by omega)
theorem kdl_app : ∀ (k : Nat) (xs ys : List V), kdl k (xs ++ ys) = kdl k xs ++ kdl (k + xs.length) ys
  | _, [], _ => rfl
  | k, x :: r, ys => by
    show _ :: kdl (k + 1) (r ++ ys) = _ :: (kdl (k + 1) r ++ _)
    rw [kdl_app (k + 1) r ys, List.length_cons, show k + 1 + r.length = k + (r.length + 1) by omega]
theorem kdl_snoc {k : Nat} {xs : List V} {b : Int} {v : V} (h : b = ((k + xs.length : Nat) : Int)) : putK (kdl k xs) (Sum.inl b) v = kdl k (xs ++ [v]) := by
  subst h
  rw [putK_new v (kdl_no (.inr (by omega))), kdl_app]
  rfl
theorem kdl_set {k : Nat} {xs : List V} {i : Nat} {b : Int} {v : V} (hi : i < xs.length) (h : b = ((k + i : Nat) : Int)) : putK (kdl k xs) (Sum.inl b) v = kdl k (xs.set i v) := by
  subst h
  have hv := kdl_val (k := k) (List.getElem?_eq_getElem hi)
  unfold putK
  rw [valV_any, hv]
  simp only [Option.isSome_some, if_true]
  refine List.ext_getElem? fun j => ?_
  rw [List.getElem?_map, kdl_get, kdl_get, List.getElem?_set]
  by_cases c : i = j
  · subst c
    rw [List.getElem?_eq_getElem hi]
    simp [hi]
  · rw [if_neg c]
    cases xs[j]? with
    | none => rfl
    | some x =>
      simp only [Option.map_some]
      rw [if_neg (by
        intro e
        have := Sum.inl.inj e
        omega)]
theorem kdl_merge : ∀ (ys : List V) (k : Nat) (xs : List V), mergeK (kdl k xs) (kdl (k + xs.length) ys) = kdl k (xs ++ ys)
  | [], k, xs => by
    rw [List.append_nil]
    rfl
  | y :: r, k, xs => by
    show mergeK (putK (kdl k xs) (Sum.inl ((k + xs.length : Nat) : Int)) y) (kdl (k + xs.length + 1) r) = _
    rw [kdl_snoc rfl, show k + xs.length + 1 = k + (xs ++ [y]).length by rw [List.length_append]; show _ = k + (xs.length + 1); omega, kdl_merge r k (xs ++ [y]), List.append_assoc]
    rfl
theorem kdl_fresh (k : Nat) (ys : List V) : mergeK [] (kdl k ys) = kdl k ys := kdl_merge ys k []
/-! ascending lists -/
theorem asc_ext : ∀ {a b : List Int}, a.Pairwise (· < ·) → b.Pairwise (· < ·) → (∀ k, k ∈ a ↔ k ∈ b) → a = b
  | [], [], _, _, _ => rfl
  | [], y :: b, _, _, h => absurd ((h y).2 List.mem_cons_self) (by simp)
  | x :: a, [], _, _, h => absurd ((h x).1 List.mem_cons_self) (by simp)
  | x :: a, y :: b, ha, hb, h => by
    obtain ⟨a1, a2⟩ := List.pairwise_cons.mp ha
    obtain ⟨b1, b2⟩ := List.pairwise_cons.mp hb
    have e : x = y := by
      rcases List.mem_cons.mp ((h x).1 List.mem_cons_self) with e | e
      · exact e
      · rcases List.mem_cons.mp ((h y).2 List.mem_cons_self) with e2 | e2
        · exact e2.symm
        · have := a1 _ e2
          have := b1 _ e
          omega
    subst e
    rw [asc_ext a2 b2 fun k => ?_]
    constructor
    · intro m
      rcases List.mem_cons.mp ((h k).1 (List.mem_cons_of_mem _ m)) with e | e
      · subst e
        exact absurd (a1 _ m) (by omega)
      · exact e
    · intro m
      rcases List.mem_cons.mp ((h k).2 (List.mem_cons_of_mem _ m)) with e | e
      · subst e
        exact absurd (b1 _ m) (by omega)
      · exact e
def intsN (l : List Nat) : List Int := l.map fun (p : Nat) => (p : Int)
/-- the places of l up to n, once each, ascending -/
def hadL (n : Nat) (l : List Nat) : List Nat := (List.range (n + 1)).filter fun p => decide (p ∈ l)
theorem hadL_mem {n : Nat} {l : List Nat} {p : Nat} : p ∈ hadL n l ↔ p ≤ n ∧ p ∈ l := by
  unfold hadL
  rw [List.mem_filter, List.mem_range, decide_eq_true_iff]
  exact ⟨fun h => ⟨by have := h.1; omega, h.2⟩, fun h => ⟨by have := h.1; omega, h.2⟩⟩
theorem hadL_asc (n : Nat) (l : List Nat) : (hadL n l).Pairwise (· < ·) := List.Pairwise.filter _ List.pairwise_lt_range
theorem hadL_only {n : Nat} {l : List Nat} {ns : List Int} (h : ∀ p ∈ l, p ≤ n) (a : ns.Pairwise (· < ·)) (m : ∀ k : Int, k ∈ ns ↔ decide (k ∈ intsN l) = true) : ns = intsN (hadL n l) := by
  refine asc_ext a ?_ fun k => ?_
  · exact List.Pairwise.map _ (fun a b (c : a < b) => Int.ofNat_lt.mpr c) (hadL_asc n l)
  · rw [m, decide_eq_true_iff]
    unfold intsN
    rw [List.mem_map, List.mem_map]
    constructor
    · rintro ⟨p, hp, rfl⟩
      exact ⟨p, hadL_mem.2 ⟨h p hp, hp⟩, rfl⟩
    · rintro ⟨p, hp, rfl⟩
      exact ⟨p, (hadL_mem.1 hp).2, rfl⟩
theorem hadL_len (n : Nat) (l : List Nat) : (hadL n l).length ≤ n + 1 := by
  have := List.length_filter_le (fun p => decide (p ∈ l)) (List.range (n + 1))
  rw [List.length_range] at this
  exact this
theorem intsN_len (l : List Nat) : (intsN l).length = l.length := List.length_map ..
/-- a move's place goes to its block's list -/
def addT (ls : List (List Nat)) (m : Nat × Nat) : List (List Nat) := ls.set (m.1 - 1) (ls.getD (m.1 - 1) [] ++ [m.2])
def tiesL (hs : List Nat) (ms : List (Nat × Nat)) : List (List Nat) := ms.foldl addT (hs.map fun p => [p])
def hadLs (hs : List Nat) (ms : List (Nat × Nat)) : List (List Nat) := (tiesL hs ms).map (hadL hs.length)
theorem addT_len (ls : List (List Nat)) (m : Nat × Nat) : (addT ls m).length = ls.length := List.length_set ..
theorem foldT_len : ∀ (ms : List (Nat × Nat)) (ls : List (List Nat)), (ms.foldl addT ls).length = ls.length
  | [], _ => rfl
  | m :: r, ls => by
    show (r.foldl addT (addT ls m)).length = _
    rw [foldT_len r, addT_len]
theorem tiesL_len (hs : List Nat) (ms : List (Nat × Nat)) : (tiesL hs ms).length = hs.length := by
  unfold tiesL
  rw [foldT_len, List.length_map]
theorem tiesL_snoc (hs : List Nat) (ms : List (Nat × Nat)) (m : Nat × Nat) : tiesL hs (ms ++ [m]) = addT (tiesL hs ms) m := by
  unfold tiesL
  rw [List.foldl_append]
  rfl
theorem tiesL_take {hs : List Nat} {ms : List (Nat × Nat)} {i : Nat} {m : Nat × Nat} (h : ms[i]? = some m) : tiesL hs (ms.take (i + 1)) = addT (tiesL hs (ms.take i)) m := by
  rw [List.take_add_one, h]
  exact tiesL_snoc ..
/-- each list holds places up to n that aren't its block, and at most k + 1 of them -/
def TieOk (n k : Nat) (ls : List (List Nat)) : Prop := ∀ i l, ls[i]? = some l → 1 ≤ l.length ∧ l.length ≤ k + 1 ∧ ∀ p ∈ l, p ≤ n ∧ p ≠ i + 1
theorem TieOk.add {n k : Nat} {ls : List (List Nat)} {m : Nat × Nat} (h : TieOk n k ls) (b1 : 1 ≤ m.1) (hp : m.2 ≤ n) (hb : m.2 ≠ m.1) : TieOk n (k + 1) (addT ls m) := by
  intro i l e
  unfold addT at e
  rw [List.getElem?_set] at e
  split at e
  · rename_i c
    subst c
    split at e
    · rename_i lt
      have g := List.getElem?_eq_getElem lt
      rw [List.getD_eq_getElem?_getD, g] at e
      cases e
      obtain ⟨q1, q2, q3⟩ := h _ _ g
      rw [Option.getD_some, List.length_append]
      refine ⟨by omega, by show _ + 1 ≤ _; omega, fun p hm => ?_⟩
      rcases List.mem_append.mp hm with hm | hm
      · exact q3 p hm
      · rw [List.mem_singleton.mp hm]
        exact ⟨hp, by omega⟩
    · cases e
  · obtain ⟨q1, q2, q3⟩ := h _ _ e
    exact ⟨q1, by omega, q3⟩
theorem tieOk_base {hs : List Nat} (h1 : ∀ i p, hs[i]? = some p → p ≤ hs.length ∧ p ≠ i + 1) : TieOk hs.length 0 (hs.map fun p => [p]) := by
  intro i l e
  rw [List.getElem?_map] at e
  cases g : hs[i]? with
  | none => rw [g] at e; cases e
  | some p =>
    rw [g] at e
    cases e
    refine ⟨Nat.le_refl _, Nat.le_refl _, fun q hq => ?_⟩
    rw [List.mem_singleton.mp hq]
    exact h1 i p g
theorem tieOk_all {hs : List Nat} {ms : List (Nat × Nat)} (h1 : ∀ i p, hs[i]? = some p → p ≤ hs.length ∧ p ≠ i + 1) (h2 : ∀ m ∈ ms, 1 ≤ m.1 ∧ m.2 ≤ hs.length ∧ m.2 ≠ m.1) : ∀ i, i ≤ ms.length → TieOk hs.length i (tiesL hs (ms.take i))
  | 0, _ => tieOk_base h1
  | i + 1, hi => by
    have e := List.getElem?_eq_getElem (show i < ms.length by omega)
    rw [tiesL_take e]
    obtain ⟨a, b, c⟩ := h2 _ (List.getElem_mem (show i < ms.length by omega))
    exact (tieOk_all h1 h2 i (by omega)).add a b c
/-- what the blocks had: places that fit, ascending, at least one -/
structure KnownOk (n : Nat) (ks : List (List Nat)) : Prop where
  len : ks.length = n
  at_ : ∀ i k, ks[i]? = some k → 1 ≤ k.length ∧ k.Pairwise (· < ·) ∧ ∀ p ∈ k, p ≤ n ∧ p ≠ i + 1
theorem hadLs_len (hs : List Nat) (ms : List (Nat × Nat)) : (hadLs hs ms).length = hs.length := by
  unfold hadLs
  rw [List.length_map, tiesL_len]
theorem hadLs_ok {hs : List Nat} {ms : List (Nat × Nat)} (h1 : ∀ i p, hs[i]? = some p → p ≤ hs.length ∧ p ≠ i + 1) (h2 : ∀ m ∈ ms, 1 ≤ m.1 ∧ m.2 ≤ hs.length ∧ m.2 ≠ m.1) : KnownOk hs.length (hadLs hs ms) := by
  refine ⟨hadLs_len hs ms, fun i k e => ?_⟩
  unfold hadLs at e
  rw [List.getElem?_map] at e
  cases g : (tiesL hs ms)[i]? with
  | none => rw [g] at e; cases e
  | some l =>
    rw [g] at e
    cases e
    have t := tieOk_all h1 h2 ms.length (Nat.le_refl _)
    rw [List.take_length] at t
    obtain ⟨q1, q2, q3⟩ := t i l g
    refine ⟨?_, hadL_asc _ _, fun p hp => ?_⟩
    · match l, q1, q3 with
      | p :: r, _, q3 =>
        have m : p ∈ hadL hs.length (p :: r) := hadL_mem.2 ⟨(q3 p List.mem_cons_self).1, List.mem_cons_self⟩
        exact List.length_pos_of_mem m
    · exact q3 p (hadL_mem.1 hp).2
end Fv
set_option maxRecDepth 100000
set_option maxHeartbeats 2000000
namespace Fv
open PySem PySem.Spec PyProof.Rows L2
/-! dicts: made by a comprehension, compared, walked where they were just made -/
section
variable {X : Cx} {K : PySem.W.Frag}
theorem cr_setLiK {w : World} (e : X.K = K) (e2 : X.w = w) (hc : X.calm = true) : CallR X (.type "set") (rSetLi K w) := by
  subst e e2
  exact cr_setLi hc
theorem cr_sortedSetW {w : World} (e2 : X.w = w) (hc : X.calm = true) : CallR X (.builtin "sorted") (rSortedSet w) := by
  subst e2
  exact cr_sortedSet hc
theorem call_dictPK (e : X.K = K) (hc : X.calm = true) : CallR X (.type "dict") (fun xs H Q => ∃ (a : Addr) (ps : List Addr) (kvs : List (Key × V)), xs = [.ref a] ∧ SqL K H a (ps.map V.ref) ∧ Paired (fun p kv => SqT K H p [kV kv.1, kv.2]) ps kvs ∧
    ∀ p, H p = none → Q (.ref p) (upd H p (.dK (mergeK [] kvs)))) := by
  subst e
  exact call_dictP hc
/-- a dict comprehension over a walk -/
theorem dc_it {J : It} {n : Nat} {G : Hp → Prop} {Y : Nat → Hp → V → Hp → Prop} (w : Walk J n G Y) {g : TG} {tt : TT} {tk tv : TE} {vs : List Nat} {σ : L2.St} {H1 : Hp} {D : Addr} {Qd : Hp → Prop} (Pv : Nat → Hp → Prop) (h0 : Pv 0 (upd H1 D (.dK []))) (hG : ∀ i H, i ≤ n → Pv i H → G H)
    (hs : ∀ i x H H', i < n → Pv i H → Y i H x H' → g x (wipe σ vs) H' fun σ2 H2 => wipe σ2 vs = wipe σ vs ∧ tt σ2 H2 fun b H3 =>
      if b = true then tk σ2 H3 fun y H4 => tv σ2 H4 fun z H5 => ∃ kvs k, y = kV k ∧ H5 D = some (.dK kvs) ∧ kvs.length < sizeLine ∧ Pv (i + 1) (upd H5 D (.dK (putK kvs k z))) else Pv (i + 1) H3) (hd : ∀ H, Pv n H → Qd H) :
    ∃ W : Nat → Nat → Hp → Prop, (∃ m, W 0 m (upd H1 D (.dK []))) ∧ ∀ i m H, W i m H →
      (J.stop i H ∧ Qd H) ∨ (J.go i H ∧ ∃ Nx : Hp → Prop, (∀ H', Nx H' → ∃ m', m' < m ∧ W (i + 1) m' H') ∧ ∀ x H', J.yld i H x H' → g x (wipe σ vs) H' fun σ2 H2 => wipe σ2 vs = wipe σ vs ∧ tt σ2 H2 fun b H3 =>
        if b = true then tk σ2 H3 fun y H4 => tv σ2 H4 fun z H5 => ∃ kvs k, y = kV k ∧ H5 D = some (.dK kvs) ∧ kvs.length < sizeLine ∧ Nx (upd H5 D (.dK (putK kvs k z))) else Nx H3) := by
  refine ⟨fun i m H => m = n - i ∧ i ≤ n ∧ Pv i H, ⟨n, by simp, Nat.zero_le _, h0⟩, ?_⟩
  rintro i m H ⟨rfl, hi, p⟩
  have q := hG i H hi p
  by_cases hlt : i < n
  · refine .inr ⟨w.goes i H hlt q, Pv (i + 1), fun H' p' => ⟨n - (i + 1), by omega, rfl, hlt, p'⟩, fun x H' y => hs i x H H' hlt p (w.yields i H x H' hlt q y)⟩
  · have e : i = n := by omega
    subst e
    exact .inl ⟨w.stops H q, hd H p⟩
/-- a for over a walk -/
theorem lp_it {J : It} {n : Nat} {G : Hp → Prop} {Y : Nat → Hp → V → Hp → Prop} (w : Walk J n G Y) {g : TG} {tb : TS} {nx : L2.St → Hp → Prop} {rt : VK} {σ : L2.St} {H : Hp} (Pv : Nat → L2.St → Hp → Prop) (h0 : Pv 0 σ H) (hG : ∀ i σ H, i ≤ n → Pv i σ H → G H)
    (hs : ∀ i x σ H H', i < n → Pv i σ H → Y i H x H' → g x σ H' fun σ2 H2 => tb { nx := Pv (i + 1), rt := rt, bk := nx, ct := Pv (i + 1) } σ2 H2) (hd : ∀ σ H, Pv n σ H → nx σ H) :
    ∃ W : Nat → Nat → L2.St → Hp → Prop, (∃ m, W 0 m σ H) ∧ ∀ i m σ H, W i m σ H → (J.stop i H ∧ nx σ H) ∨ (J.go i H ∧ ∃ N : L2.St → Hp → Prop, (∀ σ' H', N σ' H' → ∃ m', m' < m ∧ W (i + 1) m' σ' H') ∧ ∀ x H', J.yld i H x H' → g x σ H' fun σ2 H2 => tb { nx := N, rt := rt, bk := nx, ct := N } σ2 H2) := by
  refine ⟨fun i m σ H => m = n - i ∧ i ≤ n ∧ Pv i σ H, ⟨_, rfl, Nat.zero_le _, h0⟩, ?_⟩
  rintro i m σ H ⟨rfl, hi, p⟩
  have q := hG i σ H hi p
  by_cases hlt : i < n
  · exact .inr ⟨w.goes i H hlt q, Pv (i + 1), fun σ' H' p' => ⟨_, by omega, rfl, hlt, p'⟩, fun x H' y => hs i x σ H H' hlt p (w.yields i H x H' hlt q y)⟩
  · have e : i = n := by omega
    subst e
    exact .inl ⟨w.stops H q, hd σ H p⟩
theorem x_dc {wi : TI} {g : TG} {tt : TT} {tk tv : TE} {vs : List Nat} {σ : L2.St} {H : Hp} {Q : VK} (h : wi σ H fun J H1 => ∀ D, H1 D = none → ∃ W : Nat → Nat → Hp → Prop, (∃ m, W 0 m (upd H1 D (.dK []))) ∧ ∀ i m H, W i m H →
    (J.stop i H ∧ Q (.ref D) H) ∨ (J.go i H ∧ ∃ Nx : Hp → Prop, (∀ H', Nx H' → ∃ m', m' < m ∧ W (i + 1) m' H') ∧ ∀ x H', J.yld i H x H' → g x (wipe σ vs) H' fun σ2 H2 => wipe σ2 vs = wipe σ vs ∧ tt σ2 H2 fun b H3 =>
      if b = true then tk σ2 H3 fun y H4 => tv σ2 H4 fun z H5 => ∃ kvs k, y = kV k ∧ H5 D = some (.dK kvs) ∧ kvs.length < sizeLine ∧ Nx (upd H5 D (.dK (putK kvs k z))) else Nx H3)) : tDc wi g tt tk tv vs σ H Q := h
theorem walk_enumT {t : Addr} {k : Int} {xs : List V} : Walk (Itn K t k) xs.length (fun H => SqT K H t xs) (YPair (fun i => some (.int (k + (i : Nat)))) (fun i => xs[i]?)) := by
  refine ⟨fun i _ hi q => ⟨xs, xs[i], q, by simp [hi]⟩, fun _ q => ⟨xs, q, rfl⟩, fun i H v H' _ q y => ?_⟩
  obtain ⟨T, z, h1, h2, h3, h4⟩ := y
  exact ⟨T, .int (k + (i : Nat)), z, h1, h2, h3, rfl, h4 xs q⟩
/-- for k in d, d just made: it stays as it is from here on -/
def iKeysF (td : TE) : TI := fun σ H R => td σ H fun x H1 => ∃ d kvs, x = .ref d ∧ H1 d = some (.dK kvs) ∧ ∀ o, R (Itk d o kvs) (upd H1 d (.frz o (.dK kvs)))
theorem x_keysF {td : TE} {σ : L2.St} {H : Hp} {R : It → Hp → Prop} (h : td σ H fun x H1 => ∃ d kvs, x = .ref d ∧ H1 d = some (.dK kvs) ∧ ∀ o, R (Itk d o kvs) (upd H1 d (.frz o (.dK kvs)))) : iKeysF td σ H R := h
theorem pi_keysF {tg e : Expr} {td : TE} (he : PE X e td) : PI X tg e (iKeysF td) := by
  refine ⟨fun pins s σ H R I h => ?_⟩
  refine thn (he.run pins s σ H _ I h) fun u s1 ⟨x, H1, I1, rx, d, kvs, ex, hd, q⟩ => ?_
  subst ex
  obtain rfl : u = Value.ref d := rx
  obtain ⟨o, I2⟩ := I1.lock hd True.intro
  obtain ⟨hs, hgd, hx, es, ep, vs, hdt, hsz, kv, hm⟩ := I2.frzK upd_same
  refine iter_keys hs hgd hx hdt (pi_one (tk := s1.toks) I2 _ (turn_keys _ hdt) ⟨_, Heap.get?_push_size _ rfl, rfl, ?_⟩ (q o))
  rw [hsz] <;> rfl
def iKeysFT (td : TE) : TI := fun σ H R => td σ H fun x H1 => ∃ d kvs, x = .ref d ∧ H1 d = some (.dT kvs) ∧ ∀ o, R (Itkt d o kvs) (upd H1 d (.frz o (.dT kvs)))
theorem x_keysFT {td : TE} {σ : L2.St} {H : Hp} {R : It → Hp → Prop} (h : td σ H fun x H1 => ∃ d kvs, x = .ref d ∧ H1 d = some (.dT kvs) ∧ ∀ o, R (Itkt d o kvs) (upd H1 d (.frz o (.dT kvs)))) : iKeysFT td σ H R := h
theorem pi_keysFT {tg e : Expr} {td : TE} (he : PE X e td) : PI X tg e (iKeysFT td) := by
  refine ⟨fun pins s σ H R I h => ?_⟩
  refine thn (he.run pins s σ H _ I h) fun u s1 ⟨x, H1, I1, rx, d, kvs, ex, hd, q⟩ => ?_
  subst ex
  obtain rfl : u = Value.ref d := rx
  obtain ⟨o, I2⟩ := I1.lock hd True.intro
  obtain ⟨hs, hgd, hx, es, ep, hdt, hsz, ent⟩ := I2.frzT upd_same
  refine iter_keys hs hgd hx hdt (pi_one (tk := s1.toks) I2 _ (turn_keysT _ hdt) ⟨_, Heap.get?_push_size _ rfl, rfl, ?_⟩ (q o))
  rw [hsz] <;> rfl
theorem units66 {k : Nat} {A : Around} (r : Room k A) : A.units + 66 < cLine := by
  have := r.un
  omega
/-! == and != of dicts of data -/
def PdEq (K : PySem.W.Frag) (H : Hp) (x y : V) : Prop := ∃ d e, Dp K H x d ∧ Dp K H y e ∧ SeqAt.shaped d = true ∧ SeqAt.shaped e = true ∧ PyData.eqv d e = true
theorem hits_pd {pins : List (Addr × Obj)} {σ : L2.St} {H : Hp} {s : Shared} (I : Inv X pins σ H s) {A : Around} (hu : A.in1.units + 64 < cLine) {ls : List (Key × V)} {vb : List (Key × Value)} (rb : KV ls vb) {ks : List (Key × V)} {va : List (Key × Value)} (ra : KV ks va) :
    (∀ p ∈ ks, ∃ z, valV ls p.1 = some z ∧ PdEq X.K H p.2 z) → PySem.W.KeqHits A.in1 s vb va true := by
  unfold KV at ra
  induction ra with
  | nil => intro _; exact .nil
  | @cons p q ps qs h t ih =>
    intro hp
    obtain ⟨h1, h2⟩ := h
    obtain ⟨z, e, d1, d2, g1, g2, s1, s2, ev⟩ := hp p List.mem_cons_self
    have rr : RelO (some z) (valueAt vb p.1) := by rw [← e]; exact rb.val p.1
    obtain ⟨y, hy, ry⟩ := rr.some_of
    obtain ⟨k, v⟩ := q
    have h1' : p.1 = k := h1
    rw [h1'] at hy
    obtain ⟨as, r1⟩ := Dp.reads I d1 _ _ g1 h2
    obtain ⟨bs, r2⟩ := Dp.reads I d2 _ _ g2 ry
    have eq := PySem.W.keq_at (A := A) r1 r2 s1 s2 hu
    rw [ev] at eq
    show PySem.W.KeqHits A.in1 s vb ((k, v) :: qs) (true && true)
    exact .hit hy eq (ih fun p' hm => hp p' (List.mem_cons_of_mem _ hm))
/-- two dicts of the same keys and of equal data -/
def DdEq (K : PySem.W.Frag) (H : Hp) (x y : V) : Prop := ∃ a b ks ls, x = .ref a ∧ y = .ref b ∧ H a = some (.dK ks) ∧ H b = some (.dK ls) ∧ ks.length = ls.length ∧ ∀ p ∈ ks, ∃ z, valV ls p.1 = some z ∧ PdEq K H p.2 z
def rEqDD (K : PySem.W.Frag) : R2 := fun x y H Q => DdEq K H x y ∧ Q (.bl true) H
def rNeDD (K : PySem.W.Frag) : R2 := fun x y H Q => DdEq K H x y ∧ Q (.bl false) H
theorem op_eqDD (e : X.K = K) (hu : X.A.units + 66 < cLine) : OpR X (compareOp .Eq) (rEqDD K) := by
  subst e
  intro pins s σ H x y v u Q I rx ry h
  obtain ⟨⟨a, b, ks, ls, rfl, rfl, ea, eb, hlen, hp⟩, q⟩ := h
  obtain rfl : v = Value.ref a := rx
  obtain rfl : u = Value.ref b := ry
  obtain ⟨_, ya, va, ra, da⟩ := (show ObjOk X.prog X.w H s.heap a (.dK ks) from I.hok a _ ea)
  obtain ⟨_, yb, vb, rb, db⟩ := (show ObjOk X.prog X.w H s.heap b (.dK ls) from I.hok b _ eb)
  have hl : va.length = vb.length := by rw [← ra.length, ← rb.length]; exact hlen
  exact PySem.W.keq_eq (knd := mixKind X.prog X.w) (r := true) ya yb da db (by omega) (fun _ => hits_pd I (by show X.A.units + 1 + 64 < cLine; omega) rb ra hp) (fin_bl I q (by simp [hl]))
theorem op_neDD (e : X.K = K) (hu : X.A.units + 66 < cLine) : OpR X (compareOp .NotEq) (rNeDD K) := by
  subst e
  intro pins s σ H x y v u Q I rx ry h
  obtain ⟨⟨a, b, ks, ls, rfl, rfl, ea, eb, hlen, hp⟩, q⟩ := h
  obtain rfl : v = Value.ref a := rx
  obtain rfl : u = Value.ref b := ry
  obtain ⟨_, ya, va, ra, da⟩ := (show ObjOk X.prog X.w H s.heap a (.dK ks) from I.hok a _ ea)
  obtain ⟨_, yb, vb, rb, db⟩ := (show ObjOk X.prog X.w H s.heap b (.dK ls) from I.hok b _ eb)
  have hl : va.length = vb.length := by rw [← ra.length, ← rb.length]; exact hlen
  exact PySem.W.keq_ne (knd := mixKind X.prog X.w) (r := true) ya yb da db (by omega) (fun _ => hits_pd I (by show X.A.units + 1 + 64 < cLine; omega) rb ra hp) (fin_bl I q (by simp [hl]))
theorem pd_tup {H : Hp} {a b : Addr} {l : List Nat} (h1 : SqT K H a (nats l)) (h2 : SqT K H b (nats l)) : PdEq K H (.ref a) (.ref b) :=
  ⟨.tuple (dn l), .tuple (dn l), .tup h1 (dpAll_nats l), .tup h2 (dpAll_nats l), dn_shaped l, dn_shaped l, by rw [PyData.eqv, dn_eqv, decide_eq_true rfl]⟩
/-! reading and writing keyed rows -/
/-- a heap, the dict at d locked -/
theorem but_frz {H : Hp} {d : Addr} {o : HO} : But d H (upd H d o) := fun b u hb e => by
  rw [upd_ne hb]
  exact e
theorem dgetN {H : Hp} {d : Addr} {k : Nat} {xs : List V} {i : Nat} {x : V} {b : Int} (h : Rd H d (.dK (kdl k xs))) (hx : xs[i]? = some x) (hb : b = ((k + i : Nat) : Int)) : DGet H d (.int b) (some x) := by
  subst hb
  exact .inl ⟨_, Sum.inl _, h, rfl, (kdl_val hx).symm⟩
theorem dputN {H : Hp} {d : Addr} {k : Nat} {xs : List V} {i : Nat} {b : Int} {v : V} (h : H d = some (.dK (kdl k xs))) (hi : i < xs.length) (hz : xs.length ≤ 1000) (hb : b = ((k + i : Nat) : Int)) : DPut H d (.int b) v (upd H d (.dK (kdl k (xs.set i v)))) := by
  refine .inl ⟨_, Sum.inl b, h, rfl, ?_, by rw [kdl_set hi hb]⟩
  rw [kdl_len]
  rw [sizeLine_eq]
  omega
end
end Fv
set_option maxRecDepth 100000
set_option maxHeartbeats 2000000
/-! list(zip(s, t)), s and t tuples of one length: a new list of new pairs -/
namespace RZ
open PySem PySem.W PySem.Calls PyProof.Rows PyProof.V PySem.Spec
open PySem.Sem (wp)
section
variable {prog : Program} {w : World} {A : Around} {E : Value → Shared → Prop} {s : Shared} {z TI TO T i1 i2 l1 l2 : Addr} {f : Bool} {oT : Obj} {k : Nat} {xs ys : Array Value}
theorem zh_next {x y : Value} {Q : Value → Shared → Prop} (D : ZipApart z TI TO i1 i2 l1 l2) (gz : IsZipHeld s.heap z TI TO T f) (gT : s.heap.get? T = some oT) (gI : IsPair s.heap TI (.ref i1) (.ref i2))
    (c1 : s.heap.IsTupleIter i1 l1 k) (c2 : s.heap.IsTupleIter i2 l2 k) (t1 : s.heap.IsTuple l1 xs) (t2 : s.heap.IsTuple l2 ys) (ex : xs[k]? = some x) (ey : ys[k]? = some y)
    (q : ∀ g, IsZipHeld g z TI TO T true → g.IsTupleIter i1 l1 (k + 1) → g.IsTupleIter i2 l2 (k + 1) → IsPair g s.heap.objs.size x y → g.objs.size = s.heap.objs.size + 1 → (∀ c o, c ≠ z → c ≠ i1 → c ≠ i2 → s.heap.get? c = some o → g.get? c = some o) → Q (.ref s.heap.objs.size) { s with heap := g }) :
    wpAny (model prog w) A (Builtin.«zip.__next__» ⟨[.ref z], []⟩) (fun fin s' => ∃ v, fin = .done (.ret v) ∧ Q v s') E s := by
  show wpAny _ _ (field (.ref z) 2 >>= _) _ _ _
  refine wpAny_bind (wpAny_field gz rfl (x := .bool false) rfl ?_)
  show wpAny _ _ (field (.ref z) 3 >>= _) _ _ _
  refine wpAny_bind (wpAny_field gz rfl (x := .ref TI) rfl (wpAny_bind (wpAny_seqItems gI rfl ?_)))
  show wpAny _ _ (Builtin.SmallTypes.ownedTupleIsFree (.ref z) >>= _) _ _ _
  refine wpAny_bind (wpAny_tupleHeld_zip gz gT fun g1 gz1 b1 => ?_)
  simp only [Bool.false_eq_true, if_false]
  refine wpAny_bind ?_
  rw [← Array.forIn_toList]
  simp only [List.forIn_cons, List.forIn_nil]
  refine wpAny_bind (wpAny_bind (wpAny_holding ?_))
  show wpAny _ _ (Builtin.SmallTypes.nextOf (.ref i1) >>= _) _ _ _
  refine wpAny_bind (nextOf_tuple_item (s := { s with heap := g1 }) (c1.extBut b1.extBut D.i1z) (t1.extBut b1.extBut D.l1z) ex fun g2 d1 b2 => wpAny_pure (wpAny_pure ?_))
  refine wpAny_bind (wpAny_bind (wpAny_holding ?_))
  show wpAny _ _ (Builtin.SmallTypes.nextOf (.ref i2) >>= _) _ _ _
  refine wpAny_bind (nextOf_tuple_item (s := { s with heap := g2 }) ((c2.extBut b1.extBut D.i2z).extBut b2.extBut D.i12.symm) ((t2.extBut b1.extBut D.l2z).extBut b2.extBut D.l2i1) ey fun g3 d2 b3 => wpAny_pure (wpAny_pure (wpAny_pure ?_)))
  show wpAny _ _ (newTuple [x, y] >>= _) _ _ _
  refine wpAny_bind (wpAny_newTuple ?_)
  have zs : g3.objs.size = s.heap.objs.size := by rw [b3.1, b2.1, b1.1]
  have gz3 : IsZipHeld g3 z TI TO T true := b3.extBut _ _ D.i2z.symm (b2.extBut _ _ D.i1z.symm gz1)
  have kp : ∀ c o, c ≠ z → c ≠ i1 → c ≠ i2 → s.heap.get? c = some o → g3.get? c = some o := fun c o n1 n2 n3 e => b3.extBut _ _ n3 (b2.extBut _ _ n2 (b1.extBut _ _ n1 e))
  have d13 : g3.IsTupleIter i1 l1 (k + 1) := d1.extBut b3.extBut D.i12
  refine wpAny_pure ⟨_, rfl, ?_⟩
  show Q (.ref g3.objs.size) _
  have pp : IsPair (g3.push { cls := .type "tuple", data := .seq #[x, y] }) g3.objs.size x y := Heap.get?_push_size _ rfl
  have ps : (g3.push { cls := .type "tuple", data := .seq #[x, y] }).objs.size = g3.objs.size + 1 := Heap.size_push ..
  rw [zs] at pp ps ⊢
  exact q _ (Heap.get?_push_of_some _ gz3) (d13.at fun o e => Heap.get?_push_of_some _ e) (d2.at fun o e => Heap.get?_push_of_some _ e) pp ps fun c o n1 n2 n3 e => Heap.get?_push_of_some _ (kp c o n1 n2 n3 e)
theorem zh_last {Q : Fin → Shared → Prop} (hh : A.handled = none) (D : ZipApart z TI TO i1 i2 l1 l2) (gz : IsZipHeld s.heap z TI TO T f) (gT : s.heap.get? T = some oT) (gI : IsPair s.heap TI (.ref i1) (.ref i2))
    (c1 : s.heap.IsTupleIter i1 l1 k) (t1 : s.heap.IsTuple l1 xs) (ex : xs[k]? = none)
    (q : ∀ g e, (∀ c o, c ≠ z → c ≠ i1 → s.heap.get? c = some o → g.get? c = some o) → (∃ o, g.get? e = some o ∧ o.cls = .type "StopIteration") → E (.ref e) { s with heap := g }) :
    wpAny (model prog w) A (Builtin.«zip.__next__» ⟨[.ref z], []⟩) Q E s := by
  show wpAny _ _ (field (.ref z) 2 >>= _) _ _ _
  refine wpAny_bind (wpAny_field gz rfl (x := .bool false) rfl ?_)
  show wpAny _ _ (field (.ref z) 3 >>= _) _ _ _
  refine wpAny_bind (wpAny_field gz rfl (x := .ref TI) rfl (wpAny_bind (wpAny_seqItems gI rfl ?_)))
  show wpAny _ _ (Builtin.SmallTypes.ownedTupleIsFree (.ref z) >>= _) _ _ _
  refine wpAny_bind (wpAny_tupleHeld_zip gz gT fun g1 gz1 b1 => ?_)
  simp only [Bool.false_eq_true, if_false]
  refine wpAny_bind ?_
  rw [← Array.forIn_toList]
  simp only [List.forIn_cons, List.forIn_nil]
  refine wpAny_bind (wpAny_bind (wpAny_holding ?_))
  show wpAny _ _ (Builtin.SmallTypes.nextOf (.ref i1) >>= _) _ _ _
  exact wpAny_bind (nextOf_tuple_end (s := { s with heap := g1 }) hh (c1.extBut b1.extBut D.i1z) (t1.extBut b1.extBut D.l1z) ex fun g2 e b2 he => q g2 e (fun c o n1 n2 x => b2 _ _ n2 (b1.extBut _ _ n1 x)) he)
theorem zh_pyNext {x y : Value} {Q : Option Value → Shared → Prop} (D : ZipApart z TI TO i1 i2 l1 l2) (gz : IsZipHeld s.heap z TI TO T f) (gT : s.heap.get? T = some oT) (gI : IsPair s.heap TI (.ref i1) (.ref i2))
    (c1 : s.heap.IsTupleIter i1 l1 k) (c2 : s.heap.IsTupleIter i2 l2 k) (t1 : s.heap.IsTuple l1 xs) (t2 : s.heap.IsTuple l2 ys) (ex : xs[k]? = some x) (ey : ys[k]? = some y)
    (q : ∀ g, IsZipHeld g z TI TO T true → g.IsTupleIter i1 l1 (k + 1) → g.IsTupleIter i2 l2 (k + 1) → IsPair g s.heap.objs.size x y → g.objs.size = s.heap.objs.size + 1 → (∀ c o, c ≠ z → c ≠ i1 → c ≠ i2 → s.heap.get? c = some o → g.get? c = some o) → Q (some (.ref s.heap.objs.size)) { s with heap := g }) :
    wpAny (model prog w) A (pyNext (.ref z)) Q E s := by
  have ty : s.TypeIs (.ref z) "zip" := ⟨_, gz, rfl⟩
  unfold pyNext
  exact wpAny_bind (wpAny_attempt (wpAny_callSpecial?_slot (name := Str.ofString "__next__") ty PySem.F.slot_zip_next
    (wpAny_call_entry PySem.F.slot_zip_next ty PySem.F.entry_zip_next (zh_next D gz gT gI c1 c2 t1 t2 ex ey fun g a1 a2 a3 a4 a5 a6 => wpAny_pure (q g a1 a2 a3 a4 a5 a6)) (PySem.F.args_zip_next_1 _))))
theorem zh_pyEnd {Q : Option Value → Shared → Prop} (hh : A.handled = none) (D : ZipApart z TI TO i1 i2 l1 l2) (gz : IsZipHeld s.heap z TI TO T f) (gT : s.heap.get? T = some oT) (gI : IsPair s.heap TI (.ref i1) (.ref i2))
    (c1 : s.heap.IsTupleIter i1 l1 k) (t1 : s.heap.IsTuple l1 xs) (ex : xs[k]? = none)
    (q : ∀ g, (∀ c o, c ≠ z → c ≠ i1 → s.heap.get? c = some o → g.get? c = some o) → Q none { s with heap := g }) : wpAny (model prog w) A (pyNext (.ref z)) Q E s := by
  have ty : s.TypeIs (.ref z) "zip" := ⟨_, gz, rfl⟩
  unfold pyNext
  refine wpAny_bind (wpAny_attempt (wpAny_callSpecial?_slot (name := Str.ofString "__next__") ty PySem.F.slot_zip_next
    (wpAny_call_entry PySem.F.slot_zip_next ty PySem.F.entry_zip_next (zh_last hh D gz gT gI c1 t1 ex fun g e hk he => ?_) (PySem.F.args_zip_next_1 _))))
  obtain ⟨o, ho, hc⟩ := he
  exact wpAny_bind (wpAny_isInstance (T := "StopIteration") (b := true) ⟨o, ho, hc⟩ isSubtype_stop (wpAny_pure (q _ hk)))
/-- a zip of two tuples behind i turns: fresh, or its last pair is out -/
def ZSt (h : Heap) (z TI TO i1 i2 l1 l2 S : Addr) (i : Nat) : Prop :=
  IsPair h TI (.ref i1) (.ref i2) ∧ h.IsTupleIter i1 l1 i ∧ h.IsTupleIter i2 l2 i ∧
  ((IsZip h z TI TO .none ∧ ∃ a b, IsPair h TO a b) ∨ ∃ (T : Addr) (f : Bool) (oT : Obj), IsZipHeld h z TI TO T f ∧ h.get? T = some oT ∧ T ≠ z ∧ T ≠ i1 ∧ T ≠ i2 ∧ T ≠ S)
/-- the zip's own cells lie away from the list that grows -/
structure ZAp (z TI TO i1 i2 l1 l2 S : Addr) : Prop where
  D : ZipApart z TI TO i1 i2 l1 l2
  z : z ≠ S
  ti : TI ≠ S
  to : TO ≠ S
  i1 : i1 ≠ S
  i2 : i2 ≠ S
  l1 : l1 ≠ S
  l2 : l2 ≠ S
theorem ZSt.up {h h' : Heap} {S : Addr} {i : Nat} (P : ZAp z TI TO i1 i2 l1 l2 S) (st : ZSt h z TI TO i1 i2 l1 l2 S i) (k : ∀ b o, b ≠ S → h.get? b = some o → h'.get? b = some o) : ZSt h' z TI TO i1 i2 l1 l2 S i := by
  obtain ⟨a, b, c, d⟩ := st
  refine ⟨k _ _ P.ti a, b.at fun o e => k _ _ P.i1 e, c.at fun o e => k _ _ P.i2 e, ?_⟩
  rcases d with ⟨d1, x, y, d2⟩ | ⟨T, f, oT, d1, d2, n1, n2, n3, n4⟩
  · exact .inl ⟨k _ _ P.z d1, x, y, k _ _ P.to d2⟩
  · exact .inr ⟨T, f, oT, k _ _ P.z d1, k _ _ n4 d2, n1, n2, n3, n4⟩
theorem zs_item {S : Addr} {x y : Value} {Q : Option Value → Shared → Prop} (P : ZAp z TI TO i1 i2 l1 l2 S) (st : ZSt s.heap z TI TO i1 i2 l1 l2 S k) (hS : S < s.heap.objs.size) (t1 : s.heap.IsTuple l1 xs) (t2 : s.heap.IsTuple l2 ys) (ex : xs[k]? = some x) (ey : ys[k]? = some y)
    (q : ∀ g, ZSt g z TI TO i1 i2 l1 l2 S (k + 1) → IsPair g s.heap.objs.size x y → g.objs.size = s.heap.objs.size + 1 → (∀ c o, c ≠ z → c ≠ TO → c ≠ i1 → c ≠ i2 → s.heap.get? c = some o → g.get? c = some o) → Q (some (.ref s.heap.objs.size)) { s with heap := g }) :
    wpAny (model prog w) A (pyNext (.ref z)) Q E s := by
  obtain ⟨a, b, c, d⟩ := st
  have nS : s.heap.objs.size ≠ S := Nat.ne_of_gt hS
  have lt : ∀ {b : Addr} {o : Obj}, s.heap.get? b = some o → s.heap.objs.size ≠ b := fun e => Nat.ne_of_gt (Heap.lt_size e)
  have n1 : s.heap.objs.size ≠ i1 := by obtain ⟨o, e, _⟩ := id b; exact lt e
  have n2 : s.heap.objs.size ≠ i2 := by obtain ⟨o, e, _⟩ := id c; exact lt e
  rcases d with ⟨d1, u, v, d2⟩ | ⟨T, f, oT, d1, d2, m1, m2, m3, m4⟩
  · exact pyNext_zipT_item P.D d1 a d2 b c t1 t2 ex ey fun g gz gO e1 e2 pp ps kp => q g ⟨kp _ _ P.D.TIz P.D.TITO P.D.TIi1 P.D.TIi2 a, e1, e2, .inr ⟨_, false, _, gz, pp, lt d1, n1, n2, nS⟩⟩ pp ps kp
  · exact zh_pyNext P.D d1 d2 a b c t1 t2 ex ey fun g gz e1 e2 pp ps kp => q g ⟨kp _ _ P.D.TIz P.D.TIi1 P.D.TIi2 a, e1, e2, .inr ⟨T, true, oT, gz, kp _ _ m1 m2 m3 d2, m1, m2, m3, m4⟩⟩ pp ps fun c o c1 _ c3 c4 => kp c o c1 c3 c4
theorem zs_end {S : Addr} {Q : Option Value → Shared → Prop} (hh : A.handled = none) (P : ZAp z TI TO i1 i2 l1 l2 S) (st : ZSt s.heap z TI TO i1 i2 l1 l2 S k) (t1 : s.heap.IsTuple l1 xs) (t2 : s.heap.IsTuple l2 ys) (ex : xs[k]? = none)
    (q : ∀ g, (∀ c o, c ≠ z → c ≠ TO → c ≠ i1 → c ≠ i2 → s.heap.get? c = some o → g.get? c = some o) → Q none { s with heap := g }) : wpAny (model prog w) A (pyNext (.ref z)) Q E s := by
  obtain ⟨a, b, c, d⟩ := st
  rcases d with ⟨d1, u, v, d2⟩ | ⟨T, f, oT, d1, d2, m1, m2, m3, m4⟩
  · exact pyNext_zipT_end hh P.D d1 a d2 b c t1 t2 (.inl ex) fun g kp => q g kp
  · exact zh_pyEnd hh P.D d1 d2 a b t1 ex fun g kp => q g fun c o c1 _ c3 _ => kp c o c1 c3
/-- the addresses as hold the pairs of xs and ys -/
def PairsAt (xs ys : Array Value) (lo : Addr) (h : Heap) (as : List Addr) : Prop := as.Pairwise (· < ·) ∧ (∀ a ∈ as, lo < a) ∧ ∀ (j : Nat) (a : Addr), as[j]? = some a → ∃ x y, xs[j]? = some x ∧ ys[j]? = some y ∧ IsPair h a x y
end
section
variable {prog : Program} {w : World} {A : Around} {E : Value → Shared → Prop} {s : Shared} {z TI TO i1 i2 l1 l2 S : Addr} {xs ys : Array Value}
theorem zs_loop {R : Result → Shared → Prop} (hh : A.handled = none) (P : ZAp z TI TO i1 i2 l1 l2 S) (hxy : xs.size = ys.size) (hn : xs.size ≤ sizeLine) (res : Value) (lo : Addr) {h0 : Heap} (lz : z ≤ lo) (lT : TO ≤ lo) (l1o : i1 ≤ lo) (l2o : i2 ≤ lo) (lS : S ≤ lo)
    (q : ∀ g tk acc c as, (∀ b o, b ≠ S → b ≠ z → b ≠ TO → b ≠ i1 → b ≠ i2 → h0.get? b = some o → g.get? b = some o) → g.get? S = some { cls := .type "list", dict := none, data := .seq acc c, slots := #[] } → as.length = xs.size → PairsAt xs ys lo g as →
      acc.toList = as.map Value.ref → R (.ok (.ret res)) { s with heap := g, toks := tk }) :
    ∀ (m i : Nat) (h : Heap) (tk c : Nat) (acc : Array Value) (as : List Addr), xs.size - i = m → i ≤ xs.size → ZSt h z TI TO i1 i2 l1 l2 S i → h.IsTuple l1 xs → h.IsTuple l2 ys → (∀ b o, b ≠ S → b ≠ z → b ≠ TO → b ≠ i1 → b ≠ i2 → h0.get? b = some o → h.get? b = some o) →
      h.get? S = some { cls := .type "list", dict := none, data := .seq acc c, slots := #[] } → acc.toList = as.map Value.ref → as.length = i → PairsAt xs ys lo h as → lo < h.objs.size →
      codeAny (model prog w) A (.builtin "list.extend.loop" ⟨[.ref S, .ref z, res], []⟩) R { s with heap := h, toks := tk } := by
  intro m
  induction m with
  | zero =>
    intro i h tk c acc as hm hi st t1 t2 kp eS ea al pa hlo
    refine codeAny_builtin PySem.F.entry_extend_loop ?_
    rw [Around.under_plainId PySem.F.plain_extend_loop _]
    show wpAny _ A.in1 (pyNext (.ref z) >>= _) _ _ _
    refine wpAny_bind (zs_end (s := { s with heap := h, toks := tk }) (A := A.in1) hh P st t1 t2 (Array.getElem?_eq_none (by omega)) fun g k2 => ?_)
    refine wpAny_pure (q g tk acc c as (fun b o n1 n2 n3 n4 n5 e => k2 b o n2 n3 n4 n5 (kp b o n1 n2 n3 n4 n5 e)) (k2 S _ P.z.symm P.to.symm P.i1.symm P.i2.symm eS) (by omega) ⟨pa.1, pa.2.1, fun j a hj => ?_⟩ ea)
    obtain ⟨x, y, e1, e2, e3⟩ := pa.2.2 j a hj
    have hb := pa.2.1 a (List.mem_of_getElem? hj)
    exact ⟨x, y, e1, e2, k2 a _ (Nat.ne_of_gt (Nat.lt_of_le_of_lt lz hb)) (Nat.ne_of_gt (Nat.lt_of_le_of_lt lT hb)) (Nat.ne_of_gt (Nat.lt_of_le_of_lt l1o hb)) (Nat.ne_of_gt (Nat.lt_of_le_of_lt l2o hb)) e3⟩
  | succ m ih =>
    intro i h tk c acc as hm hi st t1 t2 kp eS ea al pa hlo
    have hlt : i < xs.size := by omega
    have hlt2 : i < ys.size := by omega
    have sz : acc.size = i := by rw [← Array.length_toList, ea, List.length_map, al]
    have lSh : S < h.objs.size := Heap.lt_size eS
    refine codeAny_builtin PySem.F.entry_extend_loop ?_
    rw [Around.under_plainId PySem.F.plain_extend_loop _]
    show wpAny _ A.in1 (pyNext (.ref z) >>= _) _ _ _
    refine wpAny_bind (zs_item (s := { s with heap := h, toks := tk }) P st lSh t1 t2 (Array.getElem?_eq_getElem hlt) (Array.getElem?_eq_getElem hlt2) fun g st2 pp ps k2 => ?_)
    dsimp only at pp ps k2 ⊢
    have eS2 := k2 S _ P.z.symm P.to.symm P.i1.symm P.i2.symm eS
    have up : ∀ b o, b ≠ S → g.get? b = some o → (g.update S (Obj.mapSeq (·.push (Value.ref h.objs.size)))).get? b = some o := fun b o hb e => (Heap.get?_update_other _ _ (Ne.symm hb)).trans e
    show wpAny _ A.in1 (updateSeq S (·.push (Value.ref h.objs.size)) >>= _) _ _ _
    refine wpAny_bind (wpAny_updateSeq eS2 rfl (wpAny_pure ⟨plainId_quiet PySem.F.plain_extend_loop _, ih (i + 1) _ tk _ (acc.push (Value.ref h.objs.size)) (as ++ [h.objs.size]) (by omega) hlt (st2.up P up)
      (t1.at fun o e => up l1 o P.l1 (k2 _ o P.D.l1z P.D.l1TO P.D.l1i1 P.D.l1i2 e)) (t2.at fun o e => up l2 o P.l2 (k2 _ o P.D.l2z P.D.l2TO P.D.l2i1 P.D.l2i2 e))
      (fun b o n1 n2 n3 n4 n5 e => up b o n1 (k2 b o n2 n3 n4 n5 (kp b o n1 n2 n3 n4 n5 e))) (Heap.get?_update_self _ eS2 rfl) (by rw [Array.toList_push, ea, List.map_append]; rfl) (by rw [List.length_append, al]; rfl) ⟨?_, ?_, ?_⟩ ?_⟩) (by rw [sz]; omega) (by show (acc.push (Value.ref h.objs.size)).size ≤ sizeLine + 1; rw [Array.size_push, sz]; omega))
    · refine List.pairwise_append.mpr ⟨pa.1, List.pairwise_singleton _ _, fun a ha b hb => ?_⟩
      rw [List.mem_singleton.mp hb]
      obtain ⟨j, hj⟩ := List.getElem?_of_mem ha
      obtain ⟨x, y, _, _, e3⟩ := pa.2.2 j a hj
      exact Heap.lt_size e3
    · intro a ha
      rcases List.mem_append.mp ha with ha | ha
      · exact pa.2.1 a ha
      · rw [List.mem_singleton.mp ha]
        exact hlo
    · intro j b hj
      rcases Nat.lt_trichotomy j as.length with h1 | h1 | h1
      · rw [List.getElem?_append_left h1] at hj
        obtain ⟨x, y, e1, e2, e3⟩ := pa.2.2 j b hj
        have hb := pa.2.1 b (List.mem_of_getElem? hj)
        exact ⟨x, y, e1, e2, up b _ (Nat.ne_of_gt (Nat.lt_of_le_of_lt lS hb)) (k2 b _ (Nat.ne_of_gt (Nat.lt_of_le_of_lt lz hb)) (Nat.ne_of_gt (Nat.lt_of_le_of_lt lT hb)) (Nat.ne_of_gt (Nat.lt_of_le_of_lt l1o hb)) (Nat.ne_of_gt (Nat.lt_of_le_of_lt l2o hb)) e3)⟩
      · subst h1
        have hb : h.objs.size = b := by simpa using hj
        subst hb
        subst al
        exact ⟨_, _, Array.getElem?_eq_getElem hlt, Array.getElem?_eq_getElem hlt2, up _ _ (Nat.ne_of_gt lSh) pp⟩
      · have no : (as ++ [h.objs.size])[j]? = none := List.getElem?_eq_none (by rw [List.length_append, List.length_singleton]; omega)
        rw [no] at hj
        cases hj
    · have e : (g.update S (Obj.mapSeq (·.push (Value.ref h.objs.size)))).get? h.objs.size = _ := up _ _ (Nat.ne_of_gt lSh) pp
      exact Nat.lt_trans hlo (Heap.lt_size e)
end
section
variable {prog : Program} {w : World} {A : Around} {E : Value → Shared → Prop} {s : Shared} {z TI TO i1 i2 l1 l2 : Addr} {xs ys : Array Value}
theorem no_len_zip : typeLookup (.type "zip") "__len__" = pure none := by rw [typeLookup_type, builtinLookup_eq_fast]; kernel_rfl
theorem no_hint_zip : typeLookup (.type "zip") "__length_hint__" = pure none := by rw [typeLookup_type, builtinLookup_eq_fast]; kernel_rfl
theorem zs_hint (ty : s.TypeIs (.ref z) "zip") {Q : Bool → Shared → Prop} (q : Q true s) : wpAny (model prog w) A (Builtin.List.listLengthHint (.ref z)) Q E s := by
  unfold Builtin.List.listLengthHint
  refine wpAny_bind (wpAny_specialOf ty no_len_zip ?_)
  refine wpAny_bind (wpAny_specialOf ty no_hint_zip ?_)
  exact wpAny_pure q
theorem zs_extend {R : Result → Shared → Prop} (hh : A.handled = none) {S : Addr} (P : ZAp z TI TO i1 i2 l1 l2 S) (st : ZSt s.heap z TI TO i1 i2 l1 l2 S 0) (gz : IsZip s.heap z TI TO .none) (t1 : s.heap.IsTuple l1 xs) (t2 : s.heap.IsTuple l2 ys) (hxy : xs.size = ys.size) (hn : xs.size ≤ sizeLine) (res : Value) (c0 : Nat)
    (lo : Addr) (lz : z ≤ lo) (lT : TO ≤ lo) (l1o : i1 ≤ lo) (l2o : i2 ≤ lo) (lS : S ≤ lo) (ll : lo < s.heap.objs.size) (eS : s.heap.get? S = some { cls := .type "list", data := .seq #[] c0 })
    (q : ∀ g tk acc c as, (∀ b o, b ≠ S → b ≠ z → b ≠ TO → b ≠ i1 → b ≠ i2 → s.heap.get? b = some o → g.get? b = some o) → g.get? S = some { cls := .type "list", dict := none, data := .seq acc c, slots := #[] } → as.length = xs.size → PairsAt xs ys lo g as →
      acc.toList = as.map Value.ref → R (.ok (.ret res)) { s with heap := g, toks := tk }) :
    wpAny (model prog w) A.in1 (Builtin.List.listExtendWith (.ref S) (.ref z) res)
      (fun fin s' => match fin with | .done f => R (.ok f) s' | .again c' => c'.quiet = true ∧ codeAny (model prog w) A c' R s') (fun e s' => R (.error e) s') s := by
  have ty : s.TypeIs (.ref z) "zip" := ⟨_, gz, rfl⟩
  have key : ∀ (h : Heap) (c1 tk : Nat), (∀ b o, b ≠ S → s.heap.get? b = some o → h.get? b = some o) → lo < h.objs.size → h.get? S = some { cls := .type "list", data := .seq #[] c1 } →
      codeAny (model prog w) A (.builtin "list.extend.loop" ⟨[.ref S, .ref z, res], []⟩) R { s with heap := h, toks := tk } := fun h c1 tk k lh e =>
    zs_loop hh P hxy hn res lo lz lT l1o l2o lS q xs.size 0 h tk c1 #[] [] (Nat.sub_zero _) (Nat.zero_le _) (st.up P k) (t1.at fun o x => k l1 o P.l1 x) (t2.at fun o x => k l2 o P.l2 x) (fun b o n1 _ _ _ _ x => k b o n1 x) e rfl rfl ⟨List.Pairwise.nil, (fun _ ha => nomatch ha), fun j a hj => by cases hj⟩ lh
  unfold Builtin.List.listExtendWith
  refine wpAny_bind (wpAny_typeOf (T := "zip") ty ?_)
  have e1 : Builtin.List.listSameRef (.ref S) (.ref z) = false := by simp [Builtin.List.listSameRef, P.z.symm]
  have e2 : (Value.type "zip" == Value.type "list") = false := by decide
  have e3 : (Value.type "zip" == Value.type "tuple") = false := by decide
  simp only [e1, e2, e3, Bool.or_false, Bool.false_eq_true, if_false]
  refine wpAny_bind (wpAny_pyIter_zip gz ?_)
  refine wpAny_bind (wpAny_holding (zs_hint ty ?_))
  refine wpAny_ite_split (fun _ => ?_) (fun z => absurd (by rfl) z)
  refine wpAny_bind (wpAny_rule (wpAny_bind ?_))
  show wpAny _ _ (updateSeq S (·.push .none) >>= fun _ => updateSeq S (·.pop)) _ _ _
  refine wpAny_bind (wpAny_updateSeq eS rfl ?_)
  have eS2 := Heap.get?_update_self (Obj.mapSeq (·.push Value.none)) eS rfl
  refine wpAny_updateSeq (hz := by seq_fits) eS2 rfl ?_
  have eS3 := Heap.get?_update_self (Obj.mapSeq (·.pop)) eS2 rfl
  refine wpAny_pure ⟨plainId_quiet PySem.F.plain_extend_loop _, key _ _ _ (fun b o hb e => (Heap.get?_update_other _ _ (Ne.symm hb)).trans ((Heap.get?_update_other _ _ (Ne.symm hb)).trans e)) ?_ eS3⟩
  have sz := fun (g : Heap) (f : Obj → Obj) => (Heap.SameBut.update g S f).1
  show lo < (((s.heap.update S _).update S _).objs.size)
  rw [sz, sz]
  exact ll
theorem zs_call {Q : Value → Shared → Prop} (hh : A.handled = none) (D : ZipApart z TI TO i1 i2 l1 l2) (gz : IsZip s.heap z TI TO .none) (gI : IsPair s.heap TI (.ref i1) (.ref i2)) (gO : ∃ a b, IsPair s.heap TO a b)
    (c1 : s.heap.IsTupleIter i1 l1 0) (c2 : s.heap.IsTupleIter i2 l2 0) (t1 : s.heap.IsTuple l1 xs) (t2 : s.heap.IsTuple l2 ys) (hxy : xs.size = ys.size) (hn : xs.size ≤ sizeLine)
    (q : ∀ g tk acc c as, (∀ b o, b ≠ z → b ≠ TO → b ≠ i1 → b ≠ i2 → s.heap.get? b = some o → g.get? b = some o) → g.get? s.heap.objs.size = some { cls := .type "list", dict := none, data := .seq acc c, slots := #[] } → as.length = xs.size → PairsAt xs ys s.heap.objs.size g as →
      acc.toList = as.map Value.ref → Q (.ref s.heap.objs.size) { s with heap := g, toks := tk }) :
    wpAny (model prog w) A (call (.type "list") [.ref z]) Q E s := by
  refine callType_codes (Q₁ := fun obj s1 => obj = .ref s.heap.objs.size ∧ s1 = { s with heap := s.heap.push { cls := .type "list", data := .seq #[] } }) PySem.F.called_list (PySem.F.typeCall_list_1 _) PySem.F.entry_list_init
    (code_list_new _ ⟨rfl, rfl⟩) fun obj s1 h1 => ?_
  obtain ⟨rfl, rfl⟩ := h1
  have eS : (s.heap.push { cls := .type "list", data := .seq #[] }).get? s.heap.objs.size = some { cls := .type "list", data := .seq #[] } := Heap.get?_push_size _ rfl
  have lt : ∀ {b : Addr} {o : Obj}, s.heap.get? b = some o → b < s.heap.objs.size := fun e => Heap.lt_size e
  have lz := lt gz
  have lI := lt gI
  have lO : TO < s.heap.objs.size := by obtain ⟨a, b, e⟩ := gO; exact lt e
  have m1 : i1 < s.heap.objs.size := by obtain ⟨o, e, _⟩ := id c1; exact lt e
  have m2 : i2 < s.heap.objs.size := by obtain ⟨o, e, _⟩ := id c2; exact lt e
  have n1 : l1 < s.heap.objs.size := by obtain ⟨o, e, _⟩ := id t1; exact lt e
  have n2 : l2 < s.heap.objs.size := by obtain ⟨o, e, _⟩ := id t2; exact lt e
  have P : ZAp z TI TO i1 i2 l1 l2 s.heap.objs.size := ⟨D, Nat.ne_of_lt lz, Nat.ne_of_lt lI, Nat.ne_of_lt lO, Nat.ne_of_lt m1, Nat.ne_of_lt m2, Nat.ne_of_lt n1, Nat.ne_of_lt n2⟩
  refine ⟨⟨_, eS, rfl⟩, PySem.F.args_list_init_2 _ _, ?_⟩
  show wpAny _ _ (do let old ← Builtin.List.listItems (.ref s.heap.objs.size); Builtin.List.listUpdate (.ref s.heap.objs.size) (fun _ => #[]); letGo old.toList.reverse; Builtin.List.listExtendWith (.ref s.heap.objs.size) (.ref z) .none) _ _ _
  refine wpAny_bind ?_
  unfold Builtin.List.listItems
  refine wpAny_bind (wpAny_seqItems eS rfl (wpAny_pure ?_))
  show wpAny _ _ (updateSeq s.heap.objs.size (fun _ => #[]) >>= fun _ => letGo (#[] : Array Value).toList.reverse >>= fun _ => Builtin.List.listExtendWith (.ref s.heap.objs.size) (.ref z) .none) _ _ _
  refine wpAny_bind (wpAny_updateSeq eS rfl ?_)
  have eS2 := Heap.get?_update_self (Obj.mapSeq (fun _ => (#[] : Array Value))) eS rfl
  have k : ∀ b o, s.heap.get? b = some o → ((s.heap.push { cls := .type "list", data := .seq #[] }).update s.heap.objs.size (Obj.mapSeq (fun _ => (#[] : Array Value)))).get? b = some o :=
    fun b o e => (Heap.get?_update_other _ _ (Nat.ne_of_gt (lt e))).trans (Heap.get?_push_of_some _ e)
  refine wpAny_bind (wpAny_letGo ?_)
  refine zs_extend (s := { s with heap := (s.heap.push { cls := .type "list", data := .seq #[] }).update s.heap.objs.size (Obj.mapSeq (fun _ => (#[] : Array Value))) }) (A := A.in1) hh P ⟨k _ _ gI, c1.at fun o e => k _ _ e, c2.at fun o e => k _ _ e, .inl ⟨k _ _ gz, ?_⟩⟩ (k _ _ gz) (t1.at fun o e => k _ _ e) (t2.at fun o e => k _ _ e) hxy hn .none _ s.heap.objs.size (Nat.le_of_lt lz) (Nat.le_of_lt lO) (Nat.le_of_lt m1) (Nat.le_of_lt m2) (Nat.le_refl _) ?_ eS2 fun g tk acc c as kp eg al pa ea => ?_
  · obtain ⟨a, b, e⟩ := gO
    exact ⟨a, b, k _ _ e⟩
  · show s.heap.objs.size < ((s.heap.push { cls := .type "list", data := .seq #[] }).update s.heap.objs.size _).objs.size
    rw [(Heap.SameBut.update ..).1, Heap.size_push]
    exact Nat.lt_succ_self _
  · exact ⟨rfl, q g tk acc c as (fun b o b1 b2 b3 b4 e => kp b o (Nat.ne_of_lt (lt e)) b1 b2 b3 b4 (k _ _ e)) eg al pa ea⟩
end
end RZ
namespace Fv
open PySem PySem.Spec PyProof.Rows L2 RZ
/-- many new objects at once -/
theorem inv_many {X : Cx} {pins : List (Addr × Obj)} {σ : L2.St} {H H' : Hp} {s : Shared} {g : Heap} {tk : Nat} (I : Inv X pins σ H s) (k : ∀ b o, s.heap.get? b = some o → g.get? b = some o) (old : ∀ b, b < s.heap.objs.size → H' b = H b)
    (new : ∀ b o, s.heap.objs.size ≤ b → H' b = some o → ObjOk X.prog X.w H' g b o) : Inv X pins σ H' { s with heap := g, toks := tk } := by
  have lt : ∀ b o, H b = some o → b < s.heap.objs.size := fun b o e => Nat.lt_of_not_le fun z => by rw [I.hok.fresh z] at e; cases e
  have up : ∀ b o, H b = some o → H' b = some o := fun b o e => (old b (lt b o e)).trans e
  refine I.un (t' := tk) ⟨fun b o e _ _ _ => k b o e, fun b o e _ _ _ => ⟨o.slots, k b o e⟩, fun b o e n _ => (old b (Heap.lt_size e)).trans n, fun b o e _ => ⟨o, k b o e⟩, fun b xs e => up b _ e, fun b o u e => up b _ e, fun b ps e => ⟨#[], by rw [up b _ e]; simp⟩⟩ fun b o e => ?_
  rcases Nat.lt_or_ge b s.heap.objs.size with c | c
  · rw [old b c] at e
    exact (I.hok b o e).stay (fun c u _ q => k c u q) (fun c q => up c _ q) fun c xs q => up c _ q
  · exact new b o c e
/-- xs and ys in pairs at as -/
def PrAt (H : Hp) (as : List Addr) (xs ys : List V) : Prop := as.length = xs.length ∧ ∀ (j : Nat) (a : Addr) (x y : V), as[j]? = some a → xs[j]? = some x → ys[j]? = some y → H a = some (.tup [x, y])
def rListZip (K : PySem.W.Frag) (ta : TA) : TE := fun σ H Q => ta σ H fun vs H1 => ∃ a b xs ys, vs = [.ref a, .ref b] ∧ SqT K H1 a xs ∧ SqT K H1 b ys ∧ xs.length = ys.length ∧ xs.length ≤ 1000 ∧ ∀ L as H2, Same H1 H2 → H1 L = none → H2 L = some (.lst (as.map V.ref)) → PrAt H2 as xs ys → Q (.ref L) H2
open Classical in
/-- the new pairs and their list -/
noncomputable def layP (H : Hp) (L : Addr) (as : List Addr) (xs ys : List V) : Hp := fun b => if b = L then some (.lst (as.map V.ref)) else if h : ∃ j : Nat, as[j]? = some b then match xs[h.choose]?, ys[h.choose]? with
  | some x, some y => some (.tup [x, y])
  | _, _ => none else H b
theorem layP_at {H : Hp} {L : Addr} {as : List Addr} {xs ys : List V} {j : Nat} {a : Addr} {x y : V} (w : as.Pairwise (· < ·)) (nL : ∀ a ∈ as, L < a) (ha : as[j]? = some a) (hx : xs[j]? = some x) (hy : ys[j]? = some y) : layP H L as xs ys a = some (.tup [x, y]) := by
  unfold layP
  rw [if_neg (Nat.ne_of_gt (nL a (List.mem_of_getElem? ha)))]
  have h : ∃ j : Nat, as[j]? = some a := ⟨j, ha⟩
  rw [dif_pos h]
  have e : h.choose = j := by
    have c := h.choose_spec
    generalize h.choose = i at c
    obtain ⟨i1, e1⟩ := List.getElem?_eq_some_iff.mp c
    obtain ⟨j1, e2⟩ := List.getElem?_eq_some_iff.mp ha
    rcases Nat.lt_trichotomy i j with z | z | z
    · exact absurd (e1.trans e2.symm) (Nat.ne_of_lt (List.pairwise_iff_getElem.mp w i j i1 j1 z))
    · exact z
    · exact absurd (e2.trans e1.symm) (Nat.ne_of_lt (List.pairwise_iff_getElem.mp w j i j1 i1 z))
  rw [e, hx, hy]
theorem layP_is {H : Hp} {L b : Addr} {as : List Addr} {xs ys : List V} {o : HO} (w : as.Pairwise (· < ·)) (nL : ∀ a ∈ as, L < a) (l : as.length = xs.length) (l2 : xs.length = ys.length) (h : layP H L as xs ys b = some o) :
    (b = L ∧ o = .lst (as.map V.ref)) ∨ (∃ (j : Nat) (x y : V), as[j]? = some b ∧ xs[j]? = some x ∧ ys[j]? = some y ∧ o = .tup [x, y]) ∨ (b ≠ L ∧ b ∉ as ∧ H b = some o) := by
  by_cases e : b = L
  · refine .inl ⟨e, ?_⟩
    unfold layP at h
    rw [if_pos e] at h
    exact (Option.some.inj h).symm
  · by_cases m : b ∈ as
    · obtain ⟨j, hj⟩ := List.getElem?_of_mem m
      have hj2 := (List.getElem?_eq_some_iff.mp hj).1
      have hx := List.getElem?_eq_getElem (l := xs) (i := j) (by omega)
      have hy := List.getElem?_eq_getElem (l := ys) (i := j) (by omega)
      rw [layP_at w nL hj hx hy] at h
      exact .inr (.inl ⟨j, _, _, hj, hx, hy, (Option.some.inj h).symm⟩)
    · unfold layP at h
      rw [if_neg e, dif_neg (fun ⟨j, z⟩ => m (List.mem_of_getElem? z))] at h
      exact .inr (.inr ⟨e, m, h⟩)
theorem vals_refs : ∀ as : List Addr, Vals (as.map V.ref) (as.map Value.ref)
  | [] => .nil
  | a :: l => .cons rfl (vals_refs l)
theorem pe_listZip {X : Cx} {K : PySem.W.Frag} {e e2 : Expr} {ta : TA} {p p2 pos pos2 : Pos} (eK : X.K = K) (hc : X.calm = true) (gl : Gl X "list") (ml : X.mg "list" = none) (gz : Gl X "zip") (mz : X.mg "zip" = none) (ha : PA X [e, e2] ta)
    (na : starEach [Expr.Call (.Name "zip" p2) [e, e2] [] pos2] X.env = (false, eval (Expr.Call (.Name "zip" p2) [e, e2] [] pos2) X.env) :: starEach [] X.env := by rfl)
    (hs : starEach [e, e2] X.env = (false, eval e X.env) :: starEach [e2] X.env := by rfl) (hpl : (backTo pos2 (starEach [e2] X.env)).any (·.1) = false := by rfl) :
    PE X (.Call (.Name "list" p) [.Call (.Name "zip" p2) [e, e2] [] pos2] [] pos) (rListZip K ta) := by
  subst eK
  refine ⟨fun pins s σ H Q I h => ?_⟩
  refine Call_ (ld_blt I gl ml boot_list (PyProof.Rows.callWith_type1 (args_cons (wpAny_mono ?_ (fun v s2 z => args_nil z) fun _ _ z => z) na) na))
  refine Call_ (ld_blt I gz mz PyProof.Rows.boot_zip (PyProof.Rows.callWith_type1 (thn (ha.run pos2 pins s σ H _ I h) fun us s1 ⟨vs, H1, I1, r1, a, b, xs, ys, ev, sa, sb, lxy, l1000, q⟩ => ?_) hs hpl))
  subst ev
  cases r1 with
  | cons r rr =>
    cases rr with
    | cons r' rr =>
      cases rr
      cases r
      cases r'
      obtain ⟨its, rv, p1, _⟩ := I1.tuple sa
      obtain ⟨its2, rv2, p2, _⟩ := I1.tuple sb
      obtain ⟨o1, ho1, _⟩ := id p1
      obtain ⟨o2, ho2, _⟩ := id p2
      have il : its.length = xs.length := rv.length.symm
      have il2 : its2.length = ys.length := rv2.length.symm
      refine call_zipT (show s1.heap.IsTuple a its.toArray from p1) (show s1.heap.IsTuple b its2.toArray from p2) fun h' hz hTI hTO c1 c2 hsz hk => ?_
      refine zs_call (s := { s1 with heap := h' }) (I1.ok.hd hc) (PySem.W.ktu_apart s1.heap.objs.size a b (Heap.lt_size ho1) (Heap.lt_size ho2)) hz hTI ⟨_, _, hTO⟩ c1 c2 (xs := its.toArray) (ys := its2.toArray) (Heap.IsTuple.at (show s1.heap.IsTuple a its.toArray from p1) fun o e => hk _ _ e) (Heap.IsTuple.at (show s1.heap.IsTuple b its2.toArray from p2) fun o e => hk _ _ e) (by rw [List.size_toArray, List.size_toArray]; omega) (by rw [List.size_toArray, il, sizeLine_eq]; omega) fun g tk acc c as kp eg al pa ea => ?_
      have hs1 : s1.heap.objs.size < h'.objs.size := by rw [hsz]; exact Nat.lt_add_of_pos_right (by decide)
      have far : ∀ {b : Addr}, b < s1.heap.objs.size → b ≠ h'.objs.size ∧ b ∉ as := fun lt => ⟨Nat.ne_of_lt (Nat.lt_trans lt hs1), fun z => Nat.lt_irrefl _ (Nat.lt_trans (Nat.lt_trans lt hs1) (pa.2.1 _ z))⟩
      have kk : ∀ b o, s1.heap.get? b = some o → g.get? b = some o := fun b o e => by
        have lt := Heap.lt_size e
        exact kp b o (Nat.ne_of_lt (Nat.lt_of_lt_of_le lt (Nat.le_add_right _ _))) (Nat.ne_of_lt (Nat.lt_of_lt_of_le lt (Nat.le_add_right _ _))) (Nat.ne_of_lt lt) (Nat.ne_of_lt (Nat.lt_of_lt_of_le lt (Nat.le_add_right _ _))) (hk b o e)
      have al' : as.length = xs.length := by rw [al, List.size_toArray, il]
      have I2 : Inv X pins σ (layP H1 h'.objs.size as xs ys) { s1 with heap := g, toks := tk } := by
        refine inv_many I1 kk (fun b lt => ?_) fun b o ge e => ?_
        · unfold layP
          rw [if_neg (far lt).1, dif_neg fun ⟨j, z⟩ => (far lt).2 (List.mem_of_getElem? z)]
        · rcases layP_is pa.1 pa.2.1 al' lxy e with ⟨rfl, rfl⟩ | ⟨j, x, y, hj, hx, hy, rfl⟩ | ⟨_, _, e2⟩
          · refine (show ObjOk X.prog X.w _ _ _ (.lst (as.map V.ref)) from ⟨?_, as.map Value.ref, c, vals_refs as, ?_⟩)
            · rw [List.length_map, al', sizeLine_eq]
              omega
            · have e3 : acc = (as.map Value.ref).toArray := by rw [← ea, Array.toArray_toList]
              rw [← e3]
              exact eg
          · obtain ⟨u, v, eu, ev, pp⟩ := pa.2.2 j b hj
            obtain ⟨u', hu, ru⟩ := rv.get hx
            obtain ⟨v', hv, rw'⟩ := rv2.get hy
            have eu' : u = u' := by
              have e4 : its[j]? = some u := by simpa using eu
              rw [hu] at e4
              exact (Option.some.inj e4).symm
            have ev' : v = v' := by
              have e4 : its2[j]? = some v := by simpa using ev
              rw [hv] at e4
              exact (Option.some.inj e4).symm
            subst eu' ev'
            exact (show ObjOk X.prog X.w _ _ _ (.tup [x, y]) from ⟨by show 2 ≤ sizeLine; decide, [u, v], .cons ru (.cons rw' .nil), ⟨_, pp, rfl, _, rfl⟩⟩)
          · rw [I1.hok.fresh ge] at e2
            cases e2
      have new1 : H1 h'.objs.size = none := I1.hok.fresh (Nat.le_of_lt hs1)
      refine ⟨.ref h'.objs.size, _, I2, rfl, q h'.objs.size as _ (fun b o e => ?_) new1 ?_ ⟨al', fun j a x y h1 h2 h3 => layP_at pa.1 pa.2.1 h1 h2 h3⟩⟩
      · have lt : b < s1.heap.objs.size := Nat.lt_of_not_le fun z => by rw [I1.hok.fresh z] at e; cases e
        unfold layP
        rw [if_neg (far lt).1, dif_neg fun ⟨j, z⟩ => (far lt).2 (List.mem_of_getElem? z)]
        exact e
      · unfold layP
        rw [if_pos rfl]
theorem x_listZip {K : PySem.W.Frag} {σ : L2.St} {H : Hp} {Q : VK} {ta : TA} (h : ta σ H fun vs H1 => ∃ a b xs ys, vs = [.ref a, .ref b] ∧ SqT K H1 a xs ∧ SqT K H1 b ys ∧ xs.length = ys.length ∧ xs.length ≤ 1000 ∧ ∀ L as H2, Same H1 H2 → H1 L = none → H2 L = some (.lst (as.map V.ref)) → PrAt H2 as xs ys → Q (.ref L) H2) : rListZip K ta σ H Q := h
end Fv
set_option maxRecDepth 100000
set_option maxHeartbeats 2000000
/-! the least of a list of pairs; how often a number stands in a list -/
namespace Mp
open PySem PySem.W PySem.SeqAt
open PySem.Sem (wp)
section
variable {prog : Program} {w : World} {A : Around} {R : Result → Shared → Prop} {I : Addr} {fp wr : List Addr} {n : Nat} {P : Nat → Value → Prop} {St : Nat → Heap → Prop} {OK : Heap → Prop} {bt : Nat → Nat → Bool} {S : Addr}
/-- the comparison of items i and j, as long as OK holds -/
def CmpIn (prog : Program) (w : World) (A : Around) (OK : Heap → Prop) (P : Nat → Value → Prop) (bt : Nat → Nat → Bool) : Prop :=
  ∀ i j vi vj (s : Shared) (Q E : Value → Shared → Prop), OK s.heap → P i vi → P j vj → Q (.bool (bt i j)) s → wpAny (model prog w) A (richCompare .Lt vi vj) Q E s
theorem min_go (W : Walks prog w A.in1 I fp wr n P St) (C : CmpIn prog w A.in1 OK P bt) (hSf : S ∉ fp) (st : ∀ h h', OK h → (∀ b o, b ∉ wr → b ≠ S → h.get? b = some o → h'.get? b = some o) → OK h') :
    ∀ (k j : Nat) (s : Shared) (vb : Value) (c : Nat), n - (j + 1) = k → j + 1 ≤ n → OK s.heap → St (j + 1) s.heap → P (argBest bt j) vb → s.heap.get? S = some { cls := .type "list", dict := none, data := .seq #[vb, vb] c, slots := #[] } →
    (∀ v g tk, P (argBest bt (n - 1)) v → (∀ b o, b ∉ wr → b ≠ S → s.heap.get? b = some o → g.get? b = some o) → R (.ok (.ret v)) { s with heap := g, toks := tk }) →
    codeAny (model prog w) A (.builtin "min.loop" ⟨[.ref I, .none, .ref S], []⟩) R s := by
  have hSw : S ∉ wr := fun h => hSf (W.sub _ h)
  have nm : (toString "min" ++ toString ".loop" : String) = "min.loop" := by decide
  intro k
  induction k with
  | zero =>
    intro j s vb c hk hj ok hst pb eS q
    have hin : j + 1 = n := by omega
    refine codeAny_builtin PySem.F.entry_min_loop ?_
    rw [Around.under_plainId PySem.F.plain_min_loop _]
    show wpAny _ A.in1 (seqItems? (.ref S) >>= _) _ _ s
    refine wpAny_bind (wpAny_seqItems eS rfl ?_)
    show wpAny _ A.in1 (tryCatch (pyNext (.ref I)) _ >>= _) _ _ s
    refine wpAny_bind (wpAny_tryCatch (W.done s _ _ (hin ▸ hst) fun g tk kp => ?_))
    have eS2 := kp S _ hSw eS
    show wpAny _ A.in1 (updateSeq S (fun _ => #[]) >>= _) _ _ _
    refine wpAny_bind (wpAny_updateSeq eS2 rfl (wpAny_bind (wpAny_letGo (wpAny_pure ?_))))
    exact q vb _ tk (by rw [← hin]; exact pb) fun b o h1 h2 e => (Heap.get?_update_other _ _ (Ne.symm h2)).trans (kp b o h1 e)
  | succ k ih =>
    intro j s vb c hk hj ok hst pb eS q
    have hlt : j + 1 < n := by omega
    refine codeAny_builtin PySem.F.entry_min_loop ?_
    rw [Around.under_plainId PySem.F.plain_min_loop _]
    show wpAny _ A.in1 (seqItems? (.ref S) >>= _) _ _ s
    refine wpAny_bind (wpAny_seqItems eS rfl ?_)
    show wpAny _ A.in1 (tryCatch (pyNext (.ref I)) _ >>= _) _ _ s
    refine wpAny_bind (wpAny_tryCatch (W.item (j + 1) s _ _ hlt hst fun v g tk pv hst2 kp => ?_))
    have eS2 := kp S _ hSw eS
    have ok2 : OK g := st _ _ ok fun b o h1 _ e => kp b o h1 e
    show wpAny _ A.in1 (tryCatch (holding [v, v] (richCompare .Lt v vb >>= _)) _ >>= _) _ _ _
    refine wpAny_bind (wpAny_tryCatch (wpAny_holding (wpAny_bind (C (j + 1) (argBest bt j) v vb _ _ _ ok2 pv pb ?_))))
    refine wpAny_bind (wpAny_holding (wpAny_truthy_bool (wpAny_bind (wpAny_letGo (wpAny_pure ?_)))))
    cases hb : bt (j + 1) (argBest bt j) with
    | true =>
      simp only [if_true]
      refine wpAny_bind (wpAny_updateSeq eS2 rfl (wpAny_bind (wpAny_letGo ?_)))
      rw [nm]
      have kp2 : ∀ b o, b ≠ S → g.get? b = some o → (g.update S (Obj.mapSeq fun _ => #[v, v])).get? b = some o := fun b o h e => (Heap.get?_update_other _ _ (Ne.symm h)).trans e
      refine wpAny_pure ⟨plainId_quiet PySem.F.plain_min_loop _, ih (j + 1) _ v _ (by omega) hlt (st _ _ ok2 fun b o _ h e => kp2 b o h e) (W.frame _ _ _ hst2 fun b hbf o e => kp2 b o (fun z => hSf (z ▸ hbf)) e) (by simp only [argBest, hb, if_true]; exact pv) (Heap.get?_update_self _ eS2 rfl)
        fun v' g' tk' pv' kp' => ?_⟩
      exact q v' g' tk' pv' fun b o h1 h2 e => kp' b o h1 h2 (kp2 b o h2 (kp b o h1 e))
    | false =>
      simp only [Bool.false_eq_true, if_false]
      refine wpAny_bind (wpAny_letGo ?_)
      rw [nm]
      refine wpAny_pure ⟨plainId_quiet PySem.F.plain_min_loop _, ih (j + 1) _ vb c (by omega) hlt ok2 hst2 (by simp only [argBest, hb, Bool.false_eq_true, if_false]; exact pb) eS2 fun v' g' tk' pv' kp' => ?_⟩
      exact q v' g' tk' pv' fun b o h1 h2 e => kp' b o h1 h2 (kp b o h1 e)
theorem min_start (W : Walks prog w A.in1 I fp wr n P St) (C : CmpIn prog w A.in1 OK P bt) (hSf : S ∉ fp) (st : ∀ h h', OK h → (∀ b o, b ∉ wr → b ≠ S → h.get? b = some o → h'.get? b = some o) → OK h') (hn : 0 < n) {s : Shared} {c : Nat} (ok : OK s.heap) (hst : St 0 s.heap)
    (eS : s.heap.get? S = some { cls := .type "list", dict := none, data := .seq #[] c, slots := #[] })
    (q : ∀ v g tk, P (argBest bt (n - 1)) v → (∀ b o, b ∉ wr → b ≠ S → s.heap.get? b = some o → g.get? b = some o) → R (.ok (.ret v)) { s with heap := g, toks := tk }) :
    codeAny (model prog w) A (.builtin "min.loop" ⟨[.ref I, .none, .ref S], []⟩) R s := by
  have hSw : S ∉ wr := fun h => hSf (W.sub _ h)
  have nm : (toString "min" ++ toString ".loop" : String) = "min.loop" := by decide
  refine codeAny_builtin PySem.F.entry_min_loop ?_
  rw [Around.under_plainId PySem.F.plain_min_loop _]
  show wpAny _ A.in1 (seqItems? (.ref S) >>= _) _ _ s
  refine wpAny_bind (wpAny_seqItems eS rfl ?_)
  show wpAny _ A.in1 (tryCatch (pyNext (.ref I)) _ >>= _) _ _ s
  refine wpAny_bind (wpAny_tryCatch (W.item 0 s _ _ hn hst fun v g tk pv hst2 kp => ?_))
  have eS2 := kp S _ hSw eS
  have ok2 : OK g := st _ _ ok fun b o h1 _ e => kp b o h1 e
  have kp2 : ∀ b o, b ≠ S → g.get? b = some o → (g.update S (Obj.mapSeq fun _ => #[v, v])).get? b = some o := fun b o h e => (Heap.get?_update_other _ _ (Ne.symm h)).trans e
  show wpAny _ A.in1 (updateSeq S (fun _ => #[v, v]) >>= _) _ _ _
  refine wpAny_bind (wpAny_updateSeq eS2 rfl ?_)
  rw [nm]
  refine wpAny_pure ⟨plainId_quiet PySem.F.plain_min_loop _, min_go W C hSf st _ 0 _ v _ rfl hn (st _ _ ok2 fun b o _ h e => kp2 b o h e) (W.frame _ _ _ hst2 fun b hbf o e => kp2 b o (fun z => hSf (z ▸ hbf)) e) pv (Heap.get?_update_self _ eS2 rfl) fun v' g' tk' pv' kp' => ?_⟩
  exact q v' g' tk' pv' fun b o h1 h2 e => kp' b o h1 h2 (kp2 b o h2 (kp b o h1 e))
end
section
variable {prog : Program} {w : World} {A : Around} {E : Value → Shared → Prop} {s : Shared}
/-- min(l), l a list whose items are compared as they stand now -/
theorem min_list {l : Addr} {items : Array Value} {bt : Nat → Nat → Bool} {Q : Value → Shared → Prop} (hh : A.handled = none) (hl : s.heap.IsList l items) (hn : 0 < items.size)
    (C : CmpIn prog w A.in1 (fun h => ∀ b o, s.heap.get? b = some o → h.get? b = some o) (fun i v => items[i]? = some v) bt)
    (q : ∀ v g tk, items[argBest bt (items.size - 1)]? = some v → (∀ b o, s.heap.get? b = some o → g.get? b = some o) → Q v { s with heap := g, toks := tk }) :
    wpAny (model prog w) A (call (.builtin "min") [.ref l]) Q E s := by
  have nm : (toString "min" ++ toString ".loop" : String) = "min.loop" := by decide
  refine call_function_tree PySem.F.kind_min PySem.F.plain_min PySem.F.entry_min (PySem.F.args_min1 _) ?_
  show wpAny _ A.in1 (Builtin.Builtins.bindParams "min" ["key", "default"] 0 ⟨[], []⟩ >>= _) _ _ s
  refine wpAny_bind (wpAny_of_eq (show Builtin.Builtins.bindParams "min" ["key", "default"] 0 ⟨[], []⟩ = pure [none, none] from rfl) (wpAny_bind (wpAny_pure ?_)))
  refine wpAny_bind (wpAny_pyIter_list hl ?_)
  refine wpAny_bind (wpAny_newObj_type ?_)
  have ll : l < s.heap.objs.size := by obtain ⟨o, e, _⟩ := id hl; exact Heap.lt_size e
  have W := Walks.list (prog := prog) (w := w) (A := A.in1) hh s.heap.objs.size l (Nat.ne_of_lt ll) items
  rw [nm]
  have k1 : ∀ b o, s.heap.get? b = some o → (s.heap.push { cls := .type "list_iterator", data := .fields #[.ref l, .int 0 0] }).get? b = some o := fun b o e => Heap.get?_push_of_some _ e
  have z1 : (s.heap.push { cls := .type "list_iterator", data := .fields #[.ref l, .int 0 0] }).objs.size = s.heap.objs.size + 1 := Heap.size_push ..
  have hit : (s.heap.push { cls := .type "list_iterator", data := .fields #[.ref l, .int 0 0] }).IsListIter s.heap.objs.size l 0 := ⟨_, Heap.get?_push_size _ rfl, rfl, rfl⟩
  have nS : ∀ b : Addr, b < s.heap.objs.size → b ≠ (s.heap.push { cls := .type "list_iterator", data := .fields #[.ref l, .int 0 0] }).objs.size := fun b hb => by
    rw [z1]
    exact Nat.ne_of_lt (Nat.lt_of_lt_of_le hb (Nat.le_succ _))
  refine wpAny_pure ⟨plainId_quiet PySem.F.plain_min_loop _, min_start W C ?_ ?_ hn ?_ ?_ (Heap.get?_push_size _ rfl) fun v g tk pv kp => ?_⟩
  · intro hm
    rcases List.mem_cons.mp hm with e | hm
    · rw [z1] at e
      exact Nat.succ_ne_self _ e
    · exact nS l ll (List.mem_singleton.mp hm).symm
  · intro h h' ok kp b o e
    have lb := Heap.lt_size e
    exact kp b o (fun z => Nat.ne_of_lt lb (List.mem_singleton.mp z)) (nS b lb) (ok b o e)
  · exact fun b o e => Heap.get?_push_of_some _ (k1 b o e)
  · exact ⟨hit.at fun o e => Heap.get?_push_of_some _ e, hl.at fun o e => Heap.get?_push_of_some _ (k1 _ o e)⟩
  · refine q v g tk pv fun b o e => ?_
    have lb := Heap.lt_size e
    exact kp b o (fun z => Nat.ne_of_lt lb (List.mem_singleton.mp z)) (nS b lb) (Heap.get?_push_of_some _ (k1 b o e))
end
end Mp
namespace Fv
open PySem PySem.Spec PyProof.Rows L2
/-! list.count(k), a list of whole numbers -/
def isI (k : Int) : Value → Bool
  | .int a _ => a == k
  | _ => false
theorem isI_count {k : Int} : ∀ {us : List Value} {ns : List Int}, Vals (ns.map V.int) us → us.countP (isI k) = ns.count k
  | _, [], .nil => rfl
  | _, a :: c, .cons r t => by
    have ih := isI_count (k := k) (ns := c) t
    obtain ⟨tk, rfl⟩ := r
    rw [List.countP_cons, List.count_cons, ih]
    rfl
theorem isI_eq {A : Around} {s : Shared} {k : Int} {tk : Tok} : ∀ {us : List Value} {ns : List Int}, Vals (ns.map V.int) us → ∀ y ∈ us, SeqAt.EqAt A s y (.int k tk) (isI k y)
  | _, [], .nil => fun y hy => by cases hy
  | _, a :: c, .cons r t => fun y hy => by
    obtain ⟨t0, rfl⟩ := r
    rcases List.mem_cons.mp hy with e | e
    · subst e
      exact SeqAt.EqAt.int_int (A := A) (s := s) a t0 k tk
    · exact isI_eq (ns := c) t y e
def rCntI (K : PySem.W.Frag) : V → List V → Hp → VK → Prop := fun x xs H Q => ∃ (p : Addr) (ns : List Int) (k : Int), x = .ref p ∧ xs = [.int k] ∧ SqL K H p (ns.map V.int) ∧ Q (.int (ns.count k : Nat)) H
theorem mt_lcountI {X : Cx} {K : PySem.W.Frag} (eK : X.K = K) : MtR X "list.count" (rCntI K) := by
  subst eK
  intro pins s σ H x xs v us Q I rx rxs h
  obtain ⟨p, ns, k, rfl, rfl, hs, q⟩ := h
  cases rx
  obtain ⟨u, rfl, ru⟩ := rxs.one
  obtain ⟨tk, rfl⟩ := ru
  obtain ⟨its, rv, ⟨⟨cls, dd, data, sl⟩, n, ho, hc, hdn, hd⟩, hlen⟩ := I.list hs
  simp only at hc hd
  subst hc hd
  refine call_meets PySem.F.slot_list_count ⟨_, ho, rfl⟩ PySem.F.entry_list_count (PySem.F.args_list_count_2 _ _)
    (SeqAt.list_countAt p its.toArray n dd sl (.int k tk) (isI k)) ⟨ho, fun y hy => isI_eq rv y (by simpa using hy), ?_⟩
  have ec : its.toArray.toList.countP (isI k) = ns.count k := by
    have e : its.toArray.toList = its := by simp
    rw [e]
    exact isI_count rv
  refine ⟨.int (ns.count k : Nat), H, I.tok _, ⟨s.toks, ?_⟩, q⟩
  show Value.int ((its.toArray.toList.countP (isI k) : Nat) : Int) s.toks = Value.int ((ns.count k : Nat) : Int) s.toks
  rw [ec]
theorem x_cntI {K : PySem.W.Frag} {H : Hp} {Q : VK} {p : Addr} {l : List Nat} {k : Nat} (h : SqL K H p (nats l)) (q : Q (.int (l.count k : Nat)) H) : rCntI K (.ref p) [.int (k : Nat)] H Q := by
  refine ⟨p, intsN l, k, rfl, rfl, ?_, ?_⟩
  · have e : (intsN l).map V.int = nats l := by
      unfold intsN nats
      rw [List.map_map]
      rfl
    rw [e]
    exact h
  · have e : (intsN l).count (k : Int) = l.count k := by
      unfold intsN
      rw [List.count, List.countP_map]
      refine List.countP_congr fun a _ => ?_
      show (((a : Int) == (k : Int)) = true) ↔ ((a == k) = true)
      rw [beq_iff_eq, beq_iff_eq]
      omega
    rw [e]
    exact q
/-! min of a list of pairs -/
def prD (p : Nat × Nat) : PyData := .tuple [.int (p.1 : Int), .int (p.2 : Int)]
def pLt (a b : Nat × Nat) : Bool := decide (a.1 < b.1 ∨ (a.1 = b.1 ∧ a.2 < b.2))
theorem prD_lt (a b : Nat × Nat) : PySem.W.dataLt (prD a) (prD b) = pLt a b := by
  refine (PySem.W.dataLt_ii _ _ _ _).trans ?_
  unfold pLt
  rw [decide_eq_decide]
  omega
def bOf (ps : List (Nat × Nat)) (i j : Nat) : Bool := pLt (ps.getD i (0, 0)) (ps.getD j (0, 0))
theorem best_le (ps : List (Nat × Nat)) : ∀ k, argBest (bOf ps) k ≤ k ∧ ∀ i, i ≤ k → bOf ps i (argBest (bOf ps) k) = false
  | 0 => ⟨Nat.le_refl _, fun i hi => by
    obtain rfl : i = 0 := by omega
    show pLt _ _ = false
    unfold pLt
    exact decide_eq_false (by
      show ¬ ((ps.getD 0 (0, 0)).1 < (ps.getD 0 (0, 0)).1 ∨ _ ∧ (ps.getD 0 (0, 0)).2 < (ps.getD 0 (0, 0)).2)
      omega)⟩
  | k + 1 => by
    obtain ⟨h1, h2⟩ := best_le ps k
    have u : argBest (bOf ps) (k + 1) = if bOf ps (k + 1) (argBest (bOf ps) k) then k + 1 else argBest (bOf ps) k := rfl
    rw [u]
    by_cases c : bOf ps (k + 1) (argBest (bOf ps) k) = true
    · rw [if_pos c]
      refine ⟨Nat.le_refl _, fun i hi => ?_⟩
      have c' := of_decide_eq_true c
      by_cases e : i = k + 1
      · subst e
        refine decide_eq_false ?_
        omega
      · have := of_decide_eq_false (h2 i (by omega))
        refine decide_eq_false ?_
        omega
    · rw [if_neg c]
      refine ⟨by omega, fun i hi => ?_⟩
      by_cases e : i = k + 1
      · subst e
        simpa using c
      · exact h2 i (by omega)
def rMinP (K : PySem.W.Frag) : List V → Hp → VK → Prop := fun xs H Q => ∃ (l : Addr) (as : List Addr) (ps : List (Nat × Nat)), xs = [.ref l] ∧ SqL K H l (as.map V.ref) ∧ as.length = ps.length ∧ 0 < ps.length ∧ (∀ (i : Nat) a p, as[i]? = some a → ps[i]? = some p → SqT K H a [.int (p.1 : Nat), .int (p.2 : Nat)]) ∧
  ∀ (i : Nat) a p, as[i]? = some a → ps[i]? = some p → (∀ q ∈ ps, pLt q p = false) → Q (.ref a) H
theorem cr_minPK {X : Cx} {K : PySem.W.Frag} (e : X.K = K) (hc : X.calm = true) (hu : X.A.units + 66 < cLine) : CallR X (.builtin "min") (rMinP K) := by
  subst e
  intro pins s σ H vs us Q I r h
  obtain ⟨l, as, ps, rfl, hl, la, pos, at_, q⟩ := h
  rw [Vals.ref1 r]
  obtain ⟨its, rv, p, _⟩ := I.list hl
  have il : its.length = as.length := by rw [← rv.length, List.length_map]
  have item : ∀ (i : Nat) (v : Value), its.toArray[i]? = some v → ∃ a p, as[i]? = some a ∧ ps[i]? = some p ∧ v = .ref a ∧ ps.getD i (0, 0) = p := fun i v e => by
    have e2 : its[i]? = some v := by simpa using e
    have hi := (List.getElem?_eq_some_iff.mp e2).1
    have ha := List.getElem?_eq_getElem (l := as) (i := i) (by omega)
    have hp := List.getElem?_eq_getElem (l := ps) (i := i) (by omega)
    obtain ⟨u, hu, ru⟩ := rv.get (show (as.map V.ref)[i]? = some (.ref as[i]) by rw [List.getElem?_map, ha]; rfl)
    rw [e2] at hu
    cases hu
    exact ⟨_, _, ha, hp, ru, by rw [List.getD_eq_getElem?_getD, hp]; rfl⟩
  have hh : X.A.handled = none := I.ok.hd hc
  refine Mp.min_list (bt := bOf ps) hh p.isList (by rw [List.size_toArray]; omega) (fun i j vi vj s' Q' E' ok e1 e2 q' => ?_) fun v g tk e kp => ?_
  · obtain ⟨a, pa, ha, hp, rfl, g1⟩ := item i vi e1
    obtain ⟨b, pb, hb, hp2, rfl, g2⟩ := item j vj e2
    obtain ⟨h', g', d', tk', os'⟩ := s'
    have I2 : Inv X pins σ H { s with heap := h' } := I.kept (t' := s.toks) ok
    have dpa : Dp X.K H (.ref a) (prD pa) := .tup (at_ i a pa ha hp) (.cons (.int _) (.cons (.int _) .nil))
    have dpb : Dp X.K H (.ref b) (prD pb) := .tup (at_ j b pb hb hp2) (.cons (.int _) (.cons (.int _) .nil))
    obtain ⟨ra, h1⟩ := Dp.reads I2 _ _ _ dpa rfl
    obtain ⟨rb, h2⟩ := Dp.reads I2 _ _ _ dpb rfl
    refine PySem.W.rcLt_alike (prD pa) (prD pb) X.A.in1 ⟨h', g', d', tk', os'⟩ _ _ ra rb h1 h2 (by simp [prD, PySem.W.alike, PySem.W.alikeAll]) (fun z => nomatch z) ?_ _ _ _ _ ?_
    · have e3 : min (prD pa).depth (prD pb).depth ≤ 64 := by
        refine Nat.le_trans (Nat.min_le_left _ _) ?_
        show PyData.depth (.tuple [.int _, .int _]) ≤ 64
        simp [PyData.depth, PyData.depthAll]
      show X.A.units + 1 + _ < cLine
      omega
    · rw [prD_lt]
      have e3 : bOf ps i j = pLt pa pb := by
        unfold bOf
        rw [g1, g2]
      rw [← e3]
      exact q'
  · obtain ⟨a, pp, ha, hp, rfl, g1⟩ := item _ v e
    have bl := best_le ps (its.toArray.size - 1)
    refine ⟨.ref a, H, I.kept (t' := tk) kp, rfl, q _ a pp ha hp fun x hx => ?_⟩
    obtain ⟨j, hj, rfl⟩ := List.getElem_of_mem hx
    have := bl.2 j (by rw [List.size_toArray]; omega)
    have e4 : bOf ps j (argBest (bOf ps) (its.toArray.size - 1)) = pLt (ps.getD j (0, 0)) (ps.getD (argBest (bOf ps) (its.toArray.size - 1)) (0, 0)) := rfl
    rw [e4, g1, List.getD_eq_getElem?_getD, List.getElem?_eq_getElem hj] at this
    exact this
end Fv
set_option maxRecDepth 100000
set_option maxHeartbeats 4000000
namespace L2
open PySem PySem.Spec PyProof.Rows
/-! ### set(t), t a tuple of ints; len(set(t)) -/
section
variable {P : Program} {w : World} {A : Around} {E : Value → Shared → Prop} {s : Shared}
set_option maxHeartbeats 3200000 in
theorem tset_call {l : Addr} {items : Array Value} (ns : List Int) {Q : Value → Shared → Prop} (hh : A.handled = none) (hl : s.heap.IsTuple l items) (hit : IntsAre items.toList ns) (hb : ns.length + 1 < scanBound)
    (h : ∀ (h' : Heap) (tk c : Nat), SetR w h' s.heap.objs.size (fun j => decide (j ∈ ns)) c → c ≤ ns.length → (∀ b o, s.heap.get? b = some o → h'.get? b = some o) → Q (.ref s.heap.objs.size) { s with heap := h', toks := tk }) :
    wpAny (model P w) A (call (.type "set") [.ref l]) Q E s := by
  have hn : items.size = ns.length := by rw [← Array.length_toList]; exact IntsAre.length hit
  obtain ⟨c, tl, hmro⟩ := F.called_set.mro
  have hmade := F.called_set.made
  have hsub := F.called_set.sub
  have h1 := F.called_set.notType
  have h2 := F.called_set.canCreate
  have hct := F.typeCall_set_1 (.ref l)
  refine wpAny_call (codeAny_of_tree ?_)
  show wpAny _ _ (callAny (.type "set") _) _ _ _
  refine wpAny_pure ⟨Code.quiet_builtin _ (by decide +kernel), codeAny_builtin F.entry_type_call ?_⟩
  rw [Around.under_plain (weight_type_call_type "set" [.ref l] []) rfl]
  repeat (any_goals (first | assumption | wp_step))
  generalize ho : ({ cls := .type "set", dict := none, data := .set #[] 0 (.fresh 0 0 (!w.params.followText "set-order")) } : Obj) = ob
  refine codeAny_mono (code_set_led1 (.ref l) (E := E) (Q₁ := fun x t => x = .ref s.heap.objs.size ∧ t = { s with heap := s.heap.push ob }) ⟨rfl, by rw [ho]⟩) fun r t hr => ?_
  cases r with
  | error e => exact hr
  | ok fl =>
    cases fl with
    | ret x =>
      obtain ⟨rfl, rfl⟩ := hr
      have hS : (s.heap.push ob).get? s.heap.objs.size = some ob := Heap.get?_push_size _ (by rw [← ho]; rfl)
      have hT : Shared.TypeIs { s with heap := s.heap.push ob } (.ref s.heap.objs.size) "set" := ⟨_, hS, by rw [← ho]⟩
      have hli := F.called_set.init.lookup
      have hbi := F.called_set.init.bind (.ref s.heap.objs.size)
      repeat (any_goals (first | assumption | wp_step))
      refine codeAny_mono (codeAny_call_builtin (R := wants (fun r t => r = .none ∧ ∃ h' tk c, t = { s with heap := h', toks := tk } ∧ SetR w h' s.heap.objs.size (fun j => decide (j ∈ ns)) c ∧ c ≤ ns.length ∧
          (∀ b o, s.heap.get? b = some o → h'.get? b = some o)) E) F.called_set.init.plain F.entry_set_init (check_set_init_1 hT ?_)) fun r2 t2 hr2 => ?_
      · have hl0 : (s.heap.push ob).IsTuple l items := hl.push _
        obtain ⟨ol, hol, hcl, nl, hdl⟩ := hl
        obtain ⟨ocls, odict, odata, oslots⟩ := ol
        simp only at hcl hdl
        subst hcl hdl
        have hol' : (s.heap.push ob).get? l = some { cls := .type "tuple", dict := odict, data := .seq items nl, slots := oslots } := Heap.get?_push_of_some _ hol
        have e1 := F.sub_tuple_set
        have e2 := F.sub_tuple_frozenset
        have hne : (Value.type "tuple" == Value.type "dict") = false := by decide
        have lt : l < s.heap.objs.size := Heap.lt_size hol
        have sz : (s.heap.push ob).objs.size = s.heap.objs.size + 1 := Heap.size_push ..
        have hneI : l ≠ (s.heap.push ob).objs.size := by rw [sz]; exact Nat.ne_of_lt (Nat.lt_succ_of_lt lt)
        have hSf : s.heap.objs.size ∉ [(s.heap.push ob).objs.size, l] := by
          rw [sz]
          simp only [List.mem_cons, List.not_mem_nil, or_false, not_or]
          exact ⟨Nat.ne_of_lt (Nat.lt_succ_self _), Nat.ne_of_gt lt⟩
        have hh3 : A.in1.in1.in1.handled = none := by simp [hh]
        subst ho
        unfold Builtin.«set.__init__» noKeywords Builtin.Frozenset.updateFrom
        generalize hPI : pyIter = PI
        wp_walk
        subst hPI
        refine wpAny_pyIter_tuple hl0 ?_
        refine wpAny_bind (wpAny_runValue ?_)
        have hv : ∀ (i : Nat) (v : Value), items[i]? = some v → ∃ k t, ns[i]? = some k ∧ v = .int k t := fun i v hv => by
          have hi : i < ns.length := by rw [← hn]; exact (Array.getElem?_eq_some_iff.mp hv).1
          obtain ⟨t, e⟩ := IntsAre.int_at hit i v (by rw [Array.getElem?_toList]; exact hv)
          refine ⟨ns[i], t, List.getElem?_eq_getElem hi, ?_⟩
          rw [e, List.getD_eq_getElem?_getD, List.getElem?_eq_getElem hi] <;> rfl
        refine set_update_ints ((Walks.tuple hh3 _ l hneI items).toS) s.heap.objs.size hSf ns hn hb hv (items.size - 0) 0 _ (by omega) (Nat.zero_le _) ⟨⟨_, Heap.get?_push_size _ rfl, rfl, rfl⟩, hl0.push _⟩ ?hZero ?hRest
        case hZero => exact ⟨0, Nat.le_refl 0, setR_new_at (Heap.get?_push_of_some _ hS)⟩
        case hRest =>
          intro t' c' hm hc' hS'
          obtain ⟨h', g2, d', tk', os'⟩ := t'
          obtain rfl : g2 = s.gens := hm.gens
          obtain rfl : d' = s.drawn := hm.drawn
          obtain rfl : os' = s.os := hm.os
          show wpAny _ _ _ _ _ _
          refine wpAny_pure ?_
          show wpAny _ _ (ret Value.none) _ _ _
          rw [hn] at hc'
          refine wpAny_pure ⟨rfl, h', tk', c', rfl, hS', hc', fun b o e => ?_⟩
          have hb0 : b < s.heap.objs.size := Heap.lt_size e
          refine hm.heap b o ?_ (Heap.get?_push_of_some _ (Heap.get?_push_of_some _ e))
          rw [sz]
          simp only [List.mem_cons, List.not_mem_nil, or_false, not_or]
          exact ⟨Nat.ne_of_lt hb0, Nat.ne_of_lt (Nat.lt_succ_of_lt hb0)⟩
      · cases r2 with
        | error e => exact hr2
        | ok fl2 =>
          cases fl2 with
          | ret r =>
            obtain ⟨rfl, h', tk, c', rfl, hS', hc', hk'⟩ := hr2
            repeat (any_goals (first | assumption | wp_step))
            exact h _ _ _ hS' hc' hk'
          | _ => exact hr2.elim
    | _ => exact hr.elim
set_option maxHeartbeats 3200000 in
theorem tset_callN {l : Addr} {items : Array Value} (ns : List Int) {Q : Value → Shared → Prop} (hh : A.handled = none) (hl : s.heap.IsTuple l items) (hit : IntsAre items.toList ns) (hb : ns.length + 1 < scanBound)
    (h : ∀ (h' : Heap) (tk : Nat), h'.SetOf (intKind P w) s.heap.objs.size (fun k' => (firstMet (fun i => ns.getD i 0) items.size).any (· == k')) (firstMet (fun i => ns.getD i 0) items.size).length → (∀ b o, s.heap.get? b = some o → h'.get? b = some o) → Q (.ref s.heap.objs.size) { s with heap := h', toks := tk }) :
    wpAny (model P w) A (call (.type "set") [.ref l]) Q E s := by
  have hn : items.size = ns.length := by rw [← Array.length_toList]; exact IntsAre.length hit
  obtain ⟨c, tl, hmro⟩ := F.called_set.mro
  have hmade := F.called_set.made
  have hsub := F.called_set.sub
  have h1 := F.called_set.notType
  have h2 := F.called_set.canCreate
  have hct := F.typeCall_set_1 (.ref l)
  refine wpAny_call (codeAny_of_tree ?_)
  show wpAny _ _ (callAny (.type "set") _) _ _ _
  refine wpAny_pure ⟨Code.quiet_builtin _ (by decide +kernel), codeAny_builtin F.entry_type_call ?_⟩
  rw [Around.under_plain (weight_type_call_type "set" [.ref l] []) rfl]
  repeat (any_goals (first | assumption | wp_step))
  refine codeAny_mono (code_set_new_1 (.ref l) (E := E) (Q₁ := fun x t => ∃ (led : Bool) (ob : Obj), ({ cls := .type "set", dict := none, data := .set #[] 0 (.fresh 0 0 led) } : Obj) = ob ∧ x = .ref s.heap.objs.size ∧ t = { s with heap := s.heap.push ob }) fun led => ⟨led, _, rfl, rfl, rfl⟩) fun r t hr => ?_
  cases r with
  | error e => exact hr
  | ok fl =>
    cases fl with
    | ret x =>
      obtain ⟨led, ob, ho, rfl, rfl⟩ := hr
      have hS : (s.heap.push ob).get? s.heap.objs.size = some ob := Heap.get?_push_size _ (by rw [← ho]; rfl)
      have hT : Shared.TypeIs { s with heap := s.heap.push ob } (.ref s.heap.objs.size) "set" := ⟨_, hS, by rw [← ho]⟩
      have hli := F.called_set.init.lookup
      have hbi := F.called_set.init.bind (.ref s.heap.objs.size)
      repeat (any_goals (first | assumption | wp_step))
      refine codeAny_mono (codeAny_call_builtin (R := wants (fun r t => r = .none ∧ ∃ h' tk, t = { s with heap := h', toks := tk } ∧ h'.SetOf (intKind P w) s.heap.objs.size (fun k' => (firstMet (fun i => ns.getD i 0) items.size).any (· == k')) (firstMet (fun i => ns.getD i 0) items.size).length ∧
          (∀ b o, s.heap.get? b = some o → h'.get? b = some o)) E) F.called_set.init.plain F.entry_set_init (check_set_init_1 hT ?_)) fun r2 t2 hr2 => ?_
      · have hl0 : (s.heap.push ob).IsTuple l items := hl.push _
        obtain ⟨ol, hol, hcl, nl, hdl⟩ := hl
        obtain ⟨ocls, odict, odata, oslots⟩ := ol
        simp only at hcl hdl
        subst hcl hdl
        have hol' : (s.heap.push ob).get? l = some { cls := .type "tuple", dict := odict, data := .seq items nl, slots := oslots } := Heap.get?_push_of_some _ hol
        have e1 := F.sub_tuple_set
        have e2 := F.sub_tuple_frozenset
        have hne : (Value.type "tuple" == Value.type "dict") = false := by decide
        have lt : l < s.heap.objs.size := Heap.lt_size hol
        have sz : (s.heap.push ob).objs.size = s.heap.objs.size + 1 := Heap.size_push ..
        have hneI : l ≠ (s.heap.push ob).objs.size := by rw [sz]; exact Nat.ne_of_lt (Nat.lt_succ_of_lt lt)
        have hSf : s.heap.objs.size ∉ [(s.heap.push ob).objs.size, l] := by
          rw [sz]
          simp only [List.mem_cons, List.not_mem_nil, or_false, not_or]
          exact ⟨Nat.ne_of_lt (Nat.lt_succ_self _), Nat.ne_of_gt lt⟩
        have hh3 : A.in1.in1.in1.handled = none := by simp [hh]
        subst ho
        unfold Builtin.«set.__init__» noKeywords Builtin.Frozenset.updateFrom
        generalize hPI : pyIter = PI
        wp_walk
        subst hPI
        refine wpAny_pyIter_tuple hl0 ?_
        refine wpAny_bind (wpAny_runValue ?_)
        have hv : ∀ (i : Nat) (v : Value), items[i]? = some v → ∃ t, v = .int ((fun i => ns.getD i 0) i) t := fun i v hv => IntsAre.int_at hit i v (by rw [Array.getElem?_toList]; exact hv)
        refine codeAny_set_update_loopS ((Walks.tuple hh3 _ l hneI items).toS) s.heap.objs.size hSf (fun i => ns.getD i 0) hv (by rw [hn]; exact hb) (items.size - 0) 0 _ (by omega) (Nat.zero_le _) ⟨⟨_, Heap.get?_push_size _ rfl, rfl, rfl⟩, hl0.push _⟩ ?hZero ?hRest
        case hZero => exact SetOf_congr ((setObjOf_fresh (knd := intKind P w) led).setOf (Heap.get?_push_of_some _ hS) (by unfold scanBound; omega)) (fun _ => rfl) rfl
        case hRest =>
          intro t' hm hS'
          obtain ⟨h', g2, d', tk', os'⟩ := t'
          obtain rfl : g2 = s.gens := hm.gens
          obtain rfl : d' = s.drawn := hm.drawn
          obtain rfl : os' = s.os := hm.os
          show wpAny _ _ _ _ _ _
          refine wpAny_pure ?_
          show wpAny _ _ (ret Value.none) _ _ _
          refine wpAny_pure ⟨rfl, h', tk', rfl, hS', fun b o e => ?_⟩
          have hb0 : b < s.heap.objs.size := Heap.lt_size e
          refine hm.heap b o ?_ (Heap.get?_push_of_some _ (Heap.get?_push_of_some _ e))
          rw [sz]
          simp only [List.mem_cons, List.not_mem_nil, or_false, not_or]
          exact ⟨Nat.ne_of_lt hb0, Nat.ne_of_lt (Nat.lt_succ_of_lt hb0)⟩
      · cases r2 with
        | error e => exact hr2
        | ok fl2 =>
          cases fl2 with
          | ret r =>
            obtain ⟨rfl, h', tk, rfl, hS', hk'⟩ := hr2
            repeat (any_goals (first | assumption | wp_step))
            exact h _ _ hS' hk'
          | _ => exact hr2.elim
    | _ => exact hr.elim
end
section
variable {X : Cx}
/-- set(t), t a tuple of ints: a new set -/
def rSetTi (K : PySem.W.Frag) (w : World) : List V → Hp → VK → Prop := fun xs H Q => ∃ (l : Addr) (ns : List Int), xs = [.ref l] ∧ SqT K H l (ns.map V.int) ∧ ns.length < 200 ∧ ∀ p c, H p = none → c ≤ ns.length → Q (.ref p) (upd H p (SetO w p (fun j => decide (j ∈ ns)) c))
theorem cr_setTiK {K : PySem.W.Frag} {w : World} (e : X.K = K) (e2 : X.w = w) (hc : X.calm = true) : CallR X (.type "set") (rSetTi K w) := by
  subst e e2
  intro pins s σ H vs us Q I r h
  obtain ⟨l, ns, rfl, hl, h60, q⟩ := h
  rw [Vals.ref1 r]
  obtain ⟨its, rv, p, hz⟩ := I.tuple hl
  refine tset_call ns (I.ok.hd hc) (show s.heap.IsTuple l its.toArray from p) (by rw [List.toList_toArray]; exact ints_of_vals rv) (by unfold scanBound; omega) fun h' tk c R hcn k => ?_
  exact ⟨.ref _, _, I.laid (t' := tk) k (Nat.le_refl _) (setO_new R), rfl, q _ _ (I.hok.fresh (Nat.le_refl _)) hcn⟩
/-- len(set(t)), t a tuple of ints -/
def cntD (ns : List Int) : Nat := (firstMet (fun i => ns.getD i 0) ns.length).length
def tLenSetT (K : PySem.W.Frag) (ta : TE) : TE := fun σ H Q => ta σ H fun x H1 => ∃ (l : Addr) (ns : List Int), x = .ref l ∧ SqT K H1 l (ns.map V.int) ∧ ns.length ≤ 4000 ∧ Q (.int (cntD ns : Nat)) H1
theorem pe_lenSetT {K : PySem.W.Frag} {a : Expr} {ta : TE} {p p2 q pos : Pos} (eK : X.K = K) (hc : X.calm = true) (hg : Gl X "len") (hm : X.mg "len" = none) (hg2 : Gl X "set") (hm2 : X.mg "set" = none) (ha : PE X a ta)
    (na : starEach [a] X.env = (false, eval a X.env) :: starEach [] X.env := by rfl) : PE X (.Call (.Name "len" p) [.Call (.Name "set" p2) [a] [] q] [] pos) (tLenSetT K ta) := by
  subst eK
  refine ⟨fun pins s σ H Q I h => ?_⟩
  refine Call_ (ld_blt I hg hm boot_len ?_)
  refine PyProof.Rows.callWith_builtin1 (PyProof.Rows.args_cons ?_ rfl) rfl rfl
  refine Call_ (ld_blt I hg2 hm2 boot_set ?_)
  refine PyProof.Rows.callWith_type1 (PyProof.Rows.args_cons (thn (ha.run pins s σ H _ I h) fun v s1 ⟨x, H1, I1, r1, q1⟩ => PyProof.Rows.args_nil ?_) na) na rfl
  obtain ⟨l, ns, rfl, hq, hl, q1⟩ := q1
  cases r1
  obtain ⟨its, r, pl, hz⟩ := I1.tuple hq
  have hlen : its.toArray.size = ns.length := by rw [List.size_toArray, ← r.length, List.length_map]
  refine tset_callN ns (I1.ok.hd hc) (show s1.heap.IsTuple l its.toArray from pl) (by rw [List.toList_toArray]; exact ints_of_vals r) (by unfold scanBound; omega) fun h' tk hS hk => ?_
  refine PyProof.Rows.args_nil ?_
  rw [hlen] at hS
  have le := firstMet_length_le (fun i => ns.getD i 0) ns.length
  obtain ⟨o, es, ep, t, ho, hex, hd, _, _, _, hf, hn⟩ := hS
  have I2 : Inv X pins σ H1 { s1 with heap := h', toks := tk } := I1.kept hk
  exact call_len_set ho hex hd hf (by rw [hn] <;> omega) ⟨.int (cntD ns : Nat), H1, I2.tok _, ⟨_, by rw [hn]; rfl⟩, q1⟩
theorem cntD_le (ns : List Int) : cntD ns ≤ ns.length := firstMet_length_le (fun i => ns.getD i 0) ns.length
theorem cntD_nodup {ns : List Int} (h : ns.Nodup) : cntD ns = ns.length := by
  unfold cntD
  rw [RZ.firstMet_nodup h ns.length (Nat.le_refl _), List.take_length]
end
end L2
namespace Fv
open PySem PySem.Spec L2
theorem x_lenSetT {K : PySem.W.Frag} {σ : L2.St} {H : Hp} {Q : VK} {ta : TE} (h : ta σ H fun x H1 => ∃ (l : Addr) (ns : List Int), x = .ref l ∧ SqT K H1 l (ns.map V.int) ∧ ns.length ≤ 4000 ∧ Q (.int (cntD ns : Nat)) H1) : tLenSetT K ta σ H Q := h
theorem cr_maxLK {X : Cx} {K : PySem.W.Frag} (e : X.K = K) (hc : X.calm = true) : CallR X (.builtin "max") (rMax K) := by
  subst e
  exact cr_max hc
/-- two for's, the outer one over a walk -/
theorem lc2_it {J : It} {n : Nat} {G : Hp → Prop} {Y : Nat → Hp → V → Hp → Prop} (w : Walk J n G Y) {g : TG} {tt : TT} {vs : List Nat} {σ : L2.St} {H0 : Hp} {Qd : Hp → Prop} {Bd : L2.St → Hp → (Hp → Prop) → Prop} (Pv : Nat → Hp → Prop) (h0 : Pv 0 H0) (hG : ∀ i H, i ≤ n → Pv i H → G H)
    (hs : ∀ i x H H', i < n → Pv i H → Y i H x H' → g x (wipe σ vs) H' fun σ2 H2 => wipe σ2 vs = wipe σ vs ∧ tt σ2 H2 fun b H3 => if b = true then Bd σ2 H3 (Pv (i + 1)) else Pv (i + 1) H3) (hd : ∀ H, Pv n H → Qd H) :
    ∃ W : Nat → Nat → Hp → Prop, (∃ m, W 0 m H0) ∧ ∀ i m H, W i m H →
      (J.stop i H ∧ Qd H) ∨ (J.go i H ∧ ∃ Nx : Hp → Prop, (∀ H', Nx H' → ∃ m', m' < m ∧ W (i + 1) m' H') ∧ ∀ x H', J.yld i H x H' → g x (wipe σ vs) H' fun σ2 H2 => wipe σ2 vs = wipe σ vs ∧ tt σ2 H2 fun b H3 =>
        if b = true then Bd σ2 H3 Nx else Nx H3) := by
  refine ⟨fun i m H => m = n - i ∧ i ≤ n ∧ Pv i H, ⟨n, by simp, Nat.zero_le _, h0⟩, ?_⟩
  rintro i m H ⟨rfl, hi, p⟩
  have q := hG i H hi p
  by_cases hlt : i < n
  · exact .inr ⟨w.goes i H hlt q, Pv (i + 1), fun H' p' => ⟨n - (i + 1), by omega, rfl, hlt, p'⟩, fun x H' y => hs i x H H' hlt p (w.yields i H x H' hlt q y)⟩
  · have e : i = n := by omega
    subst e
    exact .inl ⟨w.stops H q, hd H p⟩
end Fv
set_option maxRecDepth 100000
set_option maxHeartbeats 1000000
namespace Fv
open PySem PySem.Spec L2 PyProof.Rows
/-- isinstance(e, C), e the caught error, with a field or without, whatever its class -/
def rIsX (K : PySem.W.Frag) (a : Addr) (cls : Value) (d : Option Addr) : List V → Hp → VK → Prop := fun xs H Q => ∃ (D : Addr) (c : V) (cv : Value) (b : Bool), cls = .ref D ∧ (d = none ∨ ∃ dd fs, d = some dd ∧ H dd = some (.xd fs)) ∧ L2.ExcC K D ∧ xs = [.ref a, c] ∧
  ((∃ C, c = .ref C ∧ cv = .ref C) ∨ ∃ T, c = .ty T ∧ cv = .type T) ∧ PySem.W.kitOne K (.ref D) cv = some b ∧ Q (.bl b) H
theorem call_isX {X : Cx} {K : PySem.W.Frag} {a : Addr} {oe : Obj} {cls : Value} {d : Option Addr} {pn : List (Addr × Obj)} (eK : X.K = K) (hz : Zc cls d oe) (hf : ∃ vs, oe.data = .fields vs) : CallR (X.suite a ((a, oe) :: pn)) (.builtin "isinstance") (rIsX K a cls d) := by
  subst eK
  intro pins s σ H xs us Q I r h
  obtain ⟨D, c, cv, b, rfl, hd, hC, rfl, hcv, e, q⟩ := h
  have hu : ∀ u, RelV c u → u = cv := fun u ru => by
    rcases hcv with ⟨C, rfl, rfl⟩ | ⟨T, rfl, rfl⟩
    · cases ru
      rfl
    · cases ru
      rfl
  rcases hd with rfl | ⟨dd, fs, rfl, ea⟩
  · exact call_isE hC hz hf pins s σ H _ us Q I r ⟨c, cv, b, rfl, hu, e, q⟩
  cases r with
  | cons rx rr =>
    cases rr with
    | cons rt rr =>
      cases rr
      cases rx
      have ec := hu _ rt
      subst ec
      obtain ⟨hget, _⟩ := I.pin (a, oe) (List.mem_append.mpr (.inl List.mem_cons_self))
      obtain ⟨vs, hv⟩ := hf
      have hx : ObjOk X.prog X.w H s.heap dd (.xd fs) := I.hok dd _ ea
      obtain ⟨mA, hns, hr⟩ := hx
      obtain ⟨od, ho, hl⟩ := lookIn_ns hns
      have J : PySem.W.InstAt s.heap a oe D (some od) := ⟨hget, hz.1, by unfold PySem.W.notCls; rw [hv] <;> rfl, by rw [hz.2]; exact ho⟩
      have hcl : (PySem.W.clsIn X.K D).isSome = true := by
        obtain ⟨cd, hc, _⟩ := PySem.W.any_some hC.hd
        rw [hc]
        rfl
      rcases hcv with ⟨C, rfl, rfl⟩ | ⟨T, rfl, rfl⟩
      · exact PySem.W.kia_one (PySem.W.kitx_exc hcl hC.hg hC.hk hC.hs hC.ha hC.hn hC.ht hC.hm) I.kIn J e (fun z => nomatch z) fun tk => ⟨.bl b, H, I.kept (t' := tk) fun _ _ z => z, rfl, q⟩
      · exact PySem.W.kia_one (PySem.W.kitx_exc hcl hC.hg hC.hk hC.hs hC.ha hC.hn hC.ht hC.hm) I.kIn J e (fun z => nomatch z) fun tk => ⟨.bl b, H, I.kept (t' := tk) fun _ _ z => z, rfl, q⟩
section
variable {K : PySem.W.Frag} {H : Hp} {Q : VK} {a D : Addr} {d : Option Addr} {b : Bool}
theorem x_isX {C : Addr} (hd : d = none ∨ ∃ dd fs, d = some dd ∧ H dd = some (.xd fs)) (he : L2.ExcC K D) (hk : PySem.W.kitOne K (.ref D) (.ref C) = some b) (q : Q (.bl b) H) : rIsX K a (.ref D) d [.ref a, .ref C] H Q :=
  ⟨D, .ref C, .ref C, b, rfl, hd, he, rfl, .inl ⟨C, rfl, rfl⟩, hk, q⟩
theorem x_isXv {T : String} (hd : d = none ∨ ∃ dd fs, d = some dd ∧ H dd = some (.xd fs)) (he : L2.ExcC K D) (hk : PySem.W.kitOne K (.ref D) (.type T) = some b) (q : Q (.bl b) H) : rIsX K a (.ref D) d [.ref a, .ty T] H Q :=
  ⟨D, .ty T, .type T, b, rfl, hd, he, rfl, .inr ⟨T, rfl, rfl⟩, hk, q⟩
end
end Fv
set_option maxRecDepth 100000
set_option maxHeartbeats 1000000
namespace Fv
open PySem PySem.Spec L2
def top (i : Nat) : Stmt := PySem.Challenge.pw_foldervotes_k31_words_refused.main.body.getD i (.Pass ⟨0, 0, 0, 0⟩)
abbrev s_VoteError___str__ : Stmt := inClass (top 1) 0
abbrev s_BadTree___init__ : Stmt := inClass (top 2) 0
abbrev s_NoBlock___init__ : Stmt := inClass (top 3) 0
abbrev s_NoPlace___init__ : Stmt := inClass (top 4) 0
abbrev s_OtherBlocks___init__ : Stmt := inClass (top 5) 0
abbrev s_TooMany___init__ : Stmt := inClass (top 6) 0
abbrev s_BadWords___init__ : Stmt := inClass (top 7) 0
abbrev s_is_within : Stmt := top 9
abbrev s_Tree___init__ : Stmt := inClass (top 12) 0
abbrev s_Tree___eq__ : Stmt := inClass (top 12) 1
abbrev s__comes_to_head : Stmt := top 13
abbrev s_Words___init__ : Stmt := inClass (top 15) 0
abbrev s_Words___eq__ : Stmt := inClass (top 15) 1
abbrev s__is_tuple_of : Stmt := top 16
abbrev s__is_up : Stmt := top 17
abbrev s__is_listing : Stmt := top 18
abbrev s_costs : Stmt := top 19
abbrev s_cost : Stmt := top 20
abbrev s_wrong_words : Stmt := top 21
abbrev s_many_by_wrong : Stmt := top 24
abbrev s__matrix : Stmt := top 25
abbrev s__power : Stmt := top 26
abbrev s__determinant : Stmt := top 27
abbrev s__polynomial : Stmt := top 28
abbrev s__law_hand : Stmt := top 30
abbrev s__law_draw : Stmt := top 31
abbrev s__law_is : Stmt := top 32
abbrev s__law_deep : Stmt := top 33
abbrev s__law_tree : Stmt := top 34
abbrev s__law_right : Stmt := top 35
abbrev s__law_put : Stmt := top 36
abbrev s__law_worn : Stmt := top 37
abbrev s__law_any : Stmt := top 38
abbrev s__law_drawn : Stmt := top 39
abbrev s__law_is_whole : Stmt := top 40
abbrev s__law_word : Stmt := top 41
abbrev s__law_odd : Stmt := top 42
abbrev s_law : Stmt := top 43
structure Ad where
  a_VoteError : Addr
  a_BadTree : Addr
  a_NoBlock : Addr
  a_NoPlace : Addr
  a_OtherBlocks : Addr
  a_TooMany : Addr
  a_BadWords : Addr
  a_Tree : Addr
  a_Words : Addr
  t_MOST_BLOCKS : PySem.Tok
  t_MOST_BLOCKS_COUNTED : PySem.Tok
structure Bl (Z : Ad) (mg : Str → Option Value) : Prop where
  b_ValueError : mg "ValueError" = none
  b_abs : mg "abs" = none
  b_all : mg "all" = none
  b_bool : mg "bool" = none
  b_enumerate : mg "enumerate" = none
  b_int : mg "int" = none
  b_isinstance : mg "isinstance" = none
  b_len : mg "len" = none
  b_list : mg "list" = none
  b_max : mg "max" = none
  b_min : mg "min" = none
  b_range : mg "range" = none
  b_str : mg "str" = none
  b_sum : mg "sum" = none
  b_super : mg "super" = none
  b_tuple : mg "tuple" = none
  b_zip : mg "zip" = none
  k_VoteError : mg "VoteError" = some (.ref Z.a_VoteError)
  k_BadTree : mg "BadTree" = some (.ref Z.a_BadTree)
  k_NoBlock : mg "NoBlock" = some (.ref Z.a_NoBlock)
  k_NoPlace : mg "NoPlace" = some (.ref Z.a_NoPlace)
  k_OtherBlocks : mg "OtherBlocks" = some (.ref Z.a_OtherBlocks)
  k_TooMany : mg "TooMany" = some (.ref Z.a_TooMany)
  k_BadWords : mg "BadWords" = some (.ref Z.a_BadWords)
  k_Tree : mg "Tree" = some (.ref Z.a_Tree)
  k_Words : mg "Words" = some (.ref Z.a_Words)
  c_MOST_BLOCKS : mg "MOST_BLOCKS" = some (.int 40 Z.t_MOST_BLOCKS)
  c_MOST_BLOCKS_COUNTED : mg "MOST_BLOCKS_COUNTED" = some (.int 10 Z.t_MOST_BLOCKS_COUNTED)
end Fv
set_option maxRecDepth 100000
set_option maxHeartbeats 1000000
namespace Fv
open PySem PySem.Spec L2
local macro_rules | `(tactic| walk_at "ne") => `(tactic| first
  | assumption
  | (apply Ne.symm; assumption)
  | exact ne_of_none (by assumption) (by assumption)
  | (apply Ne.symm; exact ne_of_none (by assumption) (by assumption))
  | exact ne_none' (by assumption) (by walk_at "hu")
  | (apply Ne.symm; exact ne_none' (by assumption) (by walk_at "hu")))
local macro_rules | `(tactic| walk_at "hu") => `(tactic| first
  | with_reducible assumption
  | with_reducible exact upd_same
  | ((with_reducible show upd _ _ _ _ = some _); first | with_reducible exact upd_same | (with_reducible exact keepN (by walk_at "hu") (by assumption)) | (with_reducible exact keepM (by walk_at "ne") (by walk_at "hu"))))
local macro_rules | `(tactic| walk_at "hl") => `(tactic| first
  | with_reducible assumption
  | with_reducible exact SqL.of (by assumption)
  | ((with_reducible show SqL _ (upd _ _ _) _ _); first
    | with_reducible exact SqL.of upd_same
    | with_reducible exact keepLN (by walk_at "hl") (by assumption)
    | with_reducible exact keepLM (by walk_at "ne") (by walk_at "hl"))
  | with_reducible exact Same.seq (by assumption) (by walk_at "hl")
  | with_reducible exact But.seq (by assumption) (by walk_at "ne") (by walk_at "hl"))
local macro_rules | `(tactic| walk_at "ht") => `(tactic| first
  | with_reducible assumption
  | with_reducible exact SqT.of (by assumption)
  | ((with_reducible show SqT _ (upd _ _ _) _ _); first
    | with_reducible exact SqT.of upd_same
    | with_reducible exact keepTN (by walk_at "ht") (by assumption)
    | with_reducible exact keepTM (by walk_at "ne") (by walk_at "ht"))
  | with_reducible exact Same.seqT (by assumption) (by walk_at "ht")
  | with_reducible exact But.seqT (by assumption) (by walk_at "ne") (by walk_at "ht"))
local macro_rules | `(tactic| walk_at "sm") => `(tactic| first
  | with_reducible assumption
  | with_reducible exact Same.refl _
  | ((with_reducible show Same _ (upd _ _ _)); first
    | with_reducible exact same_new (by walk_at "sm") (by assumption)
    | with_reducible exact same_mut (by walk_at "sm") (by assumption))
  | ((with_reducible refine same_trans (by assumption) ?_); walk_at "sm"))
local macro_rules | `(tactic| walk_at "bt") => `(tactic| first
  | with_reducible assumption
  | with_reducible exact But.refl _ _
  | with_reducible exact But.of (by assumption)
  | ((with_reducible show But _ _ (upd _ _ _)); first
    | ((with_reducible refine But.mut ?_); walk_at "bt")
    | with_reducible exact But.new (by walk_at "bt") (by assumption)
    | with_reducible exact But.mutF (by walk_at "bt") (by assumption))
  | ((with_reducible refine but_trans (by assumption) ?_); walk_at "bt")
  | ((with_reducible refine but_trans (But.of (by assumption)) ?_); walk_at "bt"))
local macro_rules | `(tactic| walk_at "kn") => `(tactic| first
  | with_reducible assumption
  | exact True.intro
  | with_reducible exact Kn.same (by assumption) (by walk_at "kn")
  | with_reducible exact Kn.same (same_new (Same.refl _) (by assumption)) (by walk_at "kn"))
local macro_rules | `(tactic| walk_at "h1") => `(tactic| first
  | with_reducible refine x_seq ?_
  | with_reducible refine x_next ?_
  | with_reducible refine x_drop ?_
  | with_reducible refine x_ret ?_
  | with_reducible refine x_retN ?_
  | with_reducible refine x_ifs ?_
  | with_reducible refine x_asg ?_
  | with_reducible refine x_gname ?_
  | with_reducible refine x_gsub ?_
  | ((with_reducible show tVar _ _ _ _); with_reducible refine x_var (by with_unfolding_all rfl) ?_)
  | with_reducible refine x_c ?_
  | with_reducible refine x_op ?_
  | with_reducible refine x_un ?_
  | with_reducible refine x_i0 ?_
  | ((with_reducible show rI _ _ (V.int _) (V.int _) _ _); with_reducible refine x_i (by with_unfolding_all (first | assumption | decide | (show (0 : Int) < _; first | assumption | decide | omega) | exact ⟨by first | assumption | decide | omega, by first | assumption | decide | omega⟩ | exact Or.inl ⟨by first | decide | omega, by first | decide | omega⟩ | exact Or.inr ⟨by first | decide | omega, by first | decide | omega⟩)) ?_)
  | with_reducible refine x_u ?_
  | with_reducible refine x_isN0 ?_
  | with_reducible refine x_isN1 ?_
  | with_reducible refine x_isN2 ?_
  | with_reducible refine x_isN3 ?_
  | with_reducible refine x_isN4 ?_
  | with_reducible refine x_notN0 ?_
  | with_reducible refine x_notN1 ?_
  | with_reducible refine x_notN2 ?_
  | with_reducible refine x_notN3 ?_
  | with_reducible refine x_notN4 ?_
  | with_reducible refine x_eqB ?_
  | with_reducible refine x_neB ?_
  | with_reducible refine x_eqS ?_
  | with_reducible refine x_eqI ?_
  | with_reducible refine x_neI ?_
  | ((with_reducible show rEq _ _ _ _); with_reducible refine x_eq (by with_unfolding_all rfl) ?_)
  | ((with_reducible show rNe _ _ _ _); with_reducible refine x_ne (by with_unfolding_all rfl) ?_)
  | ((with_reducible show rIxL _ (V.ref _) (V.int _) _ _); with_reducible refine x_ixL (by walk_at "hl") (by first | assumption | with_unfolding_all exact atI_nat (j := 0) rfl | with_unfolding_all exact atI_nat (j := 1) rfl | with_unfolding_all rfl) ?_)
  | ((with_reducible show rIxT _ (V.ref _) (V.int _) _ _); with_reducible refine x_ixT (by walk_at "ht") (by first | assumption | with_unfolding_all exact atI_nat (j := 0) rfl | with_unfolding_all exact atI_nat (j := 1) rfl | with_unfolding_all rfl) ?_)
  | ((with_reducible show rIx _ (V.ref _) (V.int _) _ _); first
    | with_reducible refine x_ixSL (by walk_at "hl") (by first | assumption | with_unfolding_all exact atI_nat (j := 0) rfl | with_unfolding_all exact atI_nat (j := 1) rfl | with_unfolding_all rfl) ?_
    | with_reducible refine x_ixST (by walk_at "ht") (by first | assumption | with_unfolding_all exact atI_nat (j := 0) rfl | with_unfolding_all exact atI_nat (j := 1) rfl | with_unfolding_all rfl) ?_)
  | ((with_reducible show rSetL (V.ref _) (V.int _) _ _ _); with_reducible refine x_setL (by walk_at "hu") (by first | assumption | with_unfolding_all rfl) ?_)
  | with_reducible refine x_test ?_
  | with_reducible refine x_b ?_
  | with_reducible refine x_isb ?_
  | ((with_reducible show if decide _ = true then _ else _); with_reducible refine x_isdT (by first | with_unfolding_all rfl | with_unfolding_all decide) ?_)
  | ((with_reducible show if decide _ = true then _ else _); with_reducible refine x_isdF (by with_unfolding_all decide) ?_)
  | with_reducible refine x_isi ?_
  | with_reducible refine x_and ?_
  | with_reducible refine x_or ?_
  | with_reducible refine x_not ?_
  | with_reducible refine x_andV ?_
  | with_reducible refine x_orV ?_
  | with_reducible refine x_notV ?_
  | with_reducible refine x_ifx ?_
  | with_reducible refine x_nil ?_
  | with_reducible refine x_cons ?_
  | with_reducible refine x_cb ?_
  | with_reducible refine x_call ?_
  | with_reducible refine x_lst ?_
  | with_reducible refine x_tup ?_
  | with_reducible refine x_sl ?_
  | with_reducible refine x_nopart ?_
  | with_reducible refine x_part ?_
  | ((with_reducible show rSlL _ (V.ref _) _ _ _ _); with_reducible refine x_slL (by walk_at "hl") ?_)
  | with_reducible refine x_listRg1 ?_
  | with_reducible refine x_listRg2 ?_
  | with_reducible refine x_tupRg1 ?_
  | with_reducible refine x_ij ?_
  | ((with_reducible show tyV _ "list" (V.ref _) _ ∧ _); with_reducible refine x_tyL (by walk_at "hl") ?_)
  | with_reducible refine x_bm ?_
  | with_reducible refine x_bm0 ?_
  | with_reducible refine x_fldQ ?_
  | with_reducible refine x_par ?_
  | with_reducible refine x_par2 ?_
  | with_reducible refine x_chain ?_
  | ((with_reducible show tAug _ _ _ _ _ _); with_reducible refine x_aug (by with_unfolding_all rfl) ?_)
  | with_reducible refine x_ipI ?_
  | with_reducible refine x_for ?_
  | with_reducible refine x_while ?_
  | with_reducible refine x_ent ?_
  | with_reducible refine x_enl ?_
  | with_reducible refine x_isBk ?_
  | with_reducible refine x_notBk ?_
  | with_reducible refine x_mko ?_
  | with_reducible refine x_sfld ?_
  | with_reducible refine x_ost ?_
  | ((with_reducible show gTup _ _ _ (V.ref _) _ _ _); with_reducible refine x_gtup (by walk_at "ht") (by with_unfolding_all rfl) ?_)
  | with_reducible refine x_gcons ?_
  | with_reducible refine x_gnil ?_
  | with_reducible refine x_lc ?_
  | with_reducible refine x_lc2 ?_
  | with_reducible refine x_ilist ?_
  | with_reducible refine x_itup ?_
  | with_reducible refine x_rng1 ?_
  | with_reducible refine x_rng2v ?_
  | with_reducible refine x_irngV ?_
  | with_reducible refine x_star ?_
  | with_reducible refine x_rng2 ?_
  | with_reducible refine x_yes ?_
  | ((with_reducible show rLen _ [V.ref _] _ _); with_reducible refine x_lenL (by walk_at "hl") ?_)
  | ((with_reducible show rLen _ [V.ref _] _ _); with_reducible refine x_lenT (by walk_at "ht") ?_)
  | ((with_reducible show rListOf _ [V.ref _] _ _); with_reducible refine x_listL (by walk_at "hl") ?_)
  | ((with_reducible show rListOf _ [V.ref _] _ _); with_reducible refine x_listT (by walk_at "ht") ?_)
  | ((with_reducible show rTupOf _ [V.ref _] _ _); with_reducible refine x_tupL (by walk_at "hl") ?_)
  | ((with_reducible show rTupOf _ [V.ref _] _ _); with_reducible refine x_tupT (by walk_at "ht") ?_)
  | ((with_reducible show List.length _ ≤ sizeLine ∧ _); with_reducible refine And.intro (szLe (by with_unfolding_all (simp only [List.length_cons, List.length_nil]; decide))) ?_)
  | with_reducible refine x_int1 ?_
  | with_reducible refine x_abs ?_
  | with_reducible refine isi_non_int ?_
  | with_reducible refine isi_bl_int ?_
  | with_reducible refine isi_int_int ?_
  | with_reducible refine isi_str_int ?_
  | ((with_reducible show rIsi _ [V.ref _, V.ty "int"] _ _); first | with_reducible refine isi_lst_int (by walk_at "hu") ?_ | with_reducible refine isi_tup_int (by walk_at "hu") ?_ | with_reducible refine isi_dK_int (by walk_at "hu") ?_)
  | with_reducible refine isi_non_bool ?_
  | with_reducible refine isi_bl_bool ?_
  | with_reducible refine isi_int_bool ?_
  | with_reducible refine isi_str_bool ?_
  | ((with_reducible show rIsi _ [V.ref _, V.ty "bool"] _ _); first | with_reducible refine isi_lst_bool (by walk_at "hu") ?_ | with_reducible refine isi_tup_bool (by walk_at "hu") ?_ | with_reducible refine isi_dK_bool (by walk_at "hu") ?_)
  | with_reducible refine isi_non_tuple ?_
  | with_reducible refine isi_bl_tuple ?_
  | with_reducible refine isi_int_tuple ?_
  | with_reducible refine isi_str_tuple ?_
  | ((with_reducible show rIsi _ [V.ref _, V.ty "tuple"] _ _); first | with_reducible refine isi_lst_tuple (by walk_at "hu") ?_ | with_reducible refine isi_tup_tuple (by walk_at "hu") ?_ | with_reducible refine isi_dK_tuple (by walk_at "hu") ?_)
  | with_reducible refine isi_non_list ?_
  | with_reducible refine isi_bl_list ?_
  | with_reducible refine isi_int_list ?_
  | with_reducible refine isi_str_list ?_
  | ((with_reducible show rIsi _ [V.ref _, V.ty "list"] _ _); first | with_reducible refine isi_lst_list (by walk_at "hu") ?_ | with_reducible refine isi_tup_list (by walk_at "hu") ?_ | with_reducible refine isi_dK_list (by walk_at "hu") ?_)
  | with_reducible refine isi_non_dict ?_
  | with_reducible refine isi_bl_dict ?_
  | with_reducible refine isi_int_dict ?_
  | with_reducible refine isi_str_dict ?_
  | ((with_reducible show rIsi _ [V.ref _, V.ty "dict"] _ _); first | with_reducible refine isi_lst_dict (by walk_at "hu") ?_ | with_reducible refine isi_tup_dict (by walk_at "hu") ?_ | with_reducible refine isi_dK_dict (by walk_at "hu") ?_)
  | with_reducible refine isi_non_str ?_
  | with_reducible refine isi_bl_str ?_
  | with_reducible refine isi_int_str ?_
  | with_reducible refine isi_str_str ?_
  | ((with_reducible show rIsi _ [V.ref _, V.ty "str"] _ _); first | with_reducible refine isi_lst_str (by walk_at "hu") ?_ | with_reducible refine isi_tup_str (by walk_at "hu") ?_ | with_reducible refine isi_dK_str (by walk_at "hu") ?_)
  | ((with_reducible show rIsi _ [_, V.ty "int"] _ _); with_reducible refine x_isInt (by walk_at "kn") ?_)
  | ((with_reducible show rIsi _ [_, V.ty "bool"] _ _); with_reducible refine x_isBl (by walk_at "kn") ?_)
  | with_reducible refine x_nF ?_
  | with_reducible refine x_nT ?_
  | with_reducible refine iteT ?_
  | with_reducible refine iteF ?_)
local macro_rules | `(tactic| walk_at "hs") => `(tactic| repeat (walk_at "h1"; try dsimp only [Bool.not_true, Bool.not_false]))
local macro_rules | `(tactic| walk_at "h0") => `(tactic| ((try dsimp only [cxOf, L2.start, List.map_cons, List.map_nil, List.length_cons, List.length_nil, List.replicate, List.cons_append, List.nil_append, Nat.reduceAdd, Nat.reduceSub]); walk_at "hs"))

theorem sc__law_draw : FnScope ["_law_hand_here", "_law_many", "_law_cell", "_law_digit", "_law_number"] ["_law_hand_here", "_law_many"] (defScope s__law_draw) := ⟨rfl, rfl, rfl, by decide +kernel, rfl, by decide +kernel, by decide +kernel⟩
/-- the hand at p: its list, where it is read, what is left of a great number, the mix, how often it was turned; F: what others own, and it does not -/
def PoolAt (H : Hp) (p : Addr) (F : Addr → Prop) : Prop := (∃ (g : Addr) (gs : List Int) (i c m n : Int), H p = some (.lst [.ref g, .int i, .int c, .int m, .int n]) ∧ H g = some (.lst (gs.map V.int)) ∧ 0 ≤ i ∧ g ≠ p ∧ ¬ F g ∧ ¬ F p) ∧ ∀ a, F a → ∃ o, H a = some o
def spDraw : Sp := fun vs H Q _ => ∃ (p : Addr) (m : Int) (F : Addr → Prop), vs = [.ref p, .int m] ∧ PoolAt H p F ∧ 0 < m ∧ m < 1073741824 ∧ ∀ (d : Int) H', 0 ≤ d → d < m → But p H H' → PoolAt H' p F → Q (.int d) H'
theorem prot {H H' : Hp} {p : Addr} {F : Addr → Prop} (b : But p H H') (h : ∀ a, F a → ∃ o, H a = some o) (n : ¬ F p) : ∀ a, F a → ∃ o, H' a = some o := fun a ha => by
  obtain ⟨o, e⟩ := h a ha
  exact ⟨o, b a o (fun z => n (z ▸ ha)) e⟩
section
variable {P : Program} {w : World} {K : PySem.W.Frag} {mg : Str → Option Value} {base : Heap} {Z : Ad}
theorem ok_draw {f : Addr} {fd : FuncData} (F : Fun K "_law_draw" "_law_draw" s__law_draw f fd) (B : Bl Z mg) : FnOk P w K mg base CX0 1 f fd ["_law_hand_here", "_law_many"] spDraw := by
  refine F.ok sc__law_draw (fun vs H Q E h => ?_) (fun cdv A outer s H vs Q E hr h => ?_)
  · obtain ⟨p, m, F, rfl, _⟩ := h
    rfl
  · obtain ⟨p, m, Fo, rfl, ⟨⟨g, gs, i, c, x, n, hp, hg, i0, ng, fg, fp⟩, hF⟩, m0, m1, q⟩ := h
    refine ⟨_, (C8.pss_cut (ps_if (PW.pt (pw_and (pt_cmpR op_eq (pe_ix (ix_listK (K := K) rfl) (pv 0) pe_int (fun _ _ => rfl)) pe_int (nomark _)) (pw_and1 (pt_cmpR op_lt (pe_ix (ix_listK (K := K) rfl) (pv 0) pe_int (fun _ _ => rfl)) (pe_callB (call_lenK (K := K) rfl) (by rfl) B.b_len PySem.boot_len (pa_cons (pe_ix (ix_listK (K := K) rfl) (pv 0) pe_int (fun _ _ => rfl)) pa_nil)) (nomark _))))) (pss_cons (ps_set (i := 2) sc__law_draw.nd rfl (Or.inl rfl) (pe_ix (ix_listK (K := K) rfl) (pe_ix (ix_listK (K := K) rfl) (pv 0) pe_int (fun _ _ => rfl)) (pe_ix (ix_listK (K := K) rfl) (pv 0) pe_int (fun _ _ => rfl)) (fun _ _ => rfl)))
 (pss_cons (ps_asg (pe_op op_add (pe_ix (ix_listK (K := K) rfl) (pv 0) pe_int (fun _ _ => rfl)) pe_int) (pg_sub (pv 0) pe_int set_list))
 (pss_cons (ps_asg (pe_op op_mod (pe_callTy call_int (by rfl) B.b_int (by decide +kernel) (pa_cons (pe_op op_add (pe_op op_add (pe_op op_mul (pe_ix (ix_listK (K := K) rfl) (pv 0) pe_int (fun _ _ => rfl)) pe_int) (pv 2)) pe_int) pa_nil)) pe_int) (pg_sub (pv 0) pe_int set_list))
 (pss_one (ps_if (pt_cmpR op_ge (pv 2) (pe_op op_pow pe_int pe_int) (nomark _)) (pss_one (ps_asg (pv 2) (pg_sub (pv 0) pe_int set_list))) pss_nil))))) pss_nil)
 (pss_cons (ps_if (pt_cmpR op_gt (pe_ix (ix_listK (K := K) rfl) (pv 0) pe_int (fun _ _ => rfl)) pe_int (nomark _)) (pss_cons (ps_set (i := 3) sc__law_draw.nd rfl (Or.inl rfl) (pe_op op_mod (pe_callTy call_int (by rfl) B.b_int (by decide +kernel) (pa_cons (pe_ix (ix_listK (K := K) rfl) (pv 0) pe_int (fun _ _ => rfl)) pa_nil)) (pv 1)))
 (pss_cons (ps_asg (pe_op op_fdiv (pe_ix (ix_listK (K := K) rfl) (pv 0) pe_int (fun _ _ => rfl)) (pv 1)) (pg_sub (pv 0) pe_int set_list))
 (pss_one (ps_ret (pv 3))))) pss_nil)
 (pss_cons (ps_asg (pe_op op_add (pe_ix (ix_listK (K := K) rfl) (pv 0) pe_int (fun _ _ => rfl)) pe_int) (pg_sub (pv 0) pe_int set_list))
 (pss_cons (ps_set (i := 4) sc__law_draw.nd rfl (Or.inl rfl) (pe_op op_mod (pe_callTy call_int (by rfl) B.b_int (by decide +kernel) (pa_cons (pe_op op_mul (pe_callTy call_int (by rfl) B.b_int (by decide +kernel) (pa_cons (pe_op op_add (pe_ix (ix_listK (K := K) rfl) (pv 0) pe_int (fun _ _ => rfl)) (pe_op op_mul pe_int (pe_ix (ix_listK (K := K) rfl) (pv 0) pe_int (fun _ _ => rfl)))) pa_nil)) pe_int) pa_nil)) pe_int))
 (pss_cons (ps_set (i := 4) sc__law_draw.nd rfl (Or.inl rfl) (pe_op op_mod (pe_callTy call_int (by rfl) B.b_int (by decide +kernel) (pa_cons (pe_op op_mul (pv 4) (pe_op op_add (pe_op op_fdiv (pv 4) pe_int) pe_int)) pa_nil)) pe_int))
 (pss_cons (ps_set (i := 4) sc__law_draw.nd rfl (Or.inl rfl) (pe_op op_mod (pe_callTy call_int (by rfl) B.b_int (by decide +kernel) (pa_cons (pe_op op_mul (pv 4) (pe_op op_add (pe_op op_fdiv (pv 4) pe_int) pe_int)) pa_nil)) pe_int))
 (pss_one (ps_ret (pe_op op_mod (pe_callTy call_int (by rfl) B.b_int (by decide +kernel) (pa_cons (pe_op op_fdiv (pv 4) pe_int) pa_nil)) (pv 1)))))))))), ?_⟩
    walk_at "h0"
    refine ⟨fun σ' H' => (∃ z, σ' = [some (.ref p), some (.int m), z, none, none]) ∧ But p H H' ∧ PoolAt H' p Fo, ?_, ?_⟩
    · walk_at "hs"
      refine x_isd (fun c1 => ?_) (fun c1 => ?_)
      · walk_at "hs"
        refine x_isd (fun c2 => ?_) (fun c2 => ?_)
        · obtain ⟨k, rfl⟩ := Int.eq_ofNat_of_zero_le i0
          have hk : k < gs.length := by
            rw [List.length_map] at c2
            omega
          have ag : atI (gs.map V.int) (k : Int) = some (.int gs[k]) := atI_nat (by rw [List.getElem?_map, List.getElem?_eq_getElem hk]; rfl)
          walk_at "hs"
          refine x_isd (fun c3 => ?_) (fun c3 => ?_)
          · walk_at "hs"
            exact ⟨⟨_, rfl⟩, by walk_at "bt", ⟨g, gs, _, _, _, n, upd_same, by walk_at "hu", by omega, ng, fg, fp⟩, prot (by walk_at "bt") hF fp⟩
          · walk_at "hs"
            exact ⟨⟨_, rfl⟩, by walk_at "bt", ⟨g, gs, _, _, _, n, upd_same, by walk_at "hu", by omega, ng, fg, fp⟩, prot (by walk_at "bt") hF fp⟩
        · walk_at "hs"
          exact ⟨⟨_, rfl⟩, But.refl _ _, ⟨g, gs, i, c, x, n, hp, hg, i0, ng, fg, fp⟩, hF⟩
      · walk_at "hs"
        exact ⟨⟨_, rfl⟩, But.refl _ _, ⟨g, gs, i, c, x, n, hp, hg, i0, ng, fg, fp⟩, hF⟩
    · rintro σ' H1 ⟨⟨z, rfl⟩, b1, ⟨g, gs, i, c, x, n, hp, hg, i0, ng, fg, fp⟩, hF⟩
      walk_at "hs"
      refine x_isd (fun c1 => ?_) (fun c1 => ?_)
      · walk_at "hs"
        exact q _ _ (Int.emod_nonneg _ (by omega)) (Int.emod_lt_of_pos _ m0) (by walk_at "bt") ⟨⟨g, gs, _, _, _, n, upd_same, by walk_at "hu", i0, ng, fg, fp⟩, prot (But.mut (But.refl _ _)) hF fp⟩
      · walk_at "hs"
        exact q _ _ (Int.emod_nonneg _ (by omega)) (Int.emod_lt_of_pos _ m0) (by walk_at "bt") ⟨⟨g, gs, _, _, _, _, upd_same, by walk_at "hu", i0, ng, fg, fp⟩, prot (But.mut (But.refl _ _)) hF fp⟩
end
set_option maxRecDepth 100000
set_option maxHeartbeats 1000000
open PySem PySem.Spec L2


theorem sc__law_hand : FnScope ["_law_script", "_law_cells", "_law_cell"] ["_law_script"] (defScope s__law_hand) := ⟨rfl, rfl, rfl, by decide +kernel, rfl, by decide +kernel, by decide +kernel⟩
section
variable {P : Program} {w : World} {K : PySem.W.Frag} {mg : Str → Option Value} {base : Heap} {Z : Ad}

theorem PoolAt.same {H H' : Hp} {p : Addr} {F : Addr → Prop} (s : Same H H') (h : PoolAt H p F) : PoolAt H' p F := by
  obtain ⟨⟨g, gs, i, c, x, n, hp, hg, r⟩, hF⟩ := h
  exact ⟨⟨g, gs, i, c, x, n, s _ _ hp, s _ _ hg, r⟩, fun a ha => by
    obtain ⟨o, e⟩ := hF a ha
    exact ⟨o, s _ _ e⟩⟩
theorem PoolAt.ne {H : Hp} {p q : Addr} {F : Addr → Prop} (h : PoolAt H p F) (hq : H q = none) : q ≠ p := by
  obtain ⟨⟨g, gs, i, c, x, n, hp, _⟩, _⟩ := h
  exact ne_none' hq hp
theorem PoolAt.neF {H : Hp} {p q : Addr} {F : Addr → Prop} (h : PoolAt H p F) (hq : F q) : q ≠ p := by
  obtain ⟨⟨g, gs, i, c, x, n, hp, hg, i0, ng, fg, fp⟩, _⟩ := h
  exact fun e => fp (e ▸ hq)
theorem PoolAt.newH {H : Hp} {p q : Addr} {o : HO} {F : Addr → Prop} (h : PoolAt H p F) (hq : H q = none) : PoolAt (upd H q o) p F := h.same (same_new (Same.refl H) hq)
/-- a new object, owned by another -/
theorem PoolAt.own {H : Hp} {p q : Addr} {o : HO} {F : Addr → Prop} (h : PoolAt H p F) (hq : H q = none) : PoolAt (upd H q o) p (fun a => a = q ∨ F a) := by
  obtain ⟨⟨g, gs, i, c, x, n, hp, hg, i0, ng, fg, fp⟩, hF⟩ := h
  refine ⟨⟨g, gs, i, c, x, n, keepN hp hq, keepN hg hq, i0, ng, fun e => ?_, fun e => ?_⟩, fun a ha => ?_⟩
  · exact e.elim (ne_of_none hg hq) fg
  · exact e.elim (ne_of_none hp hq) fp
  · rcases ha with rfl | ha
    · exact ⟨o, upd_same⟩
    · obtain ⟨u, e⟩ := hF a ha
      exact ⟨u, keepN e hq⟩
theorem PoolAt.mut {H : Hp} {p q : Addr} {o : HO} {F : Addr → Prop} (h : PoolAt H p F) (hq : F q) : PoolAt (upd H q o) p F := by
  obtain ⟨⟨g, gs, i, c, x, n, hp, hg, i0, ng, fg, fp⟩, hF⟩ := h
  refine ⟨⟨g, gs, i, c, x, n, keepM (fun e => fp (e ▸ hq)) hp, keepM (fun e => fg (e ▸ hq)) hg, i0, ng, fg, fp⟩, fun a ha => ?_⟩
  by_cases e : a = q
  · exact ⟨o, by rw [e, upd_same]⟩
  · obtain ⟨u, hu⟩ := hF a ha
    exact ⟨u, keepM e hu⟩
theorem PoolAt.weak {H : Hp} {p : Addr} {F G : Addr → Prop} (h : PoolAt H p F) (w : ∀ a, G a → F a) : PoolAt H p G := by
  obtain ⟨⟨g, gs, i, c, x, n, hp, hg, i0, ng, fg, fp⟩, hF⟩ := h
  exact ⟨⟨g, gs, i, c, x, n, hp, hg, i0, ng, fun e => fg (w _ e), fun e => fp (w _ e)⟩, fun a ha => hF a (w a ha)⟩
def spPool (K : PySem.W.Frag) : Sp := fun vs H Q _ => ∃ (a : Addr) (ns : List Int), vs = [.ref a] ∧ SqL K H a (ns.map V.int) ∧ ns.length ≤ 63 ∧ ∀ p H', Same H H' → H p = none → PoolAt H' p (fun _ => False) → Q (.ref p) H'
theorem ok_hand {f : Addr} {fd : FuncData} (F : Fun K "_law_hand" "_law_hand" s__law_hand f fd) (B : Bl Z mg) : FnOk P w K mg base CX0 1 f fd ["_law_script"] (spPool K) := by
  refine F.ok sc__law_hand (fun vs H Q E h => ?_) (fun cdv A outer s H vs Q E hr h => ?_)
  · obtain ⟨a, ns, rfl, _⟩ := h
    rfl
  · obtain ⟨a, ns, rfl, hS, hl, q⟩ := h
    refine ⟨_, (pss_cons (ps_setLc (i := 1) (own := [("_law_cell", 2)]) rfl sc__law_hand.nd rfl rfl (sw_true rfl rfl rfl (by decide +kernel)) (pi_list (pe_slice (sl_listK (K := K) rfl) (pv 0) po_none (po_some pe_int))) (blkOk_by (N := ["_law_script", "_law_cells", "_law_cell"]) (sc := defScope s__law_hand) (by decide +kernel)) (fun _ _ _ _ _ => (pg_name (i := 2) sc__law_hand.nd rfl (Or.inl rfl))) (fun _ _ _ _ _ => pts_nil) (fun _ _ _ _ _ => (pe_callB call_ab (by rfl) B.b_abs (by decide +kernel) (pa_cons (pe_callTy call_int (by rfl) B.b_int (by decide +kernel) (pa_cons (pv 2) pa_nil)) pa_nil))))
 (pss_one (ps_ret (pe_lst (pa_cons (pv 1) (pa_cons pe_int (pa_cons pe_int (pa_cons (pe_op op_add pe_int (pe_callB (call_lenK (K := K) rfl) (by rfl) B.b_len PySem.boot_len (pa_cons (pv 1) pa_nil))) (pa_cons pe_int pa_nil))))))))), ?_⟩
    walk_at "h0"
    intro c hc
    refine ⟨c, rfl, ⟨_, SqL.of upd_same⟩, fun D hD => ?_⟩
    have hcD : D ≠ c := by walk_at "ne"
    have nD : H D = none := Same.free (H' := upd H c _) (same_new (Same.refl _) hc) hD
    have hsz : (cutV (ns.map V.int) none (some 63)).length ≤ 63 := Nat.le_trans (cutV_length _ _ _) (by rw [List.length_map]; exact hl)
    have hints : ∀ x ∈ cutV (ns.map V.int) none (some 63), ∃ n : Int, x = .int n := fun x hx => by
      obtain ⟨n, _, rfl⟩ := List.mem_map.mp (List.mem_of_mem_drop (List.mem_of_mem_take hx))
      exact ⟨n, rfl⟩
    refine lc_list (K := K) (a := c) (xs := cutV (ns.map V.int) none (some 63)) (fun i H' => ∃ g : List Int, g.length ≤ i ∧ Same H H' ∧ H' c = some (.lst (cutV (ns.map V.int) none (some 63))) ∧ H' D = some (.lst (g.map V.int)))
      ⟨[], Nat.le_refl _, by walk_at "sm", by walk_at "hu", upd_same⟩ (fun i H' _ ⟨_, _, _, e, _⟩ => SqL.of e) ?_ ?_
    · rintro i x H' hx ⟨g, hg, s', ec, eD⟩
      obtain ⟨n, rfl⟩ := hints x (List.mem_of_getElem? hx)
      walk_at "hs"
      refine ⟨rfl, ?_⟩
      walk_at "hs"
      refine ⟨_, eD, szLt (by rw [List.length_map]; have := (List.getElem?_eq_some_iff.mp hx).1; omega), g ++ [if n < 0 then -n else n], by rw [List.length_append]; exact Nat.add_le_add_right hg 1, by walk_at "sm", by walk_at "hu", ?_⟩
      rw [upd_same, List.map_append]
      rfl
    · rintro H1 ⟨g, hg, s1, ec, eD⟩
      walk_at "hs"
      intro p hp
      exact q p _ (by walk_at "sm") (s1.free hp) ⟨⟨D, g, _, _, _, _, upd_same, by walk_at "hu", by decide, by walk_at "ne", fun e => e, fun e => e⟩, fun a e => e.elim⟩
def spAny (K : PySem.W.Frag) : Sp := fun vs H Q _ => ∃ (p t : Addr) (xs : List V) (F : Addr → Prop), vs = [.ref p, .ref t] ∧ PoolAt H p F ∧ SqL K H t xs ∧ t ≠ p ∧ 0 < xs.length ∧ xs.length ≤ 1000 ∧ ∀ x H', x ∈ xs → But p H H' → PoolAt H' p F → Q x H'
abbrev spPick (K : PySem.W.Frag) : Sp := spAny K
end
set_option maxRecDepth 100000
set_option maxHeartbeats 1000000
open PySem PySem.Spec L2


theorem sc_is_within : FnScope ["least", "most", "thing"] ["least", "most", "thing"] (defScope s_is_within) := ⟨rfl, rfl, rfl, by decide +kernel, rfl, by decide +kernel, by decide +kernel⟩
section
variable {P : Program} {w : World} {K : PySem.W.Frag} {mg : Str → Option Value} {base : Heap} {Z : Ad}

def spNum (hi : Nat) : Sp := fun vs H Q _ => ∃ (x : V) (lo hi : Int), vs = [x, .int lo, .int hi] ∧ Kn H x ∧ Q (.bl (numV lo hi x)) H
def spWithin : Sp := fun vs H Q _ => ∃ (x : V) (lo hi : Int), vs = [.int lo, .int hi, x] ∧ Kn H x ∧ Q (.bl (numV lo hi x)) H
theorem ok_within {f : Addr} {fd : FuncData} (F : Fun K "is_within" "is_within" s_is_within f fd) (B : Bl Z mg) : FnOk P w K mg base CX0 1 f fd ["least", "most", "thing"] spWithin := by
  refine F.ok sc_is_within (fun vs H Q E h => ?_) (fun cdv A outer s H vs Q E hr h => ?_)
  · obtain ⟨x, lo, hi, rfl, _⟩ := h
    rfl
  · obtain ⟨x, lo, hi, rfl, hk, q⟩ := h
    refine ⟨_, (pss_cons (ps_if (PW.pt (pw_or (pt_not (pt_val (pe_callB (call_isiK' (K := K) rfl) (by rfl) B.b_isinstance (by decide +kernel) (pa_cons (pv 2) (pa_cons (pe_bltn (v := .ty "int") (by rfl) B.b_int (by decide +kernel) rfl) pa_nil))))) (pw_or1 (pt_val (pe_callB (call_isiK' (K := K) rfl) (by rfl) B.b_isinstance (by decide +kernel) (pa_cons (pv 2) (pa_cons (pe_bltn (v := .ty "bool") (by rfl) B.b_bool (by decide +kernel) rfl) pa_nil))))))) (pss_one (ps_ret pe_bl)) pss_nil)
 (pss_one (ps_ret (pe_chain op_le op_le (pv 0) (pv 2) (pv 1))))), ?_⟩
    walk_at "h0"
    cases x with
    | bl b =>
      walk_at "hs"
      refine iteF ?_
      walk_at "hs"
      exact q
    | int i =>
      refine iteF ?_
      walk_at "hs"
      refine x_isd (fun c => ?_) (fun c => ?_)
      · walk_at "hs"
        have e : numV lo hi (.int i) = decide (i ≤ hi) := numT c
        rw [← e]
        exact q
      · have e : numV lo hi (.int i) = false := numF c
        rw [e] at q
        exact q
    | non => exact iteT (iteT q)
    | str s => exact iteT (iteT q)
    | ref a => exact iteT (iteT q)
    | _ => exact hk.elim
end
set_option maxRecDepth 100000
set_option maxHeartbeats 1000000
open PySem PySem.Spec L2


theorem sc__law_any : FnScope ["_law_hand_here", "_law_blocks", "_law_ups", "_law_block", "_law_places", "_law_lists", "_law_place", "_law_row"] ["_law_hand_here", "_law_blocks"] (defScope s__law_any) := ⟨rfl, rfl, rfl, by decide +kernel, rfl, by decide +kernel, by decide +kernel⟩
section
variable {P : Program} {w : World} {K : PySem.W.Frag} {mg : Str → Option Value} {base : Heap} {Z : Ad}
def spMixed (K : PySem.W.Frag) : Sp := fun vs H Q _ => ∃ (p t : Addr) (n : Nat) (F : Addr → Prop), vs = [.ref p, .ref t] ∧ PoolAt H p F ∧ SqL K H t (nats (List.range' 1 n)) ∧ t ≠ p ∧ 1 ≤ n ∧ n ≤ 40 ∧ ∀ (D : Addr) (ms : List Nat) H', ms.Perm (List.range' 1 n) → But p H H' → PoolAt H' p F → H D = none → H' D = some (.lst (nats ms)) → Q (.ref D) H'
def spHung : Sp := fun vs H Q _ => ∃ (p : Addr) (n : Nat) (F : Addr → Prop), vs = [.ref p, .int n] ∧ PoolAt H p F ∧ 1 ≤ n ∧ n ≤ 40 ∧ ∀ (D : Addr) (hs : List Nat) H', IsTree hs → hs.length = n → But p H H' → PoolAt H' p F → H D = none → H' D = some (.tup (nats hs)) → Q (.ref D) H'
end
set_option maxRecDepth 100000
set_option maxHeartbeats 1000000
open PySem PySem.Spec L2


theorem sc__comes_to_head : FnScope ["hung", "block", "place", "steps"] ["hung", "block"] (defScope s__comes_to_head) := ⟨rfl, rfl, rfl, by decide +kernel, rfl, by decide +kernel, by decide +kernel⟩
section
variable {P : Program} {w : World} {K : PySem.W.Frag} {mg : Str → Option Value} {base : Heap} {Z : Ad}

def spComes (K : PySem.W.Frag) : Sp := fun vs H Q _ => ∃ (t : Addr) (hs : List Nat) (k : Nat), vs = [.ref t, .int k] ∧ SqT K H t (nats hs) ∧ (∀ x ∈ hs, x ≤ hs.length) ∧ k ≤ hs.length ∧ Q (.bl (decide (upN hs hs.length k = 0))) H
theorem ok_comes {f : Addr} {fd : FuncData} (F : Fun K "_comes_to_head" "_comes_to_head" s__comes_to_head f fd) (B : Bl Z mg) : FnOk P w K mg base CX0 1 f fd ["hung", "block"] (spComes K) := by
  refine F.ok sc__comes_to_head (fun vs H Q E h => ?_) (fun cdv A outer s H vs Q E hr h => ?_)
  · obtain ⟨t, hs, k, rfl, _⟩ := h
    rfl
  · obtain ⟨t, hs, k, rfl, ht, hle, hk, q⟩ := h
    refine ⟨_, (pss_cons (ps_set (i := 2) sc__comes_to_head.nd rfl (Or.inl rfl) (pv 1))
 (pss_cons (ps_set (i := 3) sc__comes_to_head.nd rfl (Or.inl rfl) pe_int)
 (pss_cons (ps_while PassesOwn.never (PW.pt (pw_and (pt_cmpR op_ne (pv 2) pe_int (nomark _)) (pw_and1 (pt_cmpR op_lt (pv 3) (pe_callB (call_lenK (K := K) rfl) (by rfl) B.b_len PySem.boot_len (pa_cons (pv 0) pa_nil)) (nomark _))))) (pss_cons (ps_set (i := 2) sc__comes_to_head.nd rfl (Or.inl rfl) (pe_ix (ix_tupK (K := K) rfl) (pv 0) (pe_op op_sub (pv 2) pe_int) (fun _ _ => rfl)))
 (pss_one (ps_aug (i := 3) sc__comes_to_head.nd rfl (Or.inl rfl) pe_int ip_add))))
 (pss_one (ps_ret (pe_cmpR op_eq (pv 2) pe_int (nomark _))))))), ?_⟩
    walk_at "h0"
    refine ⟨fun m σ' H' => ∃ st : Nat, st + m = hs.length ∧ σ' = [some (.ref t), some (.int k), some (.int (upN hs st k : Nat)), some (.int st)] ∧ H' = H, ⟨hs.length, 0, Nat.zero_add _, rfl, rfl⟩, ?_⟩
    rintro m σ' H' ⟨st, hst, rfl, rfl⟩
    walk_at "hs"
    refine x_isd (fun c => ?_) (fun c => ?_)
    · walk_at "hs"
      rw [nats_length]
      refine x_isd (fun c2 => ?_) (fun c2 => ?_)
      · have hup := upN_le hle st k hk
        have hat : atI (nats hs) ((upN hs st k : Nat) - 1 : Int) = some (.int (upN hs (st + 1) k : Nat)) := by
          rw [show ((upN hs st k : Nat) - 1 : Int) = ((upN hs st k - 1 : Nat) : Int) by omega]
          refine nats_at ?_
          rw [upN_succ]
          have h1 : upN hs st k - 1 < hs.length := by omega
          rw [List.getElem?_eq_getElem h1]
          have := up_at (hs := hs) (k := upN hs st k) (by omega) (List.getElem?_eq_getElem h1)
          rw [this]
        walk_at "hs"
        refine ⟨fun σ' H2 => σ' = [some (.ref t), some (.int k), some (.int (upN hs (st + 1) k : Nat)), some (.int ((st + 1 : Nat) : Int))] ∧ H2 = H', fun σ' H2 hN => ⟨m - 1, by omega, st + 1, by omega, hN.1, hN.2⟩, ?_⟩
        walk_at "hs"
        exact ⟨rfl, rfl⟩
      · walk_at "hs"
        have e : st = hs.length := by omega
        rw [← e] at q
        have e2 : decide (((upN hs st k : Nat) : Int) = 0) = decide (upN hs st k = 0) := by
          rw [decide_eq_decide]
          omega
        rw [e2]
        exact q
    · walk_at "hs"
      have h0 : upN hs st k = 0 := by omega
      have h1 := upN_more (j := hs.length) h0 (by omega)
      rw [h1] at q
      rw [h0]
      exact q
/-- what the law tells as due -/
def dueV : Due → V
  | .hung => .str "hung"
  | .block k => .int k
  | .ring _ => .non
  | .ok => .non
/-- a value that tells what is due -/
def TellsDue (H : Hp) (v : V) : Due → Prop
  | .hung => v = .str "hung"
  | .block k => v = .int (k : Nat)
  | .ring k => ∃ a, v = .ref a ∧ H a = some (.tup [.str "ring", .int (k : Nat)])
  | .ok => v = .non
/-- what is due for a value: of a tuple by its items, else hung -/
def DueV (H : Hp) (x : V) (d : Due) : Prop := (∃ a xs, x = .ref a ∧ H a = some (.tup xs) ∧ DueIs xs d ∧ ∀ y ∈ xs, Kn H y) ∨ ((∀ a xs, x = .ref a → H a ≠ some (.tup xs)) ∧ Kn H x ∧ d = .hung)
def spDue : Sp := fun vs H Q _ => ∃ (x : V), vs = [x] ∧ ((∃ a xs, x = .ref a ∧ H a = some (.tup xs) ∧ ∀ y ∈ xs, Kn H y) ∨ ((∀ a xs, x = .ref a → H a ≠ some (.tup xs)) ∧ Kn H x)) ∧ ∀ (d : Due) (v : V) H', Same H H' → DueV H x d → TellsDue H' v d → Q v H'
theorem kn_not {x : V} {H : Hp} {Q : VK} (h : ∀ a xs, x = .ref a → H a ≠ some (.tup xs)) (k : Kn H x) (q : Q (.bl false) H) : rIsi K [x, .ty "tuple"] H Q := by
  cases x with
  | non => exact isi_non_tuple q
  | bl b => exact isi_bl_tuple q
  | int b => exact isi_int_tuple q
  | str b => exact isi_str_tuple q
  | ref a =>
    rcases k with ⟨xs, e⟩ | ⟨xs, e⟩ | ⟨xs, e⟩
    · exact isi_lst_tuple e q
    · exact (h a xs rfl e).elim
    · exact isi_dK_tuple e q
  | _ => exact k.elim
end
set_option maxRecDepth 100000
set_option maxHeartbeats 1000000
open PySem PySem.Spec L2


theorem sc_BadTree___init__ : FnScope ["self", "part"] ["self", "part"] (defScope s_BadTree___init__) := ⟨rfl, rfl, rfl, by decide +kernel, rfl, by decide +kernel, by decide +kernel⟩
theorem sc_Tree___init__ : FnScope ["self", "hung", "block", "place"] ["self", "hung"] (defScope s_Tree___init__) := ⟨rfl, rfl, rfl, by decide +kernel, rfl, by decide +kernel, by decide +kernel⟩
section
variable {P : Program} {w : World} {K : PySem.W.Frag} {mg : Str → Option Value} {base : Heap} {Z : Ad}

theorem ok_bad {f : Addr} {fd : FuncData} (F : Fun K "__init__" "BadTree.__init__" s_BadTree___init__ f fd) (X_BadTree : ExcF K Z.a_BadTree f "part") : FnOk P w K mg base CX0 1 f fd ["self", "part"] (spField Z.a_BadTree "part") := by
  refine F.ok sc_BadTree___init__ (fun vs H Q E h => ?_) (fun cdv A outer s H vs Q E hr h => ?_)
  · obtain ⟨a, v, rfl, _⟩ := h
    rfl
  · obtain ⟨a, v, rfl, ha, q⟩ := h
    refine ⟨_, (pss_one (ps_ost (pv 0) (pv 1))), ?_⟩
    walk_at "h0"
    exact ⟨a, _, rfl, X_BadTree.T, X_BadTree.n, .inl ⟨ha, q⟩⟩
def spTree (Z : Ad) : Sp := fun vs H Q E => ∃ (x dx : Addr) (h : V), vs = [.ref x, h] ∧ H x = some (.ins Z.a_Tree dx []) ∧ ((∃ a xs, h = .ref a ∧ H a = some (.tup xs) ∧ ∀ y ∈ xs, Kn H y) ∨ ((∀ a xs, h = .ref a → H a ≠ some (.tup xs)) ∧ Kn H h)) ∧
  (∀ H', DueV H h .ok → But x H H' → H' x = some (.ins Z.a_Tree dx [("hung", h)]) → Q .non H') ∧ (∀ (d : Due) (e : Addr) (v : V) H', d ≠ .ok → DueV H h d → TellsDue H' v d → Same H H' → H' e = some (.xd [("part", v)]) → E (.ref Z.a_BadTree) (some e) H')
theorem ok_tree {f : Addr} {fd : FuncData} (F : Fun K "__init__" "Tree.__init__" s_Tree___init__ f fd) (B : Bl Z mg) (T : Cls K Z.a_Tree) (N : NoAttr K Z.a_Tree "hung") {f_is_within : Addr} {fd_is_within : FuncData} (C_is_within : Cal K mg "is_within" f_is_within fd_is_within ["least", "most", "thing"]) (G_is_within : FnOk P w K mg base CX0 1 f_is_within fd_is_within ["least", "most", "thing"] spWithin) {f__comes_to_head : Addr} {fd__comes_to_head : FuncData} (C__comes_to_head : Cal K mg "_comes_to_head" f__comes_to_head fd__comes_to_head ["hung", "block"]) (G__comes_to_head : FnOk P w K mg base CX0 1 f__comes_to_head fd__comes_to_head ["hung", "block"] (spComes K))
    {f_BadTree___init__ : Addr} {fd_BadTree___init__ : FuncData} (C_BadTree___init__ : CalM K f_BadTree___init__ fd_BadTree___init__ ["self", "part"]) (G_BadTree___init__ : FnOk P w K mg base CX0 1 f_BadTree___init__ fd_BadTree___init__ ["self", "part"] (spField Z.a_BadTree "part")) (X_BadTree : ExcF K Z.a_BadTree f_BadTree___init__ "part") : FnOk P w K mg base (L2.CX P w) 3 f fd ["self", "hung"] (spTree Z) := by
  refine F.okX sc_Tree___init__ (fun vs H Q E h => ?_) (fun cdv A outer s H vs Q E hr h => ?_)
  · obtain ⟨x, dx, h, rfl, _⟩ := h
    rfl
  · obtain ⟨x, dx, hv, rfl, hx, hk, q, qe⟩ := h
    refine ⟨_, (pss_cons (ps_if (PW.pt (pw_or (pt_not (pt_val (pe_callB (call_isiK' (K := K) rfl) (by rfl) B.b_isinstance (by decide +kernel) (pa_cons (pv 1) (pa_cons (pe_bltn (v := .ty "tuple") (by rfl) B.b_tuple (by decide +kernel) rfl) pa_nil))))) (pw_or1 (pt_not (pt_chain op_le op_le pe_int (pe_callB (call_lenK (K := K) rfl) (by rfl) B.b_len PySem.boot_len (pa_cons (pv 1) pa_nil)) (pe_glob (v := .int (40)) rfl B.c_MOST_BLOCKS ⟨_, rfl⟩)))))) (pss_one (ps_raise rfl (takes_of rfl rfl rfl rfl) (pmk_oex X_BadTree.T X_BadTree.i X_BadTree.t G_BadTree___init__ (hr.mono (by first | decide | omega)) C_BadTree___init__.b .nil pass0 (by rfl) B.k_BadTree (pa_cons pe_str pa_nil)))) pss_nil)
 (pss_cons (ps_for (passes_of rfl) rfl (pi_enumTK (K := K) rfl rfl (by rfl) B.b_enumerate (by decide) (by decide) (pa_cons (pv 1) pa_nil)) (pg_tup rfl (pgs_cons (pg_name (i := 2) sc_Tree___init__.nd rfl (Or.inl rfl)) (pgs_cons (pg_name (i := 3) sc_Tree___init__.nd rfl (Or.inl rfl)) pgs_nil))) (pss_one (ps_if (PW.pt (pw_or (pt_not (pt_val (pe_call G_is_within (hr.mono (by first | decide | omega)) (by rfl) C_is_within.g C_is_within.k C_is_within.b .nil pass0 (pa_cons pe_int (pa_cons (pe_callB (call_lenK (K := K) rfl) (by rfl) B.b_len PySem.boot_len (pa_cons (pv 1) pa_nil)) (pa_cons (pv 3) pa_nil)))))) (pw_or1 (pt_cmpR op_eq (pv 3) (pv 2) (nomark _))))) (pss_one (ps_raise rfl (takes_of rfl rfl rfl rfl) (pmk_oex X_BadTree.T X_BadTree.i X_BadTree.t G_BadTree___init__ (hr.mono (by first | decide | omega)) C_BadTree___init__.b .nil pass0 (by rfl) B.k_BadTree (pa_cons (pv 2) pa_nil)))) pss_nil)))
 (pss_cons (ps_for (passes_of rfl) rfl (pi_range2 rfl B.b_range (pa_cons pe_int (pa_cons (pe_op op_add (pe_callB (call_lenK (K := K) rfl) (by rfl) B.b_len PySem.boot_len (pa_cons (pv 1) pa_nil)) pe_int) pa_nil))) (pg_name (i := 2) sc_Tree___init__.nd rfl (Or.inl rfl)) (pss_one (ps_if (pt_not (pt_val (pe_call G__comes_to_head (hr.mono (by first | decide | omega)) (by rfl) C__comes_to_head.g C__comes_to_head.k C__comes_to_head.b .nil pass0 (pa_cons (pv 1) (pa_cons (pv 2) pa_nil))))) (pss_one (ps_raise rfl (takes_of rfl rfl rfl rfl) (pmk_oex X_BadTree.T X_BadTree.i X_BadTree.t G_BadTree___init__ (hr.mono (by first | decide | omega)) C_BadTree___init__.b .nil pass0 (by rfl) B.k_BadTree (pa_cons (pe_tup (pa_cons pe_str (pa_cons (pv 2) pa_nil))) pa_nil)))) pss_nil)))
 (pss_one (ps_fld (pv 0) (pv 1) rfl))))), ?_⟩
    have raised : ∀ (d : Due) (v : V) H1, d ≠ .ok → DueV H hv d → Same H H1 → (∀ H2, Same H1 H2 → TellsDue H2 v d) → [v].length ≤ 1000 ∧ ∀ a, H1 a = none → spField Z.a_BadTree "part" (.ref a :: ([v] ++ [])) (upd H1 a (exo a Z.a_BadTree none)) (fun v H2 => v = .non ∧ ∃ (d : Addr) (fs : List (Str × V)), H2 a = some (exo a Z.a_BadTree (some d)) ∧ H2 d = some (exd d fs) ∧ H1 d = none ∧ E (.ref Z.a_BadTree) (some d) (upd (del H2 a) d (.xd fs))) (fun _ _ _ => False) := fun d v H1 nd hd s1 ht =>
      mk_field fun e H' s2 _ he => qe d e v H' nd hd (ht H' s2) (s1.trans s2) he
    rcases hk with ⟨a, xs, rfl, ha, hk⟩ | ⟨hn, hk⟩
    · have qq : ∀ (d : Due) (v : V) H1, d ≠ .ok → DueIs xs d → Same H H1 → (∀ H2, Same H1 H2 → TellsDue H2 v d) → _ := fun d v H1 nd hd => raised d v H1 nd (.inl ⟨a, xs, rfl, ha, hd, hk⟩)
      have nxa : x ≠ a := fun e => by
        rw [e, ha] at hx
        cases hx
      walk_at "h0"
      refine x_isd (fun c1 => ?_) (fun c1 => ?_)
      · walk_at "hs"
        refine x_isnd (fun c2 => ?_) (fun c2 => ?_)
        · walk_at "hs"
          exact qq .hung _ H (fun e => by cases e) (.hung (by omega)) (Same.refl _) fun _ _ => rfl
        · walk_at "hs"
          refine x_ent1 (.of ha) ?_
          refine lp_enumT (K := K) (xs := xs) (fun i σ' H' => (∃ x2 x3, σ' = [some (.ref x), some (.ref a), x2, x3]) ∧ Same H H' ∧ ∀ j y, j < i → xs[j]? = some y → ¬ badV xs.length j y)
            ⟨⟨_, _, rfl⟩, Same.refl _, fun j y h => absurd h (Nat.not_lt_zero _)⟩ (fun i σ' H' _ h => .of (h.2.1 _ _ ha)) ?_ ?_
          · rintro i xi σ' H' T hxi ⟨⟨x2, x3, rfl⟩, s1, hgood⟩ hT
            have ha1 := s1 _ _ ha
            have kx := (hk _ (List.mem_of_getElem? hxi)).same (same_new (o := .tup [.int (1 + (i : Int)), xi]) s1 hT)
            have hi := (List.getElem?_eq_some_iff.mp hxi).1
            have bad : badV xs.length i xi → _ := fun b => qq (.block (i + 1)) (.int (1 + (i : Int))) (upd H' T (.tup [.int (1 + (i : Int)), xi])) (fun e => by cases e) (.block (by omega) (by omega) hgood hxi b) (same_new s1 hT) (fun _ _ => by
              show V.int (1 + (i : Int)) = V.int ((i + 1 : Nat) : Int)
              congr 1
              omega)
            walk_at "hs"
            refine ⟨_, _, _, rfl, kx, ?_⟩
            walk_at "hs"
            cases hn : numV 0 xs.length xi with
            | false =>
              walk_at "hs"
              exact bad (.inl hn)
            | true =>
              obtain ⟨z, rfl, z0, z1⟩ := num_int hn
              walk_at "hs"
              refine x_isd (fun c => ?_) (fun c => ?_)
              · walk_at "hs"
                exact bad (.inr (by rw [c]; congr 1; omega))
              · walk_at "hs"
                refine ⟨⟨_, _, rfl⟩, same_new s1 hT, fun j y hj hy => ?_⟩
                by_cases e : j = i
                · subst e
                  rw [hxi] at hy
                  cases hy
                  rintro (h | h)
                  · rw [hn] at h
                    cases h
                  · injection h with h
                    exact c (by rw [h]; omega)
                · exact hgood j y (by omega) hy
          · rintro σ' H' ⟨⟨x2, x3, rfl⟩, s1, hgood⟩
            have ha1 := s1 _ _ ha
            have hgood' : ∀ (j : Nat) y, xs[j]? = some y → ¬ badV xs.length j y := fun j y hy => hgood j y (by have := (List.getElem?_eq_some_iff.mp hy).1; omega) hy
            obtain ⟨hs, rfl, hle⟩ := good_nats xs.length fun j y hy => by
              cases hn : numV 0 xs.length y with
              | true => rfl
              | false => exact (hgood' j y hy (.inl hn)).elim
            have hlen := nats_length hs
            rw [hlen] at hle
            walk_at "hs"
            refine ⟨1, ((nats hs).length : Int) + 1, rfl, ⟨by omega, by omega, by omega, by omega⟩, ?_⟩
            refine lp_range (lo := 1) (n := Int.toNat (((nats hs).length : Int) + 1 - 1)) (fun i σ' H2 => (∃ x2 x3, σ' = [some (.ref x), some (.ref a), x2, x3]) ∧ Same H H2 ∧ ∀ j, 1 ≤ j → j < i + 1 → upN hs hs.length j = 0)
              ⟨⟨_, _, rfl⟩, s1, fun j h1 h2 => by omega⟩ ?_ ?_
            · rintro i σ' H2 hi ⟨⟨x2, x3, rfl⟩, s2, hz⟩
              have ha2 := s2 _ _ ha
              walk_at "hs"
              refine ⟨a, hs, i + 1, by rw [show 1 + (i : Int) = ((i + 1 : Nat) : Int) by omega]; rfl, .of ha2, hle, by omega, ?_⟩
              walk_at "hs"
              refine x_isnd (fun c => ?_) (fun c => ?_)
              · walk_at "hs"
                intro p hp
                walk_at "hs"
                refine qq (.ring (i + 1)) _ _ (fun e => by cases e) (.ring (by omega) (by omega) rfl hgood' (fun j h1 h2 => hz j h1 h2) (by omega) (by omega) c) (same_new s2 hp) fun H3 s3 => ⟨p, rfl, ?_⟩
                rw [s3 _ _ upd_same, show (1 + (i : Int)) = ((i + 1 : Nat) : Int) by omega]
              · walk_at "hs"
                refine ⟨⟨_, _, rfl⟩, s2, fun j h1 h2 => ?_⟩
                by_cases e : j = i + 1
                · rw [e]
                  exact c
                · exact hz j h1 (by omega)
            · rintro σ' H2 ⟨⟨x2, x3, rfl⟩, s2, hz⟩
              have hx2 := s2 _ _ hx
              walk_at "hs"
              refine ⟨x, _, dx, _, rfl, hx2, T, N, by decide, ?_⟩
              walk_at "hs"
              refine q _ (.inl ⟨a, nats hs, rfl, ha, .ok ⟨by omega, by omega, hle, fun k hk => by
                by_cases h0 : k = 0
                · rw [h0]
                  exact upN_zero hs _
                · exact hz k (by omega) (by omega)⟩ rfl hgood', hk⟩) (But.mut (.of s2)) upd_same
      · walk_at "hs"
        exact qq .hung _ H (fun e => by cases e) (.hung (by omega)) (Same.refl _) fun _ _ => rfl
    · walk_at "h0"
      refine kn_not hn hk ?_
      walk_at "hs"
      exact raised .hung _ H (fun e => by cases e) (.inr ⟨hn, hk, rfl⟩) (Same.refl _) fun _ _ => rfl
end
set_option maxRecDepth 100000
set_option maxHeartbeats 1000000
open PySem PySem.Spec L2


theorem sc_Tree___eq__ : FnScope ["self", "other"] ["self", "other"] (defScope s_Tree___eq__) := ⟨rfl, rfl, rfl, by decide +kernel, rfl, by decide +kernel, by decide +kernel⟩
section
variable {P : Program} {w : World} {K : PySem.W.Frag} {mg : Str → Option Value} {base : Heap} {Z : Ad}

/-- a tree that has been made -/
def TreeAt (Z : Ad) (H : Hp) (x : Addr) (hs : List Nat) : Prop := ∃ dx t, H x = some (.ins Z.a_Tree dx [("hung", .ref t)]) ∧ H t = some (.tup (nats hs))
theorem TreeAt.same {H H' : Hp} {x : Addr} {hs : List Nat} (s : Same H H') (h : TreeAt Z H x hs) : TreeAt Z H' x hs := by
  obtain ⟨dx, t, h1, h2⟩ := h
  exact ⟨dx, t, s _ _ h1, s _ _ h2⟩
def spEqT (Z : Ad) : Sp := fun vs H Q _ => ∃ (a b : Addr) (hs : List Nat), vs = [.ref a, .ref b] ∧ TreeAt Z H a hs ∧ ((∃ gs, TreeAt Z H b gs ∧ Q (.bl (decide (hs = gs))) H) ∨ ((∃ xs, H b = some (.tup xs)) ∧ Q (.bl false) H))
theorem ok_eqT {f : Addr} {fd : FuncData} (F : Fun K "__eq__" "Tree.__eq__" s_Tree___eq__ f fd) (B : Bl Z mg) (T : IsC K Z.a_Tree) (N : NoAttr K Z.a_Tree "hung") : FnOk P w K mg base CX0 1 f fd ["self", "other"] (spEqT Z) := by
  refine F.ok sc_Tree___eq__ (fun vs H Q E h => ?_) (fun cdv A outer s H vs Q E hr h => ?_)
  · obtain ⟨a, b, hs, rfl, _⟩ := h
    rfl
  · obtain ⟨a, b, hs, rfl, ⟨dx, t, hx, ht⟩, h⟩ := h
    refine ⟨_, (pss_one (ps_ret (pe_and (pe_callB (call_isiK' (K := K) rfl) (by rfl) B.b_isinstance (by decide +kernel) (pa_cons (pv 1) (pa_cons (pe_glob (v := .ref Z.a_Tree) rfl B.k_Tree rfl) pa_nil))) (pe_one (pe_cmpR (op_eqDK (K := K) rfl hr.units) (pe_fldK (K := K) rfl (pv 0) rfl) (pe_fldK (K := K) rfl (pv 1) rfl) (nomark _)))))), ?_⟩
    walk_at "h0"
    rcases h with ⟨gs, ⟨dy, u, hy, hu⟩, q⟩ | ⟨⟨xs, hb⟩, q⟩
    · refine isi_own T hy ?_
      walk_at "hs"
      refine ⟨a, _, dx, _, _, rfl, hx, T.cl, N, rfl, ?_⟩
      walk_at "hs"
      refine ⟨b, _, dy, _, _, rfl, hy, T.cl, N, rfl, ?_⟩
      exact x_eqTup (.of ht) (.of hu) q
    · refine isi_tupOwn T hb ?_
      walk_at "hs"
      exact q
end
set_option maxRecDepth 100000
set_option maxHeartbeats 1000000
open PySem PySem.Spec L2


theorem sc__law_odd : FnScope ["_law_hand_here", "_law_blocks", "_law_words", "_law_odds"] ["_law_hand_here", "_law_blocks", "_law_words"] (defScope s__law_odd) := ⟨rfl, rfl, rfl, by decide +kernel, rfl, by decide +kernel, by decide +kernel⟩
section
variable {P : Program} {w : World} {K : PySem.W.Frag} {mg : Str → Option Value} {base : Heap} {Z : Ad}

def spOdd : Sp := fun vs H Q _ => ∃ (p : Addr) (n : Nat) (F : Addr → Prop), vs = [.ref p, .int n] ∧ PoolAt H p F ∧ ∀ v H', Kn H' v → v ≠ .ref p → But p H H' → PoolAt H' p F → Q v H'
/-! the law's own call of Tree, caught -/
end
set_option maxRecDepth 100000
set_option maxHeartbeats 1000000
open PySem PySem.Spec L2


section
variable {P : Program} {w : World} {K : PySem.W.Frag} {mg : Str → Option Value} {base : Heap} {Z : Ad}

/-- any tuple of what is known, or another known thing -/
def Thing (H : Hp) (x : V) : Prop := (∃ a xs, x = .ref a ∧ H a = some (.tup xs) ∧ ∀ y ∈ xs, Kn H y) ∨ ((∀ a xs, x = .ref a → H a ≠ some (.tup xs)) ∧ Kn H x)
theorem Thing.same {H H' : Hp} {x : V} (s : Same H H') (h : Thing H x) : Thing H' x := by
  rcases h with ⟨a, xs, rfl, ha, hk⟩ | ⟨hn, hk⟩
  · exact .inl ⟨a, xs, rfl, s _ _ ha, fun y hy => (hk y hy).same s⟩
  · refine .inr ⟨fun a xs e ha => ?_, hk.same s⟩
    subst e
    rcases hk with ⟨ys, e⟩ | ⟨ys, e⟩ | ⟨ys, e⟩
    · have := (s _ _ e).symm.trans ha
      cases this
    · exact hn a ys rfl e
    · have := (s _ _ e).symm.trans ha
      cases this
theorem Thing.back {H H' : Hp} {x : V} {d : Due} (h : Thing H x) (s : Same H H') (hd : DueV H' x d) : DueV H x d := by
  rcases h with ⟨a, xs, rfl, ha, hk⟩ | ⟨hn, hk⟩
  · rcases hd with ⟨b, ys, e, hb, hi, _⟩ | ⟨hn, _, _⟩
    · cases e
      have := (s _ _ ha).symm.trans hb
      cases this
      exact .inl ⟨a, xs, rfl, ha, hi, hk⟩
    · exact (hn a xs rfl (s _ _ ha)).elim
  · rcases hd with ⟨b, ys, rfl, hb, hi, _⟩ | ⟨_, _, e⟩
    · rcases hk with ⟨zs, e⟩ | ⟨zs, e⟩ | ⟨zs, e⟩
      · have := (s _ _ e).symm.trans hb
        cases this
      · exact (hn b zs rfl e).elim
      · have := (s _ _ e).symm.trans hb
        cases this
    · exact .inr ⟨hn, hk, e⟩
def spWord : Sp := fun vs H Q _ => ∃ (x : V), vs = [x] ∧ Thing H x ∧ ∀ (d : Due) (v : V) H', Same H H' → DueV H x d → TellsDue H' v d → Q v H'
structure WordX (K : PySem.W.Frag) (Z : Ad) : Prop where
  e : L2.ExcC K Z.a_BadTree
  f : XfC K Z.a_BadTree
  n : PySem.W.findIn K (.ref Z.a_BadTree) "part" = some none
  k : PySem.W.kitOne K (.ref Z.a_BadTree) (.ref Z.a_VoteError) = some true
  m : PySem.W.exmOne K (.ref Z.a_BadTree) (.ref Z.a_BadTree) = some true
end
set_option maxRecDepth 100000
set_option maxHeartbeats 4000000
open PySem PySem.Spec L2


theorem sc_law : FnScope ["_law_script", "_law_hand_here", "_law_turn", "_law_ups", "_law_lists", "_law_blocks", "_law_words", "_law_again", "_law_block", "_law_place", "_law_due", "_law_many", "_law_tree_here"] ["_law_script"] (defScope s_law) := ⟨rfl, rfl, rfl, by decide +kernel, rfl, by decide +kernel, by decide +kernel⟩
section
variable {P : Program} {w : World} {K : PySem.W.Frag} {mg : Str → Option Value} {base : Heap} {Z : Ad}

theorem TellsDue.same {H H' : Hp} {v : V} {d : Due} (s : Same H H') (h : TellsDue H v d) : TellsDue H' v d := by
  cases d with
  | ring k =>
    obtain ⟨a, rfl, ha⟩ := h
    exact ⟨a, rfl, s _ _ ha⟩
  | _ => exact h
theorem TellsDue.al {H : Hp} {v u : V} {d : Due} (h : TellsDue H v d) (h' : TellsDue H u d) : Al K H 1 v u := by
  cases d with
  | ring k =>
    obtain ⟨a, rfl, ha⟩ := h
    obtain ⟨b, rfl, hb⟩ := h'
    exact Al.tups ha hb (by show 2 ≤ 1000; decide) fun z hz => by
      simp only [List.mem_cons, List.not_mem_nil, or_false] at hz
      rcases hz with rfl | rfl <;> rfl
  | hung =>
    cases h
    cases h'
    exact Al.sca rfl
  | block k =>
    cases h
    cases h'
    exact Al.sca rfl
  | ok =>
    cases h
    cases h'
    exact Al.sca rfl
theorem DueV.det {H : Hp} {x : V} {d e : Due} (h : DueV H x d) (h' : DueV H x e) : d = e := by
  rcases h with ⟨a, xs, rfl, ha, hi, _⟩ | ⟨hn, _, rfl⟩
  · rcases h' with ⟨b, ys, e, hb, hj, _⟩ | ⟨hn, _, _⟩
    · cases e
      have := ha.symm.trans hb
      cases this
      exact hi.det hj
    · exact (hn a xs rfl ha).elim
  · rcases h' with ⟨b, ys, rfl, hb, _, _⟩ | ⟨_, _, rfl⟩
    · exact (hn b ys rfl hb).elim
    · rfl
theorem tree_ok {hs : List Nat} (t : IsTree hs) : DueIs (nats hs) .ok := by
  refine .ok t rfl fun j y hy => ?_
  obtain ⟨x, hx, rfl⟩ : ∃ x : Nat, hs[j]? = some x ∧ y = .int x := by
    unfold nats at hy
    rw [List.getElem?_map] at hy
    cases e : hs[j]? with
    | none =>
      rw [e] at hy
      cases hy
    | some x =>
      rw [e] at hy
      exact ⟨x, rfl, (Option.some.inj hy).symm⟩
  have hle := t.le x (List.mem_of_getElem? hx)
  have hj := (List.getElem?_eq_some_iff.mp hx).1
  rw [nats_length]
  rintro (h | h)
  · rw [numT (by omega)] at h
    have := of_decide_eq_false h
    omega
  · injection h with h
    have e : x = j + 1 := by omega
    subst e
    have u : up hs (j + 1) = j + 1 := up_at (by omega) (by rw [Nat.add_sub_cancel]; exact hx)
    have un : ∀ n, upN hs n (j + 1) = j + 1 := fun n => by
      induction n with
      | zero => rfl
      | succ n ih =>
        show upN hs n (up hs (j + 1)) = j + 1
        rw [u]
        exact ih
    have := t.comes (j + 1) (by omega)
    rw [un] at this
    omega
theorem make_tree {H : Hp} {Q : VK} {a : Addr} {hs : List Nat} (t : IsTree hs) (ha : H a = some (.tup (nats hs))) (q : ∀ m H', H m = none → Same H H' → TreeAt Z H' m hs → Q (.ref m) H') :
    ∀ x dx, H x = none → H dx = none → dx ≠ x → spTree Z (.ref x :: ([.ref a] ++ [])) (upd (upd H dx (.own x)) x (.ins Z.a_Tree dx [])) (fun v H2 => v = .non ∧ Q (.ref x) H2) (fun _ _ _ => False) := by
  intro m dm hm hdm ne
  have hm2 : upd H dm (.own m) m = none := by
    rw [upd_ne (Ne.symm ne)]
    exact hm
  have s0 : Same H (upd (upd H dm (.own m)) m (.ins Z.a_Tree dm [])) := same_new (same_new (Same.refl H) hdm) hm2
  have hk : ∀ y ∈ nats hs, Kn H y := fun y hy => by
    obtain ⟨n, _, rfl⟩ := List.mem_map.mp hy
    exact True.intro
  have hx : Thing H (.ref a) := .inl ⟨a, _, rfl, ha, hk⟩
  have due : DueV H (.ref a) .ok := .inl ⟨a, _, rfl, ha, tree_ok t, hk⟩
  refine ⟨m, dm, .ref a, rfl, upd_same, hx.same s0, fun H' hd b1 hm1 => ⟨rfl, ?_⟩, fun d e v H' nd hd ht s1 he => nd ((hx.back s0 hd).det due)⟩
  have s1 : Same H H' := fun b o e => b1 _ _ (ne_of_none e hm) (s0 _ _ e)
  exact q m H' hm s1 ⟨dm, a, hm1, s1 _ _ ha⟩
theorem eq_trees {H : Hp} {Q : VK} {a b : Addr} {hs gs : List Nat} (h1 : TreeAt Z H a hs) (h2 : TreeAt Z H b gs) (q : Q (.bl (decide (hs = gs))) H) : rOwn Z.a_Tree (spEqT Z) (.ref a) (.ref b) H Q := by
  obtain ⟨dx, t, ha, ht⟩ := id h1
  obtain ⟨dy, u, hb, hu⟩ := id h2
  exact ⟨a, b, dx, _, rfl, rfl, ha, .inl ⟨_, _, hb⟩, a, b, hs, rfl, h1, .inl ⟨gs, h2, _, rfl, q⟩⟩
theorem eq_treeTup {H : Hp} {Q : VK} {a b : Addr} {hs : List Nat} {xs : List V} (h1 : TreeAt Z H a hs) (h2 : H b = some (.tup xs)) (q : Q (.bl false) H) : rOwn Z.a_Tree (spEqT Z) (.ref a) (.ref b) H Q := by
  obtain ⟨dx, t, ha, ht⟩ := id h1
  exact ⟨a, b, dx, _, rfl, rfl, ha, .inr ⟨_, h2⟩, a, b, hs, rfl, h1, .inr ⟨⟨_, h2⟩, _, rfl, q⟩⟩
theorem Kn.setL {H : Hp} {L : Addr} {xs ys : List V} {v : V} (hL : H L = some (.lst xs)) (k : Kn H v) : Kn (upd H L (.lst ys)) v := by
  cases v with
  | ref a =>
    by_cases e : a = L
    · subst e
      exact .inl ⟨ys, upd_same⟩
    · rcases k with ⟨z, h⟩ | ⟨z, h⟩ | ⟨z, h⟩
      · exact .inl ⟨z, keepM e h⟩
      · exact .inr (.inl ⟨z, keepM e h⟩)
      · exact .inr (.inr ⟨z, keepM e h⟩)
  | _ => exact k
theorem x_tree {H : Hp} {Q : VK} {a : Addr} {hs : List Nat} {σ : L2.St} {i : Nat} (hv : σ[i]? = some (some (.ref a))) (t : IsTree hs) (ha : H a = some (.tup (nats hs))) (q : ∀ m H', H m = none → Same H H' → TreeAt Z H' m hs → Q (.ref m) H') :
    tMake Z.a_Tree (spTree Z) [] (fun _ _ _ => False) (tCons (tVar i) tNil) σ H Q := ⟨_, hv, make_tree t ha q⟩
theorem PoolAt.lst {H : Hp} {p : Addr} {F : Addr → Prop} (h : PoolAt H p F) : ∃ xs, H p = some (.lst xs) := by
  obtain ⟨⟨g, z, gs, ss, c, n, hp, _⟩, _⟩ := h
  exact ⟨_, hp⟩
theorem Kn.pool {H H' : Hp} {p : Addr} {F : Addr → Prop} {v : V} (hp : PoolAt H' p F) (b : But p H H') (k : Kn H v) : Kn H' v := by
  by_cases e : v = .ref p
  · subst e
    exact .inl hp.lst
  · exact k.but b e
theorem Thing.pool {H H' : Hp} {p : Addr} {F F' : Addr → Prop} {v : V} (hp : PoolAt H p F) (hp' : PoolAt H' p F') (b : But p H H') (k : Thing H v) : Thing H' v := by
  obtain ⟨zs, ep⟩ := hp.lst
  obtain ⟨ws, ep'⟩ := hp'.lst
  rcases k with ⟨a, xs, rfl, ha, hk⟩ | ⟨hn, hk⟩
  · refine .inl ⟨a, xs, rfl, b _ _ (fun e => ?_) ha, fun y hy => (hk y hy).pool hp' b⟩
    subst e
    rw [ha] at ep
    cases ep
  · refine .inr ⟨fun a xs e ha => ?_, hk.pool hp' b⟩
    subst e
    by_cases e : a = p
    · subst e
      rw [ha] at ep'
      cases ep'
    · rcases hk with ⟨ys, h⟩ | ⟨ys, h⟩ | ⟨ys, h⟩
      · have := (b _ _ e h).symm.trans ha
        cases this
      · exact hn a ys rfl h
      · have := (b _ _ e h).symm.trans ha
        cases this
theorem thing_lst {H : Hp} {a : Addr} {xs : List V} (h : H a = some (.lst xs)) : Thing H (.ref a) := by
  refine .inr ⟨fun b ys e hb => ?_, .inl ⟨_, h⟩⟩
  cases e
  rw [h] at hb
  cases hb
theorem thing_dK {H : Hp} {a : Addr} {xs : List (Key × V)} (h : H a = some (.dK xs)) : Thing H (.ref a) := by
  refine .inr ⟨fun b ys e hb => ?_, .inr (.inr ⟨_, h⟩)⟩
  cases e
  rw [h] at hb
  cases hb
theorem thing_nats {H : Hp} {a : Addr} {l : List Nat} (h : H a = some (.tup (nats l))) : Thing H (.ref a) := .inl ⟨a, _, rfl, h, fun y hy => by
  obtain ⟨n, _, rfl⟩ := List.mem_map.mp hy
  exact True.intro⟩
theorem pick_at {H0 H : Hp} {p M : Addr} {items : List V} {F : Addr → Prop} {Q : VK} {E : XK} (hp : PoolAt H0 p F) (s : Same H0 H) (hM : H M = some (.lst items)) (n : M ≠ p) (h0 : 0 < items.length) (h1 : items.length ≤ 1000) (ht : ∀ v ∈ items, Thing H v)
    (q : ∀ v H5, Thing H5 v → But p H0 H5 → PoolAt H5 p F → Q v H5) : spPick K ([.ref p, .ref M] ++ []) H Q E :=
  ⟨p, M, items, F, rfl, hp.same s, .of hM, n, h0, h1, fun v H5 hm b5 p5 => q v H5 ((ht v hm).pool (hp.same s) p5 b5) (fun b o nb e => b5 b o nb (s b o e)) p5⟩
def spLaw (K : PySem.W.Frag) : Sp := fun vs H Q _ => ∃ (a : Addr) (ns : List Int), vs = [.ref a] ∧ SqL K H a (ns.map V.int) ∧ ns.length ≤ 63 ∧ ∀ H', Q (.bl true) H'
end
set_option maxRecDepth 100000
set_option maxHeartbeats 1000000
open PySem PySem.Spec L2


section
variable {P : Program} {w : World} {K : PySem.W.Frag} {mg : Str → Option Value} {base : Heap} {Z : Ad}
def spIsB (Z : Ad) (lo : Int) : Sp := fun vs H Q _ => ∃ (x : Addr) (hs : List Nat) (v : V), vs = [.ref x, v] ∧ TreeAt Z H x hs ∧ Kn H v ∧ Q (.bl (numV lo hs.length v)) H
theorem num_nat {lo : Int} {n k : Nat} (h1 : lo ≤ k) (h2 : k ≤ n) : numV lo n (.int k) = true := by
  rw [numT h1]
  exact decide_eq_true (by omega)
def spPlace (Z : Ad) : Sp := fun vs H Q _ => ∃ (x : Addr) (hs : List Nat) (k : Nat), vs = [.ref x, .int k] ∧ TreeAt Z H x hs ∧ 1 ≤ k ∧ k ≤ hs.length ∧ Q (.int (up hs k : Nat)) H
def spParents (Z : Ad) : Sp := fun vs H Q _ => ∃ (x : Addr) (hs : List Nat) (k : Nat), vs = [.ref x, .int k] ∧ TreeAt Z H x hs ∧ IsTree hs ∧ 1 ≤ k ∧ k ≤ hs.length ∧ ∀ D H', Same H H' → H D = none → H' D = some (.tup (nats (way hs k))) → Q (.ref D) H'
end
set_option maxRecDepth 100000
set_option maxHeartbeats 1000000
open PySem PySem.Spec L2


section
variable {P : Program} {w : World} {K : PySem.W.Frag} {mg : Str → Option Value} {base : Heap} {Z : Ad}
def spUnder (Z : Ad) : Sp := fun vs H Q _ => ∃ (x : Addr) (hs : List Nat) (p : Nat), vs = [.ref x, .int p] ∧ TreeAt Z H x hs ∧ IsTree hs ∧ p ≤ hs.length ∧ ∀ D H', Same H H' → H D = none → H' D = some (.tup (nats (kids hs p))) → Q (.ref D) H'
def spBeneath (Z : Ad) : Sp := fun vs H Q _ => ∃ (x : Addr) (hs : List Nat) (p : Nat), vs = [.ref x, .int p] ∧ TreeAt Z H x hs ∧ IsTree hs ∧ p ≤ hs.length ∧ ∀ D H', Same H H' → H D = none → H' D = some (.tup (nats (below hs p))) → Q (.ref D) H'
def spWay (K : PySem.W.Frag) : Sp := fun vs H Q _ => ∃ (t : Addr) (hs : List Nat) (k : Nat), vs = [.ref t, .int k] ∧ SqT K H t (nats hs) ∧ (∀ x ∈ hs, x ≤ hs.length) ∧ hs.length ≤ 40 ∧ k ≤ hs.length ∧ ∀ D H', Same H H' → H D = none → H' D = some (.lst (nats (way hs k))) → Q (.ref D) H'
end
set_option maxRecDepth 100000
set_option maxHeartbeats 2000000
open PySem PySem.Spec L2


section
variable {P : Program} {w : World} {K : PySem.W.Frag} {mg : Str → Option Value} {base : Heap} {Z : Ad}
def spOrd (K : PySem.W.Frag) (Z : Ad) : Sp := fun vs H Q _ => ∃ (x t : Addr) (hs ms : List Nat), vs = [.ref x, .ref t] ∧ TreeAt Z H x hs ∧ IsTree hs ∧ SqT K H t (nats ms) ∧ IsOrd hs.length ms ∧ ∀ H', Same H H' → Q (.bl true) H'
def spCalled (K : PySem.W.Frag) (Z : Ad) : Sp := fun vs H Q _ => ∃ (x t : Addr) (hs ms : List Nat), vs = [.ref x, .ref t] ∧ TreeAt Z H x hs ∧ IsTree hs ∧ SqT K H t (nats ms) ∧ IsOrd hs.length ms ∧ ∀ m H', Same H H' → H m = none → TreeAt Z H' m (call2 hs ms) → Q (.ref m) H'
end
set_option maxRecDepth 100000
set_option maxHeartbeats 1000000
open PySem PySem.Spec L2


theorem sc__is_tuple_of : FnScope ["many", "thing"] ["many", "thing"] (defScope s__is_tuple_of) := ⟨rfl, rfl, rfl, by decide +kernel, rfl, by decide +kernel, by decide +kernel⟩
theorem sc__is_up : FnScope ["blocks", "block", "thing"] ["blocks", "block", "thing"] (defScope s__is_up) := ⟨rfl, rfl, rfl, by decide +kernel, rfl, by decide +kernel, by decide +kernel⟩
theorem sc__is_listing : FnScope ["place", "block", "thing"] ["place", "block", "thing"] (defScope s__is_listing) := ⟨rfl, rfl, rfl, by decide +kernel, rfl, by decide +kernel, by decide +kernel⟩
theorem sc_Words___init__ : FnScope ["self", "blocks", "ups", "lists", "block", "place"] ["self", "blocks", "ups", "lists"] (defScope s_Words___init__) := ⟨rfl, rfl, rfl, by decide +kernel, rfl, by decide +kernel, by decide +kernel⟩
theorem putF_len (f : Str) (v : V) : ∀ fs : List (Str × V), (putF f v fs).length ≤ fs.length + 1
  | [] => Nat.le_refl _
  | (g, x) :: r => by
    have ih := putF_len f v r
    unfold putF
    split
    · simp
    · rw [List.length_cons, List.length_cons]
      omega
def refs (as : List Addr) : List V := as.map V.ref
theorem refs_length (as : List Addr) : (refs as).length = as.length := List.length_map ..
theorem refs_get {as : List Addr} {i : Nat} {a : Addr} (h : as[i]? = some a) : (refs as)[i]? = some (.ref a) := by
  unfold refs
  rw [List.getElem?_map, h]
  rfl
theorem refs_app (c d : List Addr) : refs (c ++ d) = refs c ++ refs d := List.map_append ..
/-- rows, told by where they are -/
structure Rows (H : Hp) (as : List Addr) (ls : List (List (Option Bool))) : Prop where
  len : as.length = ls.length
  at_ : ∀ (i : Nat) (a : Addr) (r : List (Option Bool)), as[i]? = some a → ls[i]? = some r → H a = some (.tup (wds r))
theorem Rows.same {H H' : Hp} {as : List Addr} {ls : List (List (Option Bool))} (s : Same H H') (h : Rows H as ls) : Rows H' as ls := ⟨h.len, fun i a r ha hr => s _ _ (h.at_ i a r ha hr)⟩
theorem Rows.but {H H' : Hp} {p : Addr} {as : List Addr} {ls : List (List (Option Bool))} (b : But p H H') (n : ∀ xs, H p ≠ some (.tup xs)) (h : Rows H as ls) : Rows H' as ls := ⟨h.len, fun i a r ha hr => b _ _ (fun e => n _ (e ▸ h.at_ i a r ha hr)) (h.at_ i a r ha hr)⟩
theorem Rows.get {H : Hp} {as : List Addr} {ls : List (List (Option Bool))} (h : Rows H as ls) {i : Nat} (hi : i < ls.length) : ∃ a, as[i]? = some a ∧ H a = some (.tup (wds ls[i])) := by
  have h1 : i < as.length := by rw [h.len]; exact hi
  exact ⟨as[i], List.getElem?_eq_getElem h1, h.at_ i _ _ (List.getElem?_eq_getElem h1) (List.getElem?_eq_getElem hi)⟩
/-- the class of words -/
structure WCls (K : PySem.W.Frag) (Z : Ad) : Prop where
  c : Cls K Z.a_Words
  nb : NoAttr K Z.a_Words "blocks"
  nu : NoAttr K Z.a_Words "ups"
  nl : NoAttr K Z.a_Words "lists"
/-- words at x -/
def WordsAt (Z : Ad) (H : Hp) (x : Addr) (n : Nat) (us : List (Option Nat)) (ls : List (List (Option Bool))) : Prop := ∃ dx fs tu tl as, H x = some (.ins Z.a_Words dx fs) ∧ fs.lookup ("blocks" : Str) = some (.int n) ∧ fs.lookup ("ups" : Str) = some (.ref tu) ∧ fs.lookup ("lists" : Str) = some (.ref tl) ∧ H tu = some (.tup (upvs us)) ∧ H tl = some (.tup (refs as)) ∧ Rows H as ls
theorem WordsAt.same {Z : Ad} {H H' : Hp} {x : Addr} {n : Nat} {us : List (Option Nat)} {ls : List (List (Option Bool))} (s : Same H H') (h : WordsAt Z H x n us ls) : WordsAt Z H' x n us ls := by
  obtain ⟨dx, fs, tu, tl, as, h1, h2, h3, h4, h5, h6, h7⟩ := h
  exact ⟨dx, fs, tu, tl, as, s _ _ h1, h2, h3, h4, s _ _ h5, s _ _ h6, h7.same s⟩
section
variable {P : Program} {w : World} {K : PySem.W.Frag} {mg : Str → Option Value} {base : Heap} {Z : Ad}
def spIsTup : Sp := fun vs H Q _ => ∃ (m : Int) (t : Addr) (xs : List V), vs = [.int m, .ref t] ∧ H t = some (.tup xs) ∧ (xs.length : Int) = m ∧ Q (.bl true) H
theorem ok_isTup {f : Addr} {fd : FuncData} (F : Fun K "_is_tuple_of" "_is_tuple_of" s__is_tuple_of f fd) (B : Bl Z mg) : FnOk P w K mg base CX0 1 f fd ["many", "thing"] spIsTup := by
  refine F.ok sc__is_tuple_of (fun vs H Q E h => ?_) (fun cdv A outer s H vs Q E hr h => ?_)
  · obtain ⟨m, t, xs, rfl, _⟩ := h
    rfl
  · obtain ⟨m, t, xs, rfl, ht, hm, q⟩ := h
    refine ⟨_, (pss_one (ps_ret (pe_and (pe_callB (call_isiK' (K := K) rfl) (by rfl) B.b_isinstance (by decide +kernel) (pa_cons (pv 1) (pa_cons (pe_bltn (v := .ty "tuple") (by rfl) B.b_tuple (by decide +kernel) rfl) pa_nil))) (pe_one (pe_cmpR op_eq (pe_callB (call_lenK (K := K) rfl) (by rfl) B.b_len PySem.boot_len (pa_cons (pv 1) pa_nil)) (pv 0) (nomark _)))))), ?_⟩
    walk_at "h0"
    rw [decide_eq_true hm]
    exact q
def spIsUp : Sp := fun vs H Q _ => ∃ (n : Nat) (b : Int) (o : Option Nat), vs = [.int n, .int b, upV o] ∧ (∀ q, o = some q → q ≤ n ∧ (q : Int) ≠ b) ∧ Q (.bl true) H
theorem ok_isUp {f : Addr} {fd : FuncData} (F : Fun K "_is_up" "_is_up" s__is_up f fd) (B : Bl Z mg) {f_is_within : Addr} {fd_is_within : FuncData} (C_is_within : Cal K mg "is_within" f_is_within fd_is_within ["least", "most", "thing"]) (G_is_within : FnOk P w K mg base CX0 1 f_is_within fd_is_within ["least", "most", "thing"] spWithin) : FnOk P w K mg base CX0 2 f fd ["blocks", "block", "thing"] spIsUp := by
  refine F.ok sc__is_up (fun vs H Q E h => ?_) (fun cdv A outer s H vs Q E hr h => ?_)
  · obtain ⟨n, b, o, rfl, _⟩ := h
    rfl
  · obtain ⟨n, b, o, rfl, ho, q⟩ := h
    refine ⟨_, (pss_one (ps_ret (pe_or (pe_cmpR op_isNk (pv 2) pe_non (nomark _)) (pe_one (pe_and (pe_call G_is_within (hr.mono (by first | decide | omega)) (by rfl) C_is_within.g C_is_within.k C_is_within.b .nil pass0 (pa_cons pe_int (pa_cons (pv 0) (pa_cons (pv 2) pa_nil)))) (pe_one (pe_cmpR op_ne (pv 2) (pv 1) (nomark _)))))))), ?_⟩
    cases o with
    | none =>
      dsimp only [upV]
      walk_at "h0"
      exact q
    | some k =>
      dsimp only [upV]
      walk_at "h0"
      obtain ⟨h1, h2⟩ := ho k rfl
      refine ⟨_, _, _, rfl, True.intro, ?_⟩
      rw [num_nat (by omega) h1]
      walk_at "hs"
      rw [decide_eq_true h2]
      exact q
def spIsLst : Sp := fun vs H Q _ => ∃ (p b : Int) (o : Option Bool), vs = [.int p, .int b, wdV o] ∧ (p = b → o = some false) ∧ Q (.bl true) H
theorem ok_isLst {f : Addr} {fd : FuncData} (F : Fun K "_is_listing" "_is_listing" s__is_listing f fd) (B : Bl Z mg) : FnOk P w K mg base CX0 1 f fd ["place", "block", "thing"] spIsLst := by
  refine F.ok sc__is_listing (fun vs H Q E h => ?_) (fun cdv A outer s H vs Q E hr h => ?_)
  · obtain ⟨p, b, o, rfl, _⟩ := h
    rfl
  · obtain ⟨p, b, o, rfl, ho, q⟩ := h
    refine ⟨_, (pss_cons (ps_if (pt_cmpR op_eq (pv 0) (pv 1) (nomark _)) (pss_one (ps_ret (pe_cmpR op_isBk (pv 2) pe_bl (nomark _)))) pss_nil)
 (pss_one (ps_ret (pe_or (pe_cmpR op_isNk (pv 2) pe_non (nomark _)) (pe_one (pe_callB (call_isiK' (K := K) rfl) (by rfl) B.b_isinstance (by decide +kernel) (pa_cons (pv 2) (pa_cons (pe_bltn (v := .ty "bool") (by rfl) B.b_bool (by decide +kernel) rfl) pa_nil)))))))), ?_⟩
    walk_at "h0"
    refine x_isd (fun c => ?_) (fun c => ?_)
    · walk_at "hs"
      rw [decide_eq_true (ho c)]
      exact q
    · walk_at "hs"
      cases o with
      | none =>
        dsimp only [wdV]
        walk_at "hs"
        exact q
      | some k =>
        dsimp only [wdV]
        walk_at "hs"
        exact q
def spWords (Z : Ad) : Sp := fun vs H Q _ => ∃ (x dx tu tl : Addr) (n : Nat) (us : List (Option Nat)) (ls : List (List (Option Bool))) (as : List Addr), vs = [.ref x, .int n, .ref tu, .ref tl] ∧ H x = some (.ins Z.a_Words dx []) ∧ H tu = some (.tup (upvs us)) ∧ H tl = some (.tup (refs as)) ∧ Rows H as ls ∧ WdOk n us ls ∧
  ∀ H', But x H H' → WordsAt Z H' x n us ls → Q .non H'
theorem ok_words {f : Addr} {fd : FuncData} (F : Fun K "__init__" "Words.__init__" s_Words___init__ f fd) (B : Bl Z mg) (W : WCls K Z) {f_is_within : Addr} {fd_is_within : FuncData} (C_is_within : Cal K mg "is_within" f_is_within fd_is_within ["least", "most", "thing"]) (G_is_within : FnOk P w K mg base CX0 1 f_is_within fd_is_within ["least", "most", "thing"] spWithin) {f__is_tuple_of : Addr} {fd__is_tuple_of : FuncData} (C__is_tuple_of : Cal K mg "_is_tuple_of" f__is_tuple_of fd__is_tuple_of ["many", "thing"]) (G__is_tuple_of : FnOk P w K mg base CX0 1 f__is_tuple_of fd__is_tuple_of ["many", "thing"] spIsTup)
    {f__is_up : Addr} {fd__is_up : FuncData} (C__is_up : Cal K mg "_is_up" f__is_up fd__is_up ["blocks", "block", "thing"]) (G__is_up : FnOk P w K mg base CX0 2 f__is_up fd__is_up ["blocks", "block", "thing"] spIsUp) {f__is_listing : Addr} {fd__is_listing : FuncData} (C__is_listing : Cal K mg "_is_listing" f__is_listing fd__is_listing ["place", "block", "thing"]) (G__is_listing : FnOk P w K mg base CX0 1 f__is_listing fd__is_listing ["place", "block", "thing"] spIsLst) : FnOk P w K mg base CX0 3 f fd ["self", "blocks", "ups", "lists"] (spWords Z) := by
  refine F.ok sc_Words___init__ (fun vs H Q E h => ?_) (fun cdv A outer s H vs Q E hr h => ?_)
  · obtain ⟨x, dx, tu, tl, n, us, ls, as, rfl, _⟩ := h
    rfl
  · obtain ⟨x, dx, tu, tl, n, us, ls, as, rfl, hx, hu, hl, hw, ok, q⟩ := h
    refine ⟨_, (pss_cons (ps_if (pt_not (pt_val (pe_call G_is_within (hr.mono (by first | decide | omega)) (by rfl) C_is_within.g C_is_within.k C_is_within.b .nil pass0 (pa_cons pe_int (pa_cons (pe_glob (v := .int (40)) rfl B.c_MOST_BLOCKS ⟨_, rfl⟩) (pa_cons (pv 1) pa_nil)))))) (pss_one ps_never) pss_nil)
 (pss_cons (ps_if (pt_not (pt_val (pe_call G__is_tuple_of (hr.mono (by first | decide | omega)) (by rfl) C__is_tuple_of.g C__is_tuple_of.k C__is_tuple_of.b .nil pass0 (pa_cons (pv 1) (pa_cons (pv 2) pa_nil))))) (pss_one ps_never) pss_nil)
 (pss_cons (ps_for PassesOwn.never rfl (pi_range2 rfl B.b_range (pa_cons pe_int (pa_cons (pe_op op_add (pv 1) pe_int) pa_nil))) (pg_name (i := 4) sc_Words___init__.nd rfl (Or.inl rfl)) (pss_one (ps_if (pt_not (pt_val (pe_call G__is_up (hr.mono (by first | decide | omega)) (by rfl) C__is_up.g C__is_up.k C__is_up.b .nil pass0 (pa_cons (pv 1) (pa_cons (pv 4) (pa_cons (pe_ix (ix_tupK (K := K) rfl) (pv 2) (pe_op op_sub (pv 4) pe_int) (fun _ _ => rfl)) pa_nil)))))) (pss_one ps_never) pss_nil)))
 (pss_cons (ps_if (pt_not (pt_val (pe_call G__is_tuple_of (hr.mono (by first | decide | omega)) (by rfl) C__is_tuple_of.g C__is_tuple_of.k C__is_tuple_of.b .nil pass0 (pa_cons (pe_op op_add (pv 1) pe_int) (pa_cons (pv 3) pa_nil))))) (pss_one ps_never) pss_nil)
 (pss_cons (ps_for PassesOwn.never rfl (pi_range1 rfl B.b_range (pa_cons (pe_op op_add (pv 1) pe_int) pa_nil)) (pg_name (i := 5) sc_Words___init__.nd rfl (Or.inl rfl)) (pss_one (ps_if (pt_not (pt_val (pe_call G__is_tuple_of (hr.mono (by first | decide | omega)) (by rfl) C__is_tuple_of.g C__is_tuple_of.k C__is_tuple_of.b .nil pass0 (pa_cons (pv 1) (pa_cons (pe_ix (ix_tupK (K := K) rfl) (pv 3) (pv 5) (fun _ _ => rfl)) pa_nil))))) (pss_one ps_never) pss_nil)))
 (pss_cons (ps_for PassesOwn.never rfl (pi_range1 rfl B.b_range (pa_cons (pe_op op_add (pv 1) pe_int) pa_nil)) (pg_name (i := 5) sc_Words___init__.nd rfl (Or.inl rfl)) (pss_one (ps_for PassesOwn.never rfl (pi_range2 rfl B.b_range (pa_cons pe_int (pa_cons (pe_op op_add (pv 1) pe_int) pa_nil))) (pg_name (i := 4) sc_Words___init__.nd rfl (Or.inl rfl)) (pss_one (ps_if (pt_not (pt_val (pe_call G__is_listing (hr.mono (by first | decide | omega)) (by rfl) C__is_listing.g C__is_listing.k C__is_listing.b .nil pass0 (pa_cons (pv 5) (pa_cons (pv 4) (pa_cons (pe_ix (ix_tupK (K := K) rfl) (pe_ix (ix_tupK (K := K) rfl) (pv 3) (pv 5) (fun _ _ => rfl)) (pe_op op_sub (pv 4) pe_int) (fun _ _ => rfl)) pa_nil)))))) (pss_one ps_never) pss_nil)))))
 (pss_cons (ps_fld (pv 0) (pv 1) rfl)
 (pss_cons (ps_fld (pv 0) (pv 2) rfl)
 (pss_one (ps_fld (pv 0) (pv 3) rfl)))))))))), ?_⟩
    have n1 := ok.n1
    have n2 := ok.n2
    have uln := ok.ul
    have lln := ok.ll
    have asn : as.length = n + 1 := by rw [hw.len, lln]
    walk_at "h0"
    refine ⟨_, _, _, rfl, True.intro, ?_⟩
    rw [show numV 1 40 (.int (n : Nat)) = true from num_nat (n := 40) (by omega) (by omega)]
    walk_at "hs"
    refine ⟨_, tu, _, rfl, hu, by rw [upvs_length, uln], ?_⟩
    walk_at "hs"
    refine ⟨1, (n : Int) + 1, rfl, ⟨by omega, by omega, by omega, by omega⟩, ?_⟩
    refine lp_range (lo := 1) (n := Int.toNat ((n : Int) + 1 - 1)) (fun i σ' H' => (∃ x4 x5, σ' = [some (.ref x), some (.int n), some (.ref tu), some (.ref tl), x4, x5]) ∧ H' = H)
      ⟨⟨_, _, rfl⟩, rfl⟩ ?_ ?_
    · rintro i σ' H' hi ⟨⟨x4, x5, rfl⟩, rfl⟩
      have hi' : i < us.length := by omega
      have ha := at_pred (upvs_get (List.getElem?_eq_getElem hi'))
      have ht : SqT K H' tu (upvs us) := .of hu
      walk_at "hs"
      refine ⟨n, _, _, rfl, fun k hk => ?_, ?_⟩
      · have := ok.uo i k (by rw [List.getElem?_eq_getElem hi', hk])
        exact ⟨this.1, fun e => this.2 (by omega)⟩
      walk_at "hs"
      exact ⟨⟨_, _, rfl⟩, rfl⟩
    rintro σ' H' ⟨⟨x4, x5, rfl⟩, rfl⟩
    walk_at "hs"
    refine ⟨_, tl, _, rfl, hl, by rw [refs_length, asn]; rfl, ?_⟩
    walk_at "hs"
    refine ⟨(n : Int) + 1, rfl, by omega, by omega, ?_⟩
    have tt : SqT K H' tl (refs as) := .of hl
    have row : ∀ i : Nat, i < n + 1 → ∃ a, ∃ h : i < ls.length, atI (refs as) (0 + (i : Int)) = some (.ref a) ∧ H' a = some (.tup (wds ls[i])) := fun i hi => by
      obtain ⟨a, ha, he⟩ := hw.get (i := i) (by omega)
      refine ⟨a, by omega, ?_, he⟩
      rw [Int.zero_add]
      exact atI_nat (refs_get ha)
    refine lp_range (lo := 0) (n := Int.toNat ((n : Int) + 1)) (fun i σ' H2 => (∃ x4 x5, σ' = [some (.ref x), some (.int n), some (.ref tu), some (.ref tl), x4, x5]) ∧ H2 = H')
      ⟨⟨_, _, rfl⟩, rfl⟩ ?_ ?_
    · rintro i σ' H2 hi ⟨⟨x4, x5, rfl⟩, rfl⟩
      obtain ⟨a, hil, ha, he⟩ := row i (by omega)
      walk_at "hs"
      refine ⟨_, a, _, rfl, he, by rw [wds_length, ok.rl _ (List.getElem_mem hil)], ?_⟩
      walk_at "hs"
      exact ⟨⟨_, _, rfl⟩, rfl⟩
    rintro σ' H2 ⟨⟨x4, x5, rfl⟩, rfl⟩
    walk_at "hs"
    refine ⟨(n : Int) + 1, rfl, by omega, by omega, ?_⟩
    refine lp_range (lo := 0) (n := Int.toNat ((n : Int) + 1)) (fun i σ' H3 => (∃ x4 x5, σ' = [some (.ref x), some (.int n), some (.ref tu), some (.ref tl), x4, x5]) ∧ H3 = H2)
      ⟨⟨_, _, rfl⟩, rfl⟩ ?_ ?_
    · rintro i σ' H3 hi ⟨⟨x4, x5, rfl⟩, rfl⟩
      obtain ⟨a, hil, ha, he⟩ := row i (by omega)
      have rln := ok.rl _ (List.getElem_mem hil)
      walk_at "hs"
      refine ⟨1, (n : Int) + 1, rfl, ⟨by omega, by omega, by omega, by omega⟩, ?_⟩
      refine lp_range (lo := 1) (n := Int.toNat ((n : Int) + 1 - 1)) (fun j σ' H4 => (∃ x4, σ' = [some (.ref x), some (.int n), some (.ref tu), some (.ref tl), x4, some (.int (0 + (i : Int)))]) ∧ H4 = H3)
        ⟨⟨_, rfl⟩, rfl⟩ ?_ ?_
      · rintro j σ' H4 hj ⟨⟨x4, rfl⟩, rfl⟩
        have hjl : j < ls[i].length := by omega
        have hb := at_pred (wds_get (List.getElem?_eq_getElem hjl))
        have ht : SqT K H4 a (wds ls[i]) := .of he
        walk_at "hs"
        refine ⟨_, _, _, rfl, fun e => ?_, ?_⟩
        · have := ok.dg i ls[i] (List.getElem?_eq_getElem hil) (by omega)
          rw [show i - 1 = j by omega, List.getElem?_eq_getElem hjl] at this
          exact Option.some.inj this
        walk_at "hs"
        exact ⟨⟨_, rfl⟩, rfl⟩
      · rintro σ' H4 ⟨⟨x4, rfl⟩, rfl⟩
        exact ⟨⟨_, _, rfl⟩, rfl⟩
    rintro σ' H3 ⟨⟨x4, x5, rfl⟩, rfl⟩
    walk_at "hs"
    refine ⟨x, _, dx, _, rfl, hx, W.c, W.nb, by decide, ?_⟩
    walk_at "hs"
    refine ⟨x, _, dx, _, rfl, upd_same, W.c, W.nu, Nat.lt_of_le_of_lt (putF_len ..) (by decide), ?_⟩
    walk_at "hs"
    refine ⟨x, _, dx, _, rfl, upd_same, W.c, W.nl, Nat.lt_of_le_of_lt (putF_len ..) (Nat.lt_of_le_of_lt (Nat.succ_le_succ (putF_len ..)) (by decide)), ?_⟩
    walk_at "hs"
    have nu : tu ≠ x := fun e => by
      rw [e, hx] at hu
      cases hu
    have nl : tl ≠ x := fun e => by
      rw [e, hx] at hl
      cases hl
    refine q _ (((But.refl x H3).mut).mut.mut) ⟨dx, _, tu, tl, as, upd_same, rfl, rfl, rfl, keepM nu (keepM nu (keepM nu hu)), keepM nl (keepM nl (keepM nl hl)), ?_⟩
    exact hw.but (((But.refl x H3).mut).mut.mut) fun xs e => by
      rw [hx] at e
      cases e
end
set_option maxRecDepth 100000
set_option maxHeartbeats 1000000
open PySem PySem.Spec L2


theorem upvs_some (hs : List Nat) : upvs (rightU hs) = nats hs := by
  unfold upvs rightU nats
  rw [List.map_map]
  rfl
section
variable {P : Program} {w : World} {K : PySem.W.Frag} {mg : Str → Option Value} {base : Heap} {Z : Ad}
theorem make_words {H : Hp} {Q : VK} {E : XK} {tu tl : Addr} {n : Nat} {us : List (Option Nat)} {ls : List (List (Option Bool))} {as : List Addr} (hu : H tu = some (.tup (upvs us))) (hl : H tl = some (.tup (refs as))) (hr : Rows H as ls) (ok : WdOk n us ls) (q : ∀ m H', H m = none → Same H H' → WordsAt Z H' m n us ls → Q (.ref m) H') :
    ∀ x dx, H x = none → H dx = none → dx ≠ x → spWords Z (.ref x :: ([.int n, .ref tu, .ref tl] ++ [])) (upd (upd H dx (.own x)) x (.ins Z.a_Words dx [])) (fun v H2 => v = .non ∧ Q (.ref x) H2) E := by
  intro m dm hm hdm ne
  have hm2 : upd H dm (.own m) m = none := by
    rw [upd_ne (Ne.symm ne)]
    exact hm
  have s0 : Same H (upd (upd H dm (.own m)) m (.ins Z.a_Words dm [])) := same_new (same_new (Same.refl H) hdm) hm2
  refine ⟨m, dm, tu, tl, n, us, ls, as, rfl, upd_same, s0 _ _ hu, s0 _ _ hl, hr.same s0, ok, fun H' b1 hw => ⟨rfl, ?_⟩⟩
  have s1 : Same H H' := fun b o e => b1 _ _ (ne_of_none e hm) (s0 _ _ e)
  exact q m H' hm s1 hw
def spWof (K : PySem.W.Frag) (Z : Ad) : Sp := fun vs H Q _ => ∃ (t : Addr) (hs : List Nat), vs = [.ref t] ∧ H t = some (.tup (nats hs)) ∧ IsTree hs ∧ ∀ m H', H m = none → Same H H' → WordsAt Z H' m hs.length (rightU hs) (rightL hs) → Q (.ref m) H'
def spWordsOf (Z : Ad) : Sp := fun vs H Q _ => ∃ (x : Addr) (hs : List Nat), vs = [.ref x] ∧ TreeAt Z H x hs ∧ IsTree hs ∧ ∀ m H', H m = none → Same H H' → WordsAt Z H' m hs.length (rightU hs) (rightL hs) → Q (.ref m) H'
end
set_option maxRecDepth 100000
set_option maxHeartbeats 1000000
open PySem PySem.Spec L2


theorem sc_costs : FnScope ["words", "block", "up", "listed", "many", "found", "place", "wrong", "of_place"] ["words", "block"] (defScope s_costs) := ⟨rfl, rfl, rfl, by decide +kernel, rfl, by decide +kernel, by decide +kernel⟩
theorem sc_cost : FnScope ["words", "block", "place"] ["words", "block", "place"] (defScope s_cost) := ⟨rfl, rfl, rfl, by decide +kernel, rfl, by decide +kernel, by decide +kernel⟩
/-- costs by places, None for the block itself -/
def costsV (us : List (Option Nat)) (ls : List (List (Option Bool))) (b k : Nat) : List V := (List.range k).map fun p => if p = b then V.non else .int (costN us ls b p : Nat)
theorem costsV_len (us : List (Option Nat)) (ls : List (List (Option Bool))) (b k : Nat) : (costsV us ls b k).length = k := by
  unfold costsV
  rw [List.length_map, List.length_range]
theorem costsV_snoc (us : List (Option Nat)) (ls : List (List (Option Bool))) (b k : Nat) : costsV us ls b (k + 1) = costsV us ls b k ++ [if k = b then V.non else .int (costN us ls b k : Nat)] := by
  unfold costsV
  rw [List.range_succ, List.map_append]
  rfl
theorem costsV_get (us : List (Option Nat)) (ls : List (List (Option Bool))) (b : Nat) {k i : Nat} (h : i < k) : (costsV us ls b k)[i]? = some (if i = b then V.non else .int (costN us ls b i : Nat)) := by
  unfold costsV
  rw [List.getElem?_map, List.getElem?_range h]
  rfl
section
variable {P : Program} {w : World} {K : PySem.W.Frag} {mg : Str → Option Value} {base : Heap} {Z : Ad}
def spCosts (Z : Ad) : Sp := fun vs H Q _ => ∃ (x : Addr) (n b : Nat) (us : List (Option Nat)) (ls : List (List (Option Bool))), vs = [.ref x, .int b] ∧ WordsAt Z H x n us ls ∧ WdOk n us ls ∧ 1 ≤ b ∧ b ≤ n ∧ ∀ D H', Same H H' → H D = none → H' D = some (.lst (costsV us ls b (n + 1))) → Q (.ref D) H'
theorem ok_costs {f : Addr} {fd : FuncData} (F : Fun K "costs" "costs" s_costs f fd) (B : Bl Z mg) (W : WCls K Z) : FnOk P w K mg base CX0 1 f fd ["words", "block"] (spCosts Z) := by
  refine F.ok sc_costs (fun vs H Q E h => ?_) (fun cdv A outer s H vs Q E hr h => ?_)
  · obtain ⟨x, n, b, us, ls, rfl, _⟩ := h
    rfl
  · obtain ⟨x, n, b, us, ls, rfl, ⟨dx, fs, tu, tl, as, h1, h2, h3, h4, h5, h6, h7⟩, ok, b1, b2, q⟩ := h
    have n2 := ok.n2
    have hub : b - 1 < us.length := by rw [ok.ul]; omega
    have au : atI (upvs us) ((b : Int) - 1) = some (upV us[b - 1]) := by
      rw [show (b : Int) - 1 = ((b - 1 : Nat) : Int) by omega]
      exact upvs_at (List.getElem?_eq_getElem hub)
    have tu5 : SqT K H tu (upvs us) := .of h5
    have tl6 : SqT K H tl (refs as) := .of h6
    have asn : as.length = n + 1 := by rw [h7.len, ok.ll]
    have cl : (col ls b).length = n + 1 := by rw [col_len, ok.ll]
    refine ⟨_, (pss_cons (ps_set (i := 2) sc_costs.nd rfl (Or.inl rfl) (pe_ix (ix_tupK (K := K) rfl) (pe_fldK (K := K) rfl (pv 0) rfl) (pe_op op_sub (pv 1) pe_int) (fun _ _ => rfl)))
 (pss_cons (ps_setLc (i := 3) (own := [("of_place", 8)]) rfl sc_costs.nd rfl rfl (sw_true rfl rfl rfl (by decide +kernel)) (pi_tup (pe_fldK (K := K) rfl (pv 0) rfl)) (blkOk_by (N := ["words", "block", "up", "listed", "many", "found", "place", "wrong", "of_place"]) (sc := defScope s_costs) (by decide +kernel)) (fun _ _ _ _ _ => (pg_name (i := 8) sc_costs.nd rfl (Or.inl rfl))) (fun _ _ _ _ _ => pts_nil) (fun _ _ _ _ _ => (pe_ix (ix_tupK (K := K) rfl) (pv 8) (pe_op op_sub (pv 1) pe_int) (fun _ _ => rfl))))
 (pss_cons (ps_set (i := 4) sc_costs.nd rfl (Or.inl rfl) (pe_bmK (K := K) rfl PySem.F.plainAttrs_list PySem.F.slot_list_count PySem.F.type_list_count (mt_lcountB (K := K) rfl) (pv 3) (pa_cons pe_bl pa_nil)))
 (pss_cons (ps_set (i := 5) sc_costs.nd rfl (Or.inl rfl) (pe_lst pa_nil))
 (pss_cons (ps_for PassesOwn.never rfl (pi_range1 rfl B.b_range (pa_cons (pe_op op_add (pe_fldK (K := K) rfl (pv 0) rfl) pe_int) pa_nil)) (pg_name (i := 6) sc_costs.nd rfl (Or.inl rfl)) (C8.pss_cut (ps_set (i := 7) sc_costs.nd rfl (Or.inl rfl) (pe_ifExp (pt_cmpR op_isBk (pe_ix (ix_listK (K := K) rfl) (pv 3) (pv 6) (fun _ _ => rfl)) pe_bl (nomark _)) (pe_op op_sub (pv 4) pe_int) (pv 4)))
 (C8.pss_cut (ps_if (pt_cmpR op_isBk (pe_ix (ix_listK (K := K) rfl) (pv 3) (pv 6) (fun _ _ => rfl)) pe_bl (nomark _)) (pss_one (ps_aug (i := 7) sc_costs.nd rfl (Or.inl rfl) pe_int ip_add)) pss_nil)
 (C8.pss_cut (ps_if (PW.pt (pw_and (pt_cmpR op_notNk (pv 2) pe_non (nomark _)) (pw_and1 (pt_cmpR op_ne (pv 2) (pv 6) (nomark _))))) (pss_one (ps_aug (i := 7) sc_costs.nd rfl (Or.inl rfl) pe_int ip_add)) pss_nil)
 (pss_one (ps_expr (pe_bmK (K := K) rfl PySem.F.plainAttrs_list PySem.F.slot_list_append PySem.F.type_list_append mt_append (pv 5) (pa_cons (pe_ifExp (pt_cmpR op_eq (pv 6) (pv 1) (nomark _)) pe_non (pv 7)) pa_nil))))))))
 (pss_one (ps_ret (pv 5)))))))), ?_⟩
    walk_at "h0"
    refine ⟨x, _, dx, _, _, rfl, h1, W.c, W.nu, h3, ?_⟩
    walk_at "hs"
    refine ⟨x, _, dx, _, _, rfl, h1, W.c, W.nl, h4, ?_⟩
    refine ⟨tl, rfl, ⟨_, tl6⟩, fun L hL => ?_⟩
    refine lc_tup (K := K) (xs := refs as) (fun j H2 => Same H H2 ∧ H2 L = some (.lst (wds ((col ls b).take j)))) ⟨same_new (Same.refl _) hL, upd_same⟩ (fun j H2 _ h => h.1.seqT tl6) ?_ ?_
    · rintro j v H2 hv ⟨s2, eL⟩
      have hj : j < ls.length := by
        have := (List.getElem?_eq_some_iff.mp hv).1
        rw [refs_length, asn] at this
        rw [ok.ll]
        exact this
      obtain ⟨a, ha, he⟩ := h7.get hj
      have hv2 : v = .ref a := by
        have e := refs_get ha
        rw [hv] at e
        exact Option.some.inj e
      subst hv2
      have rln := ok.rl _ (List.getElem_mem hj)
      have hbj : b - 1 < ls[j].length := by omega
      have ta : SqT K H2 a (wds ls[j]) := .of (s2 _ _ he)
      have ab : atI (wds ls[j]) ((b : Int) - 1) = some (wdV ls[j][b - 1]) := by
        rw [show (b : Int) - 1 = ((b - 1 : Nat) : Int) by omega]
        exact wds_at (List.getElem?_eq_getElem hbj)
      walk_at "hs"
      refine ⟨rfl, ?_⟩
      walk_at "hs"
      refine ⟨_, eL, szLt (by rw [wds_length, List.length_take]; omega), same_mut s2 hL, ?_⟩
      have ec : (col ls b)[j]? = some ls[j][b - 1] := by
        unfold col
        rw [List.getElem?_map, List.getElem?_eq_getElem hj]
        show some ((ls[j][b - 1]?).getD none) = _
        rw [List.getElem?_eq_getElem hbj]
        rfl
      rw [upd_same, List.take_succ, ec, wds_app]
      rfl
    rintro H1 ⟨s1, eL⟩
    rw [refs_length, asn, ← cl, List.take_length] at eL
    walk_at "hs"
    refine x_cntB (.of eL) ?_
    walk_at "hs"
    intro D hD
    walk_at "hs"
    refine ⟨x, _, dx, _, _, rfl, keepN (s1 _ _ h1) hD, W.c, W.nb, h2, ?_⟩
    walk_at "hs"
    refine ⟨(n : Int) + 1, rfl, by omega, by omega, ?_⟩
    have eL1 := keepN (o' := .lst []) eL hD
    have nLD : L ≠ D := ne_of_none eL hD
    refine lp_range (lo := 0) (n := Int.toNat ((n : Int) + 1)) (fun i σ' H' => (∃ x6 x7, σ' = [some (.ref x), some (.int b), some (upV us[b - 1]), some (.ref L), some (.int ((col ls b).count (some true) : Nat)), some (.ref D), x6, x7, none]) ∧ Same H H' ∧ H' L = some (.lst (wds (col ls b))) ∧ H' D = some (.lst (costsV us ls b i)))
      ⟨⟨_, _, rfl⟩, same_new s1 hD, eL1, upd_same⟩ ?_ ?_
    · rintro i σ' H' hi ⟨⟨x6, x7, rfl⟩, s2, eL2, eD⟩
      have hic : i < (col ls b).length := by omega
      obtain ⟨o, ho⟩ : ∃ o, (col ls b)[i]? = some o := ⟨_, List.getElem?_eq_getElem hic⟩
      have ao : atI (wds (col ls b)) (0 + (i : Int)) = some (wdV o) := by
        rw [Int.zero_add]
        exact wds_at ho
      have tL : SqL K H' L (wds (col ls b)) := .of eL2
      have key := cost_is (us := us) (ls := ls) (b := b) (p := i) (by rw [ok.ll]; omega)
      rw [ho] at key
      walk_at "hs"
      refine ⟨fun σ' H2 => ∃ v : Int, σ' = [some (.ref x), some (.int b), some (upV us[b - 1]), some (.ref L), some (.int ((col ls b).count (some true) : Nat)), some (.ref D), some (.int (0 + (i : Int))), some (.int v), none] ∧ H2 = H' ∧ v + (if o = some true then 1 else 0) = (trueN (col ls b) : Nat), ?_, ?_⟩
      · walk_at "hs"
        refine x_isd (fun c => ?_) (fun c => ?_)
        · walk_at "hs"
          refine ⟨_, rfl, rfl, ?_⟩
          rw [if_pos c]
          show ((col ls b).count (some true) : Nat) - (1 : Int) + 1 = ((col ls b).count (some true) : Nat)
          omega
        · walk_at "hs"
          refine ⟨_, rfl, rfl, ?_⟩
          rw [if_neg c]
          show ((col ls b).count (some true) : Nat) + (0 : Int) = ((col ls b).count (some true) : Nat)
          omega
      rintro σ2 H2 ⟨v, rfl, rfl, hv⟩
      refine ⟨fun σ' H3 => ∃ v : Int, σ' = [some (.ref x), some (.int b), some (upV us[b - 1]), some (.ref L), some (.int ((col ls b).count (some true) : Nat)), some (.ref D), some (.int (0 + (i : Int))), some (.int v), none] ∧ H3 = H2 ∧ v + (if o = some true then 1 else 0) = (trueN (col ls b) : Nat) + (if o = some false then 1 else 0), ?_, ?_⟩
      · walk_at "hs"
        refine x_isd (fun c => ?_) (fun c => ?_)
        · walk_at "hs"
          refine ⟨_, rfl, rfl, ?_⟩
          rw [if_pos c]
          omega
        · walk_at "hs"
          refine ⟨_, rfl, rfl, ?_⟩
          rw [if_neg c]
          omega
      rintro σ3 H3 ⟨v, rfl, rfl, hv⟩
      refine ⟨fun σ' H4 => σ' = [some (.ref x), some (.int b), some (upV us[b - 1]), some (.ref L), some (.int ((col ls b).count (some true) : Nat)), some (.ref D), some (.int (0 + (i : Int))), some (.int (costN us ls b i : Nat)), none] ∧ H4 = H3, ?_, ?_⟩
      · have eu : up1 us b i = match us[b - 1] with | some q => if q = i then 0 else 1 | none => 0 := by
          unfold up1
          rw [List.getElem?_eq_getElem hub]
          cases us[b - 1] <;> rfl
        have fin : ∀ z : Int, z = v + (up1 us b i : Nat) → z = (costN us ls b i : Nat) := fun z hz => by
          rw [hz]
          simp only [Option.some.injEq] at key hv
          split at key <;> split at key <;> simp_all <;> omega
        cases hu : us[b - 1] with
        | none =>
          rw [hu] at eu
          dsimp only [upV]
          walk_at "hs"
          rw [fin v (by rw [eu]; show v = v + ((0 : Nat) : Int); omega)]
          exact ⟨rfl, rfl⟩
        | some k =>
          rw [hu] at eu
          dsimp only [upV]
          walk_at "hs"
          refine x_isd (fun c => ?_) (fun c => ?_)
          · walk_at "hs"
            rw [fin (v + 1) (by rw [eu]; show v + 1 = v + ((if k = i then 0 else 1 : Nat) : Int); rw [if_neg (by omega)]; rfl)]
            exact ⟨rfl, rfl⟩
          · walk_at "hs"
            rw [fin v (by rw [eu]; show v = v + ((if k = i then 0 else 1 : Nat) : Int); rw [if_pos (by omega)]; omega)]
            exact ⟨rfl, rfl⟩
      rintro σ4 H4 ⟨rfl, rfl⟩
      walk_at "hs"
      refine x_isd (fun c => ?_) (fun c => ?_)
      · walk_at "hs"
        refine x_append eD (by rw [costsV_len]; exact szLt (by omega)) ?_
        walk_at "hs"
        refine ⟨⟨_, _, rfl⟩, ?_, keepM nLD eL2, ?_⟩
        · exact same_mut s2 (s1.free hD)
        · rw [upd_same, costsV_snoc, if_pos (by omega)]
      · walk_at "hs"
        refine x_append eD (by rw [costsV_len]; exact szLt (by omega)) ?_
        walk_at "hs"
        refine ⟨⟨_, _, rfl⟩, ?_, keepM nLD eL2, ?_⟩
        · exact same_mut s2 (s1.free hD)
        · rw [upd_same, costsV_snoc, if_neg (by omega)]
    · rintro σ' H' ⟨⟨x6, x7, rfl⟩, s2, eL2, eD⟩
      walk_at "hs"
      exact q D H' s2 (s1.free hD) eD
end
set_option maxRecDepth 100000
set_option maxHeartbeats 1000000
open PySem PySem.Spec L2


theorem sc_wrong_words : FnScope ["words", "tree", "block", "place"] ["words", "tree"] (defScope s_wrong_words) := ⟨rfl, rfl, rfl, by decide +kernel, rfl, by decide +kernel, by decide +kernel⟩
/-- what a vote tells -/
def VoteAt (H : Hp) (q : Addr) (us : List (Option Nat)) (ls : List (List (Option Bool))) (n b : Nat) : Prop := ∃ (m : Nat) (T : Addr), MinIs us ls n b m ∧ H q = some (.tup [.int m, .ref T]) ∧ H T = some (.tup (nats (plN us ls b m (n + 1))))
theorem VoteAt.same {H H' : Hp} {q : Addr} {us : List (Option Nat)} {ls : List (List (Option Bool))} {n b : Nat} (s : Same H H') (h : VoteAt H q us ls n b) : VoteAt H' q us ls n b := by
  obtain ⟨m, T, h1, h2, h3⟩ := h
  exact ⟨m, T, h1, s _ _ h2, s _ _ h3⟩
section
variable {P : Program} {w : World} {K : PySem.W.Frag} {mg : Str → Option Value} {base : Heap} {Z : Ad}
def spCost (Z : Ad) : Sp := fun vs H Q _ => ∃ (x : Addr) (n b p : Nat) (us : List (Option Nat)) (ls : List (List (Option Bool))), vs = [.ref x, .int b, .int p] ∧ WordsAt Z H x n us ls ∧ WdOk n us ls ∧ 1 ≤ b ∧ b ≤ n ∧ p ≤ n ∧ p ≠ b ∧ ∀ H', Same H H' → Q (.int (costN us ls b p : Nat)) H'
theorem ok_cost {f : Addr} {fd : FuncData} (F : Fun K "cost" "cost" s_cost f fd) (B : Bl Z mg) (W : WCls K Z) {f_is_within : Addr} {fd_is_within : FuncData} (C_is_within : Cal K mg "is_within" f_is_within fd_is_within ["least", "most", "thing"]) (G_is_within : FnOk P w K mg base CX0 1 f_is_within fd_is_within ["least", "most", "thing"] spWithin) {f_costs : Addr} {fd_costs : FuncData} (C_costs : Cal K mg "costs" f_costs fd_costs ["words", "block"]) (G_costs : FnOk P w K mg base CX0 1 f_costs fd_costs ["words", "block"] (spCosts Z)) : FnOk P w K mg base CX0 2 f fd ["words", "block", "place"] (spCost Z) := by
  refine F.ok sc_cost (fun vs H Q E h => ?_) (fun cdv A outer s H vs Q E hr h => ?_)
  · obtain ⟨x, n, b, p, us, ls, rfl, _⟩ := h
    rfl
  · obtain ⟨x, n, b, p, us, ls, rfl, hw, ok, b1, b2, hp, hb, q⟩ := h
    obtain ⟨dx, fs, tu, tl, as, h1, h2, h3, h4, h5, h6, h7⟩ := id hw
    refine ⟨_, (pss_cons (ps_if (pt_not (pt_val (pe_call G_is_within (hr.mono (by first | decide | omega)) (by rfl) C_is_within.g C_is_within.k C_is_within.b .nil pass0 (pa_cons pe_int (pa_cons (pe_fldK (K := K) rfl (pv 0) rfl) (pa_cons (pv 1) pa_nil)))))) (pss_one ps_never) pss_nil)
 (pss_cons (ps_if (PW.pt (pw_or (pt_not (pt_val (pe_call G_is_within (hr.mono (by first | decide | omega)) (by rfl) C_is_within.g C_is_within.k C_is_within.b .nil pass0 (pa_cons pe_int (pa_cons (pe_fldK (K := K) rfl (pv 0) rfl) (pa_cons (pv 2) pa_nil)))))) (pw_or1 (pt_cmpR op_eq (pv 2) (pv 1) (nomark _))))) (pss_one ps_never) pss_nil)
 (pss_one (ps_ret (pe_ix (ix_listK (K := K) rfl) (pe_call G_costs (hr.mono (by first | decide | omega)) (by rfl) C_costs.g C_costs.k C_costs.b .nil pass0 (pa_cons (pv 0) (pa_cons (pv 1) pa_nil))) (pv 2) (fun _ _ => rfl)))))), ?_⟩
    walk_at "h0"
    refine ⟨x, _, dx, _, _, rfl, h1, W.c, W.nb, h2, ?_⟩
    walk_at "hs"
    refine ⟨_, _, _, rfl, True.intro, ?_⟩
    rw [num_nat (by omega) b2]
    walk_at "hs"
    refine ⟨x, _, dx, _, _, rfl, h1, W.c, W.nb, h2, ?_⟩
    walk_at "hs"
    refine ⟨_, _, _, rfl, True.intro, ?_⟩
    rw [num_nat (by omega) hp]
    walk_at "hs"
    refine x_isdF (by omega) ?_
    walk_at "hs"
    refine ⟨x, n, b, us, ls, rfl, hw, ok, b1, b2, fun D H1 s1 nD eD => ?_⟩
    have a1 : atI (costsV us ls b (n + 1)) (p : Int) = some (.int (costN us ls b p : Nat)) := by
      have := costsV_get us ls b (k := n + 1) (i := p) (by omega)
      rw [if_neg hb] at this
      exact atI_nat this
    have tD : SqL K H1 D (costsV us ls b (n + 1)) := .of eD
    walk_at "hs"
    exact q H1 s1
def spWrong (Z : Ad) : Sp := fun vs H Q _ => ∃ (x y : Addr) (n : Nat) (us : List (Option Nat)) (ls : List (List (Option Bool))) (hs : List Nat), vs = [.ref x, .ref y] ∧ WordsAt Z H x n us ls ∧ WdOk n us ls ∧ TreeAt Z H y hs ∧ IsTree hs ∧ hs.length = n ∧ ∀ H', Same H H' → Q (.int (wrongN us ls 1 hs : Nat)) H'
theorem ok_wrong {f : Addr} {fd : FuncData} (F : Fun K "wrong_words" "wrong_words" s_wrong_words f fd) (B : Bl Z mg) (W : WCls K Z) (T : IsC K Z.a_Tree) (N : NoAttr K Z.a_Tree "hung") {f_cost : Addr} {fd_cost : FuncData} (C_cost : Cal K mg "cost" f_cost fd_cost ["words", "block", "place"]) (G_cost : FnOk P w K mg base CX0 2 f_cost fd_cost ["words", "block", "place"] (spCost Z)) : FnOk P w K mg base CX0 3 f fd ["words", "tree"] (spWrong Z) := by
  refine F.ok sc_wrong_words (fun vs H Q E h => ?_) (fun cdv A outer s H vs Q E hr h => ?_)
  · obtain ⟨x, y, n, us, ls, hs, rfl, _⟩ := h
    rfl
  · obtain ⟨x, y, n, us, ls, hs, rfl, hw, ok, ht, it, hn, q⟩ := h
    obtain ⟨dx, fs, tu, tl, as, h1, h2, h3, h4, h5, h6, h7⟩ := id hw
    obtain ⟨dy, t, k1, k2⟩ := id ht
    have n2 := ok.n2
    refine ⟨_, (pss_cons (ps_if (PW.pt (pw_or (pt_not (pt_val (pe_callB (call_isiK' (K := K) rfl) (by rfl) B.b_isinstance (by decide +kernel) (pa_cons (pv 1) (pa_cons (pe_glob (v := .ref Z.a_Tree) rfl B.k_Tree rfl) pa_nil))))) (pw_or1 (pt_cmpR op_ne (pe_callB (call_lenK (K := K) rfl) (by rfl) B.b_len PySem.boot_len (pa_cons (pe_fldK (K := K) rfl (pv 1) rfl) pa_nil)) (pe_fldK (K := K) rfl (pv 0) rfl) (nomark _))))) (pss_one ps_never) pss_nil)
 (pss_one (ps_ret (pe_callB (cr_sumK (K := K) rfl rfl) (by rfl) B.b_sum (by decide +kernel) (pa_cons (pe_lc (own := [("block", 2), ("place", 3)]) rfl sc_wrong_words.nd (pi_enumTK (K := K) rfl rfl (by rfl) B.b_enumerate (by decide) (by decide) (pa_cons (pe_fldK (K := K) rfl (pv 1) rfl) pa_nil)) (blkOk_by (N := ["words", "tree", "block", "place"]) (sc := defScope s_wrong_words) (by decide +kernel)) (fun _ _ _ _ _ => (pg_tupK (K := K) (n := 2) rfl rfl (pgs_cons (pg_name (i := 2) sc_wrong_words.nd rfl (Or.inl rfl)) (pgs_cons (pg_name (i := 3) sc_wrong_words.nd rfl (Or.inl rfl)) pgs_nil)))) (fun _ _ _ _ _ => pts_nil) (fun _ _ _ _ _ => (pe_call G_cost (hr.mono (by first | decide | omega)) (by rfl) C_cost.g C_cost.k C_cost.b .nil pass0 (pa_cons (pv 0) (pa_cons (pv 2) (pa_cons (pv 3) pa_nil)))))) pa_nil))))), ?_⟩
    walk_at "h0"
    refine isi_own T k1 ?_
    walk_at "hs"
    refine ⟨y, _, dy, _, _, rfl, k1, T.cl, N, rfl, ?_⟩
    have kt : SqT K H t (nats hs) := .of k2
    walk_at "hs"
    refine ⟨x, _, dx, _, _, rfl, h1, W.c, W.nb, h2, ?_⟩
    walk_at "hs"
    rw [nats_length]
    refine x_isdF (by omega) ?_
    walk_at "hs"
    refine ⟨y, _, dy, _, _, rfl, k1, T.cl, N, rfl, ?_⟩
    walk_at "hs"
    refine x_ent1 (.of k2) fun D hD => ?_
    refine lc_enumT (K := K) (xs := nats hs) (fun i H' => Same H H' ∧ ∃ ns : List Int, H' D = some (.lst (ns.map V.int)) ∧ ns.length = i ∧ ns.sum = (wrongN us ls 1 (hs.take i) : Nat))
      ⟨same_new (Same.refl _) hD, [], upd_same, rfl, rfl⟩ (fun i H' _ h => .of (h.1 _ _ k2)) ?_ ?_
    · rintro i v H' U hv ⟨s1, ns, eD, nl, sm⟩ hU
      have hi : i < hs.length := by
        have := (List.getElem?_eq_some_iff.mp hv).1
        rwa [nats_length] at this
      have hv2 : v = .int (hs[i] : Nat) := by
        have e := nats_get (List.getElem?_eq_getElem hi)
        rw [hv] at e
        exact Option.some.inj e
      subst hv2
      walk_at "hs"
      refine ⟨rfl, ?_⟩
      walk_at "hs"
      have ec : ((1 : Int) + (i : Int)) = ((i + 1 : Nat) : Int) := by omega
      have hup : up hs (i + 1) = hs[i] := by
        unfold up
        rw [if_neg (by omega), List.getD_eq_getElem?_getD, Nat.add_sub_cancel, List.getElem?_eq_getElem hi]
        rfl
      have hne : hs[i] ≠ i + 1 := fun e => by
        have := (right_ok it).uo i hs[i] (by unfold rightU; rw [List.getElem?_map, List.getElem?_eq_getElem hi]; rfl)
        exact this.2 e
      have hle := it.le hs[i] (List.getElem_mem hi)
      refine ⟨x, n, i + 1, hs[i], us, ls, by rw [ec]; rfl, hw.same (same_new s1 hU), ok, by omega, by omega, by omega, hne, fun H2 s2 => ?_⟩
      have eD2 := s2 _ _ (keepN eD hU)
      refine ⟨_, eD2, by rw [List.length_map, nl]; exact szLt (by omega), same_mut ((same_new s1 hU).trans s2) hD, ns ++ [((costN us ls (i + 1) hs[i] : Nat) : Int)], ?_, by rw [List.length_append, nl]; rfl, ?_⟩
      · rw [upd_same, List.map_append]
        rfl
      · rw [List.sum_append, sm, List.take_succ, List.getElem?_eq_getElem hi]
        show ((wrongN us ls 1 (hs.take i) : Nat) : Int) + [((costN us ls (i + 1) hs[i] : Nat) : Int)].sum = ((wrongN us ls 1 (hs.take i ++ [hs[i]]) : Nat) : Int)
        rw [wrongN_snoc, List.length_take, Nat.min_eq_left (by omega), Nat.add_comm 1 i, List.sum_cons, List.sum_nil]
        omega
    · rintro H' ⟨s1, ns, eD, nl, sm⟩
      rw [nats_length, List.take_length] at sm
      walk_at "hs"
      refine ⟨D, ns, rfl, .of eD, ?_⟩
      rw [sm]
      exact q _ s1
def spVote (Z : Ad) : Sp := fun vs H Q _ => ∃ (x : Addr) (n b : Nat) (us : List (Option Nat)) (ls : List (List (Option Bool))), vs = [.ref x, .int b] ∧ WordsAt Z H x n us ls ∧ WdOk n us ls ∧ 1 ≤ b ∧ b ≤ n ∧ ∀ q H', Same H H' → H q = none → VoteAt H' q us ls n b → Q (.ref q) H'
def spVotes (Z : Ad) : Sp := fun vs H Q _ => ∃ (x : Addr) (n : Nat) (us : List (Option Nat)) (ls : List (List (Option Bool))), vs = [.ref x] ∧ WordsAt Z H x n us ls ∧ WdOk n us ls ∧ ∀ D qs H', Same H H' → H D = none → H' D = some (.lst (refs qs)) → qs.length = n → (∀ (k : Nat) q, qs[k]? = some q → VoteAt H' q us ls n (k + 1)) → Q (.ref D) H'
end
set_option maxRecDepth 100000
set_option maxHeartbeats 2000000
open PySem PySem.Spec L2


theorem sc__law_right : FnScope ["_law_hung", "_law_lists", "_law_place", "_law_here"] ["_law_hung"] (defScope s__law_right) := ⟨rfl, rfl, rfl, by decide +kernel, rfl, by decide +kernel, by decide +kernel⟩
section
variable {P : Program} {w : World} {K : PySem.W.Frag} {mg : Str → Option Value} {base : Heap} {Z : Ad}
def ToldAt (H : Hp) (t : Addr) (us : List (Option Nat)) (ls : List (List (Option Bool))) : Prop := ∃ tu tl as, H t = some (.tup [.ref tu, .ref tl]) ∧ H tu = some (.tup (upvs us)) ∧ H tl = some (.tup (refs as)) ∧ Rows H as ls
theorem ToldAt.same {H H' : Hp} {t : Addr} {us : List (Option Nat)} {ls : List (List (Option Bool))} (s : Same H H') (h : ToldAt H t us ls) : ToldAt H' t us ls := by
  obtain ⟨tu, tl, as, h1, h2, h3, h4⟩ := h
  exact ⟨tu, tl, as, s _ _ h1, s _ _ h2, s _ _ h3, h4.same s⟩
theorem ToldAt.but {H H' : Hp} {p t : Addr} {us : List (Option Nat)} {ls : List (List (Option Bool))} (b : But p H H') (n : ∀ xs, H p ≠ some (.tup xs)) (h : ToldAt H t us ls) : ToldAt H' t us ls := by
  obtain ⟨tu, tl, as, h1, h2, h3, h4⟩ := h
  exact ⟨tu, tl, as, b _ _ (fun e => n _ (e ▸ h1)) h1, b _ _ (fun e => n _ (e ▸ h2)) h2, b _ _ (fun e => n _ (e ▸ h3)) h3, h4.but b n⟩
def spRight (K : PySem.W.Frag) : Sp := fun vs H Q _ => ∃ (t : Addr) (hs : List Nat), vs = [.ref t] ∧ H t = some (.tup (nats hs)) ∧ IsTree hs ∧ ∀ m H', H m = none → Same H H' → ToldAt H' m (rightU hs) (rightL hs) → Q (.ref m) H'
theorem ok_right {f : Addr} {fd : FuncData} (F : Fun K "_law_right" "_law_right" s__law_right f fd) (B : Bl Z mg) : FnOk P w K mg base CX0 1 f fd ["_law_hung"] (spRight K) := by
  refine F.ok sc__law_right (fun vs H Q E h => ?_) (fun cdv A outer s H vs Q E hr h => ?_)
  · obtain ⟨t, hs, rfl, _⟩ := h
    rfl
  · obtain ⟨t, hs, rfl, ht, it, q⟩ := h
    refine ⟨_, (pss_cons (ps_set (i := 1) sc__law_right.nd rfl (Or.inl rfl) (pe_lst pa_nil))
 (pss_cons (ps_for PassesOwn.never rfl (pi_range1 rfl B.b_range (pa_cons (pe_op op_add (pe_callB (call_lenK (K := K) rfl) (by rfl) B.b_len PySem.boot_len (pa_cons (pv 0) pa_nil)) pe_int) pa_nil)) (pg_name (i := 2) sc__law_right.nd rfl (Or.inr rfl)) (pss_one (ps_expr (pe_bmK (K := K) rfl PySem.F.plainAttrs_list PySem.F.slot_list_append PySem.F.type_list_append mt_append (pv 1) (pa_cons (pe_callTy (call_tplK (K := K) rfl) (by rfl) B.b_tuple (by decide +kernel) (pa_cons (pe_lc (own := [("_law_here", 3)]) rfl sc__law_right.nd (pi_tup (pv 0)) (blkOk_by (N := ["_law_hung", "_law_lists", "_law_place", "_law_here"]) (sc := defScope s__law_right) (by decide +kernel)) (fun _ _ _ _ _ => (pg_name (i := 3) sc__law_right.nd rfl (Or.inl rfl))) (fun _ _ _ _ _ => pts_nil) (fun _ _ _ _ _ => (pe_cmpR op_eq (pv 3) (pv 2) (nomark _)))) pa_nil)) pa_nil)))))
 (pss_one (ps_ret (pe_tup (pa_cons (pv 0) (pa_cons (pe_callTy (call_tplK (K := K) rfl) (by rfl) B.b_tuple (by decide +kernel) (pa_cons (pv 1) pa_nil)) pa_nil))))))), ?_⟩
    walk_at "h0"
    intro D hD
    walk_at "hs"
    have ht0 : SqT K (upd H D (.lst [])) t (nats hs) := .of (keepN ht hD)
    walk_at "hs"
    rw [nats_length]
    have h40 := it.most
    refine ⟨(hs.length : Int) + 1, rfl, by omega, by omega, ?_⟩
    refine lp_range (lo := 0) (n := Int.toNat ((hs.length : Int) + 1)) (fun i σ' H' => (∃ x2, σ' = [some (.ref t), some (.ref D), x2, none]) ∧ Same H H' ∧ ∃ as : List Addr, as.length = i ∧ H' D = some (.lst (refs as)) ∧ ∀ (k : Nat) (a : Addr), as[k]? = some a → H' a = some (.tup (wds (hs.map fun h => some (decide (h = k))))))
      ⟨⟨_, rfl⟩, same_new (Same.refl _) hD, [], rfl, upd_same, fun k a h => by cases h⟩ ?_ ?_
    · rintro i σ' H' hi ⟨⟨x2, rfl⟩, s1, as, la, eD, rows⟩
      have ht1 : SqT K H' t (nats hs) := .of (s1 _ _ ht)
      walk_at "hs"
      refine ⟨t, rfl, ⟨_, ht1⟩, fun D2 hD2 => ?_⟩
      refine lc_tup (K := K) (xs := nats hs) (fun j H2 => Same H' H2 ∧ H2 D2 = some (.lst (wds ((hs.take j).map fun h => some (decide (h = i)))))) ⟨same_new (Same.refl _) hD2, upd_same⟩ (fun j H2 _ h => h.1.seqT ht1) ?_ ?_
      · rintro j v H2 hv ⟨s2, eD2⟩
        have hj : j < hs.length := by
          have := (List.getElem?_eq_some_iff.mp hv).1
          rwa [nats_length] at this
        have hv2 : v = .int (hs[j] : Nat) := by
          have e := nats_get (List.getElem?_eq_getElem hj)
          rw [hv] at e
          exact Option.some.inj e
        subst hv2
        walk_at "hs"
        refine ⟨rfl, ?_⟩
        walk_at "hs"
        refine ⟨_, eD2, szLt (by rw [wds_length, List.length_map, List.length_take]; omega), same_mut s2 hD2, ?_⟩
        rw [upd_same, List.take_succ, List.getElem?_eq_getElem hj, List.map_append, wds_app]
        have e : decide (((hs[j] : Nat) : Int) = 0 + (i : Int)) = decide (hs[j] = i) := by
          rw [decide_eq_decide]
          omega
        rw [e]
        rfl
      · rintro H2 ⟨s2, eD2⟩
        rw [nats_length, List.take_length] at eD2
        walk_at "hs"
        intro U hU
        have hUD : U ≠ D := Ne.symm (ne_of_none (s2 _ _ eD) hU)
        walk_at "hs"
        refine x_append (keepN (s2 _ _ eD) hU) (by rw [refs_length]; exact szLt (by omega)) ?_
        walk_at "hs"
        refine ⟨⟨_, rfl⟩, same_mut (same_new (s1.trans s2) hU) hD, as ++ [U], by rw [List.length_append, la]; rfl, by rw [upd_same, refs_app]; rfl, fun k a h => ?_⟩
        rcases Nat.lt_or_ge k as.length with hk | hk
        · rw [List.getElem?_append_left hk] at h
          have e := rows k a h
          exact keepM (fun z => by rw [z, eD] at e; cases e) (keepN (s2 _ _ e) hU)
        · rw [List.getElem?_append_right hk] at h
          have hk0 : k - as.length = 0 := by
            have := (List.getElem?_eq_some_iff.mp h).1
            rw [List.length_singleton] at this
            omega
          rw [hk0] at h
          have ea : U = a := Option.some.inj h
          subst ea
          have ek : k = i := by omega
          subst ek
          exact keepM hUD upd_same
    · rintro σ' H' ⟨⟨x2, rfl⟩, s1, as, la, eD, rows⟩
      walk_at "hs"
      intro U hU
      walk_at "hs"
      intro V hV
      have s2 : Same H (upd H' U (.tup (refs as))) := same_new s1 hU
      refine q V _ (s2.free hV) (same_new s2 hV) ⟨t, U, as, upd_same, keepN (by rw [upvs_some]; exact s2 _ _ ht) hV, keepN upd_same hV, ⟨by rw [la, rightL_len]; omega, fun k a r ha hr => ?_⟩⟩
      have hk := (List.getElem?_eq_some_iff.mp ha).1
      rw [rightL_get (by omega)] at hr
      cases hr
      exact keepN (keepN (rows k a ha) hU) hV
end
set_option maxRecDepth 100000
set_option maxHeartbeats 2000000
open PySem PySem.Spec L2


theorem sc__law_put : FnScope ["_law_things", "_law_at", "_law_thing"] ["_law_things", "_law_at", "_law_thing"] (defScope s__law_put) := ⟨rfl, rfl, rfl, by decide +kernel, rfl, by decide +kernel, by decide +kernel⟩
theorem sc__law_tree : FnScope ["_law_hand_here", "_law_blocks", "_law_left", "_law_order", "_law_hung", "_law_kind", "_law_turn", "_law_block", "_law_near"] ["_law_hand_here", "_law_blocks"] (defScope s__law_tree) := ⟨rfl, rfl, rfl, by decide +kernel, rfl, by decide +kernel, by decide +kernel⟩
section
variable {P : Program} {w : World} {K : PySem.W.Frag} {mg : Str → Option Value} {base : Heap} {Z : Ad}
def spPut : Sp := fun vs H Q _ => ∃ (t : Addr) (xs : List V) (k : Nat) (v : V), vs = [.ref t, .int (k : Int), v] ∧ H t = some (.tup xs) ∧ k < xs.length ∧ xs.length ≤ 1000 ∧ ∀ q H', Same H H' → H' q = some (.tup (xs.set k v)) → Q (.ref q) H'
theorem ok_put {f : Addr} {fd : FuncData} (F : Fun K "_law_put" "_law_put" s__law_put f fd) (B : Bl Z mg) : FnOk P w K mg base CX0 1 f fd ["_law_things", "_law_at", "_law_thing"] spPut := by
  refine F.ok sc__law_put (fun vs H Q E h => ?_) (fun cdv A outer s H vs Q E hr h => ?_)
  · obtain ⟨t, xs, k, v, rfl, _⟩ := h
    rfl
  · obtain ⟨t, xs, k, v, rfl, ht, hk, hl, q⟩ := h
    refine ⟨_, (pss_one (ps_ret (pe_op (op_catAK (K := K) rfl) (pe_op (op_catAK (K := K) rfl) (pe_slice (sl_tupAK (K := K) rfl) (pv 0) po_none (po_some (pv 1))) (pe_tup (pa_cons (pv 2) pa_nil))) (pe_slice (sl_tupAK (K := K) rfl) (pv 0) (po_some (pe_op op_add (pv 1) pe_int)) po_none)))), ?_⟩
    walk_at "h0"
    refine x_slA ht fun D2 H2 s2 e2 => ?_
    rw [cut_take] at e2
    walk_at "hs"
    intro p1 n1
    walk_at "hs"
    refine x_catA (keepN e2 n1) upd_same (by rw [List.length_take, List.length_cons, List.length_nil]; omega) fun D3 H3 s3 e3 => ?_
    have s13 : Same H H3 := fun a o e => s3 _ _ (keepN (s2 _ _ e) n1)
    walk_at "hs"
    refine x_slA (s13 _ _ ht) fun D4 H4 s4 e4 => ?_
    rw [show ((k : Int) + 1) = ((k + 1 : Nat) : Int) by omega, cut_drop] at e4
    refine x_catA (s4 _ _ e3) e4 (by rw [List.length_append, List.length_take, List.length_drop, List.length_cons, List.length_nil]; omega) fun D5 H5 s5 e5 => ?_
    refine q D5 H5 (fun a o e => s5 _ _ (s4 _ _ (s13 _ _ e))) ?_
    rw [e5, List.set_eq_take_append_cons_drop, if_pos hk, List.append_assoc]
    rfl
theorem ok_ltree {f : Addr} {fd : FuncData} (F : Fun K "_law_tree" "_law_tree" s__law_tree f fd) (B : Bl Z mg) {f__law_draw : Addr} {fd__law_draw : FuncData} (C__law_draw : Cal K mg "_law_draw" f__law_draw fd__law_draw ["_law_hand_here", "_law_many"]) (G__law_draw : FnOk P w K mg base CX0 1 f__law_draw fd__law_draw ["_law_hand_here", "_law_many"] spDraw) : FnOk P w K mg base CX0 2 f fd ["_law_hand_here", "_law_blocks"] spHung := by
  refine F.ok sc__law_tree (fun vs H Q E h => ?_) (fun cdv A outer s H vs Q E hr h => ?_)
  · obtain ⟨p, n, Fo, rfl, _⟩ := h
    rfl
  · obtain ⟨p, n, Fo, rfl, hp, n1, n2, q⟩ := h
    refine ⟨_, (pss_cons (ps_set (i := 2) sc__law_tree.nd rfl (Or.inl rfl) (pe_listRg rfl (by rfl) B.b_list (prg_2 (by rfl) B.b_range pe_int (pe_op op_add (pv 1) pe_int))))
 (pss_cons (ps_set (i := 3) sc__law_tree.nd rfl (Or.inl rfl) (pe_lst (pa_cons pe_int pa_nil)))
 (pss_cons (ps_set (i := 4) sc__law_tree.nd rfl (Or.inl rfl) (pe_op op_rep (pe_lst (pa_cons pe_int pa_nil)) (pv 1)))
 (pss_cons (ps_set (i := 5) sc__law_tree.nd rfl (Or.inl rfl) (pe_call G__law_draw (hr.mono (by first | decide | omega)) (by rfl) C__law_draw.g C__law_draw.k C__law_draw.b .nil pass0 (pa_cons (pv 0) (pa_cons pe_int pa_nil))))
 (pss_cons (ps_for PassesOwn.never rfl (pi_range1 rfl B.b_range (pa_cons (pv 1) pa_nil)) (pg_name (i := 6) sc__law_tree.nd rfl (Or.inl rfl)) (pss_cons (ps_set (i := 7) sc__law_tree.nd rfl (Or.inl rfl) (pe_bmK (K := K) rfl PySem.F.plainAttrs_list PySem.F.slot_list_pop PySem.F.type_list_pop mt_popAt (pv 2) (pa_cons (pe_call G__law_draw (hr.mono (by first | decide | omega)) (by rfl) C__law_draw.g C__law_draw.k C__law_draw.b .nil pass0 (pa_cons (pv 0) (pa_cons (pe_callB (call_lenK (K := K) rfl) (by rfl) B.b_len PySem.boot_len (pa_cons (pv 2) pa_nil)) pa_nil))) pa_nil)))
 (pss_cons (ps_set (i := 8) sc__law_tree.nd rfl (Or.inl rfl) (pe_callB (call_max2 rfl) (by rfl) B.b_max (by decide +kernel) (pa_cons pe_int (pa_cons (pe_ix (ix_listK (K := K) rfl) (pe_lst (pa_cons (pe_callB (call_lenK (K := K) rfl) (by rfl) B.b_len PySem.boot_len (pa_cons (pv 3) pa_nil)) (pa_cons pe_int (pa_cons pe_int pa_nil)))) (pv 5) (fun _ _ => rfl)) pa_nil))))
 (pss_cons (ps_asg (pe_ix (ix_listK (K := K) rfl) (pv 3) (pe_op op_sub (pe_op op_sub (pe_callB (call_lenK (K := K) rfl) (by rfl) B.b_len PySem.boot_len (pa_cons (pv 3) pa_nil)) pe_int) (pe_call G__law_draw (hr.mono (by first | decide | omega)) (by rfl) C__law_draw.g C__law_draw.k C__law_draw.b .nil pass0 (pa_cons (pv 0) (pa_cons (pe_callB (call_min2 rfl) (by rfl) B.b_min (by decide +kernel) (pa_cons (pv 8) (pa_cons (pe_callB (call_lenK (K := K) rfl) (by rfl) B.b_len PySem.boot_len (pa_cons (pv 3) pa_nil)) pa_nil))) pa_nil)))) (fun _ _ => rfl)) (pg_sub (pv 4) (pe_op op_sub (pv 7) pe_int) set_list))
 (pss_one (ps_expr (pe_bmK (K := K) rfl PySem.F.plainAttrs_list PySem.F.slot_list_append PySem.F.type_list_append mt_append (pv 3) (pa_cons (pv 7) pa_nil))))))))
 (pss_one (ps_ret (pe_callTy (call_tplK (K := K) rfl) (by rfl) B.b_tuple (by decide +kernel) (pa_cons (pv 4) pa_nil))))))))), ?_⟩
    walk_at "h0"
    refine ⟨⟨by omega, by omega, by omega, by omega, by omega⟩, fun L hL => ?_⟩
    rw [rgV_nats]
    walk_at "hs"
    intro O hO
    walk_at "hs"
    intro l1 hl1
    walk_at "hs"
    refine x_rep1 upd_same (by omega) fun R hR => ?_
    rw [nats_rep]
    walk_at "hs"
    have pL := hp.own (o := .lst (nats (List.range' 1 n))) hL
    have pO := pL.own (o := .lst (nats [0])) hO
    have pl := pO.newH (o := .lst [.int 0]) hl1
    have pR := pl.own (o := .lst (nats (List.replicate n 0))) hR
    refine ⟨p, 3, _, rfl, pR, by omega, by omega, fun kd H1 k0 k1 b1 p1 => ?_⟩
    walk_at "hs"
    have nO : O ≠ L := Ne.symm (ne_of_none upd_same hO)
    have eL0 : upd (upd (upd (upd H L (.lst (nats (List.range' 1 n)))) O (.lst (nats [0]))) l1 (.lst [.int 0])) R (.lst (nats (List.replicate n 0))) L = some (.lst (nats (List.range' 1 n))) := keepN (keepN (keepN upd_same hO) hl1) hR
    have eO0 : upd (upd (upd (upd H L (.lst (nats (List.range' 1 n)))) O (.lst (nats [0]))) l1 (.lst [.int 0])) R (.lst (nats (List.replicate n 0))) O = some (.lst (nats [0])) := keepN (keepN upd_same hl1) hR
    have RL : R ≠ L := Ne.symm (ne_of_none (keepN (keepN upd_same hO) hl1) hR)
    have RO : R ≠ O := Ne.symm (ne_of_none (keepN upd_same hl1) hR)
    have fL : H L = none := hL
    have fO : H O = none := Same.free (H' := upd H L _) (same_new (Same.refl _) hL) hO
    have fl1 : H l1 = none := Same.free (same_new (same_new (Same.refl _) hL) hO) hl1
    have fR : H R = none := Same.free (same_new (same_new (same_new (Same.refl _) hL) hO) hl1) hR
    have b0 : But p H (upd (upd (upd (upd H L (.lst (nats (List.range' 1 n)))) O (.lst (nats [0]))) l1 (.lst [.int 0])) R (.lst (nats (List.replicate n 0)))) := ((((But.refl p H).new hL).new hO).new hl1).new hR
    refine ⟨n, rfl, by omega, by omega, ?_⟩
    refine lp_range (lo := 0) (n := Int.toNat n) (fun i σ' H' => (∃ x6 x7 x8, σ' = [some (.ref p), some (.int n), some (.ref L), some (.ref O), some (.ref R), some (.int kd), x6, x7, x8]) ∧ ∃ ls ms fs : List Nat, (ms ++ ls).Perm (List.range' 1 n) ∧ ms.length = i ∧ fs.length = n ∧ But p H H' ∧ PoolAt H' p (fun a => a = R ∨ a = O ∨ a = L ∨ Fo a) ∧ H' L = some (.lst (nats ls)) ∧ H' O = some (.lst (nats (0 :: ms))) ∧ H' R = some (.lst (nats fs)) ∧ ∀ (i' x : Nat), ms[i']? = some x → ∃ j y : Nat, j ≤ i' ∧ (0 :: ms)[j]? = some y ∧ fs[x - 1]? = some y)
      ⟨⟨_, _, _, rfl⟩, List.range' 1 n, [], List.replicate n 0, List.Perm.refl _, rfl, List.length_replicate, b0.trans b1, p1, b1 _ _ (pR.neF (.inr (.inr (.inl rfl)))) eL0, b1 _ _ (pR.neF (.inr (.inl rfl))) eO0, b1 _ _ (pR.neF (.inl rfl)) upd_same, fun i' x h => by cases h⟩ ?_ ?_
    · rintro i σ' H' hi ⟨⟨x6, x7, x8, rfl⟩, ls, ms, fs, hpm, hm, hfs, b2, p2, eL, eO, eR, hd⟩
      have hlen : ms.length + ls.length = n := by rw [← List.length_append, hpm.length_eq, List.length_range']
      walk_at "hs"
      refine ⟨p, _, _, rfl, p2, by rw [nats_length]; omega, by rw [nats_length]; omega, fun d H2 d0 d1 b3 p3 => ?_⟩
      rw [nats_length] at d1
      obtain ⟨k, rfl⟩ := Int.eq_ofNat_of_zero_le d0
      have hk : k < ls.length := by omega
      have eL2 := b3 _ _ (p2.neF (.inr (.inr (.inl rfl)))) eL
      have eO2 := b3 _ _ (p2.neF (.inr (.inl rfl))) eO
      have eR2 := b3 _ _ (p2.neF (.inl rfl)) eR
      walk_at "hs"
      refine x_popAt eL2 (by omega) (by omega) (ixN_nat (by rw [nats_length]; exact hk)) (nats_get (List.getElem?_eq_getElem hk)) ?_
      have eO3 : upd H2 L (.lst ((nats ls).eraseIdx k)) O = some (.lst (nats (0 :: ms))) := keepM nO eO2
      have eR3 : upd H2 L (.lst ((nats ls).eraseIdx k)) R = some (.lst (nats fs)) := keepM RL eR2
      have p4 := p3.mut (o := .lst ((nats ls).eraseIdx k)) (.inr (.inr (.inl rfl)))
      have b4 : But p H (upd H2 L (.lst ((nats ls).eraseIdx k))) := (b2.trans b3).mutF fL
      have eL3 : upd H2 L (.lst ((nats ls).eraseIdx k)) L = some (.lst (nats (ls.eraseIdx k))) := by rw [upd_same, nats_erase]
      have hxm : 1 ≤ ls[k] ∧ ls[k] ≤ n := by
        have := List.mem_range'_1.mp (hpm.mem_iff.mp (List.mem_append.mpr (.inr (List.getElem_mem hk))))
        omega
      generalize upd H2 L (.lst ((nats ls).eraseIdx k)) = H3 at *
      walk_at "hs"
      intro T hT
      obtain ⟨m, hm1, hv⟩ : ∃ m : Int, 1 ≤ m ∧ atI [V.int ((nats (0 :: ms)).length : Nat), .int 2, .int 1] kd = some (.int m) := by
        have c : kd = 0 ∨ kd = 1 ∨ kd = 2 := by omega
        rcases c with rfl | rfl | rfl
        · exact ⟨_, by rw [nats_length, List.length_cons]; omega, rfl⟩
        · exact ⟨2, by decide, rfl⟩
        · exact ⟨1, by decide, rfl⟩
      walk_at "hs"
      obtain ⟨nw, hnw, e8⟩ : ∃ nw : Int, 1 ≤ nw ∧ (if m > 1 then m else 1) = nw := ⟨_, by split <;> omega, rfl⟩
      refine ⟨1, m, rfl, ?_⟩
      rw [e8]
      have eO4 := keepN (o' := .lst [V.int ((nats (0 :: ms)).length : Nat), .int 2, .int 1]) eO3 hT
      have eL4 := keepN (o' := .lst [V.int ((nats (0 :: ms)).length : Nat), .int 2, .int 1]) eL3 hT
      have eR4 := keepN (o' := .lst [V.int ((nats (0 :: ms)).length : Nat), .int 2, .int 1]) eR3 hT
      have p5 := p4.newH (o := .lst [V.int ((nats (0 :: ms)).length : Nat), .int 2, .int 1]) hT
      have b5 := b4.new (o := .lst [V.int ((nats (0 :: ms)).length : Nat), .int 2, .int 1]) hT
      have nl : (nats (0 :: ms)).length = i + 1 := by rw [nats_length, List.length_cons, hm]
      generalize upd H3 T (.lst [V.int ((nats (0 :: ms)).length : Nat), .int 2, .int 1]) = H4 at *
      walk_at "hs"
      refine ⟨nw, _, rfl, ?_⟩
      walk_at "hs"
      rw [nl]
      refine ⟨p, _, _, rfl, p5, by split <;> omega, by split <;> omega, fun d2 H5 d20 d21 b6 p6 => ?_⟩
      have d22 : d2 < ((i + 1 : Nat) : Int) := by
        revert d21
        split <;> intro d21 <;> omega
      obtain ⟨k2, hk2⟩ : ∃ k2 : Nat, ((i + 1 : Nat) : Int) - 1 - d2 = (k2 : Int) := ⟨(((i + 1 : Nat) : Int) - 1 - d2).toNat, by omega⟩
      have k2l : k2 < (0 :: ms).length := by rw [List.length_cons]; omega
      have eO5 := b6 _ _ (p5.neF (.inr (.inl rfl))) eO4
      have eL5 := b6 _ _ (p5.neF (.inr (.inr (.inl rfl)))) eL4
      have eR5 := b6 _ _ (p5.neF (.inl rfl)) eR4
      have at5 : atI (nats (0 :: ms)) (k2 : Int) = some (.int ((0 :: ms)[k2] : Nat)) := atI_nat (nats_get (List.getElem?_eq_getElem k2l))
      have at6 : ixN (nats fs).length ((ls[k] : Nat) - 1 : Int) = some (ls[k] - 1) := by
        rw [show ((ls[k] : Nat) - 1 : Int) = ((ls[k] - 1 : Nat) : Int) by omega]
        exact ixN_nat (by rw [nats_length]; omega)
      walk_at "hs"
      rw [hk2]
      walk_at "hs"
      refine x_append (keepM (Ne.symm RO) eO5) (by rw [nats_length, List.length_cons]; exact szLt (by omega)) ?_
      walk_at "hs"
      have f5 : But p H H5 := b5.trans b6
      refine ⟨⟨_, _, _, rfl⟩, ls.eraseIdx k, ms ++ [ls[k]], fs.set (ls[k] - 1) (0 :: ms)[k2], ?_, by rw [List.length_append, hm]; rfl, by rw [List.length_set]; exact hfs, (f5.mutF fR).mutF fO, (p6.mut (.inl rfl)).mut (.inr (.inl rfl)), ?_, ?_, ?_, fun i' x hx => ?_⟩
      · rw [List.append_assoc]
        exact ((perm_erase (List.getElem?_eq_getElem hk)).append_left ms).trans hpm
      · rw [upd_ne (Ne.symm nO), upd_ne (Ne.symm RL)]
        exact eL5
      · rw [upd_same, show nats (0 :: (ms ++ [ls[k]])) = nats (0 :: ms) ++ nats [ls[k]] from nats_append (0 :: ms) [ls[k]]]
        rfl
      · rw [upd_ne RO, upd_same, nats_set]
      · rcases Nat.lt_or_ge i' ms.length with h | h
        · rw [List.getElem?_append_left h] at hx
          obtain ⟨j, y, hj, hy, hf⟩ := hd i' x hx
          refine ⟨j, y, hj, by rw [← List.cons_append, List.getElem?_append_left (by rw [List.length_cons]; omega)]; exact hy, ?_⟩
          have hne : ls[k] - 1 ≠ x - 1 := fun e2 => by
            have hxm' := List.mem_range'_1.mp (hpm.mem_iff.mp (List.mem_append.mpr (.inl (List.mem_of_getElem? hx))))
            have nd : (ms ++ ls).Nodup := hpm.nodup_iff.mpr (List.nodup_range' ..)
            have e3 : x = ls[k] := by omega
            exact (List.nodup_append.mp nd).2.2 x (List.mem_of_getElem? hx) ls[k] (List.getElem_mem hk) e3
          rw [List.getElem?_set_ne hne]
          exact hf
        · rw [List.getElem?_append_right h] at hx
          have hk0 : i' - ms.length = 0 := by
            have := (List.getElem?_eq_some_iff.mp hx).1
            rw [List.length_singleton] at this
            omega
          rw [hk0] at hx
          have ex : ls[k] = x := Option.some.inj hx
          subst ex
          rw [List.length_cons] at k2l
          refine ⟨k2, (0 :: ms)[k2], by omega, by rw [← List.cons_append, List.getElem?_append_left (by rw [List.length_cons]; omega)]; exact List.getElem?_eq_getElem _, by rw [List.getElem?_set_self (by omega)]⟩
    · rintro σ' H' ⟨⟨x6, x7, x8, rfl⟩, ls, ms, fs, hpm, hm, hfs, b2, p2, eL, eO, eR, hd⟩
      have hlen : ms.length + ls.length = n := by rw [← List.length_append, hpm.length_eq, List.length_range']
      have e : ls = [] := List.length_eq_zero_iff.mp (by omega)
      rw [e, List.append_nil] at hpm
      have htree : IsTree fs := Drawn.tree ⟨ms, by rw [hfs]; exact hpm, hd⟩ (by omega) (by omega)
      walk_at "hs"
      intro D hD
      exact q D fs _ htree hfs (b2.new hD) ((p2.newH hD).weak fun a h => .inr (.inr (.inr h))) (b2.freeB (p2.ne hD) hD) upd_same
end
set_option maxRecDepth 100000
set_option maxHeartbeats 2000000
open PySem PySem.Spec L2


theorem upv_mem {n : Nat} {b : Nat} {v : V} {cs : List Nat} (hc : ∀ q ∈ cs, q ≤ n ∧ q ≠ b) (h : v ∈ nats cs ++ [V.non]) : ∃ o : Option Nat, v = upV o ∧ ∀ q, o = some q → q ≤ n ∧ q ≠ b := by
  rcases List.mem_append.mp h with h | h
  · obtain ⟨q, hq, rfl⟩ := List.mem_map.mp h
    exact ⟨some q, rfl, fun q' e => by cases e; exact hc _ hq⟩
  · exact ⟨none, List.mem_singleton.mp h, fun q' e => by cases e⟩
theorem Rows.mut {H : Hp} {q : Addr} {ys : List V} {o : HO} {as : List Addr} {ls : List (List (Option Bool))} (hq : H q = some (.lst ys)) (h : Rows H as ls) : Rows (upd H q o) as ls := ⟨h.len, fun i a r ha hr => keepM (fun e => by
  have := h.at_ i a r ha hr
  rw [e, hq] at this
  cases this) (h.at_ i a r ha hr)⟩
theorem PoolAt.notTup {H : Hp} {p : Addr} {F : Addr → Prop} (h : PoolAt H p F) : ∀ xs, H p ≠ some (.tup xs) := fun xs e => by
  obtain ⟨ys, e2⟩ := h.lst
  rw [e] at e2
  cases e2
section
variable {P : Program} {w : World} {K : PySem.W.Frag} {mg : Str → Option Value} {base : Heap} {Z : Ad}
def spAnyW : Sp := fun vs H Q _ => ∃ (p : Addr) (n : Nat) (F : Addr → Prop), vs = [.ref p, .int n] ∧ PoolAt H p F ∧ 1 ≤ n ∧ n ≤ 40 ∧ ∀ (m : Addr) (us : List (Option Nat)) (ls : List (List (Option Bool))) H', WdOk n us ls → But p H H' → PoolAt H' p F → ToldAt H' m us ls → Q (.ref m) H'
theorem ok_lany {f : Addr} {fd : FuncData} (F : Fun K "_law_any" "_law_any" s__law_any f fd) (B : Bl Z mg) {f__law_draw : Addr} {fd__law_draw : FuncData} (C__law_draw : Cal K mg "_law_draw" f__law_draw fd__law_draw ["_law_hand_here", "_law_many"]) (G__law_draw : FnOk P w K mg base CX0 1 f__law_draw fd__law_draw ["_law_hand_here", "_law_many"] spDraw) : FnOk P w K mg base CX0 2 f fd ["_law_hand_here", "_law_blocks"] spAnyW := by
  refine F.ok sc__law_any (fun vs H Q E h => ?_) (fun cdv A outer s H vs Q E hr h => ?_)
  · obtain ⟨p, n, Fo, rfl, _⟩ := h
    rfl
  · obtain ⟨p, n, Fo, rfl, hp, n1, n2, q⟩ := h
    refine ⟨_, (pss_cons (ps_set (i := 2) sc__law_any.nd rfl (Or.inl rfl) (pe_lst pa_nil))
 (pss_cons (ps_for PassesOwn.never rfl (pi_range2 rfl B.b_range (pa_cons pe_int (pa_cons (pe_op op_add (pv 1) pe_int) pa_nil))) (pg_name (i := 3) sc__law_any.nd rfl (Or.inr rfl)) (pss_cons (ps_set (i := 4) sc__law_any.nd rfl (Or.inl rfl) (pe_op op_cat (pe_lc (own := [("_law_place", 6)]) rfl sc__law_any.nd (pi_range1 rfl B.b_range (pa_cons (pe_op op_add (pv 1) pe_int) pa_nil)) (blkOk_by (N := ["_law_hand_here", "_law_blocks", "_law_ups", "_law_block", "_law_places", "_law_lists", "_law_place", "_law_row"]) (sc := defScope s__law_any) (by decide +kernel)) (fun _ _ _ _ _ => (pg_name (i := 6) sc__law_any.nd rfl (Or.inl rfl))) (fun _ _ _ _ _ => (pts_one (pt_cmpR op_ne (pv 6) (pv 3) (nomark _)))) (fun _ _ _ _ _ => (pv 6))) (pe_lst (pa_cons pe_non pa_nil))))
 (pss_one (ps_expr (pe_bmK (K := K) rfl PySem.F.plainAttrs_list PySem.F.slot_list_append PySem.F.type_list_append mt_append (pv 2) (pa_cons (pe_ix (ix_listK (K := K) rfl) (pv 4) (pe_call G__law_draw (hr.mono (by first | decide | omega)) (by rfl) C__law_draw.g C__law_draw.k C__law_draw.b .nil pass0 (pa_cons (pv 0) (pa_cons (pe_callB (call_lenK (K := K) rfl) (by rfl) B.b_len PySem.boot_len (pa_cons (pv 4) pa_nil)) pa_nil))) (fun _ _ => rfl)) pa_nil))))))
 (pss_cons (ps_set (i := 5) sc__law_any.nd rfl (Or.inl rfl) (pe_lst pa_nil))
 (pss_cons (ps_for PassesOwn.never rfl (pi_range1 rfl B.b_range (pa_cons (pe_op op_add (pv 1) pe_int) pa_nil)) (pg_name (i := 6) sc__law_any.nd rfl (Or.inl rfl)) (pss_cons (ps_setLc (i := 7) (own := [("_law_block", 3)]) rfl sc__law_any.nd rfl rfl (sw_true rfl rfl rfl (by decide +kernel)) (pi_range1 rfl B.b_range (pa_cons (pv 1) pa_nil)) (blkOk_by (N := ["_law_hand_here", "_law_blocks", "_law_ups", "_law_block", "_law_places", "_law_lists", "_law_place", "_law_row"]) (sc := defScope s__law_any) (by decide +kernel)) (fun _ _ _ _ _ => (pg_name (i := 3) sc__law_any.nd rfl (Or.inl rfl))) (fun _ _ _ _ _ => pts_nil) (fun _ _ _ _ _ => (pe_ix (ix_listK (K := K) rfl) (pe_lst (pa_cons pe_bl (pa_cons pe_bl (pa_cons pe_bl (pa_cons pe_non pa_nil))))) (pe_call G__law_draw (hr.mono (by first | decide | omega)) (by rfl) C__law_draw.g C__law_draw.k C__law_draw.b .nil pass0 (pa_cons (pv 0) (pa_cons pe_int pa_nil))) (fun _ _ => rfl))))
 (C8.pss_cut (ps_if (pt_cmpR op_gt (pv 6) pe_int (nomark _)) (pss_one (ps_asg pe_bl (pg_sub (pv 7) (pe_op op_sub (pv 6) pe_int) set_list))) pss_nil)
 (pss_one (ps_expr (pe_bmK (K := K) rfl PySem.F.plainAttrs_list PySem.F.slot_list_append PySem.F.type_list_append mt_append (pv 5) (pa_cons (pe_callTy (call_tplK (K := K) rfl) (by rfl) B.b_tuple (by decide +kernel) (pa_cons (pv 7) pa_nil)) pa_nil)))))))
 (pss_one (ps_ret (pe_tup (pa_cons (pe_callTy (call_tplK (K := K) rfl) (by rfl) B.b_tuple (by decide +kernel) (pa_cons (pv 2) pa_nil)) (pa_cons (pe_callTy (call_tplK (K := K) rfl) (by rfl) B.b_tuple (by decide +kernel) (pa_cons (pv 5) pa_nil)) pa_nil))))))))), ?_⟩
    walk_at "h0"
    intro D hD
    walk_at "hs"
    have pD := hp.own (o := .lst []) hD
    refine ⟨1, (n : Int) + 1, rfl, ⟨by omega, by omega, by omega, by omega⟩, ?_⟩
    refine lp_range (lo := 1) (n := Int.toNat ((n : Int) + 1 - 1)) (fun i σ' H' => (∃ x3 x4, σ' = [some (.ref p), some (.int n), some (.ref D), x3, x4, none, none, none]) ∧ ∃ us : List (Option Nat), us.length = i ∧ But p H H' ∧ PoolAt H' p (fun a => a = D ∨ Fo a) ∧ H' D = some (.lst (upvs us)) ∧ ∀ b q, us[b]? = some (some q) → q ≤ n ∧ q ≠ b + 1)
      ⟨⟨_, _, rfl⟩, [], rfl, by walk_at "bt", pD, upd_same, fun b q h => by cases h⟩ ?_ ?_
    · rintro i σ' H' hi ⟨⟨x3, x4, rfl⟩, us, hus, b1, p1, eD, hd⟩
      walk_at "hs"
      refine ⟨(n : Int) + 1, rfl, by omega, by omega, fun C hC => ?_⟩
      refine lc_range (lo := 0) (n := Int.toNat ((n : Int) + 1)) (fun j G => Same H' G ∧ ∃ cs : List Nat, cs.length ≤ j ∧ (∀ c ∈ cs, c ≤ n ∧ c ≠ i + 1) ∧ G C = some (.lst (nats cs))) ⟨same_new (Same.refl _) hC, [], Nat.le_refl _, (fun c h => by cases h), upd_same⟩ ?_ ?_
      · rintro j G hj ⟨s2, cs, lc, hcs, eC⟩
        walk_at "hs"
        refine ⟨rfl, ?_⟩
        walk_at "hs"
        refine x_isd (fun c => ?_) (fun c => ?_)
        · walk_at "hs"
          refine ⟨_, eC, szLt (by rw [nats_length]; omega), same_mut s2 hC, cs ++ [j], by rw [List.length_append, List.length_singleton]; omega, fun c' hc' => ?_, ?_⟩
          · rcases List.mem_append.mp hc' with h | h
            · exact hcs _ h
            · have := List.mem_singleton.mp h
              omega
          · rw [upd_same, nats_append, Int.zero_add]
            rfl
        · exact ⟨s2, cs, by omega, hcs, eC⟩
      · rintro G ⟨s2, cs, lc, hcs, eC⟩
        walk_at "hs"
        intro N1 hN1
        walk_at "hs"
        refine x_cat (keepN eC hN1) upd_same (szLe (by rw [nats_length]; show _ + 1 ≤ _; omega)) fun E hE => ?_
        walk_at "hs"
        have pE := ((p1.same s2).newH (o := .lst [.non]) hN1).newH (o := .lst (nats cs ++ [.non])) hE
        have bE : But p H (upd (upd G N1 (.lst [.non])) E (.lst (nats cs ++ [.non]))) := ((b1.trans (But.of s2)).new hN1).new hE
        have lE : (nats cs ++ [V.non]).length = cs.length + 1 := by rw [List.length_append, nats_length]; rfl
        refine ⟨p, _, _, rfl, pE, by rw [lE]; omega, by rw [lE]; omega, fun d H4 d0 d1 b4 p4 => ?_⟩
        obtain ⟨v, hv, hm⟩ := at_lt (xs := nats cs ++ [V.non]) d0 d1
        obtain ⟨o, rfl, ho⟩ := upv_mem hcs hm
        have eD4 := b4 _ _ (pE.neF (.inl rfl)) (keepN (keepN (s2 _ _ eD) hN1) hE)
        have eE4 := b4 _ _ ((((p1.same s2).newH (o := .lst [.non]) hN1).ne hE)) upd_same
        walk_at "hs"
        refine x_append eD4 (by rw [upvs_length]; exact szLt (by omega)) ?_
        refine ⟨⟨_, _, rfl⟩, us ++ [o], by rw [List.length_append, hus]; rfl, (bE.trans b4).mutF hD, p4.mut (.inl rfl), by rw [upd_same, upvs_app]; rfl, fun b q' hb => ?_⟩
        rcases Nat.lt_or_ge b us.length with h | h
        · rw [List.getElem?_append_left h] at hb
          exact hd b q' hb
        · rw [List.getElem?_append_right h] at hb
          have hk0 : b - us.length = 0 := by
            have := (List.getElem?_eq_some_iff.mp hb).1
            rw [List.length_singleton] at this
            omega
          rw [hk0] at hb
          have := ho q' (Option.some.inj hb)
          exact ⟨this.1, by omega⟩
    · rintro σ' H' ⟨⟨x3, x4, rfl⟩, us, hus, b1, p1, eD, hd⟩
      have lun : us.length = n := by omega
      walk_at "hs"
      intro E hE
      walk_at "hs"
      have nED : E ≠ D := Ne.symm (ne_of_none eD hE)
      refine ⟨(n : Int) + 1, rfl, by omega, by omega, ?_⟩
      refine lp_range (lo := 0) (n := Int.toNat ((n : Int) + 1)) (fun k σ' G => (∃ x3 x4 x6 x7, σ' = [some (.ref p), some (.int n), some (.ref D), x3, x4, some (.ref E), x6, x7]) ∧ But p H' G ∧ PoolAt G p (fun a => a = E ∨ a = D ∨ Fo a) ∧ ∃ (as : List Addr) (ls : List (List (Option Bool))), as.length = k ∧ Rows G as ls ∧ G E = some (.lst (refs as)) ∧ (∀ r ∈ ls, r.length = n) ∧ ∀ (g : Nat) r, ls[g]? = some r → 1 ≤ g → r[g - 1]? = some (some false))
        ⟨⟨_, _, _, _, rfl⟩, But.new (But.refl p H') hE, p1.own hE, [], [], rfl, ⟨rfl, fun i a r h => by cases h⟩, upd_same, fun r h => (nomatch h), fun g r h => by cases h⟩ ?_ ?_
      · rintro k σ' G hk ⟨⟨x3, x4, x6, x7, rfl⟩, b4, p4, as2, ls2, la2, hw4, eR, rlen, rdg⟩
        walk_at "hs"
        refine ⟨(n : Int), rfl, by omega, by omega, fun W hW => ?_⟩
        have nEW : E ≠ W := ne_of_none eR hW
        refine lc_range (lo := 0) (n := Int.toNat (n : Int)) (fun j G2 => But p G G2 ∧ PoolAt G2 p (fun z => z = W ∨ z = E ∨ z = D ∨ Fo z) ∧ ∃ c : List (Option Bool), c.length = j ∧ G2 W = some (.lst (wds c)))
          ⟨But.new (But.refl _ _) hW, p4.own hW, [], rfl, upd_same⟩ ?_ ?_
        · rintro j G2 hj ⟨b5, p6, c, lc, eW⟩
          walk_at "hs"
          refine ⟨rfl, ?_⟩
          walk_at "hs"
          intro X hX
          walk_at "hs"
          refine ⟨p, 4, _, rfl, p6.newH hX, by decide, by decide, fun d H6 d0 d1 b6 p7 => ?_⟩
          have eX6 : SqL K H6 X [.bl false, .bl false, .bl true, .non] := .of (b6 _ _ (p6.ne hX) upd_same)
          obtain ⟨v, hv7, hm⟩ := at_lt (xs := [V.bl false, .bl false, .bl true, .non]) d0 d1
          have eW6 : H6 W = some (.lst (wds c)) := b6 _ _ (p6.neF (.inl rfl)) (keepN eW hX)
          obtain ⟨z, rfl⟩ : ∃ z : Option Bool, v = wdV z := by
            simp only [List.mem_cons, List.not_mem_nil, or_false] at hm
            rcases hm with rfl | rfl | rfl | rfl
            · exact ⟨some false, rfl⟩
            · exact ⟨some false, rfl⟩
            · exact ⟨some true, rfl⟩
            · exact ⟨none, rfl⟩
          walk_at "hs"
          refine ⟨_, eW6, by rw [wds_length]; exact szLt (by omega), ((b5.new hX).trans b6).mutF hW, p7.mut (.inl rfl), c ++ [z], by rw [List.length_append, lc]; rfl, by rw [upd_same, wds_app]; rfl⟩
        · rintro G2 ⟨b5, p6, c, lc, eW⟩
          walk_at "hs"
          refine ⟨fun σ' H6 => (∃ x3, σ' = [some (.ref p), some (.int n), some (.ref D), x3, x4, some (.ref E), some (.int (0 + (k : Int))), some (.ref W)]) ∧ But p G H6 ∧ PoolAt H6 p (fun z => z = W ∨ z = E ∨ z = D ∨ Fo z) ∧ ∃ c : List (Option Bool), c.length = n ∧ (1 ≤ k → c[k - 1]? = some (some false)) ∧ H6 W = some (.lst (wds c)), ?_, ?_⟩
          · walk_at "hs"
            refine x_isd (fun cc => ?_) (fun cc => ?_)
            · have hix : ixN (wds c).length (0 + (k : Int) - 1) = some (k - 1) := by
                rw [show (0 + (k : Int) - 1) = ((k - 1 : Nat) : Int) by omega]
                exact ixN_nat (by rw [wds_length]; omega)
              walk_at "hs"
              refine ⟨⟨_, rfl⟩, b5.mutF hW, p6.mut (.inl rfl), c.set (k - 1) (some false), by rw [List.length_set]; omega, fun _ => by rw [List.getElem?_set_self (by omega)], ?_⟩
              rw [upd_same]
              unfold wds
              rw [List.map_set]
              rfl
            · walk_at "hs"
              exact ⟨⟨_, rfl⟩, b5, p6, c, by omega, fun h => absurd h (by omega), eW⟩
          rintro σ6 H6 ⟨⟨x3, rfl⟩, b6, p7, c, lc, dg, eW⟩
          have eR6 : H6 E = some (.lst (refs as2)) := b6 _ _ (p4.neF (.inl rfl)) eR
          walk_at "hs"
          intro X hX
          walk_at "hs"
          refine x_append (keepN eR6 hX) (by rw [refs_length]; exact szLt (by omega)) ?_
          walk_at "hs"
          have b7 : But p H' (upd (upd H6 X (.tup (wds c))) E (.lst (refs as2 ++ [.ref X]))) := ((b4.trans b6).new hX).mutF hE
          have hw6 : Rows (upd (upd H6 X (.tup (wds c))) E (.lst (refs as2 ++ [.ref X]))) as2 ls2 := ((hw4.but b6 p4.notTup).same (same_new (Same.refl _) hX)).mut (keepN eR6 hX)
          have nXR : X ≠ E := Ne.symm (ne_of_none eR6 hX)
          refine ⟨⟨_, _, _, _, rfl⟩, b7, ((p7.newH hX).mut (.inr (.inl rfl))).weak fun z h => .inr h, as2 ++ [X], ls2 ++ [c], by rw [List.length_append, la2]; rfl, ⟨by rw [List.length_append, List.length_append, hw4.len]; rfl, fun g z r hz hr => ?_⟩, by rw [upd_same, refs_app]; rfl, fun r h => ?_, fun g r h g1 => ?_⟩
          · rcases Nat.lt_or_ge g as2.length with hg | hg
            · rw [List.getElem?_append_left hg] at hz
              rw [List.getElem?_append_left (by rw [← hw4.len]; exact hg)] at hr
              exact hw6.at_ g z r hz hr
            · rw [List.getElem?_append_right hg] at hz
              rw [List.getElem?_append_right (by rw [← hw4.len]; exact hg)] at hr
              have hg0 : g - as2.length = 0 := by
                have := (List.getElem?_eq_some_iff.mp hz).1
                rw [List.length_singleton] at this
                omega
              rw [hg0] at hz
              rw [← hw4.len, hg0] at hr
              cases hz
              cases hr
              exact keepM nXR upd_same
          · rcases List.mem_append.mp h with h | h
            · exact rlen r h
            · rw [List.mem_singleton.mp h]
              exact lc
          · have l2 : ls2.length = k := by rw [← hw4.len, la2]
            rcases Nat.lt_or_ge g ls2.length with hg | hg
            · rw [List.getElem?_append_left hg] at h
              exact rdg g r h g1
            · rw [List.getElem?_append_right hg] at h
              have hg0 : g - ls2.length = 0 := by
                have := (List.getElem?_eq_some_iff.mp h).1
                rw [List.length_singleton] at this
                omega
              rw [hg0] at h
              cases h
              rw [show g = k by omega]
              exact dg (by omega)
      · rintro σ' H4 ⟨⟨x3, x4, x6, x7, rfl⟩, b4, p4, as2, ls2, la2, hw4, eR, rlen, rdg⟩
        have eT4 : H4 D = some (.lst (upvs us)) := b4 _ _ (p1.neF (.inl rfl)) eD
        walk_at "hs"
        intro X hX
        walk_at "hs"
        intro Y hY
        walk_at "hs"
        intro m hm
        have p6 := ((p4.newH (o := .tup (upvs us)) hX).newH (o := .tup (refs as2)) hY)
        have b6 : But p H (upd (upd H4 X (.tup (upvs us))) Y (.tup (refs as2))) := ((b1.trans b4).new hX).new hY
        refine q m us ls2 _ ⟨n1, n2, lun, hd, by rw [← hw4.len, la2]; omega, rlen, rdg⟩ (b6.new hm) ((p6.newH hm).weak fun z h => .inr (.inr h)) ⟨X, Y, as2, upd_same, keepN (keepN upd_same hY) hm, keepN upd_same hm, ?_⟩
        exact ((hw4.same (same_new (Same.refl _) hX)).same (same_new (Same.refl _) hY)).same (same_new (Same.refl _) hm)
end
set_option maxRecDepth 100000
set_option maxHeartbeats 2000000
open PySem PySem.Spec L2


theorem sc__law_worn : FnScope ["_law_hand_here", "_law_ups", "_law_lists", "_law_many", "_law_blocks", "_law_turn", "_law_block", "_law_place", "_law_is_lost", "_law_row"] ["_law_hand_here", "_law_ups", "_law_lists", "_law_many"] (defScope s__law_worn) := ⟨rfl, rfl, rfl, by decide +kernel, rfl, by decide +kernel, by decide +kernel⟩
theorem wdok_setU {n k : Nat} {us : List (Option Nat)} {ls : List (List (Option Bool))} {o : Option Nat} (ok : WdOk n us ls) (h : ∀ q, o = some q → q ≤ n ∧ q ≠ k + 1) : WdOk n (us.set k o) ls :=
  ⟨ok.n1, ok.n2, by rw [List.length_set]; exact ok.ul, fun b q hb => by
    by_cases e : k = b
    · subst e
      by_cases hk : k < us.length
      · rw [List.getElem?_set_self hk] at hb
        exact h q (Option.some.inj hb)
      · rw [List.getElem?_eq_none (by rw [List.length_set]; omega)] at hb
        cases hb
    · rw [List.getElem?_set_ne e] at hb
      exact ok.uo b q hb, ok.ll, ok.rl, ok.dg⟩
theorem wdok_setL {n p k : Nat} {us : List (Option Nat)} {ls : List (List (Option Bool))} {r : List (Option Bool)} {o : Option Bool} (ok : WdOk n us ls) (hr : ls[p]? = some r) (hne : p ≠ k + 1) : WdOk n us (ls.set p (r.set k o)) :=
  ⟨ok.n1, ok.n2, ok.ul, ok.uo, by rw [List.length_set]; exact ok.ll, fun r' h => by
    rcases List.mem_or_eq_of_mem_set h with h | rfl
    · exact ok.rl r' h
    · rw [List.length_set]
      exact ok.rl r (List.mem_of_getElem? hr), fun p' r' h g1 => by
    by_cases e : p = p'
    · subst e
      rw [List.getElem?_set_self (List.getElem?_eq_some_iff.mp hr).1] at h
      have := Option.some.inj h
      subst this
      rw [List.getElem?_set_ne (by omega)]
      exact ok.dg p r hr g1
    · rw [List.getElem?_set_ne e] at h
      exact ok.dg p' r' h g1⟩
theorem rows_set {H : Hp} {as : List Addr} {ls : List (List (Option Bool))} {p : Nat} {q : Addr} {r : List (Option Bool)} (hr : Rows H as ls) (hq : H q = some (.tup (wds r))) : Rows H (as.set p q) (ls.set p r) :=
  ⟨by rw [List.length_set, List.length_set]; exact hr.len, fun i a r' ha hr' => by
    by_cases e : p = i
    · subst e
      have h1 : p < as.length := by
        have := (List.getElem?_eq_some_iff.mp ha).1
        rwa [List.length_set] at this
      have h2 : p < ls.length := by rw [← hr.len]; exact h1
      rw [List.getElem?_set_self h1] at ha
      rw [List.getElem?_set_self h2] at hr'
      cases ha
      cases hr'
      exact hq
    · rw [List.getElem?_set_ne e] at ha hr'
      exact hr.at_ i a r' ha hr'⟩
theorem upvs_set (us : List (Option Nat)) (k : Nat) (o : Option Nat) : (upvs us).set k (upV o) = upvs (us.set k o) := by
  unfold upvs
  rw [List.map_set]
theorem wds_set (r : List (Option Bool)) (k : Nat) (o : Option Bool) : (wds r).set k (wdV o) = wds (r.set k o) := by
  unfold wds
  rw [List.map_set]
theorem refs_set (as : List Addr) (k : Nat) (q : Addr) : (refs as).set k (.ref q) = refs (as.set k q) := by
  unfold refs
  rw [List.map_set]
section
variable {P : Program} {w : World} {K : PySem.W.Frag} {mg : Str → Option Value} {base : Heap} {Z : Ad}
def spWorn : Sp := fun vs H Q _ => ∃ (p tu tl : Addr) (n : Nat) (k : Int) (us : List (Option Nat)) (ls : List (List (Option Bool))) (as : List Addr) (F : Addr → Prop), vs = [.ref p, .ref tu, .ref tl, .int k] ∧ PoolAt H p F ∧ 0 ≤ k ∧ k < 100 ∧ WdOk n us ls ∧ H tu = some (.tup (upvs us)) ∧ H tl = some (.tup (refs as)) ∧ Rows H as ls ∧ ∀ (m : Addr) (us : List (Option Nat)) (ls : List (List (Option Bool))) H', WdOk n us ls → But p H H' → PoolAt H' p F → ToldAt H' m us ls → Q (.ref m) H'
theorem ok_worn {f : Addr} {fd : FuncData} (F : Fun K "_law_worn" "_law_worn" s__law_worn f fd) (B : Bl Z mg) {f__law_draw : Addr} {fd__law_draw : FuncData} (C__law_draw : Cal K mg "_law_draw" f__law_draw fd__law_draw ["_law_hand_here", "_law_many"]) (G__law_draw : FnOk P w K mg base CX0 1 f__law_draw fd__law_draw ["_law_hand_here", "_law_many"] spDraw) {f__law_put : Addr} {fd__law_put : FuncData} (C__law_put : Cal K mg "_law_put" f__law_put fd__law_put ["_law_things", "_law_at", "_law_thing"]) (G__law_put : FnOk P w K mg base CX0 1 f__law_put fd__law_put ["_law_things", "_law_at", "_law_thing"] spPut) : FnOk P w K mg base CX0 2 f fd ["_law_hand_here", "_law_ups", "_law_lists", "_law_many"] spWorn := by
  refine F.ok sc__law_worn (fun vs H Q E h => ?_) (fun cdv A outer s H vs Q E hr h => ?_)
  · obtain ⟨p, tu, tl, n, k, us, ls, as, Fo, rfl, _⟩ := h
    rfl
  · obtain ⟨p, tu, tl, n, k, us, ls, as, Fo, rfl, hp, k0, k1, ok, hu, hl, hr0, q⟩ := h
    refine ⟨_, (pss_cons (ps_set (i := 4) sc__law_worn.nd rfl (Or.inl rfl) (pe_callB (call_lenK (K := K) rfl) (by rfl) B.b_len PySem.boot_len (pa_cons (pv 1) pa_nil)))
 (pss_cons (ps_for PassesOwn.never rfl (pi_range1 rfl B.b_range (pa_cons (pv 3) pa_nil)) (pg_name (i := 5) sc__law_worn.nd rfl (Or.inl rfl)) (pss_cons (ps_set (i := 6) sc__law_worn.nd rfl (Or.inl rfl) (pe_call G__law_draw (hr.mono (by first | decide | omega)) (by rfl) C__law_draw.g C__law_draw.k C__law_draw.b .nil pass0 (pa_cons (pv 0) (pa_cons (pv 4) pa_nil))))
 (pss_cons (ps_set (i := 7) sc__law_worn.nd rfl (Or.inl rfl) (pe_call G__law_draw (hr.mono (by first | decide | omega)) (by rfl) C__law_draw.g C__law_draw.k C__law_draw.b .nil pass0 (pa_cons (pv 0) (pa_cons (pe_op op_add (pv 4) pe_int) pa_nil))))
 (pss_cons (ps_set (i := 8) sc__law_worn.nd rfl (Or.inl rfl) (pe_cmpR op_eq (pe_call G__law_draw (hr.mono (by first | decide | omega)) (by rfl) C__law_draw.g C__law_draw.k C__law_draw.b .nil pass0 (pa_cons (pv 0) (pa_cons pe_int pa_nil))) pe_int (nomark _)))
 (pss_one (ps_if (PW.pt (pw_and (pt_cmpR op_eq (pe_call G__law_draw (hr.mono (by first | decide | omega)) (by rfl) C__law_draw.g C__law_draw.k C__law_draw.b .nil pass0 (pa_cons (pv 0) (pa_cons pe_int pa_nil))) pe_int (nomark _)) (pw_and1 (pt_cmpR op_ne (pv 7) (pe_op op_add (pv 6) pe_int) (nomark _))))) (pss_one (ps_set (i := 1) sc__law_worn.nd rfl (Or.inl rfl) (pe_call G__law_put (hr.mono (by first | decide | omega)) (by rfl) C__law_put.g C__law_put.k C__law_put.b .nil pass0 (pa_cons (pv 1) (pa_cons (pv 6) (pa_cons (pe_ifExp (pt_val (pv 8)) pe_non (pv 7)) pa_nil)))))) (pss_one (ps_if (pt_cmpR op_ne (pv 7) (pe_op op_add (pv 6) pe_int) (nomark _)) (pss_cons (ps_set (i := 9) sc__law_worn.nd rfl (Or.inl rfl) (pe_ix (ix_tupK (K := K) rfl) (pv 2) (pv 7) (fun _ _ => rfl)))
 (pss_cons (ps_set (i := 9) sc__law_worn.nd rfl (Or.inl rfl) (pe_call G__law_put (hr.mono (by first | decide | omega)) (by rfl) C__law_put.g C__law_put.k C__law_put.b .nil pass0 (pa_cons (pv 9) (pa_cons (pv 6) (pa_cons (pe_ifExp (pt_val (pv 8)) pe_non (pe_cmpR op_notBk (pe_ix (ix_tupK (K := K) rfl) (pv 9) (pv 6) (fun _ _ => rfl)) pe_bl (nomark _))) pa_nil)))))
 (pss_one (ps_set (i := 2) sc__law_worn.nd rfl (Or.inl rfl) (pe_call G__law_put (hr.mono (by first | decide | omega)) (by rfl) C__law_put.g C__law_put.k C__law_put.b .nil pass0 (pa_cons (pv 2) (pa_cons (pv 7) (pa_cons (pv 9) pa_nil)))))))) pss_nil))))))))
 (pss_one (ps_ret (pe_tup (pa_cons (pv 1) (pa_cons (pv 2) pa_nil))))))), ?_⟩
    walk_at "h0"
    rw [upvs_length, ok.ul]
    have n1 := ok.n1
    have n2 := ok.n2
    refine ⟨k, rfl, by omega, by omega, ?_⟩
    refine lp_range (lo := 0) (n := Int.toNat k) (fun i σ' H' => ∃ (tu tl : Addr) (us : List (Option Nat)) (ls : List (List (Option Bool))) (as : List Addr), (∃ x5 x6 x7 x8 x9, σ' = [some (.ref p), some (.ref tu), some (.ref tl), some (.int k), some (.int n), x5, x6, x7, x8, x9]) ∧ But p H H' ∧ PoolAt H' p Fo ∧ WdOk n us ls ∧ H' tu = some (.tup (upvs us)) ∧ H' tl = some (.tup (refs as)) ∧ Rows H' as ls)
      ⟨tu, tl, us, ls, as, ⟨_, _, _, _, _, rfl⟩, But.refl p H, hp, ok, hu, hl, hr0⟩ ?_ ?_
    · clear hu hl hr0 ok
      rintro i σ' H' hi ⟨tu, tl, us, ls, as, ⟨x5, x6, x7, x8, x9, rfl⟩, b1, p1, ok, hu, hl, hr0⟩
      walk_at "hs"
      refine ⟨p, n, Fo, rfl, p1, by omega, by omega, fun d1 H1 d10 d11 c1 p2 => ?_⟩
      walk_at "hs"
      refine ⟨p, n + 1, Fo, rfl, p2, by omega, by omega, fun d2 H2 d20 d21 c2 p3 => ?_⟩
      walk_at "hs"
      refine ⟨p, 3, Fo, rfl, p3, by omega, by omega, fun d3 H3 d30 d31 c3 p4 => ?_⟩
      walk_at "hs"
      refine ⟨p, 2, Fo, rfl, p4, by omega, by omega, fun d4 H4 d40 d41 c4 p5 => ?_⟩
      have c : But p H' H4 := ((c1.trans c2).trans c3).trans c4
      have tp : ∀ {a : Addr} {xs : List V}, H' a = some (.tup xs) → H4 a = some (.tup xs) := fun {a xs} e => c _ _ (fun e2 => p1.notTup _ (e2 ▸ e)) e
      have hu4 := tp hu
      have hl4 := tp hl
      have hr4 : Rows H4 as ls := hr0.but c p1.notTup
      have b4 : But p H H4 := b1.trans c
      clear c1 c2 c3 c4 p1 p2 p3 p4 hu hl hr0 b1 tp c
      obtain ⟨kb, rfl⟩ := Int.eq_ofNat_of_zero_le d10
      obtain ⟨kp, rfl⟩ := Int.eq_ofNat_of_zero_le d20
      generalize decide (d3 = 0) = lost
      walk_at "hs"
      have hkb : kb < n := by omega
      have hkp : kp < n + 1 := by omega
      refine x_isd (fun e4 => ?_) (fun e4 => ?_)
      · walk_at "hs"
        refine x_isd (fun e => ?_) (fun e => ?_)
        · walk_at "hs"
          have put : ∀ (o : Option Nat), (∀ q, o = some q → q ≤ n ∧ q ≠ kb + 1) → ∀ (q1 : Addr) (H5 : Hp), Same H4 H5 → H5 q1 = some (.tup ((upvs us).set kb (upV o))) → But p H H5 ∧ PoolAt H5 p Fo ∧ WdOk n (us.set kb o) ls ∧ H5 q1 = some (.tup (upvs (us.set kb o))) ∧ H5 tl = some (.tup (refs as)) ∧ Rows H5 as ls := fun o ho q1 H5 s5 e5 => by
            rw [upvs_set] at e5
            exact ⟨b4.trans (But.of s5), p5.same s5, wdok_setU ok ho, e5, s5 _ _ hl4, hr4.same s5⟩
          cases lost with
          | false =>
            walk_at "hs"
            refine ⟨tu, upvs us, kb, .int kp, rfl, hu4, by rw [upvs_length, ok.ul]; exact hkb, by rw [upvs_length, ok.ul]; omega, fun q1 H5 s5 e5 => ?_⟩
            walk_at "hs"
            exact ⟨q1, tl, us.set kb (some kp), ls, as, ⟨_, _, _, _, _, rfl⟩, put (some kp) (fun q e2 => by cases e2; omega) q1 H5 s5 e5⟩
          | true =>
            walk_at "hs"
            refine ⟨tu, upvs us, kb, .non, rfl, hu4, by rw [upvs_length, ok.ul]; exact hkb, by rw [upvs_length, ok.ul]; omega, fun q1 H5 s5 e5 => ?_⟩
            walk_at "hs"
            exact ⟨q1, tl, us.set kb none, ls, as, ⟨_, _, _, _, _, rfl⟩, put none (fun q e2 => by cases e2) q1 H5 s5 e5⟩
        · walk_at "hs"
          refine x_isd (fun e2 => (e2 (Decidable.not_not.mp e)).elim) (fun _ => ?_)
          walk_at "hs"
          exact ⟨tu, tl, us, ls, as, ⟨_, _, _, _, _, rfl⟩, b4, p5, ok, hu4, hl4, hr4⟩
      · walk_at "hs"
        refine x_isd (fun e => ?_) (fun e => ?_)
        · have hpl : kp < ls.length := by rw [ok.ll]; exact hkp
          obtain ⟨a, ha, he⟩ := hr4.get hpl
          have hrl : ls[kp].length = n := ok.rl _ (List.getElem_mem hpl)
          have at1 : atI (refs as) (kp : Int) = some (.ref a) := atI_nat (refs_get ha)
          have at2 : atI (wds ls[kp]) (kb : Int) = some (wdV (ls[kp][kb]'(by omega))) := atI_nat (wds_get (List.getElem?_eq_getElem (by omega)))
          have put : ∀ (o : Option Bool) (q1 q2 : Addr) (H5 H6 : Hp), Same H4 H5 → Same H5 H6 → H5 q1 = some (.tup ((wds ls[kp]).set kb (wdV o))) → H6 q2 = some (.tup ((refs as).set kp (.ref q1))) → ∃ (tu' tl' : Addr) (us' : List (Option Nat)) (ls' : List (List (Option Bool))) (as' : List Addr), (∃ x5 x6 x7 x8 x9, [some (V.ref p), some (.ref tu), some (.ref q2), some (.int k), some (.int n), some (.int (0 + (i : Int))), some (.int (kb : Nat)), some (.int (kp : Nat)), some (.bl lost), some (.ref q1)] = [some (.ref p), some (.ref tu'), some (.ref tl'), some (.int k), some (.int n), x5, x6, x7, x8, x9]) ∧ But p H H6 ∧ PoolAt H6 p Fo ∧ WdOk n us' ls' ∧ H6 tu' = some (.tup (upvs us')) ∧ H6 tl' = some (.tup (refs as')) ∧ Rows H6 as' ls' := fun o q1 q2 H5 H6 s5 s6 e5 e6 => by
            rw [wds_set] at e5
            rw [refs_set] at e6
            exact ⟨tu, q2, us, ls.set kp (ls[kp].set kb o), as.set kp q1, ⟨_, _, _, _, _, rfl⟩, (b4.trans (But.of s5)).trans (But.of s6), (p5.same s5).same s6, wdok_setL ok (List.getElem?_eq_getElem hpl) (by omega), s6 _ _ (s5 _ _ hu4), e6, rows_set ((hr4.same s5).same s6) (s6 _ _ e5)⟩
          cases lost with
          | false =>
            walk_at "hs"
            refine ⟨a, wds ls[kp], kb, .bl (!decide (ls[kp][kb]'(by omega) = some true)), rfl, he, by rw [wds_length, hrl]; exact hkb, by rw [wds_length, hrl]; omega, fun q1 H5 s5 e5 => ?_⟩
            walk_at "hs"
            refine ⟨tl, refs as, kp, .ref q1, rfl, s5 _ _ hl4, by rw [refs_length, hr4.len]; exact hpl, by rw [refs_length, hr4.len, ok.ll]; omega, fun q2 H6 s6 e6 => ?_⟩
            walk_at "hs"
            exact put (some _) q1 q2 H5 H6 s5 s6 e5 e6
          | true =>
            walk_at "hs"
            refine ⟨a, wds ls[kp], kb, .non, rfl, he, by rw [wds_length, hrl]; exact hkb, by rw [wds_length, hrl]; omega, fun q1 H5 s5 e5 => ?_⟩
            walk_at "hs"
            refine ⟨tl, refs as, kp, .ref q1, rfl, s5 _ _ hl4, by rw [refs_length, hr4.len]; exact hpl, by rw [refs_length, hr4.len, ok.ll]; omega, fun q2 H6 s6 e6 => ?_⟩
            walk_at "hs"
            exact put none q1 q2 H5 H6 s5 s6 e5 e6
        · walk_at "hs"
          exact ⟨tu, tl, us, ls, as, ⟨_, _, _, _, _, rfl⟩, b4, p5, ok, hu4, hl4, hr4⟩
    · rintro σ' H' ⟨tu, tl, us, ls, as, ⟨x5, x6, x7, x8, x9, rfl⟩, b1, p1, ok, hu, hl, hr0⟩
      walk_at "hs"
      intro m hm
      exact q m us ls _ ok (b1.new hm) (p1.newH hm) ⟨tu, tl, as, upd_same, keepN hu hm, keepN hl hm, hr0.same (same_new (Same.refl _) hm)⟩
end
set_option maxRecDepth 100000
set_option maxHeartbeats 2000000
open PySem PySem.Spec L2


theorem sc__law_drawn : FnScope ["_law_hand_here", "_law_most", "_law_blocks", "_law_ups", "_law_lists"] ["_law_hand_here", "_law_most"] (defScope s__law_drawn) := ⟨rfl, rfl, rfl, by decide +kernel, rfl, by decide +kernel, by decide +kernel⟩
section
variable {P : Program} {w : World} {K : PySem.W.Frag} {mg : Str → Option Value} {base : Heap} {Z : Ad}
def spDrawnW : Sp := fun vs H Q _ => ∃ (p : Addr) (k : Int) (F : Addr → Prop), vs = [.ref p, .int k] ∧ PoolAt H p F ∧ 1 ≤ k ∧ k ≤ 40 ∧ ∀ (n : Nat) (m : Addr) (us : List (Option Nat)) (ls : List (List (Option Bool))) H', WdOk n us ls → But p H H' → PoolAt H' p F → ToldAt H' m us ls → Q (.ref m) H'
theorem ok_ldrawn {f : Addr} {fd : FuncData} (F : Fun K "_law_drawn" "_law_drawn" s__law_drawn f fd) (B : Bl Z mg) {f__law_draw : Addr} {fd__law_draw : FuncData} (C__law_draw : Cal K mg "_law_draw" f__law_draw fd__law_draw ["_law_hand_here", "_law_many"]) (G__law_draw : FnOk P w K mg base CX0 1 f__law_draw fd__law_draw ["_law_hand_here", "_law_many"] spDraw) {f__law_any : Addr} {fd__law_any : FuncData} (C__law_any : Cal K mg "_law_any" f__law_any fd__law_any ["_law_hand_here", "_law_blocks"]) (G__law_any : FnOk P w K mg base CX0 2 f__law_any fd__law_any ["_law_hand_here", "_law_blocks"] spAnyW) {f__law_tree : Addr} {fd__law_tree : FuncData} (C__law_tree : Cal K mg "_law_tree" f__law_tree fd__law_tree ["_law_hand_here", "_law_blocks"]) (G__law_tree : FnOk P w K mg base CX0 2 f__law_tree fd__law_tree ["_law_hand_here", "_law_blocks"] spHung)
    {f__law_right : Addr} {fd__law_right : FuncData} (C__law_right : Cal K mg "_law_right" f__law_right fd__law_right ["_law_hung"]) (G__law_right : FnOk P w K mg base CX0 1 f__law_right fd__law_right ["_law_hung"] (spRight K)) {f__law_worn : Addr} {fd__law_worn : FuncData} (C__law_worn : Cal K mg "_law_worn" f__law_worn fd__law_worn ["_law_hand_here", "_law_ups", "_law_lists", "_law_many"]) (G__law_worn : FnOk P w K mg base CX0 2 f__law_worn fd__law_worn ["_law_hand_here", "_law_ups", "_law_lists", "_law_many"] spWorn) : FnOk P w K mg base CX0 3 f fd ["_law_hand_here", "_law_most"] spDrawnW := by
  refine F.ok sc__law_drawn (fun vs H Q E h => ?_) (fun cdv A outer s H vs Q E hr h => ?_)
  · obtain ⟨p, k, Fo, rfl, _⟩ := h
    rfl
  · obtain ⟨p, k, Fo, rfl, hp, k0, k1, q⟩ := h
    refine ⟨_, (pss_cons (ps_set (i := 2) sc__law_drawn.nd rfl (Or.inl rfl) (pe_op op_add pe_int (pe_call G__law_draw (hr.mono (by first | decide | omega)) (by rfl) C__law_draw.g C__law_draw.k C__law_draw.b .nil pass0 (pa_cons (pv 0) (pa_cons (pv 1) pa_nil)))))
 (pss_cons (ps_if (pt_cmpR op_eq (pe_call G__law_draw (hr.mono (by first | decide | omega)) (by rfl) C__law_draw.g C__law_draw.k C__law_draw.b .nil pass0 (pa_cons (pv 0) (pa_cons pe_int pa_nil))) pe_int (nomark _)) (pss_one (ps_ret (pe_call G__law_any (hr.mono (by first | decide | omega)) (by rfl) C__law_any.g C__law_any.k C__law_any.b .nil pass0 (pa_cons (pv 0) (pa_cons (pv 2) pa_nil))))) pss_nil)
 (pss_cons (ps_asg (pe_call G__law_right (hr.mono (by first | decide | omega)) (by rfl) C__law_right.g C__law_right.k C__law_right.b .nil pass0 (pa_cons (pe_call G__law_tree (hr.mono (by first | decide | omega)) (by rfl) C__law_tree.g C__law_tree.k C__law_tree.b .nil pass0 (pa_cons (pv 0) (pa_cons (pv 2) pa_nil))) pa_nil)) (pg_tup rfl (pgs_cons (pg_name (i := 3) sc__law_drawn.nd rfl (Or.inl rfl)) (pgs_cons (pg_name (i := 4) sc__law_drawn.nd rfl (Or.inl rfl)) pgs_nil))))
 (pss_one (ps_ret (pe_call G__law_worn (hr.mono (by first | decide | omega)) (by rfl) C__law_worn.g C__law_worn.k C__law_worn.b .nil pass0 (pa_cons (pv 0) (pa_cons (pv 3) (pa_cons (pv 4) (pa_cons (pe_call G__law_draw (hr.mono (by first | decide | omega)) (by rfl) C__law_draw.g C__law_draw.k C__law_draw.b .nil pass0 (pa_cons (pv 0) (pa_cons pe_int pa_nil))) pa_nil)))))))))), ?_⟩
    walk_at "h0"
    refine ⟨p, k, Fo, rfl, hp, by omega, by omega, fun d H1 d0 d1 b1 p1 => ?_⟩
    walk_at "hs"
    refine ⟨p, 3, Fo, rfl, p1, by decide, by decide, fun d2 H2 d20 d21 b2 p2 => ?_⟩
    obtain ⟨n, hn⟩ : ∃ n : Nat, 1 + d = (n : Int) := ⟨(1 + d).toNat, by omega⟩
    rw [hn]
    walk_at "hs"
    refine x_isd (fun c => ?_) (fun c => ?_)
    · walk_at "hs"
      exact ⟨p, n, Fo, rfl, p2, by omega, by omega, fun m us ls H' ok b3 p3 t3 => q n m us ls H' ok ((b1.trans b2).trans b3) p3 t3⟩
    walk_at "hs"
    refine ⟨p, n, Fo, rfl, p2, by omega, by omega, fun D hs H3 it hl b3 p3 nD eD => ?_⟩
    walk_at "hs"
    refine ⟨D, hs, rfl, eD, it, fun m H4 nm s4 told => ?_⟩
    obtain ⟨tu, tl, as, e1, e2, e3, e4⟩ := told
    have p4 := p3.same s4
    walk_at "hs"
    refine ⟨p, 8, Fo, rfl, p4, by decide, by decide, fun d5 H5 d50 d51 b5 p5 => ?_⟩
    walk_at "hs"
    have tp : ∀ {a : Addr} {xs : List V}, H4 a = some (.tup xs) → H5 a = some (.tup xs) := fun {a xs} e => b5 _ _ (fun z => p4.notTup _ (z ▸ e)) e
    exact ⟨p, tu, tl, hs.length, d5, rightU hs, rightL hs, as, Fo, rfl, p5, d50, by omega, right_ok it, tp e2, tp e3, e4.but b5 p4.notTup, fun m us ls H' ok b6 p6 t6 => q hs.length m us ls H' ok (((((b1.trans b2).trans b3).trans (But.of s4)).trans b5).trans b6) p6 t6⟩
end
set_option maxRecDepth 100000
set_option maxHeartbeats 1000000
open PySem PySem.Spec L2


theorem sc__law_is_whole : FnScope ["_law_thing", "_law_least", "_law_most"] ["_law_thing", "_law_least", "_law_most"] (defScope s__law_is_whole) := ⟨rfl, rfl, rfl, by decide +kernel, rfl, by decide +kernel, by decide +kernel⟩
def tupOf (H : Hp) : V → Option (List V)
  | .ref a => match H a with
    | some (.tup xs) => some xs
    | _ => none
  | _ => none
def isBlB : V → Bool
  | .bl _ => true
  | _ => false
/-- a value of a known kind -/
def Kv (Z : Ad) (H : Hp) : V → Prop
  | .non => True
  | .bl _ => True
  | .int _ => True
  | .str _ => True
  | .ref a => (∃ xs, H a = some (.lst xs)) ∨ (∃ xs, H a = some (.tup xs)) ∨ (∃ kvs : List (Key × V), H a = some (.dK kvs)) ∨ ∃ dx fs, H a = some (.ins Z.a_Words dx fs)
  | _ => False
def KvD (Z : Ad) (H : Hp) : Nat → V → Prop
  | 0, v => Kv Z H v
  | n + 1, v => Kv Z H v ∧ ∀ xs, tupOf H v = some xs → ∀ x ∈ xs, KvD Z H n x
theorem KvD.kv {Z : Ad} {H : Hp} {n : Nat} {v : V} (h : KvD Z H n v) : Kv Z H v := by
  cases n with
  | zero => exact h
  | succ n => exact h.1
theorem Kv.some {Z : Ad} {H : Hp} {a : Addr} (h : Kv Z H (.ref a)) : ∃ o, H a = some o := by
  rcases h with ⟨x, e⟩ | ⟨x, e⟩ | ⟨x, e⟩ | ⟨x, y, e⟩ <;> exact ⟨_, e⟩
theorem tupOf_same {Z : Ad} {H H' : Hp} {v : V} (s : Same H H') (k : Kv Z H v) : tupOf H' v = tupOf H v := by
  cases v with
  | ref a =>
    obtain ⟨o, e⟩ := k.some
    show (match H' a with | some (.tup xs) => some xs | _ => none) = (match H a with | some (.tup xs) => some xs | _ => none)
    rw [s _ _ e, e]
  | _ => rfl
theorem Kv.same {Z : Ad} {H H' : Hp} {v : V} (s : Same H H') (k : Kv Z H v) : Kv Z H' v := by
  cases v with
  | ref a =>
    rcases k with ⟨x, e⟩ | ⟨x, e⟩ | ⟨x, e⟩ | ⟨x, y, e⟩
    · exact .inl ⟨x, s _ _ e⟩
    · exact .inr (.inl ⟨x, s _ _ e⟩)
    · exact .inr (.inr (.inl ⟨x, s _ _ e⟩))
    · exact .inr (.inr (.inr ⟨x, y, s _ _ e⟩))
  | _ => exact k
theorem KvD.same {Z : Ad} {H H' : Hp} (s : Same H H') : ∀ {n : Nat} {v : V}, KvD Z H n v → KvD Z H' n v
  | 0, _, h => Kv.same s h
  | n + 1, v, h => ⟨h.1.same s, fun xs e x hx => by
    rw [tupOf_same s h.1] at e
    exact (h.2 xs e x hx).same s⟩
/-- what is asked of the class of words, for isinstance -/
structure InsK (K : PySem.W.Frag) (Z : Ad) : Prop where
  i : IsC K Z.a_Words
  k : ∀ T : String, T = "int" ∨ T = "bool" ∨ T = "tuple" ∨ T = "list" → PySem.W.kitOne K (.ref Z.a_Words) (.type T) = some false
section
variable {P : Program} {w : World} {K : PySem.W.Frag} {mg : Str → Option Value} {base : Heap} {Z : Ad}
theorem isi_insTy {H : Hp} {Q : VK} {a C dx : Addr} {fs : List (Str × V)} {T : String} {b : Bool} (c : IsC K C) (k : PySem.W.kitOne K (.ref C) (.type T) = some b) (h : H a = some (.ins C dx fs)) (q : Q (.bl b) H) : rIsi K [.ref a, .ty T] H Q := ⟨.ref a, .ty T, .ref C, .type T, b, rfl, .ty _, .base (.ins h c.cl c.ha c.hn c.ht c.hm), k, q⟩
theorem kv_tuple {H : Hp} {Q : VK} {x : V} (I : InsK K Z) (k : Kv Z H x) (q : Q (.bl (tupOf H x).isSome) H) : rIsi K [x, .ty "tuple"] H Q := by
  cases x with
  | non => exact isi_non_tuple q
  | bl b => exact isi_bl_tuple q
  | int b => exact isi_int_tuple q
  | str b => exact isi_str_tuple q
  | ref a =>
    have e : tupOf H (.ref a) = match H a with | some (.tup xs) => some xs | _ => none := rfl
    rcases k with ⟨xs, h⟩ | ⟨xs, h⟩ | ⟨xs, h⟩ | ⟨dx, fs, h⟩
    · rw [e, h] at q
      exact isi_lst_tuple h q
    · rw [e, h] at q
      exact isi_tup_tuple h q
    · rw [e, h] at q
      exact isi_dK_tuple h q
    · rw [e, h] at q
      exact isi_insTy I.i (I.k _ (.inr (.inr (.inl rfl)))) h q
  | _ => exact k.elim
def isIntB : V → Bool
  | .int _ => true
  | .bl _ => true
  | _ => false
theorem kv_int {H : Hp} {Q : VK} {x : V} (I : InsK K Z) (k : Kv Z H x) (q : Q (.bl (isIntB x)) H) : rIsi K [x, .ty "int"] H Q := by
  cases x with
  | non => exact isi_non_int q
  | bl b => exact isi_bl_int q
  | int b => exact isi_int_int q
  | str b => exact isi_str_int q
  | ref a =>
    rcases k with ⟨xs, h⟩ | ⟨xs, h⟩ | ⟨xs, h⟩ | ⟨dx, fs, h⟩
    · exact isi_lst_int h q
    · exact isi_tup_int h q
    · exact isi_dK_int h q
    · exact isi_insTy I.i (I.k _ (.inl rfl)) h q
  | _ => exact k.elim
theorem kv_bool {H : Hp} {Q : VK} {x : V} (I : InsK K Z) (k : Kv Z H x) (q : Q (.bl (isBlB x)) H) : rIsi K [x, .ty "bool"] H Q := by
  cases x with
  | non => exact isi_non_bool q
  | bl b => exact isi_bl_bool q
  | int b => exact isi_int_bool q
  | str b => exact isi_str_bool q
  | ref a =>
    rcases k with ⟨xs, h⟩ | ⟨xs, h⟩ | ⟨xs, h⟩ | ⟨dx, fs, h⟩
    · exact isi_lst_bool h q
    · exact isi_tup_bool h q
    · exact isi_dK_bool h q
    · exact isi_insTy I.i (I.k _ (.inr (.inl rfl))) h q
  | _ => exact k.elim
theorem tupOf_ref {H : Hp} {x : V} {xs : List V} (h : tupOf H x = some xs) : ∃ a, x = .ref a ∧ H a = some (.tup xs) := by
  cases x with
  | ref a =>
    have e : (match H a with | some (.tup xs) => some xs | _ => none) = some xs := h
    cases ha : H a with
    | none => rw [ha] at e; cases e
    | some o =>
      rw [ha] at e
      cases o with
      | tup ys =>
        cases e
        exact ⟨a, rfl, ha⟩
      | _ => cases e
  | _ => cases h
def spWithinK (Z : Ad) : Sp := fun vs H Q _ => ∃ (x : V) (lo hi : Int), vs = [.int lo, .int hi, x] ∧ Kv Z H x ∧ Q (.bl (numV lo hi x)) H
theorem ok_withinK {f : Addr} {fd : FuncData} (F : Fun K "is_within" "is_within" s_is_within f fd) (B : Bl Z mg) (I : InsK K Z) : FnOk P w K mg base CX0 1 f fd ["least", "most", "thing"] (spWithinK Z) := by
  refine F.ok sc_is_within (fun vs H Q E h => ?_) (fun cdv A outer s H vs Q E hr h => ?_)
  · obtain ⟨x, lo, hi, rfl, _⟩ := h
    rfl
  · obtain ⟨x, lo, hi, rfl, hk, q⟩ := h
    refine ⟨_, (pss_cons (ps_if (PW.pt (pw_or (pt_not (pt_val (pe_callB (call_isiK' (K := K) rfl) (by rfl) B.b_isinstance (by decide +kernel) (pa_cons (pv 2) (pa_cons (pe_bltn (v := .ty "int") (by rfl) B.b_int (by decide +kernel) rfl) pa_nil))))) (pw_or1 (pt_val (pe_callB (call_isiK' (K := K) rfl) (by rfl) B.b_isinstance (by decide +kernel) (pa_cons (pv 2) (pa_cons (pe_bltn (v := .ty "bool") (by rfl) B.b_bool (by decide +kernel) rfl) pa_nil))))))) (pss_one (ps_ret pe_bl)) pss_nil)
 (pss_one (ps_ret (pe_chain op_le op_le (pv 0) (pv 2) (pv 1))))), ?_⟩
    walk_at "h0"
    refine kv_int I hk ?_
    cases x with
    | bl b =>
      dsimp only [isIntB]
      walk_at "hs"
      exact q
    | int i =>
      dsimp only [isIntB]
      walk_at "hs"
      refine x_isd (fun c => ?_) (fun c => ?_)
      · walk_at "hs"
        have e : numV lo hi (.int i) = decide (i ≤ hi) := numT c
        rw [← e]
        exact q
      · have e : numV lo hi (.int i) = false := numF c
        rw [e] at q
        exact q
    | non =>
      dsimp only [isIntB]
      walk_at "hs"
      exact q
    | str s =>
      dsimp only [isIntB]
      walk_at "hs"
      exact q
    | ref a =>
      dsimp only [isIntB]
      walk_at "hs"
      exact q
    | _ => exact hk.elim
def spWholeK (Z : Ad) : Sp := fun vs H Q _ => ∃ (x : V) (lo hi : Int), vs = [x, .int lo, .int hi] ∧ Kv Z H x ∧ Q (.bl (numV lo hi x)) H
theorem ok_wholeK {f : Addr} {fd : FuncData} (F : Fun K "_law_is_whole" "_law_is_whole" s__law_is_whole f fd) (B : Bl Z mg) (I : InsK K Z) : FnOk P w K mg base CX0 1 f fd ["_law_thing", "_law_least", "_law_most"] (spWholeK Z) := by
  refine F.ok sc__law_is_whole (fun vs H Q E h => ?_) (fun cdv A outer s H vs Q E hr h => ?_)
  · obtain ⟨x, lo, hi, rfl, _⟩ := h
    rfl
  · obtain ⟨x, lo, hi, rfl, hk, q⟩ := h
    refine ⟨_, (pss_one (ps_ret (pe_and (pe_callB (call_isiK' (K := K) rfl) (by rfl) B.b_isinstance (by decide +kernel) (pa_cons (pv 0) (pa_cons (pe_bltn (v := .ty "int") (by rfl) B.b_int (by decide +kernel) rfl) pa_nil))) (pe_and (pe_not (pe_callB (call_isiK' (K := K) rfl) (by rfl) B.b_isinstance (by decide +kernel) (pa_cons (pv 0) (pa_cons (pe_bltn (v := .ty "bool") (by rfl) B.b_bool (by decide +kernel) rfl) pa_nil)))) (pe_one (pe_chain op_le op_le (pv 1) (pv 0) (pv 2))))))), ?_⟩
    walk_at "h0"
    refine kv_int I hk ?_
    cases x with
    | bl b =>
      dsimp only [isIntB]
      walk_at "hs"
      exact q
    | int i =>
      dsimp only [isIntB]
      walk_at "hs"
      refine x_isd (fun c => ?_) (fun c => ?_)
      · walk_at "hs"
        have e : numV lo hi (.int i) = decide (i ≤ hi) := numT c
        rw [← e]
        exact q
      · have e : numV lo hi (.int i) = false := numF c
        rw [e] at q
        exact q
    | non =>
      dsimp only [isIntB]
      walk_at "hs"
      exact q
    | str s =>
      dsimp only [isIntB]
      walk_at "hs"
      exact q
    | ref a =>
      dsimp only [isIntB]
      walk_at "hs"
      exact q
    | _ => exact hk.elim
end
set_option maxRecDepth 100000
set_option maxHeartbeats 2000000
open PySem PySem.Spec L2


theorem sc__law_deep : FnScope ["_law_hand_here", "_law_found", "_law_turn"] ["_law_hand_here"] (defScope s__law_deep) := ⟨rfl, rfl, rfl, by decide +kernel, rfl, by decide +kernel, by decide +kernel⟩
/-- all stands but what lists hold -/
def LsB (H H' : Hp) : Prop := ∀ a o, H a = some o → H' a = some o ∨ ∃ xs ys, o = .lst xs ∧ H' a = some (.lst ys)
theorem LsB.of_same {H H' : Hp} (s : Same H H') : LsB H H' := fun a o e => .inl (s _ _ e)
theorem LsB.of_but {H H' : Hp} {p : Addr} {F F' : Addr → Prop} (b : But p H H') (h : PoolAt H p F) (h' : PoolAt H' p F') : LsB H H' := fun a o e => by
  by_cases z : a = p
  · subst z
    obtain ⟨xs, e1⟩ := h.lst
    obtain ⟨ys, e2⟩ := h'.lst
    rw [e1] at e
    exact .inr ⟨xs, ys, (Option.some.inj e).symm, e2⟩
  · exact .inl (b _ _ z e)
theorem LsB.mut {H : Hp} {p : Addr} {xs ys : List V} (h : H p = some (.lst xs)) : LsB H (upd H p (.lst ys)) := fun a o e => by
  by_cases z : a = p
  · subst z
    rw [h] at e
    exact .inr ⟨xs, ys, (Option.some.inj e).symm, upd_same⟩
  · exact .inl (by rw [upd_ne z]; exact e)
theorem tupOf_lsb {Z : Ad} {H H' : Hp} {v : V} (s : LsB H H') (k : Kv Z H v) : tupOf H' v = tupOf H v := by
  cases v with
  | ref a =>
    obtain ⟨o, e⟩ := k.some
    show (match H' a with | some (.tup xs) => some xs | _ => none) = (match H a with | some (.tup xs) => some xs | _ => none)
    rcases s _ _ e with e2 | ⟨xs, ys, rfl, e2⟩
    · rw [e, e2]
    · rw [e, e2]
  | _ => rfl
theorem kv_lsb {Z : Ad} {H H' : Hp} {v : V} (s : LsB H H') (k : Kv Z H v) : Kv Z H' v := by
  cases v with
  | ref a =>
    have go : ∀ o, H a = some o → (∀ xs, o ≠ .lst xs) → H' a = some o := fun o e n => by
      rcases s _ _ e with e2 | ⟨xs, ys, e1, _⟩
      · exact e2
      · exact (n _ e1).elim
    rcases k with ⟨x, e⟩ | ⟨x, e⟩ | ⟨x, e⟩ | ⟨x, y, e⟩
    · rcases s _ _ e with e2 | ⟨xs, ys, _, e2⟩
      · exact .inl ⟨x, e2⟩
      · exact .inl ⟨ys, e2⟩
    · exact .inr (.inl ⟨x, go _ e fun _ z => by cases z⟩)
    · exact .inr (.inr (.inl ⟨x, go _ e fun _ z => by cases z⟩))
    · exact .inr (.inr (.inr ⟨x, y, go _ e fun _ z => by cases z⟩))
  | _ => exact k
theorem kvd_lsb {Z : Ad} {H H' : Hp} (s : LsB H H') : ∀ {n : Nat} {v : V}, KvD Z H n v → KvD Z H' n v
  | 0, _, h => kv_lsb s h
  | n + 1, v, h => ⟨kv_lsb s h.1, fun xs e x hx => by
    rw [tupOf_lsb s h.1] at e
    exact kvd_lsb s (h.2 xs e x hx)⟩
def tupO : HO → Option (List V)
  | .tup xs => some xs
  | _ => none
theorem tupOf_at {H : Hp} {a : Addr} {o : HO} (h : H a = some o) : tupOf H (.ref a) = tupO o := by
  show (match H a with | some (.tup xs) => some xs | _ => none) = _
  rw [h]
  cases o <;> rfl
theorem kvd_tupN {Z : Ad} {H : Hp} {a : Addr} {xs : List V} {n : Nat} (h : H a = some (.tup xs)) (k : ∀ x ∈ xs, KvD Z H n x) : KvD Z H (n + 1) (.ref a) :=
  ⟨.inr (.inl ⟨_, h⟩), fun ys e x hx => by
    rw [tupOf_at h] at e
    cases e
    exact k x hx⟩
theorem kvd_tup {Z : Ad} {H : Hp} {a : Addr} {xs : List V} (h : H a = some (.tup xs)) (k : ∀ x ∈ xs, ∀ n, KvD Z H n x) : ∀ n, KvD Z H n (.ref a)
  | 0 => .inr (.inl ⟨_, h⟩)
  | n + 1 => kvd_tupN h fun x hx => k x hx n
theorem kvd_lst {Z : Ad} {H : Hp} {a : Addr} {xs : List V} (h : H a = some (.lst xs)) : ∀ n, KvD Z H n (.ref a)
  | 0 => .inl ⟨_, h⟩
  | n + 1 => ⟨.inl ⟨_, h⟩, fun ys e x hx => by
    rw [tupOf_at h] at e
    cases e⟩
theorem kvd_dK {Z : Ad} {H : Hp} {a : Addr} {kvs : List (Key × V)} (h : H a = some (.dK kvs)) : ∀ n, KvD Z H n (.ref a)
  | 0 => .inr (.inr (.inl ⟨_, h⟩))
  | n + 1 => ⟨.inr (.inr (.inl ⟨_, h⟩)), fun ys e x hx => by
    rw [tupOf_at h] at e
    cases e⟩
theorem kvd_ins {Z : Ad} {H : Hp} {a dx : Addr} {fs : List (Str × V)} (h : H a = some (.ins Z.a_Words dx fs)) : ∀ n, KvD Z H n (.ref a)
  | 0 => .inr (.inr (.inr ⟨_, _, h⟩))
  | n + 1 => ⟨.inr (.inr (.inr ⟨_, _, h⟩)), fun ys e x hx => by
    rw [tupOf_at h] at e
    cases e⟩
theorem kvd_sca {Z : Ad} {H : Hp} {v : V} (h : sca v = true) : ∀ n, KvD Z H n v := by
  have k : Kv Z H v := by
    cases v with
    | non => exact trivial
    | bl b => exact trivial
    | int i => exact trivial
    | str s => exact trivial
    | _ => cases h
  have t : tupOf H v = none := by
    cases v with
    | ref a => cases h
    | _ => rfl
  intro n
  cases n with
  | zero => exact k
  | succ n => exact ⟨k, fun xs e x hx => by rw [t] at e; cases e⟩
theorem KvD.down {Z : Ad} {H : Hp} : ∀ {n : Nat} {v : V}, KvD Z H (n + 1) v → KvD Z H n v
  | 0, _, h => h.1
  | n + 1, _, h => ⟨h.1, fun xs e x hx => (h.2 xs e x hx).down⟩
section
variable {P : Program} {w : World} {K : PySem.W.Frag} {mg : Str → Option Value} {base : Heap} {Z : Ad}
def spDeepW (Z : Ad) : Sp := fun vs H Q _ => ∃ (p : Addr) (F : Addr → Prop), vs = [.ref p] ∧ PoolAt H p F ∧ ∀ v H', (∀ n, KvD Z H' n v) → But p H H' → PoolAt H' p F → Q v H'
theorem ok_deepW {f : Addr} {fd : FuncData} (F : Fun K "_law_deep" "_law_deep" s__law_deep f fd) (B : Bl Z mg) {f__law_draw : Addr} {fd__law_draw : FuncData} (C__law_draw : Cal K mg "_law_draw" f__law_draw fd__law_draw ["_law_hand_here", "_law_many"]) (G__law_draw : FnOk P w K mg base CX0 1 f__law_draw fd__law_draw ["_law_hand_here", "_law_many"] spDraw) : FnOk P w K mg base CX0 2 f fd ["_law_hand_here"] (spDeepW Z) := by
  refine F.ok sc__law_deep (fun vs H Q E h => ?_) (fun cdv A outer s H vs Q E hr h => ?_)
  · obtain ⟨p, Fo, rfl, _⟩ := h
    rfl
  · obtain ⟨p, Fo, rfl, hp, q⟩ := h
    refine ⟨_, (pss_cons (ps_set (i := 1) sc__law_deep.nd rfl (Or.inl rfl) (pe_ix (ix_listK (K := K) rfl) (pe_lst (pa_cons pe_non (pa_cons pe_str (pa_cons (pe_un un_neg pe_int) (pa_cons pe_dnewK pa_nil))))) (pe_call G__law_draw (hr.mono (by first | decide | omega)) (by rfl) C__law_draw.g C__law_draw.k C__law_draw.b .nil pass0 (pa_cons (pv 0) (pa_cons pe_int pa_nil))) (fun _ _ => rfl)))
 (pss_cons (ps_for PassesOwn.never rfl (pi_range1 rfl B.b_range (pa_cons (pe_op op_add pe_int (pe_call G__law_draw (hr.mono (by first | decide | omega)) (by rfl) C__law_draw.g C__law_draw.k C__law_draw.b .nil pass0 (pa_cons (pv 0) (pa_cons pe_int pa_nil)))) pa_nil)) (pg_name (i := 2) sc__law_deep.nd rfl (Or.inl rfl)) (pss_one (ps_set (i := 1) sc__law_deep.nd rfl (Or.inl rfl) (pe_ix (ix_listK (K := K) rfl) (pe_lst (pa_cons (pe_tup (pa_cons (pv 1) pa_nil)) (pa_cons (pe_lst (pa_cons (pv 1) pa_nil)) (pa_cons (pe_slice (sl_tupAK (K := K) rfl) (pe_tup (pa_cons (pv 1) (pa_cons (pv 1) pa_nil))) po_none (po_some pe_int)) (pa_cons (pe_disp (pps_cons pe_int (pv 1) pps_nil) rfl rfl (by decide) (by decide)) pa_nil))))) (pe_call G__law_draw (hr.mono (by first | decide | omega)) (by rfl) C__law_draw.g C__law_draw.k C__law_draw.b .nil pass0 (pa_cons (pv 0) (pa_cons pe_int pa_nil))) (fun _ _ => rfl)))))
 (pss_one (ps_ret (pv 1))))), ?_⟩
    walk_at "h0"
    intro a1 h1
    walk_at "hs"
    intro L hL
    have p2 := (hp.newH (o := .dK []) h1).newH (o := .lst [.non, .str "a", .int (-1), .ref a1]) hL
    walk_at "hs"
    refine ⟨p, 4, _, rfl, p2, by decide, by decide, fun d H1 d0 d1 b1 p3 => ?_⟩
    have sL : SqL K H1 L [.non, .str "a", .int (-1), .ref a1] := .of (b1 _ _ ((hp.newH (o := .dK []) h1).ne hL) upd_same)
    obtain ⟨v, hv, hm⟩ := at_lt (xs := [V.non, .str "a", .int (-1), .ref a1]) d0 d1
    have kv : ∀ n, KvD Z H1 n v := fun n => by
      refine kvd_lsb (LsB.of_but b1 p2 p3) ?_
      simp only [List.mem_cons, List.not_mem_nil, or_false] at hm
      rcases hm with rfl | rfl | rfl | rfl
      · exact kvd_sca rfl n
      · exact kvd_sca rfl n
      · exact kvd_sca rfl n
      · exact kvd_dK (keepN upd_same hL) n
    have b01 : But p H H1 := ((But.new (But.refl p H) h1).new hL).trans b1
    clear hm b1 p2
    walk_at "hs"
    clear hv sL
    refine ⟨p, 30, _, rfl, p3, by decide, by decide, fun d' H2 e0 e1 b2 p4 => ?_⟩
    have kv2 : ∀ n, KvD Z H2 n v := fun n => kvd_lsb (LsB.of_but b2 p3 p4) (kv n)
    have b02 := b01.trans b2
    clear kv b01 b2 p3
    walk_at "hs"
    refine ⟨1 + d', rfl, by omega, by omega, ?_⟩
    refine lp_range (lo := 0) (n := Int.toNat (1 + d')) (fun i σ' H' => ∃ (v : V) (x2 : Option V), σ' = [some (.ref p), some v, x2] ∧ (∀ n, KvD Z H' n v) ∧ But p H H' ∧ PoolAt H' p Fo)
      ⟨v, none, rfl, kv2, b02, p4⟩ ?_ ?_
    · clear kv2 b02 p4 v
      rintro i σ' H' hi ⟨v, x2, rfl, kv, b, pp⟩
      walk_at "hs"
      intro a1 h1
      walk_at "hs"
      intro a2 h2
      walk_at "hs"
      intro a3 h3
      walk_at "hs"
      refine x_slA upd_same fun a4 H4 s4 e4 => ?_
      have s04 : Same H' H4 := (((same_new (Same.refl _) h1).trans (same_new (Same.refl _) h2)).trans (same_new (Same.refl _) h3)).trans s4
      have g1 : H4 a1 = some (.tup [v]) := s4 _ _ (keepN (keepN upd_same h2) h3)
      have g2 : H4 a2 = some (.lst [v]) := s4 _ _ (keepN upd_same h3)
      clear s4 h1 h2 h3
      walk_at "hs"
      refine x_disp0 (v := v) (fun G R q => x_var rfl q) ?_
      intro a5 h5
      walk_at "hs"
      intro L hL
      have s05 : Same H' (upd (upd H4 a5 (.dK [(.inl 0, v)])) L (.lst [.ref a1, .ref a2, .ref a4, .ref a5])) := (s04.trans (same_new (Same.refl _) h5)).trans (same_new (Same.refl _) hL)
      have p5 := pp.same s05
      have nL : L ≠ p := (pp.same (s04.trans (same_new (Same.refl _) h5))).ne hL
      walk_at "hs"
      refine ⟨p, 4, _, rfl, p5, by decide, by decide, fun d H6 d0 d1 b6 p6 => ?_⟩
      have sL : SqL K H6 L [.ref a1, .ref a2, .ref a4, .ref a5] := .of (b6 _ _ nL upd_same)
      obtain ⟨y, hv, hm⟩ := at_lt (xs := [V.ref a1, .ref a2, .ref a4, .ref a5]) d0 d1
      have ky : ∀ n, KvD Z H6 n y := fun n => by
        refine kvd_lsb (LsB.of_but b6 p5 p6) ?_
        simp only [List.mem_cons, List.not_mem_nil, or_false] at hm
        rcases hm with rfl | rfl | rfl | rfl
        · exact kvd_tup (keepN (keepN g1 h5) hL) (fun x hx n => by rw [List.mem_singleton.mp hx]; exact (kv n).same s05) n
        · exact kvd_lst (keepN (keepN g2 h5) hL) n
        · exact kvd_tup (keepN (keepN e4 h5) hL) (fun x hx n => by
            have : x ∈ [v, v] := List.mem_of_mem_drop (List.mem_of_mem_take hx)
            simp only [List.mem_cons, List.not_mem_nil, or_false, or_self] at this
            rw [this]
            exact (kv n).same s05) n
        · exact kvd_dK (keepN upd_same hL) n
      walk_at "hs"
      exact ⟨y, _, rfl, ky, (b.trans (.of s05)).trans b6, p6⟩
    · rintro σ' H' ⟨v, x2, rfl, kv, b, pp⟩
      walk_at "hs"
      exact q v H' kv b pp
def spOddV (Z : Ad) : Sp := fun vs H Q _ => ∃ (p x : Addr) (n : Nat) (F : Addr → Prop), vs = [.ref p, .int n, .ref x] ∧ PoolAt H p F ∧ (∃ dx fs, H x = some (.ins Z.a_Words dx fs)) ∧ n ≤ 40 ∧ ∀ v H', Kv Z H' v → But p H H' → PoolAt H' p F → Q v H'
theorem ok_oddV {f : Addr} {fd : FuncData} (F : Fun K "_law_odd" "_law_odd" s__law_odd f fd) (B : Bl Z mg) {f__law_draw : Addr} {fd__law_draw : FuncData} (C__law_draw : Cal K mg "_law_draw" f__law_draw fd__law_draw ["_law_hand_here", "_law_many"]) (G__law_draw : FnOk P w K mg base CX0 1 f__law_draw fd__law_draw ["_law_hand_here", "_law_many"] spDraw) {f__law_deep : Addr} {fd__law_deep : FuncData} (C__law_deep : Cal K mg "_law_deep" f__law_deep fd__law_deep ["_law_hand_here"]) (G__law_deep : FnOk P w K mg base CX0 2 f__law_deep fd__law_deep ["_law_hand_here"] (spDeepW Z)) : FnOk P w K mg base CX0 3 f fd ["_law_hand_here", "_law_blocks", "_law_words"] (spOddV Z) := by
  refine F.ok sc__law_odd (fun vs H Q E h => ?_) (fun cdv A outer s H vs Q E hr h => ?_)
  · obtain ⟨p, x, n, Fo, rfl, _⟩ := h
    rfl
  · obtain ⟨p, x, n, Fo, rfl, hp, ⟨dx, fs, hx⟩, n40, q⟩ := h
    refine ⟨_, (pss_cons (ps_set (i := 3) sc__law_odd.nd rfl (Or.inl rfl) (pe_lst (pa_cons pe_non (pa_cons pe_bl (pa_cons pe_bl (pa_cons (pe_un un_neg pe_int) (pa_cons pe_int (pa_cons (pv 1) (pa_cons (pe_op op_add (pv 1) pe_int) (pa_cons pe_str (pa_cons (pe_tup (pa_cons pe_int pa_nil)) (pa_cons (pe_lst (pa_cons pe_int pa_nil)) (pa_cons pe_dnewK (pa_cons (pe_op op_pow pe_int pe_int) (pa_cons (pv 2) (pa_cons (pe_call G__law_deep (hr.mono (by first | decide | omega)) (by rfl) C__law_deep.g C__law_deep.k C__law_deep.b .nil pass0 (pa_cons (pv 0) pa_nil)) (pa_cons pe_int (pa_cons pe_int pa_nil))))))))))))))))))
 (pss_one (ps_ret (pe_ix (ix_listK (K := K) rfl) (pv 3) (pe_call G__law_draw (hr.mono (by first | decide | omega)) (by rfl) C__law_draw.g C__law_draw.k C__law_draw.b .nil pass0 (pa_cons (pv 0) (pa_cons pe_int pa_nil))) (fun _ _ => rfl))))), ?_⟩
    walk_at "h0"
    intro a1 n1
    have s1 : Same H (upd H a1 (.tup [.int 1])) := same_new (Same.refl _) n1
    have e1 : upd H a1 (.tup [.int 1]) a1 = some (.tup [.int 1]) := upd_same
    generalize upd H a1 (.tup [.int 1]) = G1 at s1 e1 ⊢
    walk_at "hs"
    intro a2 n2
    have s2 : Same G1 (upd G1 a2 (.lst [.int 1])) := same_new (Same.refl _) n2
    have e2 : upd G1 a2 (.lst [.int 1]) a2 = some (.lst [.int 1]) := upd_same
    generalize upd G1 a2 (.lst [.int 1]) = G2 at s2 e2 ⊢
    walk_at "hs"
    intro a3 n3
    have s3 : Same G2 (upd G2 a3 (.dK [])) := same_new (Same.refl _) n3
    have e3 : upd G2 a3 (.dK []) a3 = some (.dK []) := upd_same
    generalize upd G2 a3 (.dK []) = G3 at s3 e3 ⊢
    walk_at "hs"
    have t2 := s2.trans s3
    have t1 := s1.trans t2
    have f1 := t2 _ _ e1
    have f2 := s3 _ _ e2
    have fx := t1 _ _ hx
    have p3 := hp.same t1
    refine ⟨p, _, rfl, p3, fun v G4 kv b4 p4 => ?_⟩
    have k1 : Kv Z G4 (.ref a1) := kv_lsb (LsB.of_but b4 p3 p4) (.inr (.inl ⟨_, f1⟩))
    have k2 : Kv Z G4 (.ref a2) := kv_lsb (LsB.of_but b4 p3 p4) (.inl ⟨_, f2⟩)
    have k3 : Kv Z G4 (.ref a3) := kv_lsb (LsB.of_but b4 p3 p4) (.inr (.inr (.inl ⟨_, e3⟩)))
    have kx : Kv Z G4 (.ref x) := kv_lsb (LsB.of_but b4 p3 p4) (.inr (.inr (.inr ⟨_, _, fx⟩)))
    have kw : Kv Z G4 v := (kv 0)
    have b14 : But p H G4 := (But.of t1).trans b4
    clear kv b4 p3 fx f1 f2 e1 e2 e3 n1 n2 n3 s1 s2 s3 t1 t2
    walk_at "hs"
    intro L nL
    have s5 : Same G4 (upd G4 L (.lst [.non, .bl true, .bl false, .int (-1), .int 0, .int n, .int (n + 1), .str "1", .ref a1, .ref a2, .ref a3, .int (10 ^ Int.toNat 30), .ref x, v, .int 1, .int 1])) := same_new (Same.refl _) nL
    have eL : upd G4 L (.lst [.non, .bl true, .bl false, .int (-1), .int 0, .int n, .int (n + 1), .str "1", .ref a1, .ref a2, .ref a3, .int (10 ^ Int.toNat 30), .ref x, v, .int 1, .int 1]) L = some (.lst [.non, .bl true, .bl false, .int (-1), .int 0, .int n, .int (n + 1), .str "1", .ref a1, .ref a2, .ref a3, .int (10 ^ Int.toNat 30), .ref x, v, .int 1, .int 1]) := upd_same
    generalize upd G4 L (.lst [.non, .bl true, .bl false, .int (-1), .int 0, .int n, .int (n + 1), .str "1", .ref a1, .ref a2, .ref a3, .int (10 ^ Int.toNat 30), .ref x, v, .int 1, .int 1]) = G5 at s5 eL ⊢
    have key : ∀ y ∈ ([.non, .bl true, .bl false, .int (-1), .int 0, .int n, .int (n + 1), .str "1", .ref a1, .ref a2, .ref a3, .int (10 ^ Int.toNat 30), .ref x, v, .int 1, .int 1] : List V), Kv Z G5 y := fun y hy => by
      simp only [List.mem_cons, List.not_mem_nil, or_false] at hy
      rcases hy with rfl | rfl | rfl | rfl | rfl | rfl | rfl | rfl | rfl | rfl | rfl | rfl | rfl | rfl | rfl | rfl
      all_goals first
        | exact k1.same s5
        | exact k2.same s5
        | exact k3.same s5
        | exact kx.same s5
        | exact kw.same s5
        | exact True.intro
    have nLp : L ≠ p := p4.ne nL
    have p5 := p4.same s5
    have b5 := b14.trans (But.of s5)
    clear k1 k2 k3 kx kw s5 nL b14 p4
    walk_at "hs"
    refine ⟨p, 16, _, rfl, p5, by decide, by decide, fun d H6 d0 d1 b6 p6 => ?_⟩
    have s6 := SqL.of (K := K) (b6 _ _ nLp eL)
    obtain ⟨y, hv, hm⟩ := at_lt (xs := [V.non, .bl true, .bl false, .int (-1), .int 0, .int n, .int (n + 1), .str "1", .ref a1, .ref a2, .ref a3, .int (10 ^ Int.toNat 30), .ref x, v, .int 1, .int 1]) d0 d1
    walk_at "hs"
    exact q y H6 (kv_lsb (LsB.of_but b6 p5 p6) (key y hm)) (b5.trans b6) p6
end
set_option maxRecDepth 100000
set_option maxHeartbeats 2000000
open PySem PySem.Spec L2


theorem sc__law_is : FnScope ["_law_told", "_law_due", "_law_one", "_law_two"] ["_law_told", "_law_due"] (defScope s__law_is) := ⟨rfl, rfl, rfl, by decide +kernel, rfl, by decide +kernel, by decide +kernel⟩
section
variable {P : Program} {w : World} {K : PySem.W.Frag} {mg : Str → Option Value} {base : Heap} {Z : Ad}
def spIsC (n : Nat) : Sp := fun vs H Q _ => ∃ (x y : V) (r : Bool), vs = [x, y] ∧ Cm H n x y r ∧ ∀ H', Same H H' → Q (.bl r) H'
theorem fnF {f : Addr} {fd : FuncData} {ps : List Str} : FnOk P w K mg base CX0 1 f fd ps (fun _ _ _ _ => False) := ⟨fun _ _ _ _ h => h.elim, fun _ _ _ _ _ _ _ _ _ _ _ _ _ h => h.elim⟩
theorem is_scaC {f : Addr} {fd : FuncData} (F : Fun K "_law_is" "_law_is" s__law_is f fd) (B : Bl Z mg) {x y : V} {cdv : Value} {A : Around} {outer : List Env} {s : Shared} {H : Hp} {Q : VK} {E : XK} {j : Nat} (G__law_is : FnOk P w K mg base CX0 1 f fd ["_law_told", "_law_due"] (fun _ _ _ _ => False)) (C__law_is : Cal K mg "_law_is" f fd ["_law_told", "_law_due"]) (hx : sca x = true) (hy : sca y = true) (q : ∀ H', Same H H' → Q (.bl (decide (x = y))) H') (hr : Room (j + 1) (A.deeper (PyProof.Rows.envOfC "_law_is" (defScope s__law_is) s.heap.objs.size f cdv))) :
    ∃ t, PSs (cxOf CX0 P w K mg base ["_law_told", "_law_due", "_law_one", "_law_two"] "_law_is" (defScope s__law_is) f cdv A outer s H E).nox (defBody s__law_is) t ∧ t { nx := fun _ H' => Q .non H', rt := Q } (L2.start ["_law_told", "_law_due", "_law_one", "_law_two"] [x, y]) H := by
  refine ⟨_, (pss_cons (ps_if (pt_val (pe_callB (call_isiTK (K := K) rfl) (by rfl) B.b_isinstance (by decide +kernel) (pa_cons (pv 1) (pa_cons (pe_tup (pa_cons (pe_bltn (v := .ty "tuple") (by rfl) B.b_tuple (by decide +kernel) rfl) (pa_cons (pe_bltn (v := .ty "list") (by rfl) B.b_list (by decide +kernel) rfl) pa_nil))) pa_nil)))) (pss_cons (ps_if (PW.pt (pw_or (pt_cmpR op_ne (pe_callB (call_isiK' (K := K) rfl) (by rfl) B.b_isinstance (by decide +kernel) (pa_cons (pv 0) (pa_cons (pe_bltn (v := .ty "tuple") (by rfl) B.b_tuple (by decide +kernel) rfl) pa_nil))) (pe_callB (call_isiK' (K := K) rfl) (by rfl) B.b_isinstance (by decide +kernel) (pa_cons (pv 1) (pa_cons (pe_bltn (v := .ty "tuple") (by rfl) B.b_tuple (by decide +kernel) rfl) pa_nil))) (nomark _)) (pw_or1 (pt_not (pt_val (pe_callB (call_isiTK (K := K) rfl) (by rfl) B.b_isinstance (by decide +kernel) (pa_cons (pv 0) (pa_cons (pe_tup (pa_cons (pe_bltn (v := .ty "tuple") (by rfl) B.b_tuple (by decide +kernel) rfl) (pa_cons (pe_bltn (v := .ty "list") (by rfl) B.b_list (by decide +kernel) rfl) pa_nil))) pa_nil)))))))) (pss_one (ps_ret pe_bl)) pss_nil)
 (pss_one (ps_ret (pe_and (pe_cmpR op_eq (pe_callB (call_lenK (K := K) rfl) (by rfl) B.b_len PySem.boot_len (pa_cons (pv 0) pa_nil)) (pe_callB (call_lenK (K := K) rfl) (by rfl) B.b_len PySem.boot_len (pa_cons (pv 1) pa_nil)) (nomark _)) (pe_one (pe_callB (cr_allK (K := K) rfl rfl) (by rfl) B.b_all (by decide +kernel) (pa_cons (pe_lc (own := [("_law_one", 2), ("_law_two", 3)]) rfl sc__law_is.nd (pi_zipAK (K := K) rfl (by rfl) B.b_zip (pa_cons (pv 0) (pa_cons (pv 1) pa_nil))) (blkOk_by (N := ["_law_told", "_law_due", "_law_one", "_law_two"]) (sc := defScope s__law_is) (by decide +kernel)) (fun _ _ _ _ _ => (pg_tupK (K := K) (n := 2) rfl rfl (pgs_cons (pg_name (i := 2) sc__law_is.nd rfl (Or.inl rfl)) (pgs_cons (pg_name (i := 3) sc__law_is.nd rfl (Or.inl rfl)) pgs_nil)))) (fun _ _ _ _ _ => pts_nil) (fun _ _ _ _ _ => (pe_call G__law_is (hr.mono (by first | decide | omega)) (by rfl) C__law_is.g C__law_is.k C__law_is.b .nil pass0 (pa_cons (pv 2) (pa_cons (pv 3) pa_nil))))) pa_nil))))))) pss_nil)
 (pss_one (ps_ret (pe_and (pe_cmpR op_eq (pe_callB (call_isiK' (K := K) rfl) (by rfl) B.b_isinstance (by decide +kernel) (pa_cons (pv 0) (pa_cons (pe_bltn (v := .ty "bool") (by rfl) B.b_bool (by decide +kernel) rfl) pa_nil))) (pe_callB (call_isiK' (K := K) rfl) (by rfl) B.b_isinstance (by decide +kernel) (pa_cons (pv 1) (pa_cons (pe_bltn (v := .ty "bool") (by rfl) B.b_bool (by decide +kernel) rfl) pa_nil))) (nomark _)) (pe_one (pe_cmpR op_eq (pv 0) (pv 1) (nomark _))))))), ?_⟩
  walk_at "h0"
  intro p hp
  walk_at "hs"
  have q2 := q (upd H p (.tup [.ty "tuple", .ty "list"])) (same_new (Same.refl _) hp)
  cases y with
  | non =>
    refine x_isiTn (t := "NoneType") upd_same (.base .non) (by decide +kernel) (by decide +kernel) ?_
    cases x with
    | non =>
      walk_at "hs"
      first
      | exact q2
      | simpa using q2
      | (rw [decide_eq_false (by intro e; cases e)] at q2; exact q2)
    | bl d =>
      walk_at "hs"
      first
      | exact q2
      | simpa using q2
      | (rw [decide_eq_false (by intro e; cases e)] at q2; exact q2)
    | int d =>
      walk_at "hs"
      first
      | exact q2
      | simpa using q2
      | (rw [decide_eq_false (by intro e; cases e)] at q2; exact q2)
    | str d =>
      walk_at "hs"
      first
      | exact q2
      | simpa using q2
      | (rw [decide_eq_false (by intro e; cases e)] at q2; exact q2)
    | _ => cases hx
  | bl b =>
    refine x_isiTn (t := "bool") upd_same (.base (.bl b)) (by decide +kernel) (by decide +kernel) ?_
    cases x with
    | non =>
      walk_at "hs"
      first
      | exact q2
      | simpa using q2
      | (rw [decide_eq_false (by intro e; cases e)] at q2; exact q2)
    | bl d =>
      walk_at "hs"
      first
      | exact q2
      | simpa using q2
      | (rw [decide_eq_false (by intro e; cases e)] at q2; exact q2)
    | int d =>
      walk_at "hs"
      first
      | exact q2
      | simpa using q2
      | (rw [decide_eq_false (by intro e; cases e)] at q2; exact q2)
    | str d =>
      walk_at "hs"
      first
      | exact q2
      | simpa using q2
      | (rw [decide_eq_false (by intro e; cases e)] at q2; exact q2)
    | _ => cases hx
  | int i =>
    refine x_isiTn (t := "int") upd_same (.base (.int i)) (by decide +kernel) (by decide +kernel) ?_
    cases x with
    | non =>
      walk_at "hs"
      first
      | exact q2
      | simpa using q2
      | (rw [decide_eq_false (by intro e; cases e)] at q2; exact q2)
    | bl d =>
      walk_at "hs"
      first
      | exact q2
      | simpa using q2
      | (rw [decide_eq_false (by intro e; cases e)] at q2; exact q2)
    | int d =>
      walk_at "hs"
      first
      | exact q2
      | simpa using q2
      | (rw [decide_eq_false (by intro e; cases e)] at q2; exact q2)
    | str d =>
      walk_at "hs"
      first
      | exact q2
      | simpa using q2
      | (rw [decide_eq_false (by intro e; cases e)] at q2; exact q2)
    | _ => cases hx
  | str i =>
    refine x_isiTn (t := "str") upd_same (.base (.str i)) (by decide +kernel) (by decide +kernel) ?_
    cases x with
    | non =>
      walk_at "hs"
      first
      | exact q2
      | simpa using q2
      | (rw [decide_eq_false (by intro e; cases e)] at q2; exact q2)
    | bl d =>
      walk_at "hs"
      first
      | exact q2
      | simpa using q2
      | (rw [decide_eq_false (by intro e; cases e)] at q2; exact q2)
    | int d =>
      walk_at "hs"
      first
      | exact q2
      | simpa using q2
      | (rw [decide_eq_false (by intro e; cases e)] at q2; exact q2)
    | str d =>
      walk_at "hs"
      first
      | exact q2
      | simpa using q2
      | (rw [decide_eq_false (by intro e; cases e)] at q2; exact q2)
    | _ => cases hx
  | _ => cases hy
theorem ok_isC {f : Addr} {fd : FuncData} (F : Fun K "_law_is" "_law_is" s__law_is f fd) (B : Bl Z mg) (C__law_is : Cal K mg "_law_is" f fd ["_law_told", "_law_due"]) : ∀ n, FnOk P w K mg base CX0 (n + 2) f fd ["_law_told", "_law_due"] (spIsC n)
  | 0 => by
    refine F.ok sc__law_is (fun vs H Q E h => ?_) (fun cdv A outer s H vs Q E hr h => ?_)
    · obtain ⟨x, y, r, rfl, _⟩ := h
      rfl
    · obtain ⟨x, y, r, rfl, ⟨hx, hy, rfl⟩, q⟩ := h
      exact is_scaC F B fnF C__law_is hx hy q hr
  | n + 1 => by
    have G__law_is := ok_isC F B C__law_is n
    refine F.ok sc__law_is (fun vs H Q E h => ?_) (fun cdv A outer s H vs Q E hr h => ?_)
    · obtain ⟨x, y, r, rfl, _⟩ := h
      rfl
    · obtain ⟨x, y, r, rfl, hc, q⟩ := h
      rcases hc with ⟨hx, hy, rfl⟩ | ⟨a, b, xs, ys, rfl, rfl, hab, lx, ly, hc⟩
      · exact is_scaC F B fnF C__law_is hx hy q hr
      rcases hab with ⟨ha, hb⟩ | ⟨ha, hb⟩
      all_goals refine ⟨_, (pss_cons (ps_if (pt_val (pe_callB (call_isiTK (K := K) rfl) (by rfl) B.b_isinstance (by decide +kernel) (pa_cons (pv 1) (pa_cons (pe_tup (pa_cons (pe_bltn (v := .ty "tuple") (by rfl) B.b_tuple (by decide +kernel) rfl) (pa_cons (pe_bltn (v := .ty "list") (by rfl) B.b_list (by decide +kernel) rfl) pa_nil))) pa_nil)))) (pss_cons (ps_if (PW.pt (pw_or (pt_cmpR op_ne (pe_callB (call_isiK' (K := K) rfl) (by rfl) B.b_isinstance (by decide +kernel) (pa_cons (pv 0) (pa_cons (pe_bltn (v := .ty "tuple") (by rfl) B.b_tuple (by decide +kernel) rfl) pa_nil))) (pe_callB (call_isiK' (K := K) rfl) (by rfl) B.b_isinstance (by decide +kernel) (pa_cons (pv 1) (pa_cons (pe_bltn (v := .ty "tuple") (by rfl) B.b_tuple (by decide +kernel) rfl) pa_nil))) (nomark _)) (pw_or1 (pt_not (pt_val (pe_callB (call_isiTK (K := K) rfl) (by rfl) B.b_isinstance (by decide +kernel) (pa_cons (pv 0) (pa_cons (pe_tup (pa_cons (pe_bltn (v := .ty "tuple") (by rfl) B.b_tuple (by decide +kernel) rfl) (pa_cons (pe_bltn (v := .ty "list") (by rfl) B.b_list (by decide +kernel) rfl) pa_nil))) pa_nil)))))))) (pss_one (ps_ret pe_bl)) pss_nil)
 (pss_one (ps_ret (pe_and (pe_cmpR op_eq (pe_callB (call_lenK (K := K) rfl) (by rfl) B.b_len PySem.boot_len (pa_cons (pv 0) pa_nil)) (pe_callB (call_lenK (K := K) rfl) (by rfl) B.b_len PySem.boot_len (pa_cons (pv 1) pa_nil)) (nomark _)) (pe_one (pe_callB (cr_allK (K := K) rfl rfl) (by rfl) B.b_all (by decide +kernel) (pa_cons (pe_lc (own := [("_law_one", 2), ("_law_two", 3)]) rfl sc__law_is.nd (pi_zipAK (K := K) rfl (by rfl) B.b_zip (pa_cons (pv 0) (pa_cons (pv 1) pa_nil))) (blkOk_by (N := ["_law_told", "_law_due", "_law_one", "_law_two"]) (sc := defScope s__law_is) (by decide +kernel)) (fun _ _ _ _ _ => (pg_tupK (K := K) (n := 2) rfl rfl (pgs_cons (pg_name (i := 2) sc__law_is.nd rfl (Or.inl rfl)) (pgs_cons (pg_name (i := 3) sc__law_is.nd rfl (Or.inl rfl)) pgs_nil)))) (fun _ _ _ _ _ => pts_nil) (fun _ _ _ _ _ => (pe_call G__law_is (hr.mono (by first | decide | omega)) (by rfl) C__law_is.g C__law_is.k C__law_is.b .nil pass0 (pa_cons (pv 2) (pa_cons (pv 3) pa_nil))))) pa_nil))))))) pss_nil)
 (pss_one (ps_ret (pe_and (pe_cmpR op_eq (pe_callB (call_isiK' (K := K) rfl) (by rfl) B.b_isinstance (by decide +kernel) (pa_cons (pv 0) (pa_cons (pe_bltn (v := .ty "bool") (by rfl) B.b_bool (by decide +kernel) rfl) pa_nil))) (pe_callB (call_isiK' (K := K) rfl) (by rfl) B.b_isinstance (by decide +kernel) (pa_cons (pv 1) (pa_cons (pe_bltn (v := .ty "bool") (by rfl) B.b_bool (by decide +kernel) rfl) pa_nil))) (nomark _)) (pe_one (pe_cmpR op_eq (pv 0) (pv 1) (nomark _))))))), ?_⟩
      all_goals walk_at "h0"
      all_goals intro p hp
      all_goals walk_at "hs"
      · refine x_isiTb (t := "list") upd_same (.base (.lst (by walk_at "hu"))) (by decide +kernel) (by decide +kernel) ?_
        walk_at "hs"
        intro p2 hp2
        walk_at "hs"
        refine x_isiTb (t := "list") upd_same (.base (.lst (by walk_at "hu"))) (by decide +kernel) (by decide +kernel) ?_
        walk_at "hs"
        have s1 : Same H (upd (upd H p (.tup [.ty "tuple", .ty "list"])) p2 (.tup [.ty "tuple", .ty "list"])) := same_new (same_new (Same.refl _) hp) hp2
        rcases hc with ⟨hl, rfl⟩ | ⟨hl, rs, lr, rfl, hc⟩
        · refine x_isdF (by omega) ?_
          walk_at "hs"
          exact q _ s1
        refine x_isdT (by omega) ?_
        walk_at "hs"
        refine x_zipA ?_
        walk_at "hs"
        have ha1 := s1 _ _ ha
        have hb1 := s1 _ _ hb
        refine ⟨a, b, _, _, rfl, .inl ⟨.of ha1, .of hb1, fun D hD => ?_⟩⟩
        generalize hG : upd (upd H p (.tup [.ty "tuple", .ty "list"])) p2 (.tup [.ty "tuple", .ty "list"]) = G at *
        refine lc_zipL (K := K) (xs := xs) (ys := ys) hl (fun i H' => Same G H' ∧ H' D = some (.lst ((rs.take i).map V.bl))) ⟨same_new (Same.refl _) hD, upd_same⟩ (fun i H' _ h => ⟨.of (h.1 _ _ ha1), .of (h.1 _ _ hb1)⟩) ?_ ?_
        · rintro i vx vy H' U hvx hvy ⟨s2, eD⟩ hU
          obtain ⟨i1, ex⟩ := List.getElem?_eq_some_iff.mp hvx
          obtain ⟨i2, ey⟩ := List.getElem?_eq_some_iff.mp hvy
          subst ex ey
          have i3 : i < rs.length := by omega
          walk_at "hs"
          refine ⟨rfl, ?_⟩
          walk_at "hs"
          refine ⟨_, _, rs[i], rfl, (hc i i1 i2 i3).same (s1.trans (same_new s2 hU)), fun H2 s3 => ?_⟩
          have s4 : Same G H2 := (same_new s2 hU).trans s3
          refine ⟨_, s3 _ _ (keepN eD hU), szLt (by rw [List.length_map, List.length_take]; omega), same_mut s4 hD, ?_⟩
          rw [upd_same, List.take_succ, List.getElem?_eq_getElem i3, List.map_append]
          rfl
        · rintro H' ⟨s2, eD⟩
          rw [← lr, List.take_length] at eD
          walk_at "hs"
          refine ⟨D, _, rfl, SqL.of eD, ?_⟩
          exact q _ (s1.trans s2)
      · refine x_isiT1 (t := "tuple") upd_same (.base (.tup (by walk_at "hu"))) (by decide +kernel) (by decide +kernel) ?_
        walk_at "hs"
        intro p2 hp2
        walk_at "hs"
        refine x_isiT1 (t := "tuple") upd_same (.base (.tup (by walk_at "hu"))) (by decide +kernel) (by decide +kernel) ?_
        walk_at "hs"
        have s1 : Same H (upd (upd H p (.tup [.ty "tuple", .ty "list"])) p2 (.tup [.ty "tuple", .ty "list"])) := same_new (same_new (Same.refl _) hp) hp2
        rcases hc with ⟨hl, rfl⟩ | ⟨hl, rs, lr, rfl, hc⟩
        · refine x_isdF (by omega) ?_
          walk_at "hs"
          exact q _ s1
        refine x_isdT (by omega) ?_
        walk_at "hs"
        refine x_zipA ?_
        walk_at "hs"
        have ha1 := s1 _ _ ha
        have hb1 := s1 _ _ hb
        refine ⟨a, b, _, _, rfl, .inr ⟨.of ha1, .of hb1, fun D hD => ?_⟩⟩
        generalize hG : upd (upd H p (.tup [.ty "tuple", .ty "list"])) p2 (.tup [.ty "tuple", .ty "list"]) = G at *
        refine lc_zipT (K := K) (xs := xs) (ys := ys) hl (fun i H' => Same G H' ∧ H' D = some (.lst ((rs.take i).map V.bl))) ⟨same_new (Same.refl _) hD, upd_same⟩ (fun i H' _ h => ⟨.of (h.1 _ _ ha1), .of (h.1 _ _ hb1)⟩) ?_ ?_
        · rintro i vx vy H' U hvx hvy ⟨s2, eD⟩ hU
          obtain ⟨i1, ex⟩ := List.getElem?_eq_some_iff.mp hvx
          obtain ⟨i2, ey⟩ := List.getElem?_eq_some_iff.mp hvy
          subst ex ey
          have i3 : i < rs.length := by omega
          walk_at "hs"
          refine ⟨rfl, ?_⟩
          walk_at "hs"
          refine ⟨_, _, rs[i], rfl, (hc i i1 i2 i3).same (s1.trans (same_new s2 hU)), fun H2 s3 => ?_⟩
          have s4 : Same G H2 := (same_new s2 hU).trans s3
          refine ⟨_, s3 _ _ (keepN eD hU), szLt (by rw [List.length_map, List.length_take]; omega), same_mut s4 hD, ?_⟩
          rw [upd_same, List.take_succ, List.getElem?_eq_getElem i3, List.map_append]
          rfl
        · rintro H' ⟨s2, eD⟩
          rw [← lr, List.take_length] at eD
          walk_at "hs"
          refine ⟨D, _, rfl, SqL.of eD, ?_⟩
          exact q _ (s1.trans s2)
end
set_option maxRecDepth 100000
set_option maxHeartbeats 4000000
open PySem PySem.Spec L2


theorem zw_all {α : Type} [DecidableEq α] : ∀ {us vs : List α}, us.length = vs.length → (List.zipWith (fun x y => decide (x = y)) us vs).all id = decide (us = vs)
  | [], [], _ => rfl
  | [], _ :: _, h => by simp at h
  | _ :: _, [], h => by simp at h
  | a :: us, b :: vs, h => by
    rw [List.zipWith_cons_cons, List.all_cons, zw_all (by simpa using h), Bool.eq_iff_iff]
    simp
theorem cm_sca {H : Hp} {x y : V} (hx : sca x = true) (hy : sca y = true) : ∀ n, Cm H n x y (decide (x = y))
  | 0 => ⟨hx, hy, rfl⟩
  | n + 1 => .inl ⟨hx, hy, rfl⟩
theorem cm_map {α : Type} [DecidableEq α] {H : Hp} {f : α → V} (inj : ∀ x y, f x = f y → x = y) (hs : ∀ x, sca (f x) = true) {a b : Addr} {us vs : List α} (ha : H a = some (.tup (us.map f))) (hb : H b = some (.tup (vs.map f))) (la : us.length ≤ 1000) (lb : vs.length ≤ 1000) (n : Nat) : Cm H (n + 1) (.ref a) (.ref b) (decide (us = vs)) := by
  refine .inr ⟨a, b, _, _, rfl, rfl, .inr ⟨ha, hb⟩, by rw [List.length_map]; exact la, by rw [List.length_map]; exact lb, ?_⟩
  by_cases e : us.length = vs.length
  · refine .inr ⟨by rw [List.length_map, List.length_map]; exact e, List.zipWith (fun x y => decide (x = y)) us vs, by rw [List.length_zipWith, List.length_map]; omega, (zw_all e).symm, fun i h1 h2 h3 => ?_⟩
    rw [List.getElem_zipWith, List.getElem_map, List.getElem_map]
    have := cm_sca (H := H) (hs (us[i]'(by rw [List.length_map] at h1; exact h1))) (hs (vs[i]'(by rw [List.length_map] at h2; exact h2))) n
    have e2 : decide (f (us[i]'(by rw [List.length_map] at h1; exact h1)) = f (vs[i]'(by rw [List.length_map] at h2; exact h2))) = decide ((us[i]'(by rw [List.length_map] at h1; exact h1)) = (vs[i]'(by rw [List.length_map] at h2; exact h2))) := by
      rw [decide_eq_decide]
      exact ⟨inj _ _, fun z => by rw [z]⟩
    rw [e2] at this
    exact this
  · refine .inl ⟨by rw [List.length_map, List.length_map]; exact e, decide_eq_false fun z => e (by rw [z])⟩
theorem wdV_inj : ∀ x y, wdV x = wdV y → x = y := fun x y h => by
  cases x <;> cases y <;> first | rfl | (cases h; done) | (cases h; rfl)
theorem upV_inj : ∀ x y, upV x = upV y → x = y := fun x y h => by
  cases x with
  | none => cases y with
    | none => rfl
    | some b => cases h
  | some a => cases y with
    | none => cases h
    | some b =>
      have := V.int.inj h
      have : a = b := by omega
      rw [this]
theorem wdV_sca : ∀ x, sca (wdV x) = true := fun x => by cases x <;> rfl
theorem upV_sca : ∀ x, sca (upV x) = true := fun x => by cases x <;> rfl
theorem cm_rows {H : Hp} {a b : Addr} {as bs : List Addr} {ls ks : List (List (Option Bool))} (ha : H a = some (.tup (refs as))) (hb : H b = some (.tup (refs bs))) (hr : Rows H as ls) (hk : Rows H bs ks) (la : ls.length ≤ 1000) (lb : ks.length ≤ 1000) (lr : ∀ r ∈ ls, r.length ≤ 1000) (lk : ∀ r ∈ ks, r.length ≤ 1000) (n : Nat) : Cm H (n + 2) (.ref a) (.ref b) (decide (ls = ks)) := by
  refine .inr ⟨a, b, _, _, rfl, rfl, .inr ⟨ha, hb⟩, by rw [refs_length, hr.len]; exact la, by rw [refs_length, hk.len]; exact lb, ?_⟩
  by_cases e : ls.length = ks.length
  · refine .inr ⟨by rw [refs_length, refs_length, hr.len, hk.len]; exact e, List.zipWith (fun x y => decide (x = y)) ls ks, by rw [List.length_zipWith, refs_length, hr.len]; omega, (zw_all e).symm, fun i h1 h2 h3 => ?_⟩
    rw [refs_length, hr.len] at h1
    rw [refs_length, hk.len] at h2
    rw [List.getElem_zipWith]
    obtain ⟨x, ex, hx⟩ := hr.get h1
    obtain ⟨y, ey, hy⟩ := hk.get h2
    have e1 : (refs as)[i]'(by rw [refs_length, hr.len]; exact h1) = .ref x := (List.getElem?_eq_some_iff.mp (refs_get ex)).2
    have e2 : (refs bs)[i]'(by rw [refs_length, hk.len]; exact h2) = .ref y := (List.getElem?_eq_some_iff.mp (refs_get ey)).2
    rw [e1, e2]
    exact cm_map wdV_inj wdV_sca hx hy (lr _ (List.getElem_mem h1)) (lk _ (List.getElem_mem h2)) n
  · exact .inl ⟨by rw [refs_length, refs_length, hr.len, hk.len]; exact e, decide_eq_false fun z => e (by rw [z])⟩
theorem cm_lst {H : Hp} {a b : Addr} {n : Nat} : ∀ {xs ys : List V} {rs : List Bool}, H a = some (.lst xs) → H b = some (.lst ys) → xs.length ≤ 1000 → xs.length = ys.length → rs.length = xs.length → (∀ i (h1 : i < xs.length) (h2 : i < ys.length) (h3 : i < rs.length), Cm H n xs[i] ys[i] rs[i]) → Cm H (n + 1) (.ref a) (.ref b) (rs.all id) :=
  fun {xs ys rs} ha hb hx he hr h => .inr ⟨a, b, xs, ys, rfl, rfl, .inl ⟨ha, hb⟩, hx, by omega, .inr ⟨he, rs, hr, rfl, h⟩⟩
/-- lists of two things, compared -/
theorem cm_two {H : Hp} {a b : Addr} {n : Nat} {x1 x2 y1 y2 : V} {r1 r2 : Bool} (ha : H a = some (.lst [x1, x2])) (hb : H b = some (.lst [y1, y2])) (h1 : Cm H n x1 y1 r1) (h2 : Cm H n x2 y2 r2) : Cm H (n + 1) (.ref a) (.ref b) (r1 && r2) := by
  have := cm_lst (n := n) (rs := [r1, r2]) ha hb (by show 2 ≤ 1000; decide) rfl rfl fun i k1 k2 k3 => by
    match i, k1, k2, k3 with
    | 0, _, _, _ => exact h1
    | 1, _, _, _ => exact h2
    | i + 2, k1, _, _ => exact absurd k1 (by show ¬ i + 2 < 2; omega)
  simpa using this
theorem cm_one {H : Hp} {a b : Addr} {n : Nat} {x1 y1 : V} {r1 : Bool} (ha : H a = some (.lst [x1])) (hb : H b = some (.lst [y1])) (h1 : Cm H n x1 y1 r1) : Cm H (n + 1) (.ref a) (.ref b) r1 := by
  have := cm_lst (n := n) (rs := [r1]) ha hb (by show 1 ≤ 1000; decide) rfl rfl fun i k1 k2 k3 => by
    match i, k1, k2, k3 with
    | 0, _, _, _ => exact h1
    | i + 1, k1, _, _ => exact absurd k1 (by show ¬ i + 1 < 1; omega)
  simpa using this
theorem cm_three {H : Hp} {a b : Addr} {n : Nat} {x1 x2 x3 y1 y2 y3 : V} {r1 r2 r3 : Bool} (ha : H a = some (.lst [x1, x2, x3])) (hb : H b = some (.lst [y1, y2, y3])) (h1 : Cm H n x1 y1 r1) (h2 : Cm H n x2 y2 r2) (h3 : Cm H n x3 y3 r3) : Cm H (n + 1) (.ref a) (.ref b) (r1 && (r2 && r3)) := by
  have := cm_lst (n := n) (rs := [r1, r2, r3]) ha hb (by show 3 ≤ 1000; decide) rfl rfl fun i k1 k2 k3 => by
    match i, k1, k2, k3 with
    | 0, _, _, _ => exact h1
    | 1, _, _, _ => exact h2
    | 2, _, _, _ => exact h3
    | i + 3, k1, _, _ => exact absurd k1 (by show ¬ i + 3 < 3; omega)
  simpa using this
/-- ups and lists, compared with the same or others -/
theorem cm_told {H : Hp} {n m : Nat} {us ws : List (Option Nat)} {ls ks : List (List (Option Bool))} {tu tl ku kl : Addr} {as bs : List Addr} (ok : WdOk n us ls) (ok2 : WdOk m ws ks) (hu : H tu = some (.tup (upvs us))) (hl : H tl = some (.tup (refs as))) (hr : Rows H as ls) (gu : H ku = some (.tup (upvs ws))) (gl : H kl = some (.tup (refs bs))) (gr : Rows H bs ks) (d : Nat) : Cm H (d + 2) (.ref tu) (.ref ku) (decide (us = ws)) ∧ Cm H (d + 2) (.ref tl) (.ref kl) (decide (ls = ks)) := by
  have a1 := ok.n2
  have a2 := ok2.n2
  have a3 := ok.ul
  have a4 := ok2.ul
  have a5 := ok.ll
  have a6 := ok2.ll
  exact ⟨cm_map upV_inj upV_sca hu gu (by omega) (by omega) (d + 1), cm_rows hl gl hr gr (by omega) (by omega) (fun r h => by rw [ok.rl r h]; omega) (fun r h => by rw [ok2.rl r h]; omega) d⟩
set_option maxRecDepth 100000
set_option maxHeartbeats 2000000
open PySem PySem.Spec L2


theorem sc__power : FnScope ["x", "exponent", "power", "_"] ["x", "exponent"] (defScope s__power) := ⟨rfl, rfl, rfl, by decide +kernel, rfl, by decide +kernel, by decide +kernel⟩
theorem sc__polynomial : FnScope ["worths", "slopes", "step", "at", "found", "low", "here"] ["worths"] (defScope s__polynomial) := ⟨rfl, rfl, rfl, by decide +kernel, rfl, by decide +kernel, by decide +kernel⟩
theorem lp_rangeC {g : TG} {tb : TS} {nx : L2.St → Hp → Prop} {rt : VK} {σ : L2.St} {H : Hp} {lo c : Int} {n : Nat} (Pv : Nat → L2.St → Hp → Prop) (h0 : Pv 0 σ H) (hs : ∀ i σ H, i < n → Pv i σ H → g (.int (lo + (i : Nat) * c)) σ H fun σ2 H2 => tb { nx := Pv (i + 1), rt := rt, bk := nx, ct := Pv (i + 1) } σ2 H2) (hd : ∀ σ H, Pv n σ H → nx σ H) :
    ∃ W : Nat → Nat → L2.St → Hp → Prop, (∃ m, W 0 m σ H) ∧ ∀ i m σ H, W i m σ H → ((Itc lo c n).stop i H ∧ nx σ H) ∨ ((Itc lo c n).go i H ∧ ∃ N : L2.St → Hp → Prop, (∀ σ' H', N σ' H' → ∃ m', m' < m ∧ W (i + 1) m' σ' H') ∧ ∀ x H', (Itc lo c n).yld i H x H' → g x σ H' fun σ2 H2 => tb { nx := N, rt := rt, bk := nx, ct := N } σ2 H2) :=
  for_rangeC (D := { nx := nx, rt := rt}) Pv h0 hs hd
abbrev il (l : List Int) : List V := l.map V.int
theorem il_at {l : List Int} {k : Nat} (h : k < l.length) : atI (il l) (k : Nat) = some (.int (l.getD k 0)) := by
  rw [atI_nat (by rw [List.getElem?_map, List.getElem?_eq_getElem h]; rfl)]
  rw [List.getD_eq_getElem?_getD, List.getElem?_eq_getElem h]
  rfl
theorem il_set {l : List Int} {k : Nat} {v : Int} : (il l).set k (.int v) = il (l.set k v) := (List.map_set).symm
theorem cut_last (xs : List V) : cutV xs none (some (-1)) = xs.dropLast := by
  unfold cutV
  have e : HT.sIx xs.length xs.length (some (-1)) = xs.length - 1 := by
    show (if (-1 : Int) < 0 then ((-1 : Int) + (xs.length : Int)).toNat else min (-1 : Int).toNat xs.length) = _
    rw [if_pos (by decide)]
    omega
  have e0 : HT.sIx xs.length 0 none = 0 := rfl
  rw [e, e0, List.drop_zero, Nat.sub_zero, List.dropLast_eq_take]
theorem il_dropLast {l : List Int} : (il l).dropLast = il l.dropLast := List.map_dropLast.symm
theorem il_get {l : List Int} {i : Nat} {v : V} (h : (il l)[i]? = some v) : ∃ u, l[i]? = some u ∧ v = .int u := by
  rw [List.getElem?_map] at h
  cases e : l[i]? with
  | none => rw [e] at h; cases h
  | some u => rw [e] at h; exact ⟨u, rfl, (Option.some.inj h).symm⟩
theorem pmul_get {c : Int} {f : List Int} {i : Nat} {u v : Int} (h1 : (0 :: f.dropLast)[i]? = some u) (h2 : f[i]? = some v) : (pmul c f)[i]? = some (u - c * v) := by
  unfold pmul
  rw [List.getElem?_zipWith, h1, h2]
theorem il_addHd {s : Int} {g : List Int} (h : 0 < g.length) : (il g).set 0 (.int (g.getD 0 0 + s)) = il (addHd s g) := by
  cases g with
  | nil => cases h
  | cons x r => rfl
section
variable {P : Program} {w : World} {K : PySem.W.Frag} {mg : Str → Option Value} {base : Heap} {Z : Ad}
def spPower : Sp := fun vs H Q _ => ∃ (x : Int) (e : Nat), vs = [.int x, .int e] ∧ 0 ≤ x ∧ x < 1073741824 ∧ e ≤ 100000 ∧ Q (.int (x ^ e)) H
theorem ok_power {f : Addr} {fd : FuncData} (F : Fun K "_power" "_power" s__power f fd) (B : Bl Z mg) : FnOk P w K mg base CX0 1 f fd ["x", "exponent"] spPower := by
  refine F.ok sc__power (fun vs H Q E h => ?_) (fun cdv A outer s H vs Q E hr h => ?_)
  · obtain ⟨x, e, rfl, _⟩ := h
    rfl
  · obtain ⟨x, e, rfl, x0, x1, he, q⟩ := h
    refine ⟨_, (pss_cons (ps_set (i := 2) sc__power.nd rfl (Or.inl rfl) pe_int)
 (pss_cons (ps_for PassesOwn.never rfl (pi_range1 rfl B.b_range (pa_cons (pv 1) pa_nil)) (pg_name (i := 3) sc__power.nd rfl (Or.inl rfl)) (pss_one (ps_aug (i := 2) sc__power.nd rfl (Or.inl rfl) (pv 0) iop_mul)))
 (pss_one (ps_ret (pv 2))))), ?_⟩
    walk_at "h0"
    refine ⟨(e : Nat), rfl, by omega, by omega, ?_⟩
    refine lp_range (lo := 0) (n := Int.toNat e) (fun i σ' H' => (∃ x3, σ' = [some (.int x), some (.int e), some (.int (x ^ i)), x3]) ∧ H' = H) ⟨⟨none, by rw [Int.pow_zero]; rfl⟩, rfl⟩ ?_ ?_
    · rintro i σ' H1 hi ⟨⟨x3, rfl⟩, rfl⟩
      walk_at "hs"
      exact ⟨⟨some (.int (0 + (i : Nat))), by rw [Int.pow_succ]; rfl⟩, rfl⟩
    · rintro σ' H1 ⟨⟨x3, rfl⟩, rfl⟩
      walk_at "hs"
      exact q
/-- the coefficients, a new list -/
def spPoly (K : PySem.W.Frag) : Sp := fun vs H Q _ => ∃ (a : Addr) (w : Int) (r : List Int), vs = [.ref a] ∧ SqL K H a ((w :: r).map V.int) ∧ r.length ≤ 900 ∧ ∀ D (f : List Int) H', Same H H' → H D = none → H' D = some (.lst (f.map V.int)) → f.sum = w → f.length = r.length + 1 → Q (.ref D) H'
theorem ok_poly {f : Addr} {fd : FuncData} (F : Fun K "_polynomial" "_polynomial" s__polynomial f fd) (B : Bl Z mg) : FnOk P w K mg base CX0 1 f fd ["worths"] (spPoly K) := by
  refine F.ok sc__polynomial (fun vs H Q E h => ?_) (fun cdv A outer s H vs Q E hr h => ?_)
  · obtain ⟨a, w, r, rfl, _⟩ := h
    rfl
  · obtain ⟨a, w0, r, rfl, hS, hl, q⟩ := h
    refine ⟨_, (pss_cons (ps_set (i := 1) sc__polynomial.nd rfl (Or.inl rfl) (pe_callTy (call_lstK (K := K) rfl) (by rfl) B.b_list (by decide +kernel) (pa_cons (pv 0) pa_nil)))
 (pss_cons (ps_for PassesOwn.never rfl (pi_range2 rfl B.b_range (pa_cons pe_int (pa_cons (pe_callB (call_lenK (K := K) rfl) (by rfl) B.b_len PySem.boot_len (pa_cons (pv 1) pa_nil)) pa_nil))) (pg_name (i := 2) sc__polynomial.nd rfl (Or.inl rfl)) (pss_one (ps_for PassesOwn.never rfl (pi_range3 rfl B.b_range (pa_cons (pe_op op_sub (pe_callB (call_lenK (K := K) rfl) (by rfl) B.b_len PySem.boot_len (pa_cons (pv 1) pa_nil)) pe_int) (pa_cons (pe_op op_sub (pv 2) pe_int) (pa_cons (pe_un un_neg pe_int) pa_nil)))) (pg_name (i := 3) sc__polynomial.nd rfl (Or.inr rfl)) (pss_one (ps_asg (pe_op op_fdiv (pe_op op_sub (pe_ix (ix_listK (K := K) rfl) (pv 1) (pv 3) (fun _ _ => rfl)) (pe_ix (ix_listK (K := K) rfl) (pv 1) (pe_op op_sub (pv 3) pe_int) (fun _ _ => rfl))) (pv 2)) (pg_sub (pv 1) (pv 3) set_list))))))
 (pss_cons (ps_set (i := 4) sc__polynomial.nd rfl (Or.inl rfl) (pe_op op_rep (pe_lst (pa_cons pe_int pa_nil)) (pe_callB (call_lenK (K := K) rfl) (by rfl) B.b_len PySem.boot_len (pa_cons (pv 1) pa_nil))))
 (pss_cons (ps_for PassesOwn.never rfl (pi_range3 rfl B.b_range (pa_cons (pe_op op_sub (pe_callB (call_lenK (K := K) rfl) (by rfl) B.b_len PySem.boot_len (pa_cons (pv 1) pa_nil)) pe_int) (pa_cons (pe_un un_neg pe_int) (pa_cons (pe_un un_neg pe_int) pa_nil)))) (pg_name (i := 3) sc__polynomial.nd rfl (Or.inr rfl)) (pss_cons (ps_setLc (i := 4) (own := [("low", 5), ("here", 6)]) rfl sc__polynomial.nd rfl rfl (sw_true rfl rfl rfl (by decide +kernel)) (pi_zipAK (K := K) rfl (by rfl) B.b_zip (pa_cons (pe_op op_cat (pe_lst (pa_cons pe_int pa_nil)) (pe_slice (sl_listK (K := K) rfl) (pv 4) po_none (po_some (pe_un un_neg pe_int)))) (pa_cons (pv 4) pa_nil))) (blkOk_by (N := ["worths", "slopes", "step", "at", "found", "low", "here"]) (sc := defScope s__polynomial) (by decide +kernel)) (fun _ _ _ _ _ => (pg_tupK (K := K) (n := 2) rfl rfl (pgs_cons (pg_name (i := 5) sc__polynomial.nd rfl (Or.inl rfl)) (pgs_cons (pg_name (i := 6) sc__polynomial.nd rfl (Or.inl rfl)) pgs_nil)))) (fun _ _ _ _ _ => pts_nil) (fun _ _ _ _ _ => (pe_op op_sub (pv 5) (pe_op op_mul (pe_op op_add (pv 3) pe_int) (pv 6)))))
 (pss_one (ps_augS (pv 4) pe_int (get_listK (K := K) rfl) (pe_ix (ix_listK (K := K) rfl) (pv 1) (pv 3) (fun _ _ => rfl)) ip_add set_list))))
 (pss_one (ps_ret (pv 4))))))), ?_⟩
    walk_at "h0"
    intro S nS
    have s1 : Same H (upd H S (.lst (il (w0 :: r)))) := same_new (Same.refl _) nS
    have eS : upd H S (.lst (il (w0 :: r))) S = some (.lst (il (w0 :: r))) := upd_same
    generalize upd H S (.lst (il (w0 :: r))) = H1 at s1 eS ⊢
    walk_at "hs"
    have lr : (il (w0 :: r)).length = r.length + 1 := by rw [List.length_map]; rfl
    refine ⟨1, (r.length : Int) + 1, by rw [lr]; rfl, ⟨by omega, by omega, by omega, by omega⟩, ?_⟩
    refine lp_range (lo := 1) (n := Int.toNat ((r.length : Int) + 1 - 1)) (fun i σ' H' => ∃ (x2 x3 x4 x5 x6 : Option V) (sl : List Int), σ' = [some (.ref a), some (.ref S), x2, x3, x4, x5, x6] ∧ Same H H' ∧ H' S = some (.lst (il (w0 :: sl))) ∧ sl.length = r.length)
      ⟨_, _, _, _, _, r, rfl, s1, eS, rfl⟩ ?_ ?_
    · rintro i σ' H2 hi ⟨x2, x3, x4, x5, x6, sl, rfl, s2, e2, l2⟩
      walk_at "hs"
      have l3 : (il (w0 :: sl)).length = sl.length + 1 := by rw [List.length_map]; rfl
      unfold iRng3
      walk_at "hs"
      refine ⟨(sl.length : Int), (i : Int), -1, _, by rw [l3, show ((sl.length + 1 : Nat) : Int) - 1 = sl.length by omega, show (1 + (i : Int)) - 1 = i by omega], .neg (by omega) (by omega) (by omega) (by omega), ?_⟩
      refine lp_rangeC (lo := (sl.length : Int)) (c := -1) (n := ((sl.length : Int) - (i : Int)).toNat) (fun j σ' H' => ∃ (x3 x4 x5 x6 : Option V) (sl : List Int), σ' = [some (.ref a), some (.ref S), some (.int (1 + (i : Int))), x3, x4, x5, x6] ∧ Same H H' ∧ H' S = some (.lst (il (w0 :: sl))) ∧ sl.length = r.length)
        ⟨_, _, _, _, sl, rfl, s2, e2, l2⟩ ?_ ?_
      · rintro j σ' H3 hj ⟨x3, x4, x5, x6, sm, rfl, s3, e3, l4⟩
        obtain ⟨k, ek, k1⟩ : ∃ k : Nat, (sl.length : Int) + (j : Nat) * -1 = ((k + 1 : Nat) : Int) ∧ k < sm.length := ⟨sl.length - j - 1, by omega, by omega⟩
        rw [ek]
        have l5 : (w0 :: sm).length = sm.length + 1 := rfl
        have l6 : (il (w0 :: sm)).length = sm.length + 1 := by rw [List.length_map]; rfl
        walk_at "hs"
        refine ⟨S, il (w0 :: sm), _, _, rfl, rfl, .of e3, il_at (by omega), ?_⟩
        walk_at "hs"
        rw [show ((k + 1 : Nat) : Int) - 1 = (k : Nat) by omega]
        refine ⟨S, il (w0 :: sm), _, _, rfl, rfl, .of e3, il_at (by omega), ?_⟩
        walk_at "hs"
        refine ⟨S, il (w0 :: sm), _, k + 1, rfl, rfl, e3, ixN_nat (by omega), ?_⟩
        rw [il_set]
        exact ⟨_, _, _, _, sm.set k _, rfl, same_mut s3 nS, upd_same, by rw [List.length_set]; exact l4⟩
      · rintro σ' H3 ⟨x3, x4, x5, x6, sm, rfl, s3, e3, l4⟩
        exact ⟨_, _, _, _, _, sm, rfl, s3, e3, l4⟩
    · rintro σ' H2 ⟨x2, x3, x4, x5, x6, sl, rfl, s2, e2, l2⟩
      walk_at "hs"
      have l3 : (il (w0 :: sl)).length = sl.length + 1 := by rw [List.length_map]; rfl
      have l3' : (w0 :: sl).length = sl.length + 1 := rfl
      intro Z0 nZ0
      have s3 : Same H2 (upd H2 Z0 (.lst [.int 0])) := same_new (Same.refl _) nZ0
      have eZ0 : upd H2 Z0 (.lst [.int 0]) Z0 = some (.lst [.int 0]) := upd_same
      generalize upd H2 Z0 (.lst [.int 0]) = H3 at s3 eZ0 ⊢
      walk_at "hs"
      have e3 := s3 _ _ e2
      have s23 := s2.trans s3
      rw [l3]
      refine x_rep1 eZ0 (by omega) fun Fo nFo => ?_
      have s4 : Same H3 (upd H3 Fo (.lst (List.replicate (sl.length + 1) (.int 0)))) := same_new (Same.refl _) nFo
      have eF : upd H3 Fo (.lst (List.replicate (sl.length + 1) (.int 0))) Fo = some (.lst (il (pol (w0 :: sl) 0))) := by
        rw [upd_same]
        show _ = some (HO.lst ((List.replicate (sl.length + 1) 0).map V.int))
        rw [List.map_replicate]
      have nF0 : H Fo = none := s23.free nFo
      generalize upd H3 Fo (.lst (List.replicate (sl.length + 1) (.int 0))) = H4 at s4 eF ⊢
      have s24 := s23.trans s4
      have e4 := s4 _ _ e3
      clear s1 eS s2 e2 s3 eZ0 e3 s4 nZ0 s23 nFo
      walk_at "hs"
      unfold iRng3
      walk_at "hs"
      refine ⟨(sl.length : Int), -1, -1, _, by rw [l3, show ((sl.length + 1 : Nat) : Int) - 1 = sl.length by omega], .neg (by omega) (by omega) (by omega) (by omega), ?_⟩
      refine lp_rangeC (lo := (sl.length : Int)) (c := -1) (n := ((sl.length : Int) - (-1)).toNat) (fun j σ' H' => ∃ (Fj : Addr) (x2 x3 x5 x6 : Option V), σ' = [some (.ref a), some (.ref S), x2, x3, some (.ref Fj), x5, x6] ∧ Same H H' ∧ H' S = some (.lst (il (w0 :: sl))) ∧ H Fj = none ∧ H' Fj = some (.lst (il (pol (w0 :: sl) j))))
        ⟨Fo, _, _, _, _, rfl, s24, e4, nF0, eF⟩ ?_ ?_
      · rintro j σ' H5 hj ⟨Fj, x2, x3, x5, x6, rfl, s5, e5, n5, eF5⟩
        obtain ⟨k, ek, k1⟩ : ∃ k : Nat, (sl.length : Int) + (j : Nat) * -1 = (k : Nat) ∧ k = sl.length - j := ⟨sl.length - j, by omega, rfl⟩
        rw [ek]
        have lp := pol_len (sl := w0 :: sl) j
        generalize hf : pol (w0 :: sl) j = f at *
        walk_at "hs"
        refine x_zipA ?_
        walk_at "hs"
        intro Z1 nZ1
        have s6 : Same H5 (upd H5 Z1 (.lst [.int 0])) := same_new (Same.refl _) nZ1
        have eZ1 : upd H5 Z1 (.lst [.int 0]) Z1 = some (.lst [.int 0]) := upd_same
        generalize upd H5 Z1 (.lst [.int 0]) = H6 at s6 eZ1 ⊢
        walk_at "hs"
        have eF6 := s6 _ _ eF5
        have e6 := s6 _ _ e5
        intro D1 nD1
        have s7 : Same H6 (upd H6 D1 (.lst (cutV (il f) none (some (-1))))) := same_new (Same.refl _) nD1
        have eD1 : upd H6 D1 (.lst (cutV (il f) none (some (-1)))) D1 = some (.lst (il f.dropLast)) := by rw [upd_same, cut_last, il_dropLast]
        generalize upd H6 D1 (.lst (cutV (il f) none (some (-1)))) = H7 at s7 eD1 ⊢
        refine x_cat (s7 _ _ eZ1) eD1 (szLe (by rw [List.length_map, List.length_dropLast]; show 1 + _ ≤ _; omega)) fun D2 nD2 => ?_
        have s8 : Same H7 (upd H7 D2 (.lst ([.int 0] ++ il f.dropLast))) := same_new (Same.refl _) nD2
        have eD2 : upd H7 D2 (.lst ([.int 0] ++ il f.dropLast)) D2 = some (.lst (il (0 :: f.dropLast))) := upd_same
        generalize upd H7 D2 (.lst ([.int 0] ++ il f.dropLast)) = H8 at s8 eD2 ⊢
        have s58 := s6.trans (s7.trans s8)
        have eF8 := s58 _ _ eF5
        have e8 := s58 _ _ e5
        have sH8 := s5.trans s58
        clear s6 eZ1 eF6 e6 s7 eD1 s8 nZ1 nD1 nD2
        walk_at "hs"
        have lf : f.length = sl.length + 1 := lp
        refine ⟨D2, Fj, il (0 :: f.dropLast), il f, rfl, .inl ⟨.of eD2, .of eF8, fun D nD => ?_⟩⟩
        refine lc_zipL (K := K) (xs := il (0 :: f.dropLast)) (ys := il f) (by rw [List.length_map, List.length_map, List.length_cons, List.length_dropLast]; omega) (fun i H' => Same H8 H' ∧ H' D = some (.lst (il ((pmul ((k : Int) + 1) f).take i)))) ⟨same_new (Same.refl _) nD, upd_same⟩ (fun i H' _ h => ⟨.of (h.1 _ _ eD2), .of (h.1 _ _ eF8)⟩) ?_ ?_
        · rintro i vx vy H' U hvx hvy ⟨s9, eD⟩ hU
          obtain ⟨u, hu, rfl⟩ := il_get hvx
          obtain ⟨v, hv, rfl⟩ := il_get hvy
          walk_at "hs"
          refine ⟨rfl, ?_⟩
          walk_at "hs"
          have pl := pmul_len (c := (k : Int) + 1) (f := f)
          refine ⟨_, keepN eD hU, szLt (by rw [List.length_map, List.length_take]; omega), same_mut (same_new s9 hU) nD, ?_⟩
          rw [upd_same, List.take_succ, pmul_get hu hv]
          show _ = some (HO.lst (List.map V.int (_ ++ [_])))
          rw [List.map_append]
          rfl
        · rintro H' ⟨s9, eD⟩
          have lz : (il (0 :: f.dropLast)).length = (pmul ((k : Int) + 1) f).length := by rw [pmul_len, List.length_map, List.length_cons, List.length_dropLast]; omega
          rw [lz, List.take_length] at eD
          walk_at "hs"
          have pl := pmul_len (c := (k : Int) + 1) (f := f)
          have hp : pol (w0 :: sl) (j + 1) = addHd ((w0 :: sl).getD k 0) (pmul ((k : Int) + 1) f) := by
            show pstep _ _ (pol (w0 :: sl) j) = _
            have : (w0 :: sl).length - 1 - j = k := by rw [l3']; omega
            rw [hf, this]
            rfl
          rw [hp]
          generalize hg : pmul ((k : Int) + 1) f = g at *
          unfold tAugS
          walk_at "hs"
          refine ⟨D, il g, ((0 : Nat) : Int), _, rfl, rfl, .of eD, il_at (by omega), ?_⟩
          walk_at "hs"
          refine ⟨S, il (w0 :: sl), _, _, rfl, rfl, .of (s9 _ _ e8), il_at (by omega), ?_⟩
          walk_at "hs"
          refine ⟨D, il g, ((0 : Nat) : Int), 0, rfl, rfl, eD, ixN_nat (by rw [List.length_map]; omega), ?_⟩
          rw [il_addHd (by omega)]
          exact ⟨D, _, _, _, _, rfl, same_mut (sH8.trans s9) (sH8.free nD), keepM (ne_of_none e8 nD) (s9 _ _ e8), sH8.free nD, upd_same⟩
      · rintro σ' H5 ⟨Fj, x2, x3, x5, x6, rfl, s5, e5, n5, eF5⟩
        walk_at "hs"
        have en : ((sl.length : Int) - (-1)).toNat = (w0 :: sl).length := by rw [l3']; omega
        rw [en] at eF5
        exact q Fj _ H5 s5 n5 eF5 (pol_sum rfl) (by rw [pol_len, l3', l2])
end
set_option maxRecDepth 100000
set_option maxHeartbeats 2000000
open PySem PySem.Spec L2


theorem sc__matrix : FnScope ["table", "x", "matrix", "at", "row", "weights", "line", "wrong", "weight"] ["table", "x"] (defScope s__matrix) := ⟨rfl, rfl, rfl, by decide +kernel, rfl, by decide +kernel, by decide +kernel⟩
def ov : Option Nat → V
  | none => .non
  | some c => .int (c : Nat)
def ow (x : Int) : Option Nat → Int
  | none => 0
  | some c => x ^ c
def mrow (x : Int) (i : Nat) (r : List (Option Nat)) : List Int := (((r.map (ow x)).tail).map fun w => -w).set i (r.map (ow x)).sum
section
variable {P : Program} {w : World} {K : PySem.W.Frag} {mg : Str → Option Value} {base : Heap} {Z : Ad}
def spMatrix : Sp := fun vs H Q _ => ∃ (t : Addr) (x : Int) (as : List Addr) (rs : List (List (Option Nat))), vs = [.ref t, .int x] ∧ H t = some (.lst (as.map V.ref)) ∧ as.length = rs.length ∧ rs.length ≤ 40 ∧
  (∀ i a r, as[i]? = some a → rs[i]? = some r → H a = some (.lst (r.map ov)) ∧ i + 1 < r.length ∧ r.length ≤ 50 ∧ ∀ c, some c ∈ r → c ≤ 1000) ∧ 0 ≤ x ∧ x < 1073741824 ∧
  ∀ D (bs : List Addr) H', Same H H' → H D = none → H' D = some (.lst (bs.map V.ref)) → bs.length = rs.length → (∀ i b r, bs[i]? = some b → rs[i]? = some r → H' b = some (.lst (il (mrow x i r)))) → Q (.ref D) H'
theorem ok_matrix {f : Addr} {fd : FuncData} (F : Fun K "_matrix" "_matrix" s__matrix f fd) (B : Bl Z mg) {f__power : Addr} {fd__power : FuncData} (C__power : Cal K mg "_power" f__power fd__power ["x", "exponent"]) (G__power : FnOk P w K mg base CX0 1 f__power fd__power ["x", "exponent"] spPower) : FnOk P w K mg base CX0 2 f fd ["table", "x"] spMatrix := by
  refine F.ok sc__matrix (fun vs H Q E h => ?_) (fun cdv A outer s H vs Q E hr h => ?_)
  · obtain ⟨t, x, as, rs, rfl, _⟩ := h
    rfl
  · obtain ⟨t, x, as, rs, rfl, et, la, l40, hr2, x0, x1, q⟩ := h
    refine ⟨_, (pss_cons (ps_set (i := 2) sc__matrix.nd rfl (Or.inl rfl) (pe_lst pa_nil))
 (pss_cons (ps_for PassesOwn.never rfl (pi_enumLK (K := K) rfl (by rfl) B.b_enumerate (pa_cons (pv 0) pa_nil)) (pg_tup rfl (pgs_cons (pg_name (i := 3) sc__matrix.nd rfl (Or.inl rfl)) (pgs_cons (pg_name (i := 4) sc__matrix.nd rfl (Or.inl rfl)) pgs_nil))) (pss_cons (ps_setLc (i := 5) (own := [("wrong", 7)]) rfl sc__matrix.nd rfl rfl (sw_true rfl rfl rfl (by decide +kernel)) (pi_list (pv 4)) (blkOk_by (N := ["table", "x", "matrix", "at", "row", "weights", "line", "wrong", "weight"]) (sc := defScope s__matrix) (by decide +kernel)) (fun _ _ _ _ _ => (pg_name (i := 7) sc__matrix.nd rfl (Or.inl rfl))) (fun _ _ _ _ _ => pts_nil) (fun _ _ _ _ _ => (pe_ifExp (pt_cmpR op_isNk (pv 7) pe_non (nomark _)) pe_int (pe_call G__power (hr.mono (by first | decide | omega)) (by rfl) C__power.g C__power.k C__power.b .nil pass0 (pa_cons (pv 1) (pa_cons (pv 7) pa_nil))))))
 (pss_cons (ps_setLc (i := 6) (own := [("weight", 8)]) rfl sc__matrix.nd rfl rfl (sw_true rfl rfl rfl (by decide +kernel)) (pi_list (pe_slice (sl_listK (K := K) rfl) (pv 5) (po_some pe_int) po_none)) (blkOk_by (N := ["table", "x", "matrix", "at", "row", "weights", "line", "wrong", "weight"]) (sc := defScope s__matrix) (by decide +kernel)) (fun _ _ _ _ _ => (pg_name (i := 8) sc__matrix.nd rfl (Or.inl rfl))) (fun _ _ _ _ _ => pts_nil) (fun _ _ _ _ _ => (pe_un un_neg (pv 8))))
 (pss_cons (ps_asg (pe_callB (cr_sumK (K := K) rfl rfl) (by rfl) B.b_sum (by decide +kernel) (pa_cons (pv 5) pa_nil)) (pg_sub (pv 6) (pv 3) set_list))
 (pss_one (ps_expr (pe_bmK (K := K) rfl PySem.F.plainAttrs_list PySem.F.slot_list_append PySem.F.type_list_append mt_append (pv 2) (pa_cons (pv 6) pa_nil))))))))
 (pss_one (ps_ret (pv 2))))), ?_⟩
    walk_at "h0"
    intro M nM
    have s1 : Same H (upd H M (.lst [])) := same_new (Same.refl _) nM
    have eM : upd H M (.lst []) M = some (.lst []) := upd_same
    generalize upd H M (.lst []) = H1 at s1 eM ⊢
    walk_at "hs"
    refine ⟨t, as.map V.ref, rfl, .of (s1 _ _ et), ?_⟩
    refine lp_enumL (K := K) (xs := as.map V.ref) (fun i σ' H' => ∃ (x3 x4 x5 x6 x7 x8 : Option V) (bs : List Addr), σ' = [some (.ref t), some (.int x), some (.ref M), x3, x4, x5, x6, x7, x8] ∧ Same H H' ∧ H' M = some (.lst (bs.map V.ref)) ∧ bs.length = i ∧ ∀ j b r, bs[j]? = some b → rs[j]? = some r → H' b = some (.lst (il (mrow x j r))) ∧ b ≠ M)
      ⟨_, _, _, _, _, _, [], rfl, s1, eM, rfl, fun j b r hb => by simp at hb⟩ (fun i σ' H' _ h => ?_) ?_ ?_
    · obtain ⟨x3, x4, x5, x6, x7, x8, bs, rfl, s2, _⟩ := h
      exact .of (s2 _ _ et)
    · rintro i v σ' H2 T hv ⟨x3, x4, x5, x6, x7, x8, bs, rfl, s2, e2, l2, h2⟩ nT
      obtain ⟨a, ha, rfl⟩ : ∃ a, as[i]? = some a ∧ v = .ref a := by
        rw [List.getElem?_map] at hv
        cases e : as[i]? with
        | none => rw [e] at hv; cases hv
        | some a => rw [e] at hv; exact ⟨a, rfl, (Option.some.inj hv).symm⟩
      have hi : i < rs.length := by
        have := (List.getElem?_eq_some_iff.mp ha).1
        omega
      obtain ⟨r, hrr⟩ : ∃ r, rs[i]? = some r := ⟨_, List.getElem?_eq_getElem hi⟩
      obtain ⟨er, r1, r2, r3⟩ := hr2 i a r ha hrr
      walk_at "hs"
      have s3 : Same H (upd H2 T (.tup [.int i, .ref a])) := same_new s2 nT
      have s23 : Same H2 (upd H2 T (.tup [.int i, .ref a])) := same_new (Same.refl _) nT
      generalize upd H2 T (.tup [.int i, .ref a]) = G at s3 s23 ⊢
      refine ⟨a, rfl, ⟨_, .of (s3 _ _ er)⟩, fun D nD => ?_⟩
      refine lc_list (K := K) (a := a) (xs := r.map ov) (fun j G' => Same G G' ∧ G' D = some (.lst (il ((r.take j).map (ow x))))) ⟨same_new (Same.refl _) nD, upd_same⟩ (fun j G' _ h => .of (h.1 _ _ (s3 _ _ er))) ?_ ?_
      · rintro j v G' hv2 ⟨s4, eD⟩
        obtain ⟨o, ho, rfl⟩ : ∃ o, r[j]? = some o ∧ v = ov o := by
          rw [List.getElem?_map] at hv2
          cases e : r[j]? with
          | none => rw [e] at hv2; cases hv2
          | some o => rw [e] at hv2; exact ⟨o, rfl, (Option.some.inj hv2).symm⟩
        have fin : ∀ y : Int, y = ow x o → ∃ acc, G' D = some (.lst acc) ∧ acc.length < sizeLine ∧ Same G (upd G' D (.lst (acc ++ [.int y]))) ∧ upd G' D (.lst (acc ++ [.int y])) D = some (.lst (il ((r.take (j + 1)).map (ow x)))) := fun y hy => by
          refine ⟨_, eD, szLt (by rw [List.length_map, List.length_map, List.length_take]; omega), same_mut s4 nD, ?_⟩
          rw [upd_same, List.take_succ, ho, hy]
          show _ = some (HO.lst (List.map V.int (List.map (ow x) (_ ++ [o]))))
          rw [List.map_append, List.map_append]
          rfl
        cases o with
        | none =>
          dsimp only [ov]
          walk_at "hs"
          refine ⟨rfl, ?_⟩
          walk_at "hs"
          exact fin 0 rfl
        | some c =>
          have c1 := r3 c (List.mem_of_getElem? ho)
          dsimp only [ov]
          walk_at "hs"
          refine ⟨rfl, ?_⟩
          walk_at "hs"
          refine ⟨x, c, rfl, x0, x1, by omega, ?_⟩
          exact fin _ rfl
      · rintro G' ⟨s4, eD⟩
        rw [List.length_map, List.take_length] at eD
        walk_at "hs"
        intro p np
        have s5 : Same G' (upd G' p (.lst (cutV (il (r.map (ow x))) (some 1) none))) := same_new (Same.refl _) np
        have ep : upd G' p (.lst (cutV (il (r.map (ow x))) (some 1) none)) p = some (.lst (il (r.map (ow x)).tail)) := by
          rw [upd_same, show cutV (il (r.map (ow x))) (some 1) none = (il (r.map (ow x))).drop 1 from cut_drop _ 1]
          show some (HO.lst (List.drop 1 (List.map V.int (r.map (ow x))))) = _
          rw [← List.map_drop, List.drop_one]
        generalize upd G' p (.lst (cutV (il (r.map (ow x))) (some 1) none)) = G2 at s5 ep ⊢
        have eD2 := s5 _ _ eD
        have s45 := s4.trans s5
        refine ⟨p, rfl, ⟨_, .of ep⟩, fun L nL => ?_⟩
        refine lc_list (K := K) (a := p) (xs := il (r.map (ow x)).tail) (fun j G' => Same G2 G' ∧ G' L = some (.lst (il (((r.map (ow x)).tail.take j).map fun w => -w)))) ⟨same_new (Same.refl _) nL, upd_same⟩ (fun j G' _ h => .of (h.1 _ _ ep)) ?_ ?_
        · rintro j v G' hv2 ⟨s6, eL⟩
          obtain ⟨u, hu, rfl⟩ := il_get hv2
          walk_at "hs"
          refine ⟨rfl, ?_⟩
          walk_at "hs"
          refine ⟨_, eL, szLt (by rw [List.length_map, List.length_map, List.length_take, List.length_tail, List.length_map]; omega), same_mut s6 nL, ?_⟩
          rw [upd_same, take_snoc hu]
          show _ = some (HO.lst (List.map V.int (List.map _ (_ ++ [u]))))
          rw [List.map_append, List.map_append]
          rfl
        · rintro G3 ⟨s6, eL⟩
          rw [List.length_map, List.take_length] at eL
          have eD3 := s6 _ _ eD2
          have s46 := s45.trans s6
          walk_at "hs"
          refine ⟨D, r.map (ow x), rfl, .of eD3, ?_⟩
          walk_at "hs"
          have eMG := s23 _ _ e2
          have eM2 := s45 _ _ eMG
          have eM3 := s46 _ _ eMG
          have nML : M ≠ L := ne_of_none eM2 nL
          have nL0 : H L = none := (s3.trans s45).free nL
          refine ⟨L, _, (i : Nat), i, rfl, rfl, eL, ixN_nat (by rw [List.length_map, List.length_map, List.length_tail, List.length_map]; omega), ?_⟩
          rw [il_set]
          have eM4 : upd G3 L (.lst (il (mrow x i r))) M = some (.lst (bs.map V.ref)) := keepM nML eM3
          have sH4 : Same H (upd G3 L (.lst (il (mrow x i r)))) := same_mut (s3.trans s46) nL0
          have eL4 : upd G3 L (.lst (il (mrow x i r))) L = some (.lst (il (mrow x i r))) := upd_same
          have old : ∀ b o, H2 b = some o → upd G3 L (.lst (il (mrow x i r))) b = some o := fun b o e => keepM (ne_of_none (s45 _ _ (s23 _ _ e)) nL) (s46 _ _ (s23 _ _ e))
          show tDrop _ _ _ (upd G3 L (.lst (il (mrow x i r))))
          generalize upd G3 L (.lst (il (mrow x i r))) = G4 at eM4 sH4 eL4 old ⊢
          walk_at "hs"
          refine x_append eM4 (szLt (by rw [List.length_map, l2]; omega)) ?_
          refine ⟨_, _, _, _, _, _, bs ++ [L], rfl, same_mut sH4 nM, by rw [upd_same, List.map_append]; rfl, by rw [List.length_append, l2]; rfl, fun j b r' hb hr' => ?_⟩
          by_cases c : j < bs.length
          · rw [List.getElem?_append_left c] at hb
            obtain ⟨k1, k2⟩ := h2 j b r' hb hr'
            exact ⟨keepM k2 (old _ _ k1), k2⟩
          · rw [List.getElem?_append_right (by omega)] at hb
            have cj : j = bs.length := by
              have := (List.getElem?_eq_some_iff.mp hb).1
              simp at this
              omega
            subst cj
            rw [Nat.sub_self] at hb
            have hb : L = b := Option.some.inj hb
            subst hb
            have er' : r' = r := by
              rw [l2, hrr] at hr'
              exact (Option.some.inj hr').symm
            subst er'
            rw [l2]
            exact ⟨keepM (fun z => nML z.symm) eL4, fun z => nML z.symm⟩
    · rintro σ' H2 ⟨x3, x4, x5, x6, x7, x8, bs, rfl, s2, e2, l2, h2⟩
      walk_at "hs"
      exact q M bs H2 s2 nM e2 (by rw [l2, List.length_map, la]) fun i b r hb hr => (h2 i b r hb hr).1
end
set_option maxRecDepth 100000
set_option maxHeartbeats 2000000
open PySem PySem.Spec L2


theorem sc__determinant : FnScope ["matrix", "rows", "last", "first", "row", "at"] ["matrix"] (defScope s__determinant) := ⟨rfl, rfl, rfl, by decide +kernel, rfl, by decide +kernel, by decide +kernel⟩
def mr (a : Mat) (n k i : Nat) : List Int := (List.range' k (n - k)).map (a i)
def MatAt (H : Hp) (L : Addr) (n k : Nat) (a : Mat) : Prop := ∃ bs : List Addr, H L = some (.lst (bs.map V.ref)) ∧ bs.length = n - k ∧ ∀ i b, bs[i]? = some b → H b = some (.lst (il (mr a n k (k + i))))
theorem MatAt.same {H H' : Hp} {L : Addr} {n k : Nat} {a : Mat} (s : Same H H') (h : MatAt H L n k a) : MatAt H' L n k a := by
  obtain ⟨bs, h1, h2, h3⟩ := h
  exact ⟨bs, s _ _ h1, h2, fun i b hb => s _ _ (h3 i b hb)⟩
theorem mr_len {a : Mat} {n k i : Nat} : (mr a n k i).length = n - k := by
  unfold mr
  rw [List.length_map, List.length_range']
theorem mr_get {a : Mat} {n k i j : Nat} (h : j < n - k) : (mr a n k i).getD j 0 = a i (k + j) := by
  unfold mr
  rw [List.getD_eq_getElem?_getD, List.getElem?_map, List.getElem?_range' h, Nat.one_mul]
  rfl
section
variable {P : Program} {w : World} {K : PySem.W.Frag} {mg : Str → Option Value} {base : Heap} {Z : Ad}
def spDet : Sp := fun vs H Q _ => ∃ (M : Addr) (n : Nat) (a : Mat), vs = [.ref M] ∧ 1 ≤ n ∧ n ≤ 5 ∧ MatAt H M n 0 a ∧ Zd n 0 a ∧ Bd 40 n 0 a ∧ ∀ H', Same H H' → Q (.int (stg a (n - 1) (n - 1) (n - 1))) H'
theorem ok_det {f : Addr} {fd : FuncData} (F : Fun K "_determinant" "_determinant" s__determinant f fd) (B : Bl Z mg) : FnOk P w K mg base CX0 1 f fd ["matrix"] spDet := by
  refine F.ok sc__determinant (fun vs H Q E h => ?_) (fun cdv A outer s H vs Q E hr h => ?_)
  · obtain ⟨M, n, a, rfl, _⟩ := h
    rfl
  · obtain ⟨M, n, a, rfl, n1, n5, hm, hz, hb, q⟩ := h
    refine ⟨_, (pss_cons (ps_set (i := 1) sc__determinant.nd rfl (Or.inl rfl) (pv 0))
 (pss_cons (ps_set (i := 2) sc__determinant.nd rfl (Or.inr rfl) pe_int)
 (pss_cons (ps_while PassesOwn.never (pt_cmpR op_gt (pe_callB (call_lenK (K := K) rfl) (by rfl) B.b_len PySem.boot_len (pa_cons (pv 1) pa_nil)) pe_int (nomark _)) (pss_cons (ps_set (i := 3) sc__determinant.nd rfl (Or.inr rfl) (pe_ix (ix_listK (K := K) rfl) (pv 1) pe_int (fun _ _ => rfl)))
 (pss_cons (ps_setLc (i := 1) (own := [("row", 4)]) rfl sc__determinant.nd rfl rfl (sw_true rfl rfl rfl (by decide +kernel)) (pi_list (pe_slice (sl_listK (K := K) rfl) (pv 1) (po_some pe_int) po_none)) (blkOk_by (N := ["matrix", "rows", "last", "first", "row", "at"]) (sc := defScope s__determinant) (by decide +kernel)) (fun _ _ _ _ _ => (pg_name (i := 4) sc__determinant.nd rfl (Or.inr rfl))) (fun _ _ _ _ _ => pts_nil) (fun _ _ _ _ _ => (pe_lc (own := [("at", 5)]) rfl sc__determinant.nd (pi_range2 rfl B.b_range (pa_cons pe_int (pa_cons (pe_callB (call_lenK (K := K) rfl) (by rfl) B.b_len PySem.boot_len (pa_cons (pv 4) pa_nil)) pa_nil))) (blkOk_nest (N := ["matrix", "rows", "last", "first", "row", "at"]) (sc := defScope s__determinant) (by decide +kernel) rfl) (fun _ _ _ _ _ => (pg_name (i := 5) sc__determinant.nd rfl (Or.inl rfl))) (fun _ _ _ _ _ => pts_nil) (fun _ _ _ _ _ => (pe_op op_fdivW (pe_op op_sub (pe_op op_mulW (pe_ix (ix_listK (K := K) rfl) (pv 4) (pv 5) (fun _ _ => rfl)) (pe_ix (ix_listK (K := K) rfl) (pv 3) pe_int (fun _ _ => rfl))) (pe_op op_mulW (pe_ix (ix_listK (K := K) rfl) (pv 4) pe_int (fun _ _ => rfl)) (pe_ix (ix_listK (K := K) rfl) (pv 3) (pv 5) (fun _ _ => rfl)))) (pv 2))))))
 (pss_one (ps_set (i := 2) sc__determinant.nd rfl (Or.inr rfl) (pe_ix (ix_listK (K := K) rfl) (pv 3) pe_int (fun _ _ => rfl)))))))
 (pss_one (ps_ret (pe_ix (ix_listK (K := K) rfl) (pe_ix (ix_listK (K := K) rfl) (pv 1) pe_int (fun _ _ => rfl)) pe_int (fun _ _ => rfl))))))), ?_⟩
    walk_at "h0"
    refine ⟨fun m σ' H' => ∃ (k : Nat) (R : Addr) (x3 x4 x5 : Option V), m = n - 1 - k ∧ k + 1 ≤ n ∧ σ' = [some (.ref M), some (.ref R), some (.int (dvd a k)), x3, x4, x5] ∧ Same H H' ∧ MatAt H' R n k (stg a k), ⟨_, 0, M, _, _, _, rfl, by omega, rfl, Same.refl _, hm⟩, ?_⟩
    rintro m σ' H1 ⟨k, R, x3, x4, x5, rfl, hk, rfl, s1, bs, e1, l1, h1⟩
    obtain ⟨zk, dk⟩ := stg_zd hz k (by omega) (by omega)
    have lb : (bs.map V.ref).length = n - k := by rw [List.length_map, l1]
    obtain ⟨b0, hb0⟩ : ∃ b0, bs[0]? = some b0 := ⟨_, List.getElem?_eq_getElem (by omega)⟩
    have e0 := h1 0 b0 hb0
    have at0 : atI (bs.map V.ref) 0 = some (.ref b0) := atI_nat (j := 0) (by rw [List.getElem?_map, hb0]; rfl)
    walk_at "hs"
    rw [lb]
    refine x_isd (fun c => ?_) (fun c => ?_)
    · refine ⟨fun σ' H' => ∃ m', m' < n - 1 - k ∧ ∃ (k : Nat) (R : Addr) (x3 x4 x5 : Option V), m' = n - 1 - k ∧ k + 1 ≤ n ∧ σ' = [some (.ref M), some (.ref R), some (.int (dvd a k)), x3, x4, x5] ∧ Same H H' ∧ MatAt H' R n k (stg a k), fun _ _ h => h, ?_⟩
      walk_at "hs"
      intro p np
      have s2 : Same H1 (upd H1 p (.lst (cutV (bs.map V.ref) (some 1) none))) := same_new (Same.refl _) np
      have ep : upd H1 p (.lst (cutV (bs.map V.ref) (some 1) none)) p = some (.lst (bs.tail.map V.ref)) := by
        rw [upd_same, show cutV (bs.map V.ref) (some 1) none = (bs.map V.ref).drop 1 from cut_drop _ 1, ← List.map_drop, List.drop_one]
      generalize upd H1 p (.lst (cutV (bs.map V.ref) (some 1) none)) = G at s2 ep ⊢
      refine ⟨p, rfl, ⟨_, .of ep⟩, fun D nD => ?_⟩
      refine lc_list (K := K) (a := p) (xs := bs.tail.map V.ref) (fun j G' => Same G G' ∧ ∃ cs : List Addr, cs.length = j ∧ G' D = some (.lst (cs.map V.ref)) ∧ ∀ i b, cs[i]? = some b → G' b = some (.lst (il (mr (stg a (k + 1)) n (k + 1) (k + 1 + i)))) ∧ b ≠ D)
        ⟨same_new (Same.refl _) nD, [], rfl, upd_same, fun i b hb => by simp at hb⟩ (fun j G' _ h => .of (h.1 _ _ ep)) ?_ ?_
      · rintro j v G' hv ⟨s3, cs, lc, eD, hc⟩
        obtain ⟨b, hbj, rfl⟩ : ∃ b, bs[j + 1]? = some b ∧ v = .ref b := by
          rw [List.getElem?_map, List.getElem?_tail] at hv
          cases e : bs[j + 1]? with
          | none => rw [e] at hv; cases hv
          | some b => rw [e] at hv; exact ⟨b, rfl, (Option.some.inj hv).symm⟩
        have eb := s3 _ _ (s2 _ _ (h1 (j + 1) b hbj))
        have ef := s3 _ _ (s2 _ _ e0)
        walk_at "hs"
        refine ⟨rfl, ?_⟩
        walk_at "hs"
        refine ⟨1, ((n - k : Nat) : Int), by rw [List.length_map, mr_len], ⟨by decide, by decide, by omega, by omega⟩, fun E1 nE => ?_⟩
        refine lc_range (lo := 1) (n := (((n - k : Nat) : Int) - 1).toNat) (fun i G2 => Same G' G2 ∧ G2 E1 = some (.lst (il ((mr (stg a (k + 1)) n (k + 1) (k + 1 + j)).take i)))) ⟨same_new (Same.refl _) nE, upd_same⟩ ?_ ?_
        · rintro i G2 hi ⟨s4, eE⟩
          walk_at "hs"
          refine ⟨rfl, ?_⟩
          walk_at "hs"
          have jb := (List.getElem?_eq_some_iff.mp hbj).1
          have eb2 := s4 _ _ eb
          have ef2 := s4 _ _ ef
          have la : ∀ x, (mr (stg a k) n k x).length = n - k := fun x => mr_len
          have lg : ∀ x y, k ≤ x → x < n → k ≤ y → y < n → (stg a k x y).natAbs.log2 ≤ 700 := fun x y h1 h2 h3 h4 => stg_log hz hb (by omega) h1 h2 h3 h4
          have ld := dvd_log hz hb (k := k) (by omega) (by omega)
          rw [show (1 : Int) + (i : Nat) = ((i + 1 : Nat) : Int) by omega]
          refine ⟨b, il _, _, _, rfl, rfl, .of eb2, il_at (by rw [la]; omega), ?_⟩
          walk_at "hs"
          refine ⟨b0, il _, ((0 : Nat) : Int), _, rfl, rfl, .of ef2, il_at (by rw [la]; omega), ?_⟩
          rw [mr_get (by omega), mr_get (by omega)]
          refine ⟨_, _, rfl, rfl, by have := lg (k + (j + 1)) (k + (i + 1)) (by omega) (by omega) (by omega) (by omega); have := lg (k + 0) (k + 0) (by omega) (by omega) (by omega) (by omega); show _ + _ < _; omega, ?_⟩
          walk_at "hs"
          refine ⟨b, il _, ((0 : Nat) : Int), _, rfl, rfl, .of eb2, il_at (by rw [la]; omega), ?_⟩
          walk_at "hs"
          refine ⟨b0, il _, _, _, rfl, rfl, .of ef2, il_at (by rw [la]; omega), ?_⟩
          rw [mr_get (by omega), mr_get (by omega)]
          refine ⟨_, _, rfl, rfl, by have := lg (k + (j + 1)) (k + 0) (by omega) (by omega) (by omega) (by omega); have := lg (k + 0) (k + (i + 1)) (by omega) (by omega) (by omega) (by omega); show _ + _ < _; omega, ?_⟩
          walk_at "hs"
          have en : stg a k (k + (j + 1)) (k + (i + 1)) * stg a k (k + 0) (k + 0) - stg a k (k + (j + 1)) (k + 0) * stg a k (k + 0) (k + (i + 1)) = dvd a k * stg a (k + 1) (k + (j + 1)) (k + (i + 1)) := stg_next a (k := k) (by omega) (k + (j + 1)) (k + (i + 1))
          rw [en, Int.mul_ediv_cancel_left _ (by omega)]
          refine ⟨_, eE, szLt (by rw [List.length_map, List.length_take, mr_len]; omega), same_mut s4 nE, ?_⟩
          rw [upd_same, take_snoc (x := stg a (k + 1) (k + (j + 1)) (k + (i + 1))) (by
            unfold mr
            rw [List.getElem?_map, List.getElem?_range' (by omega), Nat.one_mul, show k + 1 + i = k + (i + 1) by omega, show k + 1 + j = k + (j + 1) by omega]
            rfl)]
          show _ = some (HO.lst (List.map V.int (_ ++ [_])))
          rw [List.map_append]
          rfl
        · rintro G2 ⟨s4, eE⟩
          have jb := (List.getElem?_eq_some_iff.mp hbj).1
          rw [List.take_of_length_le (by rw [mr_len]; omega)] at eE
          have nDE : D ≠ E1 := ne_of_none eD nE
          refine ⟨_, s4 _ _ eD, szLt (by rw [List.length_map]; omega), same_mut (s3.trans s4) nD, cs ++ [E1], by rw [List.length_append, lc]; rfl, by rw [upd_same, List.map_append]; rfl, fun i b' hb' => ?_⟩
          by_cases c : i < cs.length
          · rw [List.getElem?_append_left c] at hb'
            obtain ⟨k1, k2⟩ := hc i b' hb'
            exact ⟨keepM k2 (s4 _ _ k1), k2⟩
          · rw [List.getElem?_append_right (by omega)] at hb'
            have ci : i = cs.length := by
              have := (List.getElem?_eq_some_iff.mp hb').1
              simp at this
              omega
            subst ci
            rw [Nat.sub_self] at hb'
            have hb' : E1 = b' := Option.some.inj hb'
            subst hb'
            rw [lc]
            exact ⟨keepM (fun z => nDE z.symm) eE, fun z => nDE z.symm⟩
      · rintro G' ⟨s3, cs, lc, eD, hc⟩
        have ef := s3 _ _ (s2 _ _ e0)
        walk_at "hs"
        refine ⟨b0, il _, ((0 : Nat) : Int), _, rfl, rfl, .of ef, il_at (by rw [mr_len]; omega), ?_⟩
        rw [mr_get (by omega)]
        refine ⟨n - 1 - (k + 1), by omega, k + 1, D, _, _, _, rfl, by omega, rfl, s1.trans (s2.trans s3), cs, eD, by rw [lc, List.length_map, List.length_tail]; omega, fun i b hb => (hc i b hb).1⟩
    · have k1 : k = n - 1 := by omega
      subst k1
      walk_at "hs"
      refine ⟨b0, il _, _, _, rfl, rfl, .of e0, il_at (k := 0) (by rw [mr_len]; omega), ?_⟩
      rw [mr_get (by omega)]
      exact q H1 s1
end
set_option maxRecDepth 100000
set_option maxHeartbeats 2000000
open PySem PySem.Spec L2


theorem sc_many_by_wrong : FnScope ["words", "table", "most", "worths", "many", "block", "row", "wrong", "x"] ["words"] (defScope s_many_by_wrong) := ⟨rfl, rfl, rfl, by decide +kernel, rfl, by decide +kernel, by decide +kernel⟩
theorem rowO_ov {us : List (Option Nat)} {ls : List (List (Option Bool))} {n b : Nat} : (rowO us ls n b).map ov = costsV us ls b (n + 1) := by
  unfold rowO costsV
  rw [List.map_map]
  refine List.map_congr_left fun p _ => ?_
  show ov (if p = b then none else some (costN us ls b p)) = _
  split <;> rfl
theorem mrow_eq {x : Int} {i : Nat} {r : List (Option Nat)} : mrow x i r = mrowM x i r := by
  have e : ow x = owM x := funext fun o => by cases o <;> rfl
  unfold mrow mrowM
  rw [e]
section
variable {P : Program} {w : World} {K : PySem.W.Frag} {mg : Str → Option Value} {base : Heap} {Z : Ad}
def spMany (Z : Ad) : Sp := fun vs H Q _ => ∃ (x : Addr) (n : Nat) (us : List (Option Nat)) (ls : List (List (Option Bool))), vs = [.ref x] ∧ WordsAt Z H x n us ls ∧ WdOk n us ls ∧ n ≤ 5 ∧ ∀ v H', Same H H' → Q v H'
theorem ok_many {f : Addr} {fd : FuncData} (F : Fun K "many_by_wrong" "many_by_wrong" s_many_by_wrong f fd) (B : Bl Z mg) (W : WCls K Z) {f_costs : Addr} {fd_costs : FuncData} (C_costs : Cal K mg "costs" f_costs fd_costs ["words", "block"]) (G_costs : FnOk P w K mg base CX0 1 f_costs fd_costs ["words", "block"] (spCosts Z)) {f__matrix : Addr} {fd__matrix : FuncData} (C__matrix : Cal K mg "_matrix" f__matrix fd__matrix ["table", "x"]) (G__matrix : FnOk P w K mg base CX0 2 f__matrix fd__matrix ["table", "x"] spMatrix)
    {f__determinant : Addr} {fd__determinant : FuncData} (C__determinant : Cal K mg "_determinant" f__determinant fd__determinant ["matrix"]) (G__determinant : FnOk P w K mg base CX0 1 f__determinant fd__determinant ["matrix"] spDet) {f__polynomial : Addr} {fd__polynomial : FuncData} (C__polynomial : Cal K mg "_polynomial" f__polynomial fd__polynomial ["worths"]) (G__polynomial : FnOk P w K mg base CX0 1 f__polynomial fd__polynomial ["worths"] (spPoly K)) : FnOk P w K mg base CX0 4 f fd ["words"] (spMany Z) := by
  refine F.ok sc_many_by_wrong (fun vs H Q E h => ?_) (fun cdv A outer s H vs Q E hr h => ?_)
  · obtain ⟨x, n, us, ls, rfl, _⟩ := h
    rfl
  · obtain ⟨x, n, us, ls, rfl, hw, ok, n5, q⟩ := h
    obtain ⟨dx, fs, tu, tl, as, h1, h2, h3, h4, h5, h6, h7⟩ := id hw
    refine ⟨_, (pss_cons (ps_if (pt_cmpR op_gt (pe_fldK (K := K) rfl (pv 0) rfl) (pe_glob (v := .int (10)) rfl B.c_MOST_BLOCKS_COUNTED ⟨_, rfl⟩) (nomark _)) (pss_one ps_never) pss_nil)
 (pss_cons (ps_set (i := 1) sc_many_by_wrong.nd rfl (Or.inr rfl) (pe_lc (own := [("block", 5)]) rfl sc_many_by_wrong.nd (pi_range2 rfl B.b_range (pa_cons pe_int (pa_cons (pe_op op_add (pe_fldK (K := K) rfl (pv 0) rfl) pe_int) pa_nil))) (blkOk_by (N := ["words", "table", "most", "worths", "many", "block", "row", "wrong", "x"]) (sc := defScope s_many_by_wrong) (by decide +kernel)) (fun _ _ _ _ _ => (pg_name (i := 5) sc_many_by_wrong.nd rfl (Or.inl rfl))) (fun _ _ _ _ _ => pts_nil) (fun _ _ _ _ _ => (pe_call G_costs (hr.mono (by first | decide | omega)) (by rfl) C_costs.g C_costs.k C_costs.b .nil pass0 (pa_cons (pv 0) (pa_cons (pv 5) pa_nil))))))
 (pss_cons (ps_set (i := 2) sc_many_by_wrong.nd rfl (Or.inl rfl) (pe_callB (cr_sumK (K := K) rfl rfl) (by rfl) B.b_sum (by decide +kernel) (pa_cons (pe_lc (own := [("row", 6)]) rfl sc_many_by_wrong.nd (pi_list (pv 1)) (blkOk_by (N := ["words", "table", "most", "worths", "many", "block", "row", "wrong", "x"]) (sc := defScope s_many_by_wrong) (by decide +kernel)) (fun _ _ _ _ _ => (pg_name (i := 6) sc_many_by_wrong.nd rfl (Or.inl rfl))) (fun _ _ _ _ _ => pts_nil) (fun _ _ _ _ _ => (pe_callB (cr_maxLK (K := K) rfl rfl) (by rfl) B.b_max (by decide +kernel) (pa_cons (pe_lc (own := [("wrong", 7)]) rfl sc_many_by_wrong.nd (pi_listK (K := K) rfl (pv 6)) (blkOk_nest (N := ["words", "table", "most", "worths", "many", "block", "row", "wrong", "x"]) (sc := defScope s_many_by_wrong) (by decide +kernel) rfl) (fun _ _ _ _ _ => (pg_name (i := 7) sc_many_by_wrong.nd rfl (Or.inl rfl))) (fun _ _ _ _ _ => (pts_one (pt_cmpR op_notNk (pv 7) pe_non (nomark _)))) (fun _ _ _ _ _ => (pv 7))) pa_nil)))) pa_nil)))
 (pss_cons (ps_setLc (i := 3) (own := [("x", 8)]) rfl sc_many_by_wrong.nd rfl rfl (sw_true rfl rfl rfl (by decide +kernel)) (pi_range2 rfl B.b_range (pa_cons pe_int (pa_cons (pe_op op_add (pv 2) pe_int) pa_nil))) (blkOk_by (N := ["words", "table", "most", "worths", "many", "block", "row", "wrong", "x"]) (sc := defScope s_many_by_wrong) (by decide +kernel)) (fun _ _ _ _ _ => (pg_name (i := 8) sc_many_by_wrong.nd rfl (Or.inl rfl))) (fun _ _ _ _ _ => pts_nil) (fun _ _ _ _ _ => (pe_call G__determinant (hr.mono (by first | decide | omega)) (by rfl) C__determinant.g C__determinant.k C__determinant.b .nil pass0 (pa_cons (pe_call G__matrix (hr.mono (by first | decide | omega)) (by rfl) C__matrix.g C__matrix.k C__matrix.b .nil pass0 (pa_cons (pv 1) (pa_cons (pv 8) pa_nil))) pa_nil))))
 (pss_cons (ps_set (i := 4) sc_many_by_wrong.nd rfl (Or.inl rfl) (pe_call G__polynomial (hr.mono (by first | decide | omega)) (by rfl) C__polynomial.g C__polynomial.k C__polynomial.b .nil pass0 (pa_cons (pv 3) pa_nil)))
 (pss_cons (ps_while PassesOwn.never (pt_cmpR op_eq (pe_ix (ix_listK (K := K) rfl) (pv 4) (pe_un un_neg pe_int) (fun _ _ => rfl)) pe_int (nomark _)) (pss_one (ps_expr (pe_bm0K (K := K) rfl PySem.F.plainAttrs_list PySem.F.slot_list_pop PySem.F.type_list_pop mt_pop (pv 4)))))
 (pss_one (ps_ret (pe_callTy (call_tplK (K := K) rfl) (by rfl) B.b_tuple (by decide +kernel) (pa_cons (pv 4) pa_nil)))))))))), ?_⟩
    walk_at "h0"
    refine ⟨x, _, dx, _, _, rfl, h1, W.c, W.nb, h2, ?_⟩
    walk_at "hs"
    refine x_isdF (by omega) ?_
    walk_at "hs"
    have n1 := ok.n1
    have ll := ok.ll
    refine ⟨x, _, dx, _, _, rfl, h1, W.c, W.nb, h2, ?_⟩
    walk_at "hs"
    refine ⟨1, (n : Int) + 1, rfl, ⟨by omega, by omega, by omega, by omega⟩, fun T hT => ?_⟩
    refine lc_range (lo := 1) (n := Int.toNat ((n : Int) + 1 - 1)) (fun i H' => Same H H' ∧ ∃ qs : List Addr, qs.length = i ∧ H' T = some (.lst (refs qs)) ∧ ∀ (k : Nat) q, qs[k]? = some q → H' q = some (.lst (costsV us ls (k + 1) (n + 1))) ∧ q ≠ T)
      ⟨same_new (Same.refl _) hT, [], rfl, upd_same, fun k q h => by cases h⟩ ?_ ?_
    · rintro i H' hi ⟨s1, qs, lq, eD, hq⟩
      walk_at "hs"
      refine ⟨rfl, ?_⟩
      walk_at "hs"
      have ec : ((1 : Int) + (i : Int)) = ((i + 1 : Nat) : Int) := by omega
      refine ⟨x, n, i + 1, us, ls, by rw [ec]; rfl, hw.same s1, ok, by omega, by omega, fun q1 H2 s2 nq vq => ?_⟩
      have eD2 := s2 _ _ eD
      have keep : ∀ (q : Addr) {xs : List V}, q ≠ T → H2 q = some (.lst xs) → upd H2 T (.lst (refs qs ++ [.ref q1])) q = some (.lst xs) := fun q xs ne h => keepM ne h
      have nq1 : q1 ≠ T := fun z => by rw [z, eD] at nq; cases nq
      refine ⟨_, eD2, by rw [refs_length, lq]; exact szLt (by omega), same_mut (s1.trans s2) hT, qs ++ [q1], by rw [List.length_append, lq]; rfl, by rw [upd_same, refs_app]; rfl, fun k q h => ?_⟩
      rcases Nat.lt_or_ge k qs.length with hk | hk
      · rw [List.getElem?_append_left hk] at h
        obtain ⟨g1, g2⟩ := hq k q h
        exact ⟨keep _ g2 (s2 _ _ g1), g2⟩
      · rw [List.getElem?_append_right hk] at h
        have hk0 : k - qs.length = 0 := by
          have := (List.getElem?_eq_some_iff.mp h).1
          rw [List.length_singleton] at this
          omega
        rw [hk0] at h
        have ea : q1 = q := Option.some.inj h
        subst ea
        rw [show k = i by omega]
        exact ⟨keep _ nq1 vq, nq1⟩
    rintro H1 ⟨s1, qs, lq, eT, hq⟩
    walk_at "hs"
    refine ⟨T, rfl, ⟨_, .of eT⟩, fun D2 nD2 => ?_⟩
    refine lc_list (K := K) (a := T) (xs := refs qs) (fun i G => Same H1 G ∧ ∃ ms : List Int, ms.length = i ∧ (∀ m ∈ ms, 0 ≤ m ∧ m ≤ 7) ∧ G D2 = some (.lst (ms.map V.int))) ⟨same_new (Same.refl _) nD2, [], rfl, (fun m h => by cases h), upd_same⟩ (fun i G _ h => .of (h.1 _ _ eT)) ?_ ?_
    · rintro i v G hv ⟨s2, ms, lm, hms, eD2⟩
      obtain ⟨q1, hq1, rfl⟩ : ∃ q1, qs[i]? = some q1 ∧ v = .ref q1 := by
        unfold refs at hv
        rw [List.getElem?_map] at hv
        cases e : qs[i]? with
        | none => rw [e] at hv; cases hv
        | some a => rw [e] at hv; exact ⟨a, rfl, (Option.some.inj hv).symm⟩
      have hi : i < n := by
        have := (List.getElem?_eq_some_iff.mp hq1).1
        omega
      have eq1 := s2 _ _ (hq i q1 hq1).1
      walk_at "hs"
      refine ⟨rfl, ?_⟩
      walk_at "hs"
      refine ⟨q1, rfl, ⟨_, .of eq1⟩, fun L nL => ?_⟩
      refine lc_list (K := K) (a := q1) (xs := costsV us ls (i + 1) (n + 1)) (fun j G2 => Same G G2 ∧ ∃ cs : List Int, cs.length ≤ j ∧ (1 ≤ j → 1 ≤ cs.length) ∧ (∀ m ∈ cs, 0 ≤ m ∧ m ≤ 7) ∧ G2 L = some (.lst (cs.map V.int))) ⟨same_new (Same.refl _) nL, [], Nat.le_refl _, (fun h => by omega), (fun m h => by cases h), upd_same⟩ (fun j G2 _ h => .of (h.1 _ _ eq1)) ?_ ?_
      · rintro j v G2 hv2 ⟨s3, cs, lc, lc1, hcs, eL⟩
        have hj : j < n + 1 := by
          have := (List.getElem?_eq_some_iff.mp hv2).1
          rwa [costsV_len] at this
        rw [costsV_get us ls (i + 1) hj] at hv2
        have hv2 := Option.some.inj hv2
        subst hv2
        by_cases e : j = i + 1
        · rw [if_pos e]
          walk_at "hs"
          refine ⟨rfl, ?_⟩
          walk_at "hs"
          exact ⟨s3, cs, by omega, fun _ => lc1 (by omega), hcs, eL⟩
        · rw [if_neg e]
          walk_at "hs"
          refine ⟨rfl, ?_⟩
          walk_at "hs"
          refine ⟨_, eL, szLt (by rw [List.length_map]; omega), same_mut s3 nL, cs ++ [(costN us ls (i + 1) j : Int)], by rw [List.length_append]; show _ + 1 ≤ _; omega, fun _ => by rw [List.length_append]; show 1 ≤ _ + 1; omega, fun m hm => ?_, ?_⟩
          · rcases List.mem_append.mp hm with h | h
            · exact hcs m h
            · have := List.mem_singleton.mp h
              have := costN_le us ls (i + 1) j
              omega
          · rw [upd_same, List.map_append]
            rfl
      rintro G2 ⟨s3, cs, lc, lc1, hcs, eL⟩
      rw [costsV_len] at lc lc1
      walk_at "hs"
      refine ⟨L, cs, rfl, .of eL, by have := lc1 (by omega); omega, fun m hm hall => ?_⟩
      have m2 := hcs m hm
      have nLD : L ≠ D2 := Ne.symm (ne_of_none eD2 nL)
      refine ⟨_, s3 _ _ eD2, szLt (by rw [List.length_map, lm]; omega), same_mut (s2.trans s3) nD2, ms ++ [m], by rw [List.length_append, lm]; rfl, fun y hy => ?_, ?_⟩
      · rcases List.mem_append.mp hy with h | h
        · exact hms y h
        · rw [List.mem_singleton.mp h]
          exact m2
      · rw [upd_same, List.map_append]
        rfl
    rintro G ⟨s2, ms, lm, hms, eD2⟩
    walk_at "hs"
    refine ⟨D2, ms, rfl, .of eD2, ?_⟩
    obtain ⟨k, hk, k35⟩ : ∃ k : Nat, ms.sum = (k : Int) ∧ k ≤ 35 := by
      obtain ⟨b1, b2⟩ := bd_sum (m := 7) (l := ms) fun m hm => ⟨(hms m hm).1, by have := hms m hm; omega⟩
      rw [refs_length] at lm
      refine ⟨ms.sum.toNat, by omega, ?_⟩
      have : ms.length * 7 ≤ 5 * 7 := Nat.mul_le_mul_right _ (by omega)
      omega
    rw [hk]
    have eT2 := s2 _ _ eT
    have hq2 : ∀ (k : Nat) q, qs[k]? = some q → G q = some (.lst (costsV us ls (k + 1) (n + 1))) := fun k q h => s2 _ _ (hq k q h).1
    have s12 := s1.trans s2
    have lqn : qs.length = n := by omega
    clear hk eD2 hms lm s2 hq eT s1 lq
    walk_at "hs"
    refine ⟨1, (k : Int) + 2, rfl, ⟨by omega, by omega, by omega, by omega⟩, fun W3 nW3 => ?_⟩
    refine lc_range (lo := 1) (n := Int.toNat ((k : Int) + 2 - 1)) (fun i G2 => Same G G2 ∧ ∃ ws : List Int, ws.length = i ∧ (1 ≤ i → ∃ w0 r, ws = w0 :: r ∧ 0 < w0) ∧ G2 W3 = some (.lst (ws.map V.int))) ⟨same_new (Same.refl _) nW3, [], rfl, (fun h => by omega), upd_same⟩ ?_ ?_
    · rintro i G2 hi ⟨s2, ws, lw, hws, eW⟩
      walk_at "hs"
      refine ⟨rfl, ?_⟩
      walk_at "hs"
      have ik : i ≤ 35 := by omega
      have ro := rowO_ok (us := us) (ls := ls) (n := n) (x := i + 1) n5 (by omega) (by omega) ll
      refine ⟨T, 1 + (i : Int), qs, (List.range n).map fun i => rowO us ls n (i + 1), rfl, s2 _ _ eT2, by rw [lqn, List.length_map, List.length_range], by rw [List.length_map, List.length_range]; omega, fun j a r ha hr => ?_, by omega, by omega, fun D bs G3 s3 nD eD lD hD => ?_⟩
      · obtain ⟨r1, r2, r3, r4⟩ := ro.at_ j r hr
        have hj := (List.getElem?_eq_some_iff.mp ha).1
        have er : r = rowO us ls n (j + 1) := by
          rw [List.getElem?_map, List.getElem?_range (by omega)] at hr
          exact (Option.some.inj hr).symm
        refine ⟨?_, by omega, by omega, fun c hc => by have := r4 c hc; omega⟩
        rw [er, rowO_ov]
        exact s2 _ _ (hq2 j a ha)
      walk_at "hs"
      rw [List.length_map, List.length_range] at lD
      generalize hR : (List.range n).map (fun i => rowO us ls n (i + 1)) = rows at ro hD
      refine ⟨D, n, mA (i + 1) rows, rfl, n1, n5, ⟨bs, eD, by omega, fun j b hb => ?_⟩, mA_zd ro, mA_bd ro, fun G4 s4 => ?_⟩
      · have hj := (List.getElem?_eq_some_iff.mp hb).1
        have := hD j b _ hb (rows_get ro (by omega))
        rw [mrow_eq] at this
        rw [this]
        unfold mr
        rw [Nat.sub_zero, Nat.zero_add, mA_row ro (by omega), show ((1 : Int) + (i : Int)) = ((i + 1 : Nat) : Int) by omega]
      have wp : 0 < stg (mA (i + 1) rows) (n - 1) (n - 1) (n - 1) := (stg_zd (mA_zd ro) (n - 1) (by omega) (by omega)).1.pivot (by omega)
      refine ⟨_, s4 _ _ (s3 _ _ eW), szLt (by rw [List.length_map, lw]; omega), same_mut ((s2.trans s3).trans s4) nW3, ws ++ [stg (mA (i + 1) rows) (n - 1) (n - 1) (n - 1)], by rw [List.length_append, lw]; rfl, fun _ => ?_, ?_⟩
      · cases ws with
        | nil => exact ⟨_, [], rfl, wp⟩
        | cons w0 r =>
          obtain ⟨w1, r1, e, h⟩ := hws (by rw [← lw]; show 1 ≤ _ + 1; omega)
          cases e
          exact ⟨w0, r ++ [_], rfl, h⟩
      · rw [upd_same, List.map_append]
        rfl
    rintro G2 ⟨s2, ws, lw, hws, eW⟩
    obtain ⟨w0, r, rfl, wp⟩ := hws (by omega)
    walk_at "hs"
    refine ⟨W3, w0, r, rfl, .of eW, by rw [List.length_cons] at lw; omega, fun D f G3 s3 nD eD sf lf => ?_⟩
    walk_at "hs"
    have l1 : f.length ≤ 40 := by rw [List.length_cons] at lw; omega
    have sH : Same H G3 := s12.trans (s2.trans s3)
    have nDH : H D = none := (s12.trans s2).free nD
    refine ⟨fun m σ' H' => ∃ g : List Int, m = g.length ∧ g.length ≤ 40 ∧ g.sum = w0 ∧ σ' = [some (.ref x), some (.ref T), some (.int k), some (.ref W3), some (.ref D), none, none, none, none] ∧ Same H H' ∧ H' D = some (.lst (g.map V.int)), ⟨_, f, rfl, l1, sf, rfl, sH, eD⟩, ?_⟩
    rintro m σ' H' ⟨g, rfl, l2, sg, rfl, sg2, eg⟩
    obtain ⟨g', z, rfl⟩ : ∃ g' z, g = g' ++ [z] := by
      rcases List.eq_nil_or_concat g with rfl | ⟨g', z, rfl⟩
      · rw [List.sum_nil] at sg
        omega
      · exact ⟨g', z, by rw [List.concat_eq_append]⟩
    have sD : SqL K H' D ((g' ++ [z]).map V.int) := .of eg
    have al : atI ((g' ++ [z]).map V.int) (-1) = some (.int z) := by
      rw [List.map_append]
      exact L2.atI_last _ _
    walk_at "hs"
    refine x_isd (fun c => ?_) (fun c => ?_)
    · subst c
      refine ⟨fun σ' H' => ∃ m', m' < (g' ++ [(0 : Int)]).length ∧ ∃ g : List Int, m' = g.length ∧ g.length ≤ 40 ∧ g.sum = w0 ∧ σ' = [some (.ref x), some (.ref T), some (.int k), some (.ref W3), some (.ref D), none, none, none, none] ∧ Same H H' ∧ H' D = some (.lst (g.map V.int)), fun _ _ h => h, ?_⟩
      walk_at "hs"
      refine ⟨D, _, .int 0, rfl, rfl, eg, by rw [List.map_append, List.length_append, List.getElem?_append_right (by show _ ≤ _ + 1 - 1; omega)]; show _ = ([V.int 0])[0]?; congr 1; show _ + 1 - 1 - _ = 0; omega, ?_⟩
      walk_at "hs"
      refine ⟨g'.length, by rw [List.length_append]; exact Nat.lt_succ_self _, g', rfl, by rw [List.length_append] at l2; omega, by rw [List.sum_append] at sg; simpa using sg, rfl, same_mut sg2 nDH, ?_⟩
      rw [upd_same, List.map_append]
      show some (HO.lst (List.dropLast (_ ++ [V.int 0]))) = _
      rw [List.dropLast_concat]
    · walk_at "hs"
      intro U nU
      exact q _ _ (same_new sg2 nU)
end
set_option maxRecDepth 100000
set_option maxHeartbeats 2000000
open PySem PySem.Spec L2


theorem sc_TooMany___init__ : FnScope ["self", "most"] ["self", "most"] (defScope s_TooMany___init__) := ⟨rfl, rfl, rfl, by decide +kernel, rfl, by decide +kernel, by decide +kernel⟩
theorem numV_at {n : Nat} {v : V} {lo : Nat} (h : numV (lo : Nat) n v = true) : ∃ k : Nat, v = .int k ∧ lo ≤ k ∧ k ≤ n := by
  cases v with
  | int z =>
    have h : (decide (((lo : Nat) : Int) ≤ z) && decide (z ≤ n)) = true := h
    rw [Bool.and_eq_true, decide_eq_true_eq, decide_eq_true_eq] at h
    exact ⟨z.toNat, by rw [Int.toNat_of_nonneg (by omega)], by omega, by omega⟩
  | _ => cases h
section
variable {P : Program} {w : World} {K : PySem.W.Frag} {mg : Str → Option Value} {base : Heap} {Z : Ad}
theorem ok_many10 {f : Addr} {fd : FuncData} (F : Fun K "__init__" "TooMany.__init__" s_TooMany___init__ f fd) (X_TooMany : ExcF K Z.a_TooMany f "most") : FnOk P w K mg base CX0 1 f fd ["self", "most"] (spField Z.a_TooMany "most") := by
  refine F.ok sc_TooMany___init__ (fun vs H Q E h => ?_) (fun cdv A outer s H vs Q E hr h => ?_)
  · obtain ⟨a, v, rfl, _⟩ := h
    rfl
  · obtain ⟨a, v, rfl, ha, q⟩ := h
    refine ⟨_, (pss_one (ps_ost (pv 0) (pv 1))), ?_⟩
    walk_at "h0"
    exact ⟨a, _, rfl, X_TooMany.T, X_TooMany.n, .inl ⟨ha, q⟩⟩
/-- which word a call of cost makes -/
def spCostE (Z : Ad) : Sp := fun vs H _ E => ∃ (x : Addr) (n : Nat) (b p : V) (us : List (Option Nat)) (ls : List (List (Option Bool))), vs = [.ref x, b, p] ∧ WordsAt Z H x n us ls ∧ WdOk n us ls ∧ Kv Z H b ∧ Kv Z H p ∧
  ((numV 1 n b = false ∧ ∀ H', Same H H' → E (.ref Z.a_NoBlock) none H') ∨ (numV 1 n b = true ∧ (numV 0 n p = true → p = b) ∧ ∀ H', Same H H' → E (.ref Z.a_NoPlace) none H'))
theorem ok_costE {f fI fJ : Addr} {fd : FuncData} (F : Fun K "cost" "cost" s_cost f fd) (B : Bl Z mg) (W : WCls K Z) (X_NoBlock : SupC P K Z.a_NoBlock fI) (X_NoPlace : SupC P K Z.a_NoPlace fJ) {f_is_within : Addr} {fd_is_within : FuncData} (C_is_within : Cal K mg "is_within" f_is_within fd_is_within ["least", "most", "thing"]) (G_is_within : FnOk P w K mg base CX0 1 f_is_within fd_is_within ["least", "most", "thing"] (spWithinK Z)) {f_costs : Addr} {fd_costs : FuncData} (C_costs : Cal K mg "costs" f_costs fd_costs ["words", "block"]) (G_costs : FnOk P w K mg base CX0 1 f_costs fd_costs ["words", "block"] (spCosts Z)) : FnOk P w K mg base (L2.CX P w) 2 f fd ["words", "block", "place"] (spCostE Z) := by
  refine F.okX sc_cost (fun vs H Q E h => ?_) (fun cdv A outer s H vs Q E hr h => ?_)
  · obtain ⟨x, n, b, p, us, ls, rfl, _⟩ := h
    rfl
  · obtain ⟨x, n, b, p, us, ls, rfl, hw, ok, kb, kp, hh⟩ := h
    obtain ⟨dx, fs, tu, tl, as, h1, h2, h3, h4, h5, h6, h7⟩ := id hw
    refine ⟨_, (pss_cons (ps_if (pt_not (pt_val (pe_call G_is_within (hr.mono (by first | decide | omega)) (by rfl) C_is_within.g C_is_within.k C_is_within.b .nil pass0 (pa_cons pe_int (pa_cons (pe_fldK (K := K) rfl (pv 0) rfl) (pa_cons (pv 1) pa_nil)))))) (pss_one (ps_raise rfl (takes_of rfl rfl rfl rfl) (pmk_sup X_NoBlock (hr.mono (by first | decide | omega)) (by rfl) B.k_NoBlock B.b_super))) pss_nil)
 (pss_cons (ps_if (PW.pt (pw_or (pt_not (pt_val (pe_call G_is_within (hr.mono (by first | decide | omega)) (by rfl) C_is_within.g C_is_within.k C_is_within.b .nil pass0 (pa_cons pe_int (pa_cons (pe_fldK (K := K) rfl (pv 0) rfl) (pa_cons (pv 2) pa_nil)))))) (pw_or1 (pt_cmpR op_eq (pv 2) (pv 1) (nomark _))))) (pss_one (ps_raise rfl (takes_of rfl rfl rfl rfl) (pmk_sup X_NoPlace (hr.mono (by first | decide | omega)) (by rfl) B.k_NoPlace B.b_super))) pss_nil)
 (pss_one (ps_ret (pe_ix (ix_listK (K := K) rfl) (pe_call G_costs (hr.mono (by first | decide | omega)) (by rfl) C_costs.g C_costs.k C_costs.b .nil pass0 (pa_cons (pv 0) (pa_cons (pv 1) pa_nil))) (pv 2) (fun _ _ => rfl)))))), ?_⟩
    walk_at "h0"
    refine ⟨x, _, dx, _, _, rfl, h1, W.c, W.nb, h2, ?_⟩
    walk_at "hs"
    refine ⟨_, _, _, rfl, kb, ?_⟩
    rcases hh with ⟨e, qe⟩ | ⟨e, e2, qe⟩
    · rw [e]
      walk_at "hs"
      exact qe _ (Same.refl _)
    · rw [e]
      walk_at "hs"
      refine ⟨x, _, dx, _, _, rfl, h1, W.c, W.nb, h2, ?_⟩
      walk_at "hs"
      refine ⟨_, _, _, rfl, kp, ?_⟩
      cases e3 : numV 0 n p with
      | false =>
        walk_at "hs"
        exact qe _ (Same.refl _)
      | true =>
        have e4 := e2 e3
        subst e4
        obtain ⟨k, rfl, _, _⟩ := numV_at (lo := 0) e3
        walk_at "hs"
        exact qe _ (Same.refl _)
def spWrongE (Z : Ad) : Sp := fun vs H _ E => ∃ (x y : Addr) (n : Nat) (us : List (Option Nat)) (ls : List (List (Option Bool))) (hs : List Nat), vs = [.ref x, .ref y] ∧ WordsAt Z H x n us ls ∧ TreeAt Z H y hs ∧ hs.length ≠ n ∧ ∀ H', Same H H' → E (.ref Z.a_OtherBlocks) none H'
theorem ok_wrongE {f fI : Addr} {fd : FuncData} (F : Fun K "wrong_words" "wrong_words" s_wrong_words f fd) (B : Bl Z mg) (W : WCls K Z) (T : IsC K Z.a_Tree) (N : NoAttr K Z.a_Tree "hung") (X_OtherBlocks : SupC P K Z.a_OtherBlocks fI) {f_cost : Addr} {fd_cost : FuncData} (C_cost : Cal K mg "cost" f_cost fd_cost ["words", "block", "place"]) (G_cost : FnOk P w K mg base CX0 2 f_cost fd_cost ["words", "block", "place"] (spCost Z)) : FnOk P w K mg base (L2.CX P w) 3 f fd ["words", "tree"] (spWrongE Z) := by
  refine F.okX sc_wrong_words (fun vs H Q E h => ?_) (fun cdv A outer s H vs Q E hr h => ?_)
  · obtain ⟨x, y, n, us, ls, hs, rfl, _⟩ := h
    rfl
  · obtain ⟨x, y, n, us, ls, hs, rfl, hw, ht, hn, qe⟩ := h
    obtain ⟨dx, fs, tu, tl, as, h1, h2, h3, h4, h5, h6, h7⟩ := id hw
    obtain ⟨dy, t, k1, k2⟩ := id ht
    refine ⟨_, (pss_cons (ps_if (PW.pt (pw_or (pt_not (pt_val (pe_callB (call_isiK' (K := K) rfl) (by rfl) B.b_isinstance (by decide +kernel) (pa_cons (pv 1) (pa_cons (pe_glob (v := .ref Z.a_Tree) rfl B.k_Tree rfl) pa_nil))))) (pw_or1 (pt_cmpR op_ne (pe_callB (call_lenK (K := K) rfl) (by rfl) B.b_len PySem.boot_len (pa_cons (pe_fldK (K := K) rfl (pv 1) rfl) pa_nil)) (pe_fldK (K := K) rfl (pv 0) rfl) (nomark _))))) (pss_one (ps_raise rfl (takes_of rfl rfl rfl rfl) (pmk_sup X_OtherBlocks (hr.mono (by first | decide | omega)) (by rfl) B.k_OtherBlocks B.b_super))) pss_nil)
 (pss_one (ps_ret (pe_callB (cr_sumK (K := K) rfl rfl) (by rfl) B.b_sum (by decide +kernel) (pa_cons (pe_lc (own := [("block", 2), ("place", 3)]) rfl sc_wrong_words.nd (pi_enumTK (K := K) rfl rfl (by rfl) B.b_enumerate (by decide) (by decide) (pa_cons (pe_fldK (K := K) rfl (pv 1) rfl) pa_nil)) (blkOk_by (N := ["words", "tree", "block", "place"]) (sc := defScope s_wrong_words) (by decide +kernel)) (fun _ _ _ _ _ => (pg_tupK (K := K) (n := 2) rfl rfl (pgs_cons (pg_name (i := 2) sc_wrong_words.nd rfl (Or.inl rfl)) (pgs_cons (pg_name (i := 3) sc_wrong_words.nd rfl (Or.inl rfl)) pgs_nil)))) (fun _ _ _ _ _ => pts_nil) (fun _ _ _ _ _ => (pe_call G_cost (hr.mono (by first | decide | omega)) (by rfl) C_cost.g C_cost.k C_cost.b .nil pass0 (pa_cons (pv 0) (pa_cons (pv 2) (pa_cons (pv 3) pa_nil)))))) pa_nil))))), ?_⟩
    walk_at "h0"
    refine isi_own T k1 ?_
    walk_at "hs"
    refine ⟨y, _, dy, _, _, rfl, k1, T.cl, N, rfl, ?_⟩
    have kt : SqT K H t (nats hs) := .of k2
    walk_at "hs"
    refine ⟨x, _, dx, _, _, rfl, h1, W.c, W.nb, h2, ?_⟩
    walk_at "hs"
    rw [nats_length]
    refine x_isdT (by omega) ?_
    walk_at "hs"
    exact qe _ (Same.refl _)
def spManyE (Z : Ad) : Sp := fun vs H _ E => ∃ (x : Addr) (n : Nat) (us : List (Option Nat)) (ls : List (List (Option Bool))), vs = [.ref x] ∧ WordsAt Z H x n us ls ∧ 10 < n ∧ ∀ e H', Same H H' → H' e = some (.xd [("most", .int 10)]) → E (.ref Z.a_TooMany) (some e) H'
theorem ok_manyE {f : Addr} {fd : FuncData} (F : Fun K "many_by_wrong" "many_by_wrong" s_many_by_wrong f fd) (B : Bl Z mg) (W : WCls K Z) {f_TooMany___init__ : Addr} {fd_TooMany___init__ : FuncData} (C_TooMany___init__ : CalM K f_TooMany___init__ fd_TooMany___init__ ["self", "most"]) (G_TooMany___init__ : FnOk P w K mg base CX0 1 f_TooMany___init__ fd_TooMany___init__ ["self", "most"] (spField Z.a_TooMany "most")) (X_TooMany : ExcF K Z.a_TooMany f_TooMany___init__ "most")
    {f_costs : Addr} {fd_costs : FuncData} (C_costs : Cal K mg "costs" f_costs fd_costs ["words", "block"]) (G_costs : FnOk P w K mg base CX0 1 f_costs fd_costs ["words", "block"] (spCosts Z)) {f__matrix : Addr} {fd__matrix : FuncData} (C__matrix : Cal K mg "_matrix" f__matrix fd__matrix ["table", "x"]) (G__matrix : FnOk P w K mg base CX0 2 f__matrix fd__matrix ["table", "x"] spMatrix)
    {f__determinant : Addr} {fd__determinant : FuncData} (C__determinant : Cal K mg "_determinant" f__determinant fd__determinant ["matrix"]) (G__determinant : FnOk P w K mg base CX0 1 f__determinant fd__determinant ["matrix"] spDet) {f__polynomial : Addr} {fd__polynomial : FuncData} (C__polynomial : Cal K mg "_polynomial" f__polynomial fd__polynomial ["worths"]) (G__polynomial : FnOk P w K mg base CX0 1 f__polynomial fd__polynomial ["worths"] (spPoly K)) : FnOk P w K mg base (L2.CX P w) 4 f fd ["words"] (spManyE Z) := by
  refine F.okX sc_many_by_wrong (fun vs H Q E h => ?_) (fun cdv A outer s H vs Q E hr h => ?_)
  · obtain ⟨x, n, us, ls, rfl, _⟩ := h
    rfl
  · obtain ⟨x, n, us, ls, rfl, hw, hn, qe⟩ := h
    obtain ⟨dx, fs, tu, tl, as, h1, h2, h3, h4, h5, h6, h7⟩ := id hw
    refine ⟨_, (pss_cons (ps_if (pt_cmpR op_gt (pe_fldK (K := K) rfl (pv 0) rfl) (pe_glob (v := .int (10)) rfl B.c_MOST_BLOCKS_COUNTED ⟨_, rfl⟩) (nomark _)) (pss_one (ps_raise rfl (takes_of rfl rfl rfl rfl) (pmk_oex X_TooMany.T X_TooMany.i X_TooMany.t G_TooMany___init__ (hr.mono (by first | decide | omega)) C_TooMany___init__.b .nil pass0 (by rfl) B.k_TooMany (pa_cons (pe_glob (v := .int (10)) rfl B.c_MOST_BLOCKS_COUNTED ⟨_, rfl⟩) pa_nil)))) pss_nil)
 (pss_cons (ps_set (i := 1) sc_many_by_wrong.nd rfl (Or.inr rfl) (pe_lc (own := [("block", 5)]) rfl sc_many_by_wrong.nd (pi_range2 rfl B.b_range (pa_cons pe_int (pa_cons (pe_op op_add (pe_fldK (K := K) rfl (pv 0) rfl) pe_int) pa_nil))) (blkOk_by (N := ["words", "table", "most", "worths", "many", "block", "row", "wrong", "x"]) (sc := defScope s_many_by_wrong) (by decide +kernel)) (fun _ _ _ _ _ => (pg_name (i := 5) sc_many_by_wrong.nd rfl (Or.inl rfl))) (fun _ _ _ _ _ => pts_nil) (fun _ _ _ _ _ => (pe_call G_costs (hr.mono (by first | decide | omega)) (by rfl) C_costs.g C_costs.k C_costs.b .nil pass0 (pa_cons (pv 0) (pa_cons (pv 5) pa_nil))))))
 (pss_cons (ps_set (i := 2) sc_many_by_wrong.nd rfl (Or.inl rfl) (pe_callB (cr_sumK (K := K) rfl rfl) (by rfl) B.b_sum (by decide +kernel) (pa_cons (pe_lc (own := [("row", 6)]) rfl sc_many_by_wrong.nd (pi_list (pv 1)) (blkOk_by (N := ["words", "table", "most", "worths", "many", "block", "row", "wrong", "x"]) (sc := defScope s_many_by_wrong) (by decide +kernel)) (fun _ _ _ _ _ => (pg_name (i := 6) sc_many_by_wrong.nd rfl (Or.inl rfl))) (fun _ _ _ _ _ => pts_nil) (fun _ _ _ _ _ => (pe_callB (cr_maxLK (K := K) rfl rfl) (by rfl) B.b_max (by decide +kernel) (pa_cons (pe_lc (own := [("wrong", 7)]) rfl sc_many_by_wrong.nd (pi_listK (K := K) rfl (pv 6)) (blkOk_nest (N := ["words", "table", "most", "worths", "many", "block", "row", "wrong", "x"]) (sc := defScope s_many_by_wrong) (by decide +kernel) rfl) (fun _ _ _ _ _ => (pg_name (i := 7) sc_many_by_wrong.nd rfl (Or.inl rfl))) (fun _ _ _ _ _ => (pts_one (pt_cmpR op_notNk (pv 7) pe_non (nomark _)))) (fun _ _ _ _ _ => (pv 7))) pa_nil)))) pa_nil)))
 (pss_cons (ps_setLc (i := 3) (own := [("x", 8)]) rfl sc_many_by_wrong.nd rfl rfl (sw_true rfl rfl rfl (by decide +kernel)) (pi_range2 rfl B.b_range (pa_cons pe_int (pa_cons (pe_op op_add (pv 2) pe_int) pa_nil))) (blkOk_by (N := ["words", "table", "most", "worths", "many", "block", "row", "wrong", "x"]) (sc := defScope s_many_by_wrong) (by decide +kernel)) (fun _ _ _ _ _ => (pg_name (i := 8) sc_many_by_wrong.nd rfl (Or.inl rfl))) (fun _ _ _ _ _ => pts_nil) (fun _ _ _ _ _ => (pe_call G__determinant (hr.mono (by first | decide | omega)) (by rfl) C__determinant.g C__determinant.k C__determinant.b .nil pass0 (pa_cons (pe_call G__matrix (hr.mono (by first | decide | omega)) (by rfl) C__matrix.g C__matrix.k C__matrix.b .nil pass0 (pa_cons (pv 1) (pa_cons (pv 8) pa_nil))) pa_nil))))
 (pss_cons (ps_set (i := 4) sc_many_by_wrong.nd rfl (Or.inl rfl) (pe_call G__polynomial (hr.mono (by first | decide | omega)) (by rfl) C__polynomial.g C__polynomial.k C__polynomial.b .nil pass0 (pa_cons (pv 3) pa_nil)))
 (pss_cons (ps_while (passes_of rfl) (pt_cmpR op_eq (pe_ix (ix_listK (K := K) rfl) (pv 4) (pe_un un_neg pe_int) (fun _ _ => rfl)) pe_int (nomark _)) (pss_one (ps_expr (pe_bm0K (K := K) rfl PySem.F.plainAttrs_list PySem.F.slot_list_pop PySem.F.type_list_pop mt_pop (pv 4)))))
 (pss_one (ps_ret (pe_callTy (call_tplK (K := K) rfl) (by rfl) B.b_tuple (by decide +kernel) (pa_cons (pv 4) pa_nil)))))))))), ?_⟩
    walk_at "h0"
    refine ⟨x, _, dx, _, _, rfl, h1, W.c, W.nb, h2, ?_⟩
    walk_at "hs"
    refine x_isdT (by omega) ?_
    walk_at "hs"
    exact mk_field fun e H' s2 _ he => qe e H' s2 he
end
set_option maxRecDepth 100000
set_option maxHeartbeats 4000000
open PySem PySem.Spec L2


theorem sc__law_word : FnScope ["_law_call", "_law_word_here", "e", "_law_flags"] ["_law_call"] (defScope s__law_word) := ⟨rfl, rfl, rfl, by decide +kernel, rfl, by decide +kernel, by decide +kernel⟩
theorem takes_len {X : Cx} {W : WX} {n : Nat} (hn : X.N.length = n) (tk : Takes X W) : Takes X (fun cls d σ H => σ.length = n → W cls d σ H) := fun u s' x => by
  obtain ⟨a, B, sI, pins, σ, H, cls, d, e, I, nb, up, sky, na, os, ag, w⟩ := x
  exact tk u s' ⟨a, B, sI, pins, σ, H, cls, d, e, I, nb, up, sky, na, os, ag, w (I.len.trans hn)⟩
theorem ps_act {X : Cx} {a : Str} {f c' : Addr} {q : Str} {tl : XK → Hp → VK → Prop} {W : WX} {n : Nat} {p1 p2 p3 : Pos} (hn : X.N.length = n) (tk : Takes X W)
    (act : ∀ (W' : WX) (E : XK), Takes X W' → (∀ cls d σ' H', E cls d H' → W' cls d σ' H') → PE X (.Call (.Name a p1) [] [] p2) (fun σZ HZ Q => σZ[0]? = some (some (.ref f)) ∧ HZ c' = some (LamX.CodeO c' q) ∧ tl E HZ Q))
    (hs : ∀ e : Expr, e = .Call (.Name a p1) [] [] p2 → swapsWith e none p3.line X.env = pure false) :
    PS X (.Expr (.Call (.Name a p1) [] [] p2) p3) (fun D σ H => ∃ Ech : XK, (∀ cls d σ' H', Ech cls d H' → σ'.length = n → W cls d σ' H') ∧ σ[0]? = some (some (.ref f)) ∧ H c' = some (LamX.CodeO c' q) ∧ tl Ech H (fun _ H' => D.nx σ H')) := by
  refine ⟨fun pins s σ H D I h => ?_⟩
  obtain ⟨Ech, h1, h2, h3, h4⟩ := h
  exact (ps_expr (act _ Ech (takes_len hn tk) h1) (hs _ rfl)).run pins s σ H D I ⟨h2, h3, h4⟩
/-- the class of the error that has this number among those that the law knows -/
def errAt (Z : Ad) : Nat → Addr
  | 0 => Z.a_NoBlock
  | 1 => Z.a_NoPlace
  | 2 => Z.a_OtherBlocks
  | _ => Z.a_TooMany
def errWord : Nat → Str
  | 0 => "block"
  | 1 => "place"
  | 2 => "others"
  | _ => "many"
structure ErrK (K : PySem.W.Frag) (Z : Ad) (i : Nat) : Prop where
  e : L2.ExcC K (errAt Z i)
  m : PySem.W.exmOne K (.ref (errAt Z i)) (.ref Z.a_VoteError) = some true
  k : ∀ j, j < 4 → PySem.W.kitOne K (.ref (errAt Z i)) (.ref (errAt Z j)) = some (decide (i = j))
  v : PySem.W.kitOne K (.ref (errAt Z i)) (.type "ValueError") = some true
/-- the state of a raised error: without fields, or with the most that is counted -/
def ErrSt (i : Nat) (d : Option Addr) (H : Hp) : Prop := if i < 3 then d = none else ∃ dd, d = some dd ∧ H dd = some (.xd [("most", .int 10)])
theorem ErrSt.ok {i : Nat} {d : Option Addr} {H : Hp} (h : ErrSt i d H) : d = none ∨ ∃ dd fs, d = some dd ∧ H dd = some (.xd fs) := by
  unfold ErrSt at h
  split at h
  · exact .inl h
  · obtain ⟨dd, e, h⟩ := h
    exact .inr ⟨dd, _, e, h⟩
theorem ErrSt.same {i : Nat} {d : Option Addr} {H H' : Hp} (s : Same H H') (h : ErrSt i d H) : ErrSt i d H' := by
  unfold ErrSt at h ⊢
  split
  · rename_i c
    rw [if_pos c] at h
    exact h
  · rename_i c
    rw [if_neg c] at h
    obtain ⟨dd, e, h⟩ := h
    exact ⟨dd, e, s _ _ h⟩
/-- what is let out, as the law's word sees it -/
def ErrX (Z : Ad) (Q : VK) : XK := fun cls d H' => ∃ i, i < 4 ∧ cls = .ref (errAt Z i) ∧ ErrSt i d H' ∧ ∀ H'', Same H' H'' → Q (.str (errWord i)) H''
/-- what the law makes of a call: «let», or the word of the error's class -/
def TTw (Z : Ad) : (XK → Hp → VK → Prop) → Hp → VK → Prop := fun tl H Q => tl (ErrX Z Q) H (fun _ H' => Q (.str "let") H')
theorem one_flag {i : Nat} (h : i < 4) : (((List.range 4).map fun j => some (decide (i = j))).count (some true)) = 1 := by
  match i, h with
  | 0, _ => rfl
  | 1, _ => rfl
  | 2, _ => rfl
  | 3, _ => rfl
section
variable {Z : Ad}
theorem word_gives {X : Cx} {K : PySem.W.Frag} {g : Addr} {cdg : Value} {q : Str} (eK : X.K = K) (B : Bl Z X.mg) (EK : (∀ i, i < 4 → ErrK K Z i) ∧ XfC K Z.a_TooMany ∧ PySem.W.findIn K (.ref Z.a_TooMany) "most" = some none) : LamX.GivesTo X ["_law_call", "_law_word_here", "e", "_law_flags"] "_law_word" (defScope s__law_word) g cdg (defBody s__law_word) "_law_call" q (TTw Z) := by
  obtain ⟨EK, X_f, X_n⟩ := EK
  subst eK
  intro f c' s H Q tl act hc h
  refine ⟨_, (pss_cons (ps_set (i := 1) sc__law_word.nd rfl (Or.inl rfl) pe_str)
 (pss_cons (ps_try_as (i := 2) (Wout := fun _ _ _ _ => False) rfl rfl sc__law_word.nd rfl rfl ⟨rfl, by decide, Or.inl B.k_VoteError⟩ takes0 (fun W pn xe tk _ => (pss_one (ps_act (n := 4) rfl tk (fun W' E' tk' hE => act W' pn xe E' _ _ tk' hE) (fun _ h => by subst h; rfl)))) (fun a oe cls d pn hz hf => (pss_cons (ps_set (i := 3) sc__law_word.nd rfl (Or.inl rfl) (pe_lst (pa_cons (pe_callB (call_isX (K := X.K) rfl hz hf) (by rfl) B.b_isinstance (by decide +kernel) (pa_cons (pv 2) (pa_cons (pe_glob (v := .ref Z.a_NoBlock) rfl B.k_NoBlock rfl) pa_nil))) (pa_cons (pe_callB (call_isX (K := X.K) rfl hz hf) (by rfl) B.b_isinstance (by decide +kernel) (pa_cons (pv 2) (pa_cons (pe_glob (v := .ref Z.a_NoPlace) rfl B.k_NoPlace rfl) pa_nil))) (pa_cons (pe_callB (call_isX (K := X.K) rfl hz hf) (by rfl) B.b_isinstance (by decide +kernel) (pa_cons (pv 2) (pa_cons (pe_glob (v := .ref Z.a_OtherBlocks) rfl B.k_OtherBlocks rfl) pa_nil))) (pa_cons (pe_callB (call_isX (K := X.K) rfl hz hf) (by rfl) B.b_isinstance (by decide +kernel) (pa_cons (pv 2) (pa_cons (pe_glob (v := .ref Z.a_TooMany) rfl B.k_TooMany rfl) pa_nil))) pa_nil))))))
 (pss_cons (ps_set (i := 1) sc__law_word.nd rfl (Or.inl rfl) pe_str)
 (C8.pss_cut (ps_if (PW.pt (pw_and (pt_cmpR op_eq (pe_bmK (K := X.K) rfl PySem.F.plainAttrs_list PySem.F.slot_list_count PySem.F.type_list_count (mt_lcountB (K := X.K) rfl) (pv 3) (pa_cons pe_bl pa_nil)) pe_int (nomark _)) (pw_and1 (pt_val (pe_callB (call_isX (K := X.K) rfl hz hf) (by rfl) B.b_isinstance (by decide +kernel) (pa_cons (pv 2) (pa_cons (pe_bltn (v := .ty "ValueError") (by rfl) B.b_ValueError (by decide +kernel) rfl) pa_nil))))))) (pss_one (ps_set (i := 1) sc__law_word.nd rfl (Or.inl rfl) (pe_ix (ix_listK (K := X.K) rfl) (pe_lst (pa_cons pe_str (pa_cons pe_str (pa_cons pe_str (pa_cons pe_str pa_nil))))) (pe_bmK (K := X.K) rfl PySem.F.plainAttrs_list PySem.F.slot_list_index PySem.F.type_list_index (mt_indexK (K := X.K) rfl) (pv 3) (pa_cons pe_bl pa_nil)) (fun _ _ => rfl)))) pss_nil)
 (pss_one (ps_if (PW.pt (pw_and (pt_cmpR op_eq (pv 1) pe_str (nomark _)) (pw_and1 (pt_cmpR op_ne (pe_xf X_f X_n hz hf (pv 2) (by rfl)) pe_int (nomark _))))) (pss_one (ps_set (i := 1) sc__law_word.nd rfl (Or.inl rfl) pe_str)) pss_nil)))))))
 (pss_one (ps_ret (pv 1))))), ?_⟩
  walk_at "h0"
  refine ⟨ErrX Z Q, ?_, rfl, hc, ?_⟩
  · rintro cls d σ' H' ⟨i, hi, rfl, hd, qq⟩ ln
    obtain ⟨y0, y1, y2, y3, rfl⟩ : ∃ y0 y1 y2 y3, σ' = [y0, y1, y2, y3] := by
      match σ', ln with
      | [y0, y1, y2, y3], _ => exact ⟨y0, y1, y2, y3, rfl⟩
    have E := EK i hi
    refine ⟨true, E.m, fun _ xa na => ?_, fun z => nomatch z⟩
    walk_at "hs"
    refine x_isX (C := Z.a_NoBlock) hd.ok E.e (E.k 0 (by decide)) ?_
    walk_at "hs"
    refine x_isX (C := Z.a_NoPlace) hd.ok E.e (E.k 1 (by decide)) ?_
    walk_at "hs"
    refine x_isX (C := Z.a_OtherBlocks) hd.ok E.e (E.k 2 (by decide)) ?_
    walk_at "hs"
    refine x_isX (C := Z.a_TooMany) hd.ok E.e (E.k 3 (by decide)) ?_
    walk_at "hs"
    intro L1 nL1
    have s1 : Same H' (upd H' L1 (.lst [.bl (decide (i = 0)), .bl (decide (i = 1)), .bl (decide (i = 2)), .bl (decide (i = 3))])) := same_new (Same.refl _) nL1
    have eL1 : upd H' L1 (.lst [.bl (decide (i = 0)), .bl (decide (i = 1)), .bl (decide (i = 2)), .bl (decide (i = 3))]) L1 = some (.lst [.bl (decide (i = 0)), .bl (decide (i = 1)), .bl (decide (i = 2)), .bl (decide (i = 3))]) := upd_same
    generalize upd H' L1 (.lst [.bl (decide (i = 0)), .bl (decide (i = 1)), .bl (decide (i = 2)), .bl (decide (i = 3))]) = H1 at s1 eL1 ⊢
    walk_at "hs"
    have eS : [V.bl (decide (i = 0)), .bl (decide (i = 1)), .bl (decide (i = 2)), .bl (decide (i = 3))] = wds ((List.range 4).map fun j => some (decide (i = j))) := rfl
    rw [eS] at eL1
    have of1 := one_flag hi
    have gt : ((List.range 4).map fun j => some (decide (i = j)))[i]? = some (some true) := by
      rw [List.getElem?_map, List.getElem?_range hi]
      simp
    have gf : ∀ j, j < i → ((List.range 4).map fun j => some (decide (i = j)))[j]? = some (some false) := fun j hj => by
      rw [List.getElem?_map, List.getElem?_range (by omega)]
      simp
      omega
    generalize ((List.range 4).map fun j => some (decide (i = j))) = bs at eL1 of1 gt gf
    have sL1 : SqL X.K H1 L1 (wds bs) := .of eL1
    refine ⟨fun σ' H'' => σ' = [y0, some (.str (errWord i)), some (.ref xa), some (.ref L1)] ∧ Same H' H'', ?_, ?_⟩
    · walk_at "hs"
      refine x_cntB sL1 ?_
      rw [of1]
      walk_at "hs"
      refine x_isXv (hd.same s1).ok E.e E.v ?_
      walk_at "hs"
      intro WL nWL
      have s5 : Same H1 (upd H1 WL (.lst [.str "block", .str "place", .str "others", .str "many"])) := same_new (Same.refl _) nWL
      have eWL : upd H1 WL (.lst [.str "block", .str "place", .str "others", .str "many"]) WL = some (.lst [.str "block", .str "place", .str "others", .str "many"]) := upd_same
      generalize upd H1 WL (.lst [.str "block", .str "place", .str "others", .str "many"]) = G1 at s5 eWL ⊢
      have sW : SqL X.K G1 WL [.str "block", .str "place", .str "others", .str "many"] := .of eWL
      have aw : atI [V.str "block", .str "place", .str "others", .str "many"] (i : Int) = some (.str (errWord i)) := atI_nat (by
        match i, hi with
        | 0, _ => rfl
        | 1, _ => rfl
        | 2, _ => rfl
        | 3, _ => rfl)
      walk_at "hs"
      refine ⟨L1, wds bs, .bl true, i, .bl true, rfl, rfl, .of (s5 _ _ eL1), rfl, List.all_eq_true.mpr fun v hv => ?_, ?_, rfl, fun m z hm hz => ?_, ?_⟩
      · unfold wds at hv
        obtain ⟨b, _, rfl⟩ := List.mem_map.mp hv
        cases b <;> rfl
      · unfold wds
        rw [List.getElem?_map, gt]
        rfl
      · unfold wds at hz
        rw [List.getElem?_map, gf m hm] at hz
        cases hz
        rfl
      walk_at "hs"
      exact ⟨rfl, s1.trans s5⟩
    rintro σ' G ⟨rfl, sG⟩
    walk_at "hs"
    by_cases c3 : i = 3
    · subst c3
      obtain ⟨dd, rfl, ed⟩ : ∃ dd, d = some dd ∧ H' dd = some (.xd [("most", .int 10)]) := hd
      refine x_isd (fun _ => ?_) (fun c => (c rfl).elim)
      walk_at "hs"
      refine x_xf ?_
      walk_at "hs"
      refine ⟨rfl, rfl, dd, _, .int 10, rfl, sG _ _ ed, rfl, ?_⟩
      walk_at "hs"
      exact qq _ sG
    · refine x_isd (fun c => ?_) (fun _ => ?_)
      · have : i = 0 ∨ i = 1 ∨ i = 2 := by omega
        rcases this with rfl | rfl | rfl
        · exact absurd c (by decide)
        · exact absurd c (by decide)
        · exact absurd c (by decide)
      · walk_at "hs"
        exact qq _ sG
  · have e : ∀ Ech : XK, tl Ech H (fun _ H' => Q (.str "let") H') → tl Ech H (fun _ H' => ∃ v, (List.set (L2.start ["_law_call", "_law_word_here", "e", "_law_flags"] [V.ref f]) 1 (some (V.str "let")))[1]? = some (some v) ∧ Q v H') := fun Ech hh => by
      have : (fun (_ : V) (H' : Hp) => ∃ v, (List.set (L2.start ["_law_call", "_law_word_here", "e", "_law_flags"] [V.ref f]) 1 (some (V.str "let")))[1]? = some (some v) ∧ Q v H') = fun _ H' => Q (.str "let") H' := by
        funext _ H'
        exact propext ⟨fun ⟨v, e1, e2⟩ => by cases e1; exact e2, fun h => ⟨_, rfl, h⟩⟩
      rw [this]
      exact hh
    exact e _ h
end
set_option maxRecDepth 100000
set_option maxHeartbeats 4000000
open PySem PySem.Spec L2 LamX


theorem passLam {X : Cx} {A : Around} {rest : List Env} {z : Shared} {HZ : Hp} {E : XK} {sl : Scope} {f c : Addr} : Passes (L2.CX X.prog X.w) (LamX.lamCx X A rest z HZ E sl f c) E := fun pins σ H s e s' I k => L2.passes_call (W := fun cls d _ G => E cls d G) (L2.takes_of rfl rfl rfl rfl) (fun _ _ _ _ h => h) pins σ H s e s' I k
/-- a def whose code object is known: it makes lambdas -/
structure FunC (K : PySem.W.Frag) (x : Str) (st : Stmt) (f : Addr) (fd : FuncData) (c : Addr) : Prop where
  ex : ∃ (oc : Value) (od : Option Addr) (kV doc pm : Value) (an : Option Addr) (ct : Value) (osl : Array (Option Value)),
    fd = PySem.W.fnOf x x (defArgs st) (defBody st) (defScope st) .none kV doc pm an (.ref c) ct ∧ K.lookup f = some ⟨oc, od, .func fd, osl⟩ ∧ PySem.W.codeIn K (.ref c) x = true
theorem FunC.ok {P : Program} {w : World} {K : PySem.W.Frag} {mg : Str → Option Value} {base : Heap} {x : Str} {st : Stmt} {f c : Addr} {fd : FuncData} {N ps : List Str} {k : Nat} {sp : Sp} (F : FunC K x st f fd c) (S : FnScope N ps (defScope st)) (len : ∀ vs H Q E, sp vs H Q E → vs.length = ps.length)
    (bd : ∀ (A : Around) (outer : List Env) (s : Shared) (H : Hp) (vs : List V) (Q : VK) (E : XK), Room k (A.deeper (PyProof.Rows.envOfC x (defScope st) s.heap.objs.size f (.ref c))) → sp vs H Q E →
      ∃ t, PSs (cxOf CX0 P w K mg base N x (defScope st) f (.ref c) A outer s H E).nox (defBody st) t ∧ t { nx := fun _ H' => Q .non H', rt := Q } (L2.start N vs) H) : FnOk P w K mg base CX0 (k + 1) f fd ps sp := by
  obtain ⟨oc, od, kV, doc, pm, an, ct, osl, rfl, lk, cd⟩ := F.ex
  refine fn_of lk cd S len fun A outer s H vs Q E hr hsp => ?_
  obtain ⟨t, h, q⟩ := bd A outer s H vs Q E hr hsp
  exact ⟨t, h.nox, q⟩
theorem x_lam {T : List (Addr × Str)} {TT : (XK → Hp → VK → Prop) → Hp → VK → Prop} {t : XK → TE} {σ : L2.St} {H : Hp} {Q : VK} (hT : LamX.Tabs T H) (h : ∀ H1, LamX.ExtN H H1 → LamX.Tabs T H1 → TT (fun E H' Q' => t E σ H' Q') H1 Q) : LamX.tLam T TT t σ H Q := ⟨hT, h⟩
/-- what the law's word makes of a let call -/
abbrev QL (Q : VK) : VK := fun _ H' => Q (.str "let") H'
theorem tw {Z : Ad} {H : Hp} {Q : VK} {sp : Sp} {vs : List V} {tl : XK → Hp → VK → Prop} (h : ∀ Q' E', sp vs H Q' E' → tl E' H Q') (g : sp vs H (QL Q) (ErrX Z Q)) : TTw Z tl H Q := h _ _ g
theorem el_of {Z : Ad} {Q : VK} {H : Hp} {i : Nat} (hi : i < 3) (q : ∀ H', Same H H' → Q (.str (errWord i)) H') : ∀ H', Same H H' → ErrX Z Q (.ref (errAt Z i)) none H' := fun H' s => ⟨i, by omega, rfl, by unfold ErrSt; rw [if_pos hi], fun H'' s2 => q H'' (s.trans s2)⟩
abbrev spCostW (Z : Ad) : Sp := fun vs H Q E => spCost Z vs H Q E ∨ spCostE Z vs H Q E
abbrev spWrongW (Z : Ad) : Sp := fun vs H Q E => spWrong Z vs H Q E ∨ spWrongE Z vs H Q E
abbrev spManyW (Z : Ad) : Sp := fun vs H Q E => spMany Z vs H Q E ∨ spManyE Z vs H Q E
/-- the word of cost -/
def wC (n : Nat) (b p : V) : Str := if numV 1 n b = true then (if numV 0 n p = true ∧ p ≠ b then "let" else "place") else "block"
section
variable {Z : Ad} {H : Hp} {Q : VK} {x y : Addr} {n : Nat} {us : List (Option Nat)} {ls : List (List (Option Bool))} {hs : List Nat} {b p : V}
theorem wp_cost (hw : WordsAt Z H x n us ls) (ok : WdOk n us ls) (kb : Kv Z H b) (kp : Kv Z H p) (q : ∀ H', Same H H' → Q (.str (wC n b p)) H') : spCostW Z [.ref x, b, p] H (QL Q) (ErrX Z Q) := by
  unfold wC at q
  cases e : numV 1 n b with
  | false =>
    rw [e, if_neg Bool.false_ne_true] at q
    exact .inr ⟨x, n, b, p, us, ls, rfl, hw, ok, kb, kp, .inl ⟨e, el_of (i := 0) (by decide) q⟩⟩
  | true =>
    rw [e, if_pos rfl] at q
    by_cases c : numV 0 n p = true ∧ p ≠ b
    · rw [if_pos c] at q
      obtain ⟨c1, c2⟩ := c
      obtain ⟨i, rfl, i1, i2⟩ := numV_at (lo := 1) e
      obtain ⟨j, rfl, j1, j2⟩ := numV_at (lo := 0) c1
      exact .inl ⟨x, n, i, j, us, ls, rfl, hw, ok, i1, i2, j2, fun z => c2 (by rw [z]), q⟩
    · rw [if_neg c] at q
      refine .inr ⟨x, n, b, p, us, ls, rfl, hw, ok, kb, kp, .inr ⟨e, fun c1 => ?_, el_of (i := 1) (by decide) q⟩⟩
      exact Classical.byContradiction fun c2 => c ⟨c1, c2⟩
theorem wp_wrong (hw : WordsAt Z H x n us ls) (ok : WdOk n us ls) (ht : TreeAt Z H y hs) (it : IsTree hs) (q : ∀ H', Same H H' → Q (.str (if hs.length = n then "let" else "others")) H') : spWrongW Z [.ref x, .ref y] H (QL Q) (ErrX Z Q) := by
  by_cases c : hs.length = n
  · rw [if_pos c] at q
    exact .inl ⟨x, y, n, us, ls, hs, rfl, hw, ok, ht, it, c, q⟩
  · rw [if_neg c] at q
    exact .inr ⟨x, y, n, us, ls, hs, rfl, hw, ht, c, el_of (i := 2) (by decide) q⟩
theorem wp_many (hw : WordsAt Z H x n us ls) (ok : WdOk n us ls) (hn : 10 < n ∨ n < 6) (q : ∀ H', Same H H' → Q (.str (if 10 < n then "many" else "let")) H') : spManyW Z [.ref x] H (QL Q) (ErrX Z Q) := by
  by_cases c : 10 < n
  · rw [if_pos c] at q
    exact .inr ⟨x, n, us, ls, rfl, hw, c, fun e H' s he => ⟨3, by decide, rfl, ⟨e, rfl, he⟩, fun H'' s2 => q H'' (s.trans s2)⟩⟩
  · rw [if_neg c] at q
    exact .inl ⟨x, n, us, ls, rfl, hw, ok, by omega, fun _ => q⟩
end
/-! what is known stays so where only tables and the pool change -/
def BuN (p : Addr) (H H' : Hp) : Prop := ∀ b o, b ≠ p → H b = some o → (∀ ps, o ≠ .tbl ps) → H' b = some o
theorem BuN.of {p : Addr} {H H' : Hp} (b : But p H H') : BuN p H H' := fun a o n e _ => b a o n e
theorem BuN.ext {p : Addr} {H H' : Hp} (b : ExtN H H') : BuN p H H' := fun a o _ e t => b a o e t
theorem PoolAt.ext {H H' : Hp} {p : Addr} (e : ExtN H H') (h : PoolAt H p (fun _ => False)) : PoolAt H' p (fun _ => False) := by
  obtain ⟨⟨g, gs, i, c, m, n, h1, h2, r⟩, _⟩ := h
  exact ⟨⟨g, gs, i, c, m, n, e _ _ h1 (fun _ z => by cases z), e _ _ h2 (fun _ z => by cases z), r⟩, fun a ha => ha.elim⟩
theorem Tabs.pool {H H' : Hp} {T : List (Addr × Str)} {p : Addr} {F : Addr → Prop} (hp : PoolAt H p F) (b : But p H H') (t : Tabs T H) : Tabs T H' := fun q hq => by
  obtain ⟨ls, el⟩ := hp.lst
  obtain ⟨ps, h1, h2, h3⟩ := t q hq
  refine ⟨ps, b _ _ (fun z => by rw [z, el] at h1; cases h1) h1, h2, fun pos cv hc => ?_⟩
  obtain ⟨c, e1, e2⟩ := h3 pos cv hc
  exact ⟨c, e1, b _ _ (fun z => by rw [z, el] at e2; unfold CodeO at e2; cases e2) e2⟩
theorem PoolAt.ne_of {H : Hp} {p a : Addr} {F : Addr → Prop} {o : HO} (h : PoolAt H p F) (e : H a = some o) (n : ∀ xs, o ≠ .lst xs) : a ≠ p := fun z => by
  obtain ⟨ls, el⟩ := h.lst
  rw [z, el] at e
  exact n ls (Option.some.inj e).symm
section
variable {Z : Ad} {H H' : Hp} {p x : Addr} {F : Addr → Prop}
theorem bun_at {a : Addr} {o : HO} (hp : PoolAt H p F) (b : BuN p H H') (e : H a = some o) (n : ∀ xs, o ≠ .lst xs) (t : ∀ ps, o ≠ .tbl ps) : H' a = some o := b _ _ (hp.ne_of e n) e t
theorem Rows.bun {as : List Addr} {ls : List (List (Option Bool))} (hp : PoolAt H p F) (b : BuN p H H') (h : Rows H as ls) : Rows H' as ls := ⟨h.len, fun i a r ha hr => bun_at hp b (h.at_ i a r ha hr) (fun _ z => by cases z) (fun _ z => by cases z)⟩
theorem WordsAt.bun {n : Nat} {us : List (Option Nat)} {ls : List (List (Option Bool))} (hp : PoolAt H p F) (b : BuN p H H') (h : WordsAt Z H x n us ls) : WordsAt Z H' x n us ls := by
  obtain ⟨dx, fs, tu, tl, as, h1, h2, h3, h4, h5, h6, h7⟩ := h
  exact ⟨dx, fs, tu, tl, as, bun_at hp b h1 (fun _ z => by cases z) (fun _ z => by cases z), h2, h3, h4, bun_at hp b h5 (fun _ z => by cases z) (fun _ z => by cases z), bun_at hp b h6 (fun _ z => by cases z) (fun _ z => by cases z), h7.bun hp b⟩
theorem Kv.bun {v : V} (hp : PoolAt H p F) (hp' : PoolAt H' p F) (b : BuN p H H') (k : Kv Z H v) : Kv Z H' v := by
  cases v with
  | ref a =>
    rcases k with ⟨xs, h⟩ | ⟨xs, h⟩ | ⟨xs, h⟩ | ⟨dx, fs, h⟩
    · by_cases c : a = p
      · obtain ⟨ls, el⟩ := hp'.lst
        exact .inl ⟨ls, by rw [c]; exact el⟩
      · exact .inl ⟨xs, b _ _ c h (fun _ z => by cases z)⟩
    · exact .inr (.inl ⟨xs, bun_at hp b h (fun _ z => by cases z) (fun _ z => by cases z)⟩)
    · exact .inr (.inr (.inl ⟨xs, bun_at hp b h (fun _ z => by cases z) (fun _ z => by cases z)⟩))
    · exact .inr (.inr (.inr ⟨dx, fs, bun_at hp b h (fun _ z => by cases z) (fun _ z => by cases z)⟩))
  | _ => exact k
end
/-- what is known between the law's calls -/
structure StW (Z : Ad) (T : List (Addr × Str)) (p x tu tl : Addr) (n : Nat) (us : List (Option Nat)) (ls : List (List (Option Bool))) (G : Hp) : Prop where
  pp : PoolAt G p (fun _ => False)
  tb : Tabs T G
  wd : WordsAt Z G x n us ls
  eu : G tu = some (.tup (upvs us))
  el : ∃ as, G tl = some (.tup (refs as)) ∧ Rows G as ls
section
variable {Z : Ad} {T : List (Addr × Str)} {p x tu tl : Addr} {n : Nat} {us : List (Option Nat)} {ls : List (List (Option Bool))} {G G' : Hp}
theorem StW.step (s : StW Z T p x tu tl n us ls G) (b : BuN p G G') (pp : PoolAt G' p (fun _ => False)) (tb : Tabs T G') : StW Z T p x tu tl n us ls G' := by
  obtain ⟨as, e1, e2⟩ := s.el
  exact ⟨pp, tb, s.wd.bun s.pp b, bun_at s.pp b s.eu (fun _ z => by cases z) (fun _ z => by cases z), as, bun_at s.pp b e1 (fun _ z => by cases z) (fun _ z => by cases z), e2.bun s.pp b⟩
theorem StW.same (s : StW Z T p x tu tl n us ls G) (e : Same G G') : StW Z T p x tu tl n us ls G' := s.step (BuN.of (But.of e)) (s.pp.same e) (s.tb.ext e)
theorem StW.ext (s : StW Z T p x tu tl n us ls G) (e : ExtN G G') (tb : Tabs T G') : StW Z T p x tu tl n us ls G' := s.step (BuN.ext e) (s.pp.ext e) tb
theorem StW.pool (s : StW Z T p x tu tl n us ls G) (b : But p G G') (pp : PoolAt G' p (fun _ => False)) : StW Z T p x tu tl n us ls G' := s.step (BuN.of b) pp (Tabs.pool s.pp b s.tb)
end
set_option maxRecDepth 100000
set_option maxHeartbeats 4000000
open PySem PySem.Spec L2 LamX


section
variable {P : Program} {w : World} {K : PySem.W.Frag} {mg : Str → Option Value} {base : Heap} {Z : Ad}
theorem make_wordsR {H : Hp} {R : Addr → Hp → Prop} {E : XK} {tu tl : Addr} {n : Nat} {us : List (Option Nat)} {ls : List (List (Option Bool))} {as : List Addr} (hu : H tu = some (.tup (upvs us))) (hl : H tl = some (.tup (refs as))) (hr : Rows H as ls) (ok : WdOk n us ls) (q : ∀ m H', H m = none → Same H H' → WordsAt Z H' m n us ls → R m H') :
    ∀ x dx, H x = none → H dx = none → dx ≠ x → spWords Z (.ref x :: ([.int n, .ref tu, .ref tl] ++ [])) (upd (upd H dx (.own x)) x (.ins Z.a_Words dx [])) (fun v H2 => v = .non ∧ R x H2) E := by
  intro m dm hm hdm ne
  have hm2 : upd H dm (.own m) m = none := by
    rw [upd_ne (Ne.symm ne)]
    exact hm
  have s0 : Same H (upd (upd H dm (.own m)) m (.ins Z.a_Words dm [])) := same_new (same_new (Same.refl H) hdm) hm2
  refine ⟨m, dm, tu, tl, n, us, ls, as, rfl, upd_same, s0 _ _ hu, s0 _ _ hl, hr.same s0, ok, fun H' b1 hw => ⟨rfl, ?_⟩⟩
  have s1 : Same H H' := fun b o e => b1 _ _ (ne_of_none e hm) (s0 _ _ e)
  exact q m H' hm s1 hw
theorem make_treeR {H : Hp} {R : Addr → Hp → Prop} {a : Addr} {hs : List Nat} (t : IsTree hs) (ha : H a = some (.tup (nats hs))) (q : ∀ m H', H m = none → Same H H' → TreeAt Z H' m hs → R m H') :
    ∀ x dx, H x = none → H dx = none → dx ≠ x → spTree Z (.ref x :: ([.ref a] ++ [])) (upd (upd H dx (.own x)) x (.ins Z.a_Tree dx [])) (fun v H2 => v = .non ∧ R x H2) (fun _ _ _ => False) := by
  intro m dm hm hdm ne
  exact make_tree (Q := fun v H2 => ∃ y, v = .ref y ∧ R y H2) t ha (fun m H' h1 h2 h3 => ⟨m, rfl, q m H' h1 h2 h3⟩) m dm hm hdm ne |> fun z => by
    obtain ⟨x, dx, h, e, k1, k2, k3, k4⟩ := z
    refine ⟨x, dx, h, e, k1, k2, fun H' hd b1 hm1 => ?_, k4⟩
    obtain ⟨e1, y, e2, e3⟩ := k3 H' hd b1 hm1
    cases e2
    exact ⟨e1, e3⟩
theorem tree_ext {H H' : Hp} {x : Addr} {hs : List Nat} (e : ExtN H H') (t : TreeAt Z H x hs) : TreeAt Z H' x hs := by
  obtain ⟨dx, u, h1, h2⟩ := t
  exact ⟨dx, u, e _ _ h1 (fun _ z => by cases z), e _ _ h2 (fun _ z => by cases z)⟩
def spLawT (K : PySem.W.Frag) (T : List (Addr × Str)) : Sp := fun vs H Q _ => ∃ (a : Addr) (ns : List Int), vs = [.ref a] ∧ SqL K H a (ns.map V.int) ∧ ns.length ≤ 63 ∧ Tabs T H ∧ ∀ H', Q (.bl true) H'
theorem ok_law31 {T : List (Addr × Str)} {f c PT : Addr} {fd : FuncData} (F : FunC K "law" s_law f fd c) (B : Bl Z mg) (Tc : Cls K Z.a_Tree) (N : NoAttr K Z.a_Tree "hung") (W : WCls K Z) (EK : (∀ i, i < 4 → ErrK K Z i) ∧ XfC K Z.a_TooMany ∧ PySem.W.findIn K (.ref Z.a_TooMany) "most" = some none) (TB : TabB base mg c PT)
    (inT : (PT, (PyProof.Rows.envOfC "law" (defScope s_law) 0 f (.ref c)).qual ++ "<lambda>") ∈ T) (uni : ∀ q ∈ T, q.1 = PT → q.2 = (PyProof.Rows.envOfC "law" (defScope s_law) 0 f (.ref c)).qual ++ "<lambda>")
    {f_w : Addr} {fd_w : FuncData} (Fw : Fun K "_law_word" "_law_word" s__law_word f_w fd_w) (C__law_word : Cal K mg "_law_word" f_w fd_w ["_law_call"])
    {f__law_hand : Addr} {fd__law_hand : FuncData} (C__law_hand : Cal K mg "_law_hand" f__law_hand fd__law_hand ["_law_script"]) (G__law_hand : FnOk P w K mg base CX0 1 f__law_hand fd__law_hand ["_law_script"] (spPool K)) {f__law_draw : Addr} {fd__law_draw : FuncData} (C__law_draw : Cal K mg "_law_draw" f__law_draw fd__law_draw ["_law_hand_here", "_law_many"]) (G__law_draw : FnOk P w K mg base CX0 1 f__law_draw fd__law_draw ["_law_hand_here", "_law_many"] spDraw)
    {f__law_drawn : Addr} {fd__law_drawn : FuncData} (C__law_drawn : Cal K mg "_law_drawn" f__law_drawn fd__law_drawn ["_law_hand_here", "_law_most"]) (G__law_drawn : FnOk P w K mg base CX0 3 f__law_drawn fd__law_drawn ["_law_hand_here", "_law_most"] spDrawnW)
    {f__law_odd : Addr} {fd__law_odd : FuncData} (C__law_odd : Cal K mg "_law_odd" f__law_odd fd__law_odd ["_law_hand_here", "_law_blocks", "_law_words"]) (G__law_odd : FnOk P w K mg base CX0 3 f__law_odd fd__law_odd ["_law_hand_here", "_law_blocks", "_law_words"] (spOddV Z))
    {f__law_is_whole : Addr} {fd__law_is_whole : FuncData} (C__law_is_whole : Cal K mg "_law_is_whole" f__law_is_whole fd__law_is_whole ["_law_thing", "_law_least", "_law_most"]) (G__law_is_whole : FnOk P w K mg base CX0 1 f__law_is_whole fd__law_is_whole ["_law_thing", "_law_least", "_law_most"] (spWholeK Z))
    {f__law_tree : Addr} {fd__law_tree : FuncData} (C__law_tree : Cal K mg "_law_tree" f__law_tree fd__law_tree ["_law_hand_here", "_law_blocks"]) (G__law_tree : FnOk P w K mg base CX0 2 f__law_tree fd__law_tree ["_law_hand_here", "_law_blocks"] spHung)
    {f__law_is : Addr} {fd__law_is : FuncData} (C__law_is : Cal K mg "_law_is" f__law_is fd__law_is ["_law_told", "_law_due"]) (G__law_is : FnOk P w K mg base CX0 5 f__law_is fd__law_is ["_law_told", "_law_due"] (spIsC 3))
    {f_cost : Addr} {fd_cost : FuncData} (C_cost : Cal K mg "cost" f_cost fd_cost ["words", "block", "place"]) (G_cost : FnOk P w K mg base (L2.CX P w) 2 f_cost fd_cost ["words", "block", "place"] (spCostW Z))
    {f_wrong_words : Addr} {fd_wrong_words : FuncData} (C_wrong_words : Cal K mg "wrong_words" f_wrong_words fd_wrong_words ["words", "tree"]) (G_wrong_words : FnOk P w K mg base (L2.CX P w) 3 f_wrong_words fd_wrong_words ["words", "tree"] (spWrongW Z))
    {f_many_by_wrong : Addr} {fd_many_by_wrong : FuncData} (C_many_by_wrong : Cal K mg "many_by_wrong" f_many_by_wrong fd_many_by_wrong ["words"]) (G_many_by_wrong : FnOk P w K mg base (L2.CX P w) 4 f_many_by_wrong fd_many_by_wrong ["words"] (spManyW Z))
    {f_Words___init__ : Addr} {fd_Words___init__ : FuncData} (C_Words___init__ : CalM K f_Words___init__ fd_Words___init__ ["self", "blocks", "ups", "lists"]) (G_Words___init__ : FnOk P w K mg base CX0 3 f_Words___init__ fd_Words___init__ ["self", "blocks", "ups", "lists"] (spWords Z)) (M_Words : Mk K Z.a_Words f_Words___init__)
    {f_Tree___init__ : Addr} {fd_Tree___init__ : FuncData} (C_Tree___init__ : CalM K f_Tree___init__ fd_Tree___init__ ["self", "hung"]) (G_Tree___init__ : FnOk P w K mg base (L2.CX P w) 3 f_Tree___init__ fd_Tree___init__ ["self", "hung"] (spTree Z)) (M_Tree : Mk K Z.a_Tree f_Tree___init__) : FnOk P w K mg base CX0 12 f fd ["_law_script"] (spLawT K T) := by
  obtain ⟨oc, od, kV, doc, pm, an, cdv, ct, osl, rfl, LW, CW⟩ := Fw.ex
  refine F.ok sc_law (fun vs H Q E h => ?_) (fun A outer s H vs Q E hr h => ?_)
  · obtain ⟨a, ns, rfl, _⟩ := h
    rfl
  · obtain ⟨a, ns, rfl, hS, hl, tb, q⟩ := h
    refine ⟨_, (pss_cons (ps_set (i := 1) sc_law.nd rfl (Or.inl rfl) (pe_call G__law_hand (hr.mono (by first | decide | omega)) (by rfl) C__law_hand.g C__law_hand.k C__law_hand.b .nil pass0 (pa_cons (pv 0) pa_nil)))
 (pss_cons (ps_for PassesOwn.never rfl (pi_range1 rfl B.b_range (pa_cons pe_int pa_nil)) (pg_name (i := 2) sc_law.nd rfl (Or.inl rfl)) (pss_cons (ps_asg (pe_call G__law_drawn (hr.mono (by first | decide | omega)) (by rfl) C__law_drawn.g C__law_drawn.k C__law_drawn.b .nil pass0 (pa_cons (pv 1) (pa_cons pe_int pa_nil))) (pg_tup rfl (pgs_cons (pg_name (i := 3) sc_law.nd rfl (Or.inl rfl)) (pgs_cons (pg_name (i := 4) sc_law.nd rfl (Or.inl rfl)) pgs_nil))))
 (pss_cons (ps_set (i := 5) sc_law.nd rfl (Or.inl rfl) (pe_callB (call_lenK (K := K) rfl) (by rfl) B.b_len PySem.boot_len (pa_cons (pv 3) pa_nil)))
 (pss_cons (ps_set (i := 6) sc_law.nd rfl (Or.inr rfl) (pe_make M_Words G_Words___init__ (hr.mono (by first | decide | omega)) (by rfl) B.k_Words C_Words___init__.b .nil pass0 (pa_cons (pv 5) (pa_cons (pv 3) (pa_cons (pv 4) pa_nil)))))
 (pss_cons (ps_for PassesOwn.never rfl (pi_range1 rfl B.b_range (pa_cons pe_int pa_nil)) (pg_name (i := 7) sc_law.nd rfl (Or.inl rfl)) (pss_cons (ps_asg (pe_tup (pa_cons (pe_call G__law_odd (hr.mono (by first | decide | omega)) (by rfl) C__law_odd.g C__law_odd.k C__law_odd.b .nil pass0 (pa_cons (pv 1) (pa_cons (pv 5) (pa_cons (pv 6) pa_nil)))) (pa_cons (pe_call G__law_odd (hr.mono (by first | decide | omega)) (by rfl) C__law_odd.g C__law_odd.k C__law_odd.b .nil pass0 (pa_cons (pv 1) (pa_cons (pv 5) (pa_cons (pv 6) pa_nil)))) pa_nil))) (pg_tup rfl (pgs_cons (pg_name (i := 8) sc_law.nd rfl (Or.inr rfl)) (pgs_cons (pg_name (i := 9) sc_law.nd rfl (Or.inr rfl)) pgs_nil))))
 (C8.pss_cut (ps_if (pt_cmpR op_eq (pe_call G__law_draw (hr.mono (by first | decide | omega)) (by rfl) C__law_draw.g C__law_draw.k C__law_draw.b .nil pass0 (pa_cons (pv 1) (pa_cons pe_int pa_nil))) pe_int (nomark _)) (pss_one (ps_set (i := 8) sc_law.nd rfl (Or.inr rfl) (pe_op op_add pe_int (pe_call G__law_draw (hr.mono (by first | decide | omega)) (by rfl) C__law_draw.g C__law_draw.k C__law_draw.b .nil pass0 (pa_cons (pv 1) (pa_cons (pv 5) pa_nil)))))) pss_nil)
 (C8.pss_cut (ps_if (pt_cmpR op_eq (pe_call G__law_draw (hr.mono (by first | decide | omega)) (by rfl) C__law_draw.g C__law_draw.k C__law_draw.b .nil pass0 (pa_cons (pv 1) (pa_cons pe_int pa_nil))) pe_int (nomark _)) (pss_one (ps_set (i := 9) sc_law.nd rfl (Or.inr rfl) (pe_ix (ix_listK (K := K) rfl) (pe_lst (pa_cons (pv 8) (pa_cons (pe_call G__law_draw (hr.mono (by first | decide | omega)) (by rfl) C__law_draw.g C__law_draw.k C__law_draw.b .nil pass0 (pa_cons (pv 1) (pa_cons (pe_op op_add (pv 5) pe_int) pa_nil))) pa_nil))) (pe_call G__law_draw (hr.mono (by first | decide | omega)) (by rfl) C__law_draw.g C__law_draw.k C__law_draw.b .nil pass0 (pa_cons (pv 1) (pa_cons pe_int pa_nil))) (fun _ _ => rfl)))) pss_nil)
 (pss_cons (ps_set (i := 10) sc_law.nd rfl (Or.inl rfl) pe_str)
 (C8.pss_cut (ps_if (pt_val (pe_call G__law_is_whole (hr.mono (by first | decide | omega)) (by rfl) C__law_is_whole.g C__law_is_whole.k C__law_is_whole.b .nil pass0 (pa_cons (pv 8) (pa_cons pe_int (pa_cons (pv 5) pa_nil))))) (pss_one (ps_set (i := 10) sc_law.nd rfl (Or.inl rfl) (pe_ifExp (PW.pt (pw_and (pt_val (pe_call G__law_is_whole (hr.mono (by first | decide | omega)) (by rfl) C__law_is_whole.g C__law_is_whole.k C__law_is_whole.b .nil pass0 (pa_cons (pv 9) (pa_cons pe_int (pa_cons (pv 5) pa_nil))))) (pw_and1 (pt_cmpR op_ne (pv 9) (pv 8) (nomark _))))) pe_str pe_str))) pss_nil)
 (pss_one (ps_if (pt_cmpR op_ne (LamX.pe_lamcall (T := T) (TT := TTw Z) (k := 7) (by rfl) C__law_word.g C__law_word.k LW CW C__law_word.b sc__law_word rfl (Or.inl rfl) (word_gives rfl B EK) TB rfl inT uni (hr.mono (by first | decide | omega)) (LamX.lamS_by (sc := defScope s_law) (by decide +kernel)) rfl (fun _ _ _ _ _ => rfl) (fun _ _ _ _ E2 _ _ hr2 => (pe_call (E := E2) G_cost (hr2.mono (by first | decide | omega)) (by rfl) C_cost.g C_cost.k C_cost.b .nil passLam (pa_cons (pv 6) (pa_cons (pv 8) (pa_cons (pv 9) pa_nil)))))) (pv 10) (nomark _)) (pss_one (ps_ret pe_bl)) pss_nil))))))))
 (pss_cons (ps_set (i := 11) sc_law.nd rfl (Or.inl rfl) (pe_op op_add pe_int (pe_call G__law_draw (hr.mono (by first | decide | omega)) (by rfl) C__law_draw.g C__law_draw.k C__law_draw.b .nil pass0 (pa_cons (pv 1) (pa_cons pe_int pa_nil)))))
 (C8.pss_cut (ps_if (pt_cmpR op_eq (pe_call G__law_draw (hr.mono (by first | decide | omega)) (by rfl) C__law_draw.g C__law_draw.k C__law_draw.b .nil pass0 (pa_cons (pv 1) (pa_cons pe_int pa_nil))) pe_int (nomark _)) (pss_one (ps_set (i := 11) sc_law.nd rfl (Or.inl rfl) (pv 5))) pss_nil)
 (pss_cons (ps_set (i := 12) sc_law.nd rfl (Or.inr rfl) (pe_make M_Tree G_Tree___init__ (hr.mono (by first | decide | omega)) (by rfl) B.k_Tree C_Tree___init__.b .nil passE (pa_cons (pe_call G__law_tree (hr.mono (by first | decide | omega)) (by rfl) C__law_tree.g C__law_tree.k C__law_tree.b .nil pass0 (pa_cons (pv 1) (pa_cons (pv 11) pa_nil))) pa_nil)))
 (C8.pss_cut (ps_if (pt_cmpR op_ne (LamX.pe_lamcall (T := T) (TT := TTw Z) (k := 7) (by rfl) C__law_word.g C__law_word.k LW CW C__law_word.b sc__law_word rfl (Or.inl rfl) (word_gives rfl B EK) TB rfl inT uni (hr.mono (by first | decide | omega)) (LamX.lamS_by (sc := defScope s_law) (by decide +kernel)) rfl (fun _ _ _ _ _ => rfl) (fun _ _ _ _ E2 _ _ hr2 => (pe_call (E := E2) G_wrong_words (hr2.mono (by first | decide | omega)) (by rfl) C_wrong_words.g C_wrong_words.k C_wrong_words.b .nil passLam (pa_cons (pv 6) (pa_cons (pv 12) pa_nil))))) (pe_ifExp (pt_cmpR op_eq (pv 11) (pv 5) (nomark _)) pe_str pe_str) (nomark _)) (pss_one (ps_ret pe_bl)) pss_nil)
 (C8.pss_cut (ps_if (PW.pt (pw_or (pt_cmpR op_gt (pv 5) pe_int (nomark _)) (pw_or1 (pt_cmpR op_lt (pv 5) pe_int (nomark _))))) (pss_one (ps_if (pt_cmpR op_ne (LamX.pe_lamcall (T := T) (TT := TTw Z) (k := 7) (by rfl) C__law_word.g C__law_word.k LW CW C__law_word.b sc__law_word rfl (Or.inl rfl) (word_gives rfl B EK) TB rfl inT uni (hr.mono (by first | decide | omega)) (LamX.lamS_by (sc := defScope s_law) (by decide +kernel)) rfl (fun _ _ _ _ _ => rfl) (fun _ _ _ _ E2 _ _ hr2 => (pe_call (E := E2) G_many_by_wrong (hr2.mono (by first | decide | omega)) (by rfl) C_many_by_wrong.g C_many_by_wrong.k C_many_by_wrong.b .nil passLam (pa_cons (pv 6) pa_nil)))) (pe_ifExp (pt_cmpR op_gt (pv 5) pe_int (nomark _)) pe_str pe_str) (nomark _)) (pss_one (ps_ret pe_bl)) pss_nil)) pss_nil)
 (pss_one (ps_if (pt_not (pt_val (pe_call G__law_is (hr.mono (by first | decide | omega)) (by rfl) C__law_is.g C__law_is.k C__law_is.b .nil pass0 (pa_cons (pe_lst (pa_cons (pe_fldK (K := K) rfl (pv 6) rfl) (pa_cons (pe_fldK (K := K) rfl (pv 6) rfl) pa_nil))) (pa_cons (pe_lst (pa_cons (pv 3) (pa_cons (pv 4) pa_nil))) pa_nil))))) (pss_one (ps_ret pe_bl)) pss_nil))))))))))))
 (pss_one (ps_ret pe_bl)))), ?_⟩
    walk_at "h0"
    refine ⟨a, ns, rfl, hS, hl, fun p H1 b1 np hp1 => ?_⟩
    walk_at "hs"
    refine ⟨3, rfl, by decide, by decide, ?_⟩
    refine lp_range (lo := 0) (n := Int.toNat 3) (fun i σ' H' => (∃ x2 x3 x4 x5 x6 x7 x8 x9 x10 x11 x12, σ' = [some (.ref a), some (.ref p), x2, x3, x4, x5, x6, x7, x8, x9, x10, x11, x12]) ∧ PoolAt H' p (fun _ => False) ∧ Tabs T H')
      ⟨⟨_, _, _, _, _, _, _, _, _, _, _, rfl⟩, hp1, tb.ext b1⟩ ?_ ?_
    · rintro i σ' H2 hi ⟨⟨x2, x3, x4, x5, x6, x7, x8, x9, x10, x11, x12, rfl⟩, pp, tb⟩
      walk_at "hs"
      refine ⟨p, 12, _, rfl, pp, by decide, by decide, fun n m us ls H3 ok b3 p3 told => ?_⟩
      obtain ⟨tu, tl, as, e1, e2, e3, e4⟩ := told
      have tb3 := Tabs.pool pp b3 tb
      have n40 := ok.n2
      have n1 := ok.n1
      clear pp tb b3
      refine x_gtup (.of e1) rfl ?_
      have sU : SqT K H3 tu (upvs us) := .of e2
      walk_at "hs"
      rw [upvs_length, ok.ul]
      walk_at "hs"
      refine x_make ?_
      walk_at "hs"
      refine make_wordsR e2 e3 e4 ok fun x H4 nx s4 wd => ?_
      have st : StW Z T p x tu tl n us ls H4 := ⟨p3.same s4, tb3.ext s4, wd, s4 _ _ e2, as, s4 _ _ e3, e4.same s4⟩
      clear p3 tb3 wd nx s4 sU e1 e2 e3 e4
      walk_at "hs"
      refine ⟨6, rfl, by decide, by decide, ?_⟩
      refine lp_range (lo := 0) (n := Int.toNat 6) (fun j σ' G => (∃ x7 x8 x9 x10, σ' = [some (.ref a), some (.ref p), some (.int (0 + (i : Int))), some (.ref tu), some (.ref tl), some (.int n), some (.ref x), x7, x8, x9, x10, x11, x12]) ∧ StW Z T p x tu tl n us ls G)
        ⟨⟨_, _, _, _, rfl⟩, st⟩ ?_ ?_
      · clear st
        rintro j σ' G hj ⟨⟨x7, x8, x9, x10, rfl⟩, st⟩
        walk_at "hs"
        have ins : ∀ {G : Hp}, WordsAt Z G x n us ls → ∃ dx fs, G x = some (.ins Z.a_Words dx fs) := fun {G} h => by
          obtain ⟨dx, fs, _, _, _, h, _⟩ := h
          exact ⟨dx, fs, h⟩
        refine ⟨p, x, n, _, rfl, st.pp, ins st.wd, n40, fun b G1 kb b1 p1 => ?_⟩
        have st1 := st.pool b1 p1
        walk_at "hs"
        refine ⟨p, x, n, _, rfl, st1.pp, ins st1.wd, n40, fun pl G2 kp b2 p2 => ?_⟩
        have st2 := st1.pool b2 p2
        have kb2 := kb.bun st1.pp p2 (BuN.of b2)
        clear st1 kb b2 p2 b1 p1 st
        walk_at "hs"
        intro A1 nA1
        have s3 : Same G2 (upd G2 A1 (.tup [b, pl])) := same_new (Same.refl _) nA1
        have eA1 : upd G2 A1 (.tup [b, pl]) A1 = some (.tup [b, pl]) := upd_same
        generalize upd G2 A1 (.tup [b, pl]) = G3 at s3 eA1 ⊢
        refine x_gtup (.of eA1) rfl ?_
        have st3 := st2.same s3
        have kb3 := kb2.same s3
        have kp3 := kp.same s3
        clear st2 kb2 kp s3 eA1 nA1
        walk_at "hs"
        refine ⟨fun σ' G => ∃ b pl, σ' = [some (.ref a), some (.ref p), some (.int (0 + (i : Int))), some (.ref tu), some (.ref tl), some (.int n), some (.ref x), some (.int (0 + (j : Int))), some b, some pl, x10, x11, x12] ∧ StW Z T p x tu tl n us ls G ∧ Kv Z G b ∧ Kv Z G pl, ?_, ?_⟩
        · walk_at "hs"
          refine ⟨p, 3, _, rfl, st3.pp, by decide, by decide, fun d G4 d0 d1 b4 p4 => ?_⟩
          have st4 := st3.pool b4 p4
          have kb4 := kb3.bun st3.pp p4 (BuN.of b4)
          have kp4 := kp3.bun st3.pp p4 (BuN.of b4)
          clear st3 kb3 kp3 b4 p4
          walk_at "hs"
          refine x_isd (fun c => ?_) (fun c => ?_)
          · walk_at "hs"
            refine ⟨p, n, _, rfl, st4.pp, by omega, by omega, fun d G5 d0 d1 b5 p5 => ?_⟩
            have st5 := st4.pool b5 p5
            have kp5 := kp4.bun st4.pp p5 (BuN.of b5)
            walk_at "hs"
            exact ⟨_, _, rfl, st5, True.intro, kp5⟩
          · walk_at "hs"
            exact ⟨_, _, rfl, st4, kb4, kp4⟩
        clear st3 kb3 kp3
        rintro σ' G4 ⟨b, pl, rfl, st4, kb4, kp4⟩
        refine ⟨fun σ' G => ∃ pl, σ' = [some (.ref a), some (.ref p), some (.int (0 + (i : Int))), some (.ref tu), some (.ref tl), some (.int n), some (.ref x), some (.int (0 + (j : Int))), some b, some pl, x10, x11, x12] ∧ StW Z T p x tu tl n us ls G ∧ Kv Z G b ∧ Kv Z G pl, ?_, ?_⟩
        · walk_at "hs"
          refine ⟨p, 3, _, rfl, st4.pp, by decide, by decide, fun d G5 d0 d1 b5 p5 => ?_⟩
          have st5 := st4.pool b5 p5
          have kb5 := kb4.bun st4.pp p5 (BuN.of b5)
          have kp5 := kp4.bun st4.pp p5 (BuN.of b5)
          clear st4 kb4 kp4 b5 p5
          walk_at "hs"
          refine x_isd (fun c => ?_) (fun c => ?_)
          · walk_at "hs"
            refine ⟨p, (n : Int) + 1, _, rfl, st5.pp, by omega, by omega, fun d2 G6 e0 e1 b6 p6 => ?_⟩
            have st6 := st5.pool b6 p6
            have kb6 := kb5.bun st5.pp p6 (BuN.of b6)
            clear st5 kb5 kp5 b6 p6
            walk_at "hs"
            intro L nL
            have s7 : Same G6 (upd G6 L (.lst [b, .int d2])) := same_new (Same.refl _) nL
            have eL : upd G6 L (.lst [b, .int d2]) L = some (.lst [b, .int d2]) := upd_same
            generalize upd G6 L (.lst [b, .int d2]) = G7 at s7 eL ⊢
            have st7 := st6.same s7
            have kb7 := kb6.same s7
            have nLp := st6.pp.ne nL
            clear st6 kb6 nL s7
            walk_at "hs"
            refine ⟨p, 2, _, rfl, st7.pp, by decide, by decide, fun d3 G8 f0 f1 b8 p8 => ?_⟩
            have st8 := st7.pool b8 p8
            have kb8 := kb7.bun st7.pp p8 (BuN.of b8)
            have sL : SqL K G8 L [b, .int d2] := .of (b8 _ _ nLp eL)
            obtain ⟨y, hv, hm⟩ := at_lt (xs := [b, .int d2]) f0 f1
            walk_at "hs"
            refine ⟨y, rfl, st8, kb8, ?_⟩
            simp only [List.mem_cons, List.not_mem_nil, or_false] at hm
            rcases hm with rfl | rfl
            · exact kb8
            · exact True.intro
          · walk_at "hs"
            exact ⟨_, rfl, st5, kb5, kp5⟩
        clear st4 kb4 kp4
        rintro σ' G5 ⟨pl, rfl, st5, kb5, kp5⟩
        walk_at "hs"
        refine ⟨fun σ' G => σ' = [some (.ref a), some (.ref p), some (.int (0 + (i : Int))), some (.ref tu), some (.ref tl), some (.int n), some (.ref x), some (.int (0 + (j : Int))), some b, some pl, some (.str (wC n b pl)), x11, x12] ∧ G = G5, ?_, ?_⟩
        · walk_at "hs"
          refine ⟨b, 1, n, rfl, kb5, ?_⟩
          unfold wC
          cases eb : numV 1 n b with
          | false =>
            walk_at "hs"
            exact ⟨rfl, rfl⟩
          | true =>
            walk_at "hs"
            refine ⟨pl, 0, n, rfl, kp5, ?_⟩
            cases ep : numV 0 n pl with
            | false =>
              walk_at "hs"
              exact ⟨by rw [if_pos rfl, if_neg (fun z => Bool.false_ne_true z.1)]; rfl, rfl⟩
            | true =>
              obtain ⟨i1, rfl, _, _⟩ := numV_at (lo := 1) eb
              obtain ⟨j1, rfl, _, _⟩ := numV_at (lo := 0) ep
              walk_at "hs"
              refine x_isd (fun c => ?_) (fun c => ?_)
              · walk_at "hs"
                exact ⟨by rw [if_pos rfl, if_pos ⟨rfl, fun z => c (V.int.inj z)⟩]; rfl, rfl⟩
              · walk_at "hs"
                exact ⟨by rw [if_pos rfl, if_neg (fun z => c fun e => z.2 (by rw [e]))]; rfl, rfl⟩
        rintro σ' G ⟨rfl, rfl⟩
        have e1 : ∃ D : Str, D = wC n b pl := ⟨_, rfl⟩
        obtain ⟨D, e1⟩ := e1
        rw [← e1]
        walk_at "hs"
        refine x_lam st5.tb fun J1 eN T1 => ?_
        have st6 := st5.ext eN T1
        have kb6 := kb5.bun st5.pp st6.pp (BuN.ext eN)
        have kp6 := kp5.bun st5.pp st6.pp (BuN.ext eN)
        clear st5 kb5 kp5 eN T1
        refine tw (sp := spCostW Z) (vs := [.ref x, b, pl]) (fun Q' E' h => by (try dsimp only); walk_at "hs"; exact h) (wp_cost st6.wd ok kb6 kp6 fun J2 s2 => ?_)
        rw [← e1]
        walk_at "hs"
        refine x_isnd (fun c => (c rfl).elim) (fun _ => ?_)
        walk_at "hs"
        exact ⟨⟨_, _, _, _, rfl⟩, st6.same s2⟩
      · rintro σ' G ⟨⟨x7, x8, x9, x10, rfl⟩, st⟩
        walk_at "hs"
        refine ⟨p, 12, _, rfl, st.pp, by decide, by decide, fun d G1 d0 d1 b1 p1 => ?_⟩
        have st1 := st.pool b1 p1
        clear st b1 p1
        walk_at "hs"
        refine ⟨fun σ' G => ∃ k : Nat, 1 ≤ k ∧ k ≤ 40 ∧ σ' = [some (.ref a), some (.ref p), some (.int (0 + (i : Int))), some (.ref tu), some (.ref tl), some (.int n), some (.ref x), x7, x8, x9, x10, some (.int k), x12] ∧ StW Z T p x tu tl n us ls G, ?_, ?_⟩
        · walk_at "hs"
          refine ⟨p, 2, _, rfl, st1.pp, by decide, by decide, fun d2 G2 e0 e1 b2 p2 => ?_⟩
          have st2 := st1.pool b2 p2
          clear st1 b2 p2
          walk_at "hs"
          refine x_isd (fun c => ?_) (fun c => ?_)
          · walk_at "hs"
            exact ⟨n, n1, n40, rfl, st2⟩
          · walk_at "hs"
            refine ⟨(1 + d).toNat, by omega, by omega, ?_, st2⟩
            rw [show (((1 + d).toNat : Nat) : Int) = 1 + d by omega]
            rfl
        clear st1 d0 d1
        rintro σ' G2 ⟨k, k1, k40, rfl, st2⟩
        walk_at "hs"
        refine x_make ?_
        walk_at "hs"
        refine ⟨p, k, _, rfl, st2.pp, k1, k40, fun D hs G3 it hl b3 p3 nD eD => ?_⟩
        have st3 := st2.pool b3 p3
        clear st2 b3 p3 nD
        walk_at "hs"
        refine make_treeR it eD fun y G4 ny s4 tr => ?_
        have st4 := st3.same s4
        clear st3 s4 ny eD
        walk_at "hs"
        refine ⟨fun σ' G => σ' = [some (.ref a), some (.ref p), some (.int (0 + (i : Int))), some (.ref tu), some (.ref tl), some (.int n), some (.ref x), x7, x8, x9, x10, some (.int k), some (.ref y)] ∧ StW Z T p x tu tl n us ls G, ?_, ?_⟩
        · walk_at "hs"
          refine x_lam st4.tb fun J1 eN T1 => ?_
          have st5 := st4.ext eN T1
          have tr5 := tree_ext eN tr
          clear st4 tr eN T1
          refine tw (sp := spWrongW Z) (vs := [.ref x, .ref y]) (fun Q' E' h => by (try dsimp only); walk_at "hs"; exact h) (wp_wrong st5.wd ok tr5 it fun J2 s2 => ?_)
          have st6 := st5.same s2
          clear st5 tr5 s2
          rw [hl]
          by_cases ck : k = n
          · rw [if_pos ck]
            walk_at "hs"
            refine x_isd (fun _ => ?_) (fun c => (c (by rw [ck])).elim)
            walk_at "hs"
            exact ⟨rfl, st6⟩
          · rw [if_neg ck]
            walk_at "hs"
            refine x_isd (fun c => (ck (by omega)).elim) (fun _ => ?_)
            walk_at "hs"
            exact ⟨rfl, st6⟩
        clear st4 tr it hl
        rintro σ' G5 ⟨rfl, st5⟩
        refine ⟨fun σ' G => σ' = [some (.ref a), some (.ref p), some (.int (0 + (i : Int))), some (.ref tu), some (.ref tl), some (.int n), some (.ref x), x7, x8, x9, x10, some (.int k), some (.ref y)] ∧ StW Z T p x tu tl n us ls G, ?_, ?_⟩
        · walk_at "hs"
          refine x_isd (fun c => ?_) (fun c => ?_)
          · walk_at "hs"
            refine x_lam st5.tb fun J1 eN T1 => ?_
            have st6 := st5.ext eN T1
            clear st5 eN T1
            refine tw (sp := spManyW Z) (vs := [.ref x]) (fun Q' E' h => by (try dsimp only); walk_at "hs"; exact h) (wp_many st6.wd ok (.inl (by omega)) fun J2 s2 => ?_)
            rw [if_pos (by omega)]
            walk_at "hs"
            refine x_isd (fun _ => ?_) (fun c2 => (c2 c).elim)
            walk_at "hs"
            exact ⟨rfl, st6.same s2⟩
          · walk_at "hs"
            refine x_isd (fun c6 => ?_) (fun c6 => ?_)
            · walk_at "hs"
              refine x_lam st5.tb fun J1 eN T1 => ?_
              have st6 := st5.ext eN T1
              clear st5 eN T1
              refine tw (sp := spManyW Z) (vs := [.ref x]) (fun Q' E' h => by (try dsimp only); walk_at "hs"; exact h) (wp_many st6.wd ok (.inr (by omega)) fun J2 s2 => ?_)
              rw [if_neg (by omega)]
              walk_at "hs"
              refine x_isd (fun c2 => (c c2).elim) (fun _ => ?_)
              walk_at "hs"
              exact ⟨rfl, st6.same s2⟩
            · walk_at "hs"
              exact ⟨rfl, st5⟩
        clear st5
        rintro σ' G6 ⟨rfl, st6⟩
        walk_at "hs"
        obtain ⟨dx, fs, tu2, tl2, as2, g1, g2, g3, g4, g5, g6, g7⟩ := st6.wd
        refine ⟨x, _, dx, _, _, rfl, g1, W.c, W.nu, g3, ?_⟩
        walk_at "hs"
        refine ⟨x, _, dx, _, _, rfl, g1, W.c, W.nl, g4, ?_⟩
        walk_at "hs"
        intro L1 nL1
        have s7 : Same G6 (upd G6 L1 (.lst [.ref tu2, .ref tl2])) := same_new (Same.refl _) nL1
        have eL1 : upd G6 L1 (.lst [.ref tu2, .ref tl2]) L1 = some (.lst [.ref tu2, .ref tl2]) := upd_same
        generalize upd G6 L1 (.lst [.ref tu2, .ref tl2]) = G7 at s7 eL1 ⊢
        walk_at "hs"
        intro L2 nL2
        have s8 : Same G7 (upd G7 L2 (.lst [.ref tu, .ref tl])) := same_new (Same.refl _) nL2
        have eL2 : upd G7 L2 (.lst [.ref tu, .ref tl]) L2 = some (.lst [.ref tu, .ref tl]) := upd_same
        generalize upd G7 L2 (.lst [.ref tu, .ref tl]) = G8 at s8 eL2 ⊢
        have s78 := s7.trans s8
        obtain ⟨as, k1', k2'⟩ := st6.el
        obtain ⟨c1, c2⟩ := cm_told (H := G8) ok ok (s78 _ _ g5) (s78 _ _ g6) (g7.same s78) (s78 _ _ st6.eu) (s78 _ _ k1') (k2'.same s78) 0
        rw [decide_eq_true rfl] at c1
        rw [decide_eq_true rfl] at c2
        walk_at "hs"
        refine ⟨_, _, _, rfl, cm_two (s8 _ _ eL1) eL2 c1 c2, fun G9 s9 => ?_⟩
        have st9 := st6.same (s78.trans s9)
        walk_at "hs"
        exact ⟨⟨_, _, _, _, _, _, _, _, _, _, _, rfl⟩, st9.pp, st9.tb⟩
    · rintro σ' G ⟨⟨x2, x3, x4, x5, x6, x7, x8, x9, x10, x11, x12, rfl⟩, _⟩
      walk_at "hs"
      exact q _
end
set_option maxRecDepth 100000
set_option maxHeartbeats 4000000
open PySem PySem.Spec L2 PyProof.Rows
theorem kit_ref {K : PySem.W.Frag} {t : Value} {C : Addr} {b : Bool} (hn : (t == Value.ref C) = false) (h : PySem.W.isClsIn K C = true) (ht : PySem.W.typeIn K (.ref C) = some (.type "type")) (hs : PySem.W.subIn K t (.ref C) = some b) : PySem.W.kitOne K t (.ref C) = some b := by
  have e2 : ((PySem.W.clsIn K C).isSome && PySem.W.typeIn K (.ref C) == some (.type "type")) = true := by
    have h2' : (PySem.W.clsIn K C).isSome = true := h
    rw [h2', ht] <;> rfl
  unfold PySem.W.kitOne
  rw [hn, if_neg Bool.false_ne_true]
  show (if ((PySem.W.clsIn K C).isSome && PySem.W.typeIn K (.ref C) == some (.type "type")) = true then PySem.W.subIn K t (.ref C) else none) = some b
  rw [if_pos e2]
  exact hs
theorem kit_typ {K : PySem.W.Frag} {C : Addr} {T : String} {b : Bool} (hm : PySem.W.kitMeta T = true) (h : PySem.W.subIn K (.ref C) (.type T) = some b) : PySem.W.kitOne K (.ref C) (.type T) = some b := by
  unfold PySem.W.kitOne
  rw [if_neg (by simp)]
  show (if PySem.W.kitMeta T = true then PySem.W.subIn K (.ref C) (.type T) else none) = some b
  rw [if_pos hm]
  exact h
theorem sub_tuple (K : PySem.W.Frag) (C : Addr) : PySem.W.subIn K (.type "tuple") (.ref C) = some false := by
  have e2 : PySem.fastBuiltinMro "tuple" = some [.type "tuple", .type "object"] := by decide +kernel
  show (PySem.fastBuiltinMro "tuple").map (·.contains (Value.ref C)) = some false
  rw [e2]
  rfl
theorem sub_int (K : PySem.W.Frag) (C : Addr) : PySem.W.subIn K (.type "int") (.ref C) = some false := by
  have e2 : PySem.fastBuiltinMro "int" = some [.type "int", .type "object"] := by decide +kernel
  show (PySem.fastBuiltinMro "int").map (·.contains (Value.ref C)) = some false
  rw [e2]
  rfl
theorem FnOk.up {P : Program} {w : World} {K : PySem.W.Frag} {mg : Str → Option Value} {base : Heap} {k : Nat} {f : Addr} {fd : FuncData} {ps : List Str} {sp : Sp} (h : FnOk P w K mg base CX0 k f fd ps sp) : FnOk P w K mg base (L2.CX P w) k f fd ps sp := fnUp h
theorem FnOk.or {P : Program} {w : World} {K : PySem.W.Frag} {mg : Str → Option Value} {base : Heap} {k : Nat} {f : Addr} {fd : FuncData} {ps : List Str} {sp sp' : Sp} (h : FnOk P w K mg base (L2.CX P w) k f fd ps sp) (h' : FnOk P w K mg base (L2.CX P w) k f fd ps sp') : FnOk P w K mg base (L2.CX P w) k f fd ps (fun vs H Q E => sp vs H Q E ∨ sp' vs H Q E) := fnOr h h'
def LawAt (P : Program) (w : World) (K : PySem.W.Frag) (mg : Str → Option Value) (fa : Addr) (h : Heap) : Prop :=
  ∃ (fd : FuncData) (cs : List (Addr × Addr)) (T : List (Addr × Str)), (∀ p ∈ cs, h.get? p.2 = some { cls := .none, data := .fields #[] }) ∧ (∀ p ∈ cs, K.lookup p.2 = none) ∧ (∀ p ∈ cs, PySem.W.CodeHd h p.1 p.2) ∧ (∀ q ∈ T, ∃ p ∈ cs, q.1 = p.2) ∧
    (∀ (s : Shared) (v : Value), BindsTo s fd ⟨[v], []⟩ [("_law_script", v)]) ∧ ∀ base : Heap, K.In base → base.Ns mainGlobals mg → (∀ p ∈ cs, LamX.TabB base mg p.1 p.2) → FnOk P w K mg base CX0 12 fa fd ["_law_script"] (spLawT K T)
theorem LawAt.s {l : PySem.W.OpenLaw} {w : World} {K : PySem.W.Frag} {mg : Str → Option Value} {fa : Addr} {h : Heap} (x : LawAt l.prog w K mg fa h) : LamX.LawAtS l w K CX0 12 63 "_law_script" mg fa h := by
  obtain ⟨fd, cs, T, h1, h2, h3, h4, h5, h6⟩ := x
  exact ⟨fd, cs, spLawT K T, h1, h2, h3, h5, fun H a ns hl _ hH hS => ⟨a, ns, rfl, hS, hl, fun q hq => by
    obtain ⟨p, hp, z⟩ := h4 q hq
    rw [z]
    exact LamX.TabS.nil (hH p hp), fun _ => rfl⟩, h6⟩
theorem all_mk {P : Program} {w : World} {K : PySem.W.Frag} {h : Heap} {mg : Str → Option Value} {fa : Addr} (X : K.In h) (G : h.Ns mainGlobals mg) (hfa : mg "law" = some (.ref fa))
    {c_VoteError : Addr}
    {c_BadTree : Addr}
    {c_NoBlock : Addr}
    {c_NoPlace : Addr}
    {c_OtherBlocks : Addr}
    {c_TooMany : Addr}
    {c_BadWords : Addr}
    {c_Tree : Addr}
    {c_Words : Addr}
    {t_MOST_BLOCKS : PySem.Tok}
    {t_MOST_BLOCKS_COUNTED : PySem.Tok}
    {f_BadTree___init__ : Addr} {od_BadTree___init__ an_BadTree___init__ : Option Addr} {sl_BadTree___init__ : Array (Option Value)} {oc_BadTree___init__ kV_BadTree___init__ dc_BadTree___init__ pm_BadTree___init__ cd_BadTree___init__ ct_BadTree___init__ : Value}
    {f_TooMany___init__ : Addr} {od_TooMany___init__ an_TooMany___init__ : Option Addr} {sl_TooMany___init__ : Array (Option Value)} {oc_TooMany___init__ kV_TooMany___init__ dc_TooMany___init__ pm_TooMany___init__ cd_TooMany___init__ ct_TooMany___init__ : Value}
    {f_is_within : Addr} {od_is_within an_is_within : Option Addr} {sl_is_within : Array (Option Value)} {oc_is_within kV_is_within dc_is_within pm_is_within cd_is_within ct_is_within : Value}
    {f_Tree___init__ : Addr} {od_Tree___init__ an_Tree___init__ : Option Addr} {sl_Tree___init__ : Array (Option Value)} {oc_Tree___init__ kV_Tree___init__ dc_Tree___init__ pm_Tree___init__ cd_Tree___init__ ct_Tree___init__ : Value}
    {f__comes_to_head : Addr} {od__comes_to_head an__comes_to_head : Option Addr} {sl__comes_to_head : Array (Option Value)} {oc__comes_to_head kV__comes_to_head dc__comes_to_head pm__comes_to_head cd__comes_to_head ct__comes_to_head : Value}
    {f_Words___init__ : Addr} {od_Words___init__ an_Words___init__ : Option Addr} {sl_Words___init__ : Array (Option Value)} {oc_Words___init__ kV_Words___init__ dc_Words___init__ pm_Words___init__ cd_Words___init__ ct_Words___init__ : Value}
    {f__is_tuple_of : Addr} {od__is_tuple_of an__is_tuple_of : Option Addr} {sl__is_tuple_of : Array (Option Value)} {oc__is_tuple_of kV__is_tuple_of dc__is_tuple_of pm__is_tuple_of cd__is_tuple_of ct__is_tuple_of : Value}
    {f__is_up : Addr} {od__is_up an__is_up : Option Addr} {sl__is_up : Array (Option Value)} {oc__is_up kV__is_up dc__is_up pm__is_up cd__is_up ct__is_up : Value}
    {f__is_listing : Addr} {od__is_listing an__is_listing : Option Addr} {sl__is_listing : Array (Option Value)} {oc__is_listing kV__is_listing dc__is_listing pm__is_listing cd__is_listing ct__is_listing : Value}
    {f_costs : Addr} {od_costs an_costs : Option Addr} {sl_costs : Array (Option Value)} {oc_costs kV_costs dc_costs pm_costs cd_costs ct_costs : Value}
    {f_cost : Addr} {od_cost an_cost : Option Addr} {sl_cost : Array (Option Value)} {oc_cost kV_cost dc_cost pm_cost cd_cost ct_cost : Value}
    {f_wrong_words : Addr} {od_wrong_words an_wrong_words : Option Addr} {sl_wrong_words : Array (Option Value)} {oc_wrong_words kV_wrong_words dc_wrong_words pm_wrong_words cd_wrong_words ct_wrong_words : Value}
    {f_many_by_wrong : Addr} {od_many_by_wrong an_many_by_wrong : Option Addr} {sl_many_by_wrong : Array (Option Value)} {oc_many_by_wrong kV_many_by_wrong dc_many_by_wrong pm_many_by_wrong cd_many_by_wrong ct_many_by_wrong : Value}
    {f__matrix : Addr} {od__matrix an__matrix : Option Addr} {sl__matrix : Array (Option Value)} {oc__matrix kV__matrix dc__matrix pm__matrix cd__matrix ct__matrix : Value}
    {f__power : Addr} {od__power an__power : Option Addr} {sl__power : Array (Option Value)} {oc__power kV__power dc__power pm__power cd__power ct__power : Value}
    {f__determinant : Addr} {od__determinant an__determinant : Option Addr} {sl__determinant : Array (Option Value)} {oc__determinant kV__determinant dc__determinant pm__determinant cd__determinant ct__determinant : Value}
    {f__polynomial : Addr} {od__polynomial an__polynomial : Option Addr} {sl__polynomial : Array (Option Value)} {oc__polynomial kV__polynomial dc__polynomial pm__polynomial cd__polynomial ct__polynomial : Value}
    {f__law_hand : Addr} {od__law_hand an__law_hand : Option Addr} {sl__law_hand : Array (Option Value)} {oc__law_hand kV__law_hand dc__law_hand pm__law_hand cd__law_hand ct__law_hand : Value}
    {f__law_draw : Addr} {od__law_draw an__law_draw : Option Addr} {sl__law_draw : Array (Option Value)} {oc__law_draw kV__law_draw dc__law_draw pm__law_draw cd__law_draw ct__law_draw : Value}
    {f__law_is : Addr} {od__law_is an__law_is : Option Addr} {sl__law_is : Array (Option Value)} {oc__law_is kV__law_is dc__law_is pm__law_is cd__law_is ct__law_is : Value}
    {f__law_deep : Addr} {od__law_deep an__law_deep : Option Addr} {sl__law_deep : Array (Option Value)} {oc__law_deep kV__law_deep dc__law_deep pm__law_deep cd__law_deep ct__law_deep : Value}
    {f__law_tree : Addr} {od__law_tree an__law_tree : Option Addr} {sl__law_tree : Array (Option Value)} {oc__law_tree kV__law_tree dc__law_tree pm__law_tree cd__law_tree ct__law_tree : Value}
    {f__law_right : Addr} {od__law_right an__law_right : Option Addr} {sl__law_right : Array (Option Value)} {oc__law_right kV__law_right dc__law_right pm__law_right cd__law_right ct__law_right : Value}
    {f__law_put : Addr} {od__law_put an__law_put : Option Addr} {sl__law_put : Array (Option Value)} {oc__law_put kV__law_put dc__law_put pm__law_put cd__law_put ct__law_put : Value}
    {f__law_worn : Addr} {od__law_worn an__law_worn : Option Addr} {sl__law_worn : Array (Option Value)} {oc__law_worn kV__law_worn dc__law_worn pm__law_worn cd__law_worn ct__law_worn : Value}
    {f__law_any : Addr} {od__law_any an__law_any : Option Addr} {sl__law_any : Array (Option Value)} {oc__law_any kV__law_any dc__law_any pm__law_any cd__law_any ct__law_any : Value}
    {f__law_drawn : Addr} {od__law_drawn an__law_drawn : Option Addr} {sl__law_drawn : Array (Option Value)} {oc__law_drawn kV__law_drawn dc__law_drawn pm__law_drawn cd__law_drawn ct__law_drawn : Value}
    {f__law_is_whole : Addr} {od__law_is_whole an__law_is_whole : Option Addr} {sl__law_is_whole : Array (Option Value)} {oc__law_is_whole kV__law_is_whole dc__law_is_whole pm__law_is_whole cd__law_is_whole ct__law_is_whole : Value}
    {f__law_word : Addr} {od__law_word an__law_word : Option Addr} {sl__law_word : Array (Option Value)} {oc__law_word kV__law_word dc__law_word pm__law_word cd__law_word ct__law_word : Value}
    {f__law_odd : Addr} {od__law_odd an__law_odd : Option Addr} {sl__law_odd : Array (Option Value)} {oc__law_odd kV__law_odd dc__law_odd pm__law_odd cd__law_odd ct__law_odd : Value}
    {f_law : Addr} {od_law an_law : Option Addr} {sl_law : Array (Option Value)} {oc_law kV_law dc_law pm_law ct_law : Value}
    {nmBadTree qBadTree : Str} {NBadTree : Addr} {bsBadTree bmBadTree : List Value} {snBadTree : List Str} {subBadTree : List Value} {abBadTree : Bool} {colBadTree : Option Bool} {ddBadTree : Option Addr} {m0BadTree m1BadTree m2BadTree m3BadTree m5BadTree : Option Value}
    {nmTooMany qTooMany : Str} {NTooMany : Addr} {bsTooMany bmTooMany : List Value} {snTooMany : List Str} {subTooMany : List Value} {abTooMany : Bool} {colTooMany : Option Bool} {ddTooMany : Option Addr} {m0TooMany m1TooMany m2TooMany m3TooMany m5TooMany : Option Value}
    {nmUNoBlock qUNoBlock : Str} {NUNoBlock : Addr} {bsUNoBlock bmUNoBlock : List Value} {snUNoBlock : List Str} {subUNoBlock : List Value} {abUNoBlock : Bool} {colUNoBlock : Option Bool} {ddUNoBlock : Option Addr} {u0NoBlock u1NoBlock u2NoBlock u3NoBlock u5NoBlock : Option Value} {f_UNoBlock : Addr} {ocUNoBlock : Value} {odUNoBlock anUNoBlock : Option Addr} {kVUNoBlock docUNoBlock pmUNoBlock ctUNoBlock : Value} {cdUNoBlock ccUNoBlock : Addr} {slUNoBlock : Array (Option Value)} {qqUNoBlock : Str} {eNoBlock p0NoBlock p1NoBlock p2NoBlock p3NoBlock p4NoBlock : Pos} {clUNoBlock : Value} {cldUNoBlock : Option Addr} {cslUNoBlock : Array (Option Value)} {cclUNoBlock : Value} {cddUNoBlock : Option Addr} {vsUNoBlock : Array Value} {ccsUNoBlock : Array (Option Value)} {fileUNoBlock : Str} {tfUNoBlock : Tok}
    {nmUNoPlace qUNoPlace : Str} {NUNoPlace : Addr} {bsUNoPlace bmUNoPlace : List Value} {snUNoPlace : List Str} {subUNoPlace : List Value} {abUNoPlace : Bool} {colUNoPlace : Option Bool} {ddUNoPlace : Option Addr} {u0NoPlace u1NoPlace u2NoPlace u3NoPlace u5NoPlace : Option Value} {f_UNoPlace : Addr} {ocUNoPlace : Value} {odUNoPlace anUNoPlace : Option Addr} {kVUNoPlace docUNoPlace pmUNoPlace ctUNoPlace : Value} {cdUNoPlace ccUNoPlace : Addr} {slUNoPlace : Array (Option Value)} {qqUNoPlace : Str} {eNoPlace p0NoPlace p1NoPlace p2NoPlace p3NoPlace p4NoPlace : Pos} {clUNoPlace : Value} {cldUNoPlace : Option Addr} {cslUNoPlace : Array (Option Value)} {cclUNoPlace : Value} {cddUNoPlace : Option Addr} {vsUNoPlace : Array Value} {ccsUNoPlace : Array (Option Value)} {fileUNoPlace : Str} {tfUNoPlace : Tok}
    {nmUOtherBlocks qUOtherBlocks : Str} {NUOtherBlocks : Addr} {bsUOtherBlocks bmUOtherBlocks : List Value} {snUOtherBlocks : List Str} {subUOtherBlocks : List Value} {abUOtherBlocks : Bool} {colUOtherBlocks : Option Bool} {ddUOtherBlocks : Option Addr} {u0OtherBlocks u1OtherBlocks u2OtherBlocks u3OtherBlocks u5OtherBlocks : Option Value} {f_UOtherBlocks : Addr} {ocUOtherBlocks : Value} {odUOtherBlocks anUOtherBlocks : Option Addr} {kVUOtherBlocks docUOtherBlocks pmUOtherBlocks ctUOtherBlocks : Value} {cdUOtherBlocks ccUOtherBlocks : Addr} {slUOtherBlocks : Array (Option Value)} {qqUOtherBlocks : Str} {eOtherBlocks p0OtherBlocks p1OtherBlocks p2OtherBlocks p3OtherBlocks p4OtherBlocks : Pos} {clUOtherBlocks : Value} {cldUOtherBlocks : Option Addr} {cslUOtherBlocks : Array (Option Value)} {cclUOtherBlocks : Value} {cddUOtherBlocks : Option Addr} {vsUOtherBlocks : Array Value} {ccsUOtherBlocks : Array (Option Value)} {fileUOtherBlocks : Str} {tfUOtherBlocks : Tok}
    {cc_law P_law : Addr} {ccl_law : Value} {ccd_law : Option Addr} {vs_law : Array Value} {ccs_law : Array (Option Value)}
    (n_VoteError : PySem.W.nsIn K mainGlobals "VoteError" = some (some (.ref c_VoteError)))
    (n_BadTree : PySem.W.nsIn K mainGlobals "BadTree" = some (some (.ref c_BadTree)))
    (n_NoBlock : PySem.W.nsIn K mainGlobals "NoBlock" = some (some (.ref c_NoBlock)))
    (n_NoPlace : PySem.W.nsIn K mainGlobals "NoPlace" = some (some (.ref c_NoPlace)))
    (n_OtherBlocks : PySem.W.nsIn K mainGlobals "OtherBlocks" = some (some (.ref c_OtherBlocks)))
    (n_TooMany : PySem.W.nsIn K mainGlobals "TooMany" = some (some (.ref c_TooMany)))
    (n_BadWords : PySem.W.nsIn K mainGlobals "BadWords" = some (some (.ref c_BadWords)))
    (n_Tree : PySem.W.nsIn K mainGlobals "Tree" = some (some (.ref c_Tree)))
    (n_Words : PySem.W.nsIn K mainGlobals "Words" = some (some (.ref c_Words)))
    (n_MOST_BLOCKS : PySem.W.nsIn K mainGlobals "MOST_BLOCKS" = some (some (.int 40 t_MOST_BLOCKS)))
    (n_MOST_BLOCKS_COUNTED : PySem.W.nsIn K mainGlobals "MOST_BLOCKS_COUNTED" = some (some (.int 10 t_MOST_BLOCKS_COUNTED)))
    (z_ValueError : PySem.W.nsIn K mainGlobals "ValueError" = some none)
    (z_abs : PySem.W.nsIn K mainGlobals "abs" = some none)
    (z_all : PySem.W.nsIn K mainGlobals "all" = some none)
    (z_bool : PySem.W.nsIn K mainGlobals "bool" = some none)
    (z_enumerate : PySem.W.nsIn K mainGlobals "enumerate" = some none)
    (z_int : PySem.W.nsIn K mainGlobals "int" = some none)
    (z_isinstance : PySem.W.nsIn K mainGlobals "isinstance" = some none)
    (z_len : PySem.W.nsIn K mainGlobals "len" = some none)
    (z_list : PySem.W.nsIn K mainGlobals "list" = some none)
    (z_max : PySem.W.nsIn K mainGlobals "max" = some none)
    (z_min : PySem.W.nsIn K mainGlobals "min" = some none)
    (z_range : PySem.W.nsIn K mainGlobals "range" = some none)
    (z_str : PySem.W.nsIn K mainGlobals "str" = some none)
    (z_sum : PySem.W.nsIn K mainGlobals "sum" = some none)
    (z_super : PySem.W.nsIn K mainGlobals "super" = some none)
    (z_tuple : PySem.W.nsIn K mainGlobals "tuple" = some none)
    (z_zip : PySem.W.nsIn K mainGlobals "zip" = some none)
    (a_BadTree___init__ : PySem.W.findIn K (.ref c_BadTree) "__init__" = some (some (.ref f_BadTree___init__)))
    (i_BadTree___init__ : PySem.W.isFn K (.ref f_BadTree___init__) = true)
    (l_BadTree___init__ : K.lookup f_BadTree___init__ = some ⟨oc_BadTree___init__, od_BadTree___init__, .func (PySem.W.fnOf "__init__" "BadTree.__init__" (defArgs s_BadTree___init__) (defBody s_BadTree___init__) (defScope s_BadTree___init__) .none kV_BadTree___init__ dc_BadTree___init__ pm_BadTree___init__ an_BadTree___init__ cd_BadTree___init__ ct_BadTree___init__), sl_BadTree___init__⟩)
    (c_BadTree___init__ : PySem.W.codeIn K cd_BadTree___init__ "BadTree.__init__" = true)
    (k_BadTree___init__ : PySem.W.keepIn K (.ref f_BadTree___init__) = true)
    (a_TooMany___init__ : PySem.W.findIn K (.ref c_TooMany) "__init__" = some (some (.ref f_TooMany___init__)))
    (i_TooMany___init__ : PySem.W.isFn K (.ref f_TooMany___init__) = true)
    (l_TooMany___init__ : K.lookup f_TooMany___init__ = some ⟨oc_TooMany___init__, od_TooMany___init__, .func (PySem.W.fnOf "__init__" "TooMany.__init__" (defArgs s_TooMany___init__) (defBody s_TooMany___init__) (defScope s_TooMany___init__) .none kV_TooMany___init__ dc_TooMany___init__ pm_TooMany___init__ an_TooMany___init__ cd_TooMany___init__ ct_TooMany___init__), sl_TooMany___init__⟩)
    (c_TooMany___init__ : PySem.W.codeIn K cd_TooMany___init__ "TooMany.__init__" = true)
    (k_TooMany___init__ : PySem.W.keepIn K (.ref f_TooMany___init__) = true)
    (a_is_within : PySem.W.nsIn K mainGlobals "is_within" = some (some (.ref f_is_within)))
    (l_is_within : K.lookup f_is_within = some ⟨oc_is_within, od_is_within, .func (PySem.W.fnOf "is_within" "is_within" (defArgs s_is_within) (defBody s_is_within) (defScope s_is_within) .none kV_is_within dc_is_within pm_is_within an_is_within cd_is_within ct_is_within), sl_is_within⟩)
    (c_is_within : PySem.W.codeIn K cd_is_within "is_within" = true)
    (k_is_within : PySem.W.keepIn K (.ref f_is_within) = true)
    (a_Tree___init__ : PySem.W.findIn K (.ref c_Tree) "__init__" = some (some (.ref f_Tree___init__)))
    (i_Tree___init__ : PySem.W.isFn K (.ref f_Tree___init__) = true)
    (l_Tree___init__ : K.lookup f_Tree___init__ = some ⟨oc_Tree___init__, od_Tree___init__, .func (PySem.W.fnOf "__init__" "Tree.__init__" (defArgs s_Tree___init__) (defBody s_Tree___init__) (defScope s_Tree___init__) .none kV_Tree___init__ dc_Tree___init__ pm_Tree___init__ an_Tree___init__ cd_Tree___init__ ct_Tree___init__), sl_Tree___init__⟩)
    (c_Tree___init__ : PySem.W.codeIn K cd_Tree___init__ "Tree.__init__" = true)
    (k_Tree___init__ : PySem.W.keepIn K (.ref f_Tree___init__) = true)
    (a__comes_to_head : PySem.W.nsIn K mainGlobals "_comes_to_head" = some (some (.ref f__comes_to_head)))
    (l__comes_to_head : K.lookup f__comes_to_head = some ⟨oc__comes_to_head, od__comes_to_head, .func (PySem.W.fnOf "_comes_to_head" "_comes_to_head" (defArgs s__comes_to_head) (defBody s__comes_to_head) (defScope s__comes_to_head) .none kV__comes_to_head dc__comes_to_head pm__comes_to_head an__comes_to_head cd__comes_to_head ct__comes_to_head), sl__comes_to_head⟩)
    (c__comes_to_head : PySem.W.codeIn K cd__comes_to_head "_comes_to_head" = true)
    (k__comes_to_head : PySem.W.keepIn K (.ref f__comes_to_head) = true)
    (a_Words___init__ : PySem.W.findIn K (.ref c_Words) "__init__" = some (some (.ref f_Words___init__)))
    (i_Words___init__ : PySem.W.isFn K (.ref f_Words___init__) = true)
    (l_Words___init__ : K.lookup f_Words___init__ = some ⟨oc_Words___init__, od_Words___init__, .func (PySem.W.fnOf "__init__" "Words.__init__" (defArgs s_Words___init__) (defBody s_Words___init__) (defScope s_Words___init__) .none kV_Words___init__ dc_Words___init__ pm_Words___init__ an_Words___init__ cd_Words___init__ ct_Words___init__), sl_Words___init__⟩)
    (c_Words___init__ : PySem.W.codeIn K cd_Words___init__ "Words.__init__" = true)
    (k_Words___init__ : PySem.W.keepIn K (.ref f_Words___init__) = true)
    (a__is_tuple_of : PySem.W.nsIn K mainGlobals "_is_tuple_of" = some (some (.ref f__is_tuple_of)))
    (l__is_tuple_of : K.lookup f__is_tuple_of = some ⟨oc__is_tuple_of, od__is_tuple_of, .func (PySem.W.fnOf "_is_tuple_of" "_is_tuple_of" (defArgs s__is_tuple_of) (defBody s__is_tuple_of) (defScope s__is_tuple_of) .none kV__is_tuple_of dc__is_tuple_of pm__is_tuple_of an__is_tuple_of cd__is_tuple_of ct__is_tuple_of), sl__is_tuple_of⟩)
    (c__is_tuple_of : PySem.W.codeIn K cd__is_tuple_of "_is_tuple_of" = true)
    (k__is_tuple_of : PySem.W.keepIn K (.ref f__is_tuple_of) = true)
    (a__is_up : PySem.W.nsIn K mainGlobals "_is_up" = some (some (.ref f__is_up)))
    (l__is_up : K.lookup f__is_up = some ⟨oc__is_up, od__is_up, .func (PySem.W.fnOf "_is_up" "_is_up" (defArgs s__is_up) (defBody s__is_up) (defScope s__is_up) .none kV__is_up dc__is_up pm__is_up an__is_up cd__is_up ct__is_up), sl__is_up⟩)
    (c__is_up : PySem.W.codeIn K cd__is_up "_is_up" = true)
    (k__is_up : PySem.W.keepIn K (.ref f__is_up) = true)
    (a__is_listing : PySem.W.nsIn K mainGlobals "_is_listing" = some (some (.ref f__is_listing)))
    (l__is_listing : K.lookup f__is_listing = some ⟨oc__is_listing, od__is_listing, .func (PySem.W.fnOf "_is_listing" "_is_listing" (defArgs s__is_listing) (defBody s__is_listing) (defScope s__is_listing) .none kV__is_listing dc__is_listing pm__is_listing an__is_listing cd__is_listing ct__is_listing), sl__is_listing⟩)
    (c__is_listing : PySem.W.codeIn K cd__is_listing "_is_listing" = true)
    (k__is_listing : PySem.W.keepIn K (.ref f__is_listing) = true)
    (a_costs : PySem.W.nsIn K mainGlobals "costs" = some (some (.ref f_costs)))
    (l_costs : K.lookup f_costs = some ⟨oc_costs, od_costs, .func (PySem.W.fnOf "costs" "costs" (defArgs s_costs) (defBody s_costs) (defScope s_costs) .none kV_costs dc_costs pm_costs an_costs cd_costs ct_costs), sl_costs⟩)
    (c_costs : PySem.W.codeIn K cd_costs "costs" = true)
    (k_costs : PySem.W.keepIn K (.ref f_costs) = true)
    (a_cost : PySem.W.nsIn K mainGlobals "cost" = some (some (.ref f_cost)))
    (l_cost : K.lookup f_cost = some ⟨oc_cost, od_cost, .func (PySem.W.fnOf "cost" "cost" (defArgs s_cost) (defBody s_cost) (defScope s_cost) .none kV_cost dc_cost pm_cost an_cost cd_cost ct_cost), sl_cost⟩)
    (c_cost : PySem.W.codeIn K cd_cost "cost" = true)
    (k_cost : PySem.W.keepIn K (.ref f_cost) = true)
    (a_wrong_words : PySem.W.nsIn K mainGlobals "wrong_words" = some (some (.ref f_wrong_words)))
    (l_wrong_words : K.lookup f_wrong_words = some ⟨oc_wrong_words, od_wrong_words, .func (PySem.W.fnOf "wrong_words" "wrong_words" (defArgs s_wrong_words) (defBody s_wrong_words) (defScope s_wrong_words) .none kV_wrong_words dc_wrong_words pm_wrong_words an_wrong_words cd_wrong_words ct_wrong_words), sl_wrong_words⟩)
    (c_wrong_words : PySem.W.codeIn K cd_wrong_words "wrong_words" = true)
    (k_wrong_words : PySem.W.keepIn K (.ref f_wrong_words) = true)
    (a_many_by_wrong : PySem.W.nsIn K mainGlobals "many_by_wrong" = some (some (.ref f_many_by_wrong)))
    (l_many_by_wrong : K.lookup f_many_by_wrong = some ⟨oc_many_by_wrong, od_many_by_wrong, .func (PySem.W.fnOf "many_by_wrong" "many_by_wrong" (defArgs s_many_by_wrong) (defBody s_many_by_wrong) (defScope s_many_by_wrong) .none kV_many_by_wrong dc_many_by_wrong pm_many_by_wrong an_many_by_wrong cd_many_by_wrong ct_many_by_wrong), sl_many_by_wrong⟩)
    (c_many_by_wrong : PySem.W.codeIn K cd_many_by_wrong "many_by_wrong" = true)
    (k_many_by_wrong : PySem.W.keepIn K (.ref f_many_by_wrong) = true)
    (a__matrix : PySem.W.nsIn K mainGlobals "_matrix" = some (some (.ref f__matrix)))
    (l__matrix : K.lookup f__matrix = some ⟨oc__matrix, od__matrix, .func (PySem.W.fnOf "_matrix" "_matrix" (defArgs s__matrix) (defBody s__matrix) (defScope s__matrix) .none kV__matrix dc__matrix pm__matrix an__matrix cd__matrix ct__matrix), sl__matrix⟩)
    (c__matrix : PySem.W.codeIn K cd__matrix "_matrix" = true)
    (k__matrix : PySem.W.keepIn K (.ref f__matrix) = true)
    (a__power : PySem.W.nsIn K mainGlobals "_power" = some (some (.ref f__power)))
    (l__power : K.lookup f__power = some ⟨oc__power, od__power, .func (PySem.W.fnOf "_power" "_power" (defArgs s__power) (defBody s__power) (defScope s__power) .none kV__power dc__power pm__power an__power cd__power ct__power), sl__power⟩)
    (c__power : PySem.W.codeIn K cd__power "_power" = true)
    (k__power : PySem.W.keepIn K (.ref f__power) = true)
    (a__determinant : PySem.W.nsIn K mainGlobals "_determinant" = some (some (.ref f__determinant)))
    (l__determinant : K.lookup f__determinant = some ⟨oc__determinant, od__determinant, .func (PySem.W.fnOf "_determinant" "_determinant" (defArgs s__determinant) (defBody s__determinant) (defScope s__determinant) .none kV__determinant dc__determinant pm__determinant an__determinant cd__determinant ct__determinant), sl__determinant⟩)
    (c__determinant : PySem.W.codeIn K cd__determinant "_determinant" = true)
    (k__determinant : PySem.W.keepIn K (.ref f__determinant) = true)
    (a__polynomial : PySem.W.nsIn K mainGlobals "_polynomial" = some (some (.ref f__polynomial)))
    (l__polynomial : K.lookup f__polynomial = some ⟨oc__polynomial, od__polynomial, .func (PySem.W.fnOf "_polynomial" "_polynomial" (defArgs s__polynomial) (defBody s__polynomial) (defScope s__polynomial) .none kV__polynomial dc__polynomial pm__polynomial an__polynomial cd__polynomial ct__polynomial), sl__polynomial⟩)
    (c__polynomial : PySem.W.codeIn K cd__polynomial "_polynomial" = true)
    (k__polynomial : PySem.W.keepIn K (.ref f__polynomial) = true)
    (a__law_hand : PySem.W.nsIn K mainGlobals "_law_hand" = some (some (.ref f__law_hand)))
    (l__law_hand : K.lookup f__law_hand = some ⟨oc__law_hand, od__law_hand, .func (PySem.W.fnOf "_law_hand" "_law_hand" (defArgs s__law_hand) (defBody s__law_hand) (defScope s__law_hand) .none kV__law_hand dc__law_hand pm__law_hand an__law_hand cd__law_hand ct__law_hand), sl__law_hand⟩)
    (c__law_hand : PySem.W.codeIn K cd__law_hand "_law_hand" = true)
    (k__law_hand : PySem.W.keepIn K (.ref f__law_hand) = true)
    (a__law_draw : PySem.W.nsIn K mainGlobals "_law_draw" = some (some (.ref f__law_draw)))
    (l__law_draw : K.lookup f__law_draw = some ⟨oc__law_draw, od__law_draw, .func (PySem.W.fnOf "_law_draw" "_law_draw" (defArgs s__law_draw) (defBody s__law_draw) (defScope s__law_draw) .none kV__law_draw dc__law_draw pm__law_draw an__law_draw cd__law_draw ct__law_draw), sl__law_draw⟩)
    (c__law_draw : PySem.W.codeIn K cd__law_draw "_law_draw" = true)
    (k__law_draw : PySem.W.keepIn K (.ref f__law_draw) = true)
    (a__law_is : PySem.W.nsIn K mainGlobals "_law_is" = some (some (.ref f__law_is)))
    (l__law_is : K.lookup f__law_is = some ⟨oc__law_is, od__law_is, .func (PySem.W.fnOf "_law_is" "_law_is" (defArgs s__law_is) (defBody s__law_is) (defScope s__law_is) .none kV__law_is dc__law_is pm__law_is an__law_is cd__law_is ct__law_is), sl__law_is⟩)
    (c__law_is : PySem.W.codeIn K cd__law_is "_law_is" = true)
    (k__law_is : PySem.W.keepIn K (.ref f__law_is) = true)
    (a__law_deep : PySem.W.nsIn K mainGlobals "_law_deep" = some (some (.ref f__law_deep)))
    (l__law_deep : K.lookup f__law_deep = some ⟨oc__law_deep, od__law_deep, .func (PySem.W.fnOf "_law_deep" "_law_deep" (defArgs s__law_deep) (defBody s__law_deep) (defScope s__law_deep) .none kV__law_deep dc__law_deep pm__law_deep an__law_deep cd__law_deep ct__law_deep), sl__law_deep⟩)
    (c__law_deep : PySem.W.codeIn K cd__law_deep "_law_deep" = true)
    (k__law_deep : PySem.W.keepIn K (.ref f__law_deep) = true)
    (a__law_tree : PySem.W.nsIn K mainGlobals "_law_tree" = some (some (.ref f__law_tree)))
    (l__law_tree : K.lookup f__law_tree = some ⟨oc__law_tree, od__law_tree, .func (PySem.W.fnOf "_law_tree" "_law_tree" (defArgs s__law_tree) (defBody s__law_tree) (defScope s__law_tree) .none kV__law_tree dc__law_tree pm__law_tree an__law_tree cd__law_tree ct__law_tree), sl__law_tree⟩)
    (c__law_tree : PySem.W.codeIn K cd__law_tree "_law_tree" = true)
    (k__law_tree : PySem.W.keepIn K (.ref f__law_tree) = true)
    (a__law_right : PySem.W.nsIn K mainGlobals "_law_right" = some (some (.ref f__law_right)))
    (l__law_right : K.lookup f__law_right = some ⟨oc__law_right, od__law_right, .func (PySem.W.fnOf "_law_right" "_law_right" (defArgs s__law_right) (defBody s__law_right) (defScope s__law_right) .none kV__law_right dc__law_right pm__law_right an__law_right cd__law_right ct__law_right), sl__law_right⟩)
    (c__law_right : PySem.W.codeIn K cd__law_right "_law_right" = true)
    (k__law_right : PySem.W.keepIn K (.ref f__law_right) = true)
    (a__law_put : PySem.W.nsIn K mainGlobals "_law_put" = some (some (.ref f__law_put)))
    (l__law_put : K.lookup f__law_put = some ⟨oc__law_put, od__law_put, .func (PySem.W.fnOf "_law_put" "_law_put" (defArgs s__law_put) (defBody s__law_put) (defScope s__law_put) .none kV__law_put dc__law_put pm__law_put an__law_put cd__law_put ct__law_put), sl__law_put⟩)
    (c__law_put : PySem.W.codeIn K cd__law_put "_law_put" = true)
    (k__law_put : PySem.W.keepIn K (.ref f__law_put) = true)
    (a__law_worn : PySem.W.nsIn K mainGlobals "_law_worn" = some (some (.ref f__law_worn)))
    (l__law_worn : K.lookup f__law_worn = some ⟨oc__law_worn, od__law_worn, .func (PySem.W.fnOf "_law_worn" "_law_worn" (defArgs s__law_worn) (defBody s__law_worn) (defScope s__law_worn) .none kV__law_worn dc__law_worn pm__law_worn an__law_worn cd__law_worn ct__law_worn), sl__law_worn⟩)
    (c__law_worn : PySem.W.codeIn K cd__law_worn "_law_worn" = true)
    (k__law_worn : PySem.W.keepIn K (.ref f__law_worn) = true)
    (a__law_any : PySem.W.nsIn K mainGlobals "_law_any" = some (some (.ref f__law_any)))
    (l__law_any : K.lookup f__law_any = some ⟨oc__law_any, od__law_any, .func (PySem.W.fnOf "_law_any" "_law_any" (defArgs s__law_any) (defBody s__law_any) (defScope s__law_any) .none kV__law_any dc__law_any pm__law_any an__law_any cd__law_any ct__law_any), sl__law_any⟩)
    (c__law_any : PySem.W.codeIn K cd__law_any "_law_any" = true)
    (k__law_any : PySem.W.keepIn K (.ref f__law_any) = true)
    (a__law_drawn : PySem.W.nsIn K mainGlobals "_law_drawn" = some (some (.ref f__law_drawn)))
    (l__law_drawn : K.lookup f__law_drawn = some ⟨oc__law_drawn, od__law_drawn, .func (PySem.W.fnOf "_law_drawn" "_law_drawn" (defArgs s__law_drawn) (defBody s__law_drawn) (defScope s__law_drawn) .none kV__law_drawn dc__law_drawn pm__law_drawn an__law_drawn cd__law_drawn ct__law_drawn), sl__law_drawn⟩)
    (c__law_drawn : PySem.W.codeIn K cd__law_drawn "_law_drawn" = true)
    (k__law_drawn : PySem.W.keepIn K (.ref f__law_drawn) = true)
    (a__law_is_whole : PySem.W.nsIn K mainGlobals "_law_is_whole" = some (some (.ref f__law_is_whole)))
    (l__law_is_whole : K.lookup f__law_is_whole = some ⟨oc__law_is_whole, od__law_is_whole, .func (PySem.W.fnOf "_law_is_whole" "_law_is_whole" (defArgs s__law_is_whole) (defBody s__law_is_whole) (defScope s__law_is_whole) .none kV__law_is_whole dc__law_is_whole pm__law_is_whole an__law_is_whole cd__law_is_whole ct__law_is_whole), sl__law_is_whole⟩)
    (c__law_is_whole : PySem.W.codeIn K cd__law_is_whole "_law_is_whole" = true)
    (k__law_is_whole : PySem.W.keepIn K (.ref f__law_is_whole) = true)
    (a__law_word : PySem.W.nsIn K mainGlobals "_law_word" = some (some (.ref f__law_word)))
    (l__law_word : K.lookup f__law_word = some ⟨oc__law_word, od__law_word, .func (PySem.W.fnOf "_law_word" "_law_word" (defArgs s__law_word) (defBody s__law_word) (defScope s__law_word) .none kV__law_word dc__law_word pm__law_word an__law_word cd__law_word ct__law_word), sl__law_word⟩)
    (c__law_word : PySem.W.codeIn K cd__law_word "_law_word" = true)
    (k__law_word : PySem.W.keepIn K (.ref f__law_word) = true)
    (a__law_odd : PySem.W.nsIn K mainGlobals "_law_odd" = some (some (.ref f__law_odd)))
    (l__law_odd : K.lookup f__law_odd = some ⟨oc__law_odd, od__law_odd, .func (PySem.W.fnOf "_law_odd" "_law_odd" (defArgs s__law_odd) (defBody s__law_odd) (defScope s__law_odd) .none kV__law_odd dc__law_odd pm__law_odd an__law_odd cd__law_odd ct__law_odd), sl__law_odd⟩)
    (c__law_odd : PySem.W.codeIn K cd__law_odd "_law_odd" = true)
    (k__law_odd : PySem.W.keepIn K (.ref f__law_odd) = true)
    (a_law : PySem.W.nsIn K mainGlobals "law" = some (some (.ref f_law)))
    (l_law : K.lookup f_law = some ⟨oc_law, od_law, .func (PySem.W.fnOf "law" "law" (defArgs s_law) (defBody s_law) (defScope s_law) .none kV_law dc_law pm_law an_law (.ref cc_law) ct_law), sl_law⟩)
    (c_law : PySem.W.codeIn K (.ref cc_law) "law" = true)
    (k_law : PySem.W.keepIn K (.ref f_law) = true)
    (pgTree : PySem.W.plainGet K c_Tree Str.empty = true)
    (hdTree : PySem.W.hasDictIn K c_Tree = true)
    (poTree : PySem.W.plainOver K c_Tree = true)
    (saTree : PySem.W.findIn K (.ref c_Tree) "__setattr__" = some (some (.builtin "object.__setattr__")))
    (mkTree : PySem.W.makesIn K c_Tree = true)
    (kcTree : PySem.W.keepIn K (.ref c_Tree) = true)
    (noTree_hung : PySem.W.findIn K (.ref c_Tree) "hung" = some none)
    (haTree : PySem.W.findIn K (.ref c_Tree) "__class__" = some (some (.builtin "object.__class__")))
    (hmTree : PySem.W.mroIn K c_Tree (.type "object") = some true)
    (icTree : PySem.W.isClsIn K c_Tree = true)
    (tyTree : PySem.W.typeIn K (.ref c_Tree) = some (.type "type"))
    (spO : PySem.W.specialIn K (.builtin "object.__class__") "__get__" = some (some (.builtin "getset_descriptor.__get__")))
    (tkO : PySem.W.takesIn K (.builtin "object.__class__") = some true)
    (pgWords : PySem.W.plainGet K c_Words Str.empty = true)
    (hdWords : PySem.W.hasDictIn K c_Words = true)
    (poWords : PySem.W.plainOver K c_Words = true)
    (saWords : PySem.W.findIn K (.ref c_Words) "__setattr__" = some (some (.builtin "object.__setattr__")))
    (mkWords : PySem.W.makesIn K c_Words = true)
    (kcWords : PySem.W.keepIn K (.ref c_Words) = true)
    (noWords_blocks : PySem.W.findIn K (.ref c_Words) "blocks" = some none)
    (noWords_ups : PySem.W.findIn K (.ref c_Words) "ups" = some none)
    (noWords_lists : PySem.W.findIn K (.ref c_Words) "lists" = some none)
    (haWords : PySem.W.findIn K (.ref c_Words) "__class__" = some (some (.builtin "object.__class__")))
    (hmWords : PySem.W.mroIn K c_Words (.type "object") = some true)
    (icWords : PySem.W.isClsIn K c_Words = true)
    (tyWords : PySem.W.typeIn K (.ref c_Words) = some (.type "type"))
    (xLBadTree : K.lookup c_BadTree = some (excClassObj nmBadTree qBadTree c_BadTree NBadTree bsBadTree bmBadTree true snBadTree subBadTree abBadTree colBadTree ddBadTree m0BadTree m1BadTree m2BadTree m3BadTree m5BadTree "ValueError.__new__"))
    (rvBadTree : PySem.HandSPX.refsVE bmBadTree = true)
    (saEBadTree : PySem.W.findIn K (.ref c_BadTree) "__setattr__" = some (some (.builtin "object.__setattr__")))
    (exEBadTree : PySem.W.subIn K (.ref c_BadTree) (.type "BaseException") = some true)
    (tyEBadTree : PySem.W.typeIn K (.ref c_BadTree) = some (.type "type"))
    (kcEBadTree : PySem.W.keepIn K (.ref c_BadTree) = true)
    (tiEBadTree : PySem.W.typeIn K (.ref f_BadTree___init__) = some (.type "function"))
    (noEBadTree : PySem.W.findIn K (.ref c_BadTree) "part" = some none)
    (xLTooMany : K.lookup c_TooMany = some (excClassObj nmTooMany qTooMany c_TooMany NTooMany bsTooMany bmTooMany true snTooMany subTooMany abTooMany colTooMany ddTooMany m0TooMany m1TooMany m2TooMany m3TooMany m5TooMany "ValueError.__new__"))
    (rvTooMany : PySem.HandSPX.refsVE bmTooMany = true)
    (saETooMany : PySem.W.findIn K (.ref c_TooMany) "__setattr__" = some (some (.builtin "object.__setattr__")))
    (exETooMany : PySem.W.subIn K (.ref c_TooMany) (.type "BaseException") = some true)
    (tyETooMany : PySem.W.typeIn K (.ref c_TooMany) = some (.type "type"))
    (kcETooMany : PySem.W.keepIn K (.ref c_TooMany) = true)
    (tiETooMany : PySem.W.typeIn K (.ref f_TooMany___init__) = some (.type "function"))
    (noETooMany : PySem.W.findIn K (.ref c_TooMany) "most" = some none)
    (gaETooMany : PySem.W.findIn K (.ref c_TooMany) "__getattribute__" = some (some (.builtin "BaseException.__getattribute__")))
    (ggETooMany : PySem.W.findIn K (.ref c_TooMany) "__getattr__" = some none)
    (hdETooMany : PySem.W.hasDictIn K c_TooMany = true)
    (haETooMany : PySem.W.findIn K (.ref c_TooMany) "__class__" = some (some (.builtin "object.__class__")))
    (hmETooMany : PySem.W.mroIn K c_TooMany (.type "object") = some true)
    (swint : PySem.W.subIn K (.ref c_Words) (.type "int") = some false)
    (swbool : PySem.W.subIn K (.ref c_Words) (.type "bool") = some false)
    (swtuple : PySem.W.subIn K (.ref c_Words) (.type "tuple") = some false)
    (swlist : PySem.W.subIn K (.ref c_Words) (.type "list") = some false)
    (xUNoBlock : K.lookup c_NoBlock = some (excClassObj nmUNoBlock qUNoBlock c_NoBlock NUNoBlock bsUNoBlock bmUNoBlock true snUNoBlock subUNoBlock abUNoBlock colUNoBlock ddUNoBlock u0NoBlock u1NoBlock u2NoBlock u3NoBlock u5NoBlock "ValueError.__new__"))
    (rvUNoBlock : PySem.HandSPX.refsVE bmUNoBlock = true)
    (saUNoBlock : PySem.W.findIn K (.ref c_NoBlock) "__setattr__" = some (some (.builtin "object.__setattr__")))
    (exUNoBlock : PySem.W.subIn K (.ref c_NoBlock) (.type "BaseException") = some true)
    (tyUNoBlock : PySem.W.typeIn K (.ref c_NoBlock) = some (.type "type"))
    (kcUNoBlock : PySem.W.keepIn K (.ref c_NoBlock) = true)
    (iUNoBlock : PySem.W.findIn K (.ref c_NoBlock) "__init__" = some (some (.ref f_UNoBlock)))
    (tiUNoBlock : PySem.W.typeIn K (.ref f_UNoBlock) = some (.type "function"))
    (lUNoBlock : K.lookup f_UNoBlock = some ⟨ocUNoBlock, odUNoBlock, .func (PySem.W.ksFn "__init__" qqUNoBlock (siA eNoBlock) (siB p0NoBlock p1NoBlock p2NoBlock p3NoBlock p4NoBlock) siS .none kVUNoBlock docUNoBlock pmUNoBlock anUNoBlock (.ref cdUNoBlock) ctUNoBlock ccUNoBlock), slUNoBlock⟩)
    (cUNoBlock : PySem.W.codeIn K (.ref cdUNoBlock) qqUNoBlock = true)
    (ceUNoBlock : K.lookup ccUNoBlock = some ⟨clUNoBlock, cldUNoBlock, .cell (some (.ref c_NoBlock)), cslUNoBlock⟩)
    (coUNoBlock : K.lookup cdUNoBlock = some ⟨cclUNoBlock, cddUNoBlock, .fields vsUNoBlock, ccsUNoBlock⟩)
    (vsU2NoBlock : vsUNoBlock[2]? = some (.str fileUNoBlock tfUNoBlock))
    (fiUNoBlock : ((P.main.file : Str) == fileUNoBlock) = true)
    (evUNoBlock : SupEv p0NoBlock p1NoBlock p2NoBlock p3NoBlock)
    (upUNoBlock : PySem.W.ks_superIn K c_NoBlock c_NoBlock "__init__" = some (some (.builtin "ValueError.__init__")))
    (meUNoBlock : PySem.W.mroIn K c_NoBlock (.ref c_NoBlock) = some true)
    (veUNoBlock : PySem.W.subIn K (.ref c_NoBlock) (.type "ValueError") = some true)
    (opU : PySem.W.nsIn K cStatics "thirdparty.any" = some none)
    (tpU : (P.main.scope.names.lookup ("super" : Str)).isSome = false)
    (xUNoPlace : K.lookup c_NoPlace = some (excClassObj nmUNoPlace qUNoPlace c_NoPlace NUNoPlace bsUNoPlace bmUNoPlace true snUNoPlace subUNoPlace abUNoPlace colUNoPlace ddUNoPlace u0NoPlace u1NoPlace u2NoPlace u3NoPlace u5NoPlace "ValueError.__new__"))
    (rvUNoPlace : PySem.HandSPX.refsVE bmUNoPlace = true)
    (saUNoPlace : PySem.W.findIn K (.ref c_NoPlace) "__setattr__" = some (some (.builtin "object.__setattr__")))
    (exUNoPlace : PySem.W.subIn K (.ref c_NoPlace) (.type "BaseException") = some true)
    (tyUNoPlace : PySem.W.typeIn K (.ref c_NoPlace) = some (.type "type"))
    (kcUNoPlace : PySem.W.keepIn K (.ref c_NoPlace) = true)
    (iUNoPlace : PySem.W.findIn K (.ref c_NoPlace) "__init__" = some (some (.ref f_UNoPlace)))
    (tiUNoPlace : PySem.W.typeIn K (.ref f_UNoPlace) = some (.type "function"))
    (lUNoPlace : K.lookup f_UNoPlace = some ⟨ocUNoPlace, odUNoPlace, .func (PySem.W.ksFn "__init__" qqUNoPlace (siA eNoPlace) (siB p0NoPlace p1NoPlace p2NoPlace p3NoPlace p4NoPlace) siS .none kVUNoPlace docUNoPlace pmUNoPlace anUNoPlace (.ref cdUNoPlace) ctUNoPlace ccUNoPlace), slUNoPlace⟩)
    (cUNoPlace : PySem.W.codeIn K (.ref cdUNoPlace) qqUNoPlace = true)
    (ceUNoPlace : K.lookup ccUNoPlace = some ⟨clUNoPlace, cldUNoPlace, .cell (some (.ref c_NoPlace)), cslUNoPlace⟩)
    (coUNoPlace : K.lookup cdUNoPlace = some ⟨cclUNoPlace, cddUNoPlace, .fields vsUNoPlace, ccsUNoPlace⟩)
    (vsU2NoPlace : vsUNoPlace[2]? = some (.str fileUNoPlace tfUNoPlace))
    (fiUNoPlace : ((P.main.file : Str) == fileUNoPlace) = true)
    (evUNoPlace : SupEv p0NoPlace p1NoPlace p2NoPlace p3NoPlace)
    (upUNoPlace : PySem.W.ks_superIn K c_NoPlace c_NoPlace "__init__" = some (some (.builtin "ValueError.__init__")))
    (meUNoPlace : PySem.W.mroIn K c_NoPlace (.ref c_NoPlace) = some true)
    (veUNoPlace : PySem.W.subIn K (.ref c_NoPlace) (.type "ValueError") = some true)
    (xUOtherBlocks : K.lookup c_OtherBlocks = some (excClassObj nmUOtherBlocks qUOtherBlocks c_OtherBlocks NUOtherBlocks bsUOtherBlocks bmUOtherBlocks true snUOtherBlocks subUOtherBlocks abUOtherBlocks colUOtherBlocks ddUOtherBlocks u0OtherBlocks u1OtherBlocks u2OtherBlocks u3OtherBlocks u5OtherBlocks "ValueError.__new__"))
    (rvUOtherBlocks : PySem.HandSPX.refsVE bmUOtherBlocks = true)
    (saUOtherBlocks : PySem.W.findIn K (.ref c_OtherBlocks) "__setattr__" = some (some (.builtin "object.__setattr__")))
    (exUOtherBlocks : PySem.W.subIn K (.ref c_OtherBlocks) (.type "BaseException") = some true)
    (tyUOtherBlocks : PySem.W.typeIn K (.ref c_OtherBlocks) = some (.type "type"))
    (kcUOtherBlocks : PySem.W.keepIn K (.ref c_OtherBlocks) = true)
    (iUOtherBlocks : PySem.W.findIn K (.ref c_OtherBlocks) "__init__" = some (some (.ref f_UOtherBlocks)))
    (tiUOtherBlocks : PySem.W.typeIn K (.ref f_UOtherBlocks) = some (.type "function"))
    (lUOtherBlocks : K.lookup f_UOtherBlocks = some ⟨ocUOtherBlocks, odUOtherBlocks, .func (PySem.W.ksFn "__init__" qqUOtherBlocks (siA eOtherBlocks) (siB p0OtherBlocks p1OtherBlocks p2OtherBlocks p3OtherBlocks p4OtherBlocks) siS .none kVUOtherBlocks docUOtherBlocks pmUOtherBlocks anUOtherBlocks (.ref cdUOtherBlocks) ctUOtherBlocks ccUOtherBlocks), slUOtherBlocks⟩)
    (cUOtherBlocks : PySem.W.codeIn K (.ref cdUOtherBlocks) qqUOtherBlocks = true)
    (ceUOtherBlocks : K.lookup ccUOtherBlocks = some ⟨clUOtherBlocks, cldUOtherBlocks, .cell (some (.ref c_OtherBlocks)), cslUOtherBlocks⟩)
    (coUOtherBlocks : K.lookup cdUOtherBlocks = some ⟨cclUOtherBlocks, cddUOtherBlocks, .fields vsUOtherBlocks, ccsUOtherBlocks⟩)
    (vsU2OtherBlocks : vsUOtherBlocks[2]? = some (.str fileUOtherBlocks tfUOtherBlocks))
    (fiUOtherBlocks : ((P.main.file : Str) == fileUOtherBlocks) = true)
    (evUOtherBlocks : SupEv p0OtherBlocks p1OtherBlocks p2OtherBlocks p3OtherBlocks)
    (upUOtherBlocks : PySem.W.ks_superIn K c_OtherBlocks c_OtherBlocks "__init__" = some (some (.builtin "ValueError.__init__")))
    (meUOtherBlocks : PySem.W.mroIn K c_OtherBlocks (.ref c_OtherBlocks) = some true)
    (veUOtherBlocks : PySem.W.subIn K (.ref c_OtherBlocks) (.type "ValueError") = some true)
    (exV : PySem.W.subIn K (.ref c_VoteError) (.type "BaseException") = some true)
    (hdV : PySem.W.hasDictIn K c_VoteError = true)
    (tyV : PySem.W.typeIn K (.ref c_VoteError) = some (.type "type"))
    (gaENoBlock : PySem.W.findIn K (.ref c_NoBlock) "__getattribute__" = some (some (.builtin "BaseException.__getattribute__")))
    (ggENoBlock : PySem.W.findIn K (.ref c_NoBlock) "__getattr__" = some none)
    (hdENoBlock : PySem.W.hasDictIn K c_NoBlock = true)
    (haENoBlock : PySem.W.findIn K (.ref c_NoBlock) "__class__" = some (some (.builtin "object.__class__")))
    (hmENoBlock : PySem.W.mroIn K c_NoBlock (.type "object") = some true)
    (gaENoPlace : PySem.W.findIn K (.ref c_NoPlace) "__getattribute__" = some (some (.builtin "BaseException.__getattribute__")))
    (ggENoPlace : PySem.W.findIn K (.ref c_NoPlace) "__getattr__" = some none)
    (hdENoPlace : PySem.W.hasDictIn K c_NoPlace = true)
    (haENoPlace : PySem.W.findIn K (.ref c_NoPlace) "__class__" = some (some (.builtin "object.__class__")))
    (hmENoPlace : PySem.W.mroIn K c_NoPlace (.type "object") = some true)
    (gaEOtherBlocks : PySem.W.findIn K (.ref c_OtherBlocks) "__getattribute__" = some (some (.builtin "BaseException.__getattribute__")))
    (ggEOtherBlocks : PySem.W.findIn K (.ref c_OtherBlocks) "__getattr__" = some none)
    (hdEOtherBlocks : PySem.W.hasDictIn K c_OtherBlocks = true)
    (haEOtherBlocks : PySem.W.findIn K (.ref c_OtherBlocks) "__class__" = some (some (.builtin "object.__class__")))
    (hmEOtherBlocks : PySem.W.mroIn K c_OtherBlocks (.type "object") = some true)
    (sVNoBlock : PySem.W.subIn K (.ref c_NoBlock) (.ref c_VoteError) = some true)
    (icNoBlock : PySem.W.isClsIn K c_NoBlock = true)
    (sVNoPlace : PySem.W.subIn K (.ref c_NoPlace) (.ref c_VoteError) = some true)
    (icNoPlace : PySem.W.isClsIn K c_NoPlace = true)
    (sVOtherBlocks : PySem.W.subIn K (.ref c_OtherBlocks) (.ref c_VoteError) = some true)
    (icOtherBlocks : PySem.W.isClsIn K c_OtherBlocks = true)
    (sVTooMany : PySem.W.subIn K (.ref c_TooMany) (.ref c_VoteError) = some true)
    (icTooMany : PySem.W.isClsIn K c_TooMany = true)
    (veUTooMany : PySem.W.subIn K (.ref c_TooMany) (.type "ValueError") = some true)
    (neNoBlock_NoPlace : (Value.ref c_NoBlock == Value.ref c_NoPlace) = false)
    (suNoBlock_NoPlace : PySem.W.subIn K (.ref c_NoBlock) (.ref c_NoPlace) = some false)
    (neNoBlock_OtherBlocks : (Value.ref c_NoBlock == Value.ref c_OtherBlocks) = false)
    (suNoBlock_OtherBlocks : PySem.W.subIn K (.ref c_NoBlock) (.ref c_OtherBlocks) = some false)
    (neNoBlock_TooMany : (Value.ref c_NoBlock == Value.ref c_TooMany) = false)
    (suNoBlock_TooMany : PySem.W.subIn K (.ref c_NoBlock) (.ref c_TooMany) = some false)
    (neNoPlace_NoBlock : (Value.ref c_NoPlace == Value.ref c_NoBlock) = false)
    (suNoPlace_NoBlock : PySem.W.subIn K (.ref c_NoPlace) (.ref c_NoBlock) = some false)
    (neNoPlace_OtherBlocks : (Value.ref c_NoPlace == Value.ref c_OtherBlocks) = false)
    (suNoPlace_OtherBlocks : PySem.W.subIn K (.ref c_NoPlace) (.ref c_OtherBlocks) = some false)
    (neNoPlace_TooMany : (Value.ref c_NoPlace == Value.ref c_TooMany) = false)
    (suNoPlace_TooMany : PySem.W.subIn K (.ref c_NoPlace) (.ref c_TooMany) = some false)
    (neOtherBlocks_NoBlock : (Value.ref c_OtherBlocks == Value.ref c_NoBlock) = false)
    (suOtherBlocks_NoBlock : PySem.W.subIn K (.ref c_OtherBlocks) (.ref c_NoBlock) = some false)
    (neOtherBlocks_NoPlace : (Value.ref c_OtherBlocks == Value.ref c_NoPlace) = false)
    (suOtherBlocks_NoPlace : PySem.W.subIn K (.ref c_OtherBlocks) (.ref c_NoPlace) = some false)
    (neOtherBlocks_TooMany : (Value.ref c_OtherBlocks == Value.ref c_TooMany) = false)
    (suOtherBlocks_TooMany : PySem.W.subIn K (.ref c_OtherBlocks) (.ref c_TooMany) = some false)
    (neTooMany_NoBlock : (Value.ref c_TooMany == Value.ref c_NoBlock) = false)
    (suTooMany_NoBlock : PySem.W.subIn K (.ref c_TooMany) (.ref c_NoBlock) = some false)
    (neTooMany_NoPlace : (Value.ref c_TooMany == Value.ref c_NoPlace) = false)
    (suTooMany_NoPlace : PySem.W.subIn K (.ref c_TooMany) (.ref c_NoPlace) = some false)
    (neTooMany_OtherBlocks : (Value.ref c_TooMany == Value.ref c_OtherBlocks) = false)
    (suTooMany_OtherBlocks : PySem.W.subIn K (.ref c_TooMany) (.ref c_OtherBlocks) = some false)
    (co_law : K.lookup cc_law = some ⟨ccl_law, ccd_law, .fields vs_law, ccs_law⟩)
    (v11_law : vs_law[11]? = some (.ref P_law))
    (hd_law : PySem.W.codeHdIn K cc_law P_law = true)
    (nt_law : K.lookup P_law = none)
    (tl_law : h.get? P_law = some (PySem.W.tabObj #[]))
    : LawAt P w K mg fa h := by
  have e := hfa.symm.trans (PySem.W.mg_of X G a_law)
  cases e
  have F_BadTree___init__ := fun_mk (st := s_BadTree___init__) l_BadTree___init__ c_BadTree___init__ k_BadTree___init__
  have b_BadTree___init__ := F_BadTree___init__.binds (ps := ["self", "part"]) fun _ _ _ _ _ _ us hl => match us, hl with | [_, _], _ => rfl
  have C_BadTree___init__ := CalM.mk k_BadTree___init__ b_BadTree___init__
  have F_TooMany___init__ := fun_mk (st := s_TooMany___init__) l_TooMany___init__ c_TooMany___init__ k_TooMany___init__
  have b_TooMany___init__ := F_TooMany___init__.binds (ps := ["self", "most"]) fun _ _ _ _ _ _ us hl => match us, hl with | [_, _], _ => rfl
  have C_TooMany___init__ := CalM.mk k_TooMany___init__ b_TooMany___init__
  have F_is_within := fun_mk (st := s_is_within) l_is_within c_is_within k_is_within
  have b_is_within := F_is_within.binds (ps := ["least", "most", "thing"]) fun _ _ _ _ _ _ us hl => match us, hl with | [_, _, _], _ => rfl
  have C_is_within := Cal.mk (PySem.W.mg_of X G a_is_within) k_is_within b_is_within
  have F_Tree___init__ := fun_mk (st := s_Tree___init__) l_Tree___init__ c_Tree___init__ k_Tree___init__
  have b_Tree___init__ := F_Tree___init__.binds (ps := ["self", "hung"]) fun _ _ _ _ _ _ us hl => match us, hl with | [_, _], _ => rfl
  have C_Tree___init__ := CalM.mk k_Tree___init__ b_Tree___init__
  have F__comes_to_head := fun_mk (st := s__comes_to_head) l__comes_to_head c__comes_to_head k__comes_to_head
  have b__comes_to_head := F__comes_to_head.binds (ps := ["hung", "block"]) fun _ _ _ _ _ _ us hl => match us, hl with | [_, _], _ => rfl
  have C__comes_to_head := Cal.mk (PySem.W.mg_of X G a__comes_to_head) k__comes_to_head b__comes_to_head
  have F_Words___init__ := fun_mk (st := s_Words___init__) l_Words___init__ c_Words___init__ k_Words___init__
  have b_Words___init__ := F_Words___init__.binds (ps := ["self", "blocks", "ups", "lists"]) fun _ _ _ _ _ _ us hl => match us, hl with | [_, _, _, _], _ => rfl
  have C_Words___init__ := CalM.mk k_Words___init__ b_Words___init__
  have F__is_tuple_of := fun_mk (st := s__is_tuple_of) l__is_tuple_of c__is_tuple_of k__is_tuple_of
  have b__is_tuple_of := F__is_tuple_of.binds (ps := ["many", "thing"]) fun _ _ _ _ _ _ us hl => match us, hl with | [_, _], _ => rfl
  have C__is_tuple_of := Cal.mk (PySem.W.mg_of X G a__is_tuple_of) k__is_tuple_of b__is_tuple_of
  have F__is_up := fun_mk (st := s__is_up) l__is_up c__is_up k__is_up
  have b__is_up := F__is_up.binds (ps := ["blocks", "block", "thing"]) fun _ _ _ _ _ _ us hl => match us, hl with | [_, _, _], _ => rfl
  have C__is_up := Cal.mk (PySem.W.mg_of X G a__is_up) k__is_up b__is_up
  have F__is_listing := fun_mk (st := s__is_listing) l__is_listing c__is_listing k__is_listing
  have b__is_listing := F__is_listing.binds (ps := ["place", "block", "thing"]) fun _ _ _ _ _ _ us hl => match us, hl with | [_, _, _], _ => rfl
  have C__is_listing := Cal.mk (PySem.W.mg_of X G a__is_listing) k__is_listing b__is_listing
  have F_costs := fun_mk (st := s_costs) l_costs c_costs k_costs
  have b_costs := F_costs.binds (ps := ["words", "block"]) fun _ _ _ _ _ _ us hl => match us, hl with | [_, _], _ => rfl
  have C_costs := Cal.mk (PySem.W.mg_of X G a_costs) k_costs b_costs
  have F_cost := fun_mk (st := s_cost) l_cost c_cost k_cost
  have b_cost := F_cost.binds (ps := ["words", "block", "place"]) fun _ _ _ _ _ _ us hl => match us, hl with | [_, _, _], _ => rfl
  have C_cost := Cal.mk (PySem.W.mg_of X G a_cost) k_cost b_cost
  have F_wrong_words := fun_mk (st := s_wrong_words) l_wrong_words c_wrong_words k_wrong_words
  have b_wrong_words := F_wrong_words.binds (ps := ["words", "tree"]) fun _ _ _ _ _ _ us hl => match us, hl with | [_, _], _ => rfl
  have C_wrong_words := Cal.mk (PySem.W.mg_of X G a_wrong_words) k_wrong_words b_wrong_words
  have F_many_by_wrong := fun_mk (st := s_many_by_wrong) l_many_by_wrong c_many_by_wrong k_many_by_wrong
  have b_many_by_wrong := F_many_by_wrong.binds (ps := ["words"]) fun _ _ _ _ _ _ us hl => match us, hl with | [_], _ => rfl
  have C_many_by_wrong := Cal.mk (PySem.W.mg_of X G a_many_by_wrong) k_many_by_wrong b_many_by_wrong
  have F__matrix := fun_mk (st := s__matrix) l__matrix c__matrix k__matrix
  have b__matrix := F__matrix.binds (ps := ["table", "x"]) fun _ _ _ _ _ _ us hl => match us, hl with | [_, _], _ => rfl
  have C__matrix := Cal.mk (PySem.W.mg_of X G a__matrix) k__matrix b__matrix
  have F__power := fun_mk (st := s__power) l__power c__power k__power
  have b__power := F__power.binds (ps := ["x", "exponent"]) fun _ _ _ _ _ _ us hl => match us, hl with | [_, _], _ => rfl
  have C__power := Cal.mk (PySem.W.mg_of X G a__power) k__power b__power
  have F__determinant := fun_mk (st := s__determinant) l__determinant c__determinant k__determinant
  have b__determinant := F__determinant.binds (ps := ["matrix"]) fun _ _ _ _ _ _ us hl => match us, hl with | [_], _ => rfl
  have C__determinant := Cal.mk (PySem.W.mg_of X G a__determinant) k__determinant b__determinant
  have F__polynomial := fun_mk (st := s__polynomial) l__polynomial c__polynomial k__polynomial
  have b__polynomial := F__polynomial.binds (ps := ["worths"]) fun _ _ _ _ _ _ us hl => match us, hl with | [_], _ => rfl
  have C__polynomial := Cal.mk (PySem.W.mg_of X G a__polynomial) k__polynomial b__polynomial
  have F__law_hand := fun_mk (st := s__law_hand) l__law_hand c__law_hand k__law_hand
  have b__law_hand := F__law_hand.binds (ps := ["_law_script"]) fun _ _ _ _ _ _ us hl => match us, hl with | [_], _ => rfl
  have C__law_hand := Cal.mk (PySem.W.mg_of X G a__law_hand) k__law_hand b__law_hand
  have F__law_draw := fun_mk (st := s__law_draw) l__law_draw c__law_draw k__law_draw
  have b__law_draw := F__law_draw.binds (ps := ["_law_hand_here", "_law_many"]) fun _ _ _ _ _ _ us hl => match us, hl with | [_, _], _ => rfl
  have C__law_draw := Cal.mk (PySem.W.mg_of X G a__law_draw) k__law_draw b__law_draw
  have F__law_is := fun_mk (st := s__law_is) l__law_is c__law_is k__law_is
  have b__law_is := F__law_is.binds (ps := ["_law_told", "_law_due"]) fun _ _ _ _ _ _ us hl => match us, hl with | [_, _], _ => rfl
  have C__law_is := Cal.mk (PySem.W.mg_of X G a__law_is) k__law_is b__law_is
  have F__law_deep := fun_mk (st := s__law_deep) l__law_deep c__law_deep k__law_deep
  have b__law_deep := F__law_deep.binds (ps := ["_law_hand_here"]) fun _ _ _ _ _ _ us hl => match us, hl with | [_], _ => rfl
  have C__law_deep := Cal.mk (PySem.W.mg_of X G a__law_deep) k__law_deep b__law_deep
  have F__law_tree := fun_mk (st := s__law_tree) l__law_tree c__law_tree k__law_tree
  have b__law_tree := F__law_tree.binds (ps := ["_law_hand_here", "_law_blocks"]) fun _ _ _ _ _ _ us hl => match us, hl with | [_, _], _ => rfl
  have C__law_tree := Cal.mk (PySem.W.mg_of X G a__law_tree) k__law_tree b__law_tree
  have F__law_right := fun_mk (st := s__law_right) l__law_right c__law_right k__law_right
  have b__law_right := F__law_right.binds (ps := ["_law_hung"]) fun _ _ _ _ _ _ us hl => match us, hl with | [_], _ => rfl
  have C__law_right := Cal.mk (PySem.W.mg_of X G a__law_right) k__law_right b__law_right
  have F__law_put := fun_mk (st := s__law_put) l__law_put c__law_put k__law_put
  have b__law_put := F__law_put.binds (ps := ["_law_things", "_law_at", "_law_thing"]) fun _ _ _ _ _ _ us hl => match us, hl with | [_, _, _], _ => rfl
  have C__law_put := Cal.mk (PySem.W.mg_of X G a__law_put) k__law_put b__law_put
  have F__law_worn := fun_mk (st := s__law_worn) l__law_worn c__law_worn k__law_worn
  have b__law_worn := F__law_worn.binds (ps := ["_law_hand_here", "_law_ups", "_law_lists", "_law_many"]) fun _ _ _ _ _ _ us hl => match us, hl with | [_, _, _, _], _ => rfl
  have C__law_worn := Cal.mk (PySem.W.mg_of X G a__law_worn) k__law_worn b__law_worn
  have F__law_any := fun_mk (st := s__law_any) l__law_any c__law_any k__law_any
  have b__law_any := F__law_any.binds (ps := ["_law_hand_here", "_law_blocks"]) fun _ _ _ _ _ _ us hl => match us, hl with | [_, _], _ => rfl
  have C__law_any := Cal.mk (PySem.W.mg_of X G a__law_any) k__law_any b__law_any
  have F__law_drawn := fun_mk (st := s__law_drawn) l__law_drawn c__law_drawn k__law_drawn
  have b__law_drawn := F__law_drawn.binds (ps := ["_law_hand_here", "_law_most"]) fun _ _ _ _ _ _ us hl => match us, hl with | [_, _], _ => rfl
  have C__law_drawn := Cal.mk (PySem.W.mg_of X G a__law_drawn) k__law_drawn b__law_drawn
  have F__law_is_whole := fun_mk (st := s__law_is_whole) l__law_is_whole c__law_is_whole k__law_is_whole
  have b__law_is_whole := F__law_is_whole.binds (ps := ["_law_thing", "_law_least", "_law_most"]) fun _ _ _ _ _ _ us hl => match us, hl with | [_, _, _], _ => rfl
  have C__law_is_whole := Cal.mk (PySem.W.mg_of X G a__law_is_whole) k__law_is_whole b__law_is_whole
  have F__law_word := fun_mk (st := s__law_word) l__law_word c__law_word k__law_word
  have b__law_word := F__law_word.binds (ps := ["_law_call"]) fun _ _ _ _ _ _ us hl => match us, hl with | [_], _ => rfl
  have C__law_word := Cal.mk (PySem.W.mg_of X G a__law_word) k__law_word b__law_word
  have F__law_odd := fun_mk (st := s__law_odd) l__law_odd c__law_odd k__law_odd
  have b__law_odd := F__law_odd.binds (ps := ["_law_hand_here", "_law_blocks", "_law_words"]) fun _ _ _ _ _ _ us hl => match us, hl with | [_, _, _], _ => rfl
  have C__law_odd := Cal.mk (PySem.W.mg_of X G a__law_odd) k__law_odd b__law_odd
  have F_law := fun_mk (st := s_law) l_law c_law k_law
  have b_law := F_law.binds (ps := ["_law_script"]) fun _ _ _ _ _ _ us hl => match us, hl with | [_], _ => rfl
  have C_law := Cal.mk (PySem.W.mg_of X G a_law) k_law b_law
  have B : Bl ⟨c_VoteError, c_BadTree, c_NoBlock, c_NoPlace, c_OtherBlocks, c_TooMany, c_BadWords, c_Tree, c_Words, t_MOST_BLOCKS, t_MOST_BLOCKS_COUNTED⟩ mg := ⟨PySem.W.mg_none_of X G z_ValueError, PySem.W.mg_none_of X G z_abs, PySem.W.mg_none_of X G z_all, PySem.W.mg_none_of X G z_bool, PySem.W.mg_none_of X G z_enumerate, PySem.W.mg_none_of X G z_int, PySem.W.mg_none_of X G z_isinstance, PySem.W.mg_none_of X G z_len, PySem.W.mg_none_of X G z_list, PySem.W.mg_none_of X G z_max, PySem.W.mg_none_of X G z_min, PySem.W.mg_none_of X G z_range, PySem.W.mg_none_of X G z_str, PySem.W.mg_none_of X G z_sum, PySem.W.mg_none_of X G z_super, PySem.W.mg_none_of X G z_tuple, PySem.W.mg_none_of X G z_zip, PySem.W.mg_of X G n_VoteError, PySem.W.mg_of X G n_BadTree, PySem.W.mg_of X G n_NoBlock, PySem.W.mg_of X G n_NoPlace, PySem.W.mg_of X G n_OtherBlocks, PySem.W.mg_of X G n_TooMany, PySem.W.mg_of X G n_BadWords, PySem.W.mg_of X G n_Tree, PySem.W.mg_of X G n_Words, PySem.W.mg_of X G n_MOST_BLOCKS, PySem.W.mg_of X G n_MOST_BLOCKS_COUNTED⟩
  have hcTree : Cls K c_Tree := ⟨pgTree, hdTree, poTree, saTree⟩
  have hMTree : Mk K c_Tree f_Tree___init__ := ⟨mkTree, a_Tree___init__, i_Tree___init__, kcTree⟩
  have hITree : IsC K c_Tree := ⟨hcTree, haTree, spO, tkO, hmTree, if_pos (beq_self_eq_true _), kit_ref rfl icTree tyTree (sub_tuple K c_Tree)⟩
  have hcWords : Cls K c_Words := ⟨pgWords, hdWords, poWords, saWords⟩
  have hMWords : Mk K c_Words f_Words___init__ := ⟨mkWords, a_Words___init__, i_Words___init__, kcWords⟩
  have hIWords : IsC K c_Words := ⟨hcWords, haWords, spO, tkO, hmWords, if_pos (beq_self_eq_true _), kit_ref rfl icWords tyWords (sub_tuple K c_Words)⟩
  have hXBadTree : OexC K c_BadTree := ⟨⟨nmBadTree, qBadTree, NBadTree, bsBadTree, bmBadTree, snBadTree, subBadTree, abBadTree, colBadTree, ddBadTree, m0BadTree, m1BadTree, m2BadTree, m3BadTree, m5BadTree, xLBadTree, rvBadTree⟩, saEBadTree, exEBadTree, tyEBadTree, kcEBadTree⟩
  have hEBadTree : ExcF K c_BadTree f_BadTree___init__ "part" := ⟨hXBadTree, a_BadTree___init__, tiEBadTree, noEBadTree⟩
  have hXTooMany : OexC K c_TooMany := ⟨⟨nmTooMany, qTooMany, NTooMany, bsTooMany, bmTooMany, snTooMany, subTooMany, abTooMany, colTooMany, ddTooMany, m0TooMany, m1TooMany, m2TooMany, m3TooMany, m5TooMany, xLTooMany, rvTooMany⟩, saETooMany, exETooMany, tyETooMany, kcETooMany⟩
  have hETooMany : ExcF K c_TooMany f_TooMany___init__ "most" := ⟨hXTooMany, a_TooMany___init__, tiETooMany, noETooMany⟩
  have hCTooMany : L2.ExcC K c_TooMany := ⟨gaETooMany, ggETooMany, exETooMany, hdETooMany, haETooMany, spO, tkO, hmETooMany⟩
  have hFTooMany : XfC K c_TooMany := ⟨gaETooMany, ggETooMany, exETooMany, hdETooMany⟩
  have hUNoBlock : SupC P K c_NoBlock f_UNoBlock := ⟨⟨⟨nmUNoBlock, qUNoBlock, NUNoBlock, bsUNoBlock, bmUNoBlock, snUNoBlock, subUNoBlock, abUNoBlock, colUNoBlock, ddUNoBlock, u0NoBlock, u1NoBlock, u2NoBlock, u3NoBlock, u5NoBlock, xUNoBlock, rvUNoBlock⟩, saUNoBlock, exUNoBlock, tyUNoBlock, kcUNoBlock⟩, iUNoBlock, tiUNoBlock, ⟨ocUNoBlock, odUNoBlock, kVUNoBlock, docUNoBlock, pmUNoBlock, anUNoBlock, cdUNoBlock, ctUNoBlock, slUNoBlock, ccUNoBlock, qqUNoBlock, eNoBlock, p0NoBlock, p1NoBlock, p2NoBlock, p3NoBlock, p4NoBlock, lUNoBlock, cUNoBlock, ⟨clUNoBlock, cldUNoBlock, cslUNoBlock, ceUNoBlock⟩, cclUNoBlock, cddUNoBlock, vsUNoBlock, ccsUNoBlock, fileUNoBlock, tfUNoBlock, coUNoBlock, vsU2NoBlock, fiUNoBlock, evUNoBlock⟩, upUNoBlock, meUNoBlock, veUNoBlock, opU, tpU⟩
  have hUNoPlace : SupC P K c_NoPlace f_UNoPlace := ⟨⟨⟨nmUNoPlace, qUNoPlace, NUNoPlace, bsUNoPlace, bmUNoPlace, snUNoPlace, subUNoPlace, abUNoPlace, colUNoPlace, ddUNoPlace, u0NoPlace, u1NoPlace, u2NoPlace, u3NoPlace, u5NoPlace, xUNoPlace, rvUNoPlace⟩, saUNoPlace, exUNoPlace, tyUNoPlace, kcUNoPlace⟩, iUNoPlace, tiUNoPlace, ⟨ocUNoPlace, odUNoPlace, kVUNoPlace, docUNoPlace, pmUNoPlace, anUNoPlace, cdUNoPlace, ctUNoPlace, slUNoPlace, ccUNoPlace, qqUNoPlace, eNoPlace, p0NoPlace, p1NoPlace, p2NoPlace, p3NoPlace, p4NoPlace, lUNoPlace, cUNoPlace, ⟨clUNoPlace, cldUNoPlace, cslUNoPlace, ceUNoPlace⟩, cclUNoPlace, cddUNoPlace, vsUNoPlace, ccsUNoPlace, fileUNoPlace, tfUNoPlace, coUNoPlace, vsU2NoPlace, fiUNoPlace, evUNoPlace⟩, upUNoPlace, meUNoPlace, veUNoPlace, opU, tpU⟩
  have hUOtherBlocks : SupC P K c_OtherBlocks f_UOtherBlocks := ⟨⟨⟨nmUOtherBlocks, qUOtherBlocks, NUOtherBlocks, bsUOtherBlocks, bmUOtherBlocks, snUOtherBlocks, subUOtherBlocks, abUOtherBlocks, colUOtherBlocks, ddUOtherBlocks, u0OtherBlocks, u1OtherBlocks, u2OtherBlocks, u3OtherBlocks, u5OtherBlocks, xUOtherBlocks, rvUOtherBlocks⟩, saUOtherBlocks, exUOtherBlocks, tyUOtherBlocks, kcUOtherBlocks⟩, iUOtherBlocks, tiUOtherBlocks, ⟨ocUOtherBlocks, odUOtherBlocks, kVUOtherBlocks, docUOtherBlocks, pmUOtherBlocks, anUOtherBlocks, cdUOtherBlocks, ctUOtherBlocks, slUOtherBlocks, ccUOtherBlocks, qqUOtherBlocks, eOtherBlocks, p0OtherBlocks, p1OtherBlocks, p2OtherBlocks, p3OtherBlocks, p4OtherBlocks, lUOtherBlocks, cUOtherBlocks, ⟨clUOtherBlocks, cldUOtherBlocks, cslUOtherBlocks, ceUOtherBlocks⟩, cclUOtherBlocks, cddUOtherBlocks, vsUOtherBlocks, ccsUOtherBlocks, fileUOtherBlocks, tfUOtherBlocks, coUOtherBlocks, vsU2OtherBlocks, fiUOtherBlocks, evUOtherBlocks⟩, upUOtherBlocks, meUOtherBlocks, veUOtherBlocks, opU, tpU⟩
  have hW : WCls K ⟨c_VoteError, c_BadTree, c_NoBlock, c_NoPlace, c_OtherBlocks, c_TooMany, c_BadWords, c_Tree, c_Words, t_MOST_BLOCKS, t_MOST_BLOCKS_COUNTED⟩ := ⟨hcWords, noWords_blocks, noWords_ups, noWords_lists⟩
  have hS : InsK K ⟨c_VoteError, c_BadTree, c_NoBlock, c_NoPlace, c_OtherBlocks, c_TooMany, c_BadWords, c_Tree, c_Words, t_MOST_BLOCKS, t_MOST_BLOCKS_COUNTED⟩ := ⟨hIWords, fun T h => by
    rcases h with rfl | rfl | rfl | rfl
    · exact kit_typ (by decide +kernel) swint
    · exact kit_typ (by decide +kernel) swbool
    · exact kit_typ (by decide +kernel) swtuple
    · exact kit_typ (by decide +kernel) swlist⟩
  have hEK : ∀ i, i < 4 → ErrK K ⟨c_VoteError, c_BadTree, c_NoBlock, c_NoPlace, c_OtherBlocks, c_TooMany, c_BadWords, c_Tree, c_Words, t_MOST_BLOCKS, t_MOST_BLOCKS_COUNTED⟩ i := fun i hi => by
    match i, hi with
    | 0, _ =>
      refine ⟨⟨gaENoBlock, ggENoBlock, exUNoBlock, hdENoBlock, haENoBlock, spO, tkO, hmENoBlock⟩, PySem.W.exm_ref exV hdV tyV sVNoBlock, fun j hj => ?_, kit_typ (by decide +kernel) veUNoBlock⟩
      match j, hj with
      | 0, _ => exact if_pos (beq_self_eq_true _)
      | 1, _ => exact kit_ref neNoBlock_NoPlace icNoPlace tyUNoPlace suNoBlock_NoPlace
      | 2, _ => exact kit_ref neNoBlock_OtherBlocks icOtherBlocks tyUOtherBlocks suNoBlock_OtherBlocks
      | 3, _ => exact kit_ref neNoBlock_TooMany icTooMany tyETooMany suNoBlock_TooMany
    | 1, _ =>
      refine ⟨⟨gaENoPlace, ggENoPlace, exUNoPlace, hdENoPlace, haENoPlace, spO, tkO, hmENoPlace⟩, PySem.W.exm_ref exV hdV tyV sVNoPlace, fun j hj => ?_, kit_typ (by decide +kernel) veUNoPlace⟩
      match j, hj with
      | 0, _ => exact kit_ref neNoPlace_NoBlock icNoBlock tyUNoBlock suNoPlace_NoBlock
      | 1, _ => exact if_pos (beq_self_eq_true _)
      | 2, _ => exact kit_ref neNoPlace_OtherBlocks icOtherBlocks tyUOtherBlocks suNoPlace_OtherBlocks
      | 3, _ => exact kit_ref neNoPlace_TooMany icTooMany tyETooMany suNoPlace_TooMany
    | 2, _ =>
      refine ⟨⟨gaEOtherBlocks, ggEOtherBlocks, exUOtherBlocks, hdEOtherBlocks, haEOtherBlocks, spO, tkO, hmEOtherBlocks⟩, PySem.W.exm_ref exV hdV tyV sVOtherBlocks, fun j hj => ?_, kit_typ (by decide +kernel) veUOtherBlocks⟩
      match j, hj with
      | 0, _ => exact kit_ref neOtherBlocks_NoBlock icNoBlock tyUNoBlock suOtherBlocks_NoBlock
      | 1, _ => exact kit_ref neOtherBlocks_NoPlace icNoPlace tyUNoPlace suOtherBlocks_NoPlace
      | 2, _ => exact if_pos (beq_self_eq_true _)
      | 3, _ => exact kit_ref neOtherBlocks_TooMany icTooMany tyETooMany suOtherBlocks_TooMany
    | 3, _ =>
      refine ⟨hCTooMany, PySem.W.exm_ref exV hdV tyV sVTooMany, fun j hj => ?_, kit_typ (by decide +kernel) veUTooMany⟩
      match j, hj with
      | 0, _ => exact kit_ref neTooMany_NoBlock icNoBlock tyUNoBlock suTooMany_NoBlock
      | 1, _ => exact kit_ref neTooMany_NoPlace icNoPlace tyUNoPlace suTooMany_NoPlace
      | 2, _ => exact kit_ref neTooMany_OtherBlocks icOtherBlocks tyUOtherBlocks suTooMany_OtherBlocks
      | 3, _ => exact if_pos (beq_self_eq_true _)
  have hEX : (∀ i, i < 4 → ErrK K ⟨c_VoteError, c_BadTree, c_NoBlock, c_NoPlace, c_OtherBlocks, c_TooMany, c_BadWords, c_Tree, c_Words, t_MOST_BLOCKS, t_MOST_BLOCKS_COUNTED⟩ i) ∧ XfC K c_TooMany ∧ PySem.W.findIn K (.ref c_TooMany) "most" = some none := ⟨hEK, hFTooMany, noETooMany⟩
  have FC_law : FunC K "law" s_law fa _ cc_law := ⟨_, _, _, _, _, _, _, _, rfl, l_law, c_law⟩
  have eT : ∃ T : List (Addr × Str), T = [(P_law, (PyProof.Rows.envOfC "law" (defScope s_law) 0 fa (.ref cc_law)).qual ++ "<lambda>")] := ⟨_, rfl⟩
  obtain ⟨T, eT⟩ := eT
  have in_law : (P_law, (PyProof.Rows.envOfC "law" (defScope s_law) 0 fa (.ref cc_law)).qual ++ "<lambda>") ∈ T := by
    rw [eT]
    simp
  have un_law : ∀ q ∈ T, q.1 = P_law → q.2 = (PyProof.Rows.envOfC "law" (defScope s_law) 0 fa (.ref cc_law)).qual ++ "<lambda>" := fun q hq z => by
    rw [eT] at hq
    simp only [List.mem_cons, List.not_mem_nil, or_false] at hq
    rcases hq with rfl
    · rfl
  refine ⟨PySem.W.fnOf "law" "law" (defArgs s_law) (defBody s_law) (defScope s_law) .none kV_law dc_law pm_law an_law (.ref cc_law) ct_law, [(cc_law, P_law)], T, fun q hq => ?_, fun q hq => ?_, fun q hq => ?_, fun q hq => ?_, fun s v => .of_eq rfl, fun base _ _ hTB => ?_⟩
  · simp only [List.mem_cons, List.not_mem_nil, or_false] at hq
    rcases hq with rfl
    · exact tl_law
  · simp only [List.mem_cons, List.not_mem_nil, or_false] at hq
    rcases hq with rfl
    · exact nt_law
  · simp only [List.mem_cons, List.not_mem_nil, or_false] at hq
    rcases hq with rfl
    · exact PySem.W.codeHd_of_K X hd_law
  · rw [eT] at hq
    simp only [List.mem_cons, List.not_mem_nil, or_false] at hq
    rcases hq with rfl
    · exact ⟨_, .head _, rfl⟩
  have G_draw := ok_draw (P := P) (w := w) (base := base) F__law_draw B
  have G_hand := ok_hand (P := P) (w := w) (base := base) F__law_hand B
  have G_within := ok_within (P := P) (w := w) (base := base) F_is_within B
  have G_withinK := ok_withinK (P := P) (w := w) (base := base) F_is_within B hS
  have G_comes := ok_comes (P := P) (w := w) (base := base) F__comes_to_head B
  have G_bad := ok_bad (mg := mg) (P := P) (w := w) (base := base) (Z := ⟨c_VoteError, c_BadTree, c_NoBlock, c_NoPlace, c_OtherBlocks, c_TooMany, c_BadWords, c_Tree, c_Words, t_MOST_BLOCKS, t_MOST_BLOCKS_COUNTED⟩) F_BadTree___init__ hEBadTree
  have G_tree := ok_tree F_Tree___init__ B hcTree noTree_hung C_is_within G_within C__comes_to_head G_comes C_BadTree___init__ G_bad hEBadTree
  have G_isTup := ok_isTup (P := P) (w := w) (base := base) F__is_tuple_of B
  have G_isUp := ok_isUp F__is_up B C_is_within G_within
  have G_isLst := ok_isLst (P := P) (w := w) (base := base) F__is_listing B
  have G_words := ok_words F_Words___init__ B hW C_is_within G_within C__is_tuple_of G_isTup C__is_up G_isUp C__is_listing G_isLst
  have G_costs := ok_costs (P := P) (w := w) (base := base) F_costs B hW
  have G_cost := ok_cost F_cost B hW C_is_within G_within C_costs G_costs
  have G_wrong := ok_wrong F_wrong_words B hW hITree noTree_hung C_cost G_cost
  have G_costW := FnOk.or (FnOk.up G_cost) (ok_costE F_cost B hW hUNoBlock hUNoPlace C_is_within G_withinK C_costs G_costs)
  have G_wrongW := FnOk.or (FnOk.up G_wrong) (ok_wrongE F_wrong_words B hW hITree noTree_hung hUOtherBlocks C_cost G_cost)
  have G_power := ok_power (P := P) (w := w) (base := base) F__power B
  have G_poly := ok_poly (P := P) (w := w) (base := base) F__polynomial B
  have G_matrix := ok_matrix F__matrix B C__power G_power
  have G_det := ok_det (P := P) (w := w) (base := base) F__determinant B
  have G_many := ok_many F_many_by_wrong B hW C_costs G_costs C__matrix G_matrix C__determinant G_det C__polynomial G_poly
  have G_most := ok_many10 (mg := mg) (P := P) (w := w) (base := base) (Z := ⟨c_VoteError, c_BadTree, c_NoBlock, c_NoPlace, c_OtherBlocks, c_TooMany, c_BadWords, c_Tree, c_Words, t_MOST_BLOCKS, t_MOST_BLOCKS_COUNTED⟩) F_TooMany___init__ hETooMany
  have G_manyW := FnOk.or (FnOk.up G_many) (ok_manyE F_many_by_wrong B hW C_TooMany___init__ G_most hETooMany C_costs G_costs C__matrix G_matrix C__determinant G_det C__polynomial G_poly)
  have G_whole := ok_wholeK (P := P) (w := w) (base := base) F__law_is_whole B hS
  have G_is := ok_isC (P := P) (w := w) (base := base) F__law_is B C__law_is 3
  have G_right := ok_right (P := P) (w := w) (base := base) F__law_right B
  have G_put := ok_put (P := P) (w := w) (base := base) F__law_put B
  have G_ltree := ok_ltree F__law_tree B C__law_draw G_draw
  have G_any := ok_lany F__law_any B C__law_draw G_draw
  have G_worn := ok_worn F__law_worn B C__law_draw G_draw C__law_put G_put
  have G_drawn := ok_ldrawn F__law_drawn B C__law_draw G_draw C__law_any G_any C__law_tree G_ltree C__law_right G_right C__law_worn G_worn
  have G_deep := ok_deepW F__law_deep B C__law_draw G_draw
  have G_odd := ok_oddV F__law_odd B C__law_draw G_draw C__law_deep G_deep
  exact ok_law31 (T := T) FC_law B hcTree noTree_hung hW hEX (hTB (cc_law, P_law) (.head _)) in_law un_law F__law_word C__law_word C__law_hand G_hand C__law_draw G_draw C__law_drawn G_drawn C__law_odd G_odd C__law_is_whole G_whole C__law_tree G_ltree C__law_is G_is C_cost G_costW C_wrong_words G_wrongW C_many_by_wrong G_manyW C_Words___init__ G_words hMWords C_Tree___init__ G_tree hMTree
end Fv
open PySem PySem.W PyProof.Rows in
set_option maxRecDepth 100000 in
set_option maxHeartbeats 0 in
theorem PySem.Challenge.cw_foldervotes_k31_words_refused_holds : PySem.Challenge.rw_foldervotes_k31_words_refused.Holds := by
  refine Fv.hd ?_
  k_fill
  refine LamX.walk_ofTs (l := PySem.Challenge.rw_foldervotes_k31_words_refused) (n := 63) (k := 12) (x := "_law_script") (CX := fun _ => L2.CX0) rfl (by decide) rfl ⟨rfl, by decide, by decide⟩ (fun w h Y => PySem.W.km_in_of Y) ?F (fun _ _ _ _ _ h => h)
  case F =>
   as_aux_lemma =>
    intro w mg fa h Y KX G hmg
    refine Fv.LawAt.s ?_
    refine' Fv.all_mk KX G hmg ?n_VoteError ?n_BadTree ?n_NoBlock ?n_NoPlace ?n_OtherBlocks ?n_TooMany ?n_BadWords ?n_Tree ?n_Words ?n_MOST_BLOCKS ?n_MOST_BLOCKS_COUNTED ?z_ValueError ?z_abs ?z_all ?z_bool ?z_enumerate ?z_int ?z_isinstance ?z_len ?z_list ?z_max ?z_min ?z_range ?z_str ?z_sum ?z_super ?z_tuple ?z_zip ?a_BadTree___init__ ?i_BadTree___init__ ?l_BadTree___init__ ?c_BadTree___init__ ?k_BadTree___init__ ?a_TooMany___init__ ?i_TooMany___init__ ?l_TooMany___init__ ?c_TooMany___init__ ?k_TooMany___init__ ?a_is_within ?l_is_within ?c_is_within ?k_is_within ?a_Tree___init__ ?i_Tree___init__ ?l_Tree___init__ ?c_Tree___init__ ?k_Tree___init__ ?a__comes_to_head ?l__comes_to_head ?c__comes_to_head ?k__comes_to_head ?a_Words___init__ ?i_Words___init__ ?l_Words___init__ ?c_Words___init__ ?k_Words___init__ ?a__is_tuple_of ?l__is_tuple_of ?c__is_tuple_of ?k__is_tuple_of ?a__is_up ?l__is_up ?c__is_up ?k__is_up ?a__is_listing ?l__is_listing ?c__is_listing ?k__is_listing ?a_costs ?l_costs ?c_costs ?k_costs ?a_cost ?l_cost ?c_cost ?k_cost ?a_wrong_words ?l_wrong_words ?c_wrong_words ?k_wrong_words ?a_many_by_wrong ?l_many_by_wrong ?c_many_by_wrong ?k_many_by_wrong ?a__matrix ?l__matrix ?c__matrix ?k__matrix ?a__power ?l__power ?c__power ?k__power ?a__determinant ?l__determinant ?c__determinant ?k__determinant ?a__polynomial ?l__polynomial ?c__polynomial ?k__polynomial ?a__law_hand ?l__law_hand ?c__law_hand ?k__law_hand ?a__law_draw ?l__law_draw ?c__law_draw ?k__law_draw ?a__law_is ?l__law_is ?c__law_is ?k__law_is ?a__law_deep ?l__law_deep ?c__law_deep ?k__law_deep ?a__law_tree ?l__law_tree ?c__law_tree ?k__law_tree ?a__law_right ?l__law_right ?c__law_right ?k__law_right ?a__law_put ?l__law_put ?c__law_put ?k__law_put ?a__law_worn ?l__law_worn ?c__law_worn ?k__law_worn ?a__law_any ?l__law_any ?c__law_any ?k__law_any ?a__law_drawn ?l__law_drawn ?c__law_drawn ?k__law_drawn ?a__law_is_whole ?l__law_is_whole ?c__law_is_whole ?k__law_is_whole ?a__law_word ?l__law_word ?c__law_word ?k__law_word ?a__law_odd ?l__law_odd ?c__law_odd ?k__law_odd ?a_law ?l_law ?c_law ?k_law ?pgTree ?hdTree ?poTree ?saTree ?mkTree ?kcTree ?noTree_hung ?haTree ?hmTree ?icTree ?tyTree ?spO ?tkO ?pgWords ?hdWords ?poWords ?saWords ?mkWords ?kcWords ?noWords_blocks ?noWords_ups ?noWords_lists ?haWords ?hmWords ?icWords ?tyWords ?xLBadTree ?rvBadTree ?saEBadTree ?exEBadTree ?tyEBadTree ?kcEBadTree ?tiEBadTree ?noEBadTree ?xLTooMany ?rvTooMany ?saETooMany ?exETooMany ?tyETooMany ?kcETooMany ?tiETooMany ?noETooMany ?gaETooMany ?ggETooMany ?hdETooMany ?haETooMany ?hmETooMany ?swint ?swbool ?swtuple ?swlist ?xUNoBlock ?rvUNoBlock ?saUNoBlock ?exUNoBlock ?tyUNoBlock ?kcUNoBlock ?iUNoBlock ?tiUNoBlock ?lUNoBlock ?cUNoBlock ?ceUNoBlock ?coUNoBlock ?vsU2NoBlock ?fiUNoBlock ?evUNoBlock ?upUNoBlock ?meUNoBlock ?veUNoBlock ?opU ?tpU ?xUNoPlace ?rvUNoPlace ?saUNoPlace ?exUNoPlace ?tyUNoPlace ?kcUNoPlace ?iUNoPlace ?tiUNoPlace ?lUNoPlace ?cUNoPlace ?ceUNoPlace ?coUNoPlace ?vsU2NoPlace ?fiUNoPlace ?evUNoPlace ?upUNoPlace ?meUNoPlace ?veUNoPlace ?xUOtherBlocks ?rvUOtherBlocks ?saUOtherBlocks ?exUOtherBlocks ?tyUOtherBlocks ?kcUOtherBlocks ?iUOtherBlocks ?tiUOtherBlocks ?lUOtherBlocks ?cUOtherBlocks ?ceUOtherBlocks ?coUOtherBlocks ?vsU2OtherBlocks ?fiUOtherBlocks ?evUOtherBlocks ?upUOtherBlocks ?meUOtherBlocks ?veUOtherBlocks ?exV ?hdV ?tyV ?gaENoBlock ?ggENoBlock ?hdENoBlock ?haENoBlock ?hmENoBlock ?gaENoPlace ?ggENoPlace ?hdENoPlace ?haENoPlace ?hmENoPlace ?gaEOtherBlocks ?ggEOtherBlocks ?hdEOtherBlocks ?haEOtherBlocks ?hmEOtherBlocks ?sVNoBlock ?icNoBlock ?sVNoPlace ?icNoPlace ?sVOtherBlocks ?icOtherBlocks ?sVTooMany ?icTooMany ?veUTooMany ?neNoBlock_NoPlace ?suNoBlock_NoPlace ?neNoBlock_OtherBlocks ?suNoBlock_OtherBlocks ?neNoBlock_TooMany ?suNoBlock_TooMany ?neNoPlace_NoBlock ?suNoPlace_NoBlock ?neNoPlace_OtherBlocks ?suNoPlace_OtherBlocks ?neNoPlace_TooMany ?suNoPlace_TooMany ?neOtherBlocks_NoBlock ?suOtherBlocks_NoBlock ?neOtherBlocks_NoPlace ?suOtherBlocks_NoPlace ?neOtherBlocks_TooMany ?suOtherBlocks_TooMany ?neTooMany_NoBlock ?suTooMany_NoBlock ?neTooMany_NoPlace ?suTooMany_NoPlace ?neTooMany_OtherBlocks ?suTooMany_OtherBlocks ?co_law ?v11_law ?hd_law ?nt_law ?tl_law
    (case n_VoteError => k_is)
    (case n_BadTree => k_is)
    (case n_NoBlock => k_is)
    (case n_NoPlace => k_is)
    (case n_OtherBlocks => k_is)
    (case n_TooMany => k_is)
    (case n_BadWords => k_is)
    (case n_Tree => k_is)
    (case n_Words => k_is)
    (case n_MOST_BLOCKS => k_is)
    (case n_MOST_BLOCKS_COUNTED => k_is)
    (case z_ValueError => k_is)
    (case z_abs => k_is)
    (case z_all => k_is)
    (case z_bool => k_is)
    (case z_enumerate => k_is)
    (case z_int => k_is)
    (case z_isinstance => k_is)
    (case z_len => k_is)
    (case z_list => k_is)
    (case z_max => k_is)
    (case z_min => k_is)
    (case z_range => k_is)
    (case z_str => k_is)
    (case z_sum => k_is)
    (case z_super => k_is)
    (case z_tuple => k_is)
    (case z_zip => k_is)
    (case a_BadTree___init__ => k_is)
    (case i_BadTree___init__ => k_is)
    (case l_BadTree___init__ => k_is)
    (case c_BadTree___init__ => k_is)
    (case k_BadTree___init__ => k_is)
    (case a_TooMany___init__ => k_is)
    (case i_TooMany___init__ => k_is)
    (case l_TooMany___init__ => k_is)
    (case c_TooMany___init__ => k_is)
    (case k_TooMany___init__ => k_is)
    (case a_is_within => k_is)
    (case l_is_within => k_is)
    (case c_is_within => k_is)
    (case k_is_within => k_is)
    (case a_Tree___init__ => k_is)
    (case i_Tree___init__ => k_is)
    (case l_Tree___init__ => k_is)
    (case c_Tree___init__ => k_is)
    (case k_Tree___init__ => k_is)
    (case a__comes_to_head => k_is)
    (case l__comes_to_head => k_is)
    (case c__comes_to_head => k_is)
    (case k__comes_to_head => k_is)
    (case a_Words___init__ => k_is)
    (case i_Words___init__ => k_is)
    (case l_Words___init__ => k_is)
    (case c_Words___init__ => k_is)
    (case k_Words___init__ => k_is)
    (case a__is_tuple_of => k_is)
    (case l__is_tuple_of => k_is)
    (case c__is_tuple_of => k_is)
    (case k__is_tuple_of => k_is)
    (case a__is_up => k_is)
    (case l__is_up => k_is)
    (case c__is_up => k_is)
    (case k__is_up => k_is)
    (case a__is_listing => k_is)
    (case l__is_listing => k_is)
    (case c__is_listing => k_is)
    (case k__is_listing => k_is)
    (case a_costs => k_is)
    (case l_costs => k_is)
    (case c_costs => k_is)
    (case k_costs => k_is)
    (case a_cost => k_is)
    (case l_cost => k_is)
    (case c_cost => k_is)
    (case k_cost => k_is)
    (case a_wrong_words => k_is)
    (case l_wrong_words => k_is)
    (case c_wrong_words => k_is)
    (case k_wrong_words => k_is)
    (case a_many_by_wrong => k_is)
    (case l_many_by_wrong => k_is)
    (case c_many_by_wrong => k_is)
    (case k_many_by_wrong => k_is)
    (case a__matrix => k_is)
    (case l__matrix => k_is)
    (case c__matrix => k_is)
    (case k__matrix => k_is)
    (case a__power => k_is)
    (case l__power => k_is)
    (case c__power => k_is)
    (case k__power => k_is)
    (case a__determinant => k_is)
    (case l__determinant => k_is)
    (case c__determinant => k_is)
    (case k__determinant => k_is)
    (case a__polynomial => k_is)
    (case l__polynomial => k_is)
    (case c__polynomial => k_is)
    (case k__polynomial => k_is)
    (case a__law_hand => k_is)
    (case l__law_hand => k_is)
    (case c__law_hand => k_is)
    (case k__law_hand => k_is)
    (case a__law_draw => k_is)
    (case l__law_draw => k_is)
    (case c__law_draw => k_is)
    (case k__law_draw => k_is)
    (case a__law_is => k_is)
    (case l__law_is => k_is)
    (case c__law_is => k_is)
    (case k__law_is => k_is)
    (case a__law_deep => k_is)
    (case l__law_deep => k_is)
    (case c__law_deep => k_is)
    (case k__law_deep => k_is)
    (case a__law_tree => k_is)
    (case l__law_tree => k_is)
    (case c__law_tree => k_is)
    (case k__law_tree => k_is)
    (case a__law_right => k_is)
    (case l__law_right => k_is)
    (case c__law_right => k_is)
    (case k__law_right => k_is)
    (case a__law_put => k_is)
    (case l__law_put => k_is)
    (case c__law_put => k_is)
    (case k__law_put => k_is)
    (case a__law_worn => k_is)
    (case l__law_worn => k_is)
    (case c__law_worn => k_is)
    (case k__law_worn => k_is)
    (case a__law_any => k_is)
    (case l__law_any => k_is)
    (case c__law_any => k_is)
    (case k__law_any => k_is)
    (case a__law_drawn => k_is)
    (case l__law_drawn => k_is)
    (case c__law_drawn => k_is)
    (case k__law_drawn => k_is)
    (case a__law_is_whole => k_is)
    (case l__law_is_whole => k_is)
    (case c__law_is_whole => k_is)
    (case k__law_is_whole => k_is)
    (case a__law_word => k_is)
    (case l__law_word => k_is)
    (case c__law_word => k_is)
    (case k__law_word => k_is)
    (case a__law_odd => k_is)
    (case l__law_odd => k_is)
    (case c__law_odd => k_is)
    (case k__law_odd => k_is)
    (case a_law => k_is)
    (case l_law => k_is)
    (case c_law => k_is)
    (case k_law => k_is)
    (case pgTree => k_is)
    (case hdTree => k_is)
    (case poTree => k_is)
    (case saTree => k_is)
    (case mkTree => k_is)
    (case kcTree => k_is)
    (case noTree_hung => k_is)
    (case haTree => k_is)
    (case hmTree => k_is)
    (case icTree => k_is)
    (case tyTree => k_is)
    (case spO => k_is)
    (case tkO => k_is)
    (case pgWords => k_is)
    (case hdWords => k_is)
    (case poWords => k_is)
    (case saWords => k_is)
    (case mkWords => k_is)
    (case kcWords => k_is)
    (case noWords_blocks => k_is)
    (case noWords_ups => k_is)
    (case noWords_lists => k_is)
    (case haWords => k_is)
    (case hmWords => k_is)
    (case icWords => k_is)
    (case tyWords => k_is)
    (case xLBadTree => k_is)
    (case rvBadTree => decide +kernel)
    (case saEBadTree => k_is)
    (case exEBadTree => k_is)
    (case tyEBadTree => k_is)
    (case kcEBadTree => k_is)
    (case tiEBadTree => k_is)
    (case noEBadTree => k_is)
    (case xLTooMany => k_is)
    (case rvTooMany => decide +kernel)
    (case saETooMany => k_is)
    (case exETooMany => k_is)
    (case tyETooMany => k_is)
    (case kcETooMany => k_is)
    (case tiETooMany => k_is)
    (case noETooMany => k_is)
    (case gaETooMany => k_is)
    (case ggETooMany => k_is)
    (case hdETooMany => k_is)
    (case haETooMany => k_is)
    (case hmETooMany => k_is)
    (case swint => k_is)
    (case swbool => k_is)
    (case swtuple => k_is)
    (case swlist => k_is)
    (case xUNoBlock => k_is)
    (case rvUNoBlock => decide +kernel)
    (case saUNoBlock => k_is)
    (case exUNoBlock => k_is)
    (case tyUNoBlock => k_is)
    (case kcUNoBlock => k_is)
    (case iUNoBlock => k_is)
    (case tiUNoBlock => k_is)
    (case lUNoBlock => k_is)
    (case cUNoBlock => k_is)
    (case ceUNoBlock => k_is)
    (case coUNoBlock => k_is)
    (case vsU2NoBlock => rfl)
    (case fiUNoBlock => first | rfl | decide +kernel)
    (case evUNoBlock => exact fun _ _ _ _ _ => ⟨_, rfl⟩)
    (case upUNoBlock => ks_is)
    (case meUNoBlock => k_is)
    (case veUNoBlock => k_is)
    (case opU => k_is)
    (case tpU => first | rfl | decide +kernel)
    (case xUNoPlace => k_is)
    (case rvUNoPlace => decide +kernel)
    (case saUNoPlace => k_is)
    (case exUNoPlace => k_is)
    (case tyUNoPlace => k_is)
    (case kcUNoPlace => k_is)
    (case iUNoPlace => k_is)
    (case tiUNoPlace => k_is)
    (case lUNoPlace => k_is)
    (case cUNoPlace => k_is)
    (case ceUNoPlace => k_is)
    (case coUNoPlace => k_is)
    (case vsU2NoPlace => rfl)
    (case fiUNoPlace => first | rfl | decide +kernel)
    (case evUNoPlace => exact fun _ _ _ _ _ => ⟨_, rfl⟩)
    (case upUNoPlace => ks_is)
    (case meUNoPlace => k_is)
    (case veUNoPlace => k_is)
    (case xUOtherBlocks => k_is)
    (case rvUOtherBlocks => decide +kernel)
    (case saUOtherBlocks => k_is)
    (case exUOtherBlocks => k_is)
    (case tyUOtherBlocks => k_is)
    (case kcUOtherBlocks => k_is)
    (case iUOtherBlocks => k_is)
    (case tiUOtherBlocks => k_is)
    (case lUOtherBlocks => k_is)
    (case cUOtherBlocks => k_is)
    (case ceUOtherBlocks => k_is)
    (case coUOtherBlocks => k_is)
    (case vsU2OtherBlocks => rfl)
    (case fiUOtherBlocks => first | rfl | decide +kernel)
    (case evUOtherBlocks => exact fun _ _ _ _ _ => ⟨_, rfl⟩)
    (case upUOtherBlocks => ks_is)
    (case meUOtherBlocks => k_is)
    (case veUOtherBlocks => k_is)
    (case exV => k_is)
    (case hdV => k_is)
    (case tyV => k_is)
    (case gaENoBlock => k_is)
    (case ggENoBlock => k_is)
    (case hdENoBlock => k_is)
    (case haENoBlock => k_is)
    (case hmENoBlock => k_is)
    (case gaENoPlace => k_is)
    (case ggENoPlace => k_is)
    (case hdENoPlace => k_is)
    (case haENoPlace => k_is)
    (case hmENoPlace => k_is)
    (case gaEOtherBlocks => k_is)
    (case ggEOtherBlocks => k_is)
    (case hdEOtherBlocks => k_is)
    (case haEOtherBlocks => k_is)
    (case hmEOtherBlocks => k_is)
    (case sVNoBlock => k_is)
    (case icNoBlock => k_is)
    (case sVNoPlace => k_is)
    (case icNoPlace => k_is)
    (case sVOtherBlocks => k_is)
    (case icOtherBlocks => k_is)
    (case sVTooMany => k_is)
    (case icTooMany => k_is)
    (case veUTooMany => k_is)
    (case neNoBlock_NoPlace => first | rfl | decide +kernel)
    (case suNoBlock_NoPlace => k_is)
    (case neNoBlock_OtherBlocks => first | rfl | decide +kernel)
    (case suNoBlock_OtherBlocks => k_is)
    (case neNoBlock_TooMany => first | rfl | decide +kernel)
    (case suNoBlock_TooMany => k_is)
    (case neNoPlace_NoBlock => first | rfl | decide +kernel)
    (case suNoPlace_NoBlock => k_is)
    (case neNoPlace_OtherBlocks => first | rfl | decide +kernel)
    (case suNoPlace_OtherBlocks => k_is)
    (case neNoPlace_TooMany => first | rfl | decide +kernel)
    (case suNoPlace_TooMany => k_is)
    (case neOtherBlocks_NoBlock => first | rfl | decide +kernel)
    (case suOtherBlocks_NoBlock => k_is)
    (case neOtherBlocks_NoPlace => first | rfl | decide +kernel)
    (case suOtherBlocks_NoPlace => k_is)
    (case neOtherBlocks_TooMany => first | rfl | decide +kernel)
    (case suOtherBlocks_TooMany => k_is)
    (case neTooMany_NoBlock => first | rfl | decide +kernel)
    (case suTooMany_NoBlock => k_is)
    (case neTooMany_NoPlace => first | rfl | decide +kernel)
    (case suTooMany_NoPlace => k_is)
    (case neTooMany_OtherBlocks => first | rfl | decide +kernel)
    (case suTooMany_OtherBlocks => k_is)
    (case co_law => k_is)
    (case v11_law => rfl)
    (case hd_law => first | rfl | kernel_rfl | decide +kernel)
    (case nt_law => first | rfl | kernel_rfl | k_is)
    (case tl_law => exact PySem.W.km_tabs_of Y _ (by k_mem))
