import PyProof.Rows.All
import Wide.All
import OpenK.AllK
import Wide.FinOn
import HandS.Base
import HandS.Call
import HandS.List
import HandS.Comp
import HandS.Ends
import HandS.Words
import HandS.Codes
import HandS.IsInst
import HandS.Flow
import HandS.Conv
import HandS.Iter
import KE.GoesEnum
import KE.GoesEnumKw
import KE.GoesMore
import HandS.Exc
import HandS.ExcOwn
import HandS.ExcInit
import HandS.TryOnly
import HandS.WordsExc
import KE.KExcIs
import HandS.ExcField
import HandS.ExcIs
import HandS.TupMul
import HandS.Sort
import KE.KExcSuper
import HandS.Small
import PyProof.TupleOfSeq
import HandS.TupAny
import HandS.Star
import HandS.SetFor
import PyProof.EqKinds
import PyProof.InstNe
import OpenK.KOwn
import KE.KIndexOf
import HandS.SortRule
import HandS.Zip
import HandS.Dict
import HandS.Style
import KE.KRevSl
import KE.KEqDict
import HandS.SuiteRaise
import HandS.RaiseFrom
import HandS.ExcInitHot
import KE.KTryMore
import HandS.Strs
import PyProof.Rows.SetFrom
import HandS.WordsDict
import HandS.DictComp
import HandS.Finally
import HandS.Walk
import KE.KDictItemsList
import KE.KDictZip
import KE.LtData
import KE.SortData
import PyProof.MinMaxWalk
import PyProof.WalksMore
import KE.DataMinMax
import HandS.Text
import HandS.HotCalls
import HandS.OwnEq
import PyProof.CompUse
import PyProof.EvalArms
import PySem.Challenge.RW_foldervotes_k29_nests_judged
import KE.OsRunLaw
set_option Elab.async false
set_option linter.all false
namespace Fv
section
open PySem PySem.W PyProof.Rows
local macro_rules | `(tactic| k_head) => `(tactic| k_headL)
set_option maxRecDepth 100000 in
set_option maxHeartbeats 0 in
open_top hd for PySem.Challenge.rw_foldervotes_k29_nests_judged
end
end Fv
set_option maxRecDepth 100000
set_option maxHeartbeats 4000000
namespace Fv
open PySem PySem.Spec PyProof.Rows L2
section
variable {K : PySem.W.Frag} {σ : L2.St} {H H' H1 H2 : Hp} {i : Nat} {v x y : V} {Q : VK} {D : Ends} {t u : TS} {te ta tb : TE} {tt tt2 : TT} {a b p q : Addr} {o o' : HO} {xs ys : List V}
theorem x_seq (h : t { D with nx := u D } σ H) : tSeq t u D σ H := h
theorem x_next (h : D.nx σ H) : tNext D σ H := h
theorem x_drop (h : te σ H fun _ H1 => D.nx σ H1) : tDrop te D σ H := h
theorem x_ret (h : te σ H D.rt) : tRet te D σ H := h
theorem x_retN (h : D.rt .non H) : tRetN D σ H := h
theorem x_ifs (h : tt σ H fun b H1 => if b = true then t D σ H1 else u D σ H1) : tIfS tt t u D σ H := h
theorem x_asg {g : TG} (h : te σ H fun x H1 => g x σ H1 D.nx) : tAsg te g D σ H := h
theorem x_gname {R : L2.St → Hp → Prop} (h : R (σ.set i (some v)) H) : gName i v σ H R := h
theorem x_gsub {to ti : TE} {s : TSet} {R : L2.St → Hp → Prop} (h : to σ H fun o H1 => ti σ H1 fun i H2 => s o i v H2 fun H3 => R σ H3) : gSub to ti s v σ H R := h
theorem x_gtup {n : Nat} {g : TGs} {R : L2.St → Hp → Prop} (h : SqT K H a xs) (hl : xs.length = n) (q : g xs σ H R) : gTup K n g (.ref a) σ H R := ⟨a, xs, rfl, h, hl, q⟩
theorem x_gcons {g : TG} {gs : TGs} {R : L2.St → Hp → Prop} (h : g x σ H fun σ' H' => gs xs σ' H' R) : gCons g gs (x :: xs) σ H R := ⟨x, xs, rfl, h⟩
theorem x_gnil {R : L2.St → Hp → Prop} (h : R σ H) : gNil [] σ H R := ⟨rfl, h⟩
theorem x_var (h : σ[i]? = some (some v)) (q : Q v H) : tVar i σ H Q := ⟨v, h, q⟩
theorem x_c (q : Q v H) : tC v σ H Q := q
theorem x_op {r : R2} (h : ta σ H fun x H1 => tb σ H1 fun y H2 => r x y H2 Q) : tOp r ta tb σ H Q := h
theorem x_un {r : V → Hp → VK → Prop} (h : ta σ H fun x H1 => r x H1 Q) : tUn r ta σ H Q := h
theorem x_i0 {g : Int → Int → V} {i j : Int} (q : Q (g i j) H) : rI0 g (.int i) (.int j) H Q := ⟨i, j, rfl, rfl, q⟩
theorem x_i {C : Int → Int → Prop} {g : Int → Int → V} {i j : Int} (c : C i j) (q : Q (g i j) H) : rI C g (.int i) (.int j) H Q := ⟨i, j, rfl, rfl, c, q⟩
theorem x_u {g : Int → V} {i : Int} (q : Q (g i) H) : rU g (.int i) H Q := ⟨i, rfl, q⟩
theorem x_eq (h : scal x y = true) (q : Q (.bl (decide (x = y))) H) : rEq x y H Q := ⟨h, q⟩
theorem x_ne (h : scal x y = true) (q : Q (.bl (!decide (x = y))) H) : rNe x y H Q := ⟨h, q⟩
theorem x_eqI {i j : Int} (q : Q (.bl (decide (i = j))) H) : rEq (.int i) (.int j) H Q := ⟨rfl, by
  have e : decide (V.int i = V.int j) = decide (i = j) := by
    rw [Bool.eq_iff_iff]
    simp
  rw [e]
  exact q⟩
theorem x_neI {i j : Int} (q : Q (.bl (decide (i ≠ j))) H) : rNe (.int i) (.int j) H Q := ⟨rfl, by
  have e : (!decide (V.int i = V.int j)) = decide (i ≠ j) := by
    rw [Bool.eq_iff_iff]
    simp
  rw [e]
  exact q⟩
theorem x_ixL {i : Int} (h : SqL K H p xs) (ha : atI xs i = some v) (q : Q v H) : rIxL K (.ref p) (.int i) H Q := ⟨p, xs, i, v, rfl, rfl, h, ha, q⟩
theorem x_ixT {i : Int} (h : SqT K H p xs) (ha : atI xs i = some v) (q : Q v H) : rIxT K (.ref p) (.int i) H Q := ⟨p, xs, i, v, rfl, rfl, h, ha, q⟩
theorem x_setL {i : Int} {j : Nat} {R : Hp → Prop} (h : H p = some (.lst xs)) (hi : ixN xs.length i = some j) (q : R (upd H p (.lst (xs.set j v)))) : rSetL (.ref p) (.int i) v H R := ⟨p, xs, i, j, rfl, rfl, h, hi, q⟩
theorem x_test {R : Bool → Hp → Prop} (h : te σ H fun x H' => ∃ k, x = .bl k ∧ R k H') : tTest te σ H R := h
theorem x_b {R : Bool → Hp → Prop} (h : te σ H fun x H1 => ∃ c, x = .bl c ∧ R c H1) : tB te σ H R := h
theorem x_isb {c : Bool} {R : Bool → Prop} (h : R c) : ∃ k, V.bl c = .bl k ∧ R k := ⟨c, rfl, h⟩
theorem x_isi {c : Int} {R : Int → Prop} (h : R c) : ∃ k, V.int c = .int k ∧ R k := ⟨c, rfl, h⟩
theorem x_and {R : Bool → Hp → Prop} (h : tt σ H fun c H1 => if c = true then tt2 σ H1 R else R false H1) : tAnd tt tt2 σ H R := h
theorem x_or {R : Bool → Hp → Prop} (h : tt σ H fun c H1 => if c = true then R true H1 else tt2 σ H1 R) : tOr tt tt2 σ H R := h
theorem x_not {R : Bool → Hp → Prop} (h : tt σ H fun c H1 => R (!c) H1) : tNot tt σ H R := h
theorem x_andV (h : ta σ H fun x H1 => ∃ c, x = .bl c ∧ if c = true then tb σ H1 Q else Q (.bl false) H1) : tAndV ta tb σ H Q := h
theorem x_orV (h : ta σ H fun x H1 => ∃ c, x = .bl c ∧ if c = true then Q (.bl true) H1 else tb σ H1 Q) : tOrV ta tb σ H Q := h
theorem x_notV (h : ta σ H fun x H1 => ∃ c, x = .bl c ∧ Q (.bl (!c)) H1) : tNotV ta σ H Q := h
theorem x_ifx (h : tt σ H fun c H1 => if c = true then ta σ H1 Q else tb σ H1 Q) : tIf tt ta tb σ H Q := h
theorem x_nil {R : List V → Hp → Prop} (q : R [] H) : tNil σ H R := q
theorem x_cons {tr : TA} {R : List V → Hp → Prop} (h : te σ H fun x H1 => tr σ H1 fun xs H2 => R (x :: xs) H2) : tCons te tr σ H R := h
theorem x_cb {r : List V → Hp → VK → Prop} {ts : TA} (h : ts σ H fun vs H1 => r vs H1 Q) : tCB r ts σ H Q := h
theorem x_call {sp : Sp} {dvs : List V} {E : XK} {ts : TA} (h : ts σ H fun vs H1 => sp (vs ++ dvs) H1 Q E) : tCall sp dvs E ts σ H Q := h
theorem x_lst {ts : TA} (h : ts σ H fun xs H1 => xs.length ≤ sizeLine ∧ ∀ p, H1 p = none → Q (.ref p) (upd H1 p (.lst xs))) : tLst ts σ H Q := h
theorem x_tup {ts : TA} (h : ts σ H fun xs H1 => xs.length ≤ sizeLine ∧ ∀ p, H1 p = none → Q (.ref p) (upd H1 p (.tup xs))) : tTup ts σ H Q := h
theorem x_sl {r : V → Option Int → Option Int → Hp → VK → Prop} {tl th : TO} (h : te σ H fun x H1 => tl σ H1 fun l H2 => th σ H2 fun u H3 => r x l u H3 Q) : tSl r te tl th σ H Q := h
theorem x_nopart {R : Option Int → Hp → Prop} (h : R none H) : tNoPart σ H R := h
theorem x_part {R : Option Int → Hp → Prop} (h : te σ H fun x H1 => ∃ i, x = .int i ∧ R (some i) H1) : tPart te σ H R := h
theorem x_slL {lo hi : Option Int} (h : SqL K H a xs) (q : ∀ p, H p = none → Q (.ref p) (upd H p (.lst (cutV xs lo hi)))) : rSlL K (.ref a) lo hi H Q := ⟨a, xs, rfl, h, q⟩
theorem x_bm {T : String} {r : V → List V → Hp → VK → Prop} {ts : TA} (h : te σ H fun x H1 => tyV K T x H1 ∧ ts σ H1 fun xs H2 => r x xs H2 Q) : tBM K T r te ts σ H Q := h
theorem x_bm0 {T : String} {r : V → List V → Hp → VK → Prop} (h : te σ H fun x H1 => tyV K T x H1 ∧ r x [] H1 Q) : tBM0 K T r te σ H Q := h
theorem x_append (h : H p = some (.lst xs)) (hl : xs.length < sizeLine) (q : Q .non (upd H p (.lst (xs ++ [v])))) : rAppend (.ref p) [v] H Q := ⟨p, xs, v, rfl, rfl, h, hl, q⟩
theorem x_fld {C dx : Addr} {fs : List (Str × V)} {f : Str} (h : te σ H fun x H1 => ∃ a C dx fs v, x = .ref a ∧ H1 a = some (.ins C dx fs) ∧ Cls K C ∧ NoAttr K C f ∧ fs.lookup f = some v ∧ Q v H1) : tFld K te f σ H Q := h
theorem x_par {j : Nat} {ts : TA} (h : ts σ H fun vs H1 => ∃ v w, vs = [v, w] ∧ D.nx ((σ.set i (some v)).set j (some w)) H1) : tPar i j ts D σ H := h
theorem x_par2 {R : V → V → Prop} (h : R x y) : ∃ v w, [x, y] = [v, w] ∧ R v w := ⟨x, y, rfl, h⟩
theorem x_chain {r r' : R2} {tc : TE} (h : ta σ H fun x H1 => tb σ H1 fun y H2 => r x y H2 fun z H3 => ∃ k, z = .bl k ∧ (if k = true then tc σ H3 fun w' H4 => r' y w' H4 Q else Q (.bl false) H3)) : tChain r r' ta tb tc σ H Q := h
theorem x_aug {ti : TIp} (h : σ[i]? = some (some x)) (q : te σ H fun y H1 => ti x y H1 fun z H2 => D.nx (σ.set i (some z)) H2) : tAug i te ti D σ H := ⟨x, h, q⟩
theorem x_ipI {f : Int → Int → Int} {i j : Int} (q : Q (.int (f i j)) H) : ipI f (.int i) (.int j) H Q := ⟨i, j, rfl, rfl, q⟩
theorem x_ilist {R : It → Hp → Prop} {tl : TE} (h : tl σ H fun x H1 => ∃ a, x = .ref a ∧ (∃ xs, SqL K H1 a xs) ∧ R (Itl K a) H1) : iList K tl σ H R := h
theorem x_itup {R : It → Hp → Prop} {tl : TE} (h : tl σ H fun x H1 => ∃ a, x = .ref a ∧ (∃ xs, SqT K H1 a xs) ∧ R (Itt K a) H1) : iTup K tl σ H R := h
theorem x_isseq {A : List V → Prop} {R : Addr → Prop} (h : A xs) (q : R a) : ∃ b, V.ref a = .ref b ∧ (∃ xs, A xs) ∧ R b := ⟨a, rfl, ⟨xs, h⟩, q⟩
theorem x_rng1 {R : It → Hp → Prop} {ts : TA} (h : ts σ H fun vs H1 => ∃ j : Int, vs = [.int j] ∧ -(2 ^ 62) ≤ j ∧ j < 2 ^ 62 ∧ R (Itr 0 j.toNat) H1) : iRng1 ts σ H R := h
theorem x_rng2 {R : It → Hp → Prop} {ts : TA} (h : ts σ H fun vs H1 => ∃ i j : Int, vs = [.int i, .int j] ∧ (-(2 ^ 62) ≤ i ∧ i < 2 ^ 62 ∧ -(2 ^ 62) ≤ j ∧ j < 2 ^ 62) ∧ R (Itr i (j - i).toNat) H1) : iRng2 ts σ H R := h
theorem x_is1 {j : Int} {P1 P2 : Int → Prop} {R : Int → Prop} (h1 : P1 j) (h2 : P2 j) (q : R j) : ∃ k : Int, [V.int j] = [.int k] ∧ P1 k ∧ P2 k ∧ R k := ⟨j, rfl, h1, h2, q⟩
theorem x_is2 {i j : Int} {P1 : Int → Int → Prop} {R : Int → Int → Prop} (h1 : P1 i j) (q : R i j) : ∃ k l : Int, [V.int i, V.int j] = [.int k, .int l] ∧ P1 k l ∧ R k l := ⟨i, j, rfl, h1, q⟩
theorem x_yes {R : Bool → Hp → Prop} (h : R true H) : tYes σ H R := h
def rLen (K : PySem.W.Frag) : List V → Hp → VK → Prop := fun xs H Q => ∃ p ys, xs = [.ref p] ∧ (SqL K H p ys ∨ SqT K H p ys) ∧ Q (.int ys.length) H
def rInt : List V → Hp → VK → Prop := fun xs H Q => (∃ i, xs = [.int i] ∧ Q (.int i) H) ∨ ∃ k, xs = [.bl k] ∧ Q (.int (if k then 1 else 0)) H
def rAbs : List V → Hp → VK → Prop := fun xs H Q => ∃ i, xs = [.int i] ∧ Q (.int (if i < 0 then -i else i)) H
def rListOf (K : PySem.W.Frag) : List V → Hp → VK → Prop := fun xs H Q => ∃ p ys, xs = [.ref p] ∧ (SqL K H p ys ∨ SqT K H p ys) ∧ ∀ l, H l = none → Q (.ref l) (upd H l (.lst ys))
def rTupOf (K : PySem.W.Frag) : List V → Hp → VK → Prop := fun xs H Q => ∃ p ys, xs = [.ref p] ∧ ((SqL K H p ys ∧ ∀ l, H l = none → Q (.ref l) (upd H l (.tup ys))) ∨ (SqT K H p ys ∧ Q (.ref p) H))
theorem call_len {X : Cx} : CallR X (.builtin "len") (rLen X.K) := call_len_seq
theorem call_int {X : Cx} : CallR X (.type "int") rInt := call_int1
theorem call_ab {X : Cx} : CallR X (.builtin "abs") rAbs := call_abs
theorem call_lst {X : Cx} : CallR X (.type "list") (rListOf X.K) := call_list_of
theorem call_tpl {X : Cx} : CallR X (.type "tuple") (rTupOf X.K) := call_tuple_of
theorem x_lenL (h : SqL K H p xs) (q : Q (.int xs.length) H) : rLen K [.ref p] H Q := ⟨p, xs, rfl, .inl h, q⟩
theorem x_lenT (h : SqT K H p xs) (q : Q (.int xs.length) H) : rLen K [.ref p] H Q := ⟨p, xs, rfl, .inr h, q⟩
theorem x_int1 {j : Int} (q : Q (.int j) H) : rInt [.int j] H Q := .inl ⟨j, rfl, q⟩
theorem x_abs {j : Int} (q : Q (.int (if j < 0 then -j else j)) H) : rAbs [.int j] H Q := ⟨j, rfl, q⟩
theorem x_listL (h : SqL K H p xs) (q : ∀ l, H l = none → Q (.ref l) (upd H l (.lst xs))) : rListOf K [.ref p] H Q := ⟨p, xs, rfl, .inl h, q⟩
theorem x_listT (h : SqT K H p xs) (q : ∀ l, H l = none → Q (.ref l) (upd H l (.lst xs))) : rListOf K [.ref p] H Q := ⟨p, xs, rfl, .inr h, q⟩
theorem x_tupL (h : SqL K H p xs) (q : ∀ l, H l = none → Q (.ref l) (upd H l (.tup xs))) : rTupOf K [.ref p] H Q := ⟨p, xs, rfl, .inl ⟨h, q⟩⟩
theorem x_tupT (h : SqT K H p xs) (q : Q (.ref p) H) : rTupOf K [.ref p] H Q := ⟨p, xs, rfl, .inr ⟨h, q⟩⟩
theorem x_isd {c : Prop} [Decidable c] {A B : Prop} (h1 : c → A) (h2 : ¬ c → B) : if decide c = true then A else B := by
  by_cases h : c
  · rw [if_pos (decide_eq_true h)]
    exact h1 h
  · rw [if_neg (by rw [decide_eq_false h]; exact Bool.false_ne_true)]
    exact h2 h
theorem x_isdT {c : Prop} [Decidable c] {A B : Prop} (h : c) (h1 : A) : if decide c = true then A else B := x_isd (fun _ => h1) fun n => (n h).elim
theorem x_isdF {c : Prop} [Decidable c] {A B : Prop} (h : ¬ c) (h1 : B) : if decide c = true then A else B := x_isd (fun n => (h n).elim) fun _ => h1
theorem x_nF {A B : Prop} (h : A) : if (!false) = true then A else B := iteT h
theorem x_nT {A B : Prop} (h : B) : if (!true) = true then A else B := iteF h
theorem lp_range {g : TG} {tb : TS} {nx : L2.St → Hp → Prop} {rt : VK} {σ : L2.St} {H : Hp} {lo : Int} {n : Nat} (Pv : Nat → L2.St → Hp → Prop) (h0 : Pv 0 σ H) (hs : ∀ i σ H, i < n → Pv i σ H → g (.int (lo + i)) σ H fun σ2 H2 => tb { nx := Pv (i + 1), rt := rt, bk := nx, ct := Pv (i + 1) } σ2 H2) (hd : ∀ σ H, Pv n σ H → nx σ H) :
    ∃ W : Nat → Nat → L2.St → Hp → Prop, (∃ m, W 0 m σ H) ∧ ∀ i m σ H, W i m σ H → ((Itr lo n).stop i H ∧ nx σ H) ∨ ((Itr lo n).go i H ∧ ∃ N : L2.St → Hp → Prop, (∀ σ' H', N σ' H' → ∃ m', m' < m ∧ W (i + 1) m' σ' H') ∧ ∀ x H', (Itr lo n).yld i H x H' → g x σ H' fun σ2 H2 => tb { nx := N, rt := rt, bk := nx, ct := N } σ2 H2) :=
  for_range (D := { nx := nx, rt := rt}) Pv h0 hs hd
theorem lp_list {g : TG} {tb : TS} {nx : L2.St → Hp → Prop} {rt : VK} {σ : L2.St} {H : Hp} {K : PySem.W.Frag} {a : Addr} {xs : List V} (Pv : Nat → L2.St → Hp → Prop) (h0 : Pv 0 σ H) (hl : ∀ i σ H, i ≤ xs.length → Pv i σ H → SqL K H a xs) (hs : ∀ i x σ H, xs[i]? = some x → Pv i σ H → g x σ H fun σ2 H2 => tb { nx := Pv (i + 1), rt := rt, bk := nx, ct := Pv (i + 1) } σ2 H2) (hd : ∀ σ H, Pv xs.length σ H → nx σ H) :
    ∃ W : Nat → Nat → L2.St → Hp → Prop, (∃ m, W 0 m σ H) ∧ ∀ i m σ H, W i m σ H → ((Itl K a).stop i H ∧ nx σ H) ∨ ((Itl K a).go i H ∧ ∃ N : L2.St → Hp → Prop, (∀ σ' H', N σ' H' → ∃ m', m' < m ∧ W (i + 1) m' σ' H') ∧ ∀ x H', (Itl K a).yld i H x H' → g x σ H' fun σ2 H2 => tb { nx := N, rt := rt, bk := nx, ct := N } σ2 H2) :=
  for_list (D := { nx := nx, rt := rt}) Pv h0 hl hs hd
theorem lp_tup {g : TG} {tb : TS} {nx : L2.St → Hp → Prop} {rt : VK} {σ : L2.St} {H : Hp} {K : PySem.W.Frag} {a : Addr} {xs : List V} (Pv : Nat → L2.St → Hp → Prop) (h0 : Pv 0 σ H) (hl : ∀ i σ H, i ≤ xs.length → Pv i σ H → SqT K H a xs) (hs : ∀ i x σ H, xs[i]? = some x → Pv i σ H → g x σ H fun σ2 H2 => tb { nx := Pv (i + 1), rt := rt, bk := nx, ct := Pv (i + 1) } σ2 H2) (hd : ∀ σ H, Pv xs.length σ H → nx σ H) :
    ∃ W : Nat → Nat → L2.St → Hp → Prop, (∃ m, W 0 m σ H) ∧ ∀ i m σ H, W i m σ H → ((Itt K a).stop i H ∧ nx σ H) ∨ ((Itt K a).go i H ∧ ∃ N : L2.St → Hp → Prop, (∀ σ' H', N σ' H' → ∃ m', m' < m ∧ W (i + 1) m' σ' H') ∧ ∀ x H', (Itt K a).yld i H x H' → g x σ H' fun σ2 H2 => tb { nx := N, rt := rt, bk := nx, ct := N } σ2 H2) :=
  for_tup (D := { nx := nx, rt := rt}) Pv h0 hl hs hd
/-! heaps -/
theorem keepN (h : H a = some o) (hp : H p = none) : upd H p o' a = some o := by
  rw [upd_ne (ne_of_none h hp)]
  exact h
theorem keepM (n : a ≠ p) (h : H a = some o) : upd H p o' a = some o := by
  rw [upd_ne n]
  exact h
theorem keepLM (n : a ≠ p) (h : SqL K H a xs) : SqL K (upd H p o') a xs := by
  rcases h with (h | ⟨u, h⟩) | h
  · exact .inl (.inl (keepM n h))
  · exact .inl (.inr ⟨u, keepM n h⟩)
  · exact .inr h
theorem keepLN (h : SqL K H a xs) (hp : H p = none) : SqL K (upd H p o') a xs := by
  rcases h with (h | ⟨u, h⟩) | h
  · exact .inl (.inl (keepN h hp))
  · exact .inl (.inr ⟨u, keepN h hp⟩)
  · exact .inr h
theorem keepTM (n : a ≠ p) (h : SqT K H a xs) : SqT K (upd H p o') a xs := by
  rcases h with (h | ⟨u, h⟩) | h
  · exact .inl (.inl (keepM n h))
  · exact .inl (.inr ⟨u, keepM n h⟩)
  · exact .inr h
theorem keepTN (h : SqT K H a xs) (hp : H p = none) : SqT K (upd H p o') a xs := by
  rcases h with (h | ⟨u, h⟩) | h
  · exact .inl (.inl (keepN h hp))
  · exact .inl (.inr ⟨u, keepN h hp⟩)
  · exact .inr h
theorem _root_.L2.Same.seqT {K : PySem.W.Frag} {H H' : Hp} {a : Addr} {xs : List V} (e : Same H H') (h : SqT K H a xs) : SqT K H' a xs := by
  rcases h with (h | ⟨o, h⟩) | h
  · exact .inl (.inl (e _ _ h))
  · exact .inl (.inr ⟨o, e _ _ h⟩)
  · exact .inr h
theorem same_new (s : Same H H1) (hp : H1 p = none) : Same H (upd H1 p o) := fun b u e => keepN (s b u e) hp
theorem same_mut (s : Same H H1) (hp : H p = none) : Same H (upd H1 p o) := fun b u e => keepM (ne_of_none e hp) (s b u e)
/-- all but what stands at p is as it was -/
def But (p : Addr) (H H' : Hp) : Prop := ∀ b o, b ≠ p → H b = some o → H' b = some o
theorem But.refl (p : Addr) (H : Hp) : But p H H := fun _ _ _ h => h
theorem But.trans (a : But p H H1) (b : But p H1 H2) : But p H H2 := fun c o n h => b c o n (a c o n h)
theorem But.of (s : Same H H1) : But p H H1 := fun b o _ h => s b o h
theorem But.new (s : But p H H1) (hq : H1 q = none) : But p H (upd H1 q o) := fun b u n e => keepN (s b u n e) hq
theorem But.mut (s : But p H H1) : But p H (upd H1 p o) := fun b u n e => keepM n (s b u n e)
theorem But.mutF (s : But p H H1) (hq : H q = none) : But p H (upd H1 q o) := fun b u n e => keepM (ne_of_none e hq) (s b u n e)
theorem But.seq (s : But p H H1) (n : a ≠ p) (h : SqL K H a xs) : SqL K H1 a xs := by
  rcases h with (h | ⟨o, h⟩) | h
  · exact .inl (.inl (s _ _ n h))
  · exact .inl (.inr ⟨o, s _ _ n h⟩)
  · exact .inr h
theorem But.seqT (s : But p H H1) (n : a ≠ p) (h : SqT K H a xs) : SqT K H1 a xs := by
  rcases h with (h | ⟨o, h⟩) | h
  · exact .inl (.inl (s _ _ n h))
  · exact .inl (.inr ⟨o, s _ _ n h⟩)
  · exact .inr h
theorem But.same (s : But p H H1) (hp : H p = none) : Same H H1 := fun b o e => s b o (ne_of_none e hp) e
end
theorem same_trans {H H1 H2 : Hp} (b : Same H1 H2) (a : Same H H1) : Same H H2 := Same.trans a b
theorem but_trans {H H1 H2 : Hp} {p : Addr} (b : But p H1 H2) (a : But p H H1) : But p H H2 := But.trans a b
theorem ne_none' {H : Hp} {a b : Addr} {o : HO} (h' : H b = none) (h : H a = some o) : b ≠ a := Ne.symm (ne_of_none h h')
theorem cut1 (xs : List V) : cutV xs (some 1) none = xs.drop 1 := by
  unfold cutV
  rw [show HT.sIx xs.length 0 (some 1) = min 1 xs.length from HT.sIx_nat xs.length 0 1, HT.sIx_none]
  cases xs with
  | nil => rfl
  | cons x r =>
    rw [show min 1 (x :: r).length = 1 by
      rw [List.length_cons]
      omega]
    show (List.take ((x :: r).length - 1) r) = r
    rw [List.length_cons, Nat.add_sub_cancel]
    exact List.take_length
theorem at_mod {xs : List V} {z : Int} (h : 0 < xs.length) : ∃ v, atI xs (z % (xs.length : Int)) = some v ∧ v ∈ xs := by
  have h1 : 0 ≤ z % (xs.length : Int) := Int.emod_nonneg _ (by omega)
  have h2 : z % (xs.length : Int) < xs.length := Int.emod_lt_of_pos _ (by omega)
  obtain ⟨j, hj⟩ := Int.eq_ofNat_of_zero_le h1
  have hl : j < xs.length := by omega
  refine ⟨xs[j], ?_, List.getElem_mem hl⟩
  rw [hj]
  exact atI_nat (List.getElem?_eq_getElem hl)
theorem at_lt {xs : List V} {d : Int} (h1 : 0 ≤ d) (h2 : d < xs.length) : ∃ v, atI xs d = some v ∧ v ∈ xs := by
  obtain ⟨j, hj⟩ := Int.eq_ofNat_of_zero_le h1
  have hl : j < xs.length := by omega
  refine ⟨xs[j], ?_, List.getElem_mem hl⟩
  rw [hj]
  exact atI_nat (List.getElem?_eq_getElem hl)
/-- a def that is called by its name -/
structure Cal (K : PySem.W.Frag) (mg : Str → Option Value) (x : Str) (f : Addr) (fd : FuncData) (ps : List Str) : Prop where
  g : mg x = some (.ref f)
  k : PySem.W.keepIn K (.ref f) = true
  b : Binds K fd ps []
theorem szLe {n : Nat} (h : n ≤ 100000) : n ≤ sizeLine := Nat.le_trans h (by decide)
theorem szLt {n : Nat} (h : n < 100000) : n < sizeLine := Nat.lt_of_lt_of_le h (by decide)
end Fv
set_option maxRecDepth 100000
set_option maxHeartbeats 1000000
namespace Fv
open PySem PySem.Spec L2
/-- a value of a kind that is known -/
def Kn (H : Hp) : V → Prop
  | .non => True
  | .bl _ => True
  | .int _ => True
  | .str _ => True
  | .ref a => (∃ xs, H a = some (.lst xs)) ∨ (∃ xs, H a = some (.tup xs)) ∨ ∃ kvs, H a = some (.dK kvs)
  | _ => False
theorem Kn.same {H H' : Hp} {x : V} (s : Same H H') (h : Kn H x) : Kn H' x := by
  cases x with
  | ref a =>
    rcases h with ⟨xs, h⟩ | ⟨xs, h⟩ | ⟨xs, h⟩
    · exact .inl ⟨xs, s _ _ h⟩
    · exact .inr (.inl ⟨xs, s _ _ h⟩)
    · exact .inr (.inr ⟨xs, s _ _ h⟩)
  | _ => exact h
theorem Kn.but {H H' : Hp} {p : Addr} {x : V} (s : But p H H') (hp : x ≠ .ref p) (h : Kn H x) : Kn H' x := by
  cases x with
  | ref a =>
    have n : a ≠ p := fun e => hp (by rw [e])
    rcases h with ⟨xs, h⟩ | ⟨xs, h⟩ | ⟨xs, h⟩
    · exact .inl ⟨xs, s _ _ n h⟩
    · exact .inr (.inl ⟨xs, s _ _ n h⟩)
    · exact .inr (.inr ⟨xs, s _ _ n h⟩)
  | _ => exact h
def isIntV : V → Bool
  | .int _ => true
  | .bl _ => true
  | _ => false
def isBlV : V → Bool
  | .bl _ => true
  | _ => false
def numV (lo hi : Int) : V → Bool
  | .int i => decide (lo ≤ i) && decide (i ≤ hi)
  | _ => false
theorem numT {lo hi i : Int} (c : lo ≤ i) : numV lo hi (.int i) = decide (i ≤ hi) := by
  show (decide (lo ≤ i) && decide (i ≤ hi)) = _
  rw [decide_eq_true c]
  rfl
theorem numF {lo hi i : Int} (c : ¬ lo ≤ i) : numV lo hi (.int i) = false := by
  show (decide (lo ≤ i) && decide (i ≤ hi)) = _
  rw [decide_eq_false c]
  rfl
section
variable {K : PySem.W.Frag} {σ : L2.St} {H H' H1 H2 : Hp} {i : Nat} {v x y : V} {Q : VK} {a b p q : Addr} {o o' : HO} {xs ys : List V}
theorem x_isK {T : String} {t : String} {b : Bool} (ty : TyX K H x (.type t)) (e : kitB t T = some b) (q : Q (.bl b) H) : rIsi K [x, .ty T] H Q := ⟨x, .ty T, .type t, .type T, b, rfl, .ty T, ty, kit_ty e, q⟩
theorem x_isInt (h : Kn H x) (q : Q (.bl (isIntV x)) H) : rIsi K [x, .ty "int"] H Q := by
  cases x with
  | non => exact x_isK (b := false) (.base .non) (by decide +kernel) q
  | bl b => exact x_isK (b := true) (.base (.bl b)) (by decide +kernel) q
  | int i => exact x_isK (b := true) (.base (.int i)) (by decide +kernel) q
  | str i => exact x_isK (b := false) (.base (.str i)) (by decide +kernel) q
  | byt b => exact h.elim
  | flt b => exact h.elim
  | ty b => exact h.elim
  | ref a =>
    rcases h with ⟨xs, h⟩ | ⟨xs, h⟩ | ⟨xs, h⟩
    · exact x_isK (b := false) (.base (.lst h)) (by decide +kernel) q
    · exact x_isK (b := false) (.base (.tup h)) (by decide +kernel) q
    · exact x_isK (b := false) (.base (.dK h)) (by decide +kernel) q
theorem x_isBl (h : Kn H x) (q : Q (.bl (isBlV x)) H) : rIsi K [x, .ty "bool"] H Q := by
  cases x with
  | non => exact x_isK (b := false) (.base .non) (by decide +kernel) q
  | bl b => exact x_isK (b := true) (.base (.bl b)) (by decide +kernel) q
  | int i => exact x_isK (b := false) (.base (.int i)) (by decide +kernel) q
  | str i => exact x_isK (b := false) (.base (.str i)) (by decide +kernel) q
  | byt b => exact h.elim
  | flt b => exact h.elim
  | ty b => exact h.elim
  | ref a =>
    rcases h with ⟨xs, h⟩ | ⟨xs, h⟩ | ⟨xs, h⟩
    · exact x_isK (b := false) (.base (.lst h)) (by decide +kernel) q
    · exact x_isK (b := false) (.base (.tup h)) (by decide +kernel) q
    · exact x_isK (b := false) (.base (.dK h)) (by decide +kernel) q
/-- isinstance(x, (T1, T2)), the pair just laid -/
theorem x_isiT2 {T1 T2 t : String} {b1 b2 : Bool} (hp : H p = some (.tup [.ty T1, .ty T2])) (ty : TyX K H x (.type t)) (e1 : kitB t T1 = some b1) (e2 : kitB t T2 = some b2) (q : Q (.bl (b1 || b2)) H) : rIsiT K [x, .ref p] H Q := by
  refine ⟨x, p, [.ty T1, .ty T2], .type t, [.type T1, .type T2], b1 || b2, rfl, hp, .cons (.ty _) (.cons (.ty _) .nil), ty, ?_, q⟩
  cases b1 with
  | true => exact kitAny_cons (kit_ty e1) (fun h => nomatch h) (fun _ => rfl)
  | false =>
    refine kitAny_cons (kit_ty e1) (fun _ => ?_) (fun h => nomatch h)
    cases b2 with
    | true => exact kitAny_cons (kit_ty e2) (fun h => nomatch h) (fun _ => rfl)
    | false => exact kitAny_cons (kit_ty e2) (fun _ => kitAny_nil) (fun h => nomatch h)
end
section
variable {K : PySem.W.Frag} {H : Hp} {Q : VK} {a : Addr} {xs : List V}
theorem isi_non_int (q : Q (.bl false) H) : rIsi K [.non, .ty "int"] H Q := x_isK (b := false) (.base .non) (by decide +kernel) q
theorem isi_non_bool (q : Q (.bl false) H) : rIsi K [.non, .ty "bool"] H Q := x_isK (b := false) (.base .non) (by decide +kernel) q
theorem isi_non_tuple (q : Q (.bl false) H) : rIsi K [.non, .ty "tuple"] H Q := x_isK (b := false) (.base .non) (by decide +kernel) q
theorem isi_non_list (q : Q (.bl false) H) : rIsi K [.non, .ty "list"] H Q := x_isK (b := false) (.base .non) (by decide +kernel) q
theorem isi_non_dict (q : Q (.bl false) H) : rIsi K [.non, .ty "dict"] H Q := x_isK (b := false) (.base .non) (by decide +kernel) q
theorem isi_non_str (q : Q (.bl false) H) : rIsi K [.non, .ty "str"] H Q := x_isK (b := false) (.base .non) (by decide +kernel) q
theorem isi_bl_int {c : Bool} (q : Q (.bl true) H) : rIsi K [.bl c, .ty "int"] H Q := x_isK (b := true) (.base (.bl c)) (by decide +kernel) q
theorem isi_bl_bool {c : Bool} (q : Q (.bl true) H) : rIsi K [.bl c, .ty "bool"] H Q := x_isK (b := true) (.base (.bl c)) (by decide +kernel) q
theorem isi_bl_tuple {c : Bool} (q : Q (.bl false) H) : rIsi K [.bl c, .ty "tuple"] H Q := x_isK (b := false) (.base (.bl c)) (by decide +kernel) q
theorem isi_bl_list {c : Bool} (q : Q (.bl false) H) : rIsi K [.bl c, .ty "list"] H Q := x_isK (b := false) (.base (.bl c)) (by decide +kernel) q
theorem isi_bl_dict {c : Bool} (q : Q (.bl false) H) : rIsi K [.bl c, .ty "dict"] H Q := x_isK (b := false) (.base (.bl c)) (by decide +kernel) q
theorem isi_bl_str {c : Bool} (q : Q (.bl false) H) : rIsi K [.bl c, .ty "str"] H Q := x_isK (b := false) (.base (.bl c)) (by decide +kernel) q
theorem isi_int_int {j : Int} (q : Q (.bl true) H) : rIsi K [.int j, .ty "int"] H Q := x_isK (b := true) (.base (.int j)) (by decide +kernel) q
theorem isi_int_bool {j : Int} (q : Q (.bl false) H) : rIsi K [.int j, .ty "bool"] H Q := x_isK (b := false) (.base (.int j)) (by decide +kernel) q
theorem isi_int_tuple {j : Int} (q : Q (.bl false) H) : rIsi K [.int j, .ty "tuple"] H Q := x_isK (b := false) (.base (.int j)) (by decide +kernel) q
theorem isi_int_list {j : Int} (q : Q (.bl false) H) : rIsi K [.int j, .ty "list"] H Q := x_isK (b := false) (.base (.int j)) (by decide +kernel) q
theorem isi_int_dict {j : Int} (q : Q (.bl false) H) : rIsi K [.int j, .ty "dict"] H Q := x_isK (b := false) (.base (.int j)) (by decide +kernel) q
theorem isi_int_str {j : Int} (q : Q (.bl false) H) : rIsi K [.int j, .ty "str"] H Q := x_isK (b := false) (.base (.int j)) (by decide +kernel) q
theorem isi_str_int {j : Str} (q : Q (.bl false) H) : rIsi K [.str j, .ty "int"] H Q := x_isK (b := false) (.base (.str j)) (by decide +kernel) q
theorem isi_str_bool {j : Str} (q : Q (.bl false) H) : rIsi K [.str j, .ty "bool"] H Q := x_isK (b := false) (.base (.str j)) (by decide +kernel) q
theorem isi_str_tuple {j : Str} (q : Q (.bl false) H) : rIsi K [.str j, .ty "tuple"] H Q := x_isK (b := false) (.base (.str j)) (by decide +kernel) q
theorem isi_str_list {j : Str} (q : Q (.bl false) H) : rIsi K [.str j, .ty "list"] H Q := x_isK (b := false) (.base (.str j)) (by decide +kernel) q
theorem isi_str_dict {j : Str} (q : Q (.bl false) H) : rIsi K [.str j, .ty "dict"] H Q := x_isK (b := false) (.base (.str j)) (by decide +kernel) q
theorem isi_str_str {j : Str} (q : Q (.bl true) H) : rIsi K [.str j, .ty "str"] H Q := x_isK (b := true) (.base (.str j)) (by decide +kernel) q
theorem isi_lst_int (h : H a = some (.lst xs)) (q : Q (.bl false) H) : rIsi K [.ref a, .ty "int"] H Q := x_isK (b := false) (.base (.lst h)) (by decide +kernel) q
theorem isi_lst_bool (h : H a = some (.lst xs)) (q : Q (.bl false) H) : rIsi K [.ref a, .ty "bool"] H Q := x_isK (b := false) (.base (.lst h)) (by decide +kernel) q
theorem isi_lst_tuple (h : H a = some (.lst xs)) (q : Q (.bl false) H) : rIsi K [.ref a, .ty "tuple"] H Q := x_isK (b := false) (.base (.lst h)) (by decide +kernel) q
theorem isi_lst_list (h : H a = some (.lst xs)) (q : Q (.bl true) H) : rIsi K [.ref a, .ty "list"] H Q := x_isK (b := true) (.base (.lst h)) (by decide +kernel) q
theorem isi_lst_dict (h : H a = some (.lst xs)) (q : Q (.bl false) H) : rIsi K [.ref a, .ty "dict"] H Q := x_isK (b := false) (.base (.lst h)) (by decide +kernel) q
theorem isi_lst_str (h : H a = some (.lst xs)) (q : Q (.bl false) H) : rIsi K [.ref a, .ty "str"] H Q := x_isK (b := false) (.base (.lst h)) (by decide +kernel) q
theorem isi_tup_int (h : H a = some (.tup xs)) (q : Q (.bl false) H) : rIsi K [.ref a, .ty "int"] H Q := x_isK (b := false) (.base (.tup h)) (by decide +kernel) q
theorem isi_tup_bool (h : H a = some (.tup xs)) (q : Q (.bl false) H) : rIsi K [.ref a, .ty "bool"] H Q := x_isK (b := false) (.base (.tup h)) (by decide +kernel) q
theorem isi_tup_tuple (h : H a = some (.tup xs)) (q : Q (.bl true) H) : rIsi K [.ref a, .ty "tuple"] H Q := x_isK (b := true) (.base (.tup h)) (by decide +kernel) q
theorem isi_tup_list (h : H a = some (.tup xs)) (q : Q (.bl false) H) : rIsi K [.ref a, .ty "list"] H Q := x_isK (b := false) (.base (.tup h)) (by decide +kernel) q
theorem isi_tup_dict (h : H a = some (.tup xs)) (q : Q (.bl false) H) : rIsi K [.ref a, .ty "dict"] H Q := x_isK (b := false) (.base (.tup h)) (by decide +kernel) q
theorem isi_tup_str (h : H a = some (.tup xs)) (q : Q (.bl false) H) : rIsi K [.ref a, .ty "str"] H Q := x_isK (b := false) (.base (.tup h)) (by decide +kernel) q
theorem isi_dK_int {kvs : List (Key × V)} (h : H a = some (.dK kvs)) (q : Q (.bl false) H) : rIsi K [.ref a, .ty "int"] H Q := x_isK (b := false) (.base (.dK h)) (by decide +kernel) q
theorem isi_dK_bool {kvs : List (Key × V)} (h : H a = some (.dK kvs)) (q : Q (.bl false) H) : rIsi K [.ref a, .ty "bool"] H Q := x_isK (b := false) (.base (.dK h)) (by decide +kernel) q
theorem isi_dK_tuple {kvs : List (Key × V)} (h : H a = some (.dK kvs)) (q : Q (.bl false) H) : rIsi K [.ref a, .ty "tuple"] H Q := x_isK (b := false) (.base (.dK h)) (by decide +kernel) q
theorem isi_dK_list {kvs : List (Key × V)} (h : H a = some (.dK kvs)) (q : Q (.bl false) H) : rIsi K [.ref a, .ty "list"] H Q := x_isK (b := false) (.base (.dK h)) (by decide +kernel) q
theorem isi_dK_dict {kvs : List (Key × V)} (h : H a = some (.dK kvs)) (q : Q (.bl true) H) : rIsi K [.ref a, .ty "dict"] H Q := x_isK (b := true) (.base (.dK h)) (by decide +kernel) q
theorem isi_dK_str {kvs : List (Key × V)} (h : H a = some (.dK kvs)) (q : Q (.bl false) H) : rIsi K [.ref a, .ty "str"] H Q := x_isK (b := false) (.base (.dK h)) (by decide +kernel) q
end
section
variable {K : PySem.W.Frag} {σ : L2.St} {H H' H1 H2 : Hp} {i : Nat} {v x y : V} {Q : VK} {a b p q : Addr} {o o' : HO} {xs ys : List V}
theorem x_isiTn {T1 T2 t : String} (hp : H p = some (.tup [.ty T1, .ty T2])) (ty : TyX K H x (.type t)) (e1 : kitB t T1 = some false) (e2 : kitB t T2 = some false) (q : Q (.bl false) H) : rIsiT K [x, .ref p] H Q := x_isiT2 hp ty e1 e2 q
theorem x_isiT1 {T1 T2 t : String} (hp : H p = some (.tup [.ty T1, .ty T2])) (ty : TyX K H x (.type t)) (e1 : kitB t T1 = some true) (e2 : kitB t T2 = some false) (q : Q (.bl true) H) : rIsiT K [x, .ref p] H Q := x_isiT2 hp ty e1 e2 q
theorem x_isiTb {T1 T2 t : String} (hp : H p = some (.tup [.ty T1, .ty T2])) (ty : TyX K H x (.type t)) (e1 : kitB t T1 = some false) (e2 : kitB t T2 = some true) (q : Q (.bl true) H) : rIsiT K [x, .ref p] H Q := x_isiT2 hp ty e1 e2 q
def sca : V → Bool
  | .non => true
  | .bl _ => true
  | .int _ => true
  | .str _ => true
  | _ => false
/-- two values that are the same through and through, at most so deep -/
def Al (K : PySem.W.Frag) (H : Hp) : Nat → V → V → Prop
  | 0, x, y => x = y ∧ sca x = true
  | n + 1, x, y => (x = y ∧ sca x = true) ∨
      (∃ (a b : Addr) (xs ys : List V), x = .ref a ∧ y = .ref b ∧ H a = some (.lst xs) ∧ H b = some (.lst ys) ∧ xs.length = ys.length ∧ ys.length ≤ 1000 ∧ ∀ i (h1 : i < xs.length) (h2 : i < ys.length), Al K H n xs[i] ys[i]) ∨
      (∃ (a b : Addr) (xs ys : List V), x = .ref a ∧ y = .ref b ∧ H a = some (.tup xs) ∧ H b = some (.tup ys) ∧ xs.length = ys.length ∧ ys.length ≤ 1000 ∧ ∀ i (h1 : i < xs.length) (h2 : i < ys.length), Al K H n xs[i] ys[i])
theorem Al.same : ∀ {n : Nat} {x y : V}, Same H H' → Al K H n x y → Al K H' n x y
  | 0, _, _, _, h => h
  | n + 1, x, y, s, h => by
    rcases h with h | ⟨a, b, xs, ys, e1, e2, h1, h2, hl, hz, h⟩ | ⟨a, b, xs, ys, e1, e2, h1, h2, hl, hz, h⟩
    · exact .inl h
    · exact .inr (.inl ⟨a, b, xs, ys, e1, e2, s _ _ h1, s _ _ h2, hl, hz, fun i k1 k2 => (h i k1 k2).same s⟩)
    · exact .inr (.inr ⟨a, b, xs, ys, e1, e2, s _ _ h1, s _ _ h2, hl, hz, fun i k1 k2 => (h i k1 k2).same s⟩)
theorem Al.up {n : Nat} (h : Al K H n x y) : Al K H (n + 1) x y := by
  induction n generalizing x y with
  | zero => exact .inl h
  | succ n ih =>
    rcases h with h | ⟨a, b, xs, ys, e1, e2, h1, h2, hl, hz, h⟩ | ⟨a, b, xs, ys, e1, e2, h1, h2, hl, hz, h⟩
    · exact .inl h
    · exact .inr (.inl ⟨a, b, xs, ys, e1, e2, h1, h2, hl, hz, fun i k1 k2 => ih (h i k1 k2)⟩)
    · exact .inr (.inr ⟨a, b, xs, ys, e1, e2, h1, h2, hl, hz, fun i k1 k2 => ih (h i k1 k2)⟩)
theorem Al.le {n m : Nat} (hm : n ≤ m) (h : Al K H n x y) : Al K H m x y := by
  induction hm with
  | refl => exact h
  | step _ ih => exact ih.up
theorem Al.sca {n : Nat} (hx : Fv.sca x = true) : Al K H n x x := by
  cases n with
  | zero => exact ⟨rfl, hx⟩
  | succ n => exact .inl ⟨rfl, hx⟩
theorem Al.tups {n : Nat} {zs : List V} (ha : H a = some (.tup zs)) (hb : H b = some (.tup zs)) (hz : zs.length ≤ 1000) (h : ∀ z ∈ zs, Fv.sca z = true) : Al K H (n + 1) (.ref a) (.ref b) :=
  .inr (.inr ⟨a, b, zs, zs, rfl, rfl, ha, hb, rfl, hz, fun i h1 h2 => Al.sca (h _ (List.getElem_mem h1))⟩)
theorem Al.lsts {n : Nat} {zs : List V} (ha : H a = some (.lst zs)) (hb : H b = some (.lst zs)) (hz : zs.length ≤ 1000) (h : ∀ z ∈ zs, Fv.sca z = true) : Al K H (n + 1) (.ref a) (.ref b) :=
  .inr (.inl ⟨a, b, zs, zs, rfl, rfl, ha, hb, rfl, hz, fun i h1 h2 => Al.sca (h _ (List.getElem_mem h1))⟩)
theorem Al.lst1 {n : Nat} (ha : H a = some (.lst [x])) (hb : H b = some (.lst [y])) (h : Al K H n x y) : Al K H (n + 1) (.ref a) (.ref b) :=
  .inr (.inl ⟨a, b, [x], [y], rfl, rfl, ha, hb, rfl, (by show _ + 1 ≤ 1000; simp), fun i h1 h2 => by
    cases i with
    | zero => exact h
    | succ i => exact absurd h1 (by show ¬ i + 1 < 1; omega)⟩)
theorem Al.tup1 {n : Nat} (ha : H a = some (.tup [x])) (hb : H b = some (.tup [y])) (h : Al K H n x y) : Al K H (n + 1) (.ref a) (.ref b) :=
  .inr (.inr ⟨a, b, [x], [y], rfl, rfl, ha, hb, rfl, (by show _ + 1 ≤ 1000; simp), fun i h1 h2 => by
    cases i with
    | zero => exact h
    | succ i => exact absurd h1 (by show ¬ i + 1 < 1; omega)⟩)
theorem Al.lst2 {n : Nat} {x2 y2 : V} (ha : H a = some (.lst [x, x2])) (hb : H b = some (.lst [y, y2])) (h : Al K H n x y) (h2 : Al K H n x2 y2) : Al K H (n + 1) (.ref a) (.ref b) :=
  .inr (.inl ⟨a, b, [x, x2], [y, y2], rfl, rfl, ha, hb, rfl, (by show _ + 1 ≤ 1000; simp), fun i k1 k2 => by
    match i, k1 with
    | 0, _ => exact h
    | 1, _ => exact h2
    | i + 2, k1 => exact absurd k1 (by show ¬ i + 2 < 2; omega)⟩)
end
section
variable {X : Cx} {K : PySem.W.Frag}
theorem ix_listK (e : X.K = K) : IxR X (rIxL K) := by
  subst e
  exact ix_list
theorem ix_tupK (e : X.K = K) : IxR X (rIxT K) := by
  subst e
  exact ix_tup
theorem call_lenK (e : X.K = K) : CallR X (.builtin "len") (rLen K) := by
  subst e
  exact call_len
theorem call_lstK (e : X.K = K) : CallR X (.type "list") (rListOf K) := by
  subst e
  exact call_lst
theorem call_tplK (e : X.K = K) : CallR X (.type "tuple") (rTupOf K) := by
  subst e
  exact call_tpl
theorem call_isiK' (e : X.K = K) : CallR X (.builtin "isinstance") (rIsi K) := by
  subst e
  exact call_isi
theorem call_isiTK (e : X.K = K) : CallR X (.builtin "isinstance") (rIsiT K) := by
  subst e
  exact call_isiT
theorem sl_listK (e : X.K = K) : SlR X (rSlL K) := by
  subst e
  exact sl_list
theorem op_inK (e : X.K = K) : OpR X (compareOp .In) (rIn K false) := by
  subst e
  exact op_in_seq
theorem op_notInK (e : X.K = K) : OpR X (compareOp .NotIn) (rIn K true) := by
  subst e
  exact op_notIn_seq
theorem op_eqDK (e : X.K = K) (hu : X.A.units + 64 < cLine) : OpR X (compareOp .Eq) (rEqD K) := by
  subst e
  exact op_eqD hu
theorem op_neDK (e : X.K = K) (hu : X.A.units + 64 < cLine) : OpR X (compareOp .NotEq) (rNeD K) := by
  subst e
  exact op_neD hu
theorem cr_allK (e : X.K = K) (hc : X.calm = true) : CallR X (.builtin "all") (rAll K) := by
  subst e
  exact cr_all hc
section
variable {o e value : Expr} {f : Str} {pos apos cpos : Pos} {ta to : TE} {es : List Expr} {t : TA} {name : Str} {T id : String} {r : V → List V → Hp → VK → Prop}
theorem pe_fldK (k : X.K = K) (he : PE X e ta) (hb : attributeBase e f X.env (eval e X.env) = eval e X.env) : PE X (.Attribute e f pos) (tFld K ta f) := by
  subst k
  exact pe_fld he hb
theorem pe_bm0K (k : X.K = K) (pa : PlainAttrs T) (slot : Slot T name id) (hty : typeOf (.builtin id) = pure (.type "method_descriptor")) (hm : MtR X id r) (ho : PE X o to)
    (h1 : attributeBase o name X.env (eval o X.env) = eval o X.env := by rfl) (h2 : (apos.endLine == cpos.line) = true := by rfl) : PE X (.Call (.Attribute o name apos) [] [] cpos) (tBM0 K T r to) := by
  subst k
  exact pe_bm0 pa slot hty hm ho h1 h2
theorem pe_bmK (k : X.K = K) (pa : PlainAttrs T) (slot : Slot T name id) (hty : typeOf (.builtin id) = pure (.type "method_descriptor")) (hm : MtR X id r) (ho : PE X o to) (ha : PA X [e] t)
    (h1 : attributeBase o name X.env (eval o X.env) = eval o X.env := by rfl)
    (h2 : ((backTo cpos (starEach [e] X.env)).all (fun x => !x.1) && (backToKw cpos (keywordEach [] X.env)).all (fun x => x.1.isSome) && decide ([e].length + ([] : List Keyword).length + (if ([] : List Keyword).isEmpty then 0 else 1) < 30)) = true := by rfl)
    (h3 : (apos.endLine == cpos.line) = true := by rfl) (h4 : starEach [e] X.env = (false, eval e X.env) :: starEach [] X.env := by rfl) (h5 : (backTo cpos (starEach [] X.env)).any (·.1) = false := by rfl) :
    PE X (.Call (.Attribute o name apos) [e] [] cpos) (tBM K T r to t) := by
  subst k
  exact pe_bm pa slot hty hm ho ha h1 h2 h3 h4 h5
end
end
def rIsNk : R2 := fun x y H Q => y = .non ∧ Q (.bl (decide (x = .non))) H
def rNotNk : R2 := fun x y H Q => y = .non ∧ Q (.bl (!decide (x = .non))) H
section
variable {X : Cx} {K : PySem.W.Frag} {H : Hp} {Q : VK} {x v : V} {p : Addr} {i : Int} {xs : List V}
theorem op_isNk : OpR X (compareOp .Is) rIsNk := op_isN
theorem op_notNk : OpR X (compareOp .IsNot) rNotNk := op_notN
theorem x_isN0 (q : Q (.bl true) H) : rIsNk .non .non H Q := ⟨rfl, q⟩
theorem x_isN1 {b : Bool} (q : Q (.bl false) H) : rIsNk (.bl b) .non H Q := ⟨rfl, q⟩
theorem x_isN2 {b : Int} (q : Q (.bl false) H) : rIsNk (.int b) .non H Q := ⟨rfl, q⟩
theorem x_isN3 {b : Str} (q : Q (.bl false) H) : rIsNk (.str b) .non H Q := ⟨rfl, q⟩
theorem x_isN4 {b : Addr} (q : Q (.bl false) H) : rIsNk (.ref b) .non H Q := ⟨rfl, q⟩
theorem x_notN0 (q : Q (.bl false) H) : rNotNk .non .non H Q := ⟨rfl, q⟩
theorem x_notN1 {b : Bool} (q : Q (.bl true) H) : rNotNk (.bl b) .non H Q := ⟨rfl, q⟩
theorem x_notN2 {b : Int} (q : Q (.bl true) H) : rNotNk (.int b) .non H Q := ⟨rfl, q⟩
theorem x_notN3 {b : Str} (q : Q (.bl true) H) : rNotNk (.str b) .non H Q := ⟨rfl, q⟩
theorem x_notN4 {b : Addr} (q : Q (.bl true) H) : rNotNk (.ref b) .non H Q := ⟨rfl, q⟩
theorem ix_seqK (e : X.K = K) : IxR X (rIx K) := by
  subst e
  exact ix_seq
theorem x_ixSL (h : SqL K H p xs) (ha : atI xs i = some v) (q : Q v H) : rIx K (.ref p) (.int i) H Q := .inl (x_ixL h ha q)
theorem x_ixST (h : SqT K H p xs) (ha : atI xs i = some v) (q : Q v H) : rIx K (.ref p) (.int i) H Q := .inr (.inl (x_ixT h ha q))
theorem x_eqB {b c : Bool} (q : Q (.bl (decide (b = c))) H) : rEq (.bl b) (.bl c) H Q := ⟨rfl, by
  have e : decide (V.bl b = V.bl c) = decide (b = c) := by
    rw [Bool.eq_iff_iff]
    simp
  rw [e]
  exact q⟩
theorem x_neB {b c : Bool} (q : Q (.bl (decide (b ≠ c))) H) : rNe (.bl b) (.bl c) H Q := ⟨rfl, by
  have e : (!decide (V.bl b = V.bl c)) = decide (b ≠ c) := by
    rw [Bool.eq_iff_iff]
    simp
  rw [e]
  exact q⟩
theorem x_eqS {b c : Str} (q : Q (.bl (decide (b = c))) H) : rEq (.str b) (.str c) H Q := ⟨rfl, by
  have e : decide (V.str b = V.str c) = decide (b = c) := by
    rw [Bool.eq_iff_iff]
    simp
  rw [e]
  exact q⟩
end
def nats (l : List Nat) : List V := l.map fun (n : Nat) => V.int (Int.ofNat n)
theorem nats_length (l : List Nat) : (nats l).length = l.length := List.length_map ..
theorem nats_get {l : List Nat} {i x : Nat} (h : l[i]? = some x) : (nats l)[i]? = some (.int x) := by
  unfold nats
  rw [List.getElem?_map, h]
  rfl
theorem nats_at {l : List Nat} {i x : Nat} (h : l[i]? = some x) : atI (nats l) (i : Int) = some (.int x) := atI_nat (nats_get h)
theorem nats_append (l m : List Nat) : nats (l ++ m) = nats l ++ nats m := List.map_append ..
theorem nats_set (l : List Nat) (i x : Nat) : (nats l).set i (.int x) = nats (l.set i x) := by
  unfold nats
  rw [List.map_set]
  rfl
theorem nats_erase : ∀ (l : List Nat) (i : Nat), (nats l).eraseIdx i = nats (l.eraseIdx i)
  | [], _ => rfl
  | _ :: _, 0 => rfl
  | a :: l, i + 1 => by
    show V.int a :: (nats l).eraseIdx i = V.int a :: nats (l.eraseIdx i)
    rw [nats_erase l i]
theorem nats_sca {l : List Nat} : ∀ z ∈ nats l, sca z = true := fun z hz => by
  obtain ⟨n, _, rfl⟩ := List.mem_map.mp hz
  rfl
theorem ixN_nat {n k : Nat} (h : k < n) : ixN n (k : Int) = some k := by
  unfold ixN
  rw [if_pos (by omega), if_pos (by omega)]
  rfl
theorem rgV_nats (n : Nat) : rgV 1 ((n : Int) + 1) = nats (List.range' 1 n) := by
  unfold rgV nats
  rw [List.range'_eq_map_range, List.map_map, show ((n : Int) + 1 - 1).toNat = n by omega]
  refine List.map_congr_left fun i _ => ?_
  show V.int (1 + (i : Int)) = V.int ((1 + i : Nat) : Int)
  rw [Int.natCast_add]
  rfl
section
variable {K : PySem.W.Frag} {σ : L2.St} {H : Hp} {Q : VK} {a p : Addr} {xs : List V} {ta tb : TE}
theorem x_listRg1 (h : ta σ H fun x H1 => ∃ n, x = .int n ∧ (RgOk 0 n ∧ ∀ q, H1 q = none → Q (.ref q) (upd H1 q (.lst (rgV 0 n))))) : tLstRg (tRg1 ta) σ H Q := h
theorem x_listRg2 (h : ta σ H fun x H1 => tb σ H1 fun y H2 => ∃ i j, x = .int i ∧ y = .int j ∧ (RgOk i j ∧ ∀ q, H2 q = none → Q (.ref q) (upd H2 q (.lst (rgV i j))))) : tLstRg (tRg2 ta tb) σ H Q := h
theorem x_tupRg1 (h : ta σ H fun x H1 => ∃ n, x = .int n ∧ (RgOk 0 n ∧ ∀ q, H1 q = none → Q (.ref q) (upd H1 q (.tup (rgV 0 n))))) : tTupRg (tRg1 ta) σ H Q := h
theorem x_ij {i j : Int} {R : Int → Int → Prop} (h : R i j) : ∃ k l, V.int i = .int k ∧ V.int j = .int l ∧ R k l := ⟨i, j, rfl, rfl, h⟩
theorem x_tyL {R : Prop} (h : SqL K H a xs) (q : R) : tyV K "list" (.ref a) H ∧ R := ⟨.inl ⟨rfl, _, h⟩, q⟩
theorem x_popAt {i : Int} {k : Nat} {y : V} (h : H p = some (.lst xs)) (h1 : -(2 ^ 63) ≤ i) (h2 : i < 2 ^ 63) (hi : ixN xs.length i = some k) (hy : xs[k]? = some y) (q : Q y (upd H p (.lst (xs.eraseIdx k)))) : rPopAt (.ref p) [.int i] H Q := ⟨p, xs, i, k, y, rfl, rfl, h, h1, h2, (ixN_seq hi).1, hy, q⟩
end
/-! the head alone is opened -/
theorem x_for {wi : TI} {g : TG} {tb : TS} {D : Ends} {σ : L2.St} {H : Hp} (h : wi σ H fun J H1 => ∃ W : Nat → Nat → L2.St → Hp → Prop, (∃ m, W 0 m σ H1) ∧ ∀ i m σ H, W i m σ H →
  (J.stop i H ∧ D.nx σ H) ∨ (J.go i H ∧ ∃ N : L2.St → Hp → Prop, (∀ σ' H', N σ' H' → ∃ m', m' < m ∧ W (i + 1) m' σ' H') ∧ ∀ x H', J.yld i H x H' → g x σ H' fun σ2 H2 => tb { nx := N, rt := D.rt, bk := D.nx, ct := N } σ2 H2)) : tFor wi g tb D σ H := h
theorem x_while {c : TT} {tb : TS} {D : Ends} {σ : L2.St} {H : Hp} (h : ∃ W : Nat → L2.St → Hp → Prop, (∃ m, W m σ H) ∧ ∀ m σ H, W m σ H →
  c σ H fun b H1 => if b = true then ∃ N : L2.St → Hp → Prop, (∀ σ' H', N σ' H' → ∃ m', m' < m ∧ W m' σ' H') ∧ tb { nx := N, rt := D.rt, bk := D.nx, ct := N } σ H1 else D.nx σ H1) : tWhile c tb D σ H := h
theorem x_lc {wi : TI} {g : TG} {tt : TT} {te : TE} {vs : List Nat} {σ : L2.St} {H : Hp} {Q : VK} (h : wi σ H fun J H1 => ∀ D, H1 D = none → ∃ W : Nat → Nat → Hp → Prop, (∃ m, W 0 m (upd H1 D (.lst []))) ∧ ∀ i m H, W i m H →
  (J.stop i H ∧ Q (.ref D) H) ∨ (J.go i H ∧ ∃ Nx : Hp → Prop, (∀ H', Nx H' → ∃ m', m' < m ∧ W (i + 1) m' H') ∧ ∀ x H', J.yld i H x H' → g x (wipe σ vs) H' fun σ2 H2 => wipe σ2 vs = wipe σ vs ∧ tt σ2 H2 fun b H3 =>
    if b = true then te σ2 H3 fun y H4 => ∃ acc, H4 D = some (.lst acc) ∧ acc.length < sizeLine ∧ Nx (upd H4 D (.lst (acc ++ [y]))) else Nx H3)) : tLc wi g tt te vs σ H Q := h
theorem x_lc2 {wi : TI} {g : TG} {tt : TT} {wi1 : TI} {g1 : TG} {tt1 : TT} {te : TE} {vs vs1 : List Nat} {σ : L2.St} {H : Hp} {Q : VK} (h : wi σ H fun J H1 => ∀ D, H1 D = none → ∃ W : Nat → Nat → Hp → Prop, (∃ m, W 0 m (upd H1 D (.lst []))) ∧ ∀ i m H, W i m H →
  (J.stop i H ∧ Q (.ref D) H) ∨ (J.go i H ∧ ∃ Nx : Hp → Prop, (∀ H', Nx H' → ∃ m', m' < m ∧ W (i + 1) m' H') ∧ ∀ x H', J.yld i H x H' → g x (wipe σ vs) H' fun σ2 H2 => wipe σ2 vs = wipe σ vs ∧ tt σ2 H2 fun b H3 =>
    if b = true then wi1 σ2 H3 fun J1 H4 => ∃ W1 : Nat → Nat → Hp → Prop, (∃ m, W1 0 m H4) ∧ ∀ j k H, W1 j k H →
      (J1.stop j H ∧ Nx H) ∨ (J1.go j H ∧ ∃ Nx1 : Hp → Prop, (∀ H', Nx1 H' → ∃ k', k' < k ∧ W1 (j + 1) k' H') ∧ ∀ x H', J1.yld j H x H' → g1 x (wipe σ2 vs1) H' fun σ3 H5 => wipe σ3 vs1 = wipe σ2 vs1 ∧ tt1 σ3 H5 fun b H6 =>
        if b = true then te σ3 H6 fun y H7 => ∃ acc, H7 D = some (.lst acc) ∧ acc.length < sizeLine ∧ Nx1 (upd H7 D (.lst (acc ++ [y]))) else Nx1 H6)
    else Nx H3)) : tLc2 wi g tt wi1 g1 tt1 te vs vs1 σ H Q := h
end Fv
/-! trees as lists of places; nothing of the program here -/
namespace Fv
def up (hs : List Nat) (k : Nat) : Nat := if k = 0 then 0 else hs.getD (k - 1) 0
def upN (hs : List Nat) : Nat → Nat → Nat
  | 0, k => k
  | j + 1, k => upN hs j (up hs k)
structure IsTree (hs : List Nat) : Prop where
  pos : 1 ≤ hs.length
  most : hs.length ≤ 40
  le : ∀ x ∈ hs, x ≤ hs.length
  comes : ∀ k, k ≤ hs.length → upN hs hs.length k = 0
theorem up_zero (hs : List Nat) : up hs 0 = 0 := rfl
theorem upN_zero (hs : List Nat) : ∀ j, upN hs j 0 = 0
  | 0 => rfl
  | j + 1 => by
    show upN hs j (up hs 0) = 0
    rw [up_zero]
    exact upN_zero hs j
theorem upN_add (hs : List Nat) : ∀ i j k, upN hs (i + j) k = upN hs j (upN hs i k)
  | 0, j, k => by
    rw [Nat.zero_add]
    rfl
  | i + 1, j, k => by
    rw [Nat.add_right_comm]
    exact upN_add hs i j (up hs k)
theorem upN_succ (hs : List Nat) (j k : Nat) : upN hs (j + 1) k = up hs (upN hs j k) := upN_add hs j 1 k
theorem upN_more {hs : List Nat} {i j k : Nat} (h : upN hs i k = 0) (hj : i ≤ j) : upN hs j k = 0 := by
  obtain ⟨d, rfl⟩ := Nat.le.dest hj
  rw [upN_add, h]
  exact upN_zero hs d
theorem up_le {hs : List Nat} (h : ∀ x ∈ hs, x ≤ hs.length) (k : Nat) : up hs k ≤ hs.length := by
  unfold up
  split
  · exact Nat.zero_le _
  · rw [List.getD_eq_getElem?_getD]
    cases e : hs[k - 1]? with
    | none => exact Nat.zero_le _
    | some x => exact h x (List.mem_of_getElem? e)
theorem upN_le {hs : List Nat} (h : ∀ x ∈ hs, x ≤ hs.length) : ∀ j k, k ≤ hs.length → upN hs j k ≤ hs.length
  | 0, _, hk => hk
  | j + 1, k, _ => upN_le h j (up hs k) (up_le h k)
theorem up_at {hs : List Nat} {k x : Nat} (hk : k ≠ 0) (h : hs[k - 1]? = some x) : up hs k = x := by
  unfold up
  rw [if_neg hk, List.getD_eq_getElem?_getD, h]
  rfl
/-- what is drawn: the blocks in some order, each under one ahead of it, or the head -/
def Drawn (hs : List Nat) : Prop := ∃ ms : List Nat, ms.Perm (List.range' 1 hs.length) ∧ ∀ (i x : Nat), ms[i]? = some x → ∃ j y : Nat, j ≤ i ∧ (0 :: ms)[j]? = some y ∧ hs[x - 1]? = some y
theorem Drawn.tree {hs : List Nat} (h : Drawn hs) (h1 : 1 ≤ hs.length) (h2 : hs.length ≤ 40) : IsTree hs := by
  obtain ⟨ms, hp, hd⟩ := h
  have hlen : ms.length = hs.length := by rw [hp.length_eq, List.length_range']
  have mem : ∀ x, x ∈ ms ↔ 1 ≤ x ∧ x < 1 + hs.length := fun x => by rw [hp.mem_iff, List.mem_range'_1]
  have key : ∀ i x, ms[i]? = some x → upN hs (i + 1) x = 0 := by
    intro i
    induction i using Nat.strongRecOn with
    | ind i ih =>
      intro x hx
      obtain ⟨j, y, hj, hy, e⟩ := hd i x hx
      have x1 := (mem x).mp (List.mem_of_getElem? hx)
      show upN hs i (up hs x) = 0
      rw [up_at (by omega) e]
      cases j with
      | zero =>
        have e0 : 0 = y := Option.some.inj hy
        rw [← e0]
        exact upN_zero hs i
      | succ j => exact upN_more (ih j (by omega) y hy) (by omega)
  refine ⟨h1, h2, fun x hx => ?_, fun k hk => ?_⟩
  · obtain ⟨p, hp1, e⟩ := List.getElem_of_mem hx
    have hm := (mem (p + 1)).mpr ⟨by omega, by omega⟩
    obtain ⟨i, hi, e2⟩ := List.getElem_of_mem hm
    obtain ⟨j, y, hj, hy, e3⟩ := hd i (p + 1) (by rw [List.getElem?_eq_getElem hi, e2])
    have e4 : hs[p]? = some y := e3
    rw [List.getElem?_eq_getElem hp1, e] at e4
    cases e4
    cases j with
    | zero =>
      have e0 : 0 = x := Option.some.inj hy
      omega
    | succ j =>
      have := (mem x).mp (List.mem_of_getElem? (show ms[j]? = some x from hy))
      omega
  · by_cases h0 : k = 0
    · rw [h0]
      exact upN_zero hs _
    · obtain ⟨i, hi, e2⟩ := List.getElem_of_mem ((mem k).mpr ⟨by omega, by omega⟩)
      exact upN_more (key i k (by rw [List.getElem?_eq_getElem hi, e2])) (by omega)
theorem perm_erase : ∀ {l : List Nat} {i : Nat} {x : Nat}, l[i]? = some x → (x :: l.eraseIdx i).Perm l
  | [], _, _, h => by simp at h
  | a :: l, 0, x, h => by
    have e : a = x := Option.some.inj h
    rw [e]
    exact List.Perm.refl _
  | a :: l, i + 1, x, h => by
    have ih := perm_erase (l := l) (i := i) (x := x) h
    exact (List.Perm.swap a x _).trans (ih.cons a)
/-! whatever leads, the head is come to in as many steps as there are blocks, or never -/
theorem bounded_len : ∀ (n : Nat) (l : List Nat), l.Nodup → (∀ x ∈ l, 1 ≤ x ∧ x ≤ n) → l.length ≤ n
  | 0, l, _, h => by
    cases l with
    | nil => exact Nat.le_refl _
    | cons x r =>
      have := h x List.mem_cons_self
      omega
  | n + 1, l, hn, h => by
    have h1 : (l.erase (n + 1)).length ≤ n := bounded_len n _ (hn.erase _) fun x hx => by
      have hx1 := (List.Nodup.mem_erase_iff hn).mp hx
      have := h x hx1.2
      omega
    by_cases hm : n + 1 ∈ l
    · rw [List.length_erase_of_mem hm] at h1
      omega
    · rw [List.erase_of_not_mem hm] at h1
      omega
theorem comes_by {hs : List Nat} (h : ∀ x ∈ hs, x ≤ hs.length) {j k : Nat} (hk : k ≤ hs.length) (hj : upN hs j k = 0) : upN hs hs.length k = 0 := by
  -- the least such number of steps
  have ex : ∃ d, upN hs d k = 0 ∧ ∀ d', d' < d → upN hs d' k ≠ 0 := by
    induction j using Nat.strongRecOn with
    | ind j ih =>
      by_cases hx : ∃ d, d < j ∧ upN hs d k = 0
      · obtain ⟨d, hd, e⟩ := hx
        exact ih d hd e
      · exact ⟨j, hj, fun d' hd e => hx ⟨d', hd, e⟩⟩
  obtain ⟨d, e, least⟩ := ex
  refine upN_more e ?_
  have hl : ((List.range d).map fun i => upN hs i k).length ≤ hs.length := by
    refine bounded_len hs.length _ ?_ fun x hx => ?_
    · rw [List.nodup_iff_pairwise_ne, List.pairwise_map]
      refine List.Pairwise.imp_of_mem (R := (· < ·)) (fun {a b} ha hb hlt heq => ?_) List.pairwise_lt_range
      rw [List.mem_range] at ha hb
      -- from a equal places one comes to the head as soon from a as from b
      have e1 : upN hs (a + (d - b)) k = 0 := by
        rw [upN_add, heq, ← upN_add, show b + (d - b) = d by omega]
        exact e
      exact least _ (by omega) e1
    · obtain ⟨i, hi, rfl⟩ := List.mem_map.mp hx
      rw [List.mem_range] at hi
      have := least i hi
      have := upN_le h i k hk
      omega
  rw [List.length_map, List.length_range] at hl
  exact hl
end Fv
set_option maxRecDepth 100000
set_option maxHeartbeats 1000000
namespace Fv
open PySem PySem.Spec L2
section
variable {K : PySem.W.Frag} {σ : L2.St} {H : Hp} {Q : VK} {a b p : Addr} {xs ys : List V} {ta tb : TE}
theorem But.freeB {H H1 : Hp} {p q : Addr} (b : But p H H1) (n : q ≠ p) (h : H1 q = none) : H q = none := by
  cases e : H q with
  | none => rfl
  | some o =>
    rw [b q o n e] at h
    cases h
theorem x_cat (h1 : H a = some (.lst xs)) (h2 : H b = some (.lst ys)) (hl : xs.length + ys.length ≤ sizeLine) (q : ∀ p, H p = none → Q (.ref p) (upd H p (.lst (xs ++ ys)))) : rCat (.ref a) (.ref b) H Q := ⟨a, b, xs, ys, rfl, rfl, h1, h2, hl, q⟩
theorem rep_one : ∀ (n : Nat) (v : V), (List.replicate n [v]).flatten = List.replicate n v
  | 0, _ => rfl
  | n + 1, v => by
    rw [List.replicate_succ, List.flatten_cons, rep_one n v, List.replicate_succ]
    rfl
theorem x_rep1 {n : Nat} {v : V} (h1 : H a = some (.lst [v])) (hn : n ≤ 1000) (q : ∀ p, H p = none → Q (.ref p) (upd H p (.lst (List.replicate n v)))) : rRep (.ref a) (.int n) H Q := by
  refine ⟨a, n, [v], rfl, rfl, h1, by omega, by omega, szLe (by show 1 * _ ≤ _; omega), fun p hp => ?_⟩
  rw [show (n : Int).toNat = n from rfl, rep_one]
  exact q p hp
theorem nats_rep (n : Nat) : List.replicate n (V.int 0) = nats (List.replicate n 0) := by
  unfold nats
  rw [List.map_replicate]
  rfl
end
end Fv
set_option maxRecDepth 100000
set_option maxHeartbeats 1000000
namespace Fv
open PySem PySem.Spec L2
/-- enumerate of a tuple from a written number on: each item in a new pair -/
def Itn (K : PySem.W.Frag) (t : Addr) (k : Int) : It where
  go := fun i H => ∃ (xs : List V) (x : V), SqT K H t xs ∧ xs[i]? = some x
  yld := fun i H v H' => ∃ (T : Addr) (x : V), v = .ref T ∧ H T = none ∧ H' = upd H T (.tup [.int (k + (i : Int)), x]) ∧ ∀ xs, SqT K H t xs → xs[i]? = some x
  stop := fun i H => ∃ xs : List V, SqT K H t xs ∧ xs.length = i
theorem isTuple_of {h : Heap} {a : Addr} {its : Array Value} (x : PyProof.Rows.IsTup h a its) : h.IsTuple a its := by
  obtain ⟨o, e, c, n, d⟩ := x
  exact ⟨o, e, c, n, d⟩
theorem turn_enumT {P : Program} {w : World} {K : PySem.W.Frag} {elts : List Expr} {kk : Nat} {tpos : Pos} (k : Int) (t e it : Addr) (nt : t ≠ it) (ne : e ≠ it) (ne' : e ≠ t) :
    Turn P w K (.Tuple elts kk tpos) (Itn K t k) [e, it] e (fun i h => (∃ old, IsEnum h e it (k + (i : Int)) old) ∧ h.IsTupleIter it t i) where
  mem := List.mem_cons_self
  obj := fun i h st b hb => by
    obtain ⟨⟨old, he⟩, ⟨o, ho, hc, hd⟩⟩ := st
    rcases List.mem_cons.mp hb with rfl | hb
    · exact ⟨_, he, fun v q => nomatch q⟩
    · rw [List.mem_singleton.mp hb]
      exact ⟨o, ho, fun v q => by rw [hd] at q; cases q⟩
  keep := fun i h h' st kp => ⟨st.1.elim fun old he => ⟨old, kp e List.mem_cons_self _ he⟩, st.2.at fun o q => kp it (List.mem_cons_of_mem _ List.mem_cons_self) o q⟩
  item := by
    intro X hP hw hK hc i pins s σ H E I hf st hg
    subst hP hw hK
    obtain ⟨xs, x, hq, hx⟩ := hg
    obtain ⟨its, rv, p, hz⟩ := I.tuple hq
    obtain ⟨u, hu, ru⟩ := rv.get hx
    have hil : i < its.length := (List.getElem?_eq_some_iff.mp hu).1
    have W := WalksT.enumFrom (prog := X.prog) (w := X.w) (A := X.A) k (Draws.tuple (prog := X.prog) (w := X.w) (A := X.A.in1) (it := it) (t := t) (show X.A.in1.handled = none from I.ok.hd hc) nt its.toArray) e ne (by simp [ne, ne']) (by simp)
    refine W.item i s _ E (by simpa using hil) ⟨st.1, st.2, isTuple_of p⟩ fun T vals h' tk hP' hT hTup hMid hk => ?_
    refine ⟨_, rfl, W.go elts kk tpos i T _ _ E hMid fun h'' hst' hk' => ?_⟩
    obtain ⟨tk2, y, hy, rfl⟩ := hP'
    have ey : y = u := by
      have e1 : its.toArray[i]? = some u := by simpa using hu
      rw [e1] at hy
      exact (Option.some.inj hy).symm
    subst ey
    have hfp : ∀ b ∈ [e, it], b < s.heap.objs.size := fun b hb => by
      obtain ⟨⟨old, he⟩, ⟨o, ho, _⟩⟩ := st
      rcases List.mem_cons.mp hb with rfl | hb
      · exact Heap.lt_size he
      · rw [List.mem_singleton.mp hb]
        exact Heap.lt_size ho
    have hTn : T ∉ [e, it] := W.apart i T _ hMid
    have hTup2 : h''.IsTuple T #[.int (k + (i : Int)) tk2, y] := by
      obtain ⟨o, e1, c1, n1, d1⟩ := hTup
      exact ⟨o, hk' _ _ hTn e1, c1, n1, d1⟩
    have new : ObjOk X.prog X.w (upd H T (.tup [.int (k + (i : Int)), x])) h'' T (.tup [.int (k + (i : Int)), x]) := by
      obtain ⟨o, e1, c1, n1, d1⟩ := hTup2
      exact ⟨by show 2 ≤ sizeLine; decide, [.int (k + (i : Int)) tk2, y], .cons ⟨_, rfl⟩ (.cons ru .nil), ⟨o, e1, c1, n1, d1⟩⟩
    have I1 : Inv X pins σ (upd H T (.tup [.int (k + (i : Int)), x])) { s with heap := h'', toks := tk } :=
      I.turnedNew (ch := [e, it]) (fun b ob hb q => hk' b ob hb (hk b ob hb q)) hf hT new
    refine ⟨.ref T, _, I1, rfl, ⟨T, x, rfl, I.hok.fresh hT, rfl, fun ys hys => by rw [I.tuple_inj hys hq]; exact hx⟩, ⟨hst'.1, hst'.2.1⟩, fun b hb => ?_⟩
    have hbT : b ≠ T := fun z => absurd (hfp b hb) (by rw [z]; exact Nat.not_lt.mpr hT)
    rw [upd_ne hbT]
    exact (hf b hb).1
  done := by
    intro X hP hw hK hc i pins s σ H E I hf st hg
    subst hP hw hK
    obtain ⟨xs, hq, hx⟩ := hg
    obtain ⟨its, rv, p, hz⟩ := I.tuple hq
    have W := WalksT.enumFrom (prog := X.prog) (w := X.w) (A := X.A) k (Draws.tuple (prog := X.prog) (w := X.w) (A := X.A.in1) (it := it) (t := t) (show X.A.in1.handled = none from I.ok.hd hc) nt its.toArray) e ne (by simp [ne, ne']) (by simp)
    have el : i = its.toArray.size := by
      rw [← hx, Vals.length rv]
      simp
    rw [el] at st
    refine W.done s _ E ⟨st.1, st.2, isTuple_of p⟩ fun h' tk hk => ⟨rfl, ?_⟩
    have nh : ∀ b u, H b = some u → b ∉ [e, it] := fun b u hb z => by
      have q := (hf b z).1
      rw [q] at hb
      cases hb
    refine I.step (g' := s.gens) (d' := s.drawn) (ch := [e, it]) (fun b hb => ⟨(hf b hb).2.2.2.1, (hf b hb).2.1, (hf b hb).2.2.2.2.1, (hf b hb).2.2.2.2.2⟩) (fun b o _ _ hc e _ => hk b o hc e) (fun b o _ _ hc e _ => ⟨o.slots, hk b o hc e⟩)
      (fun _ _ _ _ n => n) (fun b o hc e => ⟨o, hk b o hc e⟩) (fun _ _ q => q) (fun _ _ _ q => q) (fun _ ps q => ⟨#[], by rw [q]; simp⟩) (fun m hm => ?_) (fun b u hb => ?_) I.bare
    · obtain ⟨o, es, ep, ho, r⟩ := hm
      exact ⟨o, es, ep, hk _ o (fun z => (hf _ z).2.1 rfl) ho, r⟩
    · refine (I.hok b u hb).stay (fun c v hc q => hk c v ?_ q) (fun _ q => q) fun _ _ q => q
      rcases hc with z | z
      · rw [z]
        exact nh b u hb
      · exact nh c _ z
  self := fun A i s Q E st h => by
    obtain ⟨⟨old, he⟩, _⟩ := st
    exact wpAny_pyIter_enum he h
/-- enumerate(e, start=k), k written -/
def iEnT (K : PySem.W.Frag) (k : Int) (ta : TA) : TI := fun σ H R => ta σ H fun vs H1 => ∃ (t : Addr) (xs : List V), vs = [.ref t] ∧ SqT K H1 t xs ∧ R (Itn K t k) H1
theorem pi_enumT {X : Cx} {e : Expr} {ta : TA} {p pos tpos kpos kp : Pos} {elts : List Expr} {kk j : Nat} {k : Int} (hc : X.calm = true) (hg : Gl X "enumerate") (hm : X.mg "enumerate" = none) (h0 : -(2 ^ 63) ≤ k) (h1 : k < 2 ^ 63) (ha : PA X [e] ta)
    (hs : starEach [e] X.env = (false, eval e X.env) :: starEach [] X.env := by rfl) :
    PI X (.Tuple elts kk tpos) (.Call (.Name "enumerate" p) [e] [⟨some "start", .Constant (.int k) j kp, kpos⟩] pos) (iEnT X.K k ta) := by
  refine ⟨fun pins s σ H R I h => ?_⟩
  refine wpAny_Call_Name_kw (ld_blt I hg hm (u := .type "enumerate") (by decide +kernel) ?_)
  refine PySem.W.callWith_of (P := fun _ => True) (by rw [hs]; rfl) (fun h _ => ⟨_, .inr (.inl rfl), PySem.W.Looks.of_pure rfl⟩) (PyProof.Rows.evalArgs_kw2 rfl (thn (ha.run pos pins s σ H _ I h) fun us s1 ⟨vs, H1, I1, r1, t, xs, ev, hq, q⟩ => ?_) hs)
  have hkw : PK X [⟨some "start", .Constant (.int k) j kp, kpos⟩] (tCons (tC (.int k)) tNil) := pk_cons pe_int pk_nil
  refine thn (hkw.run pos pins s1 σ H1 (fun zs H2 => zs = [.int k] ∧ H2 = H1) I1 ⟨rfl, rfl⟩) fun ks s2 ⟨zs, H2, I2, r2, ez, eH⟩ => ⟨True.intro, ?_⟩
  subst ev ez eH
  cases r1 with
  | cons r rr =>
    cases rr
    cases r
    cases r2 with
    | cons rk rrk =>
      cases rrk
      obtain ⟨tk, rfl⟩ := rk
      obtain ⟨its, rv, p', hz⟩ := I2.tuple hq
      refine enum_begins_start (begins_tuple t its.toArray) (isTuple_of p') h0 h1 fun h' he hit hsz hkp => ?_
      refine wpAny_pyIter_enum he ?_
      have I3 : Inv X pins σ H2 { s2 with heap := h' } := I2.kept (t' := s2.toks) hkp
      have ht : t < s2.heap.objs.size := p'.lt
      have hn : ∀ b, s2.heap.objs.size ≤ b → H2 b = none := fun b hb => I2.hok.fresh hb
      refine ⟨s2.heap.objs.size + 1, [s2.heap.objs.size + 1, s2.heap.objs.size], _, _, H2, rfl, I3, turn_enumT k t (s2.heap.objs.size + 1) s2.heap.objs.size (Nat.ne_of_lt ht) (Nat.succ_ne_self _) (Nat.ne_of_gt (Nat.lt_succ_of_lt ht)),
        ⟨⟨.none, ?_⟩, ⟨_, hit, rfl, rfl⟩⟩, fun b hb => ?_, q⟩
      · rw [show k + ((0 : Nat) : Int) = k by omega]
        exact he
      · have hle : s2.heap.objs.size ≤ b := by
          rcases List.mem_cons.mp hb with rfl | hb
          · exact Nat.le_succ _
          · rw [List.mem_singleton.mp hb]
            exact Nat.le_refl _
        exact I2.fpOk hle (hn b hle)
end Fv
set_option maxRecDepth 100000
set_option maxHeartbeats 1000000
namespace Fv
open PySem PySem.Spec L2
theorem lp_enumT {K : PySem.W.Frag} {t : Addr} {k : Int} {xs : List V} {g : TG} {tb : TS} {nx : L2.St → Hp → Prop} {rt : VK} {σ : L2.St} {H : Hp} (Pv : Nat → L2.St → Hp → Prop) (h0 : Pv 0 σ H) (hl : ∀ i σ H, i ≤ xs.length → Pv i σ H → SqT K H t xs)
    (hs : ∀ i x σ H T, xs[i]? = some x → Pv i σ H → H T = none → g (.ref T) σ (upd H T (.tup [.int (k + (i : Int)), x])) fun σ2 H2 => tb { nx := Pv (i + 1), rt := rt, bk := nx, ct := Pv (i + 1) } σ2 H2) (hd : ∀ σ H, Pv xs.length σ H → nx σ H) :
    ∃ W : Nat → Nat → L2.St → Hp → Prop, (∃ m, W 0 m σ H) ∧ ∀ i m σ H, W i m σ H → ((Itn K t k).stop i H ∧ nx σ H) ∨ ((Itn K t k).go i H ∧ ∃ N : L2.St → Hp → Prop, (∀ σ' H', N σ' H' → ∃ m', m' < m ∧ W (i + 1) m' σ' H') ∧ ∀ x H', (Itn K t k).yld i H x H' → g x σ H' fun σ2 H2 => tb { nx := N, rt := rt, bk := nx, ct := N } σ2 H2) := by
  refine ⟨fun i m σ H => m = xs.length - i ∧ i ≤ xs.length ∧ Pv i σ H, ⟨_, rfl, Nat.zero_le _, h0⟩, ?_⟩
  rintro i m σ H ⟨rfl, hi, p⟩
  have q := hl i σ H hi p
  by_cases hlt : i < xs.length
  · refine .inr ⟨⟨xs, xs[i], q, List.getElem?_eq_getElem hlt⟩, Pv (i + 1), fun σ' H' p' => ⟨_, by omega, rfl, hlt, p'⟩, fun x H' y => ?_⟩
    obtain ⟨T, z, rfl, hT, rfl, hz⟩ := y
    exact hs i z σ H T (hz xs q) p hT
  · have e : i = xs.length := by omega
    subst e
    exact .inl ⟨⟨xs, q, rfl⟩, hd σ H p⟩
theorem lc_enumT {K : PySem.W.Frag} {t : Addr} {k : Int} {xs : List V} {g : TG} {tt : TT} {te : TE} {vs : List Nat} {σ : L2.St} {H1 : Hp} {D : Addr} {Qd : Hp → Prop} (Pv : Nat → Hp → Prop) (h0 : Pv 0 (upd H1 D (.lst []))) (hl : ∀ i H, i ≤ xs.length → Pv i H → SqT K H t xs)
    (hs : ∀ i x H T, xs[i]? = some x → Pv i H → H T = none → g (.ref T) (wipe σ vs) (upd H T (.tup [.int (k + (i : Int)), x])) fun σ2 H2 => wipe σ2 vs = wipe σ vs ∧ tt σ2 H2 fun b H3 =>
      if b = true then te σ2 H3 fun y H4 => ∃ acc, H4 D = some (.lst acc) ∧ acc.length < sizeLine ∧ Pv (i + 1) (upd H4 D (.lst (acc ++ [y]))) else Pv (i + 1) H3) (hd : ∀ H, Pv xs.length H → Qd H) :
    ∃ W : Nat → Nat → Hp → Prop, (∃ m, W 0 m (upd H1 D (.lst []))) ∧ ∀ i m H, W i m H → ((Itn K t k).stop i H ∧ Qd H) ∨ ((Itn K t k).go i H ∧ ∃ Nx : Hp → Prop, (∀ H', Nx H' → ∃ m', m' < m ∧ W (i + 1) m' H') ∧ ∀ x H', (Itn K t k).yld i H x H' → g x (wipe σ vs) H' fun σ2 H2 => wipe σ2 vs = wipe σ vs ∧ tt σ2 H2 fun b H3 =>
        if b = true then te σ2 H3 fun y H4 => ∃ acc, H4 D = some (.lst acc) ∧ acc.length < sizeLine ∧ Nx (upd H4 D (.lst (acc ++ [y]))) else Nx H3) := by
  refine ⟨fun i m H => m = xs.length - i ∧ i ≤ xs.length ∧ Pv i H, ⟨_, rfl, Nat.zero_le _, h0⟩, ?_⟩
  rintro i m H ⟨rfl, hi, p⟩
  have q := hl i H hi p
  by_cases hlt : i < xs.length
  · refine .inr ⟨⟨xs, xs[i], q, List.getElem?_eq_getElem hlt⟩, Pv (i + 1), fun H' p' => ⟨_, by omega, rfl, hlt, p'⟩, fun x H' y => ?_⟩
    obtain ⟨T, z, rfl, hT, rfl, hz⟩ := y
    exact hs i z H T (hz xs q) p hT
  · have e : i = xs.length := by omega
    subst e
    exact .inl ⟨⟨xs, q, rfl⟩, hd H p⟩
section
variable {K : PySem.W.Frag} {σ : L2.St} {H : Hp} {Q : VK} {a p : Addr} {xs : List V} {ta tb : TE}
theorem x_ent {R : It → Hp → Prop} {k : Int} {ts : TA} (h : ts σ H fun vs H1 => ∃ (t : Addr) (xs : List V), vs = [.ref t] ∧ SqT K H1 t xs ∧ R (Itn K t k) H1) : iEnT K k ts σ H R := h
theorem x_ent1 {R : Addr → Prop} (h : SqT K H a xs) (q : R a) : ∃ (t : Addr) (ys : List V), [V.ref a] = [.ref t] ∧ SqT K H t ys ∧ R t := ⟨a, xs, rfl, h, q⟩
end
theorem pi_enumTK {X : Cx} {K : PySem.W.Frag} {e : Expr} {ta : TA} {p pos tpos kpos kp : Pos} {elts : List Expr} {kk j : Nat} {k : Int} (eK : X.K = K) (hc : X.calm = true) (hg : Gl X "enumerate") (hm : X.mg "enumerate" = none) (h0 : -(2 ^ 63) ≤ k) (h1 : k < 2 ^ 63) (ha : PA X [e] ta)
    (hs : starEach [e] X.env = (false, eval e X.env) :: starEach [] X.env := by rfl) :
    PI X (.Tuple elts kk tpos) (.Call (.Name "enumerate" p) [e] [⟨some "start", .Constant (.int k) j kp, kpos⟩] pos) (iEnT K k ta) := by
  subst eK
  exact pi_enumT hc hg hm h0 h1 ha hs
theorem x_isnd {c : Prop} [Decidable c] {A B : Prop} (h1 : ¬ c → A) (h2 : c → B) : if (!decide c) = true then A else B := by
  by_cases h : c
  · rw [decide_eq_true h]
    exact iteF (h2 h)
  · rw [decide_eq_false h]
    exact iteT (h1 h)
theorem num_int {lo hi : Int} {x : V} (h : numV lo hi x = true) : ∃ z, x = .int z ∧ lo ≤ z ∧ z ≤ hi := by
  cases x with
  | int i =>
    have h' : (decide (lo ≤ i) && decide (i ≤ hi)) = true := h
    rw [Bool.and_eq_true, decide_eq_true_eq, decide_eq_true_eq] at h'
    exact ⟨i, rfl, h'.1, h'.2⟩
  | _ => cases h
theorem at_pred {xs : List V} {i : Nat} {x : V} (h : xs[i]? = some x) : atI xs (1 + (i : Int) - 1) = some x := by
  rw [show 1 + (i : Int) - 1 = (i : Int) by omega]
  exact atI_nat h
/-! what is due for a tuple -/
inductive Due where
  | hung
  | block (k : Nat)
  | ring (k : Nat)
  | ok
/-- an item that is no place, or the block itself -/
def badV (n i : Nat) (x : V) : Prop := numV 0 n x = false ∨ x = .int ((i + 1 : Nat) : Int)
inductive DueIs (xs : List V) : Due → Prop where
  | hung : ¬ (1 ≤ xs.length ∧ xs.length ≤ 40) → DueIs xs .hung
  | block {i : Nat} {x : V} : 1 ≤ xs.length → xs.length ≤ 40 → (∀ j y, j < i → xs[j]? = some y → ¬ badV xs.length j y) → xs[i]? = some x → badV xs.length i x → DueIs xs (.block (i + 1))
  | ring {hs : List Nat} {k : Nat} : 1 ≤ xs.length → xs.length ≤ 40 → xs = nats hs → (∀ j y, xs[j]? = some y → ¬ badV xs.length j y) → (∀ j, 1 ≤ j → j < k → upN hs hs.length j = 0) → 1 ≤ k → k ≤ hs.length → upN hs hs.length k ≠ 0 → DueIs xs (.ring k)
  | ok {hs : List Nat} : IsTree hs → xs = nats hs → (∀ j y, xs[j]? = some y → ¬ badV xs.length j y) → DueIs xs .ok
theorem nats_inj : ∀ {l m : List Nat}, nats l = nats m → l = m
  | [], [], _ => rfl
  | [], _ :: _, h => by cases h
  | _ :: _, [], h => by cases h
  | a :: l, b :: m, h => by
    have h' : V.int (Int.ofNat a) :: nats l = V.int (Int.ofNat b) :: nats m := h
    injection h' with h1 h2
    injection h1 with h1
    injection h1 with h1
    rw [h1, nats_inj h2]
theorem DueIs.det {xs : List V} {d e : Due} (h : DueIs xs d) (h' : DueIs xs e) : d = e := by
  cases h with
  | hung n =>
    cases h' with
    | hung _ => rfl
    | block a b _ _ _ => exact (n ⟨a, b⟩).elim
    | ring a b _ _ _ _ _ _ => exact (n ⟨a, b⟩).elim
    | ok t e _ => exact (n ⟨by rw [e, nats_length]; exact t.pos, by rw [e, nats_length]; exact t.most⟩).elim
  | @block i x a b f e1 bd =>
    cases h' with
    | hung n => exact (n ⟨a, b⟩).elim
    | @block j y _ _ f2 e2 bd2 =>
      rcases Nat.lt_trichotomy i j with h | h | h
      · exact (f2 _ _ h e1 bd).elim
      · rw [h]
      · exact (f _ _ h e2 bd2).elim
    | ring _ _ _ f2 _ _ _ _ => exact (f2 _ _ e1 bd).elim
    | ok _ _ f2 => exact (f2 _ _ e1 bd).elim
  | @ring hs k a b e f g k1 k2 nz =>
    cases h' with
    | hung n => exact (n ⟨a, b⟩).elim
    | block _ _ _ e2 bd => exact (f _ _ e2 bd).elim
    | @ring hs2 k' _ _ e2 _ g2 k1' k2' nz2 =>
      have eh := nats_inj (e.symm.trans e2)
      subst eh
      rcases Nat.lt_trichotomy k k' with h | h | h
      · exact (nz (g2 k k1 h)).elim
      · rw [h]
      · exact (nz2 (g k' k1' h)).elim
    | @ok hs2 t e2 _ =>
      have eh := nats_inj (e.symm.trans e2)
      subst eh
      exact (nz (t.comes k k2)).elim
  | @ok hs t e f =>
    cases h' with
    | hung n => exact (n ⟨by rw [e, nats_length]; exact t.pos, by rw [e, nats_length]; exact t.most⟩).elim
    | block _ _ _ e2 bd => exact (f _ _ e2 bd).elim
    | @ring hs2 k' _ _ e2 _ g2 k1' k2' nz2 =>
      have eh := nats_inj (e.symm.trans e2)
      subst eh
      exact (nz2 (t.comes k' k2')).elim
    | ok _ _ _ => rfl
/-- no bad one: they are places -/
theorem good_nats {xs : List V} (n : Nat) (h : ∀ (j : Nat) y, xs[j]? = some y → numV 0 n y = true) : ∃ hs : List Nat, xs = nats hs ∧ ∀ x ∈ hs, x ≤ n := by
  induction xs with
  | nil => exact ⟨[], rfl, fun _ h => nomatch h⟩
  | cons x r ih =>
    obtain ⟨hs, e, hle⟩ := ih fun j y hy => h (j + 1) y hy
    have hx := h 0 x rfl
    cases x with
    | int i =>
      have hx' : (decide ((0 : Int) ≤ i) && decide (i ≤ (n : Int))) = true := hx
      rw [Bool.and_eq_true, decide_eq_true_eq, decide_eq_true_eq] at hx'
      obtain ⟨m, rfl⟩ := Int.eq_ofNat_of_zero_le hx'.1
      refine ⟨m :: hs, by rw [e]; rfl, fun y hy => ?_⟩
      rcases List.mem_cons.mp hy with rfl | hy
      · omega
      · exact hle y hy
    | _ => cases hx
end Fv
set_option maxRecDepth 100000
set_option maxHeartbeats 1000000
namespace Fv
open PySem PySem.Spec L2
theorem x_mko {C : Addr} {sp : Sp} {dvs : List V} {ta : TA} {σ : L2.St} {H : Hp} {Q : XK} (h : ta σ H fun vs H1 => vs.length ≤ 1000 ∧ ∀ a, H1 a = none → sp (.ref a :: (vs ++ dvs)) (upd H1 a (exo a C none)) (fun v H2 => v = .non ∧ ∃ (d : Addr) (fs : List (Str × V)), H2 a = some (exo a C (some d)) ∧ H2 d = some (exd d fs) ∧ H1 d = none ∧ Q (.ref C) (some d) (upd (del H2 a) d (.xd fs))) (fun _ _ _ => False)) : tMkO C sp dvs ta σ H Q := h
theorem x_ost {K : PySem.W.Frag} {f : Str} {to te : TE} {D : Ends} {σ : L2.St} {H : Hp} (h : te σ H fun y H1 => to σ H1 fun x H2 => ∃ a C : Addr, x = .ref a ∧ OexC K C ∧ PySem.W.findIn K (.ref C) f = some none ∧ ((H2 a = some (exo a C none) ∧ ∀ dx, H2 dx = none → dx ≠ a → D.nx σ (upd (upd H2 dx (exd dx [(f, y)])) a (exo a C (some dx)))) ∨ ∃ (dx : Addr) (fs : List (Str × V)), H2 a = some (exo a C (some dx)) ∧ H2 dx = some (exd dx fs) ∧ fs.length ≤ 900 ∧ D.nx σ (upd H2 dx (exd dx ((f, y) :: fs))))) : tOst K f to te D σ H := h
theorem x_sfld {K : PySem.W.Frag} {ta tv : TE} {f : Str} {D : Ends} {σ : L2.St} {H : Hp} (h : tv σ H fun y H1 => ta σ H1 fun x H2 => ∃ a C dx fs, x = .ref a ∧ H2 a = some (.ins C dx fs) ∧ Cls K C ∧ NoAttr K C f ∧ fs.length < 1000 ∧ D.nx σ (upd H2 a (.ins C dx (putF f y fs)))) : sFld K ta tv f D σ H := h
/-- a method, called by its class or through another -/
structure CalM (K : PySem.W.Frag) (f : Addr) (fd : FuncData) (ps : List Str) : Prop where
  k : PySem.W.keepIn K (.ref f) = true
  b : Binds K fd ps []
/-- an own error with one field, set by its __init__ -/
structure ExcF (K : PySem.W.Frag) (C fI : Addr) (f : Str) : Prop where
  T : OexC K C
  i : PySem.W.findIn K (.ref C) "__init__" = some (some (.ref fI))
  t : PySem.W.typeIn K (.ref fI) = some (.type "function")
  n : PySem.W.findIn K (.ref C) f = some none
def spField (C : Addr) (f : Str) : Sp := fun vs H Q _ => ∃ (a : Addr) (v : V), vs = [.ref a, v] ∧ H a = some (exo a C none) ∧ ∀ dx, H dx = none → dx ≠ a → Q .non (upd (upd H dx (exd dx [(f, v)])) a (exo a C (some dx)))
/-- raise C(v): the error's own dict is new, all that was tracked stands -/
theorem mk_field {C : Addr} {f : Str} {v : V} {H : Hp} {Q : XK} (h : ∀ d H', Same H H' → H d = none → H' d = some (.xd [(f, v)]) → Q (.ref C) (some d) H') :
    [v].length ≤ 1000 ∧ ∀ a, H a = none → spField C f (.ref a :: ([v] ++ [])) (upd H a (exo a C none)) (fun v H2 => v = .non ∧ ∃ (d : Addr) (fs : List (Str × V)), H2 a = some (exo a C (some d)) ∧ H2 d = some (exd d fs) ∧ H d = none ∧ Q (.ref C) (some d) (upd (del H2 a) d (.xd fs))) (fun _ _ _ => False) := by
  refine ⟨by show 1 ≤ 1000; decide, fun a ha => ⟨a, v, rfl, upd_same, fun dx hd ne => ⟨rfl, dx, [(f, v)], upd_same, ?_, ?_, ?_⟩⟩⟩
  · rw [upd_ne ne, upd_same]
  · rw [upd_ne ne] at hd
    exact hd
  · rw [upd_ne ne] at hd
    refine h dx _ (fun b o e => ?_) hd upd_same
    have nb := ne_of_none e ha
    rw [upd_ne (ne_of_none e hd), del_ne nb, upd_ne nb, upd_ne (ne_of_none e hd), upd_ne nb]
    exact e
end Fv
set_option maxRecDepth 100000
set_option maxHeartbeats 1000000
namespace Fv
open PySem PySem.Spec L2
/-! tuples of places compared -/
def dn (l : List Nat) : List PyData := l.map fun (n : Nat) => PyData.int (Int.ofNat n)
theorem dpAll_nats {K : PySem.W.Frag} {H : Hp} : ∀ l : List Nat, DpAll K H (nats l) (dn l)
  | [] => .nil
  | a :: l => .cons (.int _) (dpAll_nats l)
theorem dn_lay : ∀ l : List Nat, PyData.canLayAll0 (dn l) = true
  | [] => rfl
  | a :: l => by
    show (PyData.canLay0 (.int (Int.ofNat a)) && PyData.canLayAll0 (dn l)) = true
    rw [dn_lay l]
    rfl
theorem dn_depth : ∀ l : List Nat, PyData.depthAll (dn l) = 0
  | [] => rfl
  | a :: l => by
    show max (PyData.depth (.int (Int.ofNat a))) (PyData.depthAll (dn l)) = 0
    rw [dn_depth l]
    rfl
theorem dn_shaped (l : List Nat) : SeqAt.shaped (.tuple (dn l)) = true := by
  show (PyData.canLayAll0 (dn l) && decide (PyData.depthAll (dn l) + 1 ≤ 64)) = true
  rw [dn_lay, dn_depth]
  rfl
theorem dn_eqv : ∀ l m : List Nat, PyData.eqvAll (dn l) (dn m) = decide (l = m)
  | [], [] => by simp [dn, PyData.eqvAll]
  | [], _ :: _ => by simp [dn, PyData.eqvAll]
  | _ :: _, [] => by simp [dn, PyData.eqvAll]
  | a :: l, b :: m => by
    show PyData.eqvAll (.int (Int.ofNat a) :: dn l) (.int (Int.ofNat b) :: dn m) = _
    rw [PyData.eqvAll, dn_eqv l m, PyData.eqv, Bool.eq_iff_iff]
    simp
    intro _
    omega
section
variable {K : PySem.W.Frag} {H : Hp} {Q : VK} {a b : Addr} {l m : List Nat}
theorem x_eqTup (h1 : SqT K H a (nats l)) (h2 : SqT K H b (nats m)) (q : Q (.bl (decide (l = m))) H) : rEqD K (.ref a) (.ref b) H Q := by
  refine ⟨.tuple (dn l), .tuple (dn m), .tup h1 (dpAll_nats l), .tup h2 (dpAll_nats m), dn_shaped l, dn_shaped m, ?_⟩
  rw [PyData.eqv, dn_eqv]
  exact q
theorem x_neTup (h1 : SqT K H a (nats l)) (h2 : SqT K H b (nats m)) (q : Q (.bl (!decide (l = m))) H) : rNeD K (.ref a) (.ref b) H Q := by
  refine ⟨.tuple (dn l), .tuple (dn m), .tup h1 (dpAll_nats l), .tup h2 (dpAll_nats m), dn_shaped l, dn_shaped m, ?_⟩
  rw [PyData.eqv, dn_eqv]
  exact q
end
/-! x == y by x's own __eq__ -/
structure OwnQ (K : PySem.W.Frag) (C f : Addr) : Prop where
  s : PySem.W.findIn K (.ref C) "__eq__" = some (some (.ref f))
  fn : PySem.W.isFn K (.ref f) = true
def rOwn (C : Addr) (sp : Sp) : R2 := fun x y H Q => ∃ (a b dx : Addr) (fs : List (Str × V)), x = .ref a ∧ y = .ref b ∧ H a = some (.ins C dx fs) ∧ ((∃ dy gs, H b = some (.ins C dy gs)) ∨ ∃ xs, H b = some (.tup xs)) ∧
  sp [.ref a, .ref b] H (fun v H' => ∃ r, v = .bl r ∧ Q (.bl r) H') (fun _ _ _ => False)
theorem tup_apart (K : PySem.W.Frag) (C : Addr) : PySem.W.notFirst K C (.type "tuple") = true := by
  have e : PySem.W.subIn K (.type "tuple") (.ref C) = some false := by
    have e2 : PySem.fastBuiltinMro "tuple" = some [.type "tuple", .type "object"] := by decide +kernel
    show (PySem.fastBuiltinMro "tuple").map (·.contains (Value.ref C)) = some false
    rw [e2]
    rfl
  unfold PySem.W.notFirst
  rw [e]
  rfl
theorem op_own {X : Cx} {C f : Addr} {fd : FuncData} {ps : List Str} {sp : Sp} {n : Nat} (O : OwnQ X.K C f) (F : FnOk X.prog X.w X.K X.mg X.base CX0 n f fd ps sp) (hb : Binds X.K fd ps []) (hr : Room n X.A) : OpR X (compareOp .Eq) (rOwn C sp) := by
  intro pins s σ H x y v u Q I rx ry h
  obtain ⟨a, b, dx, fs, rfl, rfl, ha, hB, hsp⟩ := h
  cases rx
  cases ry
  show wpAny (model X.prog X.w) X.A (richCompare .Eq (.ref a) (.ref b)) (EP X pins σ Q) X.xe s
  obtain ⟨mA, J, _⟩ := ins_get I.hok ha
  obtain ⟨od, J, _⟩ := J.look
  obtain ⟨m, hF⟩ := I.fr
  have r2 : Vals [V.ref a, V.ref b] [Value.ref a, Value.ref b] := .cons rfl (.cons rfl .nil)
  have back : wpAny (model X.prog X.w) X.A (call (.ref f) [.ref a, .ref b]) (PySem.W.CmpBack (EP X pins σ Q)) X.xe s := by
    refine thn (run_fn F hr hb .nil pass0 I r2 hsp) fun w' s' ⟨z, H', I', rz, r, ez, q⟩ => ?_
    subst ez
    cases rz
    exact ⟨.bl r, H', I', rfl, q⟩
  rcases hB with ⟨dy, gs, hB⟩ | ⟨xs, hB⟩
  · obtain ⟨mB, J', _⟩ := ins_get I.hok hB
    obtain ⟨od', J', _⟩ := J'.look
    exact PySem.W.cmp_K (op := .Eq) (tb := .ref C) hr.units0 hF I.ok.mod.kin J J'.type (by simp [PySem.W.notFirst]) O.s O.fn back
  · obtain ⟨_, _, _, o, h1, h2, _⟩ := (show ObjOk X.prog X.w H s.heap b (.tup xs) from I.hok b _ hB)
    exact PySem.W.cmp_K (op := .Eq) (tb := .type "tuple") hr.units0 hF I.ok.mod.kin J (fun A Q E s k q => wpAny_typeOf_ref (k _ _ h1) (by rw [h2]; exact q)) (tup_apart X.K C) O.s O.fn back
/-! what isinstance asks of an own class -/
structure IsC (K : PySem.W.Frag) (C : Addr) : Prop where
  cl : Cls K C
  ha : PySem.W.findIn K (.ref C) "__class__" = some (some (.builtin "object.__class__"))
  hn : PySem.W.specialIn K (.builtin "object.__class__") "__get__" = some (some (.builtin "getset_descriptor.__get__"))
  ht : PySem.W.takesIn K (.builtin "object.__class__") = some true
  hm : PySem.W.mroIn K C (.type "object") = some true
  own : PySem.W.kitOne K (.ref C) (.ref C) = some true
  tup : PySem.W.kitOne K (.type "tuple") (.ref C) = some false
section
variable {K : PySem.W.Frag} {H : Hp} {Q : VK} {a C dx : Addr} {fs : List (Str × V)} {xs : List V}
theorem isi_own (c : IsC K C) (h : H a = some (.ins C dx fs)) (q : Q (.bl true) H) : rIsi K [.ref a, .ref C] H Q := ⟨.ref a, .ref C, .ref C, .ref C, true, rfl, .own C, .base (.ins h c.cl c.ha c.hn c.ht c.hm), c.own, q⟩
theorem isi_tupOwn (c : IsC K C) (h : H a = some (.tup xs)) (q : Q (.bl false) H) : rIsi K [.ref a, .ref C] H Q := ⟨.ref a, .ref C, .type "tuple", .ref C, false, rfl, .own C, .base (.tup h), c.tup, q⟩
theorem x_fldQ {te : TE} {f : Str} {σ : L2.St} (h : te σ H fun x H1 => ∃ a C dx fs v, x = .ref a ∧ H1 a = some (.ins C dx fs) ∧ Cls K C ∧ NoAttr K C f ∧ fs.lookup f = some v ∧ Q v H1) : tFld K te f σ H Q := h
theorem x_fld1 {v : V} {f : Str} (h : H a = some (.ins C dx fs)) (c : Cls K C) (n : NoAttr K C f) (l : fs.lookup f = some v) (q : Q v H) : ∃ a' C' dx' fs' v', V.ref a = .ref a' ∧ H a' = some (.ins C' dx' fs') ∧ Cls K C' ∧ NoAttr K C' f ∧ fs'.lookup f = some v' ∧ Q v' H := ⟨a, C, dx, fs, v, rfl, h, c, n, l, q⟩
end
end Fv
set_option maxRecDepth 100000
set_option maxHeartbeats 1000000
namespace Fv
open PySem PySem.Spec L2 PyProof.Rows
/-- what leaves the body of a try is the wish at any cells of the right number -/
theorem passLen {X : Cx} {W : WX} {n : Nat} (tk : Takes X W) (hn : X.N.length = n) : Passes (L2.CX X.prog X.w) X (fun cls d H => ∀ σ : L2.St, σ.length = n → W cls d σ H) := fun pins σ H s e s' I c => by
  refine passAt tk σ pins H s e s' I ?_
  obtain ⟨a, B, H', cls, d, h1, h2, h3, h4, h5, h6, h7, h8⟩ := c
  exact ⟨a, B, H', cls, d, h1, h2, h3, h4, h5, h6, h7, h8 σ (I.len.trans hn)⟩
/-- isinstance(e, C), e the caught error, which holds a field -/
def rIsF (K : PySem.W.Frag) (D a : Addr) (cls : Value) (d : Option Addr) : List V → Hp → VK → Prop := fun xs H Q => ∃ (C dd : Addr) (fs : List (Str × V)), xs = [.ref a, .ref C] ∧ cls = .ref D ∧ d = some dd ∧ H dd = some (.xd fs) ∧ PySem.W.kitOne K (.ref D) (.ref C) = some true ∧ Q (.bl true) H
theorem call_isF {X : Cx} {a D : Addr} {oe : Obj} {cls : Value} {d : Option Addr} {pn : List (Addr × Obj)} (C : L2.ExcC X.K D) (hz : Zc cls d oe) (hf : ∃ vs, oe.data = .fields vs) : CallR (X.suite a ((a, oe) :: pn)) (.builtin "isinstance") (rIsF X.K D a cls d) := by
  intro pins s σ H xs us Q I r h
  obtain ⟨B, dd, fs, rfl, rfl, rfl, ea, e, q⟩ := h
  cases r with
  | cons rx rr =>
    cases rr with
    | cons rt rr =>
      cases rr
      cases rx
      cases rt
      obtain ⟨hget, _⟩ := I.pin (a, oe) (List.mem_append.mpr (.inl List.mem_cons_self))
      obtain ⟨vs, hv⟩ := hf
      have hx : ObjOk X.prog X.w H s.heap dd (.xd fs) := I.hok dd _ ea
      obtain ⟨mA, hns, hr⟩ := hx
      obtain ⟨od, ho, hl⟩ := lookIn_ns hns
      have J : PySem.W.InstAt s.heap a oe D (some od) := ⟨hget, hz.1, by unfold PySem.W.notCls; rw [hv] <;> rfl, by rw [hz.2]; exact ho⟩
      have hcl : (PySem.W.clsIn X.K D).isSome = true := by
        obtain ⟨cd, hc, _⟩ := PySem.W.any_some C.hd
        rw [hc]
        rfl
      exact PySem.W.kia_one (PySem.W.kitx_exc hcl C.hg C.hk C.hs C.ha C.hn C.ht C.hm) I.kIn J e (fun z => nomatch z) fun tk => ⟨.bl true, H, I.kept (t' := tk) fun _ _ z => z, rfl, q⟩
theorem x_make {C : Addr} {sp : Sp} {dvs : List V} {E : XK} {t : TA} {σ : L2.St} {H : Hp} {Q : VK} (h : t σ H fun vs H1 => ∀ x dx, H1 x = none → H1 dx = none → dx ≠ x → sp (.ref x :: (vs ++ dvs)) (upd (upd H1 dx (.own x)) x (.ins C dx [])) (fun v H2 => v = .non ∧ Q (.ref x) H2) E) : tMake C sp dvs E t σ H Q := h
theorem x_xf {a : Addr} {cls : Value} {d : Option Addr} {C : Addr} {f : Str} {te : TE} {σ : L2.St} {H : Hp} {Q : VK} (h : te σ H fun x H1 => x = .ref a ∧ cls = .ref C ∧ ∃ (dd : Addr) (fs : List (Str × V)) (v : V), d = some dd ∧ H1 dd = some (.xd fs) ∧ fs.lookup f = some v ∧ Q v H1) : tXf a cls d C f te σ H Q := h
end Fv
set_option maxRecDepth 100000
set_option maxHeartbeats 1000000
namespace Fv
open PySem PySem.Spec L2
section
variable {X : Cx} {K : PySem.W.Frag} {H : Hp} {Q : VK} {a b : Addr} {xs ys : List V} {v : V}
/-- a callee from which nothing comes out -/
theorem passE {P : Program} {w : World} : Passes (L2.CX P w) X (fun _ _ _ => False) := fun pins σ H s e s' I c => by
  obtain ⟨a, B, H', cls, d, h1, h2, h3, h4, h5, h6, h7, h8⟩ := c
  exact h8.elim
theorem op_catTK (e : X.K = K) : OpR X (binaryOp .Add) (rCatT K) := by
  subst e
  exact op_catT
theorem op_repTK (e : X.K = K) : OpR X (binaryOp .Mult) (rRepT K) := by
  subst e
  exact op_repT
theorem x_catT (h1 : SqT K H a xs) (h2 : SqT K H b ys) (nx : xs ≠ []) (ny : ys ≠ []) (hl : xs.length + ys.length ≤ 10000) (q : ∀ p, H p = none → Q (.ref p) (upd H p (.tup (xs ++ ys)))) : rCatT K (.ref a) (.ref b) H Q :=
  ⟨a, b, xs, ys, rfl, rfl, h1, h2, nx, szLe (by omega), fun e => (ny e).elim, fun _ => q⟩
theorem x_repT1 {k : Nat} (h : SqT K H a [v]) (h2 : 2 ≤ k) (hk : k ≤ 1000) (q : ∀ p, H p = none → Q (.ref p) (upd H p (.tup (List.replicate k v)))) : rRepT K (.ref a) (.int k) H Q :=
  ⟨a, k, [v], rfl, rfl, h, by simp, by omega, by omega, (by show 1 ≤ 1000; decide), fun p hp => by
    have e := rep_one k v
    rw [Int.toNat_natCast, e]
    exact q p hp⟩
end
end Fv
set_option maxRecDepth 100000
set_option maxHeartbeats 1000000
namespace Fv
open PySem PySem.Spec PyProof.Rows L2
/-! a range kept by a name, and walked -/
def rRng2 : List V → Hp → VK → Prop := fun vs H Q => ∃ i j, vs = [V.int i, V.int j] ∧ ∀ p, H p = none → Q (.ref p) (upd H p (.rng i j))
theorem call_rng2 {X : Cx} : CallR X (.type "range") rRng2 := cr_range2
def iRngV (te : TE) : TI := fun σ H R => te σ H fun x H1 => ∃ (a : Addr) (lo hi : Int), x = .ref a ∧ H1 a = some (.rng lo hi) ∧ (-(2 ^ 62) ≤ lo ∧ lo < 2 ^ 62 ∧ -(2 ^ 62) ≤ hi ∧ hi < 2 ^ 62) ∧ R (Itr lo (hi - lo).toNat) H1
theorem pi_rngV {X : Cx} {tg e : Expr} {te : TE} (he : PE X e te) : PI X tg e (iRngV te) := by
  refine ⟨fun pins s σ H R I h => thn (he.run pins s σ H _ I h) fun u s1 ⟨x, H1, I1, rx, a, lo, hi, ex, ea, ⟨h1, h2, h3, h4⟩, q⟩ => ?_⟩
  subst ex
  obtain rfl : u = Value.ref a := rx
  obtain ⟨t, u, v, ho⟩ := (show ∃ t u v, s1.heap.get? a = some { cls := .type "range", data := .fields #[.int lo t, .int hi u, .int 1 v] } from I1.hok a _ ea)
  refine wpAny_pyIter_range (a := lo) (b := hi) (c := 1) (t := t) (u := u) (v := v) ho (small_one h1 h2 h3 h4) ?_
  refine ⟨s1.heap.objs.size, [s1.heap.objs.size], _, _, H1, rfl, I1.kept (t' := s1.toks) fun b o e => Heap.get?_push_of_some _ e, turn_range _ lo (hi - lo).toNat, ?_, fun b hb => ?_, q⟩
  · have e1 : lo + ((0 : Nat) : Int) * 1 = lo := by simp
    have e2 : (((hi - lo).toNat : Nat) : Int) - ((0 : Nat) : Int) = Builtin.Range.rangeSize lo hi 1 := by rw [rangeSize_one]; split <;> omega
    show IsRangeIter _ _ (lo + ((0 : Nat) : Int) * 1) ((((hi - lo).toNat : Nat) : Int) - ((0 : Nat) : Int)) 1
    rw [e1, e2]
    exact Heap.get?_push_size _ rfl
  · have e : b = s1.heap.objs.size := by simpa using hb
    subst e
    exact I1.fpOk (Nat.le_refl _) (I1.hok.fresh (Nat.le_refl _))
theorem pg_tupK {X : Cx} {K : PySem.W.Frag} {es : List Expr} {k : Nat} {t : TGs} {n : Nat} {pos : Pos} (eK : X.K = K) (hc : X.calm = true) (h : PGs X es t)
    (hn : (assignEach es X.env).length = n := by rfl) (hst : (assignEach es X.env).findIdx? (·.1) = none := by rfl) : PG X (.Tuple es k pos) (gTup K n t) := by
  subst eK
  exact pg_tup hc h hn hst
section
variable {K : PySem.W.Frag} {σ : L2.St} {H : Hp} {Q : VK} {a p : Addr} {xs : List V} {v : V}
theorem x_rng2v {i j : Int} (q : ∀ p, H p = none → Q (.ref p) (upd H p (.rng i j))) : rRng2 [.int i, .int j] H Q := ⟨i, j, rfl, q⟩
theorem x_irngV {R : It → Hp → Prop} {te : TE} (h : te σ H fun x H1 => ∃ (a : Addr) (lo hi : Int), x = .ref a ∧ H1 a = some (.rng lo hi) ∧ (-(2 ^ 62) ≤ lo ∧ lo < 2 ^ 62 ∧ -(2 ^ 62) ≤ hi ∧ hi < 2 ^ 62) ∧ R (Itr lo (hi - lo).toNat) H1) : iRngV te σ H R := h
theorem atI_last (xs : List V) (v : V) : atI (xs ++ [v]) (-1) = some v := by
  unfold atI ixN
  rw [if_neg (by decide), if_pos (by rw [List.length_append]; show -((xs.length + 1 : Nat) : Int) ≤ -1; omega)]
  show (xs ++ [v])[_]? = _
  have e : ((-1 : Int) + ((xs ++ [v]).length : Nat)).toNat = xs.length := by
    rw [List.length_append]
    show ((-1 : Int) + ((xs.length + 1 : Nat) : Int)).toNat = xs.length
    omega
  first
    | (rw [e]; simp)
    | simp
theorem flat_nats (l : List Nat) : (nats l).all flatV = true := by
  rw [List.all_eq_true]
  intro x hx
  obtain ⟨n, _, rfl⟩ := List.mem_map.mp hx
  rfl
theorem in_nats (k : Nat) : ∀ l : List Nat, inV (.int k) (nats l) = decide (k ∈ l)
  | [] => rfl
  | a :: l => by
    show (eqV (.int a) (.int k) || inV (.int k) (nats l)) = decide (k ∈ a :: l)
    rw [in_nats k l, Bool.eq_iff_iff]
    simp only [Bool.or_eq_true, decide_eq_true_eq, List.mem_cons]
    have e : eqV (.int a) (.int k) = decide ((a : Int) = (k : Int)) := by
      show ((a : Int) == (k : Int)) = _
      rfl
    rw [e, decide_eq_true_eq]
    constructor
    · rintro (h | h)
      · exact .inl (by omega)
      · exact .inr h
    · rintro (h | h)
      · exact .inl (by omega)
      · exact .inr h
theorem x_inNT {k : Nat} {l : List Nat} (h : SqT K H p (nats l)) (q : Q (.bl (decide (k ∈ l))) H) : rIn K false (.int k) (.ref p) H Q := by
  refine ⟨p, _, rfl, .inr h, rfl, flat_nats l, ?_⟩
  show Q (.bl (inV (.int k) (nats l))) H
  rw [in_nats]
  exact q
end
end Fv
set_option maxRecDepth 100000
set_option maxHeartbeats 1000000
namespace Fv
open PySem PySem.Spec PySem.Calls PyProof.Rows
/-! an error of the package whose __init__ says super().__init__() and no more -/
def siA (p : Pos) : Arguments := { posonlyargs := [], args := [{ arg := "self", annotation := none, pos := p }], vararg := none, kwonlyargs := [], kw_defaults := [], kwarg := none, defaults := [] }
def siB (p0 p1 p2 p3 p4 : Pos) : List Stmt := [.Expr (.Call (.Attribute (.Call (.Name "super" p0) [] [] p1) "__init__" p2) [] [] p3) p4]
def siS : Scope := { kind := .function, names := [(PySem.Str.ofString "self", .local), (PySem.Str.ofString "__class__", .free), (PySem.Str.ofString "super", .globalImplicit)], isGenerator := false, isCoroutine := false, more := [] }
/-- how the model reads super().__init__(), its places being these -/
def SupEv (p0 p1 p2 p3 : Pos) : Prop := ∀ (q : Str) (L a cc : Addr) (cd : Value), ∃ pl : Sem Bool,
  eval (.Call (.Attribute (.Call (.Name "super" p0) [] [] p1) "__init__" p2) [] [] p3) (PySem.W.ksEnv q siS L a cd cc) = (do
    let o ← attributeBase (.Call (.Name "super" p0) [] [] p1) "__init__" (PySem.W.ksEnv q siS L a cd cc) (eval (.Call (.Name "super" p0) [] [] p1) (PySem.W.ksEnv q siS L a cd cc))
    standAt p2.atName
    let (f, first) ← holding [o] (getMethod o "__init__" pl)
    callWith p3 f first (backTo p3 (starEach [] (PySem.W.ksEnv q siS L a cd cc))) [])
/-- what the written part says of such a class at C, and of its __init__, at fI -/
structure SupC (P : Program) (K : PySem.W.Frag) (C fI : Addr) : Prop where
  x : L2.OexC K C
  iC : PySem.W.findIn K (.ref C) "__init__" = some (some (.ref fI))
  tC : PySem.W.typeIn K (.ref fI) = some (.type "function")
  fn : ∃ (oc : Value) (od : Option Addr) (kV doc pm : Value) (an : Option Addr) (cda : Addr) (ct : Value) (osl : Array (Option Value)) (cc : Addr) (q : Str) (p p0 p1 p2 p3 p4 : Pos),
    K.lookup fI = some ⟨oc, od, .func (PySem.W.ksFn "__init__" q (siA p) (siB p0 p1 p2 p3 p4) siS .none kV doc pm an (.ref cda) ct cc), osl⟩ ∧ PySem.W.codeIn K (.ref cda) q = true ∧ (∃ (cl : Value) (cld : Option Addr) (csl : Array (Option Value)), K.lookup cc = some ⟨cl, cld, .cell (some (.ref C)), csl⟩) ∧
    ∃ (ccl : Value) (cdd : Option Addr) (vs : Array Value) (ccs : Array (Option Value)) (file : Str) (tf : Tok), K.lookup cda = some ⟨ccl, cdd, .fields vs, ccs⟩ ∧ vs[2]? = some (.str file tf) ∧ ((P.main.file : Str) == file) = true ∧ SupEv p0 p1 p2 p3
  up : PySem.W.ks_superIn K C C "__init__" = some (some (.builtin "ValueError.__init__"))
  me : PySem.W.mroIn K C (.ref C) = some true
  ve : PySem.W.subIn K (.ref C) (.type "ValueError") = some true
  op : PySem.W.nsIn K cStatics "thirdparty.any" = some none
  tp : (P.main.scope.names.lookup ("super" : Str)).isSome = false
section
variable {P : Program} {w : World} {A : Around} {R : Result → Shared → Prop} {s : Shared} {K : PySem.W.Frag} {C fI : Addr}
theorem sup_init (T : SupC P K C fI) {x t0 : Addr} {mg mb : Str → Option Value} (X : K.In s.heap) (hlim : s.heap.NoLimit) (hg : s.heap.Ns mainGlobals mg) (hms : mg "super" = none) (hb : s.heap.Ns builtinsNs mb) (hbs : mb "super" = some (.type "super"))
    (hx : s.heap.get? x = some (PySem.HandSPX.excO C t0)) (hroom : A.depth < recursionLimit)
    (hq : ∀ h' tk t1, (∀ b o, b ≠ x → s.heap.get? b = some o → h'.get? b = some o) → h'.get? x = some (PySem.HandSPX.excO C t1) → R (.ok (.ret .none)) { s with heap := h', toks := tk }) :
    codeAny (model P w) A (.call (.ref fI) ⟨[.ref x], []⟩) R s := by
  obtain ⟨oc, od, kV, doc, pm, an, cda, ct, osl, cc, q, p, p0, p1, p2, p3, p4, ho, hcd, ⟨cl, cld, csl, hcell⟩, ccl, cdd, vs, ccs, file, tf, hcode, hvs, hfile, hev⟩ := T.fn
  obtain ⟨nm, q', N, bs, bm, sn, sub, ab, col, dd, k0, k1, k2, k3, k5, hC, hbm⟩ := T.x.cls
  have hcl : PySem.W.clsIn K C = some { name := nm, bases := bs, mro := .ref C :: bm, ns := N, qualname := q', hasDict := true, slotNames := sn, subclasses := sub, abstract := ab, collection := col, hasDel := false } := by
    unfold PySem.W.clsIn
    rw [hC] <;> rfl
  refine ks_codeAny_call_defAt (binds := [("self", .ref x)]) hroom (X _ _ ho) rfl hlim (PySem.W.codeRec_of X hcd) rfl (BindsTo.of_eq rfl) (show ∀ x ∈ siS.names, x.2 ≠ NameKind.cell by decide) (fun y hy => ?_) (fun h₁ hns hk₁ => ?_)
  · simp only [List.mem_cons, List.not_mem_nil, or_false] at hy
    subst hy
    rfl
  have X1 : K.In h₁ := X.keeps hk₁
  have hx1 := hk₁ _ _ hx
  have hC1 := X1 _ _ hC
  obtain ⟨hp, g, d, tk, os⟩ := s
  obtain ⟨pl, he⟩ := hev q hp.objs.size fI cc (.ref cda)
  refine ks_wpAt_execs_cons (ks_wpAt_Expr_any (ks_wpAt_MethodCall (pl := pl) ?_ he))
  refine ks_wpAt_super_base rfl rfl rfl rfl (X1 _ _ ho) rfl rfl rfl (X1 _ _ hcode) rfl hvs hfile T.tp ?_
  refine PySem.W.ks_loadName_global rfl rfl (loadGlobal_builtin (hg.keeps hk₁) hms (hb.keeps hk₁) hbs ⟨rfl, ?_⟩)
  refine wpAny_loadName_free rfl rfl rfl ⟨_, X1 _ _ hcell, rfl⟩ ?_
  refine wpAny_loadName_local (v := .ref x) rfl rfl hns rfl ?_
  refine ks_wpAny_isType_cls hC1 rfl ⟨rfl, ?_⟩
  refine ks_wpAny_call_super hC1 rfl hx1 rfl (fun c e => by cases e) (PySem.W.looks_mroIn X1 T.me) (fun h2 hso k2 => ?_)
  have X2 : K.In h2 := X1.keeps k2
  have hx2 := k2 _ _ hx1
  have I2 : PySem.W.InstAt h2 x (PySem.HandSPX.excO C t0) C none := ⟨hx2, rfl, rfl, trivial⟩
  have hup : PySem.W.alongIn K "__init__" (((Value.ref C :: bm).dropWhile (· != Value.ref C)).drop 1) = some (some (.builtin "ValueError.__init__")) := by
    have e := T.up
    unfold PySem.W.ks_superIn at e
    rw [hcl] at e
    exact e
  refine PySem.W.kxs_getMethod PySem.W.kxs_ValueError hso (PySem.W.looks_opaque X2 T.op) (l₀ := .ref C :: bm) ?_ rfl X2 hup (I2.type.andThen (PySem.W.looks_subIn X2 T.ve)) (PySem.W.ks_ne X2 I2 hcl) (by decide) ?_
  · exact fun A Q E s k q => wpAny_bind (PySem.W.looks_clsIn X2 hcl A _ E s k (wpAny_pure q))
  have hu : (h2.push (PySem.W.kxs_mw "ValueError.__init__" x)).get? h2.objs.size = some (PySem.W.kxs_mw "ValueError.__init__" x) := Heap.get?_push_at rfl rfl
  have k3 : ∀ b o, h2.get? b = some o → (h2.push (PySem.W.kxs_mw "ValueError.__init__" x)).get? b = some o := fun b o e => Heap.get?_push_of_some _ e
  refine PySem.W.kxs_callWith (i := "ValueError.__init__") (x := x) rfl (PyProof.Rows.evalArgs_empty ⟨hu, ?_⟩)
  have FB := PySem.F.excBase_ValueError
  have hC3 := k3 _ _ (X2 _ _ hC)
  have hx3 := k3 _ _ hx2
  refine wpAny_call (codeAny_of_tree ?_)
  show wpAny _ _ (callAny (.ref h2.objs.size) ⟨[], []⟩) _ _ _
  unfold callAny
  refine wpAny_bind (wpAny_load hu ?_)
  show wpAny _ _ (if (Value.type "method-wrapper" == Value.type "method" || Value.type "method-wrapper" == Value.type "builtin_function_or_method" || Value.type "method-wrapper" == Value.type "method-wrapper") = true then
    (if (Value.type "method-wrapper" != Value.type "method") = true then (do checkBoundCall "ValueError.__init__" ⟨[.ref x], []⟩; again (.builtin "ValueError.__init__" ⟨[.ref x], []⟩)) else again (.call (.builtin "ValueError.__init__") ⟨[.ref x], []⟩)) else _) _ _ _
  rw [if_pos (by decide), if_pos (by decide)]
  refine wpAny_bind (PySem.W.check_bound_init FB.toExcCallFacts hC3 hx3 rfl (wpAny_pure ⟨PySem.plainId_quiet FB.init.plain _, codeAny_builtin FB.initEntry ?_⟩))
  refine PySem.W.exc_init_tree (cls := .ref C) (t0 := t0) (dv := none) (c2 := .none) (c3 := .none) (b4 := .bool false) hx3 (by rw [sizeLine_eq]; decide) fun h4 k4 hx4 _ => ?_
  show PySem.wpAt _ _ _ (execs [] _) _ _ _
  exact PySem.wpAt_of_wpAny (wpAny_execs_nil (hq h4 _ _ (fun b o nb e => k4 b o nb (k3 _ _ (k2 _ _ (hk₁ _ _ e)))) hx4))
theorem sup_made (T : SupC P K C fI) {mg mb : Str → Option Value} (X : K.In s.heap) (hlim : s.heap.NoLimit) (hg : s.heap.Ns mainGlobals mg) (hms : mg "super" = none) (hb : s.heap.Ns builtinsNs mb) (hbs : mb "super" = some (.type "super")) (hroom : A.depth + 1 < recursionLimit)
    (hq : ∀ h' tk e t1, (∀ b o, s.heap.get? b = some o → h'.get? b = some o) → s.heap.objs.size ≤ e → h'.get? e = some (PySem.HandSPX.excO C t1) → R (.ok (.ret (.ref e))) { s with heap := h', toks := tk }) :
    codeAny (model P w) A (.call (.ref C) ⟨[], []⟩) R s := by
  obtain ⟨nm, q', N, bs, bm, sn, sub, ab, col, dd, k0, k1, k2, k3, k5, hC, hbm⟩ := T.x.cls
  obtain ⟨hp, g, dr, tk, os⟩ := s
  have k : ∀ b o, hp.get? b = some o → ((hp.push (PySem.W.kdv_tup [])).push (PySem.HandSPX.excO C hp.objs.size)).get? b = some o := fun b o e => Heap.get?_push_of_some _ (Heap.get?_push_of_some _ e)
  have hget : ((hp.push (PySem.W.kdv_tup [])).push (PySem.HandSPX.excO C hp.objs.size)).get? (hp.objs.size + 1) = some (PySem.HandSPX.excO C hp.objs.size) := by heap_get
  refine PySem.HandSPX.call_own PySem.F.excBase_ValueError (fun Y => PySem.HandSPX.refsVE_contains Y bm hbm) (X _ _ hC) (PySem.W.looks_findIn X T.iC) (fun self => PySem.W.bind_fn X self T.tC) (by rw [sizeLine_eq]; decide) ?_
  refine sup_init (s := ⟨(hp.push (PySem.W.kdv_tup [])).push (PySem.HandSPX.excO C hp.objs.size), g, dr, tk, os⟩) T (X.keeps k) (hlim.keeps k) (hg.keeps k) hms (hb.keeps k) hbs hget ?_ fun h' tk' t1 k' hx => ?_
  · show A.depth + 1 < recursionLimit
    exact hroom
  · refine ⟨rfl, hq h' tk' (hp.objs.size + 1) t1 (fun b o e => k' b o ?_ (k b o e)) (Nat.le_succ _) hx⟩
    exact Nat.ne_of_lt (Nat.lt_succ_of_lt (Heap.lt_size e))
end
end Fv
namespace Fv
open PySem PySem.Spec PyProof.Rows L2
/-- C(), C such a class: all that was tracked stands, and no dict is made -/
theorem pmk_sup {X : Cx} {C fI : Addr} {x : Str} {p pos : Pos} (T : SupC X.prog X.K C fI) (hr : Room 1 X.A) (hg : Gl X x) (hm : X.mg x = some (.ref C)) (hs : X.mg "super" = none) (hdb : (x == ("__debug__" : Str)) = false := by decide) :
    PMk X (.Call (.Name x p) [] [] pos) (fun _ H Q => Q (.ref C) none H) := by
  intro pins s σ H Q I h
  refine wpAny_Call_Name_kw (ld_glob I hg hm ?_ hdb)
  refine PySem.W.callWith_K0 I.kIn T.x.kC ?_
  obtain ⟨mb, hb1, hb2⟩ := I.mod.blt
  have hlim := I.nolimit
  have hgl : s.heap.Ns mainGlobals X.mg := I.mod.glob.keeps I.bk
  have hbl : s.heap.Ns builtinsNs mb := hb1.keeps I.bk
  obtain ⟨hp, g, d, t, os⟩ := s
  refine wpAny_call (sup_made T I.kIn hlim hgl hs hbl ((hb2 "super" (by decide)).trans (by first | rfl | decide +kernel | kernel_rfl)) (by have := hr.dp; omega) fun h' tk' e t1 k ge hx => ?_)
  obtain ⟨G', g1, g2⟩ := restrict h' fun b => decide (b ≠ e)
  have gk : ∀ b, b ≠ e → G'.get? b = h'.get? b := fun b hb => g1 b (decide_eq_true hb)
  have g0 : G'.get? e = none := g2 e (by simp)
  have old : ∀ b o, hp.get? b = some o → G'.get? b = some o := fun b o q => (gk b (Nat.ne_of_lt (Nat.lt_of_lt_of_le (Heap.lt_size q) ge))).trans (k b o q)
  have J : Inv X pins σ H ⟨G', g, d, tk', os⟩ := I.kept (t' := tk') old
  refine ⟨e, _, _, ⟨G', g, d, tk', os⟩, H, .ref C, none, rfl, J, fun b o q => ?_, g0, hx, ⟨rfl, rfl⟩, rfl, rfl, I.hok.fresh ge, rfl, I.bare, raises_own T.x.exC T.x.tyC, h⟩
  by_cases hb : b = e
  · have q' : G'.get? b = some o := q
    rw [hb, g0] at q'
    cases q'
  · exact (gk b hb).symm.trans q
end Fv
set_option maxRecDepth 100000
set_option maxHeartbeats 1000000
namespace Fv
open PySem PySem.Spec PyProof.Rows L2
/-! sorted(t), t a tuple of whole numbers -/
def rSortT (K : PySem.W.Frag) : List V → Hp → VK → Prop := fun vs H Q => ∃ (a : Addr) (ns : List Int), vs = [V.ref a] ∧ SqT K H a (ns.map V.int) ∧ ns.length < 64 ∧
  ∀ (zs : List Int) (p : Addr), zs.Perm ns → zs.Pairwise (· ≤ ·) → H p = none → Q (.ref p) (upd H p (.lst (zs.map V.int)))
theorem cr_sortT {X : Cx} {K : PySem.W.Frag} (e : X.K = K) : CallR X (.builtin "sorted") (rSortT K) := by
  subst e
  intro pins s σ H vs us Q I r h
  obtain ⟨a, ns, rfl, hs, h64, q⟩ := h
  obtain ⟨its, rv, pt, hz⟩ := I.tuple hs
  rw [Vals.ref1 r]
  have hi := rv.ints
  have hl : its.length = ns.length := hi.length
  obtain ⟨o, ho, hc, n, hd⟩ := id pt
  refine Calls.call_function_entry kind_sorted plain_sorted entry_sorted (args_sorted1 _) ?_
  unfold Builtin.«sorted»
  refine wpAny_bind (m := checkCount "sorted" 1 1 _) (wpAny_pure (wpAny_bind (wpAny_collect_seq a (.inr rfl) ho hc hd (fun h' k => wpAny_bind (wpAny_newList ?_)) ?_)))
  · have hoL : (h'.push (seqObj "list" its.toArray 0)).get? h'.objs.size = some (seqObj "list" its.toArray 0) := Heap.get?_push_size _ rfl
    have J : Inv X pins σ H { s with heap := h', toks := s.toks } := I.kept (t' := s.toks) k
    show wpAny _ _ _ _ _ { s with heap := h'.push (seqObj "list" its.toArray 0) }
    refine wpAny_bind (wpAny_holding (wpAny_call_entry slot_list_sort ⟨_, hoL, rfl⟩ entry_list_sort (list_sort_tree hoL hi (by rw [hl]; exact h64) fun out zs a1 a2 a3 => ⟨_, rfl, wpAny_pure ⟨_, rfl, ?_⟩⟩) (args_list_sort _)))
    obtain ⟨ep, he⟩ := sortedHeap_at (vs := its) (out := out) hoL
    have hlen : (zs.map V.int).length ≤ sizeLine := by rw [List.length_map, a2.length_eq]; exact szLe (by omega)
    refine ⟨.ref h'.objs.size, upd H h'.objs.size (.lst (zs.map V.int)), J.laid (t' := s.toks) (fun b u e => ?_) (Nat.le_refl _) ⟨hlen, out.toList, ep, vals_of_ints a1, he⟩, rfl, q zs _ a2 a3 (J.hok.fresh (Nat.le_refl _))⟩
    have hb := Heap.lt_size e
    refine (sortedHeap_old (Nat.ne_of_lt hb) (by rw [size_push']; exact Nat.lt_succ_of_lt hb)).trans ?_
    exact Heap.get?_push_of_some _ e
  · rw [List.size_toArray, hl]
    exact szLe (by omega)
end Fv
/-! trees with a block hung elsewhere, or called anew -/
namespace Fv
def wayN (hs : List Nat) : Nat → Nat → List Nat
  | 0, _ => []
  | n + 1, k => if k = 0 then [] else up hs k :: wayN hs n (up hs k)
def way (hs : List Nat) (k : Nat) : List Nat := wayN hs hs.length k
theorem way_mem (hs : List Nat) (x : Nat) : ∀ n k, x ∈ wayN hs n k ↔ ∃ j, j < n ∧ upN hs j k ≠ 0 ∧ upN hs (j + 1) k = x
  | 0, k => by
    constructor
    · intro h
      cases h
    · rintro ⟨j, h, _⟩
      omega
  | n + 1, k => by
    show x ∈ (if k = 0 then [] else up hs k :: wayN hs n (up hs k)) ↔ _
    by_cases h0 : k = 0
    · rw [if_pos h0]
      constructor
      · intro h
        cases h
      · rintro ⟨j, _, h, _⟩
        rw [h0] at h
        exact (h (upN_zero hs j)).elim
    · rw [if_neg h0, List.mem_cons, way_mem hs x n (up hs k)]
      constructor
      · rintro (rfl | ⟨j, h1, h2, h3⟩)
        · exact ⟨0, by omega, h0, rfl⟩
        · exact ⟨j + 1, by omega, h2, h3⟩
      · rintro ⟨j, h1, h2, h3⟩
        cases j with
        | zero => exact .inl h3.symm
        | succ j => exact .inr ⟨j, by omega, h2, h3⟩
theorem up_get {hs : List Nat} {k : Nat} (h1 : 1 ≤ k) (h2 : k ≤ hs.length) : hs[k - 1]? = some (up hs k) := by
  have h : k - 1 < hs.length := by omega
  rw [List.getElem?_eq_getElem h, up_at (by omega) (List.getElem?_eq_getElem h)]
/-- on the way from p: b is p, or above it -/
theorem on_way {hs : List Nat} (t : IsTree hs) {b p : Nat} (hb : 1 ≤ b) (hp : p ≤ hs.length) (n1 : p ≠ b) (n2 : b ∉ way hs p) : ∀ j, upN hs j p ≠ b := by
  intro j e
  cases j with
  | zero => exact n1 e
  | succ j =>
    have nz : upN hs j p ≠ 0 := fun h => by
      rw [upN_succ, h] at e
      have : up hs 0 = 0 := rfl
      omega
    refine n2 ((way_mem hs b _ _).mpr ⟨j, ?_, nz, e⟩)
    refine Nat.lt_of_not_le fun hle => nz ?_
    exact upN_more (t.comes p hp) hle
/-- block b under p -/
def put (hs : List Nat) (b p : Nat) : List Nat := hs.set (b - 1) p
theorem put_len (hs : List Nat) (b p : Nat) : (put hs b p).length = hs.length := List.length_set
theorem up_put {hs : List Nat} {b p : Nat} (hb : 1 ≤ b) (hb2 : b ≤ hs.length) (k : Nat) : up (put hs b p) k = if k = b then p else up hs k := by
  unfold up put
  by_cases h0 : k = 0
  · rw [if_pos h0, if_neg (by omega), if_pos h0]
  · rw [if_neg h0, if_neg h0, List.getD_eq_getElem?_getD, List.getElem?_set, List.getD_eq_getElem?_getD]
    by_cases h : k = b
    · subst h
      rw [if_pos rfl, if_pos rfl, if_pos (by omega)]
      rfl
    · rw [if_neg (by omega), if_neg h]
theorem upN_put {hs : List Nat} {b p : Nat} (hb : 1 ≤ b) (hb2 : b ≤ hs.length) {k : Nat} : ∀ j, (∀ i, i < j → upN hs i k ≠ b) → upN (put hs b p) j k = upN hs j k
  | 0, _ => rfl
  | j + 1, h => by
    rw [upN_succ, upN_succ, upN_put hb hb2 j fun i hi => h i (by omega), up_put hb hb2, if_neg (h j (by omega))]
theorem put_tree {hs : List Nat} (t : IsTree hs) {b p : Nat} (hb : 1 ≤ b) (hb2 : b ≤ hs.length) (hp : p ≤ hs.length) (n1 : p ≠ b) (n2 : b ∉ way hs p) : IsTree (put hs b p) := by
  have np := on_way t hb hp n1 n2
  have hle : ∀ x ∈ put hs b p, x ≤ (put hs b p).length := fun x hx => by
    rw [put_len]
    rcases List.mem_or_eq_of_mem_set hx with hx | rfl
    · exact t.le x hx
    · exact hp
  have hpz : upN (put hs b p) hs.length p = 0 := by
    rw [upN_put hb hb2 _ fun i _ => np i]
    exact t.comes p hp
  refine ⟨by rw [put_len]; exact t.pos, by rw [put_len]; exact t.most, hle, fun k hk => ?_⟩
  have hk' : k ≤ hs.length := by rwa [put_len] at hk
  have go : ∀ j, upN hs j k = b → upN (put hs b p) (put hs b p).length k = 0 := by
    intro j
    induction j using Nat.strongRecOn with
    | ind j ih =>
      intro hj
      by_cases hx : ∃ i, i < j ∧ upN hs i k = b
      · obtain ⟨i, hi, e⟩ := hx
        exact ih i hi e
      · have e := upN_put (p := p) hb hb2 (k := k) j fun i hi e => hx ⟨i, hi, e⟩
        refine comes_by (j := j + (1 + hs.length)) hle hk ?_
        rw [upN_add, e, hj, upN_add]
        show upN (put hs b p) hs.length (up (put hs b p) b) = 0
        rw [up_put hb hb2, if_pos rfl]
        exact hpz
  by_cases hx : ∃ j, upN hs j k = b
  · obtain ⟨j, e⟩ := hx
    exact go j e
  · refine comes_by (j := hs.length) hle hk ?_
    rw [upN_put hb hb2 _ fun i _ e => hx ⟨i, e⟩]
    exact t.comes k hk'
/-! names -/
def IsOrd (n : Nat) (ms : List Nat) : Prop := ms.Perm (List.range' 1 n)
theorem IsOrd.len {n : Nat} {ms : List Nat} (o : IsOrd n ms) : ms.length = n := by rw [o.length_eq, List.length_range']
theorem IsOrd.mem {n : Nat} {ms : List Nat} (o : IsOrd n ms) {x : Nat} : x ∈ ms ↔ 1 ≤ x ∧ x ≤ n := by
  rw [o.mem_iff, List.mem_range'_1]
  omega
theorem IsOrd.nodup {n : Nat} {ms : List Nat} (o : IsOrd n ms) : ms.Nodup := o.nodup_iff.mpr List.nodup_range'
theorem IsOrd.rg {n k : Nat} {ms : List Nat} (o : IsOrd n ms) (h1 : 1 ≤ k) (h2 : k ≤ n) : 1 ≤ up ms k ∧ up ms k ≤ n := o.mem.mp (List.mem_of_getElem? (up_get h1 (by rw [o.len]; exact h2)))
theorem IsOrd.rg0 {n k : Nat} {ms : List Nat} (o : IsOrd n ms) (h2 : k ≤ n) : up ms k ≤ n := by
  by_cases h : k = 0
  · subst h
    exact Nat.zero_le _
  · exact (o.rg (by omega) h2).2
theorem IsOrd.inj {n k l : Nat} {ms : List Nat} (o : IsOrd n ms) (hk : k ≤ n) (hl : l ≤ n) (e : up ms k = up ms l) : k = l := by
  by_cases hk0 : k = 0
  · subst hk0
    by_cases hl0 : l = 0
    · exact hl0.symm
    · have := (o.rg (k := l) (by omega) hl).1
      rw [← e] at this
      exact absurd this (by show ¬ 1 ≤ 0; omega)
  · by_cases hl0 : l = 0
    · subst hl0
      have := (o.rg (k := k) (by omega) hk).1
      rw [e] at this
      exact absurd this (by show ¬ 1 ≤ 0; omega)
    · have h1 := up_get (hs := ms) (k := k) (by omega) (by rw [o.len]; exact hk)
      have h2 := up_get (hs := ms) (k := l) (by omega) (by rw [o.len]; exact hl)
      rw [e] at h1
      have h3 : k - 1 < ms.length := by rw [o.len]; omega
      have := (List.getElem?_inj h3 o.nodup).mp (h1.trans h2.symm)
      omega
theorem IsOrd.surj {n x : Nat} {ms : List Nat} (o : IsOrd n ms) (h1 : 1 ≤ x) (h2 : x ≤ n) : ∃ k, 1 ≤ k ∧ k ≤ n ∧ up ms k = x := by
  obtain ⟨i, hi, e⟩ := List.getElem_of_mem (o.mem.mpr ⟨h1, h2⟩)
  have := o.len
  exact ⟨i + 1, by omega, by omega, up_at (by omega) (by rw [Nat.add_sub_cancel, List.getElem?_eq_getElem hi, e])⟩
/-- the first i blocks called anew -/
def callN (hs ms : List Nat) : Nat → List Nat
  | 0 => List.replicate hs.length 0
  | i + 1 => (callN hs ms i).set (up ms (i + 1) - 1) (up ms (up hs (i + 1)))
def call2 (hs ms : List Nat) : List Nat := callN hs ms hs.length
theorem callN_len (hs ms : List Nat) : ∀ i, (callN hs ms i).length = hs.length
  | 0 => List.length_replicate
  | i + 1 => by
    show ((callN hs ms i).set _ _).length = _
    rw [List.length_set, callN_len hs ms i]
theorem callN_get {hs ms : List Nat} (o : IsOrd hs.length ms) : ∀ i, i ≤ hs.length → ∀ c, 1 ≤ c → c ≤ i → (callN hs ms i)[up ms c - 1]? = some (up ms (up hs c))
  | 0, _, c, h1, h2 => absurd h2 (by omega)
  | i + 1, hi, c, h1, h2 => by
    show ((callN hs ms i).set (up ms (i + 1) - 1) (up ms (up hs (i + 1))))[up ms c - 1]? = _
    have a := o.rg (k := i + 1) (by omega) hi
    have b := o.rg (k := c) h1 (by omega)
    rw [List.getElem?_set]
    by_cases e : c = i + 1
    · subst e
      rw [if_pos rfl, if_pos (by rw [callN_len]; omega)]
    · have ne : up ms (i + 1) - 1 ≠ up ms c - 1 := fun h => e (o.inj (by omega) hi (by omega))
      rw [if_neg ne]
      exact callN_get o i (by omega) c h1 (by omega)
theorem call2_len (hs ms : List Nat) : (call2 hs ms).length = hs.length := callN_len hs ms _
theorem call2_up {hs ms : List Nat} (o : IsOrd hs.length ms) {c : Nat} (h2 : c ≤ hs.length) : up (call2 hs ms) (up ms c) = up ms (up hs c) := by
  by_cases h0 : c = 0
  · subst h0
    rfl
  · have a := o.rg (k := c) (by omega) h2
    exact up_at (by omega) (callN_get o _ (Nat.le_refl _) c (by omega) h2)
theorem call2_upN {hs ms : List Nat} (t : IsTree hs) (o : IsOrd hs.length ms) {c : Nat} (h2 : c ≤ hs.length) : ∀ j, upN (call2 hs ms) j (up ms c) = up ms (upN hs j c)
  | 0 => rfl
  | j + 1 => by
    rw [upN_succ, upN_succ, call2_upN t o h2 j]
    exact call2_up o (upN_le t.le j c h2)
/-- two lists that tell alike of all blocks -/
theorem same_ups {xs ys : List Nat} (hl : xs.length = ys.length) (h : ∀ k, 1 ≤ k → k ≤ xs.length → up xs k = up ys k) : xs = ys := by
  refine List.ext_getElem? fun i => ?_
  by_cases hi : i < xs.length
  · have a := up_get (hs := xs) (k := i + 1) (by omega) (by omega)
    have b := up_get (hs := ys) (k := i + 1) (by omega) (by omega)
    rw [Nat.add_sub_cancel] at a b
    rw [a, b, h (i + 1) (by omega) (by omega)]
  · rw [List.getElem?_eq_none (by omega), List.getElem?_eq_none (by omega)]
theorem call2_tree {hs ms : List Nat} (t : IsTree hs) (o : IsOrd hs.length ms) : IsTree (call2 hs ms) := by
  refine ⟨by rw [call2_len]; exact t.pos, by rw [call2_len]; exact t.most, fun x hx => ?_, fun k hk => ?_⟩
  · rw [call2_len]
    obtain ⟨i, hi, e⟩ := List.getElem_of_mem hx
    rw [call2_len] at hi
    obtain ⟨c, c1, c2, ec⟩ := o.surj (x := i + 1) (by omega) (by omega)
    have hu := call2_up o c2
    rw [ec] at hu
    have hg := up_get (hs := call2 hs ms) (k := i + 1) (by omega) (by rw [call2_len]; omega)
    rw [Nat.add_sub_cancel, List.getElem?_eq_getElem (by rw [call2_len]; exact hi), hu] at hg
    rw [← e, Option.some.inj hg]
    exact o.rg0 (up_le t.le c)
  · rw [call2_len] at hk ⊢
    by_cases h0 : k = 0
    · subst h0
      exact upN_zero _ _
    · obtain ⟨c, c1, c2, ec⟩ := o.surj (x := k) (by omega) hk
      rw [← ec, call2_upN t o c2, t.comes c c2]
      rfl
/-- called behind moved, and moved behind called -/
theorem call_put {hs ms : List Nat} (o : IsOrd hs.length ms) {b p : Nat} (hb : 1 ≤ b) (hb2 : b ≤ hs.length) (hp : p ≤ hs.length) : call2 (put hs b p) ms = put (call2 hs ms) (up ms b) (up ms p) := by
  have rb := o.rg hb hb2
  have op : IsOrd (put hs b p).length ms := by
    rw [put_len]
    exact o
  refine same_ups (by rw [call2_len, put_len, put_len, call2_len]) fun k h1 h2 => ?_
  rw [call2_len, put_len] at h2
  obtain ⟨c, c1, c2, ec⟩ := o.surj h1 h2
  rw [← ec, call2_up op (by rw [put_len]; exact c2), up_put hb hb2, up_put (by omega) (by rw [call2_len]; omega), call2_up o c2]
  by_cases e : c = b
  · subst e
    rw [if_pos rfl, if_pos rfl]
  · rw [if_neg e, if_neg fun h => e (o.inj c2 hb2 h)]
theorem call_free {hs ms : List Nat} (t : IsTree hs) (o : IsOrd hs.length ms) {b p : Nat} (hb : 1 ≤ b) (hb2 : b ≤ hs.length) (hp : p ≤ hs.length) (n1 : p ≠ b) (n2 : b ∉ way hs p) : up ms p ≠ up ms b ∧ up ms b ∉ way (call2 hs ms) (up ms p) := by
  refine ⟨fun e => n1 (o.inj hp hb2 e), fun h => ?_⟩
  obtain ⟨j, _, _, e⟩ := (way_mem _ _ _ _).mp h
  rw [call2_upN t o hp] at e
  exact on_way t hb hp n1 n2 (j + 1) (o.inj (upN_le t.le _ p hp) hb2 e)
/-- in the order turned about it is the first one again -/
theorem call_back {hs ms ks : List Nat} (t : IsTree hs) (o : IsOrd hs.length ms) (o' : IsOrd hs.length ks) (h : ∀ b, 1 ≤ b → b ≤ hs.length → up ks (up ms b) = b) : call2 (call2 hs ms) ks = hs := by
  have o2 : IsOrd (call2 hs ms).length ks := by
    rw [call2_len]
    exact o'
  refine same_ups (by rw [call2_len, call2_len]) fun k h1 h2 => ?_
  rw [call2_len, call2_len] at h2
  have rk := o.rg h1 h2
  have e := call2_up o2 (c := up ms k) (by rw [call2_len]; exact rk.2)
  rw [h k h1 h2, call2_up o h2] at e
  rw [e]
  by_cases h0 : up hs k = 0
  · rw [h0]
    rfl
  · exact h _ (by omega) (up_le t.le k)
end Fv
set_option maxRecDepth 100000
set_option maxHeartbeats 1000000
namespace Fv
open PySem PySem.Spec L2
section
variable {X : Cx} {K : PySem.W.Frag} {H : Hp} {Q : VK} {σ : L2.St} {a b : Addr} {xs ys : List V} {l m : List Nat}
theorem sl_tupAK (e : X.K = K) : SlR X (rSlA K) := by
  subst e
  exact sl_tupA
theorem op_catAK (e : X.K = K) : OpR X (binaryOp .Add) (rCatA K) := by
  subst e
  exact op_catA
theorem x_slA {lo hi : Option Int} (h : H a = some (.tup xs)) (q : ∀ D H', Same H H' → H' D = some (.tup (cutV xs lo hi)) → Q (.ref D) H') : rSlA K (.ref a) lo hi H Q := by
  refine ⟨a, xs, rfl, .of h, fun hw => ?_, fun _ p hp => q p _ (same_new (Same.refl _) hp) upd_same⟩
  refine q a H (Same.refl _) ?_
  rw [h]
  unfold cutV
  rw [hw.1, hw.2, List.drop_zero, Nat.sub_zero, List.take_length]
theorem x_catA (h1 : H a = some (.tup xs)) (h2 : H b = some (.tup ys)) (hl : xs.length + ys.length ≤ 10000) (q : ∀ D H', Same H H' → H' D = some (.tup (xs ++ ys)) → Q (.ref D) H') : rCatA K (.ref a) (.ref b) H Q := by
  refine ⟨a, b, xs, ys, rfl, rfl, .of h1, .of h2, szLe (by omega), fun e => ?_, fun _ e => ?_, fun _ _ p hp => q p _ (same_new (Same.refl _) hp) upd_same⟩
  · subst e
    exact q b H (Same.refl _) h2
  · subst e
    exact q a H (Same.refl _) (by rw [h1, List.append_nil])
theorem cut_take (xs : List V) (k : Nat) : cutV xs none (some (k : Int)) = xs.take k := by
  unfold cutV
  rw [HT.sIx_none, HT.sIx_nat, List.drop_zero, Nat.sub_zero]
  by_cases h : k ≤ xs.length
  · rw [Nat.min_eq_left h]
  · rw [Nat.min_eq_right (by omega), List.take_length, List.take_of_length_le (by omega)]
theorem cut_drop (xs : List V) (k : Nat) : cutV xs (some (k : Int)) none = xs.drop k := by
  unfold cutV
  rw [HT.sIx_nat, HT.sIx_none]
  by_cases h : k ≤ xs.length
  · rw [Nat.min_eq_left h]
    exact List.take_of_length_le (by rw [List.length_drop]; exact Nat.le_refl _)
  · rw [Nat.min_eq_right (by omega), List.drop_length, List.drop_of_length_le (by omega), List.take_nil]
theorem put_cut {hs : List Nat} {b p : Nat} (h1 : 1 ≤ b) (h2 : b ≤ hs.length) : (nats hs).take (b - 1) ++ [V.int (p : Nat)] ++ (nats hs).drop b = nats (put hs b p) := by
  have e : put hs b p = hs.take (b - 1) ++ p :: hs.drop (b - 1 + 1) := by
    unfold put
    rw [List.set_eq_take_append_cons_drop, if_pos (by omega)]
  rw [e, nats_append, Nat.sub_add_cancel h1, List.append_assoc]
  unfold nats
  rw [List.map_take, List.map_cons, List.map_drop]
  rfl
theorem x_eqLst (h1 : SqL K H a (nats l)) (h2 : SqL K H b (nats m)) (q : Q (.bl (decide (l = m))) H) : rEqD K (.ref a) (.ref b) H Q := by
  refine ⟨.list (dn l), .list (dn m), .lst h1 (dpAll_nats l), .lst h2 (dpAll_nats m), ?_, ?_, ?_⟩
  · have := dn_shaped l
    exact this
  · have := dn_shaped m
    exact this
  · rw [PyData.eqv, dn_eqv]
    exact q
theorem x_inNL {k : Nat} (h : SqL K H a (nats l)) (q : Q (.bl (decide (k ∈ l))) H) : rIn K false (.int k) (.ref a) H Q := by
  refine ⟨a, _, rfl, .inl h, rfl, flat_nats l, ?_⟩
  show Q (.bl (inV (.int k) (nats l))) H
  rw [in_nats]
  exact q
theorem take_snoc {α : Type} {l : List α} {i : Nat} {x : α} (h : l[i]? = some x) : l.take (i + 1) = l.take i ++ [x] := by
  rw [List.take_succ, h]
  rfl
theorem x_star {te : TE} {t : TA} {R : List V → Hp → Prop} (h : te σ H fun x H1 => ∃ p xs, x = V.ref p ∧ (SqT K H1 p xs ∨ SqL K H1 p xs) ∧ t σ H1 fun ys H2 => R (xs ++ ys) H2) : StX.tStar K te t σ H R := h
theorem x_sortT {ns : List Int} (h : SqT K H a (ns.map V.int)) (h64 : ns.length < 64) (q : ∀ (zs : List Int) (p : Addr), zs.Perm ns → zs.Pairwise (· ≤ ·) → H p = none → Q (.ref p) (upd H p (.lst (zs.map V.int)))) : rSortT K [.ref a] H Q := ⟨a, ns, rfl, h, h64, q⟩
/-- an order of all blocks, in order -/
theorem sorted_ord {n : Nat} {ms : List Nat} {zs : List Int} (o : IsOrd n ms) (hp : zs.Perm (ms.map fun (k : Nat) => (k : Int))) (hs : zs.Pairwise (· ≤ ·)) : zs.map V.int = nats (List.range' 1 n) := by
  have e : zs = (List.range' 1 n).map fun (k : Nat) => (k : Int) := by
    refine (hp.trans (o.map _)).eq_of_pairwise (fun a b _ _ h1 h2 => Int.le_antisymm h1 h2) hs ?_
    rw [List.pairwise_map]
    refine (List.pairwise_le_range' (s := 1) (n := n)).imp fun {x y} hxy => ?_
    exact Int.ofNat_le.mpr hxy
  rw [e, List.map_map]
  rfl
theorem nats_ints (l : List Nat) : (l.map fun (k : Nat) => (k : Int)).map V.int = nats l := by
  rw [List.map_map]
  rfl
theorem names_at {ms : List Nat} {k : Nat} (h : k ≤ ms.length) : atI (nats (0 :: ms)) (k : Int) = some (.int (up ms k : Nat)) := by
  refine nats_at ?_
  cases k with
  | zero => rfl
  | succ k => exact up_get (hs := ms) (k := k + 1) (by omega) h
end
theorem below_mem {hs : List Nat} {b p : Nat} (hp : p ≤ hs.length) : p ∈ (List.range' 1 hs.length).filter (fun c => decide (b ∈ way hs c)) ↔ b ∈ way hs p := by
  rw [List.mem_filter, List.mem_range'_1, decide_eq_true_eq]
  constructor
  · exact fun h => h.2
  · intro h
    refine ⟨⟨?_, by omega⟩, h⟩
    refine Nat.one_le_iff_ne_zero.mpr fun e => ?_
    subst e
    obtain ⟨j, _, nz, _⟩ := (way_mem hs b _ _).mp h
    exact nz (upN_zero hs j)
end Fv
set_option maxRecDepth 100000
set_option maxHeartbeats 1000000
namespace PySem
open Sem (wp)
set_option maxHeartbeats 1000000 in
theorem meets_enumerate_new0 {v : Value} {o : Obj} {H : Heap → Prop} (B : Begins v o H) :
    Meets (Builtin.«enumerate.__new__» ⟨[.type "enumerate", v], []⟩) (fun _ R s => H s.heap ∧
      R (.ok (.ret (.ref (s.heap.push o).objs.size))) { s with heap := (s.heap.push o).push { cls := .type "enumerate", data := .fields #[.none, .bool false, .ref s.heap.objs.size, rawInt 0, .none, .none] } }) :=
  .of_wp fun prog w A R s h => by
    obtain ⟨hp, g, d, tk, os⟩ := s; obtain ⟨h1, h⟩ := h
    have hsub := sub_enumerate
    have q1 : ∀ {A' : Around} {E : Value → Shared → Prop} {Q : Value → Shared → Prop}, Q (.ref hp.objs.size) ⟨hp.push o, g, d, tk, os⟩ → wpAny (model prog w) A' (pyIter v) Q E ⟨hp, g, d, tk, os⟩ :=
      fun q => B.iter prog w _ _ ⟨hp, g, d, tk, os⟩ _ h1 q
    wp_walk using q1
    refine wpAny_stack_any fun st => wpAny_pure ?_
    split
    · rename_i c _ _ _ _ _
      cases (c == Value.type "enumerate")
      · wp_walk using q1
        exact ⟨_, rfl, h⟩
      · wp_walk using q1
        exact ⟨_, rfl, h⟩
    · wp_walk using q1
      exact ⟨_, rfl, h⟩
section
variable {prog : Program} {w : World} {A : Around} {E : Value → Shared → Prop} {s : Shared}
theorem enum_begins0 {v : Value} {o : Obj} {H : Heap → Prop} {Q : Value → Shared → Prop} (B : Begins v o H) (h1 : H s.heap)
    (h : ∀ h', IsEnum h' (s.heap.objs.size + 1) s.heap.objs.size 0 .none → h'.get? s.heap.objs.size = some o → h'.objs.size = s.heap.objs.size + 2 →
      (∀ b o, s.heap.get? b = some o → h'.get? b = some o) → Q (.ref (s.heap.objs.size + 1)) { s with heap := h' }) :
    wpAny (model prog w) A (call (.type "enumerate") [v]) Q E s := by
  refine callType_new F.called_enumerate (by decide) (F.typeCall_enumerate_1 _) (F.newCall_enumerate_1 _) (fun obj => F.args_object_init_2 obj _) F.entry_enumerate_new
    (meets_enumerate_new0 B) ⟨h1, ?_⟩
  have hz : (s.heap.push o).objs.size = s.heap.objs.size + 1 := Heap.size_push ..
  show _ ∧ _
  rw [hz]
  have he : IsEnum ((s.heap.push o).push { cls := .type "enumerate", data := .fields #[.none, .bool false, .ref s.heap.objs.size, rawInt 0, .none, .none] }) (s.heap.objs.size + 1) s.heap.objs.size 0 .none := by
    have := Heap.get?_push_size (s.heap.push o) (o := { cls := .type "enumerate", data := .fields #[.none, .bool false, .ref s.heap.objs.size, rawInt 0, .none, .none] }) rfl
    rw [hz] at this; exact this
  refine ⟨⟨_, he, rfl⟩, h _ he (Heap.get?_push_of_some _ (Heap.get?_push_size _ B.free)) (by rw [Heap.size_push, hz]) fun b o x => Heap.get?_push_of_some _ (Heap.get?_push_of_some _ x)⟩
end
end PySem
namespace Fv
open PySem PySem.Spec L2
theorem pi_enumT0 {X : Cx} {K : PySem.W.Frag} {e : Expr} {ta : TA} {p pos tpos : Pos} {elts : List Expr} {kk : Nat} (eK : X.K = K) (hc : X.calm = true) (hg : Gl X "enumerate") (hm : X.mg "enumerate" = none) (ha : PA X [e] ta) (hs : starEach [e] X.env = [(false, eval e X.env)] := by rfl) :
    PI X (.Tuple elts kk tpos) (.Call (.Name "enumerate" p) [e] [] pos) (iEnT K 0 ta) := by
  subst eK
  refine ⟨fun pins s σ H R I h => ?_⟩
  refine PyProof.Rows.Call_ (ld_blt I hg hm (u := .type "enumerate") (by decide +kernel) (PyProof.Rows.callWith_type1 (thn (ha.run pos pins s σ H _ I h) fun us s1 ⟨vs, H1, I1, r1, t, xs, ex, hq, q⟩ => ?_) hs rfl))
  subst ex
  cases r1 with
  | cons r rr =>
    cases rr
    cases r
    obtain ⟨its, rv, p', hz⟩ := I1.tuple hq
    refine enum_begins0 (begins_tuple t its.toArray) (isTuple_of p') fun h' he hit hsz hkp => wpAny_pyIter_enum he ?_
    have I3 : Inv X pins σ H1 { s1 with heap := h' } := I1.kept (t' := s1.toks) hkp
    have ht : t < s1.heap.objs.size := p'.lt
    have hn : ∀ b, s1.heap.objs.size ≤ b → H1 b = none := fun b hb => I1.hok.fresh hb
    refine ⟨s1.heap.objs.size + 1, [s1.heap.objs.size + 1, s1.heap.objs.size], _, _, H1, rfl, I3, turn_enumT 0 t (s1.heap.objs.size + 1) s1.heap.objs.size (Nat.ne_of_lt ht) (Nat.succ_ne_self _) (Nat.ne_of_gt (Nat.lt_succ_of_lt ht)),
      ⟨⟨.none, ?_⟩, ⟨_, hit, rfl, rfl⟩⟩, fun b hb => ?_, q⟩
    · exact he
    · have hle : s1.heap.objs.size ≤ b := by
        rcases List.mem_cons.mp hb with rfl | hb
        · exact Nat.le_succ _
        · rw [List.mem_singleton.mp hb]
          exact Nat.le_refl _
      exact I1.fpOk hle (hn b hle)
theorem pi_enumLK {X : Cx} {K : PySem.W.Frag} {e : Expr} {ta : TA} {p pos tpos : Pos} {elts : List Expr} {kk : Nat} (eK : X.K = K) (hg : Gl X "enumerate") (hm : X.mg "enumerate" = none) (ha : PA X [e] ta) (hs : starEach [e] X.env = [(false, eval e X.env)] := by rfl) :
    PI X (.Tuple elts kk tpos) (.Call (.Name "enumerate" p) [e] [] pos) (iEnum K ta) := by
  subst eK
  exact pi_enum hg hm ha hs
theorem x_enl {K : PySem.W.Frag} {σ : L2.St} {H : Hp} {R : It → Hp → Prop} {ts : TA} (h : ts σ H fun vs H1 => ∃ (t : Addr) (xs : List V), vs = [.ref t] ∧ SqL K H1 t xs ∧ R (Ite K t) H1) : iEnum K ts σ H R := h
theorem x_enl1 {K : PySem.W.Frag} {H : Hp} {a : Addr} {xs : List V} {R : Addr → Prop} (h : SqL K H a xs) (q : R a) : ∃ (t : Addr) (ys : List V), [V.ref a] = [.ref t] ∧ SqL K H t ys ∧ R t := ⟨a, xs, rfl, h, q⟩
theorem lp_enumL {K : PySem.W.Frag} {t : Addr} {xs : List V} {g : TG} {tb : TS} {nx : L2.St → Hp → Prop} {rt : VK} {σ : L2.St} {H : Hp} (Pv : Nat → L2.St → Hp → Prop) (h0 : Pv 0 σ H) (hl : ∀ i σ H, i ≤ xs.length → Pv i σ H → SqL K H t xs)
    (hs : ∀ i x σ H T, xs[i]? = some x → Pv i σ H → H T = none → g (.ref T) σ (upd H T (.tup [.int (i : Nat), x])) fun σ2 H2 => tb { nx := Pv (i + 1), rt := rt, bk := nx, ct := Pv (i + 1) } σ2 H2) (hd : ∀ σ H, Pv xs.length σ H → nx σ H) :
    ∃ W : Nat → Nat → L2.St → Hp → Prop, (∃ m, W 0 m σ H) ∧ ∀ i m σ H, W i m σ H → ((Ite K t).stop i H ∧ nx σ H) ∨ ((Ite K t).go i H ∧ ∃ N : L2.St → Hp → Prop, (∀ σ' H', N σ' H' → ∃ m', m' < m ∧ W (i + 1) m' σ' H') ∧ ∀ x H', (Ite K t).yld i H x H' → g x σ H' fun σ2 H2 => tb { nx := N, rt := rt, bk := nx, ct := N } σ2 H2) := by
  refine ⟨fun i m σ H => m = xs.length - i ∧ i ≤ xs.length ∧ Pv i σ H, ⟨_, rfl, Nat.zero_le _, h0⟩, ?_⟩
  rintro i m σ H ⟨rfl, hi, p⟩
  have q := hl i σ H hi p
  by_cases hlt : i < xs.length
  · refine .inr ⟨⟨xs, xs[i], q, List.getElem?_eq_getElem hlt⟩, Pv (i + 1), fun σ' H' p' => ⟨_, by omega, rfl, hlt, p'⟩, fun x H' y => ?_⟩
    obtain ⟨T, z, rfl, hT, rfl, hz⟩ := y
    exact hs i z σ H T (hz xs q) p hT
  · have e : i = xs.length := by omega
    subst e
    exact .inl ⟨⟨xs, q, Nat.le_refl _⟩, hd σ H p⟩
theorem lc_enumL {K : PySem.W.Frag} {t : Addr} {xs : List V} {g : TG} {tt : TT} {te : TE} {vs : List Nat} {σ : L2.St} {H1 : Hp} {D : Addr} {Qd : Hp → Prop} (Pv : Nat → Hp → Prop) (h0 : Pv 0 (upd H1 D (.lst []))) (hl : ∀ i H, i ≤ xs.length → Pv i H → SqL K H t xs)
    (hs : ∀ i x H T, xs[i]? = some x → Pv i H → H T = none → g (.ref T) (wipe σ vs) (upd H T (.tup [.int (i : Nat), x])) fun σ2 H2 => wipe σ2 vs = wipe σ vs ∧ tt σ2 H2 fun b H3 =>
      if b = true then te σ2 H3 fun y H4 => ∃ acc, H4 D = some (.lst acc) ∧ acc.length < sizeLine ∧ Pv (i + 1) (upd H4 D (.lst (acc ++ [y]))) else Pv (i + 1) H3) (hd : ∀ H, Pv xs.length H → Qd H) :
    ∃ W : Nat → Nat → Hp → Prop, (∃ m, W 0 m (upd H1 D (.lst []))) ∧ ∀ i m H, W i m H → ((Ite K t).stop i H ∧ Qd H) ∨ ((Ite K t).go i H ∧ ∃ Nx : Hp → Prop, (∀ H', Nx H' → ∃ m', m' < m ∧ W (i + 1) m' H') ∧ ∀ x H', (Ite K t).yld i H x H' → g x (wipe σ vs) H' fun σ2 H2 => wipe σ2 vs = wipe σ vs ∧ tt σ2 H2 fun b H3 =>
        if b = true then te σ2 H3 fun y H4 => ∃ acc, H4 D = some (.lst acc) ∧ acc.length < sizeLine ∧ Nx (upd H4 D (.lst (acc ++ [y]))) else Nx H3) := by
  refine ⟨fun i m H => m = xs.length - i ∧ i ≤ xs.length ∧ Pv i H, ⟨_, rfl, Nat.zero_le _, h0⟩, ?_⟩
  rintro i m H ⟨rfl, hi, p⟩
  have q := hl i H hi p
  by_cases hlt : i < xs.length
  · refine .inr ⟨⟨xs, xs[i], q, List.getElem?_eq_getElem hlt⟩, Pv (i + 1), fun H' p' => ⟨_, by omega, rfl, hlt, p'⟩, fun x H' y => ?_⟩
    obtain ⟨T, z, rfl, hT, rfl, hz⟩ := y
    exact hs i z H T (hz xs q) p hT
  · have e : i = xs.length := by omega
    subst e
    exact .inl ⟨⟨xs, q, Nat.le_refl _⟩, hd H p⟩
/-! flags and None -/
def wdV : Option Bool → V
  | none => .non
  | some b => .bl b
def wds (c : List (Option Bool)) : List V := c.map wdV
def isTr : Value → Bool
  | .bool b => b
  | _ => false
theorem isTr_count : ∀ {us : List Value} {c : List (Option Bool)}, Vals (wds c) us → us.countP isTr = c.count (some true)
  | _, [], .nil => rfl
  | _, some b :: c, .cons r t => by
    have ih := isTr_count (c := c) t
    have e : _ = Value.bool b := r
    subst e
    rw [List.countP_cons, List.count_cons, ih]
    cases b <;> rfl
  | _, none :: c, .cons r t => by
    have ih := isTr_count (c := c) t
    have e : _ = Value.none := r
    subst e
    rw [List.countP_cons, List.count_cons, ih]
    rfl
theorem isTr_eq {A : Around} {s : Shared} : ∀ {us : List Value} {c : List (Option Bool)}, Vals (wds c) us → ∀ y ∈ us, SeqAt.EqAt A s y (.bool true) (isTr y)
  | _, [], .nil => fun y hy => by cases hy
  | _, some b :: c, .cons r t => fun y hy => by
    have e : _ = Value.bool b := r
    subst e
    rcases List.mem_cons.mp hy with e | e
    · subst e
      have := SeqAt.EqAt.bool_bool (A := A) (s := s) b true
      cases b <;> exact this
    · exact isTr_eq (c := c) t y e
  | _, none :: c, .cons r t => fun y hy => by
    have e : _ = Value.none := r
    subst e
    rcases List.mem_cons.mp hy with e | e
    · subst e
      exact SeqAt.EqAt.none_bool (A := A) (s := s) true
    · exact isTr_eq (c := c) t y e
def rCntB (K : PySem.W.Frag) : V → List V → Hp → VK → Prop := fun x xs H Q => ∃ (p : Addr) (c : List (Option Bool)), x = .ref p ∧ xs = [.bl true] ∧ SqL K H p (wds c) ∧ Q (.int (c.count (some true) : Nat)) H
theorem mt_lcountB {X : Cx} {K : PySem.W.Frag} (eK : X.K = K) : MtR X "list.count" (rCntB K) := by
  subst eK
  intro pins s σ H x xs v us Q I rx rxs h
  obtain ⟨p, c, rfl, rfl, hs, q⟩ := h
  cases rx
  obtain ⟨u, rfl, ru⟩ := rxs.one
  have eu : u = Value.bool true := ru
  subst eu
  obtain ⟨its, rv, ⟨⟨cls, dd, data, sl⟩, n, ho, hc, hdn, hd⟩, hlen⟩ := I.list hs
  simp only at hc hd
  subst hc hd
  refine call_meets PySem.F.slot_list_count ⟨_, ho, rfl⟩ PySem.F.entry_list_count (PySem.F.args_list_count_2 _ _)
    (SeqAt.list_countAt p its.toArray n dd sl (.bool true) isTr) ⟨ho, fun y hy => isTr_eq rv y (by simpa using hy), ?_⟩
  have ec : its.toArray.toList.countP isTr = c.count (some true) := by
    have e : its.toArray.toList = its := by simp
    rw [e]
    exact isTr_count rv
  refine ⟨.int (c.count (some true) : Nat), H, I.tok _, ⟨s.toks, ?_⟩, q⟩
  show Value.int ((its.toArray.toList.countP isTr : Nat) : Int) s.toks = Value.int ((c.count (some true) : Nat) : Int) s.toks
  rw [ec]
def rIsBk : R2 := fun x y H Q => ∃ (o : Option Bool) (b : Bool), x = wdV o ∧ y = .bl b ∧ Q (.bl (decide (o = some b))) H
def rNotBk : R2 := fun x y H Q => ∃ (o : Option Bool) (b : Bool), x = wdV o ∧ y = .bl b ∧ Q (.bl (!decide (o = some b))) H
theorem op_isBk {X : Cx} : OpR X (compareOp .Is) rIsBk := by
  intro pins s σ H x y v u Q I rx ry h
  obtain ⟨o, b, rfl, rfl, q⟩ := h
  cases (show u = Value.bool b from ry)
  cases o with
  | none =>
    cases (show v = Value.none from rx)
    exact wpAny_is_other rfl (fun z => nomatch z) ⟨.bl false, H, I, rfl, by simpa using q⟩
  | some a =>
    cases (show v = Value.bool a from rx)
    by_cases e : a = b
    · subst e
      exact wpAny_is_self rfl ⟨.bl true, H, I, rfl, by simpa using q⟩
    · exact wpAny_is_other rfl (fun z => e (Value.bool.inj z)) ⟨.bl false, H, I, rfl, by simpa [e] using q⟩
theorem op_notBk {X : Cx} : OpR X (compareOp .IsNot) rNotBk := by
  intro pins s σ H x y v u Q I rx ry h
  obtain ⟨o, b, rfl, rfl, q⟩ := h
  cases (show u = Value.bool b from ry)
  cases o with
  | none =>
    cases (show v = Value.none from rx)
    exact wpAny_isNot_other rfl (fun z => nomatch z) ⟨.bl true, H, I, rfl, by simpa using q⟩
  | some a =>
    cases (show v = Value.bool a from rx)
    by_cases e : a = b
    · subst e
      exact wpAny_isNot_self rfl ⟨.bl false, H, I, rfl, by simpa using q⟩
    · exact wpAny_isNot_other rfl (fun z => e (Value.bool.inj z)) ⟨.bl true, H, I, rfl, by simpa [e] using q⟩
theorem x_isBk {H : Hp} {Q : VK} {o : Option Bool} {b : Bool} (q : Q (.bl (decide (o = some b))) H) : rIsBk (wdV o) (.bl b) H Q := ⟨o, b, rfl, rfl, q⟩
theorem x_notBk {H : Hp} {Q : VK} {o : Option Bool} {b : Bool} (q : Q (.bl (!decide (o = some b))) H) : rNotBk (wdV o) (.bl b) H Q := ⟨o, b, rfl, rfl, q⟩
theorem x_cntB {K : PySem.W.Frag} {H : Hp} {Q : VK} {p : Addr} {c : List (Option Bool)} (h : SqL K H p (wds c)) (q : Q (.int (c.count (some true) : Nat)) H) : rCntB K (.ref p) [.bl true] H Q := ⟨p, c, rfl, rfl, h, q⟩
/-- a place, or None -/
def upV : Option Nat → V
  | none => .non
  | some q => .int (q : Nat)
def upvs (us : List (Option Nat)) : List V := us.map upV
theorem wds_length (c : List (Option Bool)) : (wds c).length = c.length := List.length_map ..
theorem upvs_length (c : List (Option Nat)) : (upvs c).length = c.length := List.length_map ..
theorem wds_get {c : List (Option Bool)} {i : Nat} {o : Option Bool} (h : c[i]? = some o) : (wds c)[i]? = some (wdV o) := by
  unfold wds
  rw [List.getElem?_map, h]
  rfl
theorem upvs_get {c : List (Option Nat)} {i : Nat} {o : Option Nat} (h : c[i]? = some o) : (upvs c)[i]? = some (upV o) := by
  unfold upvs
  rw [List.getElem?_map, h]
  rfl
theorem wds_at {c : List (Option Bool)} {i : Nat} {o : Option Bool} (h : c[i]? = some o) : atI (wds c) (i : Int) = some (wdV o) := atI_nat (wds_get h)
theorem upvs_at {c : List (Option Nat)} {i : Nat} {o : Option Nat} (h : c[i]? = some o) : atI (upvs c) (i : Int) = some (upV o) := atI_nat (upvs_get h)
theorem wds_app (c d : List (Option Bool)) : wds (c ++ d) = wds c ++ wds d := List.map_append ..
theorem upvs_app (c d : List (Option Nat)) : upvs (c ++ d) = upvs c ++ upvs d := List.map_append ..
end Fv
set_option maxRecDepth 100000
set_option maxHeartbeats 1000000
namespace Fv
open PySem PySem.Spec PyProof.Rows L2
/-! x != y by x's own __eq__ -/
structure OwnN (K : PySem.W.Frag) (C f : Addr) : Prop where
  c : ∃ (nm q : Str) (N : Addr) (bs : List Value) (hd : Bool) (sn : List Str) (sub : List Value) (ab : Bool) (col : Option Bool) (dd : Option Addr) (k0 k1 k2 k3 k5 : Option Value) (newId : String),
    K.lookup C = some (excClassObj nm q C N bs [.type "object"] hd sn sub ab col dd k0 k1 k2 k3 k5 newId) ∧ PySem.W.nsOkIn K N = true ∧ PySem.W.nsIn K N "__eq__" = some (some (.ref f)) ∧ PySem.W.nsIn K N "__ne__" = some none
  t : PySem.W.typeIn K (.ref f) = some (.type "function")
theorem ns_some {K : PySem.W.Frag} {h : Heap} {N : Addr} {m : Str → Option Value} {n : Str} {v : Value} (X : K.In h) (G : h.Ns N m) (e : PySem.W.nsIn K N n = some (some v)) : m n = some v := by
  obtain ⟨o, es, ep, ho, hd, _, hf⟩ := G
  unfold PySem.W.nsIn at e
  split at e
  · rename_i c d es' n' sl q
    have z := X _ _ q
    rw [ho] at z
    cases z
    cases hd
    split at e
    · rename_i en he
      cases e
      rw [← hf]
      unfold nsFind findBy
      rw [← Array.find?_toList, he]
      rfl
    · split at e <;> cases e
  · cases e
def rOwnN (C : Addr) (sp : Sp) : R2 := fun x y H Q => ∃ (a b dx dy : Addr) (fs gs : List (Str × V)), x = .ref a ∧ y = .ref b ∧ H a = some (.ins C dx fs) ∧ H b = some (.ins C dy gs) ∧
  sp [.ref a, .ref b] H (fun v H' => ∃ r, v = .bl r ∧ Q (.bl (!r)) H') (fun _ _ _ => False)
theorem op_ownN {X : Cx} {C f : Addr} {fd : FuncData} {ps : List Str} {sp : Sp} {n : Nat} (O : OwnN X.K C f) (F : FnOk X.prog X.w X.K X.mg X.base CX0 n f fd ps sp) (hb : Binds X.K fd ps []) (hr : Room (n + 1) X.A) : OpR X (compareOp .NotEq) (rOwnN C sp) := by
  intro pins s σ H x y v u Q I rx ry h
  obtain ⟨a, b, dx, dy, fs, gs, rfl, rfl, ha, hB, hsp⟩ := h
  cases rx
  cases ry
  obtain ⟨nm, q, N, bs, hd, sn, sub, ab, col, dd, k0, k1, k2, k3, k5, newId, hC, n1, n2, n3⟩ := O.c
  obtain ⟨mA, J, _⟩ := ins_get I.hok ha
  obtain ⟨od, J, _⟩ := J.look
  obtain ⟨mB, J', _⟩ := ins_get I.hok hB
  obtain ⟨od', J', _⟩ := J'.look
  have KI := I.kIn
  have G : s.heap.Ns N (s.heap.nsMap N) := .of_isNs (PySem.W.isNs_of_in KI n1)
  obtain ⟨of, hof, hoc⟩ : ∃ of, s.heap.get? f = some of ∧ of.cls = .type "function" := by
    have e : (X.K.lookup f).map (·.cls) = some (.type "function") := O.t
    cases z : X.K.lookup f with
    | none =>
      rw [z] at e
      cases e
    | some of =>
      rw [z] at e
      exact ⟨of, KI _ _ z, Option.some.inj e⟩
  have W : s.heap.OwnEqNoNe a C f "object" [.type "object"] :=
    ⟨_, of, nm, q, N, bs, hd, sn, sub, ab, col, dd, k0, k1, k2, k3, k5, newId, s.heap.nsMap N, _, J.at_, J.cls, KI _ _ hC, G, ns_some KI G n2, hof, hoc, PySem.F.cmp_object.mro, PySem.F.cmp_object.eq.lookup, PySem.W.ns_none_of KI G n3⟩
  have hu : X.A.units + 1 < cLine := by have := hr.un; omega
  have hI0 := I.env0
  have r2 : Vals [V.ref a, V.ref b] [Value.ref a, Value.ref b] := .cons rfl (.cons rfl .nil)
  have hl : ([Value.ref a, Value.ref b] ++ []).length = ps.length := by rw [← (r2.append .nil).length]; exact F.len _ _ _ _ hsp
  have hbt := hb s [.ref a, .ref b] I.kIn hl
  have call := F.run X.A.in1 X.stack s H ⟨[.ref a, .ref b], []⟩ _ _ _ _ hr.in1 hI0.in1 hbt (r2.append .nil) hsp
  obtain ⟨hp, g, d, t, os⟩ := s
  refine PySem.richCompare_ne_ownEq PySem.F.cmp_object W J'.at_ J'.cls hu (wpAny_call (codeAny_mono call fun r s' hq => ?_))
  cases r with
  | error e => exact hq.elim
  | ok fl =>
    cases fl with
    | ret u =>
      obtain ⟨z, H', I', rz, r, ez, q⟩ := I.after hq
      subst ez
      cases rz
      exact ⟨_, rfl, .bl (!r), H', I', rfl, q⟩
    | next => exact False.elim hq
    | brk => exact False.elim hq
    | cont => exact False.elim hq
/-! t.index(k), t a tuple of whole numbers that holds k -/
def rTix (K : PySem.W.Frag) : V → List V → Hp → VK → Prop := fun x xs H Q => ∃ (p : Addr) (ns : List Int) (k : Int), x = .ref p ∧ xs = [.int k] ∧ SqT K H p (ns.map V.int) ∧ k ∈ ns ∧ Q (.int (ns.idxOf k : Nat)) H
theorem mt_tix {X : Cx} {K : PySem.W.Frag} (e : X.K = K) : MtR X "tuple.index" (rTix K) := by
  subst e
  intro pins s σ H x xs v us Q I rx rs h
  obtain ⟨p, ns, k, rfl, rfl, hq, hk, q⟩ := h
  cases rx
  obtain ⟨u, rfl, t, rfl⟩ := vals1 rs
  obtain ⟨its, r, pl, hz⟩ := I.tuple hq
  exact PySem.SeqAt.tuple_index_ints (isTuple_of pl) r.ints hk ⟨.int _, H, I.tok _, ⟨_, rfl⟩, q⟩
theorem x_tix {K : PySem.W.Frag} {H : Hp} {Q : VK} {p : Addr} {ms : List Nat} {k : Nat} (h : SqT K H p (nats ms)) (hk : k ∈ ms) (q : Q (.int (ms.idxOf k : Nat)) H) : rTix K (.ref p) [.int k] H Q := by
  refine ⟨p, ms.map fun (j : Nat) => (j : Int), k, rfl, rfl, by rw [nats_ints]; exact h, List.mem_map.mpr ⟨k, hk, rfl⟩, ?_⟩
  have e : (ms.map fun (j : Nat) => (j : Int)).idxOf (k : Int) = ms.idxOf k := by
    clear hk q h
    induction ms with
    | nil => rfl
    | cons m ms ih =>
      rw [List.map_cons, List.idxOf_cons, List.idxOf_cons, ih]
      have eb : ((m : Int) == (k : Int)) = (m == k) := by
        rw [Bool.eq_iff_iff, beq_iff_eq, beq_iff_eq]
        omega
      rw [eb]
  rw [e]
  exact q
/-- the order turned about -/
def turned (ms : List Nat) (n : Nat) : List Nat := (List.range' 1 n).map fun k => ms.idxOf k + 1
theorem turned_len (ms : List Nat) (n : Nat) : (turned ms n).length = n := by
  unfold turned
  rw [List.length_map, List.length_range']
theorem turned_up {ms : List Nat} {n k : Nat} (h1 : 1 ≤ k) (h2 : k ≤ n) : up (turned ms n) k = ms.idxOf k + 1 := by
  refine up_at (by omega) ?_
  unfold turned
  rw [List.getElem?_map, List.getElem?_range' (by omega)]
  show some (ms.idxOf (1 + 1 * (k - 1)) + 1) = _
  rw [show 1 + 1 * (k - 1) = k by omega]
theorem idx_up {ms : List Nat} {n b : Nat} (o : IsOrd n ms) (h1 : 1 ≤ b) (h2 : b ≤ n) : ms.idxOf (up ms b) + 1 = b := by
  have hg := up_get (hs := ms) h1 (by rw [o.len]; exact h2)
  obtain ⟨hl, he⟩ := List.getElem?_eq_some_iff.mp hg
  rw [← he, o.nodup.idxOf_getElem _ hl]
  omega
theorem turned_ord {n : Nat} {ms : List Nat} (o : IsOrd n ms) : IsOrd n (turned ms n) := by
  refine (List.perm_ext_iff_of_nodup ?_ List.nodup_range').mpr fun x => ?_
  · unfold turned
    refine List.pairwise_map.mpr ((List.Pairwise.and_mem.mp (show List.Pairwise (· ≠ ·) (List.range' 1 n) from List.nodup_range')).imp fun {a b} hab e => hab.2.2 ?_)
    have ha := hab.1
    have hb := hab.2.1
    have ra := List.mem_range'_1.mp ha
    have rb := List.mem_range'_1.mp hb
    have e2 : ms.idxOf a = ms.idxOf b := by omega
    have ia := List.getElem_idxOf (List.idxOf_lt_length_iff.mpr (o.mem.mpr ⟨by omega, by omega⟩ : a ∈ ms))
    have ib := List.getElem_idxOf (List.idxOf_lt_length_iff.mpr (o.mem.mpr ⟨by omega, by omega⟩ : b ∈ ms))
    rw [← ia, ← ib]
    congr 1
  · unfold turned
    rw [List.mem_map, List.mem_range'_1]
    constructor
    · rintro ⟨a, ha, rfl⟩
      have ra := List.mem_range'_1.mp ha
      have := List.idxOf_lt_length_iff.mpr (o.mem.mpr ⟨by omega, by omega⟩ : a ∈ ms)
      rw [o.len] at this
      omega
    · intro hx
      have r := o.rg (k := x) (by omega) (by omega)
      refine ⟨up ms x, List.mem_range'_1.mpr (by omega), idx_up o (by omega) (by omega)⟩
theorem turned_back {n b : Nat} {ms : List Nat} (o : IsOrd n ms) (h1 : 1 ≤ b) (h2 : b ≤ n) : up (turned ms n) (up ms b) = b := by
  have r := o.rg h1 h2
  rw [turned_up r.1 r.2, idx_up o h1 h2]
end Fv
set_option maxRecDepth 100000
set_option maxHeartbeats 1000000
namespace Fv
open PySem PySem.Spec PyProof.Rows L2
/-! a tuple of which it is known that it has no dict: its methods may be called -/
def FrT (H : Hp) (a : Addr) (xs : List V) : Prop := ∃ o : Obj, H a = some (.frz o (.tup xs)) ∧ o.cls = .type "tuple" ∧ o.dict = none
theorem FrT.sq {K : PySem.W.Frag} {H : Hp} {a : Addr} {xs : List V} (h : FrT H a xs) : SqT K H a xs := by
  obtain ⟨o, e, _, _⟩ := h
  exact .inl (.inr ⟨o, e⟩)
theorem FrT.same {H H' : Hp} {a : Addr} {xs : List V} (s : Same H H') (h : FrT H a xs) : FrT H' a xs := by
  obtain ⟨o, e, c, d⟩ := h
  exact ⟨o, s _ _ e, c, d⟩
theorem FrT.but {H H' : Hp} {p a : Addr} {xs : List V} (s : But p H H') (n : a ≠ p) (h : FrT H a xs) : FrT H' a xs := by
  obtain ⟨o, e, c, d⟩ := h
  exact ⟨o, s _ _ n e, c, d⟩
/-- tuple(l), l a list: a new tuple without a dict -/
def rTupF (K : PySem.W.Frag) : List V → Hp → VK → Prop := fun xs H Q => ∃ p ys, xs = [.ref p] ∧ SqL K H p ys ∧ ∀ l (o : Obj), H l = none → o.cls = .type "tuple" → o.dict = none → Q (.ref l) (upd H l (.frz o (.tup ys)))
theorem call_tupF {X : Cx} {K : PySem.W.Frag} (e : X.K = K) : CallR X (.type "tuple") (rTupF K) := by
  subst e
  intro pins s σ H xs us Q I r h
  obtain ⟨p, ys, rfl, hq, q⟩ := h
  obtain ⟨u, rfl, rx⟩ := vals1 r
  cases rx
  obtain ⟨its, r', pl, hz⟩ := I.list hq
  have hlen := r'.length
  refine call_tuple_list pl.isList (fun h' kp => ?_) (by simp only [List.size_toArray] <;> omega)
  have I1 : Inv X pins σ H { s with heap := h' } := I.kept (t' := s.toks) kp
  have at0 : (h'.push { cls := .type "tuple", data := .seq its.toArray }).get? h'.objs.size = some { cls := .type "tuple", data := .seq its.toArray } := Heap.get?_push_size _ rfl
  have I2 : Inv X pins σ (upd H h'.objs.size (.frz { cls := .type "tuple", data := .seq its.toArray } (.tup ys))) { s with heap := h'.push { cls := .type "tuple", data := .seq its.toArray } } := by
    refine I1.laid (t' := s.toks) (fun b o e => Heap.get?_push_of_some _ e) (Nat.le_refl _) ?_
    exact (show ObjOk X.prog X.w _ _ _ (.frz { cls := .type "tuple", data := .seq its.toArray } (.tup ys)) from ⟨at0, hz, its, r', IsTup.new _ _⟩)
  exact ⟨.ref h'.objs.size, _, I2, rfl, q _ _ (I1.hok.fresh (Nat.le_refl _)) rfl rfl⟩
/-- isinstance(t, tuple), t a tuple of any kind -/
def rIsT (K : PySem.W.Frag) : List V → Hp → VK → Prop := fun xs H Q => ∃ a ys, xs = [.ref a, .ty "tuple"] ∧ SqT K H a ys ∧ Q (.bl true) H
theorem call_isT {X : Cx} {K : PySem.W.Frag} (e : X.K = K) : CallR X (.builtin "isinstance") (rIsT K) := by
  subst e
  intro pins s σ H xs us Q I r h
  obtain ⟨a, ys, rfl, hq, q⟩ := h
  obtain ⟨u1, u2, rfl, r1, r2⟩ := vals2 r
  cases r1
  cases r2
  obtain ⟨its, r', ⟨o, h1, h2, _⟩, hz⟩ := I.tuple hq
  exact PySem.W.kia_one (K := X.K) (t := .type "tuple") PySem.W.kitx_tuple I.kIn ⟨o, h1, h2⟩ (if_pos (beq_self_eq_true _) : PySem.W.kitOne X.K (.type "tuple") (.type "tuple") = some true) (fun z => nomatch z) fun tk => ⟨.bl true, H, I.tok tk, rfl, q⟩
section
variable {X : Cx} {K : PySem.W.Frag} {o e : Expr} {es : List Expr} {to : TE} {t : TA} {name : Str} {apos cpos : Pos} {id : String} {r : V → List V → Hp → VK → Prop}
/-- t.m(..), t such a tuple -/
def tBT (r : V → List V → Hp → VK → Prop) (to : TE) (t : TA) : TE := fun σ H Q => to σ H fun x H1 => ∃ a ys, x = .ref a ∧ FrT H1 a ys ∧ t σ H1 fun xs H2 => r x xs H2 Q
theorem pe_bmT (slot : Slot "tuple" name id) (hty : typeOf (.builtin id) = pure (.type "method_descriptor")) (hm : MtR X id r) (ho : PE X o to) (ha : PA X (e :: es) t)
    (hbase : attributeBase o name X.env (eval o X.env) = eval o X.env := by rfl)
    (hfew : ((backTo cpos (starEach (e :: es) X.env)).all (fun x => !x.1) && (backToKw cpos (keywordEach [] X.env)).all (fun x => x.1.isSome) && decide ((e :: es).length + ([] : List Keyword).length + (if ([] : List Keyword).isEmpty then 0 else 1) < 30)) = true := by rfl)
    (hline : (apos.endLine == cpos.line) = true := by rfl) (hs : starEach (e :: es) X.env = (false, eval e X.env) :: starEach es X.env := by rfl) (hplain : (backTo cpos (starEach es X.env)).any (·.1) = false := by rfl) :
    PE X (.Call (.Attribute o name apos) (e :: es) [] cpos) (tBT r to t) := by
  refine ⟨fun pins s σ H Q I h => ?_⟩
  refine wpAny_Call_method_late hbase hfew hline rfl (thn (ho.run pins s σ H _ I h) fun v s1 ⟨x, H1, I1, r1, a, ys, ex, hf, q1⟩ => ?_)
  subst ex
  obtain rfl : v = Value.ref a := r1
  obtain ⟨ob, eo, hc, hd⟩ := hf
  obtain ⟨h0, _⟩ := (show ObjOk X.prog X.w H1 s1.heap a (.frz ob (.tup ys)) from I1.hok a _ eo)
  refine ⟨"tuple", id, PySem.F.plainAttrs_tuple, slot, hty, ⟨ob, h0, hc⟩, fun b eb => ?_, ?_⟩
  · cases eb
    exact ⟨ob, h0, hd⟩
  · have hA := ha.run cpos pins s1 σ H1 _ I1 q1
    rw [hs] at hA ⊢
    have hpl : ((false, eval e X.env) :: backTo cpos (starEach es X.env)).any (·.1) = false := by
      show (false || (backTo cpos (starEach es X.env)).any (·.1)) = false
      rw [hplain] <;> rfl
    refine Calls.callWith_builtin hpl (Calls.evalArgs_plain (thn hA fun us s2 ⟨vs, H2, I2, r2, q2⟩ => ?_))
    exact hm pins s2 σ H2 (.ref a) vs _ us Q I2 rfl r2 q2
end
theorem x_catA2 {K : PySem.W.Frag} {H : Hp} {Q : VK} {a b : Addr} {xs ys : List V} (h1 : SqT K H a xs) (h2 : SqT K H b ys) (nx : xs ≠ []) (ny : ys ≠ []) (hl : xs.length + ys.length ≤ 10000) (q : ∀ p, H p = none → Q (.ref p) (upd H p (.tup (xs ++ ys)))) : rCatA K (.ref a) (.ref b) H Q :=
  ⟨a, b, xs, ys, rfl, rfl, h1, h2, szLe (by omega), fun e => (nx e).elim, fun _ e => (ny e).elim, fun _ _ => q⟩
theorem nats_ne {l : List Nat} (h : 1 ≤ l.length) : nats l ≠ [] := fun e => by
  have := congrArg List.length e
  rw [nats_length] at this
  exact absurd this (by show ¬ l.length = 0; omega)
end Fv
/-! what places tell of trees -/
namespace Fv
theorem wayN_eq (hs : List Nat) : ∀ m k n, (∀ j, j < n → upN hs j k ≠ 0) → upN hs n k = 0 → n ≤ m → wayN hs m k = (List.range n).map fun i => upN hs (i + 1) k
  | m, k, 0, _, h, _ => by
    have e : k = 0 := h
    subst e
    cases m with
    | zero => rfl
    | succ m => exact if_pos rfl
  | 0, k, n + 1, _, _, h => absurd h (by omega)
  | m + 1, k, n + 1, hn, h, hm => by
    have k0 : k ≠ 0 := hn 0 (by omega)
    show (if k = 0 then [] else up hs k :: wayN hs m (up hs k)) = _
    rw [if_neg k0, wayN_eq hs m (up hs k) n (fun j hj => hn (j + 1) (by omega)) h (by omega), List.range_succ_eq_map, List.map_cons, List.map_map]
    rfl
theorem wayN_snoc (hs : List Nat) : ∀ i k, wayN hs (i + 1) k = wayN hs i k ++ if upN hs i k = 0 then [] else [upN hs (i + 1) k]
  | 0, k => by
    show (if k = 0 then [] else [up hs k]) = [] ++ _
    rfl
  | i + 1, k => by
    show (if k = 0 then [] else up hs k :: wayN hs (i + 1) (up hs k)) = (if k = 0 then [] else up hs k :: wayN hs i (up hs k)) ++ _
    by_cases h : k = 0
    · subst h
      rw [if_pos rfl, if_pos rfl, upN_zero, if_pos rfl]
      rfl
    · rw [if_neg h, if_neg h, wayN_snoc hs i (up hs k)]
      rfl
theorem range_snoc (n : Nat) : List.range' 1 (n + 1) = List.range' 1 n ++ [1 + n] := by
  rw [List.range'_concat, Nat.one_mul]
/-- the blocks that hang just under a place, and those beneath it -/
def kids (hs : List Nat) (p : Nat) : List Nat := (List.range' 1 hs.length).filter fun b => decide (up hs b = p)
def below (hs : List Nat) (p : Nat) : List Nat := (List.range' 1 hs.length).filter fun b => decide (p ∈ way hs b)
theorem filter_snoc (g : Nat → Bool) (n : Nat) : (List.range' 1 (n + 1)).filter g = (List.range' 1 n).filter g ++ if g (n + 1) = true then [n + 1] else [] := by
  rw [range_snoc, List.filter_append, Nat.add_comm 1 n]
  congr 1
  by_cases h : g (n + 1) = true
  · rw [if_pos h, List.filter_cons_of_pos h]
    rfl
  · rw [if_neg h, List.filter_cons_of_neg h]
    rfl
theorem filter_len (g : Nat → Bool) (n : Nat) : ((List.range' 1 n).filter g).length ≤ n := by
  refine Nat.le_trans (List.length_filter_le _ _) ?_
  rw [List.length_range']
  exact Nat.le_refl _
theorem wayN_len (hs : List Nat) : ∀ n k, (wayN hs n k).length ≤ n
  | 0, _ => Nat.le_refl _
  | n + 1, k => by
    show (if k = 0 then [] else up hs k :: wayN hs n (up hs k)).length ≤ n + 1
    split
    · exact Nat.zero_le _
    · exact Nat.succ_le_succ (wayN_len hs n _)
theorem wayN_nil (hs : List Nat) : ∀ n, wayN hs n 0 = []
  | 0 => rfl
  | n + 1 => if_pos rfl
theorem wayN_cons (hs : List Nat) (n : Nat) {k : Nat} (h : k ≠ 0) : wayN hs (n + 1) k = up hs k :: wayN hs n (up hs k) := if_neg h
theorem wayN_take (hs : List Nat) : ∀ m j k, (wayN hs m k).take j = wayN hs (min j m) k
  | m, 0, k => by
    rw [Nat.zero_min]
    exact List.take_zero
  | 0, j + 1, k => by
    rw [Nat.min_zero]
    rfl
  | m + 1, j + 1, k => by
    rw [show min (j + 1) (m + 1) = min j m + 1 by omega]
    by_cases h : k = 0
    · rw [h, wayN_nil, wayN_nil, List.take_nil]
    · rw [wayN_cons hs m h, wayN_cons hs _ h, List.take_succ_cons, wayN_take hs m j]
theorem wayN_stop {hs : List Nat} : ∀ {n k m}, upN hs n k = 0 → n ≤ m → wayN hs m k = wayN hs n k
  | 0, k, m, h, _ => by
    have e : k = 0 := h
    rw [e, wayN_nil, wayN_nil]
  | n + 1, k, 0, _, h2 => absurd h2 (by omega)
  | n + 1, k, m + 1, h, h2 => by
    by_cases h0 : k = 0
    · rw [h0, wayN_nil, wayN_nil]
    · rw [wayN_cons hs m h0, wayN_cons hs n h0, wayN_stop (n := n) (k := up hs k) (m := m) h (by omega)]
theorem way_take {hs : List Nat} (t : IsTree hs) {k : Nat} (hk : k ≤ hs.length) (d : Nat) : (way hs k).take d = wayN hs d k := by
  unfold way
  rw [wayN_take]
  by_cases h : d ≤ hs.length
  · rw [Nat.min_eq_left h]
  · rw [Nat.min_eq_right (by omega), wayN_stop (n := hs.length) (m := d) (t.comes k hk) (by omega)]
theorem wayN_le {hs : List Nat} (h : ∀ x ∈ hs, x ≤ hs.length) {n k x : Nat} (hx : x ∈ wayN hs n k) : x ≤ hs.length := by
  obtain ⟨j, _, nz, e⟩ := (way_mem hs x n k).mp hx
  rw [← e, upN_succ]
  exact up_le h _
/-- no place leads to itself -/
theorem no_ring {hs : List Nat} (t : IsTree hs) {k m : Nat} (hk : k ≤ hs.length) (h0 : k ≠ 0) (hm : 1 ≤ m) : upN hs m k ≠ k := by
  intro e
  have go : ∀ i, upN hs (i * m) k = k := fun i => by
    induction i with
    | zero =>
      rw [Nat.zero_mul]
      rfl
    | succ i ih => rw [Nat.add_mul, Nat.one_mul, upN_add, ih, e]
  have h1 := go hs.length
  have h2 : upN hs (hs.length * m) k = 0 := upN_more (t.comes k hk) (Nat.le_mul_of_pos_right _ hm)
  rw [h2] at h1
  exact h0 h1.symm
theorem wayN_at {hs : List Nat} : ∀ {n k i x}, (wayN hs n k)[i]? = some x → i < n ∧ upN hs i k ≠ 0 ∧ upN hs (i + 1) k = x
  | 0, _, _, _, h => by cases h
  | n + 1, k, i, x, h => by
    by_cases h0 : k = 0
    · rw [h0, wayN_nil] at h
      cases h
    · rw [wayN_cons hs n h0] at h
      cases i with
      | zero => exact ⟨by omega, h0, Option.some.inj h⟩
      | succ i =>
        rw [List.getElem?_cons_succ] at h
        obtain ⟨a, b, c⟩ := wayN_at h
        exact ⟨by omega, b, c⟩
theorem wayN_nodup {hs : List Nat} (t : IsTree hs) {n k : Nat} (hk : k ≤ hs.length) : (wayN hs n k).Nodup := by
  have key : ∀ (i j x : Nat), i < j → (wayN hs n k)[i]? = some x → (wayN hs n k)[j]? = some x → False := fun i j x hij h1 h2 => by
    obtain ⟨_, _, e1⟩ := wayN_at h1
    obtain ⟨_, n2, e2⟩ := wayN_at h2
    have nz : x ≠ 0 := fun e => by
      rw [e] at e1
      exact n2 (upN_more e1 (by omega))
    have hx : x ≤ hs.length := by
      rw [← e1]
      exact upN_le t.le _ k hk
    refine no_ring t (m := j - i) hx nz (by omega) ?_
    rw [← e1, ← upN_add, show i + 1 + (j - i) = j + 1 by omega, e1, e2]
  refine List.pairwise_iff_getElem.mpr fun i j hi hj hij e => ?_
  refine key i j _ hij (List.getElem?_eq_getElem hi) ?_
  rw [List.getElem?_eq_getElem hj, e]
/-! levels beneath a place -/
def lev (hs : List Nat) (p : Nat) : Nat → List Nat
  | 0 => [p]
  | i + 1 => (lev hs p i).flatMap (kids hs)
def withUp (hs : List Nat) (bs : List Nat) : List (Nat × Nat) := bs.map fun b => (b, up hs b)
def acc (hs : List Nat) (p : Nat) : Nat → List Nat
  | 0 => []
  | i + 1 => acc hs p i ++ lev hs p (i + 1)
theorem kids_mem {hs : List Nat} {b p : Nat} : b ∈ kids hs p ↔ 1 ≤ b ∧ b ≤ hs.length ∧ up hs b = p := by
  unfold kids
  rw [List.mem_filter, List.mem_range'_1, decide_eq_true_eq]
  omega
theorem kids_nodup (hs : List Nat) (p : Nat) : (kids hs p).Nodup := List.Pairwise.filter _ List.nodup_range'
theorem lev_mem {hs : List Nat} {p : Nat} (t : IsTree hs) (hp : p ≤ hs.length) : ∀ i b, b ∈ lev hs p i ↔ b ≤ hs.length ∧ upN hs i b = p ∧ ∀ j, j < i → upN hs j b ≠ 0
  | 0, b => by
    show b ∈ [p] ↔ _
    rw [List.mem_singleton]
    constructor
    · rintro rfl
      exact ⟨hp, rfl, fun j h => absurd h (by omega)⟩
    · exact fun h => h.2.1
  | i + 1, b => by
    show b ∈ (lev hs p i).flatMap (kids hs) ↔ _
    rw [List.mem_flatMap]
    constructor
    · rintro ⟨a, ha, hb⟩
      obtain ⟨b1, b2, rfl⟩ := kids_mem.mp hb
      obtain ⟨_, e, nz⟩ := (lev_mem t hp i _).mp ha
      refine ⟨b2, e, fun j hj => ?_⟩
      cases j with
      | zero =>
        show b ≠ 0
        omega
      | succ j => exact nz j (by omega)
    · rintro ⟨h1, h2, h3⟩
      have b0 : b ≠ 0 := h3 0 (by omega)
      exact ⟨up hs b, (lev_mem t hp i _).mpr ⟨up_le t.le b, h2, fun j hj => h3 (j + 1) (by omega)⟩, kids_mem.mpr ⟨by omega, h1, rfl⟩⟩
theorem lev_nodup {hs : List Nat} {p : Nat} : ∀ i, (lev hs p i).Nodup
  | 0 => List.pairwise_singleton _ _
  | i + 1 => by
    show ((lev hs p i).flatMap (kids hs)).Nodup
    refine List.pairwise_flatMap.mpr ⟨fun a _ => kids_nodup hs a, (lev_nodup i).imp fun {a b} hab x hx y hy e => hab ?_⟩
    subst e
    exact (kids_mem.mp hx).2.2.symm.trans (kids_mem.mp hy).2.2
theorem acc_mem {hs : List Nat} {p : Nat} (t : IsTree hs) (hp : p ≤ hs.length) : ∀ d b, b ∈ acc hs p d ↔ b ≤ hs.length ∧ p ∈ wayN hs d b
  | 0, b => by
    show b ∈ [] ↔ _ ∧ p ∈ []
    simp
  | d + 1, b => by
    show b ∈ acc hs p d ++ lev hs p (d + 1) ↔ _
    rw [List.mem_append, acc_mem t hp d, lev_mem t hp, way_mem, way_mem]
    constructor
    · rintro (⟨h1, j, h2, h3, h4⟩ | ⟨h1, h2, h3⟩)
      · exact ⟨h1, j, by omega, h3, h4⟩
      · exact ⟨h1, d, by omega, h3 d (by omega), h2⟩
    · rintro ⟨h1, j, h2, h3, h4⟩
      by_cases e : j < d
      · exact .inl ⟨h1, j, e, h3, h4⟩
      · have e2 : j = d := by omega
        subst e2
        exact .inr ⟨h1, h4, fun i hi z => h3 (upN_more z (by omega))⟩
theorem acc_nodup {hs : List Nat} {p : Nat} (t : IsTree hs) (hp : p ≤ hs.length) : ∀ d, (acc hs p d).Nodup
  | 0 => List.Pairwise.nil
  | d + 1 => by
    show (acc hs p d ++ lev hs p (d + 1)).Nodup
    refine List.nodup_append.mpr ⟨acc_nodup t hp d, lev_nodup _, fun x hx y hy e => ?_⟩
    subst e
    obtain ⟨h1, hw⟩ := (acc_mem t hp d x).mp hx
    obtain ⟨j, h2, h3, h4⟩ := (way_mem _ _ _ _).mp hw
    obtain ⟨_, e, nz⟩ := (lev_mem t hp _ x).mp hy
    have p0 : p ≠ 0 := by
      rw [← h4]
      exact nz (j + 1) (by omega)
    refine no_ring t (m := d - j) hp p0 (by omega) ?_
    have e2 : upN hs (d + 1) x = upN hs (d - j) (upN hs (j + 1) x) := by
      rw [← upN_add, show j + 1 + (d - j) = d + 1 by omega]
    rw [h4, e] at e2
    exact e2.symm
/-- the blocks beneath a place by at most so many steps, and the ties of these -/
def near (hs : List Nat) (d p : Nat) : List Nat := (List.range' 1 hs.length).filter fun b => decide (p ∈ wayN hs d b)
def tiesN (hs : List Nat) (d p : Nat) : List (Nat × Nat) := withUp hs (near hs d p)
theorem near_mem {hs : List Nat} {d p b : Nat} : b ∈ near hs d p ↔ b ≤ hs.length ∧ p ∈ wayN hs d b := by
  unfold near
  rw [List.mem_filter, List.mem_range'_1, decide_eq_true_eq]
  constructor
  · rintro ⟨h1, h2⟩
    exact ⟨by omega, h2⟩
  · rintro ⟨h1, h2⟩
    refine ⟨⟨Nat.one_le_iff_ne_zero.mpr fun e => ?_, by omega⟩, h2⟩
    rw [e, wayN_nil] at h2
    cases h2
theorem acc_perm {hs : List Nat} {p : Nat} (t : IsTree hs) (hp : p ≤ hs.length) (d : Nat) : (acc hs p d).Perm (near hs d p) := by
  refine (List.perm_ext_iff_of_nodup (acc_nodup t hp d) (List.Pairwise.filter _ List.nodup_range')).mpr fun b => ?_
  rw [acc_mem t hp]
  exact near_mem.symm
theorem near_len (hs : List Nat) (d p : Nat) : (near hs d p).length ≤ hs.length := filter_len _ _
theorem acc_len {hs : List Nat} {p : Nat} (t : IsTree hs) (hp : p ≤ hs.length) (d : Nat) : (acc hs p d).length ≤ hs.length := by
  rw [(acc_perm t hp d).length_eq]
  exact near_len hs d p
theorem lev_len {hs : List Nat} {p : Nat} (t : IsTree hs) (hp : p ≤ hs.length) (i : Nat) : (lev hs p i).length ≤ hs.length := by
  cases i with
  | zero =>
    show 1 ≤ _
    exact t.pos
  | succ i =>
    have h := acc_len t hp (i + 1)
    have e : acc hs p (i + 1) = acc hs p i ++ lev hs p (i + 1) := rfl
    rw [e, List.length_append] at h
    omega
theorem next_ties (hs : List Nat) (p i : Nat) : ((lev hs p i).flatMap fun a => (kids hs a).map fun b => (b, a)) = withUp hs (lev hs p (i + 1)) := by
  show _ = ((lev hs p i).flatMap (kids hs)).map _
  rw [List.map_flatMap]
  congr 1
  funext a
  refine List.map_congr_left fun b hb => ?_
  rw [(kids_mem.mp hb).2.2]
/-- pairs in order, each first item once -/
def ltPr (x y : Nat × Nat) : Prop := x.1 < y.1 ∨ (x.1 = y.1 ∧ x.2 < y.2)
theorem ties_sorted {hs : List Nat} {p d : Nat} {ys : List (Nat × Nat)} (t : IsTree hs) (hp : p ≤ hs.length) (h1 : ys.Perm (withUp hs (acc hs p d))) (h2 : ys.Pairwise fun x y => ¬ ltPr y x) : ys = tiesN hs d p := by
  refine (h1.trans ((acc_perm t hp d).map _)).eq_of_pairwise (le := fun x y => ¬ ltPr y x) (fun a b _ _ k1 k2 => ?_) h2 ?_
  · unfold ltPr at k1 k2
    refine Prod.ext ?_ ?_ <;> omega
  · show ((near hs d p).map fun b => (b, up hs b)).Pairwise _
    unfold near
    rw [List.pairwise_map]
    refine List.Pairwise.filter _ ((List.pairwise_lt_range' (s := 1) (n := hs.length)).imp fun {a b} hab => ?_)
    unfold ltPr
    show ¬ (b < a ∨ _ ∧ _)
    omega
/-! what is told otherwise -/
def telD (hs gs : List Nat) (u d p : Nat) : Bool := decide (wayN hs u p = wayN gs u p) && decide (tiesN hs d p = tiesN gs d p)
def unlikeN (hs gs : List Nat) (u d : Nat) : List Nat := (List.range (hs.length + 1)).filter fun p => !telD hs gs u d p
theorem telD_iff {hs gs : List Nat} {u d p : Nat} : telD hs gs u d p = true ↔ wayN hs u p = wayN gs u p ∧ tiesN hs d p = tiesN gs d p := by
  unfold telD
  rw [Bool.and_eq_true, decide_eq_true_eq, decide_eq_true_eq]
theorem telD_self (hs : List Nat) (u d p : Nat) : telD hs hs u d p = true := telD_iff.mpr ⟨rfl, rfl⟩
theorem telD_comm (hs gs : List Nat) (u d p : Nat) : telD hs gs u d p = telD gs hs u d p := by
  rw [Bool.eq_iff_iff, telD_iff, telD_iff]
  exact ⟨fun h => ⟨h.1.symm, h.2.symm⟩, fun h => ⟨h.1.symm, h.2.symm⟩⟩
theorem unlike_mem {hs gs : List Nat} {u d p : Nat} : p ∈ unlikeN hs gs u d ↔ p ≤ hs.length ∧ telD hs gs u d p = false := by
  unfold unlikeN
  rw [List.mem_filter, List.mem_range, Bool.not_eq_true', Nat.lt_succ_iff]
theorem unlike_len (hs gs : List Nat) (u d : Nat) : (unlikeN hs gs u d).length ≤ hs.length + 1 := by
  refine Nat.le_trans (List.length_filter_le _ _) ?_
  rw [List.length_range]
  exact Nat.le_refl _
theorem unlike_self (hs : List Nat) (u d : Nat) : unlikeN hs hs u d = [] := by
  refine List.filter_eq_nil_iff.mpr fun p _ h => ?_
  rw [telD_self] at h
  cases h
theorem unlike_comm {hs gs : List Nat} (hl : hs.length = gs.length) (u d : Nat) : unlikeN hs gs u d = unlikeN gs hs u d := by
  unfold unlikeN
  rw [hl]
  refine List.filter_congr fun p _ => ?_
  rw [telD_comm]
theorem unlike_sorted (hs gs : List Nat) (u d : Nat) : (unlikeN hs gs u d).Pairwise (· < ·) := List.Pairwise.filter _ List.pairwise_lt_range
theorem ties_mem {hs : List Nat} {d p : Nat} {x : Nat × Nat} : x ∈ tiesN hs d p ↔ x.1 ≤ hs.length ∧ p ∈ wayN hs d x.1 ∧ x.2 = up hs x.1 := by
  unfold tiesN withUp
  rw [List.mem_map]
  constructor
  · rintro ⟨b, hb, rfl⟩
    have := near_mem.mp hb
    exact ⟨this.1, this.2, rfl⟩
  · rintro ⟨h1, h2, h3⟩
    exact ⟨x.1, near_mem.mpr ⟨h1, h2⟩, Prod.ext rfl h3.symm⟩
theorem ties_eq {hs gs : List Nat} {d p : Nat} (hl : hs.length = gs.length) : tiesN hs d p = tiesN gs d p ↔ ∀ b, b ≤ hs.length → (p ∈ wayN hs d b ↔ p ∈ wayN gs d b) ∧ (p ∈ wayN hs d b → up hs b = up gs b) := by
  constructor
  · intro e b hb
    have k1 : p ∈ wayN hs d b → p ∈ wayN gs d b ∧ up hs b = up gs b := fun h => by
      have := (ties_mem (x := (b, up hs b))).mpr ⟨hb, h, rfl⟩
      rw [e] at this
      have := ties_mem.mp this
      exact ⟨this.2.1, this.2.2⟩
    have k2 : p ∈ wayN gs d b → p ∈ wayN hs d b := fun h => by
      have := (ties_mem (hs := gs) (x := (b, up gs b))).mpr ⟨by rw [← hl]; exact hb, h, rfl⟩
      rw [← e] at this
      exact (ties_mem.mp this).2.1
    exact ⟨⟨fun h => (k1 h).1, k2⟩, fun h => (k1 h).2⟩
  · intro h
    have en : near hs d p = near gs d p := by
      unfold near
      rw [← hl]
      refine List.filter_congr fun b hb => ?_
      have := List.mem_range'_1.mp hb
      rw [Bool.eq_iff_iff, decide_eq_true_eq, decide_eq_true_eq]
      exact (h b (by omega)).1
    unfold tiesN withUp
    rw [← en]
    refine List.map_congr_left fun b hb => ?_
    have := near_mem.mp hb
    rw [(h b this.1).2 this.2]
/-- a block hung elsewhere -/
theorem moved_seen {hs : List Nat} {b q u d : Nat} (hb : 1 ≤ b) (hb2 : b ≤ hs.length) (hq : up hs b ≠ q) : (0 < u → telD hs (put hs b q) u d b = false) ∧ (0 < d → telD hs (put hs b q) u d (up hs b) = false ∧ telD hs (put hs b q) u d q = false) := by
  have eb : up (put hs b q) b = q := by rw [up_put hb hb2, if_pos rfl]
  have b0 : b ≠ 0 := by omega
  refine ⟨fun hu => ?_, fun hd => ⟨?_, ?_⟩⟩
  · refine Bool.eq_false_iff.mpr fun h => ?_
    have e := (telD_iff.mp h).1
    obtain ⟨u, rfl⟩ : ∃ u', u = u' + 1 := ⟨u - 1, by omega⟩
    rw [wayN_cons _ _ b0, wayN_cons _ _ b0, eb] at e
    exact hq (List.cons.inj e).1
  · refine Bool.eq_false_iff.mpr fun h => ?_
    have e := (telD_iff.mp h).2
    obtain ⟨d, rfl⟩ : ∃ d', d = d' + 1 := ⟨d - 1, by omega⟩
    have := (ties_mem (hs := hs) (d := d + 1) (p := up hs b) (x := (b, up hs b))).mpr ⟨hb2, by rw [wayN_cons _ _ b0]; exact List.mem_cons_self, rfl⟩
    rw [e] at this
    have := (ties_mem.mp this).2.2
    rw [eb] at this
    exact hq this
  · refine Bool.eq_false_iff.mpr fun h => ?_
    have e := (telD_iff.mp h).2
    obtain ⟨d, rfl⟩ : ∃ d', d = d' + 1 := ⟨d - 1, by omega⟩
    have := (ties_mem (hs := put hs b q) (d := d + 1) (p := q) (x := (b, q))).mpr ⟨by rw [put_len]; exact hb2, by rw [wayN_cons _ _ b0, eb]; exact List.mem_cons_self, eb.symm⟩
    rw [← e] at this
    exact hq (ties_mem.mp this).2.2.symm
theorem way_sub {hs : List Nat} {d d' k x : Nat} (h : d ≤ d') (hx : x ∈ wayN hs d k) : x ∈ wayN hs d' k := by
  obtain ⟨j, h1, h2, h3⟩ := (way_mem _ _ _ _).mp hx
  exact (way_mem _ _ _ _).mpr ⟨j, by omega, h2, h3⟩
/-- a greater view tells no less -/
theorem wider {hs gs : List Nat} {u u' d d' p : Nat} (t : IsTree hs) (t' : IsTree gs) (hl : hs.length = gs.length) (hu : u ≤ u') (hd : d ≤ d') (h : telD hs gs u' d' p = true) : telD hs gs u d p = true := by
  obtain ⟨e1, e2⟩ := telD_iff.mp h
  refine telD_iff.mpr ⟨?_, (ties_eq hl).mpr ?_⟩
  · have := congrArg (List.take u) e1
    rwa [wayN_take, wayN_take, Nat.min_eq_left hu] at this
  · have key : ∀ (xs ys : List Nat), IsTree xs → xs.length = ys.length → tiesN xs d' p = tiesN ys d' p → ∀ d, d ≤ d' → ∀ b, b ≤ xs.length → p ∈ wayN xs d b → p ∈ wayN ys d b ∧ up xs b = up ys b := by
      intro xs ys tx el e d
      induction d with
      | zero =>
        intro _ b _ hx
        cases hx
      | succ d ih =>
        intro hd b hb hx
        have b0 : b ≠ 0 := fun z => by
          rw [z, wayN_nil] at hx
          cases hx
        have hu := ((ties_eq el).mp e b hb).2 (way_sub hd hx)
        refine ⟨?_, hu⟩
        rw [wayN_cons _ _ b0] at hx ⊢
        rw [← hu]
        rcases List.mem_cons.mp hx with hx | hx
        · rw [hx]
          exact List.mem_cons_self
        · exact List.mem_cons_of_mem _ (ih (by omega) _ (up_le tx.le b) hx).1
    intro b hb
    have k1 := key hs gs t hl e2 d hd b hb
    have k2 := key gs hs t' hl.symm e2.symm d hd b (by rw [← hl]; exact hb)
    exact ⟨⟨fun h => (k1 h).1, fun h => (k2 h).1⟩, fun h => (k1 h).2⟩
/-! called anew -/
theorem wayN_called {hs ms : List Nat} (t : IsTree hs) (o : IsOrd hs.length ms) : ∀ n k, k ≤ hs.length → wayN (call2 hs ms) n (up ms k) = (wayN hs n k).map (up ms)
  | 0, _, _ => rfl
  | n + 1, k, hk => by
    by_cases h : k = 0
    · rw [h, up_zero, wayN_nil, wayN_nil]
      rfl
    · have r := o.rg (k := k) (by omega) hk
      rw [wayN_cons _ _ h, wayN_cons _ _ (by omega), call2_up o hk, wayN_called t o n _ (up_le t.le k)]
      rfl
theorem map_inj_on {ms : List Nat} {n : Nat} (o : IsOrd n ms) : ∀ {xs ys : List Nat}, (∀ x ∈ xs, x ≤ n) → (∀ y ∈ ys, y ≤ n) → xs.map (up ms) = ys.map (up ms) → xs = ys
  | [], [], _, _, _ => rfl
  | [], _ :: _, _, _, e => by cases e
  | _ :: _, [], _, _, e => by cases e
  | x :: xs, y :: ys, hx, hy, e => by
    rw [List.map_cons, List.map_cons] at e
    obtain ⟨e1, e2⟩ := List.cons.inj e
    rw [o.inj (hx x List.mem_cons_self) (hy y List.mem_cons_self) e1, map_inj_on o (fun z hz => hx z (List.mem_cons_of_mem _ hz)) (fun z hz => hy z (List.mem_cons_of_mem _ hz)) e2]
theorem mem_called {hs ms : List Nat} (t : IsTree hs) (o : IsOrd hs.length ms) {d p b : Nat} (hp : p ≤ hs.length) (hb : b ≤ hs.length) : up ms p ∈ wayN (call2 hs ms) d (up ms b) ↔ p ∈ wayN hs d b := by
  rw [wayN_called t o d b hb, List.mem_map]
  constructor
  · rintro ⟨x, hx, e⟩
    rw [← o.inj (wayN_le t.le hx) hp e]
    exact hx
  · exact fun h => ⟨p, h, rfl⟩
theorem telD_called {hs gs ms : List Nat} (t : IsTree hs) (t' : IsTree gs) (hl : hs.length = gs.length) (o : IsOrd hs.length ms) {u d p : Nat} (hp : p ≤ hs.length) : telD (call2 hs ms) (call2 gs ms) u d (up ms p) = telD hs gs u d p := by
  have o' : IsOrd gs.length ms := by
    rw [← hl]
    exact o
  have hp' : p ≤ gs.length := by rw [← hl]; exact hp
  rw [Bool.eq_iff_iff, telD_iff, telD_iff, ties_eq hl, ties_eq (by rw [call2_len, call2_len, hl]), wayN_called t o u p hp, wayN_called t' o' u p hp', call2_len]
  have e1 : ((wayN hs u p).map (up ms) = (wayN gs u p).map (up ms)) ↔ wayN hs u p = wayN gs u p :=
    ⟨fun e => map_inj_on o (fun x hx => wayN_le t.le hx) (fun x hx => by rw [hl]; exact wayN_le t'.le hx) e, fun e => by rw [e]⟩
  rw [e1]
  refine and_congr_right fun _ => ⟨fun h b hb => ?_, fun h c hc => ?_⟩
  · have := h (up ms b) (o.rg0 hb)
    rw [mem_called t o hp hb, mem_called t' o' hp' (by rw [← hl]; exact hb), call2_up o hb, call2_up o' (by rw [← hl]; exact hb)] at this
    exact ⟨this.1, fun hw => o.inj (up_le t.le b) (by rw [hl]; exact up_le t'.le b) (this.2 hw)⟩
  · obtain ⟨b, hb, rfl⟩ : ∃ b, b ≤ hs.length ∧ up ms b = c := by
      by_cases c0 : c = 0
      · exact ⟨0, by omega, c0.symm⟩
      · obtain ⟨k, _, k2, k3⟩ := o.surj (x := c) (by omega) hc
        exact ⟨k, k2, k3⟩
    rw [mem_called t o hp hb, mem_called t' o' hp' (by rw [← hl]; exact hb), call2_up o hb, call2_up o' (by rw [← hl]; exact hb)]
    have := h b hb
    exact ⟨this.1, fun hw => by rw [this.2 hw]⟩
theorem unlike_called {hs gs ms : List Nat} (t : IsTree hs) (t' : IsTree gs) (hl : hs.length = gs.length) (o : IsOrd hs.length ms) {u d : Nat} : ((unlikeN hs gs u d).map (up ms)).Perm (unlikeN (call2 hs ms) (call2 gs ms) u d) := by
  refine (List.perm_ext_iff_of_nodup ?_ ((unlike_sorted _ _ _ _).imp fun {a b} h => Nat.ne_of_lt h)).mpr fun c => ?_
  · refine List.pairwise_map.mpr ((List.Pairwise.and_mem.mp (unlike_sorted hs gs u d)).imp fun {a b} h e => ?_)
    have := o.inj (unlike_mem.mp h.1).1 (unlike_mem.mp h.2.1).1 e
    have := h.2.2
    omega
  · rw [List.mem_map, unlike_mem, call2_len]
    constructor
    · rintro ⟨p, hp, rfl⟩
      have := unlike_mem.mp hp
      exact ⟨o.rg0 this.1, by rw [telD_called t t' hl o this.1]; exact this.2⟩
    · rintro ⟨h1, h2⟩
      obtain ⟨b, hb, rfl⟩ : ∃ b, b ≤ hs.length ∧ up ms b = c := by
        by_cases c0 : c = 0
        · exact ⟨0, by omega, c0.symm⟩
        · obtain ⟨k, _, k2, k3⟩ := o.surj (x := c) (by omega) h1
          exact ⟨k, k2, k3⟩
      rw [telD_called t t' hl o hb] at h2
      exact ⟨b, unlike_mem.mpr ⟨hb, h2⟩, rfl⟩
end Fv
/-! the first fact, and twins -/
namespace Fv
def dist (u d : Nat) : Nat := (if 0 < d then d + 1 else 0) + if 0 < u then 1 else 0
theorem nodup_sub : ∀ {xs ys : List Nat}, xs.Nodup → (∀ x ∈ xs, x ∈ ys) → xs.length ≤ ys.length
  | [], _, _, _ => Nat.zero_le _
  | x :: xs, ys, hn, h => by
    have hx := h x List.mem_cons_self
    have hn2 := List.nodup_cons.mp hn
    have ih := nodup_sub (xs := xs) (ys := ys.erase x) hn2.2 fun z hz => by
      have hne : z ≠ x := fun e => hn2.1 (by rw [← e]; exact hz)
      exact (List.mem_erase_of_ne hne).mpr (h z (List.mem_cons_of_mem _ hz))
    rw [List.length_erase_of_mem hx] at ih
    have : 0 < ys.length := List.length_pos_of_mem hx
    rw [List.length_cons]
    omega
/-- those above a block that hangs otherwise tell so -/
theorem chain_apart {hs gs : List Nat} {u d b : Nat} (hb : b ≤ hs.length) (b0 : b ≠ 0) (ne : up hs b ≠ up gs b) (h0 : telD hs gs u d 0 = true) : ∀ i, i ≤ d → upN hs i b ≠ 0 ∧ (1 ≤ i → telD hs gs u d (upN hs i b) = false)
  | 0, _ => ⟨b0, fun h => absurd h (by omega)⟩
  | i + 1, hi => by
    have ih := (chain_apart hb b0 ne h0 i (by omega)).1
    have f : telD hs gs u d (upN hs (i + 1) b) = false := by
      refine Bool.eq_false_iff.mpr fun h => ?_
      have e := (telD_iff.mp h).2
      have m := (ties_mem (hs := hs) (d := d) (p := upN hs (i + 1) b) (x := (b, up hs b))).mpr ⟨hb, (way_mem _ _ _ _).mpr ⟨i, by omega, ih, rfl⟩, rfl⟩
      rw [e] at m
      exact ne (ties_mem.mp m).2.2
    refine ⟨fun z => ?_, fun _ => f⟩
    rw [z, h0] at f
    cases f
theorem up_inj_chain {hs : List Nat} (t : IsTree hs) {b i j : Nat} (hb : b ≤ hs.length) (hij : i < j) (nz : upN hs i b ≠ 0) : upN hs i b ≠ upN hs j b := fun e => by
  refine no_ring t (upN_le t.le i b hb) nz (m := j - i) (by omega) ?_
  rw [← upN_add, show i + (j - i) = j by omega]
  exact e.symm
theorem least_block {hs gs : List Nat} (t : IsTree hs) (hl : hs.length = gs.length) (ne : hs ≠ gs) : ∃ b, b ≤ hs.length ∧ b ≠ 0 ∧ up hs b ≠ up gs b ∧ ∀ i, 1 ≤ i → up hs (upN hs i b) = up gs (upN hs i b) := by
  have ex : ∃ b, 1 ≤ b ∧ b ≤ hs.length ∧ up hs b ≠ up gs b := by
    exact Classical.byContradiction fun h => ne (same_ups hl fun k h1 h2 => Classical.byContradiction fun h3 => h ⟨k, h1, h2, h3⟩)
  have go : ∀ j, (∃ b, 1 ≤ b ∧ b ≤ hs.length ∧ up hs b ≠ up gs b ∧ upN hs j b = 0) → ∃ b, b ≤ hs.length ∧ b ≠ 0 ∧ up hs b ≠ up gs b ∧ ∀ i, 1 ≤ i → up hs (upN hs i b) = up gs (upN hs i b) := by
    intro j
    induction j using Nat.strongRecOn with
    | ind j ih =>
      rintro ⟨b, b1, b2, b3, b4⟩
      by_cases h : ∃ i, 1 ≤ i ∧ up hs (upN hs i b) ≠ up gs (upN hs i b)
      · obtain ⟨i, i1, i2⟩ := h
        have nz : upN hs i b ≠ 0 := fun z => i2 (by rw [z]; rfl)
        have hij : i < j := Nat.lt_of_not_le fun hle => nz (upN_more b4 hle)
        refine ih (j - i) (by omega) ⟨upN hs i b, by omega, upN_le t.le i b b2, i2, ?_⟩
        rw [← upN_add, show i + (j - i) = j by omega]
        exact b4
      · exact ⟨b, b2, by omega, b3, fun i h1 => Classical.byContradiction fun h2 => h ⟨i, h1, h2⟩⟩
  obtain ⟨b, b1, b2, b3⟩ := ex
  exact go hs.length ⟨b, b1, b2, b3, t.comes b b2⟩
theorem same_chain {hs gs : List Nat} {x : Nat} (h : ∀ i, up hs (upN hs i x) = up gs (upN hs i x)) : ∀ i, upN gs i x = upN hs i x
  | 0 => rfl
  | i + 1 => by rw [upN_succ, upN_succ, same_chain h i, h i]
theorem first_fact {hs gs : List Nat} {u d : Nat} (t : IsTree hs) (t' : IsTree gs) (hl : hs.length = gs.length) (ne : hs ≠ gs) (h0 : telD hs gs u d 0 = true) : dist u d ≤ (unlikeN hs gs u d).length := by
  obtain ⟨b, hb, b0, hne, hup⟩ := least_block t hl ne
  have hb' : b ≤ gs.length := by rw [← hl]; exact hb
  have A := chain_apart hb b0 hne h0
  have C := chain_apart (hs := gs) (gs := hs) hb' b0 hne.symm (by rw [telD_comm]; exact h0)
  have memA : ∀ i, 1 ≤ i → i ≤ d → upN hs i b ∈ unlikeN hs gs u d := fun i h1 h2 => unlike_mem.mpr ⟨upN_le t.le i b hb, (A i h2).2 h1⟩
  have memC : ∀ i, 1 ≤ i → i ≤ d → upN gs i b ∈ unlikeN hs gs u d := fun i h1 h2 => unlike_mem.mpr ⟨by rw [hl]; exact upN_le t'.le i b hb', by rw [telD_comm]; exact (C i h2).2 h1⟩
  -- those of the ties
  have ties : ∃ L : List Nat, L.Nodup ∧ (∀ x ∈ L, x ∈ unlikeN hs gs u d) ∧ b ∉ L ∧ L.length = if 0 < d then d + 1 else 0 := by
    by_cases hd : 0 < d
    · have nodA : ((List.range d).map fun i => upN hs (i + 1) b).Nodup := by
        refine List.pairwise_map.mpr ((List.Pairwise.and_mem.mp (List.pairwise_lt_range (n := d))).imp fun {i j} h e => ?_)
        obtain ⟨hi, hj, hij⟩ := h
        rw [List.mem_range] at hi hj
        exact up_inj_chain t hb (show i + 1 < j + 1 by omega) (A (i + 1) (by omega)).1 e
      have inA : ∀ x ∈ (List.range d).map fun i => upN hs (i + 1) b, ∃ i, 1 ≤ i ∧ i ≤ d ∧ x = upN hs i b := fun x hx => by
        obtain ⟨i, hi, rfl⟩ := List.mem_map.mp hx
        rw [List.mem_range] at hi
        exact ⟨i + 1, by omega, by omega, rfl⟩
      have bA : ∀ i, 1 ≤ i → i ≤ d + 1 → b ≠ upN hs i b := fun i h1 h2 => up_inj_chain t hb (i := 0) (by omega) b0
      have key : ∃ e, e ∈ unlikeN hs gs u d ∧ e ∉ ((List.range d).map fun i => upN hs (i + 1) b) ∧ b ≠ e := by
        by_cases hc : up gs b ∈ (List.range d).map fun i => upN hs (i + 1) b
        · obtain ⟨j, j1, j2, ej⟩ := inA _ hc
          have j3 : 2 ≤ j := by
            refine Nat.lt_of_not_le fun h => hne ?_
            have : j = 1 := by omega
            subst this
            exact ej.symm
          have hch := same_chain (hs := hs) (gs := gs) (x := upN hs j b) fun i => by
            rw [← upN_add]
            exact hup (j + i) (by omega)
          have ee : upN hs (d + 1) b = upN gs (d + 2 - j) b := by
            have e1 : upN hs (d + 1) b = upN hs (d + 1 - j) (upN hs j b) := by rw [← upN_add, show j + (d + 1 - j) = d + 1 by omega]
            rw [e1, ← hch, ← ej, show d + 2 - j = 1 + (d + 1 - j) by omega, upN_add]
            rfl
          refine ⟨upN hs (d + 1) b, by rw [ee]; exact memC _ (by omega) (by omega), fun hx => ?_, bA (d + 1) (by omega) (by omega)⟩
          obtain ⟨i, i1, i2, ei⟩ := inA _ hx
          exact up_inj_chain t hb (show i < d + 1 by omega) (A i i2).1 ei.symm
        · refine ⟨up gs b, memC 1 (by omega) hd, hc, fun e => ?_⟩
          exact no_ring t' hb' b0 (m := 1) (by omega) e.symm
      obtain ⟨e, e1, e2, e3⟩ := key
      refine ⟨e :: (List.range d).map fun i => upN hs (i + 1) b, List.nodup_cons.mpr ⟨e2, nodA⟩, fun x hx => ?_, fun hx => ?_, ?_⟩
      · rcases List.mem_cons.mp hx with rfl | hx
        · exact e1
        · obtain ⟨i, i1, i2, rfl⟩ := inA x hx
          exact memA i i1 i2
      · rcases List.mem_cons.mp hx with h | hx
        · exact e3 h
        · obtain ⟨i, i1, i2, ei⟩ := inA b hx
          exact bA i i1 (by omega) ei
      · rw [if_pos hd, List.length_cons, List.length_map, List.length_range]
    · exact ⟨[], List.Pairwise.nil, (fun x h => by cases h), (fun h => by cases h), by rw [if_neg hd]; rfl⟩
  obtain ⟨L, l1, l2, l3, l4⟩ := ties
  unfold dist
  rw [← l4]
  by_cases hu : 0 < u
  · rw [if_pos hu]
    have mb : b ∈ unlikeN hs gs u d := by
      refine unlike_mem.mpr ⟨hb, Bool.eq_false_iff.mpr fun h => ?_⟩
      have e := (telD_iff.mp h).1
      obtain ⟨u, rfl⟩ : ∃ u', u = u' + 1 := ⟨u - 1, by omega⟩
      rw [wayN_cons _ _ b0, wayN_cons _ _ b0] at e
      exact hne (List.cons.inj e).1
    have := nodup_sub (xs := b :: L) (ys := unlikeN hs gs u d) (List.nodup_cons.mpr ⟨l3, l1⟩) fun x hx => by
      rcases List.mem_cons.mp hx with rfl | hx
      · exact mb
      · exact l2 x hx
    rwa [List.length_cons] at this
  · rw [if_neg hu]
    exact nodup_sub l1 l2
/-! twins: a row of d + 1, and one block more under its last but one, or its last -/
def twin (n d y : Nat) : List Nat := List.range (d + 1) ++ y :: List.replicate (n - d - 2) 0
theorem twin_len {n d y : Nat} (h : d + 2 ≤ n) : (twin n d y).length = n := by
  unfold twin
  rw [List.length_append, List.length_range, List.length_cons, List.length_replicate]
  omega
theorem twin_up {n d y : Nat} (h : d + 2 ≤ n) (k : Nat) : up (twin n d y) k = if k ≤ d + 1 then k - 1 else if k = d + 2 then y else 0 := by
  by_cases h0 : k = 0
  · subst h0
    rw [if_pos (by omega)]
    rfl
  · unfold up
    rw [if_neg h0, List.getD_eq_getElem?_getD]
    unfold twin
    by_cases h1 : k ≤ d + 1
    · rw [if_pos h1, List.getElem?_append_left (by rw [List.length_range]; omega), List.getElem?_range (by omega)]
      rfl
    · rw [if_neg h1, List.getElem?_append_right (by rw [List.length_range]; omega), List.length_range]
      by_cases h2 : k = d + 2
      · subst h2
        rw [if_pos rfl, show d + 2 - 1 - (d + 1) = 0 by omega]
        rfl
      · rw [if_neg h2, show k - 1 - (d + 1) = (k - d - 3) + 1 by omega, List.getElem?_cons_succ, List.getElem?_replicate]
        split <;> rfl
theorem twin_row {n d y : Nat} (h : d + 2 ≤ n) {k : Nat} (hk : k ≤ d + 1) : ∀ j, upN (twin n d y) j k = k - j
  | 0 => rfl
  | j + 1 => by rw [upN_succ, twin_row h hk j, twin_up h, if_pos (by omega)]; omega
theorem twin_last {n d y : Nat} (h : d + 2 ≤ n) (hy : y ≤ d + 1) (j : Nat) : upN (twin n d y) (j + 1) (d + 2) = y - j := by
  show upN (twin n d y) j (up (twin n d y) (d + 2)) = _
  rw [twin_up h, if_neg (by omega), if_pos rfl, twin_row h hy]
theorem twin_rest {n d y k : Nat} (h : d + 2 ≤ n) (hk : d + 2 < k) : up (twin n d y) k = 0 := by
  rw [twin_up h, if_neg (by omega), if_neg (by omega)]
theorem twin_tree {n d y : Nat} (h : d + 2 ≤ n) (hn : n ≤ 40) (hy : y ≤ d + 1) : IsTree (twin n d y) := by
  have hle : ∀ x ∈ twin n d y, x ≤ (twin n d y).length := fun x hx => by
    rw [twin_len h]
    unfold twin at hx
    rcases List.mem_append.mp hx with hx | hx
    · rw [List.mem_range] at hx
      omega
    · rcases List.mem_cons.mp hx with rfl | hx
      · omega
      · rw [(List.mem_replicate.mp hx).2]
        exact Nat.zero_le _
  refine ⟨by rw [twin_len h]; omega, by rw [twin_len h]; exact hn, hle, fun k hk => ?_⟩
  by_cases h1 : k ≤ d + 1
  · exact comes_by (j := k) hle hk (by rw [twin_row h h1]; omega)
  · by_cases h2 : k = d + 2
    · subst h2
      exact comes_by (j := d + 1 + 1) hle hk (by rw [twin_last h hy]; omega)
    · exact comes_by (j := 1) hle hk (twin_rest h (by omega))
theorem twin_ne {n d : Nat} (h : d + 2 ≤ n) : twin n d d ≠ twin n d (d + 1) := fun e => by
  have a := twin_up (y := d) h (d + 2)
  have b := twin_up (y := d + 1) h (d + 2)
  rw [if_neg (by omega), if_pos rfl] at a b
  rw [e, b] at a
  omega
/-- but the last but one, all hang alike -/
theorem twin_alike {n d k : Nat} (h : d + 2 ≤ n) (hk : k ≠ d + 2) : up (twin n d d) k = up (twin n d (d + 1)) k := by
  rw [twin_up h, twin_up h, if_neg hk, if_neg hk]
theorem twin_up_ne {n d y : Nat} (h : d + 2 ≤ n) (hy : y ≤ d + 1) (k : Nat) : up (twin n d y) k ≠ d + 2 := by
  rw [twin_up h]
  split
  · omega
  · split <;> omega
theorem twin_way {n d : Nat} (h : d + 2 ≤ n) : ∀ m k, k ≠ d + 2 → wayN (twin n d d) m k = wayN (twin n d (d + 1)) m k
  | 0, _, _ => rfl
  | m + 1, k, hk => by
    by_cases h0 : k = 0
    · rw [h0, wayN_nil, wayN_nil]
    · rw [wayN_cons _ _ h0, wayN_cons _ _ h0, ← twin_alike h hk, twin_way h m _ (twin_up_ne h (by omega) k)]
theorem twin_last_way {n d y m p : Nat} (h : d + 2 ≤ n) (hy : y ≤ d + 1) (hm : m ≤ y) : p ∈ wayN (twin n d y) m (d + 2) ↔ p ≤ y ∧ y < p + m := by
  rw [way_mem]
  constructor
  · rintro ⟨j, h1, h2, h3⟩
    rw [twin_last h hy] at h3
    omega
  · rintro ⟨h1, h2⟩
    refine ⟨y - p, by omega, ?_, by rw [twin_last h hy]; omega⟩
    cases e : y - p with
    | zero =>
      show d + 2 ≠ 0
      omega
    | succ j =>
      rw [twin_last h hy]
      omega
theorem twin_tel {n d u p : Nat} (h : d + 2 ≤ n) : telD (twin n d d) (twin n d (d + 1)) u d p = true ↔ ¬ ((0 < d ∧ 1 ≤ p ∧ p ≤ d + 1) ∨ (0 < u ∧ p = d + 2)) := by
  rw [telD_iff, ties_eq (by rw [twin_len h, twin_len h]), twin_len h]
  have up1 : up (twin n d d) (d + 2) = d := by rw [twin_up h, if_neg (by omega), if_pos rfl]
  have up2 : up (twin n d (d + 1)) (d + 2) = d + 1 := by rw [twin_up h, if_neg (by omega), if_pos rfl]
  have w1 := twin_last_way (n := n) (y := d) (m := d) (p := p) h (by omega) (by omega)
  have w2 := twin_last_way (n := n) (y := d + 1) (m := d) (p := p) h (by omega) (by omega)
  constructor
  · rintro ⟨e1, e2⟩ (⟨k1, k2, k3⟩ | ⟨k1, rfl⟩)
    · obtain ⟨f1, f2⟩ := e2 (d + 2) h
      rw [w1, w2] at f1
      rw [w1, up1, up2] at f2
      by_cases hp : p ≤ d
      · have := f2 ⟨hp, by omega⟩
        omega
      · have := f1.mpr ⟨by omega, by omega⟩
        omega
    · obtain ⟨u, rfl⟩ : ∃ u', u = u' + 1 := ⟨u - 1, by omega⟩
      rw [wayN_cons _ _ (by omega), wayN_cons _ _ (by omega), up1, up2] at e1
      have := (List.cons.inj e1).1
      omega
  · intro hn
    refine ⟨?_, fun b hb => ?_⟩
    · by_cases hp : p = d + 2
      · have u0 : u = 0 := by
          refine Nat.eq_zero_of_not_pos fun hu => hn (.inr ⟨hu, hp⟩)
        rw [u0]
        rfl
      · exact twin_way h u p hp
    · by_cases hb2 : b = d + 2
      · subst hb2
        rw [w1, w2]
        have : ¬ (0 < d ∧ 1 ≤ p ∧ p ≤ d + 1) := fun z => hn (.inl z)
        constructor
        · omega
        · intro z
          omega
      · rw [twin_way h d b hb2, twin_alike h hb2]
        exact ⟨Iff.rfl, fun _ => rfl⟩
theorem twin_unlike {n d u : Nat} (h : d + 2 ≤ n) : (unlikeN (twin n d d) (twin n d (d + 1)) u d).length = dist u d := by
  have e : (unlikeN (twin n d d) (twin n d (d + 1)) u d).Perm (List.range' 1 (if 0 < d then d + 1 else 0) ++ if 0 < u then [d + 2] else []) := by
    refine (List.perm_ext_iff_of_nodup ((unlike_sorted _ _ _ _).imp fun {a b} h => Nat.ne_of_lt h) ?_).mpr fun p => ?_
    · refine List.nodup_append.mpr ⟨List.nodup_range', ?_, fun x hx y hy e => ?_⟩
      · split
        · exact List.pairwise_singleton _ _
        · exact List.Pairwise.nil
      · have h1 := List.mem_range'_1.mp hx
        split at hy
        · have h2 := List.mem_singleton.mp hy
          split at h1 <;> omega
        · cases hy
    · rw [unlike_mem, twin_len h, List.mem_append, List.mem_range'_1]
      have k := twin_tel (u := u) (p := p) h
      rw [← Bool.not_eq_true, k, Decidable.not_not]
      by_cases hd : 0 < d
      · by_cases hu : 0 < u
        · rw [if_pos hd, if_pos hu, List.mem_singleton]
          omega
        · rw [if_pos hd, if_neg hu]
          simp only [List.not_mem_nil, or_false]
          omega
      · by_cases hu : 0 < u
        · rw [if_neg hd, if_pos hu, List.mem_singleton]
          omega
        · rw [if_neg hd, if_neg hu]
          simp only [List.not_mem_nil, or_false]
          omega
  rw [e.length_eq, List.length_append, List.length_range']
  unfold dist
  congr 1
  split <;> rfl
theorem twin_head {n d u : Nat} (h : d + 2 ≤ n) : telD (twin n d d) (twin n d (d + 1)) u d 0 = true := (twin_tel h).mpr (by omega)
end Fv
/-! all trees of so many blocks, and all pairs of them -/
namespace Fv
def rowsN (n : Nat) : Nat → List (List Nat)
  | 0 => [[]]
  | b + 1 => (rowsN n b).flatMap fun r => ((List.range (n + 1)).filter fun p => decide (p ≠ b + 1)).map fun p => r ++ [p]
def isT (hs : List Nat) : Bool := (List.range' 1 hs.length).all fun k => decide (upN hs hs.length k = 0)
def allTrees (n : Nat) : List (List Nat) := (rowsN n n).filter isT
theorem rows_mem (n : Nat) : ∀ b (r : List Nat), r ∈ rowsN n b ↔ r.length = b ∧ ∀ (i x : Nat), r[i]? = some x → x ≤ n ∧ x ≠ i + 1
  | 0, r => by
    show r ∈ [[]] ↔ _
    rw [List.mem_singleton]
    constructor
    · rintro rfl
      exact ⟨rfl, fun i x h => by cases h⟩
    · exact fun h => List.eq_nil_of_length_eq_zero h.1
  | b + 1, r => by
    show r ∈ (rowsN n b).flatMap _ ↔ _
    rw [List.mem_flatMap]
    constructor
    · rintro ⟨s, hs, hr⟩
      obtain ⟨p, hp, rfl⟩ := List.mem_map.mp hr
      obtain ⟨l1, l2⟩ := (rows_mem n b s).mp hs
      rw [List.mem_filter, List.mem_range, decide_eq_true_eq] at hp
      refine ⟨by rw [List.length_append, l1]; rfl, fun i x h => ?_⟩
      by_cases hi : i < s.length
      · rw [List.getElem?_append_left hi] at h
        exact l2 i x h
      · have hl := (List.getElem?_eq_some_iff.mp h).1
        rw [List.length_append] at hl
        have hl : i < s.length + 1 := hl
        have e : i = s.length := by omega
        subst e
        rw [List.getElem?_append_right (Nat.le_refl _), Nat.sub_self] at h
        have e2 : p = x := Option.some.inj h
        subst e2
        rw [l1]
        exact ⟨by omega, hp.2⟩
    · rintro ⟨l1, l2⟩
      have hne : r ≠ [] := fun e => by
        rw [e] at l1
        cases l1
      have hd := List.dropLast_concat_getLast hne
      have ll : r.dropLast.length = b := by rw [List.length_dropLast, l1]; rfl
      have hlast : r[b]? = some (r.getLast hne) := by
        rw [List.getLast_eq_getElem, ← List.getElem?_eq_getElem]
        congr 1
        omega
      refine ⟨r.dropLast, (rows_mem n b _).mpr ⟨ll, fun i x h => ?_⟩, List.mem_map.mpr ⟨r.getLast hne, ?_, hd⟩⟩
      · have hi := (List.getElem?_eq_some_iff.mp h).1
        refine l2 i x ?_
        rw [← hd, List.getElem?_append_left hi]
        exact h
      · rw [List.mem_filter, List.mem_range, decide_eq_true_eq]
        have := l2 b _ hlast
        exact ⟨by omega, this.2⟩
theorem rows_nodup (n : Nat) : ∀ b, (rowsN n b).Nodup
  | 0 => List.pairwise_singleton _ _
  | b + 1 => by
    show ((rowsN n b).flatMap _).Nodup
    refine List.pairwise_flatMap.mpr ⟨fun r _ => ?_, (rows_nodup n b).imp fun {r s} hrs x hx y hy e => hrs ?_⟩
    · refine List.pairwise_map.mpr ((List.Pairwise.filter _ (List.nodup_range (n := n + 1))).imp fun {p q} hpq e => hpq ?_)
      have := List.append_cancel_left e
      exact (List.cons.inj this).1
    · obtain ⟨p, _, rfl⟩ := List.mem_map.mp hx
      obtain ⟨q, _, rfl⟩ := List.mem_map.mp hy
      exact (List.append_inj' e rfl).1
theorem rows_len (n : Nat) : ∀ b, (rowsN n b).length ≤ (n + 1) ^ b
  | 0 => Nat.le_refl _
  | b + 1 => by
    show ((rowsN n b).flatMap _).length ≤ _
    rw [List.length_flatMap]
    have h : ∀ m : List (List Nat), (m.map fun r => (((List.range (n + 1)).filter fun p => decide (p ≠ b + 1)).map fun p => r ++ [p]).length).sum ≤ m.length * (n + 1) := fun m => by
      induction m with
      | nil => exact Nat.zero_le _
      | cons r m ih =>
        rw [List.map_cons, List.sum_cons, List.length_map, List.length_cons, Nat.add_mul, Nat.one_mul]
        have := List.length_filter_le (fun p => decide (p ≠ b + 1)) (List.range (n + 1))
        rw [List.length_range] at this
        omega
    refine Nat.le_trans (h _) ?_
    rw [Nat.pow_succ]
    exact Nat.mul_le_mul_right _ (rows_len n b)
theorem all_mem {n : Nat} (h1 : 1 ≤ n) (h2 : n ≤ 40) {hs : List Nat} : hs ∈ allTrees n ↔ hs.length = n ∧ IsTree hs := by
  unfold allTrees
  rw [List.mem_filter, rows_mem]
  unfold isT
  rw [List.all_eq_true]
  constructor
  · rintro ⟨⟨l1, l2⟩, c⟩
    have hle : ∀ x ∈ hs, x ≤ hs.length := fun x hx => by
      obtain ⟨i, hi, e⟩ := List.getElem_of_mem hx
      rw [l1]
      exact (l2 i x (by rw [List.getElem?_eq_getElem hi, e])).1
    refine ⟨l1, by omega, by omega, hle, fun k hk => ?_⟩
    by_cases h0 : k = 0
    · rw [h0]
      exact upN_zero hs _
    · exact of_decide_eq_true (c k (List.mem_range'_1.mpr (by omega)))
  · rintro ⟨l1, t⟩
    refine ⟨⟨l1, fun i x hx => ⟨?_, fun e => ?_⟩⟩, fun k hk => decide_eq_true (t.comes k (by have := List.mem_range'_1.mp hk; omega))⟩
    · rw [← l1]
      exact t.le x (List.mem_of_getElem? hx)
    · have hi := (List.getElem?_eq_some_iff.mp hx).1
      refine no_ring t (k := i + 1) (m := 1) (by omega) (by omega) (by omega) ?_
      show up hs (i + 1) = i + 1
      rw [up_at (by omega) (by rw [Nat.add_sub_cancel]; exact hx), e]
theorem all_nodup (n : Nat) : (allTrees n).Nodup := List.Pairwise.filter _ (rows_nodup n n)
theorem all_len (n : Nat) : (allTrees n).length ≤ (n + 1) ^ n := Nat.le_trans (List.length_filter_le _ _) (rows_len n n)
/-- how many tell otherwise, for all pairs whose heads tell alike -/
def foundI (T : List (List Nat)) (u d i : Nat) : List Nat := ((List.range i).filter fun j => telD (T.getD j []) (T.getD i []) u d 0).map fun j => (unlikeN (T.getD i []) (T.getD j []) u d).length
def foundN (T : List (List Nat)) (u d i : Nat) : List Nat := (List.range i).flatMap fun k => foundI T u d k
theorem foundN_succ (T : List (List Nat)) (u d i : Nat) : foundN T u d (i + 1) = foundN T u d i ++ foundI T u d i := by
  unfold foundN
  rw [List.range_succ, List.flatMap_append]
  simp
theorem foundI_len (T : List (List Nat)) (u d i : Nat) : (foundI T u d i).length ≤ i := by
  unfold foundI
  rw [List.length_map]
  refine Nat.le_trans (List.length_filter_le _ _) ?_
  rw [List.length_range]
  exact Nat.le_refl _
theorem foundN_len (T : List (List Nat)) (u d : Nat) : ∀ i, (foundN T u d i).length ≤ i * i
  | 0 => Nat.le_refl _
  | i + 1 => by
    rw [foundN_succ, List.length_append]
    have := foundN_len T u d i
    have := foundI_len T u d i
    have e : (i + 1) * (i + 1) = i * i + i + i + 1 := by rw [Nat.add_mul, Nat.mul_add]; omega
    omega
theorem found_mem {T : List (List Nat)} {u d m x : Nat} : x ∈ foundN T u d m ↔ ∃ i j, j < i ∧ i < m ∧ telD (T.getD j []) (T.getD i []) u d 0 = true ∧ x = (unlikeN (T.getD i []) (T.getD j []) u d).length := by
  unfold foundN foundI
  rw [List.mem_flatMap]
  constructor
  · rintro ⟨i, hi, hx⟩
    obtain ⟨j, hj, rfl⟩ := List.mem_map.mp hx
    rw [List.mem_filter, List.mem_range] at hj
    exact ⟨i, j, hj.1, List.mem_range.mp hi, hj.2, rfl⟩
  · rintro ⟨i, j, h1, h2, h3, rfl⟩
    exact ⟨i, List.mem_range.mpr h2, List.mem_map.mpr ⟨j, List.mem_filter.mpr ⟨List.mem_range.mpr h1, h3⟩, rfl⟩⟩
theorem getD_mem {T : List (List Nat)} {i : Nat} (h : i < T.length) : T.getD i [] ∈ T := by
  rw [List.getD_eq_getElem?_getD, List.getElem?_eq_getElem h]
  exact List.getElem_mem h
theorem found_least {n u d x : Nat} (h1 : 1 ≤ n) (h2 : n ≤ 40) (hx : x ∈ foundN (allTrees n) u d (allTrees n).length) : dist u d ≤ x := by
  obtain ⟨i, j, hij, hi, ht, rfl⟩ := found_mem.mp hx
  have mi := (all_mem h1 h2).mp (getD_mem hi)
  have mj := (all_mem h1 h2).mp (getD_mem (show j < (allTrees n).length by omega))
  refine first_fact mi.2 mj.2 (by rw [mi.1, mj.1]) (fun e => ?_) (by rw [telD_comm]; exact ht)
  rw [List.getD_eq_getElem?_getD, List.getD_eq_getElem?_getD, List.getElem?_eq_getElem hi, List.getElem?_eq_getElem (show j < (allTrees n).length by omega)] at e
  have := (List.getElem_inj (h₀ := hi) (h₁ := show j < (allTrees n).length by omega) (all_nodup n)).mp e
  omega
theorem found_twins {n u d : Nat} (h2 : n ≤ 40) (h : d + 2 ≤ n) : dist u d ∈ foundN (allTrees n) u d (allTrees n).length := by
  have h1 : 1 ≤ n := by omega
  have ma := (all_mem h1 h2).mpr ⟨twin_len (y := d) h, twin_tree h h2 (by omega)⟩
  have mb := (all_mem h1 h2).mpr ⟨twin_len (y := d + 1) h, twin_tree h h2 (by omega)⟩
  obtain ⟨a, ha, ea⟩ := List.getElem_of_mem ma
  obtain ⟨b, hb, eb⟩ := List.getElem_of_mem mb
  have ga : (allTrees n).getD a [] = twin n d d := by
    rw [List.getD_eq_getElem?_getD, List.getElem?_eq_getElem ha]
    exact ea
  have gb : (allTrees n).getD b [] = twin n d (d + 1) := by
    rw [List.getD_eq_getElem?_getD, List.getElem?_eq_getElem hb]
    exact eb
  rcases Nat.lt_trichotomy a b with hab | hab | hab
  · refine found_mem.mpr ⟨b, a, hab, hb, by rw [ga, gb]; exact twin_head h, ?_⟩
    rw [ga, gb, unlike_comm (by rw [twin_len h, twin_len h]), twin_unlike h]
  · subst hab
    rw [ga] at gb
    exact (twin_ne h gb).elim
  · refine found_mem.mpr ⟨a, b, hab, ha, by rw [ga, gb, telD_comm]; exact twin_head h, ?_⟩
    rw [ga, gb, twin_unlike h]
end Fv
/-! words of places; nothing of the program here -/
namespace Fv
/-- the words of n blocks -/
structure WdOk (n : Nat) (us : List (Option Nat)) (ls : List (List (Option Bool))) : Prop where
  n1 : 1 ≤ n
  n2 : n ≤ 40
  ul : us.length = n
  uo : ∀ b q, us[b]? = some (some q) → q ≤ n ∧ q ≠ b + 1
  ll : ls.length = n + 1
  rl : ∀ r ∈ ls, r.length = n
  dg : ∀ p r, ls[p]? = some r → 1 ≤ p → r[p - 1]? = some (some false)
def up1 (us : List (Option Nat)) (b p : Nat) : Nat := match us[b - 1]? with
  | some (some q) => if q = p then 0 else 1
  | _ => 0
/-- what the places say of this block -/
def col (ls : List (List (Option Bool))) (b : Nat) : List (Option Bool) := ls.map fun r => (r[b - 1]?).getD none
def wr1 (o p : Nat) : Option Bool → Nat
  | none => 0
  | some f => if f = decide (o = p) then 0 else 1
def sumW (p : Nat) : Nat → List (Option Bool) → Nat
  | _, [] => 0
  | o, f :: r => wr1 o p f + sumW p (o + 1) r
def costN (us : List (Option Nat)) (ls : List (List (Option Bool))) (b p : Nat) : Nat := up1 us b p + sumW p 0 (col ls b)
def trueN (c : List (Option Bool)) : Nat := c.count (some true)
theorem sumW_off (p : Nat) : ∀ (o : Nat) (c : List (Option Bool)), p < o → sumW p o c = trueN c
  | _, [], _ => rfl
  | o, f :: r, h => by
    have ih := sumW_off p (o + 1) r (by omega)
    have e : decide (o = p) = false := decide_eq_false (by omega)
    unfold sumW trueN
    rw [ih, List.count_cons]
    unfold trueN
    cases f with
    | none => simp [wr1]
    | some b => cases b <;> simp [wr1, e] <;> omega
theorem sumW_at (p : Nat) : ∀ (o : Nat) (c : List (Option Bool)), o ≤ p → p < o + c.length → sumW p o c + (if c[p - o]? = some (some true) then 1 else 0) = trueN c + (if c[p - o]? = some (some false) then 1 else 0)
  | o, [], h1, h2 => by
    rw [List.length_nil] at h2
    omega
  | o, f :: r, h1, h2 => by
    rw [List.length_cons] at h2
    by_cases e : o = p
    · subst e
      have ih := sumW_off o (o + 1) r (by omega)
      rw [Nat.sub_self]
      unfold sumW
      rw [ih]
      unfold trueN
      rw [List.count_cons]
      cases f with
      | none => simp [wr1]
      | some b => cases b <;> simp [wr1] <;> omega
    · have ih := sumW_at p (o + 1) r (by omega) (by omega)
      have e1 : p - o = (p - (o + 1)) + 1 := by omega
      rw [e1, List.getElem?_cons_succ]
      unfold sumW
      have e2 : trueN (f :: r) = trueN r + (if f = some true then 1 else 0) := by
        unfold trueN
        rw [List.count_cons]
        congr 1
        cases f with
        | none => rfl
        | some b => cases b <;> rfl
      have e3 : wr1 o p f = (if f = some true then 1 else 0) := by
        have e : decide (o = p) = false := decide_eq_false e
        cases f with
        | none => simp [wr1]
        | some b => cases b <;> simp [wr1, e]
      omega
theorem sumW_app (p : Nat) : ∀ (o : Nat) (c d : List (Option Bool)), sumW p o (c ++ d) = sumW p o c + sumW p (o + c.length) d
  | o, [], d => by simp [sumW]
  | o, f :: r, d => by
    have ih := sumW_app p (o + 1) r d
    show wr1 o p f + sumW p (o + 1) (r ++ d) = wr1 o p f + sumW p (o + 1) r + _
    rw [ih, List.length_cons, show o + 1 + r.length = o + (r.length + 1) by omega]
    omega
theorem wr1_le (o p : Nat) (f : Option Bool) : wr1 o p f ≤ 1 := by
  unfold wr1
  split
  · omega
  · split <;> omega
theorem sumW_le (p : Nat) : ∀ (o : Nat) (c : List (Option Bool)), sumW p o c ≤ c.length
  | _, [] => Nat.le_refl _
  | o, f :: r => by
    have ih := sumW_le p (o + 1) r
    have := wr1_le o p f
    unfold sumW
    rw [List.length_cons]
    omega
theorem up1_le (us : List (Option Nat)) (b p : Nat) : up1 us b p ≤ 1 := by
  unfold up1
  split
  · split <;> omega
  · omega
theorem col_len (ls : List (List (Option Bool))) (b : Nat) : (col ls b).length = ls.length := by
  unfold col
  rw [List.length_map]
theorem costN_le (us : List (Option Nat)) (ls : List (List (Option Bool))) (b p : Nat) : costN us ls b p ≤ ls.length + 1 := by
  have := up1_le us b p
  have := sumW_le p 0 (col ls b)
  rw [col_len] at this
  unfold costN
  omega
/-- what the program reckons -/
theorem cost_is {us : List (Option Nat)} {ls : List (List (Option Bool))} {b p : Nat} (hp : p < ls.length) : costN us ls b p + (if (col ls b)[p]? = some (some true) then 1 else 0) = trueN (col ls b) + (if (col ls b)[p]? = some (some false) then 1 else 0) + up1 us b p := by
  have := sumW_at p 0 (col ls b) (by omega) (by rw [col_len]; omega)
  rw [Nat.sub_zero] at this
  unfold costN
  omega
/-- a tree's right words -/
def rightL (hs : List Nat) : List (List (Option Bool)) := (List.range (hs.length + 1)).map fun p => hs.map fun h => some (decide (h = p))
def rightU (hs : List Nat) : List (Option Nat) := hs.map some
theorem rightL_len (hs : List Nat) : (rightL hs).length = hs.length + 1 := by
  unfold rightL
  rw [List.length_map, List.length_range]
theorem rightL_get {hs : List Nat} {p : Nat} (h : p ≤ hs.length) : (rightL hs)[p]? = some (hs.map fun h => some (decide (h = p))) := by
  unfold rightL
  rw [List.getElem?_map, List.getElem?_range (by omega)]
  rfl
theorem right_ok {hs : List Nat} (t : IsTree hs) : WdOk hs.length (rightU hs) (rightL hs) where
  n1 := t.pos
  n2 := t.most
  ul := by
    unfold rightU
    rw [List.length_map]
  uo := fun b q h => by
    unfold rightU at h
    rw [List.getElem?_map] at h
    cases e : hs[b]? with
    | none =>
      rw [e] at h
      cases h
    | some c =>
      rw [e] at h
      have : c = q := Option.some.inj (Option.some.inj h)
      subst this
      refine ⟨t.le c (List.mem_of_getElem? e), fun z => ?_⟩
      subst z
      have hb := (List.getElem?_eq_some_iff.mp e).1
      have eu : up hs (b + 1) = b + 1 := by
        unfold up
        rw [if_neg (by omega), List.getD_eq_getElem?_getD, Nat.add_sub_cancel, e]
        rfl
      have : ∀ j, upN hs j (b + 1) = b + 1 := fun j => by
        induction j with
        | zero => rfl
        | succ j ih =>
          show upN hs j (up hs (b + 1)) = b + 1
          rw [eu, ih]
      have h2 := t.comes (b + 1) (by omega)
      rw [this] at h2
      omega
  ll := rightL_len hs
  rl := fun r hr => by
    unfold rightL at hr
    obtain ⟨p, _, rfl⟩ := List.mem_map.mp hr
    rw [List.length_map]
  dg := fun p r h h1 => by
    have hp := (List.getElem?_eq_some_iff.mp h).1
    rw [rightL_len] at hp
    rw [rightL_get (by omega)] at h
    cases h
    have hb : p - 1 < hs.length := by omega
    rw [List.getElem?_map, List.getElem?_eq_getElem hb]
    show some (some _) = _
    congr 2
    refine decide_eq_false fun z => ?_
    have eu : up hs p = p := by
      unfold up
      rw [if_neg (by omega), List.getD_eq_getElem?_getD, List.getElem?_eq_getElem hb]
      exact z
    have : ∀ j, upN hs j p = p := fun j => by
      induction j with
      | zero => rfl
      | succ j ih =>
        show upN hs j (up hs p) = p
        rw [eu, ih]
    have h2 := t.comes p (by omega)
    rw [this] at h2
    omega
theorem right_col {hs : List Nat} {b : Nat} (b1 : 1 ≤ b) (b2 : b ≤ hs.length) : col (rightL hs) b = (List.range (hs.length + 1)).map fun p => some (decide (up hs b = p)) := by
  unfold col rightL
  rw [List.map_map]
  refine List.map_congr_left fun p _ => ?_
  show (((hs.map fun h => some (decide (h = p)))[b - 1]?).getD none) = _
  have hb : b - 1 < hs.length := by omega
  rw [List.getElem?_map, List.getElem?_eq_getElem hb]
  show some (decide (hs[b - 1] = p)) = _
  have : up hs b = hs[b - 1] := by
    unfold up
    rw [if_neg (by omega), List.getD_eq_getElem?_getD, List.getElem?_eq_getElem hb]
    rfl
  rw [this]
theorem sumW_range (u p : Nat) : ∀ (k o : Nat), sumW p o ((List.range' o k).map fun q => some (decide (u = q))) = if u = p then 0 else (if o ≤ u ∧ u < o + k then 1 else 0) + (if o ≤ p ∧ p < o + k then 1 else 0)
  | 0, o => by
    have h1 : ¬ (o ≤ u ∧ u < o + 0) := by omega
    have h2 : ¬ (o ≤ p ∧ p < o + 0) := by omega
    rw [if_neg h1, if_neg h2]
    simp [sumW]
  | k + 1, o => by
    have ih := sumW_range u p k (o + 1)
    rw [List.range'_succ, List.map_cons]
    unfold sumW
    rw [ih]
    by_cases e : u = p
    · subst e
      have : wr1 o u (some (decide (u = o))) = 0 := by
        unfold wr1
        have : decide (u = o) = decide (o = u) := by
          rw [decide_eq_decide]
          exact eq_comm
        exact if_pos this
      rw [this, if_pos rfl, if_pos rfl]
    · rw [if_neg e, if_neg e]
      by_cases e1 : u = o
      · have e2 : ¬ o = p := by omega
        have : wr1 o p (some (decide (u = o))) = 1 := by
          unfold wr1
          rw [decide_eq_true e1, decide_eq_false e2]
          rfl
        rw [this, if_neg (c := o + 1 ≤ u ∧ u < o + 1 + k) (by omega), if_pos (c := o ≤ u ∧ u < o + (k + 1)) (by omega)]
        by_cases e3 : o + 1 ≤ p ∧ p < o + 1 + k
        · rw [if_pos e3, if_pos (by omega)]
        · rw [if_neg e3, if_neg (by omega)]
      · by_cases e2 : o = p
        · have : wr1 o p (some (decide (u = o))) = 1 := by
            unfold wr1
            rw [decide_eq_false e1, decide_eq_true e2]
            rfl
          rw [this, if_neg (c := o + 1 ≤ p ∧ p < o + 1 + k) (by omega), if_pos (c := o ≤ p ∧ p < o + (k + 1)) (by omega)]
          by_cases e3 : o + 1 ≤ u ∧ u < o + 1 + k
          · rw [if_pos e3, if_pos (by omega)]
          · rw [if_neg e3, if_neg (by omega)]
        · have : wr1 o p (some (decide (u = o))) = 0 := by
            unfold wr1
            rw [decide_eq_false e1, decide_eq_false e2]
            rfl
          rw [this]
          by_cases e3 : o + 1 ≤ u ∧ u < o + 1 + k
          · rw [if_pos e3, if_pos (c := o ≤ u ∧ u < o + (k + 1)) (by omega)]
            by_cases e4 : o + 1 ≤ p ∧ p < o + 1 + k
            · rw [if_pos e4, if_pos (by omega)]
            · rw [if_neg e4, if_neg (by omega)]
          · rw [if_neg e3, if_neg (c := o ≤ u ∧ u < o + (k + 1)) (by omega)]
            by_cases e4 : o + 1 ≤ p ∧ p < o + 1 + k
            · rw [if_pos e4, if_pos (by omega)]
            · rw [if_neg e4, if_neg (by omega)]
/-- three words are wrong, or none -/
theorem right_cost {hs : List Nat} (t : IsTree hs) {b p : Nat} (b1 : 1 ≤ b) (b2 : b ≤ hs.length) (hp : p ≤ hs.length) : costN (rightU hs) (rightL hs) b p = if up hs b = p then 0 else 3 := by
  unfold costN
  have hb : b - 1 < hs.length := by omega
  have eu : up hs b = hs[b - 1] := by
    unfold up
    rw [if_neg (by omega), List.getD_eq_getElem?_getD, List.getElem?_eq_getElem hb]
    rfl
  have hu : up hs b ≤ hs.length := by
    rw [eu]
    exact t.le _ (List.getElem_mem hb)
  have e1 : up1 (rightU hs) b p = if up hs b = p then 0 else 1 := by
    unfold up1 rightU
    rw [List.getElem?_map, List.getElem?_eq_getElem hb, eu]
    rfl
  rw [e1, right_col b1 b2, List.range_eq_range', sumW_range]
  by_cases e : up hs b = p
  · rw [if_pos e, if_pos e, if_pos e]
  · rw [if_neg e, if_neg e, if_neg e, if_pos ⟨by omega, by omega⟩, if_pos ⟨by omega, by omega⟩]
/-- all blocks' costs -/
def wrongN (us : List (Option Nat)) (ls : List (List (Option Bool))) : Nat → List Nat → Nat
  | _, [] => 0
  | b, p :: r => costN us ls b p + wrongN us ls (b + 1) r
theorem wrongN_snoc (us : List (Option Nat)) (ls : List (List (Option Bool))) : ∀ (b : Nat) (hs : List Nat) (p : Nat), wrongN us ls b (hs ++ [p]) = wrongN us ls b hs + costN us ls (b + hs.length) p
  | b, [], p => by simp [wrongN]
  | b, h :: r, p => by
    have ih := wrongN_snoc us ls (b + 1) r p
    rw [List.cons_append]
    unfold wrongN
    rw [ih, List.length_cons, show b + 1 + r.length = b + (r.length + 1) by omega]
    omega
theorem wrongN_set (us : List (Option Nat)) (ls : List (List (Option Bool))) : ∀ (hs : List Nat) (b i p : Nat), i < hs.length → wrongN us ls b (hs.set i p) + costN us ls (b + i) (hs.getD i 0) = wrongN us ls b hs + costN us ls (b + i) p
  | [], b, i, p, h => absurd h (Nat.not_lt_zero _)
  | x :: r, b, 0, p, _ => by
    simp only [List.set_cons_zero, wrongN, Nat.add_zero, List.getD_cons_zero]
    omega
  | x :: r, b, i + 1, p, h => by
    have ih := wrongN_set us ls r (b + 1) i p (by rw [List.length_cons] at h; omega)
    simp only [List.set_cons_succ, wrongN, List.getD_cons_succ]
    rw [show b + (i + 1) = b + 1 + i by omega]
    omega
/-- blocks that hang elsewhere -/
def apartN : List Nat → List Nat → Nat
  | a :: r, b :: s => (if a = b then 0 else 1) + apartN r s
  | _, _ => 0
theorem right_wrong {hs : List Nat} (t : IsTree hs) : ∀ (gs : List Nat) (b : Nat), 1 ≤ b → b - 1 + gs.length ≤ hs.length → (∀ g ∈ gs, g ≤ hs.length) → wrongN (rightU hs) (rightL hs) b gs = 3 * apartN (hs.drop (b - 1)) gs
  | [], b, _, _, _ => by
    unfold wrongN
    cases hs.drop (b - 1) <;> rfl
  | g :: r, b, b1, h, hg => by
    rw [List.length_cons] at h
    have hb : b - 1 < hs.length := by omega
    have ih := right_wrong t r (b + 1) (by omega) (by omega) fun x hx => hg x (List.mem_cons_of_mem _ hx)
    have eu : up hs b = hs[b - 1] := by
      unfold up
      rw [if_neg (by omega), List.getD_eq_getElem?_getD, List.getElem?_eq_getElem hb]
      rfl
    unfold wrongN
    rw [ih, right_cost t b1 (by omega) (hg g List.mem_cons_self), List.drop_eq_getElem_cons hb, show b + 1 - 1 = b - 1 + 1 by omega]
    show _ = 3 * ((if hs[b - 1] = g then 0 else 1) + apartN (hs.drop (b - 1 + 1)) r)
    rw [eu]
    by_cases e : hs[b - 1] = g
    · rw [if_pos e, if_pos e]
      omega
    · rw [if_neg e, if_neg e]
      omega
theorem apartN_self : ∀ hs : List Nat, apartN hs hs = 0
  | [] => rfl
  | a :: r => by
    unfold apartN
    rw [if_pos rfl, apartN_self r]
theorem wrongN_le (us : List (Option Nat)) (ls : List (List (Option Bool))) : ∀ (b : Nat) (hs : List Nat), wrongN us ls b hs ≤ hs.length * (ls.length + 1)
  | b, [] => by simp [wrongN]
  | b, h :: r => by
    have ih := wrongN_le us ls (b + 1) r
    have := costN_le us ls b h
    unfold wrongN
    rw [List.length_cons, Nat.succ_mul]
    omega
end Fv
set_option maxRecDepth 100000
set_option maxHeartbeats 1000000
namespace Fv
open PySem PySem.Spec PyProof.Rows L2
/-! comprehensions with two for -/
theorem lc2_list {K : PySem.W.Frag} {a : Addr} {xs : List V} {g : TG} {tt : TT} {vs : List Nat} {σ : L2.St} {H0 : Hp} {Qd : Hp → Prop} {Bd : L2.St → Hp → (Hp → Prop) → Prop} (Pv : Nat → Hp → Prop) (h0 : Pv 0 H0) (hl : ∀ i H, i ≤ xs.length → Pv i H → SqL K H a xs)
    (hs : ∀ i x H, xs[i]? = some x → Pv i H → g x (wipe σ vs) H fun σ2 H2 => wipe σ2 vs = wipe σ vs ∧ tt σ2 H2 fun b H3 => if b = true then Bd σ2 H3 (Pv (i + 1)) else Pv (i + 1) H3) (hd : ∀ H, Pv xs.length H → Qd H) :
    ∃ W : Nat → Nat → Hp → Prop, (∃ m, W 0 m H0) ∧ ∀ i m H, W i m H →
      ((Itl K a).stop i H ∧ Qd H) ∨ ((Itl K a).go i H ∧ ∃ Nx : Hp → Prop, (∀ H', Nx H' → ∃ m', m' < m ∧ W (i + 1) m' H') ∧ ∀ x H', (Itl K a).yld i H x H' → g x (wipe σ vs) H' fun σ2 H2 => wipe σ2 vs = wipe σ vs ∧ tt σ2 H2 fun b H3 =>
        if b = true then Bd σ2 H3 Nx else Nx H3) := by
  refine ⟨fun i m H => m = xs.length - i ∧ i ≤ xs.length ∧ Pv i H, ⟨xs.length, by simp, Nat.zero_le _, h0⟩, ?_⟩
  rintro i m H ⟨rfl, hi, p⟩
  have q := hl i H hi p
  by_cases hlt : i < xs.length
  · refine .inr ⟨⟨xs, xs[i], q, by simp [hlt]⟩, Pv (i + 1), fun H' p' => ⟨xs.length - (i + 1), by omega, rfl, hlt, p'⟩, fun x H' y => ?_⟩
    obtain ⟨e, y⟩ := y
    subst e
    exact hs i x _ (y xs q) p
  · have e : i = xs.length := by omega
    subst e
    exact .inl ⟨⟨xs, q, Nat.le_refl _⟩, hd H p⟩
theorem lc2_tup {K : PySem.W.Frag} {a : Addr} {xs : List V} {g : TG} {tt : TT} {vs : List Nat} {σ : L2.St} {H0 : Hp} {Qd : Hp → Prop} {Bd : L2.St → Hp → (Hp → Prop) → Prop} (Pv : Nat → Hp → Prop) (h0 : Pv 0 H0) (hl : ∀ i H, i ≤ xs.length → Pv i H → SqT K H a xs)
    (hs : ∀ i x H, xs[i]? = some x → Pv i H → g x (wipe σ vs) H fun σ2 H2 => wipe σ2 vs = wipe σ vs ∧ tt σ2 H2 fun b H3 => if b = true then Bd σ2 H3 (Pv (i + 1)) else Pv (i + 1) H3) (hd : ∀ H, Pv xs.length H → Qd H) :
    ∃ W : Nat → Nat → Hp → Prop, (∃ m, W 0 m H0) ∧ ∀ i m H, W i m H →
      ((Itt K a).stop i H ∧ Qd H) ∨ ((Itt K a).go i H ∧ ∃ Nx : Hp → Prop, (∀ H', Nx H' → ∃ m', m' < m ∧ W (i + 1) m' H') ∧ ∀ x H', (Itt K a).yld i H x H' → g x (wipe σ vs) H' fun σ2 H2 => wipe σ2 vs = wipe σ vs ∧ tt σ2 H2 fun b H3 =>
        if b = true then Bd σ2 H3 Nx else Nx H3) := by
  refine ⟨fun i m H => m = xs.length - i ∧ i ≤ xs.length ∧ Pv i H, ⟨xs.length, by simp, Nat.zero_le _, h0⟩, ?_⟩
  rintro i m H ⟨rfl, hi, p⟩
  have q := hl i H hi p
  by_cases hlt : i < xs.length
  · refine .inr ⟨⟨xs, xs[i], q, by simp [hlt]⟩, Pv (i + 1), fun H' p' => ⟨xs.length - (i + 1), by omega, rfl, hlt, p'⟩, fun x H' y => ?_⟩
    obtain ⟨e, y⟩ := y
    subst e
    exact hs i x _ (y xs q) p
  · have e : i = xs.length := by omega
    subst e
    exact .inl ⟨⟨xs, q, Nat.le_refl _⟩, hd H p⟩
/-! lists of pairs -/
def PrV (H : Hp) (v : V) (x : Nat × Nat) : Prop := ∃ t, v = .ref t ∧ H t = some (.tup [.int (x.1 : Nat), .int (x.2 : Nat)])
def PrsV (H : Hp) : List V → List (Nat × Nat) → Prop
  | [], [] => True
  | v :: vs, x :: xs => PrV H v x ∧ PrsV H vs xs
  | [], _ :: _ => False
  | _ :: _, [] => False
theorem PrV.same {H H' : Hp} {v : V} {x : Nat × Nat} (s : Same H H') (h : PrV H v x) : PrV H' v x := by
  obtain ⟨t, e, h⟩ := h
  exact ⟨t, e, s _ _ h⟩
theorem PrV.mut {H : Hp} {v : V} {x : Nat × Nat} {q : Addr} {ys : List V} {o : HO} (hq : H q = some (.lst ys)) (h : PrV H v x) : PrV (upd H q o) v x := by
  obtain ⟨t, e, h⟩ := h
  refine ⟨t, e, keepM (fun z => ?_) h⟩
  rw [z, hq] at h
  cases h
theorem PrsV.imp {H H' : Hp} (f : ∀ v x, PrV H v x → PrV H' v x) : ∀ {vs : List V} {xs : List (Nat × Nat)}, PrsV H vs xs → PrsV H' vs xs
  | [], [], _ => True.intro
  | _ :: _, _ :: _, h => ⟨f _ _ h.1, PrsV.imp f h.2⟩
  | [], _ :: _, h => h.elim
  | _ :: _, [], h => h.elim
theorem PrsV.same {H H' : Hp} {vs : List V} {xs : List (Nat × Nat)} (s : Same H H') (h : PrsV H vs xs) : PrsV H' vs xs := h.imp fun _ _ k => k.same s
theorem PrsV.mut {H : Hp} {vs : List V} {xs : List (Nat × Nat)} {q : Addr} {ys : List V} {o : HO} (hq : H q = some (.lst ys)) (h : PrsV H vs xs) : PrsV (upd H q o) vs xs := h.imp fun _ _ k => k.mut hq
theorem PrsV.app {H : Hp} : ∀ {vs ws : List V} {xs ys : List (Nat × Nat)}, PrsV H vs xs → PrsV H ws ys → PrsV H (vs ++ ws) (xs ++ ys)
  | [], _, [], _, _, h => h
  | _ :: _, _, _ :: _, _, h, k => ⟨h.1, PrsV.app h.2 k⟩
  | [], _, _ :: _, _, h, _ => h.elim
  | _ :: _, _, [], _, h, _ => h.elim
theorem PrsV.len {H : Hp} : ∀ {vs : List V} {xs : List (Nat × Nat)}, PrsV H vs xs → vs.length = xs.length
  | [], [], _ => rfl
  | _ :: _, _ :: _, h => congrArg (· + 1) (PrsV.len h.2)
  | [], _ :: _, h => h.elim
  | _ :: _, [], h => h.elim
theorem PrsV.at {H : Hp} : ∀ {vs : List V} {xs : List (Nat × Nat)} {i : Nat} {v : V}, PrsV H vs xs → vs[i]? = some v → ∃ x, xs[i]? = some x ∧ PrV H v x
  | [], [], _, _, _, h => by cases h
  | _ :: _, x :: _, 0, _, h, e => by
    have e' := Option.some.inj e
    subst e'
    exact ⟨x, rfl, h.1⟩
  | _ :: _, _ :: _, i + 1, _, h, e => PrsV.at (i := i) h.2 e
  | [], _ :: _, _, _, h, _ => h.elim
  | _ :: _, [], _, _, h, _ => h.elim
/-- what a pair's value tells -/
def keyOf (H : Hp) (v : V) : Int × Int := match v with
  | .ref t => match H t with
    | some (.tup [.int a, .int b]) => (a, b)
    | _ => (0, 0)
  | _ => (0, 0)
def natsOf (H : Hp) (v : V) : Nat × Nat := ((keyOf H v).1.toNat, (keyOf H v).2.toNat)
theorem PrV.key {H : Hp} {v : V} {x : Nat × Nat} (h : PrV H v x) : keyOf H v = ((x.1 : Int), (x.2 : Int)) := by
  obtain ⟨t, rfl, h⟩ := h
  unfold keyOf
  dsimp only
  rw [h]
theorem PrV.nats {H : Hp} {v : V} {x : Nat × Nat} (h : PrV H v x) : natsOf H v = x := by
  unfold natsOf
  rw [h.key]
  rfl
theorem PrsV.nats {H : Hp} : ∀ {vs : List V} {xs : List (Nat × Nat)}, PrsV H vs xs → vs.map (natsOf H) = xs
  | [], [], _ => rfl
  | v :: vs, x :: xs, h => by rw [List.map_cons, h.1.nats, PrsV.nats h.2]
  | [], _ :: _, h => h.elim
  | _ :: _, [], h => h.elim
theorem PrsV.of {H : Hp} : ∀ {vs : List V}, (∀ v ∈ vs, ∃ x, PrV H v x) → PrsV H vs (vs.map (natsOf H))
  | [], _ => True.intro
  | v :: vs, h => by
    obtain ⟨x, hx⟩ := h v List.mem_cons_self
    exact ⟨by rw [hx.nats]; exact hx, PrsV.of fun w hw => h w (List.mem_cons_of_mem _ hw)⟩
theorem PrsV.all {H : Hp} {vs : List V} {xs : List (Nat × Nat)} (h : PrsV H vs xs) {v : V} (hv : v ∈ vs) : ∃ x, PrV H v x := by
  obtain ⟨i, hi, e⟩ := List.getElem_of_mem hv
  obtain ⟨x, _, hx⟩ := h.at (i := i) (v := v) (by rw [List.getElem?_eq_getElem hi, e])
  exact ⟨x, hx⟩
theorem cr_sortedPO' {X : Cx} {K : PySem.W.Frag} (e : X.K = K) : CallR X (.builtin "sorted") (rSortedPO K) := by
  subst e
  exact cr_sortedPO
theorem x_sortP {K : PySem.W.Frag} {H : Hp} {Q : VK} {a : Addr} {hs : List Nat} {d k : Nat} {vs : List V} (t : IsTree hs) (hk : k ≤ hs.length) (h : SqL K H a vs) (hp : PrsV H vs (withUp hs (acc hs k d))) (q : ∀ ys p, PrsV H ys (tiesN hs d k) → H p = none → Q (.ref p) (upd H p (.lst ys))) : rSortedPO K [.ref a] H Q := by
  refine ⟨a, vs, keyOf H, rfl, h, fun v hv => ?_, fun ys p hs1 hs2 hn => ?_⟩
  · obtain ⟨x, hx⟩ := hp.all hv
    obtain ⟨t, e1, e2⟩ := id hx
    refine ⟨t, e1, ?_⟩
    rw [hx.key]
    exact e2
  · have pm := hs2.perm
    have hy : PrsV H ys (ys.map (natsOf H)) := PrsV.of fun v hv => hp.all (pm.mem_iff.mp hv)
    refine q ys p ?_ hn
    have e : ys.map (natsOf H) = tiesN hs d k := by
      refine ties_sorted t hk ?_ ?_
      · rw [← hp.nats]
        exact pm.map _
      · rw [List.pairwise_map]
        refine (List.Pairwise.and_mem.mp hs1).imp fun {x y} hxy => ?_
        obtain ⟨m1, m2, lt⟩ := hxy
        obtain ⟨a1, ha⟩ := hp.all (pm.mem_iff.mp m1)
        obtain ⟨b1, hb⟩ := hp.all (pm.mem_iff.mp m2)
        rw [ha.nats, hb.nats]
        have lt : SrtO.lexB (keyOf H y) (keyOf H x) = false := lt
        rw [ha.key, hb.key] at lt
        unfold ltPr
        intro z
        refine Bool.false_ne_true (lt.symm.trans (SrtO.lexB_iff.mpr ?_))
        show ((b1.1 : Nat) : Int) < ((a1.1 : Nat) : Int) ∨ ((b1.1 : Nat) : Int) = ((a1.1 : Nat) : Int) ∧ ((b1.2 : Nat) : Int) < ((a1.2 : Nat) : Int)
        omega
    rw [← e]
    exact hy
end Fv
set_option maxRecDepth 100000
set_option maxHeartbeats 1000000
namespace Fv
open PySem PySem.Spec PyProof.Rows L2
def pD (x : Nat × Nat) : PyData := .tuple [.int (Int.ofNat x.1), .int (Int.ofNat x.2)]
def pds (ts : List (Nat × Nat)) : List PyData := ts.map pD
theorem pds_lay : ∀ l, PyData.canLayAll0 (pds l) = true
  | [] => rfl
  | a :: l => by
    show (PyData.canLay0 (pD a) && PyData.canLayAll0 (pds l)) = true
    rw [pds_lay l]
    rfl
theorem pds_depth : ∀ l, PyData.depthAll (pds l) ≤ 1
  | [] => Nat.zero_le _
  | a :: l => by
    show max (PyData.depth (pD a)) (PyData.depthAll (pds l)) ≤ 1
    have e : PyData.depth (pD a) = 1 := rfl
    rw [e]
    have := pds_depth l
    omega
theorem pD_eqv (a b : Nat × Nat) : PyData.eqv (pD a) (pD b) = decide (a = b) := by
  show PyData.eqv (.tuple [.int (Int.ofNat a.1), .int (Int.ofNat a.2)]) (.tuple [.int (Int.ofNat b.1), .int (Int.ofNat b.2)]) = _
  obtain ⟨a1, a2⟩ := a
  obtain ⟨b1, b2⟩ := b
  rw [PyData.eqv, PyData.eqvAll, PyData.eqvAll, PyData.eqvAll, PyData.eqv, PyData.eqv, Bool.eq_iff_iff]
  simp
  omega
theorem pds_eqv : ∀ l m, PyData.eqvAll (pds l) (pds m) = decide (l = m)
  | [], [] => by simp [pds, PyData.eqvAll]
  | [], _ :: _ => by simp [pds, PyData.eqvAll]
  | _ :: _, [] => by simp [pds, PyData.eqvAll]
  | a :: l, b :: m => by
    show PyData.eqvAll (pD a :: pds l) (pD b :: pds m) = _
    rw [PyData.eqvAll, pds_eqv l m, pD_eqv, Bool.eq_iff_iff]
    simp
def telPD (r : List Nat) (ts : List (Nat × Nat)) : PyData := .tuple [.tuple (dn r), .tuple (pds ts)]
theorem telPD_shaped (r : List Nat) (ts : List (Nat × Nat)) : SeqAt.shaped (telPD r ts) = true := by
  show (PyData.canLayAll0 [.tuple (dn r), .tuple (pds ts)] && decide (PyData.depthAll [.tuple (dn r), .tuple (pds ts)] + 1 ≤ 64)) = true
  have e1 : PyData.canLayAll0 [.tuple (dn r), .tuple (pds ts)] = true := by
    show (PyData.canLayAll0 (dn r) && (PyData.canLayAll0 (pds ts) && true)) = true
    rw [dn_lay, pds_lay]
    rfl
  have e2 : PyData.depthAll [.tuple (dn r), .tuple (pds ts)] + 1 ≤ 64 := by
    show max (PyData.depthAll (dn r) + 1) (max (PyData.depthAll (pds ts) + 1) 0) + 1 ≤ 64
    have := pds_depth ts
    rw [dn_depth]
    omega
  rw [e1, decide_eq_true e2]
  rfl
theorem telPD_eqv (r r' : List Nat) (ts ts' : List (Nat × Nat)) : PyData.eqv (telPD r ts) (telPD r' ts') = (decide (r = r') && decide (ts = ts')) := by
  show PyData.eqv (.tuple [.tuple (dn r), .tuple (pds ts)]) (.tuple [.tuple (dn r'), .tuple (pds ts')]) = _
  rw [PyData.eqv, PyData.eqvAll, PyData.eqvAll, PyData.eqvAll, PyData.eqv, PyData.eqv, dn_eqv, pds_eqv]
  simp
/-- a value that is a telling -/
def TelAt (H : Hp) (v : V) (r : List Nat) (ts : List (Nat × Nat)) : Prop := ∃ (a b c : Addr) (vs : List V), v = .ref a ∧ H a = some (.tup [.ref b, .ref c]) ∧ H b = some (.tup (nats r)) ∧ H c = some (.tup vs) ∧ PrsV H vs ts
theorem TelAt.same {H H' : Hp} {v : V} {r : List Nat} {ts : List (Nat × Nat)} (s : Same H H') (h : TelAt H v r ts) : TelAt H' v r ts := by
  obtain ⟨a, b, c, vs, e, h1, h2, h3, h4⟩ := h
  exact ⟨a, b, c, vs, e, s _ _ h1, s _ _ h2, s _ _ h3, h4.same s⟩
section
variable {K : PySem.W.Frag} {H : Hp} {Q : VK}
theorem PrsV.dp : ∀ {vs : List V} {ts : List (Nat × Nat)}, PrsV H vs ts → DpAll K H vs (pds ts)
  | [], [], _ => .nil
  | v :: vs, x :: xs, h => by
    obtain ⟨t, e, ht⟩ := h.1
    subst e
    exact .cons (.tup (.of ht) (.cons (.int _) (.cons (.int _) .nil))) (PrsV.dp h.2)
  | [], _ :: _, h => h.elim
  | _ :: _, [], h => h.elim
theorem TelAt.dp {v : V} {r : List Nat} {ts : List (Nat × Nat)} (h : TelAt H v r ts) : Dp K H v (telPD r ts) := by
  obtain ⟨a, b, c, vs, e, h1, h2, h3, h4⟩ := h
  subst e
  exact .tup (.of h1) (.cons (.tup (.of h2) (dpAll_nats r)) (.cons (.tup (.of h3) h4.dp) .nil))
theorem x_neTel {x y : V} {r r' : List Nat} {ts ts' : List (Nat × Nat)} (h1 : TelAt H x r ts) (h2 : TelAt H y r' ts') (q : Q (.bl (!(decide (r = r') && decide (ts = ts')))) H) : rNeD K x y H Q := by
  refine ⟨telPD r ts, telPD r' ts', h1.dp, h2.dp, telPD_shaped _ _, telPD_shaped _ _, ?_⟩
  rw [telPD_eqv]
  exact q
theorem Al.pair {n : Nat} {v w : V} {x : Nat × Nat} (h1 : PrV H v x) (h2 : PrV H w x) : Al K H (n + 1) v w := by
  obtain ⟨t, e, ht⟩ := h1
  obtain ⟨u, e', hu⟩ := h2
  subst e e'
  refine Al.tups ht hu (by show 2 ≤ 1000; decide) fun z hz => ?_
  rcases List.mem_cons.mp hz with rfl | hz
  · rfl
  · rw [List.mem_singleton.mp hz]
    rfl
theorem TelAt.al {v w : V} {r : List Nat} {ts : List (Nat × Nat)} (hr : r.length ≤ 1000) (hts : ts.length ≤ 1000) (h1 : TelAt H v r ts) (h2 : TelAt H w r ts) : Al K H 3 v w := by
  obtain ⟨a, b, c, vs, e, h1, h2', h3, h4⟩ := h1
  obtain ⟨a', b', c', vs', e', k1, k2, k3, k4⟩ := h2
  subst e e'
  refine .inr (.inr ⟨a, a', _, _, rfl, rfl, h1, k1, rfl, (by show 2 ≤ 1000; decide), fun i hi1 hi2 => ?_⟩)
  match i with
  | 0 => exact Al.tups h2' k2 (by rw [nats_length]; exact hr) nats_sca
  | 1 =>
    refine .inr (.inr ⟨c, c', vs, vs', rfl, rfl, h3, k3, h4.len.trans k4.len.symm, by rw [k4.len]; exact hts, fun j hj1 hj2 => ?_⟩)
    obtain ⟨x, hx, px⟩ := h4.at (List.getElem?_eq_getElem hj1)
    obtain ⟨y, hy, py⟩ := k4.at (List.getElem?_eq_getElem hj2)
    rw [hx] at hy
    cases hy
    exact Al.pair px py
  | i + 2 => exact absurd hi1 (by show ¬ i + 2 < 2; omega)
end
end Fv
set_option maxRecDepth 100000
set_option maxHeartbeats 1000000
namespace Fv
open PySem PySem.Spec PyProof.Rows L2
/-! range(n), kept by a name -/
def rRng1 : List V → Hp → VK → Prop := fun vs H Q => ∃ j : Int, vs = [V.int j] ∧ ∀ p, H p = none → Q (.ref p) (upd H p (.rng 0 j))
theorem call_rng1 {X : Cx} : CallR X (.type "range") rRng1 := by
  intro pins s σ H vs us Q I r h
  obtain ⟨j, rfl, q⟩ := h
  obtain ⟨u1, rfl, ri⟩ := vals1 r
  obtain ⟨t, rfl⟩ := ri
  refine call_range_1 ⟨.ref s.heap.objs.size, upd H s.heap.objs.size (.rng 0 j), I.laid (fun b o e => Heap.get?_push_of_some _ e) (Nat.le_refl _) ?_, rfl, q _ (I.hok.fresh (Nat.le_refl _))⟩
  exact ⟨_, _, _, Heap.get?_push_size _ rfl⟩
theorem pi_tupK {X : Cx} {K : PySem.W.Frag} {tg e : Expr} {te : TE} (eK : X.K = K) (he : PE X e te) : PI X tg e (iTup K te) := by
  subst eK
  exact pi_tup he
theorem pi_listK {X : Cx} {K : PySem.W.Frag} {tg e : Expr} {te : TE} (eK : X.K = K) (he : PE X e te) : PI X tg e (iList K te) := by
  subst eK
  exact pi_list he
theorem nats_take (l : List Nat) (n : Nat) : (nats l).take n = nats (l.take n) := by
  unfold nats
  rw [List.map_take]
section
variable {K : PySem.W.Frag} {H : Hp} {Q : VK} {l b p : Addr} {xs zs : List V}
theorem x_rngA1 {j : Int} (q : ∀ p, H p = none → Q (.ref p) (upd H p (.rng 0 j))) : rRng1 [.int j] H Q := ⟨j, rfl, q⟩
theorem x_extend (h1 : H l = some (.lst xs)) (h2 : H b = some (.lst zs)) (hz : xs.length + zs.length ≤ 10000) (q : Q .non (upd H l (.lst (xs ++ zs)))) : rExtend (.ref l) [.ref b] H Q := ⟨l, b, xs, zs, rfl, rfl, h1, h2, szLe (by omega), q⟩
theorem range0_snoc (g : Nat → Bool) (n : Nat) : (List.range (n + 1)).filter g = (List.range n).filter g ++ if g n = true then [n] else [] := by
  rw [List.range_succ, List.filter_append]
  congr 1
  by_cases h : g n = true
  · rw [if_pos h, List.filter_cons_of_pos h]
    rfl
  · rw [if_neg h, List.filter_cons_of_neg h]
    rfl
theorem all_true (n : Nat) : ((List.replicate n true).map V.bl).length = n := by rw [List.length_map, List.length_replicate]
end
end Fv
namespace Fv
open PySem PySem.Spec L2
/-- a comprehension in a comprehension: the outer one's scope, as it stands in its def's -/
def relS (scope sc : Scope) : Scope := { scope with names := scope.names.map fun (n, k) => if (k == .free && sc.kind == .function && sc.names.lookup n == some .cell) then (n, .cell) else (n, k) }
theorem blkOk_nest {X : Cx} {s : Shared} {H : Hp} {scope sc2 sc : Scope} {cl : List (Str × Addr)} {C : Addr} {e : Env} {fp : List Addr} {N : List Str} {own : List (Str × Nat)} (h : blkC N (relS scope sc) sc2 own = true) (hs : e.scope = sc) : BlkOk N (X.blk s H scope (compEnvC scope cl C e) fp).env.scope sc2 own := by
  subst hs
  exact blkOk_by h
theorem cr_sumK {X : Cx} {K : PySem.W.Frag} (e : X.K = K) (hc : X.calm = true) : CallR X (.builtin "sum") (rSum K) := by
  subst e
  exact cr_sum hc
end Fv
/-! votes; nothing of the program here -/
namespace Fv
/-- the least cost of this block -/
structure MinIs (us : List (Option Nat)) (ls : List (List (Option Bool))) (n b m : Nat) : Prop where
  some : ∃ p, p ≤ n ∧ p ≠ b ∧ costN us ls b p = m
  all : ∀ p, p ≤ n → p ≠ b → m ≤ costN us ls b p
theorem MinIs.det {us : List (Option Nat)} {ls : List (List (Option Bool))} {n b m k : Nat} (h : MinIs us ls n b m) (g : MinIs us ls n b k) : m = k := by
  obtain ⟨p, hp, hb, e⟩ := h.some
  obtain ⟨q, hq, hc, f⟩ := g.some
  have h1 := h.all q hq hc
  have h2 := g.all p hp hb
  omega
/-- where it hangs at that cost -/
def plN (us : List (Option Nat)) (ls : List (List (Option Bool))) (b m k : Nat) : List Nat := (List.range k).filter fun p => decide (p ≠ b) && decide (costN us ls b p = m)
theorem plN_snoc (us : List (Option Nat)) (ls : List (List (Option Bool))) (b m k : Nat) : plN us ls b m (k + 1) = plN us ls b m k ++ if k ≠ b ∧ costN us ls b k = m then [k] else [] := by
  unfold plN
  rw [List.range_succ, List.filter_append]
  congr 1
  by_cases h : k ≠ b ∧ costN us ls b k = m
  · rw [if_pos h, List.filter_cons_of_pos (by rw [decide_eq_true h.1, decide_eq_true h.2]; rfl), List.filter_nil]
  · rw [if_neg h, List.filter_cons_of_neg, List.filter_nil]
    rw [Bool.and_eq_true, decide_eq_true_eq, decide_eq_true_eq]
    exact h
theorem plN_len (us : List (Option Nat)) (ls : List (List (Option Bool))) (b m k : Nat) : (plN us ls b m k).length ≤ k := by
  unfold plN
  exact Nat.le_trans (List.length_filter_le _ _) (Nat.le_of_eq List.length_range)
/-- the costs but at the block itself -/
def csN (us : List (Option Nat)) (ls : List (List (Option Bool))) (b k : Nat) : List Nat := ((List.range k).filter fun p => decide (p ≠ b)).map (costN us ls b)
theorem csN_snoc (us : List (Option Nat)) (ls : List (List (Option Bool))) (b k : Nat) : csN us ls b (k + 1) = csN us ls b k ++ if k = b then [] else [costN us ls b k] := by
  unfold csN
  rw [List.range_succ, List.filter_append, List.map_append]
  congr 1
  by_cases h : k = b
  · rw [if_pos h, List.filter_cons_of_neg (by rw [decide_eq_true_eq]; exact fun z => z h), List.filter_nil, List.map_nil]
  · rw [if_neg h, List.filter_cons_of_pos (by rw [decide_eq_true_eq]; exact h), List.filter_nil, List.map_cons, List.map_nil]
theorem csN_len (us : List (Option Nat)) (ls : List (List (Option Bool))) (b k : Nat) : (csN us ls b k).length ≤ k := by
  unfold csN
  rw [List.length_map]
  exact Nat.le_trans (List.length_filter_le _ _) (Nat.le_of_eq List.length_range)
theorem csN_min {us : List (Option Nat)} {ls : List (List (Option Bool))} {n b m : Nat} (h : m ∈ csN us ls b (n + 1)) (a : ∀ y ∈ csN us ls b (n + 1), m ≤ y) : MinIs us ls n b m := by
  have mem : ∀ y, y ∈ csN us ls b (n + 1) ↔ ∃ p, p ≤ n ∧ p ≠ b ∧ costN us ls b p = y := fun y => by
    unfold csN
    rw [List.mem_map]
    constructor
    · rintro ⟨p, hp, e⟩
      rw [List.mem_filter, List.mem_range, decide_eq_true_eq] at hp
      exact ⟨p, by omega, hp.2, e⟩
    · rintro ⟨p, hp, hb, e⟩
      refine ⟨p, ?_, e⟩
      rw [List.mem_filter, List.mem_range, decide_eq_true_eq]
      exact ⟨by omega, hb⟩
  exact ⟨(mem m).mp h, fun p hp hb => a _ ((mem _).mpr ⟨p, hp, hb, rfl⟩)⟩
theorem csN_pos {us : List (Option Nat)} {ls : List (List (Option Bool))} {n b : Nat} (b1 : 1 ≤ b) : 0 < (csN us ls b (n + 1)).length := by
  unfold csN
  rw [List.length_map]
  refine List.length_pos_of_mem (a := 0) ?_
  rw [List.mem_filter, List.mem_range, decide_eq_true_eq]
  omega
end Fv
set_option maxRecDepth 100000
set_option maxHeartbeats 1000000
namespace Fv
open PySem PySem.Spec PyProof.Rows L2 RZ
theorem pi_zipAK {X : Cx} {K : PySem.W.Frag} {e e2 : Expr} {ta : TA} {p pos tpos : Pos} {elts : List Expr} {kk : Nat} (eK : X.K = K) (hg : Gl X "zip") (hm : X.mg "zip" = none) (ha : PA X [e, e2] ta)
    (hs : starEach [e, e2] X.env = (false, eval e X.env) :: starEach [e2] X.env := by rfl) (hpl : (backTo pos (starEach [e2] X.env)).any (·.1) = false := by rfl) :
    PI X (.Tuple elts kk tpos) (.Call (.Name "zip" p) [e, e2] [] pos) (iZipA K ta) := by
  subst eK
  exact pi_zipA hg hm ha hs hpl
theorem x_zipA {K : PySem.W.Frag} {σ : L2.St} {H : Hp} {R : It → Hp → Prop} {ts : TA} (h : ts σ H fun vs H1 => ∃ a b xs ys, vs = [.ref a, .ref b] ∧ ((SqL K H1 a xs ∧ SqL K H1 b ys ∧ R (Itz K a b) H1) ∨ (SqT K H1 a xs ∧ SqT K H1 b ys ∧ R (ItzT K a b) H1))) : iZipA K ts σ H R := h
theorem lc_zipT {K : PySem.W.Frag} {a b : Addr} {xs ys : List V} (hxy : xs.length = ys.length) {g : TG} {tt : TT} {te : TE} {vs : List Nat} {σ : L2.St} {H1 : Hp} {D : Addr} {Qd : Hp → Prop} (Pv : Nat → Hp → Prop) (h0 : Pv 0 (upd H1 D (.lst []))) (hl : ∀ i H, i ≤ xs.length → Pv i H → SqT K H a xs ∧ SqT K H b ys)
    (hs : ∀ i x y H T, xs[i]? = some x → ys[i]? = some y → Pv i H → H T = none → g (.ref T) (wipe σ vs) (upd H T (.tup [x, y])) fun σ2 H2 => wipe σ2 vs = wipe σ vs ∧ tt σ2 H2 fun b H3 =>
      if b = true then te σ2 H3 fun y H4 => ∃ acc, H4 D = some (.lst acc) ∧ acc.length < sizeLine ∧ Pv (i + 1) (upd H4 D (.lst (acc ++ [y]))) else Pv (i + 1) H3) (hd : ∀ H, Pv xs.length H → Qd H) :
    ∃ W : Nat → Nat → Hp → Prop, (∃ m, W 0 m (upd H1 D (.lst []))) ∧ ∀ i m H, W i m H → ((ItzT K a b).stop i H ∧ Qd H) ∨ ((ItzT K a b).go i H ∧ ∃ Nx : Hp → Prop, (∀ H', Nx H' → ∃ m', m' < m ∧ W (i + 1) m' H') ∧ ∀ x H', (ItzT K a b).yld i H x H' → g x (wipe σ vs) H' fun σ2 H2 => wipe σ2 vs = wipe σ vs ∧ tt σ2 H2 fun b H3 =>
        if b = true then te σ2 H3 fun y H4 => ∃ acc, H4 D = some (.lst acc) ∧ acc.length < sizeLine ∧ Nx (upd H4 D (.lst (acc ++ [y]))) else Nx H3) := by
  refine ⟨fun i m H => m = xs.length - i ∧ i ≤ xs.length ∧ Pv i H, ⟨_, rfl, Nat.zero_le _, h0⟩, ?_⟩
  rintro i m H ⟨rfl, hi, p⟩
  obtain ⟨q, r⟩ := hl i H hi p
  by_cases hlt : i < xs.length
  · have hlt2 : i < ys.length := by omega
    refine .inr ⟨⟨xs, ys, xs[i], ys[i], q, r, List.getElem?_eq_getElem hlt, List.getElem?_eq_getElem hlt2⟩, Pv (i + 1), fun H' p' => ⟨_, by omega, rfl, hlt, p'⟩, fun x H' y => ?_⟩
    obtain ⟨T, z, u, rfl, hT, rfl, hz, hu⟩ := y
    exact hs i z u H T (hz xs q) (hu ys r) p hT
  · have e : i = xs.length := by omega
    subst e
    exact .inl ⟨⟨xs, ys, q, r, .inl (Nat.le_refl _)⟩, hd H p⟩
/-! words as data -/
def wD : Option Bool → PyData
  | none => .none
  | some b => .bool b
def uD : Option Nat → PyData
  | none => .none
  | some q => .int (Int.ofNat q)
def dw (c : List (Option Bool)) : List PyData := c.map wD
def du (c : List (Option Nat)) : List PyData := c.map uD
def dls (ls : List (List (Option Bool))) : List PyData := ls.map fun r => .tuple (dw r)
theorem dw_lay : ∀ c, PyData.canLayAll0 (dw c) = true
  | [] => rfl
  | a :: l => by
    show (PyData.canLay0 (wD a) && PyData.canLayAll0 (dw l)) = true
    rw [dw_lay l]
    cases a <;> rfl
theorem dw_depth : ∀ c, PyData.depthAll (dw c) = 0
  | [] => rfl
  | a :: l => by
    show max (PyData.depth (wD a)) (PyData.depthAll (dw l)) = 0
    rw [dw_depth l]
    cases a <;> rfl
theorem dw_eqv : ∀ c, PyData.eqvAll (dw c) (dw c) = true
  | [] => by simp [dw, PyData.eqvAll]
  | a :: l => by
    show PyData.eqvAll (wD a :: dw l) (wD a :: dw l) = true
    rw [PyData.eqvAll, dw_eqv l]
    cases a with
    | none => simp [wD, PyData.eqv]
    | some b => cases b <;> simp [wD, PyData.eqv]
theorem du_lay : ∀ c, PyData.canLayAll0 (du c) = true
  | [] => rfl
  | a :: l => by
    show (PyData.canLay0 (uD a) && PyData.canLayAll0 (du l)) = true
    rw [du_lay l]
    cases a <;> rfl
theorem du_depth : ∀ c, PyData.depthAll (du c) = 0
  | [] => rfl
  | a :: l => by
    show max (PyData.depth (uD a)) (PyData.depthAll (du l)) = 0
    rw [du_depth l]
    cases a <;> rfl
theorem du_eqv : ∀ c, PyData.eqvAll (du c) (du c) = true
  | [] => by simp [du, PyData.eqvAll]
  | a :: l => by
    show PyData.eqvAll (uD a :: du l) (uD a :: du l) = true
    rw [PyData.eqvAll, du_eqv l]
    cases a with
    | none => simp [uD, PyData.eqv]
    | some b => simp [uD, PyData.eqv]
theorem dls_lay : ∀ c, PyData.canLayAll0 (dls c) = true
  | [] => rfl
  | a :: l => by
    show (PyData.canLayAll0 (dw a) && PyData.canLayAll0 (dls l)) = true
    rw [dls_lay l, dw_lay]
    rfl
theorem dls_depth : ∀ c, PyData.depthAll (dls c) ≤ 1
  | [] => Nat.zero_le _
  | a :: l => by
    show max (PyData.depthAll (dw a) + 1) (PyData.depthAll (dls l)) ≤ 1
    have := dls_depth l
    rw [dw_depth]
    omega
theorem dls_eqv : ∀ c, PyData.eqvAll (dls c) (dls c) = true
  | [] => by simp [dls, PyData.eqvAll]
  | a :: l => by
    show PyData.eqvAll (.tuple (dw a) :: dls l) (.tuple (dw a) :: dls l) = true
    rw [PyData.eqvAll, dls_eqv l, PyData.eqv, dw_eqv]
    rfl
def wordsPD (us : List (Option Nat)) (ls : List (List (Option Bool))) : PyData := .tuple [.tuple (du us), .tuple (dls ls)]
theorem wordsPD_shaped (us : List (Option Nat)) (ls : List (List (Option Bool))) : SeqAt.shaped (wordsPD us ls) = true := by
  show (PyData.canLayAll0 [.tuple (du us), .tuple (dls ls)] && decide (PyData.depthAll [.tuple (du us), .tuple (dls ls)] + 1 ≤ 64)) = true
  have e1 : PyData.canLayAll0 [.tuple (du us), .tuple (dls ls)] = true := by
    show (PyData.canLayAll0 (du us) && (PyData.canLayAll0 (dls ls) && true)) = true
    rw [du_lay, dls_lay]
    rfl
  have e2 : PyData.depthAll [.tuple (du us), .tuple (dls ls)] + 1 ≤ 64 := by
    show max (PyData.depthAll (du us) + 1) (max (PyData.depthAll (dls ls) + 1) 0) + 1 ≤ 64
    have := dls_depth ls
    rw [du_depth]
    omega
  rw [e1, decide_eq_true e2]
  rfl
theorem wordsPD_eqv (us : List (Option Nat)) (ls : List (List (Option Bool))) : PyData.eqv (wordsPD us ls) (wordsPD us ls) = true := by
  show PyData.eqv (.tuple [.tuple (du us), .tuple (dls ls)]) (.tuple [.tuple (du us), .tuple (dls ls)]) = _
  rw [PyData.eqv, PyData.eqvAll, PyData.eqvAll, PyData.eqvAll, PyData.eqv, PyData.eqv, du_eqv, dls_eqv]
  rfl
theorem dpAll_wds {K : PySem.W.Frag} {H : Hp} : ∀ c : List (Option Bool), DpAll K H (wds c) (dw c)
  | [] => .nil
  | none :: l => .cons .non (dpAll_wds l)
  | some b :: l => .cons (.bl b) (dpAll_wds l)
theorem dpAll_upvs {K : PySem.W.Frag} {H : Hp} : ∀ c : List (Option Nat), DpAll K H (upvs c) (du c)
  | [] => .nil
  | none :: l => .cons .non (dpAll_upvs l)
  | some b :: l => .cons (.int _) (dpAll_upvs l)
theorem apartN_snoc : ∀ {l m : List Nat} (a b : Nat), l.length = m.length → apartN (l ++ [a]) (m ++ [b]) = apartN l m + if a = b then 0 else 1
  | [], [], a, b, _ => by
    show (if a = b then 0 else 1) + 0 = 0 + _
    omega
  | [], _ :: _, _, _, h => by simp at h
  | _ :: _, [], _, _, h => by simp at h
  | x :: l, y :: m, a, b, h => by
    have ih := apartN_snoc (l := l) (m := m) a b (by simpa using h)
    show (if x = y then 0 else 1) + apartN (l ++ [a]) (m ++ [b]) = (if x = y then 0 else 1) + apartN l m + _
    rw [ih]
    omega
theorem apartN_le : ∀ (l m : List Nat) (k : Nat), l.length ≤ k → apartN l m ≤ k
  | [], m, k, _ => by
    cases m <;> exact Nat.zero_le _
  | _ :: _, [], k, _ => Nat.zero_le _
  | x :: l, y :: m, 0, h => absurd h (by rw [List.length_cons]; omega)
  | x :: l, y :: m, k + 1, h => by
    have ih := apartN_le l m k (by rw [List.length_cons] at h; omega)
    show (if x = y then 0 else 1) + apartN l m ≤ k + 1
    split <;> omega
end Fv
set_option maxRecDepth 100000
set_option maxHeartbeats 1000000
namespace Fv
open PySem PySem.Spec PyProof.Rows L2
/-! lists of lists of pairs that are written in turn -/
def TsAt (H : Hp) (as : List Addr) (g : Nat → List (Nat × Nat)) : Prop := ∀ p a, as[p]? = some a → ∃ vs, H a = some (.lst vs) ∧ PrsV H vs (g p)
theorem TsAt.same {H H' : Hp} {as : List Addr} {g : Nat → List (Nat × Nat)} (s : Same H H') (h : TsAt H as g) : TsAt H' as g := fun p a e => by
  obtain ⟨vs, h1, h2⟩ := h p a e
  exact ⟨vs, s _ _ h1, h2.same s⟩
theorem TsAt.mut {H : Hp} {as : List Addr} {g : Nat → List (Nat × Nat)} {q : Addr} {ys : List V} {o : HO} (hq : H q = some (.lst ys)) (n : q ∉ as) (h : TsAt H as g) : TsAt (upd H q o) as g := fun p a e => by
  obtain ⟨vs, h1, h2⟩ := h p a e
  exact ⟨vs, keepM (fun z => n (by rw [← z]; exact List.mem_of_getElem? e)) h1, h2.mut hq⟩
theorem TsAt.congr {H : Hp} {as : List Addr} {g g' : Nat → List (Nat × Nat)} (e : ∀ p, p < as.length → g p = g' p) (h : TsAt H as g) : TsAt H as g' := fun p a ha => by
  rw [← e p (List.getElem?_eq_some_iff.mp ha).1]
  exact h p a ha
theorem TsAt.step {H : Hp} {as : List Addr} {g : Nat → List (Nat × Nat)} {q : Nat} {a U : Addr} {vs : List V} {x : Nat × Nat} (hn : as.Nodup) (h : TsAt H as g) (ha : as[q]? = some a) (hU : H U = some (.tup [.int (x.1 : Nat), .int (x.2 : Nat)])) (hv : H a = some (.lst vs)) (hp : PrsV H vs (g q)) :
    TsAt (upd H a (.lst (vs ++ [.ref U]))) as (fun p => g p ++ if p = q then [x] else []) := fun p b e => by
  have nUa : U ≠ a := fun z => by
    rw [z, hv] at hU
    cases hU
  by_cases hpq : p = q
  · subst hpq
    rw [ha] at e
    cases e
    refine ⟨_, upd_same, ?_⟩
    dsimp only
    rw [if_pos rfl]
    exact (hp.mut hv).app ⟨⟨U, rfl, keepM nUa hU⟩, True.intro⟩
  · obtain ⟨ws, h1, h2⟩ := h p b e
    refine ⟨ws, keepM (fun z => hpq ?_) h1, ?_⟩
    · subst z
      exact (List.getElem?_inj (List.getElem?_eq_some_iff.mp e).1 hn).mp (e.trans ha.symm)
    · dsimp only
      rw [if_neg hpq, List.append_nil]
      exact h2.mut hv
theorem refs_at {as : List Addr} {p : Nat} {a : Addr} (e : as[p]? = some a) : atI (as.map V.ref) (p : Int) = some (.ref a) := by
  refine atI_nat ?_
  rw [List.getElem?_map, e]
  rfl
theorem cr_sortedK {X : Cx} {K : PySem.W.Frag} (e : X.K = K) : CallR X (.builtin "sorted") (rSorted K) := by
  subst e
  exact cr_sorted
end Fv
set_option maxRecDepth 100000
set_option maxHeartbeats 1000000
namespace Fv
open PySem PySem.Spec PyProof.Rows L2
section
variable {K : PySem.W.Frag} {H : Hp} {Q : VK} {a : Addr} {l : List Nat} {k : Nat}
theorem x_ninNT (h : SqT K H a (nats l)) (q : Q (.bl (!decide (k ∈ l))) H) : rIn K true (.int k) (.ref a) H Q := by
  refine ⟨a, _, rfl, .inr h, rfl, flat_nats l, ?_⟩
  show Q (.bl (!inV (.int k) (nats l))) H
  rw [in_nats]
  exact q
theorem x_ninNL (h : SqL K H a (nats l)) (q : Q (.bl (!decide (k ∈ l))) H) : rIn K true (.int k) (.ref a) H Q := by
  refine ⟨a, _, rfl, .inl h, rfl, flat_nats l, ?_⟩
  show Q (.bl (!inV (.int k) (nats l))) H
  rw [in_nats]
  exact q
/-- whole numbers in order -/
theorem x_sortN {ys : List Nat} (h : SqL K H a (nats l)) (hl : l.length < 64) (hp : l.Perm ys) (hs : ys.Pairwise (· < ·)) (q : ∀ p, H p = none → Q (.ref p) (upd H p (.lst (nats ys)))) : rSorted K [.ref a] H Q := by
  refine ⟨a, l.map fun (k : Nat) => (k : Int), rfl, by rw [nats_ints]; exact h, by rw [List.length_map]; exact hl, fun zs p hz hw hn => ?_⟩
  have e : zs = ys.map fun (k : Nat) => (k : Int) := by
    refine (hz.trans (hp.map _)).eq_of_pairwise (fun a b _ _ h1 h2 => Int.le_antisymm h1 h2) hw ?_
    rw [List.pairwise_map]
    refine hs.imp fun {x y} hxy => ?_
    omega
  rw [e, nats_ints]
  exact q p hn
theorem put_same {hs : List Nat} {b : Nat} (h1 : 1 ≤ b) (h2 : b ≤ hs.length) : put hs b (up hs b) = hs := by
  refine same_ups (put_len _ _ _) fun k _ _ => ?_
  rw [up_put h1 h2]
  split
  · rename_i e
    rw [e]
  · rfl
end
end Fv
set_option maxRecDepth 100000
set_option maxHeartbeats 4000000
namespace Fv
open PySem PySem.Spec PyProof.Rows L2
/-! t * k, k any number -/
theorem tuple_mulW1 (l : Addr) (items : Array Value) (n : Nat) (dd : Option Addr) (sl : Array (Option Value)) (u : Tok) :
    Meets (Builtin.«tuple.__mul__» ⟨[.ref l, .int 1 u], []⟩) (fun _ R s => s.heap.get? l = some { cls := .type "tuple", dict := dd, data := .seq items n, slots := sl } ∧ R (.ok (.ret (Value.ref l))) s) :=
  .of_wp fun prog w A R s h => by
    obtain ⟨hp, g, d, tk, os⟩ := s
    obtain ⟨hl, h⟩ := h
    have f1 := AutoSeq1.idx_int
    have c1 : (items.isEmpty || (1 : Int) == 1) = true := by rw [Bool.or_eq_true]; exact .inr rfl
    wp_walk using wpAny_loadPart' hl
    repeat (first
      | (refine wpAny_ite_true (decide_eq_true c1) ?_; wp_walk using wpAny_loadPart' hl)
      | (refine wpAny_ite_false (by decide) ?_; wp_walk using wpAny_loadPart' hl))
    exact ⟨_, rfl, h⟩
theorem tuple_mulW0 (l : Addr) (items : Array Value) (n : Nat) (dd : Option Addr) (sl : Array (Option Value)) (x : Int) (u : Tok) (c0 : (decide (x < -(2 ^ 63)) || decide (x ≥ 2 ^ 63)) = false) (c1 : (items.isEmpty || x == 1) = false) (c2 : (decide (x ≤ 0) || items.isEmpty) = true) :
    Meets (Builtin.«tuple.__mul__» ⟨[.ref l, .int x u], []⟩) (fun _ R s => s.heap.get? l = some { cls := .type "tuple", dict := dd, data := .seq items n, slots := sl } ∧
      R (.ok (.ret (Value.ref s.heap.objs.size))) { s with heap := s.heap.push { cls := Value.type "tuple", data := Data.seq #[] }, toks := s.toks }) :=
  .of_wp fun prog w A R s h => by
    obtain ⟨hp, g, d, tk, os⟩ := s
    obtain ⟨hl, h⟩ := h
    have f1 := AutoSeq1.idx_int
    wp_walk using wpAny_loadPart' hl
    repeat (first
      | (refine wpAny_ite_false (decide_eq_false (by rw [c0]; exact Bool.false_ne_true)) ?_; wp_walk using wpAny_loadPart' hl)
      | (refine wpAny_ite_false (decide_eq_false (by rw [c1]; exact Bool.false_ne_true)) ?_; wp_walk using wpAny_loadPart' hl)
      | (refine wpAny_ite_true (decide_eq_true c2) ?_; wp_walk using wpAny_loadPart' hl)
      | (refine wpAny_ite_false (by decide) ?_; wp_walk using wpAny_loadPart' hl))
    exact ⟨_, rfl, h⟩
def rRepA (K : PySem.W.Frag) : R2 := fun x y H Q => ∃ (l : Addr) (k : Int) (xs : List V), x = .ref l ∧ y = .int k ∧ SqT K H l xs ∧ xs ≠ [] ∧ -1000 ≤ k ∧ k ≤ 1000 ∧ xs.length ≤ 1000 ∧ (k = 1 → Q (.ref l) H) ∧ (k ≤ 0 → ∀ p, H p = none → Q (.ref p) (upd H p (.tup []))) ∧ (2 ≤ k → ∀ p, H p = none → Q (.ref p) (upd H p (.tup (List.replicate k.toNat xs).flatten)))
theorem op_repA {X : Cx} : OpR X (binaryOp .Mult) (rRepA X.K) := by
  intro pins s σ H x y v u Q I rx ry h
  obtain ⟨l, k, xs, rfl, rfl, hT, hne, h1, h2, hz, q1, q0, q2⟩ := h
  by_cases hk : 2 ≤ k
  · exact op_repT pins s σ H _ _ v u Q I rx ry ⟨l, k, xs, rfl, rfl, hT, hne, hk, h2, hz, q2 hk⟩
  cases rx
  obtain ⟨t, rfl⟩ := ry
  obtain ⟨its, r, ⟨⟨cls, dd, data, sl⟩, ho, hc, n, hd⟩, hs⟩ := I.tuple hT
  simp only at hc hd
  subst hc hd
  have hle : its.length = xs.length := r.length.symm
  have hn : its ≠ [] := fun e => hne (by
    rw [e] at hle
    exact List.eq_nil_of_length_eq_zero hle.symm)
  have hi : its.toArray.isEmpty = false := by
    cases its with
    | nil => exact absurd rfl hn
    | cons a b => rfl
  by_cases k1 : k = 1
  · subst k1
    exact wpAny_binaryOp_repeat_ref (T := "tuple") (U := "int") (by decide) ⟨_, ho, rfl⟩ (fun s' => typeIs_int s' 1 t) noFill_tuple_mul F.fills_int_mul F.slot_int_rmul repeat_tuple F.slot_int_index.lookup
      (call_meets F.slot_int_rmul (typeIs_int s 1 t) F.entry_int_rmul (F.args_int_rmul_2 _ _) (int_rmul_tuple 1 t l its.toArray n dd sl)
        ⟨ho, rfl, ⟨_, ho, rfl⟩, call_meets F.slot_tuple_mul ⟨_, ho, rfl⟩ F.entry_tuple_mul (F.args_tuple_mul_2 _ _) (tuple_mulW1 l its.toArray n dd sl t) ⟨ho, .ref l, H, I, rfl, q1 rfl⟩⟩)
  · have c0 : (decide (k < -(2 ^ 63)) || decide (k ≥ 2 ^ 63)) = false := by
      rw [decide_eq_false (by omega), decide_eq_false (by omega)] <;> rfl
    have c1 : (its.toArray.isEmpty || k == 1) = false := by
      rw [hi, Bool.false_or]
      exact beq_eq_false_iff_ne.mpr (by omega)
    have c2 : (decide (k ≤ 0) || its.toArray.isEmpty) = true := by
      rw [decide_eq_true (show k ≤ 0 by omega)]
      rfl
    refine wpAny_binaryOp_repeat_ref (T := "tuple") (U := "int") (by decide) ⟨_, ho, rfl⟩ (fun s' => typeIs_int s' k t) noFill_tuple_mul F.fills_int_mul F.slot_int_rmul repeat_tuple F.slot_int_index.lookup
      (call_meets F.slot_int_rmul (typeIs_int s k t) F.entry_int_rmul (F.args_int_rmul_2 _ _) (int_rmul_tuple k t l its.toArray n dd sl)
        ⟨ho, rfl, ⟨_, ho, rfl⟩, call_meets F.slot_tuple_mul ⟨_, ho, rfl⟩ F.entry_tuple_mul (F.args_tuple_mul_2 _ _) (tuple_mulW0 l its.toArray n dd sl k t c0 c1 c2) ⟨ho, ?_⟩⟩)
    refine ⟨.ref s.heap.objs.size, _, I.laid (t' := s.toks) (o := .tup []) (fun b ob q => Heap.get?_push_of_some _ q) (Nat.le_refl _) ?_, rfl, q0 (by omega) _ (I.hok.fresh (Nat.le_refl _))⟩
    exact ⟨Nat.zero_le _, [], .nil, IsTup.new _ _⟩
theorem op_repAK {X : Cx} {K : PySem.W.Frag} (e : X.K = K) : OpR X (binaryOp .Mult) (rRepA K) := by
  subst e
  exact op_repA
section
variable {K : PySem.W.Frag} {H : Hp} {Q : VK} {a : Addr} {v : V}
/-- (v,) * k -/
theorem x_repA1 {k : Int} (h : H a = some (.tup [v])) (h1 : -1000 ≤ k) (h2 : k ≤ 1000) (q : ∀ p H', Same H H' → H' p = some (.tup (List.replicate k.toNat v)) → Q (.ref p) H') : rRepA K (.ref a) (.int k) H Q := by
  refine ⟨a, k, [v], rfl, rfl, .of h, by simp, h1, h2, (by show 1 ≤ 1000; decide), fun e => ?_, fun e p hp => ?_, fun e p hp => ?_⟩
  · subst e
    exact q a H (Same.refl _) h
  · refine q p _ (same_new (Same.refl _) hp) ?_
    rw [upd_same, show k.toNat = 0 by omega]
    rfl
  · refine q p _ (same_new (Same.refl _) hp) ?_
    rw [upd_same, rep_one]
end
end Fv
set_option maxRecDepth 100000
set_option maxHeartbeats 1000000
namespace Fv
open PySem PySem.Spec PyProof.Rows L2
section
variable {P : Program} {w : World} {K : PySem.W.Frag} {mg : Str → Option Value} {base : Heap} {k : Nat} {f : Addr} {fd : FuncData} {ps : List Str} {sp sp' : Sp}
/-- from which nothing comes out serves where something may -/
theorem fnUp (G : FnOk P w K mg base CX0 k f fd ps sp) : FnOk P w K mg base (L2.CX P w) k f fd ps sp :=
  ⟨G.len, fun A outer s H args us vs Q E hr e0 hb r h => codeAny_mono (G.run A outer s H args us vs Q E hr e0 hb r h) fun r s' q => by
    cases r with
    | error e => exact (show False from q).elim
    | ok fl => cases fl <;> exact q⟩
/-- two promises of one def -/
theorem fnOr {CX : CXT} (G : FnOk P w K mg base CX k f fd ps sp) (G' : FnOk P w K mg base CX k f fd ps sp') : FnOk P w K mg base CX k f fd ps (fun vs H Q E => sp vs H Q E ∨ sp' vs H Q E) :=
  ⟨fun vs H Q E h => h.elim (G.len vs H Q E) (G'.len vs H Q E), fun A outer s H args us vs Q E hr e0 hb r h => h.elim (G.run A outer s H args us vs Q E hr e0 hb r) (G'.run A outer s H args us vs Q E hr e0 hb r)⟩
end
/-- isinstance(e, C), e the caught error without fields, whatever its class -/
def rIsM (K : PySem.W.Frag) (a : Addr) (cls : Value) (d : Option Addr) : List V → Hp → VK → Prop := fun xs H Q => ∃ (D : Addr) (c : V) (cv : Value) (b : Bool), cls = .ref D ∧ d = none ∧ L2.ExcC K D ∧ xs = [.ref a, c] ∧ (∀ u, RelV c u → u = cv) ∧ PySem.W.kitOne K (.ref D) cv = some b ∧ Q (.bl b) H
theorem call_isM {X : Cx} {K : PySem.W.Frag} {a : Addr} {oe : Obj} {cls : Value} {d : Option Addr} {pn : List (Addr × Obj)} (eK : X.K = K) (hz : Zc cls d oe) (hf : ∃ vs, oe.data = .fields vs) : CallR (X.suite a ((a, oe) :: pn)) (.builtin "isinstance") (rIsM K a cls d) := by
  subst eK
  intro pins s σ H xs us Q I r h
  obtain ⟨D, c, cv, b, rfl, rfl, hC, rfl, hcv, e, q⟩ := h
  exact call_isE hC hz hf pins s σ H _ us Q I r ⟨c, cv, b, rfl, hcv, e, q⟩
theorem mt_indexK {X : Cx} {K : PySem.W.Frag} (e : X.K = K) : MtR X "list.index" (rIndex K) := by
  subst e
  exact mt_index
section
variable {K : PySem.W.Frag} {H : Hp} {Q : VK} {a C dx : Addr} {fs : List (Str × V)}
theorem isi_insTuple (c : IsC K C) (nt : PySem.W.kitOne K (.ref C) (.type "tuple") = some false) (h : H a = some (.ins C dx fs)) (q : Q (.bl false) H) : rIsi K [.ref a, .ty "tuple"] H Q :=
  ⟨.ref a, .ty "tuple", .ref C, .type "tuple", false, rfl, .ty "tuple", .base (.ins h c.cl c.ha c.hn c.ht c.hm), nt, q⟩
end
end Fv
set_option maxRecDepth 100000
set_option maxHeartbeats 1000000
namespace Fv
open PySem PySem.Spec L2 PyProof.Rows
/-- isinstance(e, T), T a built-in class, e the caught error, which holds a field -/
def rIsFT (K : PySem.W.Frag) (D a : Addr) (cls : Value) (d : Option Addr) : List V → Hp → VK → Prop := fun xs H Q => ∃ (T : String) (dd : Addr) (fs : List (Str × V)), xs = [.ref a, .ty T] ∧ cls = .ref D ∧ d = some dd ∧ H dd = some (.xd fs) ∧ PySem.W.kitOne K (.ref D) (.type T) = some true ∧ Q (.bl true) H
theorem call_isFT {X : Cx} {a D : Addr} {oe : Obj} {cls : Value} {d : Option Addr} {pn : List (Addr × Obj)} (C : L2.ExcC X.K D) (hz : Zc cls d oe) (hf : ∃ vs, oe.data = .fields vs) : CallR (X.suite a ((a, oe) :: pn)) (.builtin "isinstance") (rIsFT X.K D a cls d) := by
  intro pins s σ H xs us Q I r h
  obtain ⟨B, dd, fs, rfl, rfl, rfl, ea, e, q⟩ := h
  cases r with
  | cons rx rr =>
    cases rr with
    | cons rt rr =>
      cases rr
      cases rx
      cases rt
      obtain ⟨hget, _⟩ := I.pin (a, oe) (List.mem_append.mpr (.inl List.mem_cons_self))
      obtain ⟨vs, hv⟩ := hf
      have hx : ObjOk X.prog X.w H s.heap dd (.xd fs) := I.hok dd _ ea
      obtain ⟨mA, hns, hr⟩ := hx
      obtain ⟨od, ho, hl⟩ := lookIn_ns hns
      have J : PySem.W.InstAt s.heap a oe D (some od) := ⟨hget, hz.1, by unfold PySem.W.notCls; rw [hv] <;> rfl, by rw [hz.2]; exact ho⟩
      have hcl : (PySem.W.clsIn X.K D).isSome = true := by
        obtain ⟨cd, hc, _⟩ := PySem.W.any_some C.hd
        rw [hc]
        rfl
      exact PySem.W.kia_one (PySem.W.kitx_exc hcl C.hg C.hk C.hs C.ha C.hn C.ht C.hm) I.kIn J e (fun z => nomatch z) fun tk => ⟨.bl true, H, I.kept (t' := tk) fun _ _ z => z, rfl, q⟩
theorem du_eqvD : ∀ c d : List (Option Nat), PyData.eqvAll (du c) (du d) = decide (c = d)
  | [], [] => by simp [du, PyData.eqvAll]
  | [], _ :: _ => by simp [du, PyData.eqvAll]
  | _ :: _, [] => by simp [du, PyData.eqvAll]
  | a :: l, b :: m => by
    show PyData.eqvAll (uD a :: du l) (uD b :: du m) = _
    rw [PyData.eqvAll, du_eqvD l m, Bool.eq_iff_iff]
    cases a <;> cases b <;> simp [uD, PyData.eqv]
    intro _
    omega
theorem dw_eqvD : ∀ c d : List (Option Bool), PyData.eqvAll (dw c) (dw d) = decide (c = d)
  | [], [] => by simp [dw, PyData.eqvAll]
  | [], _ :: _ => by simp [dw, PyData.eqvAll]
  | _ :: _, [] => by simp [dw, PyData.eqvAll]
  | a :: l, b :: m => by
    show PyData.eqvAll (wD a :: dw l) (wD b :: dw m) = _
    rw [PyData.eqvAll, dw_eqvD l m, Bool.eq_iff_iff]
    cases a <;> cases b <;> simp [wD, PyData.eqv]
theorem dls_eqvD : ∀ c d : List (List (Option Bool)), PyData.eqvAll (dls c) (dls d) = decide (c = d)
  | [], [] => by simp [dls, PyData.eqvAll]
  | [], _ :: _ => by simp [dls, PyData.eqvAll]
  | _ :: _, [] => by simp [dls, PyData.eqvAll]
  | a :: l, b :: m => by
    show PyData.eqvAll (.tuple (dw a) :: dls l) (.tuple (dw b) :: dls m) = _
    rw [PyData.eqvAll, dls_eqvD l m, PyData.eqv, dw_eqvD, Bool.eq_iff_iff]
    simp
/-! C(..) in the body of a try: what the cells hold is known in the suite -/
section
variable {X : Cx} {CX : CXT} {k : Nat} {f C : Addr} {fd : FuncData} {ps : List Str} {sp : Sp} {dvs : List V} {ds : List Value} {E : L2.St → XK} {x : Str} {p pos : Pos} {e : Expr} {es : List Expr} {t : TA}
theorem run_makeS {pins : List (Addr × Obj)} {σ : L2.St} {H : Hp} {s : Shared} {Q : VK} {us : List Value} {vs : List V} (M : Mk X.K C f) (F : FnOk X.prog X.w X.K X.mg X.base CX k f fd ps sp) (hr : Room (k + 1) X.A) (hb : Binds X.K fd ps ds) (hd : Vals dvs ds)
    (hx : L2.PassesAt CX X σ (E σ)) (I : Inv X pins σ H s) (r : Vals vs us)
    (h : ∀ x dx, H x = none → H dx = none → dx ≠ x → sp (.ref x :: (vs ++ dvs)) (upd (upd H dx (.own x)) x (.ins C dx [])) (fun v H2 => v = .non ∧ Q (.ref x) H2) (E σ)) :
    wpAny (model X.prog X.w) X.A (call (.ref C) us) (EP X pins σ Q) X.xe s := by
  have hq := h (s.heap.objs.size + 1) s.heap.objs.size (I.hok.fresh (Nat.le_succ _)) (I.hok.fresh (Nat.le_refl _)) (Nat.ne_of_lt (Nat.lt_succ_self _))
  have I2 := Inv.made (C := C) I
  have r2 : Vals (V.ref (s.heap.objs.size + 1) :: (vs ++ dvs)) (Value.ref (s.heap.objs.size + 1) :: (us ++ ds)) := .cons rfl (r.append hd)
  have hl : (Value.ref (s.heap.objs.size + 1) :: us ++ ds).length = ps.length := by
    have e := r2.length
    rw [F.len _ _ _ _ hq] at e
    exact e.symm
  refine wpAny_call (make_map (f := f) I.kIn M.makes M.init (beq_iff_eq.mp M.fn) (codeAny_mono (F.run _ X.stack _ _ ⟨Value.ref (s.heap.objs.size + 1) :: us, []⟩ (Value.ref (s.heap.objs.size + 1) :: (us ++ ds)) _ _ (E σ) (hr.make C us [])
    (I2.env0.make C us []) (hb _ (Value.ref (s.heap.objs.size + 1) :: us) I2.kIn hl) r2 hq) fun r s' hq' => ?_))
  cases r with
  | error e => exact hx pins _ _ e s' I2 hq'
  | ok fl =>
    cases fl with
    | ret u =>
      obtain ⟨v, H', I3, rv, ev, q3⟩ := I2.after hq'
      subst ev
      exact ⟨rv, ⟨V.ref (s.heap.objs.size + 1), H', I3, rfl, q3⟩⟩
    | next => exact False.elim hq'
    | brk => exact False.elim hq'
    | cont => exact False.elim hq'
def tMakeS (C : Addr) (sp : Sp) (dvs : List V) (E : L2.St → XK) (t : TA) : TE := fun σ H Q => t σ H fun vs H1 => ∀ x dx, H1 x = none → H1 dx = none → dx ≠ x → sp (.ref x :: (vs ++ dvs)) (upd (upd H1 dx (.own x)) x (.ins C dx [])) (fun v H2 => v = .non ∧ Q (.ref x) H2) (E σ)
theorem pe_makeS (M : Mk X.K C f) (F : FnOk X.prog X.w X.K X.mg X.base CX k f fd ps sp) (hr : Room (k + 1) X.A) (hg : Gl X x) (hm : X.mg x = some (.ref C)) (hb : Binds X.K fd ps ds) (hd : Vals dvs ds) (hx : ∀ σ, L2.PassesAt CX X σ (E σ))
    (ha : PA X (e :: es) t) (hdb : (x == ("__debug__" : Str)) = false := by decide) (he : starEach (e :: es) X.env = (false, eval e X.env) :: starEach es X.env := by rfl) (hpl : (backTo pos (starEach es X.env)).any (·.1) = false := by rfl) :
    PE X (.Call (.Name x p) (e :: es) [] pos) (tMakeS C sp dvs E t) := by
  refine ⟨fun pins s σ H Q I h => ?_⟩
  refine wpAny_Call_Name_kw (ld_glob I hg hm ?_ hdb)
  refine PySem.W.callWith_K (h₀ := X.base) I.ok.mod.kin M.kp (thn (ha.run pos pins s σ H _ I h) fun us s1 ⟨vs, H1, I1, r, q⟩ => ⟨I1.kIn, ?_⟩) he hpl
  exact run_makeS M F hr hb hd (hx σ) I1 r q
theorem x_makeS {C : Addr} {sp : Sp} {dvs : List V} {E : L2.St → XK} {t : TA} {σ : L2.St} {H : Hp} {Q : VK} (h : t σ H fun vs H1 => ∀ x dx, H1 x = none → H1 dx = none → dx ≠ x → sp (.ref x :: (vs ++ dvs)) (upd (upd H1 dx (.own x)) x (.ins C dx [])) (fun v H2 => v = .non ∧ Q (.ref x) H2) (E σ)) : tMakeS C sp dvs E t σ H Q := h
end
end Fv
set_option maxRecDepth 100000
set_option maxHeartbeats 1000000
namespace Fv
open PySem PySem.Spec PyProof.Rows L2 RZ
theorem lc_zipL {K : PySem.W.Frag} {a b : Addr} {xs ys : List V} (hxy : xs.length = ys.length) {g : TG} {tt : TT} {te : TE} {vs : List Nat} {σ : L2.St} {H1 : Hp} {D : Addr} {Qd : Hp → Prop} (Pv : Nat → Hp → Prop) (h0 : Pv 0 (upd H1 D (.lst []))) (hl : ∀ i H, i ≤ xs.length → Pv i H → SqL K H a xs ∧ SqL K H b ys)
    (hs : ∀ i x y H T, xs[i]? = some x → ys[i]? = some y → Pv i H → H T = none → g (.ref T) (wipe σ vs) (upd H T (.tup [x, y])) fun σ2 H2 => wipe σ2 vs = wipe σ vs ∧ tt σ2 H2 fun b H3 =>
      if b = true then te σ2 H3 fun y H4 => ∃ acc, H4 D = some (.lst acc) ∧ acc.length < sizeLine ∧ Pv (i + 1) (upd H4 D (.lst (acc ++ [y]))) else Pv (i + 1) H3) (hd : ∀ H, Pv xs.length H → Qd H) :
    ∃ W : Nat → Nat → Hp → Prop, (∃ m, W 0 m (upd H1 D (.lst []))) ∧ ∀ i m H, W i m H → ((Itz K a b).stop i H ∧ Qd H) ∨ ((Itz K a b).go i H ∧ ∃ Nx : Hp → Prop, (∀ H', Nx H' → ∃ m', m' < m ∧ W (i + 1) m' H') ∧ ∀ x H', (Itz K a b).yld i H x H' → g x (wipe σ vs) H' fun σ2 H2 => wipe σ2 vs = wipe σ vs ∧ tt σ2 H2 fun b H3 =>
        if b = true then te σ2 H3 fun y H4 => ∃ acc, H4 D = some (.lst acc) ∧ acc.length < sizeLine ∧ Nx (upd H4 D (.lst (acc ++ [y]))) else Nx H3) := by
  refine ⟨fun i m H => m = xs.length - i ∧ i ≤ xs.length ∧ Pv i H, ⟨_, rfl, Nat.zero_le _, h0⟩, ?_⟩
  rintro i m H ⟨rfl, hi, p⟩
  obtain ⟨q, r⟩ := hl i H hi p
  by_cases hlt : i < xs.length
  · have hlt2 : i < ys.length := by omega
    refine .inr ⟨⟨xs, ys, xs[i], ys[i], q, r, List.getElem?_eq_getElem hlt, List.getElem?_eq_getElem hlt2⟩, Pv (i + 1), fun H' p' => ⟨_, by omega, rfl, hlt, p'⟩, fun x H' y => ?_⟩
    obtain ⟨T, z, u, rfl, hT, rfl, hz, hu⟩ := y
    exact hs i z u H T (hz xs q) (hu ys r) p hT
  · have e : i = xs.length := by omega
    subst e
    exact .inl ⟨⟨xs, ys, q, r, .inl (Nat.le_refl _)⟩, hd H p⟩
/-- two values compared through and through: what comes of it -/
def Cm (H : Hp) : Nat → V → V → Bool → Prop
  | 0, x, y, r => sca x = true ∧ sca y = true ∧ r = decide (x = y)
  | n + 1, x, y, r => (sca x = true ∧ sca y = true ∧ r = decide (x = y)) ∨
      (∃ (a b : Addr) (xs ys : List V), x = .ref a ∧ y = .ref b ∧ ((H a = some (.lst xs) ∧ H b = some (.lst ys)) ∨ (H a = some (.tup xs) ∧ H b = some (.tup ys))) ∧ xs.length ≤ 1000 ∧ ys.length ≤ 1000 ∧
        ((xs.length ≠ ys.length ∧ r = false) ∨ (xs.length = ys.length ∧ ∃ rs : List Bool, rs.length = xs.length ∧ r = rs.all id ∧ ∀ i (h1 : i < xs.length) (h2 : i < ys.length) (h3 : i < rs.length), Cm H n xs[i] ys[i] rs[i])))
theorem Cm.same {H H' : Hp} : ∀ {n : Nat} {x y : V} {r : Bool}, Same H H' → Cm H n x y r → Cm H' n x y r
  | 0, _, _, _, _, h => h
  | n + 1, x, y, r, s, h => by
    rcases h with h | ⟨a, b, xs, ys, e1, e2, h1, hx, hy, h⟩
    · exact .inl h
    · refine .inr ⟨a, b, xs, ys, e1, e2, ?_, hx, hy, ?_⟩
      · rcases h1 with ⟨h1, h2⟩ | ⟨h1, h2⟩
        · exact .inl ⟨s _ _ h1, s _ _ h2⟩
        · exact .inr ⟨s _ _ h1, s _ _ h2⟩
      · rcases h with h | ⟨hl, rs, r1, r2, h⟩
        · exact .inl h
        · exact .inr ⟨hl, rs, r1, r2, fun i k1 k2 k3 => (h i k1 k2 k3).same s⟩
/-! words as data, compared -/
theorem dw_eq : ∀ c d : List (Option Bool), PyData.eqvAll (dw c) (dw d) = decide (c = d)
  | [], [] => by simp [dw, PyData.eqvAll]
  | [], _ :: _ => by simp [dw, PyData.eqvAll]
  | _ :: _, [] => by simp [dw, PyData.eqvAll]
  | a :: l, b :: m => by
    show PyData.eqvAll (wD a :: dw l) (wD b :: dw m) = _
    rw [PyData.eqvAll, dw_eq l m, Bool.eq_iff_iff]
    cases a <;> cases b <;> simp [wD, PyData.eqv]
theorem du_eq : ∀ c d : List (Option Nat), PyData.eqvAll (du c) (du d) = decide (c = d)
  | [], [] => by simp [du, PyData.eqvAll]
  | [], _ :: _ => by simp [du, PyData.eqvAll]
  | _ :: _, [] => by simp [du, PyData.eqvAll]
  | a :: l, b :: m => by
    show PyData.eqvAll (uD a :: du l) (uD b :: du m) = _
    rw [PyData.eqvAll, du_eq l m, Bool.eq_iff_iff]
    cases a <;> cases b <;> simp [uD, PyData.eqv]
    intro _
    omega
theorem dls_eq : ∀ c d : List (List (Option Bool)), PyData.eqvAll (dls c) (dls d) = decide (c = d)
  | [], [] => by simp [dls, PyData.eqvAll]
  | [], _ :: _ => by simp [dls, PyData.eqvAll]
  | _ :: _, [] => by simp [dls, PyData.eqvAll]
  | a :: l, b :: m => by
    show PyData.eqvAll (.tuple (dw a) :: dls l) (.tuple (dw b) :: dls m) = _
    rw [PyData.eqvAll, dls_eq l m, PyData.eqv, dw_eq, Bool.eq_iff_iff]
    simp
def wholeD (n : Nat) (us : List (Option Nat)) (ls : List (List (Option Bool))) : PyData := .tuple [.int (n : Int), .tuple (du us), .tuple (dls ls)]
theorem wholeD_shaped (n : Nat) (us : List (Option Nat)) (ls : List (List (Option Bool))) : SeqAt.shaped (wholeD n us ls) = true := by
  show (PyData.canLayAll0 [.int (n : Int), .tuple (du us), .tuple (dls ls)] && decide (PyData.depthAll [.int (n : Int), .tuple (du us), .tuple (dls ls)] + 1 ≤ 64)) = true
  have e1 : PyData.canLayAll0 [.int (n : Int), .tuple (du us), .tuple (dls ls)] = true := by
    show (true && (PyData.canLayAll0 (du us) && (PyData.canLayAll0 (dls ls) && true))) = true
    rw [du_lay, dls_lay]
    rfl
  have e2 : PyData.depthAll [.int (n : Int), .tuple (du us), .tuple (dls ls)] + 1 ≤ 64 := by
    show max 0 (max (PyData.depthAll (du us) + 1) (max (PyData.depthAll (dls ls) + 1) 0)) + 1 ≤ 64
    have := dls_depth ls
    rw [du_depth]
    omega
  rw [e1, decide_eq_true e2]
  rfl
theorem wholeD_eqv {n n' : Nat} {us us' : List (Option Nat)} {ls ls' : List (List (Option Bool))} : PyData.eqv (wholeD n us ls) (wholeD n' us' ls') = decide (n = n' ∧ us = us' ∧ ls = ls') := by
  show PyData.eqv (.tuple [.int (n : Int), .tuple (du us), .tuple (dls ls)]) (.tuple [.int (n' : Int), .tuple (du us'), .tuple (dls ls')]) = _
  rw [PyData.eqv, PyData.eqvAll, PyData.eqvAll, PyData.eqvAll, PyData.eqvAll, PyData.eqv, PyData.eqv, PyData.eqv, du_eq, dls_eq, Bool.eq_iff_iff]
  simp
  intro _ _
  omega
end Fv
set_option maxRecDepth 100000
set_option maxHeartbeats 1000000
namespace Fv
open PySem PySem.Spec PySem.SeqAt PyProof.Rows L2
/-! t[::-1], t a tuple -/
theorem rev_adjust (n : Nat) : Builtin.Slice.sliceAdjust none none (-1) (n : Int) = ((n : Int) - 1, -1) := by
  first
  | rfl
  | (unfold Builtin.Slice.sliceAdjust; simp)
theorem rev_places (n : Nat) : Builtin.Slice.slicePlaces ((n : Int) - 1) (-1) (-1) = n := by
  unfold Builtin.Slice.slicePlaces
  simp
  all_goals omega
theorem fm_congr {α β : Type} {f g : α → Option β} : ∀ {l : List α}, (∀ x ∈ l, f x = g x) → l.filterMap f = l.filterMap g
  | [], _ => rfl
  | a :: l, h => by
    rw [List.filterMap_cons, List.filterMap_cons, h a List.mem_cons_self, fm_congr fun x hx => h x (List.mem_cons_of_mem _ hx)]
theorem rev_pick (xs : Array Value) : ((List.range xs.size).filterMap fun (k : Nat) => xs[(((xs.size : Int) - 1) + (k : Int) * (-1)).toNat]?).toArray = xs.toList.reverse.toArray := by
  have e : (List.range xs.size).filterMap (fun (k : Nat) => xs[(((xs.size : Int) - 1) + (k : Int) * (-1)).toNat]?) = ((List.range xs.size).map fun k => xs.size - 1 - k).filterMap (xs[·]?) := by
    rw [List.filterMap_map]
    refine fm_congr fun k hk => ?_
    have := List.mem_range.mp hk
    show xs[(((xs.size : Int) - 1) + (k : Int) * (-1)).toNat]? = xs[xs.size - 1 - k]?
    congr 1
    omega
  rw [e, PySem.W.krv_range, List.filterMap_reverse, PySem.W.krv_all]
section
variable {prog : Program} {w : World} {A : Around} {E : Value → Shared → Prop} {s : Shared}
theorem getItem_tuple_rev {t sl : Addr} {items : Array Value} {vl vu vs : Value} {Q : Value → Shared → Prop} (ht : IsTup s.heap t items) (hs : s.heap.IsSliceOf sl vl vu vs) (pl : IsPart vl none) (pu : IsPart vu none) (ps : IsPart vs (some (-1)))
    (h : Q (.ref s.heap.objs.size) { s with heap := s.heap.push { cls := .type "tuple", data := .seq items.toList.reverse.toArray } })
    (hsz : items.size ≤ sizeLine) : wpAny (model prog w) A (getItem (.ref t) (.ref sl)) Q E s := by
  have htake : sizeOk (.seq items.toList.reverse.toArray) := by
    show items.toList.reverse.toArray.size ≤ sizeLine
    rw [List.size_toArray, List.length_reverse, Array.length_toList]
    exact hsz
  obtain ⟨os, hos, hcs, hds⟩ := id hs
  have hTs : s.TypeIs (.ref sl) "slice" := ⟨os, hos, hcs⟩
  unfold getItem
  try with_reducible refine wpAny_holding ?_
  first | refine wpAny_bind (wpAny_pure ?_) | skip
  refine wpAny_bind (wpAny_sequenceKey ht.typeIs (by decide) ?_)
  refine wpAny_bind (wpAny_callSpecial?_slot (name := Str.ofString "__getitem__") ht.typeIs PyProof.Rows.slot_tuple_getitem
    (wpAny_call_entry PyProof.Rows.slot_tuple_getitem ht.typeIs PyProof.Rows.entry_tuple_getitem ?_ (PyProof.Rows.args_tuple_getitem _ _)))
  show wpAny _ _ (Builtin.Tuple.tupleItemsOf (.ref t) >>= _) _ _ s
  refine wpAny_bind (tupleItemsOf_ ht ?_)
  refine wpAny_bind (wpAny_typeOf hTs ?_)
  rw [if_pos (by decide)]
  have app : ∀ {A : Around} {E : Value → Shared → Prop} {Q : Int × Int × Nat → Shared → Prop}, Q ((items.size : Int) - 1, -1, items.size) s → wpAny (model prog w) A (Builtin.Slice.sliceApplied (.ref sl) (pure (items.size : Int))) Q E s := fun {A E Q} h => by
    unfold Builtin.Slice.sliceApplied Builtin.Slice.sliceFields
    refine wpAny_bind (wpAny_bind (wpAny_field hos hds (x := vl) rfl (wpAny_bind (wpAny_field hos hds (x := vu) rfl (wpAny_bind (wpAny_field hos hds (x := vs) rfl (wpAny_pure ?_)))))))
    refine wpAny_bind (HT.slicePart_ ps ?_)
    show wpAny _ _ (if ((-1 : Int) == 0) = true then _ else _) _ _ s
    rw [if_neg (by decide)]
    refine wpAny_bind (HT.slicePart_ pl (wpAny_bind (HT.slicePart_ pu (wpAny_bind (wpAny_pure ?_)))))
    show wpAny _ _ (match Builtin.Slice.sliceAdjust none none (-1) (items.size : Int) with | (lo, hi) => pure (lo, (-1 : Int), Builtin.Slice.slicePlaces lo hi (-1))) _ _ s
    rw [rev_adjust]
    show wpAny _ _ (pure ((items.size : Int) - 1, (-1 : Int), Builtin.Slice.slicePlaces ((items.size : Int) - 1) (-1) (-1))) _ _ s
    rw [rev_places]
    exact wpAny_pure h
  refine wpAny_bind (app ?_)
  have hno : ¬ (((items.size : Int) - 1 == 0 && (-1 : Int) == 1 && items.size == items.size) = true) := by
    intro q
    rw [Bool.and_eq_true, Bool.and_eq_true] at q
    exact absurd q.1.2 (by decide)
  show wpAny _ _ (if ((items.size : Int) - 1 == 0 && (-1 : Int) == 1 && items.size == items.size) = true then _ else _) _ _ s
  rw [if_neg hno, rev_pick]
  first
    | exact wpAny_bind (m := Builtin.Tuple.tupleExact _) (wpAny_newObj_type (wpAny_pure ⟨_, rfl, wpAny_pure h⟩) htake)
    | exact wpAny_bind (m := Builtin.Tuple.tupleExact _) (wpAny_newObj_type (wpAny_bind (wpAny_pure (wpAny_pure ⟨_, rfl, wpAny_pure h⟩))) htake)
    | exact wpAny_bind (wpAny_bind (m := Builtin.Tuple.tupleExact _) (wpAny_newObj_type (wpAny_pure (wpAny_pure ⟨_, rfl, wpAny_pure h⟩)) htake))
    | exact wpAny_bind (wpAny_bind (m := Builtin.Tuple.tupleExact _) (wpAny_newObj_type (wpAny_pure ⟨_, rfl, wpAny_pure h⟩) htake))
end
def tRevT (K : PySem.W.Frag) (te : TE) : TE := fun σ H Q => te σ H fun x H1 => ∃ a xs, x = .ref a ∧ SqT K H1 a xs ∧ ∀ p, H1 p = none → Q (.ref p) (upd H1 p (.tup xs.reverse))
section
variable {X : Cx}
theorem pe_revT {K : PySem.W.Frag} {e : Expr} {te : TE} {k : Nat} {p1 p2 p3 pos : Pos} (eK : X.K = K) (he : PE X e te) : PE X (.Subscript e (.Slice none none (some (.UnaryOp .USub (.Constant (.int 1) k p1) p2)) p3) pos) (tRevT K te) := by
  subst eK
  refine ⟨fun pins s σ H Q I h => ?_⟩
  refine Subscript_ (thn (he.run pins s σ H _ I h) fun v s1 ⟨x, H1, I1, r1, q1⟩ => ?_)
  obtain ⟨a, xs, ex, hx, q⟩ := q1
  subst ex
  cases r1
  have hst : PO X (some (.UnaryOp .USub (.Constant (.int 1) k p1) p2)) (tPart (tUn (rU fun i => .int (-i)) (tC (.int 1)))) := po_some (pe_un un_neg pe_int)
  refine wpAny_Slice (thn (po_none.run pins s1 σ H1 (fun o H2 => o = none ∧ H2 = H1) I1 ⟨rfl, rfl⟩) fun vl s2 ⟨l, H2, I2, pl, el, e2⟩ => ?_)
  subst el e2
  refine thn (po_none.run pins s2 σ H2 (fun o H3 => o = none ∧ H3 = H2) I2 ⟨rfl, rfl⟩) fun vu s3 ⟨u, H3, I3, pu, eu, e3⟩ => ?_
  subst eu e3
  refine thn (hst.run pins s3 σ H3 (fun o H4 => o = some (-1) ∧ H4 = H3) I3 ⟨1, rfl, -1, rfl, rfl, rfl⟩) fun vs s4 ⟨o, H4, I4, ps, eo, e4⟩ => ?_
  subst eo e4
  have I5 : Inv X pins σ H4 { s4 with heap := s4.heap.push { cls := .type "slice", data := .fields #[vl, vu, vs] } } := I4.kept (t' := s4.toks) fun b ob q => Heap.get?_push_of_some _ q
  obtain ⟨its, r, ht, hz⟩ := I5.tuple hx
  have hlen := r.length
  show wpAny (model X.prog X.w) X.A (subscriptTail e (.Slice none none (some (.UnaryOp .USub (.Constant (.int 1) k p1) p2)) p3) (.ref a) (.ref s4.heap.objs.size)) (EP X pins σ Q) X.xe { s4 with heap := s4.heap.push { cls := .type "slice", data := .fields #[vl, vu, vs] } }
  refine tail_any (ops := [.ref a, .ref s4.heap.objs.size]) ht.typeIs (PyProof.Rows.slot_tuple_getitem.lookup) ?_ (by with_unfolding_all rfl)
  refine getItem_tuple_rev ht (Heap.IsSliceOf.new _ vl vu vs) pl pu ps ?_ (by rw [List.size_toArray]; omega)
  refine ⟨.ref _, _, I5.laid (t' := s4.toks) (o := .tup xs.reverse) (fun b ob q => Heap.get?_push_of_some _ q) (Nat.le_refl _) ?_, rfl, q _ (I5.hok.fresh (Nat.le_refl _))⟩
  exact ⟨by rw [List.length_reverse]; exact hz, _, r.reverse, IsTup.new _ _⟩
end
theorem x_revT {K : PySem.W.Frag} {te : TE} {σ : L2.St} {H : Hp} {Q : VK} (h : te σ H fun x H1 => ∃ a xs, x = .ref a ∧ SqT K H1 a xs ∧ ∀ p, H1 p = none → Q (.ref p) (upd H1 p (.tup xs.reverse))) : tRevT K te σ H Q := h
/-! x == n, x of any kind that is known, n a whole number -/
section
variable {prog : Program} {w : World} {A : Around} {E : Value → Shared → Prop} {s : Shared}
theorem int_eq_declines_dict (b : Int) (u : Tok) (l : Addr) (o : Obj) (hc : o.cls = .type "dict") (hd : ∃ es ep, o.data = .dict es ep) :
    Meets (Builtin.«int.__eq__» ⟨[.int b u, .ref l], []⟩) (fun _ R s => s.heap.get? l = some o ∧ R (.ok (.ret .notImplemented)) s) :=
  .of_wp fun prog w A R s h => by
    obtain ⟨hp, g, d, tk, os⟩ := s
    obtain ⟨hl, h⟩ := h
    have hT : (⟨hp, g, d, tk, os⟩ : Shared).TypeIs (.ref l) "dict" := ⟨o, hl, hc⟩
    have f1 := F.sub_dict_int
    wp_walk using wpAny_load hl, wpAny_typeOf hT
    obtain ⟨es, ep, hd⟩ := hd
    rw [hd]
    wp_walk
    exact ⟨_, rfl, h⟩
theorem rc_dict_int {a : Addr} {o : Obj} {b : Int} {u : Tok} {Q : Value → Shared → Prop} (ho : s.heap.get? a = some o) (hc : o.cls = .type "dict") (hd : ∃ es ep, o.data = .dict es ep) (hu : A.units < cLine) (h : Q (.bool false) s) : wpAny (model prog w) A (richCompare .Eq (.ref a) (.int b u)) Q E s := by
  have hT : s.TypeIs (.ref a) "dict" := ⟨o, ho, hc⟩
  refine rc_eq_decline_or (k := false) hT (typeIs_int s b u) (by decide) F.sub_int_dict F.slot_dict_eq F.slot_int_eq_refl
    (fun _ hq => wpAny_call_entry F.slot_dict_eq hT F.entry_dict_eq ?_ (F.args_dict_eq_2 _ _))
    (fun _ hq => call_meets F.slot_int_eq_refl (typeIs_int s b u) F.entry_int_eq (F.args_int_eq_2 _ _) (int_eq_declines_dict b u a o hc hd) ⟨ho, hq⟩)
    (fun _ hq => wpAny_of_eq (rfl : isSame (.ref a) (.int b u) = pure false) hq) (.inr hu) h
  show wpAny _ _ (Builtin.Dict.dictSlotArgs "__eq__" ⟨[.ref a, .int b u], []⟩ >>= _) _ _ s
  refine wpAny_bind ?_
  unfold Builtin.Dict.dictSlotArgs
  refine wpAny_bind (wpAny_notOrdered_dict hT ?_)
  show wpAny _ _ (pure (Value.ref a, Value.int b u)) _ _ s
  refine wpAny_pure ?_
  refine wpAny_bind (wpAny_isInstance (T := "int") (typeIs_int s b u) F.sub_int_dict ?_)
  simp only [Bool.not_false, if_true]
  exact wpAny_bind (wpAny_rule (wpAny_pure ⟨_, rfl, hq⟩))
end
def plainV (H : Hp) (x : V) : Prop := sca x = true ∨ ∃ a, x = .ref a ∧ ((∃ xs, H a = some (.lst xs)) ∨ (∃ xs, H a = some (.tup xs)) ∨ ∃ kvs : List (Key × V), H a = some (.dK kvs))
def rEqA (C : Addr) (sp : Sp) : R2 := fun x y H Q => ∃ n : Int, y = .int n ∧ ((plainV H x ∧ ∀ r : Bool, Q (.bl r) H) ∨
  ∃ a dx fs, x = .ref a ∧ H a = some (.ins C dx fs) ∧ sp [.ref a, .int n] H (fun v H' => ∃ r, v = .bl r ∧ Q (.bl r) H') (fun _ _ _ => False))
theorem int_apart (K : PySem.W.Frag) (C : Addr) : PySem.W.notFirst K C (.type "int") = true := by
  have e : PySem.W.subIn K (.type "int") (.ref C) = some false := by
    have e2 : PySem.fastBuiltinMro "int" = some [.type "int", .type "object"] := by decide +kernel
    show (PySem.fastBuiltinMro "int").map (·.contains (Value.ref C)) = some false
    rw [e2]
    rfl
  unfold PySem.W.notFirst
  rw [e]
  rfl
theorem op_eqA {X : Cx} {C f : Addr} {fd : FuncData} {ps : List Str} {sp : Sp} {n : Nat} (O : OwnQ X.K C f) (F : FnOk X.prog X.w X.K X.mg X.base CX0 n f fd ps sp) (hb : Binds X.K fd ps []) (hr : Room n X.A) : OpR X (compareOp .Eq) (rEqA C sp) := by
  intro pins s σ H x y v u Q I rx ry h
  obtain ⟨n, rfl, h⟩ := h
  obtain ⟨t, rfl⟩ := ry
  show wpAny (model X.prog X.w) X.A (richCompare .Eq v (.int n t)) (EP X pins σ Q) X.xe s
  rcases h with ⟨hp, q⟩ | ⟨a, dx, fs, rfl, ha, hsp⟩
  · have fin : ∀ r : Bool, EP X pins σ Q (.bool r) s := fun r => ⟨.bl r, H, I, rfl, q r⟩
    rcases hp with hs | ⟨a, rfl, ⟨xs, ha⟩ | ⟨xs, ha⟩ | ⟨kvs, ha⟩⟩
    · cases x with
      | non =>
        cases (show v = Value.none from rx)
        exact RcAt.none_int n t _ _ _ _ (fin _)
      | bl b =>
        cases (show v = Value.bool b from rx)
        exact RcAt.bool_int b n t _ _ _ _ (fin _)
      | int i =>
        obtain ⟨t', rfl⟩ := rx
        exact RcAt.int_int i t' n t _ _ _ _ (fin _)
      | str z =>
        obtain ⟨t', rfl⟩ := rx
        exact RcAt.str_int z t' n t _ _ _ _ (fin _)
      | _ => cases hs
    · cases rx
      obtain ⟨its, r, ht, hz⟩ := I.list (SqL.of ha)
      exact RcAt.list_int n t ht.isList hr.units0 _ _ _ _ (fin _)
    · cases rx
      obtain ⟨its, r, ht, hz⟩ := I.tuple (SqT.of ha)
      exact RcAt.tuple_int n t (isTuple_of ht) hr.units0 _ _ _ _ (fin _)
    · cases rx
      obtain ⟨_, _, vs, _, hd⟩ := (show ObjOk X.prog X.w H s.heap a (.dK kvs) from I.hok a _ ha)
      obtain ⟨o', ho', hc'⟩ := id hd.typeIs
      obtain ⟨o, es, ep, ho, _, hd2, _⟩ := hd
      rw [ho] at ho'
      cases ho'
      exact rc_dict_int ho hc' ⟨es, ep, hd2⟩ hr.units0 (fin _)
  · cases rx
    obtain ⟨mA, J, _⟩ := ins_get I.hok ha
    obtain ⟨od, J, _⟩ := J.look
    obtain ⟨m, hF⟩ := I.fr
    have r2 : Vals [V.ref a, V.int n] [Value.ref a, Value.int n t] := .cons rfl (.cons ⟨_, rfl⟩ .nil)
    have back : wpAny (model X.prog X.w) X.A (call (.ref f) [.ref a, .int n t]) (PySem.W.CmpBack (EP X pins σ Q)) X.xe s := by
      refine thn (run_fn F hr hb .nil pass0 I r2 hsp) fun w' s' ⟨z, H', I', rz, r, ez, q⟩ => ?_
      subst ez
      cases rz
      exact ⟨.bl r, H', I', rfl, q⟩
    exact PySem.W.cmp_K (op := .Eq) (tb := .type "int") hr.units0 hF I.ok.mod.kin J (fun A Q E s k q => wpAny_typeOf (typeIs_int _ n t) q) (int_apart X.K C) O.s O.fn back
/-! {i: v} -/
theorem x_disp0 {H : Hp} {Q : VK} {σ : L2.St} {i : Int} {v : V} {tv : TE} (hv : ∀ (G : Hp) (R : VK), R v G → tv σ G R) (q : ∀ p, H p = none → Q (.ref p) (upd H p (.dK [(.inl i, v)]))) : tDisp [(tC (.int i), tv)] σ H Q := fun p hp =>
  hv _ _ ⟨upd_same, [(.inl i, v)], rfl, by show 1 ≤ 15; decide, by rw [upd_upd]; exact q p hp⟩
section
variable {H : Hp} {Q : VK} {xs : List V} {kvs : List (Key × V)}
theorem lstH (h : ∀ p G, Same H G → H p = none → G p = some (.lst xs) → Q (.ref p) G) : ∀ p, H p = none → Q (.ref p) (upd H p (.lst xs)) := fun p hp => h p _ (same_new (Same.refl _) hp) hp upd_same
theorem tupH (h : ∀ p G, Same H G → H p = none → G p = some (.tup xs) → Q (.ref p) G) : ∀ p, H p = none → Q (.ref p) (upd H p (.tup xs)) := fun p hp => h p _ (same_new (Same.refl _) hp) hp upd_same
theorem dKH (h : ∀ p G, Same H G → H p = none → G p = some (.dK kvs) → Q (.ref p) G) : ∀ p, H p = none → Q (.ref p) (upd H p (.dK kvs)) := fun p hp => h p _ (same_new (Same.refl _) hp) hp upd_same
end
end Fv
set_option maxRecDepth 100000
set_option maxHeartbeats 2000000
namespace Fv
open PySem PySem.Spec PyProof.Rows L2
/-! a try whose first clause takes all that its body raises -/
theorem upSlots_of {h h' : Heap} (k : ∀ b o, h.get? b = some o → h'.get? b = some o) : h.UpToSlots h' := fun b o e _ => ⟨o.slots, k b o e⟩
theorem flying_of {B h h' : Heap} {l : List Env} {a : Addr} {Z : Obj → Prop} (k : ∀ b o, h.get? b = some o → h'.get? b = some o) (x : HandSPX.FlyingZ B l a Z h) : HandSPX.FlyingZ B l a Z h' := by
  obtain ⟨k1, k2, k3, oe, vs, T, oT, ts, t1, t2, t3, t4, t5, t6, t7, t8⟩ := x
  exact ⟨fun b o e => k _ _ (k1 b o e), k2, k3.of_keeps fun b o e _ => ⟨o, k _ _ e, rfl⟩, oe, vs, T, oT, ts, k _ _ t1, t2, t3, t4, t5, t6, k _ _ t7, t8⟩
theorem unframed {B h : Heap} {l : List Env} {a : Addr} {o : Obj} {vs : Array Value} (ff : h.FunFrames B l) (e : h.get? a = some o) (dd : o.data = .fields vs) : a ∉ frs l := fun hm => by
  obtain ⟨_, u, e', nf⟩ := ff.mem hm
  rw [e] at e'
  cases e'
  exact nf _ dd
/-- what is raised in the body, and is taken by the clause -/
def wAs1 (K : PySem.W.Frag) (c : Value) (i : Nat) (ts : Addr → Value → Option Addr → TS) (D : Ends) : WX := fun cls d σ H => PySem.W.exmOne K cls c = some true ∧ ∀ a, H a = none →
  ts a cls d { nx := fun σ' H' => D.nx (σ'.set i none) H', rt := D.rt, bk := fun σ' H' => D.bk (σ'.set i none) H', ct := fun σ' H' => D.ct (σ'.set i none) H' } (σ.set i (some (.ref a))) H
section
variable {X : Cx} {x n : Str} {c : Value} {i : Nat} {body suite : List Stmt} {b₀ : Stmt} {np pos pos' : Pos} {tb : WX → TS} {ts : Addr → Value → Option Addr → TS} {hds : List ExceptHandler}
theorem sp_untry {xe : Value → Shared → Prop} {pins : List (Addr × Obj)} {D : Ends} {f : Flow} {s1 : Shared} (ok : X.Ok) (h : SP (X.tr (X.pn ++ pins) xe) [] D f s1) : SP X pins D f s1 := by
  cases f with
  | next =>
    obtain ⟨σ', H', J, q⟩ := h
    exact ⟨σ', H', J.ofTry ok, q⟩
  | brk =>
    obtain ⟨σ', H', J, q⟩ := h
    exact ⟨σ', H', J.ofTry ok, q⟩
  | cont =>
    obtain ⟨σ', H', J, q⟩ := h
    exact ⟨σ', H', J.ofTry ok, q⟩
  | ret u =>
    obtain ⟨v, σ', H', J, r, q⟩ := h
    exact ⟨v, σ', H', J.ofTry ok, r, q⟩
theorem ps_try_as1 (hs : X.stack = X.env :: X.outer) (hf : X.env.frame = some X.env.locals) (hN : X.N.Nodup) (hi : X.N[i]? = some n) (hln : X.env.kindOf n = some .local) (hc : Names X x c)
    (hb : ∀ (W : WX) (pn : List (Addr × Obj)) (xe : Value → Shared → Prop), L2.Takes (X.tr pn xe) W → PassesOwn (model X.prog X.w) X.A X.env xe → PSs (X.tr pn xe) body (tb W))
    (hsu : ∀ (a : Addr) (oe : Obj) (cls : Value) (d : Option Addr) (pn : List (Addr × Obj)), Zc cls d oe → (∃ vs, oe.data = .fields vs) → PSs (X.suite a ((a, oe) :: pn)) (b₀ :: suite) (ts a cls d)) :
    PS X (.Try body (.ExceptHandler (some (.Name x np)) (some n) (b₀ :: suite) pos' :: hds) [] [] pos) (fun D σ H => tb (wAs1 X.K c i ts D) D σ H) := by
  constructor
  intro pins s σ H D I h
  have ok := I.ok
  have fr : X.A.frames = some (X.env :: X.outer) := ok.frames.trans (by rw [hs])
  refine wpAny_Try_except (wpAny_mono ((hb (wAs1 X.K c i ts D) (X.pn ++ pins) (fun e s₁ => wpAny (model X.prog X.w) X.A (noteFrame e X.env) (fun _ s₂ => wpAny (model X.prog X.w) X.A (setFlight e none) (fun _ s₃ =>
    wpAny (model X.prog X.w) X.A (handleBy e X.env (.ExceptHandler (some (.Name x np)) (some n) (b₀ :: suite) pos' :: hds)) (SP X pins D) X.xe s₃) X.xe s₂) X.xe s₁) (fun u s' xx => ?_) PassesOwn.looking).run [] s σ H D (I.toTry _) h) (fun f s1 hsp => ?_) (fun _ _ he => he))
  · obtain ⟨a, B, sI, ps', σ', H', cls, d, rfl, J', nb, up, sky, na, os, ag, hit, hyes⟩ := xx
    have J : Inv X pins σ' H' sI := J'.ofTry ok
    rw [show (X.tr (X.pn ++ pins) _).stack = X.env :: X.outer from hs] at sky
    refine Sky.land (L := X.env.locals) Zc.steady fr hf sky fun h3 fl3 up3 => ?_
    obtain ⟨o3, v3, g3, z3, d3⟩ := fl3.there
    have J3 : Inv X pins σ' H' { s' with heap := h3 } := J.landed nb fl3.1 (up.trans up3) os ag
    have nfr := unframed fl3.2.2.1 g3 d3
    have nL : a ≠ X.env.locals := fun z => nfr (List.mem_filterMap.mpr ⟨X.env, List.mem_cons_self, by rw [hf, z]⟩)
    have nF : a ∉ X.fs := fun hm => by
      obtain ⟨e, he, q⟩ := List.mem_filterMap.mp hm
      exact nfr (List.mem_filterMap.mpr ⟨e, List.mem_cons_of_mem _ he, q⟩)
    have S3 := J3.suite g3 d3 na nL nF
    have ty : PySem.W.Looks (model X.prog X.w) h3 (typeOf (.ref a)) cls := fun A Q E s k q => wpAny_typeOf_ref (k _ _ g3) (by rw [z3.1]; exact q)
    have mt := PySem.W.exm_one (M := model X.prog X.w) J3.kIn ty hit
    have nm : ∀ {Q : Value → Shared → Prop} {E : Value → Shared → Prop}, Q c { s' with heap := h3 } → wpAny (model X.prog X.w) (X.A.mark (some (.ref a))) (eval (.Name x np) X.env) Q E { s' with heap := h3 } := fun {Q E} q => by
      rcases hc with ⟨hg, hd, hm | ⟨hm, hv, hn⟩⟩
      · exact ld_glob (X := X.suite a ((a, o3) :: (X.pn ++ pins))) S3 hg hm q hd
      · exact ld_blt (X := X.suite a ((a, o3) :: (X.pn ++ pins))) S3 hg hm hv q hn hd
    refine wpAny_handleBy_cons (codeAny_handlers_test (nm (mt.here ?_))) (by intro q; cases q)
    refine codeAny_handlers_suite_as (HandSPX.lands_againZ fl3 fun h4 fl4 up4 => ?_)
    obtain ⟨o4, v4, g4, z4, d4⟩ := fl4.there
    have J4 : Inv X pins σ' H' { s' with heap := h4 } := J.landed nb fl4.1 ((up.trans up3).trans up4) os ag
    have S4 := J4.suite g4 d4 na nL nF
    refine store_ok (X := X.suite a ((a, o4) :: (X.pn ++ pins))) (v := .ref a) S4 hN hi (.inl hln) rfl (fun s5 S5 => ?_) (.inr hln)
    refine wpAny_mono ((hsu a o4 cls d (X.pn ++ pins) z4 ⟨_, d4⟩).run [] s5 _ H' _ S5 (hyes a na)) (fun f s6 hsp => ?_) (fun _ _ z => z.elim)
    have fin : ∀ {σ6 : L2.St} {H6 : Hp} {Q : Shared → Prop}, Inv (X.suite a ((a, o4) :: (X.pn ++ pins))) [] σ6 H6 s6 → (∀ s7, Inv X pins (σ6.set i none) H6 s7 → Q s7) →
        wpAny (model X.prog X.w) X.A (do bindName X.env n .none; unbindBehindTheSuite X.env n pos') (fun _ s7 => Q s7) X.xe s6 := fun S6 hq => gone_ok (S6.unsuite ok) hN hi hln hq
    cases f with
    | next =>
      obtain ⟨σ6, H6, S6, q6⟩ := hsp
      exact fin S6 fun _ J7 => ⟨_, _, J7, q6⟩
    | brk =>
      obtain ⟨σ6, H6, S6, q6⟩ := hsp
      exact fin S6 fun _ J7 => ⟨_, _, J7, q6⟩
    | cont =>
      obtain ⟨σ6, H6, S6, q6⟩ := hsp
      exact fin S6 fun _ J7 => ⟨_, _, J7, q6⟩
    | ret u =>
      obtain ⟨v6, σ6, H6, S6, r6, q6⟩ := hsp
      exact fin S6 fun _ J7 => ⟨_, _, _, J7, r6, q6⟩
  · have hsp' := sp_untry ok hsp
    cases f with
    | next => exact wpAny_execs_nil hsp'
    | brk => exact hsp'
    | cont => exact hsp'
    | ret u => exact hsp'
end
/-! except (A, B, C): a suite that may raise -/
def wTup3 (K : PySem.W.Frag) (c1 c2 c3 : Value) (ts : Addr → Value → Option Addr → TS) (D : Ends) : WX := fun cls d σ H => PySem.W.exmAny K cls [c1, c2, c3] = some true ∧ ∀ a, H a = none → ts a cls d D σ H
section
variable {X : Cx} {x1 x2 x3 : Str} {c1 c2 c3 : Value} {body suite : List Stmt} {b₀ : Stmt} {n1 n2 n3 tpos pos pos' : Pos} {k : Nat} {tb : WX → TS} {ts : Addr → Value → Option Addr → TS} {hds : List ExceptHandler} {Wout : WX}
theorem ps_try_tup3 (hs : X.stack = X.env :: X.outer) (hf : X.env.frame = some X.env.locals) (w1 : Names X x1 c1) (w2 : Names X x2 c2) (w3 : Names X x3 c3) (hpa : ∀ hd : Option Value, PassesOwnAt (model X.prog X.w) (X.A.mark hd) X.A X.env X.xe) (tk : L2.Takes X Wout)
    (hb : ∀ (W : WX) (pn : List (Addr × Obj)) (xe : Value → Shared → Prop), L2N.Takes (X.tr pn xe) W → PassesOwn (model X.prog X.w) X.A X.env xe → PSs (X.tr pn xe) body (tb W))
    (hsu : ∀ (a : Addr) (oe : Obj) (cls : Value) (d : Option Addr) (pn : List (Addr × Obj)), L2N.Zn cls d oe → (∃ vs, oe.data = .fields vs) → L2.Takes (L2H.suiteX X a ((a, oe) :: pn)) Wout → L2H.HotC (L2H.suiteX X a ((a, oe) :: pn)) →
      PSs (L2H.suiteX X a ((a, oe) :: pn)) (b₀ :: suite) (ts a cls d))
    (ha : starEach [.Name x1 n1, .Name x2 n2, .Name x3 n3] X.env = [(false, eval (.Name x1 n1) X.env), (false, eval (.Name x2 n2) X.env), (false, eval (.Name x3 n3) X.env)] := by rfl) :
    PS X (.Try body (.ExceptHandler (some (.Tuple [.Name x1 n1, .Name x2 n2, .Name x3 n3] k tpos)) none (b₀ :: suite) pos' :: hds) [] [] pos) (fun D σ H => tb (wTup3 X.K c1 c2 c3 ts D) D σ H) := by
  constructor
  intro pins s σ H D I h
  have ok := I.ok
  have fr : X.A.frames = some (X.env :: X.outer) := ok.frames.trans (by rw [hs])
  refine wpAny_Try_except (wpAny_mono ((hb (wTup3 X.K c1 c2 c3 ts D) (X.pn ++ pins) (fun e s₁ => wpAny (model X.prog X.w) X.A (noteFrame e X.env) (fun _ s₂ => wpAny (model X.prog X.w) X.A (setFlight e none) (fun _ s₃ =>
    wpAny (model X.prog X.w) X.A (handleBy e X.env (.ExceptHandler (some (.Tuple [.Name x1 n1, .Name x2 n2, .Name x3 n3] k tpos)) none (b₀ :: suite) pos' :: hds)) (SP X pins D) X.xe s₃) X.xe s₂) X.xe s₁) (fun u s' xx => ?_) PassesOwn.looking).run [] s σ H D (I.toTry _) h) (fun f s1 hsp => ?_) (fun _ _ he => he))
  · obtain ⟨a, B, sI, ps', σ', H', cls, d, rfl, J', nb, up, sky, na, os, ag, hit, hyes⟩ := xx
    have J : Inv X pins σ' H' sI := J'.ofTry ok
    rw [show (X.tr (X.pn ++ pins) _).stack = X.env :: X.outer from hs] at sky
    refine L2N.Sky.land (L := X.env.locals) L2N.Zn.steady fr hf sky fun h3 fl3 up3 => ?_
    obtain ⟨o3, v3, g3, z3, d3⟩ := fl3.there
    have J3 : Inv X pins σ' H' { s' with heap := h3 } := J.landed nb fl3.1 (up.trans up3) os ag
    have nfr := unframed fl3.2.2.1 g3 d3
    have nL : a ≠ X.env.locals := fun z => nfr (List.mem_filterMap.mpr ⟨X.env, List.mem_cons_self, by rw [hf, z]⟩)
    have nF : a ∉ X.fs := fun hm => by
      obtain ⟨e, he, q⟩ := List.mem_filterMap.mp hm
      exact nfr (List.mem_filterMap.mpr ⟨e, List.mem_cons_of_mem _ he, q⟩)
    have S3 := J3.suite g3 d3 na nL nF
    have nm : ∀ {x : Str} {c : Value} {p : Pos} {Q : Value → Shared → Prop} {E : Value → Shared → Prop}, Names X x c → Q c { s' with heap := h3 } → wpAny (model X.prog X.w) (X.A.mark (some (.ref a))) (eval (.Name x p) X.env) Q E { s' with heap := h3 } := fun {x c p Q E} hc q => by
      rcases hc with ⟨hg, hd, hm | ⟨hm, hv, hn⟩⟩
      · exact ld_glob (X := X.suite a ((a, o3) :: (X.pn ++ pins))) S3 hg hm q hd
      · exact ld_blt (X := X.suite a ((a, o3) :: (X.pn ++ pins))) S3 hg hm hv q hn hd
    have ext : ∀ b o, h3.get? b = some o → (h3.push { cls := .type "tuple", data := .seq [c1, c2, c3].toArray }).get? b = some o := fun b o e => Heap.get?_push_of_some _ e
    have ty : PySem.W.Looks (model X.prog X.w) (h3.push { cls := .type "tuple", data := .seq [c1, c2, c3].toArray }) (typeOf (.ref a)) cls := fun A Q E s k q => wpAny_typeOf_ref (k _ _ (ext _ _ g3)) (by rw [z3.1]; exact q)
    have mt := PySem.W.exm_tup3 (M := model X.prog X.w) (J3.kIn.keeps ext) ty (Heap.get?_push_size h3 rfl) hit
    have flX := flying_of ext fl3
    refine wpAny_handleBy_cons (codeAny_handlers_test (wpAny_Tuple_spliced ?_)) (by intro q; cases q)
    rw [ha]
    refine Calls.spliced_cons (nm w1 (Calls.spliced_cons (nm w2 (Calls.spliced_cons (nm w3 (Calls.spliced_nil ⟨by show 3 ≤ sizeLine; decide, mt.here ?_⟩))))))
    refine codeAny_handlers_suite (HandSPX.lands_againZ flX fun h4 fl4 up4 => ?_)
    obtain ⟨o4, v4, g4, z4, d4⟩ := fl4.there
    have J4 : Inv X pins σ' H' { s' with heap := h4 } := J.landed nb fl4.1 (((up.trans up3).trans (upSlots_of ext)).trans up4) os ag
    have S4 := J4.suite g4 d4 na nL nF
    have tkS : L2.Takes (L2H.suiteX X a ((a, o4) :: (X.pn ++ pins))) Wout := fun u2 s2 ⟨a2, B2, t2, p2, σ2, H2, c2, e2, q1, q2, q3, q4, q5, q6, q7, q8, q9⟩ => tk u2 s2 ⟨a2, B2, t2, pins, σ2, H2, c2, e2, q1, L2H.unsuiteX q2 ok, q3, q4, q5, q6, q7, q8, q9⟩
    have hot : L2H.HotC (L2H.suiteX X a ((a, o4) :: (X.pn ++ pins))) := ⟨(a, o4), ⟨rfl, v4, d4, z4.2.2 v4 d4⟩, List.mem_cons_self⟩
    refine wpAny_mono ((hsu a o4 cls d (X.pn ++ pins) z4 ⟨_, d4⟩ tkS hot).run [] _ _ H' _ (L2H.suiteX_of S4) (hyes a na)) (fun f s6 hsp => ?_) (fun e6 s6 z => hpa (some (.ref a)) e6 s6 z)
    cases f with
    | next =>
      obtain ⟨σ6, H6, S6, q6⟩ := hsp
      exact ⟨_, _, L2H.unsuiteX S6 ok, q6⟩
    | brk =>
      obtain ⟨σ6, H6, S6, q6⟩ := hsp
      exact ⟨_, _, L2H.unsuiteX S6 ok, q6⟩
    | cont =>
      obtain ⟨σ6, H6, S6, q6⟩ := hsp
      exact ⟨_, _, L2H.unsuiteX S6 ok, q6⟩
    | ret u =>
      obtain ⟨v6, σ6, H6, S6, r6, q6⟩ := hsp
      exact ⟨_, _, _, L2H.unsuiteX S6 ok, r6, q6⟩
  · have hsp' := sp_untry ok hsp
    cases f with
    | next => exact wpAny_execs_nil hsp'
    | brk => exact hsp'
    | cont => exact hsp'
    | ret u => exact hsp'
end
end Fv
set_option maxRecDepth 100000
set_option maxHeartbeats 1000000
namespace Fv
open PySem PySem.Spec PyProof.Rows L2
/-- C(), C an error's class that says super().__init__(): its context is None -/
theorem pmk_supN {X : Cx} {C fI : Addr} {x : Str} {p pos : Pos} (T : SupC X.prog X.K C fI) (hr : Room 1 X.A) (hg : Gl X x) (hm : X.mg x = some (.ref C)) (hs : X.mg "super" = none) (hdb : (x == ("__debug__" : Str)) = false := by decide) :
    L2N.PMk X (.Call (.Name x p) [] [] pos) (fun _ H Q => Q (.ref C) none H) := by
  intro pins s σ H Q I h
  refine wpAny_Call_Name_kw (ld_glob I hg hm ?_ hdb)
  refine PySem.W.callWith_K0 I.kIn T.x.kC ?_
  obtain ⟨mb, hb1, hb2⟩ := I.mod.blt
  have hlim := I.nolimit
  have hgl : s.heap.Ns mainGlobals X.mg := I.mod.glob.keeps I.bk
  have hbl : s.heap.Ns builtinsNs mb := hb1.keeps I.bk
  obtain ⟨hp, g, d, t, os⟩ := s
  refine wpAny_call (sup_made T I.kIn hlim hgl hs hbl ((hb2 "super" (by decide)).trans (by first | rfl | decide +kernel | kernel_rfl)) (by have := hr.dp; omega) fun h' tk' e t1 k ge hx => ?_)
  obtain ⟨G', g1, g2⟩ := restrict h' fun b => decide (b ≠ e)
  have gk : ∀ b, b ≠ e → G'.get? b = h'.get? b := fun b hb => g1 b (decide_eq_true hb)
  have g0 : G'.get? e = none := g2 e (by simp)
  have old : ∀ b o, hp.get? b = some o → G'.get? b = some o := fun b o q => (gk b (Nat.ne_of_lt (Nat.lt_of_lt_of_le (Heap.lt_size q) ge))).trans (k b o q)
  have J : Inv X pins σ H ⟨G', g, d, tk', os⟩ := I.kept (t' := tk') old
  refine ⟨e, _, _, ⟨G', g, d, tk', os⟩, H, .ref C, none, rfl, J, fun b o q => ?_, g0, hx, ⟨rfl, rfl, fun vs hv => by cases hv; rfl⟩, rfl, rfl, I.hok.fresh ge, rfl, I.bare, raises_own T.x.exC T.x.tyC, h⟩
  by_cases hb : b = e
  · have q' : G'.get? b = some o := q
    rw [hb, g0] at q'
    cases q'
  · exact (gk b hb).symm.trans q
theorem passLenN {X : Cx} {W : WX} {n : Nat} (tk : L2N.Takes X W) (hn : X.N.length = n) : Passes (L2N.CX X.prog X.w) X (fun cls d H => ∀ σ : L2.St, σ.length = n → W cls d σ H) := fun pins σ H s e s' I c => by
  refine L2N.passAt tk σ pins H s e s' I ?_
  obtain ⟨a, B, H', cls, d, h1, h2, h3, h4, h5, h6, h7, h8⟩ := c
  exact ⟨a, B, H', cls, d, h1, h2, h3, h4, h5, h6, h7, h8 σ (I.len.trans hn)⟩
section
variable {P : Program} {w : World} {K : PySem.W.Frag} {mg : Str → Option Value} {base : Heap}
/-- a def that may raise, the errors' contexts being None -/
theorem okN {x qual : Str} {st : Stmt} {f : Addr} {fd : FuncData} {N ps : List Str} {k : Nat} {sp : Sp} (F : Fun K x qual st f fd) (S : FnScope N ps (defScope st)) (len : ∀ vs H Q E, sp vs H Q E → vs.length = ps.length)
    (hbody : ∀ (cdv : Value) (A : Around) (outer : List Env) (s : Shared) (H : Hp) (vs : List V) (Q : VK) (E : XK), Room k (A.deeper (envOfC qual (defScope st) s.heap.objs.size f cdv)) → sp vs H Q E →
      ∃ t, PSs (cxOf (L2N.CX P w) P w K mg base N qual (defScope st) f cdv A outer s H E) (defBody st) t ∧ t { nx := fun _ H' => Q .non H', rt := Q } (L2.start N vs) H) : FnOk P w K mg base (L2N.CX P w) (k + 1) f fd ps sp := by
  obtain ⟨oc, od, kV, doc, pm, an, cdv, ct, osl, rfl, lk, hcd⟩ := F.ex
  exact fn_of lk hcd S len fun A outer s H vs Q E hr hsp => hbody cdv A outer s H vs Q E hr hsp
/-- a def called while an exception is handled -/
theorem okH {x qual : Str} {st : Stmt} {f : Addr} {fd : FuncData} {N ps : List Str} {k : Nat} {sp : Sp} (F : Fun K x qual st f fd) (S : FnScope N ps (defScope st)) (len : ∀ vs H Q E, sp vs H Q E → vs.length = ps.length)
    (hbody : ∀ (cdv : Value) (A : Around) (outer : List Env) (s : Shared) (H : Hp) (vs : List V) (Q : VK) (E : XK) (p : Addr × Obj), sp vs H Q E →
      ∃ t, PSs (L2H.cxH CX0 P w K mg base N qual (defScope st) f cdv A outer s H E p) (defBody st) t ∧ t { nx := fun _ H' => Q .non H', rt := Q } (L2.start N vs) H) : L2H.FnH P w K mg base CX0 (k + 1) f fd ps sp := by
  obtain ⟨oc, od, kV, doc, pm, an, cdv, ct, osl, rfl, lk, hcd⟩ := F.ex
  exact L2H.fn_ofH lk hcd S len fun A outer s H vs Q E p _ _ hsp => hbody cdv A outer s H vs Q E p hsp
end
theorem x_callS {sp : Sp} {E : L2.St → XK} {t : TA} {σ : L2.St} {H : Hp} {Q : VK} (h : t σ H fun vs H1 => sp vs H1 Q (E σ)) : tCallS sp E t σ H Q := h
end Fv
set_option maxRecDepth 100000
set_option maxHeartbeats 4000000
namespace L2
open PySem PySem.Spec PyProof.Rows
/-! ### set(xs) of a list of ints, so that it can be walked -/
section
variable {P : Program} {w : World} {A : Around} {E : Value → Shared → Prop} {s : Shared}
set_option maxHeartbeats 3200000 in
theorem lset_call {l : Addr} {items : Array Value} (ns : List Int) {Q : Value → Shared → Prop} (hh : A.handled = none) (hl : s.heap.IsList l items) (hit : IntsAre items.toList ns) (hb : ns.length + 1 < scanBound)
    (h : ∀ (h' : Heap) (tk c : Nat), SetR w h' s.heap.objs.size (fun j => decide (j ∈ ns)) c → c ≤ ns.length → (∀ b o, s.heap.get? b = some o → h'.get? b = some o) → Q (.ref s.heap.objs.size) { s with heap := h', toks := tk }) :
    wpAny (model P w) A (call (.type "set") [.ref l]) Q E s := by
  have hn : items.size = ns.length := by rw [← Array.length_toList]; exact IntsAre.length hit
  obtain ⟨c, tl, hmro⟩ := F.called_set.mro
  have hmade := F.called_set.made
  have hsub := F.called_set.sub
  have h1 := F.called_set.notType
  have h2 := F.called_set.canCreate
  have hct := F.typeCall_set_1 (.ref l)
  refine wpAny_call (codeAny_of_tree ?_)
  show wpAny _ _ (callAny (.type "set") _) _ _ _
  refine wpAny_pure ⟨Code.quiet_builtin _ (by decide +kernel), codeAny_builtin F.entry_type_call ?_⟩
  rw [Around.under_plain (weight_type_call_type "set" [.ref l] []) rfl]
  repeat (any_goals (first | assumption | wp_step))
  generalize ho : ({ cls := .type "set", dict := none, data := .set #[] 0 (.fresh 0 0 (!w.params.followText "set-order")) } : Obj) = ob
  refine codeAny_mono (code_set_led1 (.ref l) (E := E) (Q₁ := fun x t => x = .ref s.heap.objs.size ∧ t = { s with heap := s.heap.push ob }) ⟨rfl, by rw [ho]⟩) fun r t hr => ?_
  cases r with
  | error e => exact hr
  | ok fl =>
    cases fl with
    | ret x =>
      obtain ⟨rfl, rfl⟩ := hr
      have hS : (s.heap.push ob).get? s.heap.objs.size = some ob := Heap.get?_push_size _ (by rw [← ho]; rfl)
      have hT : Shared.TypeIs { s with heap := s.heap.push ob } (.ref s.heap.objs.size) "set" := ⟨_, hS, by rw [← ho]⟩
      have hli := F.called_set.init.lookup
      have hbi := F.called_set.init.bind (.ref s.heap.objs.size)
      repeat (any_goals (first | assumption | wp_step))
      refine codeAny_mono (codeAny_call_builtin (R := wants (fun r t => r = .none ∧ ∃ h' tk c, t = { s with heap := h', toks := tk } ∧ SetR w h' s.heap.objs.size (fun j => decide (j ∈ ns)) c ∧ c ≤ ns.length ∧
          (∀ b o, s.heap.get? b = some o → h'.get? b = some o)) E) F.called_set.init.plain F.entry_set_init (check_set_init_1 hT ?_)) fun r2 t2 hr2 => ?_
      · have hl0 : (s.heap.push ob).IsList l items := hl.push _
        obtain ⟨ol, hol, hcl, nl, hdl⟩ := hl
        obtain ⟨ocls, odict, odata, oslots⟩ := ol
        simp only at hcl hdl
        subst hcl hdl
        have hol' : (s.heap.push ob).get? l = some { cls := .type "list", dict := odict, data := .seq items nl, slots := oslots } := Heap.get?_push_of_some _ hol
        have e1 := F.sub_list_set
        have e2 := F.sub_list_frozenset
        have hne : (Value.type "list" == Value.type "dict") = false := by decide
        have lt : l < s.heap.objs.size := Heap.lt_size hol
        have sz : (s.heap.push ob).objs.size = s.heap.objs.size + 1 := Heap.size_push ..
        have hneI : l ≠ (s.heap.push ob).objs.size := by rw [sz]; exact Nat.ne_of_lt (Nat.lt_succ_of_lt lt)
        have hSf : s.heap.objs.size ∉ [(s.heap.push ob).objs.size, l] := by
          rw [sz]
          simp only [List.mem_cons, List.not_mem_nil, or_false, not_or]
          exact ⟨Nat.ne_of_lt (Nat.lt_succ_self _), Nat.ne_of_gt lt⟩
        have hh3 : A.in1.in1.in1.handled = none := by simp [hh]
        subst ho
        unfold Builtin.«set.__init__» noKeywords Builtin.Frozenset.updateFrom
        generalize hPI : pyIter = PI
        wp_walk
        subst hPI
        refine wpAny_pyIter_list hl0 ?_
        refine wpAny_bind (wpAny_runValue ?_)
        have hv : ∀ (i : Nat) (v : Value), items[i]? = some v → ∃ k t, ns[i]? = some k ∧ v = .int k t := fun i v hv => by
          have hi : i < ns.length := by rw [← hn]; exact (Array.getElem?_eq_some_iff.mp hv).1
          obtain ⟨t, e⟩ := IntsAre.int_at hit i v (by rw [Array.getElem?_toList]; exact hv)
          refine ⟨ns[i], t, List.getElem?_eq_getElem hi, ?_⟩
          rw [e, List.getD_eq_getElem?_getD, List.getElem?_eq_getElem hi] <;> rfl
        refine set_update_ints ((Walks.list hh3 _ l hneI items).toS) s.heap.objs.size hSf ns hn hb hv (items.size - 0) 0 _ (by omega) (Nat.zero_le _) ⟨⟨_, Heap.get?_push_size _ rfl, rfl, rfl⟩, hl0.push _⟩ ?hZero ?hRest
        case hZero => exact ⟨0, Nat.le_refl 0, setR_new_at (Heap.get?_push_of_some _ hS)⟩
        case hRest =>
          intro t' c' hm hc' hS'
          obtain ⟨h', g2, d', tk', os'⟩ := t'
          obtain rfl : g2 = s.gens := hm.gens
          obtain rfl : d' = s.drawn := hm.drawn
          obtain rfl : os' = s.os := hm.os
          show wpAny _ _ _ _ _ _
          refine wpAny_pure ?_
          show wpAny _ _ (ret Value.none) _ _ _
          rw [hn] at hc'
          refine wpAny_pure ⟨rfl, h', tk', c', rfl, hS', hc', fun b o e => ?_⟩
          have hb0 : b < s.heap.objs.size := Heap.lt_size e
          refine hm.heap b o ?_ (Heap.get?_push_of_some _ (Heap.get?_push_of_some _ e))
          rw [sz]
          simp only [List.mem_cons, List.not_mem_nil, or_false, not_or]
          exact ⟨Nat.ne_of_lt hb0, Nat.ne_of_lt (Nat.lt_succ_of_lt hb0)⟩
      · cases r2 with
        | error e => exact hr2
        | ok fl2 =>
          cases fl2 with
          | ret r =>
            obtain ⟨rfl, h', tk, c', rfl, hS', hc', hk'⟩ := hr2
            repeat (any_goals (first | assumption | wp_step))
            exact h _ _ _ hS' hc' hk'
          | _ => exact hr2.elim
    | _ => exact hr.elim
end
section
variable {X : Cx}
/-- set(xs), xs a list of ints: a new set -/
def rSetLi (K : PySem.W.Frag) (w : World) : List V → Hp → VK → Prop := fun xs H Q => ∃ (l : Addr) (ns : List Int), xs = [.ref l] ∧ SqL K H l (ns.map V.int) ∧ ns.length < 60 ∧ ∀ p c, H p = none → c ≤ ns.length → Q (.ref p) (upd H p (SetO w p (fun j => decide (j ∈ ns)) c))
theorem cr_setLi (hc : X.calm = true) : CallR X (.type "set") (rSetLi X.K X.w) := by
  intro pins s σ H vs us Q I r h
  obtain ⟨l, ns, rfl, hl, h60, q⟩ := h
  rw [Vals.ref1 r]
  obtain ⟨its, rv, p, hz⟩ := I.list hl
  refine lset_call ns (I.ok.hd hc) p.isList (by rw [List.toList_toArray]; exact ints_of_vals rv) (by unfold scanBound; omega) fun h' tk c R hcn k => ?_
  exact ⟨.ref _, _, I.laid (t' := tk) k (Nat.le_refl _) (setO_new R), rfl, q _ _ (I.hok.fresh (Nat.le_refl _)) hcn⟩
end
end L2
set_option maxRecDepth 100000
set_option maxHeartbeats 1000000
namespace Fv
open PySem PySem.Spec PyProof.Rows L2
/-! errors of the package kept as values: made, asked of their class, their fields read -/
/-- v is an error of the class at C, made and not raised, its fields these -/
def ErV (H : Hp) (v : V) (C : Addr) (fs : List (Str × V)) : Prop := ∃ a, v = .ref a ∧ ((H a = some (exo a C none) ∧ fs = []) ∨ ∃ dx, H a = some (exo a C (some dx)) ∧ H dx = some (exd dx fs))
theorem ErV.same {H H' : Hp} {v : V} {C : Addr} {fs : List (Str × V)} (s : Same H H') (h : ErV H v C fs) : ErV H' v C fs := by
  obtain ⟨a, e, h⟩ := h
  refine ⟨a, e, ?_⟩
  rcases h with ⟨h, z⟩ | ⟨dx, h1, h2⟩
  · exact .inl ⟨s _ _ h, z⟩
  · exact .inr ⟨dx, s _ _ h1, s _ _ h2⟩
section
variable {X : Cx} {K : PySem.W.Frag}
/-- C(), kept -/
theorem pe_supV {C fI : Addr} {x : Str} {p pos : Pos} (T : SupC X.prog X.K C fI) (hr : Room 1 X.A) (hg : Gl X x) (hm : X.mg x = some (.ref C)) (hs : X.mg "super" = none) (hdb : (x == ("__debug__" : Str)) = false := by decide) :
    PE X (.Call (.Name x p) [] [] pos) (fun _ H Q => ∀ v H', Same H H' → ErV H' v C [] → Q v H') := by
  refine ⟨fun pins s σ H Q I h => ?_⟩
  refine wpAny_Call_Name_kw (ld_glob I hg hm ?_ hdb)
  refine PySem.W.callWith_K0 I.kIn T.x.kC ?_
  obtain ⟨mb, hb1, hb2⟩ := I.mod.blt
  have hlim := I.nolimit
  have hgl : s.heap.Ns mainGlobals X.mg := I.mod.glob.keeps I.bk
  have hbl : s.heap.Ns builtinsNs mb := hb1.keeps I.bk
  obtain ⟨hp, g, d, t, os⟩ := s
  refine wpAny_call (sup_made T I.kIn hlim hgl hs hbl ((hb2 "super" (by decide)).trans (by first | rfl | decide +kernel | kernel_rfl)) (by have := hr.dp; omega) fun h' tk' e t1 k ge hx => ?_)
  have hn : H e = none := I.hok.fresh ge
  have J : Inv X pins σ (upd H e (exo e C none)) ⟨h', g, d, tk', os⟩ := I.laid (t' := tk') k ge (exo_ok hx)
  exact ⟨.ref e, _, J, rfl, h _ _ (same_new (Same.refl _) hn) ⟨e, rfl, .inl ⟨upd_same, rfl⟩⟩⟩
/-- C(e, ..), C's own __init__ keeping sp, kept -/
def tMkV (C : Addr) (sp : Sp) (ta : TA) : TE := fun σ H Q => ta σ H fun vs H1 => vs.length ≤ 1000 ∧ ∀ a, H1 a = none → sp (.ref a :: vs) (upd H1 a (exo a C none)) (fun v H2 => v = .non ∧ Q (.ref a) H2) (fun _ _ _ => False)
theorem pe_oexV {CX : CXT} {x : Str} {C fI : Addr} {k : Nat} {fd : FuncData} {ps : List Str} {sp : Sp} {e : Expr} {es : List Expr} {ta : TA} {p pos : Pos} (T : OexC X.K C) (iC : PySem.W.findIn X.K (.ref C) "__init__" = some (some (.ref fI))) (tI : PySem.W.typeIn X.K (.ref fI) = some (.type "function"))
    (F1 : FnOk X.prog X.w X.K X.mg X.base CX k fI fd ps sp) (hr : Room (k + 1) X.A) (hb : L2.Binds X.K fd ps []) (hx : L2.Passes CX X (fun _ _ _ => False)) (hg : Gl X x) (hm : X.mg x = some (.ref C)) (ha : PA X (e :: es) ta)
    (hdb : (x == ("__debug__" : Str)) = false := by decide) (he : starEach (e :: es) X.env = (false, eval e X.env) :: starEach es X.env := by rfl) (hpl : (backTo pos (starEach es X.env)).any (·.1) = false := by rfl) :
    PE X (.Call (.Name x p) (e :: es) [] pos) (tMkV C sp ta) := by
  refine ⟨fun pins s σ H Q I h => ?_⟩
  obtain ⟨nm, q, N, bs, bm, sn, sub, ab, col, dd, k0, k1, k2, k3, k5, hC, hbm⟩ := T.cls
  refine wpAny_Call_Name_kw (ld_glob I hg hm ?_ hdb)
  refine PySem.W.callWith_K (h₀ := X.base) I.ok.mod.kin T.kC (thn (ha.run pos pins s σ H _ I h) fun us z ⟨vs, H1, I1, r1, hz, q1⟩ => ⟨I1.kIn, ?_⟩) he hpl
  show wpAny _ _ (call (.ref C) us) _ _ _
  obtain ⟨hp, g, dr, tk, os⟩ := z
  have le : hp.objs.size ≤ hp.objs.size + 1 := Nat.le_succ _
  have new : H1 (hp.objs.size + 1) = none := I1.hok.fresh le
  have hq := q1 (hp.objs.size + 1) new
  have kk : ∀ b o, hp.get? b = some o → ((hp.push (PySem.W.kdv_tup us)).push (PySem.HandSPX.excO C hp.objs.size)).get? b = some o := fun b o y => Heap.get?_push_of_some _ (Heap.get?_push_of_some _ y)
  have got : ((hp.push (PySem.W.kdv_tup us)).push (PySem.HandSPX.excO C hp.objs.size)).get? (hp.objs.size + 1) = some (PySem.HandSPX.excO C hp.objs.size) := by heap_get
  have J : Inv X pins σ (upd H1 (hp.objs.size + 1) (exo (hp.objs.size + 1) C none)) ⟨(hp.push (PySem.W.kdv_tup us)).push (PySem.HandSPX.excO C hp.objs.size), g, dr, tk, os⟩ := I1.laid (t' := tk) kk le (exo_ok got)
  have rr : Vals (V.ref (hp.objs.size + 1) :: vs) (Value.ref (hp.objs.size + 1) :: us) := .cons rfl r1
  have hl : (Value.ref (hp.objs.size + 1) :: us ++ []).length = ps.length := by
    rw [List.append_nil]
    have y := rr.length
    rw [F1.len _ _ _ _ hq] at y
    exact y.symm
  have us' : us.length ≤ sizeLine := by
    rw [← Paired.length r1, sizeLine_eq]
    omega
  have hbb := hb _ (Value.ref (hp.objs.size + 1) :: us) J.kIn hl
  rw [List.append_nil] at hbb
  refine wpAny_call (PySem.HandSPX.call_own F.excBase_ValueError (fun Y => PySem.HandSPX.refsVE_contains Y bm hbm) (I1.kIn _ _ hC) (PySem.W.looks_findIn I1.kIn iC) (fun self => PySem.W.bind_fn I1.kIn self tI) us'
    (codeAny_mono (F1.run _ X.stack _ _ ⟨Value.ref (hp.objs.size + 1) :: us, []⟩ (Value.ref (hp.objs.size + 1) :: us) _ _ (fun _ _ _ => False) (hr.make C us []) (J.env0.make C us []) hbb rr hq) fun r s' hq' => ?_))
  cases r with
  | error er => exact hx pins σ _ _ er s' J hq'
  | ok fl =>
    cases fl with
    | ret u =>
      have y := J.after (Q := fun v H2 => v = .non ∧ Q (.ref (hp.objs.size + 1)) H2) hq'
      obtain ⟨v, H2, J2, rv, ev, q2⟩ := y
      subst ev
      exact ⟨rv, .ref (hp.objs.size + 1), H2, J2, rfl, q2⟩
    | next => exact False.elim hq'
    | brk => exact False.elim hq'
    | cont => exact False.elim hq'
/-- isinstance(e, c), e such a value -/
def rIsV (K : PySem.W.Frag) : List V → Hp → VK → Prop := fun xs H Q => ∃ (x c : V) (C : Addr) (fs : List (Str × V)) (cv : Value) (b : Bool), xs = [x, c] ∧ ErV H x C fs ∧ L2.ExcC K C ∧ (∀ u, RelV c u → u = cv) ∧ PySem.W.kitOne K (.ref C) cv = some b ∧ Q (.bl b) H
theorem er_at {pins : List (Addr × Obj)} {σ : L2.St} {H : Hp} {s : Shared} {v : V} {C : Addr} {fs : List (Str × V)} (I : Inv X pins σ H s) (h : ErV H v C fs) : ∃ a ox od, v = .ref a ∧ PySem.W.InstAt s.heap a ox C od ∧ ∀ f, (fs.lookup f).isSome = true → ∃ ob u, od = some ob ∧ PySem.W.lookIn f ob = some (some u) ∧ ∃ y, fs.lookup f = some y ∧ RelV y u := by
  obtain ⟨a, rfl, h⟩ := h
  rcases h with ⟨h, rfl⟩ | ⟨dx, h1, h2⟩
  · obtain ⟨t, e⟩ := exo_at I.hok h
    exact ⟨a, _, none, rfl, ⟨e, rfl, rfl, trivial⟩, fun f z => absurd z (by simp)⟩
  · obtain ⟨t, e⟩ := exo_at I.hok h1
    obtain ⟨mA, hns, hr⟩ := exd_at I.hok h2
    obtain ⟨ob, ho, hl⟩ := lookIn_ns hns
    refine ⟨a, _, some ob, rfl, ⟨e, rfl, rfl, ho⟩, fun f z => ?_⟩
    obtain ⟨y, ey⟩ := Option.isSome_iff_exists.mp z
    obtain ⟨u, hu, ru⟩ := RelO.some_of (v := y) (o := mA f) (by rw [← ey]; exact hr f)
    exact ⟨ob, u, rfl, by rw [hl, hu], y, ey, ru⟩
theorem call_isV (eK : X.K = K) : CallR X (.builtin "isinstance") (rIsV K) := by
  subst eK
  intro pins s σ H xs us Q I r h
  obtain ⟨x, c, C, fs, cv, b, rfl, he, hC, hcv, e, q⟩ := h
  obtain ⟨a, ox, od, rfl, J, _⟩ := er_at I he
  cases r with
  | cons rx rr =>
    cases rr with
    | cons rt rr =>
      cases rr
      cases rx
      have ec := hcv _ rt
      subst ec
      have hcl : (PySem.W.clsIn X.K C).isSome = true := by
        obtain ⟨cd, hc, _⟩ := PySem.W.any_some hC.hd
        rw [hc]
        rfl
      exact PySem.W.kia_one (PySem.W.kitx_exc hcl hC.hg hC.hk hC.hs hC.ha hC.hn hC.ht hC.hm) I.kIn J e (fun z => nomatch z) fun tk => ⟨.bl b, H, I.kept (t' := tk) fun _ _ z => z, rfl, q⟩
/-- e.f, e such a value -/
def tFV (K : PySem.W.Frag) (f : Str) (te : TE) : TE := fun σ H Q => te σ H fun x H1 => ∃ (C : Addr) (fs : List (Str × V)) (v : V), ErV H1 x C fs ∧ L2.ExcC K C ∧ PySem.W.findIn K (.ref C) f = some none ∧ fs.lookup f = some v ∧ Q v H1
theorem pe_fV {e : Expr} {te : TE} {n : Str} {pos : Pos} (eK : X.K = K) (he : PE X e te) (hb : attributeBase e n X.env (eval e X.env) = eval e X.env := by rfl) : PE X (.Attribute e n pos) (tFV K n te) := by
  subst eK
  refine ⟨fun pins s σ H Q I h => ?_⟩
  refine attr_of hb (thn (he.run pins s σ H _ I h) fun u s1 hh => ?_)
  obtain ⟨x, H1, I1, rx, C, fs, v, her, T, hno, l, q⟩ := hh
  obtain ⟨a, ox, od, rfl, J, look⟩ := er_at I1 her
  obtain rfl : u = Value.ref a := rx
  obtain ⟨ob, u, rfl, hl, y, ey, ry⟩ := look n (by rw [l]; rfl)
  rw [l] at ey
  cases ey
  exact HandSPX.exc_get I1.kIn J T.hg T.hk T.hs (PySem.W.findObj_own T.hd hno rfl hl) (handed_of ry) ⟨v, H1, I1.tok _, ry, q⟩
theorem x_isV {H : Hp} {Q : VK} {x : V} {C D : Addr} {fs : List (Str × V)} {b : Bool} (he : ErV H x C fs) (hC : L2.ExcC K C) (k : PySem.W.kitOne K (.ref C) (.ref D) = some b) (q : Q (.bl b) H) : rIsV K [x, .ref D] H Q :=
  ⟨x, .ref D, C, fs, .ref D, b, rfl, he, hC, fun u h => by cases h; rfl, k, q⟩
theorem x_isVv {H : Hp} {Q : VK} {x : V} {C : Addr} {fs : List (Str × V)} {b : Bool} (he : ErV H x C fs) (hC : L2.ExcC K C) (k : PySem.W.kitOne K (.ref C) (.type "ValueError") = some b) (q : Q (.bl b) H) : rIsV K [x, .ty "ValueError"] H Q :=
  ⟨x, .ty "ValueError", C, fs, .type "ValueError", b, rfl, he, hC, fun u h => by cases h; rfl, k, q⟩
theorem x_fV {f : Str} {te : TE} {σ : L2.St} {H : Hp} {Q : VK} (h : te σ H fun x H1 => ∃ (C : Addr) (fs : List (Str × V)) (v : V), ErV H1 x C fs ∧ L2.ExcC K C ∧ PySem.W.findIn K (.ref C) f = some none ∧ fs.lookup f = some v ∧ Q v H1) : tFV K f te σ H Q := h
/-- a promise that is asked for more serves -/
theorem pe_weak {e : Expr} {t t' : TE} (h : PE X e t) (w : ∀ σ H Q, t' σ H Q → t σ H Q) : PE X e t' := ⟨fun pins s σ H Q I q => h.run pins s σ H Q I (w σ H Q q)⟩
theorem pa_weak {es : List Expr} {t t' : TA} (h : PA X es t) (w : ∀ σ H Q, t' σ H Q → t σ H Q) : PA X es t' := ⟨fun pos pins s σ H Q I q => h.run pos pins s σ H Q I (w σ H Q q)⟩
end
end Fv
set_option maxRecDepth 100000
set_option maxHeartbeats 1000000
namespace Fv
open PySem PySem.Spec PyProof.Rows L2
/-! a thing that is alike itself, dicts of one key among what it holds; walks of a dict's keys -/
theorem units1 {k : Nat} {A : Around} (r : Room k A) : A.units + 1 < cLine := by
  have := r.units
  omega
def Rx (H : Hp) : Nat → V → Prop
  | 0, x => sca x = true
  | n + 1, x => sca x = true ∨ (∃ a xs, x = .ref a ∧ (H a = some (.lst xs) ∨ H a = some (.tup xs)) ∧ xs.length ≤ 1000 ∧ ∀ y ∈ xs, Rx H n y) ∨ ∃ a k v, x = .ref a ∧ H a = some (.dK [(k, v)]) ∧ sca v = true
theorem Rx.sca {H : Hp} {n : Nat} {x : V} (h : Fv.sca x = true) : Rx H n x := by
  cases n with
  | zero => exact h
  | succ n => exact .inl h
theorem Rx.same : ∀ {n : Nat} {H H' : Hp} {x : V}, Same H H' → Rx H n x → Rx H' n x
  | 0, _, _, _, _, h => h
  | n + 1, H, H', x, s, h => by
    rcases h with h | ⟨a, xs, e, h1, hz, h⟩ | ⟨a, k, v, e, h1, h⟩
    · exact .inl h
    · exact .inr (.inl ⟨a, xs, e, h1.imp (s _ _) (s _ _), hz, fun y hy => (h y hy).same s⟩)
    · exact .inr (.inr ⟨a, k, v, e, s _ _ h1, h⟩)
theorem Rx.up : ∀ {n : Nat} {H : Hp} {x : V}, Rx H n x → Rx H (n + 1) x
  | 0, _, _, h => .inl h
  | n + 1, H, x, h => by
    rcases h with h | ⟨a, xs, e, h1, hz, h⟩ | h
    · exact .inl h
    · exact .inr (.inl ⟨a, xs, e, h1, hz, fun y hy => (h y hy).up⟩)
    · exact .inr (.inr h)
theorem Rx.le {n m : Nat} {H : Hp} {x : V} (hm : n ≤ m) (h : Rx H n x) : Rx H m x := by
  induction hm with
  | refl => exact h
  | step _ ih => exact ih.up
theorem Rx.of_al {K : PySem.W.Frag} : ∀ {n : Nat} {H : Hp} {x : V}, Al K H n x x → Rx H n x
  | 0, _, _, h => h.2
  | n + 1, H, x, h => by
    rcases h with h | ⟨a, b, xs, ys, e1, e2, h1, h2, hl, hz, h⟩ | ⟨a, b, xs, ys, e1, e2, h1, h2, hl, hz, h⟩
    · exact .inl h.2
    · rw [e1] at e2
      cases e2
      rw [h1] at h2
      cases h2
      refine .inr (.inl ⟨a, xs, e1, .inl h1, hz, fun y hy => ?_⟩)
      obtain ⟨i, hi, rfl⟩ := List.getElem_of_mem hy
      exact Rx.of_al (h i hi hi)
    · rw [e1] at e2
      cases e2
      rw [h1] at h2
      cases h2
      refine .inr (.inl ⟨a, xs, e1, .inr h1, hz, fun y hy => ?_⟩)
      obtain ⟨i, hi, rfl⟩ := List.getElem_of_mem hy
      exact Rx.of_al (h i hi hi)
theorem Rx.lst {n : Nat} {H : Hp} {a : Addr} {xs : List V} (h : H a = some (.lst xs)) (hz : xs.length ≤ 1000) (q : ∀ y ∈ xs, Rx H n y) : Rx H (n + 1) (.ref a) := .inr (.inl ⟨a, xs, rfl, .inl h, hz, q⟩)
theorem Rx.tup {n : Nat} {H : Hp} {a : Addr} {xs : List V} (h : H a = some (.tup xs)) (hz : xs.length ≤ 1000) (q : ∀ y ∈ xs, Rx H n y) : Rx H (n + 1) (.ref a) := .inr (.inl ⟨a, xs, rfl, .inr h, hz, q⟩)
section
variable {H H' : Hp} {a d D : Addr} {Q : VK} {σ : L2.St} {t : TE} {u : HO} {o : Obj} {kvs : List (Key × V)}
theorem x_lock (h : H d = some u) (mu : Mut (some u)) (q : ∀ od, t σ (upd H d (.frz od u)) fun v H' => H' d = some (.frz od u) ∧ Q v (upd H' d u)) : tLockE t σ H Q := ⟨d, u, h, mu, q⟩
theorem same_unlock {w : HO} (h : H d = some u) (s : Same (upd H d w) H') : Same H (upd H' d u) := fun b o e => by
  by_cases hb : b = d
  · subst hb
    rw [upd_same, ← h, e]
  · rw [upd_ne hb]
    exact s b o (by rw [upd_ne hb]; exact e)
theorem x_din {ty td : TE} (h : ty σ H fun y H1 => td σ H1 fun x H2 => ∃ a o, x = .ref a ∧ DGet H2 a y o ∧ Q (.bl o.isSome) H2) : tDIn ty td σ H Q := h
theorem x_dget {td ty : TE} (h : td σ H fun x H1 => ty σ H1 fun y H2 => ∃ a v, x = .ref a ∧ DGet H2 a y (some v) ∧ Q v H2) : tDGet td ty σ H Q := h
theorem one_val {k : Key} {v : V} : valV [(k, v)] k = some v := by
  unfold valV
  simp
theorem x_keys {td : TE} {R : It → Hp → Prop} (h : td σ H fun x H1 => ∃ d o, x = .ref d ∧ ∃ kvs, H1 d = some (.frz o (.dK kvs)) ∧ R (Itk d o kvs) H1) (w : ∀ Q Q' : VK, (∀ x H, Q x H → Q' x H) → td σ H Q → td σ H Q') : iKeys td σ H R := by
  refine w _ _ (fun x H q => ?_) h
  obtain ⟨d, o, e, kvs, h1, h2⟩ := q
  exact ⟨d, o, e, .inl ⟨kvs, h1, h2⟩⟩
theorem x_keysV {i : Nat} {R : It → Hp → Prop} (h : σ[i]? = some (some (.ref d))) (h1 : H d = some (.frz o (.dK kvs))) (q : R (Itk d o kvs) H) : iKeys (tVar i) σ H R :=
  ⟨.ref d, h, d, o, rfl, .inl ⟨kvs, h1, q⟩⟩
/-- a block over the keys of a dict that it leaves as it is -/
theorem lc_keys {g : TG} {tt : TT} {te : TE} {vs : List Nat} {H1 : Hp} {Qd : Hp → Prop} (Pv : Nat → Hp → Prop) (h0 : Pv 0 (upd H1 D (.lst []))) (hl : ∀ i H, Pv i H → H d = some (.frz o (.dK kvs)))
    (hs : ∀ i k v G, kvs[i]? = some (k, v) → Pv i G → g (kV k) (wipe σ vs) G fun σ2 G2 => wipe σ2 vs = wipe σ vs ∧ tt σ2 G2 fun b G3 => if b = true then te σ2 G3 fun y G4 => ∃ acc, G4 D = some (.lst acc) ∧ acc.length < sizeLine ∧ Pv (i + 1) (upd G4 D (.lst (acc ++ [y]))) else Pv (i + 1) G3)
    (hd : ∀ G, Pv kvs.length G → Qd G) :
    ∃ W : Nat → Nat → Hp → Prop, (∃ m, W 0 m (upd H1 D (.lst []))) ∧ ∀ i m G, W i m G →
      ((Itk d o kvs).stop i G ∧ Qd G) ∨ ((Itk d o kvs).go i G ∧ ∃ Nx : Hp → Prop, (∀ G', Nx G' → ∃ m', m' < m ∧ W (i + 1) m' G') ∧ ∀ x G', (Itk d o kvs).yld i G x G' → g x (wipe σ vs) G' fun σ2 G2 => wipe σ2 vs = wipe σ vs ∧ tt σ2 G2 fun b G3 =>
        if b = true then te σ2 G3 fun y G4 => ∃ acc, G4 D = some (.lst acc) ∧ acc.length < sizeLine ∧ Nx (upd G4 D (.lst (acc ++ [y]))) else Nx G3) := by
  refine ⟨fun i m G => m = kvs.length - i ∧ i ≤ kvs.length ∧ Pv i G, ⟨_, rfl, Nat.zero_le _, h0⟩, ?_⟩
  rintro i m G ⟨rfl, hi, p⟩
  by_cases hlt : i < kvs.length
  · refine .inr ⟨⟨hl i G p, hlt⟩, Pv (i + 1), fun G' p' => ⟨_, by omega, rfl, hlt, p'⟩, ?_⟩
    rintro x G' ⟨rfl, k, v, e, rfl⟩
    exact hs i k v _ e p
  · have e : i = kvs.length := by omega
    subst e
    exact .inl ⟨⟨hl _ G p, Nat.le_refl _⟩, hd G p⟩
end
end Fv
/-! keyed rows, what a block had; nothing of the program here -/
namespace Fv
open PySem PySem.Spec L2
/-- the dict k: x0, k + 1: x1, .. -/
def kdl : Nat → List V → List (Key × V)
  | _, [] => []
  | k, x :: r => (Sum.inl (k : Int), x) :: kdl (k + 1) r
theorem kdl_len : ∀ (k : Nat) (xs : List V), (kdl k xs).length = xs.length
  | _, [] => rfl
  | k, _ :: r => by
    show (kdl (k + 1) r).length + 1 = r.length + 1
    rw [kdl_len]
theorem kdl_get : ∀ (k : Nat) (xs : List V) (i : Nat), (kdl k xs)[i]? = xs[i]?.map fun x => (Sum.inl ((k + i : Nat) : Int), x)
  | _, [], _ => rfl
  | k, x :: r, 0 => rfl
  | k, x :: r, i + 1 => by
    show (kdl (k + 1) r)[i]? = r[i]?.map _
    rw [kdl_get (k + 1) r i, show k + 1 + i = k + (i + 1) by omega]
theorem kdl_at {k : Nat} {xs : List V} {i : Nat} {q : Key} {v : V} (h : (kdl k xs)[i]? = some (q, v)) : q = Sum.inl ((k + i : Nat) : Int) ∧ xs[i]? = some v := by
  rw [kdl_get] at h
  cases e : xs[i]? with
  | none => rw [e] at h; cases h
  | some x => rw [e] at h; cases h; exact ⟨rfl, rfl⟩
theorem kdl_val : ∀ {k : Nat} {xs : List V} {i : Nat} {x : V}, xs[i]? = some x → valV (kdl k xs) (Sum.inl ((k + i : Nat) : Int)) = some x
  | _, [], _, _, h => by cases h
  | k, y :: r, 0, x, h => by
    cases h
    exact valV_pos rfl
  | k, y :: r, i + 1, x, h => by
    show valV ((Sum.inl (k : Int), y) :: kdl (k + 1) r) _ = _
    rw [valV_neg (by
      intro e
      have := Sum.inl.inj e
      omega), show k + (i + 1) = k + 1 + i by omega]
    exact kdl_val h
theorem kdl_no : ∀ {k : Nat} {xs : List V} {b : Int}, (b < k ∨ (k : Int) + xs.length ≤ b) → valV (kdl k xs) (Sum.inl b) = none
  | _, [], _, _ => rfl
  | k, y :: r, b, h => by
    rw [List.length_cons] at h
    show valV ((Sum.inl (k : Int), y) :: kdl (k + 1) r) _ = _
    rw [valV_neg (by
      intro e
      have := Sum.inl.inj e
      omega)]
    exact kdl_no (by omega)
theorem kdl_app : ∀ (k : Nat) (xs ys : List V), kdl k (xs ++ ys) = kdl k xs ++ kdl (k + xs.length) ys
  | _, [], _ => rfl
  | k, x :: r, ys => by
    show _ :: kdl (k + 1) (r ++ ys) = _ :: (kdl (k + 1) r ++ _)
    rw [kdl_app (k + 1) r ys, List.length_cons, show k + 1 + r.length = k + (r.length + 1) by omega]
theorem kdl_snoc {k : Nat} {xs : List V} {b : Int} {v : V} (h : b = ((k + xs.length : Nat) : Int)) : putK (kdl k xs) (Sum.inl b) v = kdl k (xs ++ [v]) := by
  subst h
  rw [putK_new v (kdl_no (.inr (by omega))), kdl_app]
  rfl
theorem kdl_set {k : Nat} {xs : List V} {i : Nat} {b : Int} {v : V} (hi : i < xs.length) (h : b = ((k + i : Nat) : Int)) : putK (kdl k xs) (Sum.inl b) v = kdl k (xs.set i v) := by
  subst h
  have hv := kdl_val (k := k) (List.getElem?_eq_getElem hi)
  unfold putK
  rw [valV_any, hv]
  simp only [Option.isSome_some, if_true]
  refine List.ext_getElem? fun j => ?_
  rw [List.getElem?_map, kdl_get, kdl_get, List.getElem?_set]
  by_cases c : i = j
  · subst c
    rw [List.getElem?_eq_getElem hi]
    simp [hi]
  · rw [if_neg c]
    cases xs[j]? with
    | none => rfl
    | some x =>
      simp only [Option.map_some]
      rw [if_neg (by
        intro e
        have := Sum.inl.inj e
        omega)]
theorem kdl_merge : ∀ (ys : List V) (k : Nat) (xs : List V), mergeK (kdl k xs) (kdl (k + xs.length) ys) = kdl k (xs ++ ys)
  | [], k, xs => by
    rw [List.append_nil]
    rfl
  | y :: r, k, xs => by
    show mergeK (putK (kdl k xs) (Sum.inl ((k + xs.length : Nat) : Int)) y) (kdl (k + xs.length + 1) r) = _
    rw [kdl_snoc rfl, show k + xs.length + 1 = k + (xs ++ [y]).length by rw [List.length_append]; show _ = k + (xs.length + 1); omega, kdl_merge r k (xs ++ [y]), List.append_assoc]
    rfl
theorem kdl_fresh (k : Nat) (ys : List V) : mergeK [] (kdl k ys) = kdl k ys := kdl_merge ys k []
/-! ascending lists -/
theorem asc_ext : ∀ {a b : List Int}, a.Pairwise (· < ·) → b.Pairwise (· < ·) → (∀ k, k ∈ a ↔ k ∈ b) → a = b
  | [], [], _, _, _ => rfl
  | [], y :: b, _, _, h => absurd ((h y).2 List.mem_cons_self) (by simp)
  | x :: a, [], _, _, h => absurd ((h x).1 List.mem_cons_self) (by simp)
  | x :: a, y :: b, ha, hb, h => by
    obtain ⟨a1, a2⟩ := List.pairwise_cons.mp ha
    obtain ⟨b1, b2⟩ := List.pairwise_cons.mp hb
    have e : x = y := by
      rcases List.mem_cons.mp ((h x).1 List.mem_cons_self) with e | e
      · exact e
      · rcases List.mem_cons.mp ((h y).2 List.mem_cons_self) with e2 | e2
        · exact e2.symm
        · have := a1 _ e2
          have := b1 _ e
          omega
    subst e
    rw [asc_ext a2 b2 fun k => ?_]
    constructor
    · intro m
      rcases List.mem_cons.mp ((h k).1 (List.mem_cons_of_mem _ m)) with e | e
      · subst e
        exact absurd (a1 _ m) (by omega)
      · exact e
    · intro m
      rcases List.mem_cons.mp ((h k).2 (List.mem_cons_of_mem _ m)) with e | e
      · subst e
        exact absurd (b1 _ m) (by omega)
      · exact e
def intsN (l : List Nat) : List Int := l.map fun (p : Nat) => (p : Int)
/-- the places of l up to n, once each, ascending -/
def hadL (n : Nat) (l : List Nat) : List Nat := (List.range (n + 1)).filter fun p => decide (p ∈ l)
theorem hadL_mem {n : Nat} {l : List Nat} {p : Nat} : p ∈ hadL n l ↔ p ≤ n ∧ p ∈ l := by
  unfold hadL
  rw [List.mem_filter, List.mem_range, decide_eq_true_iff]
  exact ⟨fun h => ⟨by have := h.1; omega, h.2⟩, fun h => ⟨by have := h.1; omega, h.2⟩⟩
theorem hadL_asc (n : Nat) (l : List Nat) : (hadL n l).Pairwise (· < ·) := List.Pairwise.filter _ List.pairwise_lt_range
theorem hadL_only {n : Nat} {l : List Nat} {ns : List Int} (h : ∀ p ∈ l, p ≤ n) (a : ns.Pairwise (· < ·)) (m : ∀ k : Int, k ∈ ns ↔ decide (k ∈ intsN l) = true) : ns = intsN (hadL n l) := by
  refine asc_ext a ?_ fun k => ?_
  · exact List.Pairwise.map _ (fun a b (c : a < b) => Int.ofNat_lt.mpr c) (hadL_asc n l)
  · rw [m, decide_eq_true_iff]
    unfold intsN
    rw [List.mem_map, List.mem_map]
    constructor
    · rintro ⟨p, hp, rfl⟩
      exact ⟨p, hadL_mem.2 ⟨h p hp, hp⟩, rfl⟩
    · rintro ⟨p, hp, rfl⟩
      exact ⟨p, (hadL_mem.1 hp).2, rfl⟩
theorem hadL_len (n : Nat) (l : List Nat) : (hadL n l).length ≤ n + 1 := by
  have := List.length_filter_le (fun p => decide (p ∈ l)) (List.range (n + 1))
  rw [List.length_range] at this
  exact this
theorem intsN_len (l : List Nat) : (intsN l).length = l.length := List.length_map ..
/-- a move's place goes to its block's list -/
def addT (ls : List (List Nat)) (m : Nat × Nat) : List (List Nat) := ls.set (m.1 - 1) (ls.getD (m.1 - 1) [] ++ [m.2])
def tiesL (hs : List Nat) (ms : List (Nat × Nat)) : List (List Nat) := ms.foldl addT (hs.map fun p => [p])
def hadLs (hs : List Nat) (ms : List (Nat × Nat)) : List (List Nat) := (tiesL hs ms).map (hadL hs.length)
theorem addT_len (ls : List (List Nat)) (m : Nat × Nat) : (addT ls m).length = ls.length := List.length_set ..
theorem foldT_len : ∀ (ms : List (Nat × Nat)) (ls : List (List Nat)), (ms.foldl addT ls).length = ls.length
  | [], _ => rfl
  | m :: r, ls => by
    show (r.foldl addT (addT ls m)).length = _
    rw [foldT_len r, addT_len]
theorem tiesL_len (hs : List Nat) (ms : List (Nat × Nat)) : (tiesL hs ms).length = hs.length := by
  unfold tiesL
  rw [foldT_len, List.length_map]
theorem tiesL_snoc (hs : List Nat) (ms : List (Nat × Nat)) (m : Nat × Nat) : tiesL hs (ms ++ [m]) = addT (tiesL hs ms) m := by
  unfold tiesL
  rw [List.foldl_append]
  rfl
theorem tiesL_take {hs : List Nat} {ms : List (Nat × Nat)} {i : Nat} {m : Nat × Nat} (h : ms[i]? = some m) : tiesL hs (ms.take (i + 1)) = addT (tiesL hs (ms.take i)) m := by
  rw [List.take_add_one, h]
  exact tiesL_snoc ..
/-- each list holds places up to n that aren't its block, and at most k + 1 of them -/
def TieOk (n k : Nat) (ls : List (List Nat)) : Prop := ∀ i l, ls[i]? = some l → 1 ≤ l.length ∧ l.length ≤ k + 1 ∧ ∀ p ∈ l, p ≤ n ∧ p ≠ i + 1
theorem TieOk.add {n k : Nat} {ls : List (List Nat)} {m : Nat × Nat} (h : TieOk n k ls) (b1 : 1 ≤ m.1) (hp : m.2 ≤ n) (hb : m.2 ≠ m.1) : TieOk n (k + 1) (addT ls m) := by
  intro i l e
  unfold addT at e
  rw [List.getElem?_set] at e
  split at e
  · rename_i c
    subst c
    split at e
    · rename_i lt
      have g := List.getElem?_eq_getElem lt
      rw [List.getD_eq_getElem?_getD, g] at e
      cases e
      obtain ⟨q1, q2, q3⟩ := h _ _ g
      rw [Option.getD_some, List.length_append]
      refine ⟨by omega, by show _ + 1 ≤ _; omega, fun p hm => ?_⟩
      rcases List.mem_append.mp hm with hm | hm
      · exact q3 p hm
      · rw [List.mem_singleton.mp hm]
        exact ⟨hp, by omega⟩
    · cases e
  · obtain ⟨q1, q2, q3⟩ := h _ _ e
    exact ⟨q1, by omega, q3⟩
theorem tieOk_base {hs : List Nat} (h1 : ∀ i p, hs[i]? = some p → p ≤ hs.length ∧ p ≠ i + 1) : TieOk hs.length 0 (hs.map fun p => [p]) := by
  intro i l e
  rw [List.getElem?_map] at e
  cases g : hs[i]? with
  | none => rw [g] at e; cases e
  | some p =>
    rw [g] at e
    cases e
    refine ⟨Nat.le_refl _, Nat.le_refl _, fun q hq => ?_⟩
    rw [List.mem_singleton.mp hq]
    exact h1 i p g
theorem tieOk_all {hs : List Nat} {ms : List (Nat × Nat)} (h1 : ∀ i p, hs[i]? = some p → p ≤ hs.length ∧ p ≠ i + 1) (h2 : ∀ m ∈ ms, 1 ≤ m.1 ∧ m.2 ≤ hs.length ∧ m.2 ≠ m.1) : ∀ i, i ≤ ms.length → TieOk hs.length i (tiesL hs (ms.take i))
  | 0, _ => tieOk_base h1
  | i + 1, hi => by
    have e := List.getElem?_eq_getElem (show i < ms.length by omega)
    rw [tiesL_take e]
    obtain ⟨a, b, c⟩ := h2 _ (List.getElem_mem (show i < ms.length by omega))
    exact (tieOk_all h1 h2 i (by omega)).add a b c
/-- what the blocks had: places that fit, ascending, at least one -/
structure KnownOk (n : Nat) (ks : List (List Nat)) : Prop where
  len : ks.length = n
  at_ : ∀ i k, ks[i]? = some k → 1 ≤ k.length ∧ k.Pairwise (· < ·) ∧ ∀ p ∈ k, p ≤ n ∧ p ≠ i + 1
theorem hadLs_len (hs : List Nat) (ms : List (Nat × Nat)) : (hadLs hs ms).length = hs.length := by
  unfold hadLs
  rw [List.length_map, tiesL_len]
theorem hadLs_ok {hs : List Nat} {ms : List (Nat × Nat)} (h1 : ∀ i p, hs[i]? = some p → p ≤ hs.length ∧ p ≠ i + 1) (h2 : ∀ m ∈ ms, 1 ≤ m.1 ∧ m.2 ≤ hs.length ∧ m.2 ≠ m.1) : KnownOk hs.length (hadLs hs ms) := by
  refine ⟨hadLs_len hs ms, fun i k e => ?_⟩
  unfold hadLs at e
  rw [List.getElem?_map] at e
  cases g : (tiesL hs ms)[i]? with
  | none => rw [g] at e; cases e
  | some l =>
    rw [g] at e
    cases e
    have t := tieOk_all h1 h2 ms.length (Nat.le_refl _)
    rw [List.take_length] at t
    obtain ⟨q1, q2, q3⟩ := t i l g
    refine ⟨?_, hadL_asc _ _, fun p hp => ?_⟩
    · match l, q1, q3 with
      | p :: r, _, q3 =>
        have m : p ∈ hadL hs.length (p :: r) := hadL_mem.2 ⟨(q3 p List.mem_cons_self).1, List.mem_cons_self⟩
        exact List.length_pos_of_mem m
    · exact q3 p (hadL_mem.1 hp).2
end Fv
set_option maxRecDepth 100000
set_option maxHeartbeats 2000000
namespace Fv
open PySem PySem.Spec PyProof.Rows L2
/-! dicts: made by a comprehension, compared, walked where they were just made -/
section
variable {X : Cx} {K : PySem.W.Frag}
theorem cr_setLiK {w : World} (e : X.K = K) (e2 : X.w = w) (hc : X.calm = true) : CallR X (.type "set") (rSetLi K w) := by
  subst e e2
  exact cr_setLi hc
theorem cr_sortedSetW {w : World} (e2 : X.w = w) (hc : X.calm = true) : CallR X (.builtin "sorted") (rSortedSet w) := by
  subst e2
  exact cr_sortedSet hc
theorem call_dictPK (e : X.K = K) (hc : X.calm = true) : CallR X (.type "dict") (fun xs H Q => ∃ (a : Addr) (ps : List Addr) (kvs : List (Key × V)), xs = [.ref a] ∧ SqL K H a (ps.map V.ref) ∧ Paired (fun p kv => SqT K H p [kV kv.1, kv.2]) ps kvs ∧
    ∀ p, H p = none → Q (.ref p) (upd H p (.dK (mergeK [] kvs)))) := by
  subst e
  exact call_dictP hc
/-- a dict comprehension over a walk -/
theorem dc_it {J : It} {n : Nat} {G : Hp → Prop} {Y : Nat → Hp → V → Hp → Prop} (w : Walk J n G Y) {g : TG} {tt : TT} {tk tv : TE} {vs : List Nat} {σ : L2.St} {H1 : Hp} {D : Addr} {Qd : Hp → Prop} (Pv : Nat → Hp → Prop) (h0 : Pv 0 (upd H1 D (.dK []))) (hG : ∀ i H, i ≤ n → Pv i H → G H)
    (hs : ∀ i x H H', i < n → Pv i H → Y i H x H' → g x (wipe σ vs) H' fun σ2 H2 => wipe σ2 vs = wipe σ vs ∧ tt σ2 H2 fun b H3 =>
      if b = true then tk σ2 H3 fun y H4 => tv σ2 H4 fun z H5 => ∃ kvs k, y = kV k ∧ H5 D = some (.dK kvs) ∧ kvs.length < sizeLine ∧ Pv (i + 1) (upd H5 D (.dK (putK kvs k z))) else Pv (i + 1) H3) (hd : ∀ H, Pv n H → Qd H) :
    ∃ W : Nat → Nat → Hp → Prop, (∃ m, W 0 m (upd H1 D (.dK []))) ∧ ∀ i m H, W i m H →
      (J.stop i H ∧ Qd H) ∨ (J.go i H ∧ ∃ Nx : Hp → Prop, (∀ H', Nx H' → ∃ m', m' < m ∧ W (i + 1) m' H') ∧ ∀ x H', J.yld i H x H' → g x (wipe σ vs) H' fun σ2 H2 => wipe σ2 vs = wipe σ vs ∧ tt σ2 H2 fun b H3 =>
        if b = true then tk σ2 H3 fun y H4 => tv σ2 H4 fun z H5 => ∃ kvs k, y = kV k ∧ H5 D = some (.dK kvs) ∧ kvs.length < sizeLine ∧ Nx (upd H5 D (.dK (putK kvs k z))) else Nx H3) := by
  refine ⟨fun i m H => m = n - i ∧ i ≤ n ∧ Pv i H, ⟨n, by simp, Nat.zero_le _, h0⟩, ?_⟩
  rintro i m H ⟨rfl, hi, p⟩
  have q := hG i H hi p
  by_cases hlt : i < n
  · refine .inr ⟨w.goes i H hlt q, Pv (i + 1), fun H' p' => ⟨n - (i + 1), by omega, rfl, hlt, p'⟩, fun x H' y => hs i x H H' hlt p (w.yields i H x H' hlt q y)⟩
  · have e : i = n := by omega
    subst e
    exact .inl ⟨w.stops H q, hd H p⟩
/-- a for over a walk -/
theorem lp_it {J : It} {n : Nat} {G : Hp → Prop} {Y : Nat → Hp → V → Hp → Prop} (w : Walk J n G Y) {g : TG} {tb : TS} {nx : L2.St → Hp → Prop} {rt : VK} {σ : L2.St} {H : Hp} (Pv : Nat → L2.St → Hp → Prop) (h0 : Pv 0 σ H) (hG : ∀ i σ H, i ≤ n → Pv i σ H → G H)
    (hs : ∀ i x σ H H', i < n → Pv i σ H → Y i H x H' → g x σ H' fun σ2 H2 => tb { nx := Pv (i + 1), rt := rt, bk := nx, ct := Pv (i + 1) } σ2 H2) (hd : ∀ σ H, Pv n σ H → nx σ H) :
    ∃ W : Nat → Nat → L2.St → Hp → Prop, (∃ m, W 0 m σ H) ∧ ∀ i m σ H, W i m σ H → (J.stop i H ∧ nx σ H) ∨ (J.go i H ∧ ∃ N : L2.St → Hp → Prop, (∀ σ' H', N σ' H' → ∃ m', m' < m ∧ W (i + 1) m' σ' H') ∧ ∀ x H', J.yld i H x H' → g x σ H' fun σ2 H2 => tb { nx := N, rt := rt, bk := nx, ct := N } σ2 H2) := by
  refine ⟨fun i m σ H => m = n - i ∧ i ≤ n ∧ Pv i σ H, ⟨_, rfl, Nat.zero_le _, h0⟩, ?_⟩
  rintro i m σ H ⟨rfl, hi, p⟩
  have q := hG i σ H hi p
  by_cases hlt : i < n
  · exact .inr ⟨w.goes i H hlt q, Pv (i + 1), fun σ' H' p' => ⟨_, by omega, rfl, hlt, p'⟩, fun x H' y => hs i x σ H H' hlt p (w.yields i H x H' hlt q y)⟩
  · have e : i = n := by omega
    subst e
    exact .inl ⟨w.stops H q, hd σ H p⟩
theorem x_dc {wi : TI} {g : TG} {tt : TT} {tk tv : TE} {vs : List Nat} {σ : L2.St} {H : Hp} {Q : VK} (h : wi σ H fun J H1 => ∀ D, H1 D = none → ∃ W : Nat → Nat → Hp → Prop, (∃ m, W 0 m (upd H1 D (.dK []))) ∧ ∀ i m H, W i m H →
    (J.stop i H ∧ Q (.ref D) H) ∨ (J.go i H ∧ ∃ Nx : Hp → Prop, (∀ H', Nx H' → ∃ m', m' < m ∧ W (i + 1) m' H') ∧ ∀ x H', J.yld i H x H' → g x (wipe σ vs) H' fun σ2 H2 => wipe σ2 vs = wipe σ vs ∧ tt σ2 H2 fun b H3 =>
      if b = true then tk σ2 H3 fun y H4 => tv σ2 H4 fun z H5 => ∃ kvs k, y = kV k ∧ H5 D = some (.dK kvs) ∧ kvs.length < sizeLine ∧ Nx (upd H5 D (.dK (putK kvs k z))) else Nx H3)) : tDc wi g tt tk tv vs σ H Q := h
theorem walk_enumT {t : Addr} {k : Int} {xs : List V} : Walk (Itn K t k) xs.length (fun H => SqT K H t xs) (YPair (fun i => some (.int (k + (i : Nat)))) (fun i => xs[i]?)) := by
  refine ⟨fun i _ hi q => ⟨xs, xs[i], q, by simp [hi]⟩, fun _ q => ⟨xs, q, rfl⟩, fun i H v H' _ q y => ?_⟩
  obtain ⟨T, z, h1, h2, h3, h4⟩ := y
  exact ⟨T, .int (k + (i : Nat)), z, h1, h2, h3, rfl, h4 xs q⟩
/-- for k in d, d just made: it stays as it is from here on -/
def iKeysF (td : TE) : TI := fun σ H R => td σ H fun x H1 => ∃ d kvs, x = .ref d ∧ H1 d = some (.dK kvs) ∧ ∀ o, R (Itk d o kvs) (upd H1 d (.frz o (.dK kvs)))
theorem x_keysF {td : TE} {σ : L2.St} {H : Hp} {R : It → Hp → Prop} (h : td σ H fun x H1 => ∃ d kvs, x = .ref d ∧ H1 d = some (.dK kvs) ∧ ∀ o, R (Itk d o kvs) (upd H1 d (.frz o (.dK kvs)))) : iKeysF td σ H R := h
theorem pi_keysF {tg e : Expr} {td : TE} (he : PE X e td) : PI X tg e (iKeysF td) := by
  refine ⟨fun pins s σ H R I h => ?_⟩
  refine thn (he.run pins s σ H _ I h) fun u s1 ⟨x, H1, I1, rx, d, kvs, ex, hd, q⟩ => ?_
  subst ex
  obtain rfl : u = Value.ref d := rx
  obtain ⟨o, I2⟩ := I1.lock hd True.intro
  obtain ⟨hs, hgd, hx, es, ep, vs, hdt, hsz, kv, hm⟩ := I2.frzK upd_same
  refine iter_keys hs hgd hx hdt (pi_one (tk := s1.toks) I2 _ (turn_keys _ hdt) ⟨_, Heap.get?_push_size _ rfl, rfl, ?_⟩ (q o))
  rw [hsz] <;> rfl
def iKeysFT (td : TE) : TI := fun σ H R => td σ H fun x H1 => ∃ d kvs, x = .ref d ∧ H1 d = some (.dT kvs) ∧ ∀ o, R (Itkt d o kvs) (upd H1 d (.frz o (.dT kvs)))
theorem x_keysFT {td : TE} {σ : L2.St} {H : Hp} {R : It → Hp → Prop} (h : td σ H fun x H1 => ∃ d kvs, x = .ref d ∧ H1 d = some (.dT kvs) ∧ ∀ o, R (Itkt d o kvs) (upd H1 d (.frz o (.dT kvs)))) : iKeysFT td σ H R := h
theorem pi_keysFT {tg e : Expr} {td : TE} (he : PE X e td) : PI X tg e (iKeysFT td) := by
  refine ⟨fun pins s σ H R I h => ?_⟩
  refine thn (he.run pins s σ H _ I h) fun u s1 ⟨x, H1, I1, rx, d, kvs, ex, hd, q⟩ => ?_
  subst ex
  obtain rfl : u = Value.ref d := rx
  obtain ⟨o, I2⟩ := I1.lock hd True.intro
  obtain ⟨hs, hgd, hx, es, ep, hdt, hsz, ent⟩ := I2.frzT upd_same
  refine iter_keys hs hgd hx hdt (pi_one (tk := s1.toks) I2 _ (turn_keysT _ hdt) ⟨_, Heap.get?_push_size _ rfl, rfl, ?_⟩ (q o))
  rw [hsz] <;> rfl
theorem units66 {k : Nat} {A : Around} (r : Room k A) : A.units + 66 < cLine := by
  have := r.un
  omega
/-! == and != of dicts of data -/
def PdEq (K : PySem.W.Frag) (H : Hp) (x y : V) : Prop := ∃ d e, Dp K H x d ∧ Dp K H y e ∧ SeqAt.shaped d = true ∧ SeqAt.shaped e = true ∧ PyData.eqv d e = true
theorem hits_pd {pins : List (Addr × Obj)} {σ : L2.St} {H : Hp} {s : Shared} (I : Inv X pins σ H s) {A : Around} (hu : A.in1.units + 64 < cLine) {ls : List (Key × V)} {vb : List (Key × Value)} (rb : KV ls vb) {ks : List (Key × V)} {va : List (Key × Value)} (ra : KV ks va) :
    (∀ p ∈ ks, ∃ z, valV ls p.1 = some z ∧ PdEq X.K H p.2 z) → PySem.W.KeqHits A.in1 s vb va true := by
  unfold KV at ra
  induction ra with
  | nil => intro _; exact .nil
  | @cons p q ps qs h t ih =>
    intro hp
    obtain ⟨h1, h2⟩ := h
    obtain ⟨z, e, d1, d2, g1, g2, s1, s2, ev⟩ := hp p List.mem_cons_self
    have rr : RelO (some z) (valueAt vb p.1) := by rw [← e]; exact rb.val p.1
    obtain ⟨y, hy, ry⟩ := rr.some_of
    obtain ⟨k, v⟩ := q
    have h1' : p.1 = k := h1
    rw [h1'] at hy
    obtain ⟨as, r1⟩ := Dp.reads I d1 _ _ g1 h2
    obtain ⟨bs, r2⟩ := Dp.reads I d2 _ _ g2 ry
    have eq := PySem.W.keq_at (A := A) r1 r2 s1 s2 hu
    rw [ev] at eq
    show PySem.W.KeqHits A.in1 s vb ((k, v) :: qs) (true && true)
    exact .hit hy eq (ih fun p' hm => hp p' (List.mem_cons_of_mem _ hm))
/-- two dicts of the same keys and of equal data -/
def DdEq (K : PySem.W.Frag) (H : Hp) (x y : V) : Prop := ∃ a b ks ls, x = .ref a ∧ y = .ref b ∧ H a = some (.dK ks) ∧ H b = some (.dK ls) ∧ ks.length = ls.length ∧ ∀ p ∈ ks, ∃ z, valV ls p.1 = some z ∧ PdEq K H p.2 z
def rEqDD (K : PySem.W.Frag) : R2 := fun x y H Q => DdEq K H x y ∧ Q (.bl true) H
def rNeDD (K : PySem.W.Frag) : R2 := fun x y H Q => DdEq K H x y ∧ Q (.bl false) H
theorem op_eqDD (e : X.K = K) (hu : X.A.units + 66 < cLine) : OpR X (compareOp .Eq) (rEqDD K) := by
  subst e
  intro pins s σ H x y v u Q I rx ry h
  obtain ⟨⟨a, b, ks, ls, rfl, rfl, ea, eb, hlen, hp⟩, q⟩ := h
  obtain rfl : v = Value.ref a := rx
  obtain rfl : u = Value.ref b := ry
  obtain ⟨_, ya, va, ra, da⟩ := (show ObjOk X.prog X.w H s.heap a (.dK ks) from I.hok a _ ea)
  obtain ⟨_, yb, vb, rb, db⟩ := (show ObjOk X.prog X.w H s.heap b (.dK ls) from I.hok b _ eb)
  have hl : va.length = vb.length := by rw [← ra.length, ← rb.length]; exact hlen
  exact PySem.W.keq_eq (knd := mixKind X.prog X.w) (r := true) ya yb da db (by omega) (fun _ => hits_pd I (by show X.A.units + 1 + 64 < cLine; omega) rb ra hp) (fin_bl I q (by simp [hl]))
theorem op_neDD (e : X.K = K) (hu : X.A.units + 66 < cLine) : OpR X (compareOp .NotEq) (rNeDD K) := by
  subst e
  intro pins s σ H x y v u Q I rx ry h
  obtain ⟨⟨a, b, ks, ls, rfl, rfl, ea, eb, hlen, hp⟩, q⟩ := h
  obtain rfl : v = Value.ref a := rx
  obtain rfl : u = Value.ref b := ry
  obtain ⟨_, ya, va, ra, da⟩ := (show ObjOk X.prog X.w H s.heap a (.dK ks) from I.hok a _ ea)
  obtain ⟨_, yb, vb, rb, db⟩ := (show ObjOk X.prog X.w H s.heap b (.dK ls) from I.hok b _ eb)
  have hl : va.length = vb.length := by rw [← ra.length, ← rb.length]; exact hlen
  exact PySem.W.keq_ne (knd := mixKind X.prog X.w) (r := true) ya yb da db (by omega) (fun _ => hits_pd I (by show X.A.units + 1 + 64 < cLine; omega) rb ra hp) (fin_bl I q (by simp [hl]))
theorem pd_tup {H : Hp} {a b : Addr} {l : List Nat} (h1 : SqT K H a (nats l)) (h2 : SqT K H b (nats l)) : PdEq K H (.ref a) (.ref b) :=
  ⟨.tuple (dn l), .tuple (dn l), .tup h1 (dpAll_nats l), .tup h2 (dpAll_nats l), dn_shaped l, dn_shaped l, by rw [PyData.eqv, dn_eqv, decide_eq_true rfl]⟩
/-! reading and writing keyed rows -/
/-- a heap, the dict at d locked -/
theorem but_frz {H : Hp} {d : Addr} {o : HO} : But d H (upd H d o) := fun b u hb e => by
  rw [upd_ne hb]
  exact e
theorem dgetN {H : Hp} {d : Addr} {k : Nat} {xs : List V} {i : Nat} {x : V} {b : Int} (h : Rd H d (.dK (kdl k xs))) (hx : xs[i]? = some x) (hb : b = ((k + i : Nat) : Int)) : DGet H d (.int b) (some x) := by
  subst hb
  exact .inl ⟨_, Sum.inl _, h, rfl, (kdl_val hx).symm⟩
theorem dputN {H : Hp} {d : Addr} {k : Nat} {xs : List V} {i : Nat} {b : Int} {v : V} (h : H d = some (.dK (kdl k xs))) (hi : i < xs.length) (hz : xs.length ≤ 1000) (hb : b = ((k + i : Nat) : Int)) : DPut H d (.int b) v (upd H d (.dK (kdl k (xs.set i v)))) := by
  refine .inl ⟨_, Sum.inl b, h, rfl, ?_, by rw [kdl_set hi hb]⟩
  rw [kdl_len]
  rw [sizeLine_eq]
  omega
end
end Fv
set_option maxRecDepth 100000
set_option maxHeartbeats 2000000
/-! list(zip(s, t)), s and t tuples of one length: a new list of new pairs -/
namespace RZ
open PySem PySem.W PySem.Calls PyProof.Rows PyProof.V PySem.Spec
open PySem.Sem (wp)
section
variable {prog : Program} {w : World} {A : Around} {E : Value → Shared → Prop} {s : Shared} {z TI TO T i1 i2 l1 l2 : Addr} {f : Bool} {oT : Obj} {k : Nat} {xs ys : Array Value}
theorem zh_next {x y : Value} {Q : Value → Shared → Prop} (D : ZipApart z TI TO i1 i2 l1 l2) (gz : IsZipHeld s.heap z TI TO T f) (gT : s.heap.get? T = some oT) (gI : IsPair s.heap TI (.ref i1) (.ref i2))
    (c1 : s.heap.IsTupleIter i1 l1 k) (c2 : s.heap.IsTupleIter i2 l2 k) (t1 : s.heap.IsTuple l1 xs) (t2 : s.heap.IsTuple l2 ys) (ex : xs[k]? = some x) (ey : ys[k]? = some y)
    (q : ∀ g, IsZipHeld g z TI TO T true → g.IsTupleIter i1 l1 (k + 1) → g.IsTupleIter i2 l2 (k + 1) → IsPair g s.heap.objs.size x y → g.objs.size = s.heap.objs.size + 1 → (∀ c o, c ≠ z → c ≠ i1 → c ≠ i2 → s.heap.get? c = some o → g.get? c = some o) → Q (.ref s.heap.objs.size) { s with heap := g }) :
    wpAny (model prog w) A (Builtin.«zip.__next__» ⟨[.ref z], []⟩) (fun fin s' => ∃ v, fin = .done (.ret v) ∧ Q v s') E s := by
  show wpAny _ _ (field (.ref z) 2 >>= _) _ _ _
  refine wpAny_bind (wpAny_field gz rfl (x := .bool false) rfl ?_)
  show wpAny _ _ (field (.ref z) 3 >>= _) _ _ _
  refine wpAny_bind (wpAny_field gz rfl (x := .ref TI) rfl (wpAny_bind (wpAny_seqItems gI rfl ?_)))
  show wpAny _ _ (Builtin.SmallTypes.ownedTupleIsFree (.ref z) >>= _) _ _ _
  refine wpAny_bind (wpAny_tupleHeld_zip gz gT fun g1 gz1 b1 => ?_)
  simp only [Bool.false_eq_true, if_false]
  refine wpAny_bind ?_
  rw [← Array.forIn_toList]
  simp only [List.forIn_cons, List.forIn_nil]
  refine wpAny_bind (wpAny_bind (wpAny_holding ?_))
  show wpAny _ _ (Builtin.SmallTypes.nextOf (.ref i1) >>= _) _ _ _
  refine wpAny_bind (nextOf_tuple_item (s := { s with heap := g1 }) (c1.extBut b1.extBut D.i1z) (t1.extBut b1.extBut D.l1z) ex fun g2 d1 b2 => wpAny_pure (wpAny_pure ?_))
  refine wpAny_bind (wpAny_bind (wpAny_holding ?_))
  show wpAny _ _ (Builtin.SmallTypes.nextOf (.ref i2) >>= _) _ _ _
  refine wpAny_bind (nextOf_tuple_item (s := { s with heap := g2 }) ((c2.extBut b1.extBut D.i2z).extBut b2.extBut D.i12.symm) ((t2.extBut b1.extBut D.l2z).extBut b2.extBut D.l2i1) ey fun g3 d2 b3 => wpAny_pure (wpAny_pure (wpAny_pure ?_)))
  show wpAny _ _ (newTuple [x, y] >>= _) _ _ _
  refine wpAny_bind (wpAny_newTuple ?_)
  have zs : g3.objs.size = s.heap.objs.size := by rw [b3.1, b2.1, b1.1]
  have gz3 : IsZipHeld g3 z TI TO T true := b3.extBut _ _ D.i2z.symm (b2.extBut _ _ D.i1z.symm gz1)
  have kp : ∀ c o, c ≠ z → c ≠ i1 → c ≠ i2 → s.heap.get? c = some o → g3.get? c = some o := fun c o n1 n2 n3 e => b3.extBut _ _ n3 (b2.extBut _ _ n2 (b1.extBut _ _ n1 e))
  have d13 : g3.IsTupleIter i1 l1 (k + 1) := d1.extBut b3.extBut D.i12
  refine wpAny_pure ⟨_, rfl, ?_⟩
  show Q (.ref g3.objs.size) _
  have pp : IsPair (g3.push { cls := .type "tuple", data := .seq #[x, y] }) g3.objs.size x y := Heap.get?_push_size _ rfl
  have ps : (g3.push { cls := .type "tuple", data := .seq #[x, y] }).objs.size = g3.objs.size + 1 := Heap.size_push ..
  rw [zs] at pp ps ⊢
  exact q _ (Heap.get?_push_of_some _ gz3) (d13.at fun o e => Heap.get?_push_of_some _ e) (d2.at fun o e => Heap.get?_push_of_some _ e) pp ps fun c o n1 n2 n3 e => Heap.get?_push_of_some _ (kp c o n1 n2 n3 e)
theorem zh_last {Q : Fin → Shared → Prop} (hh : A.handled = none) (D : ZipApart z TI TO i1 i2 l1 l2) (gz : IsZipHeld s.heap z TI TO T f) (gT : s.heap.get? T = some oT) (gI : IsPair s.heap TI (.ref i1) (.ref i2))
    (c1 : s.heap.IsTupleIter i1 l1 k) (t1 : s.heap.IsTuple l1 xs) (ex : xs[k]? = none)
    (q : ∀ g e, (∀ c o, c ≠ z → c ≠ i1 → s.heap.get? c = some o → g.get? c = some o) → (∃ o, g.get? e = some o ∧ o.cls = .type "StopIteration") → E (.ref e) { s with heap := g }) :
    wpAny (model prog w) A (Builtin.«zip.__next__» ⟨[.ref z], []⟩) Q E s := by
  show wpAny _ _ (field (.ref z) 2 >>= _) _ _ _
  refine wpAny_bind (wpAny_field gz rfl (x := .bool false) rfl ?_)
  show wpAny _ _ (field (.ref z) 3 >>= _) _ _ _
  refine wpAny_bind (wpAny_field gz rfl (x := .ref TI) rfl (wpAny_bind (wpAny_seqItems gI rfl ?_)))
  show wpAny _ _ (Builtin.SmallTypes.ownedTupleIsFree (.ref z) >>= _) _ _ _
  refine wpAny_bind (wpAny_tupleHeld_zip gz gT fun g1 gz1 b1 => ?_)
  simp only [Bool.false_eq_true, if_false]
  refine wpAny_bind ?_
  rw [← Array.forIn_toList]
  simp only [List.forIn_cons, List.forIn_nil]
  refine wpAny_bind (wpAny_bind (wpAny_holding ?_))
  show wpAny _ _ (Builtin.SmallTypes.nextOf (.ref i1) >>= _) _ _ _
  exact wpAny_bind (nextOf_tuple_end (s := { s with heap := g1 }) hh (c1.extBut b1.extBut D.i1z) (t1.extBut b1.extBut D.l1z) ex fun g2 e b2 he => q g2 e (fun c o n1 n2 x => b2 _ _ n2 (b1.extBut _ _ n1 x)) he)
theorem zh_pyNext {x y : Value} {Q : Option Value → Shared → Prop} (D : ZipApart z TI TO i1 i2 l1 l2) (gz : IsZipHeld s.heap z TI TO T f) (gT : s.heap.get? T = some oT) (gI : IsPair s.heap TI (.ref i1) (.ref i2))
    (c1 : s.heap.IsTupleIter i1 l1 k) (c2 : s.heap.IsTupleIter i2 l2 k) (t1 : s.heap.IsTuple l1 xs) (t2 : s.heap.IsTuple l2 ys) (ex : xs[k]? = some x) (ey : ys[k]? = some y)
    (q : ∀ g, IsZipHeld g z TI TO T true → g.IsTupleIter i1 l1 (k + 1) → g.IsTupleIter i2 l2 (k + 1) → IsPair g s.heap.objs.size x y → g.objs.size = s.heap.objs.size + 1 → (∀ c o, c ≠ z → c ≠ i1 → c ≠ i2 → s.heap.get? c = some o → g.get? c = some o) → Q (some (.ref s.heap.objs.size)) { s with heap := g }) :
    wpAny (model prog w) A (pyNext (.ref z)) Q E s := by
  have ty : s.TypeIs (.ref z) "zip" := ⟨_, gz, rfl⟩
  unfold pyNext
  exact wpAny_bind (wpAny_attempt (wpAny_callSpecial?_slot (name := Str.ofString "__next__") ty PySem.F.slot_zip_next
    (wpAny_call_entry PySem.F.slot_zip_next ty PySem.F.entry_zip_next (zh_next D gz gT gI c1 c2 t1 t2 ex ey fun g a1 a2 a3 a4 a5 a6 => wpAny_pure (q g a1 a2 a3 a4 a5 a6)) (PySem.F.args_zip_next_1 _))))
theorem zh_pyEnd {Q : Option Value → Shared → Prop} (hh : A.handled = none) (D : ZipApart z TI TO i1 i2 l1 l2) (gz : IsZipHeld s.heap z TI TO T f) (gT : s.heap.get? T = some oT) (gI : IsPair s.heap TI (.ref i1) (.ref i2))
    (c1 : s.heap.IsTupleIter i1 l1 k) (t1 : s.heap.IsTuple l1 xs) (ex : xs[k]? = none)
    (q : ∀ g, (∀ c o, c ≠ z → c ≠ i1 → s.heap.get? c = some o → g.get? c = some o) → Q none { s with heap := g }) : wpAny (model prog w) A (pyNext (.ref z)) Q E s := by
  have ty : s.TypeIs (.ref z) "zip" := ⟨_, gz, rfl⟩
  unfold pyNext
  refine wpAny_bind (wpAny_attempt (wpAny_callSpecial?_slot (name := Str.ofString "__next__") ty PySem.F.slot_zip_next
    (wpAny_call_entry PySem.F.slot_zip_next ty PySem.F.entry_zip_next (zh_last hh D gz gT gI c1 t1 ex fun g e hk he => ?_) (PySem.F.args_zip_next_1 _))))
  obtain ⟨o, ho, hc⟩ := he
  exact wpAny_bind (wpAny_isInstance (T := "StopIteration") (b := true) ⟨o, ho, hc⟩ isSubtype_stop (wpAny_pure (q _ hk)))
/-- a zip of two tuples behind i turns: fresh, or its last pair is out -/
def ZSt (h : Heap) (z TI TO i1 i2 l1 l2 S : Addr) (i : Nat) : Prop :=
  IsPair h TI (.ref i1) (.ref i2) ∧ h.IsTupleIter i1 l1 i ∧ h.IsTupleIter i2 l2 i ∧
  ((IsZip h z TI TO .none ∧ ∃ a b, IsPair h TO a b) ∨ ∃ (T : Addr) (f : Bool) (oT : Obj), IsZipHeld h z TI TO T f ∧ h.get? T = some oT ∧ T ≠ z ∧ T ≠ i1 ∧ T ≠ i2 ∧ T ≠ S)
/-- the zip's own cells lie away from the list that grows -/
structure ZAp (z TI TO i1 i2 l1 l2 S : Addr) : Prop where
  D : ZipApart z TI TO i1 i2 l1 l2
  z : z ≠ S
  ti : TI ≠ S
  to : TO ≠ S
  i1 : i1 ≠ S
  i2 : i2 ≠ S
  l1 : l1 ≠ S
  l2 : l2 ≠ S
theorem ZSt.up {h h' : Heap} {S : Addr} {i : Nat} (P : ZAp z TI TO i1 i2 l1 l2 S) (st : ZSt h z TI TO i1 i2 l1 l2 S i) (k : ∀ b o, b ≠ S → h.get? b = some o → h'.get? b = some o) : ZSt h' z TI TO i1 i2 l1 l2 S i := by
  obtain ⟨a, b, c, d⟩ := st
  refine ⟨k _ _ P.ti a, b.at fun o e => k _ _ P.i1 e, c.at fun o e => k _ _ P.i2 e, ?_⟩
  rcases d with ⟨d1, x, y, d2⟩ | ⟨T, f, oT, d1, d2, n1, n2, n3, n4⟩
  · exact .inl ⟨k _ _ P.z d1, x, y, k _ _ P.to d2⟩
  · exact .inr ⟨T, f, oT, k _ _ P.z d1, k _ _ n4 d2, n1, n2, n3, n4⟩
theorem zs_item {S : Addr} {x y : Value} {Q : Option Value → Shared → Prop} (P : ZAp z TI TO i1 i2 l1 l2 S) (st : ZSt s.heap z TI TO i1 i2 l1 l2 S k) (hS : S < s.heap.objs.size) (t1 : s.heap.IsTuple l1 xs) (t2 : s.heap.IsTuple l2 ys) (ex : xs[k]? = some x) (ey : ys[k]? = some y)
    (q : ∀ g, ZSt g z TI TO i1 i2 l1 l2 S (k + 1) → IsPair g s.heap.objs.size x y → g.objs.size = s.heap.objs.size + 1 → (∀ c o, c ≠ z → c ≠ TO → c ≠ i1 → c ≠ i2 → s.heap.get? c = some o → g.get? c = some o) → Q (some (.ref s.heap.objs.size)) { s with heap := g }) :
    wpAny (model prog w) A (pyNext (.ref z)) Q E s := by
  obtain ⟨a, b, c, d⟩ := st
  have nS : s.heap.objs.size ≠ S := Nat.ne_of_gt hS
  have lt : ∀ {b : Addr} {o : Obj}, s.heap.get? b = some o → s.heap.objs.size ≠ b := fun e => Nat.ne_of_gt (Heap.lt_size e)
  have n1 : s.heap.objs.size ≠ i1 := by obtain ⟨o, e, _⟩ := id b; exact lt e
  have n2 : s.heap.objs.size ≠ i2 := by obtain ⟨o, e, _⟩ := id c; exact lt e
  rcases d with ⟨d1, u, v, d2⟩ | ⟨T, f, oT, d1, d2, m1, m2, m3, m4⟩
  · exact pyNext_zipT_item P.D d1 a d2 b c t1 t2 ex ey fun g gz gO e1 e2 pp ps kp => q g ⟨kp _ _ P.D.TIz P.D.TITO P.D.TIi1 P.D.TIi2 a, e1, e2, .inr ⟨_, false, _, gz, pp, lt d1, n1, n2, nS⟩⟩ pp ps kp
  · exact zh_pyNext P.D d1 d2 a b c t1 t2 ex ey fun g gz e1 e2 pp ps kp => q g ⟨kp _ _ P.D.TIz P.D.TIi1 P.D.TIi2 a, e1, e2, .inr ⟨T, true, oT, gz, kp _ _ m1 m2 m3 d2, m1, m2, m3, m4⟩⟩ pp ps fun c o c1 _ c3 c4 => kp c o c1 c3 c4
theorem zs_end {S : Addr} {Q : Option Value → Shared → Prop} (hh : A.handled = none) (P : ZAp z TI TO i1 i2 l1 l2 S) (st : ZSt s.heap z TI TO i1 i2 l1 l2 S k) (t1 : s.heap.IsTuple l1 xs) (t2 : s.heap.IsTuple l2 ys) (ex : xs[k]? = none)
    (q : ∀ g, (∀ c o, c ≠ z → c ≠ TO → c ≠ i1 → c ≠ i2 → s.heap.get? c = some o → g.get? c = some o) → Q none { s with heap := g }) : wpAny (model prog w) A (pyNext (.ref z)) Q E s := by
  obtain ⟨a, b, c, d⟩ := st
  rcases d with ⟨d1, u, v, d2⟩ | ⟨T, f, oT, d1, d2, m1, m2, m3, m4⟩
  · exact pyNext_zipT_end hh P.D d1 a d2 b c t1 t2 (.inl ex) fun g kp => q g kp
  · exact zh_pyEnd hh P.D d1 d2 a b t1 ex fun g kp => q g fun c o c1 _ c3 _ => kp c o c1 c3
/-- the addresses as hold the pairs of xs and ys -/
def PairsAt (xs ys : Array Value) (lo : Addr) (h : Heap) (as : List Addr) : Prop := as.Pairwise (· < ·) ∧ (∀ a ∈ as, lo < a) ∧ ∀ (j : Nat) (a : Addr), as[j]? = some a → ∃ x y, xs[j]? = some x ∧ ys[j]? = some y ∧ IsPair h a x y
end
section
variable {prog : Program} {w : World} {A : Around} {E : Value → Shared → Prop} {s : Shared} {z TI TO i1 i2 l1 l2 S : Addr} {xs ys : Array Value}
theorem zs_loop {R : Result → Shared → Prop} (hh : A.handled = none) (P : ZAp z TI TO i1 i2 l1 l2 S) (hxy : xs.size = ys.size) (hn : xs.size ≤ sizeLine) (res : Value) (lo : Addr) {h0 : Heap} (lz : z ≤ lo) (lT : TO ≤ lo) (l1o : i1 ≤ lo) (l2o : i2 ≤ lo) (lS : S ≤ lo)
    (q : ∀ g tk acc c as, (∀ b o, b ≠ S → b ≠ z → b ≠ TO → b ≠ i1 → b ≠ i2 → h0.get? b = some o → g.get? b = some o) → g.get? S = some { cls := .type "list", dict := none, data := .seq acc c, slots := #[] } → as.length = xs.size → PairsAt xs ys lo g as →
      acc.toList = as.map Value.ref → R (.ok (.ret res)) { s with heap := g, toks := tk }) :
    ∀ (m i : Nat) (h : Heap) (tk c : Nat) (acc : Array Value) (as : List Addr), xs.size - i = m → i ≤ xs.size → ZSt h z TI TO i1 i2 l1 l2 S i → h.IsTuple l1 xs → h.IsTuple l2 ys → (∀ b o, b ≠ S → b ≠ z → b ≠ TO → b ≠ i1 → b ≠ i2 → h0.get? b = some o → h.get? b = some o) →
      h.get? S = some { cls := .type "list", dict := none, data := .seq acc c, slots := #[] } → acc.toList = as.map Value.ref → as.length = i → PairsAt xs ys lo h as → lo < h.objs.size →
      codeAny (model prog w) A (.builtin "list.extend.loop" ⟨[.ref S, .ref z, res], []⟩) R { s with heap := h, toks := tk } := by
  intro m
  induction m with
  | zero =>
    intro i h tk c acc as hm hi st t1 t2 kp eS ea al pa hlo
    refine codeAny_builtin PySem.F.entry_extend_loop ?_
    rw [Around.under_plainId PySem.F.plain_extend_loop _]
    show wpAny _ A.in1 (pyNext (.ref z) >>= _) _ _ _
    refine wpAny_bind (zs_end (s := { s with heap := h, toks := tk }) (A := A.in1) hh P st t1 t2 (Array.getElem?_eq_none (by omega)) fun g k2 => ?_)
    refine wpAny_pure (q g tk acc c as (fun b o n1 n2 n3 n4 n5 e => k2 b o n2 n3 n4 n5 (kp b o n1 n2 n3 n4 n5 e)) (k2 S _ P.z.symm P.to.symm P.i1.symm P.i2.symm eS) (by omega) ⟨pa.1, pa.2.1, fun j a hj => ?_⟩ ea)
    obtain ⟨x, y, e1, e2, e3⟩ := pa.2.2 j a hj
    have hb := pa.2.1 a (List.mem_of_getElem? hj)
    exact ⟨x, y, e1, e2, k2 a _ (Nat.ne_of_gt (Nat.lt_of_le_of_lt lz hb)) (Nat.ne_of_gt (Nat.lt_of_le_of_lt lT hb)) (Nat.ne_of_gt (Nat.lt_of_le_of_lt l1o hb)) (Nat.ne_of_gt (Nat.lt_of_le_of_lt l2o hb)) e3⟩
  | succ m ih =>
    intro i h tk c acc as hm hi st t1 t2 kp eS ea al pa hlo
    have hlt : i < xs.size := by omega
    have hlt2 : i < ys.size := by omega
    have sz : acc.size = i := by rw [← Array.length_toList, ea, List.length_map, al]
    have lSh : S < h.objs.size := Heap.lt_size eS
    refine codeAny_builtin PySem.F.entry_extend_loop ?_
    rw [Around.under_plainId PySem.F.plain_extend_loop _]
    show wpAny _ A.in1 (pyNext (.ref z) >>= _) _ _ _
    refine wpAny_bind (zs_item (s := { s with heap := h, toks := tk }) P st lSh t1 t2 (Array.getElem?_eq_getElem hlt) (Array.getElem?_eq_getElem hlt2) fun g st2 pp ps k2 => ?_)
    dsimp only at pp ps k2 ⊢
    have eS2 := k2 S _ P.z.symm P.to.symm P.i1.symm P.i2.symm eS
    have up : ∀ b o, b ≠ S → g.get? b = some o → (g.update S (Obj.mapSeq (·.push (Value.ref h.objs.size)))).get? b = some o := fun b o hb e => (Heap.get?_update_other _ _ (Ne.symm hb)).trans e
    show wpAny _ A.in1 (updateSeq S (·.push (Value.ref h.objs.size)) >>= _) _ _ _
    refine wpAny_bind (wpAny_updateSeq eS2 rfl (wpAny_pure ⟨plainId_quiet PySem.F.plain_extend_loop _, ih (i + 1) _ tk _ (acc.push (Value.ref h.objs.size)) (as ++ [h.objs.size]) (by omega) hlt (st2.up P up)
      (t1.at fun o e => up l1 o P.l1 (k2 _ o P.D.l1z P.D.l1TO P.D.l1i1 P.D.l1i2 e)) (t2.at fun o e => up l2 o P.l2 (k2 _ o P.D.l2z P.D.l2TO P.D.l2i1 P.D.l2i2 e))
      (fun b o n1 n2 n3 n4 n5 e => up b o n1 (k2 b o n2 n3 n4 n5 (kp b o n1 n2 n3 n4 n5 e))) (Heap.get?_update_self _ eS2 rfl) (by rw [Array.toList_push, ea, List.map_append]; rfl) (by rw [List.length_append, al]; rfl) ⟨?_, ?_, ?_⟩ ?_⟩) (by rw [sz]; omega) (by show (acc.push (Value.ref h.objs.size)).size ≤ sizeLine + 1; rw [Array.size_push, sz]; omega))
    · refine List.pairwise_append.mpr ⟨pa.1, List.pairwise_singleton _ _, fun a ha b hb => ?_⟩
      rw [List.mem_singleton.mp hb]
      obtain ⟨j, hj⟩ := List.getElem?_of_mem ha
      obtain ⟨x, y, _, _, e3⟩ := pa.2.2 j a hj
      exact Heap.lt_size e3
    · intro a ha
      rcases List.mem_append.mp ha with ha | ha
      · exact pa.2.1 a ha
      · rw [List.mem_singleton.mp ha]
        exact hlo
    · intro j b hj
      rcases Nat.lt_trichotomy j as.length with h1 | h1 | h1
      · rw [List.getElem?_append_left h1] at hj
        obtain ⟨x, y, e1, e2, e3⟩ := pa.2.2 j b hj
        have hb := pa.2.1 b (List.mem_of_getElem? hj)
        exact ⟨x, y, e1, e2, up b _ (Nat.ne_of_gt (Nat.lt_of_le_of_lt lS hb)) (k2 b _ (Nat.ne_of_gt (Nat.lt_of_le_of_lt lz hb)) (Nat.ne_of_gt (Nat.lt_of_le_of_lt lT hb)) (Nat.ne_of_gt (Nat.lt_of_le_of_lt l1o hb)) (Nat.ne_of_gt (Nat.lt_of_le_of_lt l2o hb)) e3)⟩
      · subst h1
        have hb : h.objs.size = b := by simpa using hj
        subst hb
        subst al
        exact ⟨_, _, Array.getElem?_eq_getElem hlt, Array.getElem?_eq_getElem hlt2, up _ _ (Nat.ne_of_gt lSh) pp⟩
      · have no : (as ++ [h.objs.size])[j]? = none := List.getElem?_eq_none (by rw [List.length_append, List.length_singleton]; omega)
        rw [no] at hj
        cases hj
    · have e : (g.update S (Obj.mapSeq (·.push (Value.ref h.objs.size)))).get? h.objs.size = _ := up _ _ (Nat.ne_of_gt lSh) pp
      exact Nat.lt_trans hlo (Heap.lt_size e)
end
section
variable {prog : Program} {w : World} {A : Around} {E : Value → Shared → Prop} {s : Shared} {z TI TO i1 i2 l1 l2 : Addr} {xs ys : Array Value}
theorem no_len_zip : typeLookup (.type "zip") "__len__" = pure none := by rw [typeLookup_type, builtinLookup_eq_fast]; kernel_rfl
theorem no_hint_zip : typeLookup (.type "zip") "__length_hint__" = pure none := by rw [typeLookup_type, builtinLookup_eq_fast]; kernel_rfl
theorem zs_hint (ty : s.TypeIs (.ref z) "zip") {Q : Bool → Shared → Prop} (q : Q true s) : wpAny (model prog w) A (Builtin.List.listLengthHint (.ref z)) Q E s := by
  unfold Builtin.List.listLengthHint
  refine wpAny_bind (wpAny_specialOf ty no_len_zip ?_)
  refine wpAny_bind (wpAny_specialOf ty no_hint_zip ?_)
  exact wpAny_pure q
theorem zs_extend {R : Result → Shared → Prop} (hh : A.handled = none) {S : Addr} (P : ZAp z TI TO i1 i2 l1 l2 S) (st : ZSt s.heap z TI TO i1 i2 l1 l2 S 0) (gz : IsZip s.heap z TI TO .none) (t1 : s.heap.IsTuple l1 xs) (t2 : s.heap.IsTuple l2 ys) (hxy : xs.size = ys.size) (hn : xs.size ≤ sizeLine) (res : Value) (c0 : Nat)
    (lo : Addr) (lz : z ≤ lo) (lT : TO ≤ lo) (l1o : i1 ≤ lo) (l2o : i2 ≤ lo) (lS : S ≤ lo) (ll : lo < s.heap.objs.size) (eS : s.heap.get? S = some { cls := .type "list", data := .seq #[] c0 })
    (q : ∀ g tk acc c as, (∀ b o, b ≠ S → b ≠ z → b ≠ TO → b ≠ i1 → b ≠ i2 → s.heap.get? b = some o → g.get? b = some o) → g.get? S = some { cls := .type "list", dict := none, data := .seq acc c, slots := #[] } → as.length = xs.size → PairsAt xs ys lo g as →
      acc.toList = as.map Value.ref → R (.ok (.ret res)) { s with heap := g, toks := tk }) :
    wpAny (model prog w) A.in1 (Builtin.List.listExtendWith (.ref S) (.ref z) res)
      (fun fin s' => match fin with | .done f => R (.ok f) s' | .again c' => c'.quiet = true ∧ codeAny (model prog w) A c' R s') (fun e s' => R (.error e) s') s := by
  have ty : s.TypeIs (.ref z) "zip" := ⟨_, gz, rfl⟩
  have key : ∀ (h : Heap) (c1 tk : Nat), (∀ b o, b ≠ S → s.heap.get? b = some o → h.get? b = some o) → lo < h.objs.size → h.get? S = some { cls := .type "list", data := .seq #[] c1 } →
      codeAny (model prog w) A (.builtin "list.extend.loop" ⟨[.ref S, .ref z, res], []⟩) R { s with heap := h, toks := tk } := fun h c1 tk k lh e =>
    zs_loop hh P hxy hn res lo lz lT l1o l2o lS q xs.size 0 h tk c1 #[] [] (Nat.sub_zero _) (Nat.zero_le _) (st.up P k) (t1.at fun o x => k l1 o P.l1 x) (t2.at fun o x => k l2 o P.l2 x) (fun b o n1 _ _ _ _ x => k b o n1 x) e rfl rfl ⟨List.Pairwise.nil, (fun _ ha => nomatch ha), fun j a hj => by cases hj⟩ lh
  unfold Builtin.List.listExtendWith
  refine wpAny_bind (wpAny_typeOf (T := "zip") ty ?_)
  have e1 : Builtin.List.listSameRef (.ref S) (.ref z) = false := by simp [Builtin.List.listSameRef, P.z.symm]
  have e2 : (Value.type "zip" == Value.type "list") = false := by decide
  have e3 : (Value.type "zip" == Value.type "tuple") = false := by decide
  simp only [e1, e2, e3, Bool.or_false, Bool.false_eq_true, if_false]
  refine wpAny_bind (wpAny_pyIter_zip gz ?_)
  refine wpAny_bind (wpAny_holding (zs_hint ty ?_))
  refine wpAny_ite_split (fun _ => ?_) (fun z => absurd (by rfl) z)
  refine wpAny_bind (wpAny_rule (wpAny_bind ?_))
  show wpAny _ _ (updateSeq S (·.push .none) >>= fun _ => updateSeq S (·.pop)) _ _ _
  refine wpAny_bind (wpAny_updateSeq eS rfl ?_)
  have eS2 := Heap.get?_update_self (Obj.mapSeq (·.push Value.none)) eS rfl
  refine wpAny_updateSeq (hz := by seq_fits) eS2 rfl ?_
  have eS3 := Heap.get?_update_self (Obj.mapSeq (·.pop)) eS2 rfl
  refine wpAny_pure ⟨plainId_quiet PySem.F.plain_extend_loop _, key _ _ _ (fun b o hb e => (Heap.get?_update_other _ _ (Ne.symm hb)).trans ((Heap.get?_update_other _ _ (Ne.symm hb)).trans e)) ?_ eS3⟩
  have sz := fun (g : Heap) (f : Obj → Obj) => (Heap.SameBut.update g S f).1
  show lo < (((s.heap.update S _).update S _).objs.size)
  rw [sz, sz]
  exact ll
theorem zs_call {Q : Value → Shared → Prop} (hh : A.handled = none) (D : ZipApart z TI TO i1 i2 l1 l2) (gz : IsZip s.heap z TI TO .none) (gI : IsPair s.heap TI (.ref i1) (.ref i2)) (gO : ∃ a b, IsPair s.heap TO a b)
    (c1 : s.heap.IsTupleIter i1 l1 0) (c2 : s.heap.IsTupleIter i2 l2 0) (t1 : s.heap.IsTuple l1 xs) (t2 : s.heap.IsTuple l2 ys) (hxy : xs.size = ys.size) (hn : xs.size ≤ sizeLine)
    (q : ∀ g tk acc c as, (∀ b o, b ≠ z → b ≠ TO → b ≠ i1 → b ≠ i2 → s.heap.get? b = some o → g.get? b = some o) → g.get? s.heap.objs.size = some { cls := .type "list", dict := none, data := .seq acc c, slots := #[] } → as.length = xs.size → PairsAt xs ys s.heap.objs.size g as →
      acc.toList = as.map Value.ref → Q (.ref s.heap.objs.size) { s with heap := g, toks := tk }) :
    wpAny (model prog w) A (call (.type "list") [.ref z]) Q E s := by
  refine callType_codes (Q₁ := fun obj s1 => obj = .ref s.heap.objs.size ∧ s1 = { s with heap := s.heap.push { cls := .type "list", data := .seq #[] } }) PySem.F.called_list (PySem.F.typeCall_list_1 _) PySem.F.entry_list_init
    (code_list_new _ ⟨rfl, rfl⟩) fun obj s1 h1 => ?_
  obtain ⟨rfl, rfl⟩ := h1
  have eS : (s.heap.push { cls := .type "list", data := .seq #[] }).get? s.heap.objs.size = some { cls := .type "list", data := .seq #[] } := Heap.get?_push_size _ rfl
  have lt : ∀ {b : Addr} {o : Obj}, s.heap.get? b = some o → b < s.heap.objs.size := fun e => Heap.lt_size e
  have lz := lt gz
  have lI := lt gI
  have lO : TO < s.heap.objs.size := by obtain ⟨a, b, e⟩ := gO; exact lt e
  have m1 : i1 < s.heap.objs.size := by obtain ⟨o, e, _⟩ := id c1; exact lt e
  have m2 : i2 < s.heap.objs.size := by obtain ⟨o, e, _⟩ := id c2; exact lt e
  have n1 : l1 < s.heap.objs.size := by obtain ⟨o, e, _⟩ := id t1; exact lt e
  have n2 : l2 < s.heap.objs.size := by obtain ⟨o, e, _⟩ := id t2; exact lt e
  have P : ZAp z TI TO i1 i2 l1 l2 s.heap.objs.size := ⟨D, Nat.ne_of_lt lz, Nat.ne_of_lt lI, Nat.ne_of_lt lO, Nat.ne_of_lt m1, Nat.ne_of_lt m2, Nat.ne_of_lt n1, Nat.ne_of_lt n2⟩
  refine ⟨⟨_, eS, rfl⟩, PySem.F.args_list_init_2 _ _, ?_⟩
  show wpAny _ _ (do let old ← Builtin.List.listItems (.ref s.heap.objs.size); Builtin.List.listUpdate (.ref s.heap.objs.size) (fun _ => #[]); letGo old.toList.reverse; Builtin.List.listExtendWith (.ref s.heap.objs.size) (.ref z) .none) _ _ _
  refine wpAny_bind ?_
  unfold Builtin.List.listItems
  refine wpAny_bind (wpAny_seqItems eS rfl (wpAny_pure ?_))
  show wpAny _ _ (updateSeq s.heap.objs.size (fun _ => #[]) >>= fun _ => letGo (#[] : Array Value).toList.reverse >>= fun _ => Builtin.List.listExtendWith (.ref s.heap.objs.size) (.ref z) .none) _ _ _
  refine wpAny_bind (wpAny_updateSeq eS rfl ?_)
  have eS2 := Heap.get?_update_self (Obj.mapSeq (fun _ => (#[] : Array Value))) eS rfl
  have k : ∀ b o, s.heap.get? b = some o → ((s.heap.push { cls := .type "list", data := .seq #[] }).update s.heap.objs.size (Obj.mapSeq (fun _ => (#[] : Array Value)))).get? b = some o :=
    fun b o e => (Heap.get?_update_other _ _ (Nat.ne_of_gt (lt e))).trans (Heap.get?_push_of_some _ e)
  refine wpAny_bind (wpAny_letGo ?_)
  refine zs_extend (s := { s with heap := (s.heap.push { cls := .type "list", data := .seq #[] }).update s.heap.objs.size (Obj.mapSeq (fun _ => (#[] : Array Value))) }) (A := A.in1) hh P ⟨k _ _ gI, c1.at fun o e => k _ _ e, c2.at fun o e => k _ _ e, .inl ⟨k _ _ gz, ?_⟩⟩ (k _ _ gz) (t1.at fun o e => k _ _ e) (t2.at fun o e => k _ _ e) hxy hn .none _ s.heap.objs.size (Nat.le_of_lt lz) (Nat.le_of_lt lO) (Nat.le_of_lt m1) (Nat.le_of_lt m2) (Nat.le_refl _) ?_ eS2 fun g tk acc c as kp eg al pa ea => ?_
  · obtain ⟨a, b, e⟩ := gO
    exact ⟨a, b, k _ _ e⟩
  · show s.heap.objs.size < ((s.heap.push { cls := .type "list", data := .seq #[] }).update s.heap.objs.size _).objs.size
    rw [(Heap.SameBut.update ..).1, Heap.size_push]
    exact Nat.lt_succ_self _
  · exact ⟨rfl, q g tk acc c as (fun b o b1 b2 b3 b4 e => kp b o (Nat.ne_of_lt (lt e)) b1 b2 b3 b4 (k _ _ e)) eg al pa ea⟩
end
end RZ
namespace Fv
open PySem PySem.Spec PyProof.Rows L2 RZ
/-- many new objects at once -/
theorem inv_many {X : Cx} {pins : List (Addr × Obj)} {σ : L2.St} {H H' : Hp} {s : Shared} {g : Heap} {tk : Nat} (I : Inv X pins σ H s) (k : ∀ b o, s.heap.get? b = some o → g.get? b = some o) (old : ∀ b, b < s.heap.objs.size → H' b = H b)
    (new : ∀ b o, s.heap.objs.size ≤ b → H' b = some o → ObjOk X.prog X.w H' g b o) : Inv X pins σ H' { s with heap := g, toks := tk } := by
  have lt : ∀ b o, H b = some o → b < s.heap.objs.size := fun b o e => Nat.lt_of_not_le fun z => by rw [I.hok.fresh z] at e; cases e
  have up : ∀ b o, H b = some o → H' b = some o := fun b o e => (old b (lt b o e)).trans e
  refine I.un (t' := tk) ⟨fun b o e _ _ _ => k b o e, fun b o e _ _ _ => ⟨o.slots, k b o e⟩, fun b o e n _ => (old b (Heap.lt_size e)).trans n, fun b o e _ => ⟨o, k b o e⟩, fun b xs e => up b _ e, fun b o u e => up b _ e, fun b ps e => ⟨#[], by rw [up b _ e]; simp⟩⟩ fun b o e => ?_
  rcases Nat.lt_or_ge b s.heap.objs.size with c | c
  · rw [old b c] at e
    exact (I.hok b o e).stay (fun c u _ q => k c u q) (fun c q => up c _ q) fun c xs q => up c _ q
  · exact new b o c e
/-- xs and ys in pairs at as -/
def PrAt (H : Hp) (as : List Addr) (xs ys : List V) : Prop := as.length = xs.length ∧ ∀ (j : Nat) (a : Addr) (x y : V), as[j]? = some a → xs[j]? = some x → ys[j]? = some y → H a = some (.tup [x, y])
def rListZip (K : PySem.W.Frag) (ta : TA) : TE := fun σ H Q => ta σ H fun vs H1 => ∃ a b xs ys, vs = [.ref a, .ref b] ∧ SqT K H1 a xs ∧ SqT K H1 b ys ∧ xs.length = ys.length ∧ xs.length ≤ 1000 ∧ ∀ L as H2, Same H1 H2 → H1 L = none → H2 L = some (.lst (as.map V.ref)) → PrAt H2 as xs ys → Q (.ref L) H2
open Classical in
/-- the new pairs and their list -/
noncomputable def layP (H : Hp) (L : Addr) (as : List Addr) (xs ys : List V) : Hp := fun b => if b = L then some (.lst (as.map V.ref)) else if h : ∃ j : Nat, as[j]? = some b then match xs[h.choose]?, ys[h.choose]? with
  | some x, some y => some (.tup [x, y])
  | _, _ => none else H b
theorem layP_at {H : Hp} {L : Addr} {as : List Addr} {xs ys : List V} {j : Nat} {a : Addr} {x y : V} (w : as.Pairwise (· < ·)) (nL : ∀ a ∈ as, L < a) (ha : as[j]? = some a) (hx : xs[j]? = some x) (hy : ys[j]? = some y) : layP H L as xs ys a = some (.tup [x, y]) := by
  unfold layP
  rw [if_neg (Nat.ne_of_gt (nL a (List.mem_of_getElem? ha)))]
  have h : ∃ j : Nat, as[j]? = some a := ⟨j, ha⟩
  rw [dif_pos h]
  have e : h.choose = j := by
    have c := h.choose_spec
    generalize h.choose = i at c
    obtain ⟨i1, e1⟩ := List.getElem?_eq_some_iff.mp c
    obtain ⟨j1, e2⟩ := List.getElem?_eq_some_iff.mp ha
    rcases Nat.lt_trichotomy i j with z | z | z
    · exact absurd (e1.trans e2.symm) (Nat.ne_of_lt (List.pairwise_iff_getElem.mp w i j i1 j1 z))
    · exact z
    · exact absurd (e2.trans e1.symm) (Nat.ne_of_lt (List.pairwise_iff_getElem.mp w j i j1 i1 z))
  rw [e, hx, hy]
theorem layP_is {H : Hp} {L b : Addr} {as : List Addr} {xs ys : List V} {o : HO} (w : as.Pairwise (· < ·)) (nL : ∀ a ∈ as, L < a) (l : as.length = xs.length) (l2 : xs.length = ys.length) (h : layP H L as xs ys b = some o) :
    (b = L ∧ o = .lst (as.map V.ref)) ∨ (∃ (j : Nat) (x y : V), as[j]? = some b ∧ xs[j]? = some x ∧ ys[j]? = some y ∧ o = .tup [x, y]) ∨ (b ≠ L ∧ b ∉ as ∧ H b = some o) := by
  by_cases e : b = L
  · refine .inl ⟨e, ?_⟩
    unfold layP at h
    rw [if_pos e] at h
    exact (Option.some.inj h).symm
  · by_cases m : b ∈ as
    · obtain ⟨j, hj⟩ := List.getElem?_of_mem m
      have hj2 := (List.getElem?_eq_some_iff.mp hj).1
      have hx := List.getElem?_eq_getElem (l := xs) (i := j) (by omega)
      have hy := List.getElem?_eq_getElem (l := ys) (i := j) (by omega)
      rw [layP_at w nL hj hx hy] at h
      exact .inr (.inl ⟨j, _, _, hj, hx, hy, (Option.some.inj h).symm⟩)
    · unfold layP at h
      rw [if_neg e, dif_neg (fun ⟨j, z⟩ => m (List.mem_of_getElem? z))] at h
      exact .inr (.inr ⟨e, m, h⟩)
theorem vals_refs : ∀ as : List Addr, Vals (as.map V.ref) (as.map Value.ref)
  | [] => .nil
  | a :: l => .cons rfl (vals_refs l)
theorem pe_listZip {X : Cx} {K : PySem.W.Frag} {e e2 : Expr} {ta : TA} {p p2 pos pos2 : Pos} (eK : X.K = K) (hc : X.calm = true) (gl : Gl X "list") (ml : X.mg "list" = none) (gz : Gl X "zip") (mz : X.mg "zip" = none) (ha : PA X [e, e2] ta)
    (na : starEach [Expr.Call (.Name "zip" p2) [e, e2] [] pos2] X.env = (false, eval (Expr.Call (.Name "zip" p2) [e, e2] [] pos2) X.env) :: starEach [] X.env := by rfl)
    (hs : starEach [e, e2] X.env = (false, eval e X.env) :: starEach [e2] X.env := by rfl) (hpl : (backTo pos2 (starEach [e2] X.env)).any (·.1) = false := by rfl) :
    PE X (.Call (.Name "list" p) [.Call (.Name "zip" p2) [e, e2] [] pos2] [] pos) (rListZip K ta) := by
  subst eK
  refine ⟨fun pins s σ H Q I h => ?_⟩
  refine Call_ (ld_blt I gl ml boot_list (PyProof.Rows.callWith_type1 (args_cons (wpAny_mono ?_ (fun v s2 z => args_nil z) fun _ _ z => z) na) na))
  refine Call_ (ld_blt I gz mz PyProof.Rows.boot_zip (PyProof.Rows.callWith_type1 (thn (ha.run pos2 pins s σ H _ I h) fun us s1 ⟨vs, H1, I1, r1, a, b, xs, ys, ev, sa, sb, lxy, l1000, q⟩ => ?_) hs hpl))
  subst ev
  cases r1 with
  | cons r rr =>
    cases rr with
    | cons r' rr =>
      cases rr
      cases r
      cases r'
      obtain ⟨its, rv, p1, _⟩ := I1.tuple sa
      obtain ⟨its2, rv2, p2, _⟩ := I1.tuple sb
      obtain ⟨o1, ho1, _⟩ := id p1
      obtain ⟨o2, ho2, _⟩ := id p2
      have il : its.length = xs.length := rv.length.symm
      have il2 : its2.length = ys.length := rv2.length.symm
      refine call_zipT (show s1.heap.IsTuple a its.toArray from p1) (show s1.heap.IsTuple b its2.toArray from p2) fun h' hz hTI hTO c1 c2 hsz hk => ?_
      refine zs_call (s := { s1 with heap := h' }) (I1.ok.hd hc) (PySem.W.ktu_apart s1.heap.objs.size a b (Heap.lt_size ho1) (Heap.lt_size ho2)) hz hTI ⟨_, _, hTO⟩ c1 c2 (xs := its.toArray) (ys := its2.toArray) (Heap.IsTuple.at (show s1.heap.IsTuple a its.toArray from p1) fun o e => hk _ _ e) (Heap.IsTuple.at (show s1.heap.IsTuple b its2.toArray from p2) fun o e => hk _ _ e) (by rw [List.size_toArray, List.size_toArray]; omega) (by rw [List.size_toArray, il, sizeLine_eq]; omega) fun g tk acc c as kp eg al pa ea => ?_
      have hs1 : s1.heap.objs.size < h'.objs.size := by rw [hsz]; exact Nat.lt_add_of_pos_right (by decide)
      have far : ∀ {b : Addr}, b < s1.heap.objs.size → b ≠ h'.objs.size ∧ b ∉ as := fun lt => ⟨Nat.ne_of_lt (Nat.lt_trans lt hs1), fun z => Nat.lt_irrefl _ (Nat.lt_trans (Nat.lt_trans lt hs1) (pa.2.1 _ z))⟩
      have kk : ∀ b o, s1.heap.get? b = some o → g.get? b = some o := fun b o e => by
        have lt := Heap.lt_size e
        exact kp b o (Nat.ne_of_lt (Nat.lt_of_lt_of_le lt (Nat.le_add_right _ _))) (Nat.ne_of_lt (Nat.lt_of_lt_of_le lt (Nat.le_add_right _ _))) (Nat.ne_of_lt lt) (Nat.ne_of_lt (Nat.lt_of_lt_of_le lt (Nat.le_add_right _ _))) (hk b o e)
      have al' : as.length = xs.length := by rw [al, List.size_toArray, il]
      have I2 : Inv X pins σ (layP H1 h'.objs.size as xs ys) { s1 with heap := g, toks := tk } := by
        refine inv_many I1 kk (fun b lt => ?_) fun b o ge e => ?_
        · unfold layP
          rw [if_neg (far lt).1, dif_neg fun ⟨j, z⟩ => (far lt).2 (List.mem_of_getElem? z)]
        · rcases layP_is pa.1 pa.2.1 al' lxy e with ⟨rfl, rfl⟩ | ⟨j, x, y, hj, hx, hy, rfl⟩ | ⟨_, _, e2⟩
          · refine (show ObjOk X.prog X.w _ _ _ (.lst (as.map V.ref)) from ⟨?_, as.map Value.ref, c, vals_refs as, ?_⟩)
            · rw [List.length_map, al', sizeLine_eq]
              omega
            · have e3 : acc = (as.map Value.ref).toArray := by rw [← ea, Array.toArray_toList]
              rw [← e3]
              exact eg
          · obtain ⟨u, v, eu, ev, pp⟩ := pa.2.2 j b hj
            obtain ⟨u', hu, ru⟩ := rv.get hx
            obtain ⟨v', hv, rw'⟩ := rv2.get hy
            have eu' : u = u' := by
              have e4 : its[j]? = some u := by simpa using eu
              rw [hu] at e4
              exact (Option.some.inj e4).symm
            have ev' : v = v' := by
              have e4 : its2[j]? = some v := by simpa using ev
              rw [hv] at e4
              exact (Option.some.inj e4).symm
            subst eu' ev'
            exact (show ObjOk X.prog X.w _ _ _ (.tup [x, y]) from ⟨by show 2 ≤ sizeLine; decide, [u, v], .cons ru (.cons rw' .nil), ⟨_, pp, rfl, _, rfl⟩⟩)
          · rw [I1.hok.fresh ge] at e2
            cases e2
      have new1 : H1 h'.objs.size = none := I1.hok.fresh (Nat.le_of_lt hs1)
      refine ⟨.ref h'.objs.size, _, I2, rfl, q h'.objs.size as _ (fun b o e => ?_) new1 ?_ ⟨al', fun j a x y h1 h2 h3 => layP_at pa.1 pa.2.1 h1 h2 h3⟩⟩
      · have lt : b < s1.heap.objs.size := Nat.lt_of_not_le fun z => by rw [I1.hok.fresh z] at e; cases e
        unfold layP
        rw [if_neg (far lt).1, dif_neg fun ⟨j, z⟩ => (far lt).2 (List.mem_of_getElem? z)]
        exact e
      · unfold layP
        rw [if_pos rfl]
theorem x_listZip {K : PySem.W.Frag} {σ : L2.St} {H : Hp} {Q : VK} {ta : TA} (h : ta σ H fun vs H1 => ∃ a b xs ys, vs = [.ref a, .ref b] ∧ SqT K H1 a xs ∧ SqT K H1 b ys ∧ xs.length = ys.length ∧ xs.length ≤ 1000 ∧ ∀ L as H2, Same H1 H2 → H1 L = none → H2 L = some (.lst (as.map V.ref)) → PrAt H2 as xs ys → Q (.ref L) H2) : rListZip K ta σ H Q := h
end Fv
set_option maxRecDepth 100000
set_option maxHeartbeats 2000000
/-! the least of a list of pairs; how often a number stands in a list -/
namespace Mp
open PySem PySem.W PySem.SeqAt
open PySem.Sem (wp)
section
variable {prog : Program} {w : World} {A : Around} {R : Result → Shared → Prop} {I : Addr} {fp wr : List Addr} {n : Nat} {P : Nat → Value → Prop} {St : Nat → Heap → Prop} {OK : Heap → Prop} {bt : Nat → Nat → Bool} {S : Addr}
/-- the comparison of items i and j, as long as OK holds -/
def CmpIn (prog : Program) (w : World) (A : Around) (OK : Heap → Prop) (P : Nat → Value → Prop) (bt : Nat → Nat → Bool) : Prop :=
  ∀ i j vi vj (s : Shared) (Q E : Value → Shared → Prop), OK s.heap → P i vi → P j vj → Q (.bool (bt i j)) s → wpAny (model prog w) A (richCompare .Lt vi vj) Q E s
theorem min_go (W : Walks prog w A.in1 I fp wr n P St) (C : CmpIn prog w A.in1 OK P bt) (hSf : S ∉ fp) (st : ∀ h h', OK h → (∀ b o, b ∉ wr → b ≠ S → h.get? b = some o → h'.get? b = some o) → OK h') :
    ∀ (k j : Nat) (s : Shared) (vb : Value) (c : Nat), n - (j + 1) = k → j + 1 ≤ n → OK s.heap → St (j + 1) s.heap → P (argBest bt j) vb → s.heap.get? S = some { cls := .type "list", dict := none, data := .seq #[vb, vb] c, slots := #[] } →
    (∀ v g tk, P (argBest bt (n - 1)) v → (∀ b o, b ∉ wr → b ≠ S → s.heap.get? b = some o → g.get? b = some o) → R (.ok (.ret v)) { s with heap := g, toks := tk }) →
    codeAny (model prog w) A (.builtin "min.loop" ⟨[.ref I, .none, .ref S], []⟩) R s := by
  have hSw : S ∉ wr := fun h => hSf (W.sub _ h)
  have nm : (toString "min" ++ toString ".loop" : String) = "min.loop" := by decide
  intro k
  induction k with
  | zero =>
    intro j s vb c hk hj ok hst pb eS q
    have hin : j + 1 = n := by omega
    refine codeAny_builtin PySem.F.entry_min_loop ?_
    rw [Around.under_plainId PySem.F.plain_min_loop _]
    show wpAny _ A.in1 (seqItems? (.ref S) >>= _) _ _ s
    refine wpAny_bind (wpAny_seqItems eS rfl ?_)
    show wpAny _ A.in1 (tryCatch (pyNext (.ref I)) _ >>= _) _ _ s
    refine wpAny_bind (wpAny_tryCatch (W.done s _ _ (hin ▸ hst) fun g tk kp => ?_))
    have eS2 := kp S _ hSw eS
    show wpAny _ A.in1 (updateSeq S (fun _ => #[]) >>= _) _ _ _
    refine wpAny_bind (wpAny_updateSeq eS2 rfl (wpAny_bind (wpAny_letGo (wpAny_pure ?_))))
    exact q vb _ tk (by rw [← hin]; exact pb) fun b o h1 h2 e => (Heap.get?_update_other _ _ (Ne.symm h2)).trans (kp b o h1 e)
  | succ k ih =>
    intro j s vb c hk hj ok hst pb eS q
    have hlt : j + 1 < n := by omega
    refine codeAny_builtin PySem.F.entry_min_loop ?_
    rw [Around.under_plainId PySem.F.plain_min_loop _]
    show wpAny _ A.in1 (seqItems? (.ref S) >>= _) _ _ s
    refine wpAny_bind (wpAny_seqItems eS rfl ?_)
    show wpAny _ A.in1 (tryCatch (pyNext (.ref I)) _ >>= _) _ _ s
    refine wpAny_bind (wpAny_tryCatch (W.item (j + 1) s _ _ hlt hst fun v g tk pv hst2 kp => ?_))
    have eS2 := kp S _ hSw eS
    have ok2 : OK g := st _ _ ok fun b o h1 _ e => kp b o h1 e
    show wpAny _ A.in1 (tryCatch (holding [v, v] (richCompare .Lt v vb >>= _)) _ >>= _) _ _ _
    refine wpAny_bind (wpAny_tryCatch (wpAny_holding (wpAny_bind (C (j + 1) (argBest bt j) v vb _ _ _ ok2 pv pb ?_))))
    refine wpAny_bind (wpAny_holding (wpAny_truthy_bool (wpAny_bind (wpAny_letGo (wpAny_pure ?_)))))
    cases hb : bt (j + 1) (argBest bt j) with
    | true =>
      simp only [if_true]
      refine wpAny_bind (wpAny_updateSeq eS2 rfl (wpAny_bind (wpAny_letGo ?_)))
      rw [nm]
      have kp2 : ∀ b o, b ≠ S → g.get? b = some o → (g.update S (Obj.mapSeq fun _ => #[v, v])).get? b = some o := fun b o h e => (Heap.get?_update_other _ _ (Ne.symm h)).trans e
      refine wpAny_pure ⟨plainId_quiet PySem.F.plain_min_loop _, ih (j + 1) _ v _ (by omega) hlt (st _ _ ok2 fun b o _ h e => kp2 b o h e) (W.frame _ _ _ hst2 fun b hbf o e => kp2 b o (fun z => hSf (z ▸ hbf)) e) (by simp only [argBest, hb, if_true]; exact pv) (Heap.get?_update_self _ eS2 rfl)
        fun v' g' tk' pv' kp' => ?_⟩
      exact q v' g' tk' pv' fun b o h1 h2 e => kp' b o h1 h2 (kp2 b o h2 (kp b o h1 e))
    | false =>
      simp only [Bool.false_eq_true, if_false]
      refine wpAny_bind (wpAny_letGo ?_)
      rw [nm]
      refine wpAny_pure ⟨plainId_quiet PySem.F.plain_min_loop _, ih (j + 1) _ vb c (by omega) hlt ok2 hst2 (by simp only [argBest, hb, Bool.false_eq_true, if_false]; exact pb) eS2 fun v' g' tk' pv' kp' => ?_⟩
      exact q v' g' tk' pv' fun b o h1 h2 e => kp' b o h1 h2 (kp b o h1 e)
theorem min_start (W : Walks prog w A.in1 I fp wr n P St) (C : CmpIn prog w A.in1 OK P bt) (hSf : S ∉ fp) (st : ∀ h h', OK h → (∀ b o, b ∉ wr → b ≠ S → h.get? b = some o → h'.get? b = some o) → OK h') (hn : 0 < n) {s : Shared} {c : Nat} (ok : OK s.heap) (hst : St 0 s.heap)
    (eS : s.heap.get? S = some { cls := .type "list", dict := none, data := .seq #[] c, slots := #[] })
    (q : ∀ v g tk, P (argBest bt (n - 1)) v → (∀ b o, b ∉ wr → b ≠ S → s.heap.get? b = some o → g.get? b = some o) → R (.ok (.ret v)) { s with heap := g, toks := tk }) :
    codeAny (model prog w) A (.builtin "min.loop" ⟨[.ref I, .none, .ref S], []⟩) R s := by
  have hSw : S ∉ wr := fun h => hSf (W.sub _ h)
  have nm : (toString "min" ++ toString ".loop" : String) = "min.loop" := by decide
  refine codeAny_builtin PySem.F.entry_min_loop ?_
  rw [Around.under_plainId PySem.F.plain_min_loop _]
  show wpAny _ A.in1 (seqItems? (.ref S) >>= _) _ _ s
  refine wpAny_bind (wpAny_seqItems eS rfl ?_)
  show wpAny _ A.in1 (tryCatch (pyNext (.ref I)) _ >>= _) _ _ s
  refine wpAny_bind (wpAny_tryCatch (W.item 0 s _ _ hn hst fun v g tk pv hst2 kp => ?_))
  have eS2 := kp S _ hSw eS
  have ok2 : OK g := st _ _ ok fun b o h1 _ e => kp b o h1 e
  have kp2 : ∀ b o, b ≠ S → g.get? b = some o → (g.update S (Obj.mapSeq fun _ => #[v, v])).get? b = some o := fun b o h e => (Heap.get?_update_other _ _ (Ne.symm h)).trans e
  show wpAny _ A.in1 (updateSeq S (fun _ => #[v, v]) >>= _) _ _ _
  refine wpAny_bind (wpAny_updateSeq eS2 rfl ?_)
  rw [nm]
  refine wpAny_pure ⟨plainId_quiet PySem.F.plain_min_loop _, min_go W C hSf st _ 0 _ v _ rfl hn (st _ _ ok2 fun b o _ h e => kp2 b o h e) (W.frame _ _ _ hst2 fun b hbf o e => kp2 b o (fun z => hSf (z ▸ hbf)) e) pv (Heap.get?_update_self _ eS2 rfl) fun v' g' tk' pv' kp' => ?_⟩
  exact q v' g' tk' pv' fun b o h1 h2 e => kp' b o h1 h2 (kp2 b o h2 (kp b o h1 e))
end
section
variable {prog : Program} {w : World} {A : Around} {E : Value → Shared → Prop} {s : Shared}
/-- min(l), l a list whose items are compared as they stand now -/
theorem min_list {l : Addr} {items : Array Value} {bt : Nat → Nat → Bool} {Q : Value → Shared → Prop} (hh : A.handled = none) (hl : s.heap.IsList l items) (hn : 0 < items.size)
    (C : CmpIn prog w A.in1 (fun h => ∀ b o, s.heap.get? b = some o → h.get? b = some o) (fun i v => items[i]? = some v) bt)
    (q : ∀ v g tk, items[argBest bt (items.size - 1)]? = some v → (∀ b o, s.heap.get? b = some o → g.get? b = some o) → Q v { s with heap := g, toks := tk }) :
    wpAny (model prog w) A (call (.builtin "min") [.ref l]) Q E s := by
  have nm : (toString "min" ++ toString ".loop" : String) = "min.loop" := by decide
  refine call_function_tree PySem.F.kind_min PySem.F.plain_min PySem.F.entry_min (PySem.F.args_min1 _) ?_
  show wpAny _ A.in1 (Builtin.Builtins.bindParams "min" ["key", "default"] 0 ⟨[], []⟩ >>= _) _ _ s
  refine wpAny_bind (wpAny_of_eq (show Builtin.Builtins.bindParams "min" ["key", "default"] 0 ⟨[], []⟩ = pure [none, none] from rfl) (wpAny_bind (wpAny_pure ?_)))
  refine wpAny_bind (wpAny_pyIter_list hl ?_)
  refine wpAny_bind (wpAny_newObj_type ?_)
  have ll : l < s.heap.objs.size := by obtain ⟨o, e, _⟩ := id hl; exact Heap.lt_size e
  have W := Walks.list (prog := prog) (w := w) (A := A.in1) hh s.heap.objs.size l (Nat.ne_of_lt ll) items
  rw [nm]
  have k1 : ∀ b o, s.heap.get? b = some o → (s.heap.push { cls := .type "list_iterator", data := .fields #[.ref l, .int 0 0] }).get? b = some o := fun b o e => Heap.get?_push_of_some _ e
  have z1 : (s.heap.push { cls := .type "list_iterator", data := .fields #[.ref l, .int 0 0] }).objs.size = s.heap.objs.size + 1 := Heap.size_push ..
  have hit : (s.heap.push { cls := .type "list_iterator", data := .fields #[.ref l, .int 0 0] }).IsListIter s.heap.objs.size l 0 := ⟨_, Heap.get?_push_size _ rfl, rfl, rfl⟩
  have nS : ∀ b : Addr, b < s.heap.objs.size → b ≠ (s.heap.push { cls := .type "list_iterator", data := .fields #[.ref l, .int 0 0] }).objs.size := fun b hb => by
    rw [z1]
    exact Nat.ne_of_lt (Nat.lt_of_lt_of_le hb (Nat.le_succ _))
  refine wpAny_pure ⟨plainId_quiet PySem.F.plain_min_loop _, min_start W C ?_ ?_ hn ?_ ?_ (Heap.get?_push_size _ rfl) fun v g tk pv kp => ?_⟩
  · intro hm
    rcases List.mem_cons.mp hm with e | hm
    · rw [z1] at e
      exact Nat.succ_ne_self _ e
    · exact nS l ll (List.mem_singleton.mp hm).symm
  · intro h h' ok kp b o e
    have lb := Heap.lt_size e
    exact kp b o (fun z => Nat.ne_of_lt lb (List.mem_singleton.mp z)) (nS b lb) (ok b o e)
  · exact fun b o e => Heap.get?_push_of_some _ (k1 b o e)
  · exact ⟨hit.at fun o e => Heap.get?_push_of_some _ e, hl.at fun o e => Heap.get?_push_of_some _ (k1 _ o e)⟩
  · refine q v g tk pv fun b o e => ?_
    have lb := Heap.lt_size e
    exact kp b o (fun z => Nat.ne_of_lt lb (List.mem_singleton.mp z)) (nS b lb) (Heap.get?_push_of_some _ (k1 b o e))
end
end Mp
namespace Fv
open PySem PySem.Spec PyProof.Rows L2
/-! list.count(k), a list of whole numbers -/
def isI (k : Int) : Value → Bool
  | .int a _ => a == k
  | _ => false
theorem isI_count {k : Int} : ∀ {us : List Value} {ns : List Int}, Vals (ns.map V.int) us → us.countP (isI k) = ns.count k
  | _, [], .nil => rfl
  | _, a :: c, .cons r t => by
    have ih := isI_count (k := k) (ns := c) t
    obtain ⟨tk, rfl⟩ := r
    rw [List.countP_cons, List.count_cons, ih]
    rfl
theorem isI_eq {A : Around} {s : Shared} {k : Int} {tk : Tok} : ∀ {us : List Value} {ns : List Int}, Vals (ns.map V.int) us → ∀ y ∈ us, SeqAt.EqAt A s y (.int k tk) (isI k y)
  | _, [], .nil => fun y hy => by cases hy
  | _, a :: c, .cons r t => fun y hy => by
    obtain ⟨t0, rfl⟩ := r
    rcases List.mem_cons.mp hy with e | e
    · subst e
      exact SeqAt.EqAt.int_int (A := A) (s := s) a t0 k tk
    · exact isI_eq (ns := c) t y e
def rCntI (K : PySem.W.Frag) : V → List V → Hp → VK → Prop := fun x xs H Q => ∃ (p : Addr) (ns : List Int) (k : Int), x = .ref p ∧ xs = [.int k] ∧ SqL K H p (ns.map V.int) ∧ Q (.int (ns.count k : Nat)) H
theorem mt_lcountI {X : Cx} {K : PySem.W.Frag} (eK : X.K = K) : MtR X "list.count" (rCntI K) := by
  subst eK
  intro pins s σ H x xs v us Q I rx rxs h
  obtain ⟨p, ns, k, rfl, rfl, hs, q⟩ := h
  cases rx
  obtain ⟨u, rfl, ru⟩ := rxs.one
  obtain ⟨tk, rfl⟩ := ru
  obtain ⟨its, rv, ⟨⟨cls, dd, data, sl⟩, n, ho, hc, hdn, hd⟩, hlen⟩ := I.list hs
  simp only at hc hd
  subst hc hd
  refine call_meets PySem.F.slot_list_count ⟨_, ho, rfl⟩ PySem.F.entry_list_count (PySem.F.args_list_count_2 _ _)
    (SeqAt.list_countAt p its.toArray n dd sl (.int k tk) (isI k)) ⟨ho, fun y hy => isI_eq rv y (by simpa using hy), ?_⟩
  have ec : its.toArray.toList.countP (isI k) = ns.count k := by
    have e : its.toArray.toList = its := by simp
    rw [e]
    exact isI_count rv
  refine ⟨.int (ns.count k : Nat), H, I.tok _, ⟨s.toks, ?_⟩, q⟩
  show Value.int ((its.toArray.toList.countP (isI k) : Nat) : Int) s.toks = Value.int ((ns.count k : Nat) : Int) s.toks
  rw [ec]
theorem x_cntI {K : PySem.W.Frag} {H : Hp} {Q : VK} {p : Addr} {l : List Nat} {k : Nat} (h : SqL K H p (nats l)) (q : Q (.int (l.count k : Nat)) H) : rCntI K (.ref p) [.int (k : Nat)] H Q := by
  refine ⟨p, intsN l, k, rfl, rfl, ?_, ?_⟩
  · have e : (intsN l).map V.int = nats l := by
      unfold intsN nats
      rw [List.map_map]
      rfl
    rw [e]
    exact h
  · have e : (intsN l).count (k : Int) = l.count k := by
      unfold intsN
      rw [List.count, List.countP_map]
      refine List.countP_congr fun a _ => ?_
      show (((a : Int) == (k : Int)) = true) ↔ ((a == k) = true)
      rw [beq_iff_eq, beq_iff_eq]
      omega
    rw [e]
    exact q
/-! min of a list of pairs -/
def prD (p : Nat × Nat) : PyData := .tuple [.int (p.1 : Int), .int (p.2 : Int)]
def pLt (a b : Nat × Nat) : Bool := decide (a.1 < b.1 ∨ (a.1 = b.1 ∧ a.2 < b.2))
theorem prD_lt (a b : Nat × Nat) : PySem.W.dataLt (prD a) (prD b) = pLt a b := by
  refine (PySem.W.dataLt_ii _ _ _ _).trans ?_
  unfold pLt
  rw [decide_eq_decide]
  omega
def bOf (ps : List (Nat × Nat)) (i j : Nat) : Bool := pLt (ps.getD i (0, 0)) (ps.getD j (0, 0))
theorem best_le (ps : List (Nat × Nat)) : ∀ k, argBest (bOf ps) k ≤ k ∧ ∀ i, i ≤ k → bOf ps i (argBest (bOf ps) k) = false
  | 0 => ⟨Nat.le_refl _, fun i hi => by
    obtain rfl : i = 0 := by omega
    show pLt _ _ = false
    unfold pLt
    exact decide_eq_false (by
      show ¬ ((ps.getD 0 (0, 0)).1 < (ps.getD 0 (0, 0)).1 ∨ _ ∧ (ps.getD 0 (0, 0)).2 < (ps.getD 0 (0, 0)).2)
      omega)⟩
  | k + 1 => by
    obtain ⟨h1, h2⟩ := best_le ps k
    have u : argBest (bOf ps) (k + 1) = if bOf ps (k + 1) (argBest (bOf ps) k) then k + 1 else argBest (bOf ps) k := rfl
    rw [u]
    by_cases c : bOf ps (k + 1) (argBest (bOf ps) k) = true
    · rw [if_pos c]
      refine ⟨Nat.le_refl _, fun i hi => ?_⟩
      have c' := of_decide_eq_true c
      by_cases e : i = k + 1
      · subst e
        refine decide_eq_false ?_
        omega
      · have := of_decide_eq_false (h2 i (by omega))
        refine decide_eq_false ?_
        omega
    · rw [if_neg c]
      refine ⟨by omega, fun i hi => ?_⟩
      by_cases e : i = k + 1
      · subst e
        simpa using c
      · exact h2 i (by omega)
def rMinP (K : PySem.W.Frag) : List V → Hp → VK → Prop := fun xs H Q => ∃ (l : Addr) (as : List Addr) (ps : List (Nat × Nat)), xs = [.ref l] ∧ SqL K H l (as.map V.ref) ∧ as.length = ps.length ∧ 0 < ps.length ∧ (∀ (i : Nat) a p, as[i]? = some a → ps[i]? = some p → SqT K H a [.int (p.1 : Nat), .int (p.2 : Nat)]) ∧
  ∀ (i : Nat) a p, as[i]? = some a → ps[i]? = some p → (∀ q ∈ ps, pLt q p = false) → Q (.ref a) H
theorem cr_minPK {X : Cx} {K : PySem.W.Frag} (e : X.K = K) (hc : X.calm = true) (hu : X.A.units + 66 < cLine) : CallR X (.builtin "min") (rMinP K) := by
  subst e
  intro pins s σ H vs us Q I r h
  obtain ⟨l, as, ps, rfl, hl, la, pos, at_, q⟩ := h
  rw [Vals.ref1 r]
  obtain ⟨its, rv, p, _⟩ := I.list hl
  have il : its.length = as.length := by rw [← rv.length, List.length_map]
  have item : ∀ (i : Nat) (v : Value), its.toArray[i]? = some v → ∃ a p, as[i]? = some a ∧ ps[i]? = some p ∧ v = .ref a ∧ ps.getD i (0, 0) = p := fun i v e => by
    have e2 : its[i]? = some v := by simpa using e
    have hi := (List.getElem?_eq_some_iff.mp e2).1
    have ha := List.getElem?_eq_getElem (l := as) (i := i) (by omega)
    have hp := List.getElem?_eq_getElem (l := ps) (i := i) (by omega)
    obtain ⟨u, hu, ru⟩ := rv.get (show (as.map V.ref)[i]? = some (.ref as[i]) by rw [List.getElem?_map, ha]; rfl)
    rw [e2] at hu
    cases hu
    exact ⟨_, _, ha, hp, ru, by rw [List.getD_eq_getElem?_getD, hp]; rfl⟩
  have hh : X.A.handled = none := I.ok.hd hc
  refine Mp.min_list (bt := bOf ps) hh p.isList (by rw [List.size_toArray]; omega) (fun i j vi vj s' Q' E' ok e1 e2 q' => ?_) fun v g tk e kp => ?_
  · obtain ⟨a, pa, ha, hp, rfl, g1⟩ := item i vi e1
    obtain ⟨b, pb, hb, hp2, rfl, g2⟩ := item j vj e2
    obtain ⟨h', g', d', tk', os'⟩ := s'
    have I2 : Inv X pins σ H { s with heap := h' } := I.kept (t' := s.toks) ok
    have dpa : Dp X.K H (.ref a) (prD pa) := .tup (at_ i a pa ha hp) (.cons (.int _) (.cons (.int _) .nil))
    have dpb : Dp X.K H (.ref b) (prD pb) := .tup (at_ j b pb hb hp2) (.cons (.int _) (.cons (.int _) .nil))
    obtain ⟨ra, h1⟩ := Dp.reads I2 _ _ _ dpa rfl
    obtain ⟨rb, h2⟩ := Dp.reads I2 _ _ _ dpb rfl
    refine PySem.W.rcLt_alike (prD pa) (prD pb) X.A.in1 ⟨h', g', d', tk', os'⟩ _ _ ra rb h1 h2 (by simp [prD, PySem.W.alike, PySem.W.alikeAll]) (fun z => nomatch z) ?_ _ _ _ _ ?_
    · have e3 : min (prD pa).depth (prD pb).depth ≤ 64 := by
        refine Nat.le_trans (Nat.min_le_left _ _) ?_
        show PyData.depth (.tuple [.int _, .int _]) ≤ 64
        simp [PyData.depth, PyData.depthAll]
      show X.A.units + 1 + _ < cLine
      omega
    · rw [prD_lt]
      have e3 : bOf ps i j = pLt pa pb := by
        unfold bOf
        rw [g1, g2]
      rw [← e3]
      exact q'
  · obtain ⟨a, pp, ha, hp, rfl, g1⟩ := item _ v e
    have bl := best_le ps (its.toArray.size - 1)
    refine ⟨.ref a, H, I.kept (t' := tk) kp, rfl, q _ a pp ha hp fun x hx => ?_⟩
    obtain ⟨j, hj, rfl⟩ := List.getElem_of_mem hx
    have := bl.2 j (by rw [List.size_toArray]; omega)
    have e4 : bOf ps j (argBest (bOf ps) (its.toArray.size - 1)) = pLt (ps.getD j (0, 0)) (ps.getD (argBest (bOf ps) (its.toArray.size - 1)) (0, 0)) := rfl
    rw [e4, g1, List.getD_eq_getElem?_getD, List.getElem?_eq_getElem hj] at this
    exact this
end Fv
set_option maxRecDepth 100000
set_option maxHeartbeats 4000000
namespace L2
open PySem PySem.Spec PyProof.Rows
/-! ### set(t), t a tuple of ints; len(set(t)) -/
section
variable {P : Program} {w : World} {A : Around} {E : Value → Shared → Prop} {s : Shared}
set_option maxHeartbeats 3200000 in
theorem tset_call {l : Addr} {items : Array Value} (ns : List Int) {Q : Value → Shared → Prop} (hh : A.handled = none) (hl : s.heap.IsTuple l items) (hit : IntsAre items.toList ns) (hb : ns.length + 1 < scanBound)
    (h : ∀ (h' : Heap) (tk c : Nat), SetR w h' s.heap.objs.size (fun j => decide (j ∈ ns)) c → c ≤ ns.length → (∀ b o, s.heap.get? b = some o → h'.get? b = some o) → Q (.ref s.heap.objs.size) { s with heap := h', toks := tk }) :
    wpAny (model P w) A (call (.type "set") [.ref l]) Q E s := by
  have hn : items.size = ns.length := by rw [← Array.length_toList]; exact IntsAre.length hit
  obtain ⟨c, tl, hmro⟩ := F.called_set.mro
  have hmade := F.called_set.made
  have hsub := F.called_set.sub
  have h1 := F.called_set.notType
  have h2 := F.called_set.canCreate
  have hct := F.typeCall_set_1 (.ref l)
  refine wpAny_call (codeAny_of_tree ?_)
  show wpAny _ _ (callAny (.type "set") _) _ _ _
  refine wpAny_pure ⟨Code.quiet_builtin _ (by decide +kernel), codeAny_builtin F.entry_type_call ?_⟩
  rw [Around.under_plain (weight_type_call_type "set" [.ref l] []) rfl]
  repeat (any_goals (first | assumption | wp_step))
  generalize ho : ({ cls := .type "set", dict := none, data := .set #[] 0 (.fresh 0 0 (!w.params.followText "set-order")) } : Obj) = ob
  refine codeAny_mono (code_set_led1 (.ref l) (E := E) (Q₁ := fun x t => x = .ref s.heap.objs.size ∧ t = { s with heap := s.heap.push ob }) ⟨rfl, by rw [ho]⟩) fun r t hr => ?_
  cases r with
  | error e => exact hr
  | ok fl =>
    cases fl with
    | ret x =>
      obtain ⟨rfl, rfl⟩ := hr
      have hS : (s.heap.push ob).get? s.heap.objs.size = some ob := Heap.get?_push_size _ (by rw [← ho]; rfl)
      have hT : Shared.TypeIs { s with heap := s.heap.push ob } (.ref s.heap.objs.size) "set" := ⟨_, hS, by rw [← ho]⟩
      have hli := F.called_set.init.lookup
      have hbi := F.called_set.init.bind (.ref s.heap.objs.size)
      repeat (any_goals (first | assumption | wp_step))
      refine codeAny_mono (codeAny_call_builtin (R := wants (fun r t => r = .none ∧ ∃ h' tk c, t = { s with heap := h', toks := tk } ∧ SetR w h' s.heap.objs.size (fun j => decide (j ∈ ns)) c ∧ c ≤ ns.length ∧
          (∀ b o, s.heap.get? b = some o → h'.get? b = some o)) E) F.called_set.init.plain F.entry_set_init (check_set_init_1 hT ?_)) fun r2 t2 hr2 => ?_
      · have hl0 : (s.heap.push ob).IsTuple l items := hl.push _
        obtain ⟨ol, hol, hcl, nl, hdl⟩ := hl
        obtain ⟨ocls, odict, odata, oslots⟩ := ol
        simp only at hcl hdl
        subst hcl hdl
        have hol' : (s.heap.push ob).get? l = some { cls := .type "tuple", dict := odict, data := .seq items nl, slots := oslots } := Heap.get?_push_of_some _ hol
        have e1 := F.sub_tuple_set
        have e2 := F.sub_tuple_frozenset
        have hne : (Value.type "tuple" == Value.type "dict") = false := by decide
        have lt : l < s.heap.objs.size := Heap.lt_size hol
        have sz : (s.heap.push ob).objs.size = s.heap.objs.size + 1 := Heap.size_push ..
        have hneI : l ≠ (s.heap.push ob).objs.size := by rw [sz]; exact Nat.ne_of_lt (Nat.lt_succ_of_lt lt)
        have hSf : s.heap.objs.size ∉ [(s.heap.push ob).objs.size, l] := by
          rw [sz]
          simp only [List.mem_cons, List.not_mem_nil, or_false, not_or]
          exact ⟨Nat.ne_of_lt (Nat.lt_succ_self _), Nat.ne_of_gt lt⟩
        have hh3 : A.in1.in1.in1.handled = none := by simp [hh]
        subst ho
        unfold Builtin.«set.__init__» noKeywords Builtin.Frozenset.updateFrom
        generalize hPI : pyIter = PI
        wp_walk
        subst hPI
        refine wpAny_pyIter_tuple hl0 ?_
        refine wpAny_bind (wpAny_runValue ?_)
        have hv : ∀ (i : Nat) (v : Value), items[i]? = some v → ∃ k t, ns[i]? = some k ∧ v = .int k t := fun i v hv => by
          have hi : i < ns.length := by rw [← hn]; exact (Array.getElem?_eq_some_iff.mp hv).1
          obtain ⟨t, e⟩ := IntsAre.int_at hit i v (by rw [Array.getElem?_toList]; exact hv)
          refine ⟨ns[i], t, List.getElem?_eq_getElem hi, ?_⟩
          rw [e, List.getD_eq_getElem?_getD, List.getElem?_eq_getElem hi] <;> rfl
        refine set_update_ints ((Walks.tuple hh3 _ l hneI items).toS) s.heap.objs.size hSf ns hn hb hv (items.size - 0) 0 _ (by omega) (Nat.zero_le _) ⟨⟨_, Heap.get?_push_size _ rfl, rfl, rfl⟩, hl0.push _⟩ ?hZero ?hRest
        case hZero => exact ⟨0, Nat.le_refl 0, setR_new_at (Heap.get?_push_of_some _ hS)⟩
        case hRest =>
          intro t' c' hm hc' hS'
          obtain ⟨h', g2, d', tk', os'⟩ := t'
          obtain rfl : g2 = s.gens := hm.gens
          obtain rfl : d' = s.drawn := hm.drawn
          obtain rfl : os' = s.os := hm.os
          show wpAny _ _ _ _ _ _
          refine wpAny_pure ?_
          show wpAny _ _ (ret Value.none) _ _ _
          rw [hn] at hc'
          refine wpAny_pure ⟨rfl, h', tk', c', rfl, hS', hc', fun b o e => ?_⟩
          have hb0 : b < s.heap.objs.size := Heap.lt_size e
          refine hm.heap b o ?_ (Heap.get?_push_of_some _ (Heap.get?_push_of_some _ e))
          rw [sz]
          simp only [List.mem_cons, List.not_mem_nil, or_false, not_or]
          exact ⟨Nat.ne_of_lt hb0, Nat.ne_of_lt (Nat.lt_succ_of_lt hb0)⟩
      · cases r2 with
        | error e => exact hr2
        | ok fl2 =>
          cases fl2 with
          | ret r =>
            obtain ⟨rfl, h', tk, c', rfl, hS', hc', hk'⟩ := hr2
            repeat (any_goals (first | assumption | wp_step))
            exact h _ _ _ hS' hc' hk'
          | _ => exact hr2.elim
    | _ => exact hr.elim
set_option maxHeartbeats 3200000 in
theorem tset_callN {l : Addr} {items : Array Value} (ns : List Int) {Q : Value → Shared → Prop} (hh : A.handled = none) (hl : s.heap.IsTuple l items) (hit : IntsAre items.toList ns) (hb : ns.length + 1 < scanBound)
    (h : ∀ (h' : Heap) (tk : Nat), h'.SetOf (intKind P w) s.heap.objs.size (fun k' => (firstMet (fun i => ns.getD i 0) items.size).any (· == k')) (firstMet (fun i => ns.getD i 0) items.size).length → (∀ b o, s.heap.get? b = some o → h'.get? b = some o) → Q (.ref s.heap.objs.size) { s with heap := h', toks := tk }) :
    wpAny (model P w) A (call (.type "set") [.ref l]) Q E s := by
  have hn : items.size = ns.length := by rw [← Array.length_toList]; exact IntsAre.length hit
  obtain ⟨c, tl, hmro⟩ := F.called_set.mro
  have hmade := F.called_set.made
  have hsub := F.called_set.sub
  have h1 := F.called_set.notType
  have h2 := F.called_set.canCreate
  have hct := F.typeCall_set_1 (.ref l)
  refine wpAny_call (codeAny_of_tree ?_)
  show wpAny _ _ (callAny (.type "set") _) _ _ _
  refine wpAny_pure ⟨Code.quiet_builtin _ (by decide +kernel), codeAny_builtin F.entry_type_call ?_⟩
  rw [Around.under_plain (weight_type_call_type "set" [.ref l] []) rfl]
  repeat (any_goals (first | assumption | wp_step))
  refine codeAny_mono (code_set_new_1 (.ref l) (E := E) (Q₁ := fun x t => ∃ (led : Bool) (ob : Obj), ({ cls := .type "set", dict := none, data := .set #[] 0 (.fresh 0 0 led) } : Obj) = ob ∧ x = .ref s.heap.objs.size ∧ t = { s with heap := s.heap.push ob }) fun led => ⟨led, _, rfl, rfl, rfl⟩) fun r t hr => ?_
  cases r with
  | error e => exact hr
  | ok fl =>
    cases fl with
    | ret x =>
      obtain ⟨led, ob, ho, rfl, rfl⟩ := hr
      have hS : (s.heap.push ob).get? s.heap.objs.size = some ob := Heap.get?_push_size _ (by rw [← ho]; rfl)
      have hT : Shared.TypeIs { s with heap := s.heap.push ob } (.ref s.heap.objs.size) "set" := ⟨_, hS, by rw [← ho]⟩
      have hli := F.called_set.init.lookup
      have hbi := F.called_set.init.bind (.ref s.heap.objs.size)
      repeat (any_goals (first | assumption | wp_step))
      refine codeAny_mono (codeAny_call_builtin (R := wants (fun r t => r = .none ∧ ∃ h' tk, t = { s with heap := h', toks := tk } ∧ h'.SetOf (intKind P w) s.heap.objs.size (fun k' => (firstMet (fun i => ns.getD i 0) items.size).any (· == k')) (firstMet (fun i => ns.getD i 0) items.size).length ∧
          (∀ b o, s.heap.get? b = some o → h'.get? b = some o)) E) F.called_set.init.plain F.entry_set_init (check_set_init_1 hT ?_)) fun r2 t2 hr2 => ?_
      · have hl0 : (s.heap.push ob).IsTuple l items := hl.push _
        obtain ⟨ol, hol, hcl, nl, hdl⟩ := hl
        obtain ⟨ocls, odict, odata, oslots⟩ := ol
        simp only at hcl hdl
        subst hcl hdl
        have hol' : (s.heap.push ob).get? l = some { cls := .type "tuple", dict := odict, data := .seq items nl, slots := oslots } := Heap.get?_push_of_some _ hol
        have e1 := F.sub_tuple_set
        have e2 := F.sub_tuple_frozenset
        have hne : (Value.type "tuple" == Value.type "dict") = false := by decide
        have lt : l < s.heap.objs.size := Heap.lt_size hol
        have sz : (s.heap.push ob).objs.size = s.heap.objs.size + 1 := Heap.size_push ..
        have hneI : l ≠ (s.heap.push ob).objs.size := by rw [sz]; exact Nat.ne_of_lt (Nat.lt_succ_of_lt lt)
        have hSf : s.heap.objs.size ∉ [(s.heap.push ob).objs.size, l] := by
          rw [sz]
          simp only [List.mem_cons, List.not_mem_nil, or_false, not_or]
          exact ⟨Nat.ne_of_lt (Nat.lt_succ_self _), Nat.ne_of_gt lt⟩
        have hh3 : A.in1.in1.in1.handled = none := by simp [hh]
        subst ho
        unfold Builtin.«set.__init__» noKeywords Builtin.Frozenset.updateFrom
        generalize hPI : pyIter = PI
        wp_walk
        subst hPI
        refine wpAny_pyIter_tuple hl0 ?_
        refine wpAny_bind (wpAny_runValue ?_)
        have hv : ∀ (i : Nat) (v : Value), items[i]? = some v → ∃ t, v = .int ((fun i => ns.getD i 0) i) t := fun i v hv => IntsAre.int_at hit i v (by rw [Array.getElem?_toList]; exact hv)
        refine codeAny_set_update_loopS ((Walks.tuple hh3 _ l hneI items).toS) s.heap.objs.size hSf (fun i => ns.getD i 0) hv (by rw [hn]; exact hb) (items.size - 0) 0 _ (by omega) (Nat.zero_le _) ⟨⟨_, Heap.get?_push_size _ rfl, rfl, rfl⟩, hl0.push _⟩ ?hZero ?hRest
        case hZero => exact SetOf_congr ((setObjOf_fresh (knd := intKind P w) led).setOf (Heap.get?_push_of_some _ hS) (by unfold scanBound; omega)) (fun _ => rfl) rfl
        case hRest =>
          intro t' hm hS'
          obtain ⟨h', g2, d', tk', os'⟩ := t'
          obtain rfl : g2 = s.gens := hm.gens
          obtain rfl : d' = s.drawn := hm.drawn
          obtain rfl : os' = s.os := hm.os
          show wpAny _ _ _ _ _ _
          refine wpAny_pure ?_
          show wpAny _ _ (ret Value.none) _ _ _
          refine wpAny_pure ⟨rfl, h', tk', rfl, hS', fun b o e => ?_⟩
          have hb0 : b < s.heap.objs.size := Heap.lt_size e
          refine hm.heap b o ?_ (Heap.get?_push_of_some _ (Heap.get?_push_of_some _ e))
          rw [sz]
          simp only [List.mem_cons, List.not_mem_nil, or_false, not_or]
          exact ⟨Nat.ne_of_lt hb0, Nat.ne_of_lt (Nat.lt_succ_of_lt hb0)⟩
      · cases r2 with
        | error e => exact hr2
        | ok fl2 =>
          cases fl2 with
          | ret r =>
            obtain ⟨rfl, h', tk, rfl, hS', hk'⟩ := hr2
            repeat (any_goals (first | assumption | wp_step))
            exact h _ _ hS' hk'
          | _ => exact hr2.elim
    | _ => exact hr.elim
end
section
variable {X : Cx}
/-- set(t), t a tuple of ints: a new set -/
def rSetTi (K : PySem.W.Frag) (w : World) : List V → Hp → VK → Prop := fun xs H Q => ∃ (l : Addr) (ns : List Int), xs = [.ref l] ∧ SqT K H l (ns.map V.int) ∧ ns.length < 200 ∧ ∀ p c, H p = none → c ≤ ns.length → Q (.ref p) (upd H p (SetO w p (fun j => decide (j ∈ ns)) c))
theorem cr_setTiK {K : PySem.W.Frag} {w : World} (e : X.K = K) (e2 : X.w = w) (hc : X.calm = true) : CallR X (.type "set") (rSetTi K w) := by
  subst e e2
  intro pins s σ H vs us Q I r h
  obtain ⟨l, ns, rfl, hl, h60, q⟩ := h
  rw [Vals.ref1 r]
  obtain ⟨its, rv, p, hz⟩ := I.tuple hl
  refine tset_call ns (I.ok.hd hc) (show s.heap.IsTuple l its.toArray from p) (by rw [List.toList_toArray]; exact ints_of_vals rv) (by unfold scanBound; omega) fun h' tk c R hcn k => ?_
  exact ⟨.ref _, _, I.laid (t' := tk) k (Nat.le_refl _) (setO_new R), rfl, q _ _ (I.hok.fresh (Nat.le_refl _)) hcn⟩
/-- len(set(t)), t a tuple of ints -/
def cntD (ns : List Int) : Nat := (firstMet (fun i => ns.getD i 0) ns.length).length
def tLenSetT (K : PySem.W.Frag) (ta : TE) : TE := fun σ H Q => ta σ H fun x H1 => ∃ (l : Addr) (ns : List Int), x = .ref l ∧ SqT K H1 l (ns.map V.int) ∧ ns.length ≤ 4000 ∧ Q (.int (cntD ns : Nat)) H1
theorem pe_lenSetT {K : PySem.W.Frag} {a : Expr} {ta : TE} {p p2 q pos : Pos} (eK : X.K = K) (hc : X.calm = true) (hg : Gl X "len") (hm : X.mg "len" = none) (hg2 : Gl X "set") (hm2 : X.mg "set" = none) (ha : PE X a ta)
    (na : starEach [a] X.env = (false, eval a X.env) :: starEach [] X.env := by rfl) : PE X (.Call (.Name "len" p) [.Call (.Name "set" p2) [a] [] q] [] pos) (tLenSetT K ta) := by
  subst eK
  refine ⟨fun pins s σ H Q I h => ?_⟩
  refine Call_ (ld_blt I hg hm boot_len ?_)
  refine PyProof.Rows.callWith_builtin1 (PyProof.Rows.args_cons ?_ rfl) rfl rfl
  refine Call_ (ld_blt I hg2 hm2 boot_set ?_)
  refine PyProof.Rows.callWith_type1 (PyProof.Rows.args_cons (thn (ha.run pins s σ H _ I h) fun v s1 ⟨x, H1, I1, r1, q1⟩ => PyProof.Rows.args_nil ?_) na) na rfl
  obtain ⟨l, ns, rfl, hq, hl, q1⟩ := q1
  cases r1
  obtain ⟨its, r, pl, hz⟩ := I1.tuple hq
  have hlen : its.toArray.size = ns.length := by rw [List.size_toArray, ← r.length, List.length_map]
  refine tset_callN ns (I1.ok.hd hc) (show s1.heap.IsTuple l its.toArray from pl) (by rw [List.toList_toArray]; exact ints_of_vals r) (by unfold scanBound; omega) fun h' tk hS hk => ?_
  refine PyProof.Rows.args_nil ?_
  rw [hlen] at hS
  have le := firstMet_length_le (fun i => ns.getD i 0) ns.length
  obtain ⟨o, es, ep, t, ho, hex, hd, _, _, _, hf, hn⟩ := hS
  have I2 : Inv X pins σ H1 { s1 with heap := h', toks := tk } := I1.kept hk
  exact call_len_set ho hex hd hf (by rw [hn] <;> omega) ⟨.int (cntD ns : Nat), H1, I2.tok _, ⟨_, by rw [hn]; rfl⟩, q1⟩
theorem cntD_le (ns : List Int) : cntD ns ≤ ns.length := firstMet_length_le (fun i => ns.getD i 0) ns.length
theorem cntD_nodup {ns : List Int} (h : ns.Nodup) : cntD ns = ns.length := by
  unfold cntD
  rw [RZ.firstMet_nodup h ns.length (Nat.le_refl _), List.take_length]
end
end L2
namespace Fv
open PySem PySem.Spec L2
theorem x_lenSetT {K : PySem.W.Frag} {σ : L2.St} {H : Hp} {Q : VK} {ta : TE} (h : ta σ H fun x H1 => ∃ (l : Addr) (ns : List Int), x = .ref l ∧ SqT K H1 l (ns.map V.int) ∧ ns.length ≤ 4000 ∧ Q (.int (cntD ns : Nat)) H1) : tLenSetT K ta σ H Q := h
theorem cr_maxLK {X : Cx} {K : PySem.W.Frag} (e : X.K = K) (hc : X.calm = true) : CallR X (.builtin "max") (rMax K) := by
  subst e
  exact cr_max hc
/-- two for's, the outer one over a walk -/
theorem lc2_it {J : It} {n : Nat} {G : Hp → Prop} {Y : Nat → Hp → V → Hp → Prop} (w : Walk J n G Y) {g : TG} {tt : TT} {vs : List Nat} {σ : L2.St} {H0 : Hp} {Qd : Hp → Prop} {Bd : L2.St → Hp → (Hp → Prop) → Prop} (Pv : Nat → Hp → Prop) (h0 : Pv 0 H0) (hG : ∀ i H, i ≤ n → Pv i H → G H)
    (hs : ∀ i x H H', i < n → Pv i H → Y i H x H' → g x (wipe σ vs) H' fun σ2 H2 => wipe σ2 vs = wipe σ vs ∧ tt σ2 H2 fun b H3 => if b = true then Bd σ2 H3 (Pv (i + 1)) else Pv (i + 1) H3) (hd : ∀ H, Pv n H → Qd H) :
    ∃ W : Nat → Nat → Hp → Prop, (∃ m, W 0 m H0) ∧ ∀ i m H, W i m H →
      (J.stop i H ∧ Qd H) ∨ (J.go i H ∧ ∃ Nx : Hp → Prop, (∀ H', Nx H' → ∃ m', m' < m ∧ W (i + 1) m' H') ∧ ∀ x H', J.yld i H x H' → g x (wipe σ vs) H' fun σ2 H2 => wipe σ2 vs = wipe σ vs ∧ tt σ2 H2 fun b H3 =>
        if b = true then Bd σ2 H3 Nx else Nx H3) := by
  refine ⟨fun i m H => m = n - i ∧ i ≤ n ∧ Pv i H, ⟨n, by simp, Nat.zero_le _, h0⟩, ?_⟩
  rintro i m H ⟨rfl, hi, p⟩
  have q := hG i H hi p
  by_cases hlt : i < n
  · exact .inr ⟨w.goes i H hlt q, Pv (i + 1), fun H' p' => ⟨n - (i + 1), by omega, rfl, hlt, p'⟩, fun x H' y => hs i x H H' hlt p (w.yields i H x H' hlt q y)⟩
  · have e : i = n := by omega
    subst e
    exact .inl ⟨w.stops H q, hd H p⟩
end Fv
set_option maxRecDepth 100000
set_option maxHeartbeats 1000000
/-! enumerate of a list from a number on; the greatest of a list of tuples -/
namespace Fv
open PySem PySem.Spec L2
/-- enumerate of a list from a written number on: each item in a new pair -/
def ItnL (K : PySem.W.Frag) (t : Addr) (k : Int) : It where
  go := fun i H => ∃ (xs : List V) (x : V), SqL K H t xs ∧ xs[i]? = some x
  yld := fun i H v H' => ∃ (T : Addr) (x : V), v = .ref T ∧ H T = none ∧ H' = upd H T (.tup [.int (k + (i : Int)), x]) ∧ ∀ xs, SqL K H t xs → xs[i]? = some x
  stop := fun i H => ∃ xs : List V, SqL K H t xs ∧ xs.length = i
theorem turn_enumLS {P : Program} {w : World} {K : PySem.W.Frag} {elts : List Expr} {kk : Nat} {tpos : Pos} (k : Int) (t e it : Addr) (nt : t ≠ it) (ne : e ≠ it) (ne' : e ≠ t) :
    Turn P w K (.Tuple elts kk tpos) (ItnL K t k) [e, it] e (fun i h => (∃ old, IsEnum h e it (k + (i : Int)) old) ∧ h.IsListIter it t i) where
  mem := List.mem_cons_self
  obj := fun i h st b hb => by
    obtain ⟨⟨old, he⟩, ⟨o, ho, hc, hd⟩⟩ := st
    rcases List.mem_cons.mp hb with rfl | hb
    · exact ⟨_, he, fun v q => nomatch q⟩
    · rw [List.mem_singleton.mp hb]
      exact ⟨o, ho, fun v q => by rw [hd] at q; cases q⟩
  keep := fun i h h' st kp => ⟨st.1.elim fun old he => ⟨old, kp e List.mem_cons_self _ he⟩, st.2.at fun o q => kp it (List.mem_cons_of_mem _ List.mem_cons_self) o q⟩
  item := by
    intro X hP hw hK hc i pins s σ H E I hf st hg
    subst hP hw hK
    obtain ⟨xs, x, hq, hx⟩ := hg
    obtain ⟨its, rv, p, hz⟩ := I.list hq
    obtain ⟨u, hu, ru⟩ := rv.get hx
    have hil : i < its.length := (List.getElem?_eq_some_iff.mp hu).1
    have W := WalksT.enumFrom (prog := X.prog) (w := X.w) (A := X.A) k (Draws.list (prog := X.prog) (w := X.w) (A := X.A.in1) (it := it) (l := t) (show X.A.in1.handled = none from I.ok.hd hc) nt its.toArray) e ne (by simp [ne, ne']) (by simp)
    refine W.item i s _ E (by simpa using hil) ⟨st.1, st.2, p.isList⟩ fun T vals h' tk hP' hT hTup hMid hk => ?_
    refine ⟨_, rfl, W.go elts kk tpos i T _ _ E hMid fun h'' hst' hk' => ?_⟩
    obtain ⟨tk2, y, hy, rfl⟩ := hP'
    have ey : y = u := by
      have e1 : its.toArray[i]? = some u := by simpa using hu
      rw [e1] at hy
      exact (Option.some.inj hy).symm
    subst ey
    have hfp : ∀ b ∈ [e, it], b < s.heap.objs.size := fun b hb => by
      obtain ⟨⟨old, he⟩, ⟨o, ho, _⟩⟩ := st
      rcases List.mem_cons.mp hb with rfl | hb
      · exact Heap.lt_size he
      · rw [List.mem_singleton.mp hb]
        exact Heap.lt_size ho
    have hTn : T ∉ [e, it] := W.apart i T _ hMid
    have hTup2 : h''.IsTuple T #[.int (k + (i : Int)) tk2, y] := by
      obtain ⟨o, e1, c1, n1, d1⟩ := hTup
      exact ⟨o, hk' _ _ hTn e1, c1, n1, d1⟩
    have new : ObjOk X.prog X.w (upd H T (.tup [.int (k + (i : Int)), x])) h'' T (.tup [.int (k + (i : Int)), x]) := by
      obtain ⟨o, e1, c1, n1, d1⟩ := hTup2
      exact ⟨by show 2 ≤ sizeLine; decide, [.int (k + (i : Int)) tk2, y], .cons ⟨_, rfl⟩ (.cons ru .nil), ⟨o, e1, c1, n1, d1⟩⟩
    have I1 : Inv X pins σ (upd H T (.tup [.int (k + (i : Int)), x])) { s with heap := h'', toks := tk } :=
      I.turnedNew (ch := [e, it]) (fun b ob hb q => hk' b ob hb (hk b ob hb q)) hf hT new
    refine ⟨.ref T, _, I1, rfl, ⟨T, x, rfl, I.hok.fresh hT, rfl, fun ys hys => by rw [I.list_inj hys hq]; exact hx⟩, ⟨hst'.1, hst'.2.1⟩, fun b hb => ?_⟩
    have hbT : b ≠ T := fun z => absurd (hfp b hb) (by rw [z]; exact Nat.not_lt.mpr hT)
    rw [upd_ne hbT]
    exact (hf b hb).1
  done := by
    intro X hP hw hK hc i pins s σ H E I hf st hg
    subst hP hw hK
    obtain ⟨xs, hq, hx⟩ := hg
    obtain ⟨its, rv, p, hz⟩ := I.list hq
    have W := WalksT.enumFrom (prog := X.prog) (w := X.w) (A := X.A) k (Draws.list (prog := X.prog) (w := X.w) (A := X.A.in1) (it := it) (l := t) (show X.A.in1.handled = none from I.ok.hd hc) nt its.toArray) e ne (by simp [ne, ne']) (by simp)
    have el : i = its.toArray.size := by
      rw [← hx, Vals.length rv]
      simp
    rw [el] at st
    refine W.done s _ E ⟨st.1, st.2, p.isList⟩ fun h' tk hk => ⟨rfl, ?_⟩
    have nh : ∀ b u, H b = some u → b ∉ [e, it] := fun b u hb z => by
      have q := (hf b z).1
      rw [q] at hb
      cases hb
    refine I.step (g' := s.gens) (d' := s.drawn) (ch := [e, it]) (fun b hb => ⟨(hf b hb).2.2.2.1, (hf b hb).2.1, (hf b hb).2.2.2.2.1, (hf b hb).2.2.2.2.2⟩) (fun b o _ _ hc e _ => hk b o hc e) (fun b o _ _ hc e _ => ⟨o.slots, hk b o hc e⟩)
      (fun _ _ _ _ n => n) (fun b o hc e => ⟨o, hk b o hc e⟩) (fun _ _ q => q) (fun _ _ _ q => q) (fun _ ps q => ⟨#[], by rw [q]; simp⟩) (fun m hm => ?_) (fun b u hb => ?_) I.bare
    · obtain ⟨o, es, ep, ho, r⟩ := hm
      exact ⟨o, es, ep, hk _ o (fun z => (hf _ z).2.1 rfl) ho, r⟩
    · refine (I.hok b u hb).stay (fun c v hc q => hk c v ?_ q) (fun _ q => q) fun _ _ q => q
      rcases hc with z | z
      · rw [z]
        exact nh b u hb
      · exact nh c _ z
  self := fun A i s Q E st h => by
    obtain ⟨⟨old, he⟩, _⟩ := st
    exact wpAny_pyIter_enum he h
/-- enumerate(e, start=k), k written -/
def iEnL (K : PySem.W.Frag) (k : Int) (ta : TA) : TI := fun σ H R => ta σ H fun vs H1 => ∃ (t : Addr) (xs : List V), vs = [.ref t] ∧ SqL K H1 t xs ∧ R (ItnL K t k) H1
theorem pi_enumLS0 {X : Cx} {e : Expr} {ta : TA} {p pos tpos kpos kp : Pos} {elts : List Expr} {kk j : Nat} {k : Int} (hc : X.calm = true) (hg : Gl X "enumerate") (hm : X.mg "enumerate" = none) (h0 : -(2 ^ 63) ≤ k) (h1 : k < 2 ^ 63) (ha : PA X [e] ta)
    (hs : starEach [e] X.env = (false, eval e X.env) :: starEach [] X.env := by rfl) :
    PI X (.Tuple elts kk tpos) (.Call (.Name "enumerate" p) [e] [⟨some "start", .Constant (.int k) j kp, kpos⟩] pos) (iEnL X.K k ta) := by
  refine ⟨fun pins s σ H R I h => ?_⟩
  refine wpAny_Call_Name_kw (ld_blt I hg hm (u := .type "enumerate") (by decide +kernel) ?_)
  refine PySem.W.callWith_of (P := fun _ => True) (by rw [hs]; rfl) (fun h _ => ⟨_, .inr (.inl rfl), PySem.W.Looks.of_pure rfl⟩) (PyProof.Rows.evalArgs_kw2 rfl (thn (ha.run pos pins s σ H _ I h) fun us s1 ⟨vs, H1, I1, r1, t, xs, ev, hq, q⟩ => ?_) hs)
  have hkw : PK X [⟨some "start", .Constant (.int k) j kp, kpos⟩] (tCons (tC (.int k)) tNil) := pk_cons pe_int pk_nil
  refine thn (hkw.run pos pins s1 σ H1 (fun zs H2 => zs = [.int k] ∧ H2 = H1) I1 ⟨rfl, rfl⟩) fun ks s2 ⟨zs, H2, I2, r2, ez, eH⟩ => ⟨True.intro, ?_⟩
  subst ev ez eH
  cases r1 with
  | cons r rr =>
    cases rr
    cases r
    cases r2 with
    | cons rk rrk =>
      cases rrk
      obtain ⟨tk, rfl⟩ := rk
      obtain ⟨its, rv, p', hz⟩ := I2.list hq
      refine enum_begins_start (begins_list t its.toArray) (p'.isList) h0 h1 fun h' he hit hsz hkp => ?_
      refine wpAny_pyIter_enum he ?_
      have I3 : Inv X pins σ H2 { s2 with heap := h' } := I2.kept (t' := s2.toks) hkp
      have ht : t < s2.heap.objs.size := p'.lt
      have hn : ∀ b, s2.heap.objs.size ≤ b → H2 b = none := fun b hb => I2.hok.fresh hb
      refine ⟨s2.heap.objs.size + 1, [s2.heap.objs.size + 1, s2.heap.objs.size], _, _, H2, rfl, I3, turn_enumLS k t (s2.heap.objs.size + 1) s2.heap.objs.size (Nat.ne_of_lt ht) (Nat.succ_ne_self _) (Nat.ne_of_gt (Nat.lt_succ_of_lt ht)),
        ⟨⟨.none, ?_⟩, ⟨_, hit, rfl, rfl⟩⟩, fun b hb => ?_, q⟩
      · rw [show k + ((0 : Nat) : Int) = k by omega]
        exact he
      · have hle : s2.heap.objs.size ≤ b := by
          rcases List.mem_cons.mp hb with rfl | hb
          · exact Nat.le_succ _
          · rw [List.mem_singleton.mp hb]
            exact Nat.le_refl _
        exact I2.fpOk hle (hn b hle)

theorem pi_enumLS {X : Cx} {K : PySem.W.Frag} {e : Expr} {ta : TA} {p pos tpos kpos kp : Pos} {elts : List Expr} {kk j : Nat} {k : Int} (eK : X.K = K) (hc : X.calm = true) (hg : Gl X "enumerate") (hm : X.mg "enumerate" = none) (h0 : -(2 ^ 63) ≤ k) (h1 : k < 2 ^ 63) (ha : PA X [e] ta)
    (hs : starEach [e] X.env = (false, eval e X.env) :: starEach [] X.env := by rfl) :
    PI X (.Tuple elts kk tpos) (.Call (.Name "enumerate" p) [e] [⟨some "start", .Constant (.int k) j kp, kpos⟩] pos) (iEnL K k ta) := by
  subst eK
  exact pi_enumLS0 hc hg hm h0 h1 ha hs
theorem x_enls {K : PySem.W.Frag} {σ : L2.St} {H : Hp} {R : It → Hp → Prop} {k : Int} {ts : TA} (h : ts σ H fun vs H1 => ∃ (t : Addr) (xs : List V), vs = [.ref t] ∧ SqL K H1 t xs ∧ R (ItnL K t k) H1) : iEnL K k ts σ H R := h
theorem walk_enumLS {K : PySem.W.Frag} {t : Addr} {k : Int} {xs : List V} : Walk (ItnL K t k) xs.length (fun H => SqL K H t xs) (YPair (fun i => some (.int (k + (i : Nat)))) (fun i => xs[i]?)) := by
  refine ⟨fun i _ hi q => ⟨xs, xs[i], q, by simp [hi]⟩, fun _ q => ⟨xs, q, rfl⟩, fun i H v H' _ q y => ?_⟩
  obtain ⟨T, z, h1, h2, h3, h4⟩ := y
  exact ⟨T, .int (k + (i : Nat)), z, h1, h2, h3, rfl, h4 xs q⟩
/-! max of a list of tuples of numbers -/
def tD (l : List Nat) : PyData := .tuple (dn l)
theorem alike_dn : ∀ a b : List Nat, PySem.W.alikeAll (dn a) (dn b) = true
  | [], [] => by simp [dn, PySem.W.alikeAll]
  | [], _ :: _ => by simp [dn, PySem.W.alikeAll]
  | _ :: _, [] => by simp [dn, PySem.W.alikeAll]
  | a :: l, b :: m => by
    have ih := alike_dn l m
    show PySem.W.alikeAll (.int a :: dn l) (.int b :: dn m) = true
    rw [PySem.W.alikeAll, ih]
    simp [PySem.W.alike]
theorem alike_tD (a b : List Nat) : PySem.W.alike (tD a) (tD b) = true := by
  show PySem.W.alike (.tuple (dn a)) (.tuple (dn b)) = true
  rw [PySem.W.alike]
  exact alike_dn a b
theorem tD_inj {a b : List Nat} (h : tD a = tD b) : a = b := by
  have h2 : dn a = dn b := PyData.tuple.inj h
  have h3 := dn_eqv a b
  rw [h2, dn_eqv] at h3
  have : decide (b = b) = true := decide_eq_true rfl
  rw [this] at h3
  exact of_decide_eq_true h3.symm
/-- a stands no place beyond g -/
def Pw : List Nat → List Nat → Prop
  | [], [] => True
  | x :: l, y :: m => x ≤ y ∧ Pw l m
  | _, _ => False
theorem lex_pw : ∀ {a g : List Nat}, Pw a g → a ≠ g → PyProof.Rows.lexLt PyProof.Rows.itemOrd (PySem.W.keyToksAll (dn a)) (PySem.W.keyToksAll (dn g)) = true ∧ PyProof.Rows.lexLt PyProof.Rows.itemOrd (PySem.W.keyToksAll (dn g)) (PySem.W.keyToksAll (dn a)) = false
  | [], [], _, h => (h rfl).elim
  | x :: l, y :: m, ⟨h1, h2⟩, h => by
    have al : PySem.W.alike (.int (x : Nat)) (.int (y : Nat)) = true := by simp [PySem.W.alike]
    have al2 : PySem.W.alike (.int (y : Nat)) (.int (x : Nat)) = true := by simp [PySem.W.alike]
    show PyProof.Rows.lexLt PyProof.Rows.itemOrd (PySem.W.keyToksAll (.int (x : Nat) :: dn l)) (PySem.W.keyToksAll (.int (y : Nat) :: dn m)) = true ∧ PyProof.Rows.lexLt PyProof.Rows.itemOrd (PySem.W.keyToksAll (.int (y : Nat) :: dn m)) (PySem.W.keyToksAll (.int (x : Nat) :: dn l)) = false
    by_cases e : x = y
    · subst e
      have ev : PyData.eqv (.int (x : Nat)) (.int (x : Nat)) = true := by simp [PyData.eqv]
      rw [PySem.W.dataLt_all_yes al ev, PySem.W.dataLt_all_yes al ev]
      exact lex_pw h2 fun z => h (by rw [z])
    · have ev : PyData.eqv (.int (x : Nat)) (.int (y : Nat)) = false := by
        simp [PyData.eqv]
        omega
      have ev2 : PyData.eqv (.int (y : Nat)) (.int (x : Nat)) = false := by
        simp [PyData.eqv]
        omega
      rw [PySem.W.dataLt_all_no al ev, PySem.W.dataLt_all_no al2 ev2, PySem.W.dataLt_int, PySem.W.dataLt_int]
      exact ⟨decide_eq_true (by omega), decide_eq_false (by omega)⟩
theorem tD_lt {a g : List Nat} (h : Pw a g) (n : a ≠ g) : PySem.W.dataLt (tD a) (tD g) = true ∧ PySem.W.dataLt (tD g) (tD a) = false := by
  unfold tD
  rw [PySem.W.dataLt_tuple, PySem.W.dataLt_tuple]
  exact lex_pw h n
theorem dataLt_self (g : List Nat) : PySem.W.dataLt (tD g) (tD g) = false := PyProof.Rows.lex_irrefl (O := PyProof.Rows.itemOrd) _
theorem fold_top {g : List Nat} : ∀ (ts : List (List Nat)) (a : List Nat), (∀ u ∈ ts, u = g ∨ Pw u g) → (a = g ∨ Pw a g) → (a = g ∨ g ∈ ts) → (ts.map tD).foldl (fun a y => if PySem.W.dataLt a y then y else a) (tD a) = tD g
  | [], a, _, _, h => by
    rcases h with rfl | h
    · rfl
    · cases h
  | u :: ts, a, h1, h2, h3 => by
    show (ts.map tD).foldl _ (if PySem.W.dataLt (tD a) (tD u) then tD u else tD a) = tD g
    have hu := h1 u List.mem_cons_self
    have h1' : ∀ u ∈ ts, u = g ∨ Pw u g := fun v hv => h1 v (List.mem_cons_of_mem _ hv)
    by_cases ea : a = g
    · subst ea
      have : PySem.W.dataLt (tD a) (tD u) = false := by
        by_cases eu : u = a
        · subst eu
          exact dataLt_self _
        · rcases hu with hu | hu
          · exact (eu hu).elim
          · exact (tD_lt hu eu).2
      rw [this]
      exact fold_top ts a h1' (.inl rfl) (.inl rfl)
    · by_cases eu : u = g
      · subst eu
        rcases h2 with h2 | h2
        · exact (ea h2).elim
        · rw [(tD_lt h2 ea).1]
          exact fold_top ts u h1' (.inl rfl) (.inl rfl)
      · have mg : g ∈ ts := by
          rcases h3 with h3 | h3
          · exact (ea h3).elim
          · rcases List.mem_cons.mp h3 with h3 | h3
            · exact (eu h3.symm).elim
            · exact h3
        cases PySem.W.dataLt (tD a) (tD u) with
        | true => exact fold_top ts u h1' hu (.inr mg)
        | false => exact fold_top ts a h1' h2 (.inr mg)
theorem tDs_depth : ∀ ts : List (List Nat), PyData.depthAll (ts.map tD) ≤ 1
  | [] => by decide
  | a :: l => by
    show max (PyData.depth (.tuple (dn a))) (PyData.depthAll (l.map tD)) ≤ 1
    have := tDs_depth l
    have h : PyData.depth (.tuple (dn a)) = 1 := by
      show PyData.depthAll (dn a) + 1 = 1
      rw [dn_depth]
    omega
theorem dp_tups {K : PySem.W.Frag} {H : Hp} : ∀ {as : List Addr} {ts : List (List Nat)}, as.length = ts.length → (∀ (i : Nat) a t, as[i]? = some a → ts[i]? = some t → SqT K H a (nats t)) → DpAll K H (as.map V.ref) (ts.map tD)
  | [], [], _, _ => .nil
  | _ :: _, [], h, _ => absurd h (by simp)
  | [], _ :: _, h, _ => absurd h (by simp)
  | a :: as, t :: ts, h, hh => .cons (.tup (hh 0 a t rfl rfl) (dpAll_nats t)) (dp_tups (by simpa using h) fun i b u e1 e2 => hh (i + 1) b u e1 e2)
def rMaxT (K : PySem.W.Frag) : List V → Hp → VK → Prop := fun xs H Q => ∃ (l : Addr) (as : List Addr) (ts : List (List Nat)) (g : List Nat), xs = [.ref l] ∧ SqL K H l (as.map V.ref) ∧ as.length = ts.length ∧ (∀ (i : Nat) a t, as[i]? = some a → ts[i]? = some t → SqT K H a (nats t)) ∧ g ∈ ts ∧ (∀ u ∈ ts, u = g ∨ Pw u g) ∧
  ∀ (i : Nat) a, as[i]? = some a → ts[i]? = some g → Q (.ref a) H
theorem cr_maxTK {X : Cx} {K : PySem.W.Frag} (e : X.K = K) (hc : X.calm = true) (hu : X.A.units + 66 < cLine) : CallR X (.builtin "max") (rMaxT K) := by
  subst e
  intro pins s σ H vs us Q I r h
  obtain ⟨l, as, ts, g, rfl, hl, la, at_, mg, top, q⟩ := h
  rw [Vals.ref1 r]
  obtain ⟨its, rv, p, _⟩ := I.list hl
  have hh : X.A.handled = none := I.ok.hd hc
  obtain ⟨bs, ra⟩ := Dp.readsAll I _ _ _ (dp_tups la at_) rv
  match ts, mg with
  | t0 :: ts, mg =>
    have fold : PySem.W.maxD (tD t0) (ts.map tD) = tD g := fold_top ts t0 (fun u hu => top u (List.mem_cons_of_mem _ hu)) (top t0 List.mem_cons_self) (by
      rcases List.mem_cons.mp mg with z | z
      · exact .inl z.symm
      · exact .inr z)
    have dep := tDs_depth (t0 :: ts)
    refine PySem.W.max_list_data (x := tD t0) (xs := ts.map tD) hh p.isList (by simpa using ra) ⟨fun x hx y hy => ?_, fun x hx => ?_⟩ (by show X.A.units + 1 + PyData.depthAll ((t0 :: ts).map tD) < cLine; omega) fun i v h' tk cs hv rd kp => ?_
    · obtain ⟨a, _, rfl⟩ := List.mem_map.mp (show x ∈ (t0 :: ts).map tD from hx)
      obtain ⟨b, _, rfl⟩ := List.mem_map.mp (show y ∈ (t0 :: ts).map tD from hy)
      exact alike_tD a b
    · obtain ⟨a, _, rfl⟩ := List.mem_map.mp (show x ∈ (t0 :: ts).map tD from hx)
      exact fun z => nomatch z
    · have e2 : its[i]? = some v := by simpa using hv
      have hi := (List.getElem?_eq_some_iff.mp e2).1
      have il : its.length = as.length := by rw [← rv.length, List.length_map]
      have ha := List.getElem?_eq_getElem (l := as) (i := i) (by omega)
      have ht := List.getElem?_eq_getElem (l := t0 :: ts) (i := i) (by omega)
      obtain ⟨u, hu2, ru⟩ := rv.get (show (as.map V.ref)[i]? = some (.ref as[i]) by rw [List.getElem?_map, ha]; rfl)
      rw [e2] at hu2
      cases hu2
      obtain rfl : v = .ref as[i] := ru
      rw [fold] at rd
      have I2 : Inv X pins σ H { s with heap := h', toks := tk } := I.kept (t' := tk) kp
      have dpa : Dp X.K H (.ref as[i]) (tD (t0 :: ts)[i]) := .tup (at_ i _ _ ha ht) (dpAll_nats _)
      obtain ⟨ds, r2⟩ := Dp.reads I2 _ _ _ dpa rfl
      have eg := tD_inj (PySem.W.alike_unique _ _ _ _ _ (alike_tD _ _) r2 rd)
      rw [eg] at ht
      exact ⟨.ref as[i], H, I2, rfl, q i _ ha ht⟩
theorem x_maxT {K : PySem.W.Frag} {H : Hp} {Q : VK} {l : Addr} {as : List Addr} {ts : List (List Nat)} {g : List Nat} (hl : SqL K H l (as.map V.ref)) (la : as.length = ts.length) (at_ : ∀ (i : Nat) a t, as[i]? = some a → ts[i]? = some t → SqT K H a (nats t)) (mg : g ∈ ts) (top : ∀ u ∈ ts, u = g ∨ Pw u g)
    (q : ∀ (i : Nat) a, as[i]? = some a → ts[i]? = some g → Q (.ref a) H) : rMaxT K [.ref l] H Q := ⟨l, as, ts, g, rfl, hl, la, at_, mg, top, q⟩
end Fv
set_option maxRecDepth 100000
set_option maxHeartbeats 2000000
/-! sorted(s), s a set of any number of ints; set(l), l a longer list of ints -/
namespace L2
open PySem PySem.Spec PyProof.Rows PySem.F
section
variable {P : Program} {w : World} {A : Around} {E : Value → Shared → Prop} {s : Shared} {a : Addr}
theorem eachInts : ∀ {vs : List Value} {ns : List Int}, IntsAre vs ns → PySem.W.EachIs (fun v (k : Int) => ∃ t, v = Value.int k t) vs ns
  | _, _, .nil => .nil
  | _, _, .cons n t h => .cons ⟨t, rfl⟩ (eachInts h)
theorem intsEach : ∀ {vs : List Value} {ns : List Int}, PySem.W.EachIs (fun v (k : Int) => ∃ t, v = Value.int k t) vs ns → IntsAre vs ns
  | _, _, .nil => .nil
  | _, _, .cons ⟨t, e⟩ h => by
    subst e
    exact .cons _ t (intsEach h)
theorem eachReads {h : Heap} {b : Addr} : ∀ {vs : List Value} {ns : List Int}, IntsAre vs ns → PySem.W.EachIs (fun v (k : Int) => ∃ as, Reads h v (PyData.int k) as ∧ b ∉ as) vs ns
  | _, _, .nil => .nil
  | _, _, .cons n t h => .cons ⟨[], .int n t, fun z => nomatch z⟩ (eachReads h)
theorem sorted_setN {S : Int → Bool} {n : Nat} {Q : Value → Shared → Prop} (R : SetR w s.heap a S n) (hh : A.handled = none) (hu : A.units + 66 < cLine) (h64 : n ≤ 4000)
    (hQ : ∀ s' p (out : Array Value) (c : Nat) (ns : List Int), (∀ b o, s.heap.get? b = some o → s'.heap.get? b = some o) → s'.gens = s.gens → s'.os = s.os → s.heap.objs.size ≤ p →
      s'.heap.get? p = some (seqObj "list" out c) → IntsAre out.toList ns → ns.Pairwise (· < ·) → (∀ k, k ∈ ns ↔ S k = true) → ns.length = n → Q (.ref p) s') :
    wpAny (model P w) A (call (.builtin "sorted") [.ref a]) Q E s := by
  obtain ⟨o, es, ep, t, ho, hex, hd, g, nd, hm, hb, hf, hn, hr, hl⟩ := R
  refine Calls.call_function_entry kind_sorted plain_sorted entry_sorted (args_sorted1 _) ?_
  unfold Builtin.«sorted»
  refine wpAny_bind (m := checkCount "sorted" 1 1 _) (wpAny_pure ?_)
  refine wpAny_bind (collect_set (A := A.in1) hh ⟨o, ho, hex.1, hd⟩ hf hb hr hl fun s1 vs k1 hz g1 o1 pm => ?_)
  have hvl : vs.length = n := by rw [pm.length_eq, List.length_map, Array.length_toList]; exact hn
  have hI : IntsAre vs (vs.map Builtin.Re.reRawOf) := ints_of vs fun v hv => by
    obtain ⟨e, he, q⟩ := List.mem_map.mp (pm.mem_iff.mp hv)
    obtain ⟨k, tk, h1, _⟩ := g e he
    exact ⟨k, tk, by rw [← q]; exact h1⟩
  have pk : (vs.map Builtin.Re.reRawOf).Perm (es.toList.map keyOf) := by
    have q := pm.map Builtin.Re.reRawOf
    rw [List.map_map] at q
    exact q
  refine wpAny_bind (wpAny_newList ?_ (by rw [hvl, sizeLine_eq]; omega))
  have hoL : (s1.heap.push (seqObj "list" vs.toArray 0)).get? s1.heap.objs.size = some (seqObj "list" vs.toArray 0) := Heap.get?_push_size _ rfl
  refine wpAny_bind (wpAny_holding (PySem.W.list_sort_data (s := { s1 with heap := s1.heap.push (seqObj "list" vs.toArray 0) }) (bs := vs.map Builtin.Re.reRawOf) (enc := PyData.int) hoL (eachInts hI) (eachReads hI)
    (PySem.W.AllAlike.of fun b b' => by simp [PySem.W.alike]) (PySem.W.Sortable.others fun b => ⟨nofun, nofun⟩) (by rw [List.length_map, hvl, sizeLine_eq]; omega) (fun b _ => by
      show A.in1.units + 1 + _ < _
      have e : A.in1.units = A.units + 1 := rfl
      simp only [PyData.depth]
      omega) fun out lo eo => ?_))
  obtain ⟨c, hc⟩ := sortedHeap_at (vs := vs) (out := out.toArray) hoL
  have dle : PySem.W.dataLe false (PyData.int : Int → PyData) = fun a b => decide (a ≤ b) := PySem.W.dataLe_int id
  rw [dle] at eo
  generalize hns : (vs.map Builtin.Re.reRawOf).mergeSort (fun a b => decide (a ≤ b)) = ns' at eo
  have a2 : ns'.Perm (vs.map Builtin.Re.reRawOf) := hns ▸ List.mergeSort_perm _ _
  have a3 : ns'.Pairwise (· ≤ ·) := by
    have q := List.pairwise_mergeSort (le := fun a b : Int => decide (a ≤ b)) (by intro a b c; simp; omega) (by intro a b; simp; omega) (vs.map Builtin.Re.reRawOf)
    rw [hns] at q
    exact q.imp fun h => of_decide_eq_true h
  have a1 := intsEach eo
  have pn : ns'.Perm (es.toList.map keyOf) := a2.trans pk
  refine wpAny_pure ⟨_, rfl, hQ { s1 with heap := sortedHeap (s1.heap.push (seqObj "list" vs.toArray 0)) s1.heap.objs.size vs out.toArray } s1.heap.objs.size out.toArray c ns' (fun b u e => ?_) g1 o1 hz hc (by rw [List.toList_toArray]; exact a1) (lt_of_le_nodup ns' a3 (pn.nodup_iff.mpr nd)) (fun k => by rw [pn.mem_iff, ← hm k]) ?_⟩
  · have q := k1 b u e
    have hlt := Heap.lt_size q
    show (sortedHeap (s1.heap.push (seqObj "list" vs.toArray 0)) s1.heap.objs.size vs out.toArray).get? b = some u
    rw [sortedHeap_old (Nat.ne_of_lt hlt) (by rw [size_push']; exact Nat.lt_succ_of_lt hlt)]
    exact Heap.get?_push_of_some _ q
  · rw [pn.length_eq, List.length_map, Array.length_toList]; exact hn
end
section
variable {X : Cx}
/-- sorted(found), up to 4000 members -/
def rSortedSetN (w : World) : List V → Hp → VK → Prop := fun vs H Q => ∃ (a : Addr) (S : Int → Bool) (n : Nat), vs = [V.ref a] ∧ H a = some (SetO w a S n) ∧ n ≤ 4000 ∧
  ∀ (ns : List Int) (p : Addr), ns.Pairwise (· < ·) → (∀ k : Int, k ∈ ns ↔ S k = true) → ns.length = n → H p = none → Q (.ref p) (upd H p (.lst (ns.map V.int)))
theorem cr_sortedSetN {w : World} (e2 : X.w = w) (hc : X.calm = true) (hu : X.A.units + 66 < cLine) : CallR X (.builtin "sorted") (rSortedSetN w) := by
  subst e2
  intro pins s σ H vs us Q I r h
  obtain ⟨a, S, n, rfl, ha, h64, q⟩ := h
  have R := setO_get I ha
  rw [Vals.ref1 r]
  refine sorted_setN R (I.ok.hd hc) hu h64 fun s' p out c ns k g o hp hg hi hs hm hl => ?_
  have hlen : (ns.map V.int).length ≤ sizeLine := by rw [List.length_map, hl, sizeLine_eq]; omega
  have hn : H p = none := I.hok.fresh hp
  have J : Inv X pins σ (upd H p (.lst (ns.map V.int))) { s with heap := s'.heap, gens := s'.gens, drawn := s'.drawn, toks := s'.toks } :=
    I.call (ch := []) (Un.laid k hp hn) (I.hok.laid k hp ⟨hlen, out.toList, c, vals_of_ints hi, hg⟩) (by rw [g]; exact I.bare) (fun _ z => nomatch z)
  have e : s' = { s with heap := s'.heap, gens := s'.gens, drawn := s'.drawn, toks := s'.toks } := by
    cases s'
    cases s
    cases o
    rfl
  rw [e]
  exact ⟨.ref p, _, J, rfl, q ns p hs hm hl hn⟩
/-- set(xs), xs a list of up to 4000 ints -/
def rSetLj (K : PySem.W.Frag) (w : World) : List V → Hp → VK → Prop := fun xs H Q => ∃ (l : Addr) (ns : List Int), xs = [.ref l] ∧ SqL K H l (ns.map V.int) ∧ ns.length < 200 ∧ ∀ p c, H p = none → c ≤ ns.length → Q (.ref p) (upd H p (SetO w p (fun j => decide (j ∈ ns)) c))
theorem cr_setLjK {K : PySem.W.Frag} {w : World} (e : X.K = K) (e2 : X.w = w) (hc : X.calm = true) : CallR X (.type "set") (rSetLj K w) := by
  subst e e2
  intro pins s σ H vs us Q I r h
  obtain ⟨l, ns, rfl, hl, h60, q⟩ := h
  rw [Vals.ref1 r]
  obtain ⟨its, rv, p, hz⟩ := I.list hl
  refine lset_call ns (I.ok.hd hc) p.isList (by rw [List.toList_toArray]; exact ints_of_vals rv) (by unfold scanBound; omega) fun h' tk c R hcn k => ?_
  exact ⟨.ref _, _, I.laid (t' := tk) k (Nat.le_refl _) (setO_new R), rfl, q _ _ (I.hok.fresh (Nat.le_refl _)) hcn⟩
end
end L2
namespace Fv
open PySem PySem.Spec L2
/-- x in d, d a dict -/
def rInDk : R2 := fun x y H Q => ∃ a o, y = .ref a ∧ DGet H a x o ∧ Q (.bl o.isSome) H
theorem op_inDK {X : Cx} (hu : X.A.units + 1 < cLine) : OpR X (compareOp .In) rInDk := by
  intro pins s σ H x y v u Q I rx ry h
  obtain ⟨a, o, rfl, g, q⟩ := h
  cases ry
  exact d_in hu I g rx fun s3 I3 => ⟨.bl o.isSome, H, I3, rfl, q⟩
theorem kdl_none : ∀ {k : Nat} {xs : List V} {j : Nat}, j < k → valV (kdl k xs) (Sum.inl ((j : Nat) : Int)) = none
  | _, [], _, _ => rfl
  | k, x :: r, j, h => by
    show valV ((Sum.inl ((k : Nat) : Int), x) :: kdl (k + 1) r) _ = none
    rw [valV_neg (by intro z; have := Sum.inl.inj z; omega)]
    exact kdl_none (by omega)
theorem dgetN0 {H : Hp} {d : Addr} {xs : List V} (h : Rd H d (.dK (kdl 1 xs))) : DGet H d (.int ((0 : Nat) : Int)) none := .inl ⟨_, Sum.inl _, h, rfl, (kdl_none (by omega)).symm⟩
theorem x_inDT {H : Hp} {Q : VK} {a : Addr} {x v : V} (g : DGet H a x (some v)) (q : Q (.bl true) H) : rInDk x (.ref a) H Q := ⟨a, _, rfl, g, q⟩
theorem x_inDF {H : Hp} {Q : VK} {a : Addr} {x : V} (g : DGet H a x none) (q : Q (.bl false) H) : rInDk x (.ref a) H Q := ⟨a, _, rfl, g, q⟩
theorem x_inD {H : Hp} {Q : VK} {a : Addr} {x : V} {o : Option V} (g : DGet H a x o) (q : Q (.bl o.isSome) H) : rInDk x (.ref a) H Q := ⟨a, o, rfl, g, q⟩
end Fv
set_option maxHeartbeats 1000000
/-! ties, and what leads to what -/
namespace Fv
abbrev Ti := Nat × Nat
/-- from q one comes to p: p hangs under r, to which one comes from q -/
inductive Lds (F : List Ti) : Nat → Nat → Prop
  | refl (p : Nat) : Lds F p p
  | tail {q r p : Nat} : Lds F q r → (p, r) ∈ F → Lds F q p
theorem Lds.trans {F : List Ti} {q r p : Nat} (a : Lds F q r) (b : Lds F r p) : Lds F q p := by
  induction b with
  | refl => exact a
  | tail _ h ih => exact .tail ih h
theorem Lds.one {F : List Ti} {q p : Nat} (h : (p, q) ∈ F) : Lds F q p := .tail (.refl q) h
def Wr (F : List Ti) : Nat → Nat → Nat → Prop
  | 0, q, p => q = p ∨ (p, q) ∈ F
  | m + 1, q, p => Wr F m q p ∨ (Wr F m (m + 1) p ∧ Wr F m q (m + 1))
theorem wr_lds {F : List Ti} : ∀ {m q p : Nat}, Wr F m q p → Lds F q p
  | 0, q, p, h => by
    rcases h with rfl | h
    · exact .refl _
    · exact .one h
  | m + 1, q, p, h => by
    rcases h with h | ⟨h1, h2⟩
    · exact wr_lds h
    · exact (wr_lds h2).trans (wr_lds h1)
theorem wr_mono {F : List Ti} {q p : Nat} : ∀ {m k : Nat}, m ≤ k → Wr F m q p → Wr F k q p
  | m, 0, h, w => by
    have : m = 0 := by omega
    subst this
    exact w
  | m, k + 1, h, w => by
    by_cases e : m = k + 1
    · subst e
      exact w
    · exact .inl (wr_mono (by omega) w)
theorem wr_self {F : List Ti} {m q : Nat} : Wr F (m + 1) q (m + 1) ↔ Wr F m q (m + 1) :=
  ⟨fun h => h.elim id fun h => h.2, .inl⟩
theorem wr_self2 {F : List Ti} {m p : Nat} : Wr F (m + 1) (m + 1) p ↔ Wr F m (m + 1) p :=
  ⟨fun h => h.elim id fun h => h.1, .inl⟩
theorem wr_trans {F : List Ti} : ∀ {m q k p : Nat}, 1 ≤ k → k ≤ m → Wr F m q k → Wr F m k p → Wr F m q p
  | 0, q, k, p, h1, h2, _, _ => by omega
  | m + 1, q, k, p, h1, h2, a, b => by
    by_cases e : k = m + 1
    · subst e
      exact .inr ⟨wr_self2.mp b, wr_self.mp a⟩
    · have hk : k ≤ m := by omega
      rcases a with a | ⟨a1, a2⟩
      · rcases b with b | ⟨b1, b2⟩
        · exact .inl (wr_trans h1 hk a b)
        · exact .inr ⟨b1, wr_trans h1 hk a b2⟩
      · rcases b with b | ⟨b1, b2⟩
        · exact .inr ⟨wr_trans h1 hk a1 b, a2⟩
        · exact .inr ⟨b1, a2⟩
/-- ties of so many blocks -/
def TiOk (n : Nat) (F : List Ti) : Prop := ∀ b p, (b, p) ∈ F → 1 ≤ b ∧ b ≤ n ∧ p ≤ n ∧ p ≠ b
theorem wr_head {F : List Ti} {n : Nat} (ok : TiOk n F) : ∀ {m q : Nat}, Wr F m q 0 → q = 0
  | 0, q, h => by
    rcases h with h | h
    · exact h
    · have := (ok _ _ h).1
      omega
  | m + 1, q, h => by
    rcases h with h | ⟨h, _⟩
    · exact wr_head ok h
    · have := wr_head ok h
      omega
theorem lds_head {F : List Ti} {n q : Nat} (ok : TiOk n F) (h : Lds F q 0) : q = 0 := by
  cases h with
  | refl => rfl
  | tail _ h =>
    have := (ok _ _ h).1
    omega
theorem lds_wr {F : List Ti} {n q p : Nat} (ok : TiOk n F) (h : Lds F q p) : Wr F n q p := by
  induction h with
  | refl => exact wr_mono (Nat.zero_le _) (.inl rfl)
  | @tail r p h1 h2 ih =>
    have o := ok _ _ h2
    by_cases e : r = 0
    · subst e
      have := lds_head ok h1
      subst this
      exact wr_mono (Nat.zero_le _) (.inr h2)
    · exact wr_trans (by omega) o.2.2.1 ih (wr_mono (Nat.zero_le _) (.inr h2))
theorem lds_le {F : List Ti} {n q p : Nat} (ok : TiOk n F) (h : Lds F q p) (hp : p ≤ n) : q ≤ n := by
  induction h with
  | refl => exact hp
  | @tail r p h1 h2 ih => exact ih (ok _ _ h2).2.2.1
/-- a mask's bits -/
def Bits (v : Nat) (S : Nat → Prop) : Prop := ∀ q, v.testBit q = true ↔ S q
theorem Bits.or {v w : Nat} {S T : Nat → Prop} (a : Bits v S) (b : Bits w T) : Bits (v ||| w) (fun q => S q ∨ T q) := fun q => by
  rw [Nat.testBit_or, Bool.or_eq_true, a q, b q]
theorem bits_one (p : Nat) : Bits (2 ^ p) (fun q => q = p) := fun q => by
  rw [Nat.testBit_two_pow]
  rw [decide_eq_true_eq]
  exact ⟨Eq.symm, Eq.symm⟩
theorem Bits.cong {v : Nat} {S T : Nat → Prop} (a : Bits v S) (h : ∀ q, S q ↔ T q) : Bits v T := fun q => (a q).trans (h q)
/-- of two lots of one row, one within the other and no smaller, both are the same -/
theorem filter_all {α : Type} {P Q : α → Bool} : ∀ {l : List α}, (∀ x ∈ l, Q x = true → P x = true) → (l.filter P).length ≤ (l.filter Q).length → ∀ x ∈ l, P x = true → Q x = true
  | [], _, _, x, h, _ => (by cases h)
  | y :: l, hs, hl, x, hx, px => by
    have sub : ∀ {l : List α}, (∀ x ∈ l, Q x = true → P x = true) → (l.filter Q).length ≤ (l.filter P).length := fun {l} => by
      induction l with
      | nil => intro _; exact Nat.le_refl _
      | cons z l ih =>
        intro h
        have := ih fun x hx => h x (List.mem_cons_of_mem _ hx)
        rw [List.filter_cons, List.filter_cons]
        cases qz : Q z with
        | true =>
          rw [h z List.mem_cons_self qz]
          simp only [if_true, List.length_cons]
          omega
        | false =>
          cases P z <;> simp <;> omega
    have s2 := sub fun x hx => hs x (List.mem_cons_of_mem _ hx)
    rw [List.filter_cons, List.filter_cons] at hl
    rcases List.mem_cons.mp hx with rfl | hx
    · cases q : Q x with
      | true => rfl
      | false =>
        rw [q, px] at hl
        simp at hl
        omega
    · refine filter_all (fun x hx => hs x (List.mem_cons_of_mem _ hx)) ?_ x hx px
      cases q : Q y with
      | true =>
        rw [q, hs y List.mem_cons_self q] at hl
        simpa using hl
      | false =>
        rw [q] at hl
        cases p : P y with
        | true => rw [p] at hl; simp at hl; omega
        | false => rw [p] at hl; simpa using hl
/-- a lot that no tie enters and that ties join in all directions -/
structure SrcLot (n : Nat) (F : List Ti) (L : List Nat) : Prop where
  asc : L.Pairwise (· < ·)
  ne : L ≠ []
  in_ : ∀ b ∈ L, 1 ≤ b ∧ b ≤ n
  closed : ∀ b p, (b, p) ∈ F → b ∈ L → p ∈ L
  conn : ∀ p ∈ L, ∀ q ∈ L, Lds F q p
/-- what leads to a block, the masks' way -/
def lotOf (n v : Nat) : List Nat := (List.range' 1 n).filter fun p => v.testBit p
theorem lotOf_mem {n v p : Nat} : p ∈ lotOf n v ↔ (1 ≤ p ∧ p ≤ n) ∧ v.testBit p = true := by
  unfold lotOf
  rw [List.mem_filter, List.mem_range'_1]
  constructor
  · rintro ⟨⟨a, b⟩, c⟩
    exact ⟨⟨a, by omega⟩, c⟩
  · rintro ⟨⟨a, b⟩, c⟩
    exact ⟨⟨a, by omega⟩, c⟩
theorem src_lot {n : Nat} {F : List Ti} (ok : TiOk n F) {ld : Nat → Nat} (hb : ∀ p, p ≤ n → Bits (ld p) (fun q => Lds F q p)) {b : Nat} (b1 : 1 ≤ b) (b2 : b ≤ n) (nb : ¬ Lds F 0 b)
    (least : ∀ b', 1 ≤ b' → b' ≤ n → ¬ Lds F 0 b' → (lotOf n (ld b)).length ≤ (lotOf n (ld b')).length) : SrcLot n F (lotOf n (ld b)) := by
  have mem : ∀ {b p : Nat}, b ≤ n → ¬ Lds F 0 b → (p ∈ lotOf n (ld b) ↔ Lds F p b) := fun {b p} b2 nb => by
    rw [lotOf_mem, hb b b2 p]
    refine ⟨fun h => h.2, fun h => ⟨⟨?_, lds_le ok h b2⟩, h⟩⟩
    refine Nat.pos_of_ne_zero fun z => nb (z ▸ h)
  refine ⟨(List.pairwise_lt_range' (s := 1) (n := n)).filter _, fun z => ?_, fun p hp => (lotOf_mem.mp hp).1, fun c p h hc => ?_, fun p hp q hq => ?_⟩
  · have : b ∈ lotOf n (ld b) := (mem b2 nb).mpr (.refl b)
    rw [z] at this
    cases this
  · exact (mem b2 nb).mpr ((Lds.one h).trans ((mem b2 nb).mp hc))
  · have hpb := (mem b2 nb).mp hp
    have np : ¬ Lds F 0 p := fun z => nb (z.trans hpb)
    obtain ⟨⟨p1, p2⟩, _⟩ := lotOf_mem.mp hp
    have le := least p p1 p2 np
    have hq2 := lotOf_mem.mp hq
    have := filter_all (l := List.range' 1 n) (P := fun x => (ld b).testBit x) (Q := fun x => (ld p).testBit x) (fun x _ h => (hb b b2 x).mpr (((hb p p2 x).mp h).trans hpb)) le q (List.mem_filter.mp hq).1 hq2.2
    exact (hb p p2 q).mp this
/-- from a part of a lot ties lead to the rest of it -/
theorem SrcLot.cross {n : Nat} {F : List Ti} {L : List Nat} (s : SrcLot n F L) {S : Nat → Prop} {p q : Nat} (hp : p ∈ L) (hq : q ∈ L) (sp : S p) (sq : ¬ S q) : ∃ b r, (b, r) ∈ F ∧ b ∈ L ∧ ¬ S b ∧ r ∈ L ∧ S r := by
  have h := s.conn q hq p hp
  clear hp
  revert hq sq
  induction h with
  | refl => intro _ sq; exact (sq sp).elim
  | @tail r q h1 h2 ih =>
    intro hq sq
    have hr := s.closed _ _ h2 hq
    by_cases c : S r
    · exact ⟨q, r, h2, hq, sq, hr, c⟩
    · exact ih hr c
end Fv
set_option maxHeartbeats 1000000
/-! nests: payments, and the tree that they make -/
namespace Fv
abbrev Pay := List Nat × Nat
def paid1 (t : Pay) (b p : Nat) : Nat := if b ∈ t.1 ∧ p ∉ t.1 then t.2 else 0
def paidS (pd : List Pay) (b p : Nat) : Nat := (pd.map fun t => paid1 t b p).sum
theorem paidS_snoc {pd : List Pay} {t : Pay} {b p : Nat} : paidS (pd ++ [t]) b p = paidS pd b p + paid1 t b p := by
  unfold paidS
  rw [List.map_append, List.sum_append]
  simp
structure LotOk (n : Nat) (t : Pay) : Prop where
  asc : t.1.Pairwise (· < ·)
  ne : t.1 ≠ []
  in_ : ∀ b ∈ t.1, 1 ≤ b ∧ b ≤ n
  pos : 1 ≤ t.2
/-- ties that join a lot came before those that enter it -/
def Early (F : List Ti) (L : List Nat) : Prop := ∃ F1 F2, F = F1 ++ F2 ∧ (∀ b p, (b, p) ∈ F1 → b ∈ L → p ∈ L) ∧ ∀ (S : Nat → Prop) p q, p ∈ L → q ∈ L → S p → ¬ S q → ∃ b r, (b, r) ∈ F1 ∧ b ∈ L ∧ ¬ S b ∧ r ∈ L ∧ S r
structure PayI (n : Nat) (c cl : Nat → Nat → Nat) (F : List Ti) (pd : List Pay) : Prop where
  ok : TiOk n F
  left : ∀ b p, 1 ≤ b → b ≤ n → p ≤ n → p ≠ b → c b p = cl b p + paidS pd b p
  free : ∀ b p, 1 ≤ b → b ≤ n → p ≤ n → p ≠ b → ((b, p) ∈ F ↔ cl b p = 0)
  lots : ∀ t ∈ pd, LotOk n t
  early : ∀ t ∈ pd, Early F t.1
  nd : F.Nodup
theorem pay_start {n : Nat} {c : Nat → Nat → Nat} {F : List Ti} (ok : TiOk n F) (nd : F.Nodup) (h : ∀ b p, 1 ≤ b → b ≤ n → p ≤ n → p ≠ b → ((b, p) ∈ F ↔ c b p = 0)) : PayI n c c F [] :=
  ⟨ok, fun _ _ _ _ _ _ => (Nat.add_zero _).symm, h, fun _ h => (by cases h), fun _ h => (by cases h), nd⟩
def lessBy (cl : Nat → Nat → Nat) (L : List Nat) (y : Nat) : Nat → Nat → Nat := fun b p => if b ∈ L ∧ p ∉ L then cl b p - y else cl b p
def prs (n : Nat) : List Ti := (List.range' 1 n).flatMap fun b => (List.range (n + 1)).map fun p => (b, p)
theorem prs_mem {n b p : Nat} : (b, p) ∈ prs n ↔ (1 ≤ b ∧ b ≤ n) ∧ p ≤ n := by
  unfold prs
  simp only [List.mem_flatMap, List.mem_map, List.mem_range'_1, List.mem_range, Prod.mk.injEq]
  constructor
  · rintro ⟨b', h1, p', h2, rfl, rfl⟩
    omega
  · rintro ⟨h1, h2⟩
    exact ⟨b, by omega, p, by omega, rfl, rfl⟩
/-- how many ties are not free -/
def nz (n : Nat) (cl : Nat → Nat → Nat) : Nat := ((prs n).filter fun t => decide (t.2 ≠ t.1 ∧ cl t.1 t.2 ≠ 0)).length
section
variable {n : Nat} {c cl : Nat → Nat → Nat} {F new : List Ti} {pd : List Pay} {L : List Nat} {y : Nat}
theorem PayI.pos (I : PayI n c cl F pd) (s : SrcLot n F L) {b p : Nat} (hb : b ∈ L) (hp : p ≤ n) (np : p ∉ L) : cl b p ≠ 0 := fun z => by
  have o := s.in_ b hb
  exact np (s.closed _ _ ((I.free b p o.1 o.2 hp (fun e => np (e ▸ hb))).mpr z) hb)
theorem PayI.pay (I : PayI n c cl F pd) (s : SrcLot n F L) (w : ∃ b p, b ∈ L ∧ p ≤ n ∧ p ∉ L ∧ cl b p = y) (le : ∀ b p, b ∈ L → p ≤ n → p ∉ L → y ≤ cl b p)
    (hn : ∀ b p, (b, p) ∈ new ↔ b ∈ L ∧ p ≤ n ∧ p ∉ L ∧ cl b p - y = 0) (nn : new.Nodup) : PayI n c (lessBy cl L y) (F ++ new) (pd ++ [(L, y)]) ∧ 1 ≤ y ∧ nz n (lessBy cl L y) < nz n cl := by
  obtain ⟨wb, wp, w1, w2, w3, w4⟩ := w
  have y1 : 1 ≤ y := by
    have := I.pos s w1 w2 w3
    omega
  refine ⟨⟨fun b p h => ?_, fun b p h1 h2 h3 h4 => ?_, fun b p h1 h2 h3 h4 => ?_, fun t ht => ?_, fun t ht => ?_, ?_⟩, y1, ?_⟩
  · rcases List.mem_append.mp h with h | h
    · exact I.ok b p h
    · obtain ⟨g1, g2, g3, g4⟩ := (hn b p).mp h
      have o := s.in_ b g1
      exact ⟨o.1, o.2, g2, fun e => g3 (e ▸ g1)⟩
  · rw [paidS_snoc, I.left b p h1 h2 h3 h4]
    unfold lessBy paid1
    by_cases d : b ∈ L ∧ p ∉ L
    · rw [if_pos d, if_pos d]
      have := le b p d.1 h3 d.2
      show _ = _ + (_ + y)
      omega
    · rw [if_neg d, if_neg d]
      omega
  · rw [List.mem_append, I.free b p h1 h2 h3 h4, hn]
    unfold lessBy
    by_cases d : b ∈ L ∧ p ∉ L
    · rw [if_pos d]
      have := I.pos s d.1 h3 d.2
      exact ⟨fun h => h.elim (fun z => (this z).elim) fun h => h.2.2.2, fun h => .inr ⟨d.1, h3, d.2, h⟩⟩
    · rw [if_neg d]
      exact ⟨fun h => h.elim id fun h => (d ⟨h.1, h.2.2.1⟩).elim, .inl⟩
  · rcases List.mem_append.mp ht with ht | ht
    · exact I.lots t ht
    · have := List.mem_singleton.mp ht
      subst this
      exact ⟨s.asc, s.ne, s.in_, y1⟩
  · rcases List.mem_append.mp ht with ht | ht
    · obtain ⟨F1, F2, e, h1, h2⟩ := I.early t ht
      exact ⟨F1, F2 ++ new, by rw [e, List.append_assoc], h1, h2⟩
    · have := List.mem_singleton.mp ht
      subst this
      exact ⟨F, new, rfl, s.closed, fun S p q hp hq sp sq => s.cross hp hq sp sq⟩
  · refine List.nodup_append.mpr ⟨I.nd, nn, fun t ht u hu e => ?_⟩
    subst e
    obtain ⟨g1, g2, g3, g4⟩ := (hn t.1 t.2).mp hu
    exact g3 (s.closed t.1 t.2 ht g1)
  · refine Nat.lt_of_not_le fun z => ?_
    have o := s.in_ wb w1
    have ne : wp ≠ wb := fun e => w3 (e ▸ w1)
    have := filter_all (l := prs n) (P := fun t : Ti => decide (t.2 ≠ t.1 ∧ cl t.1 t.2 ≠ 0)) (Q := fun t : Ti => decide (t.2 ≠ t.1 ∧ lessBy cl L y t.1 t.2 ≠ 0)) (fun t _ h => by
      rw [decide_eq_true_eq] at h ⊢
      refine ⟨h.1, fun z => h.2 ?_⟩
      unfold lessBy
      split
      · omega
      · exact z) z (wb, wp) (prs_mem.mpr ⟨o, w2⟩) (by
        rw [decide_eq_true_eq]
        exact ⟨ne, by show cl wb wp ≠ 0; omega⟩)
    rw [decide_eq_true_eq] at this
    refine this.2 ?_
    show lessBy cl L y wb wp = 0
    unfold lessBy
    rw [if_pos ⟨w1, w3⟩]
    omega
end
/-! the tree -/
def inK (hl : List Ti) (q : Nat) : Prop := q = 0 ∨ ∃ p, (q, p) ∈ hl
inductive Grow (F : List Ti) : List Ti → Prop
  | nil : Grow F []
  | snoc {hl : List Ti} {b p : Nat} : Grow F hl → (b, p) ∈ F → inK hl p → ¬ inK hl b → Grow F (hl ++ [(b, p)])
def ent (L : List Nat) (hl : List Ti) : Nat := (hl.filter fun t => decide (t.1 ∈ L ∧ t.2 ∉ L)).length
structure TreeI (F : List Ti) (pd : List Pay) (hl : List Ti) : Prop where
  grow : Grow F hl
  no : ∀ t ∈ pd, (∀ b ∈ t.1, ¬ inK hl b) → ent t.1 hl = 0
  one : ∀ t ∈ pd, (∃ b ∈ t.1, inK hl b) → ent t.1 hl = 1
theorem inK_snoc {hl : List Ti} {b p q : Nat} : inK (hl ++ [(b, p)]) q ↔ inK hl q ∨ q = b := by
  unfold inK
  constructor
  · rintro (h | ⟨r, h⟩)
    · exact .inl (.inl h)
    · rcases List.mem_append.mp h with h | h
      · exact .inl (.inr ⟨r, h⟩)
      · cases List.mem_singleton.mp h
        exact .inr rfl
  · rintro ((h | ⟨r, h⟩) | h)
    · exact .inl h
    · exact .inr ⟨r, List.mem_append_left _ h⟩
    · exact .inr ⟨p, by rw [h]; exact List.mem_append_right _ List.mem_cons_self⟩
theorem ent_snoc {L : List Nat} {hl : List Ti} {b p : Nat} : ent L (hl ++ [(b, p)]) = ent L hl + if b ∈ L ∧ p ∉ L then 1 else 0 := by
  unfold ent
  rw [List.filter_append, List.length_append]
  congr 1
  by_cases c : b ∈ L ∧ p ∉ L
  · rw [if_pos c, List.filter_cons_of_pos (by rw [decide_eq_true_eq]; exact c)]
    rfl
  · rw [if_neg c, List.filter_cons_of_neg (by rw [decide_eq_true_eq]; exact c)]
    rfl
theorem tree_start {F : List Ti} {pd : List Pay} {n : Nat} (h : ∀ t ∈ pd, LotOk n t) : TreeI F pd [] :=
  ⟨.nil, fun _ _ _ => rfl, fun t ht ⟨b, hb, k⟩ => by
    rcases k with k | ⟨p, k⟩
    · have := ((h t ht).in_ b hb).1
      omega
    · cases k⟩
theorem TreeI.step {n : Nat} {c cl : Nat → Nat → Nat} {F A B hl : List Ti} {pd : List Pay} {b p : Nat} (I : PayI n c cl F pd) (T : TreeI F pd hl) (e : F = A ++ (b, p) :: B) (hA : ∀ r q, (r, q) ∈ A → inK hl q → inK hl r) (hp : inK hl p) (hb : ¬ inK hl b) : TreeI F pd (hl ++ [(b, p)]) := by
  refine ⟨.snoc T.grow (by rw [e]; exact List.mem_append_right _ List.mem_cons_self) hp hb, fun t ht h => ?_, fun t ht ⟨q, hq, kq⟩ => ?_⟩
  · rw [ent_snoc, T.no t ht fun q hq k => h q hq (inK_snoc.mpr (.inl k)), if_neg fun z => h b z.1 (inK_snoc.mpr (.inr rfl))]
  · rw [ent_snoc]
    by_cases old : ∃ s ∈ t.1, inK hl s
    · rw [T.one t ht old, if_neg]
      rintro ⟨z1, z2⟩
      obtain ⟨s, hs, ks⟩ := old
      obtain ⟨F1, F2, eF, h1, h2⟩ := I.early t ht
      obtain ⟨b', r', m1, m2, m3, m4, m5⟩ := h2 (inK hl) s b hs z1 ks hb
      -- the tie that enters came later than the one found here
      have : (b', r') ∈ A ∨ (b, p) ∈ F1 := by
        have e2 : A ++ (b, p) :: B = F1 ++ F2 := e.symm.trans eF
        rcases List.append_eq_append_iff.mp e2 with ⟨as, g1, g2⟩ | ⟨bs, g1, g2⟩
        · cases as with
          | nil =>
            rw [List.append_nil] at g1
            rw [g1] at m1
            exact .inl m1
          | cons x as =>
            rw [List.cons_append] at g2
            have := (List.cons.inj g2).1
            rw [g1, this]
            exact .inr (List.mem_append_right _ List.mem_cons_self)
        · rw [g1]
          exact .inl (List.mem_append_left _ m1)
      rcases this with h | h
      · exact m3 (hA _ _ h m5)
      · exact z2 (h1 _ _ h z1)
    · rw [T.no t ht fun s hs k => old ⟨s, hs, k⟩]
      rcases inK_snoc.mp kq with k | k
      · exact (old ⟨q, hq, k⟩).elim
      · subst k
        rw [if_pos ⟨hq, fun z => old ⟨p, z, hp⟩⟩]
theorem lds_some {F hl : List Ti} {b : Nat} (h : Lds F 0 b) (nb : ¬ inK hl b) : ∃ r q, (r, q) ∈ F ∧ inK hl q ∧ ¬ inK hl r := by
  induction h with
  | refl => exact (nb (.inl rfl)).elim
  | @tail r p h1 h2 ih =>
    by_cases c : inK hl r
    · exact ⟨p, r, h2, c, nb⟩
    · exact ih c
end Fv
set_option maxHeartbeats 1000000
namespace Fv
theorem Grow.mem {F hl : List Ti} (g : Grow F hl) : ∀ t ∈ hl, t ∈ F := by
  induction g with
  | nil => intro t h; cases h
  | snoc _ h _ _ ih =>
    intro t ht
    rcases List.mem_append.mp ht with ht | ht
    · exact ih t ht
    · rw [List.mem_singleton.mp ht]
      exact h
theorem Grow.keys {F hl : List Ti} (g : Grow F hl) : (hl.map Prod.fst).Nodup := by
  induction g with
  | nil => exact List.nodup_nil
  | @snoc hl b p _ _ _ nb ih =>
    rw [List.map_append, List.nodup_append]
    refine ⟨ih, List.nodup_cons.mpr ⟨List.not_mem_nil, List.nodup_nil⟩, fun x hx y hy => ?_⟩
    rw [show y = b from List.mem_singleton.mp hy]
    intro e
    obtain ⟨t, ht, e2⟩ := List.mem_map.mp hx
    exact nb (.inr ⟨t.2, by rw [← e, ← e2]; exact ht⟩)
theorem look {b p : Nat} : ∀ {hl : List Ti}, (hl.map Prod.fst).Nodup → (b, p) ∈ hl → hl.lookup b = some p
  | [], _, h => by cases h
  | (q, r) :: hl, nd, h => by
    rw [List.map_cons, List.nodup_cons] at nd
    rw [List.lookup_cons]
    rcases List.mem_cons.mp h with h2 | h2
    · cases h2
      rw [beq_self_eq_true]
    · have : (b == q) = false := by
        rw [beq_eq_false_iff_ne]
        intro e
        subst e
        exact nd.1 (List.mem_map.mpr ⟨_, h2, rfl⟩)
      rw [this]
      exact look nd.2 h2
def plc (hl : List Ti) (b : Nat) : Nat := (hl.lookup b).getD 0
def hsOf (n : Nat) (hl : List Ti) : List Nat := (List.range' 1 n).map (plc hl)
theorem hsOf_len {n : Nat} {hl : List Ti} : (hsOf n hl).length = n := by
  unfold hsOf
  rw [List.length_map, List.length_range']
theorem hsOf_up {n b : Nat} {hl : List Ti} (h1 : 1 ≤ b) (h2 : b ≤ n) : up (hsOf n hl) b = plc hl b := by
  unfold up hsOf
  rw [if_neg (by omega), List.getD_eq_getElem?_getD, List.getElem?_map, List.getElem?_range' (by omega)]
  show plc hl (1 + 1 * (b - 1)) = _
  rw [show 1 + 1 * (b - 1) = b by omega]
theorem Grow.comes {F hl : List Ti} {hs : List Nat} (g : Grow F hl) (h : ∀ t ∈ hl, t.1 ≠ 0 ∧ up hs t.1 = t.2) : ∀ q, inK hl q → upN hs hl.length q = 0 := by
  induction g with
  | nil =>
    intro q k
    rcases k with k | ⟨p, k⟩
    · exact k
    · cases k
  | @snoc hl b p g _ hp _ ih =>
    have ih := ih fun t ht => h t (List.mem_append_left _ ht)
    intro q k
    rw [List.length_append]
    rcases inK_snoc.mp k with k | k
    · exact upN_more (ih q k) (Nat.le_succ _)
    · subst k
      show upN hs hl.length (up hs q) = 0
      rw [(h (q, p) (List.mem_append_right _ List.mem_cons_self)).2]
      exact ih p hp
def tl (n : Nat) (hs : List Nat) : List Ti := (List.range' 1 n).map fun b => (b, up hs b)
def costT (c : Nat → Nat → Nat) (n : Nat) (hs : List Nat) : Nat := ((List.range' 1 n).map fun b => c b (up hs b)).sum
def tot (pd : List Pay) : Nat := (pd.map Prod.snd).sum
theorem paid_swap {pd : List Pay} : ∀ {l : List Ti}, (l.map fun t => paidS pd t.1 t.2).sum = (pd.map fun t => t.2 * ent t.1 l).sum
  | [] => by
    have : ∀ pd : List Pay, (pd.map fun t => t.2 * ent t.1 []).sum = 0 := fun pd => by
      induction pd with
      | nil => rfl
      | cons t pd ih =>
        rw [List.map_cons, List.sum_cons, ih]
        rfl
    rw [this]
    rfl
  | (b, p) :: l => by
    rw [List.map_cons, List.sum_cons, paid_swap]
    have : ∀ pd : List Pay, paidS pd b p + (pd.map fun t => t.2 * ent t.1 l).sum = (pd.map fun t => t.2 * ent t.1 ((b, p) :: l)).sum := fun pd => by
      induction pd with
      | nil => rfl
      | cons t pd ih =>
        rw [List.map_cons, List.map_cons, List.sum_cons, List.sum_cons, ← ih]
        have e : paidS (t :: pd) b p = paid1 t b p + paidS pd b p := rfl
        have e2 : t.2 * ent t.1 ((b, p) :: l) = paid1 t b p + t.2 * ent t.1 l := by
          unfold ent paid1
          by_cases c : b ∈ t.1 ∧ p ∉ t.1
          · rw [if_pos c, List.filter_cons_of_pos (by rw [decide_eq_true_eq]; exact c), List.length_cons, Nat.mul_add, Nat.mul_one]
            omega
          · rw [if_neg c, List.filter_cons_of_neg (by rw [decide_eq_true_eq]; exact c)]
            omega
        rw [e, e2]
        omega
    exact this pd
theorem ent_perm {L : List Nat} {l m : List Ti} (h : l.Perm m) : ent L l = ent L m := (h.filter _).length_eq
theorem ent_pos {n : Nat} {L hs : List Nat} (it : IsTree hs) (hn : hs.length = n) (ne : L ≠ []) (hL : ∀ b ∈ L, 1 ≤ b ∧ b ≤ n) : ∃ b ∈ L, up hs b ∉ L := by
  obtain ⟨b, hb⟩ := List.exists_mem_of_ne_nil L ne
  have z : upN hs n b ∉ L := fun h => by
    have := it.comes b (by have := hL b hb; omega)
    rw [hn] at this
    rw [this] at h
    have := hL 0 h
    omega
  have : ∀ k, upN hs k b ∉ L → ∃ b ∈ L, up hs b ∉ L := fun k => by
    induction k with
    | zero => intro h; exact (h hb).elim
    | succ k ih =>
      intro h
      rw [upN_succ] at h
      by_cases c : upN hs k b ∈ L
      · exact ⟨_, c, h⟩
      · exact ih c
  exact this n z
theorem ent_one {n : Nat} {L hs : List Nat} (it : IsTree hs) (hn : hs.length = n) (ne : L ≠ []) (hL : ∀ b ∈ L, 1 ≤ b ∧ b ≤ n) : 1 ≤ ent L (tl n hs) := by
  obtain ⟨b, hb, nb⟩ := ent_pos it hn ne hL
  refine List.length_pos_of_mem (a := (b, up hs b)) (List.mem_filter.mpr ⟨List.mem_map.mpr ⟨b, List.mem_range'_1.mpr (by have := hL b hb; omega), rfl⟩, ?_⟩)
  rw [decide_eq_true_eq]
  exact ⟨hb, nb⟩
theorem sum_le {α : Type} {f g : α → Nat} : ∀ {l : List α}, (∀ x ∈ l, f x ≤ g x) → (l.map f).sum ≤ (l.map g).sum
  | [], _ => Nat.le_refl _
  | x :: l, h => by
    rw [List.map_cons, List.map_cons, List.sum_cons, List.sum_cons]
    have := h x List.mem_cons_self
    have := sum_le (f := f) (g := g) (l := l) fun y hy => h y (List.mem_cons_of_mem _ hy)
    omega
theorem tl_sum {n : Nat} {pd : List Pay} {hs : List Nat} : ((tl n hs).map fun t => paidS pd t.1 t.2).sum = costT (paidS pd) n hs := by
  unfold tl costT
  rw [List.map_map]
  rfl
/-- what is asked of payments that no tree undercuts -/
structure Feas (n : Nat) (c : Nat → Nat → Nat) (pd : List Pay) : Prop where
  lots : ∀ t ∈ pd, LotOk n t
  le : ∀ b p, 1 ≤ b → b ≤ n → p ≤ n → p ≠ b → paidS pd b p ≤ c b p
theorem tree_ne {hs : List Nat} (it : IsTree hs) {b : Nat} (h1 : 1 ≤ b) (h2 : b ≤ hs.length) : up hs b ≠ b := fun e => by
  have : ∀ k, upN hs k b = b := fun k => by
    induction k with
    | zero => rfl
    | succ k ih => rw [upN_succ, ih, e]
  have := this hs.length
  rw [it.comes b h2] at this
  omega
theorem Feas.bound {n : Nat} {c : Nat → Nat → Nat} {pd : List Pay} {hs : List Nat} (f : Feas n c pd) (it : IsTree hs) (hn : hs.length = n) : tot pd ≤ costT c n hs := by
  have h1 : tot pd ≤ costT (paidS pd) n hs := by
    rw [← tl_sum, paid_swap]
    unfold tot
    refine sum_le fun t ht => ?_
    have o := f.lots t ht
    have := ent_one it hn o.ne o.in_
    calc t.2 = t.2 * 1 := (Nat.mul_one _).symm
      _ ≤ t.2 * ent t.1 (tl n hs) := Nat.mul_le_mul_left _ this
  refine Nat.le_trans h1 ?_
  unfold costT
  refine sum_le fun b hb => ?_
  rw [List.mem_range'_1] at hb
  exact f.le b _ hb.1 (by omega) (by have := up_le it.le b; omega) (tree_ne it hb.1 (by omega))
theorem PayI.feas {n : Nat} {c cl : Nat → Nat → Nat} {F : List Ti} {pd : List Pay} (I : PayI n c cl F pd) : Feas n c pd :=
  ⟨I.lots, fun b p h1 h2 h3 h4 => by rw [I.left b p h1 h2 h3 h4]; omega⟩
/-- the tree that is made -/
structure BestT (n : Nat) (c : Nat → Nat → Nat) (pd : List Pay) (hs : List Nat) : Prop where
  it : IsTree hs
  len : hs.length = n
  cost : costT c n hs = tot pd
  tight : ∀ b, 1 ≤ b → b ≤ n → c b (up hs b) = paidS pd b (up hs b)
theorem TreeI.best {n : Nat} {c cl : Nat → Nat → Nat} {F hl : List Ti} {pd : List Pay} (I : PayI n c cl F pd) (T : TreeI F pd hl) (n1 : 1 ≤ n) (n40 : n ≤ 40) (all : ∀ b, 1 ≤ b → b ≤ n → inK hl b) : BestT n c pd (hsOf n hl) := by
  have nd := T.grow.keys
  have inF := T.grow.mem
  have pl : ∀ t ∈ hl, plc hl t.1 = t.2 := fun t ht => by
    unfold plc
    rw [look nd ht]
    rfl
  have ok : ∀ t ∈ hl, 1 ≤ t.1 ∧ t.1 ≤ n ∧ t.2 ≤ n ∧ t.2 ≠ t.1 := fun t ht => I.ok t.1 t.2 (inF t ht)
  have has : ∀ b, 1 ≤ b → b ≤ n → (b, plc hl b) ∈ hl := fun b h1 h2 => by
    rcases all b h1 h2 with z | ⟨p, h⟩
    · omega
    · rw [pl _ h]
      exact h
  have pk : (hl.map Prod.fst).Perm (List.range' 1 n) := (List.perm_ext_iff_of_nodup nd List.nodup_range').mpr fun b => by
    rw [List.mem_map, List.mem_range'_1]
    constructor
    · rintro ⟨t, ht, rfl⟩
      have := ok t ht
      omega
    · intro h
      exact ⟨_, has b h.1 (by omega), rfl⟩
  have ln : hl.length = n := by
    have := pk.length_eq
    rwa [List.length_map, List.length_range'] at this
  have nh : hl.Nodup := (List.pairwise_map.mp nd).imp fun h e => h (by rw [e])
  have up' : ∀ b, 1 ≤ b → b ≤ n → up (hsOf n hl) b = plc hl b := fun b h1 h2 => hsOf_up h1 h2
  have nt : (tl n (hsOf n hl)).Nodup := by
    unfold tl
    rw [List.nodup_iff_pairwise_ne, List.pairwise_map]
    exact (List.nodup_iff_pairwise_ne.mp (List.nodup_range' (s := 1) (n := n))).imp fun h e => h (Prod.mk.inj e).1
  have pt : hl.Perm (tl n (hsOf n hl)) := (List.perm_ext_iff_of_nodup nh nt).mpr fun t => by
    unfold tl
    rw [List.mem_map]
    constructor
    · intro h
      have o := ok t h
      exact ⟨t.1, List.mem_range'_1.mpr (by omega), by rw [up' _ o.1 o.2.1, pl t h]⟩
    · rintro ⟨b, hb, rfl⟩
      rw [List.mem_range'_1] at hb
      rw [up' b hb.1 (by omega)]
      exact has b hb.1 (by omega)
  have tight : ∀ b, 1 ≤ b → b ≤ n → c b (up (hsOf n hl) b) = paidS pd b (up (hsOf n hl) b) := fun b h1 h2 => by
    rw [up' b h1 h2]
    have h := has b h1 h2
    have o := ok _ h
    have z : cl b (plc hl b) = 0 := (I.free b _ h1 h2 o.2.2.1 o.2.2.2).mp (inF _ h)
    have l : c b (plc hl b) = cl b (plc hl b) + paidS pd b (plc hl b) := I.left b _ h1 h2 o.2.2.1 o.2.2.2
    omega
  refine ⟨⟨by rw [hsOf_len]; exact n1, by rw [hsOf_len]; exact n40, fun x hx => ?_, fun k hk => ?_⟩, hsOf_len, ?_, tight⟩
  · rw [hsOf_len]
    unfold hsOf at hx
    obtain ⟨b, hb, rfl⟩ := List.mem_map.mp hx
    rw [List.mem_range'_1] at hb
    exact (ok _ (has b hb.1 (by omega))).2.2.1
  · rw [hsOf_len] at hk ⊢
    have c0 := T.grow.comes (hs := hsOf n hl) (fun t ht => ⟨by have := ok t ht; omega, by
      have o := ok t ht
      rw [up' _ o.1 o.2.1, pl t ht]⟩) k (by
      by_cases e : k = 0
      · exact .inl e
      · exact all k (by omega) hk)
    rwa [ln] at c0
  · have e1 : costT c n (hsOf n hl) = costT (paidS pd) n (hsOf n hl) := by
      unfold costT
      congr 1
      refine List.map_congr_left fun b hb => ?_
      rw [List.mem_range'_1] at hb
      exact tight b hb.1 (by omega)
    rw [e1, ← tl_sum, paid_swap]
    unfold tot
    congr 1
    refine List.map_congr_left fun t ht => ?_
    have o := I.lots t ht
    obtain ⟨b, hb⟩ := List.exists_mem_of_ne_nil _ o.ne
    have ob := o.in_ b hb
    rw [← ent_perm pt, T.one t ht ⟨b, hb, all b ob.1 ob.2⟩, Nat.mul_one]
open Classical in
theorem grow_all {n : Nat} {c cl : Nat → Nat → Nat} {F : List Ti} {pd : List Pay} (I : PayI n c cl F pd) (reach : ∀ b, 1 ≤ b → b ≤ n → Lds F 0 b) : ∃ hl, TreeI F pd hl ∧ ∀ b, 1 ≤ b → b ≤ n → inK hl b := by
  have go : ∀ m hl, TreeI F pd hl → n - hl.length = m → ∃ hl, TreeI F pd hl ∧ ∀ b, 1 ≤ b → b ≤ n → inK hl b := fun m => by
    induction m with
    | zero =>
      intro hl T hm
      by_cases a : ∀ b, 1 ≤ b → b ≤ n → inK hl b
      · exact ⟨hl, T, a⟩
      · exfalso
        refine a fun b h1 h2 => Classical.byContradiction fun nb => ?_
        have nd : (b :: hl.map Prod.fst).Nodup := List.nodup_cons.mpr ⟨fun h => by
          obtain ⟨t, ht, e⟩ := List.mem_map.mp h
          exact nb (.inr ⟨t.2, by rw [← e]; exact ht⟩), T.grow.keys⟩
        have sub : (b :: hl.map Prod.fst).length ≤ (List.range' 1 n).length := nd.length_le_of_subset fun x hx => by
          rw [List.mem_range'_1]
          rcases List.mem_cons.mp hx with rfl | hx
          · omega
          · obtain ⟨t, ht, rfl⟩ := List.mem_map.mp hx
            have := I.ok t.1 t.2 (T.grow.mem t ht)
            omega
        rw [List.length_cons, List.length_map, List.length_range'] at sub
        omega
    | succ m ih =>
      intro hl T hm
      by_cases a : ∀ b, 1 ≤ b → b ≤ n → inK hl b
      · exact ⟨hl, T, a⟩
      · obtain ⟨b, hb⟩ := Classical.not_forall.mp a
        obtain ⟨h1, hb⟩ := Classical.not_imp.mp hb
        obtain ⟨h2, nb⟩ := Classical.not_imp.mp hb
        obtain ⟨r, q, e1, e2, e3⟩ := lds_some (reach b h1 h2) nb
        cases hf : F.find? (fun t => decide (inK hl t.2 ∧ ¬ inK hl t.1)) with
        | none =>
          have := List.find?_eq_none.mp hf (r, q) e1
          rw [decide_eq_true_eq] at this
          exact (this ⟨e2, e3⟩).elim
        | some t =>
          obtain ⟨ht, A, B, eF, hA⟩ := List.find?_eq_some_iff_append.mp hf
          rw [decide_eq_true_eq] at ht
          refine ih (hl ++ [t]) (TreeI.step (b := t.1) (p := t.2) I T eF (fun r q h k => ?_) ht.1 ht.2) (by rw [List.length_append]; show n - (_ + 1) = m; omega)
          have := hA (r, q) h
          rw [Bool.not_eq_true', decide_eq_false_iff_not] at this
          exact Classical.byContradiction fun z => this ⟨k, z⟩
  exact go _ [] (tree_start I.lots) rfl
end Fv
set_option maxRecDepth 100000
set_option maxHeartbeats 1000000
/-! bits of masks -/
namespace Fv
open PySem PySem.Spec L2 PyProof.Rows
theorem bit_test (v p : Nat) : Builtin.bitAnd ((v : Int) / 2 ^ p) 1 = if v.testBit p = true then 1 else 0 := by
  have h := _root_.Bits.bitAnd_mask (x := (v : Int) / 2 ^ p) 1 (Int.ediv_nonneg (Int.natCast_nonneg _) (Int.pow_nonneg (by decide)))
  rw [show ((2 : Int) ^ 1 - 1) = 1 from rfl] at h
  rw [h, Nat.testBit_eq_decide_div_mod_eq]
  have e : ((v : Int) / 2 ^ p) = ((v / 2 ^ p : Nat) : Int) := by
    rw [Int.natCast_ediv, Int.natCast_pow]
    rfl
  rw [e]
  by_cases c : v / 2 ^ p % 2 = 1
  · rw [if_pos (by rw [decide_eq_true_eq]; exact c)]
    omega
  · rw [if_neg (by rw [decide_eq_true_eq]; exact c)]
    omega
theorem bit_test0 (v : Nat) : Builtin.bitAnd (v : Int) 1 = if v.testBit 0 = true then 1 else 0 := by
  have h := bit_test v 0
  rw [show ((v : Int) / 2 ^ 0) = v from by rw [Int.pow_zero, Int.ediv_one]] at h
  exact h
theorem bit_or (v w : Nat) : Builtin.bitOr (v : Int) (w : Int) = ((v ||| w : Nat) : Int) := by
  have := _root_.Bits.bitOr_pp (x := (v : Int)) (y := (w : Int)) (Int.natCast_nonneg _) (Int.natCast_nonneg _)
  rwa [Int.toNat_natCast, Int.toNat_natCast] at this
theorem bit_shl (p : Nat) : (1 : Int) * 2 ^ (Int.toNat (p : Int)) = ((2 ^ p : Nat) : Int) := by
  rw [Int.one_mul, Int.toNat_natCast, Int.natCast_pow]
  rfl
def tTru (K : PySem.W.Frag) (ta : TE) : TT := fun σ H Q => ta σ H fun x H' => ∃ k, TruV K x H' k ∧ Q k H'
theorem x_tru {K : PySem.W.Frag} {ta : TE} {σ : L2.St} {H : Hp} {Q : Bool → Hp → Prop} (h : ta σ H fun x H' => ∃ k, TruV K x H' k ∧ Q k H') : tTru K ta σ H Q := h
theorem pt_truthK {X : Cx} {K : PySem.W.Frag} {a : Expr} {ta : TE} (e : X.K = K) (ha : PE X a ta) (he : ∀ whole, isTrue a X.env whole = (do let v ← whole; standAt a.pos; holding [v] (truthy v))) :
    PT X a (tTru K ta) := by
  subst e
  exact pt_truth ha he
theorem x_meth {C : Addr} {m : Str} {sp : Sp} {dvs : List V} {E : XK} {ta : TE} {t : TA} {σ : L2.St} {H : Hp} {Q : VK} (h : ta σ H fun x H1 => ∃ a dx fs, x = .ref a ∧ H1 a = some (.ins C dx fs) ∧ fs.lookup m = none ∧ t σ H1 fun vs H2 => sp (x :: (vs ++ dvs)) H2 Q E) : tMeth C m sp dvs E ta t σ H Q := h
theorem x_augS {to ti te : TE} {tget : V → V → Hp → VK → Prop} {tip : TIp} {tset : TSet} {D : Ends} {σ : L2.St} {H : Hp} (h : to σ H fun o H1 => ti σ H1 fun i H2 => tget o i H2 fun x H3 => te σ H3 fun y H4 => tip x y H4 fun z H5 => tset o i z H5 fun H6 => D.nx σ H6) : tAugS to ti te tget tip tset D σ H := h
theorem natsV {l : List Nat} {i : Nat} {v : V} (hv : (nats l)[i]? = some v) : ∃ a : Nat, l[i]? = some a ∧ v = .int a := by
  unfold nats at hv
  rw [List.getElem?_map] at hv
  cases e : l[i]? with
  | none =>
    rw [e] at hv
    cases hv
  | some c =>
    rw [e] at hv
    exact ⟨c, rfl, (Option.some.inj hv).symm⟩
/-- x not in d, d a dict -/
def rNinDk : R2 := fun x y H Q => ∃ a o, y = .ref a ∧ DGet H a x o ∧ Q (.bl (!o.isSome)) H
theorem op_notInDK {X : Cx} (hu : X.A.units + 1 < cLine) : OpR X (compareOp .NotIn) rNinDk := by
  intro pins s σ H x y v u Q I rx ry h
  obtain ⟨a, o, rfl, g, q⟩ := h
  cases ry
  exact d_notIn hu I g rx fun s3 I3 => ⟨.bl (!o.isSome), H, I3, rfl, q⟩
theorem x_ninD {H : Hp} {Q : VK} {a : Addr} {x : V} {o : Option V} (g : DGet H a x o) (q : Q (.bl (!o.isSome)) H) : rNinDk x (.ref a) H Q := ⟨a, o, rfl, g, q⟩
end Fv
set_option maxRecDepth 100000
set_option maxHeartbeats 1000000
/-! l[i] op= e of a list -/
namespace Fv
open PySem PySem.Spec PyProof.Rows L2
theorem get_listK {X : Cx} {K : PySem.W.Frag} (eK : X.K = K) : PGet X (rIxL K) := by
  subst eK
  rintro pn z sg G ob ix vo vi R J q1 q2 ⟨ad, cells, kk, val, rfl, rfl, sq, here, go⟩
  cases q1
  obtain ⟨tk, rfl⟩ := q2
  obtain ⟨cs, vals, isl, _⟩ := J.list sq
  obtain ⟨jj, w1, w2, _, w4, w5⟩ := atI_get here
  obtain ⟨got, g1, g2⟩ := vals.get w2
  have ln := vals.length
  have top := line63
  have ends : EP X pn sg R got z := ⟨val, G, J, g2, go⟩
  rcases Int.lt_or_le kk 0 with neg | pos
  · refine wpAny_getItem_list_neg isl.isList neg (by rw [List.size_toArray]; omega) (by omega) ?_ ends
    rw [seqIndex_neg neg w4] at w1
    have at_ : (kk + (cs.toArray.size : Int)).toNat = jj := by rw [List.size_toArray, ← ln]; injection w1
    rw [at_]
    simpa using g1
  · refine wpAny_getItem_list isl.isList pos (by omega) ?_ ends
    rw [seqIndex_of pos w5] at w1
    have at_ : kk.toNat = jj := by injection w1
    rw [at_]
    simpa using g1
end Fv
set_option maxHeartbeats 1000000
namespace Fv
def newT (cl : Nat → Nat → Nat) (b : Nat) (ps : List Nat) : List Ti := (ps.filter fun p => decide (p ≠ b ∧ cl b p = 0)).map fun p => (b, p)
theorem newT_snoc {cl : Nat → Nat → Nat} {b p : Nat} {ps : List Nat} : newT cl b (ps ++ [p]) = newT cl b ps ++ (if p ≠ b ∧ cl b p = 0 then [(b, p)] else []) := by
  unfold newT
  rw [List.filter_append, List.map_append]
  congr 1
  by_cases c : p ≠ b ∧ cl b p = 0
  · rw [if_pos c, List.filter_cons_of_pos (by rw [decide_eq_true_eq]; exact c)]
    rfl
  · rw [if_neg c, List.filter_cons_of_neg (by rw [decide_eq_true_eq]; exact c)]
    rfl
theorem newT_mem {cl : Nat → Nat → Nat} {b q p : Nat} {ps : List Nat} : (q, p) ∈ newT cl b ps ↔ q = b ∧ p ∈ ps ∧ p ≠ b ∧ cl b p = 0 := by
  unfold newT
  simp only [List.mem_map, List.mem_filter, decide_eq_true_eq, Prod.mk.injEq]
  constructor
  · rintro ⟨a, h, rfl, rfl⟩
    exact ⟨rfl, h⟩
  · rintro ⟨rfl, h⟩
    exact ⟨p, h, rfl, rfl⟩
theorem newT_nd {cl : Nat → Nat → Nat} {b : Nat} {ps : List Nat} (h : ps.Nodup) : (newT cl b ps).Nodup := by
  unfold newT
  rw [List.nodup_iff_pairwise_ne, List.pairwise_map]
  exact (List.nodup_iff_pairwise_ne.mp (h.filter _)).imp fun h e => h (Prod.mk.inj e).2
theorem newT_len {cl : Nat → Nat → Nat} {b : Nat} {ps : List Nat} : (newT cl b ps).length ≤ ps.length := by
  unfold newT
  rw [List.length_map]
  exact List.length_filter_le _ _
def newAll (cl : Nat → Nat → Nat) (ps L : List Nat) : List Ti := L.flatMap fun b => newT cl b ps
theorem newAll_snoc {cl : Nat → Nat → Nat} {ps L : List Nat} {b : Nat} : newAll cl ps (L ++ [b]) = newAll cl ps L ++ newT cl b ps := by
  unfold newAll
  rw [List.flatMap_append]
  simp
theorem newAll_mem {cl : Nat → Nat → Nat} {ps L : List Nat} {b p : Nat} : (b, p) ∈ newAll cl ps L ↔ b ∈ L ∧ p ∈ ps ∧ p ≠ b ∧ cl b p = 0 := by
  unfold newAll
  rw [List.mem_flatMap]
  constructor
  · rintro ⟨a, h, h2⟩
    obtain ⟨rfl, h3⟩ := newT_mem.mp h2
    exact ⟨h, h3⟩
  · rintro ⟨h, h2⟩
    exact ⟨b, h, newT_mem.mpr ⟨rfl, h2⟩⟩
theorem newAll_nd {cl : Nat → Nat → Nat} {ps : List Nat} (h : ps.Nodup) : ∀ {L : List Nat}, L.Nodup → (newAll cl ps L).Nodup
  | [], _ => List.nodup_nil
  | b :: L, nd => by
    rw [List.nodup_cons] at nd
    show (newT cl b ps ++ newAll cl ps L).Nodup
    refine List.nodup_append.mpr ⟨newT_nd h, newAll_nd h nd.2, fun t ht u hu e => ?_⟩
    subst e
    obtain ⟨e1, _⟩ := newT_mem.mp (show (t.1, t.2) ∈ _ from ht)
    have := (newAll_mem.mp (show (t.1, t.2) ∈ _ from hu)).1
    rw [e1] at this
    exact nd.1 this
theorem newAll_len {cl : Nat → Nat → Nat} {ps : List Nat} : ∀ {L : List Nat}, (newAll cl ps L).length ≤ L.length * ps.length
  | [] => by show 0 ≤ _; omega
  | b :: L => by
    show (newT cl b ps ++ newAll cl ps L).length ≤ _
    rw [List.length_append, List.length_cons, Nat.add_mul, Nat.one_mul]
    have := newT_len (cl := cl) (b := b) (ps := ps)
    have := newAll_len (cl := cl) (ps := ps) (L := L)
    omega
theorem prs_len {n : Nat} : (prs n).length ≤ n * (n + 1) := by
  unfold prs
  have : ∀ l : List Nat, (l.flatMap fun b => (List.range (n + 1)).map fun p => (b, p)).length = l.length * (n + 1) := fun l => by
    induction l with
    | nil => simp
    | cons b l ih =>
      rw [List.flatMap_cons, List.length_append, ih, List.length_map, List.length_range, List.length_cons, Nat.add_mul, Nat.one_mul]
      omega
  rw [this, List.length_range']
  exact Nat.le_refl _
theorem PayI.len {n : Nat} {c cl : Nat → Nat → Nat} {F : List Ti} {pd : List Pay} (I : PayI n c cl F pd) (n40 : n ≤ 40) : F.length ≤ 1640 := by
  have h := I.nd.length_le_of_subset (l₂ := prs n) fun t ht => by
    have o := I.ok t.1 t.2 ht
    exact prs_mem.mpr ⟨⟨o.1, o.2.1⟩, o.2.2.1⟩
  have := prs_len (n := n)
  have : n * (n + 1) ≤ 40 * 41 := Nat.mul_le_mul n40 (by omega)
  omega
theorem nz_len {n : Nat} {cl : Nat → Nat → Nat} (n40 : n ≤ 40) : nz n cl ≤ 1640 := by
  unfold nz
  have := List.length_filter_le (fun t : Ti => decide (t.2 ≠ t.1 ∧ cl t.1 t.2 ≠ 0)) (prs n)
  have := prs_len (n := n)
  have : n * (n + 1) ≤ 40 * 41 := Nat.mul_le_mul n40 (by omega)
  omega
end Fv
set_option maxRecDepth 100000
set_option maxHeartbeats 1000000
namespace Fv
open PySem PySem.Spec PyProof.Rows L2
theorem cr_minLK {X : Cx} {K : PySem.W.Frag} (e : X.K = K) (hc : X.calm = true) : CallR X (.builtin "min") (rMin K) := by
  subst e
  exact cr_min hc
/-- rows of numbers, each a tuple -/
def RowV (H : Hp) (v : V) (r : List Nat) : Prop := ∃ t, v = .ref t ∧ H t = some (.tup (nats r))
def RowsV (H : Hp) : List V → List (List Nat) → Prop
  | [], [] => True
  | v :: vs, x :: xs => RowV H v x ∧ RowsV H vs xs
  | [], _ :: _ => False
  | _ :: _, [] => False
theorem RowsV.imp {H H' : Hp} (f : ∀ v x, RowV H v x → RowV H' v x) : ∀ {vs : List V} {xs : List (List Nat)}, RowsV H vs xs → RowsV H' vs xs
  | [], [], _ => True.intro
  | _ :: _, _ :: _, h => ⟨f _ _ h.1, RowsV.imp f h.2⟩
  | [], _ :: _, h => h.elim
  | _ :: _, [], h => h.elim
theorem RowsV.same {H H' : Hp} {vs : List V} {xs : List (List Nat)} (s : Same H H') (h : RowsV H vs xs) : RowsV H' vs xs := h.imp fun _ _ ⟨t, e, k⟩ => ⟨t, e, s _ _ k⟩
theorem RowsV.mut {H : Hp} {vs : List V} {xs : List (List Nat)} {q : Addr} {ys : List V} {o : HO} (hq : H q = some (.lst ys)) (h : RowsV H vs xs) : RowsV (upd H q o) vs xs := h.imp fun _ _ ⟨t, e, k⟩ => ⟨t, e, keepM (fun z => by
  rw [z, hq] at k
  cases k) k⟩
theorem RowsV.app {H : Hp} : ∀ {vs ws : List V} {xs ys : List (List Nat)}, RowsV H vs xs → RowsV H ws ys → RowsV H (vs ++ ws) (xs ++ ys)
  | [], _, [], _, _, h => h
  | _ :: _, _, _ :: _, _, h, k => ⟨h.1, RowsV.app h.2 k⟩
  | [], _, _ :: _, _, h, _ => h.elim
  | _ :: _, _, [], _, h, _ => h.elim
theorem RowsV.len {H : Hp} : ∀ {vs : List V} {xs : List (List Nat)}, RowsV H vs xs → vs.length = xs.length
  | [], [], _ => rfl
  | _ :: _, _ :: _, h => congrArg (· + 1) (RowsV.len h.2)
  | [], _ :: _, h => h.elim
  | _ :: _, [], h => h.elim
theorem RowsV.at {H : Hp} : ∀ {vs : List V} {xs : List (List Nat)} {i : Nat} {v : V}, RowsV H vs xs → vs[i]? = some v → ∃ x, xs[i]? = some x ∧ RowV H v x
  | [], [], _, _, _, h => by cases h
  | _ :: _, x :: _, 0, _, h, e => by
    have e' := Option.some.inj e
    subst e'
    exact ⟨x, rfl, h.1⟩
  | _ :: _, _ :: _, i + 1, _, h, e => RowsV.at (i := i) h.2 e
  | [], _ :: _, _, _, h, _ => h.elim
  | _ :: _, [], _, _, h, _ => h.elim
theorem RowsV.mem {H : Hp} {vs : List V} {xs : List (List Nat)} (h : RowsV H vs xs) {v : V} (hv : v ∈ vs) : ∃ x, x ∈ xs ∧ RowV H v x := by
  obtain ⟨i, hi, e⟩ := List.getElem_of_mem hv
  obtain ⟨x, e2, hx⟩ := h.at (i := i) (v := v) (by rw [List.getElem?_eq_getElem hi, e])
  exact ⟨x, List.mem_of_getElem? e2, hx⟩
end Fv
set_option maxRecDepth 100000
set_option maxHeartbeats 2000000
/-! a list is walked while an exception is handled; a comprehension over it there -/
namespace Hc
open PySem PySem.Spec PyProof.Rows HotX
section
variable {prog : Program} {w : World} {A : Around} {E : Value → Shared → Prop} {s : Shared}
theorem list_end_hot {it l x1 : Addr} {i : Nat} {items : Array Value} {Q : Option Value → Shared → Prop} (hot : HotAt A x1 s.heap) (hne : x1 ≠ it) (hit : s.heap.IsListIter it l i) (hl : s.heap.IsList l items) (hx : items[i]? = none)
    (hQ : ∀ h', (∀ b o, b ≠ it → s.heap.get? b = some o → h'.get? b = some o) → Q none { s with heap := h' }) : wpAny (model prog w) A (pyNext (.ref it)) Q E s := by
  obtain ⟨hh, o1, vs1, h1, d1, c1⟩ := hot
  obtain ⟨o, ho, hc, hd⟩ := id hit
  obtain ⟨ol, hol, _, nl, hdl⟩ := hl
  unfold pyNext
  refine wpAny_bind (wpAny_attempt (wpAny_callSpecial?_slot (name := Str.ofString "__next__") hit.typeIs slot_listiter_next (wpAny_call_entry slot_listiter_next hit.typeIs entry_listiter_next ?_ (args_listiter_next _))))
  show wpAny _ _ (field (.ref it) 0 >>= _) _ _ s
  refine wpAny_bind (wpAny_field ho hd (x := .ref l) rfl ?_)
  show wpAny _ _ (if (Value.ref l == Value.none) = true then _ else _) _ _ s
  rw [if_neg (show ¬ ((Value.ref l == Value.none) = true) from Bool.false_ne_true)]
  show wpAny _ _ (field (.ref it) 1 >>= _) _ _ s
  refine wpAny_bind (wpAny_field ho hd (x := .int i 0) rfl ?_)
  show wpAny _ _ (seqItems? (.ref l) >>= _) _ _ s
  refine wpAny_bind (wpAny_seqItems hol hdl ?_)
  simp only [Int.toNat_natCast, hx]
  refine wpAny_bind (wpAny_rule (wpAny_bind (wpAny_setField ho hd (by simp) ?_)))
  show wpAny _ _ (newExc (.type "StopIteration") [] >>= _) _ _ _
  refine wpAny_bind ?_
  simp only [newExc, newTuple]
  refine wpAny_bind (wpAny_newObj_type ?_ (by size_fits))
  refine wpAny_bind (m := firstArgMember _ _) (wpAny_of_eq (a := Value.none) (by first | rfl | (simp only [firstArgMember]; rfl)) ?_)
  refine wpAny_newObj_type ?_ (by size_fits)
  have h2 : (s.heap.update it (Obj.mapFields fun x => x.setIfInBounds 0 Value.none)).get? x1 = some o1 := (Heap.get?_update_other _ _ (Ne.symm hne)).trans h1
  refine raiseNew_hot ⟨hh, o1, vs1, Heap.get?_push_of_some _ (Heap.get?_push_of_some _ h2), d1, c1⟩ (Nat.ne_of_lt (Heap.lt_size (Heap.get?_push_of_some _ h2))) (Heap.get?_push_size _ rfl) rfl (by first | (simp; done) | (simp; omega) | (simp only [Array.size_append]; simp; omega)) ?_
  refine wpAny_bind (wpAny_isInstance (T := "StopIteration") (b := true) ⟨_, Heap.get?_update_self _ (Heap.get?_push_size _ rfl) rfl, rfl⟩ isSubtype_stop ?_)
  refine wpAny_pure (hQ _ fun b o e1 e2 => ?_)
  have h3 : (s.heap.update it (Obj.mapFields fun x => x.setIfInBounds 0 Value.none)).get? b = some o := (Heap.get?_update_other _ _ (Ne.symm e1)).trans e2
  rw [Heap.get?_update_other _ _ (Nat.ne_of_gt (Heap.lt_size (Heap.get?_push_of_some _ h3)))]
  exact Heap.get?_push_of_some _ (Heap.get?_push_of_some _ h3)
end
end Hc
namespace Fv
open PySem PySem.Spec PyProof.Rows L2 L2H
theorem turn_listH {P : Program} {w : World} {K : PySem.W.Frag} {tg : Expr} (a it : Addr) : TurnH P w K tg (Itl K a) [it] it (fun i h => h.IsListIter it a i) where
  mem := List.mem_singleton.mpr rfl
  obj := fun i h st b hb => by
    obtain rfl : b = it := List.mem_singleton.mp hb
    obtain ⟨o, e, c, d⟩ := st
    exact ⟨o, e, fun v z => by rw [d] at z; cases z⟩
  keep := fun i h h' st k => st.at fun o e => k it (List.mem_singleton.mpr rfl) o e
  item := by
    intro X hP hw hK hc i pins s σ H E I hf st hg
    subst hP hw hK
    obtain ⟨xs, x, hq, hx⟩ := hg
    obtain ⟨its, rv, p, hz⟩ := I.list hq
    obtain ⟨u, hu, ru⟩ := rv.get hx
    obtain ⟨f0, f1, f2, f3, f4, f5⟩ := hf it (List.mem_singleton.mpr rfl)
    refine wpAny_pyNext_list_item st p.isList (x := u) (by simpa using hu) fun h' st' sb => ?_
    have I1 : Inv X pins σ H { s with heap := h' } := I.turned (t' := s.toks) (fun b o hb e => (sb.2 b hb).trans e) f0 f1 f3 f4 f5
    obtain ⟨o, e, c, d⟩ := id st'
    exact ⟨u, rfl, go_of (s := { s with heap := h' }) e c d (by decide) ⟨x, H, I1, ru, ⟨rfl, fun ys hy => by rw [I.list_inj hy hq]; exact hx⟩, st', fun b hb => (hf b hb).1⟩⟩
  done := by
    intro X hP hw hK hc i pins s σ H E I hf st hg
    subst hP hw hK
    obtain ⟨xs, hq, hx⟩ := hg
    obtain ⟨its, rv, p, hz⟩ := I.list hq
    obtain ⟨f0, f1, f2, f3, f4, f5⟩ := hf it (List.mem_singleton.mpr rfl)
    obtain ⟨q, ⟨hh, v1, e1, c1⟩, hp⟩ := hc
    have pq := I.pin q (List.mem_append_left _ hp)
    have ne := f5 q (List.mem_append_left _ hp)
    have hl := rv.length
    exact Hc.list_end_hot ⟨hh, q.2, v1, pq.1, e1, c1⟩ ne st p.isList (by simp; omega) fun h' eb => ⟨rfl, I.turned (t' := s.toks) eb f0 f1 f3 f4 f5⟩
  self := fun _ _ _ _ _ st h => wpAny_pyIter_listiter st h
theorem pi_listH {X : Cx} {tg l : Expr} {tl : TE} (hl : PE X l tl) : PIH X tg l (iList X.K tl) := by
  refine ⟨fun pins s σ H R I h => ?_⟩
  refine thn (hl.run pins s σ H _ I h) fun v s1 ⟨x, H1, I1, r1, a, e, ⟨xs, hq⟩, q⟩ => ?_
  subst e
  cases r1
  obtain ⟨its, rv, p, hz⟩ := I1.list hq
  refine wpAny_pyIter_list p.isList ?_
  refine ⟨s1.heap.objs.size, [s1.heap.objs.size], _, _, H1, rfl, I1.kept (t' := s1.toks) fun b o e => Heap.get?_push_of_some _ e, turn_listH a _, ⟨_, Heap.get?_push_size _ rfl, rfl, rfl⟩, fun b hb => ?_, q⟩
  obtain rfl : b = s1.heap.objs.size := List.mem_singleton.mp hb
  exact I1.fpOk (Nat.le_refl _) (I1.hok.fresh (Nat.le_refl _))
/-! the comprehension: its block bears the exception that is handled -/
abbrev blkH (X : Cx) (s : Shared) (H : Hp) (scope : Scope) (cenv : Env) (fp : List Addr) (p : Addr × Obj) : Cx := { X.blk s H scope cenv fp with pn := [p] }
theorem bear {B : Cx} {σ : L2.St} {H : Hp} {s : Shared} {p : Addr × Obj} (I : Inv B [] σ H s) (h : s.heap.get? p.1 = some p.2 ∧ H p.1 = none ∧ p.1 ≠ B.env.locals ∧ p.1 ∉ B.fs ∧ ∀ v, p.2.data ≠ .cell v) : Inv { B with pn := [p] } [] σ H s where
  ok := ⟨I.ok.mod, I.ok.kind, I.ok.glob, I.ok.blt, I.ok.above, I.ok.inj, I.ok.has, I.ok.cab, I.ok.hd, I.ok.frames, I.ok.stk, I.ok.exf, I.ok.bs, I.ok.bsz, I.ok.noex, I.ok.exfs, I.ok.funs, I.ok.frf⟩
  os := I.os
  bare := I.bare
  base := I.base
  loc := I.loc
  cell := I.cell
  free := I.free
  freeC := I.freeC
  pin := fun q hq => by
    obtain rfl : q = p := by simpa using hq
    exact h
  hok := I.hok
  len := I.len
/-- the turns of the block's loop -/
theorem turnsH {X : Cx} {B : Cx} {elt tg iter : Expr} {ifs : List Expr} {scope : Scope} {pos : Pos} {g : TG} {tt : TT} {te : TE} {vs : List Nat} {σ : L2.St} {fp : List Addr} {it D : Addr} {tn : Nat → Heap → Prop} {J : It} {W : Nat → Nat → Hp → Prop} {Fin : Hp → Prop} {R : Result → Shared → Prop}
    (hx : B.xe = fun _ _ => False) (hex : B.ex = fp) (hot : HotC B) (T : TurnH B.prog B.w B.K tg J fp it tn) (pg : PG B tg g) (pt : PTs B ifs tt) (pe : PE B elt te)
    (hpn : ∀ q ∈ B.pn, ∀ b ∈ fp, q.1 ≠ b)
    (turn : ∀ i m H, W i m H → (J.stop i H ∧ Fin H) ∨ (J.go i H ∧ ∃ Nx : Hp → Prop, (∀ H', Nx H' → ∃ m', m' < m ∧ W (i + 1) m' H') ∧ ∀ x H', J.yld i H x H' → g x (wipe σ vs) H' fun σ2 H2 => wipe σ2 vs = wipe σ vs ∧ tt σ2 H2 fun b H3 => if b = true then te σ2 H3 fun y H4 => ∃ acc, H4 D = some (.lst acc) ∧ acc.length < sizeLine ∧ Nx (upd H4 D (.lst (acc ++ [y]))) else Nx H3))
    (fin : ∀ s' H', Inv B [] (wipe σ vs) H' s' → Fin H' → R (.ok .next) s')
    {m0 : Nat} {s0 : Shared} {H0 : Hp} (I0 : Inv B [] (wipe σ vs) H0 s0) (t0 : tn 0 s0.heap) (n0 : ∀ b ∈ fp, H0 b = none) (w0 : W 0 m0 H0) :
    codeAny (model B.prog B.w) B.A (.compLoop (.ListComp elt [⟨tg, iter, ifs, 0⟩] scope pos) 0 (.ref it) (.ref D) B.env) R s0 := by
  subst hex
  have fok : ∀ {σ' : L2.St} {H' : Hp} {s' : Shared}, Inv B [] σ' H' s' → (∀ b ∈ B.ex, H' b = none) → ∀ b ∈ B.ex, FpOk B [] H' b := fun I' hn b hb =>
    ⟨hn b hb, (I'.ok.exf b hb).1, I'.ok.exfs b hb, .inl hb, fun x c e => (I'.ok.exf b hb).2 x c e, fun q hq => hpn q (by simpa using hq) b hb⟩
  refine compLoop_any (fun m s' => ∃ i H', Inv B [] (wipe σ vs) H' s' ∧ tn i s'.heap ∧ (∀ b ∈ B.ex, H' b = none) ∧ W i m H') ?_ m0 ⟨0, H0, I0, t0, n0, w0⟩
  rintro m s1 ⟨i, H1, I1, t1, n1, w1⟩
  have key : ∀ {α : Type} {t : Sem α} {Q1 Q2 : α → Shared → Prop} {E2 : Value → Shared → Prop} {s : Shared}, wpAny (model B.prog B.w) B.A t Q1 B.xe s → (∀ a s', Q1 a s' → Q2 a s') → wpAny (model B.prog B.w) B.A t Q2 E2 s := fun h q => by
    rw [hx] at h
    exact thnF h q
  rcases turn i m H1 w1 with ⟨stop, f⟩ | ⟨go, Nx, less, step⟩
  · refine thnF (T.done B rfl rfl rfl hot i [] s1 _ H1 (fun _ _ => False) I1 (fok I1 n1) t1 stop) fun r s2 ⟨e, I2⟩ => ?_
    subst e
    exact fin s2 H1 I2 f
  · refine thnF (T.item B rfl rfl rfl hot i [] s1 _ H1 (fun _ _ => False) I1 (fok I1 n1) t1 go) fun r s2 ⟨u, e, h2⟩ => ?_
    subst e
    refine thnF h2 fun _ s3 ⟨x, H3, I3, r3, y3, t3, n3⟩ => ?_
    have I3' := I3.pinned (fok I3 n3) (T.obj _ _ t3)
    have close : ∀ {s' : Shared} {σ' : L2.St} {H' : Hp}, wipe σ' vs = wipe σ vs → Inv B ([] ++ pinsAt B.ex s3.heap) σ' H' s' → Nx H' → ∃ m', m' < m ∧ ∃ i H', Inv B [] (wipe σ vs) H' s' ∧ tn i s'.heap ∧ (∀ b ∈ B.ex, H' b = none) ∧ W i m' H' := fun {s' σ' H'} hw I' nx => by
      obtain ⟨m', lt, w'⟩ := less H' nx
      have held : ∀ b ∈ B.ex, ∀ o, s3.heap.get? b = some o → s'.heap.get? b = some o ∧ H' b = none := fun b hb o e => by
        have z := I'.pin (b, o) (List.mem_append_right _ (List.mem_append_right _ (mem_pinsAt hb e)))
        exact ⟨z.1, z.2.1⟩
      refine ⟨m', lt, i + 1, H', (I'.unpinned (pins := [])).weak (by rw [← hw, wipe_length]) (fun j v e => ?_), T.keep _ _ _ t3 fun b hb o e => (held b hb o e).1, fun b hb => ?_, w'⟩
      · rw [← hw] at e
        exact (wipe_some e).1
      · obtain ⟨o, e, _⟩ := T.obj _ _ t3 b hb
        exact (held b hb o e).2
    refine key (pg.run _ s3 _ H3 x u _ I3' r3 (step x H3 y3)) fun _ s4 ⟨σ4, H4, I4, hw, q4⟩ => ?_
    refine key (pt.run _ s4 σ4 H4 _ I4 q4) fun b s5 ⟨H5, I5, q5⟩ => ?_
    cases b with
    | false =>
      simp only [Bool.false_eq_true, if_false] at q5 ⊢
      exact close hw I5 q5
    | true =>
      simp only [if_true] at q5 ⊢
      refine key (pe.run _ s5 σ4 H5 _ I5 q5) fun z s6 ⟨yv, H6, I6, r6, acc, hD, hz, nx⟩ => ?_
      exact app_ok (X := B) I6 hD hz r6 fun s7 I7 => close hw I7 nx
/-- a list comprehension while an exception is handled -/
theorem pe_lcH {X : Cx} {elt tg iter : Expr} {ifs : List Expr} {scope : Scope} {own : List (Str × Nat)} {pos : Pos} {wi : TI} {g : TG} {tt : TT} {te : TE} (hc : HotC X) (hN : X.N.Nodup) (hi : PIH X tg iter wi) (ok : BlkOk X.N X.env.scope scope own)
    (hg : ∀ (s : Shared) (H : Hp) (C : Addr) (cl : List (Str × Addr)) (fp : List Addr) (p : Addr × Obj), PG (blkH X s H scope (compEnvC scope cl C X.env) fp p) tg g) (ht : ∀ (s : Shared) (H : Hp) (C : Addr) (cl : List (Str × Addr)) (fp : List Addr) (p : Addr × Obj), PTs (blkH X s H scope (compEnvC scope cl C X.env) fp p) ifs tt)
    (he : ∀ (s : Shared) (H : Hp) (C : Addr) (cl : List (Str × Addr)) (fp : List Addr) (p : Addr × Obj), PE (blkH X s H scope (compEnvC scope cl C X.env) fp p) elt te) (hs : ∀ x, foldedSetIterable iter X.env x = pure x := by intro _; rfl) :
    PE X (.ListComp elt [⟨tg, iter, ifs, 0⟩] scope pos) (tLc wi g tt te (own.map (·.2))) := by
  refine ⟨fun pins s σ H Q I h => ?_⟩
  obtain ⟨p, hot1, hp⟩ := hc
  rw [eval_ListComp]
  have free : ∀ y ∈ scope.names, y.2 = .free → ∃ c, X.env.cells.lookup y.1 = some c := fun y hy e => by
    rcases ok.free y hy e with k | k
    · exact I.ok.has _ (.inl k)
    · exact I.ok.has _ (.inr k)
  refine wpAny_comprehension_free rfl hs (closure_ok free) ok.kind (fun y hy e => by rw [ok.uniq y hy, e]) (thn (hi.run pins s σ H _ I h) fun xv s1 hx => thn hx fun itv s2 h2 => ?_)
  obtain ⟨it, fp, tn, J, H2, e, I2, T, t2, f2, q⟩ := h2
  subst e
  refine wpAny_newObj_type (newEnv_comp ?_) (by show 0 ≤ sizeLine; decide)
  obtain ⟨W, ⟨m0, w0⟩, turn⟩ := q s2.heap.objs.size (I2.hok.fresh (Nat.le_refl _))
  have hD : s2.heap.objs.size = s2.heap.objs.size := rfl
  generalize hDd : s2.heap.objs.size = D at w0 turn
  have I3 : Inv X pins σ (upd H2 D (.lst [])) { s2 with heap := s2.heap.push { cls := .type "list", data := .seq ([] : List Value).toArray } } := by
    refine I2.laid (t' := s2.toks) (fun b o e => Heap.get?_push_of_some _ e) (Nat.le_of_eq hDd) ⟨Nat.zero_le _, [], 0, .nil, ?_⟩
    rw [← hDd]
    exact Heap.get?_push_size _ rfl
  have sz : ∀ b ∈ fp, b < s2.heap.objs.size := fun b hb => by
    obtain ⟨o, e, _⟩ := T.obj _ _ t2 b hb
    exact Heap.lt_size e
  have lt3 : ∀ b ∈ fp, b < (s2.heap.push { cls := .type "list", data := .seq ([] : List Value).toArray }).objs.size := fun b hb => by
    rw [Heap.size_push]
    exact Nat.lt_succ_of_lt (sz b hb)
  have f3 : ∀ b ∈ fp, FpOk X pins (upd H2 D (.lst [])) b := fun b hb => by
    refine ⟨?_, (f2 b hb).2⟩
    rw [upd_ne (by rw [← hDd]; exact Nat.ne_of_lt (sz b hb))]
    exact (f2 b hb).1
  have t3 : tn 0 (s2.heap.push { cls := .type "list", data := .seq ([] : List Value).toArray }) := T.keep _ _ _ t2 fun b _ o e => Heap.get?_push_of_some _ e
  generalize hs3 : ({ s2 with heap := s2.heap.push { cls := .type "list", data := .seq ([] : List Value).toArray } } : Shared) = s3 at I3
  have lt3 : ∀ b ∈ fp, b < s3.heap.objs.size := fun b hb => by rw [← hs3]; exact lt3 b hb
  have t3 : tn 0 s3.heap := by rw [← hs3]; exact t3
  have I4 := block_start I3 ok hN fun b hb => ⟨f3 b hb, lt3 b hb⟩
  have kp : ∀ b o, s3.heap.get? b = some o → (pushCells (s3.heap.push { cls := .type "dict", data := .dict #[] }) scope.names).get? b = some o := fun b o e => pushCells_keeps _ _ _ _ (Heap.get?_push_of_some _ e)
  have t4 : tn 0 (pushCells (s3.heap.push { cls := .type "dict", data := .dict #[] }) scope.names) := T.keep _ _ _ t3 fun b _ o e => kp b o e
  generalize hH3 : upd H2 D (.lst []) = H3 at I3 I4 f3 w0
  have pp := I3.pin p (List.mem_append_left _ hp)
  have plt := Heap.lt_size pp.1
  have pg := hg s3 H3 s3.heap.objs.size (cellsFrom (s3.heap.objs.size + 1) scope.names (cloFrom X.env.cells scope.names [])) fp p
  have pt := ht s3 H3 s3.heap.objs.size (cellsFrom (s3.heap.objs.size + 1) scope.names (cloFrom X.env.cells scope.names [])) fp p
  have pe := he s3 H3 s3.heap.objs.size (cellsFrom (s3.heap.objs.size + 1) scope.names (cloFrom X.env.cells scope.names [])) fp p
  have I5 := bear (p := p) I4 ⟨kp _ _ pp.1, pp.2.1, Nat.ne_of_lt plt, fun m => by
    have m : p.1 ∈ frs X.stack := m
    rcases I3.ok.stk with e | ⟨e, e2⟩
    · rw [e] at m
      exact pp.2.2.2.1 m
    · rw [e] at m
      have m : p.1 ∈ List.filterMap (·.frame) (X.env :: X.outer) := m
      rw [List.filterMap_cons, e2] at m
      rcases List.mem_cons.mp m with z | z
      · exact pp.2.2.1 z
      · exact pp.2.2.2.1 z, pp.2.2.2.2⟩
  have loop := turnsH (X := X) (B := blkH X s3 H3 scope (compEnvC scope (cellsFrom (s3.heap.objs.size + 1) scope.names (cloFrom X.env.cells scope.names [])) s3.heap.objs.size X.env) fp p) (elt := elt) (tg := tg) (iter := iter) (ifs := ifs) (scope := scope) (pos := pos) (D := D) (Fin := Q (.ref D)) (R := compPost (model X.prog X.w) X.A X.xe none (fun v s' => ∃ x H', Inv X pins σ H' s' ∧ RelV x v ∧ Q x H') (.ref D) s3.heap.objs.size)
    rfl rfl ⟨p, hot1, List.mem_singleton.mpr rfl⟩ T pg pt pe (fun q hq b hb => by
      obtain rfl : q = p := List.mem_singleton.mp hq
      exact (f3 b hb).2.2.2.2.2 q (List.mem_append_left _ hp)) turn (fun s' H' I' fin => ?_) I5 t4 (fun b hb => (f3 b hb).1) w0
  · subst hs3
    exact codeAny_compStart_list loop (T.self X.A 0 _ _ _ t4 loop)
  · have I7 : Inv X pins σ H' s' := I3.call' (ch := fp) I'.os I'.base I'.hok I'.bare fun b hb => ⟨(f3 b hb).2.2.2.1, (f3 b hb).2.1, (f3 b hb).2.2.2.2.1, (f3 b hb).2.2.2.2.2⟩
    have nC : H' s3.heap.objs.size = none := I'.free
    obtain ⟨m, hn, _⟩ := I'.loc
    obtain ⟨f0, f1, f2, f3', f4, f5⟩ := I3.fpOk (Nat.le_refl _) nC
    exact ⟨m, hn, fun h'' sb => ⟨.ref D, H', I7.turned (t' := s'.toks) (fun b o hb e => (sb.2 b hb).trans e) f0 f1 f3' f4 f5, rfl, fin⟩⟩
end Fv
/-! as many members as items: no item stands twice -/
namespace Fv
open PySem PySem.Spec PyProof.Rows L2
theorem firstMet_all (val : Nat → Int) : ∀ i, (firstMet val i).length = i → ((List.range i).map val).Nodup
  | 0, _ => List.Pairwise.nil
  | i + 1, h => by
    have le := firstMet_length_le val i
    rw [firstMet_succ] at h
    unfold step_dedup at h
    cases c : (firstMet val i).any (· == val i) with
    | true =>
      rw [c] at h
      simp at h
      omega
    | false =>
      rw [c] at h
      simp at h
      have ih := firstMet_all val i h
      rw [firstMet_any] at c
      rw [List.range_succ, List.map_append]
      refine List.nodup_append.mpr ⟨ih, List.pairwise_singleton _ _, fun a ha b hb e => ?_⟩
      rw [List.mem_singleton.mp (show b ∈ [val i] from hb)] at e
      subst e
      have : ((List.range i).map val).any (· == val i) = true := List.any_eq_true.mpr ⟨val i, ha, by simp⟩
      rw [this] at c
      cases c
theorem cntD_all {ns : List Int} : cntD ns = ns.length ↔ ns.Nodup := by
  refine ⟨fun h => ?_, cntD_nodup⟩
  have := firstMet_all (fun i => ns.getD i 0) ns.length h
  have e : (List.range ns.length).map (fun i => ns.getD i 0) = ns := by
    refine List.ext_getElem? fun i => ?_
    rw [List.getElem?_map]
    by_cases c : i < ns.length
    · rw [List.getElem?_range c, List.getElem?_eq_getElem c]
      show some (ns.getD i 0) = _
      rw [List.getD_eq_getElem?_getD, List.getElem?_eq_getElem c]
      rfl
    · rw [List.getElem?_eq_none (by rw [List.length_range]; omega), List.getElem?_eq_none (by omega)]
      rfl
  rw [e] at this
  exact this
end Fv
set_option maxRecDepth 100000
set_option maxHeartbeats 1000000
namespace Fv
open PySem PySem.Spec PySem.SeqAt PyProof.Rows L2
open AutoSeq1 (wpAny_loadPart')
/-! t != u, tuples whose items are equal by their own == -/
section
variable {prog : Program} {w : World} {A : Around} {R : Result → Shared → Prop}
theorem ne_tuples (a b : Addr) (as bs : Array Value) (k k2 : Nat) (da db : Option Addr) (sa sb : Array (Option Value)) (same : as.size = bs.size) (J : Nat → Shared → Prop)
    (step : ∀ m (l1 : m < as.size) (l2 : m < bs.size) z, J m z → wpAny (model prog w) A.in1 (eqBool as[m] bs[m]) (fun r z' => r = true ∧ J (m + 1) z') (fun x z' => R (.error x) z') z)
    (last : ∀ z, J as.size z → R (.ok (.ret (.bool false))) z) {z : Shared} (ea : z.heap.get? a = some { cls := .type "tuple", dict := da, data := .seq as k, slots := sa }) (eb : z.heap.get? b = some { cls := .type "tuple", dict := db, data := .seq bs k2, slots := sb }) (j0 : J 0 z) :
    wpAny (model prog w) A.in1 (Builtin.«tuple.__ne__» ⟨[.ref a, .ref b], []⟩) (GQ.FinOf prog w A R) (fun x z' => R (.error x) z') z := by
  have f2 := AutoSeq1.sub_tuple_tuple
  have zl : (as.toList.zip bs.toList).length = as.size := by simp [same]
  have j0' := j0
  obtain ⟨hp, g, d, tk, os⟩ := z
  wp_walk using wpAny_loadPart' ea, wpAny_loadPart' eb, wpAny_forIn_list _ (fun left st z' => st.1 = none ∧ ∃ m, left = (as.toList.zip bs.toList).drop m ∧ m ≤ as.size ∧ J m z') _
  case turn =>
    rintro ⟨u, v⟩ left st z' ⟨st1, m, hd, hm, hJ⟩
    have lt : m < (as.toList.zip bs.toList).length := Nat.lt_of_not_le fun hle => by
      rw [List.drop_of_length_le hle] at hd
      cases hd
    have m1 : m < as.size := zl ▸ lt
    have m2 : m < bs.size := same ▸ m1
    rw [List.drop_eq_getElem_cons lt] at hd
    obtain ⟨h1, h2⟩ := List.cons.inj hd
    have eu : u = as[m] := by simpa using congrArg Prod.fst h1
    have ev : v = bs[m] := by simpa using congrArg Prod.snd h1
    subst eu ev
    refine wpAny_bind (wpAny_mono (step m m1 m2 z' hJ) (fun r z2 hr => ?_) fun _ _ q => q)
    obtain ⟨r1, hJ2⟩ := hr
    subst r1
    wp_walk
    exact ⟨rfl, m + 1, h2, m1, hJ2⟩
  case fin =>
    rintro ⟨st1, st2⟩ z' ⟨e1, m, hd, hm, hJ⟩
    simp only at e1
    subst e1
    have ge : as.size ≤ m := Nat.le_of_not_lt fun hlt => by
      rw [List.drop_eq_getElem_cons (by rw [zl]; exact hlt)] at hd
      cases hd
    have em : m = as.size := Nat.le_antisymm hm ge
    subst em
    have done := last z' hJ
    wp_walk
    simpa [Builtin.Tuple.tupleCompareSizes, same] using done
  case h => exact ⟨rfl, 0, rfl, Nat.zero_le _, j0'⟩
end
section
variable {X : Cx} {n : Nat} {D : Eqv}
def rNeG (K : PySem.W.Frag) (D : Eqv) : R2 := fun x y H Q => (x = .non ∧ y = .non ∧ Q (.bl false) H) ∨ (DTup K D x y H ∧ ∀ H', Ext H H' → Q (.bl false) H')
theorem op_neG (hD : Mon D) (h : EqG X n D) (hr : Room (n + 1) X.A) : OpR X (compareOp .NotEq) (rNeG X.K D) := by
  intro pins s σ H x y v u Q I rx ry hq
  rcases hq with ⟨rfl, rfl, q⟩ | ⟨d, q⟩
  · exact op_ne pins s σ H _ _ v u Q I rx ry ⟨rfl, q⟩
  · obtain ⟨a, b, xs, ys, rfl, rfl, ha, hb, p⟩ := d
    cases rx
    cases ry
    show wpAny (model X.prog X.w) X.A (richCompare .NotEq (.ref a) (.ref b)) (EP X pins σ Q) X.xe s
    obtain ⟨its, r, e, z⟩ := I.tuple ha
    obtain ⟨its2, r2, e2, z2⟩ := I.tuple hb
    have same : its.toArray.size = its2.toArray.size := by
      rw [List.size_toArray, List.size_toArray, ← r.length, ← r2.length]
      exact p.1
    obtain ⟨⟨c1, d1, t1, s1⟩, o1, k1, m1, n1⟩ := id e
    obtain ⟨⟨c2, d2, t2, s2⟩, o2, k2, m2, n2⟩ := id e2
    simp only at k1 n1 k2 n2
    subst k1 n1 k2 n2
    refine wpAny_richCompare_same_room (op := .NotEq) ⟨_, o1, rfl⟩ ⟨_, o2, rfl⟩ F.slot_tuple_ne (GQ.call_here F.slot_tuple_ne ⟨_, o1, rfl⟩ F.entry_tuple_ne (F.args_tuple_ne_2 _ _) ?_) hr.units0
    refine ne_tuples (R := wants (fun v s' => v ≠ .notImplemented ∧ EP X pins σ Q v s') X.xe) a b its.toArray its2.toArray m1 m2 d1 d2 s1 s2 same (fun _ s' => LoopI X pins σ H s') (fun i h1 h2 s' l => turnG hD h ⟨hr, rfl⟩ p r r2 i h1 h2 s' l) (fun s' l => ⟨(fun x => nomatch x), ?_⟩) o1 o2 ⟨H, I, Ext.rfl'⟩
    obtain ⟨H', I', e'⟩ := l
    exact ⟨.bl false, H', I', rfl, q H' e'⟩
theorem op_neGK {K : PySem.W.Frag} (eK : X.K = K) (hD : Mon D) (h : EqG X n D) (hr : Room (n + 1) X.A) : OpR X (compareOp .NotEq) (rNeG K D) := by
  subst eK
  exact op_neG hD h hr
end
end Fv
set_option maxRecDepth 100000
set_option maxHeartbeats 1000000
/-! sums and cuts of tuples that are known to have no dict; a tuple against the empty one -/
namespace Fv
open PySem PySem.Spec PyProof.Rows L2
open AutoSeq1 (wpAny_loadPart')
section
variable {X : Cx} {K : PySem.W.Frag}
def orR (r r' : R2) : R2 := fun x y H Q => r x y H Q ∨ r' x y H Q
theorem op_or {sem : Value → Value → Sem Value} {r r' : R2} (h : OpR X sem r) (h' : OpR X sem r') : OpR X sem (orR r r') :=
  fun pins s σ H x y v u Q I rx ry o => o.elim (h pins s σ H x y v u Q I rx ry) (h' pins s σ H x y v u Q I rx ry)
def orS (r r' : V → Option Int → Option Int → Hp → VK → Prop) : V → Option Int → Option Int → Hp → VK → Prop := fun x lo hi H Q => r x lo hi H Q ∨ r' x lo hi H Q
theorem sl_or {r r' : V → Option Int → Option Int → Hp → VK → Prop} (h : SlR X r) (h' : SlR X r') : SlR X (orS r r') :=
  fun pins s σ H x v vl vu lo hi sl Q I rx hs pl pu o => o.elim (h pins s σ H x v vl vu lo hi sl Q I rx hs pl pu) (h' pins s σ H x v vl vu lo hi sl Q I rx hs pl pu)
def orC (r r' : List V → Hp → VK → Prop) : List V → Hp → VK → Prop := fun xs H Q => r xs H Q ∨ r' xs H Q
theorem call_or {f : Value} {r r' : List V → Hp → VK → Prop} (h : CallR X f r) (h' : CallR X f r') : CallR X f (orC r r') :=
  fun pins s σ H xs us Q I rx o => o.elim (h pins s σ H xs us Q I rx) (h' pins s σ H xs us Q I rx)
def rCatF (K : PySem.W.Frag) : R2 := fun x y H Q => ∃ a b xs ys, x = .ref a ∧ y = .ref b ∧ SqT K H a xs ∧ SqT K H b ys ∧ xs.length + ys.length ≤ sizeLine ∧
  xs ≠ [] ∧ ys ≠ [] ∧ ∀ p (o : Obj), H p = none → o.cls = .type "tuple" → o.dict = none → Q (.ref p) (upd H p (.frz o (.tup (xs ++ ys))))
theorem op_catF (e : X.K = K) : OpR X (binaryOp .Add) (rCatF K) := by
  subst e
  intro pins s σ H x y v u Q I rx ry h
  obtain ⟨a, b, xs, ys, rfl, rfl, ha, hb, hz, nx, ny, q⟩ := h
  cases rx
  cases ry
  obtain ⟨is1, r1, p1, _⟩ := I.tuple ha
  obtain ⟨is2, r2, p2, _⟩ := I.tuple hb
  refine HT.cat_tup p1 p2 (fun z => nx (r1.nil_iff.mp z)) (fun z => (ny (r2.nil_iff.mp z)).elim) (fun z => ?_) (by rw [← r1.length, ← r2.length]; exact hz)
  have fr := I.hok.fresh (Nat.le_refl s.heap.objs.size)
  have I2 := I.laid (t' := s.toks) (o := .frz { cls := .type "tuple", data := .seq (is1 ++ is2).toArray } (.tup (xs ++ ys))) (fun b ob w => Heap.get?_push_of_some _ w) (Nat.le_refl _)
    ⟨Heap.get?_push_size _ rfl, by rw [List.length_append]; exact hz, _, r1.append r2, IsTup.new _ _⟩
  exact ⟨.ref s.heap.objs.size, _, I2, rfl, q _ _ fr rfl rfl⟩
def rSlF (K : PySem.W.Frag) : V → Option Int → Option Int → Hp → VK → Prop := fun x lo hi H Q => ∃ a xs, x = .ref a ∧ SqT K H a xs ∧
  ¬ (HT.sIx xs.length 0 lo = 0 ∧ HT.sIx xs.length xs.length hi = xs.length) ∧ ∀ p (o : Obj), H p = none → o.cls = .type "tuple" → o.dict = none → Q (.ref p) (upd H p (.frz o (.tup (cutV xs lo hi))))
theorem sl_tupF (e : X.K = K) : SlR X (rSlF K) := by
  subst e
  intro pins s σ H x v vl vu lo hi sl Q I rx hs pl pu h
  obtain ⟨a, xs, rfl, hx, hw, q⟩ := h
  cases rx
  obtain ⟨is1, r, ht, hz⟩ := I.tuple hx
  have ln : is1.toArray.size = xs.length := by rw [List.size_toArray]; exact r.length.symm
  refine ⟨"tuple", _, PyProof.Rows.slot_tuple_getitem.lookup, ht.typeIs, HT.getItem_tuple_cut ht hs pl pu (by rw [ln]; exact hw) ?_ (by rw [ln]; exact hz)⟩
  rw [ln]
  have fr := I.hok.fresh (Nat.le_refl s.heap.objs.size)
  have rc := (r.drop (HT.sIx xs.length 0 lo)).take (HT.sIx xs.length xs.length hi - HT.sIx xs.length 0 lo)
  refine ⟨.ref s.heap.objs.size, _, I.laid (t' := s.toks) (o := .frz _ (.tup (cutV xs lo hi))) (fun b ob w => Heap.get?_push_of_some _ w) (Nat.le_refl _) ⟨Heap.get?_push_size _ rfl, Nat.le_trans (cutV_length xs lo hi) hz, _, rc, IsTup.new _ _⟩, rfl, q _ _ fr rfl rfl⟩
/-! a tuple of whatever == the empty one -/
theorem eq_none {prog : Program} {w : World} {A : Around} {R : Result → Shared → Prop} (a b : Addr) (as : Array Value) (k k2 : Nat) (da db : Option Addr) (sa sb : Array (Option Value)) {z : Shared}
    (ea : z.heap.get? a = some { cls := .type "tuple", dict := da, data := .seq as k, slots := sa }) (eb : z.heap.get? b = some { cls := .type "tuple", dict := db, data := .seq #[] k2, slots := sb }) (fin : R (.ok (.ret (.bool (as.size == 0)))) z) :
    wpAny (model prog w) A.in1 (Builtin.«tuple.__eq__» ⟨[.ref a, .ref b], []⟩) (GQ.FinOf prog w A R) (fun x z' => R (.error x) z') z := by
  have f2 := AutoSeq1.sub_tuple_tuple
  have zn : as.toList.zip (#[] : Array Value).toList = [] := by simp
  have fin' := fin
  have ea' := ea
  obtain ⟨hp, g, d, tk, os⟩ := z
  wp_walk using wpAny_loadPart' ea, wpAny_loadPart' eb, wpAny_forIn_list _ (fun left st z' => st.1 = none ∧ left = [] ∧ R (.ok (.ret (.bool (as.size == 0)))) z') _
  case turn =>
    rintro ⟨u, v⟩ left st z' ⟨_, hd, _⟩
    cases hd
  case fin =>
    rintro ⟨st1, st2⟩ z' ⟨e1, _, hJ⟩
    simp only at e1
    subst e1
    have done := hJ
    wp_walk
    simpa [Builtin.Tuple.tupleCompareSizes] using done
  case h => exact ⟨rfl, zn, fin'⟩
def rEqNil (K : PySem.W.Frag) : R2 := fun x y H Q => ∃ a b xs, x = .ref a ∧ y = .ref b ∧ SqT K H a xs ∧ SqT K H b [] ∧ Q (.bl (decide (xs = []))) H
theorem op_eqNil (e : X.K = K) (hu : X.A.units + 64 < cLine) : OpR X (compareOp .Eq) (rEqNil K) := by
  subst e
  intro pins s σ H x y v u Q I rx ry h
  obtain ⟨a, b, xs, rfl, rfl, ha, hb, q⟩ := h
  cases rx
  cases ry
  show wpAny (model X.prog X.w) X.A (richCompare .Eq (.ref a) (.ref b)) (EP X pins σ Q) X.xe s
  obtain ⟨is1, r, e, z⟩ := I.tuple ha
  obtain ⟨is2, r2, e2, z2⟩ := I.tuple hb
  obtain rfl := r2.nil_iff.mpr rfl
  obtain ⟨⟨c1, d1, t1, s1⟩, o1, k1, m1, n1⟩ := id e
  obtain ⟨⟨c2, d2, t2, s2⟩, o2, k2, m2, n2⟩ := id e2
  simp only at k1 n1 k2 n2
  subst k1 n1 k2 n2
  refine wpAny_richCompare_same_room (op := .Eq) ⟨_, o1, rfl⟩ ⟨_, o2, rfl⟩ F.slot_tuple_eq (GQ.call_here F.slot_tuple_eq ⟨_, o1, rfl⟩ F.entry_tuple_eq (F.args_tuple_eq_2 _ _) ?_) (by omega)
  refine eq_none (R := wants (fun v s' => v ≠ .notImplemented ∧ EP X pins σ Q v s') X.xe) a b is1.toArray m1 m2 d1 d2 s1 s2 o1 o2 ⟨(fun x => nomatch x), ?_⟩
  have ez : (is1.toArray.size == 0) = decide (xs = []) := by
    rw [Bool.eq_iff_iff, beq_iff_eq, decide_eq_true_eq, List.size_toArray, ← r.length, List.length_eq_zero_iff]
  rw [ez]
  exact ⟨.bl (decide (xs = [])), H, I, rfl, q⟩
end
end Fv
set_option maxRecDepth 100000
set_option maxHeartbeats 2000000
namespace Fv
open PySem PySem.Spec L2 PyProof.Rows
section
variable {X : Cx}
theorem sw_trueD {kx vx : Expr} {gs : List Comprehension} {scope : Scope} {pos py : Pos} {y : Str} {l : Nat} {env : Env} (hk : env.scope.kind = .function) (hy : env.scope.names.lookup y = some .local) (hl : (py.line == pos.line) = true)
    (ha : (scope.names.any fun (n, k) => n == y && (k == .local || k == .cell)) = false) : swapsWith (.DictComp kx vx gs scope pos) (some (.Name y py)) l env = pure true := by
  have ky : env.kindOf y = some .local := hy
  have hb : env.blockKind = .function := by unfold Env.blockKind; rw [hk]; rfl
  unfold swapsWith
  simp only [hb, ky, ha, Expr.pos, hl]
  rfl
/-- x = {k: v for ..}, x a plain name -/
theorem ps_setDc {i : Nat} {y : Str} {py : Pos} {kx vx tg iter : Expr} {ifs : List Expr} {scope : Scope} {own : List (Str × Nat)} {pos spos : Pos} {wi : TI} {g : TG} {tt : TT} {tk tv : TE} (hc : X.calm = true) (hN : X.N.Nodup) (hy : X.N[i]? = some y) (hyl : X.env.scope.names.lookup y = some .local)
    (hsw : swapsWith (.DictComp kx vx [⟨tg, iter, ifs, 0⟩] scope pos) (some (.Name y py)) spos.line X.env = pure true) (hi : PI X tg iter wi) (ok : BlkOk X.N X.env.scope scope own)
    (hg : ∀ (s : Shared) (H : Hp) (C : Addr) (cl : List (Str × Addr)) (fp : List Addr), PG (X.blk s H scope (compEnvC scope cl C X.env) fp) tg g) (ht : ∀ (s : Shared) (H : Hp) (C : Addr) (cl : List (Str × Addr)) (fp : List Addr), PTs (X.blk s H scope (compEnvC scope cl C X.env) fp) ifs tt)
    (hk : ∀ (s : Shared) (H : Hp) (C : Addr) (cl : List (Str × Addr)) (fp : List Addr), PE (X.blk s H scope (compEnvC scope cl C X.env) fp) kx tk)
    (he : ∀ (s : Shared) (H : Hp) (C : Addr) (cl : List (Str × Addr)) (fp : List Addr), PE (X.blk s H scope (compEnvC scope cl C X.env) fp) vx tv) (hs : ∀ x, foldedSetIterable iter X.env x = pure x := by intro _; rfl) :
    PS X (.Assign [.Name y py] (.DictComp kx vx [⟨tg, iter, ifs, 0⟩] scope pos) spos) (tAsg (tDc wi g tt tk tv (own.map (·.2))) (gName i)) := by
  refine ⟨fun pins s σ H D I h => ?_⟩
  rw [exec_Assign_Name_used _ _ _ _ hsw]
  refine wpAny_bind (wpAny_standAt (wpAny_bind ?_))
  show wpAny _ X.A (do let _ ← comprehension (.DictComp kx vx [⟨tg, iter, ifs, 0⟩] scope pos) scope X.env (firstIterPos [⟨tg, iter, ifs, 0⟩] pos) newDict false (eval iter X.env) (some (assign (.Name y py) X.env))) _ _ s
  have h : tDc wi g tt tk tv (own.map (·.2)) σ H (fun x H1 => gName i x σ H1 D.nx) := h
  refine wpAny_bind (thn (dc_core (Qf := fun _ s' => SP X pins D .next s') hc hN I hi ok hg ht hk he hs h fun L C s' m H' I' q hn f => ?_) fun _ s' hq => wpAny_pure (wpAny_pure hq))
  show wpAny _ _ (assign (.Name y py) X.env (.ref L)) _ _ _
  refine wpAny_assign_Name (store_ok2 (v := V.ref L) I' hN hy (.inl hyl) rfl (fun s2 I2 ⟨a, sb, ha⟩ => ?_) (.inr hyl))
  obtain ⟨f0, f1, f2, f3, f4, f5⟩ := f
  have haC : C ≠ a := by
    rcases ha with z | z
    · rw [z]; exact f1
    · exact fun e => f4 y a z e.symm
  refine ⟨m, hn.sameBut sb haC, fun h3 sb3 => ?_⟩
  exact ⟨_, H', I2.turned (t' := s2.toks) (fun b o hb e => (sb3.2 b hb).trans e) f0 f1 f3 f4 f5, q⟩
end
end Fv
set_option maxRecDepth 100000
set_option maxHeartbeats 1000000
namespace Fv
open PySem PySem.Spec L2
def top (i : Nat) : Stmt := PySem.Challenge.pw_foldervotes_k29_nests_judged.main.body.getD i (.Pass ⟨0, 0, 0, 0⟩)
abbrev s__wall : Stmt := top 0
abbrev s_is_within : Stmt := top 2
abbrev s_is_pair : Stmt := top 3
abbrev s_is_ascending : Stmt := top 4
abbrev s_is_lot_within : Stmt := top 5
abbrev s_VoteError___str__ : Stmt := inClass (top 7) 0
abbrev s_BadWords___init__ : Stmt := inClass (top 8) 0
abbrev s_Words___init__ : Stmt := inClass (top 11) 0
abbrev s_Words___eq__ : Stmt := inClass (top 11) 1
abbrev s__is_tuple_of : Stmt := top 12
abbrev s__is_up : Stmt := top 13
abbrev s__is_listing : Stmt := top 14
abbrev s_costs : Stmt := top 15
abbrev s_Payments___init__ : Stmt := inClass (top 17) 0
abbrev s_Payments_take_free : Stmt := inClass (top 17) 1
abbrev s_Payments_pay_all : Stmt := inClass (top 17) 2
abbrev s_Payments_lot_to_pay : Stmt := inClass (top 17) 3
abbrev s_Payments_leading_to : Stmt := inClass (top 17) 4
abbrev s_Payments_pay : Stmt := inClass (top 17) 5
abbrev s_Payments_cheapest_tree : Stmt := inClass (top 17) 6
abbrev s_nest : Stmt := top 18
abbrev s_is_nest : Stmt := top 19
abbrev s__is_payment : Stmt := top 20
abbrev s__paid_for : Stmt := top 21
abbrev s__law_tape : Stmt := top 23
abbrev s__law_pick : Stmt := top 24
abbrev s__law_any : Stmt := top 25
abbrev s__law_mixed : Stmt := top 26
abbrev s__law_right : Stmt := top 27
abbrev s__law_damaged : Stmt := top 28
abbrev s__law_words : Stmt := top 29
abbrev s__law_costs : Stmt := top 30
abbrev s__law_is_int : Stmt := top 31
abbrev s__law_is_nest : Stmt := top 32
abbrev s__law_drawn : Stmt := top 33
abbrev s__law_deep : Stmt := top 34
abbrev s__law_bent : Stmt := top 35
abbrev s_law : Stmt := top 36
structure Ad where
  a_VoteError : Addr
  a_BadWords : Addr
  a_Words : Addr
  a_Payments : Addr
  t_MOST_BLOCKS : PySem.Tok
structure Bl (Z : Ad) (mg : Str → Option Value) : Prop where
  b_ValueError : mg "ValueError" = none
  b_abs : mg "abs" = none
  b_all : mg "all" = none
  b_any : mg "any" = none
  b_bool : mg "bool" = none
  b_enumerate : mg "enumerate" = none
  b_int : mg "int" = none
  b_isinstance : mg "isinstance" = none
  b_len : mg "len" = none
  b_list : mg "list" = none
  b_min : mg "min" = none
  b_range : mg "range" = none
  b_str : mg "str" = none
  b_sum : mg "sum" = none
  b_tuple : mg "tuple" = none
  k_VoteError : mg "VoteError" = some (.ref Z.a_VoteError)
  k_BadWords : mg "BadWords" = some (.ref Z.a_BadWords)
  k_Words : mg "Words" = some (.ref Z.a_Words)
  k_Payments : mg "Payments" = some (.ref Z.a_Payments)
  c_MOST_BLOCKS : mg "MOST_BLOCKS" = some (.int 40 Z.t_MOST_BLOCKS)
end Fv
set_option maxRecDepth 100000
set_option maxHeartbeats 1000000
namespace Fv
open PySem PySem.Spec L2
local macro_rules | `(tactic| walk_at "ne") => `(tactic| first
  | assumption
  | (apply Ne.symm; assumption)
  | exact ne_of_none (by assumption) (by assumption)
  | (apply Ne.symm; exact ne_of_none (by assumption) (by assumption))
  | exact ne_none' (by assumption) (by walk_at "hu")
  | (apply Ne.symm; exact ne_none' (by assumption) (by walk_at "hu")))
local macro_rules | `(tactic| walk_at "hu") => `(tactic| first
  | with_reducible assumption
  | with_reducible exact upd_same
  | ((with_reducible show upd _ _ _ _ = some _); first | with_reducible exact upd_same | (with_reducible exact keepN (by walk_at "hu") (by assumption)) | (with_reducible exact keepM (by walk_at "ne") (by walk_at "hu"))))
local macro_rules | `(tactic| walk_at "hl") => `(tactic| first
  | with_reducible assumption
  | with_reducible exact SqL.of (by assumption)
  | ((with_reducible show SqL _ (upd _ _ _) _ _); first
    | with_reducible exact SqL.of upd_same
    | with_reducible exact keepLN (by walk_at "hl") (by assumption)
    | with_reducible exact keepLM (by walk_at "ne") (by walk_at "hl"))
  | with_reducible exact Same.seq (by assumption) (by walk_at "hl")
  | with_reducible exact But.seq (by assumption) (by walk_at "ne") (by walk_at "hl"))
local macro_rules | `(tactic| walk_at "ht") => `(tactic| first
  | with_reducible assumption
  | with_reducible exact SqT.of (by assumption)
  | ((with_reducible show SqT _ (upd _ _ _) _ _); first
    | with_reducible exact SqT.of upd_same
    | with_reducible exact keepTN (by walk_at "ht") (by assumption)
    | with_reducible exact keepTM (by walk_at "ne") (by walk_at "ht"))
  | with_reducible exact Same.seqT (by assumption) (by walk_at "ht")
  | with_reducible exact But.seqT (by assumption) (by walk_at "ne") (by walk_at "ht"))
local macro_rules | `(tactic| walk_at "sm") => `(tactic| first
  | with_reducible assumption
  | with_reducible exact Same.refl _
  | ((with_reducible show Same _ (upd _ _ _)); first
    | with_reducible exact same_new (by walk_at "sm") (by assumption)
    | with_reducible exact same_mut (by walk_at "sm") (by assumption))
  | ((with_reducible refine same_trans (by assumption) ?_); walk_at "sm"))
local macro_rules | `(tactic| walk_at "bt") => `(tactic| first
  | with_reducible assumption
  | with_reducible exact But.refl _ _
  | with_reducible exact But.of (by assumption)
  | ((with_reducible show But _ _ (upd _ _ _)); first
    | ((with_reducible refine But.mut ?_); walk_at "bt")
    | with_reducible exact But.new (by walk_at "bt") (by assumption)
    | with_reducible exact But.mutF (by walk_at "bt") (by assumption))
  | ((with_reducible refine but_trans (by assumption) ?_); walk_at "bt")
  | ((with_reducible refine but_trans (But.of (by assumption)) ?_); walk_at "bt"))
local macro_rules | `(tactic| walk_at "kn") => `(tactic| first
  | with_reducible assumption
  | exact True.intro
  | with_reducible exact Kn.same (by assumption) (by walk_at "kn")
  | with_reducible exact Kn.same (same_new (Same.refl _) (by assumption)) (by walk_at "kn"))
local macro_rules | `(tactic| walk_at "h1") => `(tactic| first
  | with_reducible refine x_seq ?_
  | with_reducible refine x_next ?_
  | with_reducible refine x_drop ?_
  | with_reducible refine x_ret ?_
  | with_reducible refine x_retN ?_
  | with_reducible refine x_ifs ?_
  | with_reducible refine x_asg ?_
  | with_reducible refine x_gname ?_
  | with_reducible refine x_gsub ?_
  | ((with_reducible show tVar _ _ _ _); with_reducible refine x_var (by with_unfolding_all rfl) ?_)
  | with_reducible refine x_c ?_
  | with_reducible refine x_op ?_
  | with_reducible refine x_un ?_
  | with_reducible refine x_i0 ?_
  | ((with_reducible show rI _ _ (V.int _) (V.int _) _ _); with_reducible refine x_i (by with_unfolding_all (first | assumption | decide | (show (0 : Int) < _; first | assumption | decide | omega) | exact ⟨by first | assumption | decide | omega, by first | assumption | decide | omega⟩ | exact Or.inl ⟨by first | decide | omega, by first | decide | omega⟩ | exact Or.inr ⟨by first | decide | omega, by first | decide | omega⟩)) ?_)
  | with_reducible refine x_u ?_
  | with_reducible refine x_isN0 ?_
  | with_reducible refine x_isN1 ?_
  | with_reducible refine x_isN2 ?_
  | with_reducible refine x_isN3 ?_
  | with_reducible refine x_isN4 ?_
  | with_reducible refine x_notN0 ?_
  | with_reducible refine x_notN1 ?_
  | with_reducible refine x_notN2 ?_
  | with_reducible refine x_notN3 ?_
  | with_reducible refine x_notN4 ?_
  | with_reducible refine x_eqB ?_
  | with_reducible refine x_neB ?_
  | with_reducible refine x_eqS ?_
  | with_reducible refine x_eqI ?_
  | with_reducible refine x_neI ?_
  | ((with_reducible show rEq _ _ _ _); with_reducible refine x_eq (by with_unfolding_all rfl) ?_)
  | ((with_reducible show rNe _ _ _ _); with_reducible refine x_ne (by with_unfolding_all rfl) ?_)
  | ((with_reducible show rIxL _ (V.ref _) (V.int _) _ _); with_reducible refine x_ixL (by walk_at "hl") (by first | assumption | with_unfolding_all exact atI_nat (j := 0) rfl | with_unfolding_all exact atI_nat (j := 1) rfl | with_unfolding_all rfl) ?_)
  | ((with_reducible show rIxT _ (V.ref _) (V.int _) _ _); with_reducible refine x_ixT (by walk_at "ht") (by first | assumption | with_unfolding_all exact atI_nat (j := 0) rfl | with_unfolding_all exact atI_nat (j := 1) rfl | with_unfolding_all rfl) ?_)
  | ((with_reducible show rIx _ (V.ref _) (V.int _) _ _); first
    | with_reducible refine x_ixSL (by walk_at "hl") (by first | assumption | with_unfolding_all exact atI_nat (j := 0) rfl | with_unfolding_all exact atI_nat (j := 1) rfl | with_unfolding_all rfl) ?_
    | with_reducible refine x_ixST (by walk_at "ht") (by first | assumption | with_unfolding_all exact atI_nat (j := 0) rfl | with_unfolding_all exact atI_nat (j := 1) rfl | with_unfolding_all rfl) ?_)
  | ((with_reducible show rSetL (V.ref _) (V.int _) _ _ _); with_reducible refine x_setL (by walk_at "hu") (by first | assumption | with_unfolding_all rfl) ?_)
  | with_reducible refine x_test ?_
  | with_reducible refine x_b ?_
  | with_reducible refine x_isb ?_
  | ((with_reducible show if decide _ = true then _ else _); with_reducible refine x_isdT (by first | with_unfolding_all rfl | with_unfolding_all decide) ?_)
  | ((with_reducible show if decide _ = true then _ else _); with_reducible refine x_isdF (by with_unfolding_all decide) ?_)
  | with_reducible refine x_isi ?_
  | with_reducible refine x_and ?_
  | with_reducible refine x_or ?_
  | with_reducible refine x_not ?_
  | with_reducible refine x_andV ?_
  | with_reducible refine x_orV ?_
  | with_reducible refine x_notV ?_
  | with_reducible refine x_ifx ?_
  | with_reducible refine x_nil ?_
  | with_reducible refine x_cons ?_
  | with_reducible refine x_cb ?_
  | with_reducible refine x_call ?_
  | with_reducible refine x_lst ?_
  | with_reducible refine x_tup ?_
  | with_reducible refine x_sl ?_
  | with_reducible refine x_nopart ?_
  | with_reducible refine x_part ?_
  | ((with_reducible show rSlL _ (V.ref _) _ _ _ _); with_reducible refine x_slL (by walk_at "hl") ?_)
  | with_reducible refine x_listRg1 ?_
  | with_reducible refine x_listRg2 ?_
  | with_reducible refine x_tupRg1 ?_
  | with_reducible refine x_ij ?_
  | ((with_reducible show tyV _ "list" (V.ref _) _ ∧ _); with_reducible refine x_tyL (by walk_at "hl") ?_)
  | with_reducible refine x_bm ?_
  | with_reducible refine x_bm0 ?_
  | with_reducible refine x_fldQ ?_
  | with_reducible refine x_par ?_
  | with_reducible refine x_par2 ?_
  | with_reducible refine x_chain ?_
  | ((with_reducible show tAug _ _ _ _ _ _); with_reducible refine x_aug (by with_unfolding_all rfl) ?_)
  | with_reducible refine x_ipI ?_
  | with_reducible refine x_for ?_
  | with_reducible refine x_while ?_
  | with_reducible refine x_ent ?_
  | with_reducible refine x_enl ?_
  | with_reducible refine x_isBk ?_
  | with_reducible refine x_notBk ?_
  | with_reducible refine x_mko ?_
  | with_reducible refine x_sfld ?_
  | with_reducible refine x_ost ?_
  | ((with_reducible show gTup _ _ _ (V.ref _) _ _ _); with_reducible refine x_gtup (by walk_at "ht") (by with_unfolding_all rfl) ?_)
  | with_reducible refine x_gcons ?_
  | with_reducible refine x_gnil ?_
  | with_reducible refine x_lc ?_
  | with_reducible refine x_lc2 ?_
  | with_reducible refine x_ilist ?_
  | with_reducible refine x_itup ?_
  | with_reducible refine x_rng1 ?_
  | with_reducible refine x_rng2v ?_
  | with_reducible refine x_irngV ?_
  | with_reducible refine x_star ?_
  | with_reducible refine x_rng2 ?_
  | with_reducible refine x_yes ?_
  | ((with_reducible show rLen _ [V.ref _] _ _); with_reducible refine x_lenL (by walk_at "hl") ?_)
  | ((with_reducible show rLen _ [V.ref _] _ _); with_reducible refine x_lenT (by walk_at "ht") ?_)
  | ((with_reducible show rListOf _ [V.ref _] _ _); with_reducible refine x_listL (by walk_at "hl") ?_)
  | ((with_reducible show rListOf _ [V.ref _] _ _); with_reducible refine x_listT (by walk_at "ht") ?_)
  | ((with_reducible show rTupOf _ [V.ref _] _ _); with_reducible refine x_tupL (by walk_at "hl") ?_)
  | ((with_reducible show rTupOf _ [V.ref _] _ _); with_reducible refine x_tupT (by walk_at "ht") ?_)
  | ((with_reducible show List.length _ ≤ sizeLine ∧ _); with_reducible refine And.intro (szLe (by with_unfolding_all (simp only [List.length_cons, List.length_nil]; decide))) ?_)
  | with_reducible refine x_int1 ?_
  | with_reducible refine x_abs ?_
  | with_reducible refine isi_non_int ?_
  | with_reducible refine isi_bl_int ?_
  | with_reducible refine isi_int_int ?_
  | with_reducible refine isi_str_int ?_
  | ((with_reducible show rIsi _ [V.ref _, V.ty "int"] _ _); first | with_reducible refine isi_lst_int (by walk_at "hu") ?_ | with_reducible refine isi_tup_int (by walk_at "hu") ?_ | with_reducible refine isi_dK_int (by walk_at "hu") ?_)
  | with_reducible refine isi_non_bool ?_
  | with_reducible refine isi_bl_bool ?_
  | with_reducible refine isi_int_bool ?_
  | with_reducible refine isi_str_bool ?_
  | ((with_reducible show rIsi _ [V.ref _, V.ty "bool"] _ _); first | with_reducible refine isi_lst_bool (by walk_at "hu") ?_ | with_reducible refine isi_tup_bool (by walk_at "hu") ?_ | with_reducible refine isi_dK_bool (by walk_at "hu") ?_)
  | with_reducible refine isi_non_tuple ?_
  | with_reducible refine isi_bl_tuple ?_
  | with_reducible refine isi_int_tuple ?_
  | with_reducible refine isi_str_tuple ?_
  | ((with_reducible show rIsi _ [V.ref _, V.ty "tuple"] _ _); first | with_reducible refine isi_lst_tuple (by walk_at "hu") ?_ | with_reducible refine isi_tup_tuple (by walk_at "hu") ?_ | with_reducible refine isi_dK_tuple (by walk_at "hu") ?_)
  | with_reducible refine isi_non_list ?_
  | with_reducible refine isi_bl_list ?_
  | with_reducible refine isi_int_list ?_
  | with_reducible refine isi_str_list ?_
  | ((with_reducible show rIsi _ [V.ref _, V.ty "list"] _ _); first | with_reducible refine isi_lst_list (by walk_at "hu") ?_ | with_reducible refine isi_tup_list (by walk_at "hu") ?_ | with_reducible refine isi_dK_list (by walk_at "hu") ?_)
  | with_reducible refine isi_non_dict ?_
  | with_reducible refine isi_bl_dict ?_
  | with_reducible refine isi_int_dict ?_
  | with_reducible refine isi_str_dict ?_
  | ((with_reducible show rIsi _ [V.ref _, V.ty "dict"] _ _); first | with_reducible refine isi_lst_dict (by walk_at "hu") ?_ | with_reducible refine isi_tup_dict (by walk_at "hu") ?_ | with_reducible refine isi_dK_dict (by walk_at "hu") ?_)
  | with_reducible refine isi_non_str ?_
  | with_reducible refine isi_bl_str ?_
  | with_reducible refine isi_int_str ?_
  | with_reducible refine isi_str_str ?_
  | ((with_reducible show rIsi _ [V.ref _, V.ty "str"] _ _); first | with_reducible refine isi_lst_str (by walk_at "hu") ?_ | with_reducible refine isi_tup_str (by walk_at "hu") ?_ | with_reducible refine isi_dK_str (by walk_at "hu") ?_)
  | ((with_reducible show rIsi _ [_, V.ty "int"] _ _); with_reducible refine x_isInt (by walk_at "kn") ?_)
  | ((with_reducible show rIsi _ [_, V.ty "bool"] _ _); with_reducible refine x_isBl (by walk_at "kn") ?_)
  | with_reducible refine x_nF ?_
  | with_reducible refine x_nT ?_
  | with_reducible refine iteT ?_
  | with_reducible refine iteF ?_)
local macro_rules | `(tactic| walk_at "hs") => `(tactic| repeat (walk_at "h1"; try dsimp only [Bool.not_true, Bool.not_false]))
local macro_rules | `(tactic| walk_at "h0") => `(tactic| ((try dsimp only [cxOf, L2.start, List.map_cons, List.map_nil, List.length_cons, List.length_nil, List.replicate, List.cons_append, List.nil_append, Nat.reduceAdd, Nat.reduceSub]); walk_at "hs"))

theorem sc__law_pick : FnScope ["_law_tape_here", "_law_many", "_law_digit", "_law_cell", "_law_mixed_here"] ["_law_tape_here", "_law_many"] (defScope s__law_pick) := ⟨rfl, rfl, rfl, by decide +kernel, rfl, by decide +kernel, by decide +kernel⟩
/-- the hand at p: its list, where it is read, what is left of a great number, the mix, how often it was turned; F: what others own, and it does not -/
def PoolAt (H : Hp) (p : Addr) (F : Addr → Prop) : Prop := (∃ (g : Addr) (gs : List Int) (i c m n : Int), H p = some (.lst [.ref g, .int i, .int c, .int m, .int n]) ∧ H g = some (.lst (gs.map V.int)) ∧ 0 ≤ i ∧ g ≠ p ∧ ¬ F g ∧ ¬ F p) ∧ ∀ a, F a → ∃ o, H a = some o
def spDraw : Sp := fun vs H Q _ => ∃ (p : Addr) (m : Int) (F : Addr → Prop), vs = [.ref p, .int m] ∧ PoolAt H p F ∧ 0 < m ∧ m < 1073741824 ∧ ∀ (d : Int) H', 0 ≤ d → d < m → But p H H' → PoolAt H' p F → Q (.int d) H'
theorem prot {H H' : Hp} {p : Addr} {F : Addr → Prop} (b : But p H H') (h : ∀ a, F a → ∃ o, H a = some o) (n : ¬ F p) : ∀ a, F a → ∃ o, H' a = some o := fun a ha => by
  obtain ⟨o, e⟩ := h a ha
  exact ⟨o, b a o (fun z => n (z ▸ ha)) e⟩
section
variable {P : Program} {w : World} {K : PySem.W.Frag} {mg : Str → Option Value} {base : Heap} {Z : Ad}
theorem ok_tpick {f : Addr} {fd : FuncData} (F : Fun K "_law_pick" "_law_pick" s__law_pick f fd) (B : Bl Z mg) : FnOk P w K mg base CX0 1 f fd ["_law_tape_here", "_law_many"] spDraw := by
  refine F.ok sc__law_pick (fun vs H Q E h => ?_) (fun cdv A outer s H vs Q E hr h => ?_)
  · obtain ⟨p, m, F, rfl, _⟩ := h
    rfl
  · obtain ⟨p, m, Fo, rfl, ⟨⟨g, gs, i, c, x, n, hp, hg, i0, ng, fg, fp⟩, hF⟩, m0, m1, q⟩ := h
    refine ⟨_, (pss_cons (ps_if (pt_cmpR op_gt (pe_ix (ix_listK (K := K) rfl) (pv 0) pe_int (fun _ _ => rfl)) pe_int (nomark _)) (pss_cons (ps_set (i := 2) sc__law_pick.nd rfl (Or.inl rfl) (pe_op op_mod (pe_callTy call_int (by rfl) B.b_int (by decide +kernel) (pa_cons (pe_ix (ix_listK (K := K) rfl) (pv 0) pe_int (fun _ _ => rfl)) pa_nil)) (pv 1)))
 (pss_cons (ps_asg (pe_op op_fdiv (pe_ix (ix_listK (K := K) rfl) (pv 0) pe_int (fun _ _ => rfl)) (pv 1)) (pg_sub (pv 0) pe_int set_list))
 (pss_one (ps_ret (pv 2))))) pss_nil)
 (pss_cons (ps_asg (pe_op op_add (pe_ix (ix_listK (K := K) rfl) (pv 0) pe_int (fun _ _ => rfl)) pe_int) (pg_sub (pv 0) pe_int set_list))
 (pss_cons (ps_set (i := 3) sc__law_pick.nd rfl (Or.inl rfl) pe_int)
 (C8.pss_cut (ps_if (pt_cmpR op_lt (pe_ix (ix_listK (K := K) rfl) (pv 0) pe_int (fun _ _ => rfl)) (pe_callB (call_lenK (K := K) rfl) (by rfl) B.b_len PySem.boot_len (pa_cons (pe_ix (ix_listK (K := K) rfl) (pv 0) pe_int (fun _ _ => rfl)) pa_nil)) (nomark _)) (pss_cons (ps_set (i := 3) sc__law_pick.nd rfl (Or.inl rfl) (pe_callB call_ab (by rfl) B.b_abs (by decide +kernel) (pa_cons (pe_callTy call_int (by rfl) B.b_int (by decide +kernel) (pa_cons (pe_ix (ix_listK (K := K) rfl) (pe_ix (ix_listK (K := K) rfl) (pv 0) pe_int (fun _ _ => rfl)) (pe_ix (ix_listK (K := K) rfl) (pv 0) pe_int (fun _ _ => rfl)) (fun _ _ => rfl)) pa_nil)) pa_nil)))
 (pss_one (ps_asg (pe_op op_add (pe_ix (ix_listK (K := K) rfl) (pv 0) pe_int (fun _ _ => rfl)) pe_int) (pg_sub (pv 0) pe_int set_list)))) pss_nil)
 (pss_cons (ps_if (pt_cmpR op_ge (pv 3) (pe_op op_pow pe_int pe_int) (nomark _)) (pss_cons (ps_asg (pe_op op_fdiv (pv 3) (pv 1)) (pg_sub (pv 0) pe_int set_list))
 (pss_one (ps_ret (pe_op op_mod (pe_callTy call_int (by rfl) B.b_int (by decide +kernel) (pa_cons (pv 3) pa_nil)) (pv 1))))) pss_nil)
 (pss_cons (ps_set (i := 4) sc__law_pick.nd rfl (Or.inl rfl) (pe_op op_mod (pe_callTy call_int (by rfl) B.b_int (by decide +kernel) (pa_cons (pe_op op_add (pe_op op_add (pe_op op_mul (pe_ix (ix_listK (K := K) rfl) (pv 0) pe_int (fun _ _ => rfl)) pe_int) (pe_op op_mod (pe_callTy call_int (by rfl) B.b_int (by decide +kernel) (pa_cons (pv 3) pa_nil)) pe_int)) (pe_op op_mul (pe_ix (ix_listK (K := K) rfl) (pv 0) pe_int (fun _ _ => rfl)) pe_int)) pa_nil)) pe_int))
 (pss_cons (ps_set (i := 4) sc__law_pick.nd rfl (Or.inl rfl) (pe_op op_mod (pe_callTy call_int (by rfl) B.b_int (by decide +kernel) (pa_cons (pe_op op_mul (pv 4) (pe_op op_add (pe_op op_fdiv (pv 4) pe_int) pe_int)) pa_nil)) pe_int))
 (pss_cons (ps_asg (pv 4) (pg_sub (pv 0) pe_int set_list))
 (pss_one (ps_ret (pe_op op_mod (pe_callTy call_int (by rfl) B.b_int (by decide +kernel) (pa_cons (pe_op op_fdiv (pv 4) pe_int) pa_nil)) (pv 1)))))))))))), ?_⟩
    walk_at "h0"
    refine x_isd (fun c1 => ?_) (fun c1 => ?_)
    · walk_at "hs"
      exact q _ _ (Int.emod_nonneg _ (by omega)) (Int.emod_lt_of_pos _ m0) (by walk_at "bt") ⟨⟨g, gs, _, _, _, n, upd_same, by walk_at "hu", i0, ng, fg, fp⟩, prot (But.mut (But.refl _ _)) hF fp⟩
    · walk_at "hs"
      refine ⟨fun σ' H' => ∃ (k : Int), σ' = [some (.ref p), some (.int m), none, some (.int k), none] ∧ But p H H' ∧ PoolAt H' p Fo, ?_, ?_⟩
      · walk_at "hs"
        refine x_isd (fun c2 => ?_) (fun c2 => ?_)
        · obtain ⟨k, rfl⟩ := Int.eq_ofNat_of_zero_le i0
          have hk : k < gs.length := by
            rw [List.length_map] at c2
            omega
          have ag : atI (gs.map V.int) (k : Int) = some (.int gs[k]) := atI_nat (by rw [List.getElem?_map, List.getElem?_eq_getElem hk]; rfl)
          walk_at "hs"
          exact ⟨_, rfl, by walk_at "bt", ⟨g, gs, _, _, _, _, upd_same, by walk_at "hu", by omega, ng, fg, fp⟩, prot (by walk_at "bt") hF fp⟩
        · walk_at "hs"
          exact ⟨_, rfl, by walk_at "bt", ⟨g, gs, _, _, _, _, upd_same, by walk_at "hu", i0, ng, fg, fp⟩, prot (by walk_at "bt") hF fp⟩
      · rintro σ' H1 ⟨k, rfl, b1, ⟨g, gs, i, c, x, n, hp, hg, i0, ng, fg, fp⟩, hF⟩
        walk_at "hs"
        refine x_isd (fun c1 => ?_) (fun c1 => ?_)
        · walk_at "hs"
          exact q _ _ (Int.emod_nonneg _ (by omega)) (Int.emod_lt_of_pos _ m0) (by walk_at "bt") ⟨⟨g, gs, _, _, _, n, upd_same, by walk_at "hu", i0, ng, fg, fp⟩, prot (But.mut (But.refl _ _)) hF fp⟩
        · walk_at "hs"
          exact q _ _ (Int.emod_nonneg _ (by omega)) (Int.emod_lt_of_pos _ m0) (by walk_at "bt") ⟨⟨g, gs, _, _, _, _, upd_same, by walk_at "hu", i0, ng, fg, fp⟩, prot (But.mut (But.refl _ _)) hF fp⟩
end
set_option maxRecDepth 100000
set_option maxHeartbeats 1000000
open PySem PySem.Spec L2


theorem sc__law_tape : FnScope ["_law_script"] ["_law_script"] (defScope s__law_tape) := ⟨rfl, rfl, rfl, by decide +kernel, rfl, by decide +kernel, by decide +kernel⟩
section
variable {P : Program} {w : World} {K : PySem.W.Frag} {mg : Str → Option Value} {base : Heap} {Z : Ad}

theorem PoolAt.same {H H' : Hp} {p : Addr} {F : Addr → Prop} (s : Same H H') (h : PoolAt H p F) : PoolAt H' p F := by
  obtain ⟨⟨g, gs, i, c, x, n, hp, hg, r⟩, hF⟩ := h
  exact ⟨⟨g, gs, i, c, x, n, s _ _ hp, s _ _ hg, r⟩, fun a ha => by
    obtain ⟨o, e⟩ := hF a ha
    exact ⟨o, s _ _ e⟩⟩
theorem PoolAt.ne {H : Hp} {p q : Addr} {F : Addr → Prop} (h : PoolAt H p F) (hq : H q = none) : q ≠ p := by
  obtain ⟨⟨g, gs, i, c, x, n, hp, _⟩, _⟩ := h
  exact ne_none' hq hp
theorem PoolAt.neF {H : Hp} {p q : Addr} {F : Addr → Prop} (h : PoolAt H p F) (hq : F q) : q ≠ p := by
  obtain ⟨⟨g, gs, i, c, x, n, hp, hg, i0, ng, fg, fp⟩, _⟩ := h
  exact fun e => fp (e ▸ hq)
theorem PoolAt.newH {H : Hp} {p q : Addr} {o : HO} {F : Addr → Prop} (h : PoolAt H p F) (hq : H q = none) : PoolAt (upd H q o) p F := h.same (same_new (Same.refl H) hq)
/-- a new object, owned by another -/
theorem PoolAt.own {H : Hp} {p q : Addr} {o : HO} {F : Addr → Prop} (h : PoolAt H p F) (hq : H q = none) : PoolAt (upd H q o) p (fun a => a = q ∨ F a) := by
  obtain ⟨⟨g, gs, i, c, x, n, hp, hg, i0, ng, fg, fp⟩, hF⟩ := h
  refine ⟨⟨g, gs, i, c, x, n, keepN hp hq, keepN hg hq, i0, ng, fun e => ?_, fun e => ?_⟩, fun a ha => ?_⟩
  · exact e.elim (ne_of_none hg hq) fg
  · exact e.elim (ne_of_none hp hq) fp
  · rcases ha with rfl | ha
    · exact ⟨o, upd_same⟩
    · obtain ⟨u, e⟩ := hF a ha
      exact ⟨u, keepN e hq⟩
theorem PoolAt.mut {H : Hp} {p q : Addr} {o : HO} {F : Addr → Prop} (h : PoolAt H p F) (hq : F q) : PoolAt (upd H q o) p F := by
  obtain ⟨⟨g, gs, i, c, x, n, hp, hg, i0, ng, fg, fp⟩, hF⟩ := h
  refine ⟨⟨g, gs, i, c, x, n, keepM (fun e => fp (e ▸ hq)) hp, keepM (fun e => fg (e ▸ hq)) hg, i0, ng, fg, fp⟩, fun a ha => ?_⟩
  by_cases e : a = q
  · exact ⟨o, by rw [e, upd_same]⟩
  · obtain ⟨u, hu⟩ := hF a ha
    exact ⟨u, keepM e hu⟩
theorem PoolAt.weak {H : Hp} {p : Addr} {F G : Addr → Prop} (h : PoolAt H p F) (w : ∀ a, G a → F a) : PoolAt H p G := by
  obtain ⟨⟨g, gs, i, c, x, n, hp, hg, i0, ng, fg, fp⟩, hF⟩ := h
  exact ⟨⟨g, gs, i, c, x, n, hp, hg, i0, ng, fun e => fg (w _ e), fun e => fp (w _ e)⟩, fun a ha => hF a (w a ha)⟩
def spPool (K : PySem.W.Frag) : Sp := fun vs H Q _ => ∃ (a : Addr) (ns : List Int), vs = [.ref a] ∧ SqL K H a (ns.map V.int) ∧ ns.length ≤ 63 ∧ ∀ p H', Same H H' → H p = none → PoolAt H' p (fun _ => False) → Q (.ref p) H'
theorem ok_tape {f : Addr} {fd : FuncData} (F : Fun K "_law_tape" "_law_tape" s__law_tape f fd) (B : Bl Z mg) : FnOk P w K mg base CX0 1 f fd ["_law_script"] (spPool K) := by
  refine F.ok sc__law_tape (fun vs H Q E h => ?_) (fun cdv A outer s H vs Q E hr h => ?_)
  · obtain ⟨a, ns, rfl, _⟩ := h
    rfl
  · obtain ⟨a, ns, rfl, hS, hl, q⟩ := h
    refine ⟨_, (pss_one (ps_ret (pe_lst (pa_cons (pe_callTy (call_lstK (K := K) rfl) (by rfl) B.b_list (by decide +kernel) (pa_cons (pv 0) pa_nil)) (pa_cons pe_int (pa_cons pe_int (pa_cons pe_int (pa_cons pe_int pa_nil)))))))), ?_⟩
    walk_at "h0"
    intro D hD
    walk_at "hs"
    intro p hp
    exact q p _ (by walk_at "sm") (Same.free (H' := upd H D _) (same_new (Same.refl _) hD) hp) ⟨⟨D, ns, _, _, _, _, upd_same, by walk_at "hu", by decide, by walk_at "ne", fun e => e, fun e => e⟩, fun a e => e.elim⟩
def spAny (K : PySem.W.Frag) : Sp := fun vs H Q _ => ∃ (p t : Addr) (xs : List V) (F : Addr → Prop), vs = [.ref p, .ref t] ∧ PoolAt H p F ∧ SqL K H t xs ∧ t ≠ p ∧ 0 < xs.length ∧ xs.length ≤ 1000 ∧ ∀ x H', x ∈ xs → But p H H' → PoolAt H' p F → Q x H'
abbrev spPick (K : PySem.W.Frag) : Sp := spAny K
end
set_option maxRecDepth 100000
set_option maxHeartbeats 1000000
open PySem PySem.Spec L2


theorem sc_is_within : FnScope ["least", "most", "thing"] ["least", "most", "thing"] (defScope s_is_within) := ⟨rfl, rfl, rfl, by decide +kernel, rfl, by decide +kernel, by decide +kernel⟩
section
variable {P : Program} {w : World} {K : PySem.W.Frag} {mg : Str → Option Value} {base : Heap} {Z : Ad}

def spNum (hi : Nat) : Sp := fun vs H Q _ => ∃ (x : V) (lo hi : Int), vs = [x, .int lo, .int hi] ∧ Kn H x ∧ Q (.bl (numV lo hi x)) H
def spWithin : Sp := fun vs H Q _ => ∃ (x : V) (lo hi : Int), vs = [.int lo, .int hi, x] ∧ Kn H x ∧ Q (.bl (numV lo hi x)) H
theorem ok_within {f : Addr} {fd : FuncData} (F : Fun K "is_within" "is_within" s_is_within f fd) (B : Bl Z mg) : FnOk P w K mg base CX0 1 f fd ["least", "most", "thing"] spWithin := by
  refine F.ok sc_is_within (fun vs H Q E h => ?_) (fun cdv A outer s H vs Q E hr h => ?_)
  · obtain ⟨x, lo, hi, rfl, _⟩ := h
    rfl
  · obtain ⟨x, lo, hi, rfl, hk, q⟩ := h
    refine ⟨_, (pss_cons (ps_if (PW.pt (pw_or (pt_not (pt_val (pe_callB (call_isiK' (K := K) rfl) (by rfl) B.b_isinstance (by decide +kernel) (pa_cons (pv 2) (pa_cons (pe_bltn (v := .ty "int") (by rfl) B.b_int (by decide +kernel) rfl) pa_nil))))) (pw_or1 (pt_val (pe_callB (call_isiK' (K := K) rfl) (by rfl) B.b_isinstance (by decide +kernel) (pa_cons (pv 2) (pa_cons (pe_bltn (v := .ty "bool") (by rfl) B.b_bool (by decide +kernel) rfl) pa_nil))))))) (pss_one (ps_ret pe_bl)) pss_nil)
 (pss_one (ps_ret (pe_chain op_le op_le (pv 0) (pv 2) (pv 1))))), ?_⟩
    walk_at "h0"
    cases x with
    | bl b =>
      walk_at "hs"
      refine iteF ?_
      walk_at "hs"
      exact q
    | int i =>
      refine iteF ?_
      walk_at "hs"
      refine x_isd (fun c => ?_) (fun c => ?_)
      · walk_at "hs"
        have e : numV lo hi (.int i) = decide (i ≤ hi) := numT c
        rw [← e]
        exact q
      · have e : numV lo hi (.int i) = false := numF c
        rw [e] at q
        exact q
    | non => exact iteT (iteT q)
    | str s => exact iteT (iteT q)
    | ref a => exact iteT (iteT q)
    | _ => exact hk.elim
end
set_option maxRecDepth 100000
set_option maxHeartbeats 1000000
open PySem PySem.Spec L2


theorem sc__law_any : FnScope ["_law_tape_here", "_law_things"] ["_law_tape_here", "_law_things"] (defScope s__law_any) := ⟨rfl, rfl, rfl, by decide +kernel, rfl, by decide +kernel, by decide +kernel⟩
theorem sc__law_mixed : FnScope ["_law_tape_here", "_law_things", "_law_left", "_law_at"] ["_law_tape_here", "_law_things"] (defScope s__law_mixed) := ⟨rfl, rfl, rfl, by decide +kernel, rfl, by decide +kernel, by decide +kernel⟩
section
variable {P : Program} {w : World} {K : PySem.W.Frag} {mg : Str → Option Value} {base : Heap} {Z : Ad}
theorem ok_any {f : Addr} {fd : FuncData} (F : Fun K "_law_any" "_law_any" s__law_any f fd) (B : Bl Z mg) {f__law_pick : Addr} {fd__law_pick : FuncData} (C__law_pick : Cal K mg "_law_pick" f__law_pick fd__law_pick ["_law_tape_here", "_law_many"]) (G__law_pick : FnOk P w K mg base CX0 1 f__law_pick fd__law_pick ["_law_tape_here", "_law_many"] spDraw) : FnOk P w K mg base CX0 2 f fd ["_law_tape_here", "_law_things"] (spAny K) := by
  refine F.ok sc__law_any (fun vs H Q E h => ?_) (fun cdv A outer s H vs Q E hr h => ?_)
  · obtain ⟨p, t, xs, Fo, rfl, _⟩ := h
    rfl
  · obtain ⟨p, t, xs, Fo, rfl, hp, ht, nt, h0, h1, q⟩ := h
    refine ⟨_, (pss_one (ps_ret (pe_ix (ix_listK (K := K) rfl) (pv 1) (pe_call G__law_pick (hr.mono (by first | decide | omega)) (by rfl) C__law_pick.g C__law_pick.k C__law_pick.b .nil pass0 (pa_cons (pv 0) (pa_cons (pe_callB (call_lenK (K := K) rfl) (by rfl) B.b_len PySem.boot_len (pa_cons (pv 1) pa_nil)) pa_nil))) (fun _ _ => rfl)))), ?_⟩
    walk_at "h0"
    refine ⟨p, _, Fo, rfl, hp, by omega, by omega, fun d H1 d0 d1 b1 p1 => ?_⟩
    obtain ⟨v, hv, hm⟩ := at_lt (xs := xs) d0 d1
    walk_at "hs"
    exact q _ _ hm b1 p1
def spMixed (K : PySem.W.Frag) : Sp := fun vs H Q _ => ∃ (p t : Addr) (n : Nat) (F : Addr → Prop), vs = [.ref p, .ref t] ∧ PoolAt H p F ∧ SqL K H t (nats (List.range' 1 n)) ∧ t ≠ p ∧ 1 ≤ n ∧ n ≤ 40 ∧ ∀ (D : Addr) (ms : List Nat) H', ms.Perm (List.range' 1 n) → But p H H' → PoolAt H' p F → H D = none → H' D = some (.lst (nats ms)) → Q (.ref D) H'
theorem ok_mixed {f : Addr} {fd : FuncData} (F : Fun K "_law_mixed" "_law_mixed" s__law_mixed f fd) (B : Bl Z mg) {f__law_pick : Addr} {fd__law_pick : FuncData} (C__law_pick : Cal K mg "_law_pick" f__law_pick fd__law_pick ["_law_tape_here", "_law_many"]) (G__law_pick : FnOk P w K mg base CX0 1 f__law_pick fd__law_pick ["_law_tape_here", "_law_many"] spDraw) : FnOk P w K mg base CX0 2 f fd ["_law_tape_here", "_law_things"] (spMixed K) := by
  refine F.ok sc__law_mixed (fun vs H Q E h => ?_) (fun cdv A outer s H vs Q E hr h => ?_)
  · obtain ⟨p, t, n, Fo, rfl, _⟩ := h
    rfl
  · obtain ⟨p, t, n, Fo, rfl, hp, ht, nt, n1, n2, q⟩ := h
    refine ⟨_, (pss_cons (ps_set (i := 2) sc__law_mixed.nd rfl (Or.inr rfl) (pe_callTy (call_lstK (K := K) rfl) (by rfl) B.b_list (by decide +kernel) (pa_cons (pv 1) pa_nil)))
 (pss_one (ps_ret (pe_lc (own := [("_law_at", 3)]) rfl sc__law_mixed.nd (pi_range1 rfl B.b_range (pa_cons (pe_callB (call_lenK (K := K) rfl) (by rfl) B.b_len PySem.boot_len (pa_cons (pv 1) pa_nil)) pa_nil)) (blkOk_by (N := ["_law_tape_here", "_law_things", "_law_left", "_law_at"]) (sc := defScope s__law_mixed) (by decide +kernel)) (fun _ _ _ _ _ => (pg_name (i := 3) sc__law_mixed.nd rfl (Or.inl rfl))) (fun _ _ _ _ _ => pts_nil) (fun _ _ _ _ _ => (pe_bmK (K := K) rfl PySem.F.plainAttrs_list PySem.F.slot_list_pop PySem.F.type_list_pop mt_popAt (pv 2) (pa_cons (pe_call G__law_pick (hr.mono (by first | decide | omega)) (by rfl) C__law_pick.g C__law_pick.k C__law_pick.b .nil pass0 (pa_cons (pv 0) (pa_cons (pe_callB (call_lenK (K := K) rfl) (by rfl) B.b_len PySem.boot_len (pa_cons (pv 2) pa_nil)) pa_nil))) pa_nil))))))), ?_⟩
    walk_at "h0"
    intro L hL
    walk_at "hs"
    rw [nats_length, List.length_range']
    refine ⟨n, rfl, by omega, by omega, fun D hD => ?_⟩
    have nD : H D = none := Same.free (H' := upd H L _) (same_new (Same.refl _) hL) hD
    have nLD : L ≠ D := ne_of_none upd_same hD
    refine lc_range (lo := 0) (n := Int.toNat n) (fun i H' => ∃ ls ms : List Nat, (ms ++ ls).Perm (List.range' 1 n) ∧ ms.length = i ∧ But p H H' ∧ PoolAt H' p (fun a => a = D ∨ a = L ∨ Fo a) ∧ H' L = some (.lst (nats ls)) ∧ H' D = some (.lst (nats ms)))
      ⟨List.range' 1 n, [], List.Perm.refl _, rfl, by walk_at "bt", (hp.own hL).own hD, by walk_at "hu", upd_same⟩ ?_ ?_
    · rintro i H' hi ⟨ls, ms, hpm, hm, b1, p1, eL, eD⟩
      have hlen : ms.length + ls.length = n := by rw [← List.length_append, hpm.length_eq, List.length_range']
      walk_at "hs"
      refine ⟨rfl, ?_⟩
      walk_at "hs"
      refine ⟨p, _, _, rfl, p1, by rw [nats_length]; omega, by rw [nats_length]; omega, fun d H2 d0 d1 b2 p2 => ?_⟩
      rw [nats_length] at d1
      obtain ⟨k, rfl⟩ := Int.eq_ofNat_of_zero_le d0
      have hk : k < ls.length := by omega
      have eL2 := b2 _ _ (p1.neF (.inr (.inl rfl))) eL
      have eD2 := b2 _ _ (p1.neF (.inl rfl)) eD
      walk_at "hs"
      refine x_popAt eL2 (by omega) (by omega) (ixN_nat (by rw [nats_length]; exact hk)) (nats_get (List.getElem?_eq_getElem hk)) ?_
      refine ⟨_, keepM (Ne.symm nLD) eD2, by rw [nats_length]; exact szLt (by omega), ls.eraseIdx k, ms ++ [ls[k]], ?_, by rw [List.length_append, hm]; rfl, ?_, (p2.mut (.inr (.inl rfl))).mut (.inl rfl), ?_, ?_⟩
      · rw [List.append_assoc]
        exact ((perm_erase (List.getElem?_eq_getElem hk)).append_left ms).trans hpm
      · exact ((b1.trans b2).mutF hL).mutF nD
      · rw [upd_ne nLD, upd_same, nats_erase]
      · rw [upd_same, nats_append]
        rfl
    · rintro H' ⟨ls, ms, hpm, hm, b1, p1, eL, eD⟩
      have hlen : ms.length + ls.length = n := by rw [← List.length_append, hpm.length_eq, List.length_range']
      have e : ls = [] := List.length_eq_zero_iff.mp (by omega)
      rw [e, List.append_nil] at hpm
      walk_at "hs"
      exact q D ms H' hpm b1 (p1.weak fun a h => .inr (.inr h)) nD eD
end
open PySem PySem.Spec L2
theorem PoolAt.lst {H : Hp} {p : Addr} {F : Addr → Prop} (h : PoolAt H p F) : ∃ xs, H p = some (.lst xs) := by
  obtain ⟨⟨g, z, gs, ss, c, n, hp, _⟩, _⟩ := h
  exact ⟨_, hp⟩
theorem num_nat {lo : Int} {n k : Nat} (h1 : lo ≤ k) (h2 : k ≤ n) : numV lo n (.int k) = true := by
  rw [numT h1]
  exact decide_eq_true (by omega)
theorem upvs_some (hs : List Nat) : upvs (rightU hs) = nats hs := by
  unfold upvs rightU nats
  rw [List.map_map]
  rfl
def spLaw (K : PySem.W.Frag) : Sp := fun vs H Q _ => ∃ (a : Addr) (ns : List Int), vs = [.ref a] ∧ SqL K H a (ns.map V.int) ∧ ns.length ≤ 63 ∧ ∀ H', Q (.bl true) H'
set_option maxRecDepth 100000
set_option maxHeartbeats 1000000
open PySem PySem.Spec L2


theorem sc__is_tuple_of : FnScope ["many", "thing"] ["many", "thing"] (defScope s__is_tuple_of) := ⟨rfl, rfl, rfl, by decide +kernel, rfl, by decide +kernel, by decide +kernel⟩
theorem sc__is_up : FnScope ["blocks", "block", "thing"] ["blocks", "block", "thing"] (defScope s__is_up) := ⟨rfl, rfl, rfl, by decide +kernel, rfl, by decide +kernel, by decide +kernel⟩
theorem sc__is_listing : FnScope ["place", "block", "thing"] ["place", "block", "thing"] (defScope s__is_listing) := ⟨rfl, rfl, rfl, by decide +kernel, rfl, by decide +kernel, by decide +kernel⟩
theorem sc_Words___init__ : FnScope ["self", "blocks", "ups", "lists", "block", "place"] ["self", "blocks", "ups", "lists"] (defScope s_Words___init__) := ⟨rfl, rfl, rfl, by decide +kernel, rfl, by decide +kernel, by decide +kernel⟩
theorem putF_len (f : Str) (v : V) : ∀ fs : List (Str × V), (putF f v fs).length ≤ fs.length + 1
  | [] => Nat.le_refl _
  | (g, x) :: r => by
    have ih := putF_len f v r
    unfold putF
    split
    · simp
    · rw [List.length_cons, List.length_cons]
      omega
def refs (as : List Addr) : List V := as.map V.ref
theorem refs_length (as : List Addr) : (refs as).length = as.length := List.length_map ..
theorem refs_get {as : List Addr} {i : Nat} {a : Addr} (h : as[i]? = some a) : (refs as)[i]? = some (.ref a) := by
  unfold refs
  rw [List.getElem?_map, h]
  rfl
theorem refs_app (c d : List Addr) : refs (c ++ d) = refs c ++ refs d := List.map_append ..
/-- rows, told by where they are -/
structure Rows (H : Hp) (as : List Addr) (ls : List (List (Option Bool))) : Prop where
  len : as.length = ls.length
  at_ : ∀ (i : Nat) (a : Addr) (r : List (Option Bool)), as[i]? = some a → ls[i]? = some r → H a = some (.tup (wds r))
theorem Rows.same {H H' : Hp} {as : List Addr} {ls : List (List (Option Bool))} (s : Same H H') (h : Rows H as ls) : Rows H' as ls := ⟨h.len, fun i a r ha hr => s _ _ (h.at_ i a r ha hr)⟩
theorem Rows.but {H H' : Hp} {p : Addr} {as : List Addr} {ls : List (List (Option Bool))} (b : But p H H') (n : ∀ xs, H p ≠ some (.tup xs)) (h : Rows H as ls) : Rows H' as ls := ⟨h.len, fun i a r ha hr => b _ _ (fun e => n _ (e ▸ h.at_ i a r ha hr)) (h.at_ i a r ha hr)⟩
theorem Rows.get {H : Hp} {as : List Addr} {ls : List (List (Option Bool))} (h : Rows H as ls) {i : Nat} (hi : i < ls.length) : ∃ a, as[i]? = some a ∧ H a = some (.tup (wds ls[i])) := by
  have h1 : i < as.length := by rw [h.len]; exact hi
  exact ⟨as[i], List.getElem?_eq_getElem h1, h.at_ i _ _ (List.getElem?_eq_getElem h1) (List.getElem?_eq_getElem hi)⟩
/-- the class of words -/
structure WCls (K : PySem.W.Frag) (Z : Ad) : Prop where
  c : Cls K Z.a_Words
  nb : NoAttr K Z.a_Words "blocks"
  nu : NoAttr K Z.a_Words "ups"
  nl : NoAttr K Z.a_Words "lists"
/-- words at x -/
def WordsAt (Z : Ad) (H : Hp) (x : Addr) (n : Nat) (us : List (Option Nat)) (ls : List (List (Option Bool))) : Prop := ∃ dx fs tu tl as, H x = some (.ins Z.a_Words dx fs) ∧ fs.lookup ("blocks" : Str) = some (.int n) ∧ fs.lookup ("ups" : Str) = some (.ref tu) ∧ fs.lookup ("lists" : Str) = some (.ref tl) ∧ H tu = some (.tup (upvs us)) ∧ H tl = some (.tup (refs as)) ∧ Rows H as ls
theorem WordsAt.same {Z : Ad} {H H' : Hp} {x : Addr} {n : Nat} {us : List (Option Nat)} {ls : List (List (Option Bool))} (s : Same H H') (h : WordsAt Z H x n us ls) : WordsAt Z H' x n us ls := by
  obtain ⟨dx, fs, tu, tl, as, h1, h2, h3, h4, h5, h6, h7⟩ := h
  exact ⟨dx, fs, tu, tl, as, s _ _ h1, h2, h3, h4, s _ _ h5, s _ _ h6, h7.same s⟩
section
variable {P : Program} {w : World} {K : PySem.W.Frag} {mg : Str → Option Value} {base : Heap} {Z : Ad}
def spIsTup : Sp := fun vs H Q _ => ∃ (m : Int) (t : Addr) (xs : List V), vs = [.int m, .ref t] ∧ H t = some (.tup xs) ∧ (xs.length : Int) = m ∧ Q (.bl true) H
theorem ok_isTup {f : Addr} {fd : FuncData} (F : Fun K "_is_tuple_of" "_is_tuple_of" s__is_tuple_of f fd) (B : Bl Z mg) : FnOk P w K mg base CX0 1 f fd ["many", "thing"] spIsTup := by
  refine F.ok sc__is_tuple_of (fun vs H Q E h => ?_) (fun cdv A outer s H vs Q E hr h => ?_)
  · obtain ⟨m, t, xs, rfl, _⟩ := h
    rfl
  · obtain ⟨m, t, xs, rfl, ht, hm, q⟩ := h
    refine ⟨_, (pss_one (ps_ret (pe_and (pe_callB (call_isiK' (K := K) rfl) (by rfl) B.b_isinstance (by decide +kernel) (pa_cons (pv 1) (pa_cons (pe_bltn (v := .ty "tuple") (by rfl) B.b_tuple (by decide +kernel) rfl) pa_nil))) (pe_one (pe_cmpR op_eq (pe_callB (call_lenK (K := K) rfl) (by rfl) B.b_len PySem.boot_len (pa_cons (pv 1) pa_nil)) (pv 0) (nomark _)))))), ?_⟩
    walk_at "h0"
    rw [decide_eq_true hm]
    exact q
def spIsUp : Sp := fun vs H Q _ => ∃ (n : Nat) (b : Int) (o : Option Nat), vs = [.int n, .int b, upV o] ∧ (∀ q, o = some q → q ≤ n ∧ (q : Int) ≠ b) ∧ Q (.bl true) H
theorem ok_isUp {f : Addr} {fd : FuncData} (F : Fun K "_is_up" "_is_up" s__is_up f fd) (B : Bl Z mg) {f_is_within : Addr} {fd_is_within : FuncData} (C_is_within : Cal K mg "is_within" f_is_within fd_is_within ["least", "most", "thing"]) (G_is_within : FnOk P w K mg base CX0 1 f_is_within fd_is_within ["least", "most", "thing"] spWithin) : FnOk P w K mg base CX0 2 f fd ["blocks", "block", "thing"] spIsUp := by
  refine F.ok sc__is_up (fun vs H Q E h => ?_) (fun cdv A outer s H vs Q E hr h => ?_)
  · obtain ⟨n, b, o, rfl, _⟩ := h
    rfl
  · obtain ⟨n, b, o, rfl, ho, q⟩ := h
    refine ⟨_, (pss_one (ps_ret (pe_or (pe_cmpR op_isNk (pv 2) pe_non (nomark _)) (pe_one (pe_and (pe_call G_is_within (hr.mono (by first | decide | omega)) (by rfl) C_is_within.g C_is_within.k C_is_within.b .nil pass0 (pa_cons pe_int (pa_cons (pv 0) (pa_cons (pv 2) pa_nil)))) (pe_one (pe_cmpR op_ne (pv 2) (pv 1) (nomark _)))))))), ?_⟩
    cases o with
    | none =>
      dsimp only [upV]
      walk_at "h0"
      exact q
    | some k =>
      dsimp only [upV]
      walk_at "h0"
      obtain ⟨h1, h2⟩ := ho k rfl
      refine ⟨_, _, _, rfl, True.intro, ?_⟩
      rw [num_nat (by omega) h1]
      walk_at "hs"
      rw [decide_eq_true h2]
      exact q
def spIsLst : Sp := fun vs H Q _ => ∃ (p b : Int) (o : Option Bool), vs = [.int p, .int b, wdV o] ∧ (p = b → o = some false) ∧ Q (.bl true) H
theorem ok_isLst {f : Addr} {fd : FuncData} (F : Fun K "_is_listing" "_is_listing" s__is_listing f fd) (B : Bl Z mg) : FnOk P w K mg base CX0 1 f fd ["place", "block", "thing"] spIsLst := by
  refine F.ok sc__is_listing (fun vs H Q E h => ?_) (fun cdv A outer s H vs Q E hr h => ?_)
  · obtain ⟨p, b, o, rfl, _⟩ := h
    rfl
  · obtain ⟨p, b, o, rfl, ho, q⟩ := h
    refine ⟨_, (pss_cons (ps_if (pt_cmpR op_eq (pv 0) (pv 1) (nomark _)) (pss_one (ps_ret (pe_cmpR op_isBk (pv 2) pe_bl (nomark _)))) pss_nil)
 (pss_one (ps_ret (pe_or (pe_cmpR op_isNk (pv 2) pe_non (nomark _)) (pe_one (pe_callB (call_isiK' (K := K) rfl) (by rfl) B.b_isinstance (by decide +kernel) (pa_cons (pv 2) (pa_cons (pe_bltn (v := .ty "bool") (by rfl) B.b_bool (by decide +kernel) rfl) pa_nil)))))))), ?_⟩
    walk_at "h0"
    refine x_isd (fun c => ?_) (fun c => ?_)
    · walk_at "hs"
      rw [decide_eq_true (ho c)]
      exact q
    · walk_at "hs"
      cases o with
      | none =>
        dsimp only [wdV]
        walk_at "hs"
        exact q
      | some k =>
        dsimp only [wdV]
        walk_at "hs"
        exact q
def spWords (Z : Ad) : Sp := fun vs H Q _ => ∃ (x dx tu tl : Addr) (n : Nat) (us : List (Option Nat)) (ls : List (List (Option Bool))) (as : List Addr), vs = [.ref x, .int n, .ref tu, .ref tl] ∧ H x = some (.ins Z.a_Words dx []) ∧ H tu = some (.tup (upvs us)) ∧ H tl = some (.tup (refs as)) ∧ Rows H as ls ∧ WdOk n us ls ∧
  ∀ H', But x H H' → WordsAt Z H' x n us ls → Q .non H'
theorem ok_words {f : Addr} {fd : FuncData} (F : Fun K "__init__" "Words.__init__" s_Words___init__ f fd) (B : Bl Z mg) (W : WCls K Z) {f_is_within : Addr} {fd_is_within : FuncData} (C_is_within : Cal K mg "is_within" f_is_within fd_is_within ["least", "most", "thing"]) (G_is_within : FnOk P w K mg base CX0 1 f_is_within fd_is_within ["least", "most", "thing"] spWithin) {f__is_tuple_of : Addr} {fd__is_tuple_of : FuncData} (C__is_tuple_of : Cal K mg "_is_tuple_of" f__is_tuple_of fd__is_tuple_of ["many", "thing"]) (G__is_tuple_of : FnOk P w K mg base CX0 1 f__is_tuple_of fd__is_tuple_of ["many", "thing"] spIsTup)
    {f__is_up : Addr} {fd__is_up : FuncData} (C__is_up : Cal K mg "_is_up" f__is_up fd__is_up ["blocks", "block", "thing"]) (G__is_up : FnOk P w K mg base CX0 2 f__is_up fd__is_up ["blocks", "block", "thing"] spIsUp) {f__is_listing : Addr} {fd__is_listing : FuncData} (C__is_listing : Cal K mg "_is_listing" f__is_listing fd__is_listing ["place", "block", "thing"]) (G__is_listing : FnOk P w K mg base CX0 1 f__is_listing fd__is_listing ["place", "block", "thing"] spIsLst) : FnOk P w K mg base CX0 3 f fd ["self", "blocks", "ups", "lists"] (spWords Z) := by
  refine F.ok sc_Words___init__ (fun vs H Q E h => ?_) (fun cdv A outer s H vs Q E hr h => ?_)
  · obtain ⟨x, dx, tu, tl, n, us, ls, as, rfl, _⟩ := h
    rfl
  · obtain ⟨x, dx, tu, tl, n, us, ls, as, rfl, hx, hu, hl, hw, ok, q⟩ := h
    refine ⟨_, (pss_cons (ps_if (pt_not (pt_val (pe_call G_is_within (hr.mono (by first | decide | omega)) (by rfl) C_is_within.g C_is_within.k C_is_within.b .nil pass0 (pa_cons pe_int (pa_cons (pe_glob (v := .int (40)) rfl B.c_MOST_BLOCKS ⟨_, rfl⟩) (pa_cons (pv 1) pa_nil)))))) (pss_one ps_never) pss_nil)
 (pss_cons (ps_if (pt_not (pt_val (pe_call G__is_tuple_of (hr.mono (by first | decide | omega)) (by rfl) C__is_tuple_of.g C__is_tuple_of.k C__is_tuple_of.b .nil pass0 (pa_cons (pv 1) (pa_cons (pv 2) pa_nil))))) (pss_one ps_never) pss_nil)
 (pss_cons (ps_for PassesOwn.never rfl (pi_range2 rfl B.b_range (pa_cons pe_int (pa_cons (pe_op op_add (pv 1) pe_int) pa_nil))) (pg_name (i := 4) sc_Words___init__.nd rfl (Or.inl rfl)) (pss_one (ps_if (pt_not (pt_val (pe_call G__is_up (hr.mono (by first | decide | omega)) (by rfl) C__is_up.g C__is_up.k C__is_up.b .nil pass0 (pa_cons (pv 1) (pa_cons (pv 4) (pa_cons (pe_ix (ix_tupK (K := K) rfl) (pv 2) (pe_op op_sub (pv 4) pe_int) (fun _ _ => rfl)) pa_nil)))))) (pss_one ps_never) pss_nil)))
 (pss_cons (ps_if (pt_not (pt_val (pe_call G__is_tuple_of (hr.mono (by first | decide | omega)) (by rfl) C__is_tuple_of.g C__is_tuple_of.k C__is_tuple_of.b .nil pass0 (pa_cons (pe_op op_add (pv 1) pe_int) (pa_cons (pv 3) pa_nil))))) (pss_one ps_never) pss_nil)
 (pss_cons (ps_for PassesOwn.never rfl (pi_range1 rfl B.b_range (pa_cons (pe_op op_add (pv 1) pe_int) pa_nil)) (pg_name (i := 5) sc_Words___init__.nd rfl (Or.inl rfl)) (pss_one (ps_if (pt_not (pt_val (pe_call G__is_tuple_of (hr.mono (by first | decide | omega)) (by rfl) C__is_tuple_of.g C__is_tuple_of.k C__is_tuple_of.b .nil pass0 (pa_cons (pv 1) (pa_cons (pe_ix (ix_tupK (K := K) rfl) (pv 3) (pv 5) (fun _ _ => rfl)) pa_nil))))) (pss_one ps_never) pss_nil)))
 (pss_cons (ps_for PassesOwn.never rfl (pi_range1 rfl B.b_range (pa_cons (pe_op op_add (pv 1) pe_int) pa_nil)) (pg_name (i := 5) sc_Words___init__.nd rfl (Or.inl rfl)) (pss_one (ps_for PassesOwn.never rfl (pi_range2 rfl B.b_range (pa_cons pe_int (pa_cons (pe_op op_add (pv 1) pe_int) pa_nil))) (pg_name (i := 4) sc_Words___init__.nd rfl (Or.inl rfl)) (pss_one (ps_if (pt_not (pt_val (pe_call G__is_listing (hr.mono (by first | decide | omega)) (by rfl) C__is_listing.g C__is_listing.k C__is_listing.b .nil pass0 (pa_cons (pv 5) (pa_cons (pv 4) (pa_cons (pe_ix (ix_tupK (K := K) rfl) (pe_ix (ix_tupK (K := K) rfl) (pv 3) (pv 5) (fun _ _ => rfl)) (pe_op op_sub (pv 4) pe_int) (fun _ _ => rfl)) pa_nil)))))) (pss_one ps_never) pss_nil)))))
 (pss_cons (ps_fld (pv 0) (pv 1) rfl)
 (pss_cons (ps_fld (pv 0) (pv 2) rfl)
 (pss_one (ps_fld (pv 0) (pv 3) rfl)))))))))), ?_⟩
    have n1 := ok.n1
    have n2 := ok.n2
    have uln := ok.ul
    have lln := ok.ll
    have asn : as.length = n + 1 := by rw [hw.len, lln]
    walk_at "h0"
    refine ⟨_, _, _, rfl, True.intro, ?_⟩
    rw [show numV 1 40 (.int (n : Nat)) = true from num_nat (n := 40) (by omega) (by omega)]
    walk_at "hs"
    refine ⟨_, tu, _, rfl, hu, by rw [upvs_length, uln], ?_⟩
    walk_at "hs"
    refine ⟨1, (n : Int) + 1, rfl, ⟨by omega, by omega, by omega, by omega⟩, ?_⟩
    refine lp_range (lo := 1) (n := Int.toNat ((n : Int) + 1 - 1)) (fun i σ' H' => (∃ x4 x5, σ' = [some (.ref x), some (.int n), some (.ref tu), some (.ref tl), x4, x5]) ∧ H' = H)
      ⟨⟨_, _, rfl⟩, rfl⟩ ?_ ?_
    · rintro i σ' H' hi ⟨⟨x4, x5, rfl⟩, rfl⟩
      have hi' : i < us.length := by omega
      have ha := at_pred (upvs_get (List.getElem?_eq_getElem hi'))
      have ht : SqT K H' tu (upvs us) := .of hu
      walk_at "hs"
      refine ⟨n, _, _, rfl, fun k hk => ?_, ?_⟩
      · have := ok.uo i k (by rw [List.getElem?_eq_getElem hi', hk])
        exact ⟨this.1, fun e => this.2 (by omega)⟩
      walk_at "hs"
      exact ⟨⟨_, _, rfl⟩, rfl⟩
    rintro σ' H' ⟨⟨x4, x5, rfl⟩, rfl⟩
    walk_at "hs"
    refine ⟨_, tl, _, rfl, hl, by rw [refs_length, asn]; rfl, ?_⟩
    walk_at "hs"
    refine ⟨(n : Int) + 1, rfl, by omega, by omega, ?_⟩
    have tt : SqT K H' tl (refs as) := .of hl
    have row : ∀ i : Nat, i < n + 1 → ∃ a, ∃ h : i < ls.length, atI (refs as) (0 + (i : Int)) = some (.ref a) ∧ H' a = some (.tup (wds ls[i])) := fun i hi => by
      obtain ⟨a, ha, he⟩ := hw.get (i := i) (by omega)
      refine ⟨a, by omega, ?_, he⟩
      rw [Int.zero_add]
      exact atI_nat (refs_get ha)
    refine lp_range (lo := 0) (n := Int.toNat ((n : Int) + 1)) (fun i σ' H2 => (∃ x4 x5, σ' = [some (.ref x), some (.int n), some (.ref tu), some (.ref tl), x4, x5]) ∧ H2 = H')
      ⟨⟨_, _, rfl⟩, rfl⟩ ?_ ?_
    · rintro i σ' H2 hi ⟨⟨x4, x5, rfl⟩, rfl⟩
      obtain ⟨a, hil, ha, he⟩ := row i (by omega)
      walk_at "hs"
      refine ⟨_, a, _, rfl, he, by rw [wds_length, ok.rl _ (List.getElem_mem hil)], ?_⟩
      walk_at "hs"
      exact ⟨⟨_, _, rfl⟩, rfl⟩
    rintro σ' H2 ⟨⟨x4, x5, rfl⟩, rfl⟩
    walk_at "hs"
    refine ⟨(n : Int) + 1, rfl, by omega, by omega, ?_⟩
    refine lp_range (lo := 0) (n := Int.toNat ((n : Int) + 1)) (fun i σ' H3 => (∃ x4 x5, σ' = [some (.ref x), some (.int n), some (.ref tu), some (.ref tl), x4, x5]) ∧ H3 = H2)
      ⟨⟨_, _, rfl⟩, rfl⟩ ?_ ?_
    · rintro i σ' H3 hi ⟨⟨x4, x5, rfl⟩, rfl⟩
      obtain ⟨a, hil, ha, he⟩ := row i (by omega)
      have rln := ok.rl _ (List.getElem_mem hil)
      walk_at "hs"
      refine ⟨1, (n : Int) + 1, rfl, ⟨by omega, by omega, by omega, by omega⟩, ?_⟩
      refine lp_range (lo := 1) (n := Int.toNat ((n : Int) + 1 - 1)) (fun j σ' H4 => (∃ x4, σ' = [some (.ref x), some (.int n), some (.ref tu), some (.ref tl), x4, some (.int (0 + (i : Int)))]) ∧ H4 = H3)
        ⟨⟨_, rfl⟩, rfl⟩ ?_ ?_
      · rintro j σ' H4 hj ⟨⟨x4, rfl⟩, rfl⟩
        have hjl : j < ls[i].length := by omega
        have hb := at_pred (wds_get (List.getElem?_eq_getElem hjl))
        have ht : SqT K H4 a (wds ls[i]) := .of he
        walk_at "hs"
        refine ⟨_, _, _, rfl, fun e => ?_, ?_⟩
        · have := ok.dg i ls[i] (List.getElem?_eq_getElem hil) (by omega)
          rw [show i - 1 = j by omega, List.getElem?_eq_getElem hjl] at this
          exact Option.some.inj this
        walk_at "hs"
        exact ⟨⟨_, rfl⟩, rfl⟩
      · rintro σ' H4 ⟨⟨x4, rfl⟩, rfl⟩
        exact ⟨⟨_, _, rfl⟩, rfl⟩
    rintro σ' H3 ⟨⟨x4, x5, rfl⟩, rfl⟩
    walk_at "hs"
    refine ⟨x, _, dx, _, rfl, hx, W.c, W.nb, by decide, ?_⟩
    walk_at "hs"
    refine ⟨x, _, dx, _, rfl, upd_same, W.c, W.nu, Nat.lt_of_le_of_lt (putF_len ..) (by decide), ?_⟩
    walk_at "hs"
    refine ⟨x, _, dx, _, rfl, upd_same, W.c, W.nl, Nat.lt_of_le_of_lt (putF_len ..) (Nat.lt_of_le_of_lt (Nat.succ_le_succ (putF_len ..)) (by decide)), ?_⟩
    walk_at "hs"
    have nu : tu ≠ x := fun e => by
      rw [e, hx] at hu
      cases hu
    have nl : tl ≠ x := fun e => by
      rw [e, hx] at hl
      cases hl
    refine q _ (((But.refl x H3).mut).mut.mut) ⟨dx, _, tu, tl, as, upd_same, rfl, rfl, rfl, keepM nu (keepM nu (keepM nu hu)), keepM nl (keepM nl (keepM nl hl)), ?_⟩
    exact hw.but (((But.refl x H3).mut).mut.mut) fun xs e => by
      rw [hx] at e
      cases e
end
set_option maxRecDepth 100000
set_option maxHeartbeats 1000000
open PySem PySem.Spec L2


theorem sc_costs : FnScope ["words", "block", "up", "listed", "many", "found", "place", "wrong", "of_place"] ["words", "block"] (defScope s_costs) := ⟨rfl, rfl, rfl, by decide +kernel, rfl, by decide +kernel, by decide +kernel⟩
/-- costs by places, None for the block itself -/
def costsV (us : List (Option Nat)) (ls : List (List (Option Bool))) (b k : Nat) : List V := (List.range k).map fun p => if p = b then V.non else .int (costN us ls b p : Nat)
theorem costsV_len (us : List (Option Nat)) (ls : List (List (Option Bool))) (b k : Nat) : (costsV us ls b k).length = k := by
  unfold costsV
  rw [List.length_map, List.length_range]
theorem costsV_snoc (us : List (Option Nat)) (ls : List (List (Option Bool))) (b k : Nat) : costsV us ls b (k + 1) = costsV us ls b k ++ [if k = b then V.non else .int (costN us ls b k : Nat)] := by
  unfold costsV
  rw [List.range_succ, List.map_append]
  rfl
theorem costsV_get (us : List (Option Nat)) (ls : List (List (Option Bool))) (b : Nat) {k i : Nat} (h : i < k) : (costsV us ls b k)[i]? = some (if i = b then V.non else .int (costN us ls b i : Nat)) := by
  unfold costsV
  rw [List.getElem?_map, List.getElem?_range h]
  rfl
section
variable {P : Program} {w : World} {K : PySem.W.Frag} {mg : Str → Option Value} {base : Heap} {Z : Ad}
def spCosts (Z : Ad) : Sp := fun vs H Q _ => ∃ (x : Addr) (n b : Nat) (us : List (Option Nat)) (ls : List (List (Option Bool))), vs = [.ref x, .int b] ∧ WordsAt Z H x n us ls ∧ WdOk n us ls ∧ 1 ≤ b ∧ b ≤ n ∧ ∀ D H', Same H H' → H D = none → H' D = some (.lst (costsV us ls b (n + 1))) → Q (.ref D) H'
theorem ok_costs {f : Addr} {fd : FuncData} (F : Fun K "costs" "costs" s_costs f fd) (B : Bl Z mg) (W : WCls K Z) : FnOk P w K mg base CX0 1 f fd ["words", "block"] (spCosts Z) := by
  refine F.ok sc_costs (fun vs H Q E h => ?_) (fun cdv A outer s H vs Q E hr h => ?_)
  · obtain ⟨x, n, b, us, ls, rfl, _⟩ := h
    rfl
  · obtain ⟨x, n, b, us, ls, rfl, ⟨dx, fs, tu, tl, as, h1, h2, h3, h4, h5, h6, h7⟩, ok, b1, b2, q⟩ := h
    have n2 := ok.n2
    have hub : b - 1 < us.length := by rw [ok.ul]; omega
    have au : atI (upvs us) ((b : Int) - 1) = some (upV us[b - 1]) := by
      rw [show (b : Int) - 1 = ((b - 1 : Nat) : Int) by omega]
      exact upvs_at (List.getElem?_eq_getElem hub)
    have tu5 : SqT K H tu (upvs us) := .of h5
    have tl6 : SqT K H tl (refs as) := .of h6
    have asn : as.length = n + 1 := by rw [h7.len, ok.ll]
    have cl : (col ls b).length = n + 1 := by rw [col_len, ok.ll]
    refine ⟨_, (pss_cons (ps_set (i := 2) sc_costs.nd rfl (Or.inl rfl) (pe_ix (ix_tupK (K := K) rfl) (pe_fldK (K := K) rfl (pv 0) rfl) (pe_op op_sub (pv 1) pe_int) (fun _ _ => rfl)))
 (pss_cons (ps_setLc (i := 3) (own := [("of_place", 8)]) rfl sc_costs.nd rfl rfl (sw_true rfl rfl rfl (by decide +kernel)) (pi_tup (pe_fldK (K := K) rfl (pv 0) rfl)) (blkOk_by (N := ["words", "block", "up", "listed", "many", "found", "place", "wrong", "of_place"]) (sc := defScope s_costs) (by decide +kernel)) (fun _ _ _ _ _ => (pg_name (i := 8) sc_costs.nd rfl (Or.inl rfl))) (fun _ _ _ _ _ => pts_nil) (fun _ _ _ _ _ => (pe_ix (ix_tupK (K := K) rfl) (pv 8) (pe_op op_sub (pv 1) pe_int) (fun _ _ => rfl))))
 (pss_cons (ps_set (i := 4) sc_costs.nd rfl (Or.inl rfl) (pe_bmK (K := K) rfl PySem.F.plainAttrs_list PySem.F.slot_list_count PySem.F.type_list_count (mt_lcountB (K := K) rfl) (pv 3) (pa_cons pe_bl pa_nil)))
 (pss_cons (ps_set (i := 5) sc_costs.nd rfl (Or.inl rfl) (pe_lst pa_nil))
 (pss_cons (ps_for PassesOwn.never rfl (pi_range1 rfl B.b_range (pa_cons (pe_op op_add (pe_fldK (K := K) rfl (pv 0) rfl) pe_int) pa_nil)) (pg_name (i := 6) sc_costs.nd rfl (Or.inl rfl)) (C8.pss_cut (ps_set (i := 7) sc_costs.nd rfl (Or.inl rfl) (pe_ifExp (pt_cmpR op_isBk (pe_ix (ix_listK (K := K) rfl) (pv 3) (pv 6) (fun _ _ => rfl)) pe_bl (nomark _)) (pe_op op_sub (pv 4) pe_int) (pv 4)))
 (C8.pss_cut (ps_if (pt_cmpR op_isBk (pe_ix (ix_listK (K := K) rfl) (pv 3) (pv 6) (fun _ _ => rfl)) pe_bl (nomark _)) (pss_one (ps_aug (i := 7) sc_costs.nd rfl (Or.inl rfl) pe_int ip_add)) pss_nil)
 (C8.pss_cut (ps_if (PW.pt (pw_and (pt_cmpR op_notNk (pv 2) pe_non (nomark _)) (pw_and1 (pt_cmpR op_ne (pv 2) (pv 6) (nomark _))))) (pss_one (ps_aug (i := 7) sc_costs.nd rfl (Or.inl rfl) pe_int ip_add)) pss_nil)
 (pss_one (ps_expr (pe_bmK (K := K) rfl PySem.F.plainAttrs_list PySem.F.slot_list_append PySem.F.type_list_append mt_append (pv 5) (pa_cons (pe_ifExp (pt_cmpR op_eq (pv 6) (pv 1) (nomark _)) pe_non (pv 7)) pa_nil))))))))
 (pss_one (ps_ret (pv 5)))))))), ?_⟩
    walk_at "h0"
    refine ⟨x, _, dx, _, _, rfl, h1, W.c, W.nu, h3, ?_⟩
    walk_at "hs"
    refine ⟨x, _, dx, _, _, rfl, h1, W.c, W.nl, h4, ?_⟩
    refine ⟨tl, rfl, ⟨_, tl6⟩, fun L hL => ?_⟩
    refine lc_tup (K := K) (xs := refs as) (fun j H2 => Same H H2 ∧ H2 L = some (.lst (wds ((col ls b).take j)))) ⟨same_new (Same.refl _) hL, upd_same⟩ (fun j H2 _ h => h.1.seqT tl6) ?_ ?_
    · rintro j v H2 hv ⟨s2, eL⟩
      have hj : j < ls.length := by
        have := (List.getElem?_eq_some_iff.mp hv).1
        rw [refs_length, asn] at this
        rw [ok.ll]
        exact this
      obtain ⟨a, ha, he⟩ := h7.get hj
      have hv2 : v = .ref a := by
        have e := refs_get ha
        rw [hv] at e
        exact Option.some.inj e
      subst hv2
      have rln := ok.rl _ (List.getElem_mem hj)
      have hbj : b - 1 < ls[j].length := by omega
      have ta : SqT K H2 a (wds ls[j]) := .of (s2 _ _ he)
      have ab : atI (wds ls[j]) ((b : Int) - 1) = some (wdV ls[j][b - 1]) := by
        rw [show (b : Int) - 1 = ((b - 1 : Nat) : Int) by omega]
        exact wds_at (List.getElem?_eq_getElem hbj)
      walk_at "hs"
      refine ⟨rfl, ?_⟩
      walk_at "hs"
      refine ⟨_, eL, szLt (by rw [wds_length, List.length_take]; omega), same_mut s2 hL, ?_⟩
      have ec : (col ls b)[j]? = some ls[j][b - 1] := by
        unfold col
        rw [List.getElem?_map, List.getElem?_eq_getElem hj]
        show some ((ls[j][b - 1]?).getD none) = _
        rw [List.getElem?_eq_getElem hbj]
        rfl
      rw [upd_same, List.take_succ, ec, wds_app]
      rfl
    rintro H1 ⟨s1, eL⟩
    rw [refs_length, asn, ← cl, List.take_length] at eL
    walk_at "hs"
    refine x_cntB (.of eL) ?_
    walk_at "hs"
    intro D hD
    walk_at "hs"
    refine ⟨x, _, dx, _, _, rfl, keepN (s1 _ _ h1) hD, W.c, W.nb, h2, ?_⟩
    walk_at "hs"
    refine ⟨(n : Int) + 1, rfl, by omega, by omega, ?_⟩
    have eL1 := keepN (o' := .lst []) eL hD
    have nLD : L ≠ D := ne_of_none eL hD
    refine lp_range (lo := 0) (n := Int.toNat ((n : Int) + 1)) (fun i σ' H' => (∃ x6 x7, σ' = [some (.ref x), some (.int b), some (upV us[b - 1]), some (.ref L), some (.int ((col ls b).count (some true) : Nat)), some (.ref D), x6, x7, none]) ∧ Same H H' ∧ H' L = some (.lst (wds (col ls b))) ∧ H' D = some (.lst (costsV us ls b i)))
      ⟨⟨_, _, rfl⟩, same_new s1 hD, eL1, upd_same⟩ ?_ ?_
    · rintro i σ' H' hi ⟨⟨x6, x7, rfl⟩, s2, eL2, eD⟩
      have hic : i < (col ls b).length := by omega
      obtain ⟨o, ho⟩ : ∃ o, (col ls b)[i]? = some o := ⟨_, List.getElem?_eq_getElem hic⟩
      have ao : atI (wds (col ls b)) (0 + (i : Int)) = some (wdV o) := by
        rw [Int.zero_add]
        exact wds_at ho
      have tL : SqL K H' L (wds (col ls b)) := .of eL2
      have key := cost_is (us := us) (ls := ls) (b := b) (p := i) (by rw [ok.ll]; omega)
      rw [ho] at key
      walk_at "hs"
      refine ⟨fun σ' H2 => ∃ v : Int, σ' = [some (.ref x), some (.int b), some (upV us[b - 1]), some (.ref L), some (.int ((col ls b).count (some true) : Nat)), some (.ref D), some (.int (0 + (i : Int))), some (.int v), none] ∧ H2 = H' ∧ v + (if o = some true then 1 else 0) = (trueN (col ls b) : Nat), ?_, ?_⟩
      · walk_at "hs"
        refine x_isd (fun c => ?_) (fun c => ?_)
        · walk_at "hs"
          refine ⟨_, rfl, rfl, ?_⟩
          rw [if_pos c]
          show ((col ls b).count (some true) : Nat) - (1 : Int) + 1 = ((col ls b).count (some true) : Nat)
          omega
        · walk_at "hs"
          refine ⟨_, rfl, rfl, ?_⟩
          rw [if_neg c]
          show ((col ls b).count (some true) : Nat) + (0 : Int) = ((col ls b).count (some true) : Nat)
          omega
      rintro σ2 H2 ⟨v, rfl, rfl, hv⟩
      refine ⟨fun σ' H3 => ∃ v : Int, σ' = [some (.ref x), some (.int b), some (upV us[b - 1]), some (.ref L), some (.int ((col ls b).count (some true) : Nat)), some (.ref D), some (.int (0 + (i : Int))), some (.int v), none] ∧ H3 = H2 ∧ v + (if o = some true then 1 else 0) = (trueN (col ls b) : Nat) + (if o = some false then 1 else 0), ?_, ?_⟩
      · walk_at "hs"
        refine x_isd (fun c => ?_) (fun c => ?_)
        · walk_at "hs"
          refine ⟨_, rfl, rfl, ?_⟩
          rw [if_pos c]
          omega
        · walk_at "hs"
          refine ⟨_, rfl, rfl, ?_⟩
          rw [if_neg c]
          omega
      rintro σ3 H3 ⟨v, rfl, rfl, hv⟩
      refine ⟨fun σ' H4 => σ' = [some (.ref x), some (.int b), some (upV us[b - 1]), some (.ref L), some (.int ((col ls b).count (some true) : Nat)), some (.ref D), some (.int (0 + (i : Int))), some (.int (costN us ls b i : Nat)), none] ∧ H4 = H3, ?_, ?_⟩
      · have eu : up1 us b i = match us[b - 1] with | some q => if q = i then 0 else 1 | none => 0 := by
          unfold up1
          rw [List.getElem?_eq_getElem hub]
          cases us[b - 1] <;> rfl
        have fin : ∀ z : Int, z = v + (up1 us b i : Nat) → z = (costN us ls b i : Nat) := fun z hz => by
          rw [hz]
          simp only [Option.some.injEq] at key hv
          split at key <;> split at key <;> simp_all <;> omega
        cases hu : us[b - 1] with
        | none =>
          rw [hu] at eu
          dsimp only [upV]
          walk_at "hs"
          rw [fin v (by rw [eu]; show v = v + ((0 : Nat) : Int); omega)]
          exact ⟨rfl, rfl⟩
        | some k =>
          rw [hu] at eu
          dsimp only [upV]
          walk_at "hs"
          refine x_isd (fun c => ?_) (fun c => ?_)
          · walk_at "hs"
            rw [fin (v + 1) (by rw [eu]; show v + 1 = v + ((if k = i then 0 else 1 : Nat) : Int); rw [if_neg (by omega)]; rfl)]
            exact ⟨rfl, rfl⟩
          · walk_at "hs"
            rw [fin v (by rw [eu]; show v = v + ((if k = i then 0 else 1 : Nat) : Int); rw [if_pos (by omega)]; omega)]
            exact ⟨rfl, rfl⟩
      rintro σ4 H4 ⟨rfl, rfl⟩
      walk_at "hs"
      refine x_isd (fun c => ?_) (fun c => ?_)
      · walk_at "hs"
        refine x_append eD (by rw [costsV_len]; exact szLt (by omega)) ?_
        walk_at "hs"
        refine ⟨⟨_, _, rfl⟩, ?_, keepM nLD eL2, ?_⟩
        · exact same_mut s2 (s1.free hD)
        · rw [upd_same, costsV_snoc, if_pos (by omega)]
      · walk_at "hs"
        refine x_append eD (by rw [costsV_len]; exact szLt (by omega)) ?_
        walk_at "hs"
        refine ⟨⟨_, _, rfl⟩, ?_, keepM nLD eL2, ?_⟩
        · exact same_mut s2 (s1.free hD)
        · rw [upd_same, costsV_snoc, if_neg (by omega)]
    · rintro σ' H' ⟨⟨x6, x7, rfl⟩, s2, eL2, eD⟩
      walk_at "hs"
      exact q D H' s2 (s1.free hD) eD
end
set_option maxRecDepth 100000
set_option maxHeartbeats 2000000
open PySem PySem.Spec L2


/-- a row of what is left of a block's costs -/
def rowV (g : Nat → Nat) (b k : Nat) : List V := (List.range k).map fun p => if p = b then V.non else .int (g p : Nat)
theorem rowV_len {g : Nat → Nat} {b k : Nat} : (rowV g b k).length = k := by
  unfold rowV
  rw [List.length_map, List.length_range]
theorem rowV_get {g : Nat → Nat} {b k p : Nat} (h : p < k) : (rowV g b k)[p]? = some (if p = b then V.non else .int (g p : Nat)) := by
  unfold rowV
  rw [List.getElem?_map, List.getElem?_range h]
  rfl
theorem rowV_set {g : Nat → Nat} {b k p v : Nat} (ne : p ≠ b) : (rowV g b k).set p (.int (v : Nat)) = rowV (fun q => if q = p then v else g q) b k := by
  refine List.ext_getElem? fun i => ?_
  by_cases hi : i < k
  · rw [rowV_get hi]
    by_cases e : p = i
    · subst e
      rw [List.getElem?_set_self (by rw [rowV_len]; exact hi), if_neg ne, if_pos rfl]
    · rw [List.getElem?_set_ne e, rowV_get hi]
      by_cases c : i = b
      · rw [if_pos c, if_pos c]
      · rw [if_neg c, if_neg c, if_neg (fun z => e z.symm)]
  · rw [List.getElem?_eq_none (by rw [List.length_set, rowV_len]; omega), List.getElem?_eq_none (by rw [rowV_len]; omega)]
theorem rowV_cong {g h : Nat → Nat} {b k : Nat} (e : ∀ p, p < k → p ≠ b → g p = h p) : rowV g b k = rowV h b k := by
  unfold rowV
  refine List.map_congr_left fun p hp => ?_
  rw [List.mem_range] at hp
  by_cases c : p = b
  · rw [if_pos c, if_pos c]
  · rw [if_neg c, if_neg c, e p hp c]
theorem costsV_row (us : List (Option Nat)) (ls : List (List (Option Bool))) (b k : Nat) : costsV us ls b k = rowV (costN us ls b) b k := rfl
def mksV (mk : Nat → Nat) (k : Nat) : List V := (List.range k).map fun p => V.int (mk p : Nat)
theorem mksV_len {mk : Nat → Nat} {k : Nat} : (mksV mk k).length = k := by
  unfold mksV
  rw [List.length_map, List.length_range]
theorem mksV_get {mk : Nat → Nat} {k p : Nat} (h : p < k) : (mksV mk k)[p]? = some (.int (mk p : Nat)) := by
  unfold mksV
  rw [List.getElem?_map, List.getElem?_range h]
  rfl
theorem mksV_set {mk : Nat → Nat} {k p v : Nat} : (mksV mk k).set p (.int (v : Nat)) = mksV (fun q => if q = p then v else mk q) k := by
  refine List.ext_getElem? fun i => ?_
  by_cases hi : i < k
  · rw [mksV_get hi]
    by_cases e : p = i
    · subst e
      rw [List.getElem?_set_self (by rw [mksV_len]; exact hi), if_pos rfl]
    · rw [List.getElem?_set_ne e, mksV_get hi, if_neg (fun z => e z.symm)]
  · rw [List.getElem?_eq_none (by rw [List.length_set, mksV_len]; omega), List.getElem?_eq_none (by rw [mksV_len]; omega)]
/-- pairs at as -/
def TiAt (H : Hp) (as : List Addr) (F : List Ti) : Prop := as.length = F.length ∧ ∀ (i : Nat) (a : Addr) (t : Ti), as[i]? = some a → F[i]? = some t → H a = some (.tup [.int (t.1 : Nat), .int (t.2 : Nat)])
def PyAt (H : Hp) (as : List Addr) (pd : List Pay) : Prop := as.length = pd.length ∧ ∀ (i : Nat) (a : Addr) (t : Pay), as[i]? = some a → pd[i]? = some t → ∃ L, H a = some (.tup [.ref L, .int (t.2 : Nat)]) ∧ H L = some (.tup (nats t.1))
theorem snoc_get {α : Type} {xs : List α} {x y : α} {i : Nat} (h : (xs ++ [x])[i]? = some y) : xs[i]? = some y ∨ (i = xs.length ∧ y = x) := by
  rcases Nat.lt_or_ge i xs.length with c | c
  · rw [List.getElem?_append_left c] at h
    exact .inl h
  · rw [List.getElem?_append_right c] at h
    have h0 : i - xs.length = 0 := by
      have := (List.getElem?_eq_some_iff.mp h).1
      rw [List.length_singleton] at this
      omega
    rw [h0] at h
    exact .inr ⟨by omega, (Option.some.inj h).symm⟩
theorem TiAt.snoc {H : Hp} {as : List Addr} {F : List Ti} {a : Addr} {t : Ti} (h : TiAt H as F) (ha : H a = some (.tup [.int (t.1 : Nat), .int (t.2 : Nat)])) : TiAt H (as ++ [a]) (F ++ [t]) := by
  refine ⟨by rw [List.length_append, List.length_append, h.1]; rfl, fun i b u hb hu => ?_⟩
  rcases snoc_get hb with h1 | ⟨e1, rfl⟩
  · rcases snoc_get hu with h2 | ⟨e2, rfl⟩
    · exact h.2 i b u h1 h2
    · have := (List.getElem?_eq_some_iff.mp h1).1
      have := h.1
      omega
  · rcases snoc_get hu with h2 | ⟨e2, rfl⟩
    · have := (List.getElem?_eq_some_iff.mp h2).1
      have := h.1
      omega
    · exact ha
theorem PyAt.snoc {H : Hp} {as : List Addr} {pd : List Pay} {a L : Addr} {t : Pay} (h : PyAt H as pd) (ha : H a = some (.tup [.ref L, .int (t.2 : Nat)])) (hL : H L = some (.tup (nats t.1))) : PyAt H (as ++ [a]) (pd ++ [t]) := by
  refine ⟨by rw [List.length_append, List.length_append, h.1]; rfl, fun i b u hb hu => ?_⟩
  rcases snoc_get hb with h1 | ⟨e1, rfl⟩
  · rcases snoc_get hu with h2 | ⟨e2, rfl⟩
    · exact h.2 i b u h1 h2
    · have := (List.getElem?_eq_some_iff.mp h1).1
      have := h.1
      omega
  · rcases snoc_get hu with h2 | ⟨e2, rfl⟩
    · have := (List.getElem?_eq_some_iff.mp h2).1
      have := h.1
      omega
    · exact ⟨L, ha, hL⟩
theorem TiAt.keep {H H' : Hp} {as : List Addr} {F : List Ti} (k : ∀ a xs, H a = some (.tup xs) → H' a = some (.tup xs)) (h : TiAt H as F) : TiAt H' as F := ⟨h.1, fun i a t ha ht => k _ _ (h.2 i a t ha ht)⟩
theorem PyAt.keep {H H' : Hp} {as : List Addr} {pd : List Pay} (k : ∀ a xs, H a = some (.tup xs) → H' a = some (.tup xs)) (h : PyAt H as pd) : PyAt H' as pd := ⟨h.1, fun i a t ha ht => by
  obtain ⟨L, h1, h2⟩ := h.2 i a t ha ht
  exact ⟨L, k _ _ h1, k _ _ h2⟩⟩
/-- where the parts of payments lie -/
structure PAd where
  dl : Addr
  fp : Addr
  ft : Addr
  pl : Addr
  rows : List Addr
  ts : List Addr
  ps : List Addr
def PAd.muts (A : PAd) : List Addr := A.fp :: A.ft :: A.pl :: A.rows
/-- payments at x -/
structure PayR (Z : Ad) (H : Hp) (x : Addr) (A : PAd) (n : Nat) (cl : Nat → Nat → Nat) (mk : Nat → Nat) (F G : List Ti) (pd : List Pay) : Prop where
  obj : ∃ dx, H x = some (.ins Z.a_Payments dx [("blocks", .int (n : Nat)), ("left", .ref A.dl), ("from_places", .ref A.fp), ("free_ties", .ref A.ft), ("paid", .ref A.pl)])
  dl : H A.dl = some (.dK (kdl 1 (refs A.rows)))
  len : A.rows.length = n
  row : ∀ (i : Nat) r, A.rows[i]? = some r → H r = some (.lst (rowV (cl (i + 1)) (i + 1) (n + 1)))
  fp : H A.fp = some (.lst (mksV mk (n + 1)))
  ft : H A.ft = some (.lst (refs A.ts))
  ts : TiAt H A.ts F
  pl : H A.pl = some (.lst (refs A.ps))
  ps : PyAt H A.ps pd
  nd : A.muts.Nodup
  bits : ∀ p, p ≤ n → Bits (mk p) (fun q => q = p ∨ (p, q) ∈ G)
/-- payments at x, all whose parts that change are newer than H0 -/
def PayAt (Z : Ad) (H0 H : Hp) (x : Addr) (n : Nat) (cl : Nat → Nat → Nat) (F : List Ti) (pd : List Pay) : Prop := Same H0 H ∧ ∃ A mk, PayR Z H x A n cl mk F F pd ∧ ∀ a ∈ A.muts, H0 a = none
section
variable {Z : Ad} {H0 H H1 : Hp} {x : Addr} {A : PAd} {n : Nat} {cl cl' : Nat → Nat → Nat} {mk mk' : Nat → Nat} {F G : List Ti} {pd : List Pay}
theorem PayR.same (s : Same H H1) (P : PayR Z H x A n cl mk F G pd) : PayR Z H1 x A n cl mk F G pd := by
  obtain ⟨⟨dx, h1⟩, h2, h3, h4, h5, h6, h7, h8, h9, h10, h11⟩ := P
  exact ⟨⟨dx, s _ _ h1⟩, s _ _ h2, h3, fun i r h => s _ _ (h4 i r h), s _ _ h5, s _ _ h6, h7.keep fun a xs e => s _ _ e, s _ _ h8, h9.keep fun a xs e => s _ _ e, h10, h11⟩
theorem PayR.some (P : PayR Z H x A n cl mk F G pd) : ∀ a ∈ A.muts, ∃ xs, H a = some (.lst xs) := fun a ha => by
  rcases List.mem_cons.mp ha with rfl | ha
  · exact ⟨_, P.fp⟩
  rcases List.mem_cons.mp ha with rfl | ha
  · exact ⟨_, P.ft⟩
  rcases List.mem_cons.mp ha with rfl | ha
  · exact ⟨_, P.pl⟩
  obtain ⟨i, hi, e⟩ := List.getElem_of_mem ha
  exact ⟨_, P.row i a (by rw [List.getElem?_eq_getElem hi, e])⟩
theorem PayAt.same (s : Same H H1) (P : PayAt Z H0 H x n cl F pd) : PayAt Z H0 H1 x n cl F pd := by
  obtain ⟨s0, A, mk, R, fr⟩ := P
  exact ⟨s0.trans s, A, mk, R.same s, fr⟩
theorem PayAt.weak {K0 : Hp} (s : Same H0 K0) (P : PayAt Z K0 H x n cl F pd) : PayAt Z H0 H x n cl F pd := by
  obtain ⟨s0, A, mk, R, fr⟩ := P
  exact ⟨s.trans s0, A, mk, R, fun a ha => s.free (fr a ha)⟩
/-- all that is newer counts as old, but for the parts that change -/
theorem PayAt.hole (s : Same H H1) (P : PayAt Z H0 H x n cl F pd) : ∃ K1, Same H0 K1 ∧ PayAt Z K1 H1 x n cl F pd ∧ (∀ a o, H a = none → H1 a = some o → K1 a = some o) ∧ ∀ a o, H1 a = some o → (∀ xs, o ≠ .lst xs) → K1 a = some o := by
  obtain ⟨s0, A, mk, R, fr⟩ := P
  have R1 := R.same s
  have so := R.some
  refine ⟨fun a => if a ∈ A.muts then none else H1 a, fun a o e => ?_, ⟨fun a o e => ?_, A, mk, R1, fun a ha => if_pos ha⟩, fun a o e1 e2 => ?_, fun a o e1 e2 => ?_⟩
  · show (if a ∈ A.muts then none else H1 a) = some o
    rw [if_neg fun h => by rw [fr a h] at e; cases e]
    exact s _ _ (s0 _ _ e)
  · have e : (if a ∈ A.muts then none else H1 a) = some o := e
    split at e
    · cases e
    · exact e
  · show (if a ∈ A.muts then none else H1 a) = some o
    rw [if_neg fun h => by
      obtain ⟨xs, z⟩ := so a h
      rw [e1] at z
      cases z]
    exact e2
  · show (if a ∈ A.muts then none else H1 a) = some o
    rw [if_neg fun h => by
      obtain ⟨xs, z⟩ := R1.some a h
      rw [e1] at z
      exact e2 xs (Option.some.inj z)]
    exact e1
/-- a part changes: what is no such part stays -/
theorem PayR.tup (P : PayR Z H x A n cl mk F G pd) {a : Addr} {o : HO} (ha : a ∈ A.muts) {b : Addr} {u : HO} (hb : H b = .some u) (nu : ∀ xs, u ≠ .lst xs) : upd H a o b = .some u := by
  obtain ⟨xs, e⟩ := P.some a ha
  refine keepM (fun z => ?_) hb
  rw [z, e] at hb
  exact nu xs (Option.some.inj hb).symm
theorem PayR.fpft (P : PayR Z H x A n cl mk F G pd) : A.fp ≠ A.ft := fun e => (List.nodup_cons.mp P.nd).1 (by rw [e]; exact List.mem_cons_self)
theorem PayR.fppl (P : PayR Z H x A n cl mk F G pd) : A.fp ≠ A.pl := fun e => (List.nodup_cons.mp P.nd).1 (by rw [e]; exact List.mem_cons_of_mem _ List.mem_cons_self)
theorem PayR.ftpl (P : PayR Z H x A n cl mk F G pd) : A.ft ≠ A.pl := fun e => (List.nodup_cons.mp (List.nodup_cons.mp P.nd).2).1 (by rw [e]; exact List.mem_cons_self)
theorem PayR.fprow (P : PayR Z H x A n cl mk F G pd) {r : Addr} (h : r ∈ A.rows) : A.fp ≠ r := fun e => (List.nodup_cons.mp P.nd).1 (by rw [e]; exact List.mem_cons_of_mem _ (List.mem_cons_of_mem _ h))
theorem PayR.ftrow (P : PayR Z H x A n cl mk F G pd) {r : Addr} (h : r ∈ A.rows) : A.ft ≠ r := fun e => (List.nodup_cons.mp (List.nodup_cons.mp P.nd).2).1 (by rw [e]; exact List.mem_cons_of_mem _ h)
theorem PayR.plrow (P : PayR Z H x A n cl mk F G pd) {r : Addr} (h : r ∈ A.rows) : A.pl ≠ r := fun e => (List.nodup_cons.mp (List.nodup_cons.mp (List.nodup_cons.mp P.nd).2).2).1 (by rw [e]; exact h)
theorem PayR.rows_nd (P : PayR Z H x A n cl mk F G pd) : A.rows.Nodup := (List.nodup_cons.mp (List.nodup_cons.mp (List.nodup_cons.mp P.nd).2).2).2
theorem PAd.mfp : A.fp ∈ A.muts := List.mem_cons_self
theorem PAd.mft : A.ft ∈ A.muts := List.mem_cons_of_mem _ List.mem_cons_self
theorem PAd.mpl : A.pl ∈ A.muts := List.mem_cons_of_mem _ (List.mem_cons_of_mem _ List.mem_cons_self)
theorem PAd.mrow {r : Addr} (h : r ∈ A.rows) : r ∈ A.muts := List.mem_cons_of_mem _ (List.mem_cons_of_mem _ (List.mem_cons_of_mem _ h))
theorem PayR.addFt (P : PayR Z H x A n cl mk F G pd) {U : Addr} {t : Ti} (hU : H U = .some (.tup [.int (t.1 : Nat), .int (t.2 : Nat)])) : PayR Z (upd H A.ft (.lst (refs A.ts ++ [.ref U]))) x { A with ts := A.ts ++ [U] } n cl mk (F ++ [t]) G pd := by
  have k : ∀ a xs, H a = .some (.tup xs) → upd H A.ft (.lst (refs A.ts ++ [.ref U])) a = .some (.tup xs) := fun a xs e => P.tup PAd.mft e (fun _ z => by cases z)
  obtain ⟨dx, h1⟩ := P.obj
  exact ⟨⟨dx, P.tup PAd.mft h1 (fun _ z => by cases z)⟩, P.tup PAd.mft P.dl (fun _ z => by cases z), P.len, fun i r h => keepM (P.ftrow (List.mem_of_getElem? h)).symm (P.row i r h), keepM P.fpft P.fp, by rw [upd_same, refs_app]; rfl, (P.ts.keep k).snoc (k _ _ hU), keepM P.ftpl.symm P.pl, P.ps.keep k, P.nd, P.bits⟩
theorem PayR.setFp {G' : List Ti} (P : PayR Z H x A n cl mk F G pd) (b : ∀ p, p ≤ n → Bits (mk' p) (fun q => q = p ∨ (p, q) ∈ G')) : PayR Z (upd H A.fp (.lst (mksV mk' (n + 1)))) x A n cl mk' F G' pd := by
  have k : ∀ a xs, H a = .some (.tup xs) → upd H A.fp (.lst (mksV mk' (n + 1))) a = .some (.tup xs) := fun a xs e => P.tup PAd.mfp e (fun _ z => by cases z)
  obtain ⟨dx, h1⟩ := P.obj
  exact ⟨⟨dx, P.tup PAd.mfp h1 (fun _ z => by cases z)⟩, P.tup PAd.mfp P.dl (fun _ z => by cases z), P.len, fun i r h => keepM (P.fprow (List.mem_of_getElem? h)).symm (P.row i r h), upd_same, keepM P.fpft.symm P.ft, P.ts.keep k, keepM P.fppl.symm P.pl, P.ps.keep k, P.nd, b⟩
theorem PayR.setRow {c : Nat} {r : Addr} {g : Nat → Nat} (P : PayR Z H x A n cl mk F G pd) (hr : A.rows[c]? = .some r) : PayR Z (upd H r (.lst (rowV g (c + 1) (n + 1)))) x A n (fun b => if b = c + 1 then g else cl b) mk F G pd := by
  have mr := List.mem_of_getElem? hr
  have k : ∀ a xs, H a = .some (.tup xs) → upd H r (.lst (rowV g (c + 1) (n + 1))) a = .some (.tup xs) := fun a xs e => P.tup (PAd.mrow mr) e (fun _ z => by cases z)
  obtain ⟨dx, h1⟩ := P.obj
  refine ⟨⟨dx, P.tup (PAd.mrow mr) h1 (fun _ z => by cases z)⟩, P.tup (PAd.mrow mr) P.dl (fun _ z => by cases z), P.len, fun i r' h => ?_, keepM (P.fprow mr) P.fp, keepM (P.ftrow mr) P.ft, P.ts.keep k, keepM (P.plrow mr) P.pl, P.ps.keep k, P.nd, P.bits⟩
  by_cases e : i = c
  · subst e
    rw [hr] at h
    cases h
    rw [upd_same, if_pos rfl]
  · have ne : r' ≠ r := fun z => by
      subst z
      obtain ⟨i1, e1⟩ := List.getElem?_eq_some_iff.mp h
      obtain ⟨i2, e2⟩ := List.getElem?_eq_some_iff.mp hr
      exact e ((List.getElem_inj P.rows_nd).mp (e1.trans e2.symm))
    rw [if_neg (by omega)]
    exact keepM ne (P.row i r' h)
theorem PayR.addPl (P : PayR Z H x A n cl mk F G pd) {U L : Addr} {t : Pay} (hU : H U = .some (.tup [.ref L, .int (t.2 : Nat)])) (hL : H L = .some (.tup (nats t.1))) : PayR Z (upd H A.pl (.lst (refs A.ps ++ [.ref U]))) x { A with ps := A.ps ++ [U] } n cl mk F G (pd ++ [t]) := by
  have k : ∀ a xs, H a = .some (.tup xs) → upd H A.pl (.lst (refs A.ps ++ [.ref U])) a = .some (.tup xs) := fun a xs e => P.tup PAd.mpl e (fun _ z => by cases z)
  obtain ⟨dx, h1⟩ := P.obj
  exact ⟨⟨dx, P.tup PAd.mpl h1 (fun _ z => by cases z)⟩, P.tup PAd.mpl P.dl (fun _ z => by cases z), P.len, fun i r h => keepM (P.plrow (List.mem_of_getElem? h)).symm (P.row i r h), keepM P.fppl P.fp, keepM P.ftpl P.ft, P.ts.keep k, by rw [upd_same, refs_app]; rfl, (P.ps.keep k).snoc (k _ _ hU) (k _ _ hL), P.nd, P.bits⟩
theorem PayR.cong {cl' : Nat → Nat → Nat} (P : PayR Z H x A n cl mk F G pd) (e : ∀ b p, 1 ≤ b → b ≤ n → p ≤ n → p ≠ b → cl b p = cl' b p) : PayR Z H x A n cl' mk F G pd := by
  obtain ⟨h1, h2, h3, h4, h5, h6, h7, h8, h9, h10, h11⟩ := P
  refine ⟨h1, h2, h3, fun i r h => ?_, h5, h6, h7, h8, h9, h10, h11⟩
  rw [h4 i r h, rowV_cong fun p hp ne => e (i + 1) p (by omega) (by have := (List.getElem?_eq_some_iff.mp h).1; omega) (by omega) ne]
end
set_option maxRecDepth 100000
set_option maxHeartbeats 2000000
open PySem PySem.Spec L2


local macro_rules | `(tactic| walk_at "h1") => `(tactic| first
  | with_reducible refine x_dget ?_
  | with_reducible refine x_dc ?_
  | with_reducible refine x_keysF ?_
  | with_reducible refine x_keysFT ?_
  | with_reducible refine x_listZip ?_
  | with_reducible refine x_enls ?_)

theorem sc_Payments_take_free : FnScope ["self", "block", "places", "place"] ["self", "block", "places"] (defScope s_Payments_take_free) := ⟨rfl, rfl, rfl, by decide +kernel, rfl, by decide +kernel, by decide +kernel⟩
theorem sc_Payments_leading_to : FnScope ["self", "leading", "middle", "place"] ["self"] (defScope s_Payments_leading_to) := ⟨rfl, rfl, rfl, by decide +kernel, rfl, by decide +kernel, by decide +kernel⟩
structure PCls (K : PySem.W.Frag) (Z : Ad) : Prop where
  c : Cls K Z.a_Payments
  nb : NoAttr K Z.a_Payments "blocks"
  nl : NoAttr K Z.a_Payments "left"
  nf : NoAttr K Z.a_Payments "from_places"
  nt : NoAttr K Z.a_Payments "free_ties"
  np : NoAttr K Z.a_Payments "paid"
section
variable {P : Program} {w : World} {K : PySem.W.Frag} {mg : Str → Option Value} {base : Heap} {Z : Ad}
def spTake (Z : Ad) : Sp := fun vs H Q _ => ∃ (x t : Addr) (b n : Nat) (H0 : Hp) (cl : Nat → Nat → Nat) (F : List Ti) (pd : List Pay) (ps : List Nat), vs = [.ref x, .int b, .ref t] ∧ PayAt Z H0 H x n cl F pd ∧ 1 ≤ b ∧ b ≤ n ∧ n ≤ 40 ∧ H0 t = some (.lst (nats ps)) ∧ (∀ p ∈ ps, p ≤ n) ∧ F.length + ps.length ≤ 90000 ∧
  ∀ H', PayAt Z H0 H' x n cl (F ++ newT cl b ps) pd → Q .non H'
theorem ok_take {f : Addr} {fd : FuncData} (F : Fun K "take_free" "Payments.take_free" s_Payments_take_free f fd) (B : Bl Z mg) (C : PCls K Z) : FnOk P w K mg base CX0 1 f fd ["self", "block", "places"] (spTake Z) := by
  refine F.ok sc_Payments_take_free (fun vs H Q E h => ?_) (fun cdv A outer s H vs Q E hr h => ?_)
  · obtain ⟨x, t, b, n, H0, cl, Fs, pd, ps, rfl, _⟩ := h
    rfl
  · obtain ⟨x, t, b, n, H0, cl, Fs, pd, ps, rfl, hp, b1, b2, n40, ht, hps, hl, q⟩ := h
    refine ⟨_, (pss_one (ps_for PassesOwn.never rfl (pi_list (pv 2)) (pg_name (i := 3) sc_Payments_take_free.nd rfl (Or.inl rfl)) (pss_one (ps_if (pt_cmpR op_eq (pe_ix (ix_listK (K := K) rfl) (pe_dget (units1 hr) (pe_fldK (K := K) rfl (pv 0) rfl) (pv 1) (fun _ _ => rfl)) (pv 3) (fun _ _ => rfl)) pe_int (nomark _)) (pss_cons (ps_expr (pe_bmK (K := K) rfl PySem.F.plainAttrs_list PySem.F.slot_list_append PySem.F.type_list_append mt_append (pe_fldK (K := K) rfl (pv 0) rfl) (pa_cons (pe_tup (pa_cons (pv 1) (pa_cons (pv 3) pa_nil))) pa_nil)))
 (pss_one (ps_augS (pe_fldK (K := K) rfl (pv 0) rfl) (pv 1) (get_listK (K := K) rfl) (pe_op op_shl pe_int (pv 3)) L2.iop_or set_list))) pss_nil)))), ?_⟩
    walk_at "h0"
    refine ⟨t, rfl, ⟨_, .of (hp.1 _ _ ht)⟩, ?_⟩
    refine lp_list (K := K) (xs := nats ps) (fun i σ' H' => (∃ x3, σ' = [some (.ref x), some (.int b), some (.ref t), x3]) ∧ PayAt Z H0 H' x n cl (Fs ++ newT cl b (ps.take i)) pd)
      ⟨⟨_, rfl⟩, by rw [List.take_zero]; show PayAt Z H0 H x n cl (Fs ++ []) pd; rw [List.append_nil]; exact hp⟩ (fun i σ' H' _ h => .of (h.2.1 _ _ ht)) ?_ ?_
    · rintro i v σ' H' hv ⟨⟨x3, rfl⟩, s0, A, mk, R, fr⟩
      have hi : i < ps.length := by
        have := (List.getElem?_eq_some_iff.mp hv).1
        rwa [nats_length] at this
      obtain ⟨p, hpi⟩ : ∃ p, ps[i]? = some p := ⟨_, List.getElem?_eq_getElem hi⟩
      have hv2 : v = .int (p : Nat) := by
        have e := nats_get hpi
        rw [hv] at e
        exact Option.some.inj e
      subst hv2
      have pn := hps p (List.mem_of_getElem? hpi)
      obtain ⟨dx, h1⟩ := R.obj
      obtain ⟨c, rfl⟩ : ∃ c, b = c + 1 := ⟨b - 1, by omega⟩
      obtain ⟨r, hr⟩ : ∃ r, A.rows[c]? = some r := ⟨_, List.getElem?_eq_getElem (by rw [R.len]; omega)⟩
      have er := R.row c r hr
      have ar : atI (rowV (cl (c + 1)) (c + 1) (n + 1)) (p : Int) = some (if p = c + 1 then V.non else .int (cl (c + 1) p : Nat)) := atI_nat (rowV_get (by omega))
      have fin0 : ¬ (p ≠ c + 1 ∧ cl (c + 1) p = 0) → PayAt Z H0 H' x n cl (Fs ++ newT cl (c + 1) (ps.take (i + 1))) pd := fun no => by
        rw [List.take_succ, hpi, Option.toList_some, newT_snoc, if_neg no, List.append_nil]
        exact ⟨s0, A, mk, R, fr⟩
      walk_at "hs"
      refine ⟨x, _, dx, _, _, rfl, h1, C.c, C.nl, rfl, ?_⟩
      walk_at "hs"
      refine ⟨_, _, rfl, dgetN (.inl R.dl) (refs_get hr) (by omega), ?_⟩
      walk_at "hs"
      by_cases e : p = c + 1
      · rw [if_pos e]
        walk_at "hs"
        exact ⟨⟨_, rfl⟩, fin0 (fun z => z.1 e)⟩
      rw [if_neg e]
      walk_at "hs"
      refine x_isd (fun z => ?_) (fun z => ?_)
      · have z : cl (c + 1) p = 0 := by omega
        walk_at "hs"
        refine ⟨x, _, dx, _, _, rfl, h1, C.c, C.nt, rfl, ?_⟩
        have tf : SqL K H' A.ft (refs A.ts) := .of R.ft
        walk_at "hs"
        intro U nU
        have s1 : Same H' (upd H' U (.tup [.int ((c + 1 : Nat) : Int), .int (p : Nat)])) := same_new (Same.refl _) nU
        have eU : upd H' U (.tup [.int ((c + 1 : Nat) : Int), .int (p : Nat)]) U = some (.tup [.int ((c + 1 : Nat) : Int), .int (p : Nat)]) := upd_same
        generalize upd H' U (.tup [.int ((c + 1 : Nat) : Int), .int (p : Nat)]) = H1 at s1 eU ⊢
        have R1 := R.same s1
        walk_at "hs"
        refine x_append R1.ft ?_ ?_
        · rw [refs_length, R.ts.1]
          refine szLt ?_
          rw [List.length_append]
          have : (newT cl (c + 1) (ps.take i)).length ≤ ps.length := by
            unfold newT
            rw [List.length_map]
            exact Nat.le_trans (List.length_filter_le _ _) (by rw [List.length_take]; omega)
          omega
        have R2 := R1.addFt (t := (c + 1, p)) eU
        have s2 : Same H0 (upd H1 A.ft (.lst (refs A.ts ++ [.ref U]))) := same_mut (s0.trans s1) (fr _ PAd.mft)
        generalize upd H1 A.ft (.lst (refs A.ts ++ [.ref U])) = H2 at R2 s2 ⊢
        clear R R1 s1 s0 tf nU eU h1 er ar fin0
        obtain ⟨dx2, h2⟩ := R2.obj
        walk_at "hs"
        unfold tAugS
        walk_at "hs"
        refine ⟨x, _, dx2, _, _, rfl, h2, C.c, C.nf, rfl, ?_⟩
        have mf : SqL K H2 A.fp (mksV mk (n + 1)) := .of R2.fp
        have am : atI (mksV mk (n + 1)) ((c + 1 : Nat) : Int) = some (.int (mk (c + 1) : Nat)) := atI_nat (mksV_get (by omega))
        walk_at "hs"
        rw [bit_shl, bit_or]
        refine x_setL R2.fp (ixN_nat (by rw [mksV_len]; omega)) ?_
        rw [mksV_set]
        have R3 := R2.setFp (mk' := fun q => if q = c + 1 then mk (c + 1) ||| 2 ^ p else mk q) (G' := Fs ++ newT cl (c + 1) (ps.take i) ++ [(c + 1, p)]) (fun q hq => by
          by_cases e2 : q = c + 1
          · subst e2
            rw [if_pos rfl]
            refine ((R2.bits (c + 1) hq).or (bits_one p)).cong fun r => ?_
            simp only [List.mem_append, List.mem_singleton, Prod.mk.injEq, true_and, or_assoc]
          · rw [if_neg e2]
            refine (R2.bits q hq).cong fun r => ?_
            simp only [List.mem_append, List.mem_singleton, Prod.mk.injEq, e2, false_and, or_false])
        refine ⟨⟨_, rfl⟩, ?_⟩
        rw [List.take_succ, hpi, Option.toList_some, newT_snoc, if_pos ⟨e, z⟩, ← List.append_assoc]
        exact ⟨same_mut s2 (fr _ PAd.mfp), _, _, R3, fr⟩
      · exact ⟨⟨_, rfl⟩, fin0 (fun y => z (by rw [y.2]; rfl))⟩
    · rintro σ' H' ⟨⟨x3, rfl⟩, hp'⟩
      rw [nats_length, List.take_length] at hp'
      walk_at "hs"
      exact q _ hp'
end
set_option maxRecDepth 100000
set_option maxHeartbeats 2000000
open PySem PySem.Spec L2


local macro_rules | `(tactic| walk_at "h1") => `(tactic| first
  | with_reducible refine x_dget ?_
  | with_reducible refine x_dc ?_
  | with_reducible refine x_keysF ?_
  | with_reducible refine x_keysFT ?_
  | with_reducible refine x_listZip ?_
  | with_reducible refine x_enls ?_)

section
variable {P : Program} {w : World} {K : PySem.W.Frag} {mg : Str → Option Value} {base : Heap} {Z : Ad}
def spLead (Z : Ad) : Sp := fun vs H Q _ => ∃ (x : Addr) (n : Nat) (H0 : Hp) (cl : Nat → Nat → Nat) (F : List Ti) (pd : List Pay), vs = [.ref x] ∧ PayAt Z H0 H x n cl F pd ∧ 1 ≤ n ∧ n ≤ 40 ∧ TiOk n F ∧
  ∀ (D : Addr) (ld : Nat → Nat) H', Same H H' → H D = none → H' D = some (.lst (mksV ld (n + 1))) → (∀ p, p ≤ n → Bits (ld p) (fun q => Lds F q p)) → Q (.ref D) H'
theorem ok_lead {f : Addr} {fd : FuncData} (F : Fun K "leading_to" "Payments.leading_to" s_Payments_leading_to f fd) (B : Bl Z mg) (C : PCls K Z) : FnOk P w K mg base CX0 1 f fd ["self"] (spLead Z) := by
  refine F.ok sc_Payments_leading_to (fun vs H Q E h => ?_) (fun cdv A outer s H vs Q E hr h => ?_)
  · obtain ⟨x, n, H0, cl, Fs, pd, rfl, _⟩ := h
    rfl
  · obtain ⟨x, n, H0, cl, Fs, pd, rfl, ⟨s0, A, mk, R, fr⟩, n1, n40, ok, q⟩ := h
    obtain ⟨dx, h1⟩ := R.obj
    refine ⟨_, (pss_cons (ps_set (i := 1) sc_Payments_leading_to.nd rfl (Or.inl rfl) (pe_callTy (call_lstK (K := K) rfl) (by rfl) B.b_list (by decide +kernel) (pa_cons (pe_fldK (K := K) rfl (pv 0) rfl) pa_nil)))
 (pss_cons (ps_for PassesOwn.never rfl (pi_range2 rfl B.b_range (pa_cons pe_int (pa_cons (pe_op op_add (pe_fldK (K := K) rfl (pv 0) rfl) pe_int) pa_nil))) (pg_name (i := 2) sc_Payments_leading_to.nd rfl (Or.inl rfl)) (pss_one (ps_for PassesOwn.never rfl (pi_range2 rfl B.b_range (pa_cons pe_int (pa_cons (pe_op op_add (pe_fldK (K := K) rfl (pv 0) rfl) pe_int) pa_nil))) (pg_name (i := 3) sc_Payments_leading_to.nd rfl (Or.inl rfl)) (pss_one (ps_if (pt_truth (pe_op L2.op_and (pe_op L2.op_shr (pe_ix (ix_listK (K := K) rfl) (pv 1) (pv 3) (fun _ _ => rfl)) (pv 2)) pe_int) (by intro _; rfl)) (pss_one (ps_augS (pv 1) (pv 3) (get_listK (K := K) rfl) (pe_ix (ix_listK (K := K) rfl) (pv 1) (pv 2) (fun _ _ => rfl)) L2.iop_or set_list)) pss_nil)))))
 (pss_one (ps_ret (pv 1))))), ?_⟩
    walk_at "h0"
    refine ⟨x, _, dx, _, _, rfl, h1, C.c, C.nf, rfl, ?_⟩
    have mf : SqL K H A.fp (mksV mk (n + 1)) := .of R.fp
    walk_at "hs"
    intro D nD
    have s1 : Same H (upd H D (.lst (mksV mk (n + 1)))) := same_new (Same.refl _) nD
    have eD : upd H D (.lst (mksV mk (n + 1))) D = some (.lst (mksV mk (n + 1))) := upd_same
    generalize upd H D (.lst (mksV mk (n + 1))) = H1 at s1 eD ⊢
    walk_at "hs"
    refine ⟨x, _, dx, _, _, rfl, s1 _ _ h1, C.c, C.nb, rfl, ?_⟩
    walk_at "hs"
    refine ⟨1, (n : Int) + 1, rfl, ⟨by omega, by omega, by omega, by omega⟩, ?_⟩
    refine lp_range (lo := 1) (n := Int.toNat ((n : Int) + 1 - 1)) (fun i σ' H' => (∃ x2 x3, σ' = [some (.ref x), some (.ref D), x2, x3]) ∧ Same H H' ∧ ∃ ld, H' D = some (.lst (mksV ld (n + 1))) ∧ ∀ p, p ≤ n → Bits (ld p) (fun q => Wr Fs i q p))
      ⟨⟨_, _, rfl⟩, s1, mk, eD, R.bits⟩ ?_ ?_
    · rintro i σ' H2 hi ⟨⟨x2, x3, rfl⟩, s2, ld, eD2, bt⟩
      have hin : i < n := by omega
      walk_at "hs"
      refine ⟨x, _, dx, _, _, rfl, s2 _ _ h1, C.c, C.nb, rfl, ?_⟩
      walk_at "hs"
      refine ⟨1, (n : Int) + 1, rfl, ⟨by omega, by omega, by omega, by omega⟩, ?_⟩
      refine lp_range (lo := 1) (n := Int.toNat ((n : Int) + 1 - 1)) (fun k σ' H' => (∃ x3, σ' = [some (.ref x), some (.ref D), some (.int (1 + (i : Int))), x3]) ∧ Same H H' ∧ ∃ ld, H' D = some (.lst (mksV ld (n + 1))) ∧ ∀ p, p ≤ n → Bits (ld p) (fun q => if 1 ≤ p ∧ p ≤ k then Wr Fs (i + 1) q p else Wr Fs i q p))
        ⟨⟨_, rfl⟩, s2, ld, eD2, fun p hp => (bt p hp).cong fun q => by rw [if_neg (by omega)]⟩ ?_ ?_
      · clear bt eD2 s2
        rintro k σ' H3 hk ⟨⟨x3, rfl⟩, s3, ld, eD3, bt⟩
        have hkn : k < n := by omega
        have sD : SqL K H3 D (mksV ld (n + 1)) := .of eD3
        have a1 : atI (mksV ld (n + 1)) (1 + (k : Int)) = some (.int (ld (k + 1) : Nat)) := by
          rw [show (1 + (k : Int)) = ((k + 1 : Nat) : Int) by omega]
          exact atI_nat (mksV_get (by omega))
        have a2 : atI (mksV ld (n + 1)) (1 + (i : Int)) = some (.int (ld (i + 1) : Nat)) := by
          rw [show (1 + (i : Int)) = ((i + 1 : Nat) : Int) by omega]
          exact atI_nat (mksV_get (by omega))
        walk_at "hs"
        refine ⟨_, _, rfl, rfl, by omega, ?_⟩
        walk_at "hs"
        rw [show (1 + (i : Int)).toNat = i + 1 by omega, bit_test]
        have bk := bt (k + 1) (by omega)
        have bi := bt (i + 1) (by omega)
        by_cases c : (ld (k + 1)).testBit (i + 1) = true
        · rw [if_pos c]
          refine ⟨true, ?_, ?_⟩
          · rfl
          have w1 : Wr Fs i (i + 1) (k + 1) := by
            have h := (bk (i + 1)).mp c
            dsimp only at h
            rwa [if_neg (by omega)] at h
          walk_at "hs"
          unfold tAugS
          walk_at "hs"
          rw [bit_or]
          refine x_setL eD3 (j := k + 1) ?_ ?_
          · rw [mksV_len, show (1 + (k : Int)) = ((k + 1 : Nat) : Int) by omega]
            exact ixN_nat (by omega)
          rw [mksV_set]
          refine ⟨⟨_, rfl⟩, same_mut s3 nD, _, upd_same, fun p hp => ?_⟩
          by_cases e : p = k + 1
          · subst e
            rw [if_pos rfl]
            refine (bk.or bi).cong fun r => ?_
            have : (if 1 ≤ i + 1 ∧ i + 1 ≤ k then Wr Fs (i + 1) r (i + 1) else Wr Fs i r (i + 1)) ↔ Wr Fs i r (i + 1) := by
              split
              · exact wr_self
              · exact Iff.rfl
            rw [this, if_neg (by omega), if_pos (by omega)]
            exact ⟨fun h => h.elim .inl fun h => .inr ⟨w1, h⟩, fun h => h.elim .inl fun h => .inr h.2⟩
          · rw [if_neg e]
            refine (bt p hp).cong fun r => ?_
            by_cases d : 1 ≤ p ∧ p ≤ k
            · rw [if_pos d, if_pos ⟨d.1, by omega⟩]
            · rw [if_neg d, if_neg (by omega)]
        · rw [if_neg c]
          refine ⟨false, ?_, ?_⟩
          · rfl
          have w1 : ¬ Wr Fs i (i + 1) (k + 1) := fun h => c ((bk (i + 1)).mpr (by dsimp only; rw [if_neg (by omega)]; exact h))
          walk_at "hs"
          refine ⟨⟨_, rfl⟩, s3, ld, eD3, fun p hp => (bt p hp).cong fun r => ?_⟩
          by_cases e : p = k + 1
          · subst e
            rw [if_neg (by omega), if_pos (by omega)]
            exact ⟨.inl, fun h => h.elim id fun h => (w1 h.1).elim⟩
          · by_cases d : 1 ≤ p ∧ p ≤ k
            · rw [if_pos d, if_pos ⟨d.1, by omega⟩]
            · rw [if_neg d, if_neg (by omega)]
      · rintro σ' H3 ⟨⟨x3, rfl⟩, s3, ld, eD3, bt⟩
        refine ⟨⟨_, _, rfl⟩, s3, ld, eD3, fun p hp => (bt p hp).cong fun q => ?_⟩
        by_cases c : p = 0
        · subst c
          rw [if_neg (by omega)]
          exact ⟨.inl, fun h => h.elim id fun h => by
            have := wr_head ok h.1
            omega⟩
        · rw [if_pos ⟨by omega, by omega⟩]
    · rintro σ' H2 ⟨⟨x2, x3, rfl⟩, s2, ld, eD2, bt⟩
      walk_at "hs"
      refine q D ld H2 s2 nD eD2 fun p hp => (bt p hp).cong fun r => ?_
      rw [show Int.toNat ((n : Int) + 1 - 1) = n by omega]
      exact ⟨wr_lds, lds_wr ok⟩
end
set_option maxRecDepth 100000
set_option maxHeartbeats 2000000
open PySem PySem.Spec L2


local macro_rules | `(tactic| walk_at "h1") => `(tactic| first
  | with_reducible refine x_dget ?_
  | with_reducible refine x_dc ?_
  | with_reducible refine x_keysF ?_
  | with_reducible refine x_keysFT ?_
  | with_reducible refine x_listZip ?_
  | with_reducible refine x_enls ?_)

local macro_rules | `(tactic| walk_at "h1") => `(tactic| first
  | with_reducible refine x_meth ?_
  | with_reducible refine x_tru ?_
  | with_reducible refine x_augS ?_)

theorem sc_Payments_lot_to_pay : FnScope ["self", "leading", "found", "block", "lot", "place"] ["self"] (defScope s_Payments_lot_to_pay) := ⟨rfl, rfl, rfl, by decide +kernel, rfl, by decide +kernel, by decide +kernel⟩
/-- the methods of payments -/
structure PMe (K : PySem.W.Frag) (Z : Ad) (fT fL fO fP fA fC : Addr) : Prop where
  t : Meth K Z.a_Payments "take_free" fT
  l : Meth K Z.a_Payments "leading_to" fL
  o : Meth K Z.a_Payments "lot_to_pay" fO
  p : Meth K Z.a_Payments "pay" fP
  a : Meth K Z.a_Payments "pay_all" fA
  c : Meth K Z.a_Payments "cheapest_tree" fC
section
variable {P : Program} {w : World} {K : PySem.W.Frag} {mg : Str → Option Value} {base : Heap} {Z : Ad}
def spLot (Z : Ad) : Sp := fun vs H Q _ => ∃ (x : Addr) (n : Nat) (H0 : Hp) (cl : Nat → Nat → Nat) (F : List Ti) (pd : List Pay), vs = [.ref x] ∧ PayAt Z H0 H x n cl F pd ∧ 1 ≤ n ∧ n ≤ 40 ∧ TiOk n F ∧
  ((∀ b, 1 ≤ b → b ≤ n → Lds F 0 b) → ∀ H', Same H H' → Q .non H') ∧ ∀ (l : Addr) (L : List Nat) H', SrcLot n F L → Same H H' → H l = none → H' l = some (.lst (nats L)) → Q (.ref l) H'
theorem ok_lot {f : Addr} {fd : FuncData} (F : Fun K "lot_to_pay" "Payments.lot_to_pay" s_Payments_lot_to_pay f fd) (B : Bl Z mg) (C : PCls K Z) {f_Payments_leading_to : Addr} {fd_Payments_leading_to : FuncData} (C_Payments_leading_to : CalM K f_Payments_leading_to fd_Payments_leading_to ["self"]) (Y_Payments_leading_to : Meth K Z.a_Payments "leading_to" f_Payments_leading_to) (G_Payments_leading_to : FnOk P w K mg base CX0 1 f_Payments_leading_to fd_Payments_leading_to ["self"] (spLead Z)) : FnOk P w K mg base CX0 2 f fd ["self"] (spLot Z) := by
  have PC_Payments := C.c
  refine F.ok sc_Payments_lot_to_pay (fun vs H Q E h => ?_) (fun cdv A outer s H vs Q E hr h => ?_)
  · obtain ⟨x, n, H0, cl, Fs, pd, rfl, _⟩ := h
    rfl
  · obtain ⟨x, n, H0, cl, Fs, pd, rfl, hp, n1, n40, ok, qn, ql⟩ := h
    obtain ⟨s0, A, mk, R, fr⟩ := id hp
    obtain ⟨dx, h1⟩ := R.obj
    refine ⟨_, (pss_cons (ps_set (i := 1) sc_Payments_lot_to_pay.nd rfl (Or.inr rfl) (pe_meth0 (pv 0) PC_Payments Y_Payments_leading_to G_Payments_leading_to (hr.mono (by first | decide | omega)) C_Payments_leading_to.b .nil pass0))
 (pss_cons (ps_set (i := 2) sc_Payments_lot_to_pay.nd rfl (Or.inl rfl) pe_non)
 (pss_cons (ps_for PassesOwn.never rfl (pi_range2 rfl B.b_range (pa_cons pe_int (pa_cons (pe_op op_add (pe_fldK (K := K) rfl (pv 0) rfl) pe_int) pa_nil))) (pg_name (i := 3) sc_Payments_lot_to_pay.nd rfl (Or.inr rfl)) (pss_one (ps_if (pt_cmpR op_eq (pe_op L2.op_and (pe_ix (ix_listK (K := K) rfl) (pv 1) (pv 3) (fun _ _ => rfl)) pe_int) pe_int (nomark _)) (pss_cons (ps_setLc (i := 4) (own := [("place", 5)]) rfl sc_Payments_lot_to_pay.nd rfl rfl (sw_true rfl rfl rfl (by decide +kernel)) (pi_range2 rfl B.b_range (pa_cons pe_int (pa_cons (pe_op op_add (pe_fldK (K := K) rfl (pv 0) rfl) pe_int) pa_nil))) (blkOk_by (N := ["self", "leading", "found", "block", "lot", "place"]) (sc := defScope s_Payments_lot_to_pay) (by decide +kernel)) (fun _ _ _ _ _ => (pg_name (i := 5) sc_Payments_lot_to_pay.nd rfl (Or.inl rfl))) (fun _ _ _ _ _ => (pts_one (pt_truthK (K := K) rfl (pe_op L2.op_and (pe_op L2.op_shr (pe_ix (ix_listK (K := K) rfl) (pv 1) (pv 3) (fun _ _ => rfl)) (pv 5)) pe_int) (by intro _; rfl)))) (fun _ _ _ _ _ => (pv 5)))
 (pss_one (ps_if (PW.pt (pw_or (pt_cmpR op_isNk (pv 2) pe_non (nomark _)) (pw_or1 (pt_cmpR op_lt (pe_callB (call_lenK (K := K) rfl) (by rfl) B.b_len PySem.boot_len (pa_cons (pv 4) pa_nil)) (pe_callB (call_lenK (K := K) rfl) (by rfl) B.b_len PySem.boot_len (pa_cons (pv 2) pa_nil)) (nomark _))))) (pss_one (ps_set (i := 2) sc_Payments_lot_to_pay.nd rfl (Or.inl rfl) (pv 4))) pss_nil))) pss_nil)))
 (pss_one (ps_ret (pv 2)))))), ?_⟩
    walk_at "h0"
    refine ⟨x, dx, _, rfl, h1, rfl, ?_⟩
    walk_at "hs"
    refine ⟨x, n, H0, cl, Fs, pd, rfl, hp, n1, n40, ok, fun D ld H1 s1 nD eD bt => ?_⟩
    walk_at "hs"
    refine ⟨x, _, dx, _, _, rfl, s1 _ _ h1, C.c, C.nb, rfl, ?_⟩
    walk_at "hs"
    refine ⟨1, (n : Int) + 1, rfl, ⟨by omega, by omega, by omega, by omega⟩, ?_⟩
    refine lp_range (lo := 1) (n := Int.toNat ((n : Int) + 1 - 1)) (fun i σ' H' => Same H1 H' ∧ ∃ y x3 x4 x5, σ' = [some (.ref x), some (.ref D), some y, x3, x4, x5] ∧ ((y = .non ∧ ∀ b, 1 ≤ b → b ≤ i → Lds Fs 0 b) ∨ ∃ l b0, y = .ref l ∧ H l = none ∧ 1 ≤ b0 ∧ b0 ≤ i ∧ ¬ Lds Fs 0 b0 ∧ H' l = some (.lst (nats (lotOf n (ld b0)))) ∧ ∀ b', 1 ≤ b' → b' ≤ i → ¬ Lds Fs 0 b' → (lotOf n (ld b0)).length ≤ (lotOf n (ld b')).length))
      ⟨Same.refl _, .non, _, _, _, rfl, .inl ⟨rfl, fun b h1 h2 => by omega⟩⟩ ?_ ?_
    · rintro i σ' H2 hi ⟨s2, y, x3, x4, x5, rfl, hy⟩
      have hin : i < n := by omega
      have sD : SqL K H2 D (mksV ld (n + 1)) := .of (s2 _ _ eD)
      have a1 : atI (mksV ld (n + 1)) (1 + (i : Int)) = some (.int (ld (i + 1) : Nat)) := by
        rw [show (1 + (i : Int)) = ((i + 1 : Nat) : Int) by omega]
        exact atI_nat (mksV_get (by omega))
      have b1 := bt (i + 1) (by omega)
      walk_at "hs"
      rw [bit_test0]
      by_cases c : (ld (i + 1)).testBit 0 = true
      · have lc := (b1 0).mp c
        rw [if_pos c]
        walk_at "hs"
        refine ⟨s2, y, _, _, _, rfl, ?_⟩
        rcases hy with ⟨rfl, h⟩ | ⟨l, b0, rfl, h2, h3, h4, h5, h6, h7⟩
        · refine .inl ⟨rfl, fun b g1 g2 => ?_⟩
          by_cases e : b = i + 1
          · subst e
            exact lc
          · exact h b g1 (by omega)
        · refine .inr ⟨l, b0, rfl, h2, h3, by omega, h5, h6, fun b' g1 g2 g3 => ?_⟩
          by_cases e : b' = i + 1
          · subst e
            exact (g3 lc).elim
          · exact h7 b' g1 (by omega) g3
      · have lc : ¬ Lds Fs 0 (i + 1) := fun h => c ((b1 0).mpr h)
        rw [if_neg c]
        walk_at "hs"
        refine ⟨x, _, dx, _, _, rfl, s2 _ _ (s1 _ _ h1), C.c, C.nb, rfl, ?_⟩
        walk_at "hs"
        refine ⟨1, (n : Int) + 1, rfl, ⟨by omega, by omega, by omega, by omega⟩, fun L nL => ?_⟩
        refine lc_range (lo := 1) (n := Int.toNat ((n : Int) + 1 - 1)) (fun k G => Same H2 G ∧ G L = some (.lst (nats ((List.range' 1 k).filter fun p => (ld (i + 1)).testBit p)))) ⟨same_new (Same.refl _) nL, upd_same⟩ ?_ ?_
        · rintro k G hk ⟨s3, eL⟩
          have sD3 : SqL K G D (mksV ld (n + 1)) := .of (s3 _ _ (s2 _ _ eD))
          have ec : (1 : Int) + (k : Int) = ((k + 1 : Nat) : Int) := by omega
          walk_at "hs"
          refine ⟨rfl, ?_⟩
          walk_at "hs"
          refine ⟨_, _, rfl, rfl, by omega, ?_⟩
          walk_at "hs"
          rw [show (1 + (k : Int)).toNat = k + 1 by omega, bit_test]
          have rs' : (List.range' 1 (k + 1)).filter (fun p => (ld (i + 1)).testBit p) = (List.range' 1 k).filter (fun p => (ld (i + 1)).testBit p) ++ if (ld (i + 1)).testBit (k + 1) = true then [k + 1] else [] := by
            rw [List.range'_concat, List.filter_append, show 1 + 1 * k = k + 1 by omega]
            congr 1
            by_cases c : (ld (i + 1)).testBit (k + 1) = true
            · rw [if_pos c, List.filter_cons_of_pos c]
              rfl
            · rw [if_neg c, List.filter_cons_of_neg c]
              rfl
          by_cases c2 : (ld (i + 1)).testBit (k + 1) = true
          · rw [if_pos c2]
            refine ⟨true, rfl, ?_⟩
            walk_at "hs"
            refine ⟨_, eL, ?_, same_mut s3 nL, ?_⟩
            · rw [nats_length]
              exact szLt (by
                have := List.length_filter_le (fun p => (ld (i + 1)).testBit p) (List.range' 1 k)
                rw [List.length_range'] at this
                omega)
            · rw [upd_same, rs', if_pos c2, nats_append, ec]
              rfl
          · rw [if_neg c2]
            refine ⟨false, rfl, ?_⟩
            walk_at "hs"
            refine ⟨s3, ?_⟩
            rw [rs', if_neg c2, List.append_nil]
            exact eL
        rintro G ⟨s3, eL⟩
        rw [show Int.toNat ((n : Int) + 1 - 1) = n by omega] at eL
        have eL : G L = some (.lst (nats (lotOf n (ld (i + 1))))) := eL
        have sL : SqL K G L (nats (lotOf n (ld (i + 1)))) := .of eL
        have nLH : H L = none := (s1.trans s2).free nL
        walk_at "hs"
        rcases hy with ⟨rfl, h⟩ | ⟨l, b0, rfl, h2, h3, h4, h5, h6, h7⟩
        · walk_at "hs"
          refine ⟨s2.trans s3, .ref L, _, _, _, rfl, .inr ⟨L, i + 1, rfl, nLH, by omega, Nat.le_refl _, lc, eL, fun b' g1 g2 g3 => ?_⟩⟩
          by_cases e : b' = i + 1
          · rw [e]
            exact Nat.le_refl _
          · exact (g3 (h b' g1 (by omega))).elim
        · have sl : SqL K G l (nats (lotOf n (ld b0))) := .of (s3 _ _ h6)
          walk_at "hs"
          rw [nats_length, nats_length]
          refine x_isd (fun cc => ?_) (fun cc => ?_)
          · walk_at "hs"
            refine ⟨s2.trans s3, .ref L, _, _, _, rfl, .inr ⟨L, i + 1, rfl, nLH, by omega, Nat.le_refl _, lc, eL, fun b' g1 g2 g3 => ?_⟩⟩
            by_cases e : b' = i + 1
            · rw [e]
              exact Nat.le_refl _
            · have := h7 b' g1 (by omega) g3
              omega
          · walk_at "hs"
            refine ⟨s2.trans s3, .ref l, _, _, _, rfl, .inr ⟨l, b0, rfl, h2, h3, by omega, h5, s3 _ _ h6, fun b' g1 g2 g3 => ?_⟩⟩
            by_cases e : b' = i + 1
            · rw [e]
              omega
            · exact h7 b' g1 (by omega) g3
    · rintro σ' H2 ⟨s2, y, x3, x4, x5, rfl, hy⟩
      walk_at "hs"
      rw [show Int.toNat ((n : Int) + 1 - 1) = n by omega] at hy
      rcases hy with ⟨rfl, h⟩ | ⟨l, b0, rfl, h2, h3, h4, h5, h6, h7⟩
      · exact qn h _ (s1.trans s2)
      · exact ql l _ H2 (src_lot ok bt h3 h4 h5 h7) (s1.trans s2) h2 h6
end
set_option maxRecDepth 100000
set_option maxHeartbeats 2000000
open PySem PySem.Spec L2


local macro_rules | `(tactic| walk_at "h1") => `(tactic| first
  | with_reducible refine x_dget ?_
  | with_reducible refine x_dc ?_
  | with_reducible refine x_keysF ?_
  | with_reducible refine x_keysFT ?_
  | with_reducible refine x_listZip ?_
  | with_reducible refine x_enls ?_)

local macro_rules | `(tactic| walk_at "h1") => `(tactic| first
  | with_reducible refine x_meth ?_
  | with_reducible refine x_tru ?_
  | with_reducible refine x_augS ?_)

theorem sc_Payments_pay : FnScope ["self", "lot", "outside", "least", "block", "place"] ["self", "lot"] (defScope s_Payments_pay) := ⟨rfl, rfl, rfl, by decide +kernel, rfl, by decide +kernel, by decide +kernel⟩
theorem PayAt.cong {Z : Ad} {H0 H : Hp} {x : Addr} {n : Nat} {cl cl' : Nat → Nat → Nat} {F : List Ti} {pd : List Pay} (P : PayAt Z H0 H x n cl F pd) (e : ∀ b p, 1 ≤ b → b ≤ n → p ≤ n → p ≠ b → cl b p = cl' b p) : PayAt Z H0 H x n cl' F pd := by
  obtain ⟨s0, A, mk, R, fr⟩ := P
  exact ⟨s0, A, mk, R.cong e, fr⟩
theorem newT_cong {cl cl' : Nat → Nat → Nat} {b : Nat} {ps : List Nat} (e : ∀ p ∈ ps, p ≠ b → cl b p = cl' b p) : newT cl b ps = newT cl' b ps := by
  unfold newT
  congr 1
  refine List.filter_congr fun p hp => ?_
  rw [decide_eq_decide]
  by_cases c : p = b
  · exact ⟨fun h => (h.1 c).elim, fun h => (h.1 c).elim⟩
  · rw [e p hp c]
def outsOf (n : Nat) (L : List Nat) : List Nat := (List.range (n + 1)).filter fun p => decide (p ∉ L)
theorem outs_mem {n p : Nat} {L : List Nat} : p ∈ outsOf n L ↔ p ≤ n ∧ p ∉ L := by
  unfold outsOf
  rw [List.mem_filter, List.mem_range, decide_eq_true_eq]
  exact ⟨fun h => ⟨by omega, h.2⟩, fun h => ⟨by omega, h.2⟩⟩
theorem outs_nd {n : Nat} {L : List Nat} : (outsOf n L).Nodup := (List.nodup_range).filter _
theorem outs_len {n : Nat} {L : List Nat} : (outsOf n L).length ≤ n + 1 := by
  have := List.length_filter_le (fun p => decide (p ∉ L)) (List.range (n + 1))
  rwa [List.length_range] at this
theorem mem_take {α : Type} {x : α} {l : List α} {i : Nat} (h : x ∈ l.take i) : x ∈ l := List.mem_of_mem_take h
theorem take_snoc_mem {α : Type} {l : List α} {x y : α} {i : Nat} (h : l[i]? = some y) : x ∈ l.take (i + 1) ↔ x ∈ l.take i ∨ x = y := by
  rw [List.take_succ, h, Option.toList_some, List.mem_append, List.mem_singleton]
theorem nd_take {α : Type} {l : List α} {x : α} {i : Nat} (nd : l.Nodup) (h : l[i]? = some x) : x ∉ l.take i := fun m => by
  obtain ⟨j, hj, e⟩ := List.getElem_of_mem m
  rw [List.length_take] at hj
  rw [List.getElem_take] at e
  obtain ⟨h1, h2⟩ := List.getElem?_eq_some_iff.mp h
  have := (List.getElem_inj nd).mp (e.trans h2.symm)
  omega
section
variable {P : Program} {w : World} {K : PySem.W.Frag} {mg : Str → Option Value} {base : Heap} {Z : Ad}
def spPay (Z : Ad) : Sp := fun vs H Q _ => ∃ (x l : Addr) (n : Nat) (H0 : Hp) (c cl : Nat → Nat → Nat) (F : List Ti) (pd : List Pay) (L : List Nat), vs = [.ref x, .ref l] ∧ PayAt Z H0 H x n cl F pd ∧ 1 ≤ n ∧ n ≤ 40 ∧ PayI n c cl F pd ∧ SrcLot n F L ∧ H0 l = some (.lst (nats L)) ∧ pd.length ≤ 5000 ∧
  ∀ (cl' : Nat → Nat → Nat) (F' : List Ti) (y : Nat) H', PayAt Z H0 H' x n cl' F' (pd ++ [(L, y)]) → PayI n c cl' F' (pd ++ [(L, y)]) → nz n cl' < nz n cl → Q .non H'
theorem ok_pay {f : Addr} {fd : FuncData} (F : Fun K "pay" "Payments.pay" s_Payments_pay f fd) (B : Bl Z mg) (C : PCls K Z) {f_Payments_take_free : Addr} {fd_Payments_take_free : FuncData} (C_Payments_take_free : CalM K f_Payments_take_free fd_Payments_take_free ["self", "block", "places"]) (Y_Payments_take_free : Meth K Z.a_Payments "take_free" f_Payments_take_free) (G_Payments_take_free : FnOk P w K mg base CX0 1 f_Payments_take_free fd_Payments_take_free ["self", "block", "places"] (spTake Z)) : FnOk P w K mg base CX0 2 f fd ["self", "lot"] (spPay Z) := by
  have PC_Payments := C.c
  refine F.ok sc_Payments_pay (fun vs H Q E h => ?_) (fun cdv A outer s H vs Q E hr h => ?_)
  · obtain ⟨x, l, n, H0, c, cl, Fs, pd, L, rfl, _⟩ := h
    rfl
  · obtain ⟨x, l, n, H0, c, cl, Fs, pd, L, rfl, hp, n1, n40, I, sl, hl, pl, q⟩ := h
    obtain ⟨s0, A, mk, R, fr⟩ := id hp
    obtain ⟨dx, h1⟩ := R.obj
    have lin : ∀ b ∈ L, 1 ≤ b ∧ b ≤ n := sl.in_
    have lnd : L.Nodup := sl.asc.imp fun h => Nat.ne_of_lt h
    have llen : L.length ≤ n := bounded_len n L lnd lin
    refine ⟨_, (pss_cons (ps_set (i := 2) sc_Payments_pay.nd rfl (Or.inr rfl) (pe_lc (own := [("place", 5)]) rfl sc_Payments_pay.nd (pi_range1 rfl B.b_range (pa_cons (pe_op op_add (pe_fldK (K := K) rfl (pv 0) rfl) pe_int) pa_nil)) (blkOk_by (N := ["self", "lot", "outside", "least", "block", "place"]) (sc := defScope s_Payments_pay) (by decide +kernel)) (fun _ _ _ _ _ => (pg_name (i := 5) sc_Payments_pay.nd rfl (Or.inl rfl))) (fun _ _ _ _ _ => (pts_one (pt_cmpR (op_notInK (K := K) rfl) (pv 5) (pv 1) (by rfl)))) (fun _ _ _ _ _ => (pv 5))))
 (pss_cons (ps_set (i := 3) sc_Payments_pay.nd rfl (Or.inl rfl) (pe_callB (cr_minLK (K := K) rfl rfl) (by rfl) B.b_min (by decide +kernel) (pa_cons (pe_lc2 (own := [("block", 4), ("place", 5)]) (vs1 := [5]) rfl sc_Payments_pay.nd (pi_list (pv 1)) (blkOk_by (N := ["self", "lot", "outside", "least", "block", "place"]) (sc := defScope s_Payments_pay) (by decide +kernel)) (by decide) (fun _ _ _ _ _ => (pg_name (i := 4) sc_Payments_pay.nd rfl (Or.inl rfl))) (fun _ _ _ _ _ => pts_nil) (fun _ _ _ _ _ => (pi_listK (K := K) rfl (pv 2))) (fun _ _ _ _ _ => (pg_name (i := 5) sc_Payments_pay.nd rfl (Or.inl rfl))) (fun _ _ _ _ _ => pts_nil) (fun _ _ _ _ _ => (pe_ix (ix_listK (K := K) rfl) (pe_dget (units1 hr) (pe_fldK (K := K) rfl (pv 0) rfl) (pv 4) (fun _ _ => rfl)) (pv 5) (fun _ _ => rfl)))) pa_nil)))
 (pss_cons (ps_for PassesOwn.never rfl (pi_list (pv 1)) (pg_name (i := 4) sc_Payments_pay.nd rfl (Or.inl rfl)) (pss_cons (ps_for PassesOwn.never rfl (pi_list (pv 2)) (pg_name (i := 5) sc_Payments_pay.nd rfl (Or.inl rfl)) (pss_one (ps_augS (pe_dget (units1 hr) (pe_fldK (K := K) rfl (pv 0) rfl) (pv 4) (fun _ _ => rfl)) (pv 5) (get_listK (K := K) rfl) (pv 3) ip_sub set_list)))
 (pss_one (ps_expr (pe_meth (pv 0) PC_Payments Y_Payments_take_free G_Payments_take_free (hr.mono (by first | decide | omega)) C_Payments_take_free.b .nil pass0 (pa_cons (pv 4) (pa_cons (pv 2) pa_nil)))))))
 (pss_one (ps_expr (pe_bmK (K := K) rfl PySem.F.plainAttrs_list PySem.F.slot_list_append PySem.F.type_list_append mt_append (pe_fldK (K := K) rfl (pv 0) rfl) (pa_cons (pe_tup (pa_cons (pe_callTy (call_tplK (K := K) rfl) (by rfl) B.b_tuple (by decide +kernel) (pa_cons (pv 1) pa_nil)) (pa_cons (pv 3) pa_nil))) pa_nil))))))), ?_⟩
    walk_at "h0"
    refine ⟨x, _, dx, _, _, rfl, h1, C.c, C.nb, rfl, ?_⟩
    walk_at "hs"
    have s01 := s0
    refine ⟨(n : Int) + 1, rfl, by omega, by omega, fun O nO => ?_⟩
    have tl0 : SqL K H l (nats L) := .of (s0 _ _ hl)
    refine lc_range (lo := 0) (n := Int.toNat ((n : Int) + 1)) (fun k G => Same H G ∧ G O = some (.lst (nats ((List.range k).filter fun p => decide (p ∉ L))))) ⟨same_new (Same.refl _) nO, upd_same⟩ ?_ ?_
    · rintro k G hk ⟨s1, eO⟩
      have tlG : SqL K G l (nats L) := s1.seq tl0
      have ec : (0 : Int) + (k : Int) = (k : Int) := by omega
      have rs' : (List.range (k + 1)).filter (fun p => decide (p ∉ L)) = (List.range k).filter (fun p => decide (p ∉ L)) ++ if k ∉ L then [k] else [] := by
        rw [List.range_succ, List.filter_append]
        congr 1
        by_cases c : k ∉ L
        · rw [if_pos c, List.filter_cons_of_pos (by rw [decide_eq_true_eq]; exact c)]
          rfl
        · rw [if_neg c, List.filter_cons_of_neg (by rw [decide_eq_true_eq]; exact c)]
          rfl
      walk_at "hs"
      refine ⟨rfl, ?_⟩
      rw [ec]
      walk_at "hs"
      refine x_ninNL tlG ?_
      walk_at "hs"
      refine x_isnd (fun cc => ?_) (fun cc => ?_)
      · walk_at "hs"
        refine ⟨_, eO, ?_, same_mut s1 nO, ?_⟩
        · rw [nats_length]
          exact szLt (by
            have := List.length_filter_le (fun p => decide (p ∉ L)) (List.range k)
            rw [List.length_range] at this
            omega)
        · rw [upd_same, rs', if_pos cc, nats_append]
          rfl
      · walk_at "hs"
        refine ⟨s1, ?_⟩
        rw [rs', if_neg (fun z => z cc), List.append_nil]
        exact eO
    rintro H1 ⟨s1, eO⟩
    have eO : H1 O = some (.lst (nats (outsOf n L))) := eO
    have eo : ∃ os, os = outsOf n L := ⟨_, rfl⟩
    obtain ⟨os, eo⟩ := eo
    rw [← eo] at eO
    have osm : ∀ {p}, p ∈ os ↔ p ≤ n ∧ p ∉ L := fun {p} => by rw [eo]; exact outs_mem
    have osn : os.Nodup := by rw [eo]; exact outs_nd
    have osl : os.length ≤ n + 1 := by rw [eo]; exact outs_len
    clear eo
    obtain ⟨K1, sK, hp1, hnew, _⟩ := hp.hole s1
    have kO := hnew O _ nO eO
    have kl := sK _ _ hl
    have mem_os0 : 0 ∈ os := osm.mpr ⟨Nat.zero_le _, fun z => by have := lin 0 z; omega⟩
    clear hnew s0 A mk R fr h1 tl0 s01 s1 eO nO hp dx
    obtain ⟨s1, A, mk, R, fr⟩ := id hp1
    obtain ⟨dx, h1⟩ := R.obj
    have tl1 : SqL K H1 l (nats L) := .of (s1 _ _ kl)
    have tO1 : SqL K H1 O (nats os) := .of (s1 _ _ kO)
    have cell : ∀ {G : Hp} {b p : Nat}, Same H1 G → 1 ≤ b → b ≤ n → p ≤ n → p ≠ b → ∃ r, DGet G A.dl (.int b) (some (.ref r)) ∧ SqL K G r (rowV (cl b) b (n + 1)) ∧ atI (rowV (cl b) b (n + 1)) (p : Int) = some (.int (cl b p : Nat)) := fun {G b p} s b1 b2 pn ne => by
      obtain ⟨c', rfl⟩ : ∃ c', b = c' + 1 := ⟨b - 1, by omega⟩
      obtain ⟨r, hr⟩ : ∃ r, A.rows[c']? = some r := ⟨_, List.getElem?_eq_getElem (by rw [R.len]; omega)⟩
      refine ⟨r, dgetN (.inl (s _ _ R.dl)) (refs_get hr) (by omega), .of (s _ _ (R.row c' r hr)), ?_⟩
      have := rowV_get (g := cl (c' + 1)) (b := c' + 1) (k := n + 1) (p := p) (by omega)
      rw [if_neg ne] at this
      exact atI_nat this
    walk_at "hs"
    refine ⟨l, rfl, ⟨_, tl1⟩, fun M nM => ?_⟩
    refine lc2_list (K := K) (xs := nats L) (fun i G => Same H1 G ∧ ∃ ms : List Int, G M = some (.lst (ms.map V.int)) ∧ ms.length ≤ i * 41 ∧ (∀ m ∈ ms, ∃ b p : Nat, b ∈ L ∧ p ∈ os ∧ m = (cl b p : Nat)) ∧ ∀ b p, b ∈ L.take i → p ∈ os → ((cl b p : Nat) : Int) ∈ ms)
      ⟨same_new (Same.refl _) nM, [], upd_same, by simp, (fun m h => by cases h), fun b p h => by simp at h⟩ (fun i G _ h => h.1.seq tl1) ?_ ?_
    · rintro i v G hv ⟨s2, ms, eM, lm, hm1, hm2⟩
      obtain ⟨b, hb, rfl⟩ := natsV hv
      have hbL := List.mem_of_getElem? hb
      have ob := lin b hbL
      have hi := (List.getElem?_eq_some_iff.mp hb).1
      walk_at "hs"
      refine ⟨rfl, ?_⟩
      walk_at "hs"
      refine ⟨O, rfl, ⟨_, s2.seq tO1⟩, ?_⟩
      refine lc2_list (K := K) (xs := nats os) (fun j G => Same H1 G ∧ ∃ ms : List Int, G M = some (.lst (ms.map V.int)) ∧ ms.length ≤ i * 41 + j ∧ (∀ m ∈ ms, ∃ b p : Nat, b ∈ L ∧ p ∈ os ∧ m = (cl b p : Nat)) ∧ (∀ b p, b ∈ L.take i → p ∈ os → ((cl b p : Nat) : Int) ∈ ms) ∧ ∀ p, p ∈ os.take j → ((cl b p : Nat) : Int) ∈ ms)
        ⟨s2, ms, eM, by omega, hm1, hm2, fun p h => by simp at h⟩ (fun j G _ h => h.1.seq tO1) ?_ ?_
      · clear hm1 hm2 eM lm s2
        rintro j v G hv2 ⟨s2, ms, eM, lm, hm1, hm2, hm3⟩
        obtain ⟨p, hpj, rfl⟩ := natsV hv2
        have hpo := List.mem_of_getElem? hpj
        have op := osm.mp hpo
        have hj := (List.getElem?_eq_some_iff.mp hpj).1
        obtain ⟨r, dg, sr, ar⟩ := cell s2 ob.1 ob.2 op.1 (fun z => op.2 (z ▸ hbL))
        walk_at "hs"
        refine ⟨rfl, ?_⟩
        walk_at "hs"
        refine ⟨x, _, dx, _, _, rfl, s2 _ _ h1, C.c, C.nl, rfl, ?_⟩
        walk_at "hs"
        refine ⟨_, _, rfl, dg, ?_⟩
        walk_at "hs"
        refine ⟨_, eM, ?_, same_mut s2 nM, ms ++ [((cl b p : Nat) : Int)], ?_, ?_, fun m hm => ?_, fun b' p' g1 g2 => ?_, fun p' g => ?_⟩
        · rw [List.length_map]
          exact szLt (by omega)
        · rw [upd_same, List.map_append]
          rfl
        · rw [List.length_append]
          show _ + 1 ≤ _
          omega
        · rcases List.mem_append.mp hm with h | h
          · exact hm1 m h
          · exact ⟨b, p, hbL, hpo, List.mem_singleton.mp h⟩
        · exact List.mem_append_left _ (hm2 b' p' g1 g2)
        · rcases (take_snoc_mem hpj).mp g with g | g
          · exact List.mem_append_left _ (hm3 p' g)
          · subst g
            exact List.mem_append_right _ List.mem_cons_self
      · rintro G ⟨s2, ms, eM, lm, hm1, hm2, hm3⟩
        rw [nats_length] at lm hm3
        rw [List.take_length] at hm3
        refine ⟨s2, ms, eM, by omega, hm1, fun b' p' g1 g2 => ?_⟩
        rcases (take_snoc_mem hb).mp g1 with g | g
        · exact hm2 b' p' g g2
        · subst g
          exact hm3 p' g2
    rintro H2 ⟨s2, ms, eM, lm, hm1, hm2⟩
    rw [nats_length, List.take_length] at hm2
    walk_at "hs"
    obtain ⟨b0, hb0⟩ := List.exists_mem_of_ne_nil L sl.ne
    refine ⟨M, ms, rfl, .of eM, ?_, fun m hm hall => ?_⟩
    · exact List.length_pos_of_mem (hm2 b0 0 hb0 mem_os0)
    obtain ⟨yb, yp, yb1, yp1, ym⟩ := hm1 m hm
    obtain ⟨y, hy⟩ : ∃ y : Nat, y = cl yb yp := ⟨_, rfl⟩
    rw [← hy] at ym
    subst ym
    have ymin : ∀ b p, b ∈ L → p ∈ os → y ≤ cl b p := fun b p g1 g2 => by
      have := hall _ (hm2 b p g1 g2)
      omega
    have hp2 := hp1.same s2
    clear hm1 hm2 hm hall eM lm nM hp1 s1 R fr A mk h1 tl1 tO1 cell s2 dx
    walk_at "hs"
    have tl2 : SqL K H2 l (nats L) := .of (hp2.1 _ _ kl)
    refine ⟨l, rfl, ⟨_, tl2⟩, ?_⟩
    clear tl2
    refine lp_list (K := K) (xs := nats L) (fun i σ' G => (∃ x4 x5, σ' = [some (.ref x), some (.ref l), some (.ref O), some (.int y), x4, x5]) ∧ PayAt Z K1 G x n (fun b p => if b ∈ L.take i ∧ p ∉ L then cl b p - y else cl b p) (Fs ++ newAll (lessBy cl L y) os (L.take i)) pd)
      ⟨⟨_, _, rfl⟩, ?_⟩ (fun i σ' G _ h => .of (h.2.1 _ _ kl)) ?_ ?_
    · have e : (fun b p => if b ∈ L.take 0 ∧ p ∉ L then cl b p - y else cl b p) = cl := by
        funext b p
        rw [if_neg (fun z => by have := z.1; simp at this)]
      rw [e]
      show PayAt Z K1 H2 x n cl (Fs ++ []) pd
      rw [List.append_nil]
      exact hp2
    · clear hp2
      rintro i v σ' G hv ⟨⟨x4, x5, rfl⟩, hp3⟩
      obtain ⟨b, hb, rfl⟩ := natsV hv
      have hbL := List.mem_of_getElem? hb
      have ob := lin b hbL
      have hi := (List.getElem?_eq_some_iff.mp hb).1
      have nbt := nd_take lnd hb
      have tO3 : SqL K G O (nats os) := .of (hp3.1 _ _ kO)
      walk_at "hs"
      refine ⟨O, rfl, ⟨_, tO3⟩, ?_⟩
      clear tO3
      refine lp_list (K := K) (xs := nats os) (fun j σ' G => (∃ x5, σ' = [some (.ref x), some (.ref l), some (.ref O), some (.int y), some (.int b), x5]) ∧ PayAt Z K1 G x n (fun b' p => if (b' ∈ L.take i ∧ p ∉ L) ∨ (b' = b ∧ p ∈ os.take j) then cl b' p - y else cl b' p) (Fs ++ newAll (lessBy cl L y) os (L.take i)) pd)
        ⟨⟨_, rfl⟩, ?_⟩ (fun i σ' G _ h => .of (h.2.1 _ _ kO)) ?_ ?_
      · refine hp3.cong fun b' p _ _ _ _ => ?_
        by_cases c : b' ∈ L.take i ∧ p ∉ L
        · rw [if_pos c, if_pos (.inl c)]
        · rw [if_neg c, if_neg (fun z => z.elim c fun z => by have := z.2; simp at this)]
      · clear hp3
        rintro j v σ' G2 hv2 ⟨⟨x5, rfl⟩, s4, A, mk, R, fr⟩
        obtain ⟨p, hpj, rfl⟩ := natsV hv2
        have hpo := List.mem_of_getElem? hpj
        have op := osm.mp hpo
        have npt := nd_take osn hpj
        have npb : p ≠ b := fun z => op.2 (z ▸ hbL)
        obtain ⟨dx, h1⟩ := R.obj
        obtain ⟨c', rfl⟩ : ∃ c', b = c' + 1 := ⟨b - 1, by omega⟩
        obtain ⟨r, hr⟩ : ∃ r, A.rows[c']? = some r := ⟨_, List.getElem?_eq_getElem (by rw [R.len]; omega)⟩
        have er := R.row c' r hr
        have tr : SqL K G2 r _ := .of er
        have ar := rowV_get (g := fun p => if (c' + 1 ∈ L.take i ∧ p ∉ L) ∨ (c' + 1 = c' + 1 ∧ p ∈ os.take j) then cl (c' + 1) p - y else cl (c' + 1) p) (b := c' + 1) (k := n + 1) (p := p) (by omega)
        rw [if_neg npb] at ar
        rw [if_neg (fun z => z.elim (fun z => nbt z.1) fun z => npt z.2)] at ar
        have ar := atI_nat ar
        walk_at "hs"
        refine ⟨x, _, dx, _, _, rfl, h1, C.c, C.nl, rfl, ?_⟩
        walk_at "hs"
        refine ⟨_, _, rfl, dgetN (.inl R.dl) (refs_get hr) (by omega), ?_⟩
        walk_at "hs"
        refine x_setL er (ixN_nat (k := p) (by rw [rowV_len]; omega)) ?_
        have yl := ymin (c' + 1) p hbL hpo
        rw [show ((cl (c' + 1) p : Nat) : Int) - (y : Int) = ((cl (c' + 1) p - y : Nat) : Int) by omega, rowV_set npb]
        have R3 := R.setRow (g := fun q => if q = p then cl (c' + 1) p - y else if (c' + 1 ∈ L.take i ∧ q ∉ L) ∨ (c' + 1 = c' + 1 ∧ q ∈ os.take j) then cl (c' + 1) q - y else cl (c' + 1) q) hr
        refine ⟨⟨_, rfl⟩, same_mut s4 (fr _ (PAd.mrow (List.mem_of_getElem? hr))), A, mk, R3.cong fun b' q g1 g2 g3 g4 => ?_, fr⟩
        by_cases e : b' = c' + 1
        · subst e
          rw [if_pos rfl]
          by_cases e2 : q = p
          · subst e2
            rw [if_pos rfl, if_pos (.inr ⟨rfl, (take_snoc_mem hpj).mpr (.inr rfl)⟩)]
          · rw [if_neg e2]
            by_cases e3 : (c' + 1 ∈ L.take i ∧ q ∉ L) ∨ (c' + 1 = c' + 1 ∧ q ∈ os.take j)
            · rw [if_pos e3, if_pos (e3.imp id fun z => ⟨rfl, (take_snoc_mem hpj).mpr (.inl z.2)⟩)]
            · rw [if_neg e3, if_neg (fun z => e3 (z.imp id fun z => ⟨rfl, ((take_snoc_mem hpj).mp z.2).resolve_right e2⟩))]
        · rw [if_neg e]
          by_cases e3 : b' ∈ L.take i ∧ q ∉ L
          · rw [if_pos (.inl e3), if_pos (.inl e3)]
          · rw [if_neg (fun z => z.elim e3 fun z => e z.1), if_neg (fun z => z.elim e3 fun z => e z.1)]
      · rintro σ' G2 ⟨⟨x5, rfl⟩, hp4⟩
        rw [nats_length, List.take_length] at hp4
        obtain ⟨s4, A, mk, R, fr⟩ := id hp4
        obtain ⟨dx, h1⟩ := R.obj
        walk_at "hs"
        refine ⟨x, dx, _, rfl, h1, rfl, ?_⟩
        walk_at "hs"
        have tk : (L.take i).length ≤ 40 := by rw [List.length_take]; omega
        have bl : (newAll (lessBy cl L y) os (L.take i)).length ≤ 1640 := by
          have h := newAll_len (cl := lessBy cl L y) (ps := os) (L := L.take i)
          have : (L.take i).length * os.length ≤ 40 * 41 := Nat.mul_le_mul tk (by omega)
          omega
        have fl := I.len n40
        refine ⟨x, O, b, n, K1, _, _, pd, os, rfl, hp4, ob.1, ob.2, n40, kO, fun p h => (osm.mp h).1, by rw [List.length_append]; omega, fun G3 hp5 => ?_⟩
        refine ⟨⟨_, _, rfl⟩, ?_⟩
        have e1 : newT (fun b' p => if (b' ∈ L.take i ∧ p ∉ L) ∨ (b' = b ∧ p ∈ os) then cl b' p - y else cl b' p) b os = newT (lessBy cl L y) b os := newT_cong fun p hpo _ => by
          unfold lessBy
          rw [if_pos (.inr ⟨rfl, hpo⟩), if_pos ⟨hbL, (osm.mp hpo).2⟩]
        rw [e1, List.append_assoc, ← newAll_snoc, ← take_snoc hb] at hp5
        refine hp5.cong fun b' p g1 g2 g3 g4 => ?_
        by_cases e : b' ∈ L.take (i + 1) ∧ p ∉ L
        · rw [if_pos e]
          rcases (take_snoc_mem hb).mp e.1 with h | h
          · rw [if_pos (.inl ⟨h, e.2⟩)]
          · rw [if_pos (.inr ⟨h, osm.mpr ⟨g3, e.2⟩⟩)]
        · rw [if_neg e, if_neg]
          rintro (h | h)
          · exact e ⟨(take_snoc_mem hb).mpr (.inl h.1), h.2⟩
          · exact e ⟨(take_snoc_mem hb).mpr (.inr h.1), (osm.mp h.2).2⟩
    · rintro σ' G ⟨⟨x4, x5, rfl⟩, hp3⟩
      rw [nats_length, List.take_length] at hp3
      have hp3 : PayAt Z K1 G x n (lessBy cl L y) (Fs ++ newAll (lessBy cl L y) os L) pd := hp3
      obtain ⟨s4, A, mk, R, fr⟩ := id hp3
      obtain ⟨dx, h1⟩ := R.obj
      walk_at "hs"
      refine ⟨x, _, dx, _, _, rfl, h1, C.c, C.np, rfl, ?_⟩
      have tp : SqL K G A.pl (refs A.ps) := .of R.pl
      have tl4 : SqL K G l (nats L) := .of (s4 _ _ kl)
      walk_at "hs"
      intro U1 nU1
      have s5 : Same G (upd G U1 (.tup (nats L))) := same_new (Same.refl _) nU1
      have eU1 : upd G U1 (.tup (nats L)) U1 = some (.tup (nats L)) := upd_same
      generalize upd G U1 (.tup (nats L)) = G1 at s5 eU1 ⊢
      walk_at "hs"
      intro U2 nU2
      have s6 : Same G1 (upd G1 U2 (.tup [.ref U1, .int (y : Nat)])) := same_new (Same.refl _) nU2
      have eU2 : upd G1 U2 (.tup [.ref U1, .int (y : Nat)]) U2 = some (.tup [.ref U1, .int (y : Nat)]) := upd_same
      generalize upd G1 U2 (.tup [.ref U1, .int (y : Nat)]) = G2 at s6 eU2 ⊢
      have R2 := (R.same s5).same s6
      walk_at "hs"
      refine x_append R2.pl (by rw [refs_length, R2.ps.1]; exact szLt (by omega)) ?_
      have R3 := R2.addPl (t := (L, y)) eU2 (s6 _ _ eU1)
      have I3 := I.pay (new := newAll (lessBy cl L y) os L) (y := y) sl ⟨yb, yp, yb1, (osm.mp yp1).1, (osm.mp yp1).2, hy.symm⟩ (fun b p g1 g2 g3 => ymin b p g1 (osm.mpr ⟨g2, g3⟩)) (fun b p => ?_) (newAll_nd osn lnd)
      · refine q _ _ y _ (PayAt.weak sK ⟨same_mut ((s4.trans s5).trans s6) (fr _ PAd.mpl), _, _, R3, fr⟩) I3.1 I3.2.2
      · rw [newAll_mem]
        constructor
        · rintro ⟨g1, g2, g3, g4⟩
          have o := osm.mp g2
          unfold lessBy at g4
          rw [if_pos ⟨g1, o.2⟩] at g4
          exact ⟨g1, o.1, o.2, g4⟩
        · rintro ⟨g1, g2, g3, g4⟩
          refine ⟨g1, osm.mpr ⟨g2, g3⟩, fun z => g3 (z ▸ g1), ?_⟩
          unfold lessBy
          rw [if_pos ⟨g1, g3⟩]
          exact g4
end
set_option maxRecDepth 100000
set_option maxHeartbeats 2000000
open PySem PySem.Spec L2


local macro_rules | `(tactic| walk_at "h1") => `(tactic| first
  | with_reducible refine x_dget ?_
  | with_reducible refine x_dc ?_
  | with_reducible refine x_keysF ?_
  | with_reducible refine x_keysFT ?_
  | with_reducible refine x_listZip ?_
  | with_reducible refine x_enls ?_)

local macro_rules | `(tactic| walk_at "h1") => `(tactic| first
  | with_reducible refine x_meth ?_
  | with_reducible refine x_tru ?_
  | with_reducible refine x_augS ?_)

theorem sc_Payments_pay_all : FnScope ["self", "lot"] ["self"] (defScope s_Payments_pay_all) := ⟨rfl, rfl, rfl, by decide +kernel, rfl, by decide +kernel, by decide +kernel⟩
theorem sc_Payments___init__ : FnScope ["self", "words", "block", "place"] ["self", "words"] (defScope s_Payments___init__) := ⟨rfl, rfl, rfl, by decide +kernel, rfl, by decide +kernel, by decide +kernel⟩
section
variable {P : Program} {w : World} {K : PySem.W.Frag} {mg : Str → Option Value} {base : Heap} {Z : Ad}
def spAll (Z : Ad) : Sp := fun vs H Q _ => ∃ (x : Addr) (n : Nat) (H0 : Hp) (c cl : Nat → Nat → Nat) (F : List Ti) (pd : List Pay), vs = [.ref x] ∧ PayAt Z H0 H x n cl F pd ∧ 1 ≤ n ∧ n ≤ 40 ∧ PayI n c cl F pd ∧ pd.length + nz n cl ≤ 2000 ∧
  ∀ (cl' : Nat → Nat → Nat) (F' : List Ti) (pd' : List Pay) H', PayAt Z H0 H' x n cl' F' pd' → PayI n c cl' F' pd' → pd'.length ≤ 2000 → (∀ b, 1 ≤ b → b ≤ n → Lds F' 0 b) → Q .non H'
theorem ok_all {f : Addr} {fd : FuncData} (F : Fun K "pay_all" "Payments.pay_all" s_Payments_pay_all f fd) (B : Bl Z mg) (C : PCls K Z) {f_Payments_lot_to_pay : Addr} {fd_Payments_lot_to_pay : FuncData} (C_Payments_lot_to_pay : CalM K f_Payments_lot_to_pay fd_Payments_lot_to_pay ["self"]) (Y_Payments_lot_to_pay : Meth K Z.a_Payments "lot_to_pay" f_Payments_lot_to_pay) (G_Payments_lot_to_pay : FnOk P w K mg base CX0 2 f_Payments_lot_to_pay fd_Payments_lot_to_pay ["self"] (spLot Z))
    {f_Payments_pay : Addr} {fd_Payments_pay : FuncData} (C_Payments_pay : CalM K f_Payments_pay fd_Payments_pay ["self", "lot"]) (Y_Payments_pay : Meth K Z.a_Payments "pay" f_Payments_pay) (G_Payments_pay : FnOk P w K mg base CX0 2 f_Payments_pay fd_Payments_pay ["self", "lot"] (spPay Z)) : FnOk P w K mg base CX0 3 f fd ["self"] (spAll Z) := by
  have PC_Payments := C.c
  refine F.ok sc_Payments_pay_all (fun vs H Q E h => ?_) (fun cdv A outer s H vs Q E hr h => ?_)
  · obtain ⟨x, n, H0, c, cl, Fs, pd, rfl, _⟩ := h
    rfl
  · obtain ⟨x, n, H0, c, cl, Fs, pd, rfl, hp, n1, n40, I, lz, q⟩ := h
    have obj : ∀ {H0 G : Hp} {cl Fs pd}, PayAt Z H0 G x n cl Fs pd → ∃ dx fs, G x = some (.ins Z.a_Payments dx fs) ∧ fs.lookup ("lot_to_pay" : Str) = none ∧ fs.lookup ("pay" : Str) = none := fun {H0 G cl Fs pd} h => by
      obtain ⟨_, A, mk, R, _⟩ := h
      obtain ⟨dx, h1⟩ := R.obj
      exact ⟨dx, _, h1, rfl, rfl⟩
    refine ⟨_, (pss_cons (ps_set (i := 1) sc_Payments_pay_all.nd rfl (Or.inl rfl) (pe_meth0 (pv 0) PC_Payments Y_Payments_lot_to_pay G_Payments_lot_to_pay (hr.mono (by first | decide | omega)) C_Payments_lot_to_pay.b .nil pass0))
 (pss_one (ps_while PassesOwn.never (pt_cmpR op_notNk (pv 1) pe_non (nomark _)) (pss_cons (ps_expr (pe_meth (pv 0) PC_Payments Y_Payments_pay G_Payments_pay (hr.mono (by first | decide | omega)) C_Payments_pay.b .nil pass0 (pa_cons (pv 1) pa_nil)))
 (pss_one (ps_set (i := 1) sc_Payments_pay_all.nd rfl (Or.inl rfl) (pe_meth0 (pv 0) PC_Payments Y_Payments_lot_to_pay G_Payments_lot_to_pay (hr.mono (by first | decide | omega)) C_Payments_lot_to_pay.b .nil pass0))))))), ?_⟩
    walk_at "h0"
    obtain ⟨dx, fs, h1, k1, k2⟩ := obj hp
    refine ⟨x, dx, _, rfl, h1, k1, ?_⟩
    walk_at "hs"
    -- what lot_to_pay tells, where it is called
    have call : ∀ {H : Hp} {cl : Nat → Nat → Nat} {Fs : List Ti} {pd : List Pay} {R : VK}, PayAt Z H0 H x n cl Fs pd → PayI n c cl Fs pd →
      (∀ (y : V) H', PayAt Z H0 H' x n cl Fs pd → ((y = .non ∧ ∀ b, 1 ≤ b → b ≤ n → Lds Fs 0 b) ∨ ∃ l L K1, y = .ref l ∧ SrcLot n Fs L ∧ Same H0 K1 ∧ PayAt Z K1 H' x n cl Fs pd ∧ K1 l = some (.lst (nats L))) → R y H') → spLot Z [.ref x] H R (fun _ _ _ => False) := fun {H cl Fs pd R} hp I q =>
      ⟨x, n, H0, cl, Fs, pd, rfl, hp, n1, n40, I.ok, fun all H' s => q .non H' (hp.same s) (.inl ⟨rfl, all⟩), fun l L H' sl s nl el => by
        obtain ⟨K1, sK, hp1, hnew, _⟩ := hp.hole s
        exact q (.ref l) H' (hp.same s) (.inr ⟨l, L, K1, rfl, sl, sK, hp1, hnew l _ nl el⟩)⟩
    refine call hp I fun y H1 hp1 hy => ?_
    walk_at "hs"
    refine ⟨fun m σ' G => ∃ (y : V) (cl : Nat → Nat → Nat) (Fs : List Ti) (pd : List Pay), m = nz n cl ∧ σ' = [some (.ref x), some y] ∧ PayAt Z H0 G x n cl Fs pd ∧ PayI n c cl Fs pd ∧ pd.length + nz n cl ≤ 2000 ∧ ((y = .non ∧ ∀ b, 1 ≤ b → b ≤ n → Lds Fs 0 b) ∨ ∃ l L K1, y = .ref l ∧ SrcLot n Fs L ∧ Same H0 K1 ∧ PayAt Z K1 G x n cl Fs pd ∧ K1 l = some (.lst (nats L))), ⟨_, y, cl, Fs, pd, rfl, rfl, hp1, I, lz, hy⟩, ?_⟩
    clear hp I lz hy hp1 h1 k1 k2
    rintro m σ' G ⟨y, cl, Fs, pd, rfl, rfl, hp, I, lz, hy⟩
    walk_at "hs"
    rcases hy with ⟨rfl, all⟩ | ⟨l, L, K1, rfl, sl, sK, hpK, kl⟩
    · walk_at "hs"
      exact q cl Fs pd G hp I (by omega) all
    · walk_at "hs"
      refine ⟨fun σ' G' => ∃ m', m' < nz n cl ∧ ∃ (y : V) (cl : Nat → Nat → Nat) (Fs : List Ti) (pd : List Pay), m' = nz n cl ∧ σ' = [some (.ref x), some y] ∧ PayAt Z H0 G' x n cl Fs pd ∧ PayI n c cl Fs pd ∧ pd.length + nz n cl ≤ 2000 ∧ ((y = .non ∧ ∀ b, 1 ≤ b → b ≤ n → Lds Fs 0 b) ∨ ∃ l L K1, y = .ref l ∧ SrcLot n Fs L ∧ Same H0 K1 ∧ PayAt Z K1 G' x n cl Fs pd ∧ K1 l = some (.lst (nats L))), fun _ _ h => h, ?_⟩
      obtain ⟨dx, fs, h1, k1, k2⟩ := obj hp
      walk_at "hs"
      refine ⟨x, dx, _, rfl, h1, k2, ?_⟩
      walk_at "hs"
      refine ⟨x, l, n, K1, c, cl, Fs, pd, L, rfl, hpK, n1, n40, I, sl, kl, by omega, fun cl' F' y' G' hp' I' lt => ?_⟩
      have hp2 := hp'.weak sK
      obtain ⟨dx, fs, h1, k1, k2⟩ := obj hp2
      walk_at "hs"
      refine ⟨x, dx, _, rfl, h1, k1, ?_⟩
      walk_at "hs"
      refine call hp2 I' fun y2 G3 hp3 hy => ?_
      walk_at "hs"
      exact ⟨_, lt, y2, cl', F', _, rfl, rfl, hp3, I', by rw [List.length_append]; show _ + 1 + _ ≤ _; omega, hy⟩
def spInit (Z : Ad) : Sp := fun vs H Q _ => ∃ (x wd dx n : Nat) (H0 : Hp) (us : List (Option Nat)) (ls : List (List (Option Bool))), vs = [.ref x, .ref wd] ∧ H x = some (.ins Z.a_Payments dx []) ∧ H0 x = none ∧ Same H0 H ∧ WordsAt Z H0 wd n us ls ∧ WdOk n us ls ∧
  ∀ (cl : Nat → Nat → Nat) (F : List Ti) (pd : List Pay) H', PayAt Z H0 H' x n cl F pd → PayI n (costN us ls) cl F pd → pd.length ≤ 2000 → (∀ b, 1 ≤ b → b ≤ n → Lds F 0 b) → Q .non H'
theorem ok_pinit {f : Addr} {fd : FuncData} (F : Fun K "__init__" "Payments.__init__" s_Payments___init__ f fd) (B : Bl Z mg) (C : PCls K Z) (W : WCls K Z) {f_costs : Addr} {fd_costs : FuncData} (C_costs : Cal K mg "costs" f_costs fd_costs ["words", "block"]) (G_costs : FnOk P w K mg base CX0 1 f_costs fd_costs ["words", "block"] (spCosts Z)) {f_Payments_take_free : Addr} {fd_Payments_take_free : FuncData} (C_Payments_take_free : CalM K f_Payments_take_free fd_Payments_take_free ["self", "block", "places"]) (Y_Payments_take_free : Meth K Z.a_Payments "take_free" f_Payments_take_free) (G_Payments_take_free : FnOk P w K mg base CX0 1 f_Payments_take_free fd_Payments_take_free ["self", "block", "places"] (spTake Z))
    {f_Payments_pay_all : Addr} {fd_Payments_pay_all : FuncData} (C_Payments_pay_all : CalM K f_Payments_pay_all fd_Payments_pay_all ["self"]) (Y_Payments_pay_all : Meth K Z.a_Payments "pay_all" f_Payments_pay_all) (G_Payments_pay_all : FnOk P w K mg base CX0 3 f_Payments_pay_all fd_Payments_pay_all ["self"] (spAll Z)) : FnOk P w K mg base CX0 4 f fd ["self", "words"] (spInit Z) := by
  have PC_Payments := C.c
  refine F.ok sc_Payments___init__ (fun vs H Q E h => ?_) (fun cdv A outer s H vs Q E hr h => ?_)
  · obtain ⟨x, wd, dx, n, H0, us, ls, rfl, _⟩ := h
    rfl
  · obtain ⟨x, wd, dx, n, H0, us, ls, rfl, hx, nx, s0, hw, ok, q⟩ := h
    have n1 := ok.n1
    have n40 := ok.n2
    obtain ⟨wx, ws, tu, tl, was, w1, w2, w3, w4, w5, w6, w7⟩ := id hw
    have hwx : ∀ {G : Hp}, Same H0 G → G wd = some (.ins Z.a_Words wx ws) := fun s => s _ _ w1
    refine ⟨_, (pss_cons (ps_fld (pv 0) (pe_fldK (K := K) rfl (pv 1) rfl) rfl)
 (pss_cons (ps_fld (pv 0) (pe_dc (own := [("block", 2)]) rfl sc_Payments___init__.nd (pi_range2 rfl B.b_range (pa_cons pe_int (pa_cons (pe_op op_add (pe_fldK (K := K) rfl (pv 1) rfl) pe_int) pa_nil))) (blkOk_by (N := ["self", "words", "block", "place"]) (sc := defScope s_Payments___init__) (by decide +kernel)) (fun _ _ _ _ _ => (pg_name (i := 2) sc_Payments___init__.nd rfl (Or.inl rfl))) (fun _ _ _ _ _ => pts_nil) (fun _ _ _ _ _ => (pv 2)) (fun _ _ _ _ _ => (pe_call G_costs (hr.mono (by first | decide | omega)) (by rfl) C_costs.g C_costs.k C_costs.b .nil pass0 (pa_cons (pv 1) (pa_cons (pv 2) pa_nil))))) rfl)
 (pss_cons (ps_fld (pv 0) (pe_lc (own := [("place", 3)]) rfl sc_Payments___init__.nd (pi_range1 rfl B.b_range (pa_cons (pe_op op_add (pe_fldK (K := K) rfl (pv 1) rfl) pe_int) pa_nil)) (blkOk_by (N := ["self", "words", "block", "place"]) (sc := defScope s_Payments___init__) (by decide +kernel)) (fun _ _ _ _ _ => (pg_name (i := 3) sc_Payments___init__.nd rfl (Or.inl rfl))) (fun _ _ _ _ _ => pts_nil) (fun _ _ _ _ _ => (pe_op op_shl pe_int (pv 3)))) rfl)
 (pss_cons (ps_fld (pv 0) (pe_lst pa_nil) rfl)
 (pss_cons (ps_fld (pv 0) (pe_lst pa_nil) rfl)
 (pss_cons (ps_for PassesOwn.never rfl (pi_range2 rfl B.b_range (pa_cons pe_int (pa_cons (pe_op op_add (pe_fldK (K := K) rfl (pv 1) rfl) pe_int) pa_nil))) (pg_name (i := 2) sc_Payments___init__.nd rfl (Or.inl rfl)) (pss_one (ps_expr (pe_meth (pv 0) PC_Payments Y_Payments_take_free G_Payments_take_free (hr.mono (by first | decide | omega)) C_Payments_take_free.b .nil pass0 (pa_cons (pv 2) (pa_cons (pe_listRg rfl (by rfl) B.b_list (prg_1 (by rfl) B.b_range (pe_op op_add (pe_fldK (K := K) rfl (pv 1) rfl) pe_int))) pa_nil))))))
 (pss_one (ps_expr (pe_meth0 (pv 0) PC_Payments Y_Payments_pay_all G_Payments_pay_all (hr.mono (by first | decide | omega)) C_Payments_pay_all.b .nil pass0))))))))), ?_⟩
    walk_at "h0"
    refine ⟨wd, _, wx, _, _, rfl, hwx s0, W.c, W.nb, w2, ?_⟩
    walk_at "hs"
    refine ⟨x, _, dx, _, rfl, hx, C.c, C.nb, by decide, ?_⟩
    have s1 : Same H0 (upd H x (.ins Z.a_Payments dx (putF "blocks" (.int (n : Nat)) []))) := same_mut s0 nx
    have e1 : upd H x (.ins Z.a_Payments dx (putF "blocks" (.int (n : Nat)) [])) x = some (.ins Z.a_Payments dx [("blocks", .int (n : Nat))]) := upd_same
    generalize upd H x (.ins Z.a_Payments dx (putF "blocks" (.int (n : Nat)) [])) = H1 at s1 e1 ⊢
    clear hx s0
    walk_at "hs"
    refine ⟨wd, _, wx, _, _, rfl, hwx s1, W.c, W.nb, w2, ?_⟩
    walk_at "hs"
    refine ⟨1, (n : Int) + 1, rfl, ⟨by omega, by omega, by omega, by omega⟩, fun D nD => ?_⟩
    refine dc_it (walk_range (lo := 1) (n := Int.toNat ((n : Int) + 1 - 1))) (fun i G => Same H1 G ∧ ∃ as : List Addr, as.length = i ∧ as.Nodup ∧ (∀ a ∈ as, G a ≠ none) ∧ (∀ a ∈ as, H1 a = none) ∧ G D = some (.dK (kdl 1 (refs as))) ∧ ∀ (k : Nat) a, as[k]? = some a → G a = some (.lst (costsV us ls (k + 1) (n + 1))))
      ⟨same_new (Same.refl _) nD, [], rfl, .nil, (fun a h => nomatch h), (fun a h => nomatch h), upd_same, fun k a h => nomatch h⟩ (fun i G _ h => trivial) ?_ ?_
    · rintro i v G G' hi ⟨s2, as, la, nd, al, fr, eD, ls'⟩ ⟨rfl, rfl⟩
      have ec : (1 : Int) + (i : Int) = ((i + 1 : Nat) : Int) := by omega
      walk_at "hs"
      refine ⟨rfl, ?_⟩
      walk_at "hs"
      refine ⟨wd, n, i + 1, us, ls, by rw [ec]; rfl, hw.same (s1.trans s2), ok, by omega, by omega, fun a G2 s3 na ea => ?_⟩
      have eD2 := s3 _ _ eD
      have nDa : a ≠ D := fun z => by rw [z, eD2] at ea; cases ea
      refine ⟨_, Sum.inl (1 + (i : Nat)), rfl, eD2, szLt (by rw [kdl_len, refs_length]; omega), same_mut (s2.trans s3) nD, as ++ [a], by rw [List.length_append, la]; rfl, L2.nd_snoc nd (fun m => al a m na), fun b hb => ?_, fun b hb => ?_, ?_, fun k b hb => ?_⟩
      · by_cases z : b = D
        · rw [z, upd_same]
          exact nofun
        · rw [upd_ne z]
          rcases List.mem_append.mp hb with hb | hb
          · intro e
            exact al b hb (s3.free e)
          · rw [List.mem_singleton.mp hb, ea]
            exact nofun
      · rcases List.mem_append.mp hb with hb | hb
        · exact fr b hb
        · rw [List.mem_singleton.mp hb]
          exact s2.free na
      · rw [upd_same, kdl_snoc (by rw [refs_length, la]; omega), refs_app]
        rfl
      · rcases snoc_get hb with h | ⟨e, rfl⟩
        · have := s3 _ _ (ls' k b h)
          exact keepM (fun z => by rw [z, eD2] at this; cases this) this
        · rw [e, la]
          exact keepM nDa ea
    rintro H2 ⟨s2, rows, la, nd, al, fr, eD, er⟩
    rw [show Int.toNat ((n : Int) + 1 - 1) = n by omega] at la
    have frH : ∀ a ∈ rows, H0 a = none := fun a ha => s1.free (fr a ha)
    have nxD : x ≠ D := ne_of_none e1 nD
    have e2 := s2 _ _ e1
    have s02 := s1.trans s2
    clear fr al nD s2
    walk_at "hs"
    refine ⟨x, _, dx, _, rfl, e2, C.c, C.nl, by show 1 < 1000; decide, ?_⟩
    have nr : ∀ a ∈ rows, a ≠ x := fun a ha z => by
      obtain ⟨k, hk, e⟩ := List.getElem_of_mem ha
      have := er k a (by rw [List.getElem?_eq_getElem hk, e])
      rw [z, e2] at this
      cases this
    have s3 : Same H0 (upd H2 x (.ins Z.a_Payments dx (putF "left" (.ref D) [("blocks", .int (n : Nat))]))) := same_mut s02 nx
    have e3 : upd H2 x (.ins Z.a_Payments dx (putF "left" (.ref D) [("blocks", .int (n : Nat))])) x = some (.ins Z.a_Payments dx [("blocks", .int (n : Nat)), ("left", .ref D)]) := upd_same
    have k3 : ∀ b o, b ≠ x → H2 b = some o → upd H2 x (.ins Z.a_Payments dx (putF "left" (.ref D) [("blocks", .int (n : Nat))])) b = some o := fun b o ne e => keepM ne e
    generalize upd H2 x (.ins Z.a_Payments dx (putF "left" (.ref D) [("blocks", .int (n : Nat))])) = H3 at s3 e3 k3 ⊢
    have eD3 := k3 _ _ nxD.symm eD
    have er3 : ∀ (k : Nat) a, rows[k]? = some a → H3 a = some (.lst (costsV us ls (k + 1) (n + 1))) := fun k a h => k3 _ _ (nr a (List.mem_of_getElem? h)) (er k a h)
    clear k3 er eD e2 s02 e1 s1 H1
    clear H2
    walk_at "hs"
    refine ⟨wd, _, wx, _, _, rfl, hwx s3, W.c, W.nb, w2, ?_⟩
    walk_at "hs"
    refine ⟨(n : Int) + 1, rfl, by omega, by omega, fun FP nFP => ?_⟩
    refine lc_range (lo := 0) (n := Int.toNat ((n : Int) + 1)) (fun k G => Same H3 G ∧ G FP = some (.lst (mksV (fun p => 2 ^ p) k))) ⟨same_new (Same.refl _) nFP, upd_same⟩ ?_ ?_
    · rintro k G hk ⟨s4, eF⟩
      have ec : (0 : Int) + (k : Int) = (k : Int) := by omega
      walk_at "hs"
      refine ⟨rfl, ?_⟩
      rw [ec]
      walk_at "hs"
      rw [bit_shl]
      refine ⟨_, eF, by rw [mksV_len]; exact szLt (by omega), same_mut s4 nFP, ?_⟩
      rw [upd_same]
      unfold mksV
      rw [List.range_succ, List.map_append]
      rfl
    rintro H4 ⟨s4, eF⟩
    rw [show Int.toNat ((n : Int) + 1) = n + 1 by omega] at eF
    have e4 := s4 _ _ e3
    have nxF : x ≠ FP := ne_of_none e3 nFP
    have s04 := s3.trans s4
    have eD4 := s4 _ _ eD3
    have er4 : ∀ (k : Nat) a, rows[k]? = some a → H4 a = some (.lst (costsV us ls (k + 1) (n + 1))) := fun k a h => s4 _ _ (er3 k a h)
    have nFr : ∀ a ∈ rows, a ≠ FP := fun a ha => by
      obtain ⟨k, hk, e⟩ := List.getElem_of_mem ha
      exact ne_of_none (er3 k a (by rw [List.getElem?_eq_getElem hk, e])) nFP
    have fF : H0 FP = none := s3.free nFP
    clear s4 er3 eD3 e3 s3 nFP H3
    walk_at "hs"
    refine ⟨x, _, dx, _, rfl, e4, C.c, C.nf, by show 2 < 1000; decide, ?_⟩
    have s5 : Same H0 (upd H4 x (.ins Z.a_Payments dx (putF "from_places" (.ref FP) [("blocks", .int (n : Nat)), ("left", .ref D)]))) := same_mut s04 nx
    have e5 : upd H4 x (.ins Z.a_Payments dx (putF "from_places" (.ref FP) [("blocks", .int (n : Nat)), ("left", .ref D)])) x = some (.ins Z.a_Payments dx [("blocks", .int (n : Nat)), ("left", .ref D), ("from_places", .ref FP)]) := upd_same
    have k5 : ∀ b o, b ≠ x → H4 b = some o → upd H4 x (.ins Z.a_Payments dx (putF "from_places" (.ref FP) [("blocks", .int (n : Nat)), ("left", .ref D)])) b = some o := fun b o ne e => keepM ne e
    generalize upd H4 x (.ins Z.a_Payments dx (putF "from_places" (.ref FP) [("blocks", .int (n : Nat)), ("left", .ref D)])) = H5 at s5 e5 k5 ⊢
    have eD5 := k5 _ _ nxD.symm eD4
    have eF5 := k5 _ _ nxF.symm eF
    have er5 : ∀ (k : Nat) a, rows[k]? = some a → H5 a = some (.lst (costsV us ls (k + 1) (n + 1))) := fun k a h => k5 _ _ (nr a (List.mem_of_getElem? h)) (er4 k a h)
    clear k5 er4 eD4 eF e4 s04 H4
    walk_at "hs"
    intro FT nFT
    have s6 : Same H5 (upd H5 FT (.lst [])) := same_new (Same.refl _) nFT
    have eT : upd H5 FT (.lst []) FT = some (.lst []) := upd_same
    generalize upd H5 FT (.lst []) = H6 at s6 eT ⊢
    have e6 := s6 _ _ e5
    have eD6 := s6 _ _ eD5
    have eF6 := s6 _ _ eF5
    have er6 : ∀ (k : Nat) a, rows[k]? = some a → H6 a = some (.lst (costsV us ls (k + 1) (n + 1))) := fun k a h => s6 _ _ (er5 k a h)
    have nTF : FP ≠ FT := ne_of_none eF5 nFT
    have nxT : x ≠ FT := ne_of_none e5 nFT
    have nTr : ∀ a ∈ rows, a ≠ FT := fun a ha => by
      obtain ⟨k, hk, e⟩ := List.getElem_of_mem ha
      exact ne_of_none (er5 k a (by rw [List.getElem?_eq_getElem hk, e])) nFT
    have fT : H0 FT = none := s5.free nFT
    have s06 := s5.trans s6
    clear er5 eF5 eD5 e5 s5 nFT s6 H5
    walk_at "hs"
    refine ⟨x, _, dx, _, rfl, e6, C.c, C.nt, by show 3 < 1000; decide, ?_⟩
    have s7 : Same H0 (upd H6 x (.ins Z.a_Payments dx (putF "free_ties" (.ref FT) [("blocks", .int (n : Nat)), ("left", .ref D), ("from_places", .ref FP)]))) := same_mut s06 nx
    have e7 : upd H6 x (.ins Z.a_Payments dx (putF "free_ties" (.ref FT) [("blocks", .int (n : Nat)), ("left", .ref D), ("from_places", .ref FP)])) x = some (.ins Z.a_Payments dx [("blocks", .int (n : Nat)), ("left", .ref D), ("from_places", .ref FP), ("free_ties", .ref FT)]) := upd_same
    have k7 : ∀ b o, b ≠ x → H6 b = some o → upd H6 x (.ins Z.a_Payments dx (putF "free_ties" (.ref FT) [("blocks", .int (n : Nat)), ("left", .ref D), ("from_places", .ref FP)])) b = some o := fun b o ne e => keepM ne e
    generalize upd H6 x (.ins Z.a_Payments dx (putF "free_ties" (.ref FT) [("blocks", .int (n : Nat)), ("left", .ref D), ("from_places", .ref FP)])) = H7 at s7 e7 k7 ⊢
    have eD7 := k7 _ _ nxD.symm eD6
    have eF7 := k7 _ _ nxF.symm eF6
    have eT7 := k7 _ _ nxT.symm eT
    have er7 : ∀ (k : Nat) a, rows[k]? = some a → H7 a = some (.lst (costsV us ls (k + 1) (n + 1))) := fun k a h => k7 _ _ (nr a (List.mem_of_getElem? h)) (er6 k a h)
    clear k7 er6 eD6 eF6 eT e6 s06 H6
    walk_at "hs"
    intro PL nPL
    have s8 : Same H7 (upd H7 PL (.lst [])) := same_new (Same.refl _) nPL
    have eP : upd H7 PL (.lst []) PL = some (.lst []) := upd_same
    generalize upd H7 PL (.lst []) = H8 at s8 eP ⊢
    have e8 := s8 _ _ e7
    have eD8 := s8 _ _ eD7
    have eF8 := s8 _ _ eF7
    have eT8 := s8 _ _ eT7
    have er8 : ∀ (k : Nat) a, rows[k]? = some a → H8 a = some (.lst (costsV us ls (k + 1) (n + 1))) := fun k a h => s8 _ _ (er7 k a h)
    have nPF : FP ≠ PL := ne_of_none eF7 nPL
    have nPT : FT ≠ PL := ne_of_none eT7 nPL
    have nxP : x ≠ PL := ne_of_none e7 nPL
    have nPr : ∀ a ∈ rows, a ≠ PL := fun a ha => by
      obtain ⟨k, hk, e⟩ := List.getElem_of_mem ha
      exact ne_of_none (er7 k a (by rw [List.getElem?_eq_getElem hk, e])) nPL
    have fP : H0 PL = none := s7.free nPL
    have s08 := s7.trans s8
    clear er7 eF7 eD7 eT7 e7 s7 nPL s8 H7
    walk_at "hs"
    refine ⟨x, _, dx, _, rfl, e8, C.c, C.np, by show 4 < 1000; decide, ?_⟩
    have s9 : Same H0 (upd H8 x (.ins Z.a_Payments dx (putF "paid" (.ref PL) [("blocks", .int (n : Nat)), ("left", .ref D), ("from_places", .ref FP), ("free_ties", .ref FT)]))) := same_mut s08 nx
    have e9 : upd H8 x (.ins Z.a_Payments dx (putF "paid" (.ref PL) [("blocks", .int (n : Nat)), ("left", .ref D), ("from_places", .ref FP), ("free_ties", .ref FT)])) x = some (.ins Z.a_Payments dx [("blocks", .int (n : Nat)), ("left", .ref D), ("from_places", .ref FP), ("free_ties", .ref FT), ("paid", .ref PL)]) := upd_same
    have k9 : ∀ b o, b ≠ x → H8 b = some o → upd H8 x (.ins Z.a_Payments dx (putF "paid" (.ref PL) [("blocks", .int (n : Nat)), ("left", .ref D), ("from_places", .ref FP), ("free_ties", .ref FT)])) b = some o := fun b o ne e => keepM ne e
    generalize upd H8 x (.ins Z.a_Payments dx (putF "paid" (.ref PL) [("blocks", .int (n : Nat)), ("left", .ref D), ("from_places", .ref FP), ("free_ties", .ref FT)])) = H9 at s9 e9 k9 ⊢
    have hp0 : PayAt Z H0 H9 x n (costN us ls) [] [] := by
      refine ⟨s9, ⟨D, FP, FT, PL, rows, [], []⟩, fun p => 2 ^ p, ⟨⟨dx, e9⟩, k9 _ _ nxD.symm eD8, la, fun k a h => k9 _ _ (nr a (List.mem_of_getElem? h)) (er8 k a h), k9 _ _ nxF.symm eF8, k9 _ _ nxT.symm eT8, ⟨rfl, fun k a t h => by cases h⟩, k9 _ _ nxP.symm eP, ⟨rfl, fun k a t h => by cases h⟩, ?_, fun p hp => (bits_one p).cong fun q => ?_⟩, fun a ha => ?_⟩
      · refine List.nodup_cons.mpr ⟨fun h => ?_, List.nodup_cons.mpr ⟨fun h => ?_, List.nodup_cons.mpr ⟨fun h => nPr _ h rfl, nd⟩⟩⟩
        · rcases List.mem_cons.mp h with h | h
          · exact nTF h
          · rcases List.mem_cons.mp h with h | h
            · exact nPF h
            · exact nFr _ h rfl
        · rcases List.mem_cons.mp h with h | h
          · exact nPT h
          · exact nTr _ h rfl
      · exact ⟨.inl, fun h => h.elim id fun h => by cases h⟩
      · rcases List.mem_cons.mp ha with rfl | ha
        · exact fF
        rcases List.mem_cons.mp ha with rfl | ha
        · exact fT
        rcases List.mem_cons.mp ha with rfl | ha
        · exact fP
        exact frH _ ha
    clear k9 e9 eP er8 eT8 eF8 eD8 e8 s08 H8 nPr fP nPT nPF nxP nTr fT nTF nxT nFr fF nxF nr frH la nxD s9
    walk_at "hs"
    refine ⟨wd, _, wx, _, _, rfl, hwx hp0.1, W.c, W.nb, w2, ?_⟩
    walk_at "hs"
    refine ⟨1, (n : Int) + 1, rfl, ⟨by omega, by omega, by omega, by omega⟩, ?_⟩
    have rg0 : ∀ m : Nat, rgV 0 ((m : Int) + 1) = nats (List.range (m + 1)) := fun m => by
      unfold rgV nats
      rw [show ((m : Int) + 1 - 0).toNat = m + 1 by omega]
      refine List.map_congr_left fun i _ => ?_
      rw [show (0 : Int) + ((i : Nat) : Int) = ((i : Nat) : Int) by omega]
      rfl
    refine lp_range (lo := 1) (n := Int.toNat ((n : Int) + 1 - 1)) (fun i σ' G => (∃ x2 x3, σ' = [some (.ref x), some (.ref wd), x2, x3]) ∧ PayAt Z H0 G x n (costN us ls) (newAll (costN us ls) (List.range (n + 1)) (List.range' 1 i)) [])
      ⟨⟨_, _, rfl⟩, hp0⟩ ?_ ?_
    · clear hp0
      rintro i σ' G hi ⟨⟨x2, x3, rfl⟩, hp1⟩
      obtain ⟨s1, A, mk, R, fr⟩ := id hp1
      obtain ⟨dx', h1⟩ := R.obj
      clear R fr
      walk_at "hs"
      refine ⟨x, dx', _, rfl, h1, rfl, ?_⟩
      walk_at "hs"
      refine ⟨wd, _, wx, _, _, rfl, hwx s1, W.c, W.nb, w2, ?_⟩
      walk_at "hs"
      refine ⟨⟨by omega, by omega, by omega⟩, fun O nO => ?_⟩
      rw [rg0]
      have s2 : Same G (upd G O (.lst (nats (List.range (n + 1))))) := same_new (Same.refl _) nO
      have eO : upd G O (.lst (nats (List.range (n + 1)))) O = some (.lst (nats (List.range (n + 1)))) := upd_same
      generalize upd G O (.lst (nats (List.range (n + 1)))) = G1 at s2 eO ⊢
      obtain ⟨K1, sK, hp2, hnew, _⟩ := hp1.hole s2
      have kO := hnew O _ nO eO
      have ec : (1 : Int) + (i : Int) = ((i + 1 : Nat) : Int) := by omega
      walk_at "hs"
      have fl : (newAll (costN us ls) (List.range (n + 1)) (List.range' 1 i)).length ≤ 40 * 41 := by
        have h := newAll_len (cl := costN us ls) (ps := List.range (n + 1)) (L := List.range' 1 i)
        rw [List.length_range', List.length_range] at h
        exact Nat.le_trans h (Nat.mul_le_mul (by omega) (by omega))
      refine ⟨x, O, i + 1, n, K1, _, _, _, List.range (n + 1), by rw [ec]; rfl, hp2, by omega, by omega, n40, kO, fun p hp => by rw [List.mem_range] at hp; omega, by rw [List.length_range]; omega, fun G2 hp3 => ?_⟩
      refine ⟨⟨_, _, rfl⟩, ?_⟩
      rw [List.range'_concat, show 1 + 1 * i = i + 1 by omega, newAll_snoc]
      exact hp3.weak sK
    · rintro σ' G ⟨⟨x2, x3, rfl⟩, hp1⟩
      rw [show Int.toNat ((n : Int) + 1 - 1) = n by omega] at hp1
      obtain ⟨s1, A, mk, R, fr⟩ := id hp1
      obtain ⟨dx', h1⟩ := R.obj
      clear R fr
      walk_at "hs"
      refine ⟨x, dx', _, rfl, h1, rfl, ?_⟩
      walk_at "hs"
      have mem : ∀ b p, (b, p) ∈ newAll (costN us ls) (List.range (n + 1)) (List.range' 1 n) ↔ (1 ≤ b ∧ b ≤ n) ∧ p ≤ n ∧ p ≠ b ∧ costN us ls b p = 0 := fun b p => by
        rw [newAll_mem, List.mem_range'_1, List.mem_range]
        constructor
        · rintro ⟨g1, g2, g3⟩
          exact ⟨by omega, by omega, g3⟩
        · rintro ⟨g1, g2, g3⟩
          exact ⟨by omega, by omega, g3⟩
      have I := pay_start (n := n) (c := costN us ls) (F := newAll (costN us ls) (List.range (n + 1)) (List.range' 1 n)) (fun b p h => by
        have := (mem b p).mp h
        exact ⟨this.1.1, this.1.2, this.2.1, this.2.2.1⟩) (newAll_nd List.nodup_range List.nodup_range') (fun b p h1 h2 h3 h4 => (mem b p).trans ⟨fun h => h.2.2.2, fun h => ⟨⟨h1, h2⟩, h3, h4, h⟩⟩)
      have nl := nz_len (cl := costN us ls) n40
      refine ⟨x, n, H0, costN us ls, _, _, _, rfl, hp1, n1, n40, I, by show 0 + _ ≤ _; omega, fun cl' F' pd' G2 hp2 I2 lp all => ?_⟩
      walk_at "hs"
      exact q cl' F' pd' G2 hp2 I2 lp all
end
set_option maxRecDepth 100000
set_option maxHeartbeats 2000000
open PySem PySem.Spec L2


local macro_rules | `(tactic| walk_at "h1") => `(tactic| first
  | with_reducible refine x_dget ?_
  | with_reducible refine x_dc ?_
  | with_reducible refine x_keysF ?_
  | with_reducible refine x_keysFT ?_
  | with_reducible refine x_listZip ?_
  | with_reducible refine x_enls ?_)

local macro_rules | `(tactic| walk_at "h1") => `(tactic| first
  | with_reducible refine x_meth ?_
  | with_reducible refine x_tru ?_
  | with_reducible refine x_augS ?_)

theorem sc_nest : FnScope ["words"] ["words"] (defScope s_nest) := ⟨rfl, rfl, rfl, by decide +kernel, rfl, by decide +kernel, by decide +kernel⟩
theorem cast_sum : ∀ l : List Nat, (l.map fun (k : Nat) => (k : Int)).sum = ((l.sum : Nat) : Int)
  | [] => rfl
  | a :: l => by
    rw [List.map_cons, List.sum_cons, List.sum_cons, cast_sum l]
    omega
section
variable {P : Program} {w : World} {K : PySem.W.Frag} {mg : Str → Option Value} {base : Heap} {Z : Ad}
theorem make_pay {H : Hp} {R : Addr → Hp → Prop} {wd n : Nat} {us : List (Option Nat)} {ls : List (List (Option Bool))} (hw : WordsAt Z H wd n us ls) (ok : WdOk n us ls)
    (q : ∀ x cl F pd H', H x = none → PayAt Z H H' x n cl F pd → PayI n (costN us ls) cl F pd → pd.length ≤ 2000 → (∀ b, 1 ≤ b → b ≤ n → Lds F 0 b) → R x H') :
    ∀ x dx, H x = none → H dx = none → dx ≠ x → spInit Z (.ref x :: ([.ref wd] ++ [])) (upd (upd H dx (.own x)) x (.ins Z.a_Payments dx [])) (fun v H2 => v = .non ∧ R x H2) (fun _ _ _ => False) := by
  intro m dm hm hdm ne
  have hm2 : upd H dm (.own m) m = none := by
    rw [upd_ne (Ne.symm ne)]
    exact hm
  have s0 : Same H (upd (upd H dm (.own m)) m (.ins Z.a_Payments dm [])) := same_new (same_new (Same.refl H) hdm) hm2
  exact ⟨m, wd, dm, n, H, us, ls, rfl, upd_same, hm, s0, hw, ok, fun cl F pd H' hp I lp all => ⟨rfl, q m cl F pd H' hm hp I lp all⟩⟩
def spNest (Z : Ad) : Sp := fun vs H Q _ => ∃ (wd n : Nat) (us : List (Option Nat)) (ls : List (List (Option Bool))), vs = [.ref wd] ∧ WordsAt Z H wd n us ls ∧ WdOk n us ls ∧
  ∀ (u : Addr) (as : List Addr) (pd : List Pay) H', Same H H' → H u = none → H' u = some (.tup (refs as)) → PyAt H' as pd → Feas n (costN us ls) pd → (∃ hs, BestT n (costN us ls) pd hs) → pd.length ≤ 2000 → Q (.ref u) H'
theorem ok_nest {f : Addr} {fd : FuncData} (F : Fun K "nest" "nest" s_nest f fd) (B : Bl Z mg) (C : PCls K Z) {f_Payments___init__ : Addr} {fd_Payments___init__ : FuncData} (C_Payments___init__ : CalM K f_Payments___init__ fd_Payments___init__ ["self", "words"]) (G_Payments___init__ : FnOk P w K mg base CX0 4 f_Payments___init__ fd_Payments___init__ ["self", "words"] (spInit Z)) (M_Payments : Mk K Z.a_Payments f_Payments___init__) : FnOk P w K mg base CX0 6 f fd ["words"] (spNest Z) := by
  refine F.ok sc_nest (fun vs H Q E h => ?_) (fun cdv A outer s H vs Q E hr h => ?_)
  · obtain ⟨wd, n, us, ls, rfl, _⟩ := h
    rfl
  · obtain ⟨wd, n, us, ls, rfl, hw, ok, q⟩ := h
    refine ⟨_, (pss_one (ps_ret (pe_callTy (call_tplK (K := K) rfl) (by rfl) B.b_tuple (by decide +kernel) (pa_cons (pe_fldK (K := K) rfl (pe_make M_Payments G_Payments___init__ (hr.mono (by first | decide | omega)) (by rfl) B.k_Payments C_Payments___init__.b .nil pass0 (pa_cons (pv 0) pa_nil)) rfl) pa_nil)))), ?_⟩
    walk_at "h0"
    refine x_make ?_
    walk_at "hs"
    refine make_pay hw ok fun x cl F pd H1 nx hp I lp all => ?_
    obtain ⟨s0, A, mk, R, fr⟩ := id hp
    obtain ⟨dx, h1⟩ := R.obj
    walk_at "hs"
    refine ⟨x, _, dx, _, _, rfl, h1, C.c, C.np, rfl, ?_⟩
    have tp : SqL K H1 A.pl (refs A.ps) := .of R.pl
    walk_at "hs"
    intro U nU
    have s3 : Same H1 (upd H1 U (.tup (refs A.ps))) := same_new (Same.refl _) nU
    have eU : upd H1 U (.tup (refs A.ps)) U = some (.tup (refs A.ps)) := upd_same
    generalize upd H1 U (.tup (refs A.ps)) = G3 at s3 eU ⊢
    obtain ⟨hl, T, hall⟩ := grow_all I all
    exact q U A.ps pd G3 (s0.trans s3) (s0.free nU) eU (R.ps.keep fun a xs e => s3 _ _ e) I.feas ⟨_, TreeI.best I T ok.n1 ok.n2 hall⟩ lp
end
set_option maxRecDepth 100000
set_option maxHeartbeats 2000000
open PySem PySem.Spec L2


local macro_rules | `(tactic| walk_at "h1") => `(tactic| first
  | with_reducible refine x_dget ?_
  | with_reducible refine x_dc ?_
  | with_reducible refine x_keysF ?_
  | with_reducible refine x_keysFT ?_
  | with_reducible refine x_listZip ?_
  | with_reducible refine x_enls ?_)

local macro_rules | `(tactic| walk_at "h1") => `(tactic| first
  | with_reducible refine x_meth ?_
  | with_reducible refine x_tru ?_
  | with_reducible refine x_augS ?_)

theorem sc_is_ascending : FnScope ["row", "at"] ["row"] (defScope s_is_ascending) := ⟨rfl, rfl, rfl, by decide +kernel, rfl, by decide +kernel, by decide +kernel⟩
theorem sc_is_lot_within : FnScope ["least", "most", "thing", "part"] ["least", "most", "thing"] (defScope s_is_lot_within) := ⟨rfl, rfl, rfl, by decide +kernel, rfl, by decide +kernel, by decide +kernel⟩
theorem sc_is_pair : FnScope ["thing"] ["thing"] (defScope s_is_pair) := ⟨rfl, rfl, rfl, by decide +kernel, rfl, by decide +kernel, by decide +kernel⟩
theorem sc__is_payment : FnScope ["words", "thing", "lot", "number"] ["words", "thing"] (defScope s__is_payment) := ⟨rfl, rfl, rfl, by decide +kernel, rfl, by decide +kernel, by decide +kernel⟩
def bls (l : List Bool) : List V := l.map V.bl
theorem bls_len (l : List Bool) : (bls l).length = l.length := List.length_map ..
theorem rep_all (n : Nat) : (List.replicate n true).all id = true := List.all_eq_true.mpr fun b hb => (List.mem_replicate.mp hb).2
theorem bls_rep (n : Nat) : bls (List.replicate (n + 1) true) = bls (List.replicate n true) ++ [V.bl true] := by
  rw [List.replicate_succ']
  unfold bls
  rw [List.map_append]
  rfl
theorem nats_item {l : List Nat} {i : Nat} {v : V} (h : (nats l)[i]? = some v) : ∃ p, l[i]? = some p ∧ v = .int (p : Nat) := natsV h
section
variable {P : Program} {w : World} {K : PySem.W.Frag} {mg : Str → Option Value} {base : Heap} {Z : Ad}
def spAsc : Sp := fun vs H Q _ => ∃ (t : Addr) (l : List Nat), vs = [.ref t] ∧ H t = some (.tup (nats l)) ∧ l.length ≤ 200 ∧ l.Pairwise (· < ·) ∧ ∀ H', Same H H' → Q (.bl true) H'
theorem ok_asc {f : Addr} {fd : FuncData} (F : Fun K "is_ascending" "is_ascending" s_is_ascending f fd) (B : Bl Z mg) : FnOk P w K mg base CX0 1 f fd ["row"] spAsc := by
  refine F.ok sc_is_ascending (fun vs H Q E h => ?_) (fun cdv A outer s H vs Q E hr h => ?_)
  · obtain ⟨t, l, rfl, _⟩ := h
    rfl
  · obtain ⟨t, l, rfl, eT, l200, asc, q⟩ := h
    have sT : SqT K H t (nats l) := .of eT
    refine ⟨_, (pss_one (ps_ret (pe_callB (cr_allK (K := K) rfl rfl) (by rfl) B.b_all (by decide +kernel) (pa_cons (pe_lc (own := [("at", 1)]) rfl sc_is_ascending.nd (pi_range1 rfl B.b_range (pa_cons (pe_op op_sub (pe_callB (call_lenK (K := K) rfl) (by rfl) B.b_len PySem.boot_len (pa_cons (pv 0) pa_nil)) pe_int) pa_nil)) (blkOk_by (N := ["row", "at"]) (sc := defScope s_is_ascending) (by decide +kernel)) (fun _ _ _ _ _ => (pg_name (i := 1) sc_is_ascending.nd rfl (Or.inl rfl))) (fun _ _ _ _ _ => pts_nil) (fun _ _ _ _ _ => (pe_cmpR op_lt (pe_ix (ix_tupK (K := K) rfl) (pv 0) (pv 1) (fun _ _ => rfl)) (pe_ix (ix_tupK (K := K) rfl) (pv 0) (pe_op op_add (pv 1) pe_int) (fun _ _ => rfl)) (nomark _)))) pa_nil)))), ?_⟩
    walk_at "h0"
    rw [nats_length]
    refine ⟨(l.length : Int) - 1, rfl, by omega, by omega, fun R nR => ?_⟩
    refine lc_range (lo := 0) (n := Int.toNat ((l.length : Int) - 1)) (fun i G => Same H G ∧ G R = some (.lst (bls (List.replicate i true)))) ⟨same_new (Same.refl _) nR, upd_same⟩ ?_ ?_
    · rintro i G hi ⟨s1, eR⟩
      have h1 : i < l.length := by omega
      have h2 : i + 1 < l.length := by omega
      have a1 : atI (nats l) (0 + (i : Int)) = some (.int (l[i] : Nat)) := by
        rw [Int.zero_add]
        exact atI_nat (nats_get (List.getElem?_eq_getElem h1))
      have a2 : atI (nats l) (0 + (i : Int) + 1) = some (.int (l[i + 1] : Nat)) := by
        rw [show 0 + (i : Int) + 1 = ((i + 1 : Nat) : Int) by omega]
        exact atI_nat (nats_get (List.getElem?_eq_getElem h2))
      have sT1 := s1.seqT sT
      have lt := (List.pairwise_iff_getElem.mp asc) i (i + 1) h1 h2 (by omega)
      walk_at "hs"
      refine ⟨rfl, ?_⟩
      walk_at "hs"
      rw [decide_eq_true (show ((l[i] : Nat) : Int) < (l[i + 1] : Nat) by omega)]
      refine ⟨_, eR, szLt (by rw [bls_len, List.length_replicate]; omega), same_mut s1 nR, ?_⟩
      rw [upd_same, bls_rep]
    · rintro G ⟨s1, eR⟩
      walk_at "hs"
      refine ⟨R, List.replicate _ true, rfl, .of eR, ?_⟩
      rw [rep_all]
      exact q _ s1
def spLotW : Sp := fun vs H Q _ => ∃ (lo m : Int) (t : Addr) (l : List Nat), vs = [.int lo, .int m, .ref t] ∧ H t = some (.tup (nats l)) ∧ l.length ≤ 200 ∧ l.Pairwise (· < ·) ∧ (∀ x ∈ l, lo ≤ (x : Int) ∧ (x : Int) ≤ m) ∧ -1000 < m ∧ m < 1000 ∧ ∀ H', Same H H' → Q (.bl true) H'
theorem ok_lotW {f : Addr} {fd : FuncData} (F : Fun K "is_lot_within" "is_lot_within" s_is_lot_within f fd) (B : Bl Z mg) {f_is_within : Addr} {fd_is_within : FuncData} (C_is_within : Cal K mg "is_within" f_is_within fd_is_within ["least", "most", "thing"]) (G_is_within : FnOk P w K mg base CX0 1 f_is_within fd_is_within ["least", "most", "thing"] spWithin) {f_is_ascending : Addr} {fd_is_ascending : FuncData} (C_is_ascending : Cal K mg "is_ascending" f_is_ascending fd_is_ascending ["row"]) (G_is_ascending : FnOk P w K mg base CX0 1 f_is_ascending fd_is_ascending ["row"] spAsc) : FnOk P w K mg base CX0 2 f fd ["least", "most", "thing"] spLotW := by
  refine F.ok sc_is_lot_within (fun vs H Q E h => ?_) (fun cdv A outer s H vs Q E hr h => ?_)
  · obtain ⟨lo, m, t, l, rfl, _⟩ := h
    rfl
  · obtain ⟨lo, m, t, l, rfl, eT, l200, asc, le, m0, m1, q⟩ := h
    have sT : SqT K H t (nats l) := .of eT
    refine ⟨_, (pss_cons (ps_if (pt_not (pt_val (pe_callB (call_isiK' (K := K) rfl) (by rfl) B.b_isinstance (by decide +kernel) (pa_cons (pv 2) (pa_cons (pe_bltn (v := .ty "tuple") (by rfl) B.b_tuple (by decide +kernel) rfl) pa_nil))))) (pss_one (ps_ret pe_bl)) pss_nil)
 (pss_cons (ps_if (pt_not (pt_val (pe_callB (cr_allK (K := K) rfl rfl) (by rfl) B.b_all (by decide +kernel) (pa_cons (pe_lc (own := [("part", 3)]) rfl sc_is_lot_within.nd (pi_tup (pv 2)) (blkOk_by (N := ["least", "most", "thing", "part"]) (sc := defScope s_is_lot_within) (by decide +kernel)) (fun _ _ _ _ _ => (pg_name (i := 3) sc_is_lot_within.nd rfl (Or.inl rfl))) (fun _ _ _ _ _ => pts_nil) (fun _ _ _ _ _ => (pe_call G_is_within (hr.mono (by first | decide | omega)) (by rfl) C_is_within.g C_is_within.k C_is_within.b .nil pass0 (pa_cons (pv 0) (pa_cons (pv 1) (pa_cons (pv 3) pa_nil)))))) pa_nil)))) (pss_one (ps_ret pe_bl)) pss_nil)
 (pss_one (ps_ret (pe_call G_is_ascending (hr.mono (by first | decide | omega)) (by rfl) C_is_ascending.g C_is_ascending.k C_is_ascending.b .nil pass0 (pa_cons (pv 2) pa_nil)))))), ?_⟩
    walk_at "h0"
    refine ⟨t, rfl, ⟨_, sT⟩, fun R nR => ?_⟩
    refine lc_tup (K := K) (xs := nats l) (fun i G => Same H G ∧ G R = some (.lst (bls (List.replicate i true)))) ⟨same_new (Same.refl _) nR, upd_same⟩ (fun i G _ h => h.1.seqT sT) ?_ ?_
    · rintro i v G hv ⟨s1, eR⟩
      obtain ⟨p, hp, rfl⟩ := nats_item hv
      have hi := (List.getElem?_eq_some_iff.mp hp).1
      have pl := le p (List.mem_of_getElem? hp)
      walk_at "hs"
      refine ⟨rfl, ?_⟩
      walk_at "hs"
      refine ⟨.int (p : Nat), lo, m, rfl, True.intro, ?_⟩
      rw [numT pl.1, decide_eq_true pl.2]
      refine ⟨_, eR, szLt (by rw [bls_len, List.length_replicate]; omega), same_mut s1 nR, ?_⟩
      rw [upd_same, bls_rep]
    rintro G ⟨s1, eR⟩
    walk_at "hs"
    refine ⟨R, List.replicate _ true, rfl, .of eR, ?_⟩
    rw [rep_all]
    walk_at "hs"
    refine ⟨t, l, rfl, s1 _ _ eT, l200, asc, fun G2 s2 => ?_⟩
    exact q _ (s1.trans s2)
def spPair2 : Sp := fun vs H Q _ => ∃ (t : Addr) (x y : V), vs = [.ref t] ∧ H t = some (.tup [x, y]) ∧ Q (.bl true) H
theorem ok_pair2 {f : Addr} {fd : FuncData} (F : Fun K "is_pair" "is_pair" s_is_pair f fd) (B : Bl Z mg) : FnOk P w K mg base CX0 1 f fd ["thing"] spPair2 := by
  refine F.ok sc_is_pair (fun vs H Q E h => ?_) (fun cdv A outer s H vs Q E hr h => ?_)
  · obtain ⟨t, x, y, rfl, _⟩ := h
    rfl
  · obtain ⟨t, x, y, rfl, ht, q⟩ := h
    have sT : SqT K H t [x, y] := .of ht
    refine ⟨_, (pss_one (ps_ret (pe_and (pe_callB (call_isiK' (K := K) rfl) (by rfl) B.b_isinstance (by decide +kernel) (pa_cons (pv 0) (pa_cons (pe_bltn (v := .ty "tuple") (by rfl) B.b_tuple (by decide +kernel) rfl) pa_nil))) (pe_one (pe_cmpR op_eq (pe_callB (call_lenK (K := K) rfl) (by rfl) B.b_len PySem.boot_len (pa_cons (pv 0) pa_nil)) pe_int (nomark _)))))), ?_⟩
    walk_at "h0"
    exact q
def spIsPay (Z : Ad) : Sp := fun vs H Q _ => ∃ (wd a L n y : Nat) (us : List (Option Nat)) (ls : List (List (Option Bool))) (l : List Nat), vs = [.ref wd, .ref a] ∧ WordsAt Z H wd n us ls ∧ n ≤ 40 ∧ H a = some (.tup [.ref L, .int (y : Nat)]) ∧ H L = some (.tup (nats l)) ∧ LotOk n (l, y) ∧ ∀ H', Same H H' → Q (.bl true) H'
theorem ok_isPay {f : Addr} {fd : FuncData} (F : Fun K "_is_payment" "_is_payment" s__is_payment f fd) (B : Bl Z mg) (W : WCls K Z) {f_is_pair : Addr} {fd_is_pair : FuncData} (C_is_pair : Cal K mg "is_pair" f_is_pair fd_is_pair ["thing"]) (G_is_pair : FnOk P w K mg base CX0 1 f_is_pair fd_is_pair ["thing"] spPair2) {f_is_lot_within : Addr} {fd_is_lot_within : FuncData} (C_is_lot_within : Cal K mg "is_lot_within" f_is_lot_within fd_is_lot_within ["least", "most", "thing"]) (G_is_lot_within : FnOk P w K mg base CX0 2 f_is_lot_within fd_is_lot_within ["least", "most", "thing"] spLotW) : FnOk P w K mg base CX0 3 f fd ["words", "thing"] (spIsPay Z) := by
  refine F.ok sc__is_payment (fun vs H Q E h => ?_) (fun cdv A outer s H vs Q E hr h => ?_)
  · obtain ⟨wd, a, L, n, y, us, ls, l, rfl, _⟩ := h
    rfl
  · obtain ⟨wd, a, L, n, y, us, ls, l, rfl, hw, n40, ha, hL, lo, q⟩ := h
    obtain ⟨wx, ws, tu, tl, was, w1, w2, _⟩ := id hw
    have ne : l ≠ [] := lo.ne
    have ps : 1 ≤ y := lo.pos
    have ln : l.length ≤ n := bounded_len n l (lo.asc.imp fun h => Nat.ne_of_lt h) lo.in_
    refine ⟨_, (pss_cons (ps_if (pt_not (pt_val (pe_call G_is_pair (hr.mono (by first | decide | omega)) (by rfl) C_is_pair.g C_is_pair.k C_is_pair.b .nil pass0 (pa_cons (pv 1) pa_nil)))) (pss_one (ps_ret pe_bl)) pss_nil)
 (pss_cons (ps_asg (pv 1) (pg_tup rfl (pgs_cons (pg_name (i := 2) sc__is_payment.nd rfl (Or.inl rfl)) (pgs_cons (pg_name (i := 3) sc__is_payment.nd rfl (Or.inl rfl)) pgs_nil))))
 (pss_cons (ps_if (PW.pt (pw_or (pt_not (pt_val (pe_call G_is_lot_within (hr.mono (by first | decide | omega)) (by rfl) C_is_lot_within.g C_is_lot_within.k C_is_lot_within.b .nil pass0 (pa_cons pe_int (pa_cons (pe_fldK (K := K) rfl (pv 0) rfl) (pa_cons (pv 2) pa_nil)))))) (pw_or1 (pt_cmpR (op_eqNil (K := K) rfl hr.units) (pv 2) (pe_tup pa_nil) (nomark _))))) (pss_one (ps_ret pe_bl)) pss_nil)
 (pss_one (ps_ret (pe_and (pe_callB (call_isiK' (K := K) rfl) (by rfl) B.b_isinstance (by decide +kernel) (pa_cons (pv 3) (pa_cons (pe_bltn (v := .ty "int") (by rfl) B.b_int (by decide +kernel) rfl) pa_nil))) (pe_and (pe_not (pe_callB (call_isiK' (K := K) rfl) (by rfl) B.b_isinstance (by decide +kernel) (pa_cons (pv 3) (pa_cons (pe_bltn (v := .ty "bool") (by rfl) B.b_bool (by decide +kernel) rfl) pa_nil)))) (pe_one (pe_cmpR op_ge (pv 3) pe_int (nomark _)))))))))), ?_⟩
    walk_at "h0"
    refine ⟨a, _, _, rfl, ha, ?_⟩
    walk_at "hs"
    refine ⟨wd, _, wx, _, _, rfl, w1, W.c, W.nb, w2, ?_⟩
    walk_at "hs"
    refine ⟨1, n, L, l, rfl, hL, by omega, lo.asc, fun x hx => by have := lo.in_ x hx; omega, by omega, by omega, fun H1 s1 => ?_⟩
    have tL : SqT K H1 L (nats l) := .of (s1 _ _ hL)
    walk_at "hs"
    intro U nU
    have s2 : Same H1 (upd H1 U (.tup [])) := same_new (Same.refl _) nU
    have eU : upd H1 U (.tup []) U = some (.tup []) := upd_same
    generalize upd H1 U (.tup []) = H2 at s2 eU ⊢
    refine ⟨L, U, nats l, rfl, rfl, .of (s2 _ _ (s1 _ _ hL)), .of eU, ?_⟩
    have nn : nats l ≠ [] := fun z => ne (List.length_eq_zero_iff.mp (by rw [← nats_length, z]; rfl))
    rw [decide_eq_false nn]
    walk_at "hs"
    rw [decide_eq_true (show (1 : Int) ≤ (y : Int) by omega)]
    exact q _ (s1.trans s2)
end
set_option maxRecDepth 100000
set_option maxHeartbeats 2000000
open PySem PySem.Spec L2


local macro_rules | `(tactic| walk_at "h1") => `(tactic| first
  | with_reducible refine x_dget ?_
  | with_reducible refine x_dc ?_
  | with_reducible refine x_keysF ?_
  | with_reducible refine x_keysFT ?_
  | with_reducible refine x_listZip ?_
  | with_reducible refine x_enls ?_)

local macro_rules | `(tactic| walk_at "h1") => `(tactic| first
  | with_reducible refine x_meth ?_
  | with_reducible refine x_tru ?_
  | with_reducible refine x_augS ?_)

theorem sc__paid_for : FnScope ["words", "pairs", "paid", "lot", "number", "outside", "block", "place"] ["words", "pairs"] (defScope s__paid_for) := ⟨rfl, rfl, rfl, by decide +kernel, rfl, by decide +kernel, by decide +kernel⟩
theorem sc_is_nest : FnScope ["words", "thing", "paid", "block", "place", "wrong", "part"] ["words", "thing"] (defScope s_is_nest) := ⟨rfl, rfl, rfl, by decide +kernel, rfl, by decide +kernel, by decide +kernel⟩
/-- rows of sums -/
structure PdR (H G : Hp) (D : Addr) (rows : List Addr) (n : Nat) (f : Nat → Nat → Nat) : Prop where
  s : Same H G
  len : rows.length = n
  nd : rows.Nodup
  fr : ∀ a ∈ rows, H a = none
  eD : G D = some (.dK (kdl 1 (refs rows)))
  row : ∀ (i : Nat) r, rows[i]? = some r → G r = some (.lst (mksV (f (i + 1)) (n + 1)))
theorem PdR.same {H G G' : Hp} {D : Addr} {rows : List Addr} {n : Nat} {f : Nat → Nat → Nat} (s : Same G G') (h : PdR H G D rows n f) : PdR H G' D rows n f :=
  ⟨h.s.trans s, h.len, h.nd, h.fr, s _ _ h.eD, fun i r hr => s _ _ (h.row i r hr)⟩
theorem PdR.cong {H G : Hp} {D : Addr} {rows : List Addr} {n : Nat} {f g : Nat → Nat → Nat} (h : PdR H G D rows n f) (e : ∀ b p, 1 ≤ b → b ≤ n → p ≤ n → f b p = g b p) : PdR H G D rows n g := by
  refine ⟨h.s, h.len, h.nd, h.fr, h.eD, fun i r hr => ?_⟩
  rw [h.row i r hr]
  unfold mksV
  congr 2
  refine List.map_congr_left fun p hp => ?_
  rw [List.mem_range] at hp
  rw [e (i + 1) p (by omega) (by have := (List.getElem?_eq_some_iff.mp hr).1; have := h.len; omega) (by omega)]
theorem PdR.set {H G : Hp} {D : Addr} {rows : List Addr} {n c : Nat} {r : Addr} {f : Nat → Nat → Nat} {g : Nat → Nat} (h : PdR H G D rows n f) (hr : rows[c]? = some r) : PdR H (upd G r (.lst (mksV g (n + 1)))) D rows n (fun b => if b = c + 1 then g else f b) := by
  have mr := List.mem_of_getElem? hr
  refine ⟨same_mut h.s (h.fr r mr), h.len, h.nd, h.fr, keepM (fun z => by have := h.row c r hr; rw [← z, h.eD] at this; cases this) h.eD, fun i r' h' => ?_⟩
  by_cases e : i = c
  · subst e
    rw [hr] at h'
    cases h'
    rw [upd_same, if_pos rfl]
  · have ne : r' ≠ r := fun z => by
      subst z
      obtain ⟨i1, e1⟩ := List.getElem?_eq_some_iff.mp h'
      obtain ⟨i2, e2⟩ := List.getElem?_eq_some_iff.mp hr
      exact e ((List.getElem_inj h.nd).mp (e1.trans e2.symm))
    rw [if_neg (by omega)]
    exact keepM ne (h.row i r' h')
section
variable {P : Program} {w : World} {K : PySem.W.Frag} {mg : Str → Option Value} {base : Heap} {Z : Ad}
def spPaid (Z : Ad) : Sp := fun vs H Q _ => ∃ (wd T n : Nat) (us : List (Option Nat)) (ls : List (List (Option Bool))) (as : List Addr) (pd : List Pay), vs = [.ref wd, .ref T] ∧ WordsAt Z H wd n us ls ∧ n ≤ 40 ∧ H T = some (.tup (refs as)) ∧ PyAt H as pd ∧ (∀ t ∈ pd, LotOk n t) ∧
  ∀ (D : Addr) (rows : List Addr) H', Same H H' → H' D = some (.dK (kdl 1 (refs rows))) → rows.length = n → (∀ (i : Nat) r, rows[i]? = some r → H' r = some (.lst (mksV (fun p => paidS pd (i + 1) p) (n + 1)))) → Q (.ref D) H'
theorem ok_paid {f : Addr} {fd : FuncData} (F : Fun K "_paid_for" "_paid_for" s__paid_for f fd) (B : Bl Z mg) (W : WCls K Z) : FnOk P w K mg base CX0 1 f fd ["words", "pairs"] (spPaid Z) := by
  refine F.ok sc__paid_for (fun vs H Q E h => ?_) (fun cdv A outer s H vs Q E hr h => ?_)
  · obtain ⟨wd, T, n, us, ls, as, pd, rfl, _⟩ := h
    rfl
  · obtain ⟨wd, T, n, us, ls, as, pd, rfl, hw, n40, hT, hpy, lots, q⟩ := h
    obtain ⟨wx, ws, tu, tl, was, w1, w2, _⟩ := id hw
    refine ⟨_, (pss_cons (ps_setDc (i := 2) (own := [("block", 6)]) rfl sc__paid_for.nd rfl rfl (sw_trueD rfl rfl rfl (by decide +kernel)) (pi_range2 rfl B.b_range (pa_cons pe_int (pa_cons (pe_op op_add (pe_fldK (K := K) rfl (pv 0) rfl) pe_int) pa_nil))) (blkOk_by (N := ["words", "pairs", "paid", "lot", "number", "outside", "block", "place"]) (sc := defScope s__paid_for) (by decide +kernel)) (fun _ _ _ _ _ => (pg_name (i := 6) sc__paid_for.nd rfl (Or.inl rfl))) (fun _ _ _ _ _ => pts_nil) (fun _ _ _ _ _ => (pv 6)) (fun _ _ _ _ _ => (pe_op op_rep (pe_lst (pa_cons pe_int pa_nil)) (pe_op op_add (pe_fldK (K := K) rfl (pv 0) rfl) pe_int))))
 (pss_cons (ps_for PassesOwn.never rfl (pi_tup (pv 1)) (pg_tup rfl (pgs_cons (pg_name (i := 3) sc__paid_for.nd rfl (Or.inr rfl)) (pgs_cons (pg_name (i := 4) sc__paid_for.nd rfl (Or.inl rfl)) pgs_nil))) (pss_cons (ps_setLc (i := 5) (own := [("place", 7)]) rfl sc__paid_for.nd rfl rfl (sw_true rfl rfl rfl (by decide +kernel)) (pi_range1 rfl B.b_range (pa_cons (pe_op op_add (pe_fldK (K := K) rfl (pv 0) rfl) pe_int) pa_nil)) (blkOk_by (N := ["words", "pairs", "paid", "lot", "number", "outside", "block", "place"]) (sc := defScope s__paid_for) (by decide +kernel)) (fun _ _ _ _ _ => (pg_name (i := 7) sc__paid_for.nd rfl (Or.inl rfl))) (fun _ _ _ _ _ => (pts_one (pt_cmpR (op_notInK (K := K) rfl) (pv 7) (pv 3) (by rfl)))) (fun _ _ _ _ _ => (pv 7)))
 (pss_one (ps_for PassesOwn.never rfl (pi_tup (pv 3)) (pg_name (i := 6) sc__paid_for.nd rfl (Or.inl rfl)) (pss_one (ps_for PassesOwn.never rfl (pi_list (pv 5)) (pg_name (i := 7) sc__paid_for.nd rfl (Or.inl rfl)) (pss_one (ps_augS (pe_dget (units1 hr) (pv 2) (pv 6) (fun _ _ => rfl)) (pv 7) (get_listK (K := K) rfl) (pv 4) ip_add set_list))))))))
 (pss_one (ps_ret (pv 2))))), ?_⟩
    walk_at "h0"
    refine ⟨wd, _, wx, _, _, rfl, w1, W.c, W.nb, w2, ?_⟩
    walk_at "hs"
    refine ⟨1, (n : Int) + 1, rfl, ⟨by omega, by omega, by omega, by omega⟩, fun D nD => ?_⟩
    refine dc_it (walk_range (lo := 1) (n := Int.toNat ((n : Int) + 1 - 1))) (fun i G => Same H G ∧ ∃ as : List Addr, as.length = i ∧ as.Nodup ∧ (∀ a ∈ as, G a ≠ none) ∧ (∀ a ∈ as, H a = none) ∧ G D = some (.dK (kdl 1 (refs as))) ∧ ∀ (k : Nat) a, as[k]? = some a → G a = some (.lst (mksV (fun _ => 0) (n + 1))))
      ⟨same_new (Same.refl _) nD, [], rfl, .nil, (fun a h => nomatch h), (fun a h => nomatch h), upd_same, fun k a h => nomatch h⟩ (fun i G _ h => trivial) ?_ ?_
    · rintro i v G G' hi ⟨s2, as, la, nd, al, fr, eD, ls'⟩ ⟨rfl, rfl⟩
      have ec : (1 : Int) + (i : Int) = ((i + 1 : Nat) : Int) := by omega
      have w1G := s2 _ _ w1
      walk_at "hs"
      refine ⟨rfl, ?_⟩
      walk_at "hs"
      intro U nU
      have s3 : Same G' (upd G' U (.lst [.int 0])) := same_new (Same.refl _) nU
      have eU : upd G' U (.lst [.int 0]) U = some (.lst [.int 0]) := upd_same
      generalize upd G' U (.lst [.int 0]) = G1 at s3 eU ⊢
      walk_at "hs"
      refine ⟨wd, _, wx, _, _, rfl, s3 _ _ w1G, W.c, W.nb, w2, ?_⟩
      walk_at "hs"
      rw [show (n : Int) + 1 = ((n + 1 : Nat) : Int) by omega]
      refine x_rep1 eU (by omega) fun a na0 => ?_
      have s4 : Same G1 (upd G1 a (.lst (List.replicate (n + 1) (.int 0)))) := same_new (Same.refl _) na0
      have ea : upd G1 a (.lst (List.replicate (n + 1) (.int 0))) a = some (.lst (mksV (fun _ => 0) (n + 1))) := by
        rw [upd_same]
        congr 2
        unfold mksV
        rw [List.map_const', List.length_range]
        rfl
      generalize upd G1 a (.lst (List.replicate (n + 1) (.int 0))) = G2 at s4 ea ⊢
      have s34 := s3.trans s4
      have na : G' a = none := s3.free na0
      have eD2 := s34 _ _ eD
      have nDa : a ≠ D := fun z => by rw [z, eD2] at ea; cases ea
      refine ⟨_, Sum.inl (1 + (i : Nat)), rfl, eD2, szLt (by rw [kdl_len, refs_length]; omega), same_mut (s2.trans s34) nD, as ++ [a], by rw [List.length_append, la]; rfl, L2.nd_snoc nd (fun m => al a m na), fun b hb => ?_, fun b hb => ?_, ?_, fun k b hb => ?_⟩
      · by_cases z : b = D
        · rw [z, upd_same]
          exact nofun
        · rw [upd_ne z]
          rcases List.mem_append.mp hb with hb | hb
          · intro e
            exact al b hb (s34.free e)
          · rw [List.mem_singleton.mp hb, ea]
            exact nofun
      · rcases List.mem_append.mp hb with hb | hb
        · exact fr b hb
        · rw [List.mem_singleton.mp hb]
          exact s2.free na
      · rw [upd_same, kdl_snoc (by rw [refs_length, la]; omega), refs_app]
        rfl
      · rcases snoc_get hb with h | ⟨e, rfl⟩
        · have := s34 _ _ (ls' k b h)
          exact keepM (fun z => by rw [z, eD2] at this; cases this) this
        · exact keepM nDa ea
    rintro G0 ⟨s2, rows, la, nd, al, fr, eD, er⟩
    rw [show Int.toNat ((n : Int) + 1 - 1) = n by omega] at la
    have pd0 : PdR H G0 D rows n (fun b p => paidS [] b p) := ⟨s2, la, nd, fr, eD, fun i r hr => er i r hr⟩
    have nDH := nD
    clear nD s2 al nd fr eD er la
    walk_at "hs"
    have tT : SqT K G0 T (refs as) := .of (pd0.s _ _ hT)
    refine ⟨T, rfl, ⟨_, tT⟩, ?_⟩
    clear tT
    refine lp_tup (K := K) (xs := refs as) (fun i σ' G => (∃ x3 x4 x5 x6 x7, σ' = [some (.ref wd), some (.ref T), some (.ref D), x3, x4, x5, x6, x7]) ∧ PdR H G D rows n (fun b p => paidS (pd.take i) b p))
      ⟨⟨_, _, _, _, _, rfl⟩, pd0⟩ (fun i σ' G _ h => .of (h.2.s _ _ hT)) ?_ ?_
    · clear pd0
      rintro i v σ' G hv ⟨⟨x3, x4, x5, x6, x7, rfl⟩, R⟩
      obtain ⟨a, ha, rfl⟩ : ∃ a, as[i]? = some a ∧ v = .ref a := by
        unfold refs at hv
        rw [List.getElem?_map] at hv
        cases e : as[i]? with
        | none => rw [e] at hv; cases hv
        | some a => rw [e] at hv; exact ⟨a, rfl, (Option.some.inj hv).symm⟩
      obtain ⟨⟨l, y⟩, hti⟩ : ∃ t, pd[i]? = some t := ⟨_, List.getElem?_eq_getElem (by
        have := (List.getElem?_eq_some_iff.mp ha).1
        have := hpy.1
        omega)⟩
      obtain ⟨L, ea, eL⟩ := hpy.2 i a _ ha hti
      have lo := lots _ (List.mem_of_getElem? hti)
      have lin : ∀ b ∈ l, 1 ≤ b ∧ b ≤ n := lo.in_
      have lnd : l.Nodup := lo.asc.imp fun h => Nat.ne_of_lt h
      have llen : l.length ≤ n := bounded_len n l lnd lin
      have tA : SqT K G a [.ref L, .int (y : Nat)] := .of (R.s _ _ ea)
      have w1G := R.s _ _ w1
      walk_at "hs"
      refine ⟨wd, _, wx, _, _, rfl, w1G, W.c, W.nb, w2, ?_⟩
      walk_at "hs"
      refine ⟨(n : Int) + 1, rfl, by omega, by omega, fun O nO => ?_⟩
      have tL0 : SqT K G L (nats l) := .of (R.s _ _ eL)
      refine lc_range (lo := 0) (n := Int.toNat ((n : Int) + 1)) (fun k G1 => Same G G1 ∧ G1 O = some (.lst (nats ((List.range k).filter fun p => decide (p ∉ l))))) ⟨same_new (Same.refl _) nO, upd_same⟩ ?_ ?_
      · rintro k G1 hk ⟨s1, eO⟩
        have tlG : SqT K G1 L (nats l) := s1.seqT tL0
        have ec : (0 : Int) + (k : Int) = (k : Int) := by omega
        have rs' : (List.range (k + 1)).filter (fun p => decide (p ∉ l)) = (List.range k).filter (fun p => decide (p ∉ l)) ++ if k ∉ l then [k] else [] := by
          rw [List.range_succ, List.filter_append]
          congr 1
          by_cases c : k ∉ l
          · rw [if_pos c, List.filter_cons_of_pos (by rw [decide_eq_true_eq]; exact c)]
            rfl
          · rw [if_neg c, List.filter_cons_of_neg (by rw [decide_eq_true_eq]; exact c)]
            rfl
        walk_at "hs"
        refine ⟨rfl, ?_⟩
        rw [ec]
        walk_at "hs"
        refine x_ninNT tlG ?_
        walk_at "hs"
        refine x_isnd (fun cc => ?_) (fun cc => ?_)
        · walk_at "hs"
          refine ⟨_, eO, ?_, same_mut s1 nO, ?_⟩
          · rw [nats_length]
            exact szLt (by
              have := List.length_filter_le (fun p => decide (p ∉ l)) (List.range k)
              rw [List.length_range] at this
              omega)
          · rw [upd_same, rs', if_pos cc, nats_append]
            rfl
        · walk_at "hs"
          refine ⟨s1, ?_⟩
          rw [rs', if_neg (fun z => z cc), List.append_nil]
          exact eO
      rintro G1 ⟨s1, eO⟩
      have eO : G1 O = some (.lst (nats (outsOf n l))) := eO
      have eo : ∃ os, os = outsOf n l := ⟨_, rfl⟩
      obtain ⟨os, eo⟩ := eo
      rw [← eo] at eO
      have osm : ∀ {p}, p ∈ os ↔ p ≤ n ∧ p ∉ l := fun {p} => by rw [eo]; exact outs_mem
      have osn : os.Nodup := by rw [eo]; exact outs_nd
      clear eo
      have Or : ∀ r ∈ rows, O ≠ r := fun r hr => by
        obtain ⟨k, hk, e⟩ := List.getElem_of_mem hr
        exact (ne_of_none (R.row k r (by rw [List.getElem?_eq_getElem hk, e])) nO).symm
      have R1 := R.same s1
      clear R tA tL0 s1 nO w1G
      walk_at "hs"
      refine ⟨L, rfl, ⟨_, .of (R1.s _ _ eL)⟩, ?_⟩
      refine lp_tup (K := K) (xs := nats l) (fun j σ' G => (∃ x6 x7, σ' = [some (.ref wd), some (.ref T), some (.ref D), some (.ref L), some (.int (y : Nat)), some (.ref O), x6, x7]) ∧ G O = some (.lst (nats os)) ∧ PdR H G D rows n (fun b p => paidS (pd.take i) b p + if b ∈ l.take j ∧ p ∉ l then y else 0))
        ⟨⟨_, _, rfl⟩, eO, R1.cong fun b p _ _ _ => by rw [if_neg (fun z => by have := z.1; simp at this)]; rfl⟩ (fun i σ' G _ h => .of (h.2.2.s _ _ eL)) ?_ ?_
      · clear R1 eO
        rintro j v σ' G2 hv2 ⟨⟨x6, x7, rfl⟩, eO, R2⟩
        obtain ⟨b, hb, rfl⟩ := natsV hv2
        have hbL := List.mem_of_getElem? hb
        have ob := lin b hbL
        have nbt := nd_take lnd hb
        walk_at "hs"
        refine ⟨O, rfl, ⟨_, .of eO⟩, ?_⟩
        refine lp_list (K := K) (xs := nats os) (fun k σ' G => (∃ x7, σ' = [some (.ref wd), some (.ref T), some (.ref D), some (.ref L), some (.int (y : Nat)), some (.ref O), some (.int b), x7]) ∧ G O = some (.lst (nats os)) ∧ PdR H G D rows n (fun b' p => paidS (pd.take i) b' p + if (b' ∈ l.take j ∧ p ∉ l) ∨ (b' = b ∧ p ∈ os.take k) then y else 0))
          ⟨⟨_, rfl⟩, eO, R2.cong fun b' p _ _ _ => ?_⟩ (fun i σ' G _ h => .of h.2.1) ?_ ?_
        · by_cases c : b' ∈ l.take j ∧ p ∉ l
          · rw [if_pos c, if_pos (.inl c)]
          · rw [if_neg c, if_neg (fun z => z.elim c fun z => by have := z.2; simp at this)]
        · clear R2 eO
          rintro k v σ' G3 hv3 ⟨⟨x7, rfl⟩, eO, R3⟩
          obtain ⟨p, hpj, rfl⟩ := natsV hv3
          have hpo := List.mem_of_getElem? hpj
          have op := osm.mp hpo
          have npt := nd_take osn hpj
          obtain ⟨c', rfl⟩ : ∃ c', b = c' + 1 := ⟨b - 1, by omega⟩
          obtain ⟨r, hr⟩ : ∃ r, rows[c']? = some r := ⟨_, List.getElem?_eq_getElem (by rw [R3.len]; omega)⟩
          have er := R3.row c' r hr
          have tr : SqL K G3 r _ := .of er
          have ar := mksV_get (mk := fun p => paidS (pd.take i) (c' + 1) p + if (c' + 1 ∈ l.take j ∧ p ∉ l) ∨ (c' + 1 = c' + 1 ∧ p ∈ os.take k) then y else 0) (k := n + 1) (p := p) (by omega)
          rw [if_neg (fun z => z.elim (fun z => nbt z.1) fun z => npt z.2)] at ar
          have ar := atI_nat ar
          walk_at "hs"
          refine ⟨D, _, rfl, dgetN (.inl R3.eD) (refs_get hr) (by omega), ?_⟩
          walk_at "hs"
          refine x_setL er (ixN_nat (k := p) (by rw [mksV_len]; omega)) ?_
          rw [show ((paidS (pd.take i) (c' + 1) p + 0 : Nat) : Int) + (y : Int) = ((paidS (pd.take i) (c' + 1) p + y : Nat) : Int) by omega, mksV_set]
          have R4 := R3.set (g := fun q => if q = p then paidS (pd.take i) (c' + 1) p + y else paidS (pd.take i) (c' + 1) q + if (c' + 1 ∈ l.take j ∧ q ∉ l) ∨ (c' + 1 = c' + 1 ∧ q ∈ os.take k) then y else 0) hr
          refine ⟨⟨_, rfl⟩, keepM (Or r (List.mem_of_getElem? hr)) eO, R4.cong fun b' q g1 g2 g3 => ?_⟩
          by_cases e : b' = c' + 1
          · subst e
            rw [if_pos rfl]
            by_cases e2 : q = p
            · subst e2
              rw [if_pos rfl, if_pos (.inr ⟨rfl, (take_snoc_mem hpj).mpr (.inr rfl)⟩)]
            · rw [if_neg e2]
              by_cases e3 : (c' + 1 ∈ l.take j ∧ q ∉ l) ∨ (c' + 1 = c' + 1 ∧ q ∈ os.take k)
              · rw [if_pos e3, if_pos (e3.imp id fun z => ⟨rfl, (take_snoc_mem hpj).mpr (.inl z.2)⟩)]
              · rw [if_neg e3, if_neg (fun z => e3 (z.imp id fun z => ⟨rfl, ((take_snoc_mem hpj).mp z.2).resolve_right e2⟩))]
          · rw [if_neg e]
            by_cases e3 : b' ∈ l.take j ∧ q ∉ l
            · rw [if_pos (.inl e3), if_pos (.inl e3)]
            · rw [if_neg (fun z => z.elim e3 fun z => e z.1), if_neg (fun z => z.elim e3 fun z => e z.1)]
        · rintro σ' G3 ⟨⟨x7, rfl⟩, eO, R3⟩
          rw [nats_length, List.take_length] at R3
          refine ⟨⟨_, _, rfl⟩, eO, R3.cong fun b' p g1 g2 g3 => ?_⟩
          by_cases e : b' ∈ l.take (j + 1) ∧ p ∉ l
          · rw [if_pos e]
            rcases (take_snoc_mem hb).mp e.1 with h | h
            · rw [if_pos (.inl ⟨h, e.2⟩)]
            · rw [if_pos (.inr ⟨h, osm.mpr ⟨g3, e.2⟩⟩)]
          · rw [if_neg e, if_neg]
            rintro (h | h)
            · exact e ⟨(take_snoc_mem hb).mpr (.inl h.1), h.2⟩
            · exact e ⟨(take_snoc_mem hb).mpr (.inr h.1), (osm.mp h.2).2⟩
      · rintro σ' G2 ⟨⟨x6, x7, rfl⟩, eO2, R2⟩
        rw [nats_length, List.take_length] at R2
        refine ⟨⟨_, _, _, _, _, rfl⟩, R2.cong fun b p _ _ _ => ?_⟩
        rw [List.take_succ, hti, Option.toList_some, paidS_snoc]
        rfl
    · rintro σ' G ⟨⟨x3, x4, x5, x6, x7, rfl⟩, R⟩
      rw [refs_length, hpy.1, List.take_length] at R
      walk_at "hs"
      exact q D rows G R.s R.eD R.len fun i r hr => R.row i r hr
/-- whether no block pays more than it costs -/
def spNestQ (Z : Ad) : Sp := fun vs H Q _ => ∃ (wd T n : Nat) (us : List (Option Nat)) (ls : List (List (Option Bool))) (as : List Addr) (pd : List Pay), vs = [.ref wd, .ref T] ∧ WordsAt Z H wd n us ls ∧ WdOk n us ls ∧ H T = some (.tup (refs as)) ∧ PyAt H as pd ∧ (∀ t ∈ pd, LotOk n t) ∧ pd.length ≤ 5000 ∧
  ((∀ b p, 1 ≤ b → b ≤ n → p ≤ n → p ≠ b → paidS pd b p ≤ costN us ls b p) → ∀ H', Same H H' → Q (.bl true) H') ∧ ((∃ b p, 1 ≤ b ∧ b ≤ n ∧ p ≤ n ∧ p ≠ b ∧ costN us ls b p < paidS pd b p) → ∀ H', Same H H' → Q (.bl false) H')
theorem ok_nestQ {f : Addr} {fd : FuncData} (F : Fun K "is_nest" "is_nest" s_is_nest f fd) (B : Bl Z mg) (W : WCls K Z) {f__is_payment : Addr} {fd__is_payment : FuncData} (C__is_payment : Cal K mg "_is_payment" f__is_payment fd__is_payment ["words", "thing"]) (G__is_payment : FnOk P w K mg base CX0 3 f__is_payment fd__is_payment ["words", "thing"] (spIsPay Z)) {f__paid_for : Addr} {fd__paid_for : FuncData} (C__paid_for : Cal K mg "_paid_for" f__paid_for fd__paid_for ["words", "pairs"]) (G__paid_for : FnOk P w K mg base CX0 1 f__paid_for fd__paid_for ["words", "pairs"] (spPaid Z))
    {f_costs : Addr} {fd_costs : FuncData} (C_costs : Cal K mg "costs" f_costs fd_costs ["words", "block"]) (G_costs : FnOk P w K mg base CX0 1 f_costs fd_costs ["words", "block"] (spCosts Z)) : FnOk P w K mg base CX0 4 f fd ["words", "thing"] (spNestQ Z) := by
  refine F.ok sc_is_nest (fun vs H Q E h => ?_) (fun cdv A outer s H vs Q E hr h => ?_)
  · obtain ⟨wd, T, n, us, ls, as, pd, rfl, _⟩ := h
    rfl
  · obtain ⟨wd, T, n, us, ls, as, pd, rfl, hw, ok, hT, hpy, lots, lp, qt, qf⟩ := h
    have n40 := ok.n2
    obtain ⟨wx, ws, tu, tl, was, w1, w2, _⟩ := id hw
    refine ⟨_, (pss_cons (ps_if (pt_not (pt_val (pe_callB (call_isiK' (K := K) rfl) (by rfl) B.b_isinstance (by decide +kernel) (pa_cons (pv 1) (pa_cons (pe_bltn (v := .ty "tuple") (by rfl) B.b_tuple (by decide +kernel) rfl) pa_nil))))) (pss_one (ps_ret pe_bl)) pss_nil)
 (pss_cons (ps_if (pt_not (pt_val (pe_callB (cr_allK (K := K) rfl rfl) (by rfl) B.b_all (by decide +kernel) (pa_cons (pe_lc (own := [("part", 6)]) rfl sc_is_nest.nd (pi_tup (pv 1)) (blkOk_by (N := ["words", "thing", "paid", "block", "place", "wrong", "part"]) (sc := defScope s_is_nest) (by decide +kernel)) (fun _ _ _ _ _ => (pg_name (i := 6) sc_is_nest.nd rfl (Or.inl rfl))) (fun _ _ _ _ _ => pts_nil) (fun _ _ _ _ _ => (pe_call G__is_payment (hr.mono (by first | decide | omega)) (by rfl) C__is_payment.g C__is_payment.k C__is_payment.b .nil pass0 (pa_cons (pv 0) (pa_cons (pv 6) pa_nil))))) pa_nil)))) (pss_one (ps_ret pe_bl)) pss_nil)
 (pss_cons (ps_set (i := 2) sc_is_nest.nd rfl (Or.inl rfl) (pe_call G__paid_for (hr.mono (by first | decide | omega)) (by rfl) C__paid_for.g C__paid_for.k C__paid_for.b .nil pass0 (pa_cons (pv 0) (pa_cons (pv 1) pa_nil))))
 (pss_cons (ps_for PassesOwn.never rfl (pi_range2 rfl B.b_range (pa_cons pe_int (pa_cons (pe_op op_add (pe_fldK (K := K) rfl (pv 0) rfl) pe_int) pa_nil))) (pg_name (i := 3) sc_is_nest.nd rfl (Or.inl rfl)) (pss_one (ps_for PassesOwn.never rfl (pi_enumLK (K := K) rfl (by rfl) B.b_enumerate (pa_cons (pe_call G_costs (hr.mono (by first | decide | omega)) (by rfl) C_costs.g C_costs.k C_costs.b .nil pass0 (pa_cons (pv 0) (pa_cons (pv 3) pa_nil))) pa_nil)) (pg_tup rfl (pgs_cons (pg_name (i := 4) sc_is_nest.nd rfl (Or.inl rfl)) (pgs_cons (pg_name (i := 5) sc_is_nest.nd rfl (Or.inl rfl)) pgs_nil))) (pss_one (ps_if (PW.pt (pw_and (pt_cmpR op_ne (pv 4) (pv 3) (nomark _)) (pw_and1 (pt_cmpR op_gt (pe_ix (ix_listK (K := K) rfl) (pe_dget (units1 hr) (pv 2) (pv 3) (fun _ _ => rfl)) (pv 4) (fun _ _ => rfl)) (pv 5) (nomark _))))) (pss_one (ps_ret pe_bl)) pss_nil)))))
 (pss_one (ps_ret pe_bl)))))), ?_⟩
    walk_at "h0"
    have tT : SqT K H T (refs as) := .of hT
    refine ⟨T, rfl, ⟨_, tT⟩, fun R nR => ?_⟩
    refine lc_tup (K := K) (xs := refs as) (fun i G => Same H G ∧ G R = some (.lst (bls (List.replicate i true)))) ⟨same_new (Same.refl _) nR, upd_same⟩ (fun i G _ h => h.1.seqT tT) ?_ ?_
    · rintro i v G hv ⟨s1, eR⟩
      obtain ⟨a, ha, rfl⟩ : ∃ a, as[i]? = some a ∧ v = .ref a := by
        unfold refs at hv
        rw [List.getElem?_map] at hv
        cases e : as[i]? with
        | none => rw [e] at hv; cases hv
        | some a => rw [e] at hv; exact ⟨a, rfl, (Option.some.inj hv).symm⟩
      have hi := (List.getElem?_eq_some_iff.mp ha).1
      obtain ⟨⟨l, y⟩, hti⟩ : ∃ t, pd[i]? = some t := ⟨_, List.getElem?_eq_getElem (by
        have := hpy.1
        omega)⟩
      obtain ⟨L, ea, eL⟩ := hpy.2 i a _ ha hti
      have la := hpy.1
      walk_at "hs"
      refine ⟨rfl, ?_⟩
      walk_at "hs"
      refine ⟨wd, a, L, n, y, us, ls, l, rfl, hw.same s1, n40, s1 _ _ ea, s1 _ _ eL, lots _ (List.mem_of_getElem? hti), fun G1 s2 => ?_⟩
      refine ⟨_, s2 _ _ eR, szLt (by rw [bls_len, List.length_replicate]; omega), same_mut (s1.trans s2) nR, ?_⟩
      rw [upd_same, bls_rep]
    rintro G ⟨s1, eR⟩
    walk_at "hs"
    refine ⟨R, List.replicate _ true, rfl, .of eR, ?_⟩
    rw [rep_all]
    walk_at "hs"
    refine ⟨wd, T, n, us, ls, as, pd, rfl, hw.same s1, n40, s1 _ _ hT, hpy.keep fun a xs e => s1 _ _ e, lots, fun D rows G1 s2 eD rl er => ?_⟩
    have s12 := s1.trans s2
    clear s1 s2 eR nR tT
    walk_at "hs"
    refine ⟨wd, _, wx, _, _, rfl, s12 _ _ w1, W.c, W.nb, w2, ?_⟩
    walk_at "hs"
    refine ⟨1, (n : Int) + 1, rfl, ⟨by omega, by omega, by omega, by omega⟩, ?_⟩
    refine lp_range (lo := 1) (n := Int.toNat ((n : Int) + 1 - 1)) (fun i σ' G => (∃ x3 x4 x5 x6, σ' = [some (.ref wd), some (.ref T), some (.ref D), x3, x4, x5, x6]) ∧ Same G1 G ∧ ∀ b p, 1 ≤ b → b ≤ i → p ≤ n → p ≠ b → paidS pd b p ≤ costN us ls b p)
      ⟨⟨_, _, _, _, rfl⟩, Same.refl _, fun b p h1 h2 => by omega⟩ ?_ ?_
    · rintro i σ' G2 hi ⟨⟨x3, x4, x5, x6, rfl⟩, s3, good⟩
      have hin : i < n := by omega
      have ec : (1 : Int) + (i : Int) = ((i + 1 : Nat) : Int) := by omega
      rw [ec]
      walk_at "hs"
      refine ⟨wd, n, i + 1, us, ls, rfl, hw.same (s12.trans s3), ok, by omega, by omega, fun C G3 s4 nC eC => ?_⟩
      walk_at "hs"
      refine ⟨C, costsV us ls (i + 1) (n + 1), rfl, .of eC, ?_⟩
      have s34 := s3.trans s4
      obtain ⟨r, hr⟩ : ∃ r, rows[i]? = some r := ⟨_, List.getElem?_eq_getElem (by rw [rl]; omega)⟩
      have erG := er i r hr
      refine lp_enumL (K := K) (xs := costsV us ls (i + 1) (n + 1)) (fun j σ' G => (∃ x4 x5 x6, σ' = [some (.ref wd), some (.ref T), some (.ref D), some (.int ((i + 1 : Nat) : Int)), x4, x5, x6]) ∧ Same G3 G ∧ ∀ p, p < j → p ≠ i + 1 → paidS pd (i + 1) p ≤ costN us ls (i + 1) p)
        ⟨⟨_, _, _, rfl⟩, Same.refl _, fun p h => by omega⟩ (fun j σ' G _ h => .of (h.2.1 _ _ eC)) ?_ ?_
      · rintro j v σ' G4 U hv ⟨⟨x4, x5, x6, rfl⟩, s5, gd⟩ nU
        have hj : j < n + 1 := by
          have := (List.getElem?_eq_some_iff.mp hv).1
          rwa [costsV_len] at this
        rw [costsV_get us ls (i + 1) hj] at hv
        have hv := (Option.some.inj hv).symm
        subst hv
        have s6 : Same G4 (upd G4 U (.tup [.int (j : Int), if j = i + 1 then V.non else .int (costN us ls (i + 1) j : Nat)])) := same_new (Same.refl _) nU
        have s56 := s5.trans s6
        by_cases e : j = i + 1
        · rw [if_pos e] at s56 ⊢
          walk_at "hs"
          refine x_isd (fun cc => (cc (by omega)).elim) (fun _ => ?_)
          walk_at "hs"
          refine ⟨⟨_, _, _, rfl⟩, s56, fun p h1 h2 => gd p (by omega) h2⟩
        · rw [if_neg e] at s56 ⊢
          walk_at "hs"
          refine x_isd (fun _ => ?_) (fun cc => (cc (by omega)).elim)
          have s16 := s34.trans s56
          have tr := s16 _ _ erG
          have ar : atI (mksV (fun p => paidS pd (i + 1) p) (n + 1)) (j : Int) = some (.int (paidS pd (i + 1) j : Nat)) := atI_nat (mksV_get (by omega))
          generalize upd G4 U (.tup [.int (j : Int), .int (costN us ls (i + 1) j : Nat)]) = G5 at s56 s16 tr ⊢
          have trS : SqL K G5 r _ := .of tr
          walk_at "hs"
          refine ⟨D, _, rfl, dgetN (.inl (s16 _ _ eD)) (refs_get hr) (by omega), ?_⟩
          walk_at "hs"
          refine x_isd (fun cc => ?_) (fun cc => ?_)
          · walk_at "hs"
            exact qf ⟨i + 1, j, by omega, by omega, by omega, e, by omega⟩ _ (s12.trans s16)
          · walk_at "hs"
            refine ⟨⟨_, _, _, rfl⟩, s56, fun p h1 h2 => ?_⟩
            by_cases c : p = j
            · subst c
              omega
            · exact gd p (by omega) h2
      · rintro σ' G4 ⟨⟨x4, x5, x6, rfl⟩, s5, gd⟩
        rw [costsV_len] at gd
        refine ⟨⟨_, _, _, _, rfl⟩, s34.trans s5, fun b p h1 h2 h3 h4 => ?_⟩
        by_cases c : b = i + 1
        · subst c
          exact gd p (by omega) h4
        · exact good b p h1 (by omega) h3 h4
    · rintro σ' G2 ⟨⟨x3, x4, x5, x6, rfl⟩, s3, good⟩
      walk_at "hs"
      exact qt (fun b p h1 h2 h3 h4 => good b p h1 (by omega) h3 h4) _ (s12.trans s3)
end
set_option maxRecDepth 100000
set_option maxHeartbeats 1000000
open PySem PySem.Spec L2


def tupOf (H : Hp) : V → Option (List V)
  | .ref a => match H a with
    | some (.tup xs) => some xs
    | _ => none
  | _ => none
def isBlB : V → Bool
  | .bl _ => true
  | _ => false
def lenIs (H : Hp) (m : Int) (x : V) : Bool := match tupOf H x with
  | some xs => decide ((xs.length : Int) = m)
  | none => false
/-- a value of a known kind -/
def Kv (Z : Ad) (H : Hp) : V → Prop
  | .non => True
  | .bl _ => True
  | .int _ => True
  | .str _ => True
  | .ref a => (∃ xs, H a = some (.lst xs)) ∨ (∃ xs, H a = some (.tup xs)) ∨ (∃ kvs : List (Key × V), H a = some (.dK kvs)) ∨ ∃ dx fs, H a = some (.ins Z.a_Words dx fs)
  | _ => False
def KvD (Z : Ad) (H : Hp) : Nat → V → Prop
  | 0, v => Kv Z H v
  | n + 1, v => Kv Z H v ∧ ∀ xs, tupOf H v = some xs → ∀ x ∈ xs, KvD Z H n x
theorem KvD.kv {Z : Ad} {H : Hp} {n : Nat} {v : V} (h : KvD Z H n v) : Kv Z H v := by
  cases n with
  | zero => exact h
  | succ n => exact h.1
theorem Kv.some {Z : Ad} {H : Hp} {a : Addr} (h : Kv Z H (.ref a)) : ∃ o, H a = some o := by
  rcases h with ⟨x, e⟩ | ⟨x, e⟩ | ⟨x, e⟩ | ⟨x, y, e⟩ <;> exact ⟨_, e⟩
theorem tupOf_same {Z : Ad} {H H' : Hp} {v : V} (s : Same H H') (k : Kv Z H v) : tupOf H' v = tupOf H v := by
  cases v with
  | ref a =>
    obtain ⟨o, e⟩ := k.some
    show (match H' a with | some (.tup xs) => some xs | _ => none) = (match H a with | some (.tup xs) => some xs | _ => none)
    rw [s _ _ e, e]
  | _ => rfl
theorem Kv.same {Z : Ad} {H H' : Hp} {v : V} (s : Same H H') (k : Kv Z H v) : Kv Z H' v := by
  cases v with
  | ref a =>
    rcases k with ⟨x, e⟩ | ⟨x, e⟩ | ⟨x, e⟩ | ⟨x, y, e⟩
    · exact .inl ⟨x, s _ _ e⟩
    · exact .inr (.inl ⟨x, s _ _ e⟩)
    · exact .inr (.inr (.inl ⟨x, s _ _ e⟩))
    · exact .inr (.inr (.inr ⟨x, y, s _ _ e⟩))
  | _ => exact k
theorem KvD.same {Z : Ad} {H H' : Hp} (s : Same H H') : ∀ {n : Nat} {v : V}, KvD Z H n v → KvD Z H' n v
  | 0, _, h => Kv.same s h
  | n + 1, v, h => ⟨h.1.same s, fun xs e x hx => by
    rw [tupOf_same s h.1] at e
    exact (h.2 xs e x hx).same s⟩
/-- what is asked of the class of words, for isinstance -/
structure InsK (K : PySem.W.Frag) (Z : Ad) : Prop where
  i : IsC K Z.a_Words
  k : ∀ T : String, T = "int" ∨ T = "bool" ∨ T = "tuple" ∨ T = "list" → PySem.W.kitOne K (.ref Z.a_Words) (.type T) = some false
section
variable {P : Program} {w : World} {K : PySem.W.Frag} {mg : Str → Option Value} {base : Heap} {Z : Ad}
theorem isi_insTy {H : Hp} {Q : VK} {a C dx : Addr} {fs : List (Str × V)} {T : String} {b : Bool} (c : IsC K C) (k : PySem.W.kitOne K (.ref C) (.type T) = some b) (h : H a = some (.ins C dx fs)) (q : Q (.bl b) H) : rIsi K [.ref a, .ty T] H Q := ⟨.ref a, .ty T, .ref C, .type T, b, rfl, .ty _, .base (.ins h c.cl c.ha c.hn c.ht c.hm), k, q⟩
theorem kv_tuple {H : Hp} {Q : VK} {x : V} (I : InsK K Z) (k : Kv Z H x) (q : Q (.bl (tupOf H x).isSome) H) : rIsi K [x, .ty "tuple"] H Q := by
  cases x with
  | non => exact isi_non_tuple q
  | bl b => exact isi_bl_tuple q
  | int b => exact isi_int_tuple q
  | str b => exact isi_str_tuple q
  | ref a =>
    have e : tupOf H (.ref a) = match H a with | some (.tup xs) => some xs | _ => none := rfl
    rcases k with ⟨xs, h⟩ | ⟨xs, h⟩ | ⟨xs, h⟩ | ⟨dx, fs, h⟩
    · rw [e, h] at q
      exact isi_lst_tuple h q
    · rw [e, h] at q
      exact isi_tup_tuple h q
    · rw [e, h] at q
      exact isi_dK_tuple h q
    · rw [e, h] at q
      exact isi_insTy I.i (I.k _ (.inr (.inr (.inl rfl)))) h q
  | _ => exact k.elim
def isIntB : V → Bool
  | .int _ => true
  | .bl _ => true
  | _ => false
theorem kv_int {H : Hp} {Q : VK} {x : V} (I : InsK K Z) (k : Kv Z H x) (q : Q (.bl (isIntB x)) H) : rIsi K [x, .ty "int"] H Q := by
  cases x with
  | non => exact isi_non_int q
  | bl b => exact isi_bl_int q
  | int b => exact isi_int_int q
  | str b => exact isi_str_int q
  | ref a =>
    rcases k with ⟨xs, h⟩ | ⟨xs, h⟩ | ⟨xs, h⟩ | ⟨dx, fs, h⟩
    · exact isi_lst_int h q
    · exact isi_tup_int h q
    · exact isi_dK_int h q
    · exact isi_insTy I.i (I.k _ (.inl rfl)) h q
  | _ => exact k.elim
theorem kv_bool {H : Hp} {Q : VK} {x : V} (I : InsK K Z) (k : Kv Z H x) (q : Q (.bl (isBlB x)) H) : rIsi K [x, .ty "bool"] H Q := by
  cases x with
  | non => exact isi_non_bool q
  | bl b => exact isi_bl_bool q
  | int b => exact isi_int_bool q
  | str b => exact isi_str_bool q
  | ref a =>
    rcases k with ⟨xs, h⟩ | ⟨xs, h⟩ | ⟨xs, h⟩ | ⟨dx, fs, h⟩
    · exact isi_lst_bool h q
    · exact isi_tup_bool h q
    · exact isi_dK_bool h q
    · exact isi_insTy I.i (I.k _ (.inr (.inl rfl))) h q
  | _ => exact k.elim
theorem tupOf_ref {H : Hp} {x : V} {xs : List V} (h : tupOf H x = some xs) : ∃ a, x = .ref a ∧ H a = some (.tup xs) := by
  cases x with
  | ref a =>
    have e : (match H a with | some (.tup xs) => some xs | _ => none) = some xs := h
    cases ha : H a with
    | none => rw [ha] at e; cases e
    | some o =>
      rw [ha] at e
      cases o with
      | tup ys =>
        cases e
        exact ⟨a, rfl, ha⟩
      | _ => cases e
  | _ => cases h
def spWithinK (Z : Ad) : Sp := fun vs H Q _ => ∃ (x : V) (lo hi : Int), vs = [.int lo, .int hi, x] ∧ Kv Z H x ∧ Q (.bl (numV lo hi x)) H
theorem ok_withinK {f : Addr} {fd : FuncData} (F : Fun K "is_within" "is_within" s_is_within f fd) (B : Bl Z mg) (I : InsK K Z) : FnOk P w K mg base CX0 1 f fd ["least", "most", "thing"] (spWithinK Z) := by
  refine F.ok sc_is_within (fun vs H Q E h => ?_) (fun cdv A outer s H vs Q E hr h => ?_)
  · obtain ⟨x, lo, hi, rfl, _⟩ := h
    rfl
  · obtain ⟨x, lo, hi, rfl, hk, q⟩ := h
    refine ⟨_, (pss_cons (ps_if (PW.pt (pw_or (pt_not (pt_val (pe_callB (call_isiK' (K := K) rfl) (by rfl) B.b_isinstance (by decide +kernel) (pa_cons (pv 2) (pa_cons (pe_bltn (v := .ty "int") (by rfl) B.b_int (by decide +kernel) rfl) pa_nil))))) (pw_or1 (pt_val (pe_callB (call_isiK' (K := K) rfl) (by rfl) B.b_isinstance (by decide +kernel) (pa_cons (pv 2) (pa_cons (pe_bltn (v := .ty "bool") (by rfl) B.b_bool (by decide +kernel) rfl) pa_nil))))))) (pss_one (ps_ret pe_bl)) pss_nil)
 (pss_one (ps_ret (pe_chain op_le op_le (pv 0) (pv 2) (pv 1))))), ?_⟩
    walk_at "h0"
    refine kv_int I hk ?_
    cases x with
    | bl b =>
      dsimp only [isIntB]
      walk_at "hs"
      exact q
    | int i =>
      dsimp only [isIntB]
      walk_at "hs"
      refine x_isd (fun c => ?_) (fun c => ?_)
      · walk_at "hs"
        have e : numV lo hi (.int i) = decide (i ≤ hi) := numT c
        rw [← e]
        exact q
      · have e : numV lo hi (.int i) = false := numF c
        rw [e] at q
        exact q
    | non =>
      dsimp only [isIntB]
      walk_at "hs"
      exact q
    | str s =>
      dsimp only [isIntB]
      walk_at "hs"
      exact q
    | ref a =>
      dsimp only [isIntB]
      walk_at "hs"
      exact q
    | _ => exact hk.elim
def spPairK (Z : Ad) : Sp := fun vs H Q _ => ∃ (x : V), vs = [x] ∧ Kv Z H x ∧ Q (.bl (lenIs H 2 x)) H
theorem ok_pairK {f : Addr} {fd : FuncData} (F : Fun K "is_pair" "is_pair" s_is_pair f fd) (B : Bl Z mg) (I : InsK K Z) : FnOk P w K mg base CX0 1 f fd ["thing"] (spPairK Z) := by
  refine F.ok sc_is_pair (fun vs H Q E h => ?_) (fun cdv A outer s H vs Q E hr h => ?_)
  · obtain ⟨x, rfl, _⟩ := h
    rfl
  · obtain ⟨x, rfl, hk, q⟩ := h
    refine ⟨_, (pss_one (ps_ret (pe_and (pe_callB (call_isiK' (K := K) rfl) (by rfl) B.b_isinstance (by decide +kernel) (pa_cons (pv 0) (pa_cons (pe_bltn (v := .ty "tuple") (by rfl) B.b_tuple (by decide +kernel) rfl) pa_nil))) (pe_one (pe_cmpR op_eq (pe_callB (call_lenK (K := K) rfl) (by rfl) B.b_len PySem.boot_len (pa_cons (pv 0) pa_nil)) pe_int (nomark _)))))), ?_⟩
    walk_at "h0"
    refine kv_tuple I hk ?_
    unfold lenIs at q
    cases e : tupOf H x with
    | none =>
      rw [e] at q
      dsimp only [Option.isSome_none]
      walk_at "hs"
      exact q
    | some xs =>
      rw [e] at q
      obtain ⟨a, rfl, ha⟩ := tupOf_ref e
      dsimp only [Option.isSome_some]
      walk_at "hs"
      exact q
end
set_option maxRecDepth 100000
set_option maxHeartbeats 2000000
open PySem PySem.Spec L2


local macro_rules | `(tactic| walk_at "h1") => `(tactic| first
  | with_reducible refine x_dget ?_
  | with_reducible refine x_dc ?_
  | with_reducible refine x_keysF ?_
  | with_reducible refine x_keysFT ?_
  | with_reducible refine x_listZip ?_
  | with_reducible refine x_enls ?_)

local macro_rules | `(tactic| walk_at "h1") => `(tactic| first
  | with_reducible refine x_meth ?_
  | with_reducible refine x_tru ?_
  | with_reducible refine x_augS ?_)

/-- of known kinds to this depth, and no tuple too long -/
def KvB (Z : Ad) (H : Hp) : Nat → V → Prop
  | 0, v => Kv Z H v
  | n + 1, v => Kv Z H v ∧ ∀ xs, tupOf H v = some xs → xs.length ≤ 5000 ∧ ∀ x ∈ xs, KvB Z H n x
theorem KvB.kv {Z : Ad} {H : Hp} {n : Nat} {v : V} (h : KvB Z H n v) : Kv Z H v := by
  cases n with
  | zero => exact h
  | succ n => exact h.1
theorem KvB.same {Z : Ad} {H H' : Hp} (s : Same H H') : ∀ {n : Nat} {v : V}, KvB Z H n v → KvB Z H' n v
  | 0, _, h => Kv.same s h
  | n + 1, v, h => ⟨h.1.same s, fun xs e => by
    rw [tupOf_same s h.1] at e
    exact ⟨(h.2 xs e).1, fun x hx => ((h.2 xs e).2 x hx).same s⟩⟩
theorem asc_all {l : List Nat} : ((List.range (l.length - 1)).all fun j => decide (l.getD j 0 < l.getD (j + 1) 0)) = decide (l.Pairwise (· < ·)) := by
  rw [Bool.eq_iff_iff, List.all_eq_true, decide_eq_true_iff]
  have gd : ∀ j (h : j < l.length), l.getD j 0 = l[j] := fun j h => by
    rw [List.getD_eq_getElem?_getD, List.getElem?_eq_getElem h]
    rfl
  constructor
  · intro h
    have st : ∀ j (h1 : j < l.length) (h2 : j + 1 < l.length), l[j] < l[j + 1] := fun j h1 h2 => by
      have := of_decide_eq_true (h j (List.mem_range.mpr (by omega)))
      rwa [gd j h1, gd (j + 1) h2] at this
    rw [List.pairwise_iff_getElem]
    intro i j hi hj hij
    obtain ⟨d, rfl⟩ : ∃ d, j = i + 1 + d := ⟨j - i - 1, by omega⟩
    induction d with
    | zero => exact st i hi hj
    | succ d ih =>
      have a := ih (by omega) (by omega)
      have b := st (i + 1 + d) (by omega) (by omega)
      show l[i] < l[i + 1 + d + 1]
      omega
  · intro h j hj
    have hj := List.mem_range.mp hj
    rw [decide_eq_true_iff, gd j (by omega), gd (j + 1) (by omega)]
    exact (List.pairwise_iff_getElem.mp h) j (j + 1) (by omega) (by omega) (by omega)
theorem nats_of_num {n : Int} : ∀ {xs : List V}, (∀ v ∈ xs, numV 1 n v = true) → ∃ l : List Nat, xs = nats l ∧ ∀ b ∈ l, 1 ≤ b ∧ (b : Int) ≤ n
  | [], _ => ⟨[], rfl, fun b h => nomatch h⟩
  | x :: xs, h => by
    obtain ⟨l, rfl, hl⟩ := nats_of_num (xs := xs) fun v hv => h v (List.mem_cons_of_mem _ hv)
    have hx := h x List.mem_cons_self
    cases x with
    | int z =>
      have hx : (decide (1 ≤ z) && decide (z ≤ n)) = true := hx
      rw [Bool.and_eq_true, decide_eq_true_eq, decide_eq_true_eq] at hx
      obtain ⟨k, rfl⟩ := Int.eq_ofNat_of_zero_le (show 0 ≤ z by omega)
      refine ⟨k :: l, rfl, fun b hb => ?_⟩
      rcases List.mem_cons.mp hb with rfl | hb
      · exact ⟨by omega, hx.2⟩
      · exact hl b hb
    | _ => cases hx
/-- a lot's tuple -/
def LotAt (H : Hp) (n : Nat) (x : V) : Prop := ∃ (L : Addr) (l : List Nat), x = .ref L ∧ H L = some (.tup (nats l)) ∧ l.Pairwise (· < ·) ∧ ∀ b ∈ l, 1 ≤ b ∧ b ≤ n
/-- a payment -/
def PayOk (H : Hp) (n : Nat) (x : V) : Prop := ∃ (a L : Addr) (l : List Nat) (y : Nat), x = .ref a ∧ H a = some (.tup [.ref L, .int (y : Nat)]) ∧ H L = some (.tup (nats l)) ∧ LotOk n (l, y)
section
variable {P : Program} {w : World} {K : PySem.W.Frag} {mg : Str → Option Value} {base : Heap} {Z : Ad}
def spAscN : Sp := fun vs H Q _ => ∃ (t : Addr) (l : List Nat), vs = [.ref t] ∧ H t = some (.tup (nats l)) ∧ l.length ≤ 5000 ∧ ∀ H', Same H H' → Q (.bl (decide (l.Pairwise (· < ·)))) H'
theorem ok_ascN {f : Addr} {fd : FuncData} (F : Fun K "is_ascending" "is_ascending" s_is_ascending f fd) (B : Bl Z mg) : FnOk P w K mg base CX0 1 f fd ["row"] spAscN := by
  refine F.ok sc_is_ascending (fun vs H Q E h => ?_) (fun cdv A outer s H vs Q E hr h => ?_)
  · obtain ⟨t, l, rfl, _⟩ := h
    rfl
  · obtain ⟨t, l, rfl, eT, l200, q⟩ := h
    have sT : SqT K H t (nats l) := .of eT
    refine ⟨_, (pss_one (ps_ret (pe_callB (cr_allK (K := K) rfl rfl) (by rfl) B.b_all (by decide +kernel) (pa_cons (pe_lc (own := [("at", 1)]) rfl sc_is_ascending.nd (pi_range1 rfl B.b_range (pa_cons (pe_op op_sub (pe_callB (call_lenK (K := K) rfl) (by rfl) B.b_len PySem.boot_len (pa_cons (pv 0) pa_nil)) pe_int) pa_nil)) (blkOk_by (N := ["row", "at"]) (sc := defScope s_is_ascending) (by decide +kernel)) (fun _ _ _ _ _ => (pg_name (i := 1) sc_is_ascending.nd rfl (Or.inl rfl))) (fun _ _ _ _ _ => pts_nil) (fun _ _ _ _ _ => (pe_cmpR op_lt (pe_ix (ix_tupK (K := K) rfl) (pv 0) (pv 1) (fun _ _ => rfl)) (pe_ix (ix_tupK (K := K) rfl) (pv 0) (pe_op op_add (pv 1) pe_int) (fun _ _ => rfl)) (nomark _)))) pa_nil)))), ?_⟩
    walk_at "h0"
    rw [nats_length]
    refine ⟨(l.length : Int) - 1, rfl, by omega, by omega, fun R nR => ?_⟩
    rw [show ((l.length : Int) - 1).toNat = l.length - 1 by omega]
    refine lc_range (lo := 0) (n := l.length - 1) (fun i G => Same H G ∧ G R = some (.lst (bls ((List.range i).map fun j => decide (l.getD j 0 < l.getD (j + 1) 0))))) ⟨same_new (Same.refl _) nR, upd_same⟩ ?_ ?_
    · rintro i G hi ⟨s1, eR⟩
      have h1 : i < l.length := by omega
      have h2 : i + 1 < l.length := by omega
      have a1 : atI (nats l) (0 + (i : Int)) = some (.int (l[i] : Nat)) := by
        rw [Int.zero_add]
        exact atI_nat (nats_get (List.getElem?_eq_getElem h1))
      have a2 : atI (nats l) (0 + (i : Int) + 1) = some (.int (l[i + 1] : Nat)) := by
        rw [show 0 + (i : Int) + 1 = ((i + 1 : Nat) : Int) by omega]
        exact atI_nat (nats_get (List.getElem?_eq_getElem h2))
      have sT1 := s1.seqT sT
      have g1 : l.getD i 0 = l[i] := by
        rw [List.getD_eq_getElem?_getD, List.getElem?_eq_getElem h1]
        rfl
      have g2 : l.getD (i + 1) 0 = l[i + 1] := by
        rw [List.getD_eq_getElem?_getD, List.getElem?_eq_getElem h2]
        rfl
      walk_at "hs"
      refine ⟨rfl, ?_⟩
      walk_at "hs"
      refine ⟨_, eR, szLt (by rw [bls_len, List.length_map, List.length_range]; omega), same_mut s1 nR, ?_⟩
      rw [upd_same, List.range_succ, List.map_append, List.map_cons, g1, g2, show decide (((l[i] : Nat) : Int) < (l[i + 1] : Nat)) = decide (l[i] < l[i + 1]) from decide_eq_decide.mpr (by omega)]
      unfold bls
      rw [List.map_append]
      rfl
    · rintro G ⟨s1, eR⟩
      walk_at "hs"
      refine ⟨R, _, rfl, .of eR, ?_⟩
      have e : (((List.range (l.length - 1)).map fun j => decide (l.getD j 0 < l.getD (j + 1) 0)).all id) = decide (l.Pairwise (· < ·)) := by
        rw [← asc_all, List.all_map]
        rfl
      rw [e]
      exact q _ s1
def spLotN (Z : Ad) : Sp := fun vs H Q _ => ∃ (x : V) (n : Nat), vs = [.int 1, .int n, x] ∧ KvB Z H 1 x ∧ (LotAt H n x → ∀ H', Same H H' → Q (.bl true) H') ∧ (¬ LotAt H n x → ∀ H', Same H H' → Q (.bl false) H')
theorem ok_lotN {f : Addr} {fd : FuncData} (F : Fun K "is_lot_within" "is_lot_within" s_is_lot_within f fd) (B : Bl Z mg) (I : InsK K Z) {f_is_within : Addr} {fd_is_within : FuncData} (C_is_within : Cal K mg "is_within" f_is_within fd_is_within ["least", "most", "thing"]) (G_is_within : FnOk P w K mg base CX0 1 f_is_within fd_is_within ["least", "most", "thing"] (spWithinK Z)) {f_is_ascending : Addr} {fd_is_ascending : FuncData} (C_is_ascending : Cal K mg "is_ascending" f_is_ascending fd_is_ascending ["row"]) (G_is_ascending : FnOk P w K mg base CX0 1 f_is_ascending fd_is_ascending ["row"] spAscN) : FnOk P w K mg base CX0 2 f fd ["least", "most", "thing"] (spLotN Z) := by
  refine F.ok sc_is_lot_within (fun vs H Q E h => ?_) (fun cdv A outer s H vs Q E hr h => ?_)
  · obtain ⟨x, n, rfl, _⟩ := h
    rfl
  · obtain ⟨x, n, rfl, hk, qt, qf⟩ := h
    refine ⟨_, (pss_cons (ps_if (pt_not (pt_val (pe_callB (call_isiK' (K := K) rfl) (by rfl) B.b_isinstance (by decide +kernel) (pa_cons (pv 2) (pa_cons (pe_bltn (v := .ty "tuple") (by rfl) B.b_tuple (by decide +kernel) rfl) pa_nil))))) (pss_one (ps_ret pe_bl)) pss_nil)
 (pss_cons (ps_if (pt_not (pt_val (pe_callB (cr_allK (K := K) rfl rfl) (by rfl) B.b_all (by decide +kernel) (pa_cons (pe_lc (own := [("part", 3)]) rfl sc_is_lot_within.nd (pi_tup (pv 2)) (blkOk_by (N := ["least", "most", "thing", "part"]) (sc := defScope s_is_lot_within) (by decide +kernel)) (fun _ _ _ _ _ => (pg_name (i := 3) sc_is_lot_within.nd rfl (Or.inl rfl))) (fun _ _ _ _ _ => pts_nil) (fun _ _ _ _ _ => (pe_call G_is_within (hr.mono (by first | decide | omega)) (by rfl) C_is_within.g C_is_within.k C_is_within.b .nil pass0 (pa_cons (pv 0) (pa_cons (pv 1) (pa_cons (pv 3) pa_nil)))))) pa_nil)))) (pss_one (ps_ret pe_bl)) pss_nil)
 (pss_one (ps_ret (pe_call G_is_ascending (hr.mono (by first | decide | omega)) (by rfl) C_is_ascending.g C_is_ascending.k C_is_ascending.b .nil pass0 (pa_cons (pv 2) pa_nil)))))), ?_⟩
    walk_at "h0"
    refine kv_tuple I hk.kv ?_
    cases e : tupOf H x with
    | none =>
      dsimp only [Option.isSome_none]
      walk_at "hs"
      refine qf (fun ⟨L, l, z, h, _⟩ => ?_) _ (Same.refl _)
      subst z
      have : tupOf H (.ref L) = some (nats l) := by
        show (match H L with | some (.tup xs) => some xs | _ => none) = _
        rw [h]
      rw [this] at e
      cases e
    | some xs =>
      obtain ⟨a, rfl, ha⟩ := tupOf_ref e
      obtain ⟨xl, xk⟩ := hk.2 xs e
      have sT : SqT K H a xs := .of ha
      dsimp only [Option.isSome_some]
      walk_at "hs"
      refine ⟨a, rfl, ⟨_, sT⟩, fun R nR => ?_⟩
      refine lc_tup (K := K) (xs := xs) (fun i G => Same H G ∧ G R = some (.lst (bls ((xs.take i).map (numV 1 n))))) ⟨same_new (Same.refl _) nR, upd_same⟩ (fun i G _ h => h.1.seqT sT) ?_ ?_
      · rintro i v G hv ⟨s1, eR⟩
        have hi := (List.getElem?_eq_some_iff.mp hv).1
        walk_at "hs"
        refine ⟨rfl, ?_⟩
        walk_at "hs"
        refine ⟨v, 1, n, rfl, (xk v (List.mem_of_getElem? hv)).same s1, ?_⟩
        refine ⟨_, eR, szLt (by rw [bls_len, List.length_map, List.length_take]; omega), same_mut s1 nR, ?_⟩
        rw [upd_same, List.take_succ, hv, Option.toList_some, List.map_append]
        unfold bls
        rw [List.map_append]
        rfl
      rintro G ⟨s1, eR⟩
      rw [List.take_length] at eR
      walk_at "hs"
      refine ⟨R, _, rfl, .of eR, ?_⟩
      cases hb : ((xs.map (numV 1 n)).all id) with
      | false =>
        walk_at "hs"
        refine qf (fun ⟨L, l, z, h, _, r⟩ => ?_) _ s1
        cases z
        rw [ha] at h
        cases h
        rw [List.all_map, Bool.eq_false_iff] at hb
        refine hb (List.all_eq_true.mpr fun v hv => ?_)
        obtain ⟨b, hb2, rfl⟩ := List.mem_map.mp hv
        have := r b hb2
        exact Bool.and_eq_true_iff.mpr ⟨decide_eq_true (show (1 : Int) ≤ (b : Nat) by omega), decide_eq_true (show ((b : Nat) : Int) ≤ (n : Nat) by omega)⟩
      | true =>
        rw [List.all_map] at hb
        obtain ⟨l, rfl, rng⟩ := nats_of_num fun v hv => List.all_eq_true.mp hb v hv
        rw [nats_length] at xl
        walk_at "hs"
        refine ⟨a, l, rfl, s1 _ _ ha, xl, fun G2 s2 => ?_⟩
        by_cases c : l.Pairwise (· < ·)
        · rw [decide_eq_true c]
          exact qt ⟨a, l, rfl, ha, c, fun b hb => ⟨(rng b hb).1, by have := (rng b hb).2; omega⟩⟩ _ (s1.trans s2)
        · rw [decide_eq_false c]
          refine qf (fun ⟨L, l', z, h, c', _⟩ => c ?_) _ (s1.trans s2)
          cases z
          rw [ha] at h
          have := nats_inj (HO.tup.inj (Option.some.inj h))
          exact this ▸ c'
end
set_option maxRecDepth 100000
set_option maxHeartbeats 400000
open PySem PySem.Spec L2


local macro_rules | `(tactic| walk_at "h1") => `(tactic| first
  | with_reducible refine x_dget ?_
  | with_reducible refine x_dc ?_
  | with_reducible refine x_keysF ?_
  | with_reducible refine x_keysFT ?_
  | with_reducible refine x_listZip ?_
  | with_reducible refine x_enls ?_)

local macro_rules | `(tactic| walk_at "h1") => `(tactic| first
  | with_reducible refine x_meth ?_
  | with_reducible refine x_tru ?_
  | with_reducible refine x_augS ?_)

theorem two_of : ∀ {xs : List V}, xs.length = 2 → ∃ l y, xs = [l, y]
  | [l, y], _ => ⟨l, y, rfl⟩
  | [], h => by cases h
  | [_], h => by cases h
  | _ :: _ :: _ :: _, h => by
    rw [List.length_cons, List.length_cons, List.length_cons] at h
    omega
theorem tupOf_at {H : Hp} {a : Addr} {xs : List V} (h : H a = some (.tup xs)) : tupOf H (.ref a) = some xs := by
  show (match H a with | some (.tup xs) => some xs | _ => none) = _
  rw [h]
theorem LotAt.same {H H' : Hp} {n : Nat} {x : V} (s : Same H H') (h : LotAt H n x) : LotAt H' n x := by
  obtain ⟨L, l, e, h1, h2, h3⟩ := h
  exact ⟨L, l, e, s _ _ h1, h2, h3⟩
/-- what is a positive number -/
def posV : V → Bool
  | .int i => decide (1 ≤ i)
  | _ => false
theorem pay_iff {H : Hp} {n : Nat} {a : Addr} {l y : V} (h : H a = some (.tup [l, y])) : PayOk H n (.ref a) ↔ LotAt H n l ∧ (∀ L, l = .ref L → H L ≠ some (.tup [])) ∧ posV y = true := by
  constructor
  · rintro ⟨a', L, k, z, e, h1, h2, lo⟩
    cases e
    rw [h] at h1
    have := HO.tup.inj (Option.some.inj h1)
    obtain ⟨rfl, rfl⟩ : l = .ref L ∧ y = .int (z : Nat) := by
      rw [List.cons.injEq, List.cons.injEq] at this
      exact ⟨this.1, this.2.1⟩
    refine ⟨⟨L, k, rfl, h2, lo.asc, lo.in_⟩, fun L' e h3 => ?_, decide_eq_true (by have := lo.pos; show (1 : Int) ≤ _; omega)⟩
    cases e
    rw [h2] at h3
    have := HO.tup.inj (Option.some.inj h3)
    exact lo.ne (List.length_eq_zero_iff.mp (by rw [← nats_length, this]; rfl))
  · rintro ⟨⟨L, k, rfl, h2, h3, h4⟩, ne, py⟩
    cases y with
    | int i =>
      have py : 1 ≤ i := of_decide_eq_true py
      obtain ⟨z, rfl⟩ := Int.eq_ofNat_of_zero_le (show 0 ≤ i by omega)
      refine ⟨a, L, k, z, rfl, h, h2, h3, fun e => ne L rfl ?_, h4, by show 1 ≤ z; omega⟩
      have e : k = [] := e
      rw [h2, e]
      rfl
    | _ => cases py
section
variable {P : Program} {w : World} {K : PySem.W.Frag} {mg : Str → Option Value} {base : Heap} {Z : Ad}
def spIsPayN (Z : Ad) : Sp := fun vs H Q _ => ∃ (wd n : Nat) (us : List (Option Nat)) (ls : List (List (Option Bool))) (x : V), vs = [.ref wd, x] ∧ WordsAt Z H wd n us ls ∧ n ≤ 40 ∧ KvB Z H 2 x ∧ (PayOk H n x → ∀ H', Same H H' → Q (.bl true) H') ∧ (¬ PayOk H n x → ∀ H', Same H H' → Q (.bl false) H')
theorem ok_isPayN {f : Addr} {fd : FuncData} (F : Fun K "_is_payment" "_is_payment" s__is_payment f fd) (B : Bl Z mg) (W : WCls K Z) (I : InsK K Z) {f_is_pair : Addr} {fd_is_pair : FuncData} (C_is_pair : Cal K mg "is_pair" f_is_pair fd_is_pair ["thing"]) (G_is_pair : FnOk P w K mg base CX0 1 f_is_pair fd_is_pair ["thing"] (spPairK Z)) {f_is_lot_within : Addr} {fd_is_lot_within : FuncData} (C_is_lot_within : Cal K mg "is_lot_within" f_is_lot_within fd_is_lot_within ["least", "most", "thing"]) (G_is_lot_within : FnOk P w K mg base CX0 2 f_is_lot_within fd_is_lot_within ["least", "most", "thing"] (spLotN Z)) : FnOk P w K mg base CX0 3 f fd ["words", "thing"] (spIsPayN Z) := by
  refine F.ok sc__is_payment (fun vs H Q E h => ?_) (fun cdv A outer s H vs Q E hr h => ?_)
  · obtain ⟨wd, n, us, ls, x, rfl, _⟩ := h
    rfl
  · obtain ⟨wd, n, us, ls, x, rfl, hw, n40, hk, qt, qf⟩ := h
    obtain ⟨wx, ws, tu, tl, was, w1, w2, _⟩ := id hw
    refine ⟨_, (pss_cons (ps_if (pt_not (pt_val (pe_call G_is_pair (hr.mono (by first | decide | omega)) (by rfl) C_is_pair.g C_is_pair.k C_is_pair.b .nil pass0 (pa_cons (pv 1) pa_nil)))) (pss_one (ps_ret pe_bl)) pss_nil)
 (pss_cons (ps_asg (pv 1) (pg_tup rfl (pgs_cons (pg_name (i := 2) sc__is_payment.nd rfl (Or.inl rfl)) (pgs_cons (pg_name (i := 3) sc__is_payment.nd rfl (Or.inl rfl)) pgs_nil))))
 (pss_cons (ps_if (PW.pt (pw_or (pt_not (pt_val (pe_call G_is_lot_within (hr.mono (by first | decide | omega)) (by rfl) C_is_lot_within.g C_is_lot_within.k C_is_lot_within.b .nil pass0 (pa_cons pe_int (pa_cons (pe_fldK (K := K) rfl (pv 0) rfl) (pa_cons (pv 2) pa_nil)))))) (pw_or1 (pt_cmpR (op_eqNil (K := K) rfl hr.units) (pv 2) (pe_tup pa_nil) (nomark _))))) (pss_one (ps_ret pe_bl)) pss_nil)
 (pss_one (ps_ret (pe_and (pe_callB (call_isiK' (K := K) rfl) (by rfl) B.b_isinstance (by decide +kernel) (pa_cons (pv 3) (pa_cons (pe_bltn (v := .ty "int") (by rfl) B.b_int (by decide +kernel) rfl) pa_nil))) (pe_and (pe_not (pe_callB (call_isiK' (K := K) rfl) (by rfl) B.b_isinstance (by decide +kernel) (pa_cons (pv 3) (pa_cons (pe_bltn (v := .ty "bool") (by rfl) B.b_bool (by decide +kernel) rfl) pa_nil)))) (pe_one (pe_cmpR op_ge (pv 3) pe_int (nomark _)))))))))), ?_⟩
    walk_at "h0"
    refine ⟨x, rfl, hk.kv, ?_⟩
    cases e : lenIs H 2 x with
    | false =>
      walk_at "hs"
      refine qf (fun ⟨a, L, l, y, z, h1, _⟩ => ?_) _ (Same.refl _)
      subst z
      unfold lenIs at e
      rw [tupOf_at h1] at e
      cases e
    | true =>
      obtain ⟨a, l, y, rfl, ha⟩ : ∃ (a : Addr) (l y : V), x = .ref a ∧ H a = some (.tup [l, y]) := by
        unfold lenIs at e
        cases e2 : tupOf H x with
        | none => rw [e2] at e; cases e
        | some xs =>
          rw [e2] at e
          have e : decide ((xs.length : Int) = 2) = true := e
          obtain ⟨a, rfl, ha⟩ := tupOf_ref e2
          obtain ⟨l, y, rfl⟩ := two_of (show xs.length = 2 by have := of_decide_eq_true e; omega)
          exact ⟨a, l, y, rfl, ha⟩
      have pi := pay_iff (n := n) ha
      obtain ⟨_, km⟩ := hk.2 _ (tupOf_at ha)
      have kl := km l List.mem_cons_self
      have ky := (km y (List.mem_cons_of_mem _ List.mem_cons_self)).kv
      have sa : SqT K H a [l, y] := .of ha
      walk_at "hs"
      refine ⟨wd, _, wx, _, _, rfl, w1, W.c, W.nb, w2, ?_⟩
      walk_at "hs"
      refine ⟨l, n, rfl, kl, fun lt H1 s1 => ?_, fun lf H1 s1 => ?_⟩
      · obtain ⟨L, k, rfl, hL, _, _⟩ := id lt
        walk_at "hs"
        intro U nU
        have s2 : Same H1 (upd H1 U (.tup [])) := same_new (Same.refl _) nU
        have eU : upd H1 U (.tup []) U = some (.tup []) := upd_same
        generalize upd H1 U (.tup []) = H2 at s2 eU ⊢
        refine ⟨L, U, nats k, rfl, rfl, .of (s2 _ _ (s1 _ _ hL)), .of eU, ?_⟩
        have s12 := s1.trans s2
        by_cases c : nats k = []
        · rw [decide_eq_true c]
          walk_at "hs"
          exact qf (fun z => (pi.mp z).2.1 L rfl (by rw [hL, c])) _ s12
        · rw [decide_eq_false c]
          have ne : ∀ L', V.ref L = .ref L' → H L' ≠ some (.tup []) := fun L' e h => by
            cases e
            rw [hL] at h
            exact c (HO.tup.inj (Option.some.inj h))
          have ky2 := ky.same s12
          have hid : Same H H2 ∧ True := ⟨s12, trivial⟩
          clear s1 s2 s12
          iterate 11 (walk_at "h1"; try dsimp only [Bool.not_true, Bool.not_false])
          refine kv_int I ky2 ?_
          have no : posV y = false → ∀ H', Same H H' → Q (.bl false) H' := fun e H' s => qf (fun z => by rw [(pi.mp z).2.2] at e; cases e) H' s
          cases y with
          | bl b =>
            dsimp only [isIntB]
            walk_at "hs"
            exact no rfl _ hid.1
          | int i =>
            dsimp only [isIntB]
            walk_at "hs"
            by_cases c1 : 1 ≤ i
            · rw [decide_eq_true c1]
              exact qt (pi.mpr ⟨lt, ne, decide_eq_true c1⟩) _ hid.1
            · rw [decide_eq_false c1]
              exact no (decide_eq_false c1) _ hid.1
          | non =>
            dsimp only [isIntB]
            walk_at "hs"
            exact no rfl _ hid.1
          | str s =>
            dsimp only [isIntB]
            walk_at "hs"
            exact no rfl _ hid.1
          | ref a =>
            dsimp only [isIntB]
            walk_at "hs"
            exact no rfl _ hid.1
          | _ => exact ky2.elim
      · walk_at "hs"
        exact qf (fun z => lf (pi.mp z).1) _ s1
end
set_option maxRecDepth 100000
set_option maxHeartbeats 1000000
open PySem PySem.Spec L2


local macro_rules | `(tactic| walk_at "h1") => `(tactic| first
  | with_reducible refine x_dget ?_
  | with_reducible refine x_dc ?_
  | with_reducible refine x_keysF ?_
  | with_reducible refine x_keysFT ?_
  | with_reducible refine x_listZip ?_
  | with_reducible refine x_enls ?_)

local macro_rules | `(tactic| walk_at "h1") => `(tactic| first
  | with_reducible refine x_meth ?_
  | with_reducible refine x_tru ?_
  | with_reducible refine x_augS ?_)

theorem PayOk.same {H H' : Hp} {n : Nat} {x : V} (s : Same H H') (h : PayOk H n x) : PayOk H' n x := by
  obtain ⟨a, L, l, y, e, h1, h2, lo⟩ := h
  exact ⟨a, L, l, y, e, s _ _ h1, s _ _ h2, lo⟩
theorem PayOk.back {Z : Ad} {H H' : Hp} {n : Nat} {x : V} (s : Same H H') (k : KvB Z H 2 x) (h : PayOk H' n x) : PayOk H n x := by
  obtain ⟨a, L, l, y, rfl, h1, h2, lo⟩ := h
  obtain ⟨o, e⟩ := Kv.some k.kv
  have e2 := s _ _ e
  rw [h1] at e2
  cases e2
  obtain ⟨_, km⟩ := k.2 _ (tupOf_at e)
  obtain ⟨o, e3⟩ := Kv.some (km (.ref L) List.mem_cons_self).kv
  have e4 := s _ _ e3
  rw [h2] at e4
  cases e4
  exact ⟨a, L, l, y, rfl, e, e3, lo⟩
theorem pays_of {H : Hp} {n : Nat} : ∀ {xs : List V}, (∀ x ∈ xs, PayOk H n x) → ∃ as pd, xs = refs as ∧ PyAt H as pd ∧ ∀ t ∈ pd, LotOk n t
  | [], _ => ⟨[], [], rfl, ⟨rfl, fun i a t h => nomatch h⟩, fun t h => nomatch h⟩
  | x :: xs, h => by
    obtain ⟨as, pd, rfl, py, lo⟩ := pays_of (xs := xs) fun v hv => h v (List.mem_cons_of_mem _ hv)
    obtain ⟨a, L, l, y, rfl, h1, h2, lo1⟩ := h x List.mem_cons_self
    refine ⟨a :: as, (l, y) :: pd, rfl, ⟨congrArg (· + 1) py.1, fun i b t hb ht => ?_⟩, fun t ht => ?_⟩
    · cases i with
      | zero =>
        cases hb
        cases ht
        exact ⟨L, h1, h2⟩
      | succ i => exact py.2 i b t hb ht
    · rcases List.mem_cons.mp ht with rfl | ht
      · exact lo1
      · exact lo t ht
theorem pays_are {H : Hp} {n : Nat} {as : List Addr} {pd : List Pay} (py : PyAt H as pd) (lo : ∀ t ∈ pd, LotOk n t) : ∀ x ∈ refs as, PayOk H n x := fun x hx => by
  obtain ⟨a, ha, rfl⟩ := List.mem_map.mp hx
  obtain ⟨i, hi, e⟩ := List.getElem_of_mem ha
  have hip : i < pd.length := by rw [← py.1]; exact hi
  obtain ⟨L, h1, h2⟩ := py.2 i a pd[i] (by rw [List.getElem?_eq_getElem hi, e]) (List.getElem?_eq_getElem hip)
  exact ⟨a, L, pd[i].1, pd[i].2, rfl, h1, h2, lo _ (List.getElem_mem hip)⟩
theorem PyAt.det {H : Hp} {as : List Addr} {pd pd' : List Pay} (h : PyAt H as pd) (h' : PyAt H as pd') : pd = pd' := by
  refine List.ext_getElem (by rw [← h.1, ← h'.1]) fun i h1 h2 => ?_
  have hi : i < as.length := by rw [h.1]; exact h1
  obtain ⟨L, a1, a2⟩ := h.2 i as[i] pd[i] (List.getElem?_eq_getElem hi) (List.getElem?_eq_getElem h1)
  obtain ⟨L', b1, b2⟩ := h'.2 i as[i] pd'[i] (List.getElem?_eq_getElem hi) (List.getElem?_eq_getElem h2)
  rw [a1] at b1
  have e := HO.tup.inj (Option.some.inj b1)
  rw [List.cons.injEq, List.cons.injEq] at e
  obtain ⟨e1, e2, _⟩ := e
  cases e1
  rw [a2] at b2
  have e3 := nats_inj (HO.tup.inj (Option.some.inj b2))
  have e4 : pd[i].2 = pd'[i].2 := by
    have := V.int.inj e2
    omega
  exact Prod.ext e3 e4
theorem refs_inj {as bs : List Addr} (h : refs as = refs bs) : as = bs := (List.map_inj_right (fun a b e => V.ref.inj e)).mp h
/-- a nest -/
def NestOk (H : Hp) (n : Nat) (us : List (Option Nat)) (ls : List (List (Option Bool))) (x : V) : Prop := ∃ (T : Addr) (as : List Addr) (pd : List Pay), x = .ref T ∧ H T = some (.tup (refs as)) ∧ PyAt H as pd ∧ (∀ t ∈ pd, LotOk n t) ∧ ∀ b p, 1 ≤ b → b ≤ n → p ≤ n → p ≠ b → paidS pd b p ≤ costN us ls b p
section
variable {P : Program} {w : World} {K : PySem.W.Frag} {mg : Str → Option Value} {base : Heap} {Z : Ad}
def spNestN (Z : Ad) : Sp := fun vs H Q _ => ∃ (wd n : Nat) (us : List (Option Nat)) (ls : List (List (Option Bool))) (x : V), vs = [.ref wd, x] ∧ WordsAt Z H wd n us ls ∧ WdOk n us ls ∧ KvB Z H 3 x ∧ (NestOk H n us ls x → ∀ H', Same H H' → Q (.bl true) H') ∧ (¬ NestOk H n us ls x → ∀ H', Same H H' → Q (.bl false) H')
theorem ok_nestN {f : Addr} {fd : FuncData} (F : Fun K "is_nest" "is_nest" s_is_nest f fd) (B : Bl Z mg) (W : WCls K Z) (I : InsK K Z) {f__is_payment : Addr} {fd__is_payment : FuncData} (C__is_payment : Cal K mg "_is_payment" f__is_payment fd__is_payment ["words", "thing"]) (G__is_payment : FnOk P w K mg base CX0 3 f__is_payment fd__is_payment ["words", "thing"] (spIsPayN Z)) {f__paid_for : Addr} {fd__paid_for : FuncData} (C__paid_for : Cal K mg "_paid_for" f__paid_for fd__paid_for ["words", "pairs"]) (G__paid_for : FnOk P w K mg base CX0 1 f__paid_for fd__paid_for ["words", "pairs"] (spPaid Z))
    {f_costs : Addr} {fd_costs : FuncData} (C_costs : Cal K mg "costs" f_costs fd_costs ["words", "block"]) (G_costs : FnOk P w K mg base CX0 1 f_costs fd_costs ["words", "block"] (spCosts Z)) : FnOk P w K mg base CX0 4 f fd ["words", "thing"] (spNestN Z) := by
  refine F.ok sc_is_nest (fun vs H Q E h => ?_) (fun cdv A outer s H vs Q E hr h => ?_)
  · obtain ⟨wd, n, us, ls, x, rfl, _⟩ := h
    rfl
  · obtain ⟨wd, n, us, ls, x, rfl, hw, ok, hk, nt, nf⟩ := h
    have n40 := ok.n2
    obtain ⟨wx, ws, tu, tl, was, w1, w2, _⟩ := id hw
    refine ⟨_, (pss_cons (ps_if (pt_not (pt_val (pe_callB (call_isiK' (K := K) rfl) (by rfl) B.b_isinstance (by decide +kernel) (pa_cons (pv 1) (pa_cons (pe_bltn (v := .ty "tuple") (by rfl) B.b_tuple (by decide +kernel) rfl) pa_nil))))) (pss_one (ps_ret pe_bl)) pss_nil)
 (pss_cons (ps_if (pt_not (pt_val (pe_callB (cr_allK (K := K) rfl rfl) (by rfl) B.b_all (by decide +kernel) (pa_cons (pe_lc (own := [("part", 6)]) rfl sc_is_nest.nd (pi_tup (pv 1)) (blkOk_by (N := ["words", "thing", "paid", "block", "place", "wrong", "part"]) (sc := defScope s_is_nest) (by decide +kernel)) (fun _ _ _ _ _ => (pg_name (i := 6) sc_is_nest.nd rfl (Or.inl rfl))) (fun _ _ _ _ _ => pts_nil) (fun _ _ _ _ _ => (pe_call G__is_payment (hr.mono (by first | decide | omega)) (by rfl) C__is_payment.g C__is_payment.k C__is_payment.b .nil pass0 (pa_cons (pv 0) (pa_cons (pv 6) pa_nil))))) pa_nil)))) (pss_one (ps_ret pe_bl)) pss_nil)
 (pss_cons (ps_set (i := 2) sc_is_nest.nd rfl (Or.inl rfl) (pe_call G__paid_for (hr.mono (by first | decide | omega)) (by rfl) C__paid_for.g C__paid_for.k C__paid_for.b .nil pass0 (pa_cons (pv 0) (pa_cons (pv 1) pa_nil))))
 (pss_cons (ps_for PassesOwn.never rfl (pi_range2 rfl B.b_range (pa_cons pe_int (pa_cons (pe_op op_add (pe_fldK (K := K) rfl (pv 0) rfl) pe_int) pa_nil))) (pg_name (i := 3) sc_is_nest.nd rfl (Or.inl rfl)) (pss_one (ps_for PassesOwn.never rfl (pi_enumLK (K := K) rfl (by rfl) B.b_enumerate (pa_cons (pe_call G_costs (hr.mono (by first | decide | omega)) (by rfl) C_costs.g C_costs.k C_costs.b .nil pass0 (pa_cons (pv 0) (pa_cons (pv 3) pa_nil))) pa_nil)) (pg_tup rfl (pgs_cons (pg_name (i := 4) sc_is_nest.nd rfl (Or.inl rfl)) (pgs_cons (pg_name (i := 5) sc_is_nest.nd rfl (Or.inl rfl)) pgs_nil))) (pss_one (ps_if (PW.pt (pw_and (pt_cmpR op_ne (pv 4) (pv 3) (nomark _)) (pw_and1 (pt_cmpR op_gt (pe_ix (ix_listK (K := K) rfl) (pe_dget (units1 hr) (pv 2) (pv 3) (fun _ _ => rfl)) (pv 4) (fun _ _ => rfl)) (pv 5) (nomark _))))) (pss_one (ps_ret pe_bl)) pss_nil)))))
 (pss_one (ps_ret pe_bl)))))), ?_⟩
    walk_at "h0"
    refine kv_tuple I hk.kv ?_
    cases e : tupOf H x with
    | none =>
      dsimp only [Option.isSome_none]
      walk_at "hs"
      refine nf (fun ⟨T, as, pd, z, h, _⟩ => ?_) _ (Same.refl _)
      subst z
      rw [tupOf_at h] at e
      cases e
    | some xs =>
    obtain ⟨T, rfl, hT0⟩ := tupOf_ref e
    obtain ⟨xl, xk⟩ := hk.2 xs e
    have tT0 : SqT K H T xs := .of hT0
    dsimp only [Option.isSome_some]
    walk_at "hs"
    refine ⟨T, rfl, ⟨_, tT0⟩, fun R nR => ?_⟩
    refine lc_tup (K := K) (xs := xs) (fun i G => Same H G ∧ ∃ bs : List Bool, bs.length = i ∧ G R = some (.lst (bls bs)) ∧ ((∀ b ∈ bs, b = true) → ∀ x ∈ xs.take i, PayOk H n x) ∧ ((∃ b ∈ bs, b = false) → ∃ x ∈ xs, ¬ PayOk H n x)) ⟨same_new (Same.refl _) nR, [], rfl, upd_same, (fun _ x hx => by rw [List.take_zero] at hx; cases hx), fun ⟨b, h, _⟩ => nomatch h⟩ (fun i G _ h => h.1.seqT tT0) ?_ ?_
    · rintro i v G hv ⟨s1, bs, bl, eR, ht, hf⟩
      have hi := (List.getElem?_eq_some_iff.mp hv).1
      have mv := List.mem_of_getElem? hv
      have kv := xk v mv
      have step : ∀ (c : Bool), (c = true → PayOk H n v) → (c = false → ¬ PayOk H n v) → ∀ G1, Same G G1 → ∃ acc, G1 R = some (.lst acc) ∧ acc.length < sizeLine ∧ Same H (upd G1 R (.lst (acc ++ [.bl c]))) ∧ ∃ bs : List Bool, bs.length = i + 1 ∧ upd G1 R (.lst (acc ++ [.bl c])) R = some (.lst (bls bs)) ∧ ((∀ b ∈ bs, b = true) → ∀ x ∈ xs.take (i + 1), PayOk H n x) ∧ ((∃ b ∈ bs, b = false) → ∃ x ∈ xs, ¬ PayOk H n x) := fun c c1 c2 G1 s2 => by
        refine ⟨_, s2 _ _ eR, szLt (by rw [bls_len]; omega), same_mut (s1.trans s2) nR, bs ++ [c], by rw [List.length_append, bl]; rfl, by rw [upd_same]; unfold bls; rw [List.map_append]; rfl, fun h x hx => ?_, fun ⟨b, hb, hb2⟩ => ?_⟩
        · rw [List.take_succ, hv, Option.toList_some] at hx
          rcases List.mem_append.mp hx with hx | hx
          · exact ht (fun b hb => h b (List.mem_append_left _ hb)) x hx
          · rw [List.mem_singleton.mp hx]
            exact c1 (h c (List.mem_append_right _ List.mem_cons_self))
        · rcases List.mem_append.mp hb with hb | hb
          · exact hf ⟨b, hb, hb2⟩
          · rw [List.mem_singleton.mp hb] at hb2
            exact ⟨v, mv, c2 hb2⟩
      walk_at "hs"
      refine ⟨rfl, ?_⟩
      walk_at "hs"
      exact ⟨wd, n, us, ls, v, rfl, hw.same s1, n40, kv.same s1, fun p G1 s2 => step true (fun _ => p.back s1 kv) (fun z => by cases z) G1 s2, fun p G1 s2 => step false (fun z => by cases z) (fun _ z => p (z.same s1)) G1 s2⟩
    rintro G ⟨s1, bs, bl, eR, ht, hf⟩
    rw [List.take_length] at ht
    walk_at "hs"
    refine ⟨R, bs, rfl, .of eR, ?_⟩
    cases hb : bs.all id with
    | false =>
      obtain ⟨b, b1, b2⟩ := List.all_eq_false.mp hb
      obtain ⟨x, x1, x2⟩ := hf ⟨b, b1, by cases b with | true => exact absurd rfl b2 | false => rfl⟩
      walk_at "hs"
      refine nf (fun ⟨T', as, pd, z, h, py, lo, _⟩ => x2 ?_) _ s1
      cases z
      rw [hT0] at h
      cases h
      exact pays_are py lo x x1
    | true =>
    obtain ⟨as, pd, rfl, hpy, lots⟩ := pays_of (ht fun b hb2 => List.all_eq_true.mp hb b hb2)
    have hT := hT0
    have lp : pd.length ≤ 5000 := by
      rw [refs_length] at xl
      rw [← hpy.1]
      exact xl
    have qt : (∀ b p, 1 ≤ b → b ≤ n → p ≤ n → p ≠ b → paidS pd b p ≤ costN us ls b p) → ∀ H', Same H H' → Q (.bl true) H' := fun g => nt ⟨T, as, pd, rfl, hT, hpy, lots, g⟩
    have qf : (∃ b p, 1 ≤ b ∧ b ≤ n ∧ p ≤ n ∧ p ≠ b ∧ costN us ls b p < paidS pd b p) → ∀ H', Same H H' → Q (.bl false) H' := fun ⟨b, p, h1, h2, h3, h4, h5⟩ => nf fun ⟨T', as', pd', z, h, py, lo, g⟩ => by
      cases z
      rw [hT] at h
      have ea := refs_inj (HO.tup.inj (Option.some.inj h))
      subst ea
      have ep := hpy.det py
      subst ep
      have := g b p h1 h2 h3 h4
      omega
    have tT := tT0
    clear nt nf ht hf bl hb tT0 hT0 xk xl e hk
    walk_at "hs"
    refine ⟨wd, T, n, us, ls, as, pd, rfl, hw.same s1, n40, s1 _ _ hT, hpy.keep fun a xs e => s1 _ _ e, lots, fun D rows G1 s2 eD rl er => ?_⟩
    have s12 := s1.trans s2
    clear s1 s2 eR nR tT
    walk_at "hs"
    refine ⟨wd, _, wx, _, _, rfl, s12 _ _ w1, W.c, W.nb, w2, ?_⟩
    walk_at "hs"
    refine ⟨1, (n : Int) + 1, rfl, ⟨by omega, by omega, by omega, by omega⟩, ?_⟩
    refine lp_range (lo := 1) (n := Int.toNat ((n : Int) + 1 - 1)) (fun i σ' G => (∃ x3 x4 x5 x6, σ' = [some (.ref wd), some (.ref T), some (.ref D), x3, x4, x5, x6]) ∧ Same G1 G ∧ ∀ b p, 1 ≤ b → b ≤ i → p ≤ n → p ≠ b → paidS pd b p ≤ costN us ls b p)
      ⟨⟨_, _, _, _, rfl⟩, Same.refl _, fun b p h1 h2 => by omega⟩ ?_ ?_
    · rintro i σ' G2 hi ⟨⟨x3, x4, x5, x6, rfl⟩, s3, good⟩
      have hin : i < n := by omega
      have ec : (1 : Int) + (i : Int) = ((i + 1 : Nat) : Int) := by omega
      rw [ec]
      walk_at "hs"
      refine ⟨wd, n, i + 1, us, ls, rfl, hw.same (s12.trans s3), ok, by omega, by omega, fun C G3 s4 nC eC => ?_⟩
      walk_at "hs"
      refine ⟨C, costsV us ls (i + 1) (n + 1), rfl, .of eC, ?_⟩
      have s34 := s3.trans s4
      obtain ⟨r, hr⟩ : ∃ r, rows[i]? = some r := ⟨_, List.getElem?_eq_getElem (by rw [rl]; omega)⟩
      have erG := er i r hr
      refine lp_enumL (K := K) (xs := costsV us ls (i + 1) (n + 1)) (fun j σ' G => (∃ x4 x5 x6, σ' = [some (.ref wd), some (.ref T), some (.ref D), some (.int ((i + 1 : Nat) : Int)), x4, x5, x6]) ∧ Same G3 G ∧ ∀ p, p < j → p ≠ i + 1 → paidS pd (i + 1) p ≤ costN us ls (i + 1) p)
        ⟨⟨_, _, _, rfl⟩, Same.refl _, fun p h => by omega⟩ (fun j σ' G _ h => .of (h.2.1 _ _ eC)) ?_ ?_
      · rintro j v σ' G4 U hv ⟨⟨x4, x5, x6, rfl⟩, s5, gd⟩ nU
        have hj : j < n + 1 := by
          have := (List.getElem?_eq_some_iff.mp hv).1
          rwa [costsV_len] at this
        rw [costsV_get us ls (i + 1) hj] at hv
        have hv := (Option.some.inj hv).symm
        subst hv
        have s6 : Same G4 (upd G4 U (.tup [.int (j : Int), if j = i + 1 then V.non else .int (costN us ls (i + 1) j : Nat)])) := same_new (Same.refl _) nU
        have s56 := s5.trans s6
        by_cases e : j = i + 1
        · rw [if_pos e] at s56 ⊢
          walk_at "hs"
          refine x_isd (fun cc => (cc (by omega)).elim) (fun _ => ?_)
          walk_at "hs"
          refine ⟨⟨_, _, _, rfl⟩, s56, fun p h1 h2 => gd p (by omega) h2⟩
        · rw [if_neg e] at s56 ⊢
          walk_at "hs"
          refine x_isd (fun _ => ?_) (fun cc => (cc (by omega)).elim)
          have s16 := s34.trans s56
          have tr := s16 _ _ erG
          have ar : atI (mksV (fun p => paidS pd (i + 1) p) (n + 1)) (j : Int) = some (.int (paidS pd (i + 1) j : Nat)) := atI_nat (mksV_get (by omega))
          generalize upd G4 U (.tup [.int (j : Int), .int (costN us ls (i + 1) j : Nat)]) = G5 at s56 s16 tr ⊢
          have trS : SqL K G5 r _ := .of tr
          walk_at "hs"
          refine ⟨D, _, rfl, dgetN (.inl (s16 _ _ eD)) (refs_get hr) (by omega), ?_⟩
          walk_at "hs"
          refine x_isd (fun cc => ?_) (fun cc => ?_)
          · walk_at "hs"
            exact qf ⟨i + 1, j, by omega, by omega, by omega, e, by omega⟩ _ (s12.trans s16)
          · walk_at "hs"
            refine ⟨⟨_, _, _, rfl⟩, s56, fun p h1 h2 => ?_⟩
            by_cases c : p = j
            · subst c
              omega
            · exact gd p (by omega) h2
      · rintro σ' G4 ⟨⟨x4, x5, x6, rfl⟩, s5, gd⟩
        rw [costsV_len] at gd
        refine ⟨⟨_, _, _, _, rfl⟩, s34.trans s5, fun b p h1 h2 h3 h4 => ?_⟩
        by_cases c : b = i + 1
        · subst c
          exact gd p (by omega) h4
        · exact good b p h1 (by omega) h3 h4
    · rintro σ' G2 ⟨⟨x3, x4, x5, x6, rfl⟩, s3, good⟩
      walk_at "hs"
      exact qt (fun b p h1 h2 h3 h4 => good b p h1 (by omega) h3 h4) _ (s12.trans s3)
end
set_option maxRecDepth 100000
set_option maxHeartbeats 1000000
open PySem PySem.Spec L2


local macro_rules | `(tactic| walk_at "h1") => `(tactic| first
  | with_reducible refine x_dget ?_
  | with_reducible refine x_dc ?_
  | with_reducible refine x_keysF ?_
  | with_reducible refine x_keysFT ?_
  | with_reducible refine x_listZip ?_
  | with_reducible refine x_enls ?_)

local macro_rules | `(tactic| walk_at "h1") => `(tactic| first
  | with_reducible refine x_meth ?_
  | with_reducible refine x_tru ?_
  | with_reducible refine x_augS ?_)

theorem sc__law_is_int : FnScope ["_law_thing", "_law_least"] ["_law_thing", "_law_least"] (defScope s__law_is_int) := ⟨rfl, rfl, rfl, by decide +kernel, rfl, by decide +kernel, by decide +kernel⟩
def geV (lo : Int) : V → Bool
  | .int i => decide (lo ≤ i)
  | _ => false
section
variable {P : Program} {w : World} {K : PySem.W.Frag} {mg : Str → Option Value} {base : Heap} {Z : Ad}
def spIntK (Z : Ad) : Sp := fun vs H Q _ => ∃ (x : V) (lo : Int), vs = [x, .int lo] ∧ Kv Z H x ∧ Q (.bl (geV lo x)) H
theorem ok_intK {f : Addr} {fd : FuncData} (F : Fun K "_law_is_int" "_law_is_int" s__law_is_int f fd) (B : Bl Z mg) (I : InsK K Z) : FnOk P w K mg base CX0 1 f fd ["_law_thing", "_law_least"] (spIntK Z) := by
  refine F.ok sc__law_is_int (fun vs H Q E h => ?_) (fun cdv A outer s H vs Q E hr h => ?_)
  · obtain ⟨x, lo, rfl, _⟩ := h
    rfl
  · obtain ⟨x, lo, rfl, hk, q⟩ := h
    refine ⟨_, (pss_one (ps_ret (pe_and (pe_callB (call_isiK' (K := K) rfl) (by rfl) B.b_isinstance (by decide +kernel) (pa_cons (pv 0) (pa_cons (pe_bltn (v := .ty "int") (by rfl) B.b_int (by decide +kernel) rfl) pa_nil))) (pe_and (pe_not (pe_callB (call_isiK' (K := K) rfl) (by rfl) B.b_isinstance (by decide +kernel) (pa_cons (pv 0) (pa_cons (pe_bltn (v := .ty "bool") (by rfl) B.b_bool (by decide +kernel) rfl) pa_nil)))) (pe_one (pe_cmpR op_ge (pv 0) (pv 1) (nomark _))))))), ?_⟩
    walk_at "h0"
    refine kv_int I hk ?_
    cases x with
    | bl b =>
      dsimp only [isIntB]
      walk_at "hs"
      exact q
    | int i =>
      dsimp only [isIntB]
      walk_at "hs"
      exact q
    | non =>
      dsimp only [isIntB]
      walk_at "hs"
      exact q
    | str s =>
      dsimp only [isIntB]
      walk_at "hs"
      exact q
    | ref a =>
      dsimp only [isIntB]
      walk_at "hs"
      exact q
    | _ => exact hk.elim
end
set_option maxRecDepth 100000
set_option maxHeartbeats 2000000
open PySem PySem.Spec L2


local macro_rules | `(tactic| walk_at "h1") => `(tactic| first
  | with_reducible refine x_dget ?_
  | with_reducible refine x_dc ?_
  | with_reducible refine x_keysF ?_
  | with_reducible refine x_keysFT ?_
  | with_reducible refine x_listZip ?_
  | with_reducible refine x_enls ?_)

local macro_rules | `(tactic| walk_at "h1") => `(tactic| first
  | with_reducible refine x_meth ?_
  | with_reducible refine x_tru ?_
  | with_reducible refine x_augS ?_)

theorem sc__law_right : FnScope ["_law_tape_here", "_law_blocks", "_law_hung", "_law_order", "_law_at", "_law_block", "_law_lists", "_law_place"] ["_law_tape_here", "_law_blocks"] (defScope s__law_right) := ⟨rfl, rfl, rfl, by decide +kernel, rfl, by decide +kernel, by decide +kernel⟩
/-- ups and lists of places, as lists -/
structure WL (G : Hp) (U Lw : Addr) (as : List Addr) (us : List (Option Nat)) (ls : List (List (Option Bool))) : Prop where
  eU : G U = some (.lst (upvs us))
  eL : G Lw = some (.lst (refs as))
  len : as.length = ls.length
  row : ∀ (i : Nat) a r, as[i]? = some a → ls[i]? = some r → G a = some (.lst (wds r))
  nd : (U :: Lw :: as).Nodup
theorem WL.some {G : Hp} {U Lw : Addr} {as : List Addr} {us : List (Option Nat)} {ls : List (List (Option Bool))} (h : WL G U Lw as us ls) : ∀ a ∈ U :: Lw :: as, ∃ xs, G a = .some (.lst xs) := fun a ha => by
  rcases List.mem_cons.mp ha with rfl | ha
  · exact ⟨_, h.eU⟩
  rcases List.mem_cons.mp ha with rfl | ha
  · exact ⟨_, h.eL⟩
  obtain ⟨i, hi, e⟩ := List.getElem_of_mem ha
  exact ⟨_, h.row i a _ (by rw [List.getElem?_eq_getElem hi, e]) (List.getElem?_eq_getElem (by rw [← h.len]; exact hi))⟩
theorem WL.keep {G G' : Hp} {U Lw : Addr} {as : List Addr} {us : List (Option Nat)} {ls : List (List (Option Bool))} (h : WL G U Lw as us ls) (k : ∀ a ∈ U :: Lw :: as, ∀ o, G a = .some o → G' a = .some o) : WL G' U Lw as us ls :=
  ⟨k _ List.mem_cons_self _ h.eU, k _ (List.mem_cons_of_mem _ List.mem_cons_self) _ h.eL, h.len, fun i a r ha hr => k _ (List.mem_cons_of_mem _ (List.mem_cons_of_mem _ (List.mem_of_getElem? ha))) _ (h.row i a r ha hr), h.nd⟩
theorem WL.but {G G' : Hp} {p U Lw : Addr} {as : List Addr} {us : List (Option Nat)} {ls : List (List (Option Bool))} (h : WL G U Lw as us ls) (b : But p G G') (np : p ∉ U :: Lw :: as) : WL G' U Lw as us ls := h.keep fun a ha o e => b _ _ (fun z => np (z ▸ ha)) e
theorem WL.same {G G' : Hp} {U Lw : Addr} {as : List Addr} {us : List (Option Nat)} {ls : List (List (Option Bool))} (h : WL G U Lw as us ls) (s : Same G G') : WL G' U Lw as us ls := h.keep fun a ha o e => s _ _ e
theorem PoolAt.ownAll {H H' : Hp} {p : Addr} {F X : Addr → Prop} (h : PoolAt H p F) (s : Same H H') (n : ∀ a, X a → H a = none ∧ ∃ o, H' a = some o) : PoolAt H' p (fun a => X a ∨ F a) := by
  obtain ⟨⟨g, gs, i, c, x, m, hp, hg, i0, ng, fg, fp⟩, hF⟩ := h
  refine ⟨⟨g, gs, i, c, x, m, s _ _ hp, s _ _ hg, i0, ng, fun e => e.elim (fun e => ?_) fg, fun e => e.elim (fun e => ?_) fp⟩, fun a ha => ?_⟩
  · rw [(n g e).1] at hg
    cases hg
  · rw [(n p e).1] at hp
    cases hp
  · rcases ha with ha | ha
    · exact (n a ha).2
    · obtain ⟨o, e⟩ := hF a ha
      exact ⟨o, s _ _ e⟩
section
variable {P : Program} {w : World} {K : PySem.W.Frag} {mg : Str → Option Value} {base : Heap} {Z : Ad}
def spRightL : Sp := fun vs H Q _ => ∃ (p : Addr) (n : Nat) (F : Addr → Prop), vs = [.ref p, .int n] ∧ PoolAt H p F ∧ 1 ≤ n ∧ n ≤ 40 ∧
  ∀ (q R U Lw : Addr) (as : List Addr) (hs : List Nat) H', IsTree hs → hs.length = n → But p H H' → PoolAt H' p (fun a => a ∈ U :: Lw :: as ∨ F a) → H' q = some (.tup [.ref R, .ref U, .ref Lw]) → H' R = some (.lst (nats hs)) → WL H' U Lw as (rightU hs) (rightL hs) → R ∉ U :: Lw :: as → (∀ a ∈ R :: U :: Lw :: as, H a = none) → Q (.ref q) H'
theorem ok_rightL {f : Addr} {fd : FuncData} (F : Fun K "_law_right" "_law_right" s__law_right f fd) (B : Bl Z mg) {f__law_any : Addr} {fd__law_any : FuncData} (C__law_any : Cal K mg "_law_any" f__law_any fd__law_any ["_law_tape_here", "_law_things"]) (G__law_any : FnOk P w K mg base CX0 2 f__law_any fd__law_any ["_law_tape_here", "_law_things"] (spAny K)) {f__law_mixed : Addr} {fd__law_mixed : FuncData} (C__law_mixed : Cal K mg "_law_mixed" f__law_mixed fd__law_mixed ["_law_tape_here", "_law_things"]) (G__law_mixed : FnOk P w K mg base CX0 2 f__law_mixed fd__law_mixed ["_law_tape_here", "_law_things"] (spMixed K)) : FnOk P w K mg base CX0 3 f fd ["_law_tape_here", "_law_blocks"] spRightL := by
  refine F.ok sc__law_right (fun vs H Q E h => ?_) (fun cdv A outer s H vs Q E hr h => ?_)
  · obtain ⟨p, n, Fo, rfl, _⟩ := h
    rfl
  · obtain ⟨p, n, Fo, rfl, hp, n1, n2, q⟩ := h
    refine ⟨_, (pss_cons (ps_set (i := 2) sc__law_right.nd rfl (Or.inr rfl) (pe_op op_rep (pe_lst (pa_cons pe_int pa_nil)) (pv 1)))
 (pss_cons (ps_set (i := 3) sc__law_right.nd rfl (Or.inl rfl) (pe_call G__law_mixed (hr.mono (by first | decide | omega)) (by rfl) C__law_mixed.g C__law_mixed.k C__law_mixed.b .nil pass0 (pa_cons (pv 0) (pa_cons (pe_listRg rfl (by rfl) B.b_list (prg_2 (by rfl) B.b_range pe_int (pe_op op_add (pv 1) pe_int))) pa_nil))))
 (pss_cons (ps_for PassesOwn.never rfl (pi_enumLK (K := K) rfl (by rfl) B.b_enumerate (pa_cons (pv 3) pa_nil)) (pg_tup rfl (pgs_cons (pg_name (i := 4) sc__law_right.nd rfl (Or.inl rfl)) (pgs_cons (pg_name (i := 5) sc__law_right.nd rfl (Or.inl rfl)) pgs_nil))) (pss_one (ps_asg (pe_call G__law_any (hr.mono (by first | decide | omega)) (by rfl) C__law_any.g C__law_any.k C__law_any.b .nil pass0 (pa_cons (pv 0) (pa_cons (pe_op op_cat (pe_lst (pa_cons pe_int pa_nil)) (pe_slice (sl_listK (K := K) rfl) (pv 3) po_none (po_some (pv 4)))) pa_nil))) (pg_sub (pv 2) (pe_op op_sub (pv 5) pe_int) set_list))))
 (pss_cons (ps_setLc (i := 6) (own := [("_law_place", 7)]) rfl sc__law_right.nd rfl rfl (sw_true rfl rfl rfl (by decide +kernel)) (pi_range1 rfl B.b_range (pa_cons (pe_op op_add (pv 1) pe_int) pa_nil)) (blkOk_by (N := ["_law_tape_here", "_law_blocks", "_law_hung", "_law_order", "_law_at", "_law_block", "_law_lists", "_law_place"]) (sc := defScope s__law_right) (by decide +kernel)) (fun _ _ _ _ _ => (pg_name (i := 7) sc__law_right.nd rfl (Or.inr rfl))) (fun _ _ _ _ _ => pts_nil) (fun _ _ _ _ _ => (pe_lc (own := [("_law_block", 5)]) rfl sc__law_right.nd (pi_range2 rfl B.b_range (pa_cons pe_int (pa_cons (pe_op op_add (pv 1) pe_int) pa_nil))) (blkOk_nest (N := ["_law_tape_here", "_law_blocks", "_law_hung", "_law_order", "_law_at", "_law_block", "_law_lists", "_law_place"]) (sc := defScope s__law_right) (by decide +kernel) rfl) (fun _ _ _ _ _ => (pg_name (i := 5) sc__law_right.nd rfl (Or.inl rfl))) (fun _ _ _ _ _ => pts_nil) (fun _ _ _ _ _ => (pe_cmpR op_eq (pe_ix (ix_listK (K := K) rfl) (pv 2) (pe_op op_sub (pv 5) pe_int) (fun _ _ => rfl)) (pv 7) (nomark _))))))
 (pss_one (ps_ret (pe_tup (pa_cons (pv 2) (pa_cons (pe_callTy (call_lstK (K := K) rfl) (by rfl) B.b_list (by decide +kernel) (pa_cons (pv 2) pa_nil)) (pa_cons (pv 6) pa_nil)))))))))), ?_⟩
    walk_at "h0"
    intro l1 hl1
    walk_at "hs"
    refine x_rep1 upd_same (by omega) fun R hR => ?_
    rw [nats_rep]
    have s1 : Same H (upd (upd H l1 (.lst [.int 0])) R (.lst (nats (List.replicate n 0)))) := same_new (same_new (Same.refl _) hl1) hR
    have eR0 : upd (upd H l1 (.lst [.int 0])) R (.lst (nats (List.replicate n 0))) R = some (.lst (nats (List.replicate n 0))) := upd_same
    have p1 : PoolAt (upd (upd H l1 (.lst [.int 0])) R (.lst (nats (List.replicate n 0)))) p (fun a => a = R ∨ Fo a) := (hp.newH hl1).own hR
    have nR : H R = none := Same.free (same_new (Same.refl _) hl1) hR
    generalize upd (upd H l1 (.lst [.int 0])) R (.lst (nats (List.replicate n 0))) = H1 at s1 eR0 p1 ⊢
    clear hl1 hR
    walk_at "hs"
    refine ⟨⟨by omega, by omega, by omega, by omega, by omega⟩, fun l0 hl0 => ?_⟩
    rw [rgV_nats]
    walk_at "hs"
    refine ⟨p, l0, n, _, rfl, p1.newH hl0, .of upd_same, p1.ne hl0, n1, n2, fun O ms H2 hperm b2 p2 nO eO => ?_⟩
    have hlen : ms.length = n := by rw [hperm.length_eq, List.length_range']
    have b02 : But p H H2 := ((But.of s1).new hl0).trans b2
    have op : O ≠ p := (p1.newH hl0).ne nO
    have eR2 : H2 R = some (.lst (nats (List.replicate n 0))) := b2 _ _ (p1.neF (.inl rfl)) (keepN eR0 hl0)
    have hOR : O ≠ R := fun z => by rw [z] at nO; rw [keepN eR0 hl0] at nO; cases nO
    clear nO
    walk_at "hs"
    have eO0 := eO
    refine x_enl1 (.of eO0) ?_
    refine lp_enumL (K := K) (xs := nats ms) (fun i σ' H' => (∃ x4 x5 x6 x7, σ' = [some (.ref p), some (.int n), some (.ref R), some (.ref O), x4, x5, x6, x7]) ∧ ∃ fs : List Nat, fs.length = n ∧ But p H H' ∧ PoolAt H' p (fun a => a = R ∨ Fo a) ∧ H' O = some (.lst (nats ms)) ∧ H' R = some (.lst (nats fs)) ∧ ∀ (i' x : Nat), i' < i → ms[i']? = some x → ∃ j y : Nat, j ≤ i' ∧ (0 :: ms)[j]? = some y ∧ fs[x - 1]? = some y)
      ⟨⟨_, _, _, _, rfl⟩, List.replicate n 0, List.length_replicate, b02, p2, eO0, eR2, fun i' x h => absurd h (Nat.not_lt_zero _)⟩ (fun i σ' H' _ h => ?_) ?_ ?_
    · obtain ⟨_, fs, _, _, _, eO, _⟩ := h
      exact .of eO
    · rintro i v σ' H' T hv ⟨⟨x4, x5, x6, x7, rfl⟩, fs, hfs, b3, p3, eO', eR, hd⟩ hT
      have hi : i < ms.length := by
        have := (List.getElem?_eq_some_iff.mp hv).1
        rwa [nats_length] at this
      have hx := List.getElem?_eq_getElem hi
      have hv2 : v = .int (ms[i] : Nat) := by
        have e := nats_get hx
        rw [hv] at e
        exact Option.some.inj e
      subst hv2
      have hxm := (List.mem_range'_1.mp (hperm.mem_iff.mp (List.getElem_mem hi)))
      walk_at "hs"
      intro l2 hl2
      walk_at "hs"
      intro S hS
      rw [cut_take]
      walk_at "hs"
      refine x_cat (keepN upd_same hS) upd_same (szLe (by rw [List.length_take, nats_length]; show 1 + _ ≤ _; omega)) fun C hC => ?_
      walk_at "hs"
      have p4 := PoolAt.newH (o := .lst ([V.int 0] ++ (nats ms).take i)) (((p3.newH hT).newH hl2).newH hS) hC
      refine ⟨p, C, _, _, rfl, p4, .of upd_same, (((p3.newH hT).newH hl2).newH hS).ne hC, by rw [List.length_append]; show 0 < 1 + _; omega, by rw [List.length_append, List.length_take, nats_length]; show 1 + _ ≤ _; omega, fun x H4 hxm4 b4 p4' => ?_⟩
      have eR4 : H4 R = some (.lst (nats fs)) := b4 _ _ (p4.neF (.inl rfl)) (keepN (keepN (keepN (keepN eR hT) hl2) hS) hC)
      have eO4 : H4 O = some (.lst (nats ms)) := b4 _ _ op (keepN (keepN (keepN (keepN eO' hT) hl2) hS) hC)
      obtain ⟨j, y, hj, hy, rfl⟩ : ∃ j y : Nat, j ≤ i ∧ (0 :: ms)[j]? = some y ∧ x = .int (y : Nat) := by
        rcases List.mem_append.mp hxm4 with h | h
        · exact ⟨0, 0, Nat.zero_le _, rfl, List.mem_singleton.mp h⟩
        · obtain ⟨j, hj, he⟩ := List.mem_take_iff_getElem.mp h
          rw [nats_length] at hj
          have hj2 : j < ms.length := by omega
          refine ⟨j + 1, ms[j], by omega, List.getElem?_eq_getElem hj2, ?_⟩
          rw [← he]
          have := nats_get (List.getElem?_eq_getElem hj2)
          exact (List.getElem?_eq_some_iff.mp this).2
      have at3 : ixN (nats fs).length ((ms[i] : Nat) - 1 : Int) = some (ms[i] - 1) := by
        rw [show ((ms[i] : Nat) - 1 : Int) = ((ms[i] - 1 : Nat) : Int) by omega]
        exact ixN_nat (by rw [nats_length]; omega)
      walk_at "hs"
      refine ⟨⟨_, _, _, _, rfl⟩, fs.set (ms[i] - 1) y, by rw [List.length_set]; exact hfs, ?_, p4'.mut (.inl rfl), keepM hOR eO4, by rw [upd_same, nats_set], fun i' x hlt hx' => ?_⟩
      · exact ((((((b3.new hT).new hl2).new hS).new hC)).trans b4).mutF nR
      by_cases e : i' = i
      · subst e
        rw [hx] at hx'
        cases hx'
        exact ⟨j, _, hj, hy, by rw [List.getElem?_set_self (by omega)]⟩
      · obtain ⟨j, y, hj, hy', hf⟩ := hd i' x (by omega) hx'
        refine ⟨j, y, hj, hy', ?_⟩
        have hne : ms[i] - 1 ≠ x - 1 := fun e2 => by
          have hi2 := (List.getElem?_eq_some_iff.mp hx').1
          have hxm' := (List.mem_range'_1.mp (hperm.mem_iff.mp (List.mem_of_getElem? hx')))
          have nd : ms.Nodup := hperm.nodup_iff.mpr (List.nodup_range' ..)
          have : ms[i'] = ms[i] := by
            have e3 : ms[i'] = x := (List.getElem?_eq_some_iff.mp hx').2
            omega
          exact e ((List.getElem_inj nd).mp this)
        rw [List.getElem?_set_ne hne]
        exact hf
    · rintro σ' H3 ⟨⟨x4, x5, x6, x7, rfl⟩, fs, hfs, b3, p3, eO', eR, hd⟩
      rw [nats_length] at hd
      have htree : IsTree fs := Drawn.tree ⟨ms, by rw [hfs]; exact hperm, fun i x hx => hd i x (by have := (List.getElem?_eq_some_iff.mp hx).1; omega) hx⟩ (by omega) (by omega)
      clear hd eO' eO0 hOR op b02 b2 p2 eR2 hperm hlen s1 eR0 p1
      walk_at "hs"
      refine ⟨(n : Int) + 1, rfl, by omega, by omega, fun Lw nL => ?_⟩
      refine lc_range (lo := 0) (n := Int.toNat ((n : Int) + 1)) (fun k G => Same H3 G ∧ ∃ as : List Addr, as.length = k ∧ as.Nodup ∧ (∀ a ∈ as, G a ≠ none) ∧ (∀ a ∈ as, H3 a = none ∧ a ≠ Lw) ∧ G Lw = some (.lst (refs as)) ∧ ∀ (i : Nat) a, as[i]? = some a → G a = some (.lst (wds (fs.map fun h => some (decide (h = i))))))
        ⟨same_new (Same.refl _) nL, [], rfl, .nil, (fun a h => nomatch h), (fun a h => nomatch h), upd_same, fun i a h => nomatch h⟩ ?_ ?_
      · rintro k G hk ⟨s4, as, la, nd, al, fr, eL, rows⟩
        walk_at "hs"
        refine ⟨rfl, ?_⟩
        walk_at "hs"
        refine ⟨1, (n : Int) + 1, rfl, ⟨by omega, by omega, by omega, by omega⟩, fun a na => ?_⟩
        refine lc_range (lo := 1) (n := Int.toNat ((n : Int) + 1 - 1)) (fun j G1 => Same G G1 ∧ G1 a = some (.lst (wds ((fs.take j).map fun h => some (decide (h = k)))))) ⟨same_new (Same.refl _) na, by rw [List.take_zero]; exact upd_same⟩ ?_ ?_
        · rintro j G1 hj ⟨s5, ea⟩
          have hjf : j < fs.length := by omega
          have hf := List.getElem?_eq_getElem hjf
          have tR : SqL K G1 R (nats fs) := .of (s5 _ _ (s4 _ _ eR))
          have aR : atI (nats fs) (1 + (j : Int) - 1) = some (.int (fs[j] : Nat)) := by
            rw [show (1 + (j : Int) - 1) = (j : Int) by omega]
            exact atI_nat (nats_get hf)
          walk_at "hs"
          refine ⟨rfl, ?_⟩
          walk_at "hs"
          refine ⟨_, ea, by rw [wds_length, List.length_map, List.length_take]; exact szLt (by omega), same_mut s5 na, ?_⟩
          rw [upd_same, List.take_succ, hf, Option.toList_some, List.map_append, wds_app]
          have e : decide (((fs[j] : Nat) : Int) = 0 + (k : Int)) = decide (fs[j] = k) := by
            rw [decide_eq_decide]
            omega
          rw [e]
          rfl
        · rintro G1 ⟨s5, ea⟩
          rw [List.take_of_length_le (by omega)] at ea
          have eL2 := s5 _ _ eL
          have naL : a ≠ Lw := fun z => by rw [z] at na; rw [eL] at na; cases na
          refine ⟨_, eL2, by rw [refs_length, la]; exact szLt (by omega), same_mut (s4.trans s5) nL, as ++ [a], by rw [List.length_append, la]; rfl, L2.nd_snoc nd (fun m => al a m na), fun b hb => ?_, fun b hb => ?_, by rw [upd_same, refs_app]; rfl, fun i b hb => ?_⟩
          · by_cases z : b = Lw
            · rw [z, upd_same]
              exact nofun
            · rw [upd_ne z]
              rcases List.mem_append.mp hb with hb | hb
              · intro e
                exact al b hb (s5.free e)
              · rw [List.mem_singleton.mp hb, ea]
                exact nofun
          · rcases List.mem_append.mp hb with hb | hb
            · exact fr b hb
            · rw [List.mem_singleton.mp hb]
              exact ⟨s4.free na, naL⟩
          · rcases snoc_get hb with h | ⟨e, rfl⟩
            · exact keepM (fr b (List.mem_of_getElem? h)).2 (s5 _ _ (rows i b h))
            · rw [e, la]
              exact keepM naL ea
      · rintro G ⟨s4, as, la, nd, al, fr, eL, rows⟩
        rw [show Int.toNat ((n : Int) + 1) = n + 1 by omega] at la
        have p4 := p3.same s4
        have tR : SqL K G R (nats fs) := .of (s4 _ _ eR)
        walk_at "hs"
        intro U nU
        have s5 : Same G (upd G U (.lst (nats fs))) := same_new (Same.refl _) nU
        have eU : upd G U (.lst (nats fs)) U = some (.lst (nats fs)) := upd_same
        generalize upd G U (.lst (nats fs)) = G1 at s5 eU ⊢
        walk_at "hs"
        intro q1 nq
        have s6 : Same G1 (upd G1 q1 (.tup [.ref R, .ref U, .ref Lw])) := same_new (Same.refl _) nq
        have eq : upd G1 q1 (.tup [.ref R, .ref U, .ref Lw]) q1 = some (.tup [.ref R, .ref U, .ref Lw]) := upd_same
        generalize upd G1 q1 (.tup [.ref R, .ref U, .ref Lw]) = G2 at s6 eq ⊢
        have s56 := s5.trans s6
        have s46 := s4.trans s56
        have b6 : But p H G2 := b3.trans (But.of s46)
        have nrm : ∀ a, H3 a = none → H a = none := fun a e => Classical.byContradiction fun z => by
          cases e2 : H a with
          | none => exact z e2
          | some o =>
            by_cases c : a = p
            · obtain ⟨⟨g, gs, i, c', m, n', hpp, _⟩, _⟩ := p3
              rw [c, hpp] at e
              cases e
            · rw [b3 _ _ c e2] at e
              cases e
        have nUH3 : H3 U = none := s4.free nU
        have nUL : U ≠ Lw := fun z => by rw [z, eL] at nU; cases nU
        have nUa : ∀ a ∈ as, U ≠ a := fun a ha z => al a ha (z ▸ nU)
        refine q q1 R U Lw as fs G2 htree hfs b6 ((p3.ownAll (X := fun a => a ∈ U :: Lw :: as) s46 fun a ha => ?_).weak fun a h => h.imp id .inr) eq (s46 _ _ eR) ⟨?_, s56 _ _ eL, ?_, fun i a r ha hr => ?_, ?_⟩ ?_ ?_
        · rcases List.mem_cons.mp ha with rfl | ha
          · exact ⟨nUH3, _, s6 _ _ eU⟩
          rcases List.mem_cons.mp ha with rfl | ha
          · exact ⟨nL, _, s56 _ _ eL⟩
          · obtain ⟨i, hi, e⟩ := List.getElem_of_mem ha
            exact ⟨(fr a ha).1, _, s56 _ _ (rows i a (by rw [List.getElem?_eq_getElem hi, e]))⟩
        · rw [upvs_some]
          exact s6 _ _ eU
        · rw [la, rightL_len]
          omega
        · have hk := (List.getElem?_eq_some_iff.mp ha).1
          rw [rightL_get (by omega)] at hr
          cases hr
          exact s56 _ _ (rows i a ha)
        · refine List.nodup_cons.mpr ⟨fun h => ?_, List.nodup_cons.mpr ⟨fun h => (fr _ h).2 rfl, nd⟩⟩
          rcases List.mem_cons.mp h with h | h
          · exact nUL h
          · exact nUa _ h rfl
        · intro h
          rcases List.mem_cons.mp h with h | h
          · rw [← h, eR] at nUH3
            cases nUH3
          rcases List.mem_cons.mp h with h | h
          · rw [← h, eR] at nL
            cases nL
          · have := (fr _ h).1
            rw [eR] at this
            cases this
        · intro a ha
          rcases List.mem_cons.mp ha with rfl | ha
          · exact nR
          rcases List.mem_cons.mp ha with rfl | ha
          · exact nrm _ nUH3
          rcases List.mem_cons.mp ha with rfl | ha
          · exact nrm _ nL
          · exact nrm _ (fr a ha).1
end
set_option maxRecDepth 100000
set_option maxHeartbeats 2000000
open PySem PySem.Spec L2


local macro_rules | `(tactic| walk_at "h1") => `(tactic| first
  | with_reducible refine x_dget ?_
  | with_reducible refine x_dc ?_
  | with_reducible refine x_keysF ?_
  | with_reducible refine x_keysFT ?_
  | with_reducible refine x_listZip ?_
  | with_reducible refine x_enls ?_)

local macro_rules | `(tactic| walk_at "h1") => `(tactic| first
  | with_reducible refine x_meth ?_
  | with_reducible refine x_tru ?_
  | with_reducible refine x_augS ?_)

theorem sc__law_damaged : FnScope ["_law_tape_here", "_law_blocks", "_law_ups", "_law_lists", "_law_many", "_law_turn", "_law_block", "_law_place", "_law_lost"] ["_law_tape_here", "_law_blocks", "_law_ups", "_law_lists", "_law_many"] (defScope s__law_damaged) := ⟨rfl, rfl, rfl, by decide +kernel, rfl, by decide +kernel, by decide +kernel⟩
theorem pe_notTK {X : Cx} {K : PySem.W.Frag} {a : Expr} {ta : TE} {pos : Pos} (e : X.K = K) (ha : PE X a ta) : PE X (.UnaryOp .Not a pos) (tNotT K ta) := by
  subst e
  exact pe_notT ha
def truO : Option Bool → Bool
  | none => false
  | some f => f
theorem truO_ok {K : PySem.W.Frag} {H : Hp} (o : Option Bool) : TruV K (wdV o) H (truO o) := by
  cases o <;> rfl
theorem wdok_setU {n k : Nat} {us : List (Option Nat)} {ls : List (List (Option Bool))} {o : Option Nat} (ok : WdOk n us ls) (h : ∀ q, o = some q → q ≤ n ∧ q ≠ k + 1) : WdOk n (us.set k o) ls :=
  ⟨ok.n1, ok.n2, by rw [List.length_set]; exact ok.ul, fun b q hb => by
    by_cases e : k = b
    · subst e
      by_cases hk : k < us.length
      · rw [List.getElem?_set_self hk] at hb
        exact h q (Option.some.inj hb)
      · rw [List.getElem?_eq_none (by rw [List.length_set]; omega)] at hb
        cases hb
    · rw [List.getElem?_set_ne e] at hb
      exact ok.uo b q hb, ok.ll, ok.rl, ok.dg⟩
theorem wdok_setL {n p k : Nat} {us : List (Option Nat)} {ls : List (List (Option Bool))} {r : List (Option Bool)} {o : Option Bool} (ok : WdOk n us ls) (hr : ls[p]? = some r) (hne : p ≠ k + 1) : WdOk n us (ls.set p (r.set k o)) :=
  ⟨ok.n1, ok.n2, ok.ul, ok.uo, by rw [List.length_set]; exact ok.ll, fun r' h => by
    rcases List.mem_or_eq_of_mem_set h with h | rfl
    · exact ok.rl r' h
    · rw [List.length_set]
      exact ok.rl r (List.mem_of_getElem? hr), fun p' r' h g1 => by
    by_cases e : p = p'
    · subst e
      rw [List.getElem?_set_self (List.getElem?_eq_some_iff.mp hr).1] at h
      have := Option.some.inj h
      subst this
      rw [List.getElem?_set_ne (by omega)]
      exact ok.dg p r hr g1
    · rw [List.getElem?_set_ne e] at h
      exact ok.dg p' r' h g1⟩
theorem upvs_set (us : List (Option Nat)) (k : Nat) (o : Option Nat) : (upvs us).set k (upV o) = upvs (us.set k o) := by
  unfold upvs
  rw [List.map_set]
theorem wds_set (r : List (Option Bool)) (k : Nat) (o : Option Bool) : (wds r).set k (wdV o) = wds (r.set k o) := by
  unfold wds
  rw [List.map_set]
/-- of these lists one changes -/
theorem WL.setU {G : Hp} {U Lw : Addr} {as : List Addr} {us : List (Option Nat)} {ls : List (List (Option Bool))} {k : Nat} {o : Option Nat} (h : WL G U Lw as us ls) : WL (upd G U (.lst (upvs (us.set k o)))) U Lw as (us.set k o) ls := by
  obtain ⟨n1, n2⟩ := List.nodup_cons.mp h.nd
  exact ⟨upd_same, keepM (fun z => n1 (by rw [← z]; exact List.mem_cons_self)) h.eL, h.len, fun i a r ha hr => keepM (fun z => n1 (by rw [← z]; exact List.mem_cons_of_mem _ (List.mem_of_getElem? ha))) (h.row i a r ha hr), h.nd⟩
theorem WL.setR {G : Hp} {U Lw a : Addr} {as : List Addr} {us : List (Option Nat)} {ls : List (List (Option Bool))} {p k : Nat} {r : List (Option Bool)} {o : Option Bool} (h : WL G U Lw as us ls) (ha : as[p]? = .some a) (hr : ls[p]? = .some r) : WL (upd G a (.lst (wds (r.set k o)))) U Lw as us (ls.set p (r.set k o)) := by
  obtain ⟨n1, n2⟩ := List.nodup_cons.mp h.nd
  obtain ⟨n3, n4⟩ := List.nodup_cons.mp n2
  have ma := List.mem_of_getElem? ha
  refine ⟨keepM (fun z => n1 (by rw [z]; exact List.mem_cons_of_mem _ ma)) h.eU, keepM (fun z => n3 (by rw [z]; exact ma)) h.eL, by rw [List.length_set]; exact h.len, fun i b r' hb hr' => ?_, h.nd⟩
  by_cases e : p = i
  · subst e
    rw [ha] at hb
    cases hb
    rw [List.getElem?_set_self (List.getElem?_eq_some_iff.mp hr).1] at hr'
    cases hr'
    exact upd_same
  · rw [List.getElem?_set_ne e] at hr'
    refine keepM (fun z => ?_) (h.row i b r' hb hr')
    subst z
    obtain ⟨i1, e1⟩ := List.getElem?_eq_some_iff.mp ha
    obtain ⟨i2, e2⟩ := List.getElem?_eq_some_iff.mp hb
    exact e ((List.getElem_inj n4).mp (e1.trans e2.symm))
/-- all but some lists stays -/
def ButL (p : Addr) (ms : List Addr) (H H' : Hp) : Prop := ∀ a o, a ≠ p → a ∉ ms → H a = some o → H' a = some o
theorem ButL.refl {p : Addr} {ms : List Addr} {H : Hp} : ButL p ms H H := fun _ _ _ _ e => e
theorem ButL.trans {p : Addr} {ms : List Addr} {H H1 H2 : Hp} (a : ButL p ms H H1) (b : ButL p ms H1 H2) : ButL p ms H H2 := fun x o h1 h2 e => b x o h1 h2 (a x o h1 h2 e)
theorem ButL.of {p : Addr} {ms : List Addr} {H H' : Hp} (b : But p H H') : ButL p ms H H' := fun a o h1 _ e => b a o h1 e
theorem ButL.mut {p q : Addr} {ms : List Addr} {H H' : Hp} {o : HO} (b : ButL p ms H H') (hq : q ∈ ms) : ButL p ms H (upd H' q o) := fun a u h1 h2 e => keepM (fun z => h2 (z ▸ hq)) (b a u h1 h2 e)
section
variable {P : Program} {w : World} {K : PySem.W.Frag} {mg : Str → Option Value} {base : Heap} {Z : Ad}
/-- the pool, which owns none of these lists -/
def spDam : Sp := fun vs H Q _ => ∃ (p U Lw n many : Nat) (as : List Addr) (us : List (Option Nat)) (ls : List (List (Option Bool))), vs = [.ref p, .int n, .ref U, .ref Lw, .int many] ∧ PoolAt H p (fun a => a ∈ U :: Lw :: as) ∧ WL H U Lw as us ls ∧ WdOk n us ls ∧ many ≤ 1000 ∧
  ∀ (us' : List (Option Nat)) (ls' : List (List (Option Bool))) H', WdOk n us' ls' → WL H' U Lw as us' ls' → PoolAt H' p (fun a => a ∈ U :: Lw :: as) → ButL p (U :: as) H H' → (many = 0 → us' = us ∧ ls' = ls) → Q .non H'
theorem ok_dam {f : Addr} {fd : FuncData} (F : Fun K "_law_damaged" "_law_damaged" s__law_damaged f fd) (B : Bl Z mg) {f__law_pick : Addr} {fd__law_pick : FuncData} (C__law_pick : Cal K mg "_law_pick" f__law_pick fd__law_pick ["_law_tape_here", "_law_many"]) (G__law_pick : FnOk P w K mg base CX0 1 f__law_pick fd__law_pick ["_law_tape_here", "_law_many"] spDraw) : FnOk P w K mg base CX0 2 f fd ["_law_tape_here", "_law_blocks", "_law_ups", "_law_lists", "_law_many"] spDam := by
  refine F.ok sc__law_damaged (fun vs H Q E h => ?_) (fun cdv A outer s H vs Q E hr h => ?_)
  · obtain ⟨p, U, Lw, n, many, as, us, ls, rfl, _⟩ := h
    rfl
  · obtain ⟨p, U, Lw, n, many, as, us0, ls0, rfl, hp, W, ok, mm, q⟩ := h
    have n1 := ok.n1
    have n40 := ok.n2
    refine ⟨_, (pss_one (ps_for PassesOwn.never rfl (pi_range1 rfl B.b_range (pa_cons (pv 4) pa_nil)) (pg_name (i := 5) sc__law_damaged.nd rfl (Or.inl rfl)) (pss_cons (ps_par (i := 6) (j := 7) (by rfl) sc__law_damaged.nd rfl rfl (by decide) rfl rfl (pa_cons (pe_op op_add pe_int (pe_call G__law_pick (hr.mono (by first | decide | omega)) (by rfl) C__law_pick.g C__law_pick.k C__law_pick.b .nil pass0 (pa_cons (pv 0) (pa_cons (pv 1) pa_nil)))) (pa_cons (pe_call G__law_pick (hr.mono (by first | decide | omega)) (by rfl) C__law_pick.g C__law_pick.k C__law_pick.b .nil pass0 (pa_cons (pv 0) (pa_cons (pe_op op_add (pv 1) pe_int) pa_nil))) pa_nil)) (by rfl))
 (pss_cons (ps_set (i := 8) sc__law_damaged.nd rfl (Or.inl rfl) (pe_cmpR op_eq (pe_call G__law_pick (hr.mono (by first | decide | omega)) (by rfl) C__law_pick.g C__law_pick.k C__law_pick.b .nil pass0 (pa_cons (pv 0) (pa_cons pe_int pa_nil))) pe_int (nomark _)))
 (pss_one (ps_if (PW.pt (pw_and (pt_cmpR op_eq (pe_call G__law_pick (hr.mono (by first | decide | omega)) (by rfl) C__law_pick.g C__law_pick.k C__law_pick.b .nil pass0 (pa_cons (pv 0) (pa_cons pe_int pa_nil))) pe_int (nomark _)) (pw_and1 (pt_cmpR op_ne (pv 7) (pv 6) (nomark _))))) (pss_one (ps_asg (pe_ifExp (pt_val (pv 8)) pe_non (pv 7)) (pg_sub (pv 2) (pe_op op_sub (pv 6) pe_int) set_list))) (pss_one (ps_if (pt_cmpR op_ne (pv 7) (pv 6) (nomark _)) (pss_one (ps_asg (pe_ifExp (pt_val (pv 8)) pe_non (pe_notTK (K := K) rfl (pe_ix (ix_listK (K := K) rfl) (pe_ix (ix_listK (K := K) rfl) (pv 3) (pv 7) (fun _ _ => rfl)) (pe_op op_sub (pv 6) pe_int) (fun _ _ => rfl)))) (pg_sub (pe_ix (ix_listK (K := K) rfl) (pv 3) (pv 7) (fun _ _ => rfl)) (pe_op op_sub (pv 6) pe_int) set_list))) pss_nil)))))))), ?_⟩
    walk_at "h0"
    refine ⟨many, rfl, by omega, by omega, ?_⟩
    refine lp_range (lo := 0) (n := Int.toNat many) (fun i σ' G => (∃ x5 x6 x7 x8, σ' = [some (.ref p), some (.int n), some (.ref U), some (.ref Lw), some (.int many), x5, x6, x7, x8]) ∧ ∃ us' ls', WdOk n us' ls' ∧ WL G U Lw as us' ls' ∧ PoolAt G p (fun a => a ∈ U :: Lw :: as) ∧ ButL p (U :: as) H G ∧ (i = 0 → us' = us0 ∧ ls' = ls0))
      ⟨⟨_, _, _, _, rfl⟩, us0, ls0, ok, W, hp, ButL.refl, fun _ => ⟨rfl, rfl⟩⟩ ?_ ?_
    · clear W hp ok
      rintro i σ' G hi ⟨⟨x5, x6, x7, x8, rfl⟩, us, ls, ok, W, hp, bl, _⟩
      have np : p ∉ U :: Lw :: as := fun h => hp.neF h rfl
      walk_at "hs"
      refine ⟨p, n, _, rfl, hp, by omega, by omega, fun d1 G1 d10 d11 b1 p1 => ?_⟩
      have W1 := W.but b1 np
      walk_at "hs"
      refine ⟨p, (n : Int) + 1, _, rfl, p1, by omega, by omega, fun d2 G2 d20 d21 b2 p2 => ?_⟩
      have W2 := W1.but b2 np
      walk_at "hs"
      refine ⟨p, 4, _, rfl, p2, by decide, by decide, fun d3 G3 d30 d31 b3 p3 => ?_⟩
      have W3 := W2.but b3 np
      walk_at "hs"
      refine ⟨p, 3, _, rfl, p3, by decide, by decide, fun d4 G4 d40 d41 b4 p4 => ?_⟩
      have W4 := W3.but b4 np
      have bl4 := bl.trans (ButL.of (((b1.trans b2).trans b3).trans b4))
      clear W W1 W2 W3 b1 b2 b3 b4 p1 p2 p3 bl hp
      obtain ⟨k, rfl⟩ := Int.eq_ofNat_of_zero_le d10
      obtain ⟨pl, rfl⟩ := Int.eq_ofNat_of_zero_le d20
      have done : ∀ {us' ls' G'}, WdOk n us' ls' → WL G' U Lw as us' ls' → PoolAt G' p (fun a => a ∈ U :: Lw :: as) → ButL p (U :: as) H G' → ∃ us' ls', WdOk n us' ls' ∧ WL G' U Lw as us' ls' ∧ PoolAt G' p (fun a => a ∈ U :: Lw :: as) ∧ ButL p (U :: as) H G' ∧ (i + 1 = 0 → us' = us0 ∧ ls' = ls0) := fun {us' ls' G'} a b c d => ⟨us', ls', a, b, c, d, fun z => by omega⟩
      have eU := W4.eU
      have eL := W4.eL
      have hpl : pl < ls.length := by rw [ok.ll]; omega
      have hrl : ls[pl].length = n := ok.rl _ (List.getElem_mem hpl)
      have hpa : pl < as.length := by rw [W4.len]; exact hpl
      have ea := W4.row pl as[pl] ls[pl] (List.getElem?_eq_getElem hpa) (List.getElem?_eq_getElem hpl)
      have at1 : atI (refs as) (pl : Int) = some (.ref as[pl]) := atI_nat (refs_get (List.getElem?_eq_getElem hpa))
      have at2 : atI (wds ls[pl]) (k : Int) = some (wdV (ls[pl][k]'(by omega))) := atI_nat (wds_get (List.getElem?_eq_getElem (by omega)))
      walk_at "hs"
      generalize decide (d3 = 0) = lost
      have z : (1 : Int) + k - 1 = (k : Int) := by omega
      refine x_isd (fun e4 => ?_) (fun e4 => ?_)
      · walk_at "hs"
        refine x_isd (fun e => ?_) (fun e => ?_)
        · cases lost with
          | false =>
            walk_at "hs"
            rw [z]
            refine x_setL (j := k) eU (ixN_nat (by rw [upvs_length, ok.ul]; omega)) ?_
            refine ⟨⟨_, _, _, _, rfl⟩, done (us' := us.set k (some pl)) (ls' := ls) (wdok_setU ok fun q h => by cases h; omega) ?_ ?_ ?_⟩
            · exact (upvs_set us k (some pl)) ▸ W4.setU (k := k) (o := some pl)
            · exact p4.mut List.mem_cons_self
            · exact bl4.mut List.mem_cons_self
          | true =>
            walk_at "hs"
            rw [z]
            refine x_setL (j := k) eU (ixN_nat (by rw [upvs_length, ok.ul]; omega)) ?_
            refine ⟨⟨_, _, _, _, rfl⟩, done (us' := us.set k none) (ls' := ls) (wdok_setU ok fun q h => by cases h) ?_ ?_ ?_⟩
            · exact (upvs_set us k none) ▸ W4.setU (k := k) (o := none)
            · exact p4.mut List.mem_cons_self
            · exact bl4.mut List.mem_cons_self
        · walk_at "hs"
          refine x_isd (fun e2 => (e2 (Decidable.not_not.mp e)).elim) (fun _ => ?_)
          walk_at "hs"
          exact ⟨⟨_, _, _, _, rfl⟩, done ok W4 p4 bl4⟩
      · walk_at "hs"
        refine x_isd (fun e => ?_) (fun e => ?_)
        · have ma : as[pl] ∈ as := List.getElem_mem hpa
          have fin : ∀ (o : Option Bool), ∃ us' ls', WdOk n us' ls' ∧ WL (upd G4 as[pl] (.lst ((wds ls[pl]).set k (wdV o)))) U Lw as us' ls' ∧ PoolAt (upd G4 as[pl] (.lst ((wds ls[pl]).set k (wdV o)))) p (fun a => a ∈ U :: Lw :: as) ∧ ButL p (U :: as) H (upd G4 as[pl] (.lst ((wds ls[pl]).set k (wdV o)))) ∧ (i + 1 = 0 → us' = us0 ∧ ls' = ls0) := fun o => by
            rw [wds_set]
            exact done (us' := us) (ls' := ls.set pl (ls[pl].set k o)) (wdok_setL ok (List.getElem?_eq_getElem hpl) (by omega)) (W4.setR (List.getElem?_eq_getElem hpa) (List.getElem?_eq_getElem hpl)) (p4.mut (List.mem_cons_of_mem _ (List.mem_cons_of_mem _ ma))) (bl4.mut (List.mem_cons_of_mem _ ma))
          cases lost with
          | false =>
            walk_at "hs"
            unfold tNotT
            walk_at "hs"
            rw [z]
            refine x_ixL (.of ea) at2 ?_
            refine ⟨_, truO_ok _, ?_⟩
            walk_at "hs"
            rw [z]
            refine x_setL (j := k) ea (ixN_nat (by rw [wds_length, hrl]; omega)) ?_
            exact ⟨⟨_, _, _, _, rfl⟩, fin (some (!truO (ls[pl][k]'(by omega))))⟩
          | true =>
            walk_at "hs"
            rw [z]
            refine x_setL (j := k) ea (ixN_nat (by rw [wds_length, hrl]; omega)) ?_
            exact ⟨⟨_, _, _, _, rfl⟩, fin none⟩
        · walk_at "hs"
          exact ⟨⟨_, _, _, _, rfl⟩, done ok W4 p4 bl4⟩
    · rintro σ' G ⟨⟨x5, x6, x7, x8, rfl⟩, us', ls', ok', W', hp', bl, e⟩
      walk_at "hs"
      exact q us' ls' G ok' W' hp' bl fun z => e (by rw [z]; rfl)
end
set_option maxRecDepth 100000
set_option maxHeartbeats 2000000
open PySem PySem.Spec L2


local macro_rules | `(tactic| walk_at "h1") => `(tactic| first
  | with_reducible refine x_dget ?_
  | with_reducible refine x_dc ?_
  | with_reducible refine x_keysF ?_
  | with_reducible refine x_keysFT ?_
  | with_reducible refine x_listZip ?_
  | with_reducible refine x_enls ?_)

local macro_rules | `(tactic| walk_at "h1") => `(tactic| first
  | with_reducible refine x_meth ?_
  | with_reducible refine x_tru ?_
  | with_reducible refine x_augS ?_)

theorem sc__law_words : FnScope ["_law_blocks", "_law_ups", "_law_lists", "_law_row"] ["_law_blocks", "_law_ups", "_law_lists"] (defScope s__law_words) := ⟨rfl, rfl, rfl, by decide +kernel, rfl, by decide +kernel, by decide +kernel⟩
theorem make_wordsK {Z : Ad} {H : Hp} {Q : VK} {E : XK} {tu tl : Addr} {n : Nat} {us : List (Option Nat)} {ls : List (List (Option Bool))} {as : List Addr} (hu : H tu = some (.tup (upvs us))) (hl : H tl = some (.tup (refs as))) (hr : Rows H as ls) (ok : WdOk n us ls) (q : ∀ m H', H m = none → Same H H' → WordsAt Z H' m n us ls → Q (.ref m) H') :
    ∀ x dx, H x = none → H dx = none → dx ≠ x → spWords Z (.ref x :: ([.int n, .ref tu, .ref tl] ++ [])) (upd (upd H dx (.own x)) x (.ins Z.a_Words dx [])) (fun v H2 => v = .non ∧ Q (.ref x) H2) E := by
  intro m dm hm hdm ne
  have hm2 : upd H dm (.own m) m = none := by
    rw [upd_ne (Ne.symm ne)]
    exact hm
  have s0 : Same H (upd (upd H dm (.own m)) m (.ins Z.a_Words dm [])) := same_new (same_new (Same.refl H) hdm) hm2
  refine ⟨m, dm, tu, tl, n, us, ls, as, rfl, upd_same, s0 _ _ hu, s0 _ _ hl, hr.same s0, ok, fun H' b1 hw => ⟨rfl, ?_⟩⟩
  have s1 : Same H H' := fun b o e => b1 _ _ (ne_of_none e hm) (s0 _ _ e)
  exact q m H' hm s1 hw
section
variable {P : Program} {w : World} {K : PySem.W.Frag} {mg : Str → Option Value} {base : Heap} {Z : Ad}
def spLWords (Z : Ad) : Sp := fun vs H Q _ => ∃ (U Lw : Addr) (n : Nat) (as : List Addr) (us : List (Option Nat)) (ls : List (List (Option Bool))), vs = [.int n, .ref U, .ref Lw] ∧ WL H U Lw as us ls ∧ WdOk n us ls ∧ ∀ m H', H m = none → Same H H' → WordsAt Z H' m n us ls → Q (.ref m) H'
theorem ok_lwords {f : Addr} {fd : FuncData} (F : Fun K "_law_words" "_law_words" s__law_words f fd) (B : Bl Z mg) {f_Words___init__ : Addr} {fd_Words___init__ : FuncData} (C_Words___init__ : CalM K f_Words___init__ fd_Words___init__ ["self", "blocks", "ups", "lists"]) (G_Words___init__ : FnOk P w K mg base CX0 3 f_Words___init__ fd_Words___init__ ["self", "blocks", "ups", "lists"] (spWords Z)) (M_Words : Mk K Z.a_Words f_Words___init__) : FnOk P w K mg base CX0 5 f fd ["_law_blocks", "_law_ups", "_law_lists"] (spLWords Z) := by
  refine F.ok sc__law_words (fun vs H Q E h => ?_) (fun cdv A outer s H vs Q E hr h => ?_)
  · obtain ⟨U, Lw, n, as, us, ls, rfl, _⟩ := h
    rfl
  · obtain ⟨U, Lw, n, as, us, ls, rfl, W, ok, q⟩ := h
    have n1 := ok.n1
    have n40 := ok.n2
    have eU := W.eU
    have eL := W.eL
    refine ⟨_, (pss_one (ps_ret (pe_make M_Words G_Words___init__ hr (by rfl) B.k_Words C_Words___init__.b .nil pass0 (pa_cons (pv 0) (pa_cons (pe_callTy (call_tplK (K := K) rfl) (by rfl) B.b_tuple (by decide +kernel) (pa_cons (pv 1) pa_nil)) (pa_cons (pe_callTy (call_tplK (K := K) rfl) (by rfl) B.b_tuple (by decide +kernel) (pa_cons (pe_lc (own := [("_law_row", 3)]) rfl sc__law_words.nd (pi_list (pv 2)) (blkOk_by (N := ["_law_blocks", "_law_ups", "_law_lists", "_law_row"]) (sc := defScope s__law_words) (by decide +kernel)) (fun _ _ _ _ _ => (pg_name (i := 3) sc__law_words.nd rfl (Or.inl rfl))) (fun _ _ _ _ _ => pts_nil) (fun _ _ _ _ _ => (pe_callTy (call_tplK (K := K) rfl) (by rfl) B.b_tuple (by decide +kernel) (pa_cons (pv 3) pa_nil)))) pa_nil)) pa_nil)))))), ?_⟩
    walk_at "h0"
    refine x_make ?_
    walk_at "hs"
    intro tu ntu
    have s1 : Same H (upd H tu (.tup (upvs us))) := same_new (Same.refl _) ntu
    have etu : upd H tu (.tup (upvs us)) tu = some (.tup (upvs us)) := upd_same
    have W1 := W.same s1
    generalize upd H tu (.tup (upvs us)) = H1 at s1 etu W1 ⊢
    have tL : SqL K H1 Lw (refs as) := .of W1.eL
    walk_at "hs"
    refine ⟨Lw, rfl, ⟨_, tL⟩, fun D nD => ?_⟩
    refine lc_list (K := K) (a := Lw) (xs := refs as) (fun i G => Same H1 G ∧ ∃ ts : List Addr, ts.length = i ∧ G D = some (.lst (refs ts)) ∧ ∀ (j : Nat) a r, ts[j]? = some a → ls[j]? = some r → G a = some (.tup (wds r))) ⟨same_new (Same.refl _) nD, [], rfl, upd_same, fun j a r h => by cases h⟩ (fun i G1 _ h => h.1.seq tL) ?_ ?_
    · rintro i v G hv ⟨s2, ts, lt, eD, rows⟩
      obtain ⟨a, ha, rfl⟩ : ∃ a, as[i]? = some a ∧ v = .ref a := by
        unfold refs at hv
        rw [List.getElem?_map] at hv
        cases e : as[i]? with
        | none => rw [e] at hv; cases hv
        | some a => rw [e] at hv; exact ⟨a, rfl, (Option.some.inj hv).symm⟩
      have hia := (List.getElem?_eq_some_iff.mp ha).1
      have hi : i < ls.length := by rw [← W1.len]; exact hia
      have ea : G a = some (.lst (wds ls[i])) := s2 _ _ (W1.row i a ls[i] ha (List.getElem?_eq_getElem hi))
      have lim := ok.ll
      walk_at "hs"
      refine ⟨rfl, ?_⟩
      walk_at "hs"
      intro T nT
      have nTD : T ≠ D := Ne.symm (ne_of_none eD nT)
      refine ⟨refs ts, keepN eD nT, szLt (by rw [refs_length]; omega), same_mut (same_new s2 nT) nD, ts ++ [T], by rw [List.length_append, lt]; rfl, by rw [upd_same, refs_app]; rfl, fun j a r hj hr => ?_⟩
      rcases Nat.lt_or_ge j ts.length with c | c
      · rw [List.getElem?_append_left c] at hj
        have e := rows j a r hj hr
        exact keepM (fun z => by rw [z, eD] at e; cases e) (keepN e nT)
      · rw [List.getElem?_append_right c] at hj
        have j0 : j - ts.length = 0 := by
          have := (List.getElem?_eq_some_iff.mp hj).1
          rw [List.length_singleton] at this
          omega
        rw [j0] at hj
        obtain rfl : T = a := Option.some.inj hj
        obtain rfl : j = i := by omega
        rw [List.getElem?_eq_getElem hi] at hr
        cases hr
        exact keepM nTD upd_same
    · rintro G ⟨s2, ts, lt, eD, rows⟩
      rw [refs_length] at lt
      walk_at "hs"
      intro tl ntl
      walk_at "hs"
      have s3 : Same H (upd G tl (.tup (refs ts))) := same_new (s1.trans s2) ntl
      refine make_wordsK (keepN (s2 _ _ etu) ntl) upd_same ⟨by rw [lt, W.len], fun i a r ha hr => keepN (rows i a r ha hr) ntl⟩ ok fun m H3 nm s4 hw => q m H3 (s3.free nm) (s3.trans s4) hw
end
set_option maxRecDepth 100000
set_option maxHeartbeats 2000000
open PySem PySem.Spec L2


local macro_rules | `(tactic| walk_at "h1") => `(tactic| first
  | with_reducible refine x_dget ?_
  | with_reducible refine x_dc ?_
  | with_reducible refine x_keysF ?_
  | with_reducible refine x_keysFT ?_
  | with_reducible refine x_listZip ?_
  | with_reducible refine x_enls ?_)

local macro_rules | `(tactic| walk_at "h1") => `(tactic| first
  | with_reducible refine x_meth ?_
  | with_reducible refine x_tru ?_
  | with_reducible refine x_augS ?_)

theorem sc__law_costs : FnScope ["_law_blocks", "_law_ups", "_law_lists", "_law_block", "_law_listed", "_law_found", "_law_place", "_law_wrong", "_law_other"] ["_law_blocks", "_law_ups", "_law_lists", "_law_block"] (defScope s__law_costs) := ⟨rfl, rfl, rfl, by decide +kernel, rfl, by decide +kernel, by decide +kernel⟩
/-- the places below i that list it -/
def lstd (c : List (Option Bool)) (i : Nat) : List Nat := (List.range i).filter fun p => decide (c[p]? = some (some true))
theorem lstd_succ (c : List (Option Bool)) (i : Nat) : lstd c (i + 1) = lstd c i ++ if c[i]? = some (some true) then [i] else [] := by
  unfold lstd
  rw [List.range_succ, List.filter_append]
  congr 1
  by_cases h : c[i]? = some (some true)
  · simp [h]
  · simp [h]
theorem lstd_len (c : List (Option Bool)) : ∀ i, i ≤ c.length → (lstd c i).length = trueN (c.take i)
  | 0, _ => rfl
  | i + 1, h => by
    have ih := lstd_len c i (by omega)
    have hi : i < c.length := by omega
    rw [lstd_succ, List.length_append, ih, List.take_succ, List.getElem?_eq_getElem hi]
    unfold trueN
    rw [Option.toList_some, List.count_append]
    congr 1
    by_cases e : c[i] = some true
    · rw [if_pos (by rw [e]), e]
      rfl
    · rw [if_neg (fun z => e (Option.some.inj z))]
      rw [List.count_singleton, if_neg (by simpa using e)]
      rfl
theorem lstd_le (c : List (Option Bool)) (i : Nat) : (lstd c i).length ≤ i := by
  have := List.length_filter_le (fun p => decide (c[p]? = some (some true))) (List.range i)
  rwa [List.length_range] at this
theorem lstd_nd (c : List (Option Bool)) (i : Nat) : (lstd c i).Nodup := List.nodup_range.filter _
theorem mem_lstd {c : List (Option Bool)} {i p : Nat} : p ∈ lstd c i ↔ p < i ∧ c[p]? = some (some true) := by
  unfold lstd
  rw [List.mem_filter, List.mem_range, decide_eq_true_iff]
/-- those but one -/
theorem but_len {l : List Nat} (nd : l.Nodup) (p : Nat) : (l.filter fun o => decide (o ≠ p)).length + (if p ∈ l then 1 else 0) = l.length := by
  induction l with
  | nil => rfl
  | cons a l ih =>
    obtain ⟨n1, n2⟩ := List.nodup_cons.mp nd
    have ih := ih n2
    by_cases c : a = p
    · subst c
      rw [if_neg n1] at ih
      rw [List.filter_cons_of_neg (by simp), if_pos List.mem_cons_self, List.length_cons]
      omega
    · rw [List.filter_cons_of_pos (by simpa using c), List.length_cons, List.length_cons]
      by_cases m : p ∈ l
      · rw [if_pos m] at ih
        rw [if_pos (List.mem_cons_of_mem _ m)]
        omega
      · rw [if_neg m] at ih
        rw [if_neg fun h => m ((List.mem_cons.mp h).resolve_left (Ne.symm c))]
        omega
theorem law_cost {us : List (Option Nat)} {ls : List (List (Option Bool))} {b p : Nat} (hp : p < ls.length) :
    up1 us b p + (if (col ls b)[p]? = some (some false) then 1 else 0) + ((lstd (col ls b) ls.length).filter fun o => decide (o ≠ p)).length = costN us ls b p := by
  have h := cost_is (us := us) (b := b) hp
  have e := but_len (lstd_nd (col ls b) ls.length) p
  have l := lstd_len (col ls b) ls.length (by rw [col_len]; exact Nat.le_refl _)
  rw [List.take_of_length_le (by rw [col_len]; exact Nat.le_refl _)] at l
  have m : (if p ∈ lstd (col ls b) ls.length then 1 else 0) = (if (col ls b)[p]? = some (some true) then 1 else 0 : Nat) := by
    by_cases c : (col ls b)[p]? = some (some true)
    · rw [if_pos (mem_lstd.mpr ⟨hp, c⟩), if_pos c]
    · rw [if_neg (fun z => c (mem_lstd.mp z).2), if_neg c]
  omega
theorem x_intK {c : Bool} {m : Nat} {H : Hp} {Q : VK} (h : (if c = true then 1 else 0 : Nat) = m) (q : Q (.int (m : Nat)) H) : rInt [.bl c] H Q := .inr ⟨c, rfl, by
  subst h
  cases c <;> exact q⟩
section
variable {P : Program} {w : World} {K : PySem.W.Frag} {mg : Str → Option Value} {base : Heap} {Z : Ad}
def spLCosts : Sp := fun vs H Q _ => ∃ (U Lw : Addr) (n b : Nat) (as : List Addr) (us : List (Option Nat)) (ls : List (List (Option Bool))), vs = [.int n, .ref U, .ref Lw, .int ((b + 1 : Nat) : Int)] ∧ WL H U Lw as us ls ∧ WdOk n us ls ∧ b < n ∧ ∀ m H', H m = none → Same H H' → H' m = some (.lst (costsV us ls (b + 1) (n + 1))) → Q (.ref m) H'
theorem ok_lcosts {f : Addr} {fd : FuncData} (F : Fun K "_law_costs" "_law_costs" s__law_costs f fd) (B : Bl Z mg) : FnOk P w K mg base CX0 1 f fd ["_law_blocks", "_law_ups", "_law_lists", "_law_block"] spLCosts := by
  refine F.ok sc__law_costs (fun vs H Q E h => ?_) (fun cdv A outer s H vs Q E hr h => ?_)
  · obtain ⟨U, Lw, n, b, as, us, ls, rfl, _⟩ := h
    rfl
  · obtain ⟨U, Lw, n, b, as, us, ls, rfl, W, ok, hb, q⟩ := h
    have n1 := ok.n1
    have n40 := ok.n2
    have ll := ok.ll
    refine ⟨_, (pss_cons (ps_setLc (i := 4) (own := [("_law_place", 6)]) rfl sc__law_costs.nd rfl rfl (sw_true rfl rfl rfl (by decide +kernel)) (pi_range1 rfl B.b_range (pa_cons (pe_op op_add (pv 0) pe_int) pa_nil)) (blkOk_by (N := ["_law_blocks", "_law_ups", "_law_lists", "_law_block", "_law_listed", "_law_found", "_law_place", "_law_wrong", "_law_other"]) (sc := defScope s__law_costs) (by decide +kernel)) (fun _ _ _ _ _ => (pg_name (i := 6) sc__law_costs.nd rfl (Or.inl rfl))) (fun _ _ _ _ _ => (pts_one (pt_cmpR op_isBk (pe_ix (ix_listK (K := K) rfl) (pe_ix (ix_listK (K := K) rfl) (pv 2) (pv 6) (fun _ _ => rfl)) (pe_op op_sub (pv 3) pe_int) (fun _ _ => rfl)) pe_bl (nomark _)))) (fun _ _ _ _ _ => (pv 6)))
 (pss_cons (ps_set (i := 5) sc__law_costs.nd rfl (Or.inl rfl) (pe_lst pa_nil))
 (pss_cons (ps_for PassesOwn.never rfl (pi_range1 rfl B.b_range (pa_cons (pe_op op_add (pv 0) pe_int) pa_nil)) (pg_name (i := 6) sc__law_costs.nd rfl (Or.inr rfl)) (pss_cons (ps_set (i := 7) sc__law_costs.nd rfl (Or.inl rfl) (pe_op op_add (pe_callTy call_int (by rfl) B.b_int (by decide +kernel) (pa_cons (pe_and (pe_cmpR op_notNk (pe_ix (ix_listK (K := K) rfl) (pv 1) (pe_op op_sub (pv 3) pe_int) (fun _ _ => rfl)) pe_non (nomark _)) (pe_one (pe_cmpR op_ne (pe_ix (ix_listK (K := K) rfl) (pv 1) (pe_op op_sub (pv 3) pe_int) (fun _ _ => rfl)) (pv 6) (nomark _)))) pa_nil)) (pe_callTy call_int (by rfl) B.b_int (by decide +kernel) (pa_cons (pe_cmpR op_isBk (pe_ix (ix_listK (K := K) rfl) (pe_ix (ix_listK (K := K) rfl) (pv 2) (pv 6) (fun _ _ => rfl)) (pe_op op_sub (pv 3) pe_int) (fun _ _ => rfl)) pe_bl (nomark _)) pa_nil))))
 (pss_one (ps_expr (pe_bmK (K := K) rfl PySem.F.plainAttrs_list PySem.F.slot_list_append PySem.F.type_list_append mt_append (pv 5) (pa_cons (pe_ifExp (pt_cmpR op_ne (pv 6) (pv 3) (nomark _)) (pe_op op_add (pv 7) (pe_callB (call_lenK (K := K) rfl) (by rfl) B.b_len PySem.boot_len (pa_cons (pe_lc (own := [("_law_other", 8)]) rfl sc__law_costs.nd (pi_list (pv 4)) (blkOk_by (N := ["_law_blocks", "_law_ups", "_law_lists", "_law_block", "_law_listed", "_law_found", "_law_place", "_law_wrong", "_law_other"]) (sc := defScope s__law_costs) (by decide +kernel)) (fun _ _ _ _ _ => (pg_name (i := 8) sc__law_costs.nd rfl (Or.inl rfl))) (fun _ _ _ _ _ => (pts_one (pt_cmpR op_ne (pv 8) (pv 6) (nomark _)))) (fun _ _ _ _ _ => (pv 8))) pa_nil))) pe_non) pa_nil))))))
 (pss_one (ps_ret (pv 5)))))), ?_⟩
    walk_at "h0"
    refine ⟨(n : Int) + 1, rfl, by omega, by omega, fun D nD => ?_⟩
    rw [show ((n : Int) + 1).toNat = n + 1 by omega]
    have cl : (col ls (b + 1)).length = n + 1 := by rw [col_len, ll]
    have zb : ((b + 1 : Nat) : Int) - 1 = (b : Int) := by omega
    have cell : ∀ i, i < n + 1 → ∃ (a : Addr) (r : List (Option Bool)) (o : Option Bool), as[i]? = some a ∧ ls[i]? = some r ∧ r[b]? = some o ∧ (col ls (b + 1))[i]? = some o := fun i hi => by
      have h1 : i < ls.length := by omega
      have h2 : i < as.length := by rw [W.len]; exact h1
      have h3 : b < ls[i].length := by rw [ok.rl _ (List.getElem_mem h1)]; exact hb
      refine ⟨as[i], ls[i], ls[i][b], List.getElem?_eq_getElem h2, List.getElem?_eq_getElem h1, List.getElem?_eq_getElem h3, ?_⟩
      unfold col
      rw [List.getElem?_map, List.getElem?_eq_getElem h1, Option.map_some, Nat.add_sub_cancel, List.getElem?_eq_getElem h3]
      rfl
    refine lc_range (lo := 0) (n := n + 1) (fun i G => Same H G ∧ G D = some (.lst (nats (lstd (col ls (b + 1)) i)))) ⟨same_new (Same.refl _) nD, upd_same⟩ ?_ ?_
    · rintro i G hi ⟨s1, eD⟩
      obtain ⟨a, r, o, ha, hr', ho, hc⟩ := cell i hi
      have eL := s1 _ _ W.eL
      have ea := s1 _ _ (W.row i a r ha hr')
      have at1 : atI (refs as) (0 + (i : Int)) = some (.ref a) := by
        rw [Int.zero_add]
        exact atI_nat (refs_get ha)
      have at2 : atI (wds r) (((b + 1 : Nat) : Int) - 1) = some (wdV o) := by
        rw [zb]
        exact atI_nat (wds_get ho)
      walk_at "hs"
      refine ⟨rfl, ?_⟩
      walk_at "hs"
      have ll1 := lstd_le (col ls (b + 1)) i
      refine x_isd (fun e => ?_) (fun e => ?_)
      · walk_at "hs"
        refine ⟨_, eD, szLt (by rw [nats_length]; omega), same_mut s1 nD, ?_⟩
        rw [upd_same, lstd_succ, if_pos (by rw [hc, e]), nats_append, Int.zero_add]
        rfl
      · refine ⟨s1, ?_⟩
        rw [lstd_succ, if_neg (fun z => e (Option.some.inj (hc.symm.trans z))), List.append_nil]
        exact eD
    · rintro G ⟨s1, eD⟩
      have eD1 : G D = some (.lst (nats (lstd (col ls (b + 1)) ls.length))) := by rw [ll]; exact eD
      clear eD
      walk_at "hs"
      intro R nR
      have s2 : Same H (upd G R (.lst [])) := same_new s1 nR
      have eD2 := keepN (o' := .lst []) eD1 nR
      have nRH := s1.free nR
      have DR : D ≠ R := ne_of_none eD1 nR
      have eR : upd G R (.lst []) R = some (.lst []) := upd_same
      generalize upd G R (.lst []) = G1 at s2 eD2 eR ⊢
      walk_at "hs"
      refine ⟨(n : Int) + 1, rfl, by omega, by omega, ?_⟩
      rw [show ((n : Int) + 1).toNat = n + 1 by omega]
      refine lp_range (lo := 0) (n := n + 1) (fun i σ' G => (∃ x6 x7 x8, σ' = [some (.int n), some (.ref U), some (.ref Lw), some (.int ((b + 1 : Nat) : Int)), some (.ref D), some (.ref R), x6, x7, x8]) ∧ Same H G ∧ G D = some (.lst (nats (lstd (col ls (b + 1)) ls.length))) ∧ G R = some (.lst (costsV us ls (b + 1) i)))
        ⟨⟨_, _, _, rfl⟩, s2, eD2, eR⟩ ?_ ?_
      · clear s1 s2 eD1 eD2 eR nR
        rintro i σ' G hi ⟨⟨x6, x7, x8, rfl⟩, s1, eD, eR⟩
        obtain ⟨a, r, o, ha, hr', ho, hc⟩ := cell i hi
        have hbu : b < us.length := by rw [ok.ul]; exact hb
        have eU := s1 _ _ W.eU
        have eL := s1 _ _ W.eL
        have ea := s1 _ _ (W.row i a r ha hr')
        have at1 : atI (refs as) (0 + (i : Int)) = some (.ref a) := by
          rw [Int.zero_add]
          exact atI_nat (refs_get ha)
        have at2 : atI (wds r) (((b + 1 : Nat) : Int) - 1) = some (wdV o) := by
          rw [zb]
          exact atI_nat (wds_get ho)
        have at3 : atI (upvs us) (((b + 1 : Nat) : Int) - 1) = some (upV us[b]) := by
          rw [zb]
          exact atI_nat (upvs_get (List.getElem?_eq_getElem hbu))
        walk_at "hs"
        cases eu : us[b] with
        | none =>
          have u1 : up1 us (b + 1) i = 0 := by
            unfold up1
            rw [Nat.add_sub_cancel, List.getElem?_eq_getElem hbu, eu]
          show rNotNk V.non V.non G _
          walk_at "hs"
          refine x_intK (m := up1 us (b + 1) i) (by rw [u1]; rfl) ?_
          walk_at "hs"
          refine x_intK (m := if o = some false then 1 else 0) (by by_cases c : o = some false <;> simp [c]) ?_
          walk_at "hs"
          refine x_isd (fun e => ?_) (fun e => ?_)
          · walk_at "hs"
            refine ⟨D, rfl, ⟨_, .of eD⟩, fun D2 nD2 => ?_⟩
            refine lc_list (K := K) (a := D) (xs := nats (lstd (col ls (b + 1)) ls.length)) (fun j G2 => Same G G2 ∧ G2 D2 = some (.lst (nats (((lstd (col ls (b + 1)) ls.length).take j).filter fun o => decide (o ≠ i))))) ⟨same_new (Same.refl _) nD2, upd_same⟩ (fun j G2 _ h => .of (h.1 _ _ eD)) ?_ ?_
            · rintro j v G2 hv ⟨s2, eD2⟩
              have hj : j < (lstd (col ls (b + 1)) ls.length).length := by
                have := (List.getElem?_eq_some_iff.mp hv).1
                rwa [nats_length] at this
              obtain rfl : v = .int ((lstd (col ls (b + 1)) ls.length)[j] : Nat) := Option.some.inj (hv.symm.trans (nats_get (List.getElem?_eq_getElem hj)))
              have tk := List.take_succ (l := lstd (col ls (b + 1)) ls.length) (i := j)
              rw [List.getElem?_eq_getElem hj, Option.toList_some] at tk
              have lim := lstd_le (col ls (b + 1)) ls.length
              rw [tk, List.filter_append]
              generalize (lstd (col ls (b + 1)) ls.length)[j] = oth at *
              walk_at "hs"
              refine ⟨rfl, ?_⟩
              walk_at "hs"
              have lf := List.length_filter_le (fun o => decide (o ≠ i)) ((lstd (col ls (b + 1)) ls.length).take j)
              rw [List.length_take] at lf
              refine x_isd (fun c => ?_) (fun c => ?_)
              · walk_at "hs"
                refine ⟨_, eD2, szLt (by rw [nats_length]; omega), same_mut s2 nD2, ?_⟩
                rw [upd_same, List.filter_cons_of_pos (by exact decide_eq_true (by omega)), nats_append]
                rfl
              · refine ⟨s2, ?_⟩
                rw [List.filter_cons_of_neg (by rw [decide_eq_true_iff]; omega), List.filter_nil, List.append_nil]
                exact eD2
            · rintro G2 ⟨s2, eD2⟩
              rw [nats_length, List.take_length] at eD2
              have eR2 := s2 _ _ eR
              walk_at "hs"
              refine x_append eR2 (szLt (by rw [costsV_len]; omega)) ⟨⟨_, _, _, rfl⟩, same_mut (s1.trans s2) nRH, keepM DR (s2 _ _ eD), ?_⟩
              have lc := law_cost (us := us) (b := b + 1) (show i < ls.length by omega)
              rw [show (if (col ls (b + 1))[i]? = some (some false) then 1 else 0 : Nat) = (if o = some false then 1 else 0) from by rw [hc]; by_cases c : o = some false <;> simp [c]] at lc
              rw [upd_same, costsV_snoc, if_neg (show ¬ i = b + 1 by omega), ← lc, nats_length]
              rfl
          · walk_at "hs"
            refine x_append eR (szLt (by rw [costsV_len]; omega)) ⟨⟨_, _, _, rfl⟩, same_mut s1 nRH, keepM DR eD, ?_⟩
            rw [upd_same, costsV_snoc, if_pos (show i = b + 1 by omega)]
        | some q =>
          have u1 : up1 us (b + 1) i = if q = i then 0 else 1 := by
            unfold up1
            rw [Nat.add_sub_cancel, List.getElem?_eq_getElem hbu, eu]
          rw [eu] at at3
          change atI (upvs us) (((b + 1 : Nat) : Int) - 1) = some (V.int q) at at3
          show rNotNk (V.int q) V.non G _
          walk_at "hs"
          refine x_intK (m := up1 us (b + 1) i) (by
            rw [u1]
            by_cases c : q = i
            · subst c; simp
            · have : ¬ ((q : Int) = i) := by omega
              simp [c, this]) ?_
          walk_at "hs"
          refine x_intK (m := if o = some false then 1 else 0) (by by_cases c : o = some false <;> simp [c]) ?_
          walk_at "hs"
          refine x_isd (fun e => ?_) (fun e => ?_)
          · walk_at "hs"
            refine ⟨D, rfl, ⟨_, .of eD⟩, fun D2 nD2 => ?_⟩
            refine lc_list (K := K) (a := D) (xs := nats (lstd (col ls (b + 1)) ls.length)) (fun j G2 => Same G G2 ∧ G2 D2 = some (.lst (nats (((lstd (col ls (b + 1)) ls.length).take j).filter fun o => decide (o ≠ i))))) ⟨same_new (Same.refl _) nD2, upd_same⟩ (fun j G2 _ h => .of (h.1 _ _ eD)) ?_ ?_
            · rintro j v G2 hv ⟨s2, eD2⟩
              have hj : j < (lstd (col ls (b + 1)) ls.length).length := by
                have := (List.getElem?_eq_some_iff.mp hv).1
                rwa [nats_length] at this
              obtain rfl : v = .int ((lstd (col ls (b + 1)) ls.length)[j] : Nat) := Option.some.inj (hv.symm.trans (nats_get (List.getElem?_eq_getElem hj)))
              have tk := List.take_succ (l := lstd (col ls (b + 1)) ls.length) (i := j)
              rw [List.getElem?_eq_getElem hj, Option.toList_some] at tk
              have lim := lstd_le (col ls (b + 1)) ls.length
              rw [tk, List.filter_append]
              generalize (lstd (col ls (b + 1)) ls.length)[j] = oth at *
              walk_at "hs"
              refine ⟨rfl, ?_⟩
              walk_at "hs"
              have lf := List.length_filter_le (fun o => decide (o ≠ i)) ((lstd (col ls (b + 1)) ls.length).take j)
              rw [List.length_take] at lf
              refine x_isd (fun c => ?_) (fun c => ?_)
              · walk_at "hs"
                refine ⟨_, eD2, szLt (by rw [nats_length]; omega), same_mut s2 nD2, ?_⟩
                rw [upd_same, List.filter_cons_of_pos (by exact decide_eq_true (by omega)), nats_append]
                rfl
              · refine ⟨s2, ?_⟩
                rw [List.filter_cons_of_neg (by rw [decide_eq_true_iff]; omega), List.filter_nil, List.append_nil]
                exact eD2
            · rintro G2 ⟨s2, eD2⟩
              rw [nats_length, List.take_length] at eD2
              have eR2 := s2 _ _ eR
              walk_at "hs"
              refine x_append eR2 (szLt (by rw [costsV_len]; omega)) ⟨⟨_, _, _, rfl⟩, same_mut (s1.trans s2) nRH, keepM DR (s2 _ _ eD), ?_⟩
              have lc := law_cost (us := us) (b := b + 1) (show i < ls.length by omega)
              rw [show (if (col ls (b + 1))[i]? = some (some false) then 1 else 0 : Nat) = (if o = some false then 1 else 0) from by rw [hc]; by_cases c : o = some false <;> simp [c]] at lc
              rw [upd_same, costsV_snoc, if_neg (show ¬ i = b + 1 by omega), ← lc, nats_length]
              rfl
          · walk_at "hs"
            refine x_append eR (szLt (by rw [costsV_len]; omega)) ⟨⟨_, _, _, rfl⟩, same_mut s1 nRH, keepM DR eD, ?_⟩
            rw [upd_same, costsV_snoc, if_pos (show i = b + 1 by omega)]
      · rintro σ' G ⟨⟨x6, x7, x8, rfl⟩, s1, eD, eR⟩
        walk_at "hs"
        exact q R G nRH s1 eR
end
set_option maxRecDepth 100000
open PySem PySem.Spec L2
theorem cr_anyK {X : Cx} {K : PySem.W.Frag} (e : X.K = K) (hc : X.calm = true) : CallR X (.builtin "any") (rAny K) := by
  subst e
  exact cr_any hc
/-- rows of costs, as lists -/
structure CsAt (H : Hp) (C : Addr) (cs : List Addr) (n : Nat) (us : List (Option Nat)) (ls : List (List (Option Bool))) : Prop where
  e : H C = some (.lst (refs cs))
  len : cs.length = n
  row : ∀ (i : Nat) r, cs[i]? = some r → H r = some (.lst (costsV us ls (i + 1) (n + 1)))
theorem CsAt.same {H G : Hp} {C : Addr} {cs : List Addr} {n : Nat} {us : List (Option Nat)} {ls : List (List (Option Bool))} (s : Same H G) (h : CsAt H C cs n us ls) : CsAt G C cs n us ls := ⟨s _ _ h.e, h.len, fun i r hr => s _ _ (h.row i r hr)⟩
set_option maxRecDepth 100000
set_option maxHeartbeats 1000000
open PySem PySem.Spec L2


local macro_rules | `(tactic| walk_at "h1") => `(tactic| first
  | with_reducible refine x_dget ?_
  | with_reducible refine x_dc ?_
  | with_reducible refine x_keysF ?_
  | with_reducible refine x_keysFT ?_
  | with_reducible refine x_listZip ?_
  | with_reducible refine x_enls ?_)

local macro_rules | `(tactic| walk_at "h1") => `(tactic| first
  | with_reducible refine x_meth ?_
  | with_reducible refine x_tru ?_
  | with_reducible refine x_augS ?_)

theorem sc__law_is_nest : FnScope ["_law_costs_here", "_law_thing", "_law_pair", "_law_block", "_law_place", "_law_held", "_law_at", "_law_lot", "_law_number"] ["_law_costs_here", "_law_thing"] (defScope s__law_is_nest) := ⟨rfl, rfl, rfl, by decide +kernel, rfl, by decide +kernel, by decide +kernel⟩
theorem num_ge {n : Int} {w : V} : numV 1 n w = (geV 1 w && match w with | .int i => decide (i ≤ n) | _ => false) := by
  cases w <;> rfl
theorem pos_ge (y : V) : posV y = geV 1 y := by
  cases y <;> rfl
section
variable {P : Program} {w : World} {K : PySem.W.Frag} {mg : Str → Option Value} {base : Heap} {Z : Ad}
def spLNest (Z : Ad) : Sp := fun vs H Q _ => ∃ (C n : Nat) (us : List (Option Nat)) (ls : List (List (Option Bool))) (cs : List Addr) (x : V), vs = [.ref C, x] ∧ CsAt H C cs n us ls ∧ n ≤ 40 ∧ KvB Z H 3 x ∧ (NestOk H n us ls x → ∀ H', Same H H' → Q (.bl true) H') ∧ (¬ NestOk H n us ls x → ∀ H', Same H H' → Q (.bl false) H')
theorem ok_lnest {f : Addr} {fd : FuncData} (F : Fun K "_law_is_nest" "_law_is_nest" s__law_is_nest f fd) (B : Bl Z mg) (I : InsK K Z) {f__law_is_int : Addr} {fd__law_is_int : FuncData} (C__law_is_int : Cal K mg "_law_is_int" f__law_is_int fd__law_is_int ["_law_thing", "_law_least"]) (G__law_is_int : FnOk P w K mg base CX0 1 f__law_is_int fd__law_is_int ["_law_thing", "_law_least"] (spIntK Z)) : FnOk P w K mg base CX0 2 f fd ["_law_costs_here", "_law_thing"] (spLNest Z) := by
  refine F.ok sc__law_is_nest (fun vs H Q E h => ?_) (fun cdv A outer s H vs Q E hr h => ?_)
  · obtain ⟨C, n, us, ls, cs, x, rfl, _⟩ := h
    rfl
  · obtain ⟨C, n, us, ls, cs, x, rfl, hc, n40, hk, nt, nf⟩ := h
    have cl := hc.len
    refine ⟨_, (pss_cons (ps_if (pt_not (pt_val (pe_callB (call_isiK' (K := K) rfl) (by rfl) B.b_isinstance (by decide +kernel) (pa_cons (pv 1) (pa_cons (pe_bltn (v := .ty "tuple") (by rfl) B.b_tuple (by decide +kernel) rfl) pa_nil))))) (pss_one (ps_ret pe_bl)) pss_nil)
 (pss_cons (ps_for PassesOwn.never rfl (pi_tup (pv 1)) (pg_name (i := 2) sc__law_is_nest.nd rfl (Or.inr rfl)) (pss_cons (ps_if (PW.pt (pw_or (pt_not (pt_val (pe_callB (call_isiK' (K := K) rfl) (by rfl) B.b_isinstance (by decide +kernel) (pa_cons (pv 2) (pa_cons (pe_bltn (v := .ty "tuple") (by rfl) B.b_tuple (by decide +kernel) rfl) pa_nil))))) (pw_or (pt_cmpR op_ne (pe_callB (call_lenK (K := K) rfl) (by rfl) B.b_len PySem.boot_len (pa_cons (pv 2) pa_nil)) pe_int (nomark _)) (pw_or (pt_not (pt_val (pe_callB (call_isiK' (K := K) rfl) (by rfl) B.b_isinstance (by decide +kernel) (pa_cons (pe_ix (ix_tupK (K := K) rfl) (pv 2) pe_int (fun _ _ => rfl)) (pa_cons (pe_bltn (v := .ty "tuple") (by rfl) B.b_tuple (by decide +kernel) rfl) pa_nil))))) (pw_or1 (pt_cmpR op_eq (pe_callB (call_lenK (K := K) rfl) (by rfl) B.b_len PySem.boot_len (pa_cons (pe_ix (ix_tupK (K := K) rfl) (pv 2) pe_int (fun _ _ => rfl)) pa_nil)) pe_int (nomark _))))))) (pss_one (ps_ret pe_bl)) pss_nil)
 (pss_cons (ps_if (PW.pt (pw_or (pt_not (pt_val (pe_callB (cr_allK (K := K) rfl rfl) (by rfl) B.b_all (by decide +kernel) (pa_cons (pe_lc (own := [("_law_block", 3)]) rfl sc__law_is_nest.nd (pi_tup (pe_ix (ix_tupK (K := K) rfl) (pv 2) pe_int (fun _ _ => rfl))) (blkOk_by (N := ["_law_costs_here", "_law_thing", "_law_pair", "_law_block", "_law_place", "_law_held", "_law_at", "_law_lot", "_law_number"]) (sc := defScope s__law_is_nest) (by decide +kernel)) (fun _ _ _ _ _ => (pg_name (i := 3) sc__law_is_nest.nd rfl (Or.inl rfl))) (fun _ _ _ _ _ => pts_nil) (fun _ _ _ _ _ => (pe_and (pe_call G__law_is_int (hr.mono (by first | decide | omega)) (by rfl) C__law_is_int.g C__law_is_int.k C__law_is_int.b .nil pass0 (pa_cons (pv 3) (pa_cons pe_int pa_nil))) (pe_one (pe_cmpR op_le (pv 3) (pe_callB (call_lenK (K := K) rfl) (by rfl) B.b_len PySem.boot_len (pa_cons (pv 0) pa_nil)) (nomark _)))))) pa_nil)))) (pw_or1 (pt_not (pt_val (pe_call G__law_is_int (hr.mono (by first | decide | omega)) (by rfl) C__law_is_int.g C__law_is_int.k C__law_is_int.b .nil pass0 (pa_cons (pe_ix (ix_tupK (K := K) rfl) (pv 2) pe_int (fun _ _ => rfl)) (pa_cons pe_int pa_nil)))))))) (pss_one (ps_ret pe_bl)) pss_nil)
 (pss_one (ps_if (pt_val (pe_callB (cr_anyK (K := K) rfl rfl) (by rfl) B.b_any (by decide +kernel) (pa_cons (pe_lc (own := [("_law_at", 6)]) rfl sc__law_is_nest.nd (pi_range2 rfl B.b_range (pa_cons pe_int (pa_cons (pe_callB (call_lenK (K := K) rfl) (by rfl) B.b_len PySem.boot_len (pa_cons (pe_ix (ix_tupK (K := K) rfl) (pv 2) pe_int (fun _ _ => rfl)) pa_nil)) pa_nil))) (blkOk_by (N := ["_law_costs_here", "_law_thing", "_law_pair", "_law_block", "_law_place", "_law_held", "_law_at", "_law_lot", "_law_number"]) (sc := defScope s__law_is_nest) (by decide +kernel)) (fun _ _ _ _ _ => (pg_name (i := 6) sc__law_is_nest.nd rfl (Or.inl rfl))) (fun _ _ _ _ _ => pts_nil) (fun _ _ _ _ _ => (pe_cmpR op_ge (pe_ix (ix_tupK (K := K) rfl) (pe_ix (ix_tupK (K := K) rfl) (pv 2) pe_int (fun _ _ => rfl)) (pe_op op_sub (pv 6) pe_int) (fun _ _ => rfl)) (pe_ix (ix_tupK (K := K) rfl) (pe_ix (ix_tupK (K := K) rfl) (pv 2) pe_int (fun _ _ => rfl)) (pv 6) (fun _ _ => rfl)) (nomark _)))) pa_nil))) (pss_one (ps_ret pe_bl)) pss_nil)))))
 (pss_cons (ps_for PassesOwn.never rfl (pi_range2 rfl B.b_range (pa_cons pe_int (pa_cons (pe_op op_add (pe_callB (call_lenK (K := K) rfl) (by rfl) B.b_len PySem.boot_len (pa_cons (pv 0) pa_nil)) pe_int) pa_nil))) (pg_name (i := 3) sc__law_is_nest.nd rfl (Or.inr rfl)) (pss_one (ps_for PassesOwn.never rfl (pi_range1 rfl B.b_range (pa_cons (pe_op op_add (pe_callB (call_lenK (K := K) rfl) (by rfl) B.b_len PySem.boot_len (pa_cons (pv 0) pa_nil)) pe_int) pa_nil)) (pg_name (i := 4) sc__law_is_nest.nd rfl (Or.inr rfl)) (pss_one (ps_if (pt_cmpR op_ne (pv 4) (pv 3) (nomark _)) (pss_cons (ps_setLc (i := 5) (own := [("_law_lot", 7), ("_law_number", 8)]) rfl sc__law_is_nest.nd rfl rfl (sw_true rfl rfl rfl (by decide +kernel)) (pi_tup (pv 1)) (blkOk_by (N := ["_law_costs_here", "_law_thing", "_law_pair", "_law_block", "_law_place", "_law_held", "_law_at", "_law_lot", "_law_number"]) (sc := defScope s__law_is_nest) (by decide +kernel)) (fun _ _ _ _ _ => (pg_tupK (K := K) (n := 2) rfl rfl (pgs_cons (pg_name (i := 7) sc__law_is_nest.nd rfl (Or.inl rfl)) (pgs_cons (pg_name (i := 8) sc__law_is_nest.nd rfl (Or.inl rfl)) pgs_nil)))) (fun _ _ _ _ _ => (pts_one (PW.pt (pw_and (pt_cmpR (op_inK (K := K) rfl) (pv 3) (pv 7) (by rfl)) (pw_and1 (pt_cmpR (op_notInK (K := K) rfl) (pv 4) (pv 7) (by rfl))))))) (fun _ _ _ _ _ => (pv 8)))
 (pss_one (ps_if (pt_cmpR op_gt (pe_callB (cr_sumK (K := K) rfl rfl) (by rfl) B.b_sum (by decide +kernel) (pa_cons (pv 5) pa_nil)) (pe_ix (ix_listK (K := K) rfl) (pe_ix (ix_listK (K := K) rfl) (pv 0) (pe_op op_sub (pv 3) pe_int) (fun _ _ => rfl)) (pv 4) (fun _ _ => rfl)) (nomark _)) (pss_one (ps_ret pe_bl)) pss_nil))) pss_nil)))))
 (pss_one (ps_ret pe_bl))))), ?_⟩
    walk_at "h0"
    refine kv_tuple I hk.kv ?_
    cases e : tupOf H x with
    | none =>
      dsimp only [Option.isSome_none]
      walk_at "hs"
      refine nf (fun ⟨T, as, pd, z, h, _⟩ => ?_) _ (Same.refl _)
      subst z
      rw [tupOf_at h] at e
      cases e
    | some xs =>
    obtain ⟨T, rfl, hT⟩ := tupOf_ref e
    obtain ⟨xl, xk⟩ := hk.2 xs e
    have bad : ∀ v ∈ xs, ¬ PayOk H n v → ∀ H', Same H H' → Q (.bl false) H' := fun v mv p => nf (fun ⟨T', as, pd, z, h, py, lo, _⟩ => p (by
      cases z
      rw [hT] at h
      cases h
      exact pays_are py lo v mv))
    have tT : SqT K H T xs := .of hT
    dsimp only [Option.isSome_some]
    walk_at "hs"
    refine ⟨T, rfl, ⟨_, tT⟩, ?_⟩
    refine lp_tup (K := K) (xs := xs) (fun i σ' G => (∃ x2 x3 x4 x5 x6 x7 x8, σ' = [some (.ref C), some (.ref T), x2, x3, x4, x5, x6, x7, x8]) ∧ (Same H G ∧ True) ∧ ∀ x ∈ xs.take i, PayOk H n x)
      ⟨⟨_, _, _, _, _, _, _, rfl⟩, ⟨Same.refl _, trivial⟩, fun x hx => by rw [List.take_zero] at hx; cases hx⟩ (fun i σ G _ h => .of (h.2.1.1 _ _ hT)) ?_ ?_
    · rintro i v σ' G hv ⟨⟨x2, x3, x4, x5, x6, x7, x8, rfl⟩, s1, good⟩
      have mv := List.mem_of_getElem? hv
      have kv := xk v mv
      have kvG := kv.same s1.1
      have tv := tupOf_same s1.1 kv.kv
      iterate 12 (walk_at "h1"; try dsimp only [Bool.not_true, Bool.not_false])
      refine kv_tuple I kvG.kv ?_
      rw [tv]
      cases e2 : tupOf H v with
      | none =>
        dsimp only [Option.isSome_none]
        walk_at "hs"
        refine bad v mv (fun ⟨a, L, l, y, z, h, _⟩ => ?_) _ s1.1
        subst z
        rw [tupOf_at h] at e2
        cases e2
      | some ys =>
      obtain ⟨a, rfl, ha⟩ := tupOf_ref e2
      obtain ⟨yl, yk⟩ := kv.2 ys e2
      have haG := s1.1 _ _ ha
      have sa : SqT K G a ys := .of haG
      dsimp only [Option.isSome_some]
      walk_at "hs"
      by_cases c2 : ys.length = 2
      case neg =>
        refine x_isdT (by omega) ?_
        walk_at "hs"
        refine bad _ mv (fun ⟨a', L, l, y, z, h, _⟩ => c2 ?_) _ s1.1
        cases z
        rw [ha] at h
        cases h
        rfl
      obtain ⟨l, y, rfl⟩ := two_of c2
      refine x_isdF (by show ¬ ((2 : Nat) : Int) ≠ 2; omega) ?_
      have pi := pay_iff (n := n) ha
      have kl := yk l List.mem_cons_self
      have ky := yk y (List.mem_cons_of_mem _ List.mem_cons_self)
      have klG := kl.same s1.1
      have tl := tupOf_same s1.1 kl.kv
      iterate 12 (walk_at "h1"; try dsimp only [Bool.not_true, Bool.not_false])
      refine kv_tuple I klG.kv ?_
      rw [tl]
      cases e3 : tupOf H l with
      | none =>
        dsimp only [Option.isSome_none]
        walk_at "hs"
        refine bad _ mv (fun z => ?_) _ s1.1
        obtain ⟨L, k, z, h, _⟩ := (pi.mp z).1
        subst z
        rw [tupOf_at h] at e3
        cases e3
      | some zs =>
      obtain ⟨L, rfl, hL⟩ := tupOf_ref e3
      obtain ⟨zl, zk⟩ := kl.2 zs e3
      have hLG := s1.1 _ _ hL
      have sL : SqT K G L zs := .of hLG
      have hCG := s1.1 _ _ hc.e
      dsimp only [Option.isSome_some]
      walk_at "hs"
      refine x_isd (fun c3 => ?_) (fun c3 => ?_)
      · walk_at "hs"
        refine bad _ mv (fun z => (pi.mp z).2.1 L rfl ?_) _ s1.1
        rw [hL, List.length_eq_zero_iff.mp (show zs.length = 0 by omega)]
      walk_at "hs"
      refine ⟨L, rfl, ⟨_, sL⟩, fun D nD => ?_⟩
      refine lc_tup (K := K) (xs := zs) (fun j G1 => (Same G G1 ∧ True) ∧ G1 D = some (.lst (bls ((zs.take j).map (numV 1 n))))) ⟨⟨same_new (Same.refl _) nD, trivial⟩, upd_same⟩ (fun j G1 _ h => h.1.1.seqT sL) ?_ ?_
      · rintro j w G1 hw ⟨s2, eD⟩
        have kw := (zk w (List.mem_of_getElem? hw)).kv.same (s1.1.trans s2.1)
        have hCG1 := s2.1 _ _ hCG
        have fin : ∀ c : Bool, c = numV 1 n w → ∃ acc, G1 D = some (.lst acc) ∧ acc.length < sizeLine ∧ (Same G (upd G1 D (.lst (acc ++ [.bl c]))) ∧ True) ∧ upd G1 D (.lst (acc ++ [.bl c])) D = some (.lst (bls ((zs.take (j + 1)).map (numV 1 n)))) := fun c hc => by
          refine ⟨_, eD, szLt (by rw [bls_len, List.length_map, List.length_take]; omega), ⟨same_mut s2.1 nD, trivial⟩, ?_⟩
          rw [upd_same, List.take_succ, hw, Option.toList_some, List.map_append, hc]
          unfold bls
          rw [List.map_append]
          rfl
        walk_at "hs"
        refine ⟨rfl, ?_⟩
        walk_at "hs"
        refine ⟨w, 1, rfl, kw, ?_⟩
        cases hg : geV 1 w with
        | false =>
          walk_at "hs"
          exact fin false (by rw [num_ge, hg]; rfl)
        | true =>
          cases w with
          | int z =>
            walk_at "hs"
            rw [refs_length, cl]
            exact fin _ (by rw [num_ge, hg]; rfl)
          | _ => cases hg
      rintro G1 ⟨s2, eD⟩
      rw [List.take_length] at eD
      have s12 : Same H G1 ∧ True := ⟨s1.1.trans s2.1, trivial⟩
      have haG1 := s2.1 _ _ haG
      have hLG1 := s2.1 _ _ hLG
      have hCG1 := s2.1 _ _ hCG
      clear s2
      walk_at "hs"
      refine ⟨D, _, rfl, .of eD, ?_⟩
      cases hb : ((zs.map (numV 1 n)).all id) with
      | false =>
        walk_at "hs"
        refine bad _ mv (fun z => ?_) _ s12.1
        obtain ⟨L', k, e5, h, _, r⟩ := (pi.mp z).1
        cases e5
        rw [hL] at h
        cases h
        rw [List.all_map, Bool.eq_false_iff] at hb
        refine hb (List.all_eq_true.mpr fun w hw => ?_)
        obtain ⟨b, hb2, rfl⟩ := List.mem_map.mp hw
        have := r b hb2
        exact Bool.and_eq_true_iff.mpr ⟨decide_eq_true (show (1 : Int) ≤ (b : Nat) by omega), decide_eq_true (show ((b : Nat) : Int) ≤ (n : Nat) by omega)⟩
      | true =>
      rw [List.all_map] at hb
      obtain ⟨k, rfl, rng⟩ := nats_of_num fun w hw => List.all_eq_true.mp hb w hw
      have sa1 : SqT K G1 a [.ref L, y] := .of haG1
      have kyG := ky.kv.same s12.1
      walk_at "hs"
      refine ⟨y, 1, rfl, kyG, ?_⟩
      cases hy : geV 1 y with
      | false =>
        walk_at "hs"
        exact bad _ mv (fun z => by have := (pi.mp z).2.2; rw [pos_ge, hy] at this; cases this) _ s12.1
      | true =>
      have sL1 : SqT K G1 L (nats k) := .of hLG1
      walk_at "hs"
      rw [nats_length]
      rw [nats_length] at zl c3
      refine ⟨1, (k.length : Int), rfl, ⟨by omega, by omega, by omega, by omega⟩, fun D2 nD2 => ?_⟩
      rw [show ((k.length : Int) - 1).toNat = k.length - 1 by omega]
      refine lc_range (lo := 1) (n := k.length - 1) (fun j G2 => (Same G1 G2 ∧ True) ∧ G2 D2 = some (.lst (bls ((List.range j).map fun j => !decide (k.getD j 0 < k.getD (j + 1) 0))))) ⟨⟨same_new (Same.refl _) nD2, trivial⟩, upd_same⟩ ?_ ?_
      · rintro j G2 hj ⟨s3, eD2⟩
        have h1 : j < k.length := by omega
        have h2 : j + 1 < k.length := by omega
        have a1 : atI (nats k) (1 + (j : Int) - 1) = some (.int (k[j] : Nat)) := by
          rw [show 1 + (j : Int) - 1 = (j : Int) by omega]
          exact atI_nat (nats_get (List.getElem?_eq_getElem h1))
        have a2 : atI (nats k) (1 + (j : Int)) = some (.int (k[j + 1] : Nat)) := by
          rw [show 1 + (j : Int) = ((j + 1 : Nat) : Int) by omega]
          exact atI_nat (nats_get (List.getElem?_eq_getElem h2))
        have g1 : k.getD j 0 = k[j] := by
          rw [List.getD_eq_getElem?_getD, List.getElem?_eq_getElem h1]
          rfl
        have g2 : k.getD (j + 1) 0 = k[j + 1] := by
          rw [List.getD_eq_getElem?_getD, List.getElem?_eq_getElem h2]
          rfl
        have sa2 := s3.1.seqT sa1
        have sL2 := s3.1.seqT sL1
        walk_at "hs"
        refine ⟨rfl, ?_⟩
        walk_at "hs"
        refine ⟨_, eD2, szLt (by rw [bls_len, List.length_map, List.length_range]; omega), ⟨same_mut s3.1 nD2, trivial⟩, ?_⟩
        rw [upd_same, List.range_succ, List.map_append, List.map_cons, g1, g2, show decide (((k[j + 1] : Nat) : Int) ≤ (k[j] : Nat)) = !decide (k[j] < k[j + 1]) from by rw [← decide_not]; exact decide_eq_decide.mpr (by omega)]
        unfold bls
        rw [List.map_append]
        rfl
      rintro G2 ⟨s3, eD2⟩
      have s13 : Same H G2 ∧ True := ⟨s12.1.trans s3.1, trivial⟩
      walk_at "hs"
      refine ⟨D2, _, rfl, .of eD2, ?_⟩
      cases hx : (((List.range (k.length - 1)).map fun j => !decide (k.getD j 0 < k.getD (j + 1) 0)).any id) with
      | true =>
        walk_at "hs"
        refine bad _ mv (fun z => ?_) _ s13.1
        obtain ⟨L', k', e5, h, asc, _⟩ := (pi.mp z).1
        cases e5
        rw [hL] at h
        have := nats_inj (HO.tup.inj (Option.some.inj h))
        subst this
        obtain ⟨b, hb1, hb2⟩ := List.any_eq_true.mp hx
        obtain ⟨j, hj, rfl⟩ := List.mem_map.mp hb1
        have al := asc_all (l := k)
        rw [decide_eq_true asc] at al
        have := List.all_eq_true.mp al j hj
        rw [this] at hb2
        cases hb2
      | false =>
        walk_at "hs"
        have asc : k.Pairwise (· < ·) := by
          have al := asc_all (l := k)
          refine of_decide_eq_true (al.symm.trans (List.all_eq_true.mpr fun j hj => ?_))
          have := List.any_eq_false.mp hx _ (List.mem_map.mpr ⟨j, hj, rfl⟩)
          cases c : decide (k.getD j 0 < k.getD (j + 1) 0) with
          | true => rfl
          | false => exact absurd (by rw [c]; rfl) this
        refine ⟨⟨_, _, _, _, _, _, _, rfl⟩, s13, fun x hx2 => ?_⟩
        rw [List.take_succ, hv, Option.toList_some] at hx2
        rcases List.mem_append.mp hx2 with hx2 | hx2
        · exact good x hx2
        · rw [List.mem_singleton.mp hx2]
          refine pi.mpr ⟨⟨L, k, rfl, hL, asc, fun b hb => ⟨(rng b hb).1, by have := (rng b hb).2; omega⟩⟩, fun L' e6 h => ?_, by rw [pos_ge, hy]⟩
          cases e6
          rw [hL] at h
          have := congrArg List.length (HO.tup.inj (Option.some.inj h))
          rw [nats_length] at this
          exact c3 (by rw [this]; rfl)
    · rintro σ' G ⟨⟨x2, x3, x4, x5, x6, x7, x8, rfl⟩, s1, good⟩
      rw [List.take_length] at good
      obtain ⟨as, pd, rfl, py, lots⟩ := pays_of good
      have qt : (∀ b p, 1 ≤ b → b ≤ n → p ≤ n → p ≠ b → paidS pd b p ≤ costN us ls b p) → ∀ H', Same H H' → Q (.bl true) H' := fun g => nt ⟨T, as, pd, rfl, hT, py, lots, g⟩
      have qf : (∃ b p, 1 ≤ b ∧ b ≤ n ∧ p ≤ n ∧ p ≠ b ∧ costN us ls b p < paidS pd b p) → ∀ H', Same H H' → Q (.bl false) H' := fun ⟨b, p, h1, h2, h3, h4, h5⟩ => nf fun ⟨T', as', pd', z, h, py', lo, g⟩ => by
        cases z
        rw [hT] at h
        have ea := refs_inj (HO.tup.inj (Option.some.inj h))
        subst ea
        have ep := py.det py'
        subst ep
        have := g b p h1 h2 h3 h4
        omega
      have lp : pd.length ≤ 5000 := by
        rw [refs_length] at xl
        rw [← py.1]
        exact xl
      have hs1 := s1.1
      have hcG := hc.same hs1
      have hCG := hcG.e
      clear nt nf bad s1 good
      walk_at "hs"
      rw [refs_length, cl]
      refine ⟨1, (n : Int) + 1, rfl, ⟨by omega, by omega, by omega, by omega⟩, ?_⟩
      refine lp_range (lo := 1) (n := Int.toNat ((n : Int) + 1 - 1)) (fun i σ' G' => (∃ x2 x3 x4 x5 x6 x7 x8, σ' = [some (.ref C), some (.ref T), x2, x3, x4, x5, x6, x7, x8]) ∧ Same G G' ∧ ∀ b p, 1 ≤ b → b ≤ i → p ≤ n → p ≠ b → paidS pd b p ≤ costN us ls b p)
        ⟨⟨_, _, _, _, _, _, _, rfl⟩, Same.refl _, fun b p h1 h2 => by omega⟩ ?_ ?_
      · rintro i σ' G1 hi ⟨⟨x2, x3, x4, x5, x6, x7, x8, rfl⟩, s2, gd⟩
        have hin : i < n := by omega
        have hCG1 := s2 _ _ hCG
        rw [show (1 : Int) + (i : Int) = ((i + 1 : Nat) : Int) by omega]
        walk_at "hs"
        rw [refs_length, cl]
        refine ⟨(n : Int) + 1, rfl, by omega, by omega, ?_⟩
        refine lp_range (lo := 0) (n := Int.toNat ((n : Int) + 1)) (fun j σ' G' => (∃ x2 x4 x5 x6 x7 x8, σ' = [some (.ref C), some (.ref T), x2, some (.int ((i + 1 : Nat) : Int)), x4, x5, x6, x7, x8]) ∧ Same G G' ∧ ∀ p, p < j → p ≠ i + 1 → paidS pd (i + 1) p ≤ costN us ls (i + 1) p)
          ⟨⟨_, _, _, _, _, _, rfl⟩, s2, fun p h => by omega⟩ ?_ ?_
        · clear s2 hCG1
          rintro j σ' G2 hj ⟨⟨x2, x4, x5, x6, x7, x8, rfl⟩, s3, gd2⟩
          have hCG2 := s3 _ _ hCG
          have hT2 := s3 _ _ (hs1 _ _ hT)
          have tT2 : SqT K G2 T (refs as) := .of hT2
          obtain ⟨r, hr'⟩ : ∃ r, cs[i]? = some r := ⟨_, List.getElem?_eq_getElem (by omega)⟩
          rw [show (0 : Int) + (j : Int) = (j : Int) by omega]
          walk_at "hs"
          refine x_isd (fun cj => ?_) (fun cj => ?_)
          · walk_at "hs"
            refine ⟨T, rfl, ⟨_, tT2⟩, fun D nD => ?_⟩
            refine lc_tup (K := K) (xs := refs as) (fun q G3 => Same G2 G3 ∧ ∃ hs : List Nat, G3 D = some (.lst (nats hs)) ∧ hs.length ≤ q ∧ hs.sum = paidS (pd.take q) (i + 1) j) ⟨same_new (Same.refl _) nD, [], upd_same, Nat.le_refl _, rfl⟩ (fun q G3 _ h => h.1.seqT tT2) ?_ ?_
            · rintro q v G3 hv ⟨s4, hs, eD, hl, hsum⟩
              obtain ⟨a, ha, rfl⟩ : ∃ a, as[q]? = some a ∧ v = .ref a := by
                unfold refs at hv
                rw [List.getElem?_map] at hv
                cases e : as[q]? with
                | none => rw [e] at hv; cases hv
                | some a => rw [e] at hv; exact ⟨a, rfl, (Option.some.inj hv).symm⟩
              obtain ⟨⟨l, y⟩, hti⟩ : ∃ t, pd[q]? = some t := ⟨_, List.getElem?_eq_getElem (by
                have := (List.getElem?_eq_some_iff.mp ha).1
                have := py.1
                omega)⟩
              obtain ⟨L, ea, eL⟩ := py.2 q a _ ha hti
              have hq := (List.getElem?_eq_some_iff.mp hti).1
              have sH3 := (hs1.trans s3).trans s4
              have tA : SqT K G3 a [.ref L, .int (y : Nat)] := .of (sH3 _ _ ea)
              have tL : SqT K G3 L (nats l) := .of (sH3 _ _ eL)
              have ps : paidS (pd.take (q + 1)) (i + 1) j = paidS (pd.take q) (i + 1) j + paid1 (l, y) (i + 1) j := by
                rw [List.take_succ, hti, Option.toList_some, paidS_snoc]
              clear sH3
              walk_at "hs"
              refine ⟨rfl, ?_⟩
              walk_at "hs"
              have skip : ¬ (i + 1 ∈ l ∧ j ∉ l) → Same G2 G3 ∧ ∃ hs : List Nat, G3 D = some (.lst (nats hs)) ∧ hs.length ≤ q + 1 ∧ hs.sum = paidS (pd.take (q + 1)) (i + 1) j := fun c => ⟨s4, hs, eD, by omega, by
                rw [ps, hsum]
                unfold paid1
                rw [if_neg c]
                rfl⟩
              refine x_inNT tL ?_
              walk_at "hs"
              refine x_isd (fun c1 => ?_) (fun c1 => ?_)
              · walk_at "hs"
                refine x_ninNT tL ?_
                walk_at "hs"
                refine x_isnd (fun c2 => ?_) (fun c2 => ?_)
                · walk_at "hs"
                  refine ⟨_, eD, szLt (by rw [nats_length]; omega), same_mut s4 nD, hs ++ [y], by rw [upd_same, nats_append]; rfl, by rw [List.length_append]; show hs.length + 1 ≤ _; omega, ?_⟩
                  rw [ps, List.sum_append, hsum]
                  unfold paid1
                  rw [if_pos ⟨c1, c2⟩]
                  show _ + (y + 0) = _ + y
                  rfl
                · walk_at "hs"
                  exact skip fun z => z.2 c2
              · walk_at "hs"
                exact skip fun z => c1 z.1
            rintro G3 ⟨s4, hs, eD, hl, hsum⟩
            rw [refs_length, py.1, List.take_length] at hsum
            walk_at "hs"
            refine ⟨D, hs.map fun (k : Nat) => (k : Int), rfl, by rw [nats_ints]; exact .of eD, ?_⟩
            rw [cast_sum, hsum]
            have er := s4 _ _ (s3 _ _ (hcG.row i r hr'))
            have hCG3 := s4 _ _ hCG2
            have at1 : atI (refs cs) (((i + 1 : Nat) : Int) - 1) = some (.ref r) := by
              rw [show ((i + 1 : Nat) : Int) - 1 = (i : Int) by omega]
              exact atI_nat (refs_get hr')
            have at2 : atI (costsV us ls (i + 1) (n + 1)) (j : Int) = some (.int (costN us ls (i + 1) j : Nat)) := by
              rw [atI_nat (costsV_get us ls (i + 1) (by omega)), if_neg (by omega)]
            walk_at "hs"
            refine x_isd (fun cc => ?_) (fun cc => ?_)
            · walk_at "hs"
              exact qf ⟨i + 1, j, by omega, by omega, by omega, by omega, by omega⟩ _ ((hs1.trans s3).trans s4)
            · walk_at "hs"
              refine ⟨⟨_, _, _, _, _, _, rfl⟩, s3.trans s4, fun p h1 h2 => ?_⟩
              by_cases c : p = j
              · subst c
                omega
              · exact gd2 p (by omega) h2
          · walk_at "hs"
            refine ⟨⟨_, _, _, _, _, _, rfl⟩, s3, fun p h1 h2 => gd2 p (by omega) h2⟩
        · rintro σ' G2 ⟨⟨x2, x4, x5, x6, x7, x8, rfl⟩, s3, gd2⟩
          refine ⟨⟨_, _, _, _, _, _, _, rfl⟩, s3, fun b p h1 h2 h3 h4 => ?_⟩
          by_cases c : b = i + 1
          · subst c
            exact gd2 p (by omega) h4
          · exact gd b p h1 (by omega) h3 h4
      · rintro σ' G1 ⟨⟨x2, x3, x4, x5, x6, x7, x8, rfl⟩, s2, gd⟩
        walk_at "hs"
        exact qt (fun b p h1 h2 h3 h4 => gd b p h1 (by omega) h3 h4) _ (hs1.trans s2)
end
set_option maxRecDepth 100000
set_option maxHeartbeats 2000000
open PySem PySem.Spec L2


local macro_rules | `(tactic| walk_at "h1") => `(tactic| first
  | with_reducible refine x_dget ?_
  | with_reducible refine x_dc ?_
  | with_reducible refine x_keysF ?_
  | with_reducible refine x_keysFT ?_
  | with_reducible refine x_listZip ?_
  | with_reducible refine x_enls ?_)

local macro_rules | `(tactic| walk_at "h1") => `(tactic| first
  | with_reducible refine x_meth ?_
  | with_reducible refine x_tru ?_
  | with_reducible refine x_augS ?_)

theorem sc__law_deep : FnScope ["_law_tape_here", "_law_found", "_law_turn"] ["_law_tape_here"] (defScope s__law_deep) := ⟨rfl, rfl, rfl, by decide +kernel, rfl, by decide +kernel, by decide +kernel⟩
/-- all stands but what lists hold -/
def LsB (H H' : Hp) : Prop := ∀ a o, H a = some o → H' a = some o ∨ ∃ xs ys, o = .lst xs ∧ H' a = some (.lst ys)
theorem LsB.of_same {H H' : Hp} (s : Same H H') : LsB H H' := fun a o e => .inl (s _ _ e)
theorem LsB.of_but {H H' : Hp} {p : Addr} {F F' : Addr → Prop} (b : But p H H') (h : PoolAt H p F) (h' : PoolAt H' p F') : LsB H H' := fun a o e => by
  by_cases z : a = p
  · subst z
    obtain ⟨xs, e1⟩ := h.lst
    obtain ⟨ys, e2⟩ := h'.lst
    rw [e1] at e
    exact .inr ⟨xs, ys, (Option.some.inj e).symm, e2⟩
  · exact .inl (b _ _ z e)
theorem tupOf_lsb {Z : Ad} {H H' : Hp} {v : V} (s : LsB H H') (k : Kv Z H v) : tupOf H' v = tupOf H v := by
  cases v with
  | ref a =>
    obtain ⟨o, e⟩ := k.some
    show (match H' a with | some (.tup xs) => some xs | _ => none) = (match H a with | some (.tup xs) => some xs | _ => none)
    rcases s _ _ e with e2 | ⟨xs, ys, rfl, e2⟩
    · rw [e, e2]
    · rw [e, e2]
  | _ => rfl
theorem kv_lsb {Z : Ad} {H H' : Hp} {v : V} (s : LsB H H') (k : Kv Z H v) : Kv Z H' v := by
  cases v with
  | ref a =>
    have go : ∀ o, H a = some o → (∀ xs, o ≠ .lst xs) → H' a = some o := fun o e n => by
      rcases s _ _ e with e2 | ⟨xs, ys, e1, _⟩
      · exact e2
      · exact (n _ e1).elim
    rcases k with ⟨x, e⟩ | ⟨x, e⟩ | ⟨x, e⟩ | ⟨x, y, e⟩
    · rcases s _ _ e with e2 | ⟨xs, ys, _, e2⟩
      · exact .inl ⟨x, e2⟩
      · exact .inl ⟨ys, e2⟩
    · exact .inr (.inl ⟨x, go _ e fun _ z => by cases z⟩)
    · exact .inr (.inr (.inl ⟨x, go _ e fun _ z => by cases z⟩))
    · exact .inr (.inr (.inr ⟨x, y, go _ e fun _ z => by cases z⟩))
  | _ => exact k
def tupO : HO → Option (List V)
  | .tup xs => some xs
  | _ => none
theorem tupOf_o {H : Hp} {a : Addr} {o : HO} (h : H a = some o) : tupOf H (.ref a) = tupO o := by
  show (match H a with | some (.tup xs) => some xs | _ => none) = _
  rw [h]
  cases o <;> rfl
/-- of known kinds to this depth, no tuple longer than m -/
def KvM (Z : Ad) (H : Hp) (m : Nat) : Nat → V → Prop
  | 0, v => Kv Z H v
  | n + 1, v => Kv Z H v ∧ ∀ xs, tupOf H v = some xs → xs.length ≤ m ∧ ∀ x ∈ xs, KvM Z H m n x
/-- to every depth -/
def KvA (Z : Ad) (H : Hp) (m : Nat) (v : V) : Prop := ∀ n, KvM Z H m n v
theorem KvA.kv {Z : Ad} {H : Hp} {m : Nat} {v : V} (h : KvA Z H m v) : Kv Z H v := h 0
theorem KvA.tup {Z : Ad} {H : Hp} {m : Nat} {v : V} {xs : List V} (h : KvA Z H m v) (e : tupOf H v = some xs) : xs.length ≤ m ∧ ∀ x ∈ xs, KvA Z H m x :=
  ⟨((h 1).2 xs e).1, fun x hx n => ((h (n + 1)).2 xs e).2 x hx⟩
theorem KvM.le {Z : Ad} {H : Hp} {m m' : Nat} (l : m ≤ m') : ∀ {n : Nat} {v : V}, KvM Z H m n v → KvM Z H m' n v
  | 0, _, h => h
  | n + 1, _, h => ⟨h.1, fun xs e => ⟨Nat.le_trans (h.2 xs e).1 l, fun x hx => ((h.2 xs e).2 x hx).le l⟩⟩
theorem KvA.le {Z : Ad} {H : Hp} {m m' : Nat} {v : V} (h : KvA Z H m v) (l : m ≤ m') : KvA Z H m' v := fun n => (h n).le l
theorem KvM.kvB {Z : Ad} {H : Hp} {m : Nat} (l : m ≤ 5000) : ∀ {n : Nat} {v : V}, KvM Z H m n v → KvB Z H n v
  | 0, _, h => h
  | n + 1, _, h => ⟨h.1, fun xs e => ⟨Nat.le_trans (h.2 xs e).1 l, fun x hx => ((h.2 xs e).2 x hx).kvB l⟩⟩
theorem kvm_lsb {Z : Ad} {H H' : Hp} {m : Nat} (s : LsB H H') : ∀ {n : Nat} {v : V}, KvM Z H m n v → KvM Z H' m n v
  | 0, _, h => kv_lsb s h
  | n + 1, v, h => ⟨kv_lsb s h.1, fun xs e => by
    rw [tupOf_lsb s h.1] at e
    exact ⟨(h.2 xs e).1, fun x hx => kvm_lsb s ((h.2 xs e).2 x hx)⟩⟩
theorem KvA.lsb {Z : Ad} {H H' : Hp} {m : Nat} {v : V} (h : KvA Z H m v) (s : LsB H H') : KvA Z H' m v := fun n => kvm_lsb s (h n)
theorem KvA.same {Z : Ad} {H H' : Hp} {m : Nat} {v : V} (h : KvA Z H m v) (s : Same H H') : KvA Z H' m v := h.lsb (.of_same s)
theorem kva_of {Z : Ad} {H : Hp} {m : Nat} {v : V} (k : Kv Z H v) (t : ∀ xs, tupOf H v = some xs → xs.length ≤ m ∧ ∀ x ∈ xs, KvA Z H m x) : KvA Z H m v
  | 0 => k
  | n + 1 => ⟨k, fun xs e => ⟨(t xs e).1, fun x hx => (t xs e).2 x hx n⟩⟩
theorem kva_tup {Z : Ad} {H : Hp} {m : Nat} {a : Addr} {xs : List V} (h : H a = some (.tup xs)) (l : xs.length ≤ m) (k : ∀ x ∈ xs, KvA Z H m x) : KvA Z H m (.ref a) :=
  kva_of (.inr (.inl ⟨_, h⟩)) fun ys e => by
    rw [tupOf_o h] at e
    cases e
    exact ⟨l, k⟩
theorem kva_lst {Z : Ad} {H : Hp} {m : Nat} {a : Addr} {xs : List V} (h : H a = some (.lst xs)) : KvA Z H m (.ref a) :=
  kva_of (.inl ⟨_, h⟩) fun ys e => by
    rw [tupOf_o h] at e
    cases e
theorem kva_dK {Z : Ad} {H : Hp} {m : Nat} {a : Addr} {kvs : List (Key × V)} (h : H a = some (.dK kvs)) : KvA Z H m (.ref a) :=
  kva_of (.inr (.inr (.inl ⟨_, h⟩))) fun ys e => by
    rw [tupOf_o h] at e
    cases e
theorem kva_ins {Z : Ad} {H : Hp} {m : Nat} {a dx : Addr} {fs : List (Str × V)} (h : H a = some (.ins Z.a_Words dx fs)) : KvA Z H m (.ref a) :=
  kva_of (.inr (.inr (.inr ⟨_, _, h⟩))) fun ys e => by
    rw [tupOf_o h] at e
    cases e
theorem kva_sca {Z : Ad} {H : Hp} {m : Nat} {v : V} (h : sca v = true) : KvA Z H m v := by
  refine kva_of ?_ fun xs e => ?_
  · cases v with
    | non => exact trivial
    | bl b => exact trivial
    | int i => exact trivial
    | str s => exact trivial
    | _ => cases h
  · cases v with
    | ref a => cases h
    | _ => cases e
def NumB : V → Bool
  | .int _ => true
  | .bl _ => true
  | _ => false
/-- where it is a pair whose first is a tuple, that one holds whole numbers -/
def PairI (H : Hp) (v : V) : Prop := ∀ l y zs, tupOf H v = some [l, y] → tupOf H l = some zs → ∀ z ∈ zs, NumB z = true
def ThI (H : Hp) (v : V) : Prop := ∀ xs, tupOf H v = some xs → ∀ x ∈ xs, PairI H x
/-- a told thing -/
structure ThA (Z : Ad) (H : Hp) (m : Nat) (v : V) : Prop where
  kv : KvA Z H m v
  th : ThI H v
/-- an odd thing -/
structure OddI (Z : Ad) (H : Hp) (v : V) : Prop where
  kv : KvA Z H 3 v
  pr : PairI H v
  th : ThI H v
theorem PairI.lsb {Z : Ad} {H H' : Hp} {m : Nat} {v : V} (h : PairI H v) (k : KvA Z H m v) (s : LsB H H') : PairI H' v := fun l y zs e1 e2 => by
  rw [tupOf_lsb s k.kv] at e1
  rw [tupOf_lsb s ((k.tup e1).2 l List.mem_cons_self).kv] at e2
  exact h l y zs e1 e2
theorem ThI.lsb {Z : Ad} {H H' : Hp} {m : Nat} {v : V} (h : ThI H v) (k : KvA Z H m v) (s : LsB H H') : ThI H' v := fun xs e x hx => by
  rw [tupOf_lsb s k.kv] at e
  exact (h xs e x hx).lsb ((k.tup e).2 x hx) s
theorem ThA.lsb {Z : Ad} {H H' : Hp} {m : Nat} {v : V} (h : ThA Z H m v) (s : LsB H H') : ThA Z H' m v := ⟨h.kv.lsb s, h.th.lsb h.kv s⟩
theorem ThA.same {Z : Ad} {H H' : Hp} {m : Nat} {v : V} (h : ThA Z H m v) (s : Same H H') : ThA Z H' m v := h.lsb (.of_same s)
theorem OddI.lsb {Z : Ad} {H H' : Hp} {v : V} (h : OddI Z H v) (s : LsB H H') : OddI Z H' v := ⟨h.kv.lsb s, h.pr.lsb h.kv s, h.th.lsb h.kv s⟩
theorem OddI.same {Z : Ad} {H H' : Hp} {v : V} (h : OddI Z H v) (s : Same H H') : OddI Z H' v := h.lsb (.of_same s)
theorem OddI.tha {Z : Ad} {H : Hp} {m : Nat} {v : V} (h : OddI Z H v) (l : 3 ≤ m) : ThA Z H m v := ⟨h.kv.le l, h.th⟩
theorem pairI_none {H : Hp} {v : V} (h : tupOf H v = none) : PairI H v := fun l y zs e _ => by
  rw [h] at e
  cases e
theorem thI_none {H : Hp} {v : V} (h : tupOf H v = none) : ThI H v := fun l e => by
  rw [h] at e
  cases e
theorem pairI_len {H : Hp} {a : Addr} {xs : List V} (h : H a = some (.tup xs)) (l : xs.length ≠ 2) : PairI H (.ref a) := fun x y zs e _ => by
  rw [tupOf_o h] at e
  cases e
  exact absurd rfl l
theorem pairI_one {H : Hp} {a : Addr} {x y : V} (h : H a = some (.tup [x, y])) (l : ∀ zs, tupOf H x = some zs → ∀ z ∈ zs, NumB z = true) : PairI H (.ref a) := fun x y zs e e2 => by
  rw [tupOf_o h] at e
  cases e
  exact l zs e2
theorem thI_tup {H : Hp} {a : Addr} {xs : List V} (h : H a = some (.tup xs)) (l : ∀ x ∈ xs, PairI H x) : ThI H (.ref a) := fun ys e x hx => by
  rw [tupOf_o h] at e
  cases e
  exact l x hx
theorem odd_sca {Z : Ad} {H : Hp} {v : V} (h : sca v = true) : OddI Z H v := by
  have t : tupOf H v = none := by
    cases v with
    | ref a => cases h
    | _ => rfl
  exact ⟨kva_sca h, pairI_none t, thI_none t⟩
theorem odd_lst {Z : Ad} {H : Hp} {a : Addr} {xs : List V} (h : H a = some (.lst xs)) : OddI Z H (.ref a) := ⟨kva_lst h, pairI_none (tupOf_o h), thI_none (tupOf_o h)⟩
theorem odd_dK {Z : Ad} {H : Hp} {a : Addr} {kvs : List (Key × V)} (h : H a = some (.dK kvs)) : OddI Z H (.ref a) := ⟨kva_dK h, pairI_none (tupOf_o h), thI_none (tupOf_o h)⟩
theorem odd_ins {Z : Ad} {H : Hp} {a dx : Addr} {fs : List (Str × V)} (h : H a = some (.ins Z.a_Words dx fs)) : OddI Z H (.ref a) := ⟨kva_ins h, pairI_none (tupOf_o h), thI_none (tupOf_o h)⟩
/-- a tuple of whole numbers -/
theorem num_tup {Z : Ad} {H : Hp} {m : Nat} {a : Addr} {xs : List V} (h : H a = some (.tup xs)) (l : xs.length ≤ m) (n : xs.all NumB = true) : KvA Z H m (.ref a) ∧ ∀ zs, tupOf H (.ref a) = some zs → ∀ z ∈ zs, NumB z = true := by
  have n := List.all_eq_true.mp n
  refine ⟨kva_tup h l fun x hx => kva_sca ?_, fun zs e => ?_⟩
  · have := n x hx
    cases x with
    | int i => rfl
    | bl b => rfl
    | _ => cases this
  · rw [tupOf_o h] at e
    cases e
    exact n
/-- a tuple of a tuple of whole numbers, or of a list, and of plain things -/
theorem odd_in {Z : Ad} {H : Hp} {a : Addr} {x : V} {ys : List V} (h : H a = some (.tup (x :: ys))) (l : ys.length ≤ 2) (k : KvA Z H 3 x) (n : ∀ zs, tupOf H x = some zs → ∀ z ∈ zs, NumB z = true) (g : PairI H x) (p : ys.all sca = true) : OddI Z H (.ref a) := by
  have p := List.all_eq_true.mp p
  have o : ∀ y ∈ ys, OddI Z H y := fun y hy => odd_sca (p y hy)
  refine ⟨kva_tup h (by show ys.length + 1 ≤ 3; omega) fun y hy => ?_, fun l y zs e1 e2 => ?_, thI_tup h fun y hy => ?_⟩
  · rcases List.mem_cons.mp hy with rfl | hy
    · exact k
    · exact (o y hy).kv
  · rw [tupOf_o h] at e1
    cases e1
    exact n zs e2
  · rcases List.mem_cons.mp hy with rfl | hy
    · exact g
    · exact (o y hy).pr
theorem pairI_num {H : Hp} {v : V} (n : ∀ zs, tupOf H v = some zs → ∀ z ∈ zs, NumB z = true) : PairI H v := fun l y zs e1 e2 => by
  have := n _ e1 l List.mem_cons_self
  cases l with
  | ref a => cases this
  | _ => cases e2
/-- a tuple of numbers and plain things -/
theorem odd_num {Z : Ad} {H : Hp} {a b : Addr} {xs ys : List V} (h : H a = some (.tup (.ref b :: ys))) (hb : H b = some (.tup xs)) (l : ys.length ≤ 2) (lx : xs.length ≤ 3) (n : xs.all NumB = true) (p : ys.all sca = true) : OddI Z H (.ref a) := by
  obtain ⟨k, g⟩ := num_tup (Z := Z) hb lx n
  exact odd_in h l k g (pairI_num g) p
/-- what is one deep, or is no pair -/
structure DeepI (Z : Ad) (H : Hp) (v : V) : Prop where
  kv : KvA Z H 3 v
  one : ∀ xs, tupOf H v = some xs → xs.length = 1
  two : ∀ x, tupOf H v = some [x] → ∀ xs, tupOf H x = some xs → xs.length = 1
theorem DeepI.lsb {Z : Ad} {H H' : Hp} {v : V} (h : DeepI Z H v) (s : LsB H H') : DeepI Z H' v := ⟨h.kv.lsb s, fun xs e => by
  rw [tupOf_lsb s h.kv.kv] at e
  exact h.one xs e, fun x e xs e2 => by
  rw [tupOf_lsb s h.kv.kv] at e
  rw [tupOf_lsb s ((h.kv.tup e).2 x List.mem_cons_self).kv] at e2
  exact h.two x e xs e2⟩
theorem DeepI.odd {Z : Ad} {H : Hp} {v : V} (h : DeepI Z H v) : OddI Z H v := by
  refine ⟨h.kv, fun l y zs e _ => ?_, fun xs e x hx l y zs e1 _ => ?_⟩
  · have := h.one _ e
    cases this
  · obtain ⟨z, rfl⟩ := List.length_eq_one_iff.mp (h.one _ e)
    rw [List.mem_singleton.mp hx] at e1
    have := h.two z e _ e1
    cases this
theorem deep_sca {Z : Ad} {H : Hp} {v : V} (h : sca v = true) : DeepI Z H v := by
  have t : tupOf H v = none := by
    cases v with
    | ref a => cases h
    | _ => rfl
  exact ⟨kva_sca h, fun xs e => (by rw [t] at e; cases e), fun x e => (by rw [t] at e; cases e)⟩
theorem deep_tup {Z : Ad} {H : Hp} {a : Addr} {v : V} (h : H a = some (.tup [v])) (d : DeepI Z H v) : DeepI Z H (.ref a) :=
  ⟨kva_tup h (by show 1 ≤ 3; decide) fun x hx => by rw [List.mem_singleton.mp hx]; exact d.kv, fun xs e => by
    rw [tupOf_o h] at e
    cases e
    rfl, fun x e => by
    rw [tupOf_o h] at e
    cases e
    exact d.one⟩
theorem deep_lst {Z : Ad} {H : Hp} {a : Addr} {xs : List V} (h : H a = some (.lst xs)) : DeepI Z H (.ref a) := ⟨kva_lst h, fun xs e => (by rw [tupOf_o h] at e; cases e), fun x e => (by rw [tupOf_o h] at e; cases e)⟩
theorem deep_dK {Z : Ad} {H : Hp} {a : Addr} {xs : List (Key × V)} (h : H a = some (.dK xs)) : DeepI Z H (.ref a) := ⟨kva_dK h, fun xs e => (by rw [tupOf_o h] at e; cases e), fun x e => (by rw [tupOf_o h] at e; cases e)⟩
theorem x_dispS {H : Hp} {Q : VK} {σ : L2.St} {i : Str} {v : V} {tv : TE} (hv : ∀ (G : Hp) (R : VK), R v G → tv σ G R) (q : ∀ p, H p = none → Q (.ref p) (upd H p (.dK [(.inr i, v)]))) : tDisp [(tC (.str i), tv)] σ H Q := fun p hp =>
  hv _ _ ⟨upd_same, [(.inr i, v)], rfl, by show 1 ≤ 15; decide, by rw [upd_upd]; exact q p hp⟩
section
variable {P : Program} {w : World} {K : PySem.W.Frag} {mg : Str → Option Value} {base : Heap} {Z : Ad}
def spDeepN (Z : Ad) : Sp := fun vs H Q _ => ∃ (p : Addr) (F : Addr → Prop), vs = [.ref p] ∧ PoolAt H p F ∧ ∀ v H', OddI Z H' v → But p H H' → PoolAt H' p F → Q v H'
theorem ok_deepN {f : Addr} {fd : FuncData} (F : Fun K "_law_deep" "_law_deep" s__law_deep f fd) (B : Bl Z mg) {f__law_any : Addr} {fd__law_any : FuncData} (C__law_any : Cal K mg "_law_any" f__law_any fd__law_any ["_law_tape_here", "_law_things"]) (G__law_any : FnOk P w K mg base CX0 2 f__law_any fd__law_any ["_law_tape_here", "_law_things"] (spAny K)) : FnOk P w K mg base CX0 3 f fd ["_law_tape_here"] (spDeepN Z) := by
  refine F.ok sc__law_deep (fun vs H Q E h => ?_) (fun cdv A outer s H vs Q E hr h => ?_)
  · obtain ⟨p, Fo, rfl, _⟩ := h
    rfl
  · obtain ⟨p, Fo, rfl, hp, q⟩ := h
    refine ⟨_, (pss_cons (ps_set (i := 1) sc__law_deep.nd rfl (Or.inl rfl) (pe_call G__law_any (hr.mono (by first | decide | omega)) (by rfl) C__law_any.g C__law_any.k C__law_any.b .nil pass0 (pa_cons (pv 0) (pa_cons (pe_lst (pa_cons pe_int (pa_cons pe_non (pa_cons (pe_tup (pa_cons pe_int pa_nil)) pa_nil)))) pa_nil))))
 (pss_cons (ps_for PassesOwn.never rfl (pi_range1 rfl B.b_range (pa_cons pe_int pa_nil)) (pg_name (i := 2) sc__law_deep.nd rfl (Or.inl rfl)) (pss_one (ps_set (i := 1) sc__law_deep.nd rfl (Or.inl rfl) (pe_call G__law_any (hr.mono (by first | decide | omega)) (by rfl) C__law_any.g C__law_any.k C__law_any.b .nil pass0 (pa_cons (pv 0) (pa_cons (pe_lst (pa_cons (pe_tup (pa_cons (pv 1) pa_nil)) (pa_cons (pe_lst (pa_cons (pv 1) pa_nil)) (pa_cons (pe_disp (pps_cons pe_str (pv 1) pps_nil) rfl rfl (by decide) (by decide)) pa_nil)))) pa_nil))))))
 (pss_one (ps_ret (pv 1))))), ?_⟩
    walk_at "h0"
    intro a1 n1
    have s1 : Same H (upd H a1 (.tup [.int 1])) := same_new (Same.refl _) n1
    have e1 : upd H a1 (.tup [.int 1]) a1 = some (.tup [.int 1]) := upd_same
    generalize upd H a1 (.tup [.int 1]) = G1 at s1 e1 ⊢
    walk_at "hs"
    intro L nL
    have sL : Same G1 (upd G1 L (.lst [.int 0, .non, .ref a1])) := same_new (Same.refl _) nL
    have eL : upd G1 L (.lst [.int 0, .non, .ref a1]) L = some (.lst [.int 0, .non, .ref a1]) := upd_same
    generalize upd G1 L (.lst [.int 0, .non, .ref a1]) = G2 at sL eL ⊢
    have p2 := (hp.same s1).same sL
    refine ⟨p, L, _, _, rfl, p2, .of eL, (hp.same s1).ne nL, by show 0 < 3; decide, by show 3 ≤ 1000; decide, fun v H3 hx b3 p3 => ?_⟩
    have dv : DeepI Z H3 v := by
      simp only [List.mem_cons, List.not_mem_nil, or_false] at hx
      rcases hx with rfl | rfl | rfl
      · exact deep_sca rfl
      · exact deep_sca rfl
      · exact (deep_tup (sL _ _ e1) (deep_sca rfl)).lsb (.of_but b3 p2 p3)
    have b : But p H H3 := (But.of (s1.trans sL)).trans b3
    clear hx b3 p2 eL sL nL e1 s1 n1 hp
    walk_at "hs"
    refine ⟨35, rfl, by decide, by decide, ?_⟩
    refine lp_range (lo := 0) (n := Int.toNat 35) (fun i σ' G => (∃ v x2, σ' = [some (.ref p), some v, x2] ∧ DeepI Z G v) ∧ But p H G ∧ PoolAt G p Fo)
      ⟨⟨_, _, rfl, dv⟩, b, p3⟩ ?_ ?_
    · clear dv b p3 v
      rintro i σ' G hi ⟨⟨v, x2, rfl, dv⟩, b, pl⟩
      walk_at "hs"
      intro c1 m1
      have t1 : Same G (upd G c1 (.tup [v])) := same_new (Same.refl _) m1
      have f1 : upd G c1 (.tup [v]) c1 = some (.tup [v]) := upd_same
      generalize upd G c1 (.tup [v]) = K1 at t1 f1 ⊢
      walk_at "hs"
      intro c2 m2
      have t2 : Same K1 (upd K1 c2 (.lst [v])) := same_new (Same.refl _) m2
      have f2 : upd K1 c2 (.lst [v]) c2 = some (.lst [v]) := upd_same
      generalize upd K1 c2 (.lst [v]) = K2 at t2 f2 ⊢
      walk_at "hs"
      refine x_dispS (v := v) (fun G R q => x_var rfl q) ?_
      intro c3 m3
      have t3 : Same K2 (upd K2 c3 (.dK [(.inr "a", v)])) := same_new (Same.refl _) m3
      have f3 : upd K2 c3 (.dK [(.inr "a", v)]) c3 = some (.dK [(.inr "a", v)]) := upd_same
      generalize upd K2 c3 (.dK [(.inr "a", v)]) = K3 at t3 f3 ⊢
      walk_at "hs"
      intro L m4
      have t4 : Same K3 (upd K3 L (.lst [.ref c1, .ref c2, .ref c3])) := same_new (Same.refl _) m4
      have f4 : upd K3 L (.lst [.ref c1, .ref c2, .ref c3]) L = some (.lst [.ref c1, .ref c2, .ref c3]) := upd_same
      generalize upd K3 L (.lst [.ref c1, .ref c2, .ref c3]) = K4 at t4 f4 ⊢
      have t14 := (t1.trans t2).trans (t3.trans t4)
      have p4 := pl.same t14
      refine ⟨p, L, _, _, rfl, p4, .of f4, (pl.same ((t1.trans t2).trans t3)).ne m4, by show 0 < 3; decide, by show 3 ≤ 1000; decide, fun y K5 hy b5 p5 => ?_⟩
      have dy : DeepI Z K5 y := by
        refine DeepI.lsb ?_ (.of_but b5 p4 p5)
        simp only [List.mem_cons, List.not_mem_nil, or_false] at hy
        rcases hy with rfl | rfl | rfl
        · exact deep_tup (t4 _ _ (t3 _ _ (t2 _ _ f1))) (dv.lsb (.of_same t14))
        · exact deep_lst (t4 _ _ (t3 _ _ f2))
        · exact deep_dK (t4 _ _ f3)
      have b' := (b.trans (.of t14)).trans b5
      clear hy b5 p4 f1 f2 f3 f4 m1 m2 m3 m4 t1 t2 t3 t4 t14
      walk_at "hs"
      exact ⟨⟨_, _, rfl, dy⟩, b', p5⟩
    · rintro σ' G ⟨⟨v, x2, rfl, dv⟩, b, pl⟩
      walk_at "hs"
      exact q v G dv.odd b pl
end
set_option maxRecDepth 100000
set_option maxHeartbeats 2000000
open PySem PySem.Spec L2


local macro_rules | `(tactic| walk_at "h1") => `(tactic| first
  | with_reducible refine x_dget ?_
  | with_reducible refine x_dc ?_
  | with_reducible refine x_keysF ?_
  | with_reducible refine x_keysFT ?_
  | with_reducible refine x_listZip ?_
  | with_reducible refine x_enls ?_)

local macro_rules | `(tactic| walk_at "h1") => `(tactic| first
  | with_reducible refine x_meth ?_
  | with_reducible refine x_tru ?_
  | with_reducible refine x_augS ?_)

theorem sc__law_drawn : FnScope ["_law_tape_here", "_law_blocks", "_law_costs_here", "_law_found", "_law_turn", "_law_lot", "_law_pair", "_law_block"] ["_law_tape_here", "_law_blocks", "_law_costs_here"] (defScope s__law_drawn) := ⟨rfl, rfl, rfl, by decide +kernel, rfl, by decide +kernel, by decide +kernel⟩
theorem NestOk.same {H H' : Hp} {n : Nat} {us : List (Option Nat)} {ls : List (List (Option Bool))} {x : V} (s : Same H H') (h : NestOk H n us ls x) : NestOk H' n us ls x := by
  obtain ⟨T, as, pd, e, h1, py, lo, g⟩ := h
  exact ⟨T, as, pd, e, s _ _ h1, py.keep fun a xs e => s _ _ e, lo, g⟩
theorem NestOk.back {Z : Ad} {H H' : Hp} {n : Nat} {us : List (Option Nat)} {ls : List (List (Option Bool))} {x : V} (s : Same H H') (k : KvB Z H 3 x) (h : NestOk H' n us ls x) : NestOk H n us ls x := by
  obtain ⟨T, as, pd, rfl, h1, py, lo, g⟩ := h
  obtain ⟨o, e⟩ := Kv.some k.kv
  have e2 := s _ _ e
  rw [h1] at e2
  cases e2
  obtain ⟨_, km⟩ := k.2 _ (tupOf_at e)
  have good : ∀ y ∈ refs as, PayOk H n y := fun y hy => PayOk.back s (km y hy) (pays_are py lo y hy)
  obtain ⟨as', pd', ea, py', lo'⟩ := pays_of good
  cases refs_inj ea
  have ep : pd' = pd := PyAt.det (py'.keep fun a xs e => s _ _ e) py
  subst ep
  exact ⟨T, as, pd', rfl, e, py', lo, g⟩
/-- what the law holds in its hands -/
structure Hld (Z : Ad) (G : Hp) (p wd C : Addr) (cs : List Addr) (n : Nat) (us : List (Option Nat)) (ls : List (List (Option Bool))) (F : Addr → Prop) : Prop where
  pl : PoolAt G p F
  w : WordsAt Z G wd n us ls
  c : CsAt G C cs n us ls
  nC : C ≠ p
  ncs : p ∉ cs
theorem but_tup {H H' : Hp} {p a : Addr} {xs ys : List V} (b : But p H H') (hp : H p = some (.lst xs)) (e : H a = some (.tup ys)) : H' a = some (.tup ys) := b _ _ (fun z => by rw [z, hp] at e; cases e) e
theorem but_ins {H H' : Hp} {p a c d : Addr} {xs : List V} {fs : List (Str × V)} (b : But p H H') (hp : H p = some (.lst xs)) (e : H a = some (.ins c d fs)) : H' a = some (.ins c d fs) := b _ _ (fun z => by rw [z, hp] at e; cases e) e
theorem Hld.but {Z : Ad} {G G' : Hp} {p wd C : Addr} {cs : List Addr} {n : Nat} {us : List (Option Nat)} {ls : List (List (Option Bool))} {F F' : Addr → Prop} (h : Hld Z G p wd C cs n us ls F) (b : But p G G') (hp : PoolAt G' p F') : Hld Z G' p wd C cs n us ls F' := by
  obtain ⟨xs, e⟩ := h.pl.lst
  obtain ⟨dx, fs, tu, tl, ws, k1, k2, k3, k4, k5, k6, k7⟩ := h.w
  exact ⟨hp, ⟨dx, fs, tu, tl, ws, but_ins b e k1, k2, k3, k4, but_tup b e k5, but_tup b e k6, k7.but b (fun ys z => by rw [e] at z; cases z)⟩, ⟨b _ _ h.nC h.c.e, h.c.len, fun i r hr => b _ _ (fun z => h.ncs (z ▸ List.mem_of_getElem? hr)) (h.c.row i r hr)⟩, h.nC, h.ncs⟩
theorem Hld.same {Z : Ad} {G G' : Hp} {p wd C : Addr} {cs : List Addr} {n : Nat} {us : List (Option Nat)} {ls : List (List (Option Bool))} {F : Addr → Prop} (h : Hld Z G p wd C cs n us ls F) (s : Same G G') : Hld Z G' p wd C cs n us ls F :=
  ⟨h.pl.same s, h.w.same s, h.c.same s, h.nC, h.ncs⟩
/-- a drawn pair -/
structure PairA (Z : Ad) (H : Hp) (v : V) : Prop where
  kv : KvA Z H 100 v
  pr : PairI H v
theorem PairA.lsb {Z : Ad} {H H' : Hp} {v : V} (h : PairA Z H v) (s : LsB H H') : PairA Z H' v := ⟨h.kv.lsb s, h.pr.lsb h.kv s⟩
theorem PairA.same {Z : Ad} {H H' : Hp} {v : V} (h : PairA Z H v) (s : Same H H') : PairA Z H' v := h.lsb (.of_same s)
theorem pairs_tha {Z : Ad} {H : Hp} {a : Addr} {xs : List V} (h : H a = some (.tup xs)) (l : xs.length ≤ 100) (k : ∀ x ∈ xs, PairA Z H x) : ThA Z H 100 (.ref a) := ⟨kva_tup h l fun x hx => (k x hx).kv, thI_tup h fun x hx => (k x hx).pr⟩
section
variable {P : Program} {w : World} {K : PySem.W.Frag} {mg : Str → Option Value} {base : Heap} {Z : Ad}
theorem x_either {c : Prop} [Decidable c] {t1 t2 : TE} {σ : L2.St} {G : Hp} {Q : VK} (Φ : V → Hp → Prop) (h1 : c → ∀ R : VK, (∀ x H', Φ x H' → R x H') → t1 σ G R) (h2 : ¬ c → ∀ R : VK, (∀ x H', Φ x H' → R x H') → t2 σ G R) (q : ∀ x H', Φ x H' → Q x H') : if decide c = true then t1 σ G Q else t2 σ G Q := by
  by_cases h : c
  · rw [if_pos (decide_eq_true h)]
    exact h1 h Q q
  · rw [if_neg (fun z => h (of_decide_eq_true z))]
    exact h2 h Q q
def spDrawnN (Z : Ad) : Sp := fun vs H Q _ => ∃ (p wd C n : Nat) (us : List (Option Nat)) (ls : List (List (Option Bool))) (cs : List Addr) (F : Addr → Prop), vs = [.ref p, .int n, .ref C] ∧ Hld Z H p wd C cs n us ls F ∧ 1 ≤ n ∧ n ≤ 40 ∧ ∀ D H', ThA Z H' 100 (.ref D) → But p H H' → PoolAt H' p F → Q (.ref D) H'
theorem ok_drawnN {f : Addr} {fd : FuncData} (F : Fun K "_law_drawn" "_law_drawn" s__law_drawn f fd) (B : Bl Z mg) {f__law_pick : Addr} {fd__law_pick : FuncData} (C__law_pick : Cal K mg "_law_pick" f__law_pick fd__law_pick ["_law_tape_here", "_law_many"]) (G__law_pick : FnOk P w K mg base CX0 1 f__law_pick fd__law_pick ["_law_tape_here", "_law_many"] spDraw) {f__law_is_nest : Addr} {fd__law_is_nest : FuncData} (C__law_is_nest : Cal K mg "_law_is_nest" f__law_is_nest fd__law_is_nest ["_law_costs_here", "_law_thing"]) (G__law_is_nest : FnOk P w K mg base CX0 2 f__law_is_nest fd__law_is_nest ["_law_costs_here", "_law_thing"] (spLNest Z)) : FnOk P w K mg base CX0 3 f fd ["_law_tape_here", "_law_blocks", "_law_costs_here"] (spDrawnN Z) := by
  refine F.ok sc__law_drawn (fun vs H Q E h => ?_) (fun cdv A outer s H vs Q E hr h => ?_)
  · obtain ⟨p, wd, C, n, us, ls, cs, Fo, rfl, _⟩ := h
    rfl
  · obtain ⟨p, wd, C, n, us, ls, cs, Fo, rfl, hh, n1, n40, q⟩ := h
    refine ⟨_, (pss_cons (ps_set (i := 3) sc__law_drawn.nd rfl (Or.inl rfl) (pe_tup pa_nil))
 (pss_cons (ps_for PassesOwn.never rfl (pi_range1 rfl B.b_range (pa_cons (pe_call G__law_pick (hr.mono (by first | decide | omega)) (by rfl) C__law_pick.g C__law_pick.k C__law_pick.b .nil pass0 (pa_cons (pv 0) (pa_cons pe_int pa_nil))) pa_nil)) (pg_name (i := 4) sc__law_drawn.nd rfl (Or.inl rfl)) (pss_cons (ps_set (i := 5) sc__law_drawn.nd rfl (Or.inl rfl) (pe_callTy (call_tplK (K := K) rfl) (by rfl) B.b_tuple (by decide +kernel) (pa_cons (pe_lc (own := [("_law_block", 7)]) rfl sc__law_drawn.nd (pi_range2 rfl B.b_range (pa_cons pe_int (pa_cons (pe_op op_add (pv 1) pe_int) pa_nil))) (blkOk_by (N := ["_law_tape_here", "_law_blocks", "_law_costs_here", "_law_found", "_law_turn", "_law_lot", "_law_pair", "_law_block"]) (sc := defScope s__law_drawn) (by decide +kernel)) (fun _ _ _ _ _ => (pg_name (i := 7) sc__law_drawn.nd rfl (Or.inl rfl))) (fun _ _ _ _ _ => (pts_one (pt_cmpR op_gt (pe_call G__law_pick (hr.mono (by first | decide | omega)) (by rfl) C__law_pick.g C__law_pick.k C__law_pick.b .nil pass0 (pa_cons (pv 0) (pa_cons pe_int pa_nil))) pe_int (nomark _)))) (fun _ _ _ _ _ => (pv 7))) pa_nil)))
 (pss_cons (ps_set (i := 6) sc__law_drawn.nd rfl (Or.inl rfl) (pe_tup (pa_cons (pe_ifExp (pt_cmpR op_gt (pe_callB (call_lenK (K := K) rfl) (by rfl) B.b_len PySem.boot_len (pa_cons (pv 5) pa_nil)) pe_int (nomark _)) (pv 5) (pe_tup (pa_cons pe_int pa_nil))) (pa_cons (pe_op op_add pe_int (pe_call G__law_pick (hr.mono (by first | decide | omega)) (by rfl) C__law_pick.g C__law_pick.k C__law_pick.b .nil pass0 (pa_cons (pv 0) (pa_cons pe_int pa_nil)))) pa_nil))))
 (pss_one (ps_if (PW.pt (pw_or (pt_cmpR op_eq (pe_call G__law_pick (hr.mono (by first | decide | omega)) (by rfl) C__law_pick.g C__law_pick.k C__law_pick.b .nil pass0 (pa_cons (pv 0) (pa_cons pe_int pa_nil))) pe_int (nomark _)) (pw_or1 (pt_val (pe_call G__law_is_nest (hr.mono (by first | decide | omega)) (by rfl) C__law_is_nest.g C__law_is_nest.k C__law_is_nest.b .nil pass0 (pa_cons (pv 2) (pa_cons (pe_op (op_catAK (K := K) rfl) (pv 3) (pe_tup (pa_cons (pv 6) pa_nil))) pa_nil))))))) (pss_one (ps_set (i := 3) sc__law_drawn.nd rfl (Or.inl rfl) (pe_op (op_catAK (K := K) rfl) (pv 3) (pe_tup (pa_cons (pv 6) pa_nil))))) pss_nil)))))
 (pss_one (ps_ret (pv 3))))), ?_⟩
    have hp := hh.pl
    walk_at "h0"
    intro D0 n0
    have s0 : Same H (upd H D0 (.tup [])) := same_new (Same.refl _) n0
    have e0 : upd H D0 (.tup []) D0 = some (.tup []) := upd_same
    generalize upd H D0 (.tup []) = G0 at s0 e0 ⊢
    walk_at "hs"
    refine ⟨p, 6, _, rfl, hp.same s0, by decide, by decide, fun d H2 d0 d1 b2 p2 => ?_⟩
    have h2 := (hh.same s0).but b2 p2
    have b02 := (But.of s0).trans b2
    obtain ⟨xs, epl⟩ := (hp.same s0).lst
    have e02 := but_tup b2 epl e0
    clear hh hp b2 p2 s0 n0 epl xs e0
    walk_at "hs"
    refine ⟨d, rfl, by omega, by omega, ?_⟩
    refine lp_range (lo := 0) (n := Int.toNat d) (fun i σ' G => (∃ D x4 x5 x6 xs, σ' = [some (.ref p), some (.int n), some (.ref C), some (.ref D), x4, x5, x6, none] ∧ G D = some (.tup xs) ∧ xs.length ≤ i ∧ ∀ x ∈ xs, PairA Z G x) ∧ But p H G ∧ Hld Z G p wd C cs n us ls Fo)
      ⟨⟨_, _, _, _, _, rfl, e02, Nat.le_refl _, fun x h => nomatch h⟩, b02, h2⟩ ?_ ?_
    · clear h2 b02 e02
      rintro i σ' G hi ⟨⟨D, x4, x5, x6, xs, rfl, eD, lD, good⟩, b, hG⟩
      have i6 : i < 6 := by omega
      clear d0 d1 hi
      walk_at "hs"
      refine ⟨1, (n : Int) + 1, rfl, ⟨by omega, by omega, by omega, by omega⟩, fun E nE => ?_⟩
      have sE : Same G (upd G E (.lst [])) := same_new (Same.refl _) nE
      refine lc_range (lo := 1) (n := Int.toNat ((n : Int) + 1 - 1)) (fun j G1 => (∃ l : List Nat, G1 E = some (.lst (nats l)) ∧ l.length ≤ j) ∧ But p G G1 ∧ PoolAt G1 p (fun a => a = E ∨ Fo a))
        ⟨⟨[], upd_same, Nat.le_refl _⟩, .of sE, hG.pl.own nE⟩ ?_ ?_
      · clear sE
        rintro j G1 hj ⟨⟨l, eE, ll⟩, b1, p1⟩
        walk_at "hs"
        refine ⟨rfl, ?_⟩
        walk_at "hs"
        refine ⟨p, 3, _, rfl, p1, by decide, by decide, fun d H3 d0 d1 b3 p3 => ?_⟩
        have eE3 := b3 _ _ (p1.neF (.inl rfl)) eE
        have b13 := b1.trans b3
        clear p1 b1 eE b3
        walk_at "hs"
        refine x_isd (fun c => ?_) (fun c => ?_)
        · walk_at "hs"
          refine ⟨_, eE3, szLt (by rw [nats_length]; omega), ⟨l ++ [1 + j], ?_, by rw [List.length_append]; show l.length + 1 ≤ _; omega⟩, b13.mutF nE, p3.mut (.inl rfl)⟩
          rw [upd_same, nats_append, show (1 : Int) + (j : Int) = ((1 + j : Nat) : Int) by omega]
          rfl
        · walk_at "hs"
          exact ⟨⟨l, eE3, by omega⟩, b13, p3⟩
      clear sE
      rintro G1 ⟨⟨l, eE, ll⟩, b1, p1⟩
      walk_at "hs"
      have h1 : Hld Z G1 p wd C cs n us ls Fo := hG.but b1 (p1.weak fun a h => .inr h)
      have l1 := LsB.of_but b1 hG.pl h1.pl
      obtain ⟨ps, epl⟩ := hG.pl.lst
      have eD1 := but_tup b1 epl eD
      have good1 : ∀ x ∈ xs, PairA Z G1 x := fun x hx => (good x hx).lsb l1
      have b01 := b.trans b1
      clear eE p1 b1 l1 epl ps eD good hG b
      intro L nL
      have sL : Same G1 (upd G1 L (.tup (nats l))) := same_new (Same.refl _) nL
      have eL : upd G1 L (.tup (nats l)) L = some (.tup (nats l)) := upd_same
      generalize upd G1 L (.tup (nats l)) = G2 at sL eL ⊢
      have h2 := h1.same sL
      have good2 : ∀ x ∈ xs, PairA Z G2 x := fun x hx => (good1 x hx).same sL
      have b02 := b01.trans (.of sL)
      have eD2 := sL _ _ eD1
      clear h1 good1 b01 eD1 nL sL
      have tL : SqT K G2 L (nats l) := .of eL
      walk_at "hs"
      rw [nats_length]
      refine x_either (fun x G3 => ∃ (M : Addr) (l' : List Nat), x = .ref M ∧ G3 M = some (.tup (nats l')) ∧ l'.length ≤ 40 ∧ Same G2 G3) (fun _ R r => ?_) (fun _ R r => ?_) ?_
      · walk_at "hs"
        exact r _ _ ⟨L, l, rfl, eL, by omega, Same.refl _⟩
      · walk_at "hs"
        intro M nM
        have sM : Same G2 (upd G2 M (.tup [.int 1])) := same_new (Same.refl _) nM
        have eM : upd G2 M (.tup [.int 1]) M = some (.tup [.int 1]) := upd_same
        generalize upd G2 M (.tup [.int 1]) = G3 at sM eM ⊢
        exact r _ _ ⟨M, [1], rfl, eM, by decide, sM⟩
      rintro x G3 ⟨M, l', rfl, eM, l40, s3⟩
      have h3 := h2.same s3
      have good3 : ∀ x ∈ xs, PairA Z G3 x := fun x hx => (good2 x hx).same s3
      have b03 := b02.trans (.of s3)
      have eD3 := s3 _ _ eD2
      clear h2 good2 b02 eD2 s3 tL eL
      walk_at "hs"
      refine ⟨p, 3, _, rfl, h3.pl, by decide, by decide, fun d H4 d0 d1 b4 p4 => ?_⟩
      have h4 := h3.but b4 p4
      have l4 := LsB.of_but b4 h3.pl p4
      obtain ⟨ps, epl⟩ := h3.pl.lst
      have eD4 := but_tup b4 epl eD3
      have eM4 := but_tup b4 epl eM
      have good4 : ∀ x ∈ xs, PairA Z H4 x := fun x hx => (good3 x hx).lsb l4
      have b04 := b03.trans b4
      clear h3 good3 b03 eD3 eM epl ps l4 b4 p4
      walk_at "hs"
      intro A nA
      have sA : Same H4 (upd H4 A (.tup [.ref M, .int (1 + d)])) := same_new (Same.refl _) nA
      have eA : upd H4 A (.tup [.ref M, .int (1 + d)]) A = some (.tup [.ref M, .int (1 + d)]) := upd_same
      generalize upd H4 A (.tup [.ref M, .int (1 + d)]) = G5 at sA eA ⊢
      have h5 := h4.same sA
      have eD5 := sA _ _ eD4
      have pA : PairA Z G5 (.ref A) := by
        obtain ⟨k, g⟩ := num_tup (Z := Z) (m := 100) (sA _ _ eM4) (by rw [nats_length]; omega) (List.all_eq_true.mpr fun z hz => by
          obtain ⟨b, _, rfl⟩ := List.mem_map.mp hz
          rfl)
        exact ⟨kva_tup eA (by show 2 ≤ 100; decide) fun x hx => by
          rcases List.mem_cons.mp hx with rfl | hx
          · exact k
          · rw [List.mem_singleton.mp hx]
            exact kva_sca rfl, pairI_one eA g⟩
      have good5 : ∀ x ∈ xs, PairA Z G5 x := fun x hx => (good4 x hx).same sA
      have b05 := b04.trans (.of sA)
      clear h4 good4 b04 eD4 eM4 nA sA eA
      walk_at "hs"
      refine ⟨p, 8, _, rfl, h5.pl, by decide, by decide, fun d' H6 d0' d1' b6 p6 => ?_⟩
      have h6 := h5.but b6 p6
      have l6 := LsB.of_but b6 h5.pl p6
      obtain ⟨ps, epl⟩ := h5.pl.lst
      have eD6 := but_tup b6 epl eD5
      have pA6 := pA.lsb l6
      have good6 : ∀ x ∈ xs, PairA Z H6 x := fun x hx => (good5 x hx).lsb l6
      have b06 := b05.trans b6
      clear h5 good5 b05 eD5 pA epl ps l6 b6 p6
      walk_at "hs"
      have grow : ∀ {D2 : Addr} {J : Hp}, Same H6 J → J D2 = some (.tup (xs ++ [.ref A])) → (∃ D' x4' x5' x6' xs', [some (V.ref p), some (.int (n : Int)), some (.ref C), some (.ref D2), some (.int (0 + (i : Int))), some (.ref L), some (.ref A), none] = [some (.ref p), some (.int n), some (.ref C), some (.ref D'), x4', x5', x6', none] ∧ J D' = some (.tup xs') ∧ xs'.length ≤ i + 1 ∧ ∀ x ∈ xs', PairA Z J x) ∧ But p H J ∧ Hld Z J p wd C cs n us ls Fo := fun {D2 J} sJ e => by
        refine ⟨⟨_, _, _, _, _, rfl, e, by rw [List.length_append]; show xs.length + 1 ≤ _; omega, fun x hx => ?_⟩, b06.trans (.of sJ), h6.same sJ⟩
        rcases List.mem_append.mp hx with hx | hx
        · exact (good6 x hx).same sJ
        · rw [List.mem_singleton.mp hx]
          exact pA6.same sJ
      have stay : ∀ {J : Hp}, Same H6 J → (∃ D' x4' x5' x6' xs', [some (V.ref p), some (.int (n : Int)), some (.ref C), some (.ref D), some (.int (0 + (i : Int))), some (.ref L), some (.ref A), none] = [some (.ref p), some (.int n), some (.ref C), some (.ref D'), x4', x5', x6', none] ∧ J D' = some (.tup xs') ∧ xs'.length ≤ i + 1 ∧ ∀ x ∈ xs', PairA Z J x) ∧ But p H J ∧ Hld Z J p wd C cs n us ls Fo := fun {J} sJ => by
        exact ⟨⟨_, _, _, _, _, rfl, sJ _ _ eD6, by omega, fun x hx => (good6 x hx).same sJ⟩, b06.trans (.of sJ), h6.same sJ⟩
      have hc6 := h6.c
      have lx : xs.length + 1 ≤ 10000 := by omega
      have kvs : ∀ {D2 : Addr} {J : Hp}, Same H6 J → J D2 = some (.tup (xs ++ [.ref A])) → KvB Z J 3 (.ref D2) := fun {D2 J} sJ e => (kva_tup (m := 100) e (by rw [List.length_append]; show xs.length + 1 ≤ _; omega) (fun x hx => by
        rcases List.mem_append.mp hx with hx | hx
        · exact ((good6 x hx).same sJ).kv
        · rw [List.mem_singleton.mp hx]
          exact (pA6.same sJ).kv) 3).kvB (by decide)
      clear h6 b06 good6 pA6 lD d0 d1 d0' d1'
      refine x_isd (fun c => ?_) (fun c => ?_)
      · walk_at "hs"
        intro S nS
        have sS : Same H6 (upd H6 S (.tup [.ref A])) := same_new (Same.refl _) nS
        have eS : upd H6 S (.tup [.ref A]) S = some (.tup [.ref A]) := upd_same
        generalize upd H6 S (.tup [.ref A]) = G7 at sS eS ⊢
        refine x_catA (sS _ _ eD6) eS (by show xs.length + 1 ≤ _; exact lx) fun D2 G8 s8 e8 => ?_
        walk_at "hs"
        exact grow (sS.trans s8) e8
      · walk_at "hs"
        intro S nS
        have sS : Same H6 (upd H6 S (.tup [.ref A])) := same_new (Same.refl _) nS
        have eS : upd H6 S (.tup [.ref A]) S = some (.tup [.ref A]) := upd_same
        generalize upd H6 S (.tup [.ref A]) = G7 at sS eS ⊢
        refine x_catA (sS _ _ eD6) eS (by show xs.length + 1 ≤ _; exact lx) fun D2 G8 s8 e8 => ?_
        have s68 := sS.trans s8
        have eD8 := s68 _ _ eD6
        clear sS nS eS s8
        walk_at "hs"
        refine ⟨C, n, us, ls, cs, .ref D2, rfl, hc6.same s68, n40, kvs s68 e8, fun _ G9 s9 => ?_, fun _ G9 s9 => ?_⟩
        · walk_at "hs"
          intro S nS
          have sS : Same G9 (upd G9 S (.tup [.ref A])) := same_new (Same.refl _) nS
          have eS : upd G9 S (.tup [.ref A]) S = some (.tup [.ref A]) := upd_same
          generalize upd G9 S (.tup [.ref A]) = G10 at sS eS ⊢
          refine x_catA (sS _ _ (s9 _ _ eD8)) eS (by show xs.length + 1 ≤ _; exact lx) fun D3 G11 s11 e11 => ?_
          walk_at "hs"
          exact grow ((s68.trans s9).trans (sS.trans s11)) e11
        · walk_at "hs"
          exact stay (s68.trans s9)
    · rintro σ' G ⟨⟨D, x4, x5, x6, xs, rfl, eD, lD, good⟩, b, hG⟩
      walk_at "hs"
      exact q D G (pairs_tha eD (by omega) good) b hG.pl
end
set_option maxRecDepth 100000
set_option maxHeartbeats 4000000
open PySem PySem.Spec L2


local macro_rules | `(tactic| walk_at "h1") => `(tactic| first
  | with_reducible refine x_dget ?_
  | with_reducible refine x_dc ?_
  | with_reducible refine x_keysF ?_
  | with_reducible refine x_keysFT ?_
  | with_reducible refine x_listZip ?_
  | with_reducible refine x_enls ?_)

local macro_rules | `(tactic| walk_at "h1") => `(tactic| first
  | with_reducible refine x_meth ?_
  | with_reducible refine x_tru ?_
  | with_reducible refine x_augS ?_)

theorem sc__law_bent : FnScope ["_law_tape_here", "_law_blocks", "_law_thing", "_law_words_here", "_law_odd", "_law_other", "_law_at", "_law_pair", "_law_things", "_law_lot", "_law_number", "_law_block", "_law_one"] ["_law_tape_here", "_law_blocks", "_law_thing", "_law_words_here"] (defScope s__law_bent) := ⟨rfl, rfl, rfl, by decide +kernel, rfl, by decide +kernel, by decide +kernel⟩
theorem odd_nil {Z : Ad} {H : Hp} {a : Addr} (h : H a = some (.tup [])) : OddI Z H (.ref a) := ⟨kva_tup h (Nat.zero_le _) (fun x hx => nomatch hx), pairI_len h (by decide), thI_tup h (fun x hx => nomatch hx)⟩
/-- so far laid: the same, and odd things -/
structure Bt (Z : Ad) (H G : Hp) (l : List V) : Prop where
  s : Same H G
  o : ∀ v ∈ l, OddI Z G v
theorem Bt.skip {Z : Ad} {H G G' : Hp} {l : List V} (h : Bt Z H G l) (s : Same G G') : Bt Z H G' l := ⟨h.s.trans s, fun v hv => (h.o v hv).same s⟩
theorem Bt.add {Z : Ad} {H G G' : Hp} {l : List V} {v : V} (h : Bt Z H G l) (s : Same G G') (o : OddI Z G' v) : Bt Z H G' (v :: l) := ⟨h.s.trans s, fun x hx => by
  rcases List.mem_cons.mp hx with rfl | hx
  · exact o
  · exact (h.o x hx).same s⟩
theorem Bt.sca {Z : Ad} {H G : Hp} {l : List V} {v : V} (h : Bt Z H G l) (o : sca v = true) : Bt Z H G (v :: l) := h.add (Same.refl _) (odd_sca o)
theorem one_tha {Z : Ad} {H : Hp} {a : Addr} {v : V} {m : Nat} (h : H a = some (.tup [v])) (o : OddI Z H v) (l : 3 ≤ m) : ThA Z H m (.ref a) :=
  ⟨kva_tup h (by show 1 ≤ m; omega) fun x hx => by rw [List.mem_singleton.mp hx]; exact o.kv.le l, thI_tup h fun x hx => by rw [List.mem_singleton.mp hx]; exact o.pr⟩
theorem lst_tha {Z : Ad} {H : Hp} {a : Addr} {xs : List V} {m : Nat} (h : H a = some (.lst xs)) : ThA Z H m (.ref a) := ⟨kva_lst h, thI_none (tupOf_o h)⟩
/-- what is spliced in -/
def Spl (Z : Ad) (H : Hp) (m : Nat) (v : V) : Prop := ∃ a xs, v = .ref a ∧ H a = some (.tup xs) ∧ xs.length ≤ 2 ∧ ∀ x ∈ xs, KvA Z H m x ∧ PairI H x
theorem Spl.lsb {Z : Ad} {H H' : Hp} {m : Nat} {v : V} (h : Spl Z H m v) (s : LsB H H') : Spl Z H' m v := by
  obtain ⟨a, xs, e, h1, l, k⟩ := h
  refine ⟨a, xs, e, ?_, l, fun x hx => ⟨(k x hx).1.lsb s, (k x hx).2.lsb (k x hx).1 s⟩⟩
  rcases s _ _ h1 with e2 | ⟨_, _, z, _⟩
  · exact e2
  · cases z
theorem Spl.same {Z : Ad} {H H' : Hp} {m : Nat} {v : V} (h : Spl Z H m v) (s : Same H H') : Spl Z H' m v := h.lsb (.of_same s)
theorem Spl.one {Z : Ad} {H : Hp} {m : Nat} {a : Addr} {x : V} (h : H a = some (.tup [x])) (k : KvA Z H m x) (p : PairI H x) : Spl Z H m (.ref a) := ⟨a, _, rfl, h, by show 1 ≤ 2; decide, fun y hy => by rw [List.mem_singleton.mp hy]; exact ⟨k, p⟩⟩
/-- a pair of a lot and a number -/
theorem Spl.pair {Z : Ad} {H : Hp} {m : Nat} {a b c : Addr} {i : Int} {l : List V} (h : H a = some (.tup [.ref b])) (h2 : H b = some (.tup [.ref c, .int i])) (h3 : H c = some (.tup l)) (m2 : 2 ≤ m) (ll : l.length ≤ m) (n : l.all NumB = true) : Spl Z H m (.ref a) := by
  obtain ⟨k, g⟩ := num_tup (Z := Z) h3 ll n
  exact .one h (kva_tup h2 m2 fun x hx => by
    rcases List.mem_cons.mp hx with rfl | hx
    · exact k
    · rw [List.mem_singleton.mp hx]
      exact kva_sca rfl) (pairI_one h2 g)
theorem Spl.pairL {Z : Ad} {H : Hp} {m : Nat} {a b c : Addr} {i : Int} {l : List V} (h : H a = some (.tup [.ref b])) (h2 : H b = some (.tup [.ref c, .int i])) (h3 : H c = some (.lst l)) (m2 : 2 ≤ m) : Spl Z H m (.ref a) :=
  .one h (kva_tup h2 m2 fun x hx => by
    rcases List.mem_cons.mp hx with rfl | hx
    · exact kva_lst h3
    · rw [List.mem_singleton.mp hx]
      exact kva_sca rfl) (pairI_one h2 fun zs e => by rw [tupOf_o h3] at e; cases e)
/-- what goes on under way -/
structure Wk (Z : Ad) (H G : Hp) (p : Addr) (F : Addr → Prop) (m : Nat) (x : V) : Prop where
  b : But p H G
  pl : PoolAt G p F
  th : ThA Z G m x
theorem Wk.same {Z : Ad} {H G G' : Hp} {p : Addr} {F : Addr → Prop} {m : Nat} {x : V} (h : Wk Z H G p F m x) (s : Same G G') : Wk Z H G' p F m x := ⟨h.b.trans (.of s), h.pl.same s, h.th.same s⟩
theorem Wk.but {Z : Ad} {H G G' : Hp} {p : Addr} {F F' : Addr → Prop} {m : Nat} {x : V} (h : Wk Z H G p F m x) (b : But p G G') (pl : PoolAt G' p F') : Wk Z H G' p F' m x := ⟨h.b.trans b, pl, h.th.lsb (.of_but b h.pl pl)⟩
/-- what is at hand of the things to splice in -/
structure Th (Z : Ad) (H : Hp) (p : Addr) (F : Addr → Prop) (m : Nat) (T : Addr) (xs : List V) (D : Addr) (ls : List V) (G : Hp) (L : Addr) (zs : List V) : Prop where
  eL : G L = some (.lst zs)
  nL : L ≠ p
  sp : ∀ z ∈ zs, Spl Z G (m + 1) z
  hD : G D = some (.tup ls)
  hT : G T = some (.tup xs)
  wk : Wk Z H G p F m (.ref T)
theorem Th.same {Z : Ad} {H : Hp} {p : Addr} {F : Addr → Prop} {m : Nat} {T : Addr} {xs : List V} {D : Addr} {ls : List V} {G G' : Hp} {L : Addr} {zs : List V} (h : Th Z H p F m T xs D ls G L zs) (s : Same G G') : Th Z H p F m T xs D ls G' L zs :=
  ⟨s _ _ h.eL, h.nL, fun z hz => (h.sp z hz).same s, s _ _ h.hD, s _ _ h.hT, h.wk.same s⟩
theorem Th.cat {Z : Ad} {H : Hp} {p : Addr} {F : Addr → Prop} {m : Nat} {T : Addr} {xs : List V} {D : Addr} {ls : List V} {G G' : Hp} {L N : Addr} {zs ys : List V} (h : Th Z H p F m T xs D ls G L zs) (s : Same G G') (e : G' N = some (.lst (zs ++ ys))) (n : G N = none) (o : ∀ z ∈ ys, Spl Z G' (m + 1) z) : Th Z H p F m T xs D ls G' N (zs ++ ys) :=
  ⟨e, h.wk.pl.ne n, fun z hz => by
    rcases List.mem_append.mp hz with hz | hz
    · exact (h.sp z hz).same s
    · exact o z hz, s _ _ h.hD, s _ _ h.hT, h.wk.same s⟩
theorem num_nats (l : List Nat) : (nats l).all NumB = true := List.all_eq_true.mpr fun z hz => by
  obtain ⟨b, _, rfl⟩ := List.mem_map.mp hz
  rfl
theorem nums_of {l : List V} (h : l.all NumB = true) : ∀ z ∈ l, NumB z = true := List.all_eq_true.mp h
theorem x_inNum {K : PySem.W.Frag} {H : Hp} {Q : VK} {p : Addr} {ls : List V} {k : Int} (h : SqT K H p ls) (n : ls.all NumB = true) (q : ∀ b, Q (.bl b) H) : rIn K false (.int k) (.ref p) H Q := by
  refine ⟨p, _, rfl, .inr h, rfl, ?_, q _⟩
  refine List.all_eq_true.mpr fun z hz => ?_
  have := nums_of n z hz
  cases z with
  | int i => rfl
  | bl b => rfl
  | _ => cases this
/-- so far laid: the same, and things to splice in -/
structure Bs (Z : Ad) (m : Nat) (H G : Hp) (l : List V) : Prop where
  s : Same H G
  o : ∀ v ∈ l, Spl Z G m v
theorem Bs.skip {Z : Ad} {m : Nat} {H G G' : Hp} {l : List V} (h : Bs Z m H G l) (s : Same G G') : Bs Z m H G' l := ⟨h.s.trans s, fun v hv => (h.o v hv).same s⟩
theorem Bs.add {Z : Ad} {m : Nat} {H G G' : Hp} {l : List V} {v : V} (h : Bs Z m H G l) (s : Same G G') (o : Spl Z G' m v) : Bs Z m H G' (v :: l) := ⟨h.s.trans s, fun x hx => by
  rcases List.mem_cons.mp hx with rfl | hx
  · exact o
  · exact (h.o x hx).same s⟩
section
variable {P : Program} {w : World} {K : PySem.W.Frag} {mg : Str → Option Value} {base : Heap} {Z : Ad}
def spBent (Z : Ad) : Sp := fun vs H Q _ => ∃ (p wd n m : Nat) (x : V) (F : Addr → Prop), vs = [.ref p, .int n, x, .ref wd] ∧ PoolAt H p F ∧ (∃ dx fs, H wd = some (.ins Z.a_Words dx fs)) ∧ ThA Z H m x ∧ 1 ≤ n ∧ n ≤ 40 ∧ 50 ≤ m ∧ m ≤ 3000 ∧ ∀ v H', ThA Z H' (m + 1) v → But p H H' → PoolAt H' p F → Q v H'
theorem ok_bent {f : Addr} {fd : FuncData} (F : Fun K "_law_bent" "_law_bent" s__law_bent f fd) (B : Bl Z mg) (I : InsK K Z) {f__law_pick : Addr} {fd__law_pick : FuncData} (C__law_pick : Cal K mg "_law_pick" f__law_pick fd__law_pick ["_law_tape_here", "_law_many"]) (G__law_pick : FnOk P w K mg base CX0 1 f__law_pick fd__law_pick ["_law_tape_here", "_law_many"] spDraw) {f__law_any : Addr} {fd__law_any : FuncData} (C__law_any : Cal K mg "_law_any" f__law_any fd__law_any ["_law_tape_here", "_law_things"]) (G__law_any : FnOk P w K mg base CX0 2 f__law_any fd__law_any ["_law_tape_here", "_law_things"] (spAny K)) {f__law_deep : Addr} {fd__law_deep : FuncData} (C__law_deep : Cal K mg "_law_deep" f__law_deep fd__law_deep ["_law_tape_here"]) (G__law_deep : FnOk P w K mg base CX0 3 f__law_deep fd__law_deep ["_law_tape_here"] (spDeepN Z)) {f__law_is_int : Addr} {fd__law_is_int : FuncData} (C__law_is_int : Cal K mg "_law_is_int" f__law_is_int fd__law_is_int ["_law_thing", "_law_least"]) (G__law_is_int : FnOk P w K mg base CX0 1 f__law_is_int fd__law_is_int ["_law_thing", "_law_least"] (spIntK Z)) : FnOk P w K mg base CX0 4 f fd ["_law_tape_here", "_law_blocks", "_law_thing", "_law_words_here"] (spBent Z) := by
  refine F.ok sc__law_bent (fun vs H Q E h => ?_) (fun cdv A outer s H vs Q E hr h => ?_)
  · obtain ⟨p, wd, n, m, x, Fo, rfl, _⟩ := h
    rfl
  · obtain ⟨p, wd, n, m, x, Fo, rfl, hp, ⟨dx, fs, hw⟩, hx, n1, n40, m1, m2, q⟩ := h
    refine ⟨_, (pss_cons (ps_set (i := 4) sc__law_bent.nd rfl (Or.inl rfl) (pe_lst (pa_cons pe_non (pa_cons pe_int (pa_cons pe_bl (pa_cons (pe_tup pa_nil) (pa_cons (pe_lst pa_nil) (pa_cons pe_dnewK (pa_cons pe_str (pa_cons (pe_tup (pa_cons (pe_tup pa_nil) (pa_cons pe_int pa_nil))) (pa_cons (pe_tup (pa_cons (pe_tup (pa_cons pe_int pa_nil)) (pa_cons pe_int pa_nil))) (pa_cons (pe_tup (pa_cons (pe_tup (pa_cons pe_int pa_nil)) (pa_cons pe_bl pa_nil))) (pa_cons (pe_tup (pa_cons (pe_tup (pa_cons pe_bl pa_nil)) (pa_cons pe_int pa_nil))) (pa_cons (pe_tup (pa_cons (pe_tup (pa_cons pe_int (pa_cons pe_int pa_nil))) (pa_cons pe_int pa_nil))) (pa_cons (pe_tup (pa_cons (pe_lst (pa_cons pe_int pa_nil)) (pa_cons pe_int pa_nil))) pa_nil)))))))))))))))
 (pss_cons (ps_set (i := 4) sc__law_bent.nd rfl (Or.inl rfl) (pe_op op_cat (pv 4) (pe_lst (pa_cons (pe_tup (pa_cons (pe_tup (pa_cons (pe_op op_add (pv 1) pe_int) pa_nil)) (pa_cons pe_int pa_nil))) (pa_cons (pe_tup (pa_cons (pe_tup (pa_cons pe_int pa_nil)) (pa_cons pe_int pa_nil))) (pa_cons (pe_tup (pa_cons (pe_tup (pa_cons pe_int pa_nil)) (pa_cons pe_int (pa_cons pe_int pa_nil)))) (pa_cons (pe_tup (pa_cons (pe_tup (pa_cons pe_int pa_nil)) pa_nil)) (pa_cons (pe_lst (pa_cons (pe_tup (pa_cons pe_int pa_nil)) (pa_cons pe_int pa_nil))) (pa_cons (pe_tup (pa_cons (pe_tup (pa_cons pe_int pa_nil)) (pa_cons (pe_un un_neg pe_int) pa_nil))) (pa_cons (pe_tup (pa_cons (pe_tup (pa_cons pe_int pa_nil)) (pa_cons (pe_op op_pow pe_int pe_int) pa_nil))) (pa_cons (pv 3) pa_nil)))))))))))
 (pss_cons (ps_set (i := 5) sc__law_bent.nd rfl (Or.inl rfl) (pe_call G__law_any (hr.mono (by first | decide | omega)) (by rfl) C__law_any.g C__law_any.k C__law_any.b .nil pass0 (pa_cons (pv 0) (pa_cons (pe_op op_cat (pv 4) (pe_lst (pa_cons (pe_call G__law_deep (hr.mono (by first | decide | omega)) (by rfl) C__law_deep.g C__law_deep.k C__law_deep.b .nil pass0 (pa_cons (pv 0) pa_nil)) pa_nil))) pa_nil))))
 (pss_cons (ps_if (PW.pt (pw_or (pt_not (pt_val (pe_callB (call_isiK' (K := K) rfl) (by rfl) B.b_isinstance (by decide +kernel) (pa_cons (pv 2) (pa_cons (pe_bltn (v := .ty "tuple") (by rfl) B.b_tuple (by decide +kernel) rfl) pa_nil))))) (pw_or (pt_cmpR op_eq (pe_callB (call_lenK (K := K) rfl) (by rfl) B.b_len PySem.boot_len (pa_cons (pv 2) pa_nil)) pe_int (nomark _)) (pw_or1 (pt_cmpR op_eq (pe_call G__law_pick (hr.mono (by first | decide | omega)) (by rfl) C__law_pick.g C__law_pick.k C__law_pick.b .nil pass0 (pa_cons (pv 0) (pa_cons pe_int pa_nil))) pe_int (nomark _)))))) (pss_one (ps_ret (pe_call G__law_any (hr.mono (by first | decide | omega)) (by rfl) C__law_any.g C__law_any.k C__law_any.b .nil pass0 (pa_cons (pv 0) (pa_cons (pe_lst (pa_cons (pv 5) (pa_cons (pe_tup (pa_cons (pv 5) pa_nil)) (pa_cons (pe_ifExp (pt_val (pe_callB (call_isiK' (K := K) rfl) (by rfl) B.b_isinstance (by decide +kernel) (pa_cons (pv 2) (pa_cons (pe_bltn (v := .ty "tuple") (by rfl) B.b_tuple (by decide +kernel) rfl) pa_nil)))) (pe_callTy (call_lstK (K := K) rfl) (by rfl) B.b_list (by decide +kernel) (pa_cons (pv 2) pa_nil)) (pv 2)) pa_nil)))) pa_nil))))) pss_nil)
 (pss_cons (ps_set (i := 6) sc__law_bent.nd rfl (Or.inl rfl) (pe_call G__law_pick (hr.mono (by first | decide | omega)) (by rfl) C__law_pick.g C__law_pick.k C__law_pick.b .nil pass0 (pa_cons (pv 0) (pa_cons (pe_callB (call_lenK (K := K) rfl) (by rfl) B.b_len PySem.boot_len (pa_cons (pv 2) pa_nil)) pa_nil))))
 (pss_cons (ps_set (i := 7) sc__law_bent.nd rfl (Or.inl rfl) (pe_ix (ix_tupK (K := K) rfl) (pv 2) (pv 6) (fun _ _ => rfl)))
 (pss_cons (ps_set (i := 8) sc__law_bent.nd rfl (Or.inl rfl) (pe_lst (pa_cons (pe_tup (pa_cons (pv 5) pa_nil)) (pa_cons (pe_tup pa_nil) (pa_cons (pe_tup (pa_cons (pv 7) (pa_cons (pv 7) pa_nil))) pa_nil)))))
 (C8.pss_cut (ps_if (PW.pt (pw_and (pt_val (pe_callB (call_isiK' (K := K) rfl) (by rfl) B.b_isinstance (by decide +kernel) (pa_cons (pv 7) (pa_cons (pe_bltn (v := .ty "tuple") (by rfl) B.b_tuple (by decide +kernel) rfl) pa_nil)))) (pw_and (pt_cmpR op_eq (pe_callB (call_lenK (K := K) rfl) (by rfl) B.b_len PySem.boot_len (pa_cons (pv 7) pa_nil)) pe_int (nomark _)) (pw_and (pt_val (pe_callB (call_isiK' (K := K) rfl) (by rfl) B.b_isinstance (by decide +kernel) (pa_cons (pe_ix (ix_tupK (K := K) rfl) (pv 7) pe_int (fun _ _ => rfl)) (pa_cons (pe_bltn (v := .ty "tuple") (by rfl) B.b_tuple (by decide +kernel) rfl) pa_nil)))) (pw_and1 (pt_val (pe_call G__law_is_int (hr.mono (by first | decide | omega)) (by rfl) C__law_is_int.g C__law_is_int.k C__law_is_int.b .nil pass0 (pa_cons (pe_ix (ix_tupK (K := K) rfl) (pv 7) pe_int (fun _ _ => rfl)) (pa_cons (pe_un un_neg pe_int) pa_nil))))))))) (pss_cons (ps_asg (pv 7) (pg_tup rfl (pgs_cons (pg_name (i := 9) sc__law_bent.nd rfl (Or.inr rfl)) (pgs_cons (pg_name (i := 10) sc__law_bent.nd rfl (Or.inl rfl)) pgs_nil))))
 (pss_cons (ps_set (i := 11) sc__law_bent.nd rfl (Or.inr rfl) (pe_op op_add pe_int (pe_call G__law_pick (hr.mono (by first | decide | omega)) (by rfl) C__law_pick.g C__law_pick.k C__law_pick.b .nil pass0 (pa_cons (pv 0) (pa_cons (pv 1) pa_nil)))))
 (pss_cons (ps_set (i := 8) sc__law_bent.nd rfl (Or.inl rfl) (pe_op op_cat (pv 8) (pe_lst (pa_cons (pe_tup (pa_cons (pe_tup (pa_cons (pv 9) (pa_cons (pe_op op_add (pv 10) pe_int) pa_nil))) pa_nil)) (pa_cons (pe_tup (pa_cons (pe_tup (pa_cons (pv 9) (pa_cons (pe_op op_sub (pv 10) pe_int) pa_nil))) pa_nil)) (pa_cons (pe_tup (pa_cons (pe_tup (pa_cons (pe_slice (sl_tupAK (K := K) rfl) (pv 9) (po_some pe_int) po_none) (pa_cons (pv 10) pa_nil))) pa_nil)) (pa_cons (pe_tup (pa_cons (pe_tup (pa_cons (pe_revT (K := K) rfl (pv 9)) (pa_cons (pv 10) pa_nil))) pa_nil)) pa_nil)))))))
 (pss_cons (ps_set (i := 8) sc__law_bent.nd rfl (Or.inl rfl) (pe_op op_cat (pv 8) (pe_lst (pa_cons (pe_tup (pa_cons (pe_tup (pa_cons (pe_callTy (call_tplK (K := K) rfl) (by rfl) B.b_tuple (by decide +kernel) (pa_cons (pe_lc (own := [("_law_one", 12)]) rfl sc__law_bent.nd (pi_range2 rfl B.b_range (pa_cons pe_int (pa_cons (pe_op op_add (pv 1) pe_int) pa_nil))) (blkOk_by (N := ["_law_tape_here", "_law_blocks", "_law_thing", "_law_words_here", "_law_odd", "_law_other", "_law_at", "_law_pair", "_law_things", "_law_lot", "_law_number", "_law_block", "_law_one"]) (sc := defScope s__law_bent) (by decide +kernel)) (fun _ _ _ _ _ => (pg_name (i := 12) sc__law_bent.nd rfl (Or.inl rfl))) (fun _ _ _ _ _ => (pts_one (PW.pt (pw_or (pt_cmpR (op_inK (K := K) rfl) (pv 12) (pv 9) (by rfl)) (pw_or1 (pt_cmpR op_eq (pv 12) (pv 11) (nomark _))))))) (fun _ _ _ _ _ => (pv 12))) pa_nil)) (pa_cons (pv 10) pa_nil))) pa_nil)) pa_nil))))
 (pss_one (ps_set (i := 8) sc__law_bent.nd rfl (Or.inl rfl) (pe_op op_cat (pv 8) (pe_lst (pa_cons (pe_tup (pa_cons (pe_tup (pa_cons (pe_op (op_catAK (K := K) rfl) (pv 9) (pe_tup (pa_cons (pv 11) pa_nil))) (pa_cons (pv 10) pa_nil))) pa_nil)) (pa_cons (pe_tup (pa_cons (pe_tup (pa_cons (pe_callTy (call_lstK (K := K) rfl) (by rfl) B.b_list (by decide +kernel) (pa_cons (pv 9) pa_nil)) (pa_cons (pv 10) pa_nil))) pa_nil)) (pa_cons (pe_tup (pa_cons (pe_tup (pa_cons (pe_tup (pa_cons (pv 11) pa_nil)) (pa_cons (pv 10) pa_nil))) pa_nil)) pa_nil))))))))))) pss_nil)
 (pss_one (ps_ret (pe_op (op_catAK (K := K) rfl) (pe_op (op_catAK (K := K) rfl) (pe_slice (sl_tupAK (K := K) rfl) (pv 2) po_none (po_some (pv 6))) (pe_call G__law_any (hr.mono (by first | decide | omega)) (by rfl) C__law_any.g C__law_any.k C__law_any.b .nil pass0 (pa_cons (pv 0) (pa_cons (pv 8) pa_nil)))) (pe_slice (sl_tupAK (K := K) rfl) (pv 2) (po_some (pe_op op_add (pv 6) pe_int)) po_none)))))))))))), ?_⟩
    have bt0 : Bt Z H H [] := ⟨Same.refl _, fun v h => nomatch h⟩
    walk_at "h0"
    have bt1 : Bt Z H H [.non] := bt0.sca rfl
    clear bt0
    have bt2 : Bt Z H H [.int 0, .non] := bt1.sca rfl
    clear bt1
    have bt3 : Bt Z H H [.bl true, .int 0, .non] := bt2.sca rfl
    clear bt2
    intro a1 n1
    have s1 : Same H (upd H a1 (.tup [])) := same_new (Same.refl _) n1
    have e1 : upd H a1 (.tup []) a1 = some (.tup []) := upd_same
    generalize upd H a1 (.tup []) = G1 at s1 e1 ⊢
    have bt4 : Bt Z H G1 [.ref a1, .bl true, .int 0, .non] := bt3.add s1 (odd_nil e1)
    clear bt3
    clear n1 s1 e1
    walk_at "hs"
    intro a2 n2
    have s2 : Same G1 (upd G1 a2 (.lst [])) := same_new (Same.refl _) n2
    have e2 : upd G1 a2 (.lst []) a2 = some (.lst []) := upd_same
    generalize upd G1 a2 (.lst []) = G2 at s2 e2 ⊢
    have bt5 : Bt Z H G2 [.ref a2, .ref a1, .bl true, .int 0, .non] := bt4.add s2 (odd_lst e2)
    clear bt4
    clear n2 s2 e2
    walk_at "hs"
    intro a3 n3
    have s3 : Same G2 (upd G2 a3 (.dK [])) := same_new (Same.refl _) n3
    have e3 : upd G2 a3 (.dK []) a3 = some (.dK []) := upd_same
    generalize upd G2 a3 (.dK []) = G3 at s3 e3 ⊢
    have bt6 : Bt Z H G3 [.ref a3, .ref a2, .ref a1, .bl true, .int 0, .non] := bt5.add s3 (odd_dK e3)
    clear bt5
    clear n3 s3 e3
    walk_at "hs"
    have bt7 : Bt Z H G3 [.str "nest", .ref a3, .ref a2, .ref a1, .bl true, .int 0, .non] := bt6.sca rfl
    clear bt6
    intro a4 n4
    have s4 : Same G3 (upd G3 a4 (.tup [])) := same_new (Same.refl _) n4
    have e4 : upd G3 a4 (.tup []) a4 = some (.tup []) := upd_same
    generalize upd G3 a4 (.tup []) = G4 at s4 e4 ⊢
    walk_at "hs"
    intro a5 n5
    have s5 : Same G4 (upd G4 a5 (.tup [.ref a4, .int 1])) := same_new (Same.refl _) n5
    have e5 : upd G4 a5 (.tup [.ref a4, .int 1]) a5 = some (.tup [.ref a4, .int 1]) := upd_same
    generalize upd G4 a5 (.tup [.ref a4, .int 1]) = G5 at s5 e5 ⊢
    have bt8 : Bt Z H G5 [.ref a5, .str "nest", .ref a3, .ref a2, .ref a1, .bl true, .int 0, .non] := (bt7.skip s4).add s5 (odd_num e5 (s5 _ _ e4) (Nat.le_of_ble_eq_true rfl) (Nat.le_of_ble_eq_true rfl) rfl rfl)
    clear bt7
    clear n4 s4 e4 n5 s5 e5
    walk_at "hs"
    intro a6 n6
    have s6 : Same G5 (upd G5 a6 (.tup [.int 1])) := same_new (Same.refl _) n6
    have e6 : upd G5 a6 (.tup [.int 1]) a6 = some (.tup [.int 1]) := upd_same
    generalize upd G5 a6 (.tup [.int 1]) = G6 at s6 e6 ⊢
    walk_at "hs"
    intro a7 n7
    have s7 : Same G6 (upd G6 a7 (.tup [.ref a6, .int 0])) := same_new (Same.refl _) n7
    have e7 : upd G6 a7 (.tup [.ref a6, .int 0]) a7 = some (.tup [.ref a6, .int 0]) := upd_same
    generalize upd G6 a7 (.tup [.ref a6, .int 0]) = G7 at s7 e7 ⊢
    have bt9 : Bt Z H G7 [.ref a7, .ref a5, .str "nest", .ref a3, .ref a2, .ref a1, .bl true, .int 0, .non] := (bt8.skip s6).add s7 (odd_num e7 (s7 _ _ e6) (Nat.le_of_ble_eq_true rfl) (Nat.le_of_ble_eq_true rfl) rfl rfl)
    clear bt8
    clear n6 s6 e6 n7 s7 e7
    walk_at "hs"
    intro a8 n8
    have s8 : Same G7 (upd G7 a8 (.tup [.int 1])) := same_new (Same.refl _) n8
    have e8 : upd G7 a8 (.tup [.int 1]) a8 = some (.tup [.int 1]) := upd_same
    generalize upd G7 a8 (.tup [.int 1]) = G8 at s8 e8 ⊢
    walk_at "hs"
    intro a9 n9
    have s9 : Same G8 (upd G8 a9 (.tup [.ref a8, .bl true])) := same_new (Same.refl _) n9
    have e9 : upd G8 a9 (.tup [.ref a8, .bl true]) a9 = some (.tup [.ref a8, .bl true]) := upd_same
    generalize upd G8 a9 (.tup [.ref a8, .bl true]) = G9 at s9 e9 ⊢
    have bt10 : Bt Z H G9 [.ref a9, .ref a7, .ref a5, .str "nest", .ref a3, .ref a2, .ref a1, .bl true, .int 0, .non] := (bt9.skip s8).add s9 (odd_num e9 (s9 _ _ e8) (Nat.le_of_ble_eq_true rfl) (Nat.le_of_ble_eq_true rfl) rfl rfl)
    clear bt9
    clear n8 s8 e8 n9 s9 e9
    walk_at "hs"
    intro a10 n10
    have s10 : Same G9 (upd G9 a10 (.tup [.bl true])) := same_new (Same.refl _) n10
    have e10 : upd G9 a10 (.tup [.bl true]) a10 = some (.tup [.bl true]) := upd_same
    generalize upd G9 a10 (.tup [.bl true]) = G10 at s10 e10 ⊢
    walk_at "hs"
    intro a11 n11
    have s11 : Same G10 (upd G10 a11 (.tup [.ref a10, .int 1])) := same_new (Same.refl _) n11
    have e11 : upd G10 a11 (.tup [.ref a10, .int 1]) a11 = some (.tup [.ref a10, .int 1]) := upd_same
    generalize upd G10 a11 (.tup [.ref a10, .int 1]) = G11 at s11 e11 ⊢
    have bt11 : Bt Z H G11 [.ref a11, .ref a9, .ref a7, .ref a5, .str "nest", .ref a3, .ref a2, .ref a1, .bl true, .int 0, .non] := (bt10.skip s10).add s11 (odd_num e11 (s11 _ _ e10) (Nat.le_of_ble_eq_true rfl) (Nat.le_of_ble_eq_true rfl) rfl rfl)
    clear bt10
    clear n10 s10 e10 n11 s11 e11
    walk_at "hs"
    intro a12 n12
    have s12 : Same G11 (upd G11 a12 (.tup [.int 1, .int 1])) := same_new (Same.refl _) n12
    have e12 : upd G11 a12 (.tup [.int 1, .int 1]) a12 = some (.tup [.int 1, .int 1]) := upd_same
    generalize upd G11 a12 (.tup [.int 1, .int 1]) = G12 at s12 e12 ⊢
    walk_at "hs"
    intro a13 n13
    have s13 : Same G12 (upd G12 a13 (.tup [.ref a12, .int 1])) := same_new (Same.refl _) n13
    have e13 : upd G12 a13 (.tup [.ref a12, .int 1]) a13 = some (.tup [.ref a12, .int 1]) := upd_same
    generalize upd G12 a13 (.tup [.ref a12, .int 1]) = G13 at s13 e13 ⊢
    have bt12 : Bt Z H G13 [.ref a13, .ref a11, .ref a9, .ref a7, .ref a5, .str "nest", .ref a3, .ref a2, .ref a1, .bl true, .int 0, .non] := (bt11.skip s12).add s13 (odd_num e13 (s13 _ _ e12) (Nat.le_of_ble_eq_true rfl) (Nat.le_of_ble_eq_true rfl) rfl rfl)
    clear bt11
    clear n12 s12 e12 n13 s13 e13
    walk_at "hs"
    intro a14 n14
    have s14 : Same G13 (upd G13 a14 (.lst [.int 1])) := same_new (Same.refl _) n14
    have e14 : upd G13 a14 (.lst [.int 1]) a14 = some (.lst [.int 1]) := upd_same
    generalize upd G13 a14 (.lst [.int 1]) = G14 at s14 e14 ⊢
    walk_at "hs"
    intro a15 n15
    have s15 : Same G14 (upd G14 a15 (.tup [.ref a14, .int 1])) := same_new (Same.refl _) n15
    have e15 : upd G14 a15 (.tup [.ref a14, .int 1]) a15 = some (.tup [.ref a14, .int 1]) := upd_same
    generalize upd G14 a15 (.tup [.ref a14, .int 1]) = G15 at s15 e15 ⊢
    have bt13 : Bt Z H G15 [.ref a15, .ref a13, .ref a11, .ref a9, .ref a7, .ref a5, .str "nest", .ref a3, .ref a2, .ref a1, .bl true, .int 0, .non] := (bt12.skip s14).add s15 (odd_in e15 (Nat.le_of_ble_eq_true rfl) (kva_lst (s15 _ _ e14)) (fun zs e => by rw [tupOf_o (s15 _ _ e14)] at e; cases e) (pairI_none (tupOf_o (s15 _ _ e14))) rfl)
    clear bt12
    clear n14 s14 e14 n15 s15 e15
    walk_at "hs"
    intro O1 nO1
    have sO1 : Same G15 (upd G15 O1 (.lst [.non, .int 0, .bl true, .ref a1, .ref a2, .ref a3, .str "nest", .ref a5, .ref a7, .ref a9, .ref a11, .ref a13, .ref a15])) := same_new (Same.refl _) nO1
    have eO1 : upd G15 O1 (.lst [.non, .int 0, .bl true, .ref a1, .ref a2, .ref a3, .str "nest", .ref a5, .ref a7, .ref a9, .ref a11, .ref a13, .ref a15]) O1 = some (.lst [.non, .int 0, .bl true, .ref a1, .ref a2, .ref a3, .str "nest", .ref a5, .ref a7, .ref a9, .ref a11, .ref a13, .ref a15]) := upd_same
    generalize upd G15 O1 (.lst [.non, .int 0, .bl true, .ref a1, .ref a2, .ref a3, .str "nest", .ref a5, .ref a7, .ref a9, .ref a11, .ref a13, .ref a15]) = K1 at sO1 eO1 ⊢
    have bt14 : Bt Z H K1 [.ref a15, .ref a13, .ref a11, .ref a9, .ref a7, .ref a5, .str "nest", .ref a3, .ref a2, .ref a1, .bl true, .int 0, .non] := bt13.skip sO1
    clear bt13
    walk_at "hs"
    clear sO1 nO1
    have hb1 := bt14
    have bt15 : Bt Z K1 K1 [.ref a15, .ref a13, .ref a11, .ref a9, .ref a7, .ref a5, .str "nest", .ref a3, .ref a2, .ref a1, .bl true, .int 0, .non] := ⟨Same.refl _, hb1.o⟩
    clear bt14
    intro a16 n16
    have s16 : Same K1 (upd K1 a16 (.tup [.int ((n : Int) + 1)])) := same_new (Same.refl _) n16
    have e16 : upd K1 a16 (.tup [.int ((n : Int) + 1)]) a16 = some (.tup [.int ((n : Int) + 1)]) := upd_same
    generalize upd K1 a16 (.tup [.int ((n : Int) + 1)]) = G16 at s16 e16 ⊢
    walk_at "hs"
    intro a17 n17
    have s17 : Same G16 (upd G16 a17 (.tup [.ref a16, .int 1])) := same_new (Same.refl _) n17
    have e17 : upd G16 a17 (.tup [.ref a16, .int 1]) a17 = some (.tup [.ref a16, .int 1]) := upd_same
    generalize upd G16 a17 (.tup [.ref a16, .int 1]) = G17 at s17 e17 ⊢
    have bt16 : Bt Z K1 G17 [.ref a17, .ref a15, .ref a13, .ref a11, .ref a9, .ref a7, .ref a5, .str "nest", .ref a3, .ref a2, .ref a1, .bl true, .int 0, .non] := (bt15.skip s16).add s17 (odd_num e17 (s17 _ _ e16) (Nat.le_of_ble_eq_true rfl) (Nat.le_of_ble_eq_true rfl) rfl rfl)
    clear bt15
    clear n16 s16 e16 n17 s17 e17
    walk_at "hs"
    intro a18 n18
    have s18 : Same G17 (upd G17 a18 (.tup [.int 0])) := same_new (Same.refl _) n18
    have e18 : upd G17 a18 (.tup [.int 0]) a18 = some (.tup [.int 0]) := upd_same
    generalize upd G17 a18 (.tup [.int 0]) = G18 at s18 e18 ⊢
    walk_at "hs"
    intro a19 n19
    have s19 : Same G18 (upd G18 a19 (.tup [.ref a18, .int 1])) := same_new (Same.refl _) n19
    have e19 : upd G18 a19 (.tup [.ref a18, .int 1]) a19 = some (.tup [.ref a18, .int 1]) := upd_same
    generalize upd G18 a19 (.tup [.ref a18, .int 1]) = G19 at s19 e19 ⊢
    have bt17 : Bt Z K1 G19 [.ref a19, .ref a17, .ref a15, .ref a13, .ref a11, .ref a9, .ref a7, .ref a5, .str "nest", .ref a3, .ref a2, .ref a1, .bl true, .int 0, .non] := (bt16.skip s18).add s19 (odd_num e19 (s19 _ _ e18) (Nat.le_of_ble_eq_true rfl) (Nat.le_of_ble_eq_true rfl) rfl rfl)
    clear bt16
    clear n18 s18 e18 n19 s19 e19
    walk_at "hs"
    intro a20 n20
    have s20 : Same G19 (upd G19 a20 (.tup [.int 1])) := same_new (Same.refl _) n20
    have e20 : upd G19 a20 (.tup [.int 1]) a20 = some (.tup [.int 1]) := upd_same
    generalize upd G19 a20 (.tup [.int 1]) = G20 at s20 e20 ⊢
    walk_at "hs"
    intro a21 n21
    have s21 : Same G20 (upd G20 a21 (.tup [.ref a20, .int 1, .int 1])) := same_new (Same.refl _) n21
    have e21 : upd G20 a21 (.tup [.ref a20, .int 1, .int 1]) a21 = some (.tup [.ref a20, .int 1, .int 1]) := upd_same
    generalize upd G20 a21 (.tup [.ref a20, .int 1, .int 1]) = G21 at s21 e21 ⊢
    have bt18 : Bt Z K1 G21 [.ref a21, .ref a19, .ref a17, .ref a15, .ref a13, .ref a11, .ref a9, .ref a7, .ref a5, .str "nest", .ref a3, .ref a2, .ref a1, .bl true, .int 0, .non] := (bt17.skip s20).add s21 (odd_num e21 (s21 _ _ e20) (Nat.le_of_ble_eq_true rfl) (Nat.le_of_ble_eq_true rfl) rfl rfl)
    clear bt17
    clear n20 s20 e20 n21 s21 e21
    walk_at "hs"
    intro a22 n22
    have s22 : Same G21 (upd G21 a22 (.tup [.int 1])) := same_new (Same.refl _) n22
    have e22 : upd G21 a22 (.tup [.int 1]) a22 = some (.tup [.int 1]) := upd_same
    generalize upd G21 a22 (.tup [.int 1]) = G22 at s22 e22 ⊢
    walk_at "hs"
    intro a23 n23
    have s23 : Same G22 (upd G22 a23 (.tup [.ref a22])) := same_new (Same.refl _) n23
    have e23 : upd G22 a23 (.tup [.ref a22]) a23 = some (.tup [.ref a22]) := upd_same
    generalize upd G22 a23 (.tup [.ref a22]) = G23 at s23 e23 ⊢
    have bt19 : Bt Z K1 G23 [.ref a23, .ref a21, .ref a19, .ref a17, .ref a15, .ref a13, .ref a11, .ref a9, .ref a7, .ref a5, .str "nest", .ref a3, .ref a2, .ref a1, .bl true, .int 0, .non] := (bt18.skip s22).add s23 (odd_num e23 (s23 _ _ e22) (Nat.le_of_ble_eq_true rfl) (Nat.le_of_ble_eq_true rfl) rfl rfl)
    clear bt18
    clear n22 s22 e22 n23 s23 e23
    walk_at "hs"
    intro a24 n24
    have s24 : Same G23 (upd G23 a24 (.tup [.int 1])) := same_new (Same.refl _) n24
    have e24 : upd G23 a24 (.tup [.int 1]) a24 = some (.tup [.int 1]) := upd_same
    generalize upd G23 a24 (.tup [.int 1]) = G24 at s24 e24 ⊢
    walk_at "hs"
    intro a25 n25
    have s25 : Same G24 (upd G24 a25 (.lst [.ref a24, .int 1])) := same_new (Same.refl _) n25
    have e25 : upd G24 a25 (.lst [.ref a24, .int 1]) a25 = some (.lst [.ref a24, .int 1]) := upd_same
    generalize upd G24 a25 (.lst [.ref a24, .int 1]) = G25 at s25 e25 ⊢
    have bt20 : Bt Z K1 G25 [.ref a25, .ref a23, .ref a21, .ref a19, .ref a17, .ref a15, .ref a13, .ref a11, .ref a9, .ref a7, .ref a5, .str "nest", .ref a3, .ref a2, .ref a1, .bl true, .int 0, .non] := (bt19.skip s24).add s25 (odd_lst e25)
    clear bt19
    clear n24 s24 e24 n25 s25 e25
    walk_at "hs"
    intro a26 n26
    have s26 : Same G25 (upd G25 a26 (.tup [.int 1])) := same_new (Same.refl _) n26
    have e26 : upd G25 a26 (.tup [.int 1]) a26 = some (.tup [.int 1]) := upd_same
    generalize upd G25 a26 (.tup [.int 1]) = G26 at s26 e26 ⊢
    walk_at "hs"
    intro a27 n27
    have s27 : Same G26 (upd G26 a27 (.tup [.ref a26, .int (-1)])) := same_new (Same.refl _) n27
    have e27 : upd G26 a27 (.tup [.ref a26, .int (-1)]) a27 = some (.tup [.ref a26, .int (-1)]) := upd_same
    generalize upd G26 a27 (.tup [.ref a26, .int (-1)]) = G27 at s27 e27 ⊢
    have bt21 : Bt Z K1 G27 [.ref a27, .ref a25, .ref a23, .ref a21, .ref a19, .ref a17, .ref a15, .ref a13, .ref a11, .ref a9, .ref a7, .ref a5, .str "nest", .ref a3, .ref a2, .ref a1, .bl true, .int 0, .non] := (bt20.skip s26).add s27 (odd_num e27 (s27 _ _ e26) (Nat.le_of_ble_eq_true rfl) (Nat.le_of_ble_eq_true rfl) rfl rfl)
    clear bt20
    clear n26 s26 e26 n27 s27 e27
    walk_at "hs"
    intro a28 n28
    have s28 : Same G27 (upd G27 a28 (.tup [.int 1])) := same_new (Same.refl _) n28
    have e28 : upd G27 a28 (.tup [.int 1]) a28 = some (.tup [.int 1]) := upd_same
    generalize upd G27 a28 (.tup [.int 1]) = G28 at s28 e28 ⊢
    walk_at "hs"
    intro a29 n29
    have s29 : Same G28 (upd G28 a29 (.tup [.ref a28, .int (10 ^ Int.toNat 30)])) := same_new (Same.refl _) n29
    have e29 : upd G28 a29 (.tup [.ref a28, .int (10 ^ Int.toNat 30)]) a29 = some (.tup [.ref a28, .int (10 ^ Int.toNat 30)]) := upd_same
    generalize upd G28 a29 (.tup [.ref a28, .int (10 ^ Int.toNat 30)]) = G29 at s29 e29 ⊢
    have bt22 : Bt Z K1 G29 [.ref a29, .ref a27, .ref a25, .ref a23, .ref a21, .ref a19, .ref a17, .ref a15, .ref a13, .ref a11, .ref a9, .ref a7, .ref a5, .str "nest", .ref a3, .ref a2, .ref a1, .bl true, .int 0, .non] := (bt21.skip s28).add s29 (odd_num e29 (s29 _ _ e28) (Nat.le_of_ble_eq_true rfl) (Nat.le_of_ble_eq_true rfl) rfl rfl)
    clear bt21
    clear n28 s28 e28 n29 s29 e29
    walk_at "hs"
    have hwG29 := bt22.s _ _ (hb1.s _ _ hw)
    have bt23 : Bt Z K1 G29 [.ref wd, .ref a29, .ref a27, .ref a25, .ref a23, .ref a21, .ref a19, .ref a17, .ref a15, .ref a13, .ref a11, .ref a9, .ref a7, .ref a5, .str "nest", .ref a3, .ref a2, .ref a1, .bl true, .int 0, .non] := bt22.add (Same.refl _) (odd_ins hwG29)
    clear bt22
    clear hwG29
    intro O2 nO2
    have sO2 : Same G29 (upd G29 O2 (.lst [.ref a17, .ref a19, .ref a21, .ref a23, .ref a25, .ref a27, .ref a29, .ref wd])) := same_new (Same.refl _) nO2
    have eO2 : upd G29 O2 (.lst [.ref a17, .ref a19, .ref a21, .ref a23, .ref a25, .ref a27, .ref a29, .ref wd]) O2 = some (.lst [.ref a17, .ref a19, .ref a21, .ref a23, .ref a25, .ref a27, .ref a29, .ref wd]) := upd_same
    generalize upd G29 O2 (.lst [.ref a17, .ref a19, .ref a21, .ref a23, .ref a25, .ref a27, .ref a29, .ref wd]) = K2 at sO2 eO2 ⊢
    have bt24 : Bt Z K1 K2 [.ref wd, .ref a29, .ref a27, .ref a25, .ref a23, .ref a21, .ref a19, .ref a17, .ref a15, .ref a13, .ref a11, .ref a9, .ref a7, .ref a5, .str "nest", .ref a3, .ref a2, .ref a1, .bl true, .int 0, .non] := bt23.skip sO2
    clear bt23
    refine x_cat (bt24.s _ _ eO1) eO2 (szLe (by show 13 + 8 ≤ 100000; decide)) ?_
    intro O3 nO3
    have s3 : Same K2 (upd K2 O3 (.lst ([V.non, .int 0, .bl true, .ref a1, .ref a2, .ref a3, .str "nest", .ref a5, .ref a7, .ref a9, .ref a11, .ref a13, .ref a15] ++ [V.ref a17, .ref a19, .ref a21, .ref a23, .ref a25, .ref a27, .ref a29, .ref wd]))) := same_new (Same.refl _) nO3
    have e3 : upd K2 O3 (.lst ([V.non, .int 0, .bl true, .ref a1, .ref a2, .ref a3, .str "nest", .ref a5, .ref a7, .ref a9, .ref a11, .ref a13, .ref a15] ++ [V.ref a17, .ref a19, .ref a21, .ref a23, .ref a25, .ref a27, .ref a29, .ref wd])) O3 = some (.lst ([V.non, .int 0, .bl true, .ref a1, .ref a2, .ref a3, .str "nest", .ref a5, .ref a7, .ref a9, .ref a11, .ref a13, .ref a15] ++ [V.ref a17, .ref a19, .ref a21, .ref a23, .ref a25, .ref a27, .ref a29, .ref wd])) := upd_same
    generalize upd K2 O3 (.lst ([V.non, .int 0, .bl true, .ref a1, .ref a2, .ref a3, .str "nest", .ref a5, .ref a7, .ref a9, .ref a11, .ref a13, .ref a15] ++ [V.ref a17, .ref a19, .ref a21, .ref a23, .ref a25, .ref a27, .ref a29, .ref wd])) = K3 at s3 e3 ⊢
    have od : ∀ v ∈ [V.non, .int 0, .bl true, .ref a1, .ref a2, .ref a3, .str "nest", .ref a5, .ref a7, .ref a9, .ref a11, .ref a13, .ref a15] ++ [V.ref a17, .ref a19, .ref a21, .ref a23, .ref a25, .ref a27, .ref a29, .ref wd], OddI Z K3 v := fun v hv => (bt24.o v ((List.mem_reverse (as := [V.ref wd, .ref a29, .ref a27, .ref a25, .ref a23, .ref a21, .ref a19, .ref a17, .ref a15, .ref a13, .ref a11, .ref a9, .ref a7, .ref a5, .str "nest", .ref a3, .ref a2, .ref a1, .bl true, .int 0, .non])).mp (show v ∈ List.reverse [V.ref wd, .ref a29, .ref a27, .ref a25, .ref a23, .ref a21, .ref a19, .ref a17, .ref a15, .ref a13, .ref a11, .ref a9, .ref a7, .ref a5, .str "nest", .ref a3, .ref a2, .ref a1, .bl true, .int 0, .non] from hv))).same s3
    have lz : ([V.non, .int 0, .bl true, .ref a1, .ref a2, .ref a3, .str "nest", .ref a5, .ref a7, .ref a9, .ref a11, .ref a13, .ref a15] ++ [V.ref a17, .ref a19, .ref a21, .ref a23, .ref a25, .ref a27, .ref a29, .ref wd]).length = 21 := rfl
    have s03 : Same H K3 := (hb1.s.trans bt24.s).trans s3
    have nO3p : O3 ≠ p := (hp.same (hb1.s.trans bt24.s)).ne nO3
    have wk3 : Wk Z H K3 p Fo m x := ⟨.of s03, hp.same s03, hx.same s03⟩
    clear bt24 hb1 eO1 eO2 nO2 sO2 s3 nO3 s03 hw hp hx
    generalize [V.non, .int 0, .bl true, .ref a1, .ref a2, .ref a3, .str "nest", .ref a5, .ref a7, .ref a9, .ref a11, .ref a13, .ref a15] ++ [V.ref a17, .ref a19, .ref a21, .ref a23, .ref a25, .ref a27, .ref a29, .ref wd] = zs at e3 od lz
    walk_at "hs"
    refine ⟨p, _, rfl, wk3.pl, fun v H4 ov b4 p4 => ?_⟩
    have l4 := LsB.of_but b4 wk3.pl p4
    have wk4 := wk3.but b4 p4
    have e4 := b4 _ _ nO3p e3
    have od4 : ∀ v ∈ zs, OddI Z H4 v := fun v hv => (od v hv).lsb l4
    clear wk3 e3 od l4 b4 p4
    walk_at "hs"
    intro O5 nO5
    have s5 : Same H4 (upd H4 O5 (.lst [v])) := same_new (Same.refl _) nO5
    have e5 : upd H4 O5 (.lst [v]) O5 = some (.lst [v]) := upd_same
    generalize upd H4 O5 (.lst [v]) = H5 at s5 e5 ⊢
    refine x_cat (s5 _ _ e4) e5 (szLe (by rw [lz]; show 21 + 1 ≤ 100000; decide)) ?_
    intro O6 nO6
    have s6 : Same H5 (upd H5 O6 (.lst (zs ++ [v]))) := same_new (Same.refl _) nO6
    have e6 : upd H5 O6 (.lst (zs ++ [v])) O6 = some (.lst (zs ++ [v])) := upd_same
    generalize upd H5 O6 (.lst (zs ++ [v])) = H6 at s6 e6 ⊢
    have s46 := s5.trans s6
    have wk6 := wk4.same s46
    refine ⟨p, O6, _, _, rfl, wk6.pl, .of e6, (wk4.same s5).pl.ne nO6, by rw [List.length_append, lz]; exact Nat.lt_of_lt_of_le (by decide : 0 < 21) (Nat.le_add_right _ _), by rw [List.length_append, lz]; show 21 + 1 ≤ 1000; decide, fun y H7 hy b7 p7 => ?_⟩
    have wk := wk6.but b7 p7
    have oy : OddI Z H7 y := by
      refine OddI.lsb ?_ (.of_but b7 wk6.pl p7)
      rcases List.mem_append.mp hy with hy | hy
      · exact (od4 y hy).same s46
      · rw [List.mem_singleton.mp hy]
        exact ov.same s46
    clear hy b7 p7 wk6 s46 wk4 e6 s6 nO6 e5 s5 nO5 od4 e4 ov lz
    walk_at "hs"
    refine kv_tuple I wk.th.kv.kv ?_
    cases e : tupOf H7 x with
    | none =>
      dsimp only [Option.isSome_none]
      walk_at "hs"
      intro A nA
      have sA : Same H7 (upd H7 A (.tup [y])) := same_new (Same.refl _) nA
      have eA : upd H7 A (.tup [y]) A = some (.tup [y]) := upd_same
      generalize upd H7 A (.tup [y]) = J1 at sA eA ⊢
      have wk1 := wk.same sA
      have oy1 := oy.same sA
      have e1 := tupOf_same sA wk.th.kv.kv
      rw [e] at e1
      clear sA nA
      walk_at "hs"
      refine kv_tuple I wk1.th.kv.kv ?_
      rw [e1]
      dsimp only [Option.isSome_none]
      walk_at "hs"
      intro L nL
      have s13 : Same J1 (upd J1 L (.lst [y, .ref A, x])) := same_new (Same.refl _) nL
      have eL : upd J1 L (.lst [y, .ref A, x]) L = some (.lst [y, .ref A, x]) := upd_same
      generalize upd J1 L (.lst [y, .ref A, x]) = J3 at s13 eL ⊢
      have wk3 := wk1.same s13
      refine ⟨p, L, _, _, rfl, wk3.pl, .of eL, wk1.pl.ne nL, by show 0 < 3; decide, by show 3 ≤ 1000; decide, fun v J4 hv b4 p4 => ?_⟩
      have wk4 := wk3.but b4 p4
      have tv : ThA Z J4 (m + 1) v := by
        refine ThA.lsb ?_ (.of_but b4 wk3.pl p4)
        simp only [List.mem_cons, List.not_mem_nil, or_false] at hv
        rcases hv with rfl | rfl | rfl
        · exact (oy1.same s13).tha (by omega)
        · exact one_tha (s13 _ _ eA) (oy1.same s13) (by omega)
        · exact ⟨wk3.th.kv.le (by omega), wk3.th.th⟩
      walk_at "hs"
      exact q v J4 tv wk4.b wk4.pl
    | some xs =>
    obtain ⟨T, rfl, hT⟩ := tupOf_ref e
    have lx := (wk.th.kv.tup e).1
    have tT : SqT K H7 T xs := .of hT
    dsimp only [Option.isSome_some]
    walk_at "hs"
    refine x_isd (fun c0 => ?_) (fun c0 => ?_)
    · clear tT
      walk_at "hs"
      intro A nA
      have sA : Same H7 (upd H7 A (.tup [y])) := same_new (Same.refl _) nA
      have eA : upd H7 A (.tup [y]) A = some (.tup [y]) := upd_same
      generalize upd H7 A (.tup [y]) = J1 at sA eA ⊢
      have wk1 := wk.same sA
      have oy1 := oy.same sA
      have hT1 := sA _ _ hT
      have tT1 : SqT K J1 T xs := .of hT1
      clear sA nA
      walk_at "hs"
      intro B1 nB
      have sB : Same J1 (upd J1 B1 (.lst xs)) := same_new (Same.refl _) nB
      have eB : upd J1 B1 (.lst xs) B1 = some (.lst xs) := upd_same
      generalize upd J1 B1 (.lst xs) = J2 at sB eB ⊢
      walk_at "hs"
      intro L nL
      have sL : Same J2 (upd J2 L (.lst [y, .ref A, .ref B1])) := same_new (Same.refl _) nL
      have eL : upd J2 L (.lst [y, .ref A, .ref B1]) L = some (.lst [y, .ref A, .ref B1]) := upd_same
      generalize upd J2 L (.lst [y, .ref A, .ref B1]) = J3 at sL eL ⊢
      have s13 := sB.trans sL
      have wk3 := wk1.same s13
      refine ⟨p, L, _, _, rfl, wk3.pl, .of eL, (wk1.same sB).pl.ne nL, by show 0 < 3; decide, by show 3 ≤ 1000; decide, fun v J4 hv b4 p4 => ?_⟩
      have wk4 := wk3.but b4 p4
      have tv : ThA Z J4 (m + 1) v := by
        refine ThA.lsb ?_ (.of_but b4 wk3.pl p4)
        simp only [List.mem_cons, List.not_mem_nil, or_false] at hv
        rcases hv with rfl | rfl | rfl
        · exact (oy1.same s13).tha (by omega)
        · exact one_tha (s13 _ _ eA) (oy1.same s13) (by omega)
        · exact lst_tha (sL _ _ eB)
      walk_at "hs"
      exact q v J4 tv wk4.b wk4.pl
    walk_at "hs"
    refine ⟨p, 8, _, rfl, wk.pl, by decide, by decide, fun d H8 d0 d1 b8 p8 => ?_⟩
    have wk8 := wk.but b8 p8
    have oy8 := oy.lsb (.of_but b8 wk.pl p8)
    obtain ⟨ps, epl⟩ := wk.pl.lst
    have hT := but_tup b8 epl hT
    clear b8 p8 epl ps wk oy tT e
    walk_at "hs"
    refine x_isd (fun c1 => ?_) (fun c1 => ?_)
    · clear d0 d1
      walk_at "hs"
      intro A nA
      have sA : Same H8 (upd H8 A (.tup [y])) := same_new (Same.refl _) nA
      have eA : upd H8 A (.tup [y]) A = some (.tup [y]) := upd_same
      generalize upd H8 A (.tup [y]) = J1 at sA eA ⊢
      have wk1 := wk8.same sA
      have oy1 := oy8.same sA
      have hT1 := sA _ _ hT
      have tT1 : SqT K J1 T xs := .of hT1
      clear sA nA
      walk_at "hs"
      intro B1 nB
      have sB : Same J1 (upd J1 B1 (.lst xs)) := same_new (Same.refl _) nB
      have eB : upd J1 B1 (.lst xs) B1 = some (.lst xs) := upd_same
      generalize upd J1 B1 (.lst xs) = J2 at sB eB ⊢
      walk_at "hs"
      intro L nL
      have sL : Same J2 (upd J2 L (.lst [y, .ref A, .ref B1])) := same_new (Same.refl _) nL
      have eL : upd J2 L (.lst [y, .ref A, .ref B1]) L = some (.lst [y, .ref A, .ref B1]) := upd_same
      generalize upd J2 L (.lst [y, .ref A, .ref B1]) = J3 at sL eL ⊢
      have s13 := sB.trans sL
      have wk3 := wk1.same s13
      refine ⟨p, L, _, _, rfl, wk3.pl, .of eL, (wk1.same sB).pl.ne nL, by show 0 < 3; decide, by show 3 ≤ 1000; decide, fun v J4 hv b4 p4 => ?_⟩
      have wk4 := wk3.but b4 p4
      have tv : ThA Z J4 (m + 1) v := by
        refine ThA.lsb ?_ (.of_but b4 wk3.pl p4)
        simp only [List.mem_cons, List.not_mem_nil, or_false] at hv
        rcases hv with rfl | rfl | rfl
        · exact (oy1.same s13).tha (by omega)
        · exact one_tha (s13 _ _ eA) (oy1.same s13) (by omega)
        · exact lst_tha (sL _ _ eB)
      walk_at "hs"
      exact q v J4 tv wk4.b wk4.pl
    have tT : SqT K H8 T xs := .of hT
    clear d0 d1 c1
    walk_at "hs"
    refine ⟨p, xs.length, _, rfl, wk8.pl, by omega, by omega, fun k0 H9 k00 k01 b9 p9 => ?_⟩
    obtain ⟨k, rfl⟩ := Int.eq_ofNat_of_zero_le k00
    have hk : k < xs.length := by omega
    have wk9 := wk8.but b9 p9
    have oy9 := oy8.lsb (.of_but b9 wk8.pl p9)
    obtain ⟨ps, epl⟩ := wk8.pl.lst
    have hT9 := but_tup b9 epl hT
    have tT9 : SqT K H9 T xs := .of hT9
    have atk : atI xs (k : Int) = some xs[k] := atI_nat (List.getElem?_eq_getElem hk)
    have mk : xs[k] ∈ xs := List.getElem_mem hk
    have kv9 := (wk9.th.kv.tup (tupOf_o hT9)).2 _ mk
    have pr9 := wk9.th.th _ (tupOf_o hT9) _ mk
    generalize xs[k] = v at atk kv9 pr9
    clear b9 p9 wk8 oy8 epl ps hT tT k00 k01 mk
    walk_at "hs"
    intro A1 nA1
    have s1 : Same H9 (upd H9 A1 (.tup [y])) := same_new (Same.refl _) nA1
    have e1 : upd H9 A1 (.tup [y]) A1 = some (.tup [y]) := upd_same
    generalize upd H9 A1 (.tup [y]) = J1 at s1 e1 ⊢
    walk_at "hs"
    intro A2 nA2
    have s2 : Same J1 (upd J1 A2 (.tup [])) := same_new (Same.refl _) nA2
    have e2 : upd J1 A2 (.tup []) A2 = some (.tup []) := upd_same
    generalize upd J1 A2 (.tup []) = J2 at s2 e2 ⊢
    walk_at "hs"
    intro A3 nA3
    have s3 : Same J2 (upd J2 A3 (.tup [v, v])) := same_new (Same.refl _) nA3
    have e3 : upd J2 A3 (.tup [v, v]) A3 = some (.tup [v, v]) := upd_same
    generalize upd J2 A3 (.tup [v, v]) = J3 at s3 e3 ⊢
    walk_at "hs"
    intro L nL
    have s4 : Same J3 (upd J3 L (.lst [.ref A1, .ref A2, .ref A3])) := same_new (Same.refl _) nL
    have e4 : upd J3 L (.lst [.ref A1, .ref A2, .ref A3]) L = some (.lst [.ref A1, .ref A2, .ref A3]) := upd_same
    generalize upd J3 L (.lst [.ref A1, .ref A2, .ref A3]) = J4 at s4 e4 ⊢
    have s14 := (s1.trans s2).trans (s3.trans s4)
    have wk4 := wk9.same s14
    have hT4 := s14 _ _ hT9
    have kv4 := kv9.same s14
    have pr4 := pr9.lsb kv9 (.of_same s14)
    have nLp : L ≠ p := (wk9.same ((s1.trans s2).trans s3)).pl.ne nL
    have sp4 : ∀ z ∈ [V.ref A1, .ref A2, .ref A3], Spl Z J4 (m + 1) z := fun z hz => by
      have oy4 := oy9.same s14
      simp only [List.mem_cons, List.not_mem_nil, or_false] at hz
      rcases hz with rfl | rfl | rfl
      · exact .one ((s2.trans s3).trans s4 _ _ e1) (oy4.kv.le (by omega)) oy4.pr
      · exact ⟨A2, [], rfl, (s3.trans s4) _ _ e2, Nat.zero_le _, fun x h => nomatch h⟩
      · exact ⟨A3, _, rfl, s4 _ _ e3, Nat.le_refl 2, fun x h => by
          have : x = v := by
            rcases List.mem_cons.mp h with h | h
            · exact h
            · exact List.mem_singleton.mp h
          subst this
          exact ⟨kv4.le (by omega), pr4⟩⟩
    clear e1 e2 e3 s1 s2 s3 s4 s14 nA1 nA2 nA3 nL wk9 oy9 hT9 tT9 kv9 pr9 atk
    walk_at "hs"
    refine ⟨fun σ' G => (∃ x9 x10 x11 L zs, σ' = [some (.ref p), some (.int n), some (.ref T), some (.ref wd), some (.ref O3), some y, some (.int (k : Nat)), some v, some (.ref L), x9, x10, x11, none] ∧ G L = some (.lst zs) ∧ L ≠ p ∧ 0 < zs.length ∧ zs.length ≤ 20 ∧ ∀ z ∈ zs, Spl Z G (m + 1) z) ∧ G T = some (.tup xs) ∧ Wk Z H G p Fo m (.ref T), ?_, ?_⟩
    · walk_at "hs"
      refine kv_tuple I kv4.kv ?_
      have stay := fun (hh : True) => (⟨⟨_, _, _, _, _, rfl, e4, nLp, by show 0 < 3; decide, by show 3 ≤ 20; decide, sp4⟩, hT4, wk4⟩ : (∃ x9 x10 x11 L' zs, [some (V.ref p), some (.int (n : Int)), some (.ref T), some (.ref wd), some (.ref O3), some y, some (.int (k : Nat)), some v, some (.ref L), none, none, none, none] = [some (.ref p), some (.int n), some (.ref T), some (.ref wd), some (.ref O3), some y, some (.int (k : Nat)), some v, some (.ref L'), x9, x10, x11, none] ∧ J4 L' = some (.lst zs) ∧ L' ≠ p ∧ 0 < zs.length ∧ zs.length ≤ 20 ∧ ∀ z ∈ zs, Spl Z J4 (m + 1) z) ∧ J4 T = some (.tup xs) ∧ Wk Z H J4 p Fo m (.ref T))
      cases e : tupOf J4 v with
      | none =>
        dsimp only [Option.isSome_none]
        walk_at "hs"
        exact stay trivial
      | some ys =>
      obtain ⟨a, rfl, ha⟩ := tupOf_ref e
      have ly := (kv4.tup e).1
      have sa : SqT K J4 a ys := .of ha
      dsimp only [Option.isSome_some]
      walk_at "hs"
      refine x_isd (fun c2 => ?_) (fun c2 => ?_)
      rotate_left
      · walk_at "hs"
        exact stay trivial
      obtain ⟨l, z, rfl⟩ := two_of (show ys.length = 2 by omega)
      have kl := (kv4.tup e).2 l List.mem_cons_self
      have kz := (kv4.tup e).2 z (List.mem_cons_of_mem _ List.mem_cons_self)
      walk_at "hs"
      refine kv_tuple I kl.kv ?_
      cases e3 : tupOf J4 l with
      | none =>
        dsimp only [Option.isSome_none]
        walk_at "hs"
        exact stay trivial
      | some ls =>
      have nums := pr4 l z ls e e3
      obtain ⟨D, rfl, hD⟩ := tupOf_ref e3
      have ll := (kl.tup e3).1
      have sD : SqT K J4 D ls := .of hD
      dsimp only [Option.isSome_some]
      walk_at "hs"
      refine ⟨z, -9, rfl, kz.kv, ?_⟩
      cases hg : geV (-9) z with
      | false =>
        walk_at "hs"
        exact stay trivial
      | true =>
      obtain ⟨i, rfl⟩ : ∃ i, z = .int i := by
        cases z with
        | int i => exact ⟨i, rfl⟩
        | _ => cases hg
      clear hg stay kz kl kv4 pr4
      walk_at "hs"
      refine ⟨p, n, _, rfl, wk4.pl, by omega, by omega, fun d0 KK dd0 dd1 bK pK => ?_⟩
      obtain ⟨d, rfl⟩ := Int.eq_ofNat_of_zero_le dd0
      have th0 : Th Z H p Fo m T xs D ls KK L [V.ref A1, .ref A2, .ref A3] := by
        obtain ⟨ps, epl⟩ := wk4.pl.lst
        exact ⟨bK _ _ nLp e4, nLp, fun z hz => (sp4 z hz).lsb (.of_but bK wk4.pl pK), but_tup bK epl hD, but_tup bK epl hT4, wk4.but bK pK⟩
      have z0 : 0 < [V.ref A1, .ref A2, .ref A3].length ∧ [V.ref A1, .ref A2, .ref A3].length ≤ 3 := ⟨by show 0 < 3; decide, Nat.le_refl _⟩
      have hn : ls.all NumB = true := List.all_eq_true.mpr nums
      have hD0 : KK D = some (.tup ls) := th0.hD
      clear dd0 bK pK wk4 sp4 e4 nLp hD sD sa ha nums hT4
      generalize [V.ref A1, .ref A2, .ref A3] = zs0 at th0 z0 ⊢
      walk_at "hs"
      have bs1 : Bs Z (m + 1) KK KK [] := ⟨Same.refl _, fun v h => nomatch h⟩
      intro b1 w1
      have u1 : Same KK (upd KK b1 (.tup [.ref D, .int (i + 1)])) := same_new (Same.refl _) w1
      have f1 : upd KK b1 (.tup [.ref D, .int (i + 1)]) b1 = some (.tup [.ref D, .int (i + 1)]) := upd_same
      generalize upd KK b1 (.tup [.ref D, .int (i + 1)]) = V1 at u1 f1 ⊢
      walk_at "hs"
      intro b2 w2
      have u2 : Same V1 (upd V1 b2 (.tup [.ref b1])) := same_new (Same.refl _) w2
      have f2 : upd V1 b2 (.tup [.ref b1]) b2 = some (.tup [.ref b1]) := upd_same
      generalize upd V1 b2 (.tup [.ref b1]) = V2 at u2 f2 ⊢
      have bs2 : Bs Z (m + 1) KK V2 [.ref b2] := (bs1.skip u1).add u2 (Spl.pair f2 (u2 _ _ f1) (u2 _ _ (u1 _ _ (bs1.s _ _ hD0))) (by omega) (by omega) (hn))
      clear bs1
      clear u1 f1 w1 u2 f2 w2
      walk_at "hs"
      intro b3 w3
      have u3 : Same V2 (upd V2 b3 (.tup [.ref D, .int (i - 1)])) := same_new (Same.refl _) w3
      have f3 : upd V2 b3 (.tup [.ref D, .int (i - 1)]) b3 = some (.tup [.ref D, .int (i - 1)]) := upd_same
      generalize upd V2 b3 (.tup [.ref D, .int (i - 1)]) = V3 at u3 f3 ⊢
      walk_at "hs"
      intro b4 w4
      have u4 : Same V3 (upd V3 b4 (.tup [.ref b3])) := same_new (Same.refl _) w4
      have f4 : upd V3 b4 (.tup [.ref b3]) b4 = some (.tup [.ref b3]) := upd_same
      generalize upd V3 b4 (.tup [.ref b3]) = V4 at u4 f4 ⊢
      have bs3 : Bs Z (m + 1) KK V4 [.ref b4, .ref b2] := (bs2.skip u3).add u4 (Spl.pair f4 (u4 _ _ f3) (u4 _ _ (u3 _ _ (bs2.s _ _ hD0))) (by omega) (by omega) (hn))
      clear bs2
      clear u3 f3 w3 u4 f4 w4
      walk_at "hs"
      refine x_slA (bs3.s _ _ hD0) fun Dc Gc sc ec => ?_
      rw [show (1 : Int) = ((1 : Nat) : Int) from rfl, cut_drop] at ec
      walk_at "hs"
      intro b5 w5
      have u5 : Same Gc (upd Gc b5 (.tup [.ref Dc, .int i])) := same_new (Same.refl _) w5
      have f5 : upd Gc b5 (.tup [.ref Dc, .int i]) b5 = some (.tup [.ref Dc, .int i]) := upd_same
      generalize upd Gc b5 (.tup [.ref Dc, .int i]) = V5 at u5 f5 ⊢
      walk_at "hs"
      intro b6 w6
      have u6 : Same V5 (upd V5 b6 (.tup [.ref b5])) := same_new (Same.refl _) w6
      have f6 : upd V5 b6 (.tup [.ref b5]) b6 = some (.tup [.ref b5]) := upd_same
      generalize upd V5 b6 (.tup [.ref b5]) = V6 at u6 f6 ⊢
      have bs4 : Bs Z (m + 1) KK V6 [.ref b6, .ref b4, .ref b2] := ((bs3.skip sc).skip u5).add u6 (Spl.pair f6 (u6 _ _ f5) (u6 _ _ (u5 _ _ (ec))) (by omega) (by rw [List.length_drop]; omega) (List.all_eq_true.mpr fun z hz => nums_of hn z (List.mem_of_mem_drop hz)))
      clear bs3
      clear u5 f5 w5 u6 f6 w6
      walk_at "hs"
      clear sc ec
      refine x_revT ?_
      have hDr := bs4.s _ _ hD0
      walk_at "hs"
      refine ⟨D, ls, rfl, .of hDr, ?_⟩
      intro b7 w7
      have u7 : Same V6 (upd V6 b7 (.tup ls.reverse)) := same_new (Same.refl _) w7
      have f7 : upd V6 b7 (.tup ls.reverse) b7 = some (.tup ls.reverse) := upd_same
      generalize upd V6 b7 (.tup ls.reverse) = V7 at u7 f7 ⊢
      walk_at "hs"
      intro b8 w8
      have u8 : Same V7 (upd V7 b8 (.tup [.ref b7, .int i])) := same_new (Same.refl _) w8
      have f8 : upd V7 b8 (.tup [.ref b7, .int i]) b8 = some (.tup [.ref b7, .int i]) := upd_same
      generalize upd V7 b8 (.tup [.ref b7, .int i]) = V8 at u8 f8 ⊢
      walk_at "hs"
      intro b9 w9
      have u9 : Same V8 (upd V8 b9 (.tup [.ref b8])) := same_new (Same.refl _) w9
      have f9 : upd V8 b9 (.tup [.ref b8]) b9 = some (.tup [.ref b8]) := upd_same
      generalize upd V8 b9 (.tup [.ref b8]) = V9 at u9 f9 ⊢
      have bs5 : Bs Z (m + 1) KK V9 [.ref b9, .ref b6, .ref b4, .ref b2] := ((bs4.skip u7).skip u8).add u9 (Spl.pair f9 (u9 _ _ f8) (u9 _ _ (u8 _ _ (f7))) (by omega) (by rw [List.length_reverse]; omega) (List.all_eq_true.mpr fun z hz => nums_of hn z (List.mem_reverse.mp hz)))
      clear bs4
      clear u8 f8 w8 u9 f9 w9
      walk_at "hs"
      clear hDr u7 f7 w7
      intro b10 w10
      have u10 : Same V9 (upd V9 b10 (.lst [.ref b2, .ref b4, .ref b6, .ref b9])) := same_new (Same.refl _) w10
      have f10 : upd V9 b10 (.lst [.ref b2, .ref b4, .ref b6, .ref b9]) b10 = some (.lst [.ref b2, .ref b4, .ref b6, .ref b9]) := upd_same
      generalize upd V9 b10 (.lst [.ref b2, .ref b4, .ref b6, .ref b9]) = V10 at u10 f10 ⊢
      refine x_cat ((bs5.s.trans u10) _ _ th0.eL) f10 (szLe (by have := z0; show _ + 4 ≤ 100000; omega)) ?_
      intro b11 w11
      have u11 : Same V10 (upd V10 b11 (.lst (zs0 ++ [V.ref b2, .ref b4, .ref b6, .ref b9]))) := same_new (Same.refl _) w11
      have f11 : upd V10 b11 (.lst (zs0 ++ [V.ref b2, .ref b4, .ref b6, .ref b9])) b11 = some (.lst (zs0 ++ [V.ref b2, .ref b4, .ref b6, .ref b9])) := upd_same
      generalize upd V10 b11 (.lst (zs0 ++ [V.ref b2, .ref b4, .ref b6, .ref b9])) = V11 at u11 f11 ⊢
      have sx : Same KK V11 := (bs5.s.trans u10).trans u11
      have th1 := th0.cat sx f11 ((bs5.s.trans u10).free w11) (fun z hz => (bs5.o z ((List.mem_reverse (as := [V.ref b9, .ref b6, .ref b4, .ref b2])).mp (show z ∈ List.reverse [V.ref b9, .ref b6, .ref b4, .ref b2] from hz))).same (u10.trans u11))
      have z1 : 0 < (zs0 ++ [V.ref b2, .ref b4, .ref b6, .ref b9]).length ∧ (zs0 ++ [V.ref b2, .ref b4, .ref b6, .ref b9]).length ≤ 7 := by rw [List.length_append]; have := z0; exact ⟨by show 0 < _ + 4; omega, by show _ + 4 ≤ 7; omega⟩
      have hD1 : V11 D = some (.tup ls) := th1.hD
      clear th0 z0 hD0 bs5 sx u10 f10 w10 u11 f11 w11
      generalize zs0 ++ [V.ref b2, .ref b4, .ref b6, .ref b9] = zs1 at th1 z1 ⊢
      walk_at "hs"
      refine ⟨1, (n : Int) + 1, rfl, ⟨by omega, by omega, by omega, by omega⟩, fun E nE => ?_⟩
      refine lc_range (lo := 1) (n := Int.toNat ((n : Int) + 1 - 1)) (fun j G => (Same V11 G ∧ True) ∧ ∃ l : List Nat, G E = some (.lst (nats l)) ∧ l.length ≤ j) ⟨⟨same_new (Same.refl _) nE, trivial⟩, [], upd_same, Nat.le_refl _⟩ ?_ ?_
      · rintro j G hj ⟨sG, l, eE, ll'⟩
        have sDG : SqT K G D ls := .of (sG.1 _ _ hD1)
        have put : ∃ acc, G E = some (.lst acc) ∧ acc.length < sizeLine ∧ (Same V11 (upd G E (.lst (acc ++ [.int (1 + (j : Int))]))) ∧ True) ∧ ∃ l : List Nat, upd G E (.lst (acc ++ [.int (1 + (j : Int))])) E = some (.lst (nats l)) ∧ l.length ≤ j + 1 := by
          refine ⟨_, eE, szLt (by rw [nats_length]; omega), ⟨same_mut sG.1 nE, trivial⟩, l ++ [1 + j], ?_, by rw [List.length_append]; show l.length + 1 ≤ _; omega⟩
          rw [upd_same, nats_append, show (1 : Int) + (j : Int) = ((1 + j : Nat) : Int) by omega]
          rfl
        walk_at "hs"
        refine ⟨rfl, ?_⟩
        walk_at "hs"
        refine x_inNum sDG hn fun b => ?_
        cases b with
        | true =>
          walk_at "hs"
          exact put
        | false =>
          walk_at "hs"
          refine x_isd (fun c => ?_) (fun c => ?_)
          · walk_at "hs"
            exact put
          · walk_at "hs"
            exact ⟨sG, l, eE, by omega⟩
      rintro G ⟨sG, l, eE, ll'⟩
      have sE := sG.1
      clear sG
      walk_at "hs"
      have bs6 : Bs Z (m + 1) V11 G [] := ⟨sE, fun v h => nomatch h⟩
      intro b12 w12
      have u12 : Same G (upd G b12 (.tup (nats l))) := same_new (Same.refl _) w12
      have f12 : upd G b12 (.tup (nats l)) b12 = some (.tup (nats l)) := upd_same
      generalize upd G b12 (.tup (nats l)) = V12 at u12 f12 ⊢
      walk_at "hs"
      intro b13 w13
      have u13 : Same V12 (upd V12 b13 (.tup [.ref b12, .int i])) := same_new (Same.refl _) w13
      have f13 : upd V12 b13 (.tup [.ref b12, .int i]) b13 = some (.tup [.ref b12, .int i]) := upd_same
      generalize upd V12 b13 (.tup [.ref b12, .int i]) = V13 at u13 f13 ⊢
      walk_at "hs"
      intro b14 w14
      have u14 : Same V13 (upd V13 b14 (.tup [.ref b13])) := same_new (Same.refl _) w14
      have f14 : upd V13 b14 (.tup [.ref b13]) b14 = some (.tup [.ref b13]) := upd_same
      generalize upd V13 b14 (.tup [.ref b13]) = V14 at u14 f14 ⊢
      have bs7 : Bs Z (m + 1) V11 V14 [.ref b14] := ((bs6.skip u12).skip u13).add u14 (Spl.pair f14 (u14 _ _ f13) (u14 _ _ (u13 _ _ (f12))) (by omega) (by rw [nats_length]; omega) (num_nats l))
      clear bs6
      clear u13 f13 w13 u14 f14 w14
      walk_at "hs"
      clear u12 f12 w12 sE eE ll' nE
      intro b15 w15
      have u15 : Same V14 (upd V14 b15 (.lst [.ref b14])) := same_new (Same.refl _) w15
      have f15 : upd V14 b15 (.lst [.ref b14]) b15 = some (.lst [.ref b14]) := upd_same
      generalize upd V14 b15 (.lst [.ref b14]) = V15 at u15 f15 ⊢
      refine x_cat ((bs7.s.trans u15) _ _ th1.eL) f15 (szLe (by have := z1; show _ + 1 ≤ 100000; omega)) ?_
      intro b16 w16
      have u16 : Same V15 (upd V15 b16 (.lst (zs1 ++ [V.ref b14]))) := same_new (Same.refl _) w16
      have f16 : upd V15 b16 (.lst (zs1 ++ [V.ref b14])) b16 = some (.lst (zs1 ++ [V.ref b14])) := upd_same
      generalize upd V15 b16 (.lst (zs1 ++ [V.ref b14])) = V16 at u16 f16 ⊢
      have sx : Same V11 V16 := (bs7.s.trans u15).trans u16
      have th2 := th1.cat sx f16 ((bs7.s.trans u15).free w16) (fun z hz => (bs7.o z ((List.mem_reverse (as := [V.ref b14])).mp (show z ∈ List.reverse [V.ref b14] from hz))).same (u15.trans u16))
      have z2 : 0 < (zs1 ++ [V.ref b14]).length ∧ (zs1 ++ [V.ref b14]).length ≤ 8 := by rw [List.length_append]; have := z1; exact ⟨by show 0 < _ + 1; omega, by show _ + 1 ≤ 8; omega⟩
      have hD2 : V16 D = some (.tup ls) := th2.hD
      clear th1 z1 hD1 bs7 sx u15 f15 w15 u16 f16 w16
      generalize zs1 ++ [V.ref b14] = zs2 at th2 z2 ⊢
      walk_at "hs"
      have bs8 : Bs Z (m + 1) V16 V16 [] := ⟨Same.refl _, fun v h => nomatch h⟩
      intro b17 w17
      have u17 : Same V16 (upd V16 b17 (.tup [.int (1 + (d : Int))])) := same_new (Same.refl _) w17
      have f17 : upd V16 b17 (.tup [.int (1 + (d : Int))]) b17 = some (.tup [.int (1 + (d : Int))]) := upd_same
      generalize upd V16 b17 (.tup [.int (1 + (d : Int))]) = V17 at u17 f17 ⊢
      refine x_catA (u17 _ _ hD2) f17 (by show ls.length + 1 ≤ _; omega) fun Dc Gc sc ec => ?_
      walk_at "hs"
      intro b18 w18
      have u18 : Same Gc (upd Gc b18 (.tup [.ref Dc, .int i])) := same_new (Same.refl _) w18
      have f18 : upd Gc b18 (.tup [.ref Dc, .int i]) b18 = some (.tup [.ref Dc, .int i]) := upd_same
      generalize upd Gc b18 (.tup [.ref Dc, .int i]) = V18 at u18 f18 ⊢
      walk_at "hs"
      intro b19 w19
      have u19 : Same V18 (upd V18 b19 (.tup [.ref b18])) := same_new (Same.refl _) w19
      have f19 : upd V18 b19 (.tup [.ref b18]) b19 = some (.tup [.ref b18]) := upd_same
      generalize upd V18 b19 (.tup [.ref b18]) = V19 at u19 f19 ⊢
      have bs9 : Bs Z (m + 1) V16 V19 [.ref b19] := ((bs8.skip (u17.trans sc)).skip u18).add u19 (Spl.pair f19 (u19 _ _ f18) (u19 _ _ (u18 _ _ (ec))) (by omega) (by rw [List.length_append]; show ls.length + 1 ≤ _; omega) (by rw [List.all_append, hn]; rfl))
      clear bs8
      clear u18 f18 w18 u19 f19 w19
      walk_at "hs"
      clear sc ec u17 f17 w17
      refine x_listT (.of (bs9.s _ _ hD2)) ?_
      intro b20 w20
      have u20 : Same V19 (upd V19 b20 (.lst ls)) := same_new (Same.refl _) w20
      have f20 : upd V19 b20 (.lst ls) b20 = some (.lst ls) := upd_same
      generalize upd V19 b20 (.lst ls) = V20 at u20 f20 ⊢
      walk_at "hs"
      intro b21 w21
      have u21 : Same V20 (upd V20 b21 (.tup [.ref b20, .int i])) := same_new (Same.refl _) w21
      have f21 : upd V20 b21 (.tup [.ref b20, .int i]) b21 = some (.tup [.ref b20, .int i]) := upd_same
      generalize upd V20 b21 (.tup [.ref b20, .int i]) = V21 at u21 f21 ⊢
      walk_at "hs"
      intro b22 w22
      have u22 : Same V21 (upd V21 b22 (.tup [.ref b21])) := same_new (Same.refl _) w22
      have f22 : upd V21 b22 (.tup [.ref b21]) b22 = some (.tup [.ref b21]) := upd_same
      generalize upd V21 b22 (.tup [.ref b21]) = V22 at u22 f22 ⊢
      have bs10 : Bs Z (m + 1) V16 V22 [.ref b22, .ref b19] := ((bs9.skip u20).skip u21).add u22 (Spl.pairL f22 (u22 _ _ f21) (u22 _ _ (u21 _ _ (f20))) (by omega))
      clear bs9
      clear u21 f21 w21 u22 f22 w22
      walk_at "hs"
      clear u20 f20 w20
      intro b23 w23
      have u23 : Same V22 (upd V22 b23 (.tup [.int (1 + (d : Int))])) := same_new (Same.refl _) w23
      have f23 : upd V22 b23 (.tup [.int (1 + (d : Int))]) b23 = some (.tup [.int (1 + (d : Int))]) := upd_same
      generalize upd V22 b23 (.tup [.int (1 + (d : Int))]) = V23 at u23 f23 ⊢
      walk_at "hs"
      intro b24 w24
      have u24 : Same V23 (upd V23 b24 (.tup [.ref b23, .int i])) := same_new (Same.refl _) w24
      have f24 : upd V23 b24 (.tup [.ref b23, .int i]) b24 = some (.tup [.ref b23, .int i]) := upd_same
      generalize upd V23 b24 (.tup [.ref b23, .int i]) = V24 at u24 f24 ⊢
      walk_at "hs"
      intro b25 w25
      have u25 : Same V24 (upd V24 b25 (.tup [.ref b24])) := same_new (Same.refl _) w25
      have f25 : upd V24 b25 (.tup [.ref b24]) b25 = some (.tup [.ref b24]) := upd_same
      generalize upd V24 b25 (.tup [.ref b24]) = V25 at u25 f25 ⊢
      have bs11 : Bs Z (m + 1) V16 V25 [.ref b25, .ref b22, .ref b19] := ((bs10.skip u23).skip u24).add u25 (Spl.pair f25 (u25 _ _ f24) (u25 _ _ (u24 _ _ (f23))) (by omega) (by show 1 ≤ m + 1; omega) (rfl))
      clear bs10
      clear u24 f24 w24 u25 f25 w25
      walk_at "hs"
      clear u23 f23 w23
      intro b26 w26
      have u26 : Same V25 (upd V25 b26 (.lst [.ref b19, .ref b22, .ref b25])) := same_new (Same.refl _) w26
      have f26 : upd V25 b26 (.lst [.ref b19, .ref b22, .ref b25]) b26 = some (.lst [.ref b19, .ref b22, .ref b25]) := upd_same
      generalize upd V25 b26 (.lst [.ref b19, .ref b22, .ref b25]) = V26 at u26 f26 ⊢
      refine x_cat ((bs11.s.trans u26) _ _ th2.eL) f26 (szLe (by have := z2; show _ + 3 ≤ 100000; omega)) ?_
      intro b27 w27
      have u27 : Same V26 (upd V26 b27 (.lst (zs2 ++ [V.ref b19, .ref b22, .ref b25]))) := same_new (Same.refl _) w27
      have f27 : upd V26 b27 (.lst (zs2 ++ [V.ref b19, .ref b22, .ref b25])) b27 = some (.lst (zs2 ++ [V.ref b19, .ref b22, .ref b25])) := upd_same
      generalize upd V26 b27 (.lst (zs2 ++ [V.ref b19, .ref b22, .ref b25])) = V27 at u27 f27 ⊢
      have sx : Same V16 V27 := (bs11.s.trans u26).trans u27
      have th3 := th2.cat sx f27 ((bs11.s.trans u26).free w27) (fun z hz => (bs11.o z ((List.mem_reverse (as := [V.ref b25, .ref b22, .ref b19])).mp (show z ∈ List.reverse [V.ref b25, .ref b22, .ref b19] from hz))).same (u26.trans u27))
      have z3 : 0 < (zs2 ++ [V.ref b19, .ref b22, .ref b25]).length ∧ (zs2 ++ [V.ref b19, .ref b22, .ref b25]).length ≤ 11 := by rw [List.length_append]; have := z2; exact ⟨by show 0 < _ + 3; omega, by show _ + 3 ≤ 11; omega⟩
      have hD3 : V27 D = some (.tup ls) := th3.hD
      clear th2 z2 hD2 bs11 sx u26 f26 w26 u27 f27 w27
      generalize zs2 ++ [V.ref b19, .ref b22, .ref b25] = zs3 at th3 z3 ⊢
      walk_at "hs"
      exact ⟨⟨_, _, _, _, _, rfl, th3.eL, th3.nL, z3.1, by omega, th3.sp⟩, th3.hT, th3.wk⟩
    · rintro σ' G ⟨⟨x9, x10, x11, L, zs, rfl, eL, nL, z0, z20, sp⟩, hT, wk⟩
      walk_at "hs"
      refine x_slA hT fun D1 G1 s1 e1 => ?_
      rw [cut_take] at e1
      have wk1 := wk.same s1
      have sp1 : ∀ z ∈ zs, Spl Z G1 (m + 1) z := fun z hz => (sp z hz).same s1
      have hT1 := s1 _ _ hT
      have eL1 := s1 _ _ eL
      clear wk sp hT eL s1
      walk_at "hs"
      refine ⟨p, L, zs, _, rfl, wk1.pl, .of eL1, nL, z0, by omega, fun z G2 hz b2 p2 => ?_⟩
      have wk2 := wk1.but b2 p2
      obtain ⟨E, ys, rfl, hE, ly, sy⟩ := (sp1 z hz).lsb (.of_but b2 wk1.pl p2)
      obtain ⟨ps, epl⟩ := wk1.pl.lst
      have e12 := but_tup b2 epl e1
      have hT2 := but_tup b2 epl hT1
      clear wk1 sp1 hT1 eL1 epl b2 p2 e1 hz
      refine x_catA e12 hE (by rw [List.length_take]; omega) fun D3 G3 s3 e3 => ?_
      walk_at "hs"
      refine x_slA (s3 _ _ hT2) fun D4 G4 s4 e4 => ?_
      rw [show ((k : Nat) : Int) + 1 = ((k + 1 : Nat) : Int) by omega, cut_drop] at e4
      refine x_catA (s4 _ _ e3) e4 (by rw [List.length_append, List.length_take, List.length_drop]; omega) fun D5 G5 s5 e5 => ?_
      have s25 := (s3.trans s4).trans s5
      have old : ∀ x ∈ xs, KvA Z G5 (m + 1) x ∧ PairI G5 x := fun x hx => by
        have kx := (wk2.th.kv.tup (tupOf_o hT2)).2 x hx
        have px := wk2.th.th _ (tupOf_o hT2) x hx
        exact ⟨(kx.same s25).le (by omega), px.lsb kx (.of_same s25)⟩
      have all : ∀ x ∈ xs.take k ++ ys ++ xs.drop (k + 1), KvA Z G5 (m + 1) x ∧ PairI G5 x := fun x hx => by
        rcases List.mem_append.mp hx with hx | hx
        · rcases List.mem_append.mp hx with hx | hx
          · exact old x (List.mem_of_mem_take hx)
          · exact ⟨(sy x hx).1.same s25, (sy x hx).2.lsb (sy x hx).1 (.of_same s25)⟩
        · exact old x (List.mem_of_mem_drop hx)
      refine q _ _ ⟨kva_tup e5 (by rw [List.length_append, List.length_append, List.length_take, List.length_drop]; omega) fun x hx => (all x hx).1, thI_tup e5 fun x hx => (all x hx).2⟩ (wk2.same s25).b (wk2.same s25).pl
end
set_option maxRecDepth 100000
set_option maxHeartbeats 4000000
open PySem PySem.Spec L2


local macro_rules | `(tactic| walk_at "h1") => `(tactic| first
  | with_reducible refine x_dget ?_
  | with_reducible refine x_dc ?_
  | with_reducible refine x_keysF ?_
  | with_reducible refine x_keysFT ?_
  | with_reducible refine x_listZip ?_
  | with_reducible refine x_enls ?_)

local macro_rules | `(tactic| walk_at "h1") => `(tactic| first
  | with_reducible refine x_meth ?_
  | with_reducible refine x_tru ?_
  | with_reducible refine x_augS ?_)

theorem sc_law : FnScope ["_law_script", "_law_tape_here", "_law_turn", "_law_blocks", "_law_hung", "_law_ups", "_law_lists", "_law_words_here", "_law_costs_here", "_law_again", "_law_thing", "_law_change", "_law_told", "_law_block"] ["_law_script"] (defScope s_law) := ⟨rfl, rfl, rfl, by decide +kernel, rfl, by decide +kernel, by decide +kernel⟩
section
variable {P : Program} {w : World} {K : PySem.W.Frag} {mg : Str → Option Value} {base : Heap} {Z : Ad}
theorem asc_len {n : Nat} : ∀ {l : List Nat} {lo : Nat}, l.Pairwise (· < ·) → (∀ b ∈ l, lo < b ∧ b ≤ n) → l.length ≤ n - lo
  | [], _, _, _ => Nat.zero_le _
  | x :: l, lo, hp, h => by
    rw [List.pairwise_cons] at hp
    have := asc_len (l := l) (lo := x) hp.2 fun b hb => ⟨hp.1 b hb, (h b (List.mem_cons_of_mem _ hb)).2⟩
    have hx := h x List.mem_cons_self
    rw [List.length_cons]
    omega
theorem nest_tha {Z : Ad} {H : Hp} {n u : Nat} {us : List (Option Nat)} {ls : List (List (Option Bool))} {as : List Addr} {pd : List Pay} (e : H u = some (.tup (refs as))) (py : PyAt H as pd) (fe : Feas n (costN us ls) pd) (l : pd.length ≤ 2000) (n40 : n ≤ 40) : ThA Z H 2000 (.ref u) := by
  have el : ∀ x ∈ refs as, KvA Z H 2000 x ∧ PairI H x := fun x hx => by
    obtain ⟨a, L, l, y, rfl, h1, h2, lo⟩ := pays_are py fe.lots x hx
    have ll : l.length ≤ n := by
      have := asc_len (lo := 0) lo.asc (fun b hb => lo.in_ b hb)
      omega
    have nn : (nats l).all NumB = true := List.all_eq_true.mpr fun z hz => by
      obtain ⟨b, _, rfl⟩ := List.mem_map.mp hz
      rfl
    obtain ⟨k, g⟩ := num_tup (Z := Z) (m := 2000) h2 (by rw [nats_length]; omega) nn
    exact ⟨kva_tup h1 (by show 2 ≤ 2000; decide) fun x hx => by
      rcases List.mem_cons.mp hx with rfl | hx
      · exact k
      · rw [List.mem_singleton.mp hx]
        exact kva_sca rfl, pairI_one h1 g⟩
  exact ⟨kva_tup e (by rw [refs_length, py.1]; exact l) fun x hx => (el x hx).1, thI_tup e fun x hx => (el x hx).2⟩
theorem ok_law29 {f : Addr} {fd : FuncData} (F : Fun K "law" "law" s_law f fd) (B : Bl Z mg)
    {f__law_tape : Addr} {fd__law_tape : FuncData} (C__law_tape : Cal K mg "_law_tape" f__law_tape fd__law_tape ["_law_script"]) (G__law_tape : FnOk P w K mg base CX0 1 f__law_tape fd__law_tape ["_law_script"] (spPool K)) {f__law_pick : Addr} {fd__law_pick : FuncData} (C__law_pick : Cal K mg "_law_pick" f__law_pick fd__law_pick ["_law_tape_here", "_law_many"]) (G__law_pick : FnOk P w K mg base CX0 1 f__law_pick fd__law_pick ["_law_tape_here", "_law_many"] spDraw)
    {f__law_any : Addr} {fd__law_any : FuncData} (C__law_any : Cal K mg "_law_any" f__law_any fd__law_any ["_law_tape_here", "_law_things"]) (G__law_any : FnOk P w K mg base CX0 2 f__law_any fd__law_any ["_law_tape_here", "_law_things"] (spAny K))
    {f__law_right : Addr} {fd__law_right : FuncData} (C__law_right : Cal K mg "_law_right" f__law_right fd__law_right ["_law_tape_here", "_law_blocks"]) (G__law_right : FnOk P w K mg base CX0 3 f__law_right fd__law_right ["_law_tape_here", "_law_blocks"] spRightL)
    {f__law_damaged : Addr} {fd__law_damaged : FuncData} (C__law_damaged : Cal K mg "_law_damaged" f__law_damaged fd__law_damaged ["_law_tape_here", "_law_blocks", "_law_ups", "_law_lists", "_law_many"]) (G__law_damaged : FnOk P w K mg base CX0 2 f__law_damaged fd__law_damaged ["_law_tape_here", "_law_blocks", "_law_ups", "_law_lists", "_law_many"] spDam)
    {f__law_words : Addr} {fd__law_words : FuncData} (C__law_words : Cal K mg "_law_words" f__law_words fd__law_words ["_law_blocks", "_law_ups", "_law_lists"]) (G__law_words : FnOk P w K mg base CX0 5 f__law_words fd__law_words ["_law_blocks", "_law_ups", "_law_lists"] (spLWords Z))
    {f__law_costs : Addr} {fd__law_costs : FuncData} (C__law_costs : Cal K mg "_law_costs" f__law_costs fd__law_costs ["_law_blocks", "_law_ups", "_law_lists", "_law_block"]) (G__law_costs : FnOk P w K mg base CX0 1 f__law_costs fd__law_costs ["_law_blocks", "_law_ups", "_law_lists", "_law_block"] spLCosts)
    {f__law_drawn : Addr} {fd__law_drawn : FuncData} (C__law_drawn : Cal K mg "_law_drawn" f__law_drawn fd__law_drawn ["_law_tape_here", "_law_blocks", "_law_costs_here"]) (G__law_drawn : FnOk P w K mg base CX0 3 f__law_drawn fd__law_drawn ["_law_tape_here", "_law_blocks", "_law_costs_here"] (spDrawnN Z))
    {f__law_bent : Addr} {fd__law_bent : FuncData} (C__law_bent : Cal K mg "_law_bent" f__law_bent fd__law_bent ["_law_tape_here", "_law_blocks", "_law_thing", "_law_words_here"]) (G__law_bent : FnOk P w K mg base CX0 4 f__law_bent fd__law_bent ["_law_tape_here", "_law_blocks", "_law_thing", "_law_words_here"] (spBent Z))
    {f__law_is_nest : Addr} {fd__law_is_nest : FuncData} (C__law_is_nest : Cal K mg "_law_is_nest" f__law_is_nest fd__law_is_nest ["_law_costs_here", "_law_thing"]) (G__law_is_nest : FnOk P w K mg base CX0 2 f__law_is_nest fd__law_is_nest ["_law_costs_here", "_law_thing"] (spLNest Z))
    {f_nest : Addr} {fd_nest : FuncData} (C_nest : Cal K mg "nest" f_nest fd_nest ["words"]) (G_nest : FnOk P w K mg base CX0 6 f_nest fd_nest ["words"] (spNest Z))
    {f_is_nest : Addr} {fd_is_nest : FuncData} (C_is_nest : Cal K mg "is_nest" f_is_nest fd_is_nest ["words", "thing"]) (G_is_nest : FnOk P w K mg base CX0 4 f_is_nest fd_is_nest ["words", "thing"] (spNestN Z)) : FnOk P w K mg base CX0 7 f fd ["_law_script"] (spLaw K) := by
  refine F.ok sc_law (fun vs H Q E h => ?_) (fun cdv A outer s H vs Q E hr h => ?_)
  · obtain ⟨a, ns, rfl, _⟩ := h
    rfl
  · obtain ⟨a, ns, rfl, hS, hl, q⟩ := h
    refine ⟨_, (pss_cons (ps_set (i := 1) sc_law.nd rfl (Or.inl rfl) (pe_call G__law_tape (hr.mono (by first | decide | omega)) (by rfl) C__law_tape.g C__law_tape.k C__law_tape.b .nil pass0 (pa_cons (pv 0) pa_nil)))
 (pss_cons (ps_for PassesOwn.never rfl (pi_range1 rfl B.b_range (pa_cons pe_int pa_nil)) (pg_name (i := 2) sc_law.nd rfl (Or.inl rfl)) (pss_cons (ps_set (i := 3) sc_law.nd rfl (Or.inr rfl) (pe_op op_add pe_int (pe_call G__law_pick (hr.mono (by first | decide | omega)) (by rfl) C__law_pick.g C__law_pick.k C__law_pick.b .nil pass0 (pa_cons (pv 1) (pa_cons pe_int pa_nil)))))
 (pss_cons (ps_asg (pe_call G__law_right (hr.mono (by first | decide | omega)) (by rfl) C__law_right.g C__law_right.k C__law_right.b .nil pass0 (pa_cons (pv 1) (pa_cons (pv 3) pa_nil))) (pg_tup rfl (pgs_cons (pg_name (i := 4) sc_law.nd rfl (Or.inl rfl)) (pgs_cons (pg_name (i := 5) sc_law.nd rfl (Or.inr rfl)) (pgs_cons (pg_name (i := 6) sc_law.nd rfl (Or.inr rfl)) pgs_nil)))))
 (pss_cons (ps_expr (pe_call G__law_damaged (hr.mono (by first | decide | omega)) (by rfl) C__law_damaged.g C__law_damaged.k C__law_damaged.b .nil pass0 (pa_cons (pv 1) (pa_cons (pv 3) (pa_cons (pv 5) (pa_cons (pv 6) (pa_cons (pe_call G__law_any (hr.mono (by first | decide | omega)) (by rfl) C__law_any.g C__law_any.k C__law_any.b .nil pass0 (pa_cons (pv 1) (pa_cons (pe_lst (pa_cons pe_int (pa_cons pe_int (pa_cons pe_int (pa_cons pe_int pa_nil))))) pa_nil))) pa_nil)))))))
 (pss_cons (ps_set (i := 7) sc_law.nd rfl (Or.inl rfl) (pe_call G__law_words (hr.mono (by first | decide | omega)) (by rfl) C__law_words.g C__law_words.k C__law_words.b .nil pass0 (pa_cons (pv 3) (pa_cons (pv 5) (pa_cons (pv 6) pa_nil)))))
 (pss_cons (ps_setLc (i := 8) (own := [("_law_block", 13)]) rfl sc_law.nd rfl rfl (sw_true rfl rfl rfl (by decide +kernel)) (pi_range2 rfl B.b_range (pa_cons pe_int (pa_cons (pe_op op_add (pv 3) pe_int) pa_nil))) (blkOk_by (N := ["_law_script", "_law_tape_here", "_law_turn", "_law_blocks", "_law_hung", "_law_ups", "_law_lists", "_law_words_here", "_law_costs_here", "_law_again", "_law_thing", "_law_change", "_law_told", "_law_block"]) (sc := defScope s_law) (by decide +kernel)) (fun _ _ _ _ _ => (pg_name (i := 13) sc_law.nd rfl (Or.inl rfl))) (fun _ _ _ _ _ => pts_nil) (fun _ _ _ _ _ => (pe_call G__law_costs (hr.mono (by first | decide | omega)) (by rfl) C__law_costs.g C__law_costs.k C__law_costs.b .nil pass0 (pa_cons (pv 3) (pa_cons (pv 5) (pa_cons (pv 6) (pa_cons (pv 13) pa_nil)))))))
 (pss_cons (ps_if (pt_cmpR op_notBk (pe_call G_is_nest (hr.mono (by first | decide | omega)) (by rfl) C_is_nest.g C_is_nest.k C_is_nest.b .nil pass0 (pa_cons (pv 7) (pa_cons (pe_tup pa_nil) pa_nil))) pe_bl (nomark _)) (pss_one (ps_ret pe_bl)) pss_nil)
 (pss_one (ps_for PassesOwn.never rfl (pi_range1 rfl B.b_range (pa_cons pe_int pa_nil)) (pg_name (i := 9) sc_law.nd rfl (Or.inl rfl)) (pss_cons (ps_set (i := 10) sc_law.nd rfl (Or.inl rfl) (pe_call G__law_any (hr.mono (by first | decide | omega)) (by rfl) C__law_any.g C__law_any.k C__law_any.b .nil pass0 (pa_cons (pv 1) (pa_cons (pe_lst (pa_cons (pe_call G_nest (hr.mono (by first | decide | omega)) (by rfl) C_nest.g C_nest.k C_nest.b .nil pass0 (pa_cons (pv 7) pa_nil)) (pa_cons (pe_call G__law_drawn (hr.mono (by first | decide | omega)) (by rfl) C__law_drawn.g C__law_drawn.k C__law_drawn.b .nil pass0 (pa_cons (pv 1) (pa_cons (pv 3) (pa_cons (pv 8) pa_nil)))) pa_nil))) pa_nil))))
 (pss_cons (ps_for PassesOwn.never rfl (pi_range1 rfl B.b_range (pa_cons (pe_call G__law_pick (hr.mono (by first | decide | omega)) (by rfl) C__law_pick.g C__law_pick.k C__law_pick.b .nil pass0 (pa_cons (pv 1) (pa_cons pe_int pa_nil))) pa_nil)) (pg_name (i := 11) sc_law.nd rfl (Or.inl rfl)) (pss_one (ps_set (i := 10) sc_law.nd rfl (Or.inl rfl) (pe_call G__law_bent (hr.mono (by first | decide | omega)) (by rfl) C__law_bent.g C__law_bent.k C__law_bent.b .nil pass0 (pa_cons (pv 1) (pa_cons (pv 3) (pa_cons (pv 10) (pa_cons (pv 7) pa_nil))))))))
 (pss_cons (ps_set (i := 12) sc_law.nd rfl (Or.inl rfl) (pe_call G_is_nest (hr.mono (by first | decide | omega)) (by rfl) C_is_nest.g C_is_nest.k C_is_nest.b .nil pass0 (pa_cons (pv 7) (pa_cons (pv 10) pa_nil))))
 (pss_one (ps_if (PW.pt (pw_or (pt_not (pt_val (pe_callB (call_isiK' (K := K) rfl) (by rfl) B.b_isinstance (by decide +kernel) (pa_cons (pv 12) (pa_cons (pe_bltn (v := .ty "bool") (by rfl) B.b_bool (by decide +kernel) rfl) pa_nil))))) (pw_or1 (pt_cmpR op_ne (pv 12) (pe_call G__law_is_nest (hr.mono (by first | decide | omega)) (by rfl) C__law_is_nest.g C__law_is_nest.k C__law_is_nest.b .nil pass0 (pa_cons (pv 8) (pa_cons (pv 10) pa_nil))) (nomark _))))) (pss_one (ps_ret pe_bl)) pss_nil))))))))))))))
 (pss_one (ps_ret pe_bl)))), ?_⟩
    walk_at "h0"
    refine ⟨a, ns, rfl, hS, hl, fun p H1 b1 np hp1 => ?_⟩
    clear b1 np hS hl
    walk_at "hs"
    refine ⟨3, rfl, by decide, by decide, ?_⟩
    refine lp_range (lo := 0) (n := Int.toNat 3) (fun i σ' G => (∃ x2 x3 x4 x5 x6 x7 x8 x9 x10 x11 x12, σ' = [some (.ref a), some (.ref p), x2, x3, x4, x5, x6, x7, x8, x9, x10, x11, x12, none]) ∧ PoolAt G p (fun _ => False))
      ⟨⟨_, _, _, _, _, _, _, _, _, _, _, rfl⟩, hp1⟩ ?_ ?_
    · clear hp1
      rintro i σ' G hi ⟨⟨x2, x3, x4, x5, x6, x7, x8, x9, x10, x11, x12, rfl⟩, hp⟩
      walk_at "hs"
      refine ⟨p, 6, _, rfl, hp, by decide, by decide, fun d H3 d0 d1 b3 hp3 => ?_⟩
      obtain ⟨n, n1, n40, hn0⟩ : ∃ n : Nat, 1 ≤ n ∧ n ≤ 40 ∧ 1 + d = (n : Int) := ⟨(1 + d).toNat, by omega, by omega, by omega⟩
      clear hp b3 d0 d1
      refine x_i0 ?_
      rw [hn0]
      clear hn0
      walk_at "hs"
      refine ⟨p, n, _, rfl, hp3, n1, n40, fun t R U Lw ws hs H4 it hn b4 hp4 eT eR W Rn fr => ?_⟩
      have hp5 : PoolAt H4 p (fun a => a ∈ U :: Lw :: ws) := hp4.weak fun a h => .inl h
      have ok : WdOk n (rightU hs) (rightL hs) := hn ▸ right_ok it
      have tt : SqT K H4 t [.ref R, .ref U, .ref Lw] := .of eT
      have np : p ∉ U :: Lw :: ws := fun h => hp5.neF h rfl
      clear hp4 hp3 fr b4 Rn eR
      walk_at "hs"
      intro L1 nL1
      have sL1 : Same H4 (upd H4 L1 (.lst [.int 0, .int 3, .int 8, .int 20])) := same_new (Same.refl _) nL1
      have eL1 : upd H4 L1 (.lst [.int 0, .int 3, .int 8, .int 20]) L1 = some (.lst [.int 0, .int 3, .int 8, .int 20]) := upd_same
      generalize upd H4 L1 (.lst [.int 0, .int 3, .int 8, .int 20]) = H7 at sL1 eL1 ⊢
      have hp8 := hp5.same sL1
      refine ⟨p, L1, _, _, rfl, hp8, .of eL1, hp5.ne nL1, by show 0 < 4; decide, by show 4 ≤ 1000; decide, fun x H8 hx b8 hp9 => ?_⟩
      obtain ⟨many, m40, rfl⟩ : ∃ n : Nat, n ≤ 1000 ∧ x = .int n := by
        simp only [List.mem_cons, List.not_mem_nil, or_false] at hx
        rcases hx with rfl | rfl | rfl | rfl
        · exact ⟨0, by decide, rfl⟩
        · exact ⟨3, by decide, rfl⟩
        · exact ⟨8, by decide, rfl⟩
        · exact ⟨20, by decide, rfl⟩
      have W8 := (W.same sL1).but b8 np
      clear hx b8 hp8 eL1 nL1 sL1 W hp5 tt eT
      walk_at "hs"
      refine ⟨p, U, Lw, n, many, ws, _, _, rfl, hp9, W8, ok, m40, fun us ls H6 ok W6 hp7 bl _ => ?_⟩
      clear W8 hp9 bl it
      walk_at "hs"
      refine ⟨U, Lw, n, ws, us, ls, rfl, W6, ok, fun wd H7 nwd s7 hw => ?_⟩
      have W7 := W6.same s7
      have hp8 := hp7.same s7
      clear W6 hp7 s7 nwd
      walk_at "hs"
      refine ⟨1, (n : Int) + 1, rfl, ⟨by omega, by omega, by omega, by omega⟩, fun C nC => ?_⟩
      refine lc_range (lo := 1) (n := Int.toNat ((n : Int) + 1 - 1)) (fun i G => Same H7 G ∧ ∃ cs : List Addr, cs.length = i ∧ C ∉ cs ∧ (∀ a ∈ cs, H7 a = none) ∧ G C = some (.lst (refs cs)) ∧ ∀ (k : Nat) r, cs[k]? = some r → G r = some (.lst (costsV us ls (k + 1) (n + 1))))
        ⟨same_new (Same.refl _) nC, [], rfl, (fun h => nomatch h), (fun a h => nomatch h), upd_same, fun k a h => nomatch h⟩ ?_ ?_
      · rintro i G hi ⟨s1, cs, lc, nCc, fr, eC, er⟩
        have WG := W7.same s1
        walk_at "hs"
        refine ⟨rfl, ?_⟩
        walk_at "hs"
        refine ⟨U, Lw, n, i, ws, us, ls, by rw [show (1 : Int) + (i : Int) = ((i + 1 : Nat) : Int) by omega]; rfl, WG, ok, by omega, fun r G2 nr s2 e2 => ?_⟩
        have rC : C ≠ r := ne_of_none eC nr
        refine ⟨_, s2 _ _ eC, szLt (by rw [refs_length]; omega), same_mut (s1.trans s2) nC, cs ++ [r], by rw [List.length_append, lc]; rfl, fun h => ?_, fun b hb => ?_, by rw [upd_same, refs_app]; rfl, fun k b hb => ?_⟩
        · rcases List.mem_append.mp h with h | h
          · exact nCc h
          · exact rC (List.mem_singleton.mp h)
        · rcases List.mem_append.mp hb with hb | hb
          · exact fr b hb
          · rw [List.mem_singleton.mp hb]
            exact s1.free nr
        · rcases snoc_get hb with h | ⟨e, rfl⟩
          · exact keepM (fun z => nCc (z ▸ List.mem_of_getElem? h)) (s2 _ _ (er k b h))
          · rw [e, lc]
            exact keepM rC.symm e2
      rintro H8 ⟨s8, cs, lc, nCc, fr, eC, er⟩
      rw [show Int.toNat ((n : Int) + 1 - 1) = n by omega] at lc
      have hc : CsAt H8 C cs n us ls := ⟨eC, lc, er⟩
      have ncs : p ∉ cs := fun h => by
        obtain ⟨xs, e⟩ := hp8.lst
        rw [fr p h] at e
        cases e
      have hh : Hld Z H8 p wd C cs n us ls (fun _ => False) := ⟨(hp8.same s8).weak fun a h => h.elim, hw.same s8, hc, hp8.ne nC, ncs⟩
      clear W7 hp8 hw nCc fr eC er nC s8 hc ncs lc np
      walk_at "hs"
      intro Em nEm
      have sEm : Same H8 (upd H8 Em (.tup [])) := same_new (Same.refl _) nEm
      have eEm : upd H8 Em (.tup []) Em = some (.tup []) := upd_same
      generalize upd H8 Em (.tup []) = H9 at sEm eEm ⊢
      have h9 := hh.same sEm
      have kEm : KvB Z H9 3 (.ref Em) := ((odd_nil eEm).kv 3).kvB (by decide)
      have nEmp : NestOk H9 n us ls (.ref Em) := ⟨Em, [], [], rfl, eEm, ⟨rfl, fun i a t h => nomatch h⟩, (fun t h => nomatch h), fun b p _ _ _ _ => Nat.zero_le _⟩
      clear hh sEm nEm eEm
      walk_at "hs"
      refine ⟨wd, n, us, ls, .ref Em, rfl, h9.w, ok, kEm, fun _ Ga sa => ?_, fun z => (z nEmp).elim⟩
      have ha := h9.same sa
      clear h9 kEm nEmp sa
      walk_at "hs"
      refine ⟨some true, true, rfl, rfl, ?_⟩
      walk_at "hs"
      try refine x_isnd (fun z => (z rfl).elim) (fun _ => ?_)
      walk_at "hs"
      refine ⟨6, rfl, by decide, by decide, ?_⟩
      refine lp_range (lo := 0) (n := Int.toNat 6) (fun j σ' G => (∃ x9 x10 x11 x12, σ' = [some (.ref a), some (.ref p), some (.int (0 + (i : Int))), some (.int n), some (.ref R), some (.ref U), some (.ref Lw), some (.ref wd), some (.ref C), x9, x10, x11, x12, none]) ∧ Hld Z G p wd C cs n us ls (fun _ => False))
        ⟨⟨_, _, _, _, rfl⟩, ha⟩ ?_ ?_
      · clear ha
        rintro j σ' G hj ⟨⟨x9, x10, x11, x12, rfl⟩, hG⟩
        walk_at "hs"
        refine ⟨wd, n, us, ls, rfl, hG.w, ok, fun u as pd G1 s1 nu eu py fe _ lp => ?_⟩
        have h1 := hG.same s1
        have t1 := nest_tha (Z := Z) eu py fe lp n40
        clear hG s1 nu eu py fe lp
        walk_at "hs"
        refine ⟨p, wd, C, n, us, ls, cs, _, rfl, h1, n1, n40, fun D G2 t2 b2 p2 => ?_⟩
        have h2 := h1.but b2 p2
        have t12 := t1.lsb (.of_but b2 h1.pl p2)
        clear h1 t1 b2 p2
        walk_at "hs"
        intro L nL
        have s3 : Same G2 (upd G2 L (.lst [.ref u, .ref D])) := same_new (Same.refl _) nL
        have e3 : upd G2 L (.lst [.ref u, .ref D]) L = some (.lst [.ref u, .ref D]) := upd_same
        generalize upd G2 L (.lst [.ref u, .ref D]) = G3 at s3 e3 ⊢
        have h3 := h2.same s3
        refine ⟨p, L, _, _, rfl, h3.pl, .of e3, h2.pl.ne nL, by show 0 < 2; decide, by show 2 ≤ 1000; decide, fun v G4 hv b4 p4 => ?_⟩
        have h4 := h3.but b4 p4
        have tv : ThA Z G4 (2000 + 0) v := by
          refine ThA.lsb ?_ (.of_but b4 h3.pl p4)
          simp only [List.mem_cons, List.not_mem_nil, or_false] at hv
          rcases hv with rfl | rfl
          · exact t12.same s3
          · exact ⟨(t2.kv.same s3).le (by decide), (t2.same s3).th⟩
        clear h2 h3 t2 t12 hv b4 p4 e3 s3 nL
        walk_at "hs"
        refine ⟨p, 3, _, rfl, h4.pl, by decide, by decide, fun d G5 d0 d1 b5 p5 => ?_⟩
        have h5 := h4.but b5 p5
        have tv5 := tv.lsb (.of_but b5 h4.pl p5)
        clear h4 tv b5 p5
        walk_at "hs"
        refine ⟨d, rfl, by omega, by omega, ?_⟩
        refine lp_range (lo := 0) (n := Int.toNat d) (fun k σ' G => (∃ v x11, σ' = [some (.ref a), some (.ref p), some (.int (0 + (i : Int))), some (.int n), some (.ref R), some (.ref U), some (.ref Lw), some (.ref wd), some (.ref C), some (.int (0 + (j : Int))), some v, x11, x12, none] ∧ ThA Z G (2000 + k) v) ∧ Hld Z G p wd C cs n us ls (fun _ => False))
          ⟨⟨_, _, rfl, tv5⟩, h5⟩ ?_ ?_
        · clear h5 tv5 v
          rintro k σ' G hk ⟨⟨v, x11, rfl, tv⟩, hG⟩
          obtain ⟨dx, fs, tu, tl, as, hw, _⟩ := id hG.w
          walk_at "hs"
          refine ⟨p, wd, n, 2000 + k, v, _, rfl, hG.pl, ⟨dx, fs, hw⟩, tv, n1, n40, by omega, by omega, fun v' G' tv' b' p' => ?_⟩
          have h' := hG.but b' p'
          clear hw hG tv b' p'
          walk_at "hs"
          exact ⟨⟨_, _, rfl, tv'⟩, h'⟩
        · rintro σ' G ⟨⟨v, x11, rfl, tv⟩, hG⟩
          have kv3 : KvB Z G 3 v := (tv.kv 3).kvB (by omega)
          clear d0 d1 tv tv5 h5
          walk_at "hs"
          refine ⟨wd, n, us, ls, v, rfl, hG.w, ok, kv3, fun z G1 s1 => ?_, fun z G1 s1 => ?_⟩
          · have h1 := hG.same s1
            have k1 := kv3.same s1
            have z1 := z.same s1
            clear hG kv3 z s1
            walk_at "hs"
            refine ⟨C, n, us, ls, cs, v, rfl, h1.c, n40, k1, fun _ G2 s2 => ?_, fun z => (z z1).elim⟩
            have h2 := h1.same s2
            clear h1 k1 z1 s2
            walk_at "hs"
            exact ⟨⟨_, _, _, _, rfl⟩, h2⟩
          · have h1 := hG.same s1
            have k1 := kv3.same s1
            have z1 : ¬ NestOk G1 n us ls v := fun y => z (y.back s1 kv3)
            clear hG kv3 z s1
            walk_at "hs"
            refine ⟨C, n, us, ls, cs, v, rfl, h1.c, n40, k1, fun z => (z1 z).elim, fun _ G2 s2 => ?_⟩
            have h2 := h1.same s2
            clear h1 k1 z1 s2
            walk_at "hs"
            exact ⟨⟨_, _, _, _, rfl⟩, h2⟩
      · rintro σ' G ⟨⟨x9, x10, x11, x12, rfl⟩, hG⟩
        walk_at "hs"
        exact ⟨⟨_, _, _, _, _, _, _, _, _, _, _, rfl⟩, hG.pl⟩
    · rintro σ' G ⟨⟨x2, x3, x4, x5, x6, x7, x8, x9, x10, x11, x12, rfl⟩, hp⟩
      walk_at "hs"
      exact q G
end
set_option maxRecDepth 100000
set_option maxHeartbeats 4000000
open PySem PySem.Spec L2 PyProof.Rows
theorem kit_ref {K : PySem.W.Frag} {t : Value} {C : Addr} {b : Bool} (hn : (t == Value.ref C) = false) (h : PySem.W.isClsIn K C = true) (ht : PySem.W.typeIn K (.ref C) = some (.type "type")) (hs : PySem.W.subIn K t (.ref C) = some b) : PySem.W.kitOne K t (.ref C) = some b := by
  have e2 : ((PySem.W.clsIn K C).isSome && PySem.W.typeIn K (.ref C) == some (.type "type")) = true := by
    have h2' : (PySem.W.clsIn K C).isSome = true := h
    rw [h2', ht] <;> rfl
  unfold PySem.W.kitOne
  rw [hn, if_neg Bool.false_ne_true]
  show (if ((PySem.W.clsIn K C).isSome && PySem.W.typeIn K (.ref C) == some (.type "type")) = true then PySem.W.subIn K t (.ref C) else none) = some b
  rw [if_pos e2]
  exact hs
theorem kit_typ {K : PySem.W.Frag} {C : Addr} {T : String} {b : Bool} (hm : PySem.W.kitMeta T = true) (h : PySem.W.subIn K (.ref C) (.type T) = some b) : PySem.W.kitOne K (.ref C) (.type T) = some b := by
  unfold PySem.W.kitOne
  rw [if_neg (by simp)]
  show (if PySem.W.kitMeta T = true then PySem.W.subIn K (.ref C) (.type T) else none) = some b
  rw [if_pos hm]
  exact h
theorem sub_tuple (K : PySem.W.Frag) (C : Addr) : PySem.W.subIn K (.type "tuple") (.ref C) = some false := by
  have e2 : PySem.fastBuiltinMro "tuple" = some [.type "tuple", .type "object"] := by decide +kernel
  show (PySem.fastBuiltinMro "tuple").map (·.contains (Value.ref C)) = some false
  rw [e2]
  rfl
theorem sub_int (K : PySem.W.Frag) (C : Addr) : PySem.W.subIn K (.type "int") (.ref C) = some false := by
  have e2 : PySem.fastBuiltinMro "int" = some [.type "int", .type "object"] := by decide +kernel
  show (PySem.fastBuiltinMro "int").map (·.contains (Value.ref C)) = some false
  rw [e2]
  rfl
theorem all_mk {P : Program} {w : World} {K : PySem.W.Frag} {h : Heap} {mg : Str → Option Value} {fa : Addr} (X : K.In h) (G : h.Ns mainGlobals mg) (hfa : mg "law" = some (.ref fa))
    {c_VoteError : Addr}
    {c_BadWords : Addr}
    {c_Words : Addr}
    {c_Payments : Addr}
    {t_MOST_BLOCKS : PySem.Tok}
    {f__wall : Addr} {od__wall an__wall : Option Addr} {sl__wall : Array (Option Value)} {oc__wall kV__wall dc__wall pm__wall cd__wall ct__wall : Value}
    {f_is_within : Addr} {od_is_within an_is_within : Option Addr} {sl_is_within : Array (Option Value)} {oc_is_within kV_is_within dc_is_within pm_is_within cd_is_within ct_is_within : Value}
    {f_is_pair : Addr} {od_is_pair an_is_pair : Option Addr} {sl_is_pair : Array (Option Value)} {oc_is_pair kV_is_pair dc_is_pair pm_is_pair cd_is_pair ct_is_pair : Value}
    {f_is_ascending : Addr} {od_is_ascending an_is_ascending : Option Addr} {sl_is_ascending : Array (Option Value)} {oc_is_ascending kV_is_ascending dc_is_ascending pm_is_ascending cd_is_ascending ct_is_ascending : Value}
    {f_is_lot_within : Addr} {od_is_lot_within an_is_lot_within : Option Addr} {sl_is_lot_within : Array (Option Value)} {oc_is_lot_within kV_is_lot_within dc_is_lot_within pm_is_lot_within cd_is_lot_within ct_is_lot_within : Value}
    {f_Words___init__ : Addr} {od_Words___init__ an_Words___init__ : Option Addr} {sl_Words___init__ : Array (Option Value)} {oc_Words___init__ kV_Words___init__ dc_Words___init__ pm_Words___init__ cd_Words___init__ ct_Words___init__ : Value}
    {f__is_tuple_of : Addr} {od__is_tuple_of an__is_tuple_of : Option Addr} {sl__is_tuple_of : Array (Option Value)} {oc__is_tuple_of kV__is_tuple_of dc__is_tuple_of pm__is_tuple_of cd__is_tuple_of ct__is_tuple_of : Value}
    {f__is_up : Addr} {od__is_up an__is_up : Option Addr} {sl__is_up : Array (Option Value)} {oc__is_up kV__is_up dc__is_up pm__is_up cd__is_up ct__is_up : Value}
    {f__is_listing : Addr} {od__is_listing an__is_listing : Option Addr} {sl__is_listing : Array (Option Value)} {oc__is_listing kV__is_listing dc__is_listing pm__is_listing cd__is_listing ct__is_listing : Value}
    {f_costs : Addr} {od_costs an_costs : Option Addr} {sl_costs : Array (Option Value)} {oc_costs kV_costs dc_costs pm_costs cd_costs ct_costs : Value}
    {f_Payments___init__ : Addr} {od_Payments___init__ an_Payments___init__ : Option Addr} {sl_Payments___init__ : Array (Option Value)} {oc_Payments___init__ kV_Payments___init__ dc_Payments___init__ pm_Payments___init__ cd_Payments___init__ ct_Payments___init__ : Value}
    {f_Payments_take_free : Addr} {od_Payments_take_free an_Payments_take_free : Option Addr} {sl_Payments_take_free : Array (Option Value)} {oc_Payments_take_free kV_Payments_take_free dc_Payments_take_free pm_Payments_take_free cd_Payments_take_free ct_Payments_take_free : Value}
    {f_Payments_pay_all : Addr} {od_Payments_pay_all an_Payments_pay_all : Option Addr} {sl_Payments_pay_all : Array (Option Value)} {oc_Payments_pay_all kV_Payments_pay_all dc_Payments_pay_all pm_Payments_pay_all cd_Payments_pay_all ct_Payments_pay_all : Value}
    {f_Payments_lot_to_pay : Addr} {od_Payments_lot_to_pay an_Payments_lot_to_pay : Option Addr} {sl_Payments_lot_to_pay : Array (Option Value)} {oc_Payments_lot_to_pay kV_Payments_lot_to_pay dc_Payments_lot_to_pay pm_Payments_lot_to_pay cd_Payments_lot_to_pay ct_Payments_lot_to_pay : Value}
    {f_Payments_leading_to : Addr} {od_Payments_leading_to an_Payments_leading_to : Option Addr} {sl_Payments_leading_to : Array (Option Value)} {oc_Payments_leading_to kV_Payments_leading_to dc_Payments_leading_to pm_Payments_leading_to cd_Payments_leading_to ct_Payments_leading_to : Value}
    {f_Payments_pay : Addr} {od_Payments_pay an_Payments_pay : Option Addr} {sl_Payments_pay : Array (Option Value)} {oc_Payments_pay kV_Payments_pay dc_Payments_pay pm_Payments_pay cd_Payments_pay ct_Payments_pay : Value}
    {f_nest : Addr} {od_nest an_nest : Option Addr} {sl_nest : Array (Option Value)} {oc_nest kV_nest dc_nest pm_nest cd_nest ct_nest : Value}
    {f_is_nest : Addr} {od_is_nest an_is_nest : Option Addr} {sl_is_nest : Array (Option Value)} {oc_is_nest kV_is_nest dc_is_nest pm_is_nest cd_is_nest ct_is_nest : Value}
    {f__is_payment : Addr} {od__is_payment an__is_payment : Option Addr} {sl__is_payment : Array (Option Value)} {oc__is_payment kV__is_payment dc__is_payment pm__is_payment cd__is_payment ct__is_payment : Value}
    {f__paid_for : Addr} {od__paid_for an__paid_for : Option Addr} {sl__paid_for : Array (Option Value)} {oc__paid_for kV__paid_for dc__paid_for pm__paid_for cd__paid_for ct__paid_for : Value}
    {f__law_tape : Addr} {od__law_tape an__law_tape : Option Addr} {sl__law_tape : Array (Option Value)} {oc__law_tape kV__law_tape dc__law_tape pm__law_tape cd__law_tape ct__law_tape : Value}
    {f__law_pick : Addr} {od__law_pick an__law_pick : Option Addr} {sl__law_pick : Array (Option Value)} {oc__law_pick kV__law_pick dc__law_pick pm__law_pick cd__law_pick ct__law_pick : Value}
    {f__law_any : Addr} {od__law_any an__law_any : Option Addr} {sl__law_any : Array (Option Value)} {oc__law_any kV__law_any dc__law_any pm__law_any cd__law_any ct__law_any : Value}
    {f__law_mixed : Addr} {od__law_mixed an__law_mixed : Option Addr} {sl__law_mixed : Array (Option Value)} {oc__law_mixed kV__law_mixed dc__law_mixed pm__law_mixed cd__law_mixed ct__law_mixed : Value}
    {f__law_right : Addr} {od__law_right an__law_right : Option Addr} {sl__law_right : Array (Option Value)} {oc__law_right kV__law_right dc__law_right pm__law_right cd__law_right ct__law_right : Value}
    {f__law_damaged : Addr} {od__law_damaged an__law_damaged : Option Addr} {sl__law_damaged : Array (Option Value)} {oc__law_damaged kV__law_damaged dc__law_damaged pm__law_damaged cd__law_damaged ct__law_damaged : Value}
    {f__law_words : Addr} {od__law_words an__law_words : Option Addr} {sl__law_words : Array (Option Value)} {oc__law_words kV__law_words dc__law_words pm__law_words cd__law_words ct__law_words : Value}
    {f__law_costs : Addr} {od__law_costs an__law_costs : Option Addr} {sl__law_costs : Array (Option Value)} {oc__law_costs kV__law_costs dc__law_costs pm__law_costs cd__law_costs ct__law_costs : Value}
    {f__law_is_int : Addr} {od__law_is_int an__law_is_int : Option Addr} {sl__law_is_int : Array (Option Value)} {oc__law_is_int kV__law_is_int dc__law_is_int pm__law_is_int cd__law_is_int ct__law_is_int : Value}
    {f__law_is_nest : Addr} {od__law_is_nest an__law_is_nest : Option Addr} {sl__law_is_nest : Array (Option Value)} {oc__law_is_nest kV__law_is_nest dc__law_is_nest pm__law_is_nest cd__law_is_nest ct__law_is_nest : Value}
    {f__law_drawn : Addr} {od__law_drawn an__law_drawn : Option Addr} {sl__law_drawn : Array (Option Value)} {oc__law_drawn kV__law_drawn dc__law_drawn pm__law_drawn cd__law_drawn ct__law_drawn : Value}
    {f__law_deep : Addr} {od__law_deep an__law_deep : Option Addr} {sl__law_deep : Array (Option Value)} {oc__law_deep kV__law_deep dc__law_deep pm__law_deep cd__law_deep ct__law_deep : Value}
    {f__law_bent : Addr} {od__law_bent an__law_bent : Option Addr} {sl__law_bent : Array (Option Value)} {oc__law_bent kV__law_bent dc__law_bent pm__law_bent cd__law_bent ct__law_bent : Value}
    {f_law : Addr} {od_law an_law : Option Addr} {sl_law : Array (Option Value)} {oc_law kV_law dc_law pm_law cd_law ct_law : Value}
    (n_VoteError : PySem.W.nsIn K mainGlobals "VoteError" = some (some (.ref c_VoteError)))
    (n_BadWords : PySem.W.nsIn K mainGlobals "BadWords" = some (some (.ref c_BadWords)))
    (n_Words : PySem.W.nsIn K mainGlobals "Words" = some (some (.ref c_Words)))
    (n_Payments : PySem.W.nsIn K mainGlobals "Payments" = some (some (.ref c_Payments)))
    (n_MOST_BLOCKS : PySem.W.nsIn K mainGlobals "MOST_BLOCKS" = some (some (.int 40 t_MOST_BLOCKS)))
    (z_ValueError : PySem.W.nsIn K mainGlobals "ValueError" = some none)
    (z_abs : PySem.W.nsIn K mainGlobals "abs" = some none)
    (z_all : PySem.W.nsIn K mainGlobals "all" = some none)
    (z_any : PySem.W.nsIn K mainGlobals "any" = some none)
    (z_bool : PySem.W.nsIn K mainGlobals "bool" = some none)
    (z_enumerate : PySem.W.nsIn K mainGlobals "enumerate" = some none)
    (z_int : PySem.W.nsIn K mainGlobals "int" = some none)
    (z_isinstance : PySem.W.nsIn K mainGlobals "isinstance" = some none)
    (z_len : PySem.W.nsIn K mainGlobals "len" = some none)
    (z_list : PySem.W.nsIn K mainGlobals "list" = some none)
    (z_min : PySem.W.nsIn K mainGlobals "min" = some none)
    (z_range : PySem.W.nsIn K mainGlobals "range" = some none)
    (z_str : PySem.W.nsIn K mainGlobals "str" = some none)
    (z_sum : PySem.W.nsIn K mainGlobals "sum" = some none)
    (z_tuple : PySem.W.nsIn K mainGlobals "tuple" = some none)
    (a__wall : PySem.W.nsIn K mainGlobals "_wall" = some (some (.ref f__wall)))
    (l__wall : K.lookup f__wall = some ⟨oc__wall, od__wall, .func (PySem.W.fnOf "_wall" "_wall" (defArgs s__wall) (defBody s__wall) (defScope s__wall) .none kV__wall dc__wall pm__wall an__wall cd__wall ct__wall), sl__wall⟩)
    (c__wall : PySem.W.codeIn K cd__wall "_wall" = true)
    (k__wall : PySem.W.keepIn K (.ref f__wall) = true)
    (a_is_within : PySem.W.nsIn K mainGlobals "is_within" = some (some (.ref f_is_within)))
    (l_is_within : K.lookup f_is_within = some ⟨oc_is_within, od_is_within, .func (PySem.W.fnOf "is_within" "is_within" (defArgs s_is_within) (defBody s_is_within) (defScope s_is_within) .none kV_is_within dc_is_within pm_is_within an_is_within cd_is_within ct_is_within), sl_is_within⟩)
    (c_is_within : PySem.W.codeIn K cd_is_within "is_within" = true)
    (k_is_within : PySem.W.keepIn K (.ref f_is_within) = true)
    (a_is_pair : PySem.W.nsIn K mainGlobals "is_pair" = some (some (.ref f_is_pair)))
    (l_is_pair : K.lookup f_is_pair = some ⟨oc_is_pair, od_is_pair, .func (PySem.W.fnOf "is_pair" "is_pair" (defArgs s_is_pair) (defBody s_is_pair) (defScope s_is_pair) .none kV_is_pair dc_is_pair pm_is_pair an_is_pair cd_is_pair ct_is_pair), sl_is_pair⟩)
    (c_is_pair : PySem.W.codeIn K cd_is_pair "is_pair" = true)
    (k_is_pair : PySem.W.keepIn K (.ref f_is_pair) = true)
    (a_is_ascending : PySem.W.nsIn K mainGlobals "is_ascending" = some (some (.ref f_is_ascending)))
    (l_is_ascending : K.lookup f_is_ascending = some ⟨oc_is_ascending, od_is_ascending, .func (PySem.W.fnOf "is_ascending" "is_ascending" (defArgs s_is_ascending) (defBody s_is_ascending) (defScope s_is_ascending) .none kV_is_ascending dc_is_ascending pm_is_ascending an_is_ascending cd_is_ascending ct_is_ascending), sl_is_ascending⟩)
    (c_is_ascending : PySem.W.codeIn K cd_is_ascending "is_ascending" = true)
    (k_is_ascending : PySem.W.keepIn K (.ref f_is_ascending) = true)
    (a_is_lot_within : PySem.W.nsIn K mainGlobals "is_lot_within" = some (some (.ref f_is_lot_within)))
    (l_is_lot_within : K.lookup f_is_lot_within = some ⟨oc_is_lot_within, od_is_lot_within, .func (PySem.W.fnOf "is_lot_within" "is_lot_within" (defArgs s_is_lot_within) (defBody s_is_lot_within) (defScope s_is_lot_within) .none kV_is_lot_within dc_is_lot_within pm_is_lot_within an_is_lot_within cd_is_lot_within ct_is_lot_within), sl_is_lot_within⟩)
    (c_is_lot_within : PySem.W.codeIn K cd_is_lot_within "is_lot_within" = true)
    (k_is_lot_within : PySem.W.keepIn K (.ref f_is_lot_within) = true)
    (a_Words___init__ : PySem.W.findIn K (.ref c_Words) "__init__" = some (some (.ref f_Words___init__)))
    (i_Words___init__ : PySem.W.isFn K (.ref f_Words___init__) = true)
    (l_Words___init__ : K.lookup f_Words___init__ = some ⟨oc_Words___init__, od_Words___init__, .func (PySem.W.fnOf "__init__" "Words.__init__" (defArgs s_Words___init__) (defBody s_Words___init__) (defScope s_Words___init__) .none kV_Words___init__ dc_Words___init__ pm_Words___init__ an_Words___init__ cd_Words___init__ ct_Words___init__), sl_Words___init__⟩)
    (c_Words___init__ : PySem.W.codeIn K cd_Words___init__ "Words.__init__" = true)
    (k_Words___init__ : PySem.W.keepIn K (.ref f_Words___init__) = true)
    (a__is_tuple_of : PySem.W.nsIn K mainGlobals "_is_tuple_of" = some (some (.ref f__is_tuple_of)))
    (l__is_tuple_of : K.lookup f__is_tuple_of = some ⟨oc__is_tuple_of, od__is_tuple_of, .func (PySem.W.fnOf "_is_tuple_of" "_is_tuple_of" (defArgs s__is_tuple_of) (defBody s__is_tuple_of) (defScope s__is_tuple_of) .none kV__is_tuple_of dc__is_tuple_of pm__is_tuple_of an__is_tuple_of cd__is_tuple_of ct__is_tuple_of), sl__is_tuple_of⟩)
    (c__is_tuple_of : PySem.W.codeIn K cd__is_tuple_of "_is_tuple_of" = true)
    (k__is_tuple_of : PySem.W.keepIn K (.ref f__is_tuple_of) = true)
    (a__is_up : PySem.W.nsIn K mainGlobals "_is_up" = some (some (.ref f__is_up)))
    (l__is_up : K.lookup f__is_up = some ⟨oc__is_up, od__is_up, .func (PySem.W.fnOf "_is_up" "_is_up" (defArgs s__is_up) (defBody s__is_up) (defScope s__is_up) .none kV__is_up dc__is_up pm__is_up an__is_up cd__is_up ct__is_up), sl__is_up⟩)
    (c__is_up : PySem.W.codeIn K cd__is_up "_is_up" = true)
    (k__is_up : PySem.W.keepIn K (.ref f__is_up) = true)
    (a__is_listing : PySem.W.nsIn K mainGlobals "_is_listing" = some (some (.ref f__is_listing)))
    (l__is_listing : K.lookup f__is_listing = some ⟨oc__is_listing, od__is_listing, .func (PySem.W.fnOf "_is_listing" "_is_listing" (defArgs s__is_listing) (defBody s__is_listing) (defScope s__is_listing) .none kV__is_listing dc__is_listing pm__is_listing an__is_listing cd__is_listing ct__is_listing), sl__is_listing⟩)
    (c__is_listing : PySem.W.codeIn K cd__is_listing "_is_listing" = true)
    (k__is_listing : PySem.W.keepIn K (.ref f__is_listing) = true)
    (a_costs : PySem.W.nsIn K mainGlobals "costs" = some (some (.ref f_costs)))
    (l_costs : K.lookup f_costs = some ⟨oc_costs, od_costs, .func (PySem.W.fnOf "costs" "costs" (defArgs s_costs) (defBody s_costs) (defScope s_costs) .none kV_costs dc_costs pm_costs an_costs cd_costs ct_costs), sl_costs⟩)
    (c_costs : PySem.W.codeIn K cd_costs "costs" = true)
    (k_costs : PySem.W.keepIn K (.ref f_costs) = true)
    (a_Payments___init__ : PySem.W.findIn K (.ref c_Payments) "__init__" = some (some (.ref f_Payments___init__)))
    (i_Payments___init__ : PySem.W.isFn K (.ref f_Payments___init__) = true)
    (l_Payments___init__ : K.lookup f_Payments___init__ = some ⟨oc_Payments___init__, od_Payments___init__, .func (PySem.W.fnOf "__init__" "Payments.__init__" (defArgs s_Payments___init__) (defBody s_Payments___init__) (defScope s_Payments___init__) .none kV_Payments___init__ dc_Payments___init__ pm_Payments___init__ an_Payments___init__ cd_Payments___init__ ct_Payments___init__), sl_Payments___init__⟩)
    (c_Payments___init__ : PySem.W.codeIn K cd_Payments___init__ "Payments.__init__" = true)
    (k_Payments___init__ : PySem.W.keepIn K (.ref f_Payments___init__) = true)
    (a_Payments_take_free : PySem.W.findIn K (.ref c_Payments) "take_free" = some (some (.ref f_Payments_take_free)))
    (i_Payments_take_free : PySem.W.isFn K (.ref f_Payments_take_free) = true)
    (l_Payments_take_free : K.lookup f_Payments_take_free = some ⟨oc_Payments_take_free, od_Payments_take_free, .func (PySem.W.fnOf "take_free" "Payments.take_free" (defArgs s_Payments_take_free) (defBody s_Payments_take_free) (defScope s_Payments_take_free) .none kV_Payments_take_free dc_Payments_take_free pm_Payments_take_free an_Payments_take_free cd_Payments_take_free ct_Payments_take_free), sl_Payments_take_free⟩)
    (c_Payments_take_free : PySem.W.codeIn K cd_Payments_take_free "Payments.take_free" = true)
    (k_Payments_take_free : PySem.W.keepIn K (.ref f_Payments_take_free) = true)
    (a_Payments_pay_all : PySem.W.findIn K (.ref c_Payments) "pay_all" = some (some (.ref f_Payments_pay_all)))
    (i_Payments_pay_all : PySem.W.isFn K (.ref f_Payments_pay_all) = true)
    (l_Payments_pay_all : K.lookup f_Payments_pay_all = some ⟨oc_Payments_pay_all, od_Payments_pay_all, .func (PySem.W.fnOf "pay_all" "Payments.pay_all" (defArgs s_Payments_pay_all) (defBody s_Payments_pay_all) (defScope s_Payments_pay_all) .none kV_Payments_pay_all dc_Payments_pay_all pm_Payments_pay_all an_Payments_pay_all cd_Payments_pay_all ct_Payments_pay_all), sl_Payments_pay_all⟩)
    (c_Payments_pay_all : PySem.W.codeIn K cd_Payments_pay_all "Payments.pay_all" = true)
    (k_Payments_pay_all : PySem.W.keepIn K (.ref f_Payments_pay_all) = true)
    (a_Payments_lot_to_pay : PySem.W.findIn K (.ref c_Payments) "lot_to_pay" = some (some (.ref f_Payments_lot_to_pay)))
    (i_Payments_lot_to_pay : PySem.W.isFn K (.ref f_Payments_lot_to_pay) = true)
    (l_Payments_lot_to_pay : K.lookup f_Payments_lot_to_pay = some ⟨oc_Payments_lot_to_pay, od_Payments_lot_to_pay, .func (PySem.W.fnOf "lot_to_pay" "Payments.lot_to_pay" (defArgs s_Payments_lot_to_pay) (defBody s_Payments_lot_to_pay) (defScope s_Payments_lot_to_pay) .none kV_Payments_lot_to_pay dc_Payments_lot_to_pay pm_Payments_lot_to_pay an_Payments_lot_to_pay cd_Payments_lot_to_pay ct_Payments_lot_to_pay), sl_Payments_lot_to_pay⟩)
    (c_Payments_lot_to_pay : PySem.W.codeIn K cd_Payments_lot_to_pay "Payments.lot_to_pay" = true)
    (k_Payments_lot_to_pay : PySem.W.keepIn K (.ref f_Payments_lot_to_pay) = true)
    (a_Payments_leading_to : PySem.W.findIn K (.ref c_Payments) "leading_to" = some (some (.ref f_Payments_leading_to)))
    (i_Payments_leading_to : PySem.W.isFn K (.ref f_Payments_leading_to) = true)
    (l_Payments_leading_to : K.lookup f_Payments_leading_to = some ⟨oc_Payments_leading_to, od_Payments_leading_to, .func (PySem.W.fnOf "leading_to" "Payments.leading_to" (defArgs s_Payments_leading_to) (defBody s_Payments_leading_to) (defScope s_Payments_leading_to) .none kV_Payments_leading_to dc_Payments_leading_to pm_Payments_leading_to an_Payments_leading_to cd_Payments_leading_to ct_Payments_leading_to), sl_Payments_leading_to⟩)
    (c_Payments_leading_to : PySem.W.codeIn K cd_Payments_leading_to "Payments.leading_to" = true)
    (k_Payments_leading_to : PySem.W.keepIn K (.ref f_Payments_leading_to) = true)
    (a_Payments_pay : PySem.W.findIn K (.ref c_Payments) "pay" = some (some (.ref f_Payments_pay)))
    (i_Payments_pay : PySem.W.isFn K (.ref f_Payments_pay) = true)
    (l_Payments_pay : K.lookup f_Payments_pay = some ⟨oc_Payments_pay, od_Payments_pay, .func (PySem.W.fnOf "pay" "Payments.pay" (defArgs s_Payments_pay) (defBody s_Payments_pay) (defScope s_Payments_pay) .none kV_Payments_pay dc_Payments_pay pm_Payments_pay an_Payments_pay cd_Payments_pay ct_Payments_pay), sl_Payments_pay⟩)
    (c_Payments_pay : PySem.W.codeIn K cd_Payments_pay "Payments.pay" = true)
    (k_Payments_pay : PySem.W.keepIn K (.ref f_Payments_pay) = true)
    (a_nest : PySem.W.nsIn K mainGlobals "nest" = some (some (.ref f_nest)))
    (l_nest : K.lookup f_nest = some ⟨oc_nest, od_nest, .func (PySem.W.fnOf "nest" "nest" (defArgs s_nest) (defBody s_nest) (defScope s_nest) .none kV_nest dc_nest pm_nest an_nest cd_nest ct_nest), sl_nest⟩)
    (c_nest : PySem.W.codeIn K cd_nest "nest" = true)
    (k_nest : PySem.W.keepIn K (.ref f_nest) = true)
    (a_is_nest : PySem.W.nsIn K mainGlobals "is_nest" = some (some (.ref f_is_nest)))
    (l_is_nest : K.lookup f_is_nest = some ⟨oc_is_nest, od_is_nest, .func (PySem.W.fnOf "is_nest" "is_nest" (defArgs s_is_nest) (defBody s_is_nest) (defScope s_is_nest) .none kV_is_nest dc_is_nest pm_is_nest an_is_nest cd_is_nest ct_is_nest), sl_is_nest⟩)
    (c_is_nest : PySem.W.codeIn K cd_is_nest "is_nest" = true)
    (k_is_nest : PySem.W.keepIn K (.ref f_is_nest) = true)
    (a__is_payment : PySem.W.nsIn K mainGlobals "_is_payment" = some (some (.ref f__is_payment)))
    (l__is_payment : K.lookup f__is_payment = some ⟨oc__is_payment, od__is_payment, .func (PySem.W.fnOf "_is_payment" "_is_payment" (defArgs s__is_payment) (defBody s__is_payment) (defScope s__is_payment) .none kV__is_payment dc__is_payment pm__is_payment an__is_payment cd__is_payment ct__is_payment), sl__is_payment⟩)
    (c__is_payment : PySem.W.codeIn K cd__is_payment "_is_payment" = true)
    (k__is_payment : PySem.W.keepIn K (.ref f__is_payment) = true)
    (a__paid_for : PySem.W.nsIn K mainGlobals "_paid_for" = some (some (.ref f__paid_for)))
    (l__paid_for : K.lookup f__paid_for = some ⟨oc__paid_for, od__paid_for, .func (PySem.W.fnOf "_paid_for" "_paid_for" (defArgs s__paid_for) (defBody s__paid_for) (defScope s__paid_for) .none kV__paid_for dc__paid_for pm__paid_for an__paid_for cd__paid_for ct__paid_for), sl__paid_for⟩)
    (c__paid_for : PySem.W.codeIn K cd__paid_for "_paid_for" = true)
    (k__paid_for : PySem.W.keepIn K (.ref f__paid_for) = true)
    (a__law_tape : PySem.W.nsIn K mainGlobals "_law_tape" = some (some (.ref f__law_tape)))
    (l__law_tape : K.lookup f__law_tape = some ⟨oc__law_tape, od__law_tape, .func (PySem.W.fnOf "_law_tape" "_law_tape" (defArgs s__law_tape) (defBody s__law_tape) (defScope s__law_tape) .none kV__law_tape dc__law_tape pm__law_tape an__law_tape cd__law_tape ct__law_tape), sl__law_tape⟩)
    (c__law_tape : PySem.W.codeIn K cd__law_tape "_law_tape" = true)
    (k__law_tape : PySem.W.keepIn K (.ref f__law_tape) = true)
    (a__law_pick : PySem.W.nsIn K mainGlobals "_law_pick" = some (some (.ref f__law_pick)))
    (l__law_pick : K.lookup f__law_pick = some ⟨oc__law_pick, od__law_pick, .func (PySem.W.fnOf "_law_pick" "_law_pick" (defArgs s__law_pick) (defBody s__law_pick) (defScope s__law_pick) .none kV__law_pick dc__law_pick pm__law_pick an__law_pick cd__law_pick ct__law_pick), sl__law_pick⟩)
    (c__law_pick : PySem.W.codeIn K cd__law_pick "_law_pick" = true)
    (k__law_pick : PySem.W.keepIn K (.ref f__law_pick) = true)
    (a__law_any : PySem.W.nsIn K mainGlobals "_law_any" = some (some (.ref f__law_any)))
    (l__law_any : K.lookup f__law_any = some ⟨oc__law_any, od__law_any, .func (PySem.W.fnOf "_law_any" "_law_any" (defArgs s__law_any) (defBody s__law_any) (defScope s__law_any) .none kV__law_any dc__law_any pm__law_any an__law_any cd__law_any ct__law_any), sl__law_any⟩)
    (c__law_any : PySem.W.codeIn K cd__law_any "_law_any" = true)
    (k__law_any : PySem.W.keepIn K (.ref f__law_any) = true)
    (a__law_mixed : PySem.W.nsIn K mainGlobals "_law_mixed" = some (some (.ref f__law_mixed)))
    (l__law_mixed : K.lookup f__law_mixed = some ⟨oc__law_mixed, od__law_mixed, .func (PySem.W.fnOf "_law_mixed" "_law_mixed" (defArgs s__law_mixed) (defBody s__law_mixed) (defScope s__law_mixed) .none kV__law_mixed dc__law_mixed pm__law_mixed an__law_mixed cd__law_mixed ct__law_mixed), sl__law_mixed⟩)
    (c__law_mixed : PySem.W.codeIn K cd__law_mixed "_law_mixed" = true)
    (k__law_mixed : PySem.W.keepIn K (.ref f__law_mixed) = true)
    (a__law_right : PySem.W.nsIn K mainGlobals "_law_right" = some (some (.ref f__law_right)))
    (l__law_right : K.lookup f__law_right = some ⟨oc__law_right, od__law_right, .func (PySem.W.fnOf "_law_right" "_law_right" (defArgs s__law_right) (defBody s__law_right) (defScope s__law_right) .none kV__law_right dc__law_right pm__law_right an__law_right cd__law_right ct__law_right), sl__law_right⟩)
    (c__law_right : PySem.W.codeIn K cd__law_right "_law_right" = true)
    (k__law_right : PySem.W.keepIn K (.ref f__law_right) = true)
    (a__law_damaged : PySem.W.nsIn K mainGlobals "_law_damaged" = some (some (.ref f__law_damaged)))
    (l__law_damaged : K.lookup f__law_damaged = some ⟨oc__law_damaged, od__law_damaged, .func (PySem.W.fnOf "_law_damaged" "_law_damaged" (defArgs s__law_damaged) (defBody s__law_damaged) (defScope s__law_damaged) .none kV__law_damaged dc__law_damaged pm__law_damaged an__law_damaged cd__law_damaged ct__law_damaged), sl__law_damaged⟩)
    (c__law_damaged : PySem.W.codeIn K cd__law_damaged "_law_damaged" = true)
    (k__law_damaged : PySem.W.keepIn K (.ref f__law_damaged) = true)
    (a__law_words : PySem.W.nsIn K mainGlobals "_law_words" = some (some (.ref f__law_words)))
    (l__law_words : K.lookup f__law_words = some ⟨oc__law_words, od__law_words, .func (PySem.W.fnOf "_law_words" "_law_words" (defArgs s__law_words) (defBody s__law_words) (defScope s__law_words) .none kV__law_words dc__law_words pm__law_words an__law_words cd__law_words ct__law_words), sl__law_words⟩)
    (c__law_words : PySem.W.codeIn K cd__law_words "_law_words" = true)
    (k__law_words : PySem.W.keepIn K (.ref f__law_words) = true)
    (a__law_costs : PySem.W.nsIn K mainGlobals "_law_costs" = some (some (.ref f__law_costs)))
    (l__law_costs : K.lookup f__law_costs = some ⟨oc__law_costs, od__law_costs, .func (PySem.W.fnOf "_law_costs" "_law_costs" (defArgs s__law_costs) (defBody s__law_costs) (defScope s__law_costs) .none kV__law_costs dc__law_costs pm__law_costs an__law_costs cd__law_costs ct__law_costs), sl__law_costs⟩)
    (c__law_costs : PySem.W.codeIn K cd__law_costs "_law_costs" = true)
    (k__law_costs : PySem.W.keepIn K (.ref f__law_costs) = true)
    (a__law_is_int : PySem.W.nsIn K mainGlobals "_law_is_int" = some (some (.ref f__law_is_int)))
    (l__law_is_int : K.lookup f__law_is_int = some ⟨oc__law_is_int, od__law_is_int, .func (PySem.W.fnOf "_law_is_int" "_law_is_int" (defArgs s__law_is_int) (defBody s__law_is_int) (defScope s__law_is_int) .none kV__law_is_int dc__law_is_int pm__law_is_int an__law_is_int cd__law_is_int ct__law_is_int), sl__law_is_int⟩)
    (c__law_is_int : PySem.W.codeIn K cd__law_is_int "_law_is_int" = true)
    (k__law_is_int : PySem.W.keepIn K (.ref f__law_is_int) = true)
    (a__law_is_nest : PySem.W.nsIn K mainGlobals "_law_is_nest" = some (some (.ref f__law_is_nest)))
    (l__law_is_nest : K.lookup f__law_is_nest = some ⟨oc__law_is_nest, od__law_is_nest, .func (PySem.W.fnOf "_law_is_nest" "_law_is_nest" (defArgs s__law_is_nest) (defBody s__law_is_nest) (defScope s__law_is_nest) .none kV__law_is_nest dc__law_is_nest pm__law_is_nest an__law_is_nest cd__law_is_nest ct__law_is_nest), sl__law_is_nest⟩)
    (c__law_is_nest : PySem.W.codeIn K cd__law_is_nest "_law_is_nest" = true)
    (k__law_is_nest : PySem.W.keepIn K (.ref f__law_is_nest) = true)
    (a__law_drawn : PySem.W.nsIn K mainGlobals "_law_drawn" = some (some (.ref f__law_drawn)))
    (l__law_drawn : K.lookup f__law_drawn = some ⟨oc__law_drawn, od__law_drawn, .func (PySem.W.fnOf "_law_drawn" "_law_drawn" (defArgs s__law_drawn) (defBody s__law_drawn) (defScope s__law_drawn) .none kV__law_drawn dc__law_drawn pm__law_drawn an__law_drawn cd__law_drawn ct__law_drawn), sl__law_drawn⟩)
    (c__law_drawn : PySem.W.codeIn K cd__law_drawn "_law_drawn" = true)
    (k__law_drawn : PySem.W.keepIn K (.ref f__law_drawn) = true)
    (a__law_deep : PySem.W.nsIn K mainGlobals "_law_deep" = some (some (.ref f__law_deep)))
    (l__law_deep : K.lookup f__law_deep = some ⟨oc__law_deep, od__law_deep, .func (PySem.W.fnOf "_law_deep" "_law_deep" (defArgs s__law_deep) (defBody s__law_deep) (defScope s__law_deep) .none kV__law_deep dc__law_deep pm__law_deep an__law_deep cd__law_deep ct__law_deep), sl__law_deep⟩)
    (c__law_deep : PySem.W.codeIn K cd__law_deep "_law_deep" = true)
    (k__law_deep : PySem.W.keepIn K (.ref f__law_deep) = true)
    (a__law_bent : PySem.W.nsIn K mainGlobals "_law_bent" = some (some (.ref f__law_bent)))
    (l__law_bent : K.lookup f__law_bent = some ⟨oc__law_bent, od__law_bent, .func (PySem.W.fnOf "_law_bent" "_law_bent" (defArgs s__law_bent) (defBody s__law_bent) (defScope s__law_bent) .none kV__law_bent dc__law_bent pm__law_bent an__law_bent cd__law_bent ct__law_bent), sl__law_bent⟩)
    (c__law_bent : PySem.W.codeIn K cd__law_bent "_law_bent" = true)
    (k__law_bent : PySem.W.keepIn K (.ref f__law_bent) = true)
    (a_law : PySem.W.nsIn K mainGlobals "law" = some (some (.ref f_law)))
    (l_law : K.lookup f_law = some ⟨oc_law, od_law, .func (PySem.W.fnOf "law" "law" (defArgs s_law) (defBody s_law) (defScope s_law) .none kV_law dc_law pm_law an_law cd_law ct_law), sl_law⟩)
    (c_law : PySem.W.codeIn K cd_law "law" = true)
    (k_law : PySem.W.keepIn K (.ref f_law) = true)
    (pgWords : PySem.W.plainGet K c_Words Str.empty = true)
    (hdWords : PySem.W.hasDictIn K c_Words = true)
    (poWords : PySem.W.plainOver K c_Words = true)
    (saWords : PySem.W.findIn K (.ref c_Words) "__setattr__" = some (some (.builtin "object.__setattr__")))
    (mkWords : PySem.W.makesIn K c_Words = true)
    (kcWords : PySem.W.keepIn K (.ref c_Words) = true)
    (noWords_blocks : PySem.W.findIn K (.ref c_Words) "blocks" = some none)
    (noWords_ups : PySem.W.findIn K (.ref c_Words) "ups" = some none)
    (noWords_lists : PySem.W.findIn K (.ref c_Words) "lists" = some none)
    (haWords : PySem.W.findIn K (.ref c_Words) "__class__" = some (some (.builtin "object.__class__")))
    (hmWords : PySem.W.mroIn K c_Words (.type "object") = some true)
    (icWords : PySem.W.isClsIn K c_Words = true)
    (tyWords : PySem.W.typeIn K (.ref c_Words) = some (.type "type"))
    (spO : PySem.W.specialIn K (.builtin "object.__class__") "__get__" = some (some (.builtin "getset_descriptor.__get__")))
    (tkO : PySem.W.takesIn K (.builtin "object.__class__") = some true)
    (pgPayments : PySem.W.plainGet K c_Payments Str.empty = true)
    (hdPayments : PySem.W.hasDictIn K c_Payments = true)
    (poPayments : PySem.W.plainOver K c_Payments = true)
    (saPayments : PySem.W.findIn K (.ref c_Payments) "__setattr__" = some (some (.builtin "object.__setattr__")))
    (mkPayments : PySem.W.makesIn K c_Payments = true)
    (kcPayments : PySem.W.keepIn K (.ref c_Payments) = true)
    (noPayments_blocks : PySem.W.findIn K (.ref c_Payments) "blocks" = some none)
    (noPayments_left : PySem.W.findIn K (.ref c_Payments) "left" = some none)
    (noPayments_from_places : PySem.W.findIn K (.ref c_Payments) "from_places" = some none)
    (noPayments_free_ties : PySem.W.findIn K (.ref c_Payments) "free_ties" = some none)
    (noPayments_paid : PySem.W.findIn K (.ref c_Payments) "paid" = some none)
    (swint : PySem.W.subIn K (.ref c_Words) (.type "int") = some false)
    (swbool : PySem.W.subIn K (.ref c_Words) (.type "bool") = some false)
    (swtuple : PySem.W.subIn K (.ref c_Words) (.type "tuple") = some false)
    (swlist : PySem.W.subIn K (.ref c_Words) (.type "list") = some false)
    : ∃ fd : FuncData, (∀ (s : Shared) (v : Value), BindsTo s fd ⟨[v], []⟩ [("_law_script", v)]) ∧ ∀ base : Heap, K.In base → base.Ns mainGlobals mg → FnOk P w K mg base CX0 7 fa fd ["_law_script"] (spLaw K) := by
  have e := hfa.symm.trans (PySem.W.mg_of X G a_law)
  cases e
  have F__wall := fun_mk (st := s__wall) l__wall c__wall k__wall
  have b__wall := F__wall.binds (ps := ["k"]) fun _ _ _ _ _ _ us hl => match us, hl with | [_], _ => rfl
  have C__wall := Cal.mk (PySem.W.mg_of X G a__wall) k__wall b__wall
  have F_is_within := fun_mk (st := s_is_within) l_is_within c_is_within k_is_within
  have b_is_within := F_is_within.binds (ps := ["least", "most", "thing"]) fun _ _ _ _ _ _ us hl => match us, hl with | [_, _, _], _ => rfl
  have C_is_within := Cal.mk (PySem.W.mg_of X G a_is_within) k_is_within b_is_within
  have F_is_pair := fun_mk (st := s_is_pair) l_is_pair c_is_pair k_is_pair
  have b_is_pair := F_is_pair.binds (ps := ["thing"]) fun _ _ _ _ _ _ us hl => match us, hl with | [_], _ => rfl
  have C_is_pair := Cal.mk (PySem.W.mg_of X G a_is_pair) k_is_pair b_is_pair
  have F_is_ascending := fun_mk (st := s_is_ascending) l_is_ascending c_is_ascending k_is_ascending
  have b_is_ascending := F_is_ascending.binds (ps := ["row"]) fun _ _ _ _ _ _ us hl => match us, hl with | [_], _ => rfl
  have C_is_ascending := Cal.mk (PySem.W.mg_of X G a_is_ascending) k_is_ascending b_is_ascending
  have F_is_lot_within := fun_mk (st := s_is_lot_within) l_is_lot_within c_is_lot_within k_is_lot_within
  have b_is_lot_within := F_is_lot_within.binds (ps := ["least", "most", "thing"]) fun _ _ _ _ _ _ us hl => match us, hl with | [_, _, _], _ => rfl
  have C_is_lot_within := Cal.mk (PySem.W.mg_of X G a_is_lot_within) k_is_lot_within b_is_lot_within
  have F_Words___init__ := fun_mk (st := s_Words___init__) l_Words___init__ c_Words___init__ k_Words___init__
  have b_Words___init__ := F_Words___init__.binds (ps := ["self", "blocks", "ups", "lists"]) fun _ _ _ _ _ _ us hl => match us, hl with | [_, _, _, _], _ => rfl
  have C_Words___init__ := CalM.mk k_Words___init__ b_Words___init__
  have F__is_tuple_of := fun_mk (st := s__is_tuple_of) l__is_tuple_of c__is_tuple_of k__is_tuple_of
  have b__is_tuple_of := F__is_tuple_of.binds (ps := ["many", "thing"]) fun _ _ _ _ _ _ us hl => match us, hl with | [_, _], _ => rfl
  have C__is_tuple_of := Cal.mk (PySem.W.mg_of X G a__is_tuple_of) k__is_tuple_of b__is_tuple_of
  have F__is_up := fun_mk (st := s__is_up) l__is_up c__is_up k__is_up
  have b__is_up := F__is_up.binds (ps := ["blocks", "block", "thing"]) fun _ _ _ _ _ _ us hl => match us, hl with | [_, _, _], _ => rfl
  have C__is_up := Cal.mk (PySem.W.mg_of X G a__is_up) k__is_up b__is_up
  have F__is_listing := fun_mk (st := s__is_listing) l__is_listing c__is_listing k__is_listing
  have b__is_listing := F__is_listing.binds (ps := ["place", "block", "thing"]) fun _ _ _ _ _ _ us hl => match us, hl with | [_, _, _], _ => rfl
  have C__is_listing := Cal.mk (PySem.W.mg_of X G a__is_listing) k__is_listing b__is_listing
  have F_costs := fun_mk (st := s_costs) l_costs c_costs k_costs
  have b_costs := F_costs.binds (ps := ["words", "block"]) fun _ _ _ _ _ _ us hl => match us, hl with | [_, _], _ => rfl
  have C_costs := Cal.mk (PySem.W.mg_of X G a_costs) k_costs b_costs
  have F_Payments___init__ := fun_mk (st := s_Payments___init__) l_Payments___init__ c_Payments___init__ k_Payments___init__
  have b_Payments___init__ := F_Payments___init__.binds (ps := ["self", "words"]) fun _ _ _ _ _ _ us hl => match us, hl with | [_, _], _ => rfl
  have C_Payments___init__ := CalM.mk k_Payments___init__ b_Payments___init__
  have F_Payments_take_free := fun_mk (st := s_Payments_take_free) l_Payments_take_free c_Payments_take_free k_Payments_take_free
  have b_Payments_take_free := F_Payments_take_free.binds (ps := ["self", "block", "places"]) fun _ _ _ _ _ _ us hl => match us, hl with | [_, _, _], _ => rfl
  have C_Payments_take_free := CalM.mk k_Payments_take_free b_Payments_take_free
  have F_Payments_pay_all := fun_mk (st := s_Payments_pay_all) l_Payments_pay_all c_Payments_pay_all k_Payments_pay_all
  have b_Payments_pay_all := F_Payments_pay_all.binds (ps := ["self"]) fun _ _ _ _ _ _ us hl => match us, hl with | [_], _ => rfl
  have C_Payments_pay_all := CalM.mk k_Payments_pay_all b_Payments_pay_all
  have F_Payments_lot_to_pay := fun_mk (st := s_Payments_lot_to_pay) l_Payments_lot_to_pay c_Payments_lot_to_pay k_Payments_lot_to_pay
  have b_Payments_lot_to_pay := F_Payments_lot_to_pay.binds (ps := ["self"]) fun _ _ _ _ _ _ us hl => match us, hl with | [_], _ => rfl
  have C_Payments_lot_to_pay := CalM.mk k_Payments_lot_to_pay b_Payments_lot_to_pay
  have F_Payments_leading_to := fun_mk (st := s_Payments_leading_to) l_Payments_leading_to c_Payments_leading_to k_Payments_leading_to
  have b_Payments_leading_to := F_Payments_leading_to.binds (ps := ["self"]) fun _ _ _ _ _ _ us hl => match us, hl with | [_], _ => rfl
  have C_Payments_leading_to := CalM.mk k_Payments_leading_to b_Payments_leading_to
  have F_Payments_pay := fun_mk (st := s_Payments_pay) l_Payments_pay c_Payments_pay k_Payments_pay
  have b_Payments_pay := F_Payments_pay.binds (ps := ["self", "lot"]) fun _ _ _ _ _ _ us hl => match us, hl with | [_, _], _ => rfl
  have C_Payments_pay := CalM.mk k_Payments_pay b_Payments_pay
  have F_nest := fun_mk (st := s_nest) l_nest c_nest k_nest
  have b_nest := F_nest.binds (ps := ["words"]) fun _ _ _ _ _ _ us hl => match us, hl with | [_], _ => rfl
  have C_nest := Cal.mk (PySem.W.mg_of X G a_nest) k_nest b_nest
  have F_is_nest := fun_mk (st := s_is_nest) l_is_nest c_is_nest k_is_nest
  have b_is_nest := F_is_nest.binds (ps := ["words", "thing"]) fun _ _ _ _ _ _ us hl => match us, hl with | [_, _], _ => rfl
  have C_is_nest := Cal.mk (PySem.W.mg_of X G a_is_nest) k_is_nest b_is_nest
  have F__is_payment := fun_mk (st := s__is_payment) l__is_payment c__is_payment k__is_payment
  have b__is_payment := F__is_payment.binds (ps := ["words", "thing"]) fun _ _ _ _ _ _ us hl => match us, hl with | [_, _], _ => rfl
  have C__is_payment := Cal.mk (PySem.W.mg_of X G a__is_payment) k__is_payment b__is_payment
  have F__paid_for := fun_mk (st := s__paid_for) l__paid_for c__paid_for k__paid_for
  have b__paid_for := F__paid_for.binds (ps := ["words", "pairs"]) fun _ _ _ _ _ _ us hl => match us, hl with | [_, _], _ => rfl
  have C__paid_for := Cal.mk (PySem.W.mg_of X G a__paid_for) k__paid_for b__paid_for
  have F__law_tape := fun_mk (st := s__law_tape) l__law_tape c__law_tape k__law_tape
  have b__law_tape := F__law_tape.binds (ps := ["_law_script"]) fun _ _ _ _ _ _ us hl => match us, hl with | [_], _ => rfl
  have C__law_tape := Cal.mk (PySem.W.mg_of X G a__law_tape) k__law_tape b__law_tape
  have F__law_pick := fun_mk (st := s__law_pick) l__law_pick c__law_pick k__law_pick
  have b__law_pick := F__law_pick.binds (ps := ["_law_tape_here", "_law_many"]) fun _ _ _ _ _ _ us hl => match us, hl with | [_, _], _ => rfl
  have C__law_pick := Cal.mk (PySem.W.mg_of X G a__law_pick) k__law_pick b__law_pick
  have F__law_any := fun_mk (st := s__law_any) l__law_any c__law_any k__law_any
  have b__law_any := F__law_any.binds (ps := ["_law_tape_here", "_law_things"]) fun _ _ _ _ _ _ us hl => match us, hl with | [_, _], _ => rfl
  have C__law_any := Cal.mk (PySem.W.mg_of X G a__law_any) k__law_any b__law_any
  have F__law_mixed := fun_mk (st := s__law_mixed) l__law_mixed c__law_mixed k__law_mixed
  have b__law_mixed := F__law_mixed.binds (ps := ["_law_tape_here", "_law_things"]) fun _ _ _ _ _ _ us hl => match us, hl with | [_, _], _ => rfl
  have C__law_mixed := Cal.mk (PySem.W.mg_of X G a__law_mixed) k__law_mixed b__law_mixed
  have F__law_right := fun_mk (st := s__law_right) l__law_right c__law_right k__law_right
  have b__law_right := F__law_right.binds (ps := ["_law_tape_here", "_law_blocks"]) fun _ _ _ _ _ _ us hl => match us, hl with | [_, _], _ => rfl
  have C__law_right := Cal.mk (PySem.W.mg_of X G a__law_right) k__law_right b__law_right
  have F__law_damaged := fun_mk (st := s__law_damaged) l__law_damaged c__law_damaged k__law_damaged
  have b__law_damaged := F__law_damaged.binds (ps := ["_law_tape_here", "_law_blocks", "_law_ups", "_law_lists", "_law_many"]) fun _ _ _ _ _ _ us hl => match us, hl with | [_, _, _, _, _], _ => rfl
  have C__law_damaged := Cal.mk (PySem.W.mg_of X G a__law_damaged) k__law_damaged b__law_damaged
  have F__law_words := fun_mk (st := s__law_words) l__law_words c__law_words k__law_words
  have b__law_words := F__law_words.binds (ps := ["_law_blocks", "_law_ups", "_law_lists"]) fun _ _ _ _ _ _ us hl => match us, hl with | [_, _, _], _ => rfl
  have C__law_words := Cal.mk (PySem.W.mg_of X G a__law_words) k__law_words b__law_words
  have F__law_costs := fun_mk (st := s__law_costs) l__law_costs c__law_costs k__law_costs
  have b__law_costs := F__law_costs.binds (ps := ["_law_blocks", "_law_ups", "_law_lists", "_law_block"]) fun _ _ _ _ _ _ us hl => match us, hl with | [_, _, _, _], _ => rfl
  have C__law_costs := Cal.mk (PySem.W.mg_of X G a__law_costs) k__law_costs b__law_costs
  have F__law_is_int := fun_mk (st := s__law_is_int) l__law_is_int c__law_is_int k__law_is_int
  have b__law_is_int := F__law_is_int.binds (ps := ["_law_thing", "_law_least"]) fun _ _ _ _ _ _ us hl => match us, hl with | [_, _], _ => rfl
  have C__law_is_int := Cal.mk (PySem.W.mg_of X G a__law_is_int) k__law_is_int b__law_is_int
  have F__law_is_nest := fun_mk (st := s__law_is_nest) l__law_is_nest c__law_is_nest k__law_is_nest
  have b__law_is_nest := F__law_is_nest.binds (ps := ["_law_costs_here", "_law_thing"]) fun _ _ _ _ _ _ us hl => match us, hl with | [_, _], _ => rfl
  have C__law_is_nest := Cal.mk (PySem.W.mg_of X G a__law_is_nest) k__law_is_nest b__law_is_nest
  have F__law_drawn := fun_mk (st := s__law_drawn) l__law_drawn c__law_drawn k__law_drawn
  have b__law_drawn := F__law_drawn.binds (ps := ["_law_tape_here", "_law_blocks", "_law_costs_here"]) fun _ _ _ _ _ _ us hl => match us, hl with | [_, _, _], _ => rfl
  have C__law_drawn := Cal.mk (PySem.W.mg_of X G a__law_drawn) k__law_drawn b__law_drawn
  have F__law_deep := fun_mk (st := s__law_deep) l__law_deep c__law_deep k__law_deep
  have b__law_deep := F__law_deep.binds (ps := ["_law_tape_here"]) fun _ _ _ _ _ _ us hl => match us, hl with | [_], _ => rfl
  have C__law_deep := Cal.mk (PySem.W.mg_of X G a__law_deep) k__law_deep b__law_deep
  have F__law_bent := fun_mk (st := s__law_bent) l__law_bent c__law_bent k__law_bent
  have b__law_bent := F__law_bent.binds (ps := ["_law_tape_here", "_law_blocks", "_law_thing", "_law_words_here"]) fun _ _ _ _ _ _ us hl => match us, hl with | [_, _, _, _], _ => rfl
  have C__law_bent := Cal.mk (PySem.W.mg_of X G a__law_bent) k__law_bent b__law_bent
  have F_law := fun_mk (st := s_law) l_law c_law k_law
  have b_law := F_law.binds (ps := ["_law_script"]) fun _ _ _ _ _ _ us hl => match us, hl with | [_], _ => rfl
  have C_law := Cal.mk (PySem.W.mg_of X G a_law) k_law b_law
  have B : Bl ⟨c_VoteError, c_BadWords, c_Words, c_Payments, t_MOST_BLOCKS⟩ mg := ⟨PySem.W.mg_none_of X G z_ValueError, PySem.W.mg_none_of X G z_abs, PySem.W.mg_none_of X G z_all, PySem.W.mg_none_of X G z_any, PySem.W.mg_none_of X G z_bool, PySem.W.mg_none_of X G z_enumerate, PySem.W.mg_none_of X G z_int, PySem.W.mg_none_of X G z_isinstance, PySem.W.mg_none_of X G z_len, PySem.W.mg_none_of X G z_list, PySem.W.mg_none_of X G z_min, PySem.W.mg_none_of X G z_range, PySem.W.mg_none_of X G z_str, PySem.W.mg_none_of X G z_sum, PySem.W.mg_none_of X G z_tuple, PySem.W.mg_of X G n_VoteError, PySem.W.mg_of X G n_BadWords, PySem.W.mg_of X G n_Words, PySem.W.mg_of X G n_Payments, PySem.W.mg_of X G n_MOST_BLOCKS⟩
  have hcWords : Cls K c_Words := ⟨pgWords, hdWords, poWords, saWords⟩
  have hMWords : Mk K c_Words f_Words___init__ := ⟨mkWords, a_Words___init__, i_Words___init__, kcWords⟩
  have hIWords : IsC K c_Words := ⟨hcWords, haWords, spO, tkO, hmWords, if_pos (beq_self_eq_true _), kit_ref rfl icWords tyWords (sub_tuple K c_Words)⟩
  have hcPayments : Cls K c_Payments := ⟨pgPayments, hdPayments, poPayments, saPayments⟩
  have hMPayments : Mk K c_Payments f_Payments___init__ := ⟨mkPayments, a_Payments___init__, i_Payments___init__, kcPayments⟩
  have hS : InsK K ⟨c_VoteError, c_BadWords, c_Words, c_Payments, t_MOST_BLOCKS⟩ := ⟨hIWords, fun T h => by
    rcases h with rfl | rfl | rfl | rfl
    · exact kit_typ (by decide +kernel) swint
    · exact kit_typ (by decide +kernel) swbool
    · exact kit_typ (by decide +kernel) swtuple
    · exact kit_typ (by decide +kernel) swlist⟩
  have hW : WCls K ⟨c_VoteError, c_BadWords, c_Words, c_Payments, t_MOST_BLOCKS⟩ := ⟨hcWords, noWords_blocks, noWords_ups, noWords_lists⟩
  have hP : PCls K ⟨c_VoteError, c_BadWords, c_Words, c_Payments, t_MOST_BLOCKS⟩ := ⟨hcPayments, noPayments_blocks, noPayments_left, noPayments_from_places, noPayments_free_ties, noPayments_paid⟩
  have Y_Payments_take_free : Meth K c_Payments "take_free" f_Payments_take_free := ⟨a_Payments_take_free, i_Payments_take_free, k_Payments_take_free⟩
  have Y_Payments_pay_all : Meth K c_Payments "pay_all" f_Payments_pay_all := ⟨a_Payments_pay_all, i_Payments_pay_all, k_Payments_pay_all⟩
  have Y_Payments_lot_to_pay : Meth K c_Payments "lot_to_pay" f_Payments_lot_to_pay := ⟨a_Payments_lot_to_pay, i_Payments_lot_to_pay, k_Payments_lot_to_pay⟩
  have Y_Payments_leading_to : Meth K c_Payments "leading_to" f_Payments_leading_to := ⟨a_Payments_leading_to, i_Payments_leading_to, k_Payments_leading_to⟩
  have Y_Payments_pay : Meth K c_Payments "pay" f_Payments_pay := ⟨a_Payments_pay, i_Payments_pay, k_Payments_pay⟩
  refine ⟨PySem.W.fnOf "law" "law" (defArgs s_law) (defBody s_law) (defScope s_law) .none kV_law dc_law pm_law an_law cd_law ct_law, fun s v => .of_eq rfl, fun base _ _ => ?_⟩
  have G_pick := ok_tpick (P := P) (w := w) (base := base) F__law_pick B
  have G_tape := ok_tape (P := P) (w := w) (base := base) F__law_tape B
  have G_any := ok_any F__law_any B C__law_pick G_pick
  have G_mixed := ok_mixed F__law_mixed B C__law_pick G_pick
  have G_within := ok_within (P := P) (w := w) (base := base) F_is_within B
  have G_isTup := ok_isTup (P := P) (w := w) (base := base) F__is_tuple_of B
  have G_isUp := ok_isUp F__is_up B C_is_within G_within
  have G_isLst := ok_isLst (P := P) (w := w) (base := base) F__is_listing B
  have G_words := ok_words F_Words___init__ B hW C_is_within G_within C__is_tuple_of G_isTup C__is_up G_isUp C__is_listing G_isLst
  have G_costs := ok_costs (P := P) (w := w) (base := base) F_costs B hW
  have G_take := ok_take (P := P) (w := w) (base := base) F_Payments_take_free B hP
  have G_lead := ok_lead (P := P) (w := w) (base := base) F_Payments_leading_to B hP
  have G_lot := ok_lot F_Payments_lot_to_pay B hP C_Payments_leading_to Y_Payments_leading_to G_lead
  have G_pay := ok_pay F_Payments_pay B hP C_Payments_take_free Y_Payments_take_free G_take
  have G_all := ok_all F_Payments_pay_all B hP C_Payments_lot_to_pay Y_Payments_lot_to_pay G_lot C_Payments_pay Y_Payments_pay G_pay
  have G_pinit := ok_pinit F_Payments___init__ B hP hW C_costs G_costs C_Payments_take_free Y_Payments_take_free G_take C_Payments_pay_all Y_Payments_pay_all G_all
  have G_nest := ok_nest F_nest B hP C_Payments___init__ G_pinit hMPayments
  have G_withinK := ok_withinK (P := P) (w := w) (base := base) F_is_within B hS
  have G_pairK := ok_pairK (P := P) (w := w) (base := base) F_is_pair B hS
  have G_asc := ok_ascN (P := P) (w := w) (base := base) F_is_ascending B
  have G_lotN := ok_lotN F_is_lot_within B hS C_is_within G_withinK C_is_ascending G_asc
  have G_isPay := ok_isPayN F__is_payment B hW hS C_is_pair G_pairK C_is_lot_within G_lotN
  have G_paid := ok_paid (P := P) (w := w) (base := base) F__paid_for B hW
  have G_nestN := ok_nestN F_is_nest B hW hS C__is_payment G_isPay C__paid_for G_paid C_costs G_costs
  have G_right := ok_rightL F__law_right B C__law_any G_any C__law_mixed G_mixed
  have G_dam := ok_dam F__law_damaged B C__law_pick G_pick
  have G_lwords := ok_lwords F__law_words B C_Words___init__ G_words hMWords
  have G_lcosts := ok_lcosts (P := P) (w := w) (base := base) F__law_costs B
  have G_int := ok_intK (P := P) (w := w) (base := base) F__law_is_int B hS
  have G_lnest := ok_lnest F__law_is_nest B hS C__law_is_int G_int
  have G_deep := ok_deepN F__law_deep B C__law_any G_any
  have G_drawn := ok_drawnN F__law_drawn B C__law_pick G_pick C__law_is_nest G_lnest
  have G_bent := ok_bent F__law_bent B hS C__law_pick G_pick C__law_any G_any C__law_deep G_deep C__law_is_int G_int
  exact ok_law29 F_law B C__law_tape G_tape C__law_pick G_pick C__law_any G_any C__law_right G_right C__law_damaged G_dam C__law_words G_lwords C__law_costs G_lcosts C__law_drawn G_drawn C__law_bent G_bent C__law_is_nest G_lnest C_nest G_nest C_is_nest G_nestN
end Fv
open PySem PySem.W PyProof.Rows in
set_option maxRecDepth 100000 in
set_option maxHeartbeats 0 in
theorem PySem.Challenge.cw_foldervotes_k29_nests_judged_holds : PySem.Challenge.rw_foldervotes_k29_nests_judged.Holds := by
  refine Fv.hd ?_
  k_fill
  refine L2.walk_of (l := PySem.Challenge.rw_foldervotes_k29_nests_judged) (n := 63) (k := 7) (x := "_law_script") (CX := fun _ => L2.CX0) (sp := fun w => Fv.spLaw _) rfl (by decide) rfl ⟨rfl, by decide, by decide⟩ (fun w h Y => PySem.W.kIn_of Y) ?F (fun _ _ a ns hl _ hS => ⟨a, ns, rfl, hS, hl, fun _ => rfl⟩) (fun _ _ _ _ _ h => h)
  case F =>
   as_aux_lemma =>
    intro w mg fa h KX G hmg
    refine' Fv.all_mk KX G hmg ?n_VoteError ?n_BadWords ?n_Words ?n_Payments ?n_MOST_BLOCKS ?z_ValueError ?z_abs ?z_all ?z_any ?z_bool ?z_enumerate ?z_int ?z_isinstance ?z_len ?z_list ?z_min ?z_range ?z_str ?z_sum ?z_tuple ?a__wall ?l__wall ?c__wall ?k__wall ?a_is_within ?l_is_within ?c_is_within ?k_is_within ?a_is_pair ?l_is_pair ?c_is_pair ?k_is_pair ?a_is_ascending ?l_is_ascending ?c_is_ascending ?k_is_ascending ?a_is_lot_within ?l_is_lot_within ?c_is_lot_within ?k_is_lot_within ?a_Words___init__ ?i_Words___init__ ?l_Words___init__ ?c_Words___init__ ?k_Words___init__ ?a__is_tuple_of ?l__is_tuple_of ?c__is_tuple_of ?k__is_tuple_of ?a__is_up ?l__is_up ?c__is_up ?k__is_up ?a__is_listing ?l__is_listing ?c__is_listing ?k__is_listing ?a_costs ?l_costs ?c_costs ?k_costs ?a_Payments___init__ ?i_Payments___init__ ?l_Payments___init__ ?c_Payments___init__ ?k_Payments___init__ ?a_Payments_take_free ?i_Payments_take_free ?l_Payments_take_free ?c_Payments_take_free ?k_Payments_take_free ?a_Payments_pay_all ?i_Payments_pay_all ?l_Payments_pay_all ?c_Payments_pay_all ?k_Payments_pay_all ?a_Payments_lot_to_pay ?i_Payments_lot_to_pay ?l_Payments_lot_to_pay ?c_Payments_lot_to_pay ?k_Payments_lot_to_pay ?a_Payments_leading_to ?i_Payments_leading_to ?l_Payments_leading_to ?c_Payments_leading_to ?k_Payments_leading_to ?a_Payments_pay ?i_Payments_pay ?l_Payments_pay ?c_Payments_pay ?k_Payments_pay ?a_nest ?l_nest ?c_nest ?k_nest ?a_is_nest ?l_is_nest ?c_is_nest ?k_is_nest ?a__is_payment ?l__is_payment ?c__is_payment ?k__is_payment ?a__paid_for ?l__paid_for ?c__paid_for ?k__paid_for ?a__law_tape ?l__law_tape ?c__law_tape ?k__law_tape ?a__law_pick ?l__law_pick ?c__law_pick ?k__law_pick ?a__law_any ?l__law_any ?c__law_any ?k__law_any ?a__law_mixed ?l__law_mixed ?c__law_mixed ?k__law_mixed ?a__law_right ?l__law_right ?c__law_right ?k__law_right ?a__law_damaged ?l__law_damaged ?c__law_damaged ?k__law_damaged ?a__law_words ?l__law_words ?c__law_words ?k__law_words ?a__law_costs ?l__law_costs ?c__law_costs ?k__law_costs ?a__law_is_int ?l__law_is_int ?c__law_is_int ?k__law_is_int ?a__law_is_nest ?l__law_is_nest ?c__law_is_nest ?k__law_is_nest ?a__law_drawn ?l__law_drawn ?c__law_drawn ?k__law_drawn ?a__law_deep ?l__law_deep ?c__law_deep ?k__law_deep ?a__law_bent ?l__law_bent ?c__law_bent ?k__law_bent ?a_law ?l_law ?c_law ?k_law ?pgWords ?hdWords ?poWords ?saWords ?mkWords ?kcWords ?noWords_blocks ?noWords_ups ?noWords_lists ?haWords ?hmWords ?icWords ?tyWords ?spO ?tkO ?pgPayments ?hdPayments ?poPayments ?saPayments ?mkPayments ?kcPayments ?noPayments_blocks ?noPayments_left ?noPayments_from_places ?noPayments_free_ties ?noPayments_paid ?swint ?swbool ?swtuple ?swlist
    (case n_VoteError => k_is)
    (case n_BadWords => k_is)
    (case n_Words => k_is)
    (case n_Payments => k_is)
    (case n_MOST_BLOCKS => k_is)
    (case z_ValueError => k_is)
    (case z_abs => k_is)
    (case z_all => k_is)
    (case z_any => k_is)
    (case z_bool => k_is)
    (case z_enumerate => k_is)
    (case z_int => k_is)
    (case z_isinstance => k_is)
    (case z_len => k_is)
    (case z_list => k_is)
    (case z_min => k_is)
    (case z_range => k_is)
    (case z_str => k_is)
    (case z_sum => k_is)
    (case z_tuple => k_is)
    (case a__wall => k_is)
    (case l__wall => k_is)
    (case c__wall => k_is)
    (case k__wall => k_is)
    (case a_is_within => k_is)
    (case l_is_within => k_is)
    (case c_is_within => k_is)
    (case k_is_within => k_is)
    (case a_is_pair => k_is)
    (case l_is_pair => k_is)
    (case c_is_pair => k_is)
    (case k_is_pair => k_is)
    (case a_is_ascending => k_is)
    (case l_is_ascending => k_is)
    (case c_is_ascending => k_is)
    (case k_is_ascending => k_is)
    (case a_is_lot_within => k_is)
    (case l_is_lot_within => k_is)
    (case c_is_lot_within => k_is)
    (case k_is_lot_within => k_is)
    (case a_Words___init__ => k_is)
    (case i_Words___init__ => k_is)
    (case l_Words___init__ => k_is)
    (case c_Words___init__ => k_is)
    (case k_Words___init__ => k_is)
    (case a__is_tuple_of => k_is)
    (case l__is_tuple_of => k_is)
    (case c__is_tuple_of => k_is)
    (case k__is_tuple_of => k_is)
    (case a__is_up => k_is)
    (case l__is_up => k_is)
    (case c__is_up => k_is)
    (case k__is_up => k_is)
    (case a__is_listing => k_is)
    (case l__is_listing => k_is)
    (case c__is_listing => k_is)
    (case k__is_listing => k_is)
    (case a_costs => k_is)
    (case l_costs => k_is)
    (case c_costs => k_is)
    (case k_costs => k_is)
    (case a_Payments___init__ => k_is)
    (case i_Payments___init__ => k_is)
    (case l_Payments___init__ => k_is)
    (case c_Payments___init__ => k_is)
    (case k_Payments___init__ => k_is)
    (case a_Payments_take_free => k_is)
    (case i_Payments_take_free => k_is)
    (case l_Payments_take_free => k_is)
    (case c_Payments_take_free => k_is)
    (case k_Payments_take_free => k_is)
    (case a_Payments_pay_all => k_is)
    (case i_Payments_pay_all => k_is)
    (case l_Payments_pay_all => k_is)
    (case c_Payments_pay_all => k_is)
    (case k_Payments_pay_all => k_is)
    (case a_Payments_lot_to_pay => k_is)
    (case i_Payments_lot_to_pay => k_is)
    (case l_Payments_lot_to_pay => k_is)
    (case c_Payments_lot_to_pay => k_is)
    (case k_Payments_lot_to_pay => k_is)
    (case a_Payments_leading_to => k_is)
    (case i_Payments_leading_to => k_is)
    (case l_Payments_leading_to => k_is)
    (case c_Payments_leading_to => k_is)
    (case k_Payments_leading_to => k_is)
    (case a_Payments_pay => k_is)
    (case i_Payments_pay => k_is)
    (case l_Payments_pay => k_is)
    (case c_Payments_pay => k_is)
    (case k_Payments_pay => k_is)
    (case a_nest => k_is)
    (case l_nest => k_is)
    (case c_nest => k_is)
    (case k_nest => k_is)
    (case a_is_nest => k_is)
    (case l_is_nest => k_is)
    (case c_is_nest => k_is)
    (case k_is_nest => k_is)
    (case a__is_payment => k_is)
    (case l__is_payment => k_is)
    (case c__is_payment => k_is)
    (case k__is_payment => k_is)
    (case a__paid_for => k_is)
    (case l__paid_for => k_is)
    (case c__paid_for => k_is)
    (case k__paid_for => k_is)
    (case a__law_tape => k_is)
    (case l__law_tape => k_is)
    (case c__law_tape => k_is)
    (case k__law_tape => k_is)
    (case a__law_pick => k_is)
    (case l__law_pick => k_is)
    (case c__law_pick => k_is)
    (case k__law_pick => k_is)
    (case a__law_any => k_is)
    (case l__law_any => k_is)
    (case c__law_any => k_is)
    (case k__law_any => k_is)
    (case a__law_mixed => k_is)
    (case l__law_mixed => k_is)
    (case c__law_mixed => k_is)
    (case k__law_mixed => k_is)
    (case a__law_right => k_is)
    (case l__law_right => k_is)
    (case c__law_right => k_is)
    (case k__law_right => k_is)
    (case a__law_damaged => k_is)
    (case l__law_damaged => k_is)
    (case c__law_damaged => k_is)
    (case k__law_damaged => k_is)
    (case a__law_words => k_is)
    (case l__law_words => k_is)
    (case c__law_words => k_is)
    (case k__law_words => k_is)
    (case a__law_costs => k_is)
    (case l__law_costs => k_is)
    (case c__law_costs => k_is)
    (case k__law_costs => k_is)
    (case a__law_is_int => k_is)
    (case l__law_is_int => k_is)
    (case c__law_is_int => k_is)
    (case k__law_is_int => k_is)
    (case a__law_is_nest => k_is)
    (case l__law_is_nest => k_is)
    (case c__law_is_nest => k_is)
    (case k__law_is_nest => k_is)
    (case a__law_drawn => k_is)
    (case l__law_drawn => k_is)
    (case c__law_drawn => k_is)
    (case k__law_drawn => k_is)
    (case a__law_deep => k_is)
    (case l__law_deep => k_is)
    (case c__law_deep => k_is)
    (case k__law_deep => k_is)
    (case a__law_bent => k_is)
    (case l__law_bent => k_is)
    (case c__law_bent => k_is)
    (case k__law_bent => k_is)
    (case a_law => k_is)
    (case l_law => k_is)
    (case c_law => k_is)
    (case k_law => k_is)
    (case pgWords => k_is)
    (case hdWords => k_is)
    (case poWords => k_is)
    (case saWords => k_is)
    (case mkWords => k_is)
    (case kcWords => k_is)
    (case noWords_blocks => k_is)
    (case noWords_ups => k_is)
    (case noWords_lists => k_is)
    (case haWords => k_is)
    (case hmWords => k_is)
    (case icWords => k_is)
    (case tyWords => k_is)
    (case spO => k_is)
    (case tkO => k_is)
    (case pgPayments => k_is)
    (case hdPayments => k_is)
    (case poPayments => k_is)
    (case saPayments => k_is)
    (case mkPayments => k_is)
    (case kcPayments => k_is)
    (case noPayments_blocks => k_is)
    (case noPayments_left => k_is)
    (case noPayments_from_places => k_is)
    (case noPayments_free_ties => k_is)
    (case noPayments_paid => k_is)
    (case swint => k_is)
    (case swbool => k_is)
    (case swtuple => k_is)
    (case swlist => k_is)
