import PyProof.Rows.All
import Wide.All
import OpenK.AllK
import Wide.FinOn
import HandS.Base
import HandS.Call
import HandS.List
import HandS.Comp
import HandS.Ends
import HandS.Words
import HandS.Codes
import HandS.IsInst
import HandS.Flow
import HandS.Conv
import HandS.Iter
import KE.GoesEnum
import KE.GoesEnumKw
import KE.GoesMore
import HandS.Exc
import HandS.ExcOwn
import HandS.ExcInit
import HandS.TryOnly
import HandS.WordsExc
import KE.KExcIs
import HandS.ExcField
import HandS.ExcIs
import HandS.TupMul
import HandS.Sort
import KE.KExcSuper
import HandS.Small
import PyProof.TupleOfSeq
import HandS.TupAny
import HandS.Star
import HandS.SetFor
import PyProof.EqKinds
import PyProof.InstNe
import OpenK.KOwn
import KE.KIndexOf
import HandS.SortRule
import HandS.Zip
import HandS.Dict
import HandS.Style
import KE.KRevSl
import KE.KEqDict
import HandS.SuiteRaise
import HandS.RaiseFrom
import HandS.ExcInitHot
import KE.KTryMore
import HandS.Strs
import PyProof.Rows.SetFrom
import HandS.WordsDict
import HandS.DictComp
import HandS.Finally
import HandS.Walk
import KE.KDictItemsList
import KE.KDictZip
import KE.LtData
import KE.SortData
import PyProof.MinMaxWalk
import PyProof.WalksMore
import KE.DataMinMax
import PySem.Challenge.RW_foldervotes_k38_whole_fewest_calms
import KE.OsRunLaw
set_option Elab.async false
set_option linter.all false
namespace Fv
section
open PySem PySem.W PyProof.Rows
local macro_rules | `(tactic| k_head) => `(tactic| k_headL)
set_option maxRecDepth 100000 in
set_option maxHeartbeats 0 in
open_top hd for PySem.Challenge.rw_foldervotes_k38_whole_fewest_calms
end
end Fv
set_option maxRecDepth 100000
set_option maxHeartbeats 4000000
namespace Fv
open PySem PySem.Spec PyProof.Rows L2
section
variable {K : PySem.W.Frag} {σ : L2.St} {H H' H1 H2 : Hp} {i : Nat} {v x y : V} {Q : VK} {D : Ends} {t u : TS} {te ta tb : TE} {tt tt2 : TT} {a b p q : Addr} {o o' : HO} {xs ys : List V}
theorem x_seq (h : t { D with nx := u D } σ H) : tSeq t u D σ H := h
theorem x_next (h : D.nx σ H) : tNext D σ H := h
theorem x_drop (h : te σ H fun _ H1 => D.nx σ H1) : tDrop te D σ H := h
theorem x_ret (h : te σ H D.rt) : tRet te D σ H := h
theorem x_retN (h : D.rt .non H) : tRetN D σ H := h
theorem x_ifs (h : tt σ H fun b H1 => if b = true then t D σ H1 else u D σ H1) : tIfS tt t u D σ H := h
theorem x_asg {g : TG} (h : te σ H fun x H1 => g x σ H1 D.nx) : tAsg te g D σ H := h
theorem x_gname {R : L2.St → Hp → Prop} (h : R (σ.set i (some v)) H) : gName i v σ H R := h
theorem x_gsub {to ti : TE} {s : TSet} {R : L2.St → Hp → Prop} (h : to σ H fun o H1 => ti σ H1 fun i H2 => s o i v H2 fun H3 => R σ H3) : gSub to ti s v σ H R := h
theorem x_gtup {n : Nat} {g : TGs} {R : L2.St → Hp → Prop} (h : SqT K H a xs) (hl : xs.length = n) (q : g xs σ H R) : gTup K n g (.ref a) σ H R := ⟨a, xs, rfl, h, hl, q⟩
theorem x_gcons {g : TG} {gs : TGs} {R : L2.St → Hp → Prop} (h : g x σ H fun σ' H' => gs xs σ' H' R) : gCons g gs (x :: xs) σ H R := ⟨x, xs, rfl, h⟩
theorem x_gnil {R : L2.St → Hp → Prop} (h : R σ H) : gNil [] σ H R := ⟨rfl, h⟩
theorem x_var (h : σ[i]? = some (some v)) (q : Q v H) : tVar i σ H Q := ⟨v, h, q⟩
theorem x_c (q : Q v H) : tC v σ H Q := q
theorem x_op {r : R2} (h : ta σ H fun x H1 => tb σ H1 fun y H2 => r x y H2 Q) : tOp r ta tb σ H Q := h
theorem x_un {r : V → Hp → VK → Prop} (h : ta σ H fun x H1 => r x H1 Q) : tUn r ta σ H Q := h
theorem x_i0 {g : Int → Int → V} {i j : Int} (q : Q (g i j) H) : rI0 g (.int i) (.int j) H Q := ⟨i, j, rfl, rfl, q⟩
theorem x_i {C : Int → Int → Prop} {g : Int → Int → V} {i j : Int} (c : C i j) (q : Q (g i j) H) : rI C g (.int i) (.int j) H Q := ⟨i, j, rfl, rfl, c, q⟩
theorem x_u {g : Int → V} {i : Int} (q : Q (g i) H) : rU g (.int i) H Q := ⟨i, rfl, q⟩
theorem x_eq (h : scal x y = true) (q : Q (.bl (decide (x = y))) H) : rEq x y H Q := ⟨h, q⟩
theorem x_ne (h : scal x y = true) (q : Q (.bl (!decide (x = y))) H) : rNe x y H Q := ⟨h, q⟩
theorem x_eqI {i j : Int} (q : Q (.bl (decide (i = j))) H) : rEq (.int i) (.int j) H Q := ⟨rfl, by
  have e : decide (V.int i = V.int j) = decide (i = j) := by
    rw [Bool.eq_iff_iff]
    simp
  rw [e]
  exact q⟩
theorem x_neI {i j : Int} (q : Q (.bl (decide (i ≠ j))) H) : rNe (.int i) (.int j) H Q := ⟨rfl, by
  have e : (!decide (V.int i = V.int j)) = decide (i ≠ j) := by
    rw [Bool.eq_iff_iff]
    simp
  rw [e]
  exact q⟩
theorem x_ixL {i : Int} (h : SqL K H p xs) (ha : atI xs i = some v) (q : Q v H) : rIxL K (.ref p) (.int i) H Q := ⟨p, xs, i, v, rfl, rfl, h, ha, q⟩
theorem x_ixT {i : Int} (h : SqT K H p xs) (ha : atI xs i = some v) (q : Q v H) : rIxT K (.ref p) (.int i) H Q := ⟨p, xs, i, v, rfl, rfl, h, ha, q⟩
theorem x_setL {i : Int} {j : Nat} {R : Hp → Prop} (h : H p = some (.lst xs)) (hi : ixN xs.length i = some j) (q : R (upd H p (.lst (xs.set j v)))) : rSetL (.ref p) (.int i) v H R := ⟨p, xs, i, j, rfl, rfl, h, hi, q⟩
theorem x_test {R : Bool → Hp → Prop} (h : te σ H fun x H' => ∃ k, x = .bl k ∧ R k H') : tTest te σ H R := h
theorem x_b {R : Bool → Hp → Prop} (h : te σ H fun x H1 => ∃ c, x = .bl c ∧ R c H1) : tB te σ H R := h
theorem x_isb {c : Bool} {R : Bool → Prop} (h : R c) : ∃ k, V.bl c = .bl k ∧ R k := ⟨c, rfl, h⟩
theorem x_isi {c : Int} {R : Int → Prop} (h : R c) : ∃ k, V.int c = .int k ∧ R k := ⟨c, rfl, h⟩
theorem x_and {R : Bool → Hp → Prop} (h : tt σ H fun c H1 => if c = true then tt2 σ H1 R else R false H1) : tAnd tt tt2 σ H R := h
theorem x_or {R : Bool → Hp → Prop} (h : tt σ H fun c H1 => if c = true then R true H1 else tt2 σ H1 R) : tOr tt tt2 σ H R := h
theorem x_not {R : Bool → Hp → Prop} (h : tt σ H fun c H1 => R (!c) H1) : tNot tt σ H R := h
theorem x_andV (h : ta σ H fun x H1 => ∃ c, x = .bl c ∧ if c = true then tb σ H1 Q else Q (.bl false) H1) : tAndV ta tb σ H Q := h
theorem x_orV (h : ta σ H fun x H1 => ∃ c, x = .bl c ∧ if c = true then Q (.bl true) H1 else tb σ H1 Q) : tOrV ta tb σ H Q := h
theorem x_notV (h : ta σ H fun x H1 => ∃ c, x = .bl c ∧ Q (.bl (!c)) H1) : tNotV ta σ H Q := h
theorem x_ifx (h : tt σ H fun c H1 => if c = true then ta σ H1 Q else tb σ H1 Q) : tIf tt ta tb σ H Q := h
theorem x_nil {R : List V → Hp → Prop} (q : R [] H) : tNil σ H R := q
theorem x_cons {tr : TA} {R : List V → Hp → Prop} (h : te σ H fun x H1 => tr σ H1 fun xs H2 => R (x :: xs) H2) : tCons te tr σ H R := h
theorem x_cb {r : List V → Hp → VK → Prop} {ts : TA} (h : ts σ H fun vs H1 => r vs H1 Q) : tCB r ts σ H Q := h
theorem x_call {sp : Sp} {dvs : List V} {E : XK} {ts : TA} (h : ts σ H fun vs H1 => sp (vs ++ dvs) H1 Q E) : tCall sp dvs E ts σ H Q := h
theorem x_lst {ts : TA} (h : ts σ H fun xs H1 => xs.length ≤ sizeLine ∧ ∀ p, H1 p = none → Q (.ref p) (upd H1 p (.lst xs))) : tLst ts σ H Q := h
theorem x_tup {ts : TA} (h : ts σ H fun xs H1 => xs.length ≤ sizeLine ∧ ∀ p, H1 p = none → Q (.ref p) (upd H1 p (.tup xs))) : tTup ts σ H Q := h
theorem x_sl {r : V → Option Int → Option Int → Hp → VK → Prop} {tl th : TO} (h : te σ H fun x H1 => tl σ H1 fun l H2 => th σ H2 fun u H3 => r x l u H3 Q) : tSl r te tl th σ H Q := h
theorem x_nopart {R : Option Int → Hp → Prop} (h : R none H) : tNoPart σ H R := h
theorem x_part {R : Option Int → Hp → Prop} (h : te σ H fun x H1 => ∃ i, x = .int i ∧ R (some i) H1) : tPart te σ H R := h
theorem x_slL {lo hi : Option Int} (h : SqL K H a xs) (q : ∀ p, H p = none → Q (.ref p) (upd H p (.lst (cutV xs lo hi)))) : rSlL K (.ref a) lo hi H Q := ⟨a, xs, rfl, h, q⟩
theorem x_bm {T : String} {r : V → List V → Hp → VK → Prop} {ts : TA} (h : te σ H fun x H1 => tyV K T x H1 ∧ ts σ H1 fun xs H2 => r x xs H2 Q) : tBM K T r te ts σ H Q := h
theorem x_bm0 {T : String} {r : V → List V → Hp → VK → Prop} (h : te σ H fun x H1 => tyV K T x H1 ∧ r x [] H1 Q) : tBM0 K T r te σ H Q := h
theorem x_append (h : H p = some (.lst xs)) (hl : xs.length < sizeLine) (q : Q .non (upd H p (.lst (xs ++ [v])))) : rAppend (.ref p) [v] H Q := ⟨p, xs, v, rfl, rfl, h, hl, q⟩
theorem x_fld {C dx : Addr} {fs : List (Str × V)} {f : Str} (h : te σ H fun x H1 => ∃ a C dx fs v, x = .ref a ∧ H1 a = some (.ins C dx fs) ∧ Cls K C ∧ NoAttr K C f ∧ fs.lookup f = some v ∧ Q v H1) : tFld K te f σ H Q := h
theorem x_par {j : Nat} {ts : TA} (h : ts σ H fun vs H1 => ∃ v w, vs = [v, w] ∧ D.nx ((σ.set i (some v)).set j (some w)) H1) : tPar i j ts D σ H := h
theorem x_par2 {R : V → V → Prop} (h : R x y) : ∃ v w, [x, y] = [v, w] ∧ R v w := ⟨x, y, rfl, h⟩
theorem x_chain {r r' : R2} {tc : TE} (h : ta σ H fun x H1 => tb σ H1 fun y H2 => r x y H2 fun z H3 => ∃ k, z = .bl k ∧ (if k = true then tc σ H3 fun w' H4 => r' y w' H4 Q else Q (.bl false) H3)) : tChain r r' ta tb tc σ H Q := h
theorem x_aug {ti : TIp} (h : σ[i]? = some (some x)) (q : te σ H fun y H1 => ti x y H1 fun z H2 => D.nx (σ.set i (some z)) H2) : tAug i te ti D σ H := ⟨x, h, q⟩
theorem x_ipI {f : Int → Int → Int} {i j : Int} (q : Q (.int (f i j)) H) : ipI f (.int i) (.int j) H Q := ⟨i, j, rfl, rfl, q⟩
theorem x_ilist {R : It → Hp → Prop} {tl : TE} (h : tl σ H fun x H1 => ∃ a, x = .ref a ∧ (∃ xs, SqL K H1 a xs) ∧ R (Itl K a) H1) : iList K tl σ H R := h
theorem x_itup {R : It → Hp → Prop} {tl : TE} (h : tl σ H fun x H1 => ∃ a, x = .ref a ∧ (∃ xs, SqT K H1 a xs) ∧ R (Itt K a) H1) : iTup K tl σ H R := h
theorem x_isseq {A : List V → Prop} {R : Addr → Prop} (h : A xs) (q : R a) : ∃ b, V.ref a = .ref b ∧ (∃ xs, A xs) ∧ R b := ⟨a, rfl, ⟨xs, h⟩, q⟩
theorem x_rng1 {R : It → Hp → Prop} {ts : TA} (h : ts σ H fun vs H1 => ∃ j : Int, vs = [.int j] ∧ -(2 ^ 62) ≤ j ∧ j < 2 ^ 62 ∧ R (Itr 0 j.toNat) H1) : iRng1 ts σ H R := h
theorem x_rng2 {R : It → Hp → Prop} {ts : TA} (h : ts σ H fun vs H1 => ∃ i j : Int, vs = [.int i, .int j] ∧ (-(2 ^ 62) ≤ i ∧ i < 2 ^ 62 ∧ -(2 ^ 62) ≤ j ∧ j < 2 ^ 62) ∧ R (Itr i (j - i).toNat) H1) : iRng2 ts σ H R := h
theorem x_is1 {j : Int} {P1 P2 : Int → Prop} {R : Int → Prop} (h1 : P1 j) (h2 : P2 j) (q : R j) : ∃ k : Int, [V.int j] = [.int k] ∧ P1 k ∧ P2 k ∧ R k := ⟨j, rfl, h1, h2, q⟩
theorem x_is2 {i j : Int} {P1 : Int → Int → Prop} {R : Int → Int → Prop} (h1 : P1 i j) (q : R i j) : ∃ k l : Int, [V.int i, V.int j] = [.int k, .int l] ∧ P1 k l ∧ R k l := ⟨i, j, rfl, h1, q⟩
theorem x_yes {R : Bool → Hp → Prop} (h : R true H) : tYes σ H R := h
def rLen (K : PySem.W.Frag) : List V → Hp → VK → Prop := fun xs H Q => ∃ p ys, xs = [.ref p] ∧ (SqL K H p ys ∨ SqT K H p ys) ∧ Q (.int ys.length) H
def rInt : List V → Hp → VK → Prop := fun xs H Q => (∃ i, xs = [.int i] ∧ Q (.int i) H) ∨ ∃ k, xs = [.bl k] ∧ Q (.int (if k then 1 else 0)) H
def rAbs : List V → Hp → VK → Prop := fun xs H Q => ∃ i, xs = [.int i] ∧ Q (.int (if i < 0 then -i else i)) H
def rListOf (K : PySem.W.Frag) : List V → Hp → VK → Prop := fun xs H Q => ∃ p ys, xs = [.ref p] ∧ (SqL K H p ys ∨ SqT K H p ys) ∧ ∀ l, H l = none → Q (.ref l) (upd H l (.lst ys))
def rTupOf (K : PySem.W.Frag) : List V → Hp → VK → Prop := fun xs H Q => ∃ p ys, xs = [.ref p] ∧ ((SqL K H p ys ∧ ∀ l, H l = none → Q (.ref l) (upd H l (.tup ys))) ∨ (SqT K H p ys ∧ Q (.ref p) H))
theorem call_len {X : Cx} : CallR X (.builtin "len") (rLen X.K) := call_len_seq
theorem call_int {X : Cx} : CallR X (.type "int") rInt := call_int1
theorem call_ab {X : Cx} : CallR X (.builtin "abs") rAbs := call_abs
theorem call_lst {X : Cx} : CallR X (.type "list") (rListOf X.K) := call_list_of
theorem call_tpl {X : Cx} : CallR X (.type "tuple") (rTupOf X.K) := call_tuple_of
theorem x_lenL (h : SqL K H p xs) (q : Q (.int xs.length) H) : rLen K [.ref p] H Q := ⟨p, xs, rfl, .inl h, q⟩
theorem x_lenT (h : SqT K H p xs) (q : Q (.int xs.length) H) : rLen K [.ref p] H Q := ⟨p, xs, rfl, .inr h, q⟩
theorem x_int1 {j : Int} (q : Q (.int j) H) : rInt [.int j] H Q := .inl ⟨j, rfl, q⟩
theorem x_abs {j : Int} (q : Q (.int (if j < 0 then -j else j)) H) : rAbs [.int j] H Q := ⟨j, rfl, q⟩
theorem x_listL (h : SqL K H p xs) (q : ∀ l, H l = none → Q (.ref l) (upd H l (.lst xs))) : rListOf K [.ref p] H Q := ⟨p, xs, rfl, .inl h, q⟩
theorem x_listT (h : SqT K H p xs) (q : ∀ l, H l = none → Q (.ref l) (upd H l (.lst xs))) : rListOf K [.ref p] H Q := ⟨p, xs, rfl, .inr h, q⟩
theorem x_tupL (h : SqL K H p xs) (q : ∀ l, H l = none → Q (.ref l) (upd H l (.tup xs))) : rTupOf K [.ref p] H Q := ⟨p, xs, rfl, .inl ⟨h, q⟩⟩
theorem x_tupT (h : SqT K H p xs) (q : Q (.ref p) H) : rTupOf K [.ref p] H Q := ⟨p, xs, rfl, .inr ⟨h, q⟩⟩
theorem x_isd {c : Prop} [Decidable c] {A B : Prop} (h1 : c → A) (h2 : ¬ c → B) : if decide c = true then A else B := by
  by_cases h : c
  · rw [if_pos (decide_eq_true h)]
    exact h1 h
  · rw [if_neg (by rw [decide_eq_false h]; exact Bool.false_ne_true)]
    exact h2 h
theorem x_isdT {c : Prop} [Decidable c] {A B : Prop} (h : c) (h1 : A) : if decide c = true then A else B := x_isd (fun _ => h1) fun n => (n h).elim
theorem x_isdF {c : Prop} [Decidable c] {A B : Prop} (h : ¬ c) (h1 : B) : if decide c = true then A else B := x_isd (fun n => (h n).elim) fun _ => h1
theorem x_nF {A B : Prop} (h : A) : if (!false) = true then A else B := iteT h
theorem x_nT {A B : Prop} (h : B) : if (!true) = true then A else B := iteF h
theorem lp_range {g : TG} {tb : TS} {nx : L2.St → Hp → Prop} {rt : VK} {σ : L2.St} {H : Hp} {lo : Int} {n : Nat} (Pv : Nat → L2.St → Hp → Prop) (h0 : Pv 0 σ H) (hs : ∀ i σ H, i < n → Pv i σ H → g (.int (lo + i)) σ H fun σ2 H2 => tb { nx := Pv (i + 1), rt := rt, bk := nx, ct := Pv (i + 1) } σ2 H2) (hd : ∀ σ H, Pv n σ H → nx σ H) :
    ∃ W : Nat → Nat → L2.St → Hp → Prop, (∃ m, W 0 m σ H) ∧ ∀ i m σ H, W i m σ H → ((Itr lo n).stop i H ∧ nx σ H) ∨ ((Itr lo n).go i H ∧ ∃ N : L2.St → Hp → Prop, (∀ σ' H', N σ' H' → ∃ m', m' < m ∧ W (i + 1) m' σ' H') ∧ ∀ x H', (Itr lo n).yld i H x H' → g x σ H' fun σ2 H2 => tb { nx := N, rt := rt, bk := nx, ct := N } σ2 H2) :=
  for_range (D := { nx := nx, rt := rt}) Pv h0 hs hd
theorem lp_list {g : TG} {tb : TS} {nx : L2.St → Hp → Prop} {rt : VK} {σ : L2.St} {H : Hp} {K : PySem.W.Frag} {a : Addr} {xs : List V} (Pv : Nat → L2.St → Hp → Prop) (h0 : Pv 0 σ H) (hl : ∀ i σ H, i ≤ xs.length → Pv i σ H → SqL K H a xs) (hs : ∀ i x σ H, xs[i]? = some x → Pv i σ H → g x σ H fun σ2 H2 => tb { nx := Pv (i + 1), rt := rt, bk := nx, ct := Pv (i + 1) } σ2 H2) (hd : ∀ σ H, Pv xs.length σ H → nx σ H) :
    ∃ W : Nat → Nat → L2.St → Hp → Prop, (∃ m, W 0 m σ H) ∧ ∀ i m σ H, W i m σ H → ((Itl K a).stop i H ∧ nx σ H) ∨ ((Itl K a).go i H ∧ ∃ N : L2.St → Hp → Prop, (∀ σ' H', N σ' H' → ∃ m', m' < m ∧ W (i + 1) m' σ' H') ∧ ∀ x H', (Itl K a).yld i H x H' → g x σ H' fun σ2 H2 => tb { nx := N, rt := rt, bk := nx, ct := N } σ2 H2) :=
  for_list (D := { nx := nx, rt := rt}) Pv h0 hl hs hd
theorem lp_tup {g : TG} {tb : TS} {nx : L2.St → Hp → Prop} {rt : VK} {σ : L2.St} {H : Hp} {K : PySem.W.Frag} {a : Addr} {xs : List V} (Pv : Nat → L2.St → Hp → Prop) (h0 : Pv 0 σ H) (hl : ∀ i σ H, i ≤ xs.length → Pv i σ H → SqT K H a xs) (hs : ∀ i x σ H, xs[i]? = some x → Pv i σ H → g x σ H fun σ2 H2 => tb { nx := Pv (i + 1), rt := rt, bk := nx, ct := Pv (i + 1) } σ2 H2) (hd : ∀ σ H, Pv xs.length σ H → nx σ H) :
    ∃ W : Nat → Nat → L2.St → Hp → Prop, (∃ m, W 0 m σ H) ∧ ∀ i m σ H, W i m σ H → ((Itt K a).stop i H ∧ nx σ H) ∨ ((Itt K a).go i H ∧ ∃ N : L2.St → Hp → Prop, (∀ σ' H', N σ' H' → ∃ m', m' < m ∧ W (i + 1) m' σ' H') ∧ ∀ x H', (Itt K a).yld i H x H' → g x σ H' fun σ2 H2 => tb { nx := N, rt := rt, bk := nx, ct := N } σ2 H2) :=
  for_tup (D := { nx := nx, rt := rt}) Pv h0 hl hs hd
/-! heaps -/
theorem keepN (h : H a = some o) (hp : H p = none) : upd H p o' a = some o := by
  rw [upd_ne (ne_of_none h hp)]
  exact h
theorem keepM (n : a ≠ p) (h : H a = some o) : upd H p o' a = some o := by
  rw [upd_ne n]
  exact h
theorem keepLM (n : a ≠ p) (h : SqL K H a xs) : SqL K (upd H p o') a xs := by
  rcases h with (h | ⟨u, h⟩) | h
  · exact .inl (.inl (keepM n h))
  · exact .inl (.inr ⟨u, keepM n h⟩)
  · exact .inr h
theorem keepLN (h : SqL K H a xs) (hp : H p = none) : SqL K (upd H p o') a xs := by
  rcases h with (h | ⟨u, h⟩) | h
  · exact .inl (.inl (keepN h hp))
  · exact .inl (.inr ⟨u, keepN h hp⟩)
  · exact .inr h
theorem keepTM (n : a ≠ p) (h : SqT K H a xs) : SqT K (upd H p o') a xs := by
  rcases h with (h | ⟨u, h⟩) | h
  · exact .inl (.inl (keepM n h))
  · exact .inl (.inr ⟨u, keepM n h⟩)
  · exact .inr h
theorem keepTN (h : SqT K H a xs) (hp : H p = none) : SqT K (upd H p o') a xs := by
  rcases h with (h | ⟨u, h⟩) | h
  · exact .inl (.inl (keepN h hp))
  · exact .inl (.inr ⟨u, keepN h hp⟩)
  · exact .inr h
theorem _root_.L2.Same.seqT {K : PySem.W.Frag} {H H' : Hp} {a : Addr} {xs : List V} (e : Same H H') (h : SqT K H a xs) : SqT K H' a xs := by
  rcases h with (h | ⟨o, h⟩) | h
  · exact .inl (.inl (e _ _ h))
  · exact .inl (.inr ⟨o, e _ _ h⟩)
  · exact .inr h
theorem same_new (s : Same H H1) (hp : H1 p = none) : Same H (upd H1 p o) := fun b u e => keepN (s b u e) hp
theorem same_mut (s : Same H H1) (hp : H p = none) : Same H (upd H1 p o) := fun b u e => keepM (ne_of_none e hp) (s b u e)
/-- all but what stands at p is as it was -/
def But (p : Addr) (H H' : Hp) : Prop := ∀ b o, b ≠ p → H b = some o → H' b = some o
theorem But.refl (p : Addr) (H : Hp) : But p H H := fun _ _ _ h => h
theorem But.trans (a : But p H H1) (b : But p H1 H2) : But p H H2 := fun c o n h => b c o n (a c o n h)
theorem But.of (s : Same H H1) : But p H H1 := fun b o _ h => s b o h
theorem But.new (s : But p H H1) (hq : H1 q = none) : But p H (upd H1 q o) := fun b u n e => keepN (s b u n e) hq
theorem But.mut (s : But p H H1) : But p H (upd H1 p o) := fun b u n e => keepM n (s b u n e)
theorem But.mutF (s : But p H H1) (hq : H q = none) : But p H (upd H1 q o) := fun b u n e => keepM (ne_of_none e hq) (s b u n e)
theorem But.seq (s : But p H H1) (n : a ≠ p) (h : SqL K H a xs) : SqL K H1 a xs := by
  rcases h with (h | ⟨o, h⟩) | h
  · exact .inl (.inl (s _ _ n h))
  · exact .inl (.inr ⟨o, s _ _ n h⟩)
  · exact .inr h
theorem But.seqT (s : But p H H1) (n : a ≠ p) (h : SqT K H a xs) : SqT K H1 a xs := by
  rcases h with (h | ⟨o, h⟩) | h
  · exact .inl (.inl (s _ _ n h))
  · exact .inl (.inr ⟨o, s _ _ n h⟩)
  · exact .inr h
theorem But.same (s : But p H H1) (hp : H p = none) : Same H H1 := fun b o e => s b o (ne_of_none e hp) e
end
theorem same_trans {H H1 H2 : Hp} (b : Same H1 H2) (a : Same H H1) : Same H H2 := Same.trans a b
theorem but_trans {H H1 H2 : Hp} {p : Addr} (b : But p H1 H2) (a : But p H H1) : But p H H2 := But.trans a b
theorem ne_none' {H : Hp} {a b : Addr} {o : HO} (h' : H b = none) (h : H a = some o) : b ≠ a := Ne.symm (ne_of_none h h')
theorem cut1 (xs : List V) : cutV xs (some 1) none = xs.drop 1 := by
  unfold cutV
  rw [show HT.sIx xs.length 0 (some 1) = min 1 xs.length from HT.sIx_nat xs.length 0 1, HT.sIx_none]
  cases xs with
  | nil => rfl
  | cons x r =>
    rw [show min 1 (x :: r).length = 1 by
      rw [List.length_cons]
      omega]
    show (List.take ((x :: r).length - 1) r) = r
    rw [List.length_cons, Nat.add_sub_cancel]
    exact List.take_length
theorem at_mod {xs : List V} {z : Int} (h : 0 < xs.length) : ∃ v, atI xs (z % (xs.length : Int)) = some v ∧ v ∈ xs := by
  have h1 : 0 ≤ z % (xs.length : Int) := Int.emod_nonneg _ (by omega)
  have h2 : z % (xs.length : Int) < xs.length := Int.emod_lt_of_pos _ (by omega)
  obtain ⟨j, hj⟩ := Int.eq_ofNat_of_zero_le h1
  have hl : j < xs.length := by omega
  refine ⟨xs[j], ?_, List.getElem_mem hl⟩
  rw [hj]
  exact atI_nat (List.getElem?_eq_getElem hl)
theorem at_lt {xs : List V} {d : Int} (h1 : 0 ≤ d) (h2 : d < xs.length) : ∃ v, atI xs d = some v ∧ v ∈ xs := by
  obtain ⟨j, hj⟩ := Int.eq_ofNat_of_zero_le h1
  have hl : j < xs.length := by omega
  refine ⟨xs[j], ?_, List.getElem_mem hl⟩
  rw [hj]
  exact atI_nat (List.getElem?_eq_getElem hl)
/-- a def that is called by its name -/
structure Cal (K : PySem.W.Frag) (mg : Str → Option Value) (x : Str) (f : Addr) (fd : FuncData) (ps : List Str) : Prop where
  g : mg x = some (.ref f)
  k : PySem.W.keepIn K (.ref f) = true
  b : Binds K fd ps []
theorem szLe {n : Nat} (h : n ≤ 100000) : n ≤ sizeLine := Nat.le_trans h (by decide)
theorem szLt {n : Nat} (h : n < 100000) : n < sizeLine := Nat.lt_of_lt_of_le h (by decide)
end Fv
set_option maxRecDepth 100000
set_option maxHeartbeats 1000000
namespace Fv
open PySem PySem.Spec L2
/-- a value of a kind that is known -/
def Kn (H : Hp) : V → Prop
  | .non => True
  | .bl _ => True
  | .int _ => True
  | .str _ => True
  | .ref a => (∃ xs, H a = some (.lst xs)) ∨ (∃ xs, H a = some (.tup xs)) ∨ ∃ kvs, H a = some (.dK kvs)
  | _ => False
theorem Kn.same {H H' : Hp} {x : V} (s : Same H H') (h : Kn H x) : Kn H' x := by
  cases x with
  | ref a =>
    rcases h with ⟨xs, h⟩ | ⟨xs, h⟩ | ⟨xs, h⟩
    · exact .inl ⟨xs, s _ _ h⟩
    · exact .inr (.inl ⟨xs, s _ _ h⟩)
    · exact .inr (.inr ⟨xs, s _ _ h⟩)
  | _ => exact h
theorem Kn.but {H H' : Hp} {p : Addr} {x : V} (s : But p H H') (hp : x ≠ .ref p) (h : Kn H x) : Kn H' x := by
  cases x with
  | ref a =>
    have n : a ≠ p := fun e => hp (by rw [e])
    rcases h with ⟨xs, h⟩ | ⟨xs, h⟩ | ⟨xs, h⟩
    · exact .inl ⟨xs, s _ _ n h⟩
    · exact .inr (.inl ⟨xs, s _ _ n h⟩)
    · exact .inr (.inr ⟨xs, s _ _ n h⟩)
  | _ => exact h
def isIntV : V → Bool
  | .int _ => true
  | .bl _ => true
  | _ => false
def isBlV : V → Bool
  | .bl _ => true
  | _ => false
def numV (lo hi : Int) : V → Bool
  | .int i => decide (lo ≤ i) && decide (i ≤ hi)
  | _ => false
theorem numT {lo hi i : Int} (c : lo ≤ i) : numV lo hi (.int i) = decide (i ≤ hi) := by
  show (decide (lo ≤ i) && decide (i ≤ hi)) = _
  rw [decide_eq_true c]
  rfl
theorem numF {lo hi i : Int} (c : ¬ lo ≤ i) : numV lo hi (.int i) = false := by
  show (decide (lo ≤ i) && decide (i ≤ hi)) = _
  rw [decide_eq_false c]
  rfl
section
variable {K : PySem.W.Frag} {σ : L2.St} {H H' H1 H2 : Hp} {i : Nat} {v x y : V} {Q : VK} {a b p q : Addr} {o o' : HO} {xs ys : List V}
theorem x_isK {T : String} {t : String} {b : Bool} (ty : TyX K H x (.type t)) (e : kitB t T = some b) (q : Q (.bl b) H) : rIsi K [x, .ty T] H Q := ⟨x, .ty T, .type t, .type T, b, rfl, .ty T, ty, kit_ty e, q⟩
theorem x_isInt (h : Kn H x) (q : Q (.bl (isIntV x)) H) : rIsi K [x, .ty "int"] H Q := by
  cases x with
  | non => exact x_isK (b := false) (.base .non) (by decide +kernel) q
  | bl b => exact x_isK (b := true) (.base (.bl b)) (by decide +kernel) q
  | int i => exact x_isK (b := true) (.base (.int i)) (by decide +kernel) q
  | str i => exact x_isK (b := false) (.base (.str i)) (by decide +kernel) q
  | byt b => exact h.elim
  | flt b => exact h.elim
  | ty b => exact h.elim
  | ref a =>
    rcases h with ⟨xs, h⟩ | ⟨xs, h⟩ | ⟨xs, h⟩
    · exact x_isK (b := false) (.base (.lst h)) (by decide +kernel) q
    · exact x_isK (b := false) (.base (.tup h)) (by decide +kernel) q
    · exact x_isK (b := false) (.base (.dK h)) (by decide +kernel) q
theorem x_isBl (h : Kn H x) (q : Q (.bl (isBlV x)) H) : rIsi K [x, .ty "bool"] H Q := by
  cases x with
  | non => exact x_isK (b := false) (.base .non) (by decide +kernel) q
  | bl b => exact x_isK (b := true) (.base (.bl b)) (by decide +kernel) q
  | int i => exact x_isK (b := false) (.base (.int i)) (by decide +kernel) q
  | str i => exact x_isK (b := false) (.base (.str i)) (by decide +kernel) q
  | byt b => exact h.elim
  | flt b => exact h.elim
  | ty b => exact h.elim
  | ref a =>
    rcases h with ⟨xs, h⟩ | ⟨xs, h⟩ | ⟨xs, h⟩
    · exact x_isK (b := false) (.base (.lst h)) (by decide +kernel) q
    · exact x_isK (b := false) (.base (.tup h)) (by decide +kernel) q
    · exact x_isK (b := false) (.base (.dK h)) (by decide +kernel) q
/-- isinstance(x, (T1, T2)), the pair just laid -/
theorem x_isiT2 {T1 T2 t : String} {b1 b2 : Bool} (hp : H p = some (.tup [.ty T1, .ty T2])) (ty : TyX K H x (.type t)) (e1 : kitB t T1 = some b1) (e2 : kitB t T2 = some b2) (q : Q (.bl (b1 || b2)) H) : rIsiT K [x, .ref p] H Q := by
  refine ⟨x, p, [.ty T1, .ty T2], .type t, [.type T1, .type T2], b1 || b2, rfl, hp, .cons (.ty _) (.cons (.ty _) .nil), ty, ?_, q⟩
  cases b1 with
  | true => exact kitAny_cons (kit_ty e1) (fun h => nomatch h) (fun _ => rfl)
  | false =>
    refine kitAny_cons (kit_ty e1) (fun _ => ?_) (fun h => nomatch h)
    cases b2 with
    | true => exact kitAny_cons (kit_ty e2) (fun h => nomatch h) (fun _ => rfl)
    | false => exact kitAny_cons (kit_ty e2) (fun _ => kitAny_nil) (fun h => nomatch h)
end
section
variable {K : PySem.W.Frag} {H : Hp} {Q : VK} {a : Addr} {xs : List V}
theorem isi_non_int (q : Q (.bl false) H) : rIsi K [.non, .ty "int"] H Q := x_isK (b := false) (.base .non) (by decide +kernel) q
theorem isi_non_bool (q : Q (.bl false) H) : rIsi K [.non, .ty "bool"] H Q := x_isK (b := false) (.base .non) (by decide +kernel) q
theorem isi_non_tuple (q : Q (.bl false) H) : rIsi K [.non, .ty "tuple"] H Q := x_isK (b := false) (.base .non) (by decide +kernel) q
theorem isi_non_list (q : Q (.bl false) H) : rIsi K [.non, .ty "list"] H Q := x_isK (b := false) (.base .non) (by decide +kernel) q
theorem isi_non_dict (q : Q (.bl false) H) : rIsi K [.non, .ty "dict"] H Q := x_isK (b := false) (.base .non) (by decide +kernel) q
theorem isi_non_str (q : Q (.bl false) H) : rIsi K [.non, .ty "str"] H Q := x_isK (b := false) (.base .non) (by decide +kernel) q
theorem isi_bl_int {c : Bool} (q : Q (.bl true) H) : rIsi K [.bl c, .ty "int"] H Q := x_isK (b := true) (.base (.bl c)) (by decide +kernel) q
theorem isi_bl_bool {c : Bool} (q : Q (.bl true) H) : rIsi K [.bl c, .ty "bool"] H Q := x_isK (b := true) (.base (.bl c)) (by decide +kernel) q
theorem isi_bl_tuple {c : Bool} (q : Q (.bl false) H) : rIsi K [.bl c, .ty "tuple"] H Q := x_isK (b := false) (.base (.bl c)) (by decide +kernel) q
theorem isi_bl_list {c : Bool} (q : Q (.bl false) H) : rIsi K [.bl c, .ty "list"] H Q := x_isK (b := false) (.base (.bl c)) (by decide +kernel) q
theorem isi_bl_dict {c : Bool} (q : Q (.bl false) H) : rIsi K [.bl c, .ty "dict"] H Q := x_isK (b := false) (.base (.bl c)) (by decide +kernel) q
theorem isi_bl_str {c : Bool} (q : Q (.bl false) H) : rIsi K [.bl c, .ty "str"] H Q := x_isK (b := false) (.base (.bl c)) (by decide +kernel) q
theorem isi_int_int {j : Int} (q : Q (.bl true) H) : rIsi K [.int j, .ty "int"] H Q := x_isK (b := true) (.base (.int j)) (by decide +kernel) q
theorem isi_int_bool {j : Int} (q : Q (.bl false) H) : rIsi K [.int j, .ty "bool"] H Q := x_isK (b := false) (.base (.int j)) (by decide +kernel) q
theorem isi_int_tuple {j : Int} (q : Q (.bl false) H) : rIsi K [.int j, .ty "tuple"] H Q := x_isK (b := false) (.base (.int j)) (by decide +kernel) q
theorem isi_int_list {j : Int} (q : Q (.bl false) H) : rIsi K [.int j, .ty "list"] H Q := x_isK (b := false) (.base (.int j)) (by decide +kernel) q
theorem isi_int_dict {j : Int} (q : Q (.bl false) H) : rIsi K [.int j, .ty "dict"] H Q := x_isK (b := false) (.base (.int j)) (by decide +kernel) q
theorem isi_int_str {j : Int} (q : Q (.bl false) H) : rIsi K [.int j, .ty "str"] H Q := x_isK (b := false) (.base (.int j)) (by decide +kernel) q
theorem isi_str_int {j : Str} (q : Q (.bl false) H) : rIsi K [.str j, .ty "int"] H Q := x_isK (b := false) (.base (.str j)) (by decide +kernel) q
theorem isi_str_bool {j : Str} (q : Q (.bl false) H) : rIsi K [.str j, .ty "bool"] H Q := x_isK (b := false) (.base (.str j)) (by decide +kernel) q
theorem isi_str_tuple {j : Str} (q : Q (.bl false) H) : rIsi K [.str j, .ty "tuple"] H Q := x_isK (b := false) (.base (.str j)) (by decide +kernel) q
theorem isi_str_list {j : Str} (q : Q (.bl false) H) : rIsi K [.str j, .ty "list"] H Q := x_isK (b := false) (.base (.str j)) (by decide +kernel) q
theorem isi_str_dict {j : Str} (q : Q (.bl false) H) : rIsi K [.str j, .ty "dict"] H Q := x_isK (b := false) (.base (.str j)) (by decide +kernel) q
theorem isi_str_str {j : Str} (q : Q (.bl true) H) : rIsi K [.str j, .ty "str"] H Q := x_isK (b := true) (.base (.str j)) (by decide +kernel) q
theorem isi_lst_int (h : H a = some (.lst xs)) (q : Q (.bl false) H) : rIsi K [.ref a, .ty "int"] H Q := x_isK (b := false) (.base (.lst h)) (by decide +kernel) q
theorem isi_lst_bool (h : H a = some (.lst xs)) (q : Q (.bl false) H) : rIsi K [.ref a, .ty "bool"] H Q := x_isK (b := false) (.base (.lst h)) (by decide +kernel) q
theorem isi_lst_tuple (h : H a = some (.lst xs)) (q : Q (.bl false) H) : rIsi K [.ref a, .ty "tuple"] H Q := x_isK (b := false) (.base (.lst h)) (by decide +kernel) q
theorem isi_lst_list (h : H a = some (.lst xs)) (q : Q (.bl true) H) : rIsi K [.ref a, .ty "list"] H Q := x_isK (b := true) (.base (.lst h)) (by decide +kernel) q
theorem isi_lst_dict (h : H a = some (.lst xs)) (q : Q (.bl false) H) : rIsi K [.ref a, .ty "dict"] H Q := x_isK (b := false) (.base (.lst h)) (by decide +kernel) q
theorem isi_lst_str (h : H a = some (.lst xs)) (q : Q (.bl false) H) : rIsi K [.ref a, .ty "str"] H Q := x_isK (b := false) (.base (.lst h)) (by decide +kernel) q
theorem isi_tup_int (h : H a = some (.tup xs)) (q : Q (.bl false) H) : rIsi K [.ref a, .ty "int"] H Q := x_isK (b := false) (.base (.tup h)) (by decide +kernel) q
theorem isi_tup_bool (h : H a = some (.tup xs)) (q : Q (.bl false) H) : rIsi K [.ref a, .ty "bool"] H Q := x_isK (b := false) (.base (.tup h)) (by decide +kernel) q
theorem isi_tup_tuple (h : H a = some (.tup xs)) (q : Q (.bl true) H) : rIsi K [.ref a, .ty "tuple"] H Q := x_isK (b := true) (.base (.tup h)) (by decide +kernel) q
theorem isi_tup_list (h : H a = some (.tup xs)) (q : Q (.bl false) H) : rIsi K [.ref a, .ty "list"] H Q := x_isK (b := false) (.base (.tup h)) (by decide +kernel) q
theorem isi_tup_dict (h : H a = some (.tup xs)) (q : Q (.bl false) H) : rIsi K [.ref a, .ty "dict"] H Q := x_isK (b := false) (.base (.tup h)) (by decide +kernel) q
theorem isi_tup_str (h : H a = some (.tup xs)) (q : Q (.bl false) H) : rIsi K [.ref a, .ty "str"] H Q := x_isK (b := false) (.base (.tup h)) (by decide +kernel) q
theorem isi_dK_int {kvs : List (Key × V)} (h : H a = some (.dK kvs)) (q : Q (.bl false) H) : rIsi K [.ref a, .ty "int"] H Q := x_isK (b := false) (.base (.dK h)) (by decide +kernel) q
theorem isi_dK_bool {kvs : List (Key × V)} (h : H a = some (.dK kvs)) (q : Q (.bl false) H) : rIsi K [.ref a, .ty "bool"] H Q := x_isK (b := false) (.base (.dK h)) (by decide +kernel) q
theorem isi_dK_tuple {kvs : List (Key × V)} (h : H a = some (.dK kvs)) (q : Q (.bl false) H) : rIsi K [.ref a, .ty "tuple"] H Q := x_isK (b := false) (.base (.dK h)) (by decide +kernel) q
theorem isi_dK_list {kvs : List (Key × V)} (h : H a = some (.dK kvs)) (q : Q (.bl false) H) : rIsi K [.ref a, .ty "list"] H Q := x_isK (b := false) (.base (.dK h)) (by decide +kernel) q
theorem isi_dK_dict {kvs : List (Key × V)} (h : H a = some (.dK kvs)) (q : Q (.bl true) H) : rIsi K [.ref a, .ty "dict"] H Q := x_isK (b := true) (.base (.dK h)) (by decide +kernel) q
theorem isi_dK_str {kvs : List (Key × V)} (h : H a = some (.dK kvs)) (q : Q (.bl false) H) : rIsi K [.ref a, .ty "str"] H Q := x_isK (b := false) (.base (.dK h)) (by decide +kernel) q
end
section
variable {K : PySem.W.Frag} {σ : L2.St} {H H' H1 H2 : Hp} {i : Nat} {v x y : V} {Q : VK} {a b p q : Addr} {o o' : HO} {xs ys : List V}
theorem x_isiTn {T1 T2 t : String} (hp : H p = some (.tup [.ty T1, .ty T2])) (ty : TyX K H x (.type t)) (e1 : kitB t T1 = some false) (e2 : kitB t T2 = some false) (q : Q (.bl false) H) : rIsiT K [x, .ref p] H Q := x_isiT2 hp ty e1 e2 q
theorem x_isiT1 {T1 T2 t : String} (hp : H p = some (.tup [.ty T1, .ty T2])) (ty : TyX K H x (.type t)) (e1 : kitB t T1 = some true) (e2 : kitB t T2 = some false) (q : Q (.bl true) H) : rIsiT K [x, .ref p] H Q := x_isiT2 hp ty e1 e2 q
theorem x_isiTb {T1 T2 t : String} (hp : H p = some (.tup [.ty T1, .ty T2])) (ty : TyX K H x (.type t)) (e1 : kitB t T1 = some false) (e2 : kitB t T2 = some true) (q : Q (.bl true) H) : rIsiT K [x, .ref p] H Q := x_isiT2 hp ty e1 e2 q
def sca : V → Bool
  | .non => true
  | .bl _ => true
  | .int _ => true
  | .str _ => true
  | _ => false
/-- two values that are the same through and through, at most so deep -/
def Al (K : PySem.W.Frag) (H : Hp) : Nat → V → V → Prop
  | 0, x, y => x = y ∧ sca x = true
  | n + 1, x, y => (x = y ∧ sca x = true) ∨
      (∃ (a b : Addr) (xs ys : List V), x = .ref a ∧ y = .ref b ∧ H a = some (.lst xs) ∧ H b = some (.lst ys) ∧ xs.length = ys.length ∧ ys.length ≤ 1000 ∧ ∀ i (h1 : i < xs.length) (h2 : i < ys.length), Al K H n xs[i] ys[i]) ∨
      (∃ (a b : Addr) (xs ys : List V), x = .ref a ∧ y = .ref b ∧ H a = some (.tup xs) ∧ H b = some (.tup ys) ∧ xs.length = ys.length ∧ ys.length ≤ 1000 ∧ ∀ i (h1 : i < xs.length) (h2 : i < ys.length), Al K H n xs[i] ys[i])
theorem Al.same : ∀ {n : Nat} {x y : V}, Same H H' → Al K H n x y → Al K H' n x y
  | 0, _, _, _, h => h
  | n + 1, x, y, s, h => by
    rcases h with h | ⟨a, b, xs, ys, e1, e2, h1, h2, hl, hz, h⟩ | ⟨a, b, xs, ys, e1, e2, h1, h2, hl, hz, h⟩
    · exact .inl h
    · exact .inr (.inl ⟨a, b, xs, ys, e1, e2, s _ _ h1, s _ _ h2, hl, hz, fun i k1 k2 => (h i k1 k2).same s⟩)
    · exact .inr (.inr ⟨a, b, xs, ys, e1, e2, s _ _ h1, s _ _ h2, hl, hz, fun i k1 k2 => (h i k1 k2).same s⟩)
theorem Al.up {n : Nat} (h : Al K H n x y) : Al K H (n + 1) x y := by
  induction n generalizing x y with
  | zero => exact .inl h
  | succ n ih =>
    rcases h with h | ⟨a, b, xs, ys, e1, e2, h1, h2, hl, hz, h⟩ | ⟨a, b, xs, ys, e1, e2, h1, h2, hl, hz, h⟩
    · exact .inl h
    · exact .inr (.inl ⟨a, b, xs, ys, e1, e2, h1, h2, hl, hz, fun i k1 k2 => ih (h i k1 k2)⟩)
    · exact .inr (.inr ⟨a, b, xs, ys, e1, e2, h1, h2, hl, hz, fun i k1 k2 => ih (h i k1 k2)⟩)
theorem Al.le {n m : Nat} (hm : n ≤ m) (h : Al K H n x y) : Al K H m x y := by
  induction hm with
  | refl => exact h
  | step _ ih => exact ih.up
theorem Al.sca {n : Nat} (hx : Fv.sca x = true) : Al K H n x x := by
  cases n with
  | zero => exact ⟨rfl, hx⟩
  | succ n => exact .inl ⟨rfl, hx⟩
theorem Al.tups {n : Nat} {zs : List V} (ha : H a = some (.tup zs)) (hb : H b = some (.tup zs)) (hz : zs.length ≤ 1000) (h : ∀ z ∈ zs, Fv.sca z = true) : Al K H (n + 1) (.ref a) (.ref b) :=
  .inr (.inr ⟨a, b, zs, zs, rfl, rfl, ha, hb, rfl, hz, fun i h1 h2 => Al.sca (h _ (List.getElem_mem h1))⟩)
theorem Al.lsts {n : Nat} {zs : List V} (ha : H a = some (.lst zs)) (hb : H b = some (.lst zs)) (hz : zs.length ≤ 1000) (h : ∀ z ∈ zs, Fv.sca z = true) : Al K H (n + 1) (.ref a) (.ref b) :=
  .inr (.inl ⟨a, b, zs, zs, rfl, rfl, ha, hb, rfl, hz, fun i h1 h2 => Al.sca (h _ (List.getElem_mem h1))⟩)
theorem Al.lst1 {n : Nat} (ha : H a = some (.lst [x])) (hb : H b = some (.lst [y])) (h : Al K H n x y) : Al K H (n + 1) (.ref a) (.ref b) :=
  .inr (.inl ⟨a, b, [x], [y], rfl, rfl, ha, hb, rfl, (by show _ + 1 ≤ 1000; simp), fun i h1 h2 => by
    cases i with
    | zero => exact h
    | succ i => exact absurd h1 (by show ¬ i + 1 < 1; omega)⟩)
theorem Al.tup1 {n : Nat} (ha : H a = some (.tup [x])) (hb : H b = some (.tup [y])) (h : Al K H n x y) : Al K H (n + 1) (.ref a) (.ref b) :=
  .inr (.inr ⟨a, b, [x], [y], rfl, rfl, ha, hb, rfl, (by show _ + 1 ≤ 1000; simp), fun i h1 h2 => by
    cases i with
    | zero => exact h
    | succ i => exact absurd h1 (by show ¬ i + 1 < 1; omega)⟩)
theorem Al.lst2 {n : Nat} {x2 y2 : V} (ha : H a = some (.lst [x, x2])) (hb : H b = some (.lst [y, y2])) (h : Al K H n x y) (h2 : Al K H n x2 y2) : Al K H (n + 1) (.ref a) (.ref b) :=
  .inr (.inl ⟨a, b, [x, x2], [y, y2], rfl, rfl, ha, hb, rfl, (by show _ + 1 ≤ 1000; simp), fun i k1 k2 => by
    match i, k1 with
    | 0, _ => exact h
    | 1, _ => exact h2
    | i + 2, k1 => exact absurd k1 (by show ¬ i + 2 < 2; omega)⟩)
end
section
variable {X : Cx} {K : PySem.W.Frag}
theorem ix_listK (e : X.K = K) : IxR X (rIxL K) := by
  subst e
  exact ix_list
theorem ix_tupK (e : X.K = K) : IxR X (rIxT K) := by
  subst e
  exact ix_tup
theorem call_lenK (e : X.K = K) : CallR X (.builtin "len") (rLen K) := by
  subst e
  exact call_len
theorem call_lstK (e : X.K = K) : CallR X (.type "list") (rListOf K) := by
  subst e
  exact call_lst
theorem call_tplK (e : X.K = K) : CallR X (.type "tuple") (rTupOf K) := by
  subst e
  exact call_tpl
theorem call_isiK' (e : X.K = K) : CallR X (.builtin "isinstance") (rIsi K) := by
  subst e
  exact call_isi
theorem call_isiTK (e : X.K = K) : CallR X (.builtin "isinstance") (rIsiT K) := by
  subst e
  exact call_isiT
theorem sl_listK (e : X.K = K) : SlR X (rSlL K) := by
  subst e
  exact sl_list
theorem op_inK (e : X.K = K) : OpR X (compareOp .In) (rIn K false) := by
  subst e
  exact op_in_seq
theorem op_notInK (e : X.K = K) : OpR X (compareOp .NotIn) (rIn K true) := by
  subst e
  exact op_notIn_seq
theorem op_eqDK (e : X.K = K) (hu : X.A.units + 64 < cLine) : OpR X (compareOp .Eq) (rEqD K) := by
  subst e
  exact op_eqD hu
theorem op_neDK (e : X.K = K) (hu : X.A.units + 64 < cLine) : OpR X (compareOp .NotEq) (rNeD K) := by
  subst e
  exact op_neD hu
theorem cr_allK (e : X.K = K) (hc : X.calm = true) : CallR X (.builtin "all") (rAll K) := by
  subst e
  exact cr_all hc
section
variable {o e value : Expr} {f : Str} {pos apos cpos : Pos} {ta to : TE} {es : List Expr} {t : TA} {name : Str} {T id : String} {r : V → List V → Hp → VK → Prop}
theorem pe_fldK (k : X.K = K) (he : PE X e ta) (hb : attributeBase e f X.env (eval e X.env) = eval e X.env) : PE X (.Attribute e f pos) (tFld K ta f) := by
  subst k
  exact pe_fld he hb
theorem pe_bm0K (k : X.K = K) (pa : PlainAttrs T) (slot : Slot T name id) (hty : typeOf (.builtin id) = pure (.type "method_descriptor")) (hm : MtR X id r) (ho : PE X o to)
    (h1 : attributeBase o name X.env (eval o X.env) = eval o X.env := by rfl) (h2 : (apos.endLine == cpos.line) = true := by rfl) : PE X (.Call (.Attribute o name apos) [] [] cpos) (tBM0 K T r to) := by
  subst k
  exact pe_bm0 pa slot hty hm ho h1 h2
theorem pe_bmK (k : X.K = K) (pa : PlainAttrs T) (slot : Slot T name id) (hty : typeOf (.builtin id) = pure (.type "method_descriptor")) (hm : MtR X id r) (ho : PE X o to) (ha : PA X [e] t)
    (h1 : attributeBase o name X.env (eval o X.env) = eval o X.env := by rfl)
    (h2 : ((backTo cpos (starEach [e] X.env)).all (fun x => !x.1) && (backToKw cpos (keywordEach [] X.env)).all (fun x => x.1.isSome) && decide ([e].length + ([] : List Keyword).length + (if ([] : List Keyword).isEmpty then 0 else 1) < 30)) = true := by rfl)
    (h3 : (apos.endLine == cpos.line) = true := by rfl) (h4 : starEach [e] X.env = (false, eval e X.env) :: starEach [] X.env := by rfl) (h5 : (backTo cpos (starEach [] X.env)).any (·.1) = false := by rfl) :
    PE X (.Call (.Attribute o name apos) [e] [] cpos) (tBM K T r to t) := by
  subst k
  exact pe_bm pa slot hty hm ho ha h1 h2 h3 h4 h5
end
end
def rIsNk : R2 := fun x y H Q => y = .non ∧ Q (.bl (decide (x = .non))) H
def rNotNk : R2 := fun x y H Q => y = .non ∧ Q (.bl (!decide (x = .non))) H
section
variable {X : Cx} {K : PySem.W.Frag} {H : Hp} {Q : VK} {x v : V} {p : Addr} {i : Int} {xs : List V}
theorem op_isNk : OpR X (compareOp .Is) rIsNk := op_isN
theorem op_notNk : OpR X (compareOp .IsNot) rNotNk := op_notN
theorem x_isN0 (q : Q (.bl true) H) : rIsNk .non .non H Q := ⟨rfl, q⟩
theorem x_isN1 {b : Bool} (q : Q (.bl false) H) : rIsNk (.bl b) .non H Q := ⟨rfl, q⟩
theorem x_isN2 {b : Int} (q : Q (.bl false) H) : rIsNk (.int b) .non H Q := ⟨rfl, q⟩
theorem x_isN3 {b : Str} (q : Q (.bl false) H) : rIsNk (.str b) .non H Q := ⟨rfl, q⟩
theorem x_isN4 {b : Addr} (q : Q (.bl false) H) : rIsNk (.ref b) .non H Q := ⟨rfl, q⟩
theorem x_notN0 (q : Q (.bl false) H) : rNotNk .non .non H Q := ⟨rfl, q⟩
theorem x_notN1 {b : Bool} (q : Q (.bl true) H) : rNotNk (.bl b) .non H Q := ⟨rfl, q⟩
theorem x_notN2 {b : Int} (q : Q (.bl true) H) : rNotNk (.int b) .non H Q := ⟨rfl, q⟩
theorem x_notN3 {b : Str} (q : Q (.bl true) H) : rNotNk (.str b) .non H Q := ⟨rfl, q⟩
theorem x_notN4 {b : Addr} (q : Q (.bl true) H) : rNotNk (.ref b) .non H Q := ⟨rfl, q⟩
theorem ix_seqK (e : X.K = K) : IxR X (rIx K) := by
  subst e
  exact ix_seq
theorem x_ixSL (h : SqL K H p xs) (ha : atI xs i = some v) (q : Q v H) : rIx K (.ref p) (.int i) H Q := .inl (x_ixL h ha q)
theorem x_ixST (h : SqT K H p xs) (ha : atI xs i = some v) (q : Q v H) : rIx K (.ref p) (.int i) H Q := .inr (.inl (x_ixT h ha q))
theorem x_eqB {b c : Bool} (q : Q (.bl (decide (b = c))) H) : rEq (.bl b) (.bl c) H Q := ⟨rfl, by
  have e : decide (V.bl b = V.bl c) = decide (b = c) := by
    rw [Bool.eq_iff_iff]
    simp
  rw [e]
  exact q⟩
theorem x_neB {b c : Bool} (q : Q (.bl (decide (b ≠ c))) H) : rNe (.bl b) (.bl c) H Q := ⟨rfl, by
  have e : (!decide (V.bl b = V.bl c)) = decide (b ≠ c) := by
    rw [Bool.eq_iff_iff]
    simp
  rw [e]
  exact q⟩
theorem x_eqS {b c : Str} (q : Q (.bl (decide (b = c))) H) : rEq (.str b) (.str c) H Q := ⟨rfl, by
  have e : decide (V.str b = V.str c) = decide (b = c) := by
    rw [Bool.eq_iff_iff]
    simp
  rw [e]
  exact q⟩
end
def nats (l : List Nat) : List V := l.map fun (n : Nat) => V.int (Int.ofNat n)
theorem nats_length (l : List Nat) : (nats l).length = l.length := List.length_map ..
theorem nats_get {l : List Nat} {i x : Nat} (h : l[i]? = some x) : (nats l)[i]? = some (.int x) := by
  unfold nats
  rw [List.getElem?_map, h]
  rfl
theorem nats_at {l : List Nat} {i x : Nat} (h : l[i]? = some x) : atI (nats l) (i : Int) = some (.int x) := atI_nat (nats_get h)
theorem nats_append (l m : List Nat) : nats (l ++ m) = nats l ++ nats m := List.map_append ..
theorem nats_set (l : List Nat) (i x : Nat) : (nats l).set i (.int x) = nats (l.set i x) := by
  unfold nats
  rw [List.map_set]
  rfl
theorem nats_erase : ∀ (l : List Nat) (i : Nat), (nats l).eraseIdx i = nats (l.eraseIdx i)
  | [], _ => rfl
  | _ :: _, 0 => rfl
  | a :: l, i + 1 => by
    show V.int a :: (nats l).eraseIdx i = V.int a :: nats (l.eraseIdx i)
    rw [nats_erase l i]
theorem nats_sca {l : List Nat} : ∀ z ∈ nats l, sca z = true := fun z hz => by
  obtain ⟨n, _, rfl⟩ := List.mem_map.mp hz
  rfl
theorem ixN_nat {n k : Nat} (h : k < n) : ixN n (k : Int) = some k := by
  unfold ixN
  rw [if_pos (by omega), if_pos (by omega)]
  rfl
theorem rgV_nats (n : Nat) : rgV 1 ((n : Int) + 1) = nats (List.range' 1 n) := by
  unfold rgV nats
  rw [List.range'_eq_map_range, List.map_map, show ((n : Int) + 1 - 1).toNat = n by omega]
  refine List.map_congr_left fun i _ => ?_
  show V.int (1 + (i : Int)) = V.int ((1 + i : Nat) : Int)
  rw [Int.natCast_add]
  rfl
section
variable {K : PySem.W.Frag} {σ : L2.St} {H : Hp} {Q : VK} {a p : Addr} {xs : List V} {ta tb : TE}
theorem x_listRg1 (h : ta σ H fun x H1 => ∃ n, x = .int n ∧ (RgOk 0 n ∧ ∀ q, H1 q = none → Q (.ref q) (upd H1 q (.lst (rgV 0 n))))) : tLstRg (tRg1 ta) σ H Q := h
theorem x_listRg2 (h : ta σ H fun x H1 => tb σ H1 fun y H2 => ∃ i j, x = .int i ∧ y = .int j ∧ (RgOk i j ∧ ∀ q, H2 q = none → Q (.ref q) (upd H2 q (.lst (rgV i j))))) : tLstRg (tRg2 ta tb) σ H Q := h
theorem x_tupRg1 (h : ta σ H fun x H1 => ∃ n, x = .int n ∧ (RgOk 0 n ∧ ∀ q, H1 q = none → Q (.ref q) (upd H1 q (.tup (rgV 0 n))))) : tTupRg (tRg1 ta) σ H Q := h
theorem x_ij {i j : Int} {R : Int → Int → Prop} (h : R i j) : ∃ k l, V.int i = .int k ∧ V.int j = .int l ∧ R k l := ⟨i, j, rfl, rfl, h⟩
theorem x_tyL {R : Prop} (h : SqL K H a xs) (q : R) : tyV K "list" (.ref a) H ∧ R := ⟨.inl ⟨rfl, _, h⟩, q⟩
theorem x_popAt {i : Int} {k : Nat} {y : V} (h : H p = some (.lst xs)) (h1 : -(2 ^ 63) ≤ i) (h2 : i < 2 ^ 63) (hi : ixN xs.length i = some k) (hy : xs[k]? = some y) (q : Q y (upd H p (.lst (xs.eraseIdx k)))) : rPopAt (.ref p) [.int i] H Q := ⟨p, xs, i, k, y, rfl, rfl, h, h1, h2, (ixN_seq hi).1, hy, q⟩
end
/-! the head alone is opened -/
theorem x_for {wi : TI} {g : TG} {tb : TS} {D : Ends} {σ : L2.St} {H : Hp} (h : wi σ H fun J H1 => ∃ W : Nat → Nat → L2.St → Hp → Prop, (∃ m, W 0 m σ H1) ∧ ∀ i m σ H, W i m σ H →
  (J.stop i H ∧ D.nx σ H) ∨ (J.go i H ∧ ∃ N : L2.St → Hp → Prop, (∀ σ' H', N σ' H' → ∃ m', m' < m ∧ W (i + 1) m' σ' H') ∧ ∀ x H', J.yld i H x H' → g x σ H' fun σ2 H2 => tb { nx := N, rt := D.rt, bk := D.nx, ct := N } σ2 H2)) : tFor wi g tb D σ H := h
theorem x_while {c : TT} {tb : TS} {D : Ends} {σ : L2.St} {H : Hp} (h : ∃ W : Nat → L2.St → Hp → Prop, (∃ m, W m σ H) ∧ ∀ m σ H, W m σ H →
  c σ H fun b H1 => if b = true then ∃ N : L2.St → Hp → Prop, (∀ σ' H', N σ' H' → ∃ m', m' < m ∧ W m' σ' H') ∧ tb { nx := N, rt := D.rt, bk := D.nx, ct := N } σ H1 else D.nx σ H1) : tWhile c tb D σ H := h
theorem x_lc {wi : TI} {g : TG} {tt : TT} {te : TE} {vs : List Nat} {σ : L2.St} {H : Hp} {Q : VK} (h : wi σ H fun J H1 => ∀ D, H1 D = none → ∃ W : Nat → Nat → Hp → Prop, (∃ m, W 0 m (upd H1 D (.lst []))) ∧ ∀ i m H, W i m H →
  (J.stop i H ∧ Q (.ref D) H) ∨ (J.go i H ∧ ∃ Nx : Hp → Prop, (∀ H', Nx H' → ∃ m', m' < m ∧ W (i + 1) m' H') ∧ ∀ x H', J.yld i H x H' → g x (wipe σ vs) H' fun σ2 H2 => wipe σ2 vs = wipe σ vs ∧ tt σ2 H2 fun b H3 =>
    if b = true then te σ2 H3 fun y H4 => ∃ acc, H4 D = some (.lst acc) ∧ acc.length < sizeLine ∧ Nx (upd H4 D (.lst (acc ++ [y]))) else Nx H3)) : tLc wi g tt te vs σ H Q := h
theorem x_lc2 {wi : TI} {g : TG} {tt : TT} {wi1 : TI} {g1 : TG} {tt1 : TT} {te : TE} {vs vs1 : List Nat} {σ : L2.St} {H : Hp} {Q : VK} (h : wi σ H fun J H1 => ∀ D, H1 D = none → ∃ W : Nat → Nat → Hp → Prop, (∃ m, W 0 m (upd H1 D (.lst []))) ∧ ∀ i m H, W i m H →
  (J.stop i H ∧ Q (.ref D) H) ∨ (J.go i H ∧ ∃ Nx : Hp → Prop, (∀ H', Nx H' → ∃ m', m' < m ∧ W (i + 1) m' H') ∧ ∀ x H', J.yld i H x H' → g x (wipe σ vs) H' fun σ2 H2 => wipe σ2 vs = wipe σ vs ∧ tt σ2 H2 fun b H3 =>
    if b = true then wi1 σ2 H3 fun J1 H4 => ∃ W1 : Nat → Nat → Hp → Prop, (∃ m, W1 0 m H4) ∧ ∀ j k H, W1 j k H →
      (J1.stop j H ∧ Nx H) ∨ (J1.go j H ∧ ∃ Nx1 : Hp → Prop, (∀ H', Nx1 H' → ∃ k', k' < k ∧ W1 (j + 1) k' H') ∧ ∀ x H', J1.yld j H x H' → g1 x (wipe σ2 vs1) H' fun σ3 H5 => wipe σ3 vs1 = wipe σ2 vs1 ∧ tt1 σ3 H5 fun b H6 =>
        if b = true then te σ3 H6 fun y H7 => ∃ acc, H7 D = some (.lst acc) ∧ acc.length < sizeLine ∧ Nx1 (upd H7 D (.lst (acc ++ [y]))) else Nx1 H6)
    else Nx H3)) : tLc2 wi g tt wi1 g1 tt1 te vs vs1 σ H Q := h
end Fv
/-! trees as lists of places; nothing of the program here -/
namespace Fv
def up (hs : List Nat) (k : Nat) : Nat := if k = 0 then 0 else hs.getD (k - 1) 0
def upN (hs : List Nat) : Nat → Nat → Nat
  | 0, k => k
  | j + 1, k => upN hs j (up hs k)
structure IsTree (hs : List Nat) : Prop where
  pos : 1 ≤ hs.length
  most : hs.length ≤ 40
  le : ∀ x ∈ hs, x ≤ hs.length
  comes : ∀ k, k ≤ hs.length → upN hs hs.length k = 0
theorem up_zero (hs : List Nat) : up hs 0 = 0 := rfl
theorem upN_zero (hs : List Nat) : ∀ j, upN hs j 0 = 0
  | 0 => rfl
  | j + 1 => by
    show upN hs j (up hs 0) = 0
    rw [up_zero]
    exact upN_zero hs j
theorem upN_add (hs : List Nat) : ∀ i j k, upN hs (i + j) k = upN hs j (upN hs i k)
  | 0, j, k => by
    rw [Nat.zero_add]
    rfl
  | i + 1, j, k => by
    rw [Nat.add_right_comm]
    exact upN_add hs i j (up hs k)
theorem upN_succ (hs : List Nat) (j k : Nat) : upN hs (j + 1) k = up hs (upN hs j k) := upN_add hs j 1 k
theorem upN_more {hs : List Nat} {i j k : Nat} (h : upN hs i k = 0) (hj : i ≤ j) : upN hs j k = 0 := by
  obtain ⟨d, rfl⟩ := Nat.le.dest hj
  rw [upN_add, h]
  exact upN_zero hs d
theorem up_le {hs : List Nat} (h : ∀ x ∈ hs, x ≤ hs.length) (k : Nat) : up hs k ≤ hs.length := by
  unfold up
  split
  · exact Nat.zero_le _
  · rw [List.getD_eq_getElem?_getD]
    cases e : hs[k - 1]? with
    | none => exact Nat.zero_le _
    | some x => exact h x (List.mem_of_getElem? e)
theorem upN_le {hs : List Nat} (h : ∀ x ∈ hs, x ≤ hs.length) : ∀ j k, k ≤ hs.length → upN hs j k ≤ hs.length
  | 0, _, hk => hk
  | j + 1, k, _ => upN_le h j (up hs k) (up_le h k)
theorem up_at {hs : List Nat} {k x : Nat} (hk : k ≠ 0) (h : hs[k - 1]? = some x) : up hs k = x := by
  unfold up
  rw [if_neg hk, List.getD_eq_getElem?_getD, h]
  rfl
/-- what is drawn: the blocks in some order, each under one ahead of it, or the head -/
def Drawn (hs : List Nat) : Prop := ∃ ms : List Nat, ms.Perm (List.range' 1 hs.length) ∧ ∀ (i x : Nat), ms[i]? = some x → ∃ j y : Nat, j ≤ i ∧ (0 :: ms)[j]? = some y ∧ hs[x - 1]? = some y
theorem Drawn.tree {hs : List Nat} (h : Drawn hs) (h1 : 1 ≤ hs.length) (h2 : hs.length ≤ 40) : IsTree hs := by
  obtain ⟨ms, hp, hd⟩ := h
  have hlen : ms.length = hs.length := by rw [hp.length_eq, List.length_range']
  have mem : ∀ x, x ∈ ms ↔ 1 ≤ x ∧ x < 1 + hs.length := fun x => by rw [hp.mem_iff, List.mem_range'_1]
  have key : ∀ i x, ms[i]? = some x → upN hs (i + 1) x = 0 := by
    intro i
    induction i using Nat.strongRecOn with
    | ind i ih =>
      intro x hx
      obtain ⟨j, y, hj, hy, e⟩ := hd i x hx
      have x1 := (mem x).mp (List.mem_of_getElem? hx)
      show upN hs i (up hs x) = 0
      rw [up_at (by omega) e]
      cases j with
      | zero =>
        have e0 : 0 = y := Option.some.inj hy
        rw [← e0]
        exact upN_zero hs i
      | succ j => exact upN_more (ih j (by omega) y hy) (by omega)
  refine ⟨h1, h2, fun x hx => ?_, fun k hk => ?_⟩
  · obtain ⟨p, hp1, e⟩ := List.getElem_of_mem hx
    have hm := (mem (p + 1)).mpr ⟨by omega, by omega⟩
    obtain ⟨i, hi, e2⟩ := List.getElem_of_mem hm
    obtain ⟨j, y, hj, hy, e3⟩ := hd i (p + 1) (by rw [List.getElem?_eq_getElem hi, e2])
    have e4 : hs[p]? = some y := e3
    rw [List.getElem?_eq_getElem hp1, e] at e4
    cases e4
    cases j with
    | zero =>
      have e0 : 0 = x := Option.some.inj hy
      omega
    | succ j =>
      have := (mem x).mp (List.mem_of_getElem? (show ms[j]? = some x from hy))
      omega
  · by_cases h0 : k = 0
    · rw [h0]
      exact upN_zero hs _
    · obtain ⟨i, hi, e2⟩ := List.getElem_of_mem ((mem k).mpr ⟨by omega, by omega⟩)
      exact upN_more (key i k (by rw [List.getElem?_eq_getElem hi, e2])) (by omega)
theorem perm_erase : ∀ {l : List Nat} {i : Nat} {x : Nat}, l[i]? = some x → (x :: l.eraseIdx i).Perm l
  | [], _, _, h => by simp at h
  | a :: l, 0, x, h => by
    have e : a = x := Option.some.inj h
    rw [e]
    exact List.Perm.refl _
  | a :: l, i + 1, x, h => by
    have ih := perm_erase (l := l) (i := i) (x := x) h
    exact (List.Perm.swap a x _).trans (ih.cons a)
/-! whatever leads, the head is come to in as many steps as there are blocks, or never -/
theorem bounded_len : ∀ (n : Nat) (l : List Nat), l.Nodup → (∀ x ∈ l, 1 ≤ x ∧ x ≤ n) → l.length ≤ n
  | 0, l, _, h => by
    cases l with
    | nil => exact Nat.le_refl _
    | cons x r =>
      have := h x List.mem_cons_self
      omega
  | n + 1, l, hn, h => by
    have h1 : (l.erase (n + 1)).length ≤ n := bounded_len n _ (hn.erase _) fun x hx => by
      have hx1 := (List.Nodup.mem_erase_iff hn).mp hx
      have := h x hx1.2
      omega
    by_cases hm : n + 1 ∈ l
    · rw [List.length_erase_of_mem hm] at h1
      omega
    · rw [List.erase_of_not_mem hm] at h1
      omega
theorem comes_by {hs : List Nat} (h : ∀ x ∈ hs, x ≤ hs.length) {j k : Nat} (hk : k ≤ hs.length) (hj : upN hs j k = 0) : upN hs hs.length k = 0 := by
  -- the least such number of steps
  have ex : ∃ d, upN hs d k = 0 ∧ ∀ d', d' < d → upN hs d' k ≠ 0 := by
    induction j using Nat.strongRecOn with
    | ind j ih =>
      by_cases hx : ∃ d, d < j ∧ upN hs d k = 0
      · obtain ⟨d, hd, e⟩ := hx
        exact ih d hd e
      · exact ⟨j, hj, fun d' hd e => hx ⟨d', hd, e⟩⟩
  obtain ⟨d, e, least⟩ := ex
  refine upN_more e ?_
  have hl : ((List.range d).map fun i => upN hs i k).length ≤ hs.length := by
    refine bounded_len hs.length _ ?_ fun x hx => ?_
    · rw [List.nodup_iff_pairwise_ne, List.pairwise_map]
      refine List.Pairwise.imp_of_mem (R := (· < ·)) (fun {a b} ha hb hlt heq => ?_) List.pairwise_lt_range
      rw [List.mem_range] at ha hb
      -- from a equal places one comes to the head as soon from a as from b
      have e1 : upN hs (a + (d - b)) k = 0 := by
        rw [upN_add, heq, ← upN_add, show b + (d - b) = d by omega]
        exact e
      exact least _ (by omega) e1
    · obtain ⟨i, hi, rfl⟩ := List.mem_map.mp hx
      rw [List.mem_range] at hi
      have := least i hi
      have := upN_le h i k hk
      omega
  rw [List.length_map, List.length_range] at hl
  exact hl
end Fv
set_option maxRecDepth 100000
set_option maxHeartbeats 1000000
namespace Fv
open PySem PySem.Spec L2
section
variable {K : PySem.W.Frag} {σ : L2.St} {H : Hp} {Q : VK} {a b p : Addr} {xs ys : List V} {ta tb : TE}
theorem But.freeB {H H1 : Hp} {p q : Addr} (b : But p H H1) (n : q ≠ p) (h : H1 q = none) : H q = none := by
  cases e : H q with
  | none => rfl
  | some o =>
    rw [b q o n e] at h
    cases h
theorem x_cat (h1 : H a = some (.lst xs)) (h2 : H b = some (.lst ys)) (hl : xs.length + ys.length ≤ sizeLine) (q : ∀ p, H p = none → Q (.ref p) (upd H p (.lst (xs ++ ys)))) : rCat (.ref a) (.ref b) H Q := ⟨a, b, xs, ys, rfl, rfl, h1, h2, hl, q⟩
theorem rep_one : ∀ (n : Nat) (v : V), (List.replicate n [v]).flatten = List.replicate n v
  | 0, _ => rfl
  | n + 1, v => by
    rw [List.replicate_succ, List.flatten_cons, rep_one n v, List.replicate_succ]
    rfl
theorem x_rep1 {n : Nat} {v : V} (h1 : H a = some (.lst [v])) (hn : n ≤ 1000) (q : ∀ p, H p = none → Q (.ref p) (upd H p (.lst (List.replicate n v)))) : rRep (.ref a) (.int n) H Q := by
  refine ⟨a, n, [v], rfl, rfl, h1, by omega, by omega, szLe (by show 1 * _ ≤ _; omega), fun p hp => ?_⟩
  rw [show (n : Int).toNat = n from rfl, rep_one]
  exact q p hp
theorem nats_rep (n : Nat) : List.replicate n (V.int 0) = nats (List.replicate n 0) := by
  unfold nats
  rw [List.map_replicate]
  rfl
end
end Fv
set_option maxRecDepth 100000
set_option maxHeartbeats 1000000
namespace Fv
open PySem PySem.Spec L2
/-- enumerate of a tuple from a written number on: each item in a new pair -/
def Itn (K : PySem.W.Frag) (t : Addr) (k : Int) : It where
  go := fun i H => ∃ (xs : List V) (x : V), SqT K H t xs ∧ xs[i]? = some x
  yld := fun i H v H' => ∃ (T : Addr) (x : V), v = .ref T ∧ H T = none ∧ H' = upd H T (.tup [.int (k + (i : Int)), x]) ∧ ∀ xs, SqT K H t xs → xs[i]? = some x
  stop := fun i H => ∃ xs : List V, SqT K H t xs ∧ xs.length = i
theorem isTuple_of {h : Heap} {a : Addr} {its : Array Value} (x : PyProof.Rows.IsTup h a its) : h.IsTuple a its := by
  obtain ⟨o, e, c, n, d⟩ := x
  exact ⟨o, e, c, n, d⟩
theorem turn_enumT {P : Program} {w : World} {K : PySem.W.Frag} {elts : List Expr} {kk : Nat} {tpos : Pos} (k : Int) (t e it : Addr) (nt : t ≠ it) (ne : e ≠ it) (ne' : e ≠ t) :
    Turn P w K (.Tuple elts kk tpos) (Itn K t k) [e, it] e (fun i h => (∃ old, IsEnum h e it (k + (i : Int)) old) ∧ h.IsTupleIter it t i) where
  mem := List.mem_cons_self
  obj := fun i h st b hb => by
    obtain ⟨⟨old, he⟩, ⟨o, ho, hc, hd⟩⟩ := st
    rcases List.mem_cons.mp hb with rfl | hb
    · exact ⟨_, he, fun v q => nomatch q⟩
    · rw [List.mem_singleton.mp hb]
      exact ⟨o, ho, fun v q => by rw [hd] at q; cases q⟩
  keep := fun i h h' st kp => ⟨st.1.elim fun old he => ⟨old, kp e List.mem_cons_self _ he⟩, st.2.at fun o q => kp it (List.mem_cons_of_mem _ List.mem_cons_self) o q⟩
  item := by
    intro X hP hw hK hc i pins s σ H E I hf st hg
    subst hP hw hK
    obtain ⟨xs, x, hq, hx⟩ := hg
    obtain ⟨its, rv, p, hz⟩ := I.tuple hq
    obtain ⟨u, hu, ru⟩ := rv.get hx
    have hil : i < its.length := (List.getElem?_eq_some_iff.mp hu).1
    have W := WalksT.enumFrom (prog := X.prog) (w := X.w) (A := X.A) k (Draws.tuple (prog := X.prog) (w := X.w) (A := X.A.in1) (it := it) (t := t) (show X.A.in1.handled = none from I.ok.hd hc) nt its.toArray) e ne (by simp [ne, ne']) (by simp)
    refine W.item i s _ E (by simpa using hil) ⟨st.1, st.2, isTuple_of p⟩ fun T vals h' tk hP' hT hTup hMid hk => ?_
    refine ⟨_, rfl, W.go elts kk tpos i T _ _ E hMid fun h'' hst' hk' => ?_⟩
    obtain ⟨tk2, y, hy, rfl⟩ := hP'
    have ey : y = u := by
      have e1 : its.toArray[i]? = some u := by simpa using hu
      rw [e1] at hy
      exact (Option.some.inj hy).symm
    subst ey
    have hfp : ∀ b ∈ [e, it], b < s.heap.objs.size := fun b hb => by
      obtain ⟨⟨old, he⟩, ⟨o, ho, _⟩⟩ := st
      rcases List.mem_cons.mp hb with rfl | hb
      · exact Heap.lt_size he
      · rw [List.mem_singleton.mp hb]
        exact Heap.lt_size ho
    have hTn : T ∉ [e, it] := W.apart i T _ hMid
    have hTup2 : h''.IsTuple T #[.int (k + (i : Int)) tk2, y] := by
      obtain ⟨o, e1, c1, n1, d1⟩ := hTup
      exact ⟨o, hk' _ _ hTn e1, c1, n1, d1⟩
    have new : ObjOk X.prog X.w (upd H T (.tup [.int (k + (i : Int)), x])) h'' T (.tup [.int (k + (i : Int)), x]) := by
      obtain ⟨o, e1, c1, n1, d1⟩ := hTup2
      exact ⟨by show 2 ≤ sizeLine; decide, [.int (k + (i : Int)) tk2, y], .cons ⟨_, rfl⟩ (.cons ru .nil), ⟨o, e1, c1, n1, d1⟩⟩
    have I1 : Inv X pins σ (upd H T (.tup [.int (k + (i : Int)), x])) { s with heap := h'', toks := tk } :=
      I.turnedNew (ch := [e, it]) (fun b ob hb q => hk' b ob hb (hk b ob hb q)) hf hT new
    refine ⟨.ref T, _, I1, rfl, ⟨T, x, rfl, I.hok.fresh hT, rfl, fun ys hys => by rw [I.tuple_inj hys hq]; exact hx⟩, ⟨hst'.1, hst'.2.1⟩, fun b hb => ?_⟩
    have hbT : b ≠ T := fun z => absurd (hfp b hb) (by rw [z]; exact Nat.not_lt.mpr hT)
    rw [upd_ne hbT]
    exact (hf b hb).1
  done := by
    intro X hP hw hK hc i pins s σ H E I hf st hg
    subst hP hw hK
    obtain ⟨xs, hq, hx⟩ := hg
    obtain ⟨its, rv, p, hz⟩ := I.tuple hq
    have W := WalksT.enumFrom (prog := X.prog) (w := X.w) (A := X.A) k (Draws.tuple (prog := X.prog) (w := X.w) (A := X.A.in1) (it := it) (t := t) (show X.A.in1.handled = none from I.ok.hd hc) nt its.toArray) e ne (by simp [ne, ne']) (by simp)
    have el : i = its.toArray.size := by
      rw [← hx, Vals.length rv]
      simp
    rw [el] at st
    refine W.done s _ E ⟨st.1, st.2, isTuple_of p⟩ fun h' tk hk => ⟨rfl, ?_⟩
    have nh : ∀ b u, H b = some u → b ∉ [e, it] := fun b u hb z => by
      have q := (hf b z).1
      rw [q] at hb
      cases hb
    refine I.step (g' := s.gens) (d' := s.drawn) (ch := [e, it]) (fun b hb => ⟨(hf b hb).2.2.2.1, (hf b hb).2.1, (hf b hb).2.2.2.2.1, (hf b hb).2.2.2.2.2⟩) (fun b o _ _ hc e _ => hk b o hc e) (fun b o _ _ hc e _ => ⟨o.slots, hk b o hc e⟩)
      (fun _ _ _ _ n => n) (fun b o hc e => ⟨o, hk b o hc e⟩) (fun _ _ q => q) (fun _ _ _ q => q) (fun _ ps q => ⟨#[], by rw [q]; simp⟩) (fun m hm => ?_) (fun b u hb => ?_) I.bare
    · obtain ⟨o, es, ep, ho, r⟩ := hm
      exact ⟨o, es, ep, hk _ o (fun z => (hf _ z).2.1 rfl) ho, r⟩
    · refine (I.hok b u hb).stay (fun c v hc q => hk c v ?_ q) (fun _ q => q) fun _ _ q => q
      rcases hc with z | z
      · rw [z]
        exact nh b u hb
      · exact nh c _ z
  self := fun A i s Q E st h => by
    obtain ⟨⟨old, he⟩, _⟩ := st
    exact wpAny_pyIter_enum he h
/-- enumerate(e, start=k), k written -/
def iEnT (K : PySem.W.Frag) (k : Int) (ta : TA) : TI := fun σ H R => ta σ H fun vs H1 => ∃ (t : Addr) (xs : List V), vs = [.ref t] ∧ SqT K H1 t xs ∧ R (Itn K t k) H1
theorem pi_enumT {X : Cx} {e : Expr} {ta : TA} {p pos tpos kpos kp : Pos} {elts : List Expr} {kk j : Nat} {k : Int} (hc : X.calm = true) (hg : Gl X "enumerate") (hm : X.mg "enumerate" = none) (h0 : -(2 ^ 63) ≤ k) (h1 : k < 2 ^ 63) (ha : PA X [e] ta)
    (hs : starEach [e] X.env = (false, eval e X.env) :: starEach [] X.env := by rfl) :
    PI X (.Tuple elts kk tpos) (.Call (.Name "enumerate" p) [e] [⟨some "start", .Constant (.int k) j kp, kpos⟩] pos) (iEnT X.K k ta) := by
  refine ⟨fun pins s σ H R I h => ?_⟩
  refine wpAny_Call_Name_kw (ld_blt I hg hm (u := .type "enumerate") (by decide +kernel) ?_)
  refine PySem.W.callWith_of (P := fun _ => True) (by rw [hs]; rfl) (fun h _ => ⟨_, .inr (.inl rfl), PySem.W.Looks.of_pure rfl⟩) (PyProof.Rows.evalArgs_kw2 rfl (thn (ha.run pos pins s σ H _ I h) fun us s1 ⟨vs, H1, I1, r1, t, xs, ev, hq, q⟩ => ?_) hs)
  have hkw : PK X [⟨some "start", .Constant (.int k) j kp, kpos⟩] (tCons (tC (.int k)) tNil) := pk_cons pe_int pk_nil
  refine thn (hkw.run pos pins s1 σ H1 (fun zs H2 => zs = [.int k] ∧ H2 = H1) I1 ⟨rfl, rfl⟩) fun ks s2 ⟨zs, H2, I2, r2, ez, eH⟩ => ⟨True.intro, ?_⟩
  subst ev ez eH
  cases r1 with
  | cons r rr =>
    cases rr
    cases r
    cases r2 with
    | cons rk rrk =>
      cases rrk
      obtain ⟨tk, rfl⟩ := rk
      obtain ⟨its, rv, p', hz⟩ := I2.tuple hq
      refine enum_begins_start (begins_tuple t its.toArray) (isTuple_of p') h0 h1 fun h' he hit hsz hkp => ?_
      refine wpAny_pyIter_enum he ?_
      have I3 : Inv X pins σ H2 { s2 with heap := h' } := I2.kept (t' := s2.toks) hkp
      have ht : t < s2.heap.objs.size := p'.lt
      have hn : ∀ b, s2.heap.objs.size ≤ b → H2 b = none := fun b hb => I2.hok.fresh hb
      refine ⟨s2.heap.objs.size + 1, [s2.heap.objs.size + 1, s2.heap.objs.size], _, _, H2, rfl, I3, turn_enumT k t (s2.heap.objs.size + 1) s2.heap.objs.size (Nat.ne_of_lt ht) (Nat.succ_ne_self _) (Nat.ne_of_gt (Nat.lt_succ_of_lt ht)),
        ⟨⟨.none, ?_⟩, ⟨_, hit, rfl, rfl⟩⟩, fun b hb => ?_, q⟩
      · rw [show k + ((0 : Nat) : Int) = k by omega]
        exact he
      · have hle : s2.heap.objs.size ≤ b := by
          rcases List.mem_cons.mp hb with rfl | hb
          · exact Nat.le_succ _
          · rw [List.mem_singleton.mp hb]
            exact Nat.le_refl _
        exact I2.fpOk hle (hn b hle)
end Fv
set_option maxRecDepth 100000
set_option maxHeartbeats 1000000
namespace Fv
open PySem PySem.Spec L2
theorem lp_enumT {K : PySem.W.Frag} {t : Addr} {k : Int} {xs : List V} {g : TG} {tb : TS} {nx : L2.St → Hp → Prop} {rt : VK} {σ : L2.St} {H : Hp} (Pv : Nat → L2.St → Hp → Prop) (h0 : Pv 0 σ H) (hl : ∀ i σ H, i ≤ xs.length → Pv i σ H → SqT K H t xs)
    (hs : ∀ i x σ H T, xs[i]? = some x → Pv i σ H → H T = none → g (.ref T) σ (upd H T (.tup [.int (k + (i : Int)), x])) fun σ2 H2 => tb { nx := Pv (i + 1), rt := rt, bk := nx, ct := Pv (i + 1) } σ2 H2) (hd : ∀ σ H, Pv xs.length σ H → nx σ H) :
    ∃ W : Nat → Nat → L2.St → Hp → Prop, (∃ m, W 0 m σ H) ∧ ∀ i m σ H, W i m σ H → ((Itn K t k).stop i H ∧ nx σ H) ∨ ((Itn K t k).go i H ∧ ∃ N : L2.St → Hp → Prop, (∀ σ' H', N σ' H' → ∃ m', m' < m ∧ W (i + 1) m' σ' H') ∧ ∀ x H', (Itn K t k).yld i H x H' → g x σ H' fun σ2 H2 => tb { nx := N, rt := rt, bk := nx, ct := N } σ2 H2) := by
  refine ⟨fun i m σ H => m = xs.length - i ∧ i ≤ xs.length ∧ Pv i σ H, ⟨_, rfl, Nat.zero_le _, h0⟩, ?_⟩
  rintro i m σ H ⟨rfl, hi, p⟩
  have q := hl i σ H hi p
  by_cases hlt : i < xs.length
  · refine .inr ⟨⟨xs, xs[i], q, List.getElem?_eq_getElem hlt⟩, Pv (i + 1), fun σ' H' p' => ⟨_, by omega, rfl, hlt, p'⟩, fun x H' y => ?_⟩
    obtain ⟨T, z, rfl, hT, rfl, hz⟩ := y
    exact hs i z σ H T (hz xs q) p hT
  · have e : i = xs.length := by omega
    subst e
    exact .inl ⟨⟨xs, q, rfl⟩, hd σ H p⟩
theorem lc_enumT {K : PySem.W.Frag} {t : Addr} {k : Int} {xs : List V} {g : TG} {tt : TT} {te : TE} {vs : List Nat} {σ : L2.St} {H1 : Hp} {D : Addr} {Qd : Hp → Prop} (Pv : Nat → Hp → Prop) (h0 : Pv 0 (upd H1 D (.lst []))) (hl : ∀ i H, i ≤ xs.length → Pv i H → SqT K H t xs)
    (hs : ∀ i x H T, xs[i]? = some x → Pv i H → H T = none → g (.ref T) (wipe σ vs) (upd H T (.tup [.int (k + (i : Int)), x])) fun σ2 H2 => wipe σ2 vs = wipe σ vs ∧ tt σ2 H2 fun b H3 =>
      if b = true then te σ2 H3 fun y H4 => ∃ acc, H4 D = some (.lst acc) ∧ acc.length < sizeLine ∧ Pv (i + 1) (upd H4 D (.lst (acc ++ [y]))) else Pv (i + 1) H3) (hd : ∀ H, Pv xs.length H → Qd H) :
    ∃ W : Nat → Nat → Hp → Prop, (∃ m, W 0 m (upd H1 D (.lst []))) ∧ ∀ i m H, W i m H → ((Itn K t k).stop i H ∧ Qd H) ∨ ((Itn K t k).go i H ∧ ∃ Nx : Hp → Prop, (∀ H', Nx H' → ∃ m', m' < m ∧ W (i + 1) m' H') ∧ ∀ x H', (Itn K t k).yld i H x H' → g x (wipe σ vs) H' fun σ2 H2 => wipe σ2 vs = wipe σ vs ∧ tt σ2 H2 fun b H3 =>
        if b = true then te σ2 H3 fun y H4 => ∃ acc, H4 D = some (.lst acc) ∧ acc.length < sizeLine ∧ Nx (upd H4 D (.lst (acc ++ [y]))) else Nx H3) := by
  refine ⟨fun i m H => m = xs.length - i ∧ i ≤ xs.length ∧ Pv i H, ⟨_, rfl, Nat.zero_le _, h0⟩, ?_⟩
  rintro i m H ⟨rfl, hi, p⟩
  have q := hl i H hi p
  by_cases hlt : i < xs.length
  · refine .inr ⟨⟨xs, xs[i], q, List.getElem?_eq_getElem hlt⟩, Pv (i + 1), fun H' p' => ⟨_, by omega, rfl, hlt, p'⟩, fun x H' y => ?_⟩
    obtain ⟨T, z, rfl, hT, rfl, hz⟩ := y
    exact hs i z H T (hz xs q) p hT
  · have e : i = xs.length := by omega
    subst e
    exact .inl ⟨⟨xs, q, rfl⟩, hd H p⟩
section
variable {K : PySem.W.Frag} {σ : L2.St} {H : Hp} {Q : VK} {a p : Addr} {xs : List V} {ta tb : TE}
theorem x_ent {R : It → Hp → Prop} {k : Int} {ts : TA} (h : ts σ H fun vs H1 => ∃ (t : Addr) (xs : List V), vs = [.ref t] ∧ SqT K H1 t xs ∧ R (Itn K t k) H1) : iEnT K k ts σ H R := h
theorem x_ent1 {R : Addr → Prop} (h : SqT K H a xs) (q : R a) : ∃ (t : Addr) (ys : List V), [V.ref a] = [.ref t] ∧ SqT K H t ys ∧ R t := ⟨a, xs, rfl, h, q⟩
end
theorem pi_enumTK {X : Cx} {K : PySem.W.Frag} {e : Expr} {ta : TA} {p pos tpos kpos kp : Pos} {elts : List Expr} {kk j : Nat} {k : Int} (eK : X.K = K) (hc : X.calm = true) (hg : Gl X "enumerate") (hm : X.mg "enumerate" = none) (h0 : -(2 ^ 63) ≤ k) (h1 : k < 2 ^ 63) (ha : PA X [e] ta)
    (hs : starEach [e] X.env = (false, eval e X.env) :: starEach [] X.env := by rfl) :
    PI X (.Tuple elts kk tpos) (.Call (.Name "enumerate" p) [e] [⟨some "start", .Constant (.int k) j kp, kpos⟩] pos) (iEnT K k ta) := by
  subst eK
  exact pi_enumT hc hg hm h0 h1 ha hs
theorem x_isnd {c : Prop} [Decidable c] {A B : Prop} (h1 : ¬ c → A) (h2 : c → B) : if (!decide c) = true then A else B := by
  by_cases h : c
  · rw [decide_eq_true h]
    exact iteF (h2 h)
  · rw [decide_eq_false h]
    exact iteT (h1 h)
theorem num_int {lo hi : Int} {x : V} (h : numV lo hi x = true) : ∃ z, x = .int z ∧ lo ≤ z ∧ z ≤ hi := by
  cases x with
  | int i =>
    have h' : (decide (lo ≤ i) && decide (i ≤ hi)) = true := h
    rw [Bool.and_eq_true, decide_eq_true_eq, decide_eq_true_eq] at h'
    exact ⟨i, rfl, h'.1, h'.2⟩
  | _ => cases h
theorem at_pred {xs : List V} {i : Nat} {x : V} (h : xs[i]? = some x) : atI xs (1 + (i : Int) - 1) = some x := by
  rw [show 1 + (i : Int) - 1 = (i : Int) by omega]
  exact atI_nat h
/-! what is due for a tuple -/
inductive Due where
  | hung
  | block (k : Nat)
  | ring (k : Nat)
  | ok
/-- an item that is no place, or the block itself -/
def badV (n i : Nat) (x : V) : Prop := numV 0 n x = false ∨ x = .int ((i + 1 : Nat) : Int)
inductive DueIs (xs : List V) : Due → Prop where
  | hung : ¬ (1 ≤ xs.length ∧ xs.length ≤ 40) → DueIs xs .hung
  | block {i : Nat} {x : V} : 1 ≤ xs.length → xs.length ≤ 40 → (∀ j y, j < i → xs[j]? = some y → ¬ badV xs.length j y) → xs[i]? = some x → badV xs.length i x → DueIs xs (.block (i + 1))
  | ring {hs : List Nat} {k : Nat} : 1 ≤ xs.length → xs.length ≤ 40 → xs = nats hs → (∀ j y, xs[j]? = some y → ¬ badV xs.length j y) → (∀ j, 1 ≤ j → j < k → upN hs hs.length j = 0) → 1 ≤ k → k ≤ hs.length → upN hs hs.length k ≠ 0 → DueIs xs (.ring k)
  | ok {hs : List Nat} : IsTree hs → xs = nats hs → (∀ j y, xs[j]? = some y → ¬ badV xs.length j y) → DueIs xs .ok
theorem nats_inj : ∀ {l m : List Nat}, nats l = nats m → l = m
  | [], [], _ => rfl
  | [], _ :: _, h => by cases h
  | _ :: _, [], h => by cases h
  | a :: l, b :: m, h => by
    have h' : V.int (Int.ofNat a) :: nats l = V.int (Int.ofNat b) :: nats m := h
    injection h' with h1 h2
    injection h1 with h1
    injection h1 with h1
    rw [h1, nats_inj h2]
theorem DueIs.det {xs : List V} {d e : Due} (h : DueIs xs d) (h' : DueIs xs e) : d = e := by
  cases h with
  | hung n =>
    cases h' with
    | hung _ => rfl
    | block a b _ _ _ => exact (n ⟨a, b⟩).elim
    | ring a b _ _ _ _ _ _ => exact (n ⟨a, b⟩).elim
    | ok t e _ => exact (n ⟨by rw [e, nats_length]; exact t.pos, by rw [e, nats_length]; exact t.most⟩).elim
  | @block i x a b f e1 bd =>
    cases h' with
    | hung n => exact (n ⟨a, b⟩).elim
    | @block j y _ _ f2 e2 bd2 =>
      rcases Nat.lt_trichotomy i j with h | h | h
      · exact (f2 _ _ h e1 bd).elim
      · rw [h]
      · exact (f _ _ h e2 bd2).elim
    | ring _ _ _ f2 _ _ _ _ => exact (f2 _ _ e1 bd).elim
    | ok _ _ f2 => exact (f2 _ _ e1 bd).elim
  | @ring hs k a b e f g k1 k2 nz =>
    cases h' with
    | hung n => exact (n ⟨a, b⟩).elim
    | block _ _ _ e2 bd => exact (f _ _ e2 bd).elim
    | @ring hs2 k' _ _ e2 _ g2 k1' k2' nz2 =>
      have eh := nats_inj (e.symm.trans e2)
      subst eh
      rcases Nat.lt_trichotomy k k' with h | h | h
      · exact (nz (g2 k k1 h)).elim
      · rw [h]
      · exact (nz2 (g k' k1' h)).elim
    | @ok hs2 t e2 _ =>
      have eh := nats_inj (e.symm.trans e2)
      subst eh
      exact (nz (t.comes k k2)).elim
  | @ok hs t e f =>
    cases h' with
    | hung n => exact (n ⟨by rw [e, nats_length]; exact t.pos, by rw [e, nats_length]; exact t.most⟩).elim
    | block _ _ _ e2 bd => exact (f _ _ e2 bd).elim
    | @ring hs2 k' _ _ e2 _ g2 k1' k2' nz2 =>
      have eh := nats_inj (e.symm.trans e2)
      subst eh
      exact (nz2 (t.comes k' k2')).elim
    | ok _ _ _ => rfl
/-- no bad one: they are places -/
theorem good_nats {xs : List V} (n : Nat) (h : ∀ (j : Nat) y, xs[j]? = some y → numV 0 n y = true) : ∃ hs : List Nat, xs = nats hs ∧ ∀ x ∈ hs, x ≤ n := by
  induction xs with
  | nil => exact ⟨[], rfl, fun _ h => nomatch h⟩
  | cons x r ih =>
    obtain ⟨hs, e, hle⟩ := ih fun j y hy => h (j + 1) y hy
    have hx := h 0 x rfl
    cases x with
    | int i =>
      have hx' : (decide ((0 : Int) ≤ i) && decide (i ≤ (n : Int))) = true := hx
      rw [Bool.and_eq_true, decide_eq_true_eq, decide_eq_true_eq] at hx'
      obtain ⟨m, rfl⟩ := Int.eq_ofNat_of_zero_le hx'.1
      refine ⟨m :: hs, by rw [e]; rfl, fun y hy => ?_⟩
      rcases List.mem_cons.mp hy with rfl | hy
      · omega
      · exact hle y hy
    | _ => cases hx
end Fv
set_option maxRecDepth 100000
set_option maxHeartbeats 1000000
namespace Fv
open PySem PySem.Spec L2
theorem x_mko {C : Addr} {sp : Sp} {dvs : List V} {ta : TA} {σ : L2.St} {H : Hp} {Q : XK} (h : ta σ H fun vs H1 => vs.length ≤ 1000 ∧ ∀ a, H1 a = none → sp (.ref a :: (vs ++ dvs)) (upd H1 a (exo a C none)) (fun v H2 => v = .non ∧ ∃ (d : Addr) (fs : List (Str × V)), H2 a = some (exo a C (some d)) ∧ H2 d = some (exd d fs) ∧ H1 d = none ∧ Q (.ref C) (some d) (upd (del H2 a) d (.xd fs))) (fun _ _ _ => False)) : tMkO C sp dvs ta σ H Q := h
theorem x_ost {K : PySem.W.Frag} {f : Str} {to te : TE} {D : Ends} {σ : L2.St} {H : Hp} (h : te σ H fun y H1 => to σ H1 fun x H2 => ∃ a C : Addr, x = .ref a ∧ OexC K C ∧ PySem.W.findIn K (.ref C) f = some none ∧ ((H2 a = some (exo a C none) ∧ ∀ dx, H2 dx = none → dx ≠ a → D.nx σ (upd (upd H2 dx (exd dx [(f, y)])) a (exo a C (some dx)))) ∨ ∃ (dx : Addr) (fs : List (Str × V)), H2 a = some (exo a C (some dx)) ∧ H2 dx = some (exd dx fs) ∧ fs.length ≤ 900 ∧ D.nx σ (upd H2 dx (exd dx ((f, y) :: fs))))) : tOst K f to te D σ H := h
theorem x_sfld {K : PySem.W.Frag} {ta tv : TE} {f : Str} {D : Ends} {σ : L2.St} {H : Hp} (h : tv σ H fun y H1 => ta σ H1 fun x H2 => ∃ a C dx fs, x = .ref a ∧ H2 a = some (.ins C dx fs) ∧ Cls K C ∧ NoAttr K C f ∧ fs.length < 1000 ∧ D.nx σ (upd H2 a (.ins C dx (putF f y fs)))) : sFld K ta tv f D σ H := h
/-- a method, called by its class or through another -/
structure CalM (K : PySem.W.Frag) (f : Addr) (fd : FuncData) (ps : List Str) : Prop where
  k : PySem.W.keepIn K (.ref f) = true
  b : Binds K fd ps []
/-- an own error with one field, set by its __init__ -/
structure ExcF (K : PySem.W.Frag) (C fI : Addr) (f : Str) : Prop where
  T : OexC K C
  i : PySem.W.findIn K (.ref C) "__init__" = some (some (.ref fI))
  t : PySem.W.typeIn K (.ref fI) = some (.type "function")
  n : PySem.W.findIn K (.ref C) f = some none
def spField (C : Addr) (f : Str) : Sp := fun vs H Q _ => ∃ (a : Addr) (v : V), vs = [.ref a, v] ∧ H a = some (exo a C none) ∧ ∀ dx, H dx = none → dx ≠ a → Q .non (upd (upd H dx (exd dx [(f, v)])) a (exo a C (some dx)))
/-- raise C(v): the error's own dict is new, all that was tracked stands -/
theorem mk_field {C : Addr} {f : Str} {v : V} {H : Hp} {Q : XK} (h : ∀ d H', Same H H' → H d = none → H' d = some (.xd [(f, v)]) → Q (.ref C) (some d) H') :
    [v].length ≤ 1000 ∧ ∀ a, H a = none → spField C f (.ref a :: ([v] ++ [])) (upd H a (exo a C none)) (fun v H2 => v = .non ∧ ∃ (d : Addr) (fs : List (Str × V)), H2 a = some (exo a C (some d)) ∧ H2 d = some (exd d fs) ∧ H d = none ∧ Q (.ref C) (some d) (upd (del H2 a) d (.xd fs))) (fun _ _ _ => False) := by
  refine ⟨by show 1 ≤ 1000; decide, fun a ha => ⟨a, v, rfl, upd_same, fun dx hd ne => ⟨rfl, dx, [(f, v)], upd_same, ?_, ?_, ?_⟩⟩⟩
  · rw [upd_ne ne, upd_same]
  · rw [upd_ne ne] at hd
    exact hd
  · rw [upd_ne ne] at hd
    refine h dx _ (fun b o e => ?_) hd upd_same
    have nb := ne_of_none e ha
    rw [upd_ne (ne_of_none e hd), del_ne nb, upd_ne nb, upd_ne (ne_of_none e hd), upd_ne nb]
    exact e
end Fv
set_option maxRecDepth 100000
set_option maxHeartbeats 1000000
namespace Fv
open PySem PySem.Spec L2
/-! tuples of places compared -/
def dn (l : List Nat) : List PyData := l.map fun (n : Nat) => PyData.int (Int.ofNat n)
theorem dpAll_nats {K : PySem.W.Frag} {H : Hp} : ∀ l : List Nat, DpAll K H (nats l) (dn l)
  | [] => .nil
  | a :: l => .cons (.int _) (dpAll_nats l)
theorem dn_lay : ∀ l : List Nat, PyData.canLayAll0 (dn l) = true
  | [] => rfl
  | a :: l => by
    show (PyData.canLay0 (.int (Int.ofNat a)) && PyData.canLayAll0 (dn l)) = true
    rw [dn_lay l]
    rfl
theorem dn_depth : ∀ l : List Nat, PyData.depthAll (dn l) = 0
  | [] => rfl
  | a :: l => by
    show max (PyData.depth (.int (Int.ofNat a))) (PyData.depthAll (dn l)) = 0
    rw [dn_depth l]
    rfl
theorem dn_shaped (l : List Nat) : SeqAt.shaped (.tuple (dn l)) = true := by
  show (PyData.canLayAll0 (dn l) && decide (PyData.depthAll (dn l) + 1 ≤ 64)) = true
  rw [dn_lay, dn_depth]
  rfl
theorem dn_eqv : ∀ l m : List Nat, PyData.eqvAll (dn l) (dn m) = decide (l = m)
  | [], [] => by simp [dn, PyData.eqvAll]
  | [], _ :: _ => by simp [dn, PyData.eqvAll]
  | _ :: _, [] => by simp [dn, PyData.eqvAll]
  | a :: l, b :: m => by
    show PyData.eqvAll (.int (Int.ofNat a) :: dn l) (.int (Int.ofNat b) :: dn m) = _
    rw [PyData.eqvAll, dn_eqv l m, PyData.eqv, Bool.eq_iff_iff]
    simp
    intro _
    omega
section
variable {K : PySem.W.Frag} {H : Hp} {Q : VK} {a b : Addr} {l m : List Nat}
theorem x_eqTup (h1 : SqT K H a (nats l)) (h2 : SqT K H b (nats m)) (q : Q (.bl (decide (l = m))) H) : rEqD K (.ref a) (.ref b) H Q := by
  refine ⟨.tuple (dn l), .tuple (dn m), .tup h1 (dpAll_nats l), .tup h2 (dpAll_nats m), dn_shaped l, dn_shaped m, ?_⟩
  rw [PyData.eqv, dn_eqv]
  exact q
theorem x_neTup (h1 : SqT K H a (nats l)) (h2 : SqT K H b (nats m)) (q : Q (.bl (!decide (l = m))) H) : rNeD K (.ref a) (.ref b) H Q := by
  refine ⟨.tuple (dn l), .tuple (dn m), .tup h1 (dpAll_nats l), .tup h2 (dpAll_nats m), dn_shaped l, dn_shaped m, ?_⟩
  rw [PyData.eqv, dn_eqv]
  exact q
end
/-! x == y by x's own __eq__ -/
structure OwnQ (K : PySem.W.Frag) (C f : Addr) : Prop where
  s : PySem.W.findIn K (.ref C) "__eq__" = some (some (.ref f))
  fn : PySem.W.isFn K (.ref f) = true
def rOwn (C : Addr) (sp : Sp) : R2 := fun x y H Q => ∃ (a b dx : Addr) (fs : List (Str × V)), x = .ref a ∧ y = .ref b ∧ H a = some (.ins C dx fs) ∧ ((∃ dy gs, H b = some (.ins C dy gs)) ∨ ∃ xs, H b = some (.tup xs)) ∧
  sp [.ref a, .ref b] H (fun v H' => ∃ r, v = .bl r ∧ Q (.bl r) H') (fun _ _ _ => False)
theorem tup_apart (K : PySem.W.Frag) (C : Addr) : PySem.W.notFirst K C (.type "tuple") = true := by
  have e : PySem.W.subIn K (.type "tuple") (.ref C) = some false := by
    have e2 : PySem.fastBuiltinMro "tuple" = some [.type "tuple", .type "object"] := by decide +kernel
    show (PySem.fastBuiltinMro "tuple").map (·.contains (Value.ref C)) = some false
    rw [e2]
    rfl
  unfold PySem.W.notFirst
  rw [e]
  rfl
theorem op_own {X : Cx} {C f : Addr} {fd : FuncData} {ps : List Str} {sp : Sp} {n : Nat} (O : OwnQ X.K C f) (F : FnOk X.prog X.w X.K X.mg X.base CX0 n f fd ps sp) (hb : Binds X.K fd ps []) (hr : Room n X.A) : OpR X (compareOp .Eq) (rOwn C sp) := by
  intro pins s σ H x y v u Q I rx ry h
  obtain ⟨a, b, dx, fs, rfl, rfl, ha, hB, hsp⟩ := h
  cases rx
  cases ry
  show wpAny (model X.prog X.w) X.A (richCompare .Eq (.ref a) (.ref b)) (EP X pins σ Q) X.xe s
  obtain ⟨mA, J, _⟩ := ins_get I.hok ha
  obtain ⟨od, J, _⟩ := J.look
  obtain ⟨m, hF⟩ := I.fr
  have r2 : Vals [V.ref a, V.ref b] [Value.ref a, Value.ref b] := .cons rfl (.cons rfl .nil)
  have back : wpAny (model X.prog X.w) X.A (call (.ref f) [.ref a, .ref b]) (PySem.W.CmpBack (EP X pins σ Q)) X.xe s := by
    refine thn (run_fn F hr hb .nil pass0 I r2 hsp) fun w' s' ⟨z, H', I', rz, r, ez, q⟩ => ?_
    subst ez
    cases rz
    exact ⟨.bl r, H', I', rfl, q⟩
  rcases hB with ⟨dy, gs, hB⟩ | ⟨xs, hB⟩
  · obtain ⟨mB, J', _⟩ := ins_get I.hok hB
    obtain ⟨od', J', _⟩ := J'.look
    exact PySem.W.cmp_K (op := .Eq) (tb := .ref C) hr.units0 hF I.ok.mod.kin J J'.type (by simp [PySem.W.notFirst]) O.s O.fn back
  · obtain ⟨_, _, _, o, h1, h2, _⟩ := (show ObjOk X.prog X.w H s.heap b (.tup xs) from I.hok b _ hB)
    exact PySem.W.cmp_K (op := .Eq) (tb := .type "tuple") hr.units0 hF I.ok.mod.kin J (fun A Q E s k q => wpAny_typeOf_ref (k _ _ h1) (by rw [h2]; exact q)) (tup_apart X.K C) O.s O.fn back
/-! what isinstance asks of an own class -/
structure IsC (K : PySem.W.Frag) (C : Addr) : Prop where
  cl : Cls K C
  ha : PySem.W.findIn K (.ref C) "__class__" = some (some (.builtin "object.__class__"))
  hn : PySem.W.specialIn K (.builtin "object.__class__") "__get__" = some (some (.builtin "getset_descriptor.__get__"))
  ht : PySem.W.takesIn K (.builtin "object.__class__") = some true
  hm : PySem.W.mroIn K C (.type "object") = some true
  own : PySem.W.kitOne K (.ref C) (.ref C) = some true
  tup : PySem.W.kitOne K (.type "tuple") (.ref C) = some false
section
variable {K : PySem.W.Frag} {H : Hp} {Q : VK} {a C dx : Addr} {fs : List (Str × V)} {xs : List V}
theorem isi_own (c : IsC K C) (h : H a = some (.ins C dx fs)) (q : Q (.bl true) H) : rIsi K [.ref a, .ref C] H Q := ⟨.ref a, .ref C, .ref C, .ref C, true, rfl, .own C, .base (.ins h c.cl c.ha c.hn c.ht c.hm), c.own, q⟩
theorem isi_tupOwn (c : IsC K C) (h : H a = some (.tup xs)) (q : Q (.bl false) H) : rIsi K [.ref a, .ref C] H Q := ⟨.ref a, .ref C, .type "tuple", .ref C, false, rfl, .own C, .base (.tup h), c.tup, q⟩
theorem x_fldQ {te : TE} {f : Str} {σ : L2.St} (h : te σ H fun x H1 => ∃ a C dx fs v, x = .ref a ∧ H1 a = some (.ins C dx fs) ∧ Cls K C ∧ NoAttr K C f ∧ fs.lookup f = some v ∧ Q v H1) : tFld K te f σ H Q := h
theorem x_fld1 {v : V} {f : Str} (h : H a = some (.ins C dx fs)) (c : Cls K C) (n : NoAttr K C f) (l : fs.lookup f = some v) (q : Q v H) : ∃ a' C' dx' fs' v', V.ref a = .ref a' ∧ H a' = some (.ins C' dx' fs') ∧ Cls K C' ∧ NoAttr K C' f ∧ fs'.lookup f = some v' ∧ Q v' H := ⟨a, C, dx, fs, v, rfl, h, c, n, l, q⟩
end
end Fv
set_option maxRecDepth 100000
set_option maxHeartbeats 1000000
namespace Fv
open PySem PySem.Spec L2 PyProof.Rows
/-- what leaves the body of a try is the wish at any cells of the right number -/
theorem passLen {X : Cx} {W : WX} {n : Nat} (tk : Takes X W) (hn : X.N.length = n) : Passes (L2.CX X.prog X.w) X (fun cls d H => ∀ σ : L2.St, σ.length = n → W cls d σ H) := fun pins σ H s e s' I c => by
  refine passAt tk σ pins H s e s' I ?_
  obtain ⟨a, B, H', cls, d, h1, h2, h3, h4, h5, h6, h7, h8⟩ := c
  exact ⟨a, B, H', cls, d, h1, h2, h3, h4, h5, h6, h7, h8 σ (I.len.trans hn)⟩
/-- isinstance(e, C), e the caught error, which holds a field -/
def rIsF (K : PySem.W.Frag) (D a : Addr) (cls : Value) (d : Option Addr) : List V → Hp → VK → Prop := fun xs H Q => ∃ (C dd : Addr) (fs : List (Str × V)), xs = [.ref a, .ref C] ∧ cls = .ref D ∧ d = some dd ∧ H dd = some (.xd fs) ∧ PySem.W.kitOne K (.ref D) (.ref C) = some true ∧ Q (.bl true) H
theorem call_isF {X : Cx} {a D : Addr} {oe : Obj} {cls : Value} {d : Option Addr} {pn : List (Addr × Obj)} (C : L2.ExcC X.K D) (hz : Zc cls d oe) (hf : ∃ vs, oe.data = .fields vs) : CallR (X.suite a ((a, oe) :: pn)) (.builtin "isinstance") (rIsF X.K D a cls d) := by
  intro pins s σ H xs us Q I r h
  obtain ⟨B, dd, fs, rfl, rfl, rfl, ea, e, q⟩ := h
  cases r with
  | cons rx rr =>
    cases rr with
    | cons rt rr =>
      cases rr
      cases rx
      cases rt
      obtain ⟨hget, _⟩ := I.pin (a, oe) (List.mem_append.mpr (.inl List.mem_cons_self))
      obtain ⟨vs, hv⟩ := hf
      have hx : ObjOk X.prog X.w H s.heap dd (.xd fs) := I.hok dd _ ea
      obtain ⟨mA, hns, hr⟩ := hx
      obtain ⟨od, ho, hl⟩ := lookIn_ns hns
      have J : PySem.W.InstAt s.heap a oe D (some od) := ⟨hget, hz.1, by unfold PySem.W.notCls; rw [hv] <;> rfl, by rw [hz.2]; exact ho⟩
      have hcl : (PySem.W.clsIn X.K D).isSome = true := by
        obtain ⟨cd, hc, _⟩ := PySem.W.any_some C.hd
        rw [hc]
        rfl
      exact PySem.W.kia_one (PySem.W.kitx_exc hcl C.hg C.hk C.hs C.ha C.hn C.ht C.hm) I.kIn J e (fun z => nomatch z) fun tk => ⟨.bl true, H, I.kept (t' := tk) fun _ _ z => z, rfl, q⟩
theorem x_make {C : Addr} {sp : Sp} {dvs : List V} {E : XK} {t : TA} {σ : L2.St} {H : Hp} {Q : VK} (h : t σ H fun vs H1 => ∀ x dx, H1 x = none → H1 dx = none → dx ≠ x → sp (.ref x :: (vs ++ dvs)) (upd (upd H1 dx (.own x)) x (.ins C dx [])) (fun v H2 => v = .non ∧ Q (.ref x) H2) E) : tMake C sp dvs E t σ H Q := h
theorem x_xf {a : Addr} {cls : Value} {d : Option Addr} {C : Addr} {f : Str} {te : TE} {σ : L2.St} {H : Hp} {Q : VK} (h : te σ H fun x H1 => x = .ref a ∧ cls = .ref C ∧ ∃ (dd : Addr) (fs : List (Str × V)) (v : V), d = some dd ∧ H1 dd = some (.xd fs) ∧ fs.lookup f = some v ∧ Q v H1) : tXf a cls d C f te σ H Q := h
end Fv
set_option maxRecDepth 100000
set_option maxHeartbeats 1000000
namespace Fv
open PySem PySem.Spec L2
section
variable {X : Cx} {K : PySem.W.Frag} {H : Hp} {Q : VK} {a b : Addr} {xs ys : List V} {v : V}
/-- a callee from which nothing comes out -/
theorem passE {P : Program} {w : World} : Passes (L2.CX P w) X (fun _ _ _ => False) := fun pins σ H s e s' I c => by
  obtain ⟨a, B, H', cls, d, h1, h2, h3, h4, h5, h6, h7, h8⟩ := c
  exact h8.elim
theorem op_catTK (e : X.K = K) : OpR X (binaryOp .Add) (rCatT K) := by
  subst e
  exact op_catT
theorem op_repTK (e : X.K = K) : OpR X (binaryOp .Mult) (rRepT K) := by
  subst e
  exact op_repT
theorem x_catT (h1 : SqT K H a xs) (h2 : SqT K H b ys) (nx : xs ≠ []) (ny : ys ≠ []) (hl : xs.length + ys.length ≤ 10000) (q : ∀ p, H p = none → Q (.ref p) (upd H p (.tup (xs ++ ys)))) : rCatT K (.ref a) (.ref b) H Q :=
  ⟨a, b, xs, ys, rfl, rfl, h1, h2, nx, szLe (by omega), fun e => (ny e).elim, fun _ => q⟩
theorem x_repT1 {k : Nat} (h : SqT K H a [v]) (h2 : 2 ≤ k) (hk : k ≤ 1000) (q : ∀ p, H p = none → Q (.ref p) (upd H p (.tup (List.replicate k v)))) : rRepT K (.ref a) (.int k) H Q :=
  ⟨a, k, [v], rfl, rfl, h, by simp, by omega, by omega, (by show 1 ≤ 1000; decide), fun p hp => by
    have e := rep_one k v
    rw [Int.toNat_natCast, e]
    exact q p hp⟩
end
end Fv
set_option maxRecDepth 100000
set_option maxHeartbeats 1000000
namespace Fv
open PySem PySem.Spec PyProof.Rows L2
/-! a range kept by a name, and walked -/
def rRng2 : List V → Hp → VK → Prop := fun vs H Q => ∃ i j, vs = [V.int i, V.int j] ∧ ∀ p, H p = none → Q (.ref p) (upd H p (.rng i j))
theorem call_rng2 {X : Cx} : CallR X (.type "range") rRng2 := cr_range2
def iRngV (te : TE) : TI := fun σ H R => te σ H fun x H1 => ∃ (a : Addr) (lo hi : Int), x = .ref a ∧ H1 a = some (.rng lo hi) ∧ (-(2 ^ 62) ≤ lo ∧ lo < 2 ^ 62 ∧ -(2 ^ 62) ≤ hi ∧ hi < 2 ^ 62) ∧ R (Itr lo (hi - lo).toNat) H1
theorem pi_rngV {X : Cx} {tg e : Expr} {te : TE} (he : PE X e te) : PI X tg e (iRngV te) := by
  refine ⟨fun pins s σ H R I h => thn (he.run pins s σ H _ I h) fun u s1 ⟨x, H1, I1, rx, a, lo, hi, ex, ea, ⟨h1, h2, h3, h4⟩, q⟩ => ?_⟩
  subst ex
  obtain rfl : u = Value.ref a := rx
  obtain ⟨t, u, v, ho⟩ := (show ∃ t u v, s1.heap.get? a = some { cls := .type "range", data := .fields #[.int lo t, .int hi u, .int 1 v] } from I1.hok a _ ea)
  refine wpAny_pyIter_range (a := lo) (b := hi) (c := 1) (t := t) (u := u) (v := v) ho (small_one h1 h2 h3 h4) ?_
  refine ⟨s1.heap.objs.size, [s1.heap.objs.size], _, _, H1, rfl, I1.kept (t' := s1.toks) fun b o e => Heap.get?_push_of_some _ e, turn_range _ lo (hi - lo).toNat, ?_, fun b hb => ?_, q⟩
  · have e1 : lo + ((0 : Nat) : Int) * 1 = lo := by simp
    have e2 : (((hi - lo).toNat : Nat) : Int) - ((0 : Nat) : Int) = Builtin.Range.rangeSize lo hi 1 := by rw [rangeSize_one]; split <;> omega
    show IsRangeIter _ _ (lo + ((0 : Nat) : Int) * 1) ((((hi - lo).toNat : Nat) : Int) - ((0 : Nat) : Int)) 1
    rw [e1, e2]
    exact Heap.get?_push_size _ rfl
  · have e : b = s1.heap.objs.size := by simpa using hb
    subst e
    exact I1.fpOk (Nat.le_refl _) (I1.hok.fresh (Nat.le_refl _))
theorem pg_tupK {X : Cx} {K : PySem.W.Frag} {es : List Expr} {k : Nat} {t : TGs} {n : Nat} {pos : Pos} (eK : X.K = K) (hc : X.calm = true) (h : PGs X es t)
    (hn : (assignEach es X.env).length = n := by rfl) (hst : (assignEach es X.env).findIdx? (·.1) = none := by rfl) : PG X (.Tuple es k pos) (gTup K n t) := by
  subst eK
  exact pg_tup hc h hn hst
section
variable {K : PySem.W.Frag} {σ : L2.St} {H : Hp} {Q : VK} {a p : Addr} {xs : List V} {v : V}
theorem x_rng2v {i j : Int} (q : ∀ p, H p = none → Q (.ref p) (upd H p (.rng i j))) : rRng2 [.int i, .int j] H Q := ⟨i, j, rfl, q⟩
theorem x_irngV {R : It → Hp → Prop} {te : TE} (h : te σ H fun x H1 => ∃ (a : Addr) (lo hi : Int), x = .ref a ∧ H1 a = some (.rng lo hi) ∧ (-(2 ^ 62) ≤ lo ∧ lo < 2 ^ 62 ∧ -(2 ^ 62) ≤ hi ∧ hi < 2 ^ 62) ∧ R (Itr lo (hi - lo).toNat) H1) : iRngV te σ H R := h
theorem atI_last (xs : List V) (v : V) : atI (xs ++ [v]) (-1) = some v := by
  unfold atI ixN
  rw [if_neg (by decide), if_pos (by rw [List.length_append]; show -((xs.length + 1 : Nat) : Int) ≤ -1; omega)]
  show (xs ++ [v])[_]? = _
  have e : ((-1 : Int) + ((xs ++ [v]).length : Nat)).toNat = xs.length := by
    rw [List.length_append]
    show ((-1 : Int) + ((xs.length + 1 : Nat) : Int)).toNat = xs.length
    omega
  first
    | (rw [e]; simp)
    | simp
theorem flat_nats (l : List Nat) : (nats l).all flatV = true := by
  rw [List.all_eq_true]
  intro x hx
  obtain ⟨n, _, rfl⟩ := List.mem_map.mp hx
  rfl
theorem in_nats (k : Nat) : ∀ l : List Nat, inV (.int k) (nats l) = decide (k ∈ l)
  | [] => rfl
  | a :: l => by
    show (eqV (.int a) (.int k) || inV (.int k) (nats l)) = decide (k ∈ a :: l)
    rw [in_nats k l, Bool.eq_iff_iff]
    simp only [Bool.or_eq_true, decide_eq_true_eq, List.mem_cons]
    have e : eqV (.int a) (.int k) = decide ((a : Int) = (k : Int)) := by
      show ((a : Int) == (k : Int)) = _
      rfl
    rw [e, decide_eq_true_eq]
    constructor
    · rintro (h | h)
      · exact .inl (by omega)
      · exact .inr h
    · rintro (h | h)
      · exact .inl (by omega)
      · exact .inr h
theorem x_inNT {k : Nat} {l : List Nat} (h : SqT K H p (nats l)) (q : Q (.bl (decide (k ∈ l))) H) : rIn K false (.int k) (.ref p) H Q := by
  refine ⟨p, _, rfl, .inr h, rfl, flat_nats l, ?_⟩
  show Q (.bl (inV (.int k) (nats l))) H
  rw [in_nats]
  exact q
end
end Fv
set_option maxRecDepth 100000
set_option maxHeartbeats 1000000
namespace Fv
open PySem PySem.Spec PySem.Calls PyProof.Rows
/-! an error of the package whose __init__ says super().__init__() and no more -/
def siA (p : Pos) : Arguments := { posonlyargs := [], args := [{ arg := "self", annotation := none, pos := p }], vararg := none, kwonlyargs := [], kw_defaults := [], kwarg := none, defaults := [] }
def siB (p0 p1 p2 p3 p4 : Pos) : List Stmt := [.Expr (.Call (.Attribute (.Call (.Name "super" p0) [] [] p1) "__init__" p2) [] [] p3) p4]
def siS : Scope := { kind := .function, names := [(PySem.Str.ofString "self", .local), (PySem.Str.ofString "__class__", .free), (PySem.Str.ofString "super", .globalImplicit)], isGenerator := false, isCoroutine := false, more := [] }
/-- how the model reads super().__init__(), its places being these -/
def SupEv (p0 p1 p2 p3 : Pos) : Prop := ∀ (q : Str) (L a cc : Addr) (cd : Value), ∃ pl : Sem Bool,
  eval (.Call (.Attribute (.Call (.Name "super" p0) [] [] p1) "__init__" p2) [] [] p3) (PySem.W.ksEnv q siS L a cd cc) = (do
    let o ← attributeBase (.Call (.Name "super" p0) [] [] p1) "__init__" (PySem.W.ksEnv q siS L a cd cc) (eval (.Call (.Name "super" p0) [] [] p1) (PySem.W.ksEnv q siS L a cd cc))
    standAt p2.atName
    let (f, first) ← holding [o] (getMethod o "__init__" pl)
    callWith p3 f first (backTo p3 (starEach [] (PySem.W.ksEnv q siS L a cd cc))) [])
/-- what the written part says of such a class at C, and of its __init__, at fI -/
structure SupC (P : Program) (K : PySem.W.Frag) (C fI : Addr) : Prop where
  x : L2.OexC K C
  iC : PySem.W.findIn K (.ref C) "__init__" = some (some (.ref fI))
  tC : PySem.W.typeIn K (.ref fI) = some (.type "function")
  fn : ∃ (oc : Value) (od : Option Addr) (kV doc pm : Value) (an : Option Addr) (cda : Addr) (ct : Value) (osl : Array (Option Value)) (cc : Addr) (q : Str) (p p0 p1 p2 p3 p4 : Pos),
    K.lookup fI = some ⟨oc, od, .func (PySem.W.ksFn "__init__" q (siA p) (siB p0 p1 p2 p3 p4) siS .none kV doc pm an (.ref cda) ct cc), osl⟩ ∧ PySem.W.codeIn K (.ref cda) q = true ∧ (∃ (cl : Value) (cld : Option Addr) (csl : Array (Option Value)), K.lookup cc = some ⟨cl, cld, .cell (some (.ref C)), csl⟩) ∧
    ∃ (ccl : Value) (cdd : Option Addr) (vs : Array Value) (ccs : Array (Option Value)) (file : Str) (tf : Tok), K.lookup cda = some ⟨ccl, cdd, .fields vs, ccs⟩ ∧ vs[2]? = some (.str file tf) ∧ ((P.main.file : Str) == file) = true ∧ SupEv p0 p1 p2 p3
  up : PySem.W.ks_superIn K C C "__init__" = some (some (.builtin "ValueError.__init__"))
  me : PySem.W.mroIn K C (.ref C) = some true
  ve : PySem.W.subIn K (.ref C) (.type "ValueError") = some true
  op : PySem.W.nsIn K cStatics "thirdparty.any" = some none
  tp : (P.main.scope.names.lookup ("super" : Str)).isSome = false
section
variable {P : Program} {w : World} {A : Around} {R : Result → Shared → Prop} {s : Shared} {K : PySem.W.Frag} {C fI : Addr}
theorem sup_init (T : SupC P K C fI) {x t0 : Addr} {mg mb : Str → Option Value} (X : K.In s.heap) (hlim : s.heap.NoLimit) (hg : s.heap.Ns mainGlobals mg) (hms : mg "super" = none) (hb : s.heap.Ns builtinsNs mb) (hbs : mb "super" = some (.type "super"))
    (hx : s.heap.get? x = some (PySem.HandSPX.excO C t0)) (hroom : A.depth < recursionLimit)
    (hq : ∀ h' tk t1, (∀ b o, b ≠ x → s.heap.get? b = some o → h'.get? b = some o) → h'.get? x = some (PySem.HandSPX.excO C t1) → R (.ok (.ret .none)) { s with heap := h', toks := tk }) :
    codeAny (model P w) A (.call (.ref fI) ⟨[.ref x], []⟩) R s := by
  obtain ⟨oc, od, kV, doc, pm, an, cda, ct, osl, cc, q, p, p0, p1, p2, p3, p4, ho, hcd, ⟨cl, cld, csl, hcell⟩, ccl, cdd, vs, ccs, file, tf, hcode, hvs, hfile, hev⟩ := T.fn
  obtain ⟨nm, q', N, bs, bm, sn, sub, ab, col, dd, k0, k1, k2, k3, k5, hC, hbm⟩ := T.x.cls
  have hcl : PySem.W.clsIn K C = some { name := nm, bases := bs, mro := .ref C :: bm, ns := N, qualname := q', hasDict := true, slotNames := sn, subclasses := sub, abstract := ab, collection := col, hasDel := false } := by
    unfold PySem.W.clsIn
    rw [hC] <;> rfl
  refine ks_codeAny_call_defAt (binds := [("self", .ref x)]) hroom (X _ _ ho) rfl hlim (PySem.W.codeRec_of X hcd) rfl (BindsTo.of_eq rfl) (show ∀ x ∈ siS.names, x.2 ≠ NameKind.cell by decide) (fun y hy => ?_) (fun h₁ hns hk₁ => ?_)
  · simp only [List.mem_cons, List.not_mem_nil, or_false] at hy
    subst hy
    rfl
  have X1 : K.In h₁ := X.keeps hk₁
  have hx1 := hk₁ _ _ hx
  have hC1 := X1 _ _ hC
  obtain ⟨hp, g, d, tk, os⟩ := s
  obtain ⟨pl, he⟩ := hev q hp.objs.size fI cc (.ref cda)
  refine ks_wpAt_execs_cons (ks_wpAt_Expr_any (ks_wpAt_MethodCall (pl := pl) ?_ he))
  refine ks_wpAt_super_base rfl rfl rfl rfl (X1 _ _ ho) rfl rfl rfl (X1 _ _ hcode) rfl hvs hfile T.tp ?_
  refine PySem.W.ks_loadName_global rfl rfl (loadGlobal_builtin (hg.keeps hk₁) hms (hb.keeps hk₁) hbs ⟨rfl, ?_⟩)
  refine wpAny_loadName_free rfl rfl rfl ⟨_, X1 _ _ hcell, rfl⟩ ?_
  refine wpAny_loadName_local (v := .ref x) rfl rfl hns rfl ?_
  refine ks_wpAny_isType_cls hC1 rfl ⟨rfl, ?_⟩
  refine ks_wpAny_call_super hC1 rfl hx1 rfl (fun c e => by cases e) (PySem.W.looks_mroIn X1 T.me) (fun h2 hso k2 => ?_)
  have X2 : K.In h2 := X1.keeps k2
  have hx2 := k2 _ _ hx1
  have I2 : PySem.W.InstAt h2 x (PySem.HandSPX.excO C t0) C none := ⟨hx2, rfl, rfl, trivial⟩
  have hup : PySem.W.alongIn K "__init__" (((Value.ref C :: bm).dropWhile (· != Value.ref C)).drop 1) = some (some (.builtin "ValueError.__init__")) := by
    have e := T.up
    unfold PySem.W.ks_superIn at e
    rw [hcl] at e
    exact e
  refine PySem.W.kxs_getMethod PySem.W.kxs_ValueError hso (PySem.W.looks_opaque X2 T.op) (l₀ := .ref C :: bm) ?_ rfl X2 hup (I2.type.andThen (PySem.W.looks_subIn X2 T.ve)) (PySem.W.ks_ne X2 I2 hcl) (by decide) ?_
  · exact fun A Q E s k q => wpAny_bind (PySem.W.looks_clsIn X2 hcl A _ E s k (wpAny_pure q))
  have hu : (h2.push (PySem.W.kxs_mw "ValueError.__init__" x)).get? h2.objs.size = some (PySem.W.kxs_mw "ValueError.__init__" x) := Heap.get?_push_at rfl rfl
  have k3 : ∀ b o, h2.get? b = some o → (h2.push (PySem.W.kxs_mw "ValueError.__init__" x)).get? b = some o := fun b o e => Heap.get?_push_of_some _ e
  refine PySem.W.kxs_callWith (i := "ValueError.__init__") (x := x) rfl (PyProof.Rows.evalArgs_empty ⟨hu, ?_⟩)
  have FB := PySem.F.excBase_ValueError
  have hC3 := k3 _ _ (X2 _ _ hC)
  have hx3 := k3 _ _ hx2
  refine wpAny_call (codeAny_of_tree ?_)
  show wpAny _ _ (callAny (.ref h2.objs.size) ⟨[], []⟩) _ _ _
  unfold callAny
  refine wpAny_bind (wpAny_load hu ?_)
  show wpAny _ _ (if (Value.type "method-wrapper" == Value.type "method" || Value.type "method-wrapper" == Value.type "builtin_function_or_method" || Value.type "method-wrapper" == Value.type "method-wrapper") = true then
    (if (Value.type "method-wrapper" != Value.type "method") = true then (do checkBoundCall "ValueError.__init__" ⟨[.ref x], []⟩; again (.builtin "ValueError.__init__" ⟨[.ref x], []⟩)) else again (.call (.builtin "ValueError.__init__") ⟨[.ref x], []⟩)) else _) _ _ _
  rw [if_pos (by decide), if_pos (by decide)]
  refine wpAny_bind (PySem.W.check_bound_init FB.toExcCallFacts hC3 hx3 rfl (wpAny_pure ⟨PySem.plainId_quiet FB.init.plain _, codeAny_builtin FB.initEntry ?_⟩))
  refine PySem.W.exc_init_tree (cls := .ref C) (t0 := t0) (dv := none) (c2 := .none) (c3 := .none) (b4 := .bool false) hx3 (by rw [sizeLine_eq]; decide) fun h4 k4 hx4 _ => ?_
  show PySem.wpAt _ _ _ (execs [] _) _ _ _
  exact PySem.wpAt_of_wpAny (wpAny_execs_nil (hq h4 _ _ (fun b o nb e => k4 b o nb (k3 _ _ (k2 _ _ (hk₁ _ _ e)))) hx4))
theorem sup_made (T : SupC P K C fI) {mg mb : Str → Option Value} (X : K.In s.heap) (hlim : s.heap.NoLimit) (hg : s.heap.Ns mainGlobals mg) (hms : mg "super" = none) (hb : s.heap.Ns builtinsNs mb) (hbs : mb "super" = some (.type "super")) (hroom : A.depth + 1 < recursionLimit)
    (hq : ∀ h' tk e t1, (∀ b o, s.heap.get? b = some o → h'.get? b = some o) → s.heap.objs.size ≤ e → h'.get? e = some (PySem.HandSPX.excO C t1) → R (.ok (.ret (.ref e))) { s with heap := h', toks := tk }) :
    codeAny (model P w) A (.call (.ref C) ⟨[], []⟩) R s := by
  obtain ⟨nm, q', N, bs, bm, sn, sub, ab, col, dd, k0, k1, k2, k3, k5, hC, hbm⟩ := T.x.cls
  obtain ⟨hp, g, dr, tk, os⟩ := s
  have k : ∀ b o, hp.get? b = some o → ((hp.push (PySem.W.kdv_tup [])).push (PySem.HandSPX.excO C hp.objs.size)).get? b = some o := fun b o e => Heap.get?_push_of_some _ (Heap.get?_push_of_some _ e)
  have hget : ((hp.push (PySem.W.kdv_tup [])).push (PySem.HandSPX.excO C hp.objs.size)).get? (hp.objs.size + 1) = some (PySem.HandSPX.excO C hp.objs.size) := by heap_get
  refine PySem.HandSPX.call_own PySem.F.excBase_ValueError (fun Y => PySem.HandSPX.refsVE_contains Y bm hbm) (X _ _ hC) (PySem.W.looks_findIn X T.iC) (fun self => PySem.W.bind_fn X self T.tC) (by rw [sizeLine_eq]; decide) ?_
  refine sup_init (s := ⟨(hp.push (PySem.W.kdv_tup [])).push (PySem.HandSPX.excO C hp.objs.size), g, dr, tk, os⟩) T (X.keeps k) (hlim.keeps k) (hg.keeps k) hms (hb.keeps k) hbs hget ?_ fun h' tk' t1 k' hx => ?_
  · show A.depth + 1 < recursionLimit
    exact hroom
  · refine ⟨rfl, hq h' tk' (hp.objs.size + 1) t1 (fun b o e => k' b o ?_ (k b o e)) (Nat.le_succ _) hx⟩
    exact Nat.ne_of_lt (Nat.lt_succ_of_lt (Heap.lt_size e))
end
end Fv
namespace Fv
open PySem PySem.Spec PyProof.Rows L2
/-- C(), C such a class: all that was tracked stands, and no dict is made -/
theorem pmk_sup {X : Cx} {C fI : Addr} {x : Str} {p pos : Pos} (T : SupC X.prog X.K C fI) (hr : Room 1 X.A) (hg : Gl X x) (hm : X.mg x = some (.ref C)) (hs : X.mg "super" = none) (hdb : (x == ("__debug__" : Str)) = false := by decide) :
    PMk X (.Call (.Name x p) [] [] pos) (fun _ H Q => Q (.ref C) none H) := by
  intro pins s σ H Q I h
  refine wpAny_Call_Name_kw (ld_glob I hg hm ?_ hdb)
  refine PySem.W.callWith_K0 I.kIn T.x.kC ?_
  obtain ⟨mb, hb1, hb2⟩ := I.mod.blt
  have hlim := I.nolimit
  have hgl : s.heap.Ns mainGlobals X.mg := I.mod.glob.keeps I.bk
  have hbl : s.heap.Ns builtinsNs mb := hb1.keeps I.bk
  obtain ⟨hp, g, d, t, os⟩ := s
  refine wpAny_call (sup_made T I.kIn hlim hgl hs hbl ((hb2 "super" (by decide)).trans (by first | rfl | decide +kernel | kernel_rfl)) (by have := hr.dp; omega) fun h' tk' e t1 k ge hx => ?_)
  obtain ⟨G', g1, g2⟩ := restrict h' fun b => decide (b ≠ e)
  have gk : ∀ b, b ≠ e → G'.get? b = h'.get? b := fun b hb => g1 b (decide_eq_true hb)
  have g0 : G'.get? e = none := g2 e (by simp)
  have old : ∀ b o, hp.get? b = some o → G'.get? b = some o := fun b o q => (gk b (Nat.ne_of_lt (Nat.lt_of_lt_of_le (Heap.lt_size q) ge))).trans (k b o q)
  have J : Inv X pins σ H ⟨G', g, d, tk', os⟩ := I.kept (t' := tk') old
  refine ⟨e, _, _, ⟨G', g, d, tk', os⟩, H, .ref C, none, rfl, J, fun b o q => ?_, g0, hx, ⟨rfl, rfl⟩, rfl, rfl, I.hok.fresh ge, rfl, I.bare, raises_own T.x.exC T.x.tyC, h⟩
  by_cases hb : b = e
  · have q' : G'.get? b = some o := q
    rw [hb, g0] at q'
    cases q'
  · exact (gk b hb).symm.trans q
end Fv
set_option maxRecDepth 100000
set_option maxHeartbeats 1000000
namespace Fv
open PySem PySem.Spec PyProof.Rows L2
/-! sorted(t), t a tuple of whole numbers -/
def rSortT (K : PySem.W.Frag) : List V → Hp → VK → Prop := fun vs H Q => ∃ (a : Addr) (ns : List Int), vs = [V.ref a] ∧ SqT K H a (ns.map V.int) ∧ ns.length < 64 ∧
  ∀ (zs : List Int) (p : Addr), zs.Perm ns → zs.Pairwise (· ≤ ·) → H p = none → Q (.ref p) (upd H p (.lst (zs.map V.int)))
theorem cr_sortT {X : Cx} {K : PySem.W.Frag} (e : X.K = K) : CallR X (.builtin "sorted") (rSortT K) := by
  subst e
  intro pins s σ H vs us Q I r h
  obtain ⟨a, ns, rfl, hs, h64, q⟩ := h
  obtain ⟨its, rv, pt, hz⟩ := I.tuple hs
  rw [Vals.ref1 r]
  have hi := rv.ints
  have hl : its.length = ns.length := hi.length
  obtain ⟨o, ho, hc, n, hd⟩ := id pt
  refine Calls.call_function_entry kind_sorted plain_sorted entry_sorted (args_sorted1 _) ?_
  unfold Builtin.«sorted»
  refine wpAny_bind (m := checkCount "sorted" 1 1 _) (wpAny_pure (wpAny_bind (wpAny_collect_seq a (.inr rfl) ho hc hd (fun h' k => wpAny_bind (wpAny_newList ?_)) ?_)))
  · have hoL : (h'.push (seqObj "list" its.toArray 0)).get? h'.objs.size = some (seqObj "list" its.toArray 0) := Heap.get?_push_size _ rfl
    have J : Inv X pins σ H { s with heap := h', toks := s.toks } := I.kept (t' := s.toks) k
    show wpAny _ _ _ _ _ { s with heap := h'.push (seqObj "list" its.toArray 0) }
    refine wpAny_bind (wpAny_holding (wpAny_call_entry slot_list_sort ⟨_, hoL, rfl⟩ entry_list_sort (list_sort_tree hoL hi (by rw [hl]; exact h64) fun out zs a1 a2 a3 => ⟨_, rfl, wpAny_pure ⟨_, rfl, ?_⟩⟩) (args_list_sort _)))
    obtain ⟨ep, he⟩ := sortedHeap_at (vs := its) (out := out) hoL
    have hlen : (zs.map V.int).length ≤ sizeLine := by rw [List.length_map, a2.length_eq]; exact szLe (by omega)
    refine ⟨.ref h'.objs.size, upd H h'.objs.size (.lst (zs.map V.int)), J.laid (t' := s.toks) (fun b u e => ?_) (Nat.le_refl _) ⟨hlen, out.toList, ep, vals_of_ints a1, he⟩, rfl, q zs _ a2 a3 (J.hok.fresh (Nat.le_refl _))⟩
    have hb := Heap.lt_size e
    refine (sortedHeap_old (Nat.ne_of_lt hb) (by rw [size_push']; exact Nat.lt_succ_of_lt hb)).trans ?_
    exact Heap.get?_push_of_some _ e
  · rw [List.size_toArray, hl]
    exact szLe (by omega)
end Fv
/-! trees with a block hung elsewhere, or called anew -/
namespace Fv
def wayN (hs : List Nat) : Nat → Nat → List Nat
  | 0, _ => []
  | n + 1, k => if k = 0 then [] else up hs k :: wayN hs n (up hs k)
def way (hs : List Nat) (k : Nat) : List Nat := wayN hs hs.length k
theorem way_mem (hs : List Nat) (x : Nat) : ∀ n k, x ∈ wayN hs n k ↔ ∃ j, j < n ∧ upN hs j k ≠ 0 ∧ upN hs (j + 1) k = x
  | 0, k => by
    constructor
    · intro h
      cases h
    · rintro ⟨j, h, _⟩
      omega
  | n + 1, k => by
    show x ∈ (if k = 0 then [] else up hs k :: wayN hs n (up hs k)) ↔ _
    by_cases h0 : k = 0
    · rw [if_pos h0]
      constructor
      · intro h
        cases h
      · rintro ⟨j, _, h, _⟩
        rw [h0] at h
        exact (h (upN_zero hs j)).elim
    · rw [if_neg h0, List.mem_cons, way_mem hs x n (up hs k)]
      constructor
      · rintro (rfl | ⟨j, h1, h2, h3⟩)
        · exact ⟨0, by omega, h0, rfl⟩
        · exact ⟨j + 1, by omega, h2, h3⟩
      · rintro ⟨j, h1, h2, h3⟩
        cases j with
        | zero => exact .inl h3.symm
        | succ j => exact .inr ⟨j, by omega, h2, h3⟩
theorem up_get {hs : List Nat} {k : Nat} (h1 : 1 ≤ k) (h2 : k ≤ hs.length) : hs[k - 1]? = some (up hs k) := by
  have h : k - 1 < hs.length := by omega
  rw [List.getElem?_eq_getElem h, up_at (by omega) (List.getElem?_eq_getElem h)]
/-- on the way from p: b is p, or above it -/
theorem on_way {hs : List Nat} (t : IsTree hs) {b p : Nat} (hb : 1 ≤ b) (hp : p ≤ hs.length) (n1 : p ≠ b) (n2 : b ∉ way hs p) : ∀ j, upN hs j p ≠ b := by
  intro j e
  cases j with
  | zero => exact n1 e
  | succ j =>
    have nz : upN hs j p ≠ 0 := fun h => by
      rw [upN_succ, h] at e
      have : up hs 0 = 0 := rfl
      omega
    refine n2 ((way_mem hs b _ _).mpr ⟨j, ?_, nz, e⟩)
    refine Nat.lt_of_not_le fun hle => nz ?_
    exact upN_more (t.comes p hp) hle
/-- block b under p -/
def put (hs : List Nat) (b p : Nat) : List Nat := hs.set (b - 1) p
theorem put_len (hs : List Nat) (b p : Nat) : (put hs b p).length = hs.length := List.length_set
theorem up_put {hs : List Nat} {b p : Nat} (hb : 1 ≤ b) (hb2 : b ≤ hs.length) (k : Nat) : up (put hs b p) k = if k = b then p else up hs k := by
  unfold up put
  by_cases h0 : k = 0
  · rw [if_pos h0, if_neg (by omega), if_pos h0]
  · rw [if_neg h0, if_neg h0, List.getD_eq_getElem?_getD, List.getElem?_set, List.getD_eq_getElem?_getD]
    by_cases h : k = b
    · subst h
      rw [if_pos rfl, if_pos rfl, if_pos (by omega)]
      rfl
    · rw [if_neg (by omega), if_neg h]
theorem upN_put {hs : List Nat} {b p : Nat} (hb : 1 ≤ b) (hb2 : b ≤ hs.length) {k : Nat} : ∀ j, (∀ i, i < j → upN hs i k ≠ b) → upN (put hs b p) j k = upN hs j k
  | 0, _ => rfl
  | j + 1, h => by
    rw [upN_succ, upN_succ, upN_put hb hb2 j fun i hi => h i (by omega), up_put hb hb2, if_neg (h j (by omega))]
theorem put_tree {hs : List Nat} (t : IsTree hs) {b p : Nat} (hb : 1 ≤ b) (hb2 : b ≤ hs.length) (hp : p ≤ hs.length) (n1 : p ≠ b) (n2 : b ∉ way hs p) : IsTree (put hs b p) := by
  have np := on_way t hb hp n1 n2
  have hle : ∀ x ∈ put hs b p, x ≤ (put hs b p).length := fun x hx => by
    rw [put_len]
    rcases List.mem_or_eq_of_mem_set hx with hx | rfl
    · exact t.le x hx
    · exact hp
  have hpz : upN (put hs b p) hs.length p = 0 := by
    rw [upN_put hb hb2 _ fun i _ => np i]
    exact t.comes p hp
  refine ⟨by rw [put_len]; exact t.pos, by rw [put_len]; exact t.most, hle, fun k hk => ?_⟩
  have hk' : k ≤ hs.length := by rwa [put_len] at hk
  have go : ∀ j, upN hs j k = b → upN (put hs b p) (put hs b p).length k = 0 := by
    intro j
    induction j using Nat.strongRecOn with
    | ind j ih =>
      intro hj
      by_cases hx : ∃ i, i < j ∧ upN hs i k = b
      · obtain ⟨i, hi, e⟩ := hx
        exact ih i hi e
      · have e := upN_put (p := p) hb hb2 (k := k) j fun i hi e => hx ⟨i, hi, e⟩
        refine comes_by (j := j + (1 + hs.length)) hle hk ?_
        rw [upN_add, e, hj, upN_add]
        show upN (put hs b p) hs.length (up (put hs b p) b) = 0
        rw [up_put hb hb2, if_pos rfl]
        exact hpz
  by_cases hx : ∃ j, upN hs j k = b
  · obtain ⟨j, e⟩ := hx
    exact go j e
  · refine comes_by (j := hs.length) hle hk ?_
    rw [upN_put hb hb2 _ fun i _ e => hx ⟨i, e⟩]
    exact t.comes k hk'
/-! names -/
def IsOrd (n : Nat) (ms : List Nat) : Prop := ms.Perm (List.range' 1 n)
theorem IsOrd.len {n : Nat} {ms : List Nat} (o : IsOrd n ms) : ms.length = n := by rw [o.length_eq, List.length_range']
theorem IsOrd.mem {n : Nat} {ms : List Nat} (o : IsOrd n ms) {x : Nat} : x ∈ ms ↔ 1 ≤ x ∧ x ≤ n := by
  rw [o.mem_iff, List.mem_range'_1]
  omega
theorem IsOrd.nodup {n : Nat} {ms : List Nat} (o : IsOrd n ms) : ms.Nodup := o.nodup_iff.mpr List.nodup_range'
theorem IsOrd.rg {n k : Nat} {ms : List Nat} (o : IsOrd n ms) (h1 : 1 ≤ k) (h2 : k ≤ n) : 1 ≤ up ms k ∧ up ms k ≤ n := o.mem.mp (List.mem_of_getElem? (up_get h1 (by rw [o.len]; exact h2)))
theorem IsOrd.rg0 {n k : Nat} {ms : List Nat} (o : IsOrd n ms) (h2 : k ≤ n) : up ms k ≤ n := by
  by_cases h : k = 0
  · subst h
    exact Nat.zero_le _
  · exact (o.rg (by omega) h2).2
theorem IsOrd.inj {n k l : Nat} {ms : List Nat} (o : IsOrd n ms) (hk : k ≤ n) (hl : l ≤ n) (e : up ms k = up ms l) : k = l := by
  by_cases hk0 : k = 0
  · subst hk0
    by_cases hl0 : l = 0
    · exact hl0.symm
    · have := (o.rg (k := l) (by omega) hl).1
      rw [← e] at this
      exact absurd this (by show ¬ 1 ≤ 0; omega)
  · by_cases hl0 : l = 0
    · subst hl0
      have := (o.rg (k := k) (by omega) hk).1
      rw [e] at this
      exact absurd this (by show ¬ 1 ≤ 0; omega)
    · have h1 := up_get (hs := ms) (k := k) (by omega) (by rw [o.len]; exact hk)
      have h2 := up_get (hs := ms) (k := l) (by omega) (by rw [o.len]; exact hl)
      rw [e] at h1
      have h3 : k - 1 < ms.length := by rw [o.len]; omega
      have := (List.getElem?_inj h3 o.nodup).mp (h1.trans h2.symm)
      omega
theorem IsOrd.surj {n x : Nat} {ms : List Nat} (o : IsOrd n ms) (h1 : 1 ≤ x) (h2 : x ≤ n) : ∃ k, 1 ≤ k ∧ k ≤ n ∧ up ms k = x := by
  obtain ⟨i, hi, e⟩ := List.getElem_of_mem (o.mem.mpr ⟨h1, h2⟩)
  have := o.len
  exact ⟨i + 1, by omega, by omega, up_at (by omega) (by rw [Nat.add_sub_cancel, List.getElem?_eq_getElem hi, e])⟩
/-- the first i blocks called anew -/
def callN (hs ms : List Nat) : Nat → List Nat
  | 0 => List.replicate hs.length 0
  | i + 1 => (callN hs ms i).set (up ms (i + 1) - 1) (up ms (up hs (i + 1)))
def call2 (hs ms : List Nat) : List Nat := callN hs ms hs.length
theorem callN_len (hs ms : List Nat) : ∀ i, (callN hs ms i).length = hs.length
  | 0 => List.length_replicate
  | i + 1 => by
    show ((callN hs ms i).set _ _).length = _
    rw [List.length_set, callN_len hs ms i]
theorem callN_get {hs ms : List Nat} (o : IsOrd hs.length ms) : ∀ i, i ≤ hs.length → ∀ c, 1 ≤ c → c ≤ i → (callN hs ms i)[up ms c - 1]? = some (up ms (up hs c))
  | 0, _, c, h1, h2 => absurd h2 (by omega)
  | i + 1, hi, c, h1, h2 => by
    show ((callN hs ms i).set (up ms (i + 1) - 1) (up ms (up hs (i + 1))))[up ms c - 1]? = _
    have a := o.rg (k := i + 1) (by omega) hi
    have b := o.rg (k := c) h1 (by omega)
    rw [List.getElem?_set]
    by_cases e : c = i + 1
    · subst e
      rw [if_pos rfl, if_pos (by rw [callN_len]; omega)]
    · have ne : up ms (i + 1) - 1 ≠ up ms c - 1 := fun h => e (o.inj (by omega) hi (by omega))
      rw [if_neg ne]
      exact callN_get o i (by omega) c h1 (by omega)
theorem call2_len (hs ms : List Nat) : (call2 hs ms).length = hs.length := callN_len hs ms _
theorem call2_up {hs ms : List Nat} (o : IsOrd hs.length ms) {c : Nat} (h2 : c ≤ hs.length) : up (call2 hs ms) (up ms c) = up ms (up hs c) := by
  by_cases h0 : c = 0
  · subst h0
    rfl
  · have a := o.rg (k := c) (by omega) h2
    exact up_at (by omega) (callN_get o _ (Nat.le_refl _) c (by omega) h2)
theorem call2_upN {hs ms : List Nat} (t : IsTree hs) (o : IsOrd hs.length ms) {c : Nat} (h2 : c ≤ hs.length) : ∀ j, upN (call2 hs ms) j (up ms c) = up ms (upN hs j c)
  | 0 => rfl
  | j + 1 => by
    rw [upN_succ, upN_succ, call2_upN t o h2 j]
    exact call2_up o (upN_le t.le j c h2)
/-- two lists that tell alike of all blocks -/
theorem same_ups {xs ys : List Nat} (hl : xs.length = ys.length) (h : ∀ k, 1 ≤ k → k ≤ xs.length → up xs k = up ys k) : xs = ys := by
  refine List.ext_getElem? fun i => ?_
  by_cases hi : i < xs.length
  · have a := up_get (hs := xs) (k := i + 1) (by omega) (by omega)
    have b := up_get (hs := ys) (k := i + 1) (by omega) (by omega)
    rw [Nat.add_sub_cancel] at a b
    rw [a, b, h (i + 1) (by omega) (by omega)]
  · rw [List.getElem?_eq_none (by omega), List.getElem?_eq_none (by omega)]
theorem call2_tree {hs ms : List Nat} (t : IsTree hs) (o : IsOrd hs.length ms) : IsTree (call2 hs ms) := by
  refine ⟨by rw [call2_len]; exact t.pos, by rw [call2_len]; exact t.most, fun x hx => ?_, fun k hk => ?_⟩
  · rw [call2_len]
    obtain ⟨i, hi, e⟩ := List.getElem_of_mem hx
    rw [call2_len] at hi
    obtain ⟨c, c1, c2, ec⟩ := o.surj (x := i + 1) (by omega) (by omega)
    have hu := call2_up o c2
    rw [ec] at hu
    have hg := up_get (hs := call2 hs ms) (k := i + 1) (by omega) (by rw [call2_len]; omega)
    rw [Nat.add_sub_cancel, List.getElem?_eq_getElem (by rw [call2_len]; exact hi), hu] at hg
    rw [← e, Option.some.inj hg]
    exact o.rg0 (up_le t.le c)
  · rw [call2_len] at hk ⊢
    by_cases h0 : k = 0
    · subst h0
      exact upN_zero _ _
    · obtain ⟨c, c1, c2, ec⟩ := o.surj (x := k) (by omega) hk
      rw [← ec, call2_upN t o c2, t.comes c c2]
      rfl
/-- called behind moved, and moved behind called -/
theorem call_put {hs ms : List Nat} (o : IsOrd hs.length ms) {b p : Nat} (hb : 1 ≤ b) (hb2 : b ≤ hs.length) (hp : p ≤ hs.length) : call2 (put hs b p) ms = put (call2 hs ms) (up ms b) (up ms p) := by
  have rb := o.rg hb hb2
  have op : IsOrd (put hs b p).length ms := by
    rw [put_len]
    exact o
  refine same_ups (by rw [call2_len, put_len, put_len, call2_len]) fun k h1 h2 => ?_
  rw [call2_len, put_len] at h2
  obtain ⟨c, c1, c2, ec⟩ := o.surj h1 h2
  rw [← ec, call2_up op (by rw [put_len]; exact c2), up_put hb hb2, up_put (by omega) (by rw [call2_len]; omega), call2_up o c2]
  by_cases e : c = b
  · subst e
    rw [if_pos rfl, if_pos rfl]
  · rw [if_neg e, if_neg fun h => e (o.inj c2 hb2 h)]
theorem call_free {hs ms : List Nat} (t : IsTree hs) (o : IsOrd hs.length ms) {b p : Nat} (hb : 1 ≤ b) (hb2 : b ≤ hs.length) (hp : p ≤ hs.length) (n1 : p ≠ b) (n2 : b ∉ way hs p) : up ms p ≠ up ms b ∧ up ms b ∉ way (call2 hs ms) (up ms p) := by
  refine ⟨fun e => n1 (o.inj hp hb2 e), fun h => ?_⟩
  obtain ⟨j, _, _, e⟩ := (way_mem _ _ _ _).mp h
  rw [call2_upN t o hp] at e
  exact on_way t hb hp n1 n2 (j + 1) (o.inj (upN_le t.le _ p hp) hb2 e)
/-- in the order turned about it is the first one again -/
theorem call_back {hs ms ks : List Nat} (t : IsTree hs) (o : IsOrd hs.length ms) (o' : IsOrd hs.length ks) (h : ∀ b, 1 ≤ b → b ≤ hs.length → up ks (up ms b) = b) : call2 (call2 hs ms) ks = hs := by
  have o2 : IsOrd (call2 hs ms).length ks := by
    rw [call2_len]
    exact o'
  refine same_ups (by rw [call2_len, call2_len]) fun k h1 h2 => ?_
  rw [call2_len, call2_len] at h2
  have rk := o.rg h1 h2
  have e := call2_up o2 (c := up ms k) (by rw [call2_len]; exact rk.2)
  rw [h k h1 h2, call2_up o h2] at e
  rw [e]
  by_cases h0 : up hs k = 0
  · rw [h0]
    rfl
  · exact h _ (by omega) (up_le t.le k)
end Fv
set_option maxRecDepth 100000
set_option maxHeartbeats 1000000
namespace Fv
open PySem PySem.Spec L2
section
variable {X : Cx} {K : PySem.W.Frag} {H : Hp} {Q : VK} {σ : L2.St} {a b : Addr} {xs ys : List V} {l m : List Nat}
theorem sl_tupAK (e : X.K = K) : SlR X (rSlA K) := by
  subst e
  exact sl_tupA
theorem op_catAK (e : X.K = K) : OpR X (binaryOp .Add) (rCatA K) := by
  subst e
  exact op_catA
theorem x_slA {lo hi : Option Int} (h : H a = some (.tup xs)) (q : ∀ D H', Same H H' → H' D = some (.tup (cutV xs lo hi)) → Q (.ref D) H') : rSlA K (.ref a) lo hi H Q := by
  refine ⟨a, xs, rfl, .of h, fun hw => ?_, fun _ p hp => q p _ (same_new (Same.refl _) hp) upd_same⟩
  refine q a H (Same.refl _) ?_
  rw [h]
  unfold cutV
  rw [hw.1, hw.2, List.drop_zero, Nat.sub_zero, List.take_length]
theorem x_catA (h1 : H a = some (.tup xs)) (h2 : H b = some (.tup ys)) (hl : xs.length + ys.length ≤ 10000) (q : ∀ D H', Same H H' → H' D = some (.tup (xs ++ ys)) → Q (.ref D) H') : rCatA K (.ref a) (.ref b) H Q := by
  refine ⟨a, b, xs, ys, rfl, rfl, .of h1, .of h2, szLe (by omega), fun e => ?_, fun _ e => ?_, fun _ _ p hp => q p _ (same_new (Same.refl _) hp) upd_same⟩
  · subst e
    exact q b H (Same.refl _) h2
  · subst e
    exact q a H (Same.refl _) (by rw [h1, List.append_nil])
theorem cut_take (xs : List V) (k : Nat) : cutV xs none (some (k : Int)) = xs.take k := by
  unfold cutV
  rw [HT.sIx_none, HT.sIx_nat, List.drop_zero, Nat.sub_zero]
  by_cases h : k ≤ xs.length
  · rw [Nat.min_eq_left h]
  · rw [Nat.min_eq_right (by omega), List.take_length, List.take_of_length_le (by omega)]
theorem cut_drop (xs : List V) (k : Nat) : cutV xs (some (k : Int)) none = xs.drop k := by
  unfold cutV
  rw [HT.sIx_nat, HT.sIx_none]
  by_cases h : k ≤ xs.length
  · rw [Nat.min_eq_left h]
    exact List.take_of_length_le (by rw [List.length_drop]; exact Nat.le_refl _)
  · rw [Nat.min_eq_right (by omega), List.drop_length, List.drop_of_length_le (by omega), List.take_nil]
theorem put_cut {hs : List Nat} {b p : Nat} (h1 : 1 ≤ b) (h2 : b ≤ hs.length) : (nats hs).take (b - 1) ++ [V.int (p : Nat)] ++ (nats hs).drop b = nats (put hs b p) := by
  have e : put hs b p = hs.take (b - 1) ++ p :: hs.drop (b - 1 + 1) := by
    unfold put
    rw [List.set_eq_take_append_cons_drop, if_pos (by omega)]
  rw [e, nats_append, Nat.sub_add_cancel h1, List.append_assoc]
  unfold nats
  rw [List.map_take, List.map_cons, List.map_drop]
  rfl
theorem x_eqLst (h1 : SqL K H a (nats l)) (h2 : SqL K H b (nats m)) (q : Q (.bl (decide (l = m))) H) : rEqD K (.ref a) (.ref b) H Q := by
  refine ⟨.list (dn l), .list (dn m), .lst h1 (dpAll_nats l), .lst h2 (dpAll_nats m), ?_, ?_, ?_⟩
  · have := dn_shaped l
    exact this
  · have := dn_shaped m
    exact this
  · rw [PyData.eqv, dn_eqv]
    exact q
theorem x_inNL {k : Nat} (h : SqL K H a (nats l)) (q : Q (.bl (decide (k ∈ l))) H) : rIn K false (.int k) (.ref a) H Q := by
  refine ⟨a, _, rfl, .inl h, rfl, flat_nats l, ?_⟩
  show Q (.bl (inV (.int k) (nats l))) H
  rw [in_nats]
  exact q
theorem take_snoc {α : Type} {l : List α} {i : Nat} {x : α} (h : l[i]? = some x) : l.take (i + 1) = l.take i ++ [x] := by
  rw [List.take_succ, h]
  rfl
theorem x_star {te : TE} {t : TA} {R : List V → Hp → Prop} (h : te σ H fun x H1 => ∃ p xs, x = V.ref p ∧ (SqT K H1 p xs ∨ SqL K H1 p xs) ∧ t σ H1 fun ys H2 => R (xs ++ ys) H2) : StX.tStar K te t σ H R := h
theorem x_sortT {ns : List Int} (h : SqT K H a (ns.map V.int)) (h64 : ns.length < 64) (q : ∀ (zs : List Int) (p : Addr), zs.Perm ns → zs.Pairwise (· ≤ ·) → H p = none → Q (.ref p) (upd H p (.lst (zs.map V.int)))) : rSortT K [.ref a] H Q := ⟨a, ns, rfl, h, h64, q⟩
/-- an order of all blocks, in order -/
theorem sorted_ord {n : Nat} {ms : List Nat} {zs : List Int} (o : IsOrd n ms) (hp : zs.Perm (ms.map fun (k : Nat) => (k : Int))) (hs : zs.Pairwise (· ≤ ·)) : zs.map V.int = nats (List.range' 1 n) := by
  have e : zs = (List.range' 1 n).map fun (k : Nat) => (k : Int) := by
    refine (hp.trans (o.map _)).eq_of_pairwise (fun a b _ _ h1 h2 => Int.le_antisymm h1 h2) hs ?_
    rw [List.pairwise_map]
    refine (List.pairwise_le_range' (s := 1) (n := n)).imp fun {x y} hxy => ?_
    exact Int.ofNat_le.mpr hxy
  rw [e, List.map_map]
  rfl
theorem nats_ints (l : List Nat) : (l.map fun (k : Nat) => (k : Int)).map V.int = nats l := by
  rw [List.map_map]
  rfl
theorem names_at {ms : List Nat} {k : Nat} (h : k ≤ ms.length) : atI (nats (0 :: ms)) (k : Int) = some (.int (up ms k : Nat)) := by
  refine nats_at ?_
  cases k with
  | zero => rfl
  | succ k => exact up_get (hs := ms) (k := k + 1) (by omega) h
end
theorem below_mem {hs : List Nat} {b p : Nat} (hp : p ≤ hs.length) : p ∈ (List.range' 1 hs.length).filter (fun c => decide (b ∈ way hs c)) ↔ b ∈ way hs p := by
  rw [List.mem_filter, List.mem_range'_1, decide_eq_true_eq]
  constructor
  · exact fun h => h.2
  · intro h
    refine ⟨⟨?_, by omega⟩, h⟩
    refine Nat.one_le_iff_ne_zero.mpr fun e => ?_
    subst e
    obtain ⟨j, _, nz, _⟩ := (way_mem hs b _ _).mp h
    exact nz (upN_zero hs j)
end Fv
set_option maxRecDepth 100000
set_option maxHeartbeats 1000000
namespace PySem
open Sem (wp)
set_option maxHeartbeats 1000000 in
theorem meets_enumerate_new0 {v : Value} {o : Obj} {H : Heap → Prop} (B : Begins v o H) :
    Meets (Builtin.«enumerate.__new__» ⟨[.type "enumerate", v], []⟩) (fun _ R s => H s.heap ∧
      R (.ok (.ret (.ref (s.heap.push o).objs.size))) { s with heap := (s.heap.push o).push { cls := .type "enumerate", data := .fields #[.none, .bool false, .ref s.heap.objs.size, rawInt 0, .none, .none] } }) :=
  .of_wp fun prog w A R s h => by
    obtain ⟨hp, g, d, tk, os⟩ := s; obtain ⟨h1, h⟩ := h
    have hsub := sub_enumerate
    have q1 : ∀ {A' : Around} {E : Value → Shared → Prop} {Q : Value → Shared → Prop}, Q (.ref hp.objs.size) ⟨hp.push o, g, d, tk, os⟩ → wpAny (model prog w) A' (pyIter v) Q E ⟨hp, g, d, tk, os⟩ :=
      fun q => B.iter prog w _ _ ⟨hp, g, d, tk, os⟩ _ h1 q
    wp_walk using q1
    refine wpAny_stack_any fun st => wpAny_pure ?_
    split
    · rename_i c _ _ _ _ _
      cases (c == Value.type "enumerate")
      · wp_walk using q1
        exact ⟨_, rfl, h⟩
      · wp_walk using q1
        exact ⟨_, rfl, h⟩
    · wp_walk using q1
      exact ⟨_, rfl, h⟩
section
variable {prog : Program} {w : World} {A : Around} {E : Value → Shared → Prop} {s : Shared}
theorem enum_begins0 {v : Value} {o : Obj} {H : Heap → Prop} {Q : Value → Shared → Prop} (B : Begins v o H) (h1 : H s.heap)
    (h : ∀ h', IsEnum h' (s.heap.objs.size + 1) s.heap.objs.size 0 .none → h'.get? s.heap.objs.size = some o → h'.objs.size = s.heap.objs.size + 2 →
      (∀ b o, s.heap.get? b = some o → h'.get? b = some o) → Q (.ref (s.heap.objs.size + 1)) { s with heap := h' }) :
    wpAny (model prog w) A (call (.type "enumerate") [v]) Q E s := by
  refine callType_new F.called_enumerate (by decide) (F.typeCall_enumerate_1 _) (F.newCall_enumerate_1 _) (fun obj => F.args_object_init_2 obj _) F.entry_enumerate_new
    (meets_enumerate_new0 B) ⟨h1, ?_⟩
  have hz : (s.heap.push o).objs.size = s.heap.objs.size + 1 := Heap.size_push ..
  show _ ∧ _
  rw [hz]
  have he : IsEnum ((s.heap.push o).push { cls := .type "enumerate", data := .fields #[.none, .bool false, .ref s.heap.objs.size, rawInt 0, .none, .none] }) (s.heap.objs.size + 1) s.heap.objs.size 0 .none := by
    have := Heap.get?_push_size (s.heap.push o) (o := { cls := .type "enumerate", data := .fields #[.none, .bool false, .ref s.heap.objs.size, rawInt 0, .none, .none] }) rfl
    rw [hz] at this; exact this
  refine ⟨⟨_, he, rfl⟩, h _ he (Heap.get?_push_of_some _ (Heap.get?_push_size _ B.free)) (by rw [Heap.size_push, hz]) fun b o x => Heap.get?_push_of_some _ (Heap.get?_push_of_some _ x)⟩
end
end PySem
namespace Fv
open PySem PySem.Spec L2
theorem pi_enumT0 {X : Cx} {K : PySem.W.Frag} {e : Expr} {ta : TA} {p pos tpos : Pos} {elts : List Expr} {kk : Nat} (eK : X.K = K) (hc : X.calm = true) (hg : Gl X "enumerate") (hm : X.mg "enumerate" = none) (ha : PA X [e] ta) (hs : starEach [e] X.env = [(false, eval e X.env)] := by rfl) :
    PI X (.Tuple elts kk tpos) (.Call (.Name "enumerate" p) [e] [] pos) (iEnT K 0 ta) := by
  subst eK
  refine ⟨fun pins s σ H R I h => ?_⟩
  refine PyProof.Rows.Call_ (ld_blt I hg hm (u := .type "enumerate") (by decide +kernel) (PyProof.Rows.callWith_type1 (thn (ha.run pos pins s σ H _ I h) fun us s1 ⟨vs, H1, I1, r1, t, xs, ex, hq, q⟩ => ?_) hs rfl))
  subst ex
  cases r1 with
  | cons r rr =>
    cases rr
    cases r
    obtain ⟨its, rv, p', hz⟩ := I1.tuple hq
    refine enum_begins0 (begins_tuple t its.toArray) (isTuple_of p') fun h' he hit hsz hkp => wpAny_pyIter_enum he ?_
    have I3 : Inv X pins σ H1 { s1 with heap := h' } := I1.kept (t' := s1.toks) hkp
    have ht : t < s1.heap.objs.size := p'.lt
    have hn : ∀ b, s1.heap.objs.size ≤ b → H1 b = none := fun b hb => I1.hok.fresh hb
    refine ⟨s1.heap.objs.size + 1, [s1.heap.objs.size + 1, s1.heap.objs.size], _, _, H1, rfl, I3, turn_enumT 0 t (s1.heap.objs.size + 1) s1.heap.objs.size (Nat.ne_of_lt ht) (Nat.succ_ne_self _) (Nat.ne_of_gt (Nat.lt_succ_of_lt ht)),
      ⟨⟨.none, ?_⟩, ⟨_, hit, rfl, rfl⟩⟩, fun b hb => ?_, q⟩
    · exact he
    · have hle : s1.heap.objs.size ≤ b := by
        rcases List.mem_cons.mp hb with rfl | hb
        · exact Nat.le_succ _
        · rw [List.mem_singleton.mp hb]
          exact Nat.le_refl _
      exact I1.fpOk hle (hn b hle)
theorem pi_enumLK {X : Cx} {K : PySem.W.Frag} {e : Expr} {ta : TA} {p pos tpos : Pos} {elts : List Expr} {kk : Nat} (eK : X.K = K) (hg : Gl X "enumerate") (hm : X.mg "enumerate" = none) (ha : PA X [e] ta) (hs : starEach [e] X.env = [(false, eval e X.env)] := by rfl) :
    PI X (.Tuple elts kk tpos) (.Call (.Name "enumerate" p) [e] [] pos) (iEnum K ta) := by
  subst eK
  exact pi_enum hg hm ha hs
theorem x_enl {K : PySem.W.Frag} {σ : L2.St} {H : Hp} {R : It → Hp → Prop} {ts : TA} (h : ts σ H fun vs H1 => ∃ (t : Addr) (xs : List V), vs = [.ref t] ∧ SqL K H1 t xs ∧ R (Ite K t) H1) : iEnum K ts σ H R := h
theorem x_enl1 {K : PySem.W.Frag} {H : Hp} {a : Addr} {xs : List V} {R : Addr → Prop} (h : SqL K H a xs) (q : R a) : ∃ (t : Addr) (ys : List V), [V.ref a] = [.ref t] ∧ SqL K H t ys ∧ R t := ⟨a, xs, rfl, h, q⟩
theorem lp_enumL {K : PySem.W.Frag} {t : Addr} {xs : List V} {g : TG} {tb : TS} {nx : L2.St → Hp → Prop} {rt : VK} {σ : L2.St} {H : Hp} (Pv : Nat → L2.St → Hp → Prop) (h0 : Pv 0 σ H) (hl : ∀ i σ H, i ≤ xs.length → Pv i σ H → SqL K H t xs)
    (hs : ∀ i x σ H T, xs[i]? = some x → Pv i σ H → H T = none → g (.ref T) σ (upd H T (.tup [.int (i : Nat), x])) fun σ2 H2 => tb { nx := Pv (i + 1), rt := rt, bk := nx, ct := Pv (i + 1) } σ2 H2) (hd : ∀ σ H, Pv xs.length σ H → nx σ H) :
    ∃ W : Nat → Nat → L2.St → Hp → Prop, (∃ m, W 0 m σ H) ∧ ∀ i m σ H, W i m σ H → ((Ite K t).stop i H ∧ nx σ H) ∨ ((Ite K t).go i H ∧ ∃ N : L2.St → Hp → Prop, (∀ σ' H', N σ' H' → ∃ m', m' < m ∧ W (i + 1) m' σ' H') ∧ ∀ x H', (Ite K t).yld i H x H' → g x σ H' fun σ2 H2 => tb { nx := N, rt := rt, bk := nx, ct := N } σ2 H2) := by
  refine ⟨fun i m σ H => m = xs.length - i ∧ i ≤ xs.length ∧ Pv i σ H, ⟨_, rfl, Nat.zero_le _, h0⟩, ?_⟩
  rintro i m σ H ⟨rfl, hi, p⟩
  have q := hl i σ H hi p
  by_cases hlt : i < xs.length
  · refine .inr ⟨⟨xs, xs[i], q, List.getElem?_eq_getElem hlt⟩, Pv (i + 1), fun σ' H' p' => ⟨_, by omega, rfl, hlt, p'⟩, fun x H' y => ?_⟩
    obtain ⟨T, z, rfl, hT, rfl, hz⟩ := y
    exact hs i z σ H T (hz xs q) p hT
  · have e : i = xs.length := by omega
    subst e
    exact .inl ⟨⟨xs, q, Nat.le_refl _⟩, hd σ H p⟩
theorem lc_enumL {K : PySem.W.Frag} {t : Addr} {xs : List V} {g : TG} {tt : TT} {te : TE} {vs : List Nat} {σ : L2.St} {H1 : Hp} {D : Addr} {Qd : Hp → Prop} (Pv : Nat → Hp → Prop) (h0 : Pv 0 (upd H1 D (.lst []))) (hl : ∀ i H, i ≤ xs.length → Pv i H → SqL K H t xs)
    (hs : ∀ i x H T, xs[i]? = some x → Pv i H → H T = none → g (.ref T) (wipe σ vs) (upd H T (.tup [.int (i : Nat), x])) fun σ2 H2 => wipe σ2 vs = wipe σ vs ∧ tt σ2 H2 fun b H3 =>
      if b = true then te σ2 H3 fun y H4 => ∃ acc, H4 D = some (.lst acc) ∧ acc.length < sizeLine ∧ Pv (i + 1) (upd H4 D (.lst (acc ++ [y]))) else Pv (i + 1) H3) (hd : ∀ H, Pv xs.length H → Qd H) :
    ∃ W : Nat → Nat → Hp → Prop, (∃ m, W 0 m (upd H1 D (.lst []))) ∧ ∀ i m H, W i m H → ((Ite K t).stop i H ∧ Qd H) ∨ ((Ite K t).go i H ∧ ∃ Nx : Hp → Prop, (∀ H', Nx H' → ∃ m', m' < m ∧ W (i + 1) m' H') ∧ ∀ x H', (Ite K t).yld i H x H' → g x (wipe σ vs) H' fun σ2 H2 => wipe σ2 vs = wipe σ vs ∧ tt σ2 H2 fun b H3 =>
        if b = true then te σ2 H3 fun y H4 => ∃ acc, H4 D = some (.lst acc) ∧ acc.length < sizeLine ∧ Nx (upd H4 D (.lst (acc ++ [y]))) else Nx H3) := by
  refine ⟨fun i m H => m = xs.length - i ∧ i ≤ xs.length ∧ Pv i H, ⟨_, rfl, Nat.zero_le _, h0⟩, ?_⟩
  rintro i m H ⟨rfl, hi, p⟩
  have q := hl i H hi p
  by_cases hlt : i < xs.length
  · refine .inr ⟨⟨xs, xs[i], q, List.getElem?_eq_getElem hlt⟩, Pv (i + 1), fun H' p' => ⟨_, by omega, rfl, hlt, p'⟩, fun x H' y => ?_⟩
    obtain ⟨T, z, rfl, hT, rfl, hz⟩ := y
    exact hs i z H T (hz xs q) p hT
  · have e : i = xs.length := by omega
    subst e
    exact .inl ⟨⟨xs, q, Nat.le_refl _⟩, hd H p⟩
/-! flags and None -/
def wdV : Option Bool → V
  | none => .non
  | some b => .bl b
def wds (c : List (Option Bool)) : List V := c.map wdV
def isTr : Value → Bool
  | .bool b => b
  | _ => false
theorem isTr_count : ∀ {us : List Value} {c : List (Option Bool)}, Vals (wds c) us → us.countP isTr = c.count (some true)
  | _, [], .nil => rfl
  | _, some b :: c, .cons r t => by
    have ih := isTr_count (c := c) t
    have e : _ = Value.bool b := r
    subst e
    rw [List.countP_cons, List.count_cons, ih]
    cases b <;> rfl
  | _, none :: c, .cons r t => by
    have ih := isTr_count (c := c) t
    have e : _ = Value.none := r
    subst e
    rw [List.countP_cons, List.count_cons, ih]
    rfl
theorem isTr_eq {A : Around} {s : Shared} : ∀ {us : List Value} {c : List (Option Bool)}, Vals (wds c) us → ∀ y ∈ us, SeqAt.EqAt A s y (.bool true) (isTr y)
  | _, [], .nil => fun y hy => by cases hy
  | _, some b :: c, .cons r t => fun y hy => by
    have e : _ = Value.bool b := r
    subst e
    rcases List.mem_cons.mp hy with e | e
    · subst e
      have := SeqAt.EqAt.bool_bool (A := A) (s := s) b true
      cases b <;> exact this
    · exact isTr_eq (c := c) t y e
  | _, none :: c, .cons r t => fun y hy => by
    have e : _ = Value.none := r
    subst e
    rcases List.mem_cons.mp hy with e | e
    · subst e
      exact SeqAt.EqAt.none_bool (A := A) (s := s) true
    · exact isTr_eq (c := c) t y e
def rCntB (K : PySem.W.Frag) : V → List V → Hp → VK → Prop := fun x xs H Q => ∃ (p : Addr) (c : List (Option Bool)), x = .ref p ∧ xs = [.bl true] ∧ SqL K H p (wds c) ∧ Q (.int (c.count (some true) : Nat)) H
theorem mt_lcountB {X : Cx} {K : PySem.W.Frag} (eK : X.K = K) : MtR X "list.count" (rCntB K) := by
  subst eK
  intro pins s σ H x xs v us Q I rx rxs h
  obtain ⟨p, c, rfl, rfl, hs, q⟩ := h
  cases rx
  obtain ⟨u, rfl, ru⟩ := rxs.one
  have eu : u = Value.bool true := ru
  subst eu
  obtain ⟨its, rv, ⟨⟨cls, dd, data, sl⟩, n, ho, hc, hdn, hd⟩, hlen⟩ := I.list hs
  simp only at hc hd
  subst hc hd
  refine call_meets PySem.F.slot_list_count ⟨_, ho, rfl⟩ PySem.F.entry_list_count (PySem.F.args_list_count_2 _ _)
    (SeqAt.list_countAt p its.toArray n dd sl (.bool true) isTr) ⟨ho, fun y hy => isTr_eq rv y (by simpa using hy), ?_⟩
  have ec : its.toArray.toList.countP isTr = c.count (some true) := by
    have e : its.toArray.toList = its := by simp
    rw [e]
    exact isTr_count rv
  refine ⟨.int (c.count (some true) : Nat), H, I.tok _, ⟨s.toks, ?_⟩, q⟩
  show Value.int ((its.toArray.toList.countP isTr : Nat) : Int) s.toks = Value.int ((c.count (some true) : Nat) : Int) s.toks
  rw [ec]
def rIsBk : R2 := fun x y H Q => ∃ (o : Option Bool) (b : Bool), x = wdV o ∧ y = .bl b ∧ Q (.bl (decide (o = some b))) H
def rNotBk : R2 := fun x y H Q => ∃ (o : Option Bool) (b : Bool), x = wdV o ∧ y = .bl b ∧ Q (.bl (!decide (o = some b))) H
theorem op_isBk {X : Cx} : OpR X (compareOp .Is) rIsBk := by
  intro pins s σ H x y v u Q I rx ry h
  obtain ⟨o, b, rfl, rfl, q⟩ := h
  cases (show u = Value.bool b from ry)
  cases o with
  | none =>
    cases (show v = Value.none from rx)
    exact wpAny_is_other rfl (fun z => nomatch z) ⟨.bl false, H, I, rfl, by simpa using q⟩
  | some a =>
    cases (show v = Value.bool a from rx)
    by_cases e : a = b
    · subst e
      exact wpAny_is_self rfl ⟨.bl true, H, I, rfl, by simpa using q⟩
    · exact wpAny_is_other rfl (fun z => e (Value.bool.inj z)) ⟨.bl false, H, I, rfl, by simpa [e] using q⟩
theorem op_notBk {X : Cx} : OpR X (compareOp .IsNot) rNotBk := by
  intro pins s σ H x y v u Q I rx ry h
  obtain ⟨o, b, rfl, rfl, q⟩ := h
  cases (show u = Value.bool b from ry)
  cases o with
  | none =>
    cases (show v = Value.none from rx)
    exact wpAny_isNot_other rfl (fun z => nomatch z) ⟨.bl true, H, I, rfl, by simpa using q⟩
  | some a =>
    cases (show v = Value.bool a from rx)
    by_cases e : a = b
    · subst e
      exact wpAny_isNot_self rfl ⟨.bl false, H, I, rfl, by simpa using q⟩
    · exact wpAny_isNot_other rfl (fun z => e (Value.bool.inj z)) ⟨.bl true, H, I, rfl, by simpa [e] using q⟩
theorem x_isBk {H : Hp} {Q : VK} {o : Option Bool} {b : Bool} (q : Q (.bl (decide (o = some b))) H) : rIsBk (wdV o) (.bl b) H Q := ⟨o, b, rfl, rfl, q⟩
theorem x_notBk {H : Hp} {Q : VK} {o : Option Bool} {b : Bool} (q : Q (.bl (!decide (o = some b))) H) : rNotBk (wdV o) (.bl b) H Q := ⟨o, b, rfl, rfl, q⟩
theorem x_cntB {K : PySem.W.Frag} {H : Hp} {Q : VK} {p : Addr} {c : List (Option Bool)} (h : SqL K H p (wds c)) (q : Q (.int (c.count (some true) : Nat)) H) : rCntB K (.ref p) [.bl true] H Q := ⟨p, c, rfl, rfl, h, q⟩
/-- a place, or None -/
def upV : Option Nat → V
  | none => .non
  | some q => .int (q : Nat)
def upvs (us : List (Option Nat)) : List V := us.map upV
theorem wds_length (c : List (Option Bool)) : (wds c).length = c.length := List.length_map ..
theorem upvs_length (c : List (Option Nat)) : (upvs c).length = c.length := List.length_map ..
theorem wds_get {c : List (Option Bool)} {i : Nat} {o : Option Bool} (h : c[i]? = some o) : (wds c)[i]? = some (wdV o) := by
  unfold wds
  rw [List.getElem?_map, h]
  rfl
theorem upvs_get {c : List (Option Nat)} {i : Nat} {o : Option Nat} (h : c[i]? = some o) : (upvs c)[i]? = some (upV o) := by
  unfold upvs
  rw [List.getElem?_map, h]
  rfl
theorem wds_at {c : List (Option Bool)} {i : Nat} {o : Option Bool} (h : c[i]? = some o) : atI (wds c) (i : Int) = some (wdV o) := atI_nat (wds_get h)
theorem upvs_at {c : List (Option Nat)} {i : Nat} {o : Option Nat} (h : c[i]? = some o) : atI (upvs c) (i : Int) = some (upV o) := atI_nat (upvs_get h)
theorem wds_app (c d : List (Option Bool)) : wds (c ++ d) = wds c ++ wds d := List.map_append ..
theorem upvs_app (c d : List (Option Nat)) : upvs (c ++ d) = upvs c ++ upvs d := List.map_append ..
end Fv
set_option maxRecDepth 100000
set_option maxHeartbeats 1000000
namespace Fv
open PySem PySem.Spec PyProof.Rows L2
/-! x != y by x's own __eq__ -/
structure OwnN (K : PySem.W.Frag) (C f : Addr) : Prop where
  c : ∃ (nm q : Str) (N : Addr) (bs : List Value) (hd : Bool) (sn : List Str) (sub : List Value) (ab : Bool) (col : Option Bool) (dd : Option Addr) (k0 k1 k2 k3 k5 : Option Value) (newId : String),
    K.lookup C = some (excClassObj nm q C N bs [.type "object"] hd sn sub ab col dd k0 k1 k2 k3 k5 newId) ∧ PySem.W.nsOkIn K N = true ∧ PySem.W.nsIn K N "__eq__" = some (some (.ref f)) ∧ PySem.W.nsIn K N "__ne__" = some none
  t : PySem.W.typeIn K (.ref f) = some (.type "function")
theorem ns_some {K : PySem.W.Frag} {h : Heap} {N : Addr} {m : Str → Option Value} {n : Str} {v : Value} (X : K.In h) (G : h.Ns N m) (e : PySem.W.nsIn K N n = some (some v)) : m n = some v := by
  obtain ⟨o, es, ep, ho, hd, _, hf⟩ := G
  unfold PySem.W.nsIn at e
  split at e
  · rename_i c d es' n' sl q
    have z := X _ _ q
    rw [ho] at z
    cases z
    cases hd
    split at e
    · rename_i en he
      cases e
      rw [← hf]
      unfold nsFind findBy
      rw [← Array.find?_toList, he]
      rfl
    · split at e <;> cases e
  · cases e
def rOwnN (C : Addr) (sp : Sp) : R2 := fun x y H Q => ∃ (a b dx dy : Addr) (fs gs : List (Str × V)), x = .ref a ∧ y = .ref b ∧ H a = some (.ins C dx fs) ∧ H b = some (.ins C dy gs) ∧
  sp [.ref a, .ref b] H (fun v H' => ∃ r, v = .bl r ∧ Q (.bl (!r)) H') (fun _ _ _ => False)
theorem op_ownN {X : Cx} {C f : Addr} {fd : FuncData} {ps : List Str} {sp : Sp} {n : Nat} (O : OwnN X.K C f) (F : FnOk X.prog X.w X.K X.mg X.base CX0 n f fd ps sp) (hb : Binds X.K fd ps []) (hr : Room (n + 1) X.A) : OpR X (compareOp .NotEq) (rOwnN C sp) := by
  intro pins s σ H x y v u Q I rx ry h
  obtain ⟨a, b, dx, dy, fs, gs, rfl, rfl, ha, hB, hsp⟩ := h
  cases rx
  cases ry
  obtain ⟨nm, q, N, bs, hd, sn, sub, ab, col, dd, k0, k1, k2, k3, k5, newId, hC, n1, n2, n3⟩ := O.c
  obtain ⟨mA, J, _⟩ := ins_get I.hok ha
  obtain ⟨od, J, _⟩ := J.look
  obtain ⟨mB, J', _⟩ := ins_get I.hok hB
  obtain ⟨od', J', _⟩ := J'.look
  have KI := I.kIn
  have G : s.heap.Ns N (s.heap.nsMap N) := .of_isNs (PySem.W.isNs_of_in KI n1)
  obtain ⟨of, hof, hoc⟩ : ∃ of, s.heap.get? f = some of ∧ of.cls = .type "function" := by
    have e : (X.K.lookup f).map (·.cls) = some (.type "function") := O.t
    cases z : X.K.lookup f with
    | none =>
      rw [z] at e
      cases e
    | some of =>
      rw [z] at e
      exact ⟨of, KI _ _ z, Option.some.inj e⟩
  have W : s.heap.OwnEqNoNe a C f "object" [.type "object"] :=
    ⟨_, of, nm, q, N, bs, hd, sn, sub, ab, col, dd, k0, k1, k2, k3, k5, newId, s.heap.nsMap N, _, J.at_, J.cls, KI _ _ hC, G, ns_some KI G n2, hof, hoc, PySem.F.cmp_object.mro, PySem.F.cmp_object.eq.lookup, PySem.W.ns_none_of KI G n3⟩
  have hu : X.A.units + 1 < cLine := by have := hr.un; omega
  have hI0 := I.env0
  have r2 : Vals [V.ref a, V.ref b] [Value.ref a, Value.ref b] := .cons rfl (.cons rfl .nil)
  have hl : ([Value.ref a, Value.ref b] ++ []).length = ps.length := by rw [← (r2.append .nil).length]; exact F.len _ _ _ _ hsp
  have hbt := hb s [.ref a, .ref b] I.kIn hl
  have call := F.run X.A.in1 X.stack s H ⟨[.ref a, .ref b], []⟩ _ _ _ _ hr.in1 hI0.in1 hbt (r2.append .nil) hsp
  obtain ⟨hp, g, d, t, os⟩ := s
  refine PySem.richCompare_ne_ownEq PySem.F.cmp_object W J'.at_ J'.cls hu (wpAny_call (codeAny_mono call fun r s' hq => ?_))
  cases r with
  | error e => exact hq.elim
  | ok fl =>
    cases fl with
    | ret u =>
      obtain ⟨z, H', I', rz, r, ez, q⟩ := I.after hq
      subst ez
      cases rz
      exact ⟨_, rfl, .bl (!r), H', I', rfl, q⟩
    | next => exact False.elim hq
    | brk => exact False.elim hq
    | cont => exact False.elim hq
/-! t.index(k), t a tuple of whole numbers that holds k -/
def rTix (K : PySem.W.Frag) : V → List V → Hp → VK → Prop := fun x xs H Q => ∃ (p : Addr) (ns : List Int) (k : Int), x = .ref p ∧ xs = [.int k] ∧ SqT K H p (ns.map V.int) ∧ k ∈ ns ∧ Q (.int (ns.idxOf k : Nat)) H
theorem mt_tix {X : Cx} {K : PySem.W.Frag} (e : X.K = K) : MtR X "tuple.index" (rTix K) := by
  subst e
  intro pins s σ H x xs v us Q I rx rs h
  obtain ⟨p, ns, k, rfl, rfl, hq, hk, q⟩ := h
  cases rx
  obtain ⟨u, rfl, t, rfl⟩ := vals1 rs
  obtain ⟨its, r, pl, hz⟩ := I.tuple hq
  exact PySem.SeqAt.tuple_index_ints (isTuple_of pl) r.ints hk ⟨.int _, H, I.tok _, ⟨_, rfl⟩, q⟩
theorem x_tix {K : PySem.W.Frag} {H : Hp} {Q : VK} {p : Addr} {ms : List Nat} {k : Nat} (h : SqT K H p (nats ms)) (hk : k ∈ ms) (q : Q (.int (ms.idxOf k : Nat)) H) : rTix K (.ref p) [.int k] H Q := by
  refine ⟨p, ms.map fun (j : Nat) => (j : Int), k, rfl, rfl, by rw [nats_ints]; exact h, List.mem_map.mpr ⟨k, hk, rfl⟩, ?_⟩
  have e : (ms.map fun (j : Nat) => (j : Int)).idxOf (k : Int) = ms.idxOf k := by
    clear hk q h
    induction ms with
    | nil => rfl
    | cons m ms ih =>
      rw [List.map_cons, List.idxOf_cons, List.idxOf_cons, ih]
      have eb : ((m : Int) == (k : Int)) = (m == k) := by
        rw [Bool.eq_iff_iff, beq_iff_eq, beq_iff_eq]
        omega
      rw [eb]
  rw [e]
  exact q
/-- the order turned about -/
def turned (ms : List Nat) (n : Nat) : List Nat := (List.range' 1 n).map fun k => ms.idxOf k + 1
theorem turned_len (ms : List Nat) (n : Nat) : (turned ms n).length = n := by
  unfold turned
  rw [List.length_map, List.length_range']
theorem turned_up {ms : List Nat} {n k : Nat} (h1 : 1 ≤ k) (h2 : k ≤ n) : up (turned ms n) k = ms.idxOf k + 1 := by
  refine up_at (by omega) ?_
  unfold turned
  rw [List.getElem?_map, List.getElem?_range' (by omega)]
  show some (ms.idxOf (1 + 1 * (k - 1)) + 1) = _
  rw [show 1 + 1 * (k - 1) = k by omega]
theorem idx_up {ms : List Nat} {n b : Nat} (o : IsOrd n ms) (h1 : 1 ≤ b) (h2 : b ≤ n) : ms.idxOf (up ms b) + 1 = b := by
  have hg := up_get (hs := ms) h1 (by rw [o.len]; exact h2)
  obtain ⟨hl, he⟩ := List.getElem?_eq_some_iff.mp hg
  rw [← he, o.nodup.idxOf_getElem _ hl]
  omega
theorem turned_ord {n : Nat} {ms : List Nat} (o : IsOrd n ms) : IsOrd n (turned ms n) := by
  refine (List.perm_ext_iff_of_nodup ?_ List.nodup_range').mpr fun x => ?_
  · unfold turned
    refine List.pairwise_map.mpr ((List.Pairwise.and_mem.mp (show List.Pairwise (· ≠ ·) (List.range' 1 n) from List.nodup_range')).imp fun {a b} hab e => hab.2.2 ?_)
    have ha := hab.1
    have hb := hab.2.1
    have ra := List.mem_range'_1.mp ha
    have rb := List.mem_range'_1.mp hb
    have e2 : ms.idxOf a = ms.idxOf b := by omega
    have ia := List.getElem_idxOf (List.idxOf_lt_length_iff.mpr (o.mem.mpr ⟨by omega, by omega⟩ : a ∈ ms))
    have ib := List.getElem_idxOf (List.idxOf_lt_length_iff.mpr (o.mem.mpr ⟨by omega, by omega⟩ : b ∈ ms))
    rw [← ia, ← ib]
    congr 1
  · unfold turned
    rw [List.mem_map, List.mem_range'_1]
    constructor
    · rintro ⟨a, ha, rfl⟩
      have ra := List.mem_range'_1.mp ha
      have := List.idxOf_lt_length_iff.mpr (o.mem.mpr ⟨by omega, by omega⟩ : a ∈ ms)
      rw [o.len] at this
      omega
    · intro hx
      have r := o.rg (k := x) (by omega) (by omega)
      refine ⟨up ms x, List.mem_range'_1.mpr (by omega), idx_up o (by omega) (by omega)⟩
theorem turned_back {n b : Nat} {ms : List Nat} (o : IsOrd n ms) (h1 : 1 ≤ b) (h2 : b ≤ n) : up (turned ms n) (up ms b) = b := by
  have r := o.rg h1 h2
  rw [turned_up r.1 r.2, idx_up o h1 h2]
end Fv
set_option maxRecDepth 100000
set_option maxHeartbeats 1000000
namespace Fv
open PySem PySem.Spec PyProof.Rows L2
/-! a tuple of which it is known that it has no dict: its methods may be called -/
def FrT (H : Hp) (a : Addr) (xs : List V) : Prop := ∃ o : Obj, H a = some (.frz o (.tup xs)) ∧ o.cls = .type "tuple" ∧ o.dict = none
theorem FrT.sq {K : PySem.W.Frag} {H : Hp} {a : Addr} {xs : List V} (h : FrT H a xs) : SqT K H a xs := by
  obtain ⟨o, e, _, _⟩ := h
  exact .inl (.inr ⟨o, e⟩)
theorem FrT.same {H H' : Hp} {a : Addr} {xs : List V} (s : Same H H') (h : FrT H a xs) : FrT H' a xs := by
  obtain ⟨o, e, c, d⟩ := h
  exact ⟨o, s _ _ e, c, d⟩
theorem FrT.but {H H' : Hp} {p a : Addr} {xs : List V} (s : But p H H') (n : a ≠ p) (h : FrT H a xs) : FrT H' a xs := by
  obtain ⟨o, e, c, d⟩ := h
  exact ⟨o, s _ _ n e, c, d⟩
/-- tuple(l), l a list: a new tuple without a dict -/
def rTupF (K : PySem.W.Frag) : List V → Hp → VK → Prop := fun xs H Q => ∃ p ys, xs = [.ref p] ∧ SqL K H p ys ∧ ∀ l (o : Obj), H l = none → o.cls = .type "tuple" → o.dict = none → Q (.ref l) (upd H l (.frz o (.tup ys)))
theorem call_tupF {X : Cx} {K : PySem.W.Frag} (e : X.K = K) : CallR X (.type "tuple") (rTupF K) := by
  subst e
  intro pins s σ H xs us Q I r h
  obtain ⟨p, ys, rfl, hq, q⟩ := h
  obtain ⟨u, rfl, rx⟩ := vals1 r
  cases rx
  obtain ⟨its, r', pl, hz⟩ := I.list hq
  have hlen := r'.length
  refine call_tuple_list pl.isList (fun h' kp => ?_) (by simp only [List.size_toArray] <;> omega)
  have I1 : Inv X pins σ H { s with heap := h' } := I.kept (t' := s.toks) kp
  have at0 : (h'.push { cls := .type "tuple", data := .seq its.toArray }).get? h'.objs.size = some { cls := .type "tuple", data := .seq its.toArray } := Heap.get?_push_size _ rfl
  have I2 : Inv X pins σ (upd H h'.objs.size (.frz { cls := .type "tuple", data := .seq its.toArray } (.tup ys))) { s with heap := h'.push { cls := .type "tuple", data := .seq its.toArray } } := by
    refine I1.laid (t' := s.toks) (fun b o e => Heap.get?_push_of_some _ e) (Nat.le_refl _) ?_
    exact (show ObjOk X.prog X.w _ _ _ (.frz { cls := .type "tuple", data := .seq its.toArray } (.tup ys)) from ⟨at0, hz, its, r', IsTup.new _ _⟩)
  exact ⟨.ref h'.objs.size, _, I2, rfl, q _ _ (I1.hok.fresh (Nat.le_refl _)) rfl rfl⟩
/-- isinstance(t, tuple), t a tuple of any kind -/
def rIsT (K : PySem.W.Frag) : List V → Hp → VK → Prop := fun xs H Q => ∃ a ys, xs = [.ref a, .ty "tuple"] ∧ SqT K H a ys ∧ Q (.bl true) H
theorem call_isT {X : Cx} {K : PySem.W.Frag} (e : X.K = K) : CallR X (.builtin "isinstance") (rIsT K) := by
  subst e
  intro pins s σ H xs us Q I r h
  obtain ⟨a, ys, rfl, hq, q⟩ := h
  obtain ⟨u1, u2, rfl, r1, r2⟩ := vals2 r
  cases r1
  cases r2
  obtain ⟨its, r', ⟨o, h1, h2, _⟩, hz⟩ := I.tuple hq
  exact PySem.W.kia_one (K := X.K) (t := .type "tuple") PySem.W.kitx_tuple I.kIn ⟨o, h1, h2⟩ (if_pos (beq_self_eq_true _) : PySem.W.kitOne X.K (.type "tuple") (.type "tuple") = some true) (fun z => nomatch z) fun tk => ⟨.bl true, H, I.tok tk, rfl, q⟩
section
variable {X : Cx} {K : PySem.W.Frag} {o e : Expr} {es : List Expr} {to : TE} {t : TA} {name : Str} {apos cpos : Pos} {id : String} {r : V → List V → Hp → VK → Prop}
/-- t.m(..), t such a tuple -/
def tBT (r : V → List V → Hp → VK → Prop) (to : TE) (t : TA) : TE := fun σ H Q => to σ H fun x H1 => ∃ a ys, x = .ref a ∧ FrT H1 a ys ∧ t σ H1 fun xs H2 => r x xs H2 Q
theorem pe_bmT (slot : Slot "tuple" name id) (hty : typeOf (.builtin id) = pure (.type "method_descriptor")) (hm : MtR X id r) (ho : PE X o to) (ha : PA X (e :: es) t)
    (hbase : attributeBase o name X.env (eval o X.env) = eval o X.env := by rfl)
    (hfew : ((backTo cpos (starEach (e :: es) X.env)).all (fun x => !x.1) && (backToKw cpos (keywordEach [] X.env)).all (fun x => x.1.isSome) && decide ((e :: es).length + ([] : List Keyword).length + (if ([] : List Keyword).isEmpty then 0 else 1) < 30)) = true := by rfl)
    (hline : (apos.endLine == cpos.line) = true := by rfl) (hs : starEach (e :: es) X.env = (false, eval e X.env) :: starEach es X.env := by rfl) (hplain : (backTo cpos (starEach es X.env)).any (·.1) = false := by rfl) :
    PE X (.Call (.Attribute o name apos) (e :: es) [] cpos) (tBT r to t) := by
  refine ⟨fun pins s σ H Q I h => ?_⟩
  refine wpAny_Call_method_late hbase hfew hline rfl (thn (ho.run pins s σ H _ I h) fun v s1 ⟨x, H1, I1, r1, a, ys, ex, hf, q1⟩ => ?_)
  subst ex
  obtain rfl : v = Value.ref a := r1
  obtain ⟨ob, eo, hc, hd⟩ := hf
  obtain ⟨h0, _⟩ := (show ObjOk X.prog X.w H1 s1.heap a (.frz ob (.tup ys)) from I1.hok a _ eo)
  refine ⟨"tuple", id, PySem.F.plainAttrs_tuple, slot, hty, ⟨ob, h0, hc⟩, fun b eb => ?_, ?_⟩
  · cases eb
    exact ⟨ob, h0, hd⟩
  · have hA := ha.run cpos pins s1 σ H1 _ I1 q1
    rw [hs] at hA ⊢
    have hpl : ((false, eval e X.env) :: backTo cpos (starEach es X.env)).any (·.1) = false := by
      show (false || (backTo cpos (starEach es X.env)).any (·.1)) = false
      rw [hplain] <;> rfl
    refine Calls.callWith_builtin hpl (Calls.evalArgs_plain (thn hA fun us s2 ⟨vs, H2, I2, r2, q2⟩ => ?_))
    exact hm pins s2 σ H2 (.ref a) vs _ us Q I2 rfl r2 q2
end
theorem x_catA2 {K : PySem.W.Frag} {H : Hp} {Q : VK} {a b : Addr} {xs ys : List V} (h1 : SqT K H a xs) (h2 : SqT K H b ys) (nx : xs ≠ []) (ny : ys ≠ []) (hl : xs.length + ys.length ≤ 10000) (q : ∀ p, H p = none → Q (.ref p) (upd H p (.tup (xs ++ ys)))) : rCatA K (.ref a) (.ref b) H Q :=
  ⟨a, b, xs, ys, rfl, rfl, h1, h2, szLe (by omega), fun e => (nx e).elim, fun _ e => (ny e).elim, fun _ _ => q⟩
theorem nats_ne {l : List Nat} (h : 1 ≤ l.length) : nats l ≠ [] := fun e => by
  have := congrArg List.length e
  rw [nats_length] at this
  exact absurd this (by show ¬ l.length = 0; omega)
end Fv
/-! what places tell of trees -/
namespace Fv
theorem wayN_eq (hs : List Nat) : ∀ m k n, (∀ j, j < n → upN hs j k ≠ 0) → upN hs n k = 0 → n ≤ m → wayN hs m k = (List.range n).map fun i => upN hs (i + 1) k
  | m, k, 0, _, h, _ => by
    have e : k = 0 := h
    subst e
    cases m with
    | zero => rfl
    | succ m => exact if_pos rfl
  | 0, k, n + 1, _, _, h => absurd h (by omega)
  | m + 1, k, n + 1, hn, h, hm => by
    have k0 : k ≠ 0 := hn 0 (by omega)
    show (if k = 0 then [] else up hs k :: wayN hs m (up hs k)) = _
    rw [if_neg k0, wayN_eq hs m (up hs k) n (fun j hj => hn (j + 1) (by omega)) h (by omega), List.range_succ_eq_map, List.map_cons, List.map_map]
    rfl
theorem wayN_snoc (hs : List Nat) : ∀ i k, wayN hs (i + 1) k = wayN hs i k ++ if upN hs i k = 0 then [] else [upN hs (i + 1) k]
  | 0, k => by
    show (if k = 0 then [] else [up hs k]) = [] ++ _
    rfl
  | i + 1, k => by
    show (if k = 0 then [] else up hs k :: wayN hs (i + 1) (up hs k)) = (if k = 0 then [] else up hs k :: wayN hs i (up hs k)) ++ _
    by_cases h : k = 0
    · subst h
      rw [if_pos rfl, if_pos rfl, upN_zero, if_pos rfl]
      rfl
    · rw [if_neg h, if_neg h, wayN_snoc hs i (up hs k)]
      rfl
theorem range_snoc (n : Nat) : List.range' 1 (n + 1) = List.range' 1 n ++ [1 + n] := by
  rw [List.range'_concat, Nat.one_mul]
/-- the blocks that hang just under a place, and those beneath it -/
def kids (hs : List Nat) (p : Nat) : List Nat := (List.range' 1 hs.length).filter fun b => decide (up hs b = p)
def below (hs : List Nat) (p : Nat) : List Nat := (List.range' 1 hs.length).filter fun b => decide (p ∈ way hs b)
theorem filter_snoc (g : Nat → Bool) (n : Nat) : (List.range' 1 (n + 1)).filter g = (List.range' 1 n).filter g ++ if g (n + 1) = true then [n + 1] else [] := by
  rw [range_snoc, List.filter_append, Nat.add_comm 1 n]
  congr 1
  by_cases h : g (n + 1) = true
  · rw [if_pos h, List.filter_cons_of_pos h]
    rfl
  · rw [if_neg h, List.filter_cons_of_neg h]
    rfl
theorem filter_len (g : Nat → Bool) (n : Nat) : ((List.range' 1 n).filter g).length ≤ n := by
  refine Nat.le_trans (List.length_filter_le _ _) ?_
  rw [List.length_range']
  exact Nat.le_refl _
theorem wayN_len (hs : List Nat) : ∀ n k, (wayN hs n k).length ≤ n
  | 0, _ => Nat.le_refl _
  | n + 1, k => by
    show (if k = 0 then [] else up hs k :: wayN hs n (up hs k)).length ≤ n + 1
    split
    · exact Nat.zero_le _
    · exact Nat.succ_le_succ (wayN_len hs n _)
theorem wayN_nil (hs : List Nat) : ∀ n, wayN hs n 0 = []
  | 0 => rfl
  | n + 1 => if_pos rfl
theorem wayN_cons (hs : List Nat) (n : Nat) {k : Nat} (h : k ≠ 0) : wayN hs (n + 1) k = up hs k :: wayN hs n (up hs k) := if_neg h
theorem wayN_take (hs : List Nat) : ∀ m j k, (wayN hs m k).take j = wayN hs (min j m) k
  | m, 0, k => by
    rw [Nat.zero_min]
    exact List.take_zero
  | 0, j + 1, k => by
    rw [Nat.min_zero]
    rfl
  | m + 1, j + 1, k => by
    rw [show min (j + 1) (m + 1) = min j m + 1 by omega]
    by_cases h : k = 0
    · rw [h, wayN_nil, wayN_nil, List.take_nil]
    · rw [wayN_cons hs m h, wayN_cons hs _ h, List.take_succ_cons, wayN_take hs m j]
theorem wayN_stop {hs : List Nat} : ∀ {n k m}, upN hs n k = 0 → n ≤ m → wayN hs m k = wayN hs n k
  | 0, k, m, h, _ => by
    have e : k = 0 := h
    rw [e, wayN_nil, wayN_nil]
  | n + 1, k, 0, _, h2 => absurd h2 (by omega)
  | n + 1, k, m + 1, h, h2 => by
    by_cases h0 : k = 0
    · rw [h0, wayN_nil, wayN_nil]
    · rw [wayN_cons hs m h0, wayN_cons hs n h0, wayN_stop (n := n) (k := up hs k) (m := m) h (by omega)]
theorem way_take {hs : List Nat} (t : IsTree hs) {k : Nat} (hk : k ≤ hs.length) (d : Nat) : (way hs k).take d = wayN hs d k := by
  unfold way
  rw [wayN_take]
  by_cases h : d ≤ hs.length
  · rw [Nat.min_eq_left h]
  · rw [Nat.min_eq_right (by omega), wayN_stop (n := hs.length) (m := d) (t.comes k hk) (by omega)]
theorem wayN_le {hs : List Nat} (h : ∀ x ∈ hs, x ≤ hs.length) {n k x : Nat} (hx : x ∈ wayN hs n k) : x ≤ hs.length := by
  obtain ⟨j, _, nz, e⟩ := (way_mem hs x n k).mp hx
  rw [← e, upN_succ]
  exact up_le h _
/-- no place leads to itself -/
theorem no_ring {hs : List Nat} (t : IsTree hs) {k m : Nat} (hk : k ≤ hs.length) (h0 : k ≠ 0) (hm : 1 ≤ m) : upN hs m k ≠ k := by
  intro e
  have go : ∀ i, upN hs (i * m) k = k := fun i => by
    induction i with
    | zero =>
      rw [Nat.zero_mul]
      rfl
    | succ i ih => rw [Nat.add_mul, Nat.one_mul, upN_add, ih, e]
  have h1 := go hs.length
  have h2 : upN hs (hs.length * m) k = 0 := upN_more (t.comes k hk) (Nat.le_mul_of_pos_right _ hm)
  rw [h2] at h1
  exact h0 h1.symm
theorem wayN_at {hs : List Nat} : ∀ {n k i x}, (wayN hs n k)[i]? = some x → i < n ∧ upN hs i k ≠ 0 ∧ upN hs (i + 1) k = x
  | 0, _, _, _, h => by cases h
  | n + 1, k, i, x, h => by
    by_cases h0 : k = 0
    · rw [h0, wayN_nil] at h
      cases h
    · rw [wayN_cons hs n h0] at h
      cases i with
      | zero => exact ⟨by omega, h0, Option.some.inj h⟩
      | succ i =>
        rw [List.getElem?_cons_succ] at h
        obtain ⟨a, b, c⟩ := wayN_at h
        exact ⟨by omega, b, c⟩
theorem wayN_nodup {hs : List Nat} (t : IsTree hs) {n k : Nat} (hk : k ≤ hs.length) : (wayN hs n k).Nodup := by
  have key : ∀ (i j x : Nat), i < j → (wayN hs n k)[i]? = some x → (wayN hs n k)[j]? = some x → False := fun i j x hij h1 h2 => by
    obtain ⟨_, _, e1⟩ := wayN_at h1
    obtain ⟨_, n2, e2⟩ := wayN_at h2
    have nz : x ≠ 0 := fun e => by
      rw [e] at e1
      exact n2 (upN_more e1 (by omega))
    have hx : x ≤ hs.length := by
      rw [← e1]
      exact upN_le t.le _ k hk
    refine no_ring t (m := j - i) hx nz (by omega) ?_
    rw [← e1, ← upN_add, show i + 1 + (j - i) = j + 1 by omega, e1, e2]
  refine List.pairwise_iff_getElem.mpr fun i j hi hj hij e => ?_
  refine key i j _ hij (List.getElem?_eq_getElem hi) ?_
  rw [List.getElem?_eq_getElem hj, e]
/-! levels beneath a place -/
def lev (hs : List Nat) (p : Nat) : Nat → List Nat
  | 0 => [p]
  | i + 1 => (lev hs p i).flatMap (kids hs)
def withUp (hs : List Nat) (bs : List Nat) : List (Nat × Nat) := bs.map fun b => (b, up hs b)
def acc (hs : List Nat) (p : Nat) : Nat → List Nat
  | 0 => []
  | i + 1 => acc hs p i ++ lev hs p (i + 1)
theorem kids_mem {hs : List Nat} {b p : Nat} : b ∈ kids hs p ↔ 1 ≤ b ∧ b ≤ hs.length ∧ up hs b = p := by
  unfold kids
  rw [List.mem_filter, List.mem_range'_1, decide_eq_true_eq]
  omega
theorem kids_nodup (hs : List Nat) (p : Nat) : (kids hs p).Nodup := List.Pairwise.filter _ List.nodup_range'
theorem lev_mem {hs : List Nat} {p : Nat} (t : IsTree hs) (hp : p ≤ hs.length) : ∀ i b, b ∈ lev hs p i ↔ b ≤ hs.length ∧ upN hs i b = p ∧ ∀ j, j < i → upN hs j b ≠ 0
  | 0, b => by
    show b ∈ [p] ↔ _
    rw [List.mem_singleton]
    constructor
    · rintro rfl
      exact ⟨hp, rfl, fun j h => absurd h (by omega)⟩
    · exact fun h => h.2.1
  | i + 1, b => by
    show b ∈ (lev hs p i).flatMap (kids hs) ↔ _
    rw [List.mem_flatMap]
    constructor
    · rintro ⟨a, ha, hb⟩
      obtain ⟨b1, b2, rfl⟩ := kids_mem.mp hb
      obtain ⟨_, e, nz⟩ := (lev_mem t hp i _).mp ha
      refine ⟨b2, e, fun j hj => ?_⟩
      cases j with
      | zero =>
        show b ≠ 0
        omega
      | succ j => exact nz j (by omega)
    · rintro ⟨h1, h2, h3⟩
      have b0 : b ≠ 0 := h3 0 (by omega)
      exact ⟨up hs b, (lev_mem t hp i _).mpr ⟨up_le t.le b, h2, fun j hj => h3 (j + 1) (by omega)⟩, kids_mem.mpr ⟨by omega, h1, rfl⟩⟩
theorem lev_nodup {hs : List Nat} {p : Nat} : ∀ i, (lev hs p i).Nodup
  | 0 => List.pairwise_singleton _ _
  | i + 1 => by
    show ((lev hs p i).flatMap (kids hs)).Nodup
    refine List.pairwise_flatMap.mpr ⟨fun a _ => kids_nodup hs a, (lev_nodup i).imp fun {a b} hab x hx y hy e => hab ?_⟩
    subst e
    exact (kids_mem.mp hx).2.2.symm.trans (kids_mem.mp hy).2.2
theorem acc_mem {hs : List Nat} {p : Nat} (t : IsTree hs) (hp : p ≤ hs.length) : ∀ d b, b ∈ acc hs p d ↔ b ≤ hs.length ∧ p ∈ wayN hs d b
  | 0, b => by
    show b ∈ [] ↔ _ ∧ p ∈ []
    simp
  | d + 1, b => by
    show b ∈ acc hs p d ++ lev hs p (d + 1) ↔ _
    rw [List.mem_append, acc_mem t hp d, lev_mem t hp, way_mem, way_mem]
    constructor
    · rintro (⟨h1, j, h2, h3, h4⟩ | ⟨h1, h2, h3⟩)
      · exact ⟨h1, j, by omega, h3, h4⟩
      · exact ⟨h1, d, by omega, h3 d (by omega), h2⟩
    · rintro ⟨h1, j, h2, h3, h4⟩
      by_cases e : j < d
      · exact .inl ⟨h1, j, e, h3, h4⟩
      · have e2 : j = d := by omega
        subst e2
        exact .inr ⟨h1, h4, fun i hi z => h3 (upN_more z (by omega))⟩
theorem acc_nodup {hs : List Nat} {p : Nat} (t : IsTree hs) (hp : p ≤ hs.length) : ∀ d, (acc hs p d).Nodup
  | 0 => List.Pairwise.nil
  | d + 1 => by
    show (acc hs p d ++ lev hs p (d + 1)).Nodup
    refine List.nodup_append.mpr ⟨acc_nodup t hp d, lev_nodup _, fun x hx y hy e => ?_⟩
    subst e
    obtain ⟨h1, hw⟩ := (acc_mem t hp d x).mp hx
    obtain ⟨j, h2, h3, h4⟩ := (way_mem _ _ _ _).mp hw
    obtain ⟨_, e, nz⟩ := (lev_mem t hp _ x).mp hy
    have p0 : p ≠ 0 := by
      rw [← h4]
      exact nz (j + 1) (by omega)
    refine no_ring t (m := d - j) hp p0 (by omega) ?_
    have e2 : upN hs (d + 1) x = upN hs (d - j) (upN hs (j + 1) x) := by
      rw [← upN_add, show j + 1 + (d - j) = d + 1 by omega]
    rw [h4, e] at e2
    exact e2.symm
/-- the blocks beneath a place by at most so many steps, and the ties of these -/
def near (hs : List Nat) (d p : Nat) : List Nat := (List.range' 1 hs.length).filter fun b => decide (p ∈ wayN hs d b)
def tiesN (hs : List Nat) (d p : Nat) : List (Nat × Nat) := withUp hs (near hs d p)
theorem near_mem {hs : List Nat} {d p b : Nat} : b ∈ near hs d p ↔ b ≤ hs.length ∧ p ∈ wayN hs d b := by
  unfold near
  rw [List.mem_filter, List.mem_range'_1, decide_eq_true_eq]
  constructor
  · rintro ⟨h1, h2⟩
    exact ⟨by omega, h2⟩
  · rintro ⟨h1, h2⟩
    refine ⟨⟨Nat.one_le_iff_ne_zero.mpr fun e => ?_, by omega⟩, h2⟩
    rw [e, wayN_nil] at h2
    cases h2
theorem acc_perm {hs : List Nat} {p : Nat} (t : IsTree hs) (hp : p ≤ hs.length) (d : Nat) : (acc hs p d).Perm (near hs d p) := by
  refine (List.perm_ext_iff_of_nodup (acc_nodup t hp d) (List.Pairwise.filter _ List.nodup_range')).mpr fun b => ?_
  rw [acc_mem t hp]
  exact near_mem.symm
theorem near_len (hs : List Nat) (d p : Nat) : (near hs d p).length ≤ hs.length := filter_len _ _
theorem acc_len {hs : List Nat} {p : Nat} (t : IsTree hs) (hp : p ≤ hs.length) (d : Nat) : (acc hs p d).length ≤ hs.length := by
  rw [(acc_perm t hp d).length_eq]
  exact near_len hs d p
theorem lev_len {hs : List Nat} {p : Nat} (t : IsTree hs) (hp : p ≤ hs.length) (i : Nat) : (lev hs p i).length ≤ hs.length := by
  cases i with
  | zero =>
    show 1 ≤ _
    exact t.pos
  | succ i =>
    have h := acc_len t hp (i + 1)
    have e : acc hs p (i + 1) = acc hs p i ++ lev hs p (i + 1) := rfl
    rw [e, List.length_append] at h
    omega
theorem next_ties (hs : List Nat) (p i : Nat) : ((lev hs p i).flatMap fun a => (kids hs a).map fun b => (b, a)) = withUp hs (lev hs p (i + 1)) := by
  show _ = ((lev hs p i).flatMap (kids hs)).map _
  rw [List.map_flatMap]
  congr 1
  funext a
  refine List.map_congr_left fun b hb => ?_
  rw [(kids_mem.mp hb).2.2]
/-- pairs in order, each first item once -/
def ltPr (x y : Nat × Nat) : Prop := x.1 < y.1 ∨ (x.1 = y.1 ∧ x.2 < y.2)
theorem ties_sorted {hs : List Nat} {p d : Nat} {ys : List (Nat × Nat)} (t : IsTree hs) (hp : p ≤ hs.length) (h1 : ys.Perm (withUp hs (acc hs p d))) (h2 : ys.Pairwise fun x y => ¬ ltPr y x) : ys = tiesN hs d p := by
  refine (h1.trans ((acc_perm t hp d).map _)).eq_of_pairwise (le := fun x y => ¬ ltPr y x) (fun a b _ _ k1 k2 => ?_) h2 ?_
  · unfold ltPr at k1 k2
    refine Prod.ext ?_ ?_ <;> omega
  · show ((near hs d p).map fun b => (b, up hs b)).Pairwise _
    unfold near
    rw [List.pairwise_map]
    refine List.Pairwise.filter _ ((List.pairwise_lt_range' (s := 1) (n := hs.length)).imp fun {a b} hab => ?_)
    unfold ltPr
    show ¬ (b < a ∨ _ ∧ _)
    omega
/-! what is told otherwise -/
def telD (hs gs : List Nat) (u d p : Nat) : Bool := decide (wayN hs u p = wayN gs u p) && decide (tiesN hs d p = tiesN gs d p)
def unlikeN (hs gs : List Nat) (u d : Nat) : List Nat := (List.range (hs.length + 1)).filter fun p => !telD hs gs u d p
theorem telD_iff {hs gs : List Nat} {u d p : Nat} : telD hs gs u d p = true ↔ wayN hs u p = wayN gs u p ∧ tiesN hs d p = tiesN gs d p := by
  unfold telD
  rw [Bool.and_eq_true, decide_eq_true_eq, decide_eq_true_eq]
theorem telD_self (hs : List Nat) (u d p : Nat) : telD hs hs u d p = true := telD_iff.mpr ⟨rfl, rfl⟩
theorem telD_comm (hs gs : List Nat) (u d p : Nat) : telD hs gs u d p = telD gs hs u d p := by
  rw [Bool.eq_iff_iff, telD_iff, telD_iff]
  exact ⟨fun h => ⟨h.1.symm, h.2.symm⟩, fun h => ⟨h.1.symm, h.2.symm⟩⟩
theorem unlike_mem {hs gs : List Nat} {u d p : Nat} : p ∈ unlikeN hs gs u d ↔ p ≤ hs.length ∧ telD hs gs u d p = false := by
  unfold unlikeN
  rw [List.mem_filter, List.mem_range, Bool.not_eq_true', Nat.lt_succ_iff]
theorem unlike_len (hs gs : List Nat) (u d : Nat) : (unlikeN hs gs u d).length ≤ hs.length + 1 := by
  refine Nat.le_trans (List.length_filter_le _ _) ?_
  rw [List.length_range]
  exact Nat.le_refl _
theorem unlike_self (hs : List Nat) (u d : Nat) : unlikeN hs hs u d = [] := by
  refine List.filter_eq_nil_iff.mpr fun p _ h => ?_
  rw [telD_self] at h
  cases h
theorem unlike_comm {hs gs : List Nat} (hl : hs.length = gs.length) (u d : Nat) : unlikeN hs gs u d = unlikeN gs hs u d := by
  unfold unlikeN
  rw [hl]
  refine List.filter_congr fun p _ => ?_
  rw [telD_comm]
theorem unlike_sorted (hs gs : List Nat) (u d : Nat) : (unlikeN hs gs u d).Pairwise (· < ·) := List.Pairwise.filter _ List.pairwise_lt_range
theorem ties_mem {hs : List Nat} {d p : Nat} {x : Nat × Nat} : x ∈ tiesN hs d p ↔ x.1 ≤ hs.length ∧ p ∈ wayN hs d x.1 ∧ x.2 = up hs x.1 := by
  unfold tiesN withUp
  rw [List.mem_map]
  constructor
  · rintro ⟨b, hb, rfl⟩
    have := near_mem.mp hb
    exact ⟨this.1, this.2, rfl⟩
  · rintro ⟨h1, h2, h3⟩
    exact ⟨x.1, near_mem.mpr ⟨h1, h2⟩, Prod.ext rfl h3.symm⟩
theorem ties_eq {hs gs : List Nat} {d p : Nat} (hl : hs.length = gs.length) : tiesN hs d p = tiesN gs d p ↔ ∀ b, b ≤ hs.length → (p ∈ wayN hs d b ↔ p ∈ wayN gs d b) ∧ (p ∈ wayN hs d b → up hs b = up gs b) := by
  constructor
  · intro e b hb
    have k1 : p ∈ wayN hs d b → p ∈ wayN gs d b ∧ up hs b = up gs b := fun h => by
      have := (ties_mem (x := (b, up hs b))).mpr ⟨hb, h, rfl⟩
      rw [e] at this
      have := ties_mem.mp this
      exact ⟨this.2.1, this.2.2⟩
    have k2 : p ∈ wayN gs d b → p ∈ wayN hs d b := fun h => by
      have := (ties_mem (hs := gs) (x := (b, up gs b))).mpr ⟨by rw [← hl]; exact hb, h, rfl⟩
      rw [← e] at this
      exact (ties_mem.mp this).2.1
    exact ⟨⟨fun h => (k1 h).1, k2⟩, fun h => (k1 h).2⟩
  · intro h
    have en : near hs d p = near gs d p := by
      unfold near
      rw [← hl]
      refine List.filter_congr fun b hb => ?_
      have := List.mem_range'_1.mp hb
      rw [Bool.eq_iff_iff, decide_eq_true_eq, decide_eq_true_eq]
      exact (h b (by omega)).1
    unfold tiesN withUp
    rw [← en]
    refine List.map_congr_left fun b hb => ?_
    have := near_mem.mp hb
    rw [(h b this.1).2 this.2]
/-- a block hung elsewhere -/
theorem moved_seen {hs : List Nat} {b q u d : Nat} (hb : 1 ≤ b) (hb2 : b ≤ hs.length) (hq : up hs b ≠ q) : (0 < u → telD hs (put hs b q) u d b = false) ∧ (0 < d → telD hs (put hs b q) u d (up hs b) = false ∧ telD hs (put hs b q) u d q = false) := by
  have eb : up (put hs b q) b = q := by rw [up_put hb hb2, if_pos rfl]
  have b0 : b ≠ 0 := by omega
  refine ⟨fun hu => ?_, fun hd => ⟨?_, ?_⟩⟩
  · refine Bool.eq_false_iff.mpr fun h => ?_
    have e := (telD_iff.mp h).1
    obtain ⟨u, rfl⟩ : ∃ u', u = u' + 1 := ⟨u - 1, by omega⟩
    rw [wayN_cons _ _ b0, wayN_cons _ _ b0, eb] at e
    exact hq (List.cons.inj e).1
  · refine Bool.eq_false_iff.mpr fun h => ?_
    have e := (telD_iff.mp h).2
    obtain ⟨d, rfl⟩ : ∃ d', d = d' + 1 := ⟨d - 1, by omega⟩
    have := (ties_mem (hs := hs) (d := d + 1) (p := up hs b) (x := (b, up hs b))).mpr ⟨hb2, by rw [wayN_cons _ _ b0]; exact List.mem_cons_self, rfl⟩
    rw [e] at this
    have := (ties_mem.mp this).2.2
    rw [eb] at this
    exact hq this
  · refine Bool.eq_false_iff.mpr fun h => ?_
    have e := (telD_iff.mp h).2
    obtain ⟨d, rfl⟩ : ∃ d', d = d' + 1 := ⟨d - 1, by omega⟩
    have := (ties_mem (hs := put hs b q) (d := d + 1) (p := q) (x := (b, q))).mpr ⟨by rw [put_len]; exact hb2, by rw [wayN_cons _ _ b0, eb]; exact List.mem_cons_self, eb.symm⟩
    rw [← e] at this
    exact hq (ties_mem.mp this).2.2.symm
theorem way_sub {hs : List Nat} {d d' k x : Nat} (h : d ≤ d') (hx : x ∈ wayN hs d k) : x ∈ wayN hs d' k := by
  obtain ⟨j, h1, h2, h3⟩ := (way_mem _ _ _ _).mp hx
  exact (way_mem _ _ _ _).mpr ⟨j, by omega, h2, h3⟩
/-- a greater view tells no less -/
theorem wider {hs gs : List Nat} {u u' d d' p : Nat} (t : IsTree hs) (t' : IsTree gs) (hl : hs.length = gs.length) (hu : u ≤ u') (hd : d ≤ d') (h : telD hs gs u' d' p = true) : telD hs gs u d p = true := by
  obtain ⟨e1, e2⟩ := telD_iff.mp h
  refine telD_iff.mpr ⟨?_, (ties_eq hl).mpr ?_⟩
  · have := congrArg (List.take u) e1
    rwa [wayN_take, wayN_take, Nat.min_eq_left hu] at this
  · have key : ∀ (xs ys : List Nat), IsTree xs → xs.length = ys.length → tiesN xs d' p = tiesN ys d' p → ∀ d, d ≤ d' → ∀ b, b ≤ xs.length → p ∈ wayN xs d b → p ∈ wayN ys d b ∧ up xs b = up ys b := by
      intro xs ys tx el e d
      induction d with
      | zero =>
        intro _ b _ hx
        cases hx
      | succ d ih =>
        intro hd b hb hx
        have b0 : b ≠ 0 := fun z => by
          rw [z, wayN_nil] at hx
          cases hx
        have hu := ((ties_eq el).mp e b hb).2 (way_sub hd hx)
        refine ⟨?_, hu⟩
        rw [wayN_cons _ _ b0] at hx ⊢
        rw [← hu]
        rcases List.mem_cons.mp hx with hx | hx
        · rw [hx]
          exact List.mem_cons_self
        · exact List.mem_cons_of_mem _ (ih (by omega) _ (up_le tx.le b) hx).1
    intro b hb
    have k1 := key hs gs t hl e2 d hd b hb
    have k2 := key gs hs t' hl.symm e2.symm d hd b (by rw [← hl]; exact hb)
    exact ⟨⟨fun h => (k1 h).1, fun h => (k2 h).1⟩, fun h => (k1 h).2⟩
/-! called anew -/
theorem wayN_called {hs ms : List Nat} (t : IsTree hs) (o : IsOrd hs.length ms) : ∀ n k, k ≤ hs.length → wayN (call2 hs ms) n (up ms k) = (wayN hs n k).map (up ms)
  | 0, _, _ => rfl
  | n + 1, k, hk => by
    by_cases h : k = 0
    · rw [h, up_zero, wayN_nil, wayN_nil]
      rfl
    · have r := o.rg (k := k) (by omega) hk
      rw [wayN_cons _ _ h, wayN_cons _ _ (by omega), call2_up o hk, wayN_called t o n _ (up_le t.le k)]
      rfl
theorem map_inj_on {ms : List Nat} {n : Nat} (o : IsOrd n ms) : ∀ {xs ys : List Nat}, (∀ x ∈ xs, x ≤ n) → (∀ y ∈ ys, y ≤ n) → xs.map (up ms) = ys.map (up ms) → xs = ys
  | [], [], _, _, _ => rfl
  | [], _ :: _, _, _, e => by cases e
  | _ :: _, [], _, _, e => by cases e
  | x :: xs, y :: ys, hx, hy, e => by
    rw [List.map_cons, List.map_cons] at e
    obtain ⟨e1, e2⟩ := List.cons.inj e
    rw [o.inj (hx x List.mem_cons_self) (hy y List.mem_cons_self) e1, map_inj_on o (fun z hz => hx z (List.mem_cons_of_mem _ hz)) (fun z hz => hy z (List.mem_cons_of_mem _ hz)) e2]
theorem mem_called {hs ms : List Nat} (t : IsTree hs) (o : IsOrd hs.length ms) {d p b : Nat} (hp : p ≤ hs.length) (hb : b ≤ hs.length) : up ms p ∈ wayN (call2 hs ms) d (up ms b) ↔ p ∈ wayN hs d b := by
  rw [wayN_called t o d b hb, List.mem_map]
  constructor
  · rintro ⟨x, hx, e⟩
    rw [← o.inj (wayN_le t.le hx) hp e]
    exact hx
  · exact fun h => ⟨p, h, rfl⟩
theorem telD_called {hs gs ms : List Nat} (t : IsTree hs) (t' : IsTree gs) (hl : hs.length = gs.length) (o : IsOrd hs.length ms) {u d p : Nat} (hp : p ≤ hs.length) : telD (call2 hs ms) (call2 gs ms) u d (up ms p) = telD hs gs u d p := by
  have o' : IsOrd gs.length ms := by
    rw [← hl]
    exact o
  have hp' : p ≤ gs.length := by rw [← hl]; exact hp
  rw [Bool.eq_iff_iff, telD_iff, telD_iff, ties_eq hl, ties_eq (by rw [call2_len, call2_len, hl]), wayN_called t o u p hp, wayN_called t' o' u p hp', call2_len]
  have e1 : ((wayN hs u p).map (up ms) = (wayN gs u p).map (up ms)) ↔ wayN hs u p = wayN gs u p :=
    ⟨fun e => map_inj_on o (fun x hx => wayN_le t.le hx) (fun x hx => by rw [hl]; exact wayN_le t'.le hx) e, fun e => by rw [e]⟩
  rw [e1]
  refine and_congr_right fun _ => ⟨fun h b hb => ?_, fun h c hc => ?_⟩
  · have := h (up ms b) (o.rg0 hb)
    rw [mem_called t o hp hb, mem_called t' o' hp' (by rw [← hl]; exact hb), call2_up o hb, call2_up o' (by rw [← hl]; exact hb)] at this
    exact ⟨this.1, fun hw => o.inj (up_le t.le b) (by rw [hl]; exact up_le t'.le b) (this.2 hw)⟩
  · obtain ⟨b, hb, rfl⟩ : ∃ b, b ≤ hs.length ∧ up ms b = c := by
      by_cases c0 : c = 0
      · exact ⟨0, by omega, c0.symm⟩
      · obtain ⟨k, _, k2, k3⟩ := o.surj (x := c) (by omega) hc
        exact ⟨k, k2, k3⟩
    rw [mem_called t o hp hb, mem_called t' o' hp' (by rw [← hl]; exact hb), call2_up o hb, call2_up o' (by rw [← hl]; exact hb)]
    have := h b hb
    exact ⟨this.1, fun hw => by rw [this.2 hw]⟩
theorem unlike_called {hs gs ms : List Nat} (t : IsTree hs) (t' : IsTree gs) (hl : hs.length = gs.length) (o : IsOrd hs.length ms) {u d : Nat} : ((unlikeN hs gs u d).map (up ms)).Perm (unlikeN (call2 hs ms) (call2 gs ms) u d) := by
  refine (List.perm_ext_iff_of_nodup ?_ ((unlike_sorted _ _ _ _).imp fun {a b} h => Nat.ne_of_lt h)).mpr fun c => ?_
  · refine List.pairwise_map.mpr ((List.Pairwise.and_mem.mp (unlike_sorted hs gs u d)).imp fun {a b} h e => ?_)
    have := o.inj (unlike_mem.mp h.1).1 (unlike_mem.mp h.2.1).1 e
    have := h.2.2
    omega
  · rw [List.mem_map, unlike_mem, call2_len]
    constructor
    · rintro ⟨p, hp, rfl⟩
      have := unlike_mem.mp hp
      exact ⟨o.rg0 this.1, by rw [telD_called t t' hl o this.1]; exact this.2⟩
    · rintro ⟨h1, h2⟩
      obtain ⟨b, hb, rfl⟩ : ∃ b, b ≤ hs.length ∧ up ms b = c := by
        by_cases c0 : c = 0
        · exact ⟨0, by omega, c0.symm⟩
        · obtain ⟨k, _, k2, k3⟩ := o.surj (x := c) (by omega) h1
          exact ⟨k, k2, k3⟩
      rw [telD_called t t' hl o hb] at h2
      exact ⟨b, unlike_mem.mpr ⟨hb, h2⟩, rfl⟩
end Fv
set_option maxRecDepth 100000
set_option maxHeartbeats 1000000
namespace Fv
open PySem PySem.Spec PyProof.Rows L2
/-! comprehensions with two for -/
theorem lc2_list {K : PySem.W.Frag} {a : Addr} {xs : List V} {g : TG} {tt : TT} {vs : List Nat} {σ : L2.St} {H0 : Hp} {Qd : Hp → Prop} {Bd : L2.St → Hp → (Hp → Prop) → Prop} (Pv : Nat → Hp → Prop) (h0 : Pv 0 H0) (hl : ∀ i H, i ≤ xs.length → Pv i H → SqL K H a xs)
    (hs : ∀ i x H, xs[i]? = some x → Pv i H → g x (wipe σ vs) H fun σ2 H2 => wipe σ2 vs = wipe σ vs ∧ tt σ2 H2 fun b H3 => if b = true then Bd σ2 H3 (Pv (i + 1)) else Pv (i + 1) H3) (hd : ∀ H, Pv xs.length H → Qd H) :
    ∃ W : Nat → Nat → Hp → Prop, (∃ m, W 0 m H0) ∧ ∀ i m H, W i m H →
      ((Itl K a).stop i H ∧ Qd H) ∨ ((Itl K a).go i H ∧ ∃ Nx : Hp → Prop, (∀ H', Nx H' → ∃ m', m' < m ∧ W (i + 1) m' H') ∧ ∀ x H', (Itl K a).yld i H x H' → g x (wipe σ vs) H' fun σ2 H2 => wipe σ2 vs = wipe σ vs ∧ tt σ2 H2 fun b H3 =>
        if b = true then Bd σ2 H3 Nx else Nx H3) := by
  refine ⟨fun i m H => m = xs.length - i ∧ i ≤ xs.length ∧ Pv i H, ⟨xs.length, by simp, Nat.zero_le _, h0⟩, ?_⟩
  rintro i m H ⟨rfl, hi, p⟩
  have q := hl i H hi p
  by_cases hlt : i < xs.length
  · refine .inr ⟨⟨xs, xs[i], q, by simp [hlt]⟩, Pv (i + 1), fun H' p' => ⟨xs.length - (i + 1), by omega, rfl, hlt, p'⟩, fun x H' y => ?_⟩
    obtain ⟨e, y⟩ := y
    subst e
    exact hs i x _ (y xs q) p
  · have e : i = xs.length := by omega
    subst e
    exact .inl ⟨⟨xs, q, Nat.le_refl _⟩, hd H p⟩
theorem lc2_tup {K : PySem.W.Frag} {a : Addr} {xs : List V} {g : TG} {tt : TT} {vs : List Nat} {σ : L2.St} {H0 : Hp} {Qd : Hp → Prop} {Bd : L2.St → Hp → (Hp → Prop) → Prop} (Pv : Nat → Hp → Prop) (h0 : Pv 0 H0) (hl : ∀ i H, i ≤ xs.length → Pv i H → SqT K H a xs)
    (hs : ∀ i x H, xs[i]? = some x → Pv i H → g x (wipe σ vs) H fun σ2 H2 => wipe σ2 vs = wipe σ vs ∧ tt σ2 H2 fun b H3 => if b = true then Bd σ2 H3 (Pv (i + 1)) else Pv (i + 1) H3) (hd : ∀ H, Pv xs.length H → Qd H) :
    ∃ W : Nat → Nat → Hp → Prop, (∃ m, W 0 m H0) ∧ ∀ i m H, W i m H →
      ((Itt K a).stop i H ∧ Qd H) ∨ ((Itt K a).go i H ∧ ∃ Nx : Hp → Prop, (∀ H', Nx H' → ∃ m', m' < m ∧ W (i + 1) m' H') ∧ ∀ x H', (Itt K a).yld i H x H' → g x (wipe σ vs) H' fun σ2 H2 => wipe σ2 vs = wipe σ vs ∧ tt σ2 H2 fun b H3 =>
        if b = true then Bd σ2 H3 Nx else Nx H3) := by
  refine ⟨fun i m H => m = xs.length - i ∧ i ≤ xs.length ∧ Pv i H, ⟨xs.length, by simp, Nat.zero_le _, h0⟩, ?_⟩
  rintro i m H ⟨rfl, hi, p⟩
  have q := hl i H hi p
  by_cases hlt : i < xs.length
  · refine .inr ⟨⟨xs, xs[i], q, by simp [hlt]⟩, Pv (i + 1), fun H' p' => ⟨xs.length - (i + 1), by omega, rfl, hlt, p'⟩, fun x H' y => ?_⟩
    obtain ⟨e, y⟩ := y
    subst e
    exact hs i x _ (y xs q) p
  · have e : i = xs.length := by omega
    subst e
    exact .inl ⟨⟨xs, q, Nat.le_refl _⟩, hd H p⟩
/-! lists of pairs -/
def PrV (H : Hp) (v : V) (x : Nat × Nat) : Prop := ∃ t, v = .ref t ∧ H t = some (.tup [.int (x.1 : Nat), .int (x.2 : Nat)])
def PrsV (H : Hp) : List V → List (Nat × Nat) → Prop
  | [], [] => True
  | v :: vs, x :: xs => PrV H v x ∧ PrsV H vs xs
  | [], _ :: _ => False
  | _ :: _, [] => False
theorem PrV.same {H H' : Hp} {v : V} {x : Nat × Nat} (s : Same H H') (h : PrV H v x) : PrV H' v x := by
  obtain ⟨t, e, h⟩ := h
  exact ⟨t, e, s _ _ h⟩
theorem PrV.mut {H : Hp} {v : V} {x : Nat × Nat} {q : Addr} {ys : List V} {o : HO} (hq : H q = some (.lst ys)) (h : PrV H v x) : PrV (upd H q o) v x := by
  obtain ⟨t, e, h⟩ := h
  refine ⟨t, e, keepM (fun z => ?_) h⟩
  rw [z, hq] at h
  cases h
theorem PrsV.imp {H H' : Hp} (f : ∀ v x, PrV H v x → PrV H' v x) : ∀ {vs : List V} {xs : List (Nat × Nat)}, PrsV H vs xs → PrsV H' vs xs
  | [], [], _ => True.intro
  | _ :: _, _ :: _, h => ⟨f _ _ h.1, PrsV.imp f h.2⟩
  | [], _ :: _, h => h.elim
  | _ :: _, [], h => h.elim
theorem PrsV.same {H H' : Hp} {vs : List V} {xs : List (Nat × Nat)} (s : Same H H') (h : PrsV H vs xs) : PrsV H' vs xs := h.imp fun _ _ k => k.same s
theorem PrsV.mut {H : Hp} {vs : List V} {xs : List (Nat × Nat)} {q : Addr} {ys : List V} {o : HO} (hq : H q = some (.lst ys)) (h : PrsV H vs xs) : PrsV (upd H q o) vs xs := h.imp fun _ _ k => k.mut hq
theorem PrsV.app {H : Hp} : ∀ {vs ws : List V} {xs ys : List (Nat × Nat)}, PrsV H vs xs → PrsV H ws ys → PrsV H (vs ++ ws) (xs ++ ys)
  | [], _, [], _, _, h => h
  | _ :: _, _, _ :: _, _, h, k => ⟨h.1, PrsV.app h.2 k⟩
  | [], _, _ :: _, _, h, _ => h.elim
  | _ :: _, _, [], _, h, _ => h.elim
theorem PrsV.len {H : Hp} : ∀ {vs : List V} {xs : List (Nat × Nat)}, PrsV H vs xs → vs.length = xs.length
  | [], [], _ => rfl
  | _ :: _, _ :: _, h => congrArg (· + 1) (PrsV.len h.2)
  | [], _ :: _, h => h.elim
  | _ :: _, [], h => h.elim
theorem PrsV.at {H : Hp} : ∀ {vs : List V} {xs : List (Nat × Nat)} {i : Nat} {v : V}, PrsV H vs xs → vs[i]? = some v → ∃ x, xs[i]? = some x ∧ PrV H v x
  | [], [], _, _, _, h => by cases h
  | _ :: _, x :: _, 0, _, h, e => by
    have e' := Option.some.inj e
    subst e'
    exact ⟨x, rfl, h.1⟩
  | _ :: _, _ :: _, i + 1, _, h, e => PrsV.at (i := i) h.2 e
  | [], _ :: _, _, _, h, _ => h.elim
  | _ :: _, [], _, _, h, _ => h.elim
/-- what a pair's value tells -/
def keyOf (H : Hp) (v : V) : Int × Int := match v with
  | .ref t => match H t with
    | some (.tup [.int a, .int b]) => (a, b)
    | _ => (0, 0)
  | _ => (0, 0)
def natsOf (H : Hp) (v : V) : Nat × Nat := ((keyOf H v).1.toNat, (keyOf H v).2.toNat)
theorem PrV.key {H : Hp} {v : V} {x : Nat × Nat} (h : PrV H v x) : keyOf H v = ((x.1 : Int), (x.2 : Int)) := by
  obtain ⟨t, rfl, h⟩ := h
  unfold keyOf
  dsimp only
  rw [h]
theorem PrV.nats {H : Hp} {v : V} {x : Nat × Nat} (h : PrV H v x) : natsOf H v = x := by
  unfold natsOf
  rw [h.key]
  rfl
theorem PrsV.nats {H : Hp} : ∀ {vs : List V} {xs : List (Nat × Nat)}, PrsV H vs xs → vs.map (natsOf H) = xs
  | [], [], _ => rfl
  | v :: vs, x :: xs, h => by rw [List.map_cons, h.1.nats, PrsV.nats h.2]
  | [], _ :: _, h => h.elim
  | _ :: _, [], h => h.elim
theorem PrsV.of {H : Hp} : ∀ {vs : List V}, (∀ v ∈ vs, ∃ x, PrV H v x) → PrsV H vs (vs.map (natsOf H))
  | [], _ => True.intro
  | v :: vs, h => by
    obtain ⟨x, hx⟩ := h v List.mem_cons_self
    exact ⟨by rw [hx.nats]; exact hx, PrsV.of fun w hw => h w (List.mem_cons_of_mem _ hw)⟩
theorem PrsV.all {H : Hp} {vs : List V} {xs : List (Nat × Nat)} (h : PrsV H vs xs) {v : V} (hv : v ∈ vs) : ∃ x, PrV H v x := by
  obtain ⟨i, hi, e⟩ := List.getElem_of_mem hv
  obtain ⟨x, _, hx⟩ := h.at (i := i) (v := v) (by rw [List.getElem?_eq_getElem hi, e])
  exact ⟨x, hx⟩
theorem cr_sortedPO' {X : Cx} {K : PySem.W.Frag} (e : X.K = K) : CallR X (.builtin "sorted") (rSortedPO K) := by
  subst e
  exact cr_sortedPO
theorem x_sortP {K : PySem.W.Frag} {H : Hp} {Q : VK} {a : Addr} {hs : List Nat} {d k : Nat} {vs : List V} (t : IsTree hs) (hk : k ≤ hs.length) (h : SqL K H a vs) (hp : PrsV H vs (withUp hs (acc hs k d))) (q : ∀ ys p, PrsV H ys (tiesN hs d k) → H p = none → Q (.ref p) (upd H p (.lst ys))) : rSortedPO K [.ref a] H Q := by
  refine ⟨a, vs, keyOf H, rfl, h, fun v hv => ?_, fun ys p hs1 hs2 hn => ?_⟩
  · obtain ⟨x, hx⟩ := hp.all hv
    obtain ⟨t, e1, e2⟩ := id hx
    refine ⟨t, e1, ?_⟩
    rw [hx.key]
    exact e2
  · have pm := hs2.perm
    have hy : PrsV H ys (ys.map (natsOf H)) := PrsV.of fun v hv => hp.all (pm.mem_iff.mp hv)
    refine q ys p ?_ hn
    have e : ys.map (natsOf H) = tiesN hs d k := by
      refine ties_sorted t hk ?_ ?_
      · rw [← hp.nats]
        exact pm.map _
      · rw [List.pairwise_map]
        refine (List.Pairwise.and_mem.mp hs1).imp fun {x y} hxy => ?_
        obtain ⟨m1, m2, lt⟩ := hxy
        obtain ⟨a1, ha⟩ := hp.all (pm.mem_iff.mp m1)
        obtain ⟨b1, hb⟩ := hp.all (pm.mem_iff.mp m2)
        rw [ha.nats, hb.nats]
        have lt : SrtO.lexB (keyOf H y) (keyOf H x) = false := lt
        rw [ha.key, hb.key] at lt
        unfold ltPr
        intro z
        refine Bool.false_ne_true (lt.symm.trans (SrtO.lexB_iff.mpr ?_))
        show ((b1.1 : Nat) : Int) < ((a1.1 : Nat) : Int) ∨ ((b1.1 : Nat) : Int) = ((a1.1 : Nat) : Int) ∧ ((b1.2 : Nat) : Int) < ((a1.2 : Nat) : Int)
        omega
    rw [← e]
    exact hy
end Fv
set_option maxRecDepth 100000
set_option maxHeartbeats 1000000
namespace Fv
open PySem PySem.Spec PyProof.Rows L2
def pD (x : Nat × Nat) : PyData := .tuple [.int (Int.ofNat x.1), .int (Int.ofNat x.2)]
def pds (ts : List (Nat × Nat)) : List PyData := ts.map pD
theorem pds_lay : ∀ l, PyData.canLayAll0 (pds l) = true
  | [] => rfl
  | a :: l => by
    show (PyData.canLay0 (pD a) && PyData.canLayAll0 (pds l)) = true
    rw [pds_lay l]
    rfl
theorem pds_depth : ∀ l, PyData.depthAll (pds l) ≤ 1
  | [] => Nat.zero_le _
  | a :: l => by
    show max (PyData.depth (pD a)) (PyData.depthAll (pds l)) ≤ 1
    have e : PyData.depth (pD a) = 1 := rfl
    rw [e]
    have := pds_depth l
    omega
theorem pD_eqv (a b : Nat × Nat) : PyData.eqv (pD a) (pD b) = decide (a = b) := by
  show PyData.eqv (.tuple [.int (Int.ofNat a.1), .int (Int.ofNat a.2)]) (.tuple [.int (Int.ofNat b.1), .int (Int.ofNat b.2)]) = _
  obtain ⟨a1, a2⟩ := a
  obtain ⟨b1, b2⟩ := b
  rw [PyData.eqv, PyData.eqvAll, PyData.eqvAll, PyData.eqvAll, PyData.eqv, PyData.eqv, Bool.eq_iff_iff]
  simp
  omega
theorem pds_eqv : ∀ l m, PyData.eqvAll (pds l) (pds m) = decide (l = m)
  | [], [] => by simp [pds, PyData.eqvAll]
  | [], _ :: _ => by simp [pds, PyData.eqvAll]
  | _ :: _, [] => by simp [pds, PyData.eqvAll]
  | a :: l, b :: m => by
    show PyData.eqvAll (pD a :: pds l) (pD b :: pds m) = _
    rw [PyData.eqvAll, pds_eqv l m, pD_eqv, Bool.eq_iff_iff]
    simp
def telPD (r : List Nat) (ts : List (Nat × Nat)) : PyData := .tuple [.tuple (dn r), .tuple (pds ts)]
theorem telPD_shaped (r : List Nat) (ts : List (Nat × Nat)) : SeqAt.shaped (telPD r ts) = true := by
  show (PyData.canLayAll0 [.tuple (dn r), .tuple (pds ts)] && decide (PyData.depthAll [.tuple (dn r), .tuple (pds ts)] + 1 ≤ 64)) = true
  have e1 : PyData.canLayAll0 [.tuple (dn r), .tuple (pds ts)] = true := by
    show (PyData.canLayAll0 (dn r) && (PyData.canLayAll0 (pds ts) && true)) = true
    rw [dn_lay, pds_lay]
    rfl
  have e2 : PyData.depthAll [.tuple (dn r), .tuple (pds ts)] + 1 ≤ 64 := by
    show max (PyData.depthAll (dn r) + 1) (max (PyData.depthAll (pds ts) + 1) 0) + 1 ≤ 64
    have := pds_depth ts
    rw [dn_depth]
    omega
  rw [e1, decide_eq_true e2]
  rfl
theorem telPD_eqv (r r' : List Nat) (ts ts' : List (Nat × Nat)) : PyData.eqv (telPD r ts) (telPD r' ts') = (decide (r = r') && decide (ts = ts')) := by
  show PyData.eqv (.tuple [.tuple (dn r), .tuple (pds ts)]) (.tuple [.tuple (dn r'), .tuple (pds ts')]) = _
  rw [PyData.eqv, PyData.eqvAll, PyData.eqvAll, PyData.eqvAll, PyData.eqv, PyData.eqv, dn_eqv, pds_eqv]
  simp
/-- a value that is a telling -/
def TelAt (H : Hp) (v : V) (r : List Nat) (ts : List (Nat × Nat)) : Prop := ∃ (a b c : Addr) (vs : List V), v = .ref a ∧ H a = some (.tup [.ref b, .ref c]) ∧ H b = some (.tup (nats r)) ∧ H c = some (.tup vs) ∧ PrsV H vs ts
theorem TelAt.same {H H' : Hp} {v : V} {r : List Nat} {ts : List (Nat × Nat)} (s : Same H H') (h : TelAt H v r ts) : TelAt H' v r ts := by
  obtain ⟨a, b, c, vs, e, h1, h2, h3, h4⟩ := h
  exact ⟨a, b, c, vs, e, s _ _ h1, s _ _ h2, s _ _ h3, h4.same s⟩
section
variable {K : PySem.W.Frag} {H : Hp} {Q : VK}
theorem PrsV.dp : ∀ {vs : List V} {ts : List (Nat × Nat)}, PrsV H vs ts → DpAll K H vs (pds ts)
  | [], [], _ => .nil
  | v :: vs, x :: xs, h => by
    obtain ⟨t, e, ht⟩ := h.1
    subst e
    exact .cons (.tup (.of ht) (.cons (.int _) (.cons (.int _) .nil))) (PrsV.dp h.2)
  | [], _ :: _, h => h.elim
  | _ :: _, [], h => h.elim
theorem TelAt.dp {v : V} {r : List Nat} {ts : List (Nat × Nat)} (h : TelAt H v r ts) : Dp K H v (telPD r ts) := by
  obtain ⟨a, b, c, vs, e, h1, h2, h3, h4⟩ := h
  subst e
  exact .tup (.of h1) (.cons (.tup (.of h2) (dpAll_nats r)) (.cons (.tup (.of h3) h4.dp) .nil))
theorem x_neTel {x y : V} {r r' : List Nat} {ts ts' : List (Nat × Nat)} (h1 : TelAt H x r ts) (h2 : TelAt H y r' ts') (q : Q (.bl (!(decide (r = r') && decide (ts = ts')))) H) : rNeD K x y H Q := by
  refine ⟨telPD r ts, telPD r' ts', h1.dp, h2.dp, telPD_shaped _ _, telPD_shaped _ _, ?_⟩
  rw [telPD_eqv]
  exact q
theorem Al.pair {n : Nat} {v w : V} {x : Nat × Nat} (h1 : PrV H v x) (h2 : PrV H w x) : Al K H (n + 1) v w := by
  obtain ⟨t, e, ht⟩ := h1
  obtain ⟨u, e', hu⟩ := h2
  subst e e'
  refine Al.tups ht hu (by show 2 ≤ 1000; decide) fun z hz => ?_
  rcases List.mem_cons.mp hz with rfl | hz
  · rfl
  · rw [List.mem_singleton.mp hz]
    rfl
theorem TelAt.al {v w : V} {r : List Nat} {ts : List (Nat × Nat)} (hr : r.length ≤ 1000) (hts : ts.length ≤ 1000) (h1 : TelAt H v r ts) (h2 : TelAt H w r ts) : Al K H 3 v w := by
  obtain ⟨a, b, c, vs, e, h1, h2', h3, h4⟩ := h1
  obtain ⟨a', b', c', vs', e', k1, k2, k3, k4⟩ := h2
  subst e e'
  refine .inr (.inr ⟨a, a', _, _, rfl, rfl, h1, k1, rfl, (by show 2 ≤ 1000; decide), fun i hi1 hi2 => ?_⟩)
  match i with
  | 0 => exact Al.tups h2' k2 (by rw [nats_length]; exact hr) nats_sca
  | 1 =>
    refine .inr (.inr ⟨c, c', vs, vs', rfl, rfl, h3, k3, h4.len.trans k4.len.symm, by rw [k4.len]; exact hts, fun j hj1 hj2 => ?_⟩)
    obtain ⟨x, hx, px⟩ := h4.at (List.getElem?_eq_getElem hj1)
    obtain ⟨y, hy, py⟩ := k4.at (List.getElem?_eq_getElem hj2)
    rw [hx] at hy
    cases hy
    exact Al.pair px py
  | i + 2 => exact absurd hi1 (by show ¬ i + 2 < 2; omega)
end
end Fv
set_option maxRecDepth 100000
set_option maxHeartbeats 1000000
namespace Fv
open PySem PySem.Spec PyProof.Rows L2
/-! range(n), kept by a name -/
def rRng1 : List V → Hp → VK → Prop := fun vs H Q => ∃ j : Int, vs = [V.int j] ∧ ∀ p, H p = none → Q (.ref p) (upd H p (.rng 0 j))
theorem call_rng1 {X : Cx} : CallR X (.type "range") rRng1 := by
  intro pins s σ H vs us Q I r h
  obtain ⟨j, rfl, q⟩ := h
  obtain ⟨u1, rfl, ri⟩ := vals1 r
  obtain ⟨t, rfl⟩ := ri
  refine call_range_1 ⟨.ref s.heap.objs.size, upd H s.heap.objs.size (.rng 0 j), I.laid (fun b o e => Heap.get?_push_of_some _ e) (Nat.le_refl _) ?_, rfl, q _ (I.hok.fresh (Nat.le_refl _))⟩
  exact ⟨_, _, _, Heap.get?_push_size _ rfl⟩
theorem pi_tupK {X : Cx} {K : PySem.W.Frag} {tg e : Expr} {te : TE} (eK : X.K = K) (he : PE X e te) : PI X tg e (iTup K te) := by
  subst eK
  exact pi_tup he
theorem pi_listK {X : Cx} {K : PySem.W.Frag} {tg e : Expr} {te : TE} (eK : X.K = K) (he : PE X e te) : PI X tg e (iList K te) := by
  subst eK
  exact pi_list he
theorem nats_take (l : List Nat) (n : Nat) : (nats l).take n = nats (l.take n) := by
  unfold nats
  rw [List.map_take]
section
variable {K : PySem.W.Frag} {H : Hp} {Q : VK} {l b p : Addr} {xs zs : List V}
theorem x_rngA1 {j : Int} (q : ∀ p, H p = none → Q (.ref p) (upd H p (.rng 0 j))) : rRng1 [.int j] H Q := ⟨j, rfl, q⟩
theorem x_extend (h1 : H l = some (.lst xs)) (h2 : H b = some (.lst zs)) (hz : xs.length + zs.length ≤ 10000) (q : Q .non (upd H l (.lst (xs ++ zs)))) : rExtend (.ref l) [.ref b] H Q := ⟨l, b, xs, zs, rfl, rfl, h1, h2, szLe (by omega), q⟩
theorem range0_snoc (g : Nat → Bool) (n : Nat) : (List.range (n + 1)).filter g = (List.range n).filter g ++ if g n = true then [n] else [] := by
  rw [List.range_succ, List.filter_append]
  congr 1
  by_cases h : g n = true
  · rw [if_pos h, List.filter_cons_of_pos h]
    rfl
  · rw [if_neg h, List.filter_cons_of_neg h]
    rfl
theorem all_true (n : Nat) : ((List.replicate n true).map V.bl).length = n := by rw [List.length_map, List.length_replicate]
end
end Fv
namespace Fv
open PySem PySem.Spec L2
/-- a comprehension in a comprehension: the outer one's scope, as it stands in its def's -/
def relS (scope sc : Scope) : Scope := { scope with names := scope.names.map fun (n, k) => if (k == .free && sc.kind == .function && sc.names.lookup n == some .cell) then (n, .cell) else (n, k) }
theorem blkOk_nest {X : Cx} {s : Shared} {H : Hp} {scope sc2 sc : Scope} {cl : List (Str × Addr)} {C : Addr} {e : Env} {fp : List Addr} {N : List Str} {own : List (Str × Nat)} (h : blkC N (relS scope sc) sc2 own = true) (hs : e.scope = sc) : BlkOk N (X.blk s H scope (compEnvC scope cl C e) fp).env.scope sc2 own := by
  subst hs
  exact blkOk_by h
theorem cr_sumK {X : Cx} {K : PySem.W.Frag} (e : X.K = K) (hc : X.calm = true) : CallR X (.builtin "sum") (rSum K) := by
  subst e
  exact cr_sum hc
end Fv
/-! the first fact, and twins -/
namespace Fv
def dist (u d : Nat) : Nat := (if 0 < d then d + 1 else 0) + if 0 < u then 1 else 0
theorem nodup_sub : ∀ {xs ys : List Nat}, xs.Nodup → (∀ x ∈ xs, x ∈ ys) → xs.length ≤ ys.length
  | [], _, _, _ => Nat.zero_le _
  | x :: xs, ys, hn, h => by
    have hx := h x List.mem_cons_self
    have hn2 := List.nodup_cons.mp hn
    have ih := nodup_sub (xs := xs) (ys := ys.erase x) hn2.2 fun z hz => by
      have hne : z ≠ x := fun e => hn2.1 (by rw [← e]; exact hz)
      exact (List.mem_erase_of_ne hne).mpr (h z (List.mem_cons_of_mem _ hz))
    rw [List.length_erase_of_mem hx] at ih
    have : 0 < ys.length := List.length_pos_of_mem hx
    rw [List.length_cons]
    omega
/-- those above a block that hangs otherwise tell so -/
theorem chain_apart {hs gs : List Nat} {u d b : Nat} (hb : b ≤ hs.length) (b0 : b ≠ 0) (ne : up hs b ≠ up gs b) (h0 : telD hs gs u d 0 = true) : ∀ i, i ≤ d → upN hs i b ≠ 0 ∧ (1 ≤ i → telD hs gs u d (upN hs i b) = false)
  | 0, _ => ⟨b0, fun h => absurd h (by omega)⟩
  | i + 1, hi => by
    have ih := (chain_apart hb b0 ne h0 i (by omega)).1
    have f : telD hs gs u d (upN hs (i + 1) b) = false := by
      refine Bool.eq_false_iff.mpr fun h => ?_
      have e := (telD_iff.mp h).2
      have m := (ties_mem (hs := hs) (d := d) (p := upN hs (i + 1) b) (x := (b, up hs b))).mpr ⟨hb, (way_mem _ _ _ _).mpr ⟨i, by omega, ih, rfl⟩, rfl⟩
      rw [e] at m
      exact ne (ties_mem.mp m).2.2
    refine ⟨fun z => ?_, fun _ => f⟩
    rw [z, h0] at f
    cases f
theorem up_inj_chain {hs : List Nat} (t : IsTree hs) {b i j : Nat} (hb : b ≤ hs.length) (hij : i < j) (nz : upN hs i b ≠ 0) : upN hs i b ≠ upN hs j b := fun e => by
  refine no_ring t (upN_le t.le i b hb) nz (m := j - i) (by omega) ?_
  rw [← upN_add, show i + (j - i) = j by omega]
  exact e.symm
theorem least_block {hs gs : List Nat} (t : IsTree hs) (hl : hs.length = gs.length) (ne : hs ≠ gs) : ∃ b, b ≤ hs.length ∧ b ≠ 0 ∧ up hs b ≠ up gs b ∧ ∀ i, 1 ≤ i → up hs (upN hs i b) = up gs (upN hs i b) := by
  have ex : ∃ b, 1 ≤ b ∧ b ≤ hs.length ∧ up hs b ≠ up gs b := by
    exact Classical.byContradiction fun h => ne (same_ups hl fun k h1 h2 => Classical.byContradiction fun h3 => h ⟨k, h1, h2, h3⟩)
  have go : ∀ j, (∃ b, 1 ≤ b ∧ b ≤ hs.length ∧ up hs b ≠ up gs b ∧ upN hs j b = 0) → ∃ b, b ≤ hs.length ∧ b ≠ 0 ∧ up hs b ≠ up gs b ∧ ∀ i, 1 ≤ i → up hs (upN hs i b) = up gs (upN hs i b) := by
    intro j
    induction j using Nat.strongRecOn with
    | ind j ih =>
      rintro ⟨b, b1, b2, b3, b4⟩
      by_cases h : ∃ i, 1 ≤ i ∧ up hs (upN hs i b) ≠ up gs (upN hs i b)
      · obtain ⟨i, i1, i2⟩ := h
        have nz : upN hs i b ≠ 0 := fun z => i2 (by rw [z]; rfl)
        have hij : i < j := Nat.lt_of_not_le fun hle => nz (upN_more b4 hle)
        refine ih (j - i) (by omega) ⟨upN hs i b, by omega, upN_le t.le i b b2, i2, ?_⟩
        rw [← upN_add, show i + (j - i) = j by omega]
        exact b4
      · exact ⟨b, b2, by omega, b3, fun i h1 => Classical.byContradiction fun h2 => h ⟨i, h1, h2⟩⟩
  obtain ⟨b, b1, b2, b3⟩ := ex
  exact go hs.length ⟨b, b1, b2, b3, t.comes b b2⟩
theorem same_chain {hs gs : List Nat} {x : Nat} (h : ∀ i, up hs (upN hs i x) = up gs (upN hs i x)) : ∀ i, upN gs i x = upN hs i x
  | 0 => rfl
  | i + 1 => by rw [upN_succ, upN_succ, same_chain h i, h i]
theorem first_fact {hs gs : List Nat} {u d : Nat} (t : IsTree hs) (t' : IsTree gs) (hl : hs.length = gs.length) (ne : hs ≠ gs) (h0 : telD hs gs u d 0 = true) : dist u d ≤ (unlikeN hs gs u d).length := by
  obtain ⟨b, hb, b0, hne, hup⟩ := least_block t hl ne
  have hb' : b ≤ gs.length := by rw [← hl]; exact hb
  have A := chain_apart hb b0 hne h0
  have C := chain_apart (hs := gs) (gs := hs) hb' b0 hne.symm (by rw [telD_comm]; exact h0)
  have memA : ∀ i, 1 ≤ i → i ≤ d → upN hs i b ∈ unlikeN hs gs u d := fun i h1 h2 => unlike_mem.mpr ⟨upN_le t.le i b hb, (A i h2).2 h1⟩
  have memC : ∀ i, 1 ≤ i → i ≤ d → upN gs i b ∈ unlikeN hs gs u d := fun i h1 h2 => unlike_mem.mpr ⟨by rw [hl]; exact upN_le t'.le i b hb', by rw [telD_comm]; exact (C i h2).2 h1⟩
  -- those of the ties
  have ties : ∃ L : List Nat, L.Nodup ∧ (∀ x ∈ L, x ∈ unlikeN hs gs u d) ∧ b ∉ L ∧ L.length = if 0 < d then d + 1 else 0 := by
    by_cases hd : 0 < d
    · have nodA : ((List.range d).map fun i => upN hs (i + 1) b).Nodup := by
        refine List.pairwise_map.mpr ((List.Pairwise.and_mem.mp (List.pairwise_lt_range (n := d))).imp fun {i j} h e => ?_)
        obtain ⟨hi, hj, hij⟩ := h
        rw [List.mem_range] at hi hj
        exact up_inj_chain t hb (show i + 1 < j + 1 by omega) (A (i + 1) (by omega)).1 e
      have inA : ∀ x ∈ (List.range d).map fun i => upN hs (i + 1) b, ∃ i, 1 ≤ i ∧ i ≤ d ∧ x = upN hs i b := fun x hx => by
        obtain ⟨i, hi, rfl⟩ := List.mem_map.mp hx
        rw [List.mem_range] at hi
        exact ⟨i + 1, by omega, by omega, rfl⟩
      have bA : ∀ i, 1 ≤ i → i ≤ d + 1 → b ≠ upN hs i b := fun i h1 h2 => up_inj_chain t hb (i := 0) (by omega) b0
      have key : ∃ e, e ∈ unlikeN hs gs u d ∧ e ∉ ((List.range d).map fun i => upN hs (i + 1) b) ∧ b ≠ e := by
        by_cases hc : up gs b ∈ (List.range d).map fun i => upN hs (i + 1) b
        · obtain ⟨j, j1, j2, ej⟩ := inA _ hc
          have j3 : 2 ≤ j := by
            refine Nat.lt_of_not_le fun h => hne ?_
            have : j = 1 := by omega
            subst this
            exact ej.symm
          have hch := same_chain (hs := hs) (gs := gs) (x := upN hs j b) fun i => by
            rw [← upN_add]
            exact hup (j + i) (by omega)
          have ee : upN hs (d + 1) b = upN gs (d + 2 - j) b := by
            have e1 : upN hs (d + 1) b = upN hs (d + 1 - j) (upN hs j b) := by rw [← upN_add, show j + (d + 1 - j) = d + 1 by omega]
            rw [e1, ← hch, ← ej, show d + 2 - j = 1 + (d + 1 - j) by omega, upN_add]
            rfl
          refine ⟨upN hs (d + 1) b, by rw [ee]; exact memC _ (by omega) (by omega), fun hx => ?_, bA (d + 1) (by omega) (by omega)⟩
          obtain ⟨i, i1, i2, ei⟩ := inA _ hx
          exact up_inj_chain t hb (show i < d + 1 by omega) (A i i2).1 ei.symm
        · refine ⟨up gs b, memC 1 (by omega) hd, hc, fun e => ?_⟩
          exact no_ring t' hb' b0 (m := 1) (by omega) e.symm
      obtain ⟨e, e1, e2, e3⟩ := key
      refine ⟨e :: (List.range d).map fun i => upN hs (i + 1) b, List.nodup_cons.mpr ⟨e2, nodA⟩, fun x hx => ?_, fun hx => ?_, ?_⟩
      · rcases List.mem_cons.mp hx with rfl | hx
        · exact e1
        · obtain ⟨i, i1, i2, rfl⟩ := inA x hx
          exact memA i i1 i2
      · rcases List.mem_cons.mp hx with h | hx
        · exact e3 h
        · obtain ⟨i, i1, i2, ei⟩ := inA b hx
          exact bA i i1 (by omega) ei
      · rw [if_pos hd, List.length_cons, List.length_map, List.length_range]
    · exact ⟨[], List.Pairwise.nil, (fun x h => by cases h), (fun h => by cases h), by rw [if_neg hd]; rfl⟩
  obtain ⟨L, l1, l2, l3, l4⟩ := ties
  unfold dist
  rw [← l4]
  by_cases hu : 0 < u
  · rw [if_pos hu]
    have mb : b ∈ unlikeN hs gs u d := by
      refine unlike_mem.mpr ⟨hb, Bool.eq_false_iff.mpr fun h => ?_⟩
      have e := (telD_iff.mp h).1
      obtain ⟨u, rfl⟩ : ∃ u', u = u' + 1 := ⟨u - 1, by omega⟩
      rw [wayN_cons _ _ b0, wayN_cons _ _ b0] at e
      exact hne (List.cons.inj e).1
    have := nodup_sub (xs := b :: L) (ys := unlikeN hs gs u d) (List.nodup_cons.mpr ⟨l3, l1⟩) fun x hx => by
      rcases List.mem_cons.mp hx with rfl | hx
      · exact mb
      · exact l2 x hx
    rwa [List.length_cons] at this
  · rw [if_neg hu]
    exact nodup_sub l1 l2
/-! twins: a row of d + 1, and one block more under its last but one, or its last -/
def twin (n d y : Nat) : List Nat := List.range (d + 1) ++ y :: List.replicate (n - d - 2) 0
theorem twin_len {n d y : Nat} (h : d + 2 ≤ n) : (twin n d y).length = n := by
  unfold twin
  rw [List.length_append, List.length_range, List.length_cons, List.length_replicate]
  omega
theorem twin_up {n d y : Nat} (h : d + 2 ≤ n) (k : Nat) : up (twin n d y) k = if k ≤ d + 1 then k - 1 else if k = d + 2 then y else 0 := by
  by_cases h0 : k = 0
  · subst h0
    rw [if_pos (by omega)]
    rfl
  · unfold up
    rw [if_neg h0, List.getD_eq_getElem?_getD]
    unfold twin
    by_cases h1 : k ≤ d + 1
    · rw [if_pos h1, List.getElem?_append_left (by rw [List.length_range]; omega), List.getElem?_range (by omega)]
      rfl
    · rw [if_neg h1, List.getElem?_append_right (by rw [List.length_range]; omega), List.length_range]
      by_cases h2 : k = d + 2
      · subst h2
        rw [if_pos rfl, show d + 2 - 1 - (d + 1) = 0 by omega]
        rfl
      · rw [if_neg h2, show k - 1 - (d + 1) = (k - d - 3) + 1 by omega, List.getElem?_cons_succ, List.getElem?_replicate]
        split <;> rfl
theorem twin_row {n d y : Nat} (h : d + 2 ≤ n) {k : Nat} (hk : k ≤ d + 1) : ∀ j, upN (twin n d y) j k = k - j
  | 0 => rfl
  | j + 1 => by rw [upN_succ, twin_row h hk j, twin_up h, if_pos (by omega)]; omega
theorem twin_last {n d y : Nat} (h : d + 2 ≤ n) (hy : y ≤ d + 1) (j : Nat) : upN (twin n d y) (j + 1) (d + 2) = y - j := by
  show upN (twin n d y) j (up (twin n d y) (d + 2)) = _
  rw [twin_up h, if_neg (by omega), if_pos rfl, twin_row h hy]
theorem twin_rest {n d y k : Nat} (h : d + 2 ≤ n) (hk : d + 2 < k) : up (twin n d y) k = 0 := by
  rw [twin_up h, if_neg (by omega), if_neg (by omega)]
theorem twin_tree {n d y : Nat} (h : d + 2 ≤ n) (hn : n ≤ 40) (hy : y ≤ d + 1) : IsTree (twin n d y) := by
  have hle : ∀ x ∈ twin n d y, x ≤ (twin n d y).length := fun x hx => by
    rw [twin_len h]
    unfold twin at hx
    rcases List.mem_append.mp hx with hx | hx
    · rw [List.mem_range] at hx
      omega
    · rcases List.mem_cons.mp hx with rfl | hx
      · omega
      · rw [(List.mem_replicate.mp hx).2]
        exact Nat.zero_le _
  refine ⟨by rw [twin_len h]; omega, by rw [twin_len h]; exact hn, hle, fun k hk => ?_⟩
  by_cases h1 : k ≤ d + 1
  · exact comes_by (j := k) hle hk (by rw [twin_row h h1]; omega)
  · by_cases h2 : k = d + 2
    · subst h2
      exact comes_by (j := d + 1 + 1) hle hk (by rw [twin_last h hy]; omega)
    · exact comes_by (j := 1) hle hk (twin_rest h (by omega))
theorem twin_ne {n d : Nat} (h : d + 2 ≤ n) : twin n d d ≠ twin n d (d + 1) := fun e => by
  have a := twin_up (y := d) h (d + 2)
  have b := twin_up (y := d + 1) h (d + 2)
  rw [if_neg (by omega), if_pos rfl] at a b
  rw [e, b] at a
  omega
/-- but the last but one, all hang alike -/
theorem twin_alike {n d k : Nat} (h : d + 2 ≤ n) (hk : k ≠ d + 2) : up (twin n d d) k = up (twin n d (d + 1)) k := by
  rw [twin_up h, twin_up h, if_neg hk, if_neg hk]
theorem twin_up_ne {n d y : Nat} (h : d + 2 ≤ n) (hy : y ≤ d + 1) (k : Nat) : up (twin n d y) k ≠ d + 2 := by
  rw [twin_up h]
  split
  · omega
  · split <;> omega
theorem twin_way {n d : Nat} (h : d + 2 ≤ n) : ∀ m k, k ≠ d + 2 → wayN (twin n d d) m k = wayN (twin n d (d + 1)) m k
  | 0, _, _ => rfl
  | m + 1, k, hk => by
    by_cases h0 : k = 0
    · rw [h0, wayN_nil, wayN_nil]
    · rw [wayN_cons _ _ h0, wayN_cons _ _ h0, ← twin_alike h hk, twin_way h m _ (twin_up_ne h (by omega) k)]
theorem twin_last_way {n d y m p : Nat} (h : d + 2 ≤ n) (hy : y ≤ d + 1) (hm : m ≤ y) : p ∈ wayN (twin n d y) m (d + 2) ↔ p ≤ y ∧ y < p + m := by
  rw [way_mem]
  constructor
  · rintro ⟨j, h1, h2, h3⟩
    rw [twin_last h hy] at h3
    omega
  · rintro ⟨h1, h2⟩
    refine ⟨y - p, by omega, ?_, by rw [twin_last h hy]; omega⟩
    cases e : y - p with
    | zero =>
      show d + 2 ≠ 0
      omega
    | succ j =>
      rw [twin_last h hy]
      omega
theorem twin_tel {n d u p : Nat} (h : d + 2 ≤ n) : telD (twin n d d) (twin n d (d + 1)) u d p = true ↔ ¬ ((0 < d ∧ 1 ≤ p ∧ p ≤ d + 1) ∨ (0 < u ∧ p = d + 2)) := by
  rw [telD_iff, ties_eq (by rw [twin_len h, twin_len h]), twin_len h]
  have up1 : up (twin n d d) (d + 2) = d := by rw [twin_up h, if_neg (by omega), if_pos rfl]
  have up2 : up (twin n d (d + 1)) (d + 2) = d + 1 := by rw [twin_up h, if_neg (by omega), if_pos rfl]
  have w1 := twin_last_way (n := n) (y := d) (m := d) (p := p) h (by omega) (by omega)
  have w2 := twin_last_way (n := n) (y := d + 1) (m := d) (p := p) h (by omega) (by omega)
  constructor
  · rintro ⟨e1, e2⟩ (⟨k1, k2, k3⟩ | ⟨k1, rfl⟩)
    · obtain ⟨f1, f2⟩ := e2 (d + 2) h
      rw [w1, w2] at f1
      rw [w1, up1, up2] at f2
      by_cases hp : p ≤ d
      · have := f2 ⟨hp, by omega⟩
        omega
      · have := f1.mpr ⟨by omega, by omega⟩
        omega
    · obtain ⟨u, rfl⟩ : ∃ u', u = u' + 1 := ⟨u - 1, by omega⟩
      rw [wayN_cons _ _ (by omega), wayN_cons _ _ (by omega), up1, up2] at e1
      have := (List.cons.inj e1).1
      omega
  · intro hn
    refine ⟨?_, fun b hb => ?_⟩
    · by_cases hp : p = d + 2
      · have u0 : u = 0 := by
          refine Nat.eq_zero_of_not_pos fun hu => hn (.inr ⟨hu, hp⟩)
        rw [u0]
        rfl
      · exact twin_way h u p hp
    · by_cases hb2 : b = d + 2
      · subst hb2
        rw [w1, w2]
        have : ¬ (0 < d ∧ 1 ≤ p ∧ p ≤ d + 1) := fun z => hn (.inl z)
        constructor
        · omega
        · intro z
          omega
      · rw [twin_way h d b hb2, twin_alike h hb2]
        exact ⟨Iff.rfl, fun _ => rfl⟩
theorem twin_unlike {n d u : Nat} (h : d + 2 ≤ n) : (unlikeN (twin n d d) (twin n d (d + 1)) u d).length = dist u d := by
  have e : (unlikeN (twin n d d) (twin n d (d + 1)) u d).Perm (List.range' 1 (if 0 < d then d + 1 else 0) ++ if 0 < u then [d + 2] else []) := by
    refine (List.perm_ext_iff_of_nodup ((unlike_sorted _ _ _ _).imp fun {a b} h => Nat.ne_of_lt h) ?_).mpr fun p => ?_
    · refine List.nodup_append.mpr ⟨List.nodup_range', ?_, fun x hx y hy e => ?_⟩
      · split
        · exact List.pairwise_singleton _ _
        · exact List.Pairwise.nil
      · have h1 := List.mem_range'_1.mp hx
        split at hy
        · have h2 := List.mem_singleton.mp hy
          split at h1 <;> omega
        · cases hy
    · rw [unlike_mem, twin_len h, List.mem_append, List.mem_range'_1]
      have k := twin_tel (u := u) (p := p) h
      rw [← Bool.not_eq_true, k, Decidable.not_not]
      by_cases hd : 0 < d
      · by_cases hu : 0 < u
        · rw [if_pos hd, if_pos hu, List.mem_singleton]
          omega
        · rw [if_pos hd, if_neg hu]
          simp only [List.not_mem_nil, or_false]
          omega
      · by_cases hu : 0 < u
        · rw [if_neg hd, if_pos hu, List.mem_singleton]
          omega
        · rw [if_neg hd, if_neg hu]
          simp only [List.not_mem_nil, or_false]
          omega
  rw [e.length_eq, List.length_append, List.length_range']
  unfold dist
  congr 1
  split <;> rfl
theorem twin_head {n d u : Nat} (h : d + 2 ≤ n) : telD (twin n d d) (twin n d (d + 1)) u d 0 = true := (twin_tel h).mpr (by omega)
end Fv
/-! all trees of so many blocks, and all pairs of them -/
namespace Fv
def rowsN (n : Nat) : Nat → List (List Nat)
  | 0 => [[]]
  | b + 1 => (rowsN n b).flatMap fun r => ((List.range (n + 1)).filter fun p => decide (p ≠ b + 1)).map fun p => r ++ [p]
def isT (hs : List Nat) : Bool := (List.range' 1 hs.length).all fun k => decide (upN hs hs.length k = 0)
def allTrees (n : Nat) : List (List Nat) := (rowsN n n).filter isT
theorem rows_mem (n : Nat) : ∀ b (r : List Nat), r ∈ rowsN n b ↔ r.length = b ∧ ∀ (i x : Nat), r[i]? = some x → x ≤ n ∧ x ≠ i + 1
  | 0, r => by
    show r ∈ [[]] ↔ _
    rw [List.mem_singleton]
    constructor
    · rintro rfl
      exact ⟨rfl, fun i x h => by cases h⟩
    · exact fun h => List.eq_nil_of_length_eq_zero h.1
  | b + 1, r => by
    show r ∈ (rowsN n b).flatMap _ ↔ _
    rw [List.mem_flatMap]
    constructor
    · rintro ⟨s, hs, hr⟩
      obtain ⟨p, hp, rfl⟩ := List.mem_map.mp hr
      obtain ⟨l1, l2⟩ := (rows_mem n b s).mp hs
      rw [List.mem_filter, List.mem_range, decide_eq_true_eq] at hp
      refine ⟨by rw [List.length_append, l1]; rfl, fun i x h => ?_⟩
      by_cases hi : i < s.length
      · rw [List.getElem?_append_left hi] at h
        exact l2 i x h
      · have hl := (List.getElem?_eq_some_iff.mp h).1
        rw [List.length_append] at hl
        have hl : i < s.length + 1 := hl
        have e : i = s.length := by omega
        subst e
        rw [List.getElem?_append_right (Nat.le_refl _), Nat.sub_self] at h
        have e2 : p = x := Option.some.inj h
        subst e2
        rw [l1]
        exact ⟨by omega, hp.2⟩
    · rintro ⟨l1, l2⟩
      have hne : r ≠ [] := fun e => by
        rw [e] at l1
        cases l1
      have hd := List.dropLast_concat_getLast hne
      have ll : r.dropLast.length = b := by rw [List.length_dropLast, l1]; rfl
      have hlast : r[b]? = some (r.getLast hne) := by
        rw [List.getLast_eq_getElem, ← List.getElem?_eq_getElem]
        congr 1
        omega
      refine ⟨r.dropLast, (rows_mem n b _).mpr ⟨ll, fun i x h => ?_⟩, List.mem_map.mpr ⟨r.getLast hne, ?_, hd⟩⟩
      · have hi := (List.getElem?_eq_some_iff.mp h).1
        refine l2 i x ?_
        rw [← hd, List.getElem?_append_left hi]
        exact h
      · rw [List.mem_filter, List.mem_range, decide_eq_true_eq]
        have := l2 b _ hlast
        exact ⟨by omega, this.2⟩
theorem rows_nodup (n : Nat) : ∀ b, (rowsN n b).Nodup
  | 0 => List.pairwise_singleton _ _
  | b + 1 => by
    show ((rowsN n b).flatMap _).Nodup
    refine List.pairwise_flatMap.mpr ⟨fun r _ => ?_, (rows_nodup n b).imp fun {r s} hrs x hx y hy e => hrs ?_⟩
    · refine List.pairwise_map.mpr ((List.Pairwise.filter _ (List.nodup_range (n := n + 1))).imp fun {p q} hpq e => hpq ?_)
      have := List.append_cancel_left e
      exact (List.cons.inj this).1
    · obtain ⟨p, _, rfl⟩ := List.mem_map.mp hx
      obtain ⟨q, _, rfl⟩ := List.mem_map.mp hy
      exact (List.append_inj' e rfl).1
theorem rows_len (n : Nat) : ∀ b, (rowsN n b).length ≤ (n + 1) ^ b
  | 0 => Nat.le_refl _
  | b + 1 => by
    show ((rowsN n b).flatMap _).length ≤ _
    rw [List.length_flatMap]
    have h : ∀ m : List (List Nat), (m.map fun r => (((List.range (n + 1)).filter fun p => decide (p ≠ b + 1)).map fun p => r ++ [p]).length).sum ≤ m.length * (n + 1) := fun m => by
      induction m with
      | nil => exact Nat.zero_le _
      | cons r m ih =>
        rw [List.map_cons, List.sum_cons, List.length_map, List.length_cons, Nat.add_mul, Nat.one_mul]
        have := List.length_filter_le (fun p => decide (p ≠ b + 1)) (List.range (n + 1))
        rw [List.length_range] at this
        omega
    refine Nat.le_trans (h _) ?_
    rw [Nat.pow_succ]
    exact Nat.mul_le_mul_right _ (rows_len n b)
theorem all_mem {n : Nat} (h1 : 1 ≤ n) (h2 : n ≤ 40) {hs : List Nat} : hs ∈ allTrees n ↔ hs.length = n ∧ IsTree hs := by
  unfold allTrees
  rw [List.mem_filter, rows_mem]
  unfold isT
  rw [List.all_eq_true]
  constructor
  · rintro ⟨⟨l1, l2⟩, c⟩
    have hle : ∀ x ∈ hs, x ≤ hs.length := fun x hx => by
      obtain ⟨i, hi, e⟩ := List.getElem_of_mem hx
      rw [l1]
      exact (l2 i x (by rw [List.getElem?_eq_getElem hi, e])).1
    refine ⟨l1, by omega, by omega, hle, fun k hk => ?_⟩
    by_cases h0 : k = 0
    · rw [h0]
      exact upN_zero hs _
    · exact of_decide_eq_true (c k (List.mem_range'_1.mpr (by omega)))
  · rintro ⟨l1, t⟩
    refine ⟨⟨l1, fun i x hx => ⟨?_, fun e => ?_⟩⟩, fun k hk => decide_eq_true (t.comes k (by have := List.mem_range'_1.mp hk; omega))⟩
    · rw [← l1]
      exact t.le x (List.mem_of_getElem? hx)
    · have hi := (List.getElem?_eq_some_iff.mp hx).1
      refine no_ring t (k := i + 1) (m := 1) (by omega) (by omega) (by omega) ?_
      show up hs (i + 1) = i + 1
      rw [up_at (by omega) (by rw [Nat.add_sub_cancel]; exact hx), e]
theorem all_nodup (n : Nat) : (allTrees n).Nodup := List.Pairwise.filter _ (rows_nodup n n)
theorem all_len (n : Nat) : (allTrees n).length ≤ (n + 1) ^ n := Nat.le_trans (List.length_filter_le _ _) (rows_len n n)
/-- how many tell otherwise, for all pairs whose heads tell alike -/
def foundI (T : List (List Nat)) (u d i : Nat) : List Nat := ((List.range i).filter fun j => telD (T.getD j []) (T.getD i []) u d 0).map fun j => (unlikeN (T.getD i []) (T.getD j []) u d).length
def foundN (T : List (List Nat)) (u d i : Nat) : List Nat := (List.range i).flatMap fun k => foundI T u d k
theorem foundN_succ (T : List (List Nat)) (u d i : Nat) : foundN T u d (i + 1) = foundN T u d i ++ foundI T u d i := by
  unfold foundN
  rw [List.range_succ, List.flatMap_append]
  simp
theorem foundI_len (T : List (List Nat)) (u d i : Nat) : (foundI T u d i).length ≤ i := by
  unfold foundI
  rw [List.length_map]
  refine Nat.le_trans (List.length_filter_le _ _) ?_
  rw [List.length_range]
  exact Nat.le_refl _
theorem foundN_len (T : List (List Nat)) (u d : Nat) : ∀ i, (foundN T u d i).length ≤ i * i
  | 0 => Nat.le_refl _
  | i + 1 => by
    rw [foundN_succ, List.length_append]
    have := foundN_len T u d i
    have := foundI_len T u d i
    have e : (i + 1) * (i + 1) = i * i + i + i + 1 := by rw [Nat.add_mul, Nat.mul_add]; omega
    omega
theorem found_mem {T : List (List Nat)} {u d m x : Nat} : x ∈ foundN T u d m ↔ ∃ i j, j < i ∧ i < m ∧ telD (T.getD j []) (T.getD i []) u d 0 = true ∧ x = (unlikeN (T.getD i []) (T.getD j []) u d).length := by
  unfold foundN foundI
  rw [List.mem_flatMap]
  constructor
  · rintro ⟨i, hi, hx⟩
    obtain ⟨j, hj, rfl⟩ := List.mem_map.mp hx
    rw [List.mem_filter, List.mem_range] at hj
    exact ⟨i, j, hj.1, List.mem_range.mp hi, hj.2, rfl⟩
  · rintro ⟨i, j, h1, h2, h3, rfl⟩
    exact ⟨i, List.mem_range.mpr h2, List.mem_map.mpr ⟨j, List.mem_filter.mpr ⟨List.mem_range.mpr h1, h3⟩, rfl⟩⟩
theorem getD_mem {T : List (List Nat)} {i : Nat} (h : i < T.length) : T.getD i [] ∈ T := by
  rw [List.getD_eq_getElem?_getD, List.getElem?_eq_getElem h]
  exact List.getElem_mem h
theorem found_least {n u d x : Nat} (h1 : 1 ≤ n) (h2 : n ≤ 40) (hx : x ∈ foundN (allTrees n) u d (allTrees n).length) : dist u d ≤ x := by
  obtain ⟨i, j, hij, hi, ht, rfl⟩ := found_mem.mp hx
  have mi := (all_mem h1 h2).mp (getD_mem hi)
  have mj := (all_mem h1 h2).mp (getD_mem (show j < (allTrees n).length by omega))
  refine first_fact mi.2 mj.2 (by rw [mi.1, mj.1]) (fun e => ?_) (by rw [telD_comm]; exact ht)
  rw [List.getD_eq_getElem?_getD, List.getD_eq_getElem?_getD, List.getElem?_eq_getElem hi, List.getElem?_eq_getElem (show j < (allTrees n).length by omega)] at e
  have := (List.getElem_inj (h₀ := hi) (h₁ := show j < (allTrees n).length by omega) (all_nodup n)).mp e
  omega
theorem found_twins {n u d : Nat} (h2 : n ≤ 40) (h : d + 2 ≤ n) : dist u d ∈ foundN (allTrees n) u d (allTrees n).length := by
  have h1 : 1 ≤ n := by omega
  have ma := (all_mem h1 h2).mpr ⟨twin_len (y := d) h, twin_tree h h2 (by omega)⟩
  have mb := (all_mem h1 h2).mpr ⟨twin_len (y := d + 1) h, twin_tree h h2 (by omega)⟩
  obtain ⟨a, ha, ea⟩ := List.getElem_of_mem ma
  obtain ⟨b, hb, eb⟩ := List.getElem_of_mem mb
  have ga : (allTrees n).getD a [] = twin n d d := by
    rw [List.getD_eq_getElem?_getD, List.getElem?_eq_getElem ha]
    exact ea
  have gb : (allTrees n).getD b [] = twin n d (d + 1) := by
    rw [List.getD_eq_getElem?_getD, List.getElem?_eq_getElem hb]
    exact eb
  rcases Nat.lt_trichotomy a b with hab | hab | hab
  · refine found_mem.mpr ⟨b, a, hab, hb, by rw [ga, gb]; exact twin_head h, ?_⟩
    rw [ga, gb, unlike_comm (by rw [twin_len h, twin_len h]), twin_unlike h]
  · subst hab
    rw [ga] at gb
    exact (twin_ne h gb).elim
  · refine found_mem.mpr ⟨a, b, hab, ha, by rw [ga, gb, telD_comm]; exact twin_head h, ?_⟩
    rw [ga, gb, twin_unlike h]
end Fv
/-! words of places; nothing of the program here -/
namespace Fv
/-- the words of n blocks -/
structure WdOk (n : Nat) (us : List (Option Nat)) (ls : List (List (Option Bool))) : Prop where
  n1 : 1 ≤ n
  n2 : n ≤ 40
  ul : us.length = n
  uo : ∀ b q, us[b]? = some (some q) → q ≤ n ∧ q ≠ b + 1
  ll : ls.length = n + 1
  rl : ∀ r ∈ ls, r.length = n
  dg : ∀ p r, ls[p]? = some r → 1 ≤ p → r[p - 1]? = some (some false)
def up1 (us : List (Option Nat)) (b p : Nat) : Nat := match us[b - 1]? with
  | some (some q) => if q = p then 0 else 1
  | _ => 0
/-- what the places say of this block -/
def col (ls : List (List (Option Bool))) (b : Nat) : List (Option Bool) := ls.map fun r => (r[b - 1]?).getD none
def wr1 (o p : Nat) : Option Bool → Nat
  | none => 0
  | some f => if f = decide (o = p) then 0 else 1
def sumW (p : Nat) : Nat → List (Option Bool) → Nat
  | _, [] => 0
  | o, f :: r => wr1 o p f + sumW p (o + 1) r
def costN (us : List (Option Nat)) (ls : List (List (Option Bool))) (b p : Nat) : Nat := up1 us b p + sumW p 0 (col ls b)
def trueN (c : List (Option Bool)) : Nat := c.count (some true)
theorem sumW_off (p : Nat) : ∀ (o : Nat) (c : List (Option Bool)), p < o → sumW p o c = trueN c
  | _, [], _ => rfl
  | o, f :: r, h => by
    have ih := sumW_off p (o + 1) r (by omega)
    have e : decide (o = p) = false := decide_eq_false (by omega)
    unfold sumW trueN
    rw [ih, List.count_cons]
    unfold trueN
    cases f with
    | none => simp [wr1]
    | some b => cases b <;> simp [wr1, e] <;> omega
theorem sumW_at (p : Nat) : ∀ (o : Nat) (c : List (Option Bool)), o ≤ p → p < o + c.length → sumW p o c + (if c[p - o]? = some (some true) then 1 else 0) = trueN c + (if c[p - o]? = some (some false) then 1 else 0)
  | o, [], h1, h2 => by
    rw [List.length_nil] at h2
    omega
  | o, f :: r, h1, h2 => by
    rw [List.length_cons] at h2
    by_cases e : o = p
    · subst e
      have ih := sumW_off o (o + 1) r (by omega)
      rw [Nat.sub_self]
      unfold sumW
      rw [ih]
      unfold trueN
      rw [List.count_cons]
      cases f with
      | none => simp [wr1]
      | some b => cases b <;> simp [wr1] <;> omega
    · have ih := sumW_at p (o + 1) r (by omega) (by omega)
      have e1 : p - o = (p - (o + 1)) + 1 := by omega
      rw [e1, List.getElem?_cons_succ]
      unfold sumW
      have e2 : trueN (f :: r) = trueN r + (if f = some true then 1 else 0) := by
        unfold trueN
        rw [List.count_cons]
        congr 1
        cases f with
        | none => rfl
        | some b => cases b <;> rfl
      have e3 : wr1 o p f = (if f = some true then 1 else 0) := by
        have e : decide (o = p) = false := decide_eq_false e
        cases f with
        | none => simp [wr1]
        | some b => cases b <;> simp [wr1, e]
      omega
theorem sumW_app (p : Nat) : ∀ (o : Nat) (c d : List (Option Bool)), sumW p o (c ++ d) = sumW p o c + sumW p (o + c.length) d
  | o, [], d => by simp [sumW]
  | o, f :: r, d => by
    have ih := sumW_app p (o + 1) r d
    show wr1 o p f + sumW p (o + 1) (r ++ d) = wr1 o p f + sumW p (o + 1) r + _
    rw [ih, List.length_cons, show o + 1 + r.length = o + (r.length + 1) by omega]
    omega
theorem wr1_le (o p : Nat) (f : Option Bool) : wr1 o p f ≤ 1 := by
  unfold wr1
  split
  · omega
  · split <;> omega
theorem sumW_le (p : Nat) : ∀ (o : Nat) (c : List (Option Bool)), sumW p o c ≤ c.length
  | _, [] => Nat.le_refl _
  | o, f :: r => by
    have ih := sumW_le p (o + 1) r
    have := wr1_le o p f
    unfold sumW
    rw [List.length_cons]
    omega
theorem up1_le (us : List (Option Nat)) (b p : Nat) : up1 us b p ≤ 1 := by
  unfold up1
  split
  · split <;> omega
  · omega
theorem col_len (ls : List (List (Option Bool))) (b : Nat) : (col ls b).length = ls.length := by
  unfold col
  rw [List.length_map]
theorem costN_le (us : List (Option Nat)) (ls : List (List (Option Bool))) (b p : Nat) : costN us ls b p ≤ ls.length + 1 := by
  have := up1_le us b p
  have := sumW_le p 0 (col ls b)
  rw [col_len] at this
  unfold costN
  omega
/-- what the program reckons -/
theorem cost_is {us : List (Option Nat)} {ls : List (List (Option Bool))} {b p : Nat} (hp : p < ls.length) : costN us ls b p + (if (col ls b)[p]? = some (some true) then 1 else 0) = trueN (col ls b) + (if (col ls b)[p]? = some (some false) then 1 else 0) + up1 us b p := by
  have := sumW_at p 0 (col ls b) (by omega) (by rw [col_len]; omega)
  rw [Nat.sub_zero] at this
  unfold costN
  omega
/-- a tree's right words -/
def rightL (hs : List Nat) : List (List (Option Bool)) := (List.range (hs.length + 1)).map fun p => hs.map fun h => some (decide (h = p))
def rightU (hs : List Nat) : List (Option Nat) := hs.map some
theorem rightL_len (hs : List Nat) : (rightL hs).length = hs.length + 1 := by
  unfold rightL
  rw [List.length_map, List.length_range]
theorem rightL_get {hs : List Nat} {p : Nat} (h : p ≤ hs.length) : (rightL hs)[p]? = some (hs.map fun h => some (decide (h = p))) := by
  unfold rightL
  rw [List.getElem?_map, List.getElem?_range (by omega)]
  rfl
theorem right_ok {hs : List Nat} (t : IsTree hs) : WdOk hs.length (rightU hs) (rightL hs) where
  n1 := t.pos
  n2 := t.most
  ul := by
    unfold rightU
    rw [List.length_map]
  uo := fun b q h => by
    unfold rightU at h
    rw [List.getElem?_map] at h
    cases e : hs[b]? with
    | none =>
      rw [e] at h
      cases h
    | some c =>
      rw [e] at h
      have : c = q := Option.some.inj (Option.some.inj h)
      subst this
      refine ⟨t.le c (List.mem_of_getElem? e), fun z => ?_⟩
      subst z
      have hb := (List.getElem?_eq_some_iff.mp e).1
      have eu : up hs (b + 1) = b + 1 := by
        unfold up
        rw [if_neg (by omega), List.getD_eq_getElem?_getD, Nat.add_sub_cancel, e]
        rfl
      have : ∀ j, upN hs j (b + 1) = b + 1 := fun j => by
        induction j with
        | zero => rfl
        | succ j ih =>
          show upN hs j (up hs (b + 1)) = b + 1
          rw [eu, ih]
      have h2 := t.comes (b + 1) (by omega)
      rw [this] at h2
      omega
  ll := rightL_len hs
  rl := fun r hr => by
    unfold rightL at hr
    obtain ⟨p, _, rfl⟩ := List.mem_map.mp hr
    rw [List.length_map]
  dg := fun p r h h1 => by
    have hp := (List.getElem?_eq_some_iff.mp h).1
    rw [rightL_len] at hp
    rw [rightL_get (by omega)] at h
    cases h
    have hb : p - 1 < hs.length := by omega
    rw [List.getElem?_map, List.getElem?_eq_getElem hb]
    show some (some _) = _
    congr 2
    refine decide_eq_false fun z => ?_
    have eu : up hs p = p := by
      unfold up
      rw [if_neg (by omega), List.getD_eq_getElem?_getD, List.getElem?_eq_getElem hb]
      exact z
    have : ∀ j, upN hs j p = p := fun j => by
      induction j with
      | zero => rfl
      | succ j ih =>
        show upN hs j (up hs p) = p
        rw [eu, ih]
    have h2 := t.comes p (by omega)
    rw [this] at h2
    omega
theorem right_col {hs : List Nat} {b : Nat} (b1 : 1 ≤ b) (b2 : b ≤ hs.length) : col (rightL hs) b = (List.range (hs.length + 1)).map fun p => some (decide (up hs b = p)) := by
  unfold col rightL
  rw [List.map_map]
  refine List.map_congr_left fun p _ => ?_
  show (((hs.map fun h => some (decide (h = p)))[b - 1]?).getD none) = _
  have hb : b - 1 < hs.length := by omega
  rw [List.getElem?_map, List.getElem?_eq_getElem hb]
  show some (decide (hs[b - 1] = p)) = _
  have : up hs b = hs[b - 1] := by
    unfold up
    rw [if_neg (by omega), List.getD_eq_getElem?_getD, List.getElem?_eq_getElem hb]
    rfl
  rw [this]
theorem sumW_range (u p : Nat) : ∀ (k o : Nat), sumW p o ((List.range' o k).map fun q => some (decide (u = q))) = if u = p then 0 else (if o ≤ u ∧ u < o + k then 1 else 0) + (if o ≤ p ∧ p < o + k then 1 else 0)
  | 0, o => by
    have h1 : ¬ (o ≤ u ∧ u < o + 0) := by omega
    have h2 : ¬ (o ≤ p ∧ p < o + 0) := by omega
    rw [if_neg h1, if_neg h2]
    simp [sumW]
  | k + 1, o => by
    have ih := sumW_range u p k (o + 1)
    rw [List.range'_succ, List.map_cons]
    unfold sumW
    rw [ih]
    by_cases e : u = p
    · subst e
      have : wr1 o u (some (decide (u = o))) = 0 := by
        unfold wr1
        have : decide (u = o) = decide (o = u) := by
          rw [decide_eq_decide]
          exact eq_comm
        exact if_pos this
      rw [this, if_pos rfl, if_pos rfl]
    · rw [if_neg e, if_neg e]
      by_cases e1 : u = o
      · have e2 : ¬ o = p := by omega
        have : wr1 o p (some (decide (u = o))) = 1 := by
          unfold wr1
          rw [decide_eq_true e1, decide_eq_false e2]
          rfl
        rw [this, if_neg (c := o + 1 ≤ u ∧ u < o + 1 + k) (by omega), if_pos (c := o ≤ u ∧ u < o + (k + 1)) (by omega)]
        by_cases e3 : o + 1 ≤ p ∧ p < o + 1 + k
        · rw [if_pos e3, if_pos (by omega)]
        · rw [if_neg e3, if_neg (by omega)]
      · by_cases e2 : o = p
        · have : wr1 o p (some (decide (u = o))) = 1 := by
            unfold wr1
            rw [decide_eq_false e1, decide_eq_true e2]
            rfl
          rw [this, if_neg (c := o + 1 ≤ p ∧ p < o + 1 + k) (by omega), if_pos (c := o ≤ p ∧ p < o + (k + 1)) (by omega)]
          by_cases e3 : o + 1 ≤ u ∧ u < o + 1 + k
          · rw [if_pos e3, if_pos (by omega)]
          · rw [if_neg e3, if_neg (by omega)]
        · have : wr1 o p (some (decide (u = o))) = 0 := by
            unfold wr1
            rw [decide_eq_false e1, decide_eq_false e2]
            rfl
          rw [this]
          by_cases e3 : o + 1 ≤ u ∧ u < o + 1 + k
          · rw [if_pos e3, if_pos (c := o ≤ u ∧ u < o + (k + 1)) (by omega)]
            by_cases e4 : o + 1 ≤ p ∧ p < o + 1 + k
            · rw [if_pos e4, if_pos (by omega)]
            · rw [if_neg e4, if_neg (by omega)]
          · rw [if_neg e3, if_neg (c := o ≤ u ∧ u < o + (k + 1)) (by omega)]
            by_cases e4 : o + 1 ≤ p ∧ p < o + 1 + k
            · rw [if_pos e4, if_pos (by omega)]
            · rw [if_neg e4, if_neg (by omega)]
/-- three words are wrong, or none -/
theorem right_cost {hs : List Nat} (t : IsTree hs) {b p : Nat} (b1 : 1 ≤ b) (b2 : b ≤ hs.length) (hp : p ≤ hs.length) : costN (rightU hs) (rightL hs) b p = if up hs b = p then 0 else 3 := by
  unfold costN
  have hb : b - 1 < hs.length := by omega
  have eu : up hs b = hs[b - 1] := by
    unfold up
    rw [if_neg (by omega), List.getD_eq_getElem?_getD, List.getElem?_eq_getElem hb]
    rfl
  have hu : up hs b ≤ hs.length := by
    rw [eu]
    exact t.le _ (List.getElem_mem hb)
  have e1 : up1 (rightU hs) b p = if up hs b = p then 0 else 1 := by
    unfold up1 rightU
    rw [List.getElem?_map, List.getElem?_eq_getElem hb, eu]
    rfl
  rw [e1, right_col b1 b2, List.range_eq_range', sumW_range]
  by_cases e : up hs b = p
  · rw [if_pos e, if_pos e, if_pos e]
  · rw [if_neg e, if_neg e, if_neg e, if_pos ⟨by omega, by omega⟩, if_pos ⟨by omega, by omega⟩]
/-- all blocks' costs -/
def wrongN (us : List (Option Nat)) (ls : List (List (Option Bool))) : Nat → List Nat → Nat
  | _, [] => 0
  | b, p :: r => costN us ls b p + wrongN us ls (b + 1) r
theorem wrongN_snoc (us : List (Option Nat)) (ls : List (List (Option Bool))) : ∀ (b : Nat) (hs : List Nat) (p : Nat), wrongN us ls b (hs ++ [p]) = wrongN us ls b hs + costN us ls (b + hs.length) p
  | b, [], p => by simp [wrongN]
  | b, h :: r, p => by
    have ih := wrongN_snoc us ls (b + 1) r p
    rw [List.cons_append]
    unfold wrongN
    rw [ih, List.length_cons, show b + 1 + r.length = b + (r.length + 1) by omega]
    omega
theorem wrongN_set (us : List (Option Nat)) (ls : List (List (Option Bool))) : ∀ (hs : List Nat) (b i p : Nat), i < hs.length → wrongN us ls b (hs.set i p) + costN us ls (b + i) (hs.getD i 0) = wrongN us ls b hs + costN us ls (b + i) p
  | [], b, i, p, h => absurd h (Nat.not_lt_zero _)
  | x :: r, b, 0, p, _ => by
    simp only [List.set_cons_zero, wrongN, Nat.add_zero, List.getD_cons_zero]
    omega
  | x :: r, b, i + 1, p, h => by
    have ih := wrongN_set us ls r (b + 1) i p (by rw [List.length_cons] at h; omega)
    simp only [List.set_cons_succ, wrongN, List.getD_cons_succ]
    rw [show b + (i + 1) = b + 1 + i by omega]
    omega
/-- blocks that hang elsewhere -/
def apartN : List Nat → List Nat → Nat
  | a :: r, b :: s => (if a = b then 0 else 1) + apartN r s
  | _, _ => 0
theorem right_wrong {hs : List Nat} (t : IsTree hs) : ∀ (gs : List Nat) (b : Nat), 1 ≤ b → b - 1 + gs.length ≤ hs.length → (∀ g ∈ gs, g ≤ hs.length) → wrongN (rightU hs) (rightL hs) b gs = 3 * apartN (hs.drop (b - 1)) gs
  | [], b, _, _, _ => by
    unfold wrongN
    cases hs.drop (b - 1) <;> rfl
  | g :: r, b, b1, h, hg => by
    rw [List.length_cons] at h
    have hb : b - 1 < hs.length := by omega
    have ih := right_wrong t r (b + 1) (by omega) (by omega) fun x hx => hg x (List.mem_cons_of_mem _ hx)
    have eu : up hs b = hs[b - 1] := by
      unfold up
      rw [if_neg (by omega), List.getD_eq_getElem?_getD, List.getElem?_eq_getElem hb]
      rfl
    unfold wrongN
    rw [ih, right_cost t b1 (by omega) (hg g List.mem_cons_self), List.drop_eq_getElem_cons hb, show b + 1 - 1 = b - 1 + 1 by omega]
    show _ = 3 * ((if hs[b - 1] = g then 0 else 1) + apartN (hs.drop (b - 1 + 1)) r)
    rw [eu]
    by_cases e : hs[b - 1] = g
    · rw [if_pos e, if_pos e]
      omega
    · rw [if_neg e, if_neg e]
      omega
theorem apartN_self : ∀ hs : List Nat, apartN hs hs = 0
  | [] => rfl
  | a :: r => by
    unfold apartN
    rw [if_pos rfl, apartN_self r]
theorem wrongN_le (us : List (Option Nat)) (ls : List (List (Option Bool))) : ∀ (b : Nat) (hs : List Nat), wrongN us ls b hs ≤ hs.length * (ls.length + 1)
  | b, [] => by simp [wrongN]
  | b, h :: r => by
    have ih := wrongN_le us ls (b + 1) r
    have := costN_le us ls b h
    unfold wrongN
    rw [List.length_cons, Nat.succ_mul]
    omega
end Fv
/-! votes; nothing of the program here -/
namespace Fv
/-- the least cost of this block -/
structure MinIs (us : List (Option Nat)) (ls : List (List (Option Bool))) (n b m : Nat) : Prop where
  some : ∃ p, p ≤ n ∧ p ≠ b ∧ costN us ls b p = m
  all : ∀ p, p ≤ n → p ≠ b → m ≤ costN us ls b p
theorem MinIs.det {us : List (Option Nat)} {ls : List (List (Option Bool))} {n b m k : Nat} (h : MinIs us ls n b m) (g : MinIs us ls n b k) : m = k := by
  obtain ⟨p, hp, hb, e⟩ := h.some
  obtain ⟨q, hq, hc, f⟩ := g.some
  have h1 := h.all q hq hc
  have h2 := g.all p hp hb
  omega
/-- where it hangs at that cost -/
def plN (us : List (Option Nat)) (ls : List (List (Option Bool))) (b m k : Nat) : List Nat := (List.range k).filter fun p => decide (p ≠ b) && decide (costN us ls b p = m)
theorem plN_snoc (us : List (Option Nat)) (ls : List (List (Option Bool))) (b m k : Nat) : plN us ls b m (k + 1) = plN us ls b m k ++ if k ≠ b ∧ costN us ls b k = m then [k] else [] := by
  unfold plN
  rw [List.range_succ, List.filter_append]
  congr 1
  by_cases h : k ≠ b ∧ costN us ls b k = m
  · rw [if_pos h, List.filter_cons_of_pos (by rw [decide_eq_true h.1, decide_eq_true h.2]; rfl), List.filter_nil]
  · rw [if_neg h, List.filter_cons_of_neg, List.filter_nil]
    rw [Bool.and_eq_true, decide_eq_true_eq, decide_eq_true_eq]
    exact h
theorem plN_len (us : List (Option Nat)) (ls : List (List (Option Bool))) (b m k : Nat) : (plN us ls b m k).length ≤ k := by
  unfold plN
  exact Nat.le_trans (List.length_filter_le _ _) (Nat.le_of_eq List.length_range)
/-- the costs but at the block itself -/
def csN (us : List (Option Nat)) (ls : List (List (Option Bool))) (b k : Nat) : List Nat := ((List.range k).filter fun p => decide (p ≠ b)).map (costN us ls b)
theorem csN_snoc (us : List (Option Nat)) (ls : List (List (Option Bool))) (b k : Nat) : csN us ls b (k + 1) = csN us ls b k ++ if k = b then [] else [costN us ls b k] := by
  unfold csN
  rw [List.range_succ, List.filter_append, List.map_append]
  congr 1
  by_cases h : k = b
  · rw [if_pos h, List.filter_cons_of_neg (by rw [decide_eq_true_eq]; exact fun z => z h), List.filter_nil, List.map_nil]
  · rw [if_neg h, List.filter_cons_of_pos (by rw [decide_eq_true_eq]; exact h), List.filter_nil, List.map_cons, List.map_nil]
theorem csN_len (us : List (Option Nat)) (ls : List (List (Option Bool))) (b k : Nat) : (csN us ls b k).length ≤ k := by
  unfold csN
  rw [List.length_map]
  exact Nat.le_trans (List.length_filter_le _ _) (Nat.le_of_eq List.length_range)
theorem csN_min {us : List (Option Nat)} {ls : List (List (Option Bool))} {n b m : Nat} (h : m ∈ csN us ls b (n + 1)) (a : ∀ y ∈ csN us ls b (n + 1), m ≤ y) : MinIs us ls n b m := by
  have mem : ∀ y, y ∈ csN us ls b (n + 1) ↔ ∃ p, p ≤ n ∧ p ≠ b ∧ costN us ls b p = y := fun y => by
    unfold csN
    rw [List.mem_map]
    constructor
    · rintro ⟨p, hp, e⟩
      rw [List.mem_filter, List.mem_range, decide_eq_true_eq] at hp
      exact ⟨p, by omega, hp.2, e⟩
    · rintro ⟨p, hp, hb, e⟩
      refine ⟨p, ?_, e⟩
      rw [List.mem_filter, List.mem_range, decide_eq_true_eq]
      exact ⟨by omega, hb⟩
  exact ⟨(mem m).mp h, fun p hp hb => a _ ((mem _).mpr ⟨p, hp, hb, rfl⟩)⟩
theorem csN_pos {us : List (Option Nat)} {ls : List (List (Option Bool))} {n b : Nat} (b1 : 1 ≤ b) : 0 < (csN us ls b (n + 1)).length := by
  unfold csN
  rw [List.length_map]
  refine List.length_pos_of_mem (a := 0) ?_
  rw [List.mem_filter, List.mem_range, decide_eq_true_eq]
  omega
end Fv
set_option maxRecDepth 100000
set_option maxHeartbeats 1000000
namespace Fv
open PySem PySem.Spec PyProof.Rows L2 RZ
theorem pi_zipAK {X : Cx} {K : PySem.W.Frag} {e e2 : Expr} {ta : TA} {p pos tpos : Pos} {elts : List Expr} {kk : Nat} (eK : X.K = K) (hg : Gl X "zip") (hm : X.mg "zip" = none) (ha : PA X [e, e2] ta)
    (hs : starEach [e, e2] X.env = (false, eval e X.env) :: starEach [e2] X.env := by rfl) (hpl : (backTo pos (starEach [e2] X.env)).any (·.1) = false := by rfl) :
    PI X (.Tuple elts kk tpos) (.Call (.Name "zip" p) [e, e2] [] pos) (iZipA K ta) := by
  subst eK
  exact pi_zipA hg hm ha hs hpl
theorem x_zipA {K : PySem.W.Frag} {σ : L2.St} {H : Hp} {R : It → Hp → Prop} {ts : TA} (h : ts σ H fun vs H1 => ∃ a b xs ys, vs = [.ref a, .ref b] ∧ ((SqL K H1 a xs ∧ SqL K H1 b ys ∧ R (Itz K a b) H1) ∨ (SqT K H1 a xs ∧ SqT K H1 b ys ∧ R (ItzT K a b) H1))) : iZipA K ts σ H R := h
theorem lc_zipT {K : PySem.W.Frag} {a b : Addr} {xs ys : List V} (hxy : xs.length = ys.length) {g : TG} {tt : TT} {te : TE} {vs : List Nat} {σ : L2.St} {H1 : Hp} {D : Addr} {Qd : Hp → Prop} (Pv : Nat → Hp → Prop) (h0 : Pv 0 (upd H1 D (.lst []))) (hl : ∀ i H, i ≤ xs.length → Pv i H → SqT K H a xs ∧ SqT K H b ys)
    (hs : ∀ i x y H T, xs[i]? = some x → ys[i]? = some y → Pv i H → H T = none → g (.ref T) (wipe σ vs) (upd H T (.tup [x, y])) fun σ2 H2 => wipe σ2 vs = wipe σ vs ∧ tt σ2 H2 fun b H3 =>
      if b = true then te σ2 H3 fun y H4 => ∃ acc, H4 D = some (.lst acc) ∧ acc.length < sizeLine ∧ Pv (i + 1) (upd H4 D (.lst (acc ++ [y]))) else Pv (i + 1) H3) (hd : ∀ H, Pv xs.length H → Qd H) :
    ∃ W : Nat → Nat → Hp → Prop, (∃ m, W 0 m (upd H1 D (.lst []))) ∧ ∀ i m H, W i m H → ((ItzT K a b).stop i H ∧ Qd H) ∨ ((ItzT K a b).go i H ∧ ∃ Nx : Hp → Prop, (∀ H', Nx H' → ∃ m', m' < m ∧ W (i + 1) m' H') ∧ ∀ x H', (ItzT K a b).yld i H x H' → g x (wipe σ vs) H' fun σ2 H2 => wipe σ2 vs = wipe σ vs ∧ tt σ2 H2 fun b H3 =>
        if b = true then te σ2 H3 fun y H4 => ∃ acc, H4 D = some (.lst acc) ∧ acc.length < sizeLine ∧ Nx (upd H4 D (.lst (acc ++ [y]))) else Nx H3) := by
  refine ⟨fun i m H => m = xs.length - i ∧ i ≤ xs.length ∧ Pv i H, ⟨_, rfl, Nat.zero_le _, h0⟩, ?_⟩
  rintro i m H ⟨rfl, hi, p⟩
  obtain ⟨q, r⟩ := hl i H hi p
  by_cases hlt : i < xs.length
  · have hlt2 : i < ys.length := by omega
    refine .inr ⟨⟨xs, ys, xs[i], ys[i], q, r, List.getElem?_eq_getElem hlt, List.getElem?_eq_getElem hlt2⟩, Pv (i + 1), fun H' p' => ⟨_, by omega, rfl, hlt, p'⟩, fun x H' y => ?_⟩
    obtain ⟨T, z, u, rfl, hT, rfl, hz, hu⟩ := y
    exact hs i z u H T (hz xs q) (hu ys r) p hT
  · have e : i = xs.length := by omega
    subst e
    exact .inl ⟨⟨xs, ys, q, r, .inl (Nat.le_refl _)⟩, hd H p⟩
/-! words as data -/
def wD : Option Bool → PyData
  | none => .none
  | some b => .bool b
def uD : Option Nat → PyData
  | none => .none
  | some q => .int (Int.ofNat q)
def dw (c : List (Option Bool)) : List PyData := c.map wD
def du (c : List (Option Nat)) : List PyData := c.map uD
def dls (ls : List (List (Option Bool))) : List PyData := ls.map fun r => .tuple (dw r)
theorem dw_lay : ∀ c, PyData.canLayAll0 (dw c) = true
  | [] => rfl
  | a :: l => by
    show (PyData.canLay0 (wD a) && PyData.canLayAll0 (dw l)) = true
    rw [dw_lay l]
    cases a <;> rfl
theorem dw_depth : ∀ c, PyData.depthAll (dw c) = 0
  | [] => rfl
  | a :: l => by
    show max (PyData.depth (wD a)) (PyData.depthAll (dw l)) = 0
    rw [dw_depth l]
    cases a <;> rfl
theorem dw_eqv : ∀ c, PyData.eqvAll (dw c) (dw c) = true
  | [] => by simp [dw, PyData.eqvAll]
  | a :: l => by
    show PyData.eqvAll (wD a :: dw l) (wD a :: dw l) = true
    rw [PyData.eqvAll, dw_eqv l]
    cases a with
    | none => simp [wD, PyData.eqv]
    | some b => cases b <;> simp [wD, PyData.eqv]
theorem du_lay : ∀ c, PyData.canLayAll0 (du c) = true
  | [] => rfl
  | a :: l => by
    show (PyData.canLay0 (uD a) && PyData.canLayAll0 (du l)) = true
    rw [du_lay l]
    cases a <;> rfl
theorem du_depth : ∀ c, PyData.depthAll (du c) = 0
  | [] => rfl
  | a :: l => by
    show max (PyData.depth (uD a)) (PyData.depthAll (du l)) = 0
    rw [du_depth l]
    cases a <;> rfl
theorem du_eqv : ∀ c, PyData.eqvAll (du c) (du c) = true
  | [] => by simp [du, PyData.eqvAll]
  | a :: l => by
    show PyData.eqvAll (uD a :: du l) (uD a :: du l) = true
    rw [PyData.eqvAll, du_eqv l]
    cases a with
    | none => simp [uD, PyData.eqv]
    | some b => simp [uD, PyData.eqv]
theorem dls_lay : ∀ c, PyData.canLayAll0 (dls c) = true
  | [] => rfl
  | a :: l => by
    show (PyData.canLayAll0 (dw a) && PyData.canLayAll0 (dls l)) = true
    rw [dls_lay l, dw_lay]
    rfl
theorem dls_depth : ∀ c, PyData.depthAll (dls c) ≤ 1
  | [] => Nat.zero_le _
  | a :: l => by
    show max (PyData.depthAll (dw a) + 1) (PyData.depthAll (dls l)) ≤ 1
    have := dls_depth l
    rw [dw_depth]
    omega
theorem dls_eqv : ∀ c, PyData.eqvAll (dls c) (dls c) = true
  | [] => by simp [dls, PyData.eqvAll]
  | a :: l => by
    show PyData.eqvAll (.tuple (dw a) :: dls l) (.tuple (dw a) :: dls l) = true
    rw [PyData.eqvAll, dls_eqv l, PyData.eqv, dw_eqv]
    rfl
def wordsPD (us : List (Option Nat)) (ls : List (List (Option Bool))) : PyData := .tuple [.tuple (du us), .tuple (dls ls)]
theorem wordsPD_shaped (us : List (Option Nat)) (ls : List (List (Option Bool))) : SeqAt.shaped (wordsPD us ls) = true := by
  show (PyData.canLayAll0 [.tuple (du us), .tuple (dls ls)] && decide (PyData.depthAll [.tuple (du us), .tuple (dls ls)] + 1 ≤ 64)) = true
  have e1 : PyData.canLayAll0 [.tuple (du us), .tuple (dls ls)] = true := by
    show (PyData.canLayAll0 (du us) && (PyData.canLayAll0 (dls ls) && true)) = true
    rw [du_lay, dls_lay]
    rfl
  have e2 : PyData.depthAll [.tuple (du us), .tuple (dls ls)] + 1 ≤ 64 := by
    show max (PyData.depthAll (du us) + 1) (max (PyData.depthAll (dls ls) + 1) 0) + 1 ≤ 64
    have := dls_depth ls
    rw [du_depth]
    omega
  rw [e1, decide_eq_true e2]
  rfl
theorem wordsPD_eqv (us : List (Option Nat)) (ls : List (List (Option Bool))) : PyData.eqv (wordsPD us ls) (wordsPD us ls) = true := by
  show PyData.eqv (.tuple [.tuple (du us), .tuple (dls ls)]) (.tuple [.tuple (du us), .tuple (dls ls)]) = _
  rw [PyData.eqv, PyData.eqvAll, PyData.eqvAll, PyData.eqvAll, PyData.eqv, PyData.eqv, du_eqv, dls_eqv]
  rfl
theorem dpAll_wds {K : PySem.W.Frag} {H : Hp} : ∀ c : List (Option Bool), DpAll K H (wds c) (dw c)
  | [] => .nil
  | none :: l => .cons .non (dpAll_wds l)
  | some b :: l => .cons (.bl b) (dpAll_wds l)
theorem dpAll_upvs {K : PySem.W.Frag} {H : Hp} : ∀ c : List (Option Nat), DpAll K H (upvs c) (du c)
  | [] => .nil
  | none :: l => .cons .non (dpAll_upvs l)
  | some b :: l => .cons (.int _) (dpAll_upvs l)
theorem apartN_snoc : ∀ {l m : List Nat} (a b : Nat), l.length = m.length → apartN (l ++ [a]) (m ++ [b]) = apartN l m + if a = b then 0 else 1
  | [], [], a, b, _ => by
    show (if a = b then 0 else 1) + 0 = 0 + _
    omega
  | [], _ :: _, _, _, h => by simp at h
  | _ :: _, [], _, _, h => by simp at h
  | x :: l, y :: m, a, b, h => by
    have ih := apartN_snoc (l := l) (m := m) a b (by simpa using h)
    show (if x = y then 0 else 1) + apartN (l ++ [a]) (m ++ [b]) = (if x = y then 0 else 1) + apartN l m + _
    rw [ih]
    omega
theorem apartN_le : ∀ (l m : List Nat) (k : Nat), l.length ≤ k → apartN l m ≤ k
  | [], m, k, _ => by
    cases m <;> exact Nat.zero_le _
  | _ :: _, [], k, _ => Nat.zero_le _
  | x :: l, y :: m, 0, h => absurd h (by rw [List.length_cons]; omega)
  | x :: l, y :: m, k + 1, h => by
    have ih := apartN_le l m k (by rw [List.length_cons] at h; omega)
    show (if x = y then 0 else 1) + apartN l m ≤ k + 1
    split <;> omega
end Fv
set_option maxRecDepth 100000
set_option maxHeartbeats 1000000
namespace Fv
open PySem PySem.Spec PyProof.Rows L2
/-! lists of lists of pairs that are written in turn -/
def TsAt (H : Hp) (as : List Addr) (g : Nat → List (Nat × Nat)) : Prop := ∀ p a, as[p]? = some a → ∃ vs, H a = some (.lst vs) ∧ PrsV H vs (g p)
theorem TsAt.same {H H' : Hp} {as : List Addr} {g : Nat → List (Nat × Nat)} (s : Same H H') (h : TsAt H as g) : TsAt H' as g := fun p a e => by
  obtain ⟨vs, h1, h2⟩ := h p a e
  exact ⟨vs, s _ _ h1, h2.same s⟩
theorem TsAt.mut {H : Hp} {as : List Addr} {g : Nat → List (Nat × Nat)} {q : Addr} {ys : List V} {o : HO} (hq : H q = some (.lst ys)) (n : q ∉ as) (h : TsAt H as g) : TsAt (upd H q o) as g := fun p a e => by
  obtain ⟨vs, h1, h2⟩ := h p a e
  exact ⟨vs, keepM (fun z => n (by rw [← z]; exact List.mem_of_getElem? e)) h1, h2.mut hq⟩
theorem TsAt.congr {H : Hp} {as : List Addr} {g g' : Nat → List (Nat × Nat)} (e : ∀ p, p < as.length → g p = g' p) (h : TsAt H as g) : TsAt H as g' := fun p a ha => by
  rw [← e p (List.getElem?_eq_some_iff.mp ha).1]
  exact h p a ha
theorem TsAt.step {H : Hp} {as : List Addr} {g : Nat → List (Nat × Nat)} {q : Nat} {a U : Addr} {vs : List V} {x : Nat × Nat} (hn : as.Nodup) (h : TsAt H as g) (ha : as[q]? = some a) (hU : H U = some (.tup [.int (x.1 : Nat), .int (x.2 : Nat)])) (hv : H a = some (.lst vs)) (hp : PrsV H vs (g q)) :
    TsAt (upd H a (.lst (vs ++ [.ref U]))) as (fun p => g p ++ if p = q then [x] else []) := fun p b e => by
  have nUa : U ≠ a := fun z => by
    rw [z, hv] at hU
    cases hU
  by_cases hpq : p = q
  · subst hpq
    rw [ha] at e
    cases e
    refine ⟨_, upd_same, ?_⟩
    dsimp only
    rw [if_pos rfl]
    exact (hp.mut hv).app ⟨⟨U, rfl, keepM nUa hU⟩, True.intro⟩
  · obtain ⟨ws, h1, h2⟩ := h p b e
    refine ⟨ws, keepM (fun z => hpq ?_) h1, ?_⟩
    · subst z
      exact (List.getElem?_inj (List.getElem?_eq_some_iff.mp e).1 hn).mp (e.trans ha.symm)
    · dsimp only
      rw [if_neg hpq, List.append_nil]
      exact h2.mut hv
theorem refs_at {as : List Addr} {p : Nat} {a : Addr} (e : as[p]? = some a) : atI (as.map V.ref) (p : Int) = some (.ref a) := by
  refine atI_nat ?_
  rw [List.getElem?_map, e]
  rfl
theorem cr_sortedK {X : Cx} {K : PySem.W.Frag} (e : X.K = K) : CallR X (.builtin "sorted") (rSorted K) := by
  subst e
  exact cr_sorted
end Fv
set_option maxRecDepth 100000
set_option maxHeartbeats 1000000
namespace Fv
open PySem PySem.Spec PyProof.Rows L2
section
variable {K : PySem.W.Frag} {H : Hp} {Q : VK} {a : Addr} {l : List Nat} {k : Nat}
theorem x_ninNT (h : SqT K H a (nats l)) (q : Q (.bl (!decide (k ∈ l))) H) : rIn K true (.int k) (.ref a) H Q := by
  refine ⟨a, _, rfl, .inr h, rfl, flat_nats l, ?_⟩
  show Q (.bl (!inV (.int k) (nats l))) H
  rw [in_nats]
  exact q
theorem x_ninNL (h : SqL K H a (nats l)) (q : Q (.bl (!decide (k ∈ l))) H) : rIn K true (.int k) (.ref a) H Q := by
  refine ⟨a, _, rfl, .inl h, rfl, flat_nats l, ?_⟩
  show Q (.bl (!inV (.int k) (nats l))) H
  rw [in_nats]
  exact q
/-- whole numbers in order -/
theorem x_sortN {ys : List Nat} (h : SqL K H a (nats l)) (hl : l.length < 64) (hp : l.Perm ys) (hs : ys.Pairwise (· < ·)) (q : ∀ p, H p = none → Q (.ref p) (upd H p (.lst (nats ys)))) : rSorted K [.ref a] H Q := by
  refine ⟨a, l.map fun (k : Nat) => (k : Int), rfl, by rw [nats_ints]; exact h, by rw [List.length_map]; exact hl, fun zs p hz hw hn => ?_⟩
  have e : zs = ys.map fun (k : Nat) => (k : Int) := by
    refine (hz.trans (hp.map _)).eq_of_pairwise (fun a b _ _ h1 h2 => Int.le_antisymm h1 h2) hw ?_
    rw [List.pairwise_map]
    refine hs.imp fun {x y} hxy => ?_
    omega
  rw [e, nats_ints]
  exact q p hn
theorem put_same {hs : List Nat} {b : Nat} (h1 : 1 ≤ b) (h2 : b ≤ hs.length) : put hs b (up hs b) = hs := by
  refine same_ups (put_len _ _ _) fun k _ _ => ?_
  rw [up_put h1 h2]
  split
  · rename_i e
    rw [e]
  · rfl
end
end Fv
set_option maxRecDepth 100000
set_option maxHeartbeats 4000000
namespace Fv
open PySem PySem.Spec PyProof.Rows L2
/-! t * k, k any number -/
theorem tuple_mulW1 (l : Addr) (items : Array Value) (n : Nat) (dd : Option Addr) (sl : Array (Option Value)) (u : Tok) :
    Meets (Builtin.«tuple.__mul__» ⟨[.ref l, .int 1 u], []⟩) (fun _ R s => s.heap.get? l = some { cls := .type "tuple", dict := dd, data := .seq items n, slots := sl } ∧ R (.ok (.ret (Value.ref l))) s) :=
  .of_wp fun prog w A R s h => by
    obtain ⟨hp, g, d, tk, os⟩ := s
    obtain ⟨hl, h⟩ := h
    have f1 := AutoSeq1.idx_int
    have c1 : (items.isEmpty || (1 : Int) == 1) = true := by rw [Bool.or_eq_true]; exact .inr rfl
    wp_walk using wpAny_loadPart' hl
    repeat (first
      | (refine wpAny_ite_true (decide_eq_true c1) ?_; wp_walk using wpAny_loadPart' hl)
      | (refine wpAny_ite_false (by decide) ?_; wp_walk using wpAny_loadPart' hl))
    exact ⟨_, rfl, h⟩
theorem tuple_mulW0 (l : Addr) (items : Array Value) (n : Nat) (dd : Option Addr) (sl : Array (Option Value)) (x : Int) (u : Tok) (c0 : (decide (x < -(2 ^ 63)) || decide (x ≥ 2 ^ 63)) = false) (c1 : (items.isEmpty || x == 1) = false) (c2 : (decide (x ≤ 0) || items.isEmpty) = true) :
    Meets (Builtin.«tuple.__mul__» ⟨[.ref l, .int x u], []⟩) (fun _ R s => s.heap.get? l = some { cls := .type "tuple", dict := dd, data := .seq items n, slots := sl } ∧
      R (.ok (.ret (Value.ref s.heap.objs.size))) { s with heap := s.heap.push { cls := Value.type "tuple", data := Data.seq #[] }, toks := s.toks }) :=
  .of_wp fun prog w A R s h => by
    obtain ⟨hp, g, d, tk, os⟩ := s
    obtain ⟨hl, h⟩ := h
    have f1 := AutoSeq1.idx_int
    wp_walk using wpAny_loadPart' hl
    repeat (first
      | (refine wpAny_ite_false (decide_eq_false (by rw [c0]; exact Bool.false_ne_true)) ?_; wp_walk using wpAny_loadPart' hl)
      | (refine wpAny_ite_false (decide_eq_false (by rw [c1]; exact Bool.false_ne_true)) ?_; wp_walk using wpAny_loadPart' hl)
      | (refine wpAny_ite_true (decide_eq_true c2) ?_; wp_walk using wpAny_loadPart' hl)
      | (refine wpAny_ite_false (by decide) ?_; wp_walk using wpAny_loadPart' hl))
    exact ⟨_, rfl, h⟩
def rRepA (K : PySem.W.Frag) : R2 := fun x y H Q => ∃ (l : Addr) (k : Int) (xs : List V), x = .ref l ∧ y = .int k ∧ SqT K H l xs ∧ xs ≠ [] ∧ -1000 ≤ k ∧ k ≤ 1000 ∧ xs.length ≤ 1000 ∧ (k = 1 → Q (.ref l) H) ∧ (k ≤ 0 → ∀ p, H p = none → Q (.ref p) (upd H p (.tup []))) ∧ (2 ≤ k → ∀ p, H p = none → Q (.ref p) (upd H p (.tup (List.replicate k.toNat xs).flatten)))
theorem op_repA {X : Cx} : OpR X (binaryOp .Mult) (rRepA X.K) := by
  intro pins s σ H x y v u Q I rx ry h
  obtain ⟨l, k, xs, rfl, rfl, hT, hne, h1, h2, hz, q1, q0, q2⟩ := h
  by_cases hk : 2 ≤ k
  · exact op_repT pins s σ H _ _ v u Q I rx ry ⟨l, k, xs, rfl, rfl, hT, hne, hk, h2, hz, q2 hk⟩
  cases rx
  obtain ⟨t, rfl⟩ := ry
  obtain ⟨its, r, ⟨⟨cls, dd, data, sl⟩, ho, hc, n, hd⟩, hs⟩ := I.tuple hT
  simp only at hc hd
  subst hc hd
  have hle : its.length = xs.length := r.length.symm
  have hn : its ≠ [] := fun e => hne (by
    rw [e] at hle
    exact List.eq_nil_of_length_eq_zero hle.symm)
  have hi : its.toArray.isEmpty = false := by
    cases its with
    | nil => exact absurd rfl hn
    | cons a b => rfl
  by_cases k1 : k = 1
  · subst k1
    exact wpAny_binaryOp_repeat_ref (T := "tuple") (U := "int") (by decide) ⟨_, ho, rfl⟩ (fun s' => typeIs_int s' 1 t) noFill_tuple_mul F.fills_int_mul F.slot_int_rmul repeat_tuple F.slot_int_index.lookup
      (call_meets F.slot_int_rmul (typeIs_int s 1 t) F.entry_int_rmul (F.args_int_rmul_2 _ _) (int_rmul_tuple 1 t l its.toArray n dd sl)
        ⟨ho, rfl, ⟨_, ho, rfl⟩, call_meets F.slot_tuple_mul ⟨_, ho, rfl⟩ F.entry_tuple_mul (F.args_tuple_mul_2 _ _) (tuple_mulW1 l its.toArray n dd sl t) ⟨ho, .ref l, H, I, rfl, q1 rfl⟩⟩)
  · have c0 : (decide (k < -(2 ^ 63)) || decide (k ≥ 2 ^ 63)) = false := by
      rw [decide_eq_false (by omega), decide_eq_false (by omega)] <;> rfl
    have c1 : (its.toArray.isEmpty || k == 1) = false := by
      rw [hi, Bool.false_or]
      exact beq_eq_false_iff_ne.mpr (by omega)
    have c2 : (decide (k ≤ 0) || its.toArray.isEmpty) = true := by
      rw [decide_eq_true (show k ≤ 0 by omega)]
      rfl
    refine wpAny_binaryOp_repeat_ref (T := "tuple") (U := "int") (by decide) ⟨_, ho, rfl⟩ (fun s' => typeIs_int s' k t) noFill_tuple_mul F.fills_int_mul F.slot_int_rmul repeat_tuple F.slot_int_index.lookup
      (call_meets F.slot_int_rmul (typeIs_int s k t) F.entry_int_rmul (F.args_int_rmul_2 _ _) (int_rmul_tuple k t l its.toArray n dd sl)
        ⟨ho, rfl, ⟨_, ho, rfl⟩, call_meets F.slot_tuple_mul ⟨_, ho, rfl⟩ F.entry_tuple_mul (F.args_tuple_mul_2 _ _) (tuple_mulW0 l its.toArray n dd sl k t c0 c1 c2) ⟨ho, ?_⟩⟩)
    refine ⟨.ref s.heap.objs.size, _, I.laid (t' := s.toks) (o := .tup []) (fun b ob q => Heap.get?_push_of_some _ q) (Nat.le_refl _) ?_, rfl, q0 (by omega) _ (I.hok.fresh (Nat.le_refl _))⟩
    exact ⟨Nat.zero_le _, [], .nil, IsTup.new _ _⟩
theorem op_repAK {X : Cx} {K : PySem.W.Frag} (e : X.K = K) : OpR X (binaryOp .Mult) (rRepA K) := by
  subst e
  exact op_repA
section
variable {K : PySem.W.Frag} {H : Hp} {Q : VK} {a : Addr} {v : V}
/-- (v,) * k -/
theorem x_repA1 {k : Int} (h : H a = some (.tup [v])) (h1 : -1000 ≤ k) (h2 : k ≤ 1000) (q : ∀ p H', Same H H' → H' p = some (.tup (List.replicate k.toNat v)) → Q (.ref p) H') : rRepA K (.ref a) (.int k) H Q := by
  refine ⟨a, k, [v], rfl, rfl, .of h, by simp, h1, h2, (by show 1 ≤ 1000; decide), fun e => ?_, fun e p hp => ?_, fun e p hp => ?_⟩
  · subst e
    exact q a H (Same.refl _) h
  · refine q p _ (same_new (Same.refl _) hp) ?_
    rw [upd_same, show k.toNat = 0 by omega]
    rfl
  · refine q p _ (same_new (Same.refl _) hp) ?_
    rw [upd_same, rep_one]
end
end Fv
set_option maxRecDepth 100000
set_option maxHeartbeats 1000000
namespace Fv
open PySem PySem.Spec PyProof.Rows L2
section
variable {P : Program} {w : World} {K : PySem.W.Frag} {mg : Str → Option Value} {base : Heap} {k : Nat} {f : Addr} {fd : FuncData} {ps : List Str} {sp sp' : Sp}
/-- from which nothing comes out serves where something may -/
theorem fnUp (G : FnOk P w K mg base CX0 k f fd ps sp) : FnOk P w K mg base (L2.CX P w) k f fd ps sp :=
  ⟨G.len, fun A outer s H args us vs Q E hr e0 hb r h => codeAny_mono (G.run A outer s H args us vs Q E hr e0 hb r h) fun r s' q => by
    cases r with
    | error e => exact (show False from q).elim
    | ok fl => cases fl <;> exact q⟩
/-- two promises of one def -/
theorem fnOr {CX : CXT} (G : FnOk P w K mg base CX k f fd ps sp) (G' : FnOk P w K mg base CX k f fd ps sp') : FnOk P w K mg base CX k f fd ps (fun vs H Q E => sp vs H Q E ∨ sp' vs H Q E) :=
  ⟨fun vs H Q E h => h.elim (G.len vs H Q E) (G'.len vs H Q E), fun A outer s H args us vs Q E hr e0 hb r h => h.elim (G.run A outer s H args us vs Q E hr e0 hb r) (G'.run A outer s H args us vs Q E hr e0 hb r)⟩
end
/-- isinstance(e, C), e the caught error without fields, whatever its class -/
def rIsM (K : PySem.W.Frag) (a : Addr) (cls : Value) (d : Option Addr) : List V → Hp → VK → Prop := fun xs H Q => ∃ (D : Addr) (c : V) (cv : Value) (b : Bool), cls = .ref D ∧ d = none ∧ L2.ExcC K D ∧ xs = [.ref a, c] ∧ (∀ u, RelV c u → u = cv) ∧ PySem.W.kitOne K (.ref D) cv = some b ∧ Q (.bl b) H
theorem call_isM {X : Cx} {K : PySem.W.Frag} {a : Addr} {oe : Obj} {cls : Value} {d : Option Addr} {pn : List (Addr × Obj)} (eK : X.K = K) (hz : Zc cls d oe) (hf : ∃ vs, oe.data = .fields vs) : CallR (X.suite a ((a, oe) :: pn)) (.builtin "isinstance") (rIsM K a cls d) := by
  subst eK
  intro pins s σ H xs us Q I r h
  obtain ⟨D, c, cv, b, rfl, rfl, hC, rfl, hcv, e, q⟩ := h
  exact call_isE hC hz hf pins s σ H _ us Q I r ⟨c, cv, b, rfl, hcv, e, q⟩
theorem mt_indexK {X : Cx} {K : PySem.W.Frag} (e : X.K = K) : MtR X "list.index" (rIndex K) := by
  subst e
  exact mt_index
section
variable {K : PySem.W.Frag} {H : Hp} {Q : VK} {a C dx : Addr} {fs : List (Str × V)}
theorem isi_insTuple (c : IsC K C) (nt : PySem.W.kitOne K (.ref C) (.type "tuple") = some false) (h : H a = some (.ins C dx fs)) (q : Q (.bl false) H) : rIsi K [.ref a, .ty "tuple"] H Q :=
  ⟨.ref a, .ty "tuple", .ref C, .type "tuple", false, rfl, .ty "tuple", .base (.ins h c.cl c.ha c.hn c.ht c.hm), nt, q⟩
end
end Fv
set_option maxRecDepth 100000
set_option maxHeartbeats 1000000
namespace Fv
open PySem PySem.Spec L2 PyProof.Rows
/-- isinstance(e, T), T a built-in class, e the caught error, which holds a field -/
def rIsFT (K : PySem.W.Frag) (D a : Addr) (cls : Value) (d : Option Addr) : List V → Hp → VK → Prop := fun xs H Q => ∃ (T : String) (dd : Addr) (fs : List (Str × V)), xs = [.ref a, .ty T] ∧ cls = .ref D ∧ d = some dd ∧ H dd = some (.xd fs) ∧ PySem.W.kitOne K (.ref D) (.type T) = some true ∧ Q (.bl true) H
theorem call_isFT {X : Cx} {a D : Addr} {oe : Obj} {cls : Value} {d : Option Addr} {pn : List (Addr × Obj)} (C : L2.ExcC X.K D) (hz : Zc cls d oe) (hf : ∃ vs, oe.data = .fields vs) : CallR (X.suite a ((a, oe) :: pn)) (.builtin "isinstance") (rIsFT X.K D a cls d) := by
  intro pins s σ H xs us Q I r h
  obtain ⟨B, dd, fs, rfl, rfl, rfl, ea, e, q⟩ := h
  cases r with
  | cons rx rr =>
    cases rr with
    | cons rt rr =>
      cases rr
      cases rx
      cases rt
      obtain ⟨hget, _⟩ := I.pin (a, oe) (List.mem_append.mpr (.inl List.mem_cons_self))
      obtain ⟨vs, hv⟩ := hf
      have hx : ObjOk X.prog X.w H s.heap dd (.xd fs) := I.hok dd _ ea
      obtain ⟨mA, hns, hr⟩ := hx
      obtain ⟨od, ho, hl⟩ := lookIn_ns hns
      have J : PySem.W.InstAt s.heap a oe D (some od) := ⟨hget, hz.1, by unfold PySem.W.notCls; rw [hv] <;> rfl, by rw [hz.2]; exact ho⟩
      have hcl : (PySem.W.clsIn X.K D).isSome = true := by
        obtain ⟨cd, hc, _⟩ := PySem.W.any_some C.hd
        rw [hc]
        rfl
      exact PySem.W.kia_one (PySem.W.kitx_exc hcl C.hg C.hk C.hs C.ha C.hn C.ht C.hm) I.kIn J e (fun z => nomatch z) fun tk => ⟨.bl true, H, I.kept (t' := tk) fun _ _ z => z, rfl, q⟩
theorem du_eqvD : ∀ c d : List (Option Nat), PyData.eqvAll (du c) (du d) = decide (c = d)
  | [], [] => by simp [du, PyData.eqvAll]
  | [], _ :: _ => by simp [du, PyData.eqvAll]
  | _ :: _, [] => by simp [du, PyData.eqvAll]
  | a :: l, b :: m => by
    show PyData.eqvAll (uD a :: du l) (uD b :: du m) = _
    rw [PyData.eqvAll, du_eqvD l m, Bool.eq_iff_iff]
    cases a <;> cases b <;> simp [uD, PyData.eqv]
    intro _
    omega
theorem dw_eqvD : ∀ c d : List (Option Bool), PyData.eqvAll (dw c) (dw d) = decide (c = d)
  | [], [] => by simp [dw, PyData.eqvAll]
  | [], _ :: _ => by simp [dw, PyData.eqvAll]
  | _ :: _, [] => by simp [dw, PyData.eqvAll]
  | a :: l, b :: m => by
    show PyData.eqvAll (wD a :: dw l) (wD b :: dw m) = _
    rw [PyData.eqvAll, dw_eqvD l m, Bool.eq_iff_iff]
    cases a <;> cases b <;> simp [wD, PyData.eqv]
theorem dls_eqvD : ∀ c d : List (List (Option Bool)), PyData.eqvAll (dls c) (dls d) = decide (c = d)
  | [], [] => by simp [dls, PyData.eqvAll]
  | [], _ :: _ => by simp [dls, PyData.eqvAll]
  | _ :: _, [] => by simp [dls, PyData.eqvAll]
  | a :: l, b :: m => by
    show PyData.eqvAll (.tuple (dw a) :: dls l) (.tuple (dw b) :: dls m) = _
    rw [PyData.eqvAll, dls_eqvD l m, PyData.eqv, dw_eqvD, Bool.eq_iff_iff]
    simp
/-! C(..) in the body of a try: what the cells hold is known in the suite -/
section
variable {X : Cx} {CX : CXT} {k : Nat} {f C : Addr} {fd : FuncData} {ps : List Str} {sp : Sp} {dvs : List V} {ds : List Value} {E : L2.St → XK} {x : Str} {p pos : Pos} {e : Expr} {es : List Expr} {t : TA}
theorem run_makeS {pins : List (Addr × Obj)} {σ : L2.St} {H : Hp} {s : Shared} {Q : VK} {us : List Value} {vs : List V} (M : Mk X.K C f) (F : FnOk X.prog X.w X.K X.mg X.base CX k f fd ps sp) (hr : Room (k + 1) X.A) (hb : Binds X.K fd ps ds) (hd : Vals dvs ds)
    (hx : L2.PassesAt CX X σ (E σ)) (I : Inv X pins σ H s) (r : Vals vs us)
    (h : ∀ x dx, H x = none → H dx = none → dx ≠ x → sp (.ref x :: (vs ++ dvs)) (upd (upd H dx (.own x)) x (.ins C dx [])) (fun v H2 => v = .non ∧ Q (.ref x) H2) (E σ)) :
    wpAny (model X.prog X.w) X.A (call (.ref C) us) (EP X pins σ Q) X.xe s := by
  have hq := h (s.heap.objs.size + 1) s.heap.objs.size (I.hok.fresh (Nat.le_succ _)) (I.hok.fresh (Nat.le_refl _)) (Nat.ne_of_lt (Nat.lt_succ_self _))
  have I2 := Inv.made (C := C) I
  have r2 : Vals (V.ref (s.heap.objs.size + 1) :: (vs ++ dvs)) (Value.ref (s.heap.objs.size + 1) :: (us ++ ds)) := .cons rfl (r.append hd)
  have hl : (Value.ref (s.heap.objs.size + 1) :: us ++ ds).length = ps.length := by
    have e := r2.length
    rw [F.len _ _ _ _ hq] at e
    exact e.symm
  refine wpAny_call (make_map (f := f) I.kIn M.makes M.init (beq_iff_eq.mp M.fn) (codeAny_mono (F.run _ X.stack _ _ ⟨Value.ref (s.heap.objs.size + 1) :: us, []⟩ (Value.ref (s.heap.objs.size + 1) :: (us ++ ds)) _ _ (E σ) (hr.make C us [])
    (I2.env0.make C us []) (hb _ (Value.ref (s.heap.objs.size + 1) :: us) I2.kIn hl) r2 hq) fun r s' hq' => ?_))
  cases r with
  | error e => exact hx pins _ _ e s' I2 hq'
  | ok fl =>
    cases fl with
    | ret u =>
      obtain ⟨v, H', I3, rv, ev, q3⟩ := I2.after hq'
      subst ev
      exact ⟨rv, ⟨V.ref (s.heap.objs.size + 1), H', I3, rfl, q3⟩⟩
    | next => exact False.elim hq'
    | brk => exact False.elim hq'
    | cont => exact False.elim hq'
def tMakeS (C : Addr) (sp : Sp) (dvs : List V) (E : L2.St → XK) (t : TA) : TE := fun σ H Q => t σ H fun vs H1 => ∀ x dx, H1 x = none → H1 dx = none → dx ≠ x → sp (.ref x :: (vs ++ dvs)) (upd (upd H1 dx (.own x)) x (.ins C dx [])) (fun v H2 => v = .non ∧ Q (.ref x) H2) (E σ)
theorem pe_makeS (M : Mk X.K C f) (F : FnOk X.prog X.w X.K X.mg X.base CX k f fd ps sp) (hr : Room (k + 1) X.A) (hg : Gl X x) (hm : X.mg x = some (.ref C)) (hb : Binds X.K fd ps ds) (hd : Vals dvs ds) (hx : ∀ σ, L2.PassesAt CX X σ (E σ))
    (ha : PA X (e :: es) t) (hdb : (x == ("__debug__" : Str)) = false := by decide) (he : starEach (e :: es) X.env = (false, eval e X.env) :: starEach es X.env := by rfl) (hpl : (backTo pos (starEach es X.env)).any (·.1) = false := by rfl) :
    PE X (.Call (.Name x p) (e :: es) [] pos) (tMakeS C sp dvs E t) := by
  refine ⟨fun pins s σ H Q I h => ?_⟩
  refine wpAny_Call_Name_kw (ld_glob I hg hm ?_ hdb)
  refine PySem.W.callWith_K (h₀ := X.base) I.ok.mod.kin M.kp (thn (ha.run pos pins s σ H _ I h) fun us s1 ⟨vs, H1, I1, r, q⟩ => ⟨I1.kIn, ?_⟩) he hpl
  exact run_makeS M F hr hb hd (hx σ) I1 r q
theorem x_makeS {C : Addr} {sp : Sp} {dvs : List V} {E : L2.St → XK} {t : TA} {σ : L2.St} {H : Hp} {Q : VK} (h : t σ H fun vs H1 => ∀ x dx, H1 x = none → H1 dx = none → dx ≠ x → sp (.ref x :: (vs ++ dvs)) (upd (upd H1 dx (.own x)) x (.ins C dx [])) (fun v H2 => v = .non ∧ Q (.ref x) H2) (E σ)) : tMakeS C sp dvs E t σ H Q := h
end
end Fv
set_option maxRecDepth 100000
set_option maxHeartbeats 1000000
namespace Fv
open PySem PySem.Spec PyProof.Rows L2 RZ
theorem lc_zipL {K : PySem.W.Frag} {a b : Addr} {xs ys : List V} (hxy : xs.length = ys.length) {g : TG} {tt : TT} {te : TE} {vs : List Nat} {σ : L2.St} {H1 : Hp} {D : Addr} {Qd : Hp → Prop} (Pv : Nat → Hp → Prop) (h0 : Pv 0 (upd H1 D (.lst []))) (hl : ∀ i H, i ≤ xs.length → Pv i H → SqL K H a xs ∧ SqL K H b ys)
    (hs : ∀ i x y H T, xs[i]? = some x → ys[i]? = some y → Pv i H → H T = none → g (.ref T) (wipe σ vs) (upd H T (.tup [x, y])) fun σ2 H2 => wipe σ2 vs = wipe σ vs ∧ tt σ2 H2 fun b H3 =>
      if b = true then te σ2 H3 fun y H4 => ∃ acc, H4 D = some (.lst acc) ∧ acc.length < sizeLine ∧ Pv (i + 1) (upd H4 D (.lst (acc ++ [y]))) else Pv (i + 1) H3) (hd : ∀ H, Pv xs.length H → Qd H) :
    ∃ W : Nat → Nat → Hp → Prop, (∃ m, W 0 m (upd H1 D (.lst []))) ∧ ∀ i m H, W i m H → ((Itz K a b).stop i H ∧ Qd H) ∨ ((Itz K a b).go i H ∧ ∃ Nx : Hp → Prop, (∀ H', Nx H' → ∃ m', m' < m ∧ W (i + 1) m' H') ∧ ∀ x H', (Itz K a b).yld i H x H' → g x (wipe σ vs) H' fun σ2 H2 => wipe σ2 vs = wipe σ vs ∧ tt σ2 H2 fun b H3 =>
        if b = true then te σ2 H3 fun y H4 => ∃ acc, H4 D = some (.lst acc) ∧ acc.length < sizeLine ∧ Nx (upd H4 D (.lst (acc ++ [y]))) else Nx H3) := by
  refine ⟨fun i m H => m = xs.length - i ∧ i ≤ xs.length ∧ Pv i H, ⟨_, rfl, Nat.zero_le _, h0⟩, ?_⟩
  rintro i m H ⟨rfl, hi, p⟩
  obtain ⟨q, r⟩ := hl i H hi p
  by_cases hlt : i < xs.length
  · have hlt2 : i < ys.length := by omega
    refine .inr ⟨⟨xs, ys, xs[i], ys[i], q, r, List.getElem?_eq_getElem hlt, List.getElem?_eq_getElem hlt2⟩, Pv (i + 1), fun H' p' => ⟨_, by omega, rfl, hlt, p'⟩, fun x H' y => ?_⟩
    obtain ⟨T, z, u, rfl, hT, rfl, hz, hu⟩ := y
    exact hs i z u H T (hz xs q) (hu ys r) p hT
  · have e : i = xs.length := by omega
    subst e
    exact .inl ⟨⟨xs, ys, q, r, .inl (Nat.le_refl _)⟩, hd H p⟩
/-- two values compared through and through: what comes of it -/
def Cm (H : Hp) : Nat → V → V → Bool → Prop
  | 0, x, y, r => sca x = true ∧ sca y = true ∧ r = decide (x = y)
  | n + 1, x, y, r => (sca x = true ∧ sca y = true ∧ r = decide (x = y)) ∨
      (∃ (a b : Addr) (xs ys : List V), x = .ref a ∧ y = .ref b ∧ ((H a = some (.lst xs) ∧ H b = some (.lst ys)) ∨ (H a = some (.tup xs) ∧ H b = some (.tup ys))) ∧ xs.length ≤ 1000 ∧ ys.length ≤ 1000 ∧
        ((xs.length ≠ ys.length ∧ r = false) ∨ (xs.length = ys.length ∧ ∃ rs : List Bool, rs.length = xs.length ∧ r = rs.all id ∧ ∀ i (h1 : i < xs.length) (h2 : i < ys.length) (h3 : i < rs.length), Cm H n xs[i] ys[i] rs[i])))
theorem Cm.same {H H' : Hp} : ∀ {n : Nat} {x y : V} {r : Bool}, Same H H' → Cm H n x y r → Cm H' n x y r
  | 0, _, _, _, _, h => h
  | n + 1, x, y, r, s, h => by
    rcases h with h | ⟨a, b, xs, ys, e1, e2, h1, hx, hy, h⟩
    · exact .inl h
    · refine .inr ⟨a, b, xs, ys, e1, e2, ?_, hx, hy, ?_⟩
      · rcases h1 with ⟨h1, h2⟩ | ⟨h1, h2⟩
        · exact .inl ⟨s _ _ h1, s _ _ h2⟩
        · exact .inr ⟨s _ _ h1, s _ _ h2⟩
      · rcases h with h | ⟨hl, rs, r1, r2, h⟩
        · exact .inl h
        · exact .inr ⟨hl, rs, r1, r2, fun i k1 k2 k3 => (h i k1 k2 k3).same s⟩
/-! words as data, compared -/
theorem dw_eq : ∀ c d : List (Option Bool), PyData.eqvAll (dw c) (dw d) = decide (c = d)
  | [], [] => by simp [dw, PyData.eqvAll]
  | [], _ :: _ => by simp [dw, PyData.eqvAll]
  | _ :: _, [] => by simp [dw, PyData.eqvAll]
  | a :: l, b :: m => by
    show PyData.eqvAll (wD a :: dw l) (wD b :: dw m) = _
    rw [PyData.eqvAll, dw_eq l m, Bool.eq_iff_iff]
    cases a <;> cases b <;> simp [wD, PyData.eqv]
theorem du_eq : ∀ c d : List (Option Nat), PyData.eqvAll (du c) (du d) = decide (c = d)
  | [], [] => by simp [du, PyData.eqvAll]
  | [], _ :: _ => by simp [du, PyData.eqvAll]
  | _ :: _, [] => by simp [du, PyData.eqvAll]
  | a :: l, b :: m => by
    show PyData.eqvAll (uD a :: du l) (uD b :: du m) = _
    rw [PyData.eqvAll, du_eq l m, Bool.eq_iff_iff]
    cases a <;> cases b <;> simp [uD, PyData.eqv]
    intro _
    omega
theorem dls_eq : ∀ c d : List (List (Option Bool)), PyData.eqvAll (dls c) (dls d) = decide (c = d)
  | [], [] => by simp [dls, PyData.eqvAll]
  | [], _ :: _ => by simp [dls, PyData.eqvAll]
  | _ :: _, [] => by simp [dls, PyData.eqvAll]
  | a :: l, b :: m => by
    show PyData.eqvAll (.tuple (dw a) :: dls l) (.tuple (dw b) :: dls m) = _
    rw [PyData.eqvAll, dls_eq l m, PyData.eqv, dw_eq, Bool.eq_iff_iff]
    simp
def wholeD (n : Nat) (us : List (Option Nat)) (ls : List (List (Option Bool))) : PyData := .tuple [.int (n : Int), .tuple (du us), .tuple (dls ls)]
theorem wholeD_shaped (n : Nat) (us : List (Option Nat)) (ls : List (List (Option Bool))) : SeqAt.shaped (wholeD n us ls) = true := by
  show (PyData.canLayAll0 [.int (n : Int), .tuple (du us), .tuple (dls ls)] && decide (PyData.depthAll [.int (n : Int), .tuple (du us), .tuple (dls ls)] + 1 ≤ 64)) = true
  have e1 : PyData.canLayAll0 [.int (n : Int), .tuple (du us), .tuple (dls ls)] = true := by
    show (true && (PyData.canLayAll0 (du us) && (PyData.canLayAll0 (dls ls) && true))) = true
    rw [du_lay, dls_lay]
    rfl
  have e2 : PyData.depthAll [.int (n : Int), .tuple (du us), .tuple (dls ls)] + 1 ≤ 64 := by
    show max 0 (max (PyData.depthAll (du us) + 1) (max (PyData.depthAll (dls ls) + 1) 0)) + 1 ≤ 64
    have := dls_depth ls
    rw [du_depth]
    omega
  rw [e1, decide_eq_true e2]
  rfl
theorem wholeD_eqv {n n' : Nat} {us us' : List (Option Nat)} {ls ls' : List (List (Option Bool))} : PyData.eqv (wholeD n us ls) (wholeD n' us' ls') = decide (n = n' ∧ us = us' ∧ ls = ls') := by
  show PyData.eqv (.tuple [.int (n : Int), .tuple (du us), .tuple (dls ls)]) (.tuple [.int (n' : Int), .tuple (du us'), .tuple (dls ls')]) = _
  rw [PyData.eqv, PyData.eqvAll, PyData.eqvAll, PyData.eqvAll, PyData.eqvAll, PyData.eqv, PyData.eqv, PyData.eqv, du_eq, dls_eq, Bool.eq_iff_iff]
  simp
  intro _ _
  omega
end Fv
set_option maxRecDepth 100000
set_option maxHeartbeats 1000000
namespace Fv
open PySem PySem.Spec PySem.SeqAt PyProof.Rows L2
/-! t[::-1], t a tuple -/
theorem rev_adjust (n : Nat) : Builtin.Slice.sliceAdjust none none (-1) (n : Int) = ((n : Int) - 1, -1) := by
  first
  | rfl
  | (unfold Builtin.Slice.sliceAdjust; simp)
theorem rev_places (n : Nat) : Builtin.Slice.slicePlaces ((n : Int) - 1) (-1) (-1) = n := by
  unfold Builtin.Slice.slicePlaces
  simp
  all_goals omega
theorem fm_congr {α β : Type} {f g : α → Option β} : ∀ {l : List α}, (∀ x ∈ l, f x = g x) → l.filterMap f = l.filterMap g
  | [], _ => rfl
  | a :: l, h => by
    rw [List.filterMap_cons, List.filterMap_cons, h a List.mem_cons_self, fm_congr fun x hx => h x (List.mem_cons_of_mem _ hx)]
theorem rev_pick (xs : Array Value) : ((List.range xs.size).filterMap fun (k : Nat) => xs[(((xs.size : Int) - 1) + (k : Int) * (-1)).toNat]?).toArray = xs.toList.reverse.toArray := by
  have e : (List.range xs.size).filterMap (fun (k : Nat) => xs[(((xs.size : Int) - 1) + (k : Int) * (-1)).toNat]?) = ((List.range xs.size).map fun k => xs.size - 1 - k).filterMap (xs[·]?) := by
    rw [List.filterMap_map]
    refine fm_congr fun k hk => ?_
    have := List.mem_range.mp hk
    show xs[(((xs.size : Int) - 1) + (k : Int) * (-1)).toNat]? = xs[xs.size - 1 - k]?
    congr 1
    omega
  rw [e, PySem.W.krv_range, List.filterMap_reverse, PySem.W.krv_all]
section
variable {prog : Program} {w : World} {A : Around} {E : Value → Shared → Prop} {s : Shared}
theorem getItem_tuple_rev {t sl : Addr} {items : Array Value} {vl vu vs : Value} {Q : Value → Shared → Prop} (ht : IsTup s.heap t items) (hs : s.heap.IsSliceOf sl vl vu vs) (pl : IsPart vl none) (pu : IsPart vu none) (ps : IsPart vs (some (-1)))
    (h : Q (.ref s.heap.objs.size) { s with heap := s.heap.push { cls := .type "tuple", data := .seq items.toList.reverse.toArray } })
    (hsz : items.size ≤ sizeLine) : wpAny (model prog w) A (getItem (.ref t) (.ref sl)) Q E s := by
  have htake : sizeOk (.seq items.toList.reverse.toArray) := by
    show items.toList.reverse.toArray.size ≤ sizeLine
    rw [List.size_toArray, List.length_reverse, Array.length_toList]
    exact hsz
  obtain ⟨os, hos, hcs, hds⟩ := id hs
  have hTs : s.TypeIs (.ref sl) "slice" := ⟨os, hos, hcs⟩
  unfold getItem
  try with_reducible refine wpAny_holding ?_
  first | refine wpAny_bind (wpAny_pure ?_) | skip
  refine wpAny_bind (wpAny_sequenceKey ht.typeIs (by decide) ?_)
  refine wpAny_bind (wpAny_callSpecial?_slot (name := Str.ofString "__getitem__") ht.typeIs PyProof.Rows.slot_tuple_getitem
    (wpAny_call_entry PyProof.Rows.slot_tuple_getitem ht.typeIs PyProof.Rows.entry_tuple_getitem ?_ (PyProof.Rows.args_tuple_getitem _ _)))
  show wpAny _ _ (Builtin.Tuple.tupleItemsOf (.ref t) >>= _) _ _ s
  refine wpAny_bind (tupleItemsOf_ ht ?_)
  refine wpAny_bind (wpAny_typeOf hTs ?_)
  rw [if_pos (by decide)]
  have app : ∀ {A : Around} {E : Value → Shared → Prop} {Q : Int × Int × Nat → Shared → Prop}, Q ((items.size : Int) - 1, -1, items.size) s → wpAny (model prog w) A (Builtin.Slice.sliceApplied (.ref sl) (pure (items.size : Int))) Q E s := fun {A E Q} h => by
    unfold Builtin.Slice.sliceApplied Builtin.Slice.sliceFields
    refine wpAny_bind (wpAny_bind (wpAny_field hos hds (x := vl) rfl (wpAny_bind (wpAny_field hos hds (x := vu) rfl (wpAny_bind (wpAny_field hos hds (x := vs) rfl (wpAny_pure ?_)))))))
    refine wpAny_bind (HT.slicePart_ ps ?_)
    show wpAny _ _ (if ((-1 : Int) == 0) = true then _ else _) _ _ s
    rw [if_neg (by decide)]
    refine wpAny_bind (HT.slicePart_ pl (wpAny_bind (HT.slicePart_ pu (wpAny_bind (wpAny_pure ?_)))))
    show wpAny _ _ (match Builtin.Slice.sliceAdjust none none (-1) (items.size : Int) with | (lo, hi) => pure (lo, (-1 : Int), Builtin.Slice.slicePlaces lo hi (-1))) _ _ s
    rw [rev_adjust]
    show wpAny _ _ (pure ((items.size : Int) - 1, (-1 : Int), Builtin.Slice.slicePlaces ((items.size : Int) - 1) (-1) (-1))) _ _ s
    rw [rev_places]
    exact wpAny_pure h
  refine wpAny_bind (app ?_)
  have hno : ¬ (((items.size : Int) - 1 == 0 && (-1 : Int) == 1 && items.size == items.size) = true) := by
    intro q
    rw [Bool.and_eq_true, Bool.and_eq_true] at q
    exact absurd q.1.2 (by decide)
  show wpAny _ _ (if ((items.size : Int) - 1 == 0 && (-1 : Int) == 1 && items.size == items.size) = true then _ else _) _ _ s
  rw [if_neg hno, rev_pick]
  first
    | exact wpAny_bind (m := Builtin.Tuple.tupleExact _) (wpAny_newObj_type (wpAny_pure ⟨_, rfl, wpAny_pure h⟩) htake)
    | exact wpAny_bind (m := Builtin.Tuple.tupleExact _) (wpAny_newObj_type (wpAny_bind (wpAny_pure (wpAny_pure ⟨_, rfl, wpAny_pure h⟩))) htake)
    | exact wpAny_bind (wpAny_bind (m := Builtin.Tuple.tupleExact _) (wpAny_newObj_type (wpAny_pure (wpAny_pure ⟨_, rfl, wpAny_pure h⟩)) htake))
    | exact wpAny_bind (wpAny_bind (m := Builtin.Tuple.tupleExact _) (wpAny_newObj_type (wpAny_pure ⟨_, rfl, wpAny_pure h⟩) htake))
end
def tRevT (K : PySem.W.Frag) (te : TE) : TE := fun σ H Q => te σ H fun x H1 => ∃ a xs, x = .ref a ∧ SqT K H1 a xs ∧ ∀ p, H1 p = none → Q (.ref p) (upd H1 p (.tup xs.reverse))
section
variable {X : Cx}
theorem pe_revT {K : PySem.W.Frag} {e : Expr} {te : TE} {k : Nat} {p1 p2 p3 pos : Pos} (eK : X.K = K) (he : PE X e te) : PE X (.Subscript e (.Slice none none (some (.UnaryOp .USub (.Constant (.int 1) k p1) p2)) p3) pos) (tRevT K te) := by
  subst eK
  refine ⟨fun pins s σ H Q I h => ?_⟩
  refine Subscript_ (thn (he.run pins s σ H _ I h) fun v s1 ⟨x, H1, I1, r1, q1⟩ => ?_)
  obtain ⟨a, xs, ex, hx, q⟩ := q1
  subst ex
  cases r1
  have hst : PO X (some (.UnaryOp .USub (.Constant (.int 1) k p1) p2)) (tPart (tUn (rU fun i => .int (-i)) (tC (.int 1)))) := po_some (pe_un un_neg pe_int)
  refine wpAny_Slice (thn (po_none.run pins s1 σ H1 (fun o H2 => o = none ∧ H2 = H1) I1 ⟨rfl, rfl⟩) fun vl s2 ⟨l, H2, I2, pl, el, e2⟩ => ?_)
  subst el e2
  refine thn (po_none.run pins s2 σ H2 (fun o H3 => o = none ∧ H3 = H2) I2 ⟨rfl, rfl⟩) fun vu s3 ⟨u, H3, I3, pu, eu, e3⟩ => ?_
  subst eu e3
  refine thn (hst.run pins s3 σ H3 (fun o H4 => o = some (-1) ∧ H4 = H3) I3 ⟨1, rfl, -1, rfl, rfl, rfl⟩) fun vs s4 ⟨o, H4, I4, ps, eo, e4⟩ => ?_
  subst eo e4
  have I5 : Inv X pins σ H4 { s4 with heap := s4.heap.push { cls := .type "slice", data := .fields #[vl, vu, vs] } } := I4.kept (t' := s4.toks) fun b ob q => Heap.get?_push_of_some _ q
  obtain ⟨its, r, ht, hz⟩ := I5.tuple hx
  have hlen := r.length
  show wpAny (model X.prog X.w) X.A (subscriptTail e (.Slice none none (some (.UnaryOp .USub (.Constant (.int 1) k p1) p2)) p3) (.ref a) (.ref s4.heap.objs.size)) (EP X pins σ Q) X.xe { s4 with heap := s4.heap.push { cls := .type "slice", data := .fields #[vl, vu, vs] } }
  refine tail_any (ops := [.ref a, .ref s4.heap.objs.size]) ht.typeIs (PyProof.Rows.slot_tuple_getitem.lookup) ?_ (by with_unfolding_all rfl)
  refine getItem_tuple_rev ht (Heap.IsSliceOf.new _ vl vu vs) pl pu ps ?_ (by rw [List.size_toArray]; omega)
  refine ⟨.ref _, _, I5.laid (t' := s4.toks) (o := .tup xs.reverse) (fun b ob q => Heap.get?_push_of_some _ q) (Nat.le_refl _) ?_, rfl, q _ (I5.hok.fresh (Nat.le_refl _))⟩
  exact ⟨by rw [List.length_reverse]; exact hz, _, r.reverse, IsTup.new _ _⟩
end
theorem x_revT {K : PySem.W.Frag} {te : TE} {σ : L2.St} {H : Hp} {Q : VK} (h : te σ H fun x H1 => ∃ a xs, x = .ref a ∧ SqT K H1 a xs ∧ ∀ p, H1 p = none → Q (.ref p) (upd H1 p (.tup xs.reverse))) : tRevT K te σ H Q := h
/-! x == n, x of any kind that is known, n a whole number -/
section
variable {prog : Program} {w : World} {A : Around} {E : Value → Shared → Prop} {s : Shared}
theorem int_eq_declines_dict (b : Int) (u : Tok) (l : Addr) (o : Obj) (hc : o.cls = .type "dict") (hd : ∃ es ep, o.data = .dict es ep) :
    Meets (Builtin.«int.__eq__» ⟨[.int b u, .ref l], []⟩) (fun _ R s => s.heap.get? l = some o ∧ R (.ok (.ret .notImplemented)) s) :=
  .of_wp fun prog w A R s h => by
    obtain ⟨hp, g, d, tk, os⟩ := s
    obtain ⟨hl, h⟩ := h
    have hT : (⟨hp, g, d, tk, os⟩ : Shared).TypeIs (.ref l) "dict" := ⟨o, hl, hc⟩
    have f1 := F.sub_dict_int
    wp_walk using wpAny_load hl, wpAny_typeOf hT
    obtain ⟨es, ep, hd⟩ := hd
    rw [hd]
    wp_walk
    exact ⟨_, rfl, h⟩
theorem rc_dict_int {a : Addr} {o : Obj} {b : Int} {u : Tok} {Q : Value → Shared → Prop} (ho : s.heap.get? a = some o) (hc : o.cls = .type "dict") (hd : ∃ es ep, o.data = .dict es ep) (hu : A.units < cLine) (h : Q (.bool false) s) : wpAny (model prog w) A (richCompare .Eq (.ref a) (.int b u)) Q E s := by
  have hT : s.TypeIs (.ref a) "dict" := ⟨o, ho, hc⟩
  refine rc_eq_decline_or (k := false) hT (typeIs_int s b u) (by decide) F.sub_int_dict F.slot_dict_eq F.slot_int_eq_refl
    (fun _ hq => wpAny_call_entry F.slot_dict_eq hT F.entry_dict_eq ?_ (F.args_dict_eq_2 _ _))
    (fun _ hq => call_meets F.slot_int_eq_refl (typeIs_int s b u) F.entry_int_eq (F.args_int_eq_2 _ _) (int_eq_declines_dict b u a o hc hd) ⟨ho, hq⟩)
    (fun _ hq => wpAny_of_eq (rfl : isSame (.ref a) (.int b u) = pure false) hq) (.inr hu) h
  show wpAny _ _ (Builtin.Dict.dictSlotArgs "__eq__" ⟨[.ref a, .int b u], []⟩ >>= _) _ _ s
  refine wpAny_bind ?_
  unfold Builtin.Dict.dictSlotArgs
  refine wpAny_bind (wpAny_notOrdered_dict hT ?_)
  show wpAny _ _ (pure (Value.ref a, Value.int b u)) _ _ s
  refine wpAny_pure ?_
  refine wpAny_bind (wpAny_isInstance (T := "int") (typeIs_int s b u) F.sub_int_dict ?_)
  simp only [Bool.not_false, if_true]
  exact wpAny_bind (wpAny_rule (wpAny_pure ⟨_, rfl, hq⟩))
end
def plainV (H : Hp) (x : V) : Prop := sca x = true ∨ ∃ a, x = .ref a ∧ ((∃ xs, H a = some (.lst xs)) ∨ (∃ xs, H a = some (.tup xs)) ∨ ∃ kvs : List (Key × V), H a = some (.dK kvs))
def rEqA (C : Addr) (sp : Sp) : R2 := fun x y H Q => ∃ n : Int, y = .int n ∧ ((plainV H x ∧ ∀ r : Bool, Q (.bl r) H) ∨
  ∃ a dx fs, x = .ref a ∧ H a = some (.ins C dx fs) ∧ sp [.ref a, .int n] H (fun v H' => ∃ r, v = .bl r ∧ Q (.bl r) H') (fun _ _ _ => False))
theorem int_apart (K : PySem.W.Frag) (C : Addr) : PySem.W.notFirst K C (.type "int") = true := by
  have e : PySem.W.subIn K (.type "int") (.ref C) = some false := by
    have e2 : PySem.fastBuiltinMro "int" = some [.type "int", .type "object"] := by decide +kernel
    show (PySem.fastBuiltinMro "int").map (·.contains (Value.ref C)) = some false
    rw [e2]
    rfl
  unfold PySem.W.notFirst
  rw [e]
  rfl
theorem op_eqA {X : Cx} {C f : Addr} {fd : FuncData} {ps : List Str} {sp : Sp} {n : Nat} (O : OwnQ X.K C f) (F : FnOk X.prog X.w X.K X.mg X.base CX0 n f fd ps sp) (hb : Binds X.K fd ps []) (hr : Room n X.A) : OpR X (compareOp .Eq) (rEqA C sp) := by
  intro pins s σ H x y v u Q I rx ry h
  obtain ⟨n, rfl, h⟩ := h
  obtain ⟨t, rfl⟩ := ry
  show wpAny (model X.prog X.w) X.A (richCompare .Eq v (.int n t)) (EP X pins σ Q) X.xe s
  rcases h with ⟨hp, q⟩ | ⟨a, dx, fs, rfl, ha, hsp⟩
  · have fin : ∀ r : Bool, EP X pins σ Q (.bool r) s := fun r => ⟨.bl r, H, I, rfl, q r⟩
    rcases hp with hs | ⟨a, rfl, ⟨xs, ha⟩ | ⟨xs, ha⟩ | ⟨kvs, ha⟩⟩
    · cases x with
      | non =>
        cases (show v = Value.none from rx)
        exact RcAt.none_int n t _ _ _ _ (fin _)
      | bl b =>
        cases (show v = Value.bool b from rx)
        exact RcAt.bool_int b n t _ _ _ _ (fin _)
      | int i =>
        obtain ⟨t', rfl⟩ := rx
        exact RcAt.int_int i t' n t _ _ _ _ (fin _)
      | str z =>
        obtain ⟨t', rfl⟩ := rx
        exact RcAt.str_int z t' n t _ _ _ _ (fin _)
      | _ => cases hs
    · cases rx
      obtain ⟨its, r, ht, hz⟩ := I.list (SqL.of ha)
      exact RcAt.list_int n t ht.isList hr.units0 _ _ _ _ (fin _)
    · cases rx
      obtain ⟨its, r, ht, hz⟩ := I.tuple (SqT.of ha)
      exact RcAt.tuple_int n t (isTuple_of ht) hr.units0 _ _ _ _ (fin _)
    · cases rx
      obtain ⟨_, _, vs, _, hd⟩ := (show ObjOk X.prog X.w H s.heap a (.dK kvs) from I.hok a _ ha)
      obtain ⟨o', ho', hc'⟩ := id hd.typeIs
      obtain ⟨o, es, ep, ho, _, hd2, _⟩ := hd
      rw [ho] at ho'
      cases ho'
      exact rc_dict_int ho hc' ⟨es, ep, hd2⟩ hr.units0 (fin _)
  · cases rx
    obtain ⟨mA, J, _⟩ := ins_get I.hok ha
    obtain ⟨od, J, _⟩ := J.look
    obtain ⟨m, hF⟩ := I.fr
    have r2 : Vals [V.ref a, V.int n] [Value.ref a, Value.int n t] := .cons rfl (.cons ⟨_, rfl⟩ .nil)
    have back : wpAny (model X.prog X.w) X.A (call (.ref f) [.ref a, .int n t]) (PySem.W.CmpBack (EP X pins σ Q)) X.xe s := by
      refine thn (run_fn F hr hb .nil pass0 I r2 hsp) fun w' s' ⟨z, H', I', rz, r, ez, q⟩ => ?_
      subst ez
      cases rz
      exact ⟨.bl r, H', I', rfl, q⟩
    exact PySem.W.cmp_K (op := .Eq) (tb := .type "int") hr.units0 hF I.ok.mod.kin J (fun A Q E s k q => wpAny_typeOf (typeIs_int _ n t) q) (int_apart X.K C) O.s O.fn back
/-! {i: v} -/
theorem x_disp0 {H : Hp} {Q : VK} {σ : L2.St} {i : Int} {v : V} {tv : TE} (hv : ∀ (G : Hp) (R : VK), R v G → tv σ G R) (q : ∀ p, H p = none → Q (.ref p) (upd H p (.dK [(.inl i, v)]))) : tDisp [(tC (.int i), tv)] σ H Q := fun p hp =>
  hv _ _ ⟨upd_same, [(.inl i, v)], rfl, by show 1 ≤ 15; decide, by rw [upd_upd]; exact q p hp⟩
section
variable {H : Hp} {Q : VK} {xs : List V} {kvs : List (Key × V)}
theorem lstH (h : ∀ p G, Same H G → H p = none → G p = some (.lst xs) → Q (.ref p) G) : ∀ p, H p = none → Q (.ref p) (upd H p (.lst xs)) := fun p hp => h p _ (same_new (Same.refl _) hp) hp upd_same
theorem tupH (h : ∀ p G, Same H G → H p = none → G p = some (.tup xs) → Q (.ref p) G) : ∀ p, H p = none → Q (.ref p) (upd H p (.tup xs)) := fun p hp => h p _ (same_new (Same.refl _) hp) hp upd_same
theorem dKH (h : ∀ p G, Same H G → H p = none → G p = some (.dK kvs) → Q (.ref p) G) : ∀ p, H p = none → Q (.ref p) (upd H p (.dK kvs)) := fun p hp => h p _ (same_new (Same.refl _) hp) hp upd_same
end
end Fv
set_option maxRecDepth 100000
set_option maxHeartbeats 2000000
namespace Fv
open PySem PySem.Spec PyProof.Rows L2
/-! a try whose first clause takes all that its body raises -/
theorem upSlots_of {h h' : Heap} (k : ∀ b o, h.get? b = some o → h'.get? b = some o) : h.UpToSlots h' := fun b o e _ => ⟨o.slots, k b o e⟩
theorem flying_of {B h h' : Heap} {l : List Env} {a : Addr} {Z : Obj → Prop} (k : ∀ b o, h.get? b = some o → h'.get? b = some o) (x : HandSPX.FlyingZ B l a Z h) : HandSPX.FlyingZ B l a Z h' := by
  obtain ⟨k1, k2, k3, oe, vs, T, oT, ts, t1, t2, t3, t4, t5, t6, t7, t8⟩ := x
  exact ⟨fun b o e => k _ _ (k1 b o e), k2, k3.of_keeps fun b o e _ => ⟨o, k _ _ e, rfl⟩, oe, vs, T, oT, ts, k _ _ t1, t2, t3, t4, t5, t6, k _ _ t7, t8⟩
theorem unframed {B h : Heap} {l : List Env} {a : Addr} {o : Obj} {vs : Array Value} (ff : h.FunFrames B l) (e : h.get? a = some o) (dd : o.data = .fields vs) : a ∉ frs l := fun hm => by
  obtain ⟨_, u, e', nf⟩ := ff.mem hm
  rw [e] at e'
  cases e'
  exact nf _ dd
/-- what is raised in the body, and is taken by the clause -/
def wAs1 (K : PySem.W.Frag) (c : Value) (i : Nat) (ts : Addr → Value → Option Addr → TS) (D : Ends) : WX := fun cls d σ H => PySem.W.exmOne K cls c = some true ∧ ∀ a, H a = none →
  ts a cls d { nx := fun σ' H' => D.nx (σ'.set i none) H', rt := D.rt, bk := fun σ' H' => D.bk (σ'.set i none) H', ct := fun σ' H' => D.ct (σ'.set i none) H' } (σ.set i (some (.ref a))) H
section
variable {X : Cx} {x n : Str} {c : Value} {i : Nat} {body suite : List Stmt} {b₀ : Stmt} {np pos pos' : Pos} {tb : WX → TS} {ts : Addr → Value → Option Addr → TS} {hds : List ExceptHandler}
theorem sp_untry {xe : Value → Shared → Prop} {pins : List (Addr × Obj)} {D : Ends} {f : Flow} {s1 : Shared} (ok : X.Ok) (h : SP (X.tr (X.pn ++ pins) xe) [] D f s1) : SP X pins D f s1 := by
  cases f with
  | next =>
    obtain ⟨σ', H', J, q⟩ := h
    exact ⟨σ', H', J.ofTry ok, q⟩
  | brk =>
    obtain ⟨σ', H', J, q⟩ := h
    exact ⟨σ', H', J.ofTry ok, q⟩
  | cont =>
    obtain ⟨σ', H', J, q⟩ := h
    exact ⟨σ', H', J.ofTry ok, q⟩
  | ret u =>
    obtain ⟨v, σ', H', J, r, q⟩ := h
    exact ⟨v, σ', H', J.ofTry ok, r, q⟩
theorem ps_try_as1 (hs : X.stack = X.env :: X.outer) (hf : X.env.frame = some X.env.locals) (hN : X.N.Nodup) (hi : X.N[i]? = some n) (hln : X.env.kindOf n = some .local) (hc : Names X x c)
    (hb : ∀ (W : WX) (pn : List (Addr × Obj)) (xe : Value → Shared → Prop), L2.Takes (X.tr pn xe) W → PassesOwn (model X.prog X.w) X.A X.env xe → PSs (X.tr pn xe) body (tb W))
    (hsu : ∀ (a : Addr) (oe : Obj) (cls : Value) (d : Option Addr) (pn : List (Addr × Obj)), Zc cls d oe → (∃ vs, oe.data = .fields vs) → PSs (X.suite a ((a, oe) :: pn)) (b₀ :: suite) (ts a cls d)) :
    PS X (.Try body (.ExceptHandler (some (.Name x np)) (some n) (b₀ :: suite) pos' :: hds) [] [] pos) (fun D σ H => tb (wAs1 X.K c i ts D) D σ H) := by
  constructor
  intro pins s σ H D I h
  have ok := I.ok
  have fr : X.A.frames = some (X.env :: X.outer) := ok.frames.trans (by rw [hs])
  refine wpAny_Try_except (wpAny_mono ((hb (wAs1 X.K c i ts D) (X.pn ++ pins) (fun e s₁ => wpAny (model X.prog X.w) X.A (noteFrame e X.env) (fun _ s₂ => wpAny (model X.prog X.w) X.A (setFlight e none) (fun _ s₃ =>
    wpAny (model X.prog X.w) X.A (handleBy e X.env (.ExceptHandler (some (.Name x np)) (some n) (b₀ :: suite) pos' :: hds)) (SP X pins D) X.xe s₃) X.xe s₂) X.xe s₁) (fun u s' xx => ?_) PassesOwn.looking).run [] s σ H D (I.toTry _) h) (fun f s1 hsp => ?_) (fun _ _ he => he))
  · obtain ⟨a, B, sI, ps', σ', H', cls, d, rfl, J', nb, up, sky, na, os, ag, hit, hyes⟩ := xx
    have J : Inv X pins σ' H' sI := J'.ofTry ok
    rw [show (X.tr (X.pn ++ pins) _).stack = X.env :: X.outer from hs] at sky
    refine Sky.land (L := X.env.locals) Zc.steady fr hf sky fun h3 fl3 up3 => ?_
    obtain ⟨o3, v3, g3, z3, d3⟩ := fl3.there
    have J3 : Inv X pins σ' H' { s' with heap := h3 } := J.landed nb fl3.1 (up.trans up3) os ag
    have nfr := unframed fl3.2.2.1 g3 d3
    have nL : a ≠ X.env.locals := fun z => nfr (List.mem_filterMap.mpr ⟨X.env, List.mem_cons_self, by rw [hf, z]⟩)
    have nF : a ∉ X.fs := fun hm => by
      obtain ⟨e, he, q⟩ := List.mem_filterMap.mp hm
      exact nfr (List.mem_filterMap.mpr ⟨e, List.mem_cons_of_mem _ he, q⟩)
    have S3 := J3.suite g3 d3 na nL nF
    have ty : PySem.W.Looks (model X.prog X.w) h3 (typeOf (.ref a)) cls := fun A Q E s k q => wpAny_typeOf_ref (k _ _ g3) (by rw [z3.1]; exact q)
    have mt := PySem.W.exm_one (M := model X.prog X.w) J3.kIn ty hit
    have nm : ∀ {Q : Value → Shared → Prop} {E : Value → Shared → Prop}, Q c { s' with heap := h3 } → wpAny (model X.prog X.w) (X.A.mark (some (.ref a))) (eval (.Name x np) X.env) Q E { s' with heap := h3 } := fun {Q E} q => by
      rcases hc with ⟨hg, hd, hm | ⟨hm, hv, hn⟩⟩
      · exact ld_glob (X := X.suite a ((a, o3) :: (X.pn ++ pins))) S3 hg hm q hd
      · exact ld_blt (X := X.suite a ((a, o3) :: (X.pn ++ pins))) S3 hg hm hv q hn hd
    refine wpAny_handleBy_cons (codeAny_handlers_test (nm (mt.here ?_))) (by intro q; cases q)
    refine codeAny_handlers_suite_as (HandSPX.lands_againZ fl3 fun h4 fl4 up4 => ?_)
    obtain ⟨o4, v4, g4, z4, d4⟩ := fl4.there
    have J4 : Inv X pins σ' H' { s' with heap := h4 } := J.landed nb fl4.1 ((up.trans up3).trans up4) os ag
    have S4 := J4.suite g4 d4 na nL nF
    refine store_ok (X := X.suite a ((a, o4) :: (X.pn ++ pins))) (v := .ref a) S4 hN hi (.inl hln) rfl (fun s5 S5 => ?_) (.inr hln)
    refine wpAny_mono ((hsu a o4 cls d (X.pn ++ pins) z4 ⟨_, d4⟩).run [] s5 _ H' _ S5 (hyes a na)) (fun f s6 hsp => ?_) (fun _ _ z => z.elim)
    have fin : ∀ {σ6 : L2.St} {H6 : Hp} {Q : Shared → Prop}, Inv (X.suite a ((a, o4) :: (X.pn ++ pins))) [] σ6 H6 s6 → (∀ s7, Inv X pins (σ6.set i none) H6 s7 → Q s7) →
        wpAny (model X.prog X.w) X.A (do bindName X.env n .none; unbindBehindTheSuite X.env n pos') (fun _ s7 => Q s7) X.xe s6 := fun S6 hq => gone_ok (S6.unsuite ok) hN hi hln hq
    cases f with
    | next =>
      obtain ⟨σ6, H6, S6, q6⟩ := hsp
      exact fin S6 fun _ J7 => ⟨_, _, J7, q6⟩
    | brk =>
      obtain ⟨σ6, H6, S6, q6⟩ := hsp
      exact fin S6 fun _ J7 => ⟨_, _, J7, q6⟩
    | cont =>
      obtain ⟨σ6, H6, S6, q6⟩ := hsp
      exact fin S6 fun _ J7 => ⟨_, _, J7, q6⟩
    | ret u =>
      obtain ⟨v6, σ6, H6, S6, r6, q6⟩ := hsp
      exact fin S6 fun _ J7 => ⟨_, _, _, J7, r6, q6⟩
  · have hsp' := sp_untry ok hsp
    cases f with
    | next => exact wpAny_execs_nil hsp'
    | brk => exact hsp'
    | cont => exact hsp'
    | ret u => exact hsp'
end
/-! except (A, B, C): a suite that may raise -/
def wTup3 (K : PySem.W.Frag) (c1 c2 c3 : Value) (ts : Addr → Value → Option Addr → TS) (D : Ends) : WX := fun cls d σ H => PySem.W.exmAny K cls [c1, c2, c3] = some true ∧ ∀ a, H a = none → ts a cls d D σ H
section
variable {X : Cx} {x1 x2 x3 : Str} {c1 c2 c3 : Value} {body suite : List Stmt} {b₀ : Stmt} {n1 n2 n3 tpos pos pos' : Pos} {k : Nat} {tb : WX → TS} {ts : Addr → Value → Option Addr → TS} {hds : List ExceptHandler} {Wout : WX}
theorem ps_try_tup3 (hs : X.stack = X.env :: X.outer) (hf : X.env.frame = some X.env.locals) (w1 : Names X x1 c1) (w2 : Names X x2 c2) (w3 : Names X x3 c3) (hpa : ∀ hd : Option Value, PassesOwnAt (model X.prog X.w) (X.A.mark hd) X.A X.env X.xe) (tk : L2.Takes X Wout)
    (hb : ∀ (W : WX) (pn : List (Addr × Obj)) (xe : Value → Shared → Prop), L2N.Takes (X.tr pn xe) W → PassesOwn (model X.prog X.w) X.A X.env xe → PSs (X.tr pn xe) body (tb W))
    (hsu : ∀ (a : Addr) (oe : Obj) (cls : Value) (d : Option Addr) (pn : List (Addr × Obj)), L2N.Zn cls d oe → (∃ vs, oe.data = .fields vs) → L2.Takes (L2H.suiteX X a ((a, oe) :: pn)) Wout → L2H.HotC (L2H.suiteX X a ((a, oe) :: pn)) →
      PSs (L2H.suiteX X a ((a, oe) :: pn)) (b₀ :: suite) (ts a cls d))
    (ha : starEach [.Name x1 n1, .Name x2 n2, .Name x3 n3] X.env = [(false, eval (.Name x1 n1) X.env), (false, eval (.Name x2 n2) X.env), (false, eval (.Name x3 n3) X.env)] := by rfl) :
    PS X (.Try body (.ExceptHandler (some (.Tuple [.Name x1 n1, .Name x2 n2, .Name x3 n3] k tpos)) none (b₀ :: suite) pos' :: hds) [] [] pos) (fun D σ H => tb (wTup3 X.K c1 c2 c3 ts D) D σ H) := by
  constructor
  intro pins s σ H D I h
  have ok := I.ok
  have fr : X.A.frames = some (X.env :: X.outer) := ok.frames.trans (by rw [hs])
  refine wpAny_Try_except (wpAny_mono ((hb (wTup3 X.K c1 c2 c3 ts D) (X.pn ++ pins) (fun e s₁ => wpAny (model X.prog X.w) X.A (noteFrame e X.env) (fun _ s₂ => wpAny (model X.prog X.w) X.A (setFlight e none) (fun _ s₃ =>
    wpAny (model X.prog X.w) X.A (handleBy e X.env (.ExceptHandler (some (.Tuple [.Name x1 n1, .Name x2 n2, .Name x3 n3] k tpos)) none (b₀ :: suite) pos' :: hds)) (SP X pins D) X.xe s₃) X.xe s₂) X.xe s₁) (fun u s' xx => ?_) PassesOwn.looking).run [] s σ H D (I.toTry _) h) (fun f s1 hsp => ?_) (fun _ _ he => he))
  · obtain ⟨a, B, sI, ps', σ', H', cls, d, rfl, J', nb, up, sky, na, os, ag, hit, hyes⟩ := xx
    have J : Inv X pins σ' H' sI := J'.ofTry ok
    rw [show (X.tr (X.pn ++ pins) _).stack = X.env :: X.outer from hs] at sky
    refine L2N.Sky.land (L := X.env.locals) L2N.Zn.steady fr hf sky fun h3 fl3 up3 => ?_
    obtain ⟨o3, v3, g3, z3, d3⟩ := fl3.there
    have J3 : Inv X pins σ' H' { s' with heap := h3 } := J.landed nb fl3.1 (up.trans up3) os ag
    have nfr := unframed fl3.2.2.1 g3 d3
    have nL : a ≠ X.env.locals := fun z => nfr (List.mem_filterMap.mpr ⟨X.env, List.mem_cons_self, by rw [hf, z]⟩)
    have nF : a ∉ X.fs := fun hm => by
      obtain ⟨e, he, q⟩ := List.mem_filterMap.mp hm
      exact nfr (List.mem_filterMap.mpr ⟨e, List.mem_cons_of_mem _ he, q⟩)
    have S3 := J3.suite g3 d3 na nL nF
    have nm : ∀ {x : Str} {c : Value} {p : Pos} {Q : Value → Shared → Prop} {E : Value → Shared → Prop}, Names X x c → Q c { s' with heap := h3 } → wpAny (model X.prog X.w) (X.A.mark (some (.ref a))) (eval (.Name x p) X.env) Q E { s' with heap := h3 } := fun {x c p Q E} hc q => by
      rcases hc with ⟨hg, hd, hm | ⟨hm, hv, hn⟩⟩
      · exact ld_glob (X := X.suite a ((a, o3) :: (X.pn ++ pins))) S3 hg hm q hd
      · exact ld_blt (X := X.suite a ((a, o3) :: (X.pn ++ pins))) S3 hg hm hv q hn hd
    have ext : ∀ b o, h3.get? b = some o → (h3.push { cls := .type "tuple", data := .seq [c1, c2, c3].toArray }).get? b = some o := fun b o e => Heap.get?_push_of_some _ e
    have ty : PySem.W.Looks (model X.prog X.w) (h3.push { cls := .type "tuple", data := .seq [c1, c2, c3].toArray }) (typeOf (.ref a)) cls := fun A Q E s k q => wpAny_typeOf_ref (k _ _ (ext _ _ g3)) (by rw [z3.1]; exact q)
    have mt := PySem.W.exm_tup3 (M := model X.prog X.w) (J3.kIn.keeps ext) ty (Heap.get?_push_size h3 rfl) hit
    have flX := flying_of ext fl3
    refine wpAny_handleBy_cons (codeAny_handlers_test (wpAny_Tuple_spliced ?_)) (by intro q; cases q)
    rw [ha]
    refine Calls.spliced_cons (nm w1 (Calls.spliced_cons (nm w2 (Calls.spliced_cons (nm w3 (Calls.spliced_nil ⟨by show 3 ≤ sizeLine; decide, mt.here ?_⟩))))))
    refine codeAny_handlers_suite (HandSPX.lands_againZ flX fun h4 fl4 up4 => ?_)
    obtain ⟨o4, v4, g4, z4, d4⟩ := fl4.there
    have J4 : Inv X pins σ' H' { s' with heap := h4 } := J.landed nb fl4.1 (((up.trans up3).trans (upSlots_of ext)).trans up4) os ag
    have S4 := J4.suite g4 d4 na nL nF
    have tkS : L2.Takes (L2H.suiteX X a ((a, o4) :: (X.pn ++ pins))) Wout := fun u2 s2 ⟨a2, B2, t2, p2, σ2, H2, c2, e2, q1, q2, q3, q4, q5, q6, q7, q8, q9⟩ => tk u2 s2 ⟨a2, B2, t2, pins, σ2, H2, c2, e2, q1, L2H.unsuiteX q2 ok, q3, q4, q5, q6, q7, q8, q9⟩
    have hot : L2H.HotC (L2H.suiteX X a ((a, o4) :: (X.pn ++ pins))) := ⟨(a, o4), ⟨rfl, v4, d4, z4.2.2 v4 d4⟩, List.mem_cons_self⟩
    refine wpAny_mono ((hsu a o4 cls d (X.pn ++ pins) z4 ⟨_, d4⟩ tkS hot).run [] _ _ H' _ (L2H.suiteX_of S4) (hyes a na)) (fun f s6 hsp => ?_) (fun e6 s6 z => hpa (some (.ref a)) e6 s6 z)
    cases f with
    | next =>
      obtain ⟨σ6, H6, S6, q6⟩ := hsp
      exact ⟨_, _, L2H.unsuiteX S6 ok, q6⟩
    | brk =>
      obtain ⟨σ6, H6, S6, q6⟩ := hsp
      exact ⟨_, _, L2H.unsuiteX S6 ok, q6⟩
    | cont =>
      obtain ⟨σ6, H6, S6, q6⟩ := hsp
      exact ⟨_, _, L2H.unsuiteX S6 ok, q6⟩
    | ret u =>
      obtain ⟨v6, σ6, H6, S6, r6, q6⟩ := hsp
      exact ⟨_, _, _, L2H.unsuiteX S6 ok, r6, q6⟩
  · have hsp' := sp_untry ok hsp
    cases f with
    | next => exact wpAny_execs_nil hsp'
    | brk => exact hsp'
    | cont => exact hsp'
    | ret u => exact hsp'
end
end Fv
set_option maxRecDepth 100000
set_option maxHeartbeats 1000000
namespace Fv
open PySem PySem.Spec PyProof.Rows L2
/-- C(), C an error's class that says super().__init__(): its context is None -/
theorem pmk_supN {X : Cx} {C fI : Addr} {x : Str} {p pos : Pos} (T : SupC X.prog X.K C fI) (hr : Room 1 X.A) (hg : Gl X x) (hm : X.mg x = some (.ref C)) (hs : X.mg "super" = none) (hdb : (x == ("__debug__" : Str)) = false := by decide) :
    L2N.PMk X (.Call (.Name x p) [] [] pos) (fun _ H Q => Q (.ref C) none H) := by
  intro pins s σ H Q I h
  refine wpAny_Call_Name_kw (ld_glob I hg hm ?_ hdb)
  refine PySem.W.callWith_K0 I.kIn T.x.kC ?_
  obtain ⟨mb, hb1, hb2⟩ := I.mod.blt
  have hlim := I.nolimit
  have hgl : s.heap.Ns mainGlobals X.mg := I.mod.glob.keeps I.bk
  have hbl : s.heap.Ns builtinsNs mb := hb1.keeps I.bk
  obtain ⟨hp, g, d, t, os⟩ := s
  refine wpAny_call (sup_made T I.kIn hlim hgl hs hbl ((hb2 "super" (by decide)).trans (by first | rfl | decide +kernel | kernel_rfl)) (by have := hr.dp; omega) fun h' tk' e t1 k ge hx => ?_)
  obtain ⟨G', g1, g2⟩ := restrict h' fun b => decide (b ≠ e)
  have gk : ∀ b, b ≠ e → G'.get? b = h'.get? b := fun b hb => g1 b (decide_eq_true hb)
  have g0 : G'.get? e = none := g2 e (by simp)
  have old : ∀ b o, hp.get? b = some o → G'.get? b = some o := fun b o q => (gk b (Nat.ne_of_lt (Nat.lt_of_lt_of_le (Heap.lt_size q) ge))).trans (k b o q)
  have J : Inv X pins σ H ⟨G', g, d, tk', os⟩ := I.kept (t' := tk') old
  refine ⟨e, _, _, ⟨G', g, d, tk', os⟩, H, .ref C, none, rfl, J, fun b o q => ?_, g0, hx, ⟨rfl, rfl, fun vs hv => by cases hv; rfl⟩, rfl, rfl, I.hok.fresh ge, rfl, I.bare, raises_own T.x.exC T.x.tyC, h⟩
  by_cases hb : b = e
  · have q' : G'.get? b = some o := q
    rw [hb, g0] at q'
    cases q'
  · exact (gk b hb).symm.trans q
theorem passLenN {X : Cx} {W : WX} {n : Nat} (tk : L2N.Takes X W) (hn : X.N.length = n) : Passes (L2N.CX X.prog X.w) X (fun cls d H => ∀ σ : L2.St, σ.length = n → W cls d σ H) := fun pins σ H s e s' I c => by
  refine L2N.passAt tk σ pins H s e s' I ?_
  obtain ⟨a, B, H', cls, d, h1, h2, h3, h4, h5, h6, h7, h8⟩ := c
  exact ⟨a, B, H', cls, d, h1, h2, h3, h4, h5, h6, h7, h8 σ (I.len.trans hn)⟩
section
variable {P : Program} {w : World} {K : PySem.W.Frag} {mg : Str → Option Value} {base : Heap}
/-- a def that may raise, the errors' contexts being None -/
theorem okN {x qual : Str} {st : Stmt} {f : Addr} {fd : FuncData} {N ps : List Str} {k : Nat} {sp : Sp} (F : Fun K x qual st f fd) (S : FnScope N ps (defScope st)) (len : ∀ vs H Q E, sp vs H Q E → vs.length = ps.length)
    (hbody : ∀ (cdv : Value) (A : Around) (outer : List Env) (s : Shared) (H : Hp) (vs : List V) (Q : VK) (E : XK), Room k (A.deeper (envOfC qual (defScope st) s.heap.objs.size f cdv)) → sp vs H Q E →
      ∃ t, PSs (cxOf (L2N.CX P w) P w K mg base N qual (defScope st) f cdv A outer s H E) (defBody st) t ∧ t { nx := fun _ H' => Q .non H', rt := Q } (L2.start N vs) H) : FnOk P w K mg base (L2N.CX P w) (k + 1) f fd ps sp := by
  obtain ⟨oc, od, kV, doc, pm, an, cdv, ct, osl, rfl, lk, hcd⟩ := F.ex
  exact fn_of lk hcd S len fun A outer s H vs Q E hr hsp => hbody cdv A outer s H vs Q E hr hsp
/-- a def called while an exception is handled -/
theorem okH {x qual : Str} {st : Stmt} {f : Addr} {fd : FuncData} {N ps : List Str} {k : Nat} {sp : Sp} (F : Fun K x qual st f fd) (S : FnScope N ps (defScope st)) (len : ∀ vs H Q E, sp vs H Q E → vs.length = ps.length)
    (hbody : ∀ (cdv : Value) (A : Around) (outer : List Env) (s : Shared) (H : Hp) (vs : List V) (Q : VK) (E : XK) (p : Addr × Obj), sp vs H Q E →
      ∃ t, PSs (L2H.cxH CX0 P w K mg base N qual (defScope st) f cdv A outer s H E p) (defBody st) t ∧ t { nx := fun _ H' => Q .non H', rt := Q } (L2.start N vs) H) : L2H.FnH P w K mg base CX0 (k + 1) f fd ps sp := by
  obtain ⟨oc, od, kV, doc, pm, an, cdv, ct, osl, rfl, lk, hcd⟩ := F.ex
  exact L2H.fn_ofH lk hcd S len fun A outer s H vs Q E p _ _ hsp => hbody cdv A outer s H vs Q E p hsp
end
theorem x_callS {sp : Sp} {E : L2.St → XK} {t : TA} {σ : L2.St} {H : Hp} {Q : VK} (h : t σ H fun vs H1 => sp vs H1 Q (E σ)) : tCallS sp E t σ H Q := h
end Fv
set_option maxRecDepth 100000
set_option maxHeartbeats 4000000
namespace L2
open PySem PySem.Spec PyProof.Rows
/-! ### set(xs) of a list of ints, so that it can be walked -/
section
variable {P : Program} {w : World} {A : Around} {E : Value → Shared → Prop} {s : Shared}
set_option maxHeartbeats 3200000 in
theorem lset_call {l : Addr} {items : Array Value} (ns : List Int) {Q : Value → Shared → Prop} (hh : A.handled = none) (hl : s.heap.IsList l items) (hit : IntsAre items.toList ns) (hb : ns.length + 1 < scanBound)
    (h : ∀ (h' : Heap) (tk c : Nat), SetR w h' s.heap.objs.size (fun j => decide (j ∈ ns)) c → c ≤ ns.length → (∀ b o, s.heap.get? b = some o → h'.get? b = some o) → Q (.ref s.heap.objs.size) { s with heap := h', toks := tk }) :
    wpAny (model P w) A (call (.type "set") [.ref l]) Q E s := by
  have hn : items.size = ns.length := by rw [← Array.length_toList]; exact IntsAre.length hit
  obtain ⟨c, tl, hmro⟩ := F.called_set.mro
  have hmade := F.called_set.made
  have hsub := F.called_set.sub
  have h1 := F.called_set.notType
  have h2 := F.called_set.canCreate
  have hct := F.typeCall_set_1 (.ref l)
  refine wpAny_call (codeAny_of_tree ?_)
  show wpAny _ _ (callAny (.type "set") _) _ _ _
  refine wpAny_pure ⟨Code.quiet_builtin _ (by decide +kernel), codeAny_builtin F.entry_type_call ?_⟩
  rw [Around.under_plain (weight_type_call_type "set" [.ref l] []) rfl]
  repeat (any_goals (first | assumption | wp_step))
  generalize ho : ({ cls := .type "set", dict := none, data := .set #[] 0 (.fresh 0 0 (!w.params.followText "set-order")) } : Obj) = ob
  refine codeAny_mono (code_set_led1 (.ref l) (E := E) (Q₁ := fun x t => x = .ref s.heap.objs.size ∧ t = { s with heap := s.heap.push ob }) ⟨rfl, by rw [ho]⟩) fun r t hr => ?_
  cases r with
  | error e => exact hr
  | ok fl =>
    cases fl with
    | ret x =>
      obtain ⟨rfl, rfl⟩ := hr
      have hS : (s.heap.push ob).get? s.heap.objs.size = some ob := Heap.get?_push_size _ (by rw [← ho]; rfl)
      have hT : Shared.TypeIs { s with heap := s.heap.push ob } (.ref s.heap.objs.size) "set" := ⟨_, hS, by rw [← ho]⟩
      have hli := F.called_set.init.lookup
      have hbi := F.called_set.init.bind (.ref s.heap.objs.size)
      repeat (any_goals (first | assumption | wp_step))
      refine codeAny_mono (codeAny_call_builtin (R := wants (fun r t => r = .none ∧ ∃ h' tk c, t = { s with heap := h', toks := tk } ∧ SetR w h' s.heap.objs.size (fun j => decide (j ∈ ns)) c ∧ c ≤ ns.length ∧
          (∀ b o, s.heap.get? b = some o → h'.get? b = some o)) E) F.called_set.init.plain F.entry_set_init (check_set_init_1 hT ?_)) fun r2 t2 hr2 => ?_
      · have hl0 : (s.heap.push ob).IsList l items := hl.push _
        obtain ⟨ol, hol, hcl, nl, hdl⟩ := hl
        obtain ⟨ocls, odict, odata, oslots⟩ := ol
        simp only at hcl hdl
        subst hcl hdl
        have hol' : (s.heap.push ob).get? l = some { cls := .type "list", dict := odict, data := .seq items nl, slots := oslots } := Heap.get?_push_of_some _ hol
        have e1 := F.sub_list_set
        have e2 := F.sub_list_frozenset
        have hne : (Value.type "list" == Value.type "dict") = false := by decide
        have lt : l < s.heap.objs.size := Heap.lt_size hol
        have sz : (s.heap.push ob).objs.size = s.heap.objs.size + 1 := Heap.size_push ..
        have hneI : l ≠ (s.heap.push ob).objs.size := by rw [sz]; exact Nat.ne_of_lt (Nat.lt_succ_of_lt lt)
        have hSf : s.heap.objs.size ∉ [(s.heap.push ob).objs.size, l] := by
          rw [sz]
          simp only [List.mem_cons, List.not_mem_nil, or_false, not_or]
          exact ⟨Nat.ne_of_lt (Nat.lt_succ_self _), Nat.ne_of_gt lt⟩
        have hh3 : A.in1.in1.in1.handled = none := by simp [hh]
        subst ho
        unfold Builtin.«set.__init__» noKeywords Builtin.Frozenset.updateFrom
        generalize hPI : pyIter = PI
        wp_walk
        subst hPI
        refine wpAny_pyIter_list hl0 ?_
        refine wpAny_bind (wpAny_runValue ?_)
        have hv : ∀ (i : Nat) (v : Value), items[i]? = some v → ∃ k t, ns[i]? = some k ∧ v = .int k t := fun i v hv => by
          have hi : i < ns.length := by rw [← hn]; exact (Array.getElem?_eq_some_iff.mp hv).1
          obtain ⟨t, e⟩ := IntsAre.int_at hit i v (by rw [Array.getElem?_toList]; exact hv)
          refine ⟨ns[i], t, List.getElem?_eq_getElem hi, ?_⟩
          rw [e, List.getD_eq_getElem?_getD, List.getElem?_eq_getElem hi] <;> rfl
        refine set_update_ints ((Walks.list hh3 _ l hneI items).toS) s.heap.objs.size hSf ns hn hb hv (items.size - 0) 0 _ (by omega) (Nat.zero_le _) ⟨⟨_, Heap.get?_push_size _ rfl, rfl, rfl⟩, hl0.push _⟩ ?hZero ?hRest
        case hZero => exact ⟨0, Nat.le_refl 0, setR_new_at (Heap.get?_push_of_some _ hS)⟩
        case hRest =>
          intro t' c' hm hc' hS'
          obtain ⟨h', g2, d', tk', os'⟩ := t'
          obtain rfl : g2 = s.gens := hm.gens
          obtain rfl : d' = s.drawn := hm.drawn
          obtain rfl : os' = s.os := hm.os
          show wpAny _ _ _ _ _ _
          refine wpAny_pure ?_
          show wpAny _ _ (ret Value.none) _ _ _
          rw [hn] at hc'
          refine wpAny_pure ⟨rfl, h', tk', c', rfl, hS', hc', fun b o e => ?_⟩
          have hb0 : b < s.heap.objs.size := Heap.lt_size e
          refine hm.heap b o ?_ (Heap.get?_push_of_some _ (Heap.get?_push_of_some _ e))
          rw [sz]
          simp only [List.mem_cons, List.not_mem_nil, or_false, not_or]
          exact ⟨Nat.ne_of_lt hb0, Nat.ne_of_lt (Nat.lt_succ_of_lt hb0)⟩
      · cases r2 with
        | error e => exact hr2
        | ok fl2 =>
          cases fl2 with
          | ret r =>
            obtain ⟨rfl, h', tk, c', rfl, hS', hc', hk'⟩ := hr2
            repeat (any_goals (first | assumption | wp_step))
            exact h _ _ _ hS' hc' hk'
          | _ => exact hr2.elim
    | _ => exact hr.elim
end
section
variable {X : Cx}
/-- set(xs), xs a list of ints: a new set -/
def rSetLi (K : PySem.W.Frag) (w : World) : List V → Hp → VK → Prop := fun xs H Q => ∃ (l : Addr) (ns : List Int), xs = [.ref l] ∧ SqL K H l (ns.map V.int) ∧ ns.length < 60 ∧ ∀ p c, H p = none → c ≤ ns.length → Q (.ref p) (upd H p (SetO w p (fun j => decide (j ∈ ns)) c))
theorem cr_setLi (hc : X.calm = true) : CallR X (.type "set") (rSetLi X.K X.w) := by
  intro pins s σ H vs us Q I r h
  obtain ⟨l, ns, rfl, hl, h60, q⟩ := h
  rw [Vals.ref1 r]
  obtain ⟨its, rv, p, hz⟩ := I.list hl
  refine lset_call ns (I.ok.hd hc) p.isList (by rw [List.toList_toArray]; exact ints_of_vals rv) (by unfold scanBound; omega) fun h' tk c R hcn k => ?_
  exact ⟨.ref _, _, I.laid (t' := tk) k (Nat.le_refl _) (setO_new R), rfl, q _ _ (I.hok.fresh (Nat.le_refl _)) hcn⟩
end
end L2
set_option maxRecDepth 100000
set_option maxHeartbeats 1000000
namespace Fv
open PySem PySem.Spec PyProof.Rows L2
/-! errors of the package kept as values: made, asked of their class, their fields read -/
/-- v is an error of the class at C, made and not raised, its fields these -/
def ErV (H : Hp) (v : V) (C : Addr) (fs : List (Str × V)) : Prop := ∃ a, v = .ref a ∧ ((H a = some (exo a C none) ∧ fs = []) ∨ ∃ dx, H a = some (exo a C (some dx)) ∧ H dx = some (exd dx fs))
theorem ErV.same {H H' : Hp} {v : V} {C : Addr} {fs : List (Str × V)} (s : Same H H') (h : ErV H v C fs) : ErV H' v C fs := by
  obtain ⟨a, e, h⟩ := h
  refine ⟨a, e, ?_⟩
  rcases h with ⟨h, z⟩ | ⟨dx, h1, h2⟩
  · exact .inl ⟨s _ _ h, z⟩
  · exact .inr ⟨dx, s _ _ h1, s _ _ h2⟩
section
variable {X : Cx} {K : PySem.W.Frag}
/-- C(), kept -/
theorem pe_supV {C fI : Addr} {x : Str} {p pos : Pos} (T : SupC X.prog X.K C fI) (hr : Room 1 X.A) (hg : Gl X x) (hm : X.mg x = some (.ref C)) (hs : X.mg "super" = none) (hdb : (x == ("__debug__" : Str)) = false := by decide) :
    PE X (.Call (.Name x p) [] [] pos) (fun _ H Q => ∀ v H', Same H H' → ErV H' v C [] → Q v H') := by
  refine ⟨fun pins s σ H Q I h => ?_⟩
  refine wpAny_Call_Name_kw (ld_glob I hg hm ?_ hdb)
  refine PySem.W.callWith_K0 I.kIn T.x.kC ?_
  obtain ⟨mb, hb1, hb2⟩ := I.mod.blt
  have hlim := I.nolimit
  have hgl : s.heap.Ns mainGlobals X.mg := I.mod.glob.keeps I.bk
  have hbl : s.heap.Ns builtinsNs mb := hb1.keeps I.bk
  obtain ⟨hp, g, d, t, os⟩ := s
  refine wpAny_call (sup_made T I.kIn hlim hgl hs hbl ((hb2 "super" (by decide)).trans (by first | rfl | decide +kernel | kernel_rfl)) (by have := hr.dp; omega) fun h' tk' e t1 k ge hx => ?_)
  have hn : H e = none := I.hok.fresh ge
  have J : Inv X pins σ (upd H e (exo e C none)) ⟨h', g, d, tk', os⟩ := I.laid (t' := tk') k ge (exo_ok hx)
  exact ⟨.ref e, _, J, rfl, h _ _ (same_new (Same.refl _) hn) ⟨e, rfl, .inl ⟨upd_same, rfl⟩⟩⟩
/-- C(e, ..), C's own __init__ keeping sp, kept -/
def tMkV (C : Addr) (sp : Sp) (ta : TA) : TE := fun σ H Q => ta σ H fun vs H1 => vs.length ≤ 1000 ∧ ∀ a, H1 a = none → sp (.ref a :: vs) (upd H1 a (exo a C none)) (fun v H2 => v = .non ∧ Q (.ref a) H2) (fun _ _ _ => False)
theorem pe_oexV {CX : CXT} {x : Str} {C fI : Addr} {k : Nat} {fd : FuncData} {ps : List Str} {sp : Sp} {e : Expr} {es : List Expr} {ta : TA} {p pos : Pos} (T : OexC X.K C) (iC : PySem.W.findIn X.K (.ref C) "__init__" = some (some (.ref fI))) (tI : PySem.W.typeIn X.K (.ref fI) = some (.type "function"))
    (F1 : FnOk X.prog X.w X.K X.mg X.base CX k fI fd ps sp) (hr : Room (k + 1) X.A) (hb : L2.Binds X.K fd ps []) (hx : L2.Passes CX X (fun _ _ _ => False)) (hg : Gl X x) (hm : X.mg x = some (.ref C)) (ha : PA X (e :: es) ta)
    (hdb : (x == ("__debug__" : Str)) = false := by decide) (he : starEach (e :: es) X.env = (false, eval e X.env) :: starEach es X.env := by rfl) (hpl : (backTo pos (starEach es X.env)).any (·.1) = false := by rfl) :
    PE X (.Call (.Name x p) (e :: es) [] pos) (tMkV C sp ta) := by
  refine ⟨fun pins s σ H Q I h => ?_⟩
  obtain ⟨nm, q, N, bs, bm, sn, sub, ab, col, dd, k0, k1, k2, k3, k5, hC, hbm⟩ := T.cls
  refine wpAny_Call_Name_kw (ld_glob I hg hm ?_ hdb)
  refine PySem.W.callWith_K (h₀ := X.base) I.ok.mod.kin T.kC (thn (ha.run pos pins s σ H _ I h) fun us z ⟨vs, H1, I1, r1, hz, q1⟩ => ⟨I1.kIn, ?_⟩) he hpl
  show wpAny _ _ (call (.ref C) us) _ _ _
  obtain ⟨hp, g, dr, tk, os⟩ := z
  have le : hp.objs.size ≤ hp.objs.size + 1 := Nat.le_succ _
  have new : H1 (hp.objs.size + 1) = none := I1.hok.fresh le
  have hq := q1 (hp.objs.size + 1) new
  have kk : ∀ b o, hp.get? b = some o → ((hp.push (PySem.W.kdv_tup us)).push (PySem.HandSPX.excO C hp.objs.size)).get? b = some o := fun b o y => Heap.get?_push_of_some _ (Heap.get?_push_of_some _ y)
  have got : ((hp.push (PySem.W.kdv_tup us)).push (PySem.HandSPX.excO C hp.objs.size)).get? (hp.objs.size + 1) = some (PySem.HandSPX.excO C hp.objs.size) := by heap_get
  have J : Inv X pins σ (upd H1 (hp.objs.size + 1) (exo (hp.objs.size + 1) C none)) ⟨(hp.push (PySem.W.kdv_tup us)).push (PySem.HandSPX.excO C hp.objs.size), g, dr, tk, os⟩ := I1.laid (t' := tk) kk le (exo_ok got)
  have rr : Vals (V.ref (hp.objs.size + 1) :: vs) (Value.ref (hp.objs.size + 1) :: us) := .cons rfl r1
  have hl : (Value.ref (hp.objs.size + 1) :: us ++ []).length = ps.length := by
    rw [List.append_nil]
    have y := rr.length
    rw [F1.len _ _ _ _ hq] at y
    exact y.symm
  have us' : us.length ≤ sizeLine := by
    rw [← Paired.length r1, sizeLine_eq]
    omega
  have hbb := hb _ (Value.ref (hp.objs.size + 1) :: us) J.kIn hl
  rw [List.append_nil] at hbb
  refine wpAny_call (PySem.HandSPX.call_own F.excBase_ValueError (fun Y => PySem.HandSPX.refsVE_contains Y bm hbm) (I1.kIn _ _ hC) (PySem.W.looks_findIn I1.kIn iC) (fun self => PySem.W.bind_fn I1.kIn self tI) us'
    (codeAny_mono (F1.run _ X.stack _ _ ⟨Value.ref (hp.objs.size + 1) :: us, []⟩ (Value.ref (hp.objs.size + 1) :: us) _ _ (fun _ _ _ => False) (hr.make C us []) (J.env0.make C us []) hbb rr hq) fun r s' hq' => ?_))
  cases r with
  | error er => exact hx pins σ _ _ er s' J hq'
  | ok fl =>
    cases fl with
    | ret u =>
      have y := J.after (Q := fun v H2 => v = .non ∧ Q (.ref (hp.objs.size + 1)) H2) hq'
      obtain ⟨v, H2, J2, rv, ev, q2⟩ := y
      subst ev
      exact ⟨rv, .ref (hp.objs.size + 1), H2, J2, rfl, q2⟩
    | next => exact False.elim hq'
    | brk => exact False.elim hq'
    | cont => exact False.elim hq'
/-- isinstance(e, c), e such a value -/
def rIsV (K : PySem.W.Frag) : List V → Hp → VK → Prop := fun xs H Q => ∃ (x c : V) (C : Addr) (fs : List (Str × V)) (cv : Value) (b : Bool), xs = [x, c] ∧ ErV H x C fs ∧ L2.ExcC K C ∧ (∀ u, RelV c u → u = cv) ∧ PySem.W.kitOne K (.ref C) cv = some b ∧ Q (.bl b) H
theorem er_at {pins : List (Addr × Obj)} {σ : L2.St} {H : Hp} {s : Shared} {v : V} {C : Addr} {fs : List (Str × V)} (I : Inv X pins σ H s) (h : ErV H v C fs) : ∃ a ox od, v = .ref a ∧ PySem.W.InstAt s.heap a ox C od ∧ ∀ f, (fs.lookup f).isSome = true → ∃ ob u, od = some ob ∧ PySem.W.lookIn f ob = some (some u) ∧ ∃ y, fs.lookup f = some y ∧ RelV y u := by
  obtain ⟨a, rfl, h⟩ := h
  rcases h with ⟨h, rfl⟩ | ⟨dx, h1, h2⟩
  · obtain ⟨t, e⟩ := exo_at I.hok h
    exact ⟨a, _, none, rfl, ⟨e, rfl, rfl, trivial⟩, fun f z => absurd z (by simp)⟩
  · obtain ⟨t, e⟩ := exo_at I.hok h1
    obtain ⟨mA, hns, hr⟩ := exd_at I.hok h2
    obtain ⟨ob, ho, hl⟩ := lookIn_ns hns
    refine ⟨a, _, some ob, rfl, ⟨e, rfl, rfl, ho⟩, fun f z => ?_⟩
    obtain ⟨y, ey⟩ := Option.isSome_iff_exists.mp z
    obtain ⟨u, hu, ru⟩ := RelO.some_of (v := y) (o := mA f) (by rw [← ey]; exact hr f)
    exact ⟨ob, u, rfl, by rw [hl, hu], y, ey, ru⟩
theorem call_isV (eK : X.K = K) : CallR X (.builtin "isinstance") (rIsV K) := by
  subst eK
  intro pins s σ H xs us Q I r h
  obtain ⟨x, c, C, fs, cv, b, rfl, he, hC, hcv, e, q⟩ := h
  obtain ⟨a, ox, od, rfl, J, _⟩ := er_at I he
  cases r with
  | cons rx rr =>
    cases rr with
    | cons rt rr =>
      cases rr
      cases rx
      have ec := hcv _ rt
      subst ec
      have hcl : (PySem.W.clsIn X.K C).isSome = true := by
        obtain ⟨cd, hc, _⟩ := PySem.W.any_some hC.hd
        rw [hc]
        rfl
      exact PySem.W.kia_one (PySem.W.kitx_exc hcl hC.hg hC.hk hC.hs hC.ha hC.hn hC.ht hC.hm) I.kIn J e (fun z => nomatch z) fun tk => ⟨.bl b, H, I.kept (t' := tk) fun _ _ z => z, rfl, q⟩
/-- e.f, e such a value -/
def tFV (K : PySem.W.Frag) (f : Str) (te : TE) : TE := fun σ H Q => te σ H fun x H1 => ∃ (C : Addr) (fs : List (Str × V)) (v : V), ErV H1 x C fs ∧ L2.ExcC K C ∧ PySem.W.findIn K (.ref C) f = some none ∧ fs.lookup f = some v ∧ Q v H1
theorem pe_fV {e : Expr} {te : TE} {n : Str} {pos : Pos} (eK : X.K = K) (he : PE X e te) (hb : attributeBase e n X.env (eval e X.env) = eval e X.env := by rfl) : PE X (.Attribute e n pos) (tFV K n te) := by
  subst eK
  refine ⟨fun pins s σ H Q I h => ?_⟩
  refine attr_of hb (thn (he.run pins s σ H _ I h) fun u s1 hh => ?_)
  obtain ⟨x, H1, I1, rx, C, fs, v, her, T, hno, l, q⟩ := hh
  obtain ⟨a, ox, od, rfl, J, look⟩ := er_at I1 her
  obtain rfl : u = Value.ref a := rx
  obtain ⟨ob, u, rfl, hl, y, ey, ry⟩ := look n (by rw [l]; rfl)
  rw [l] at ey
  cases ey
  exact HandSPX.exc_get I1.kIn J T.hg T.hk T.hs (PySem.W.findObj_own T.hd hno rfl hl) (handed_of ry) ⟨v, H1, I1.tok _, ry, q⟩
theorem x_isV {H : Hp} {Q : VK} {x : V} {C D : Addr} {fs : List (Str × V)} {b : Bool} (he : ErV H x C fs) (hC : L2.ExcC K C) (k : PySem.W.kitOne K (.ref C) (.ref D) = some b) (q : Q (.bl b) H) : rIsV K [x, .ref D] H Q :=
  ⟨x, .ref D, C, fs, .ref D, b, rfl, he, hC, fun u h => by cases h; rfl, k, q⟩
theorem x_isVv {H : Hp} {Q : VK} {x : V} {C : Addr} {fs : List (Str × V)} {b : Bool} (he : ErV H x C fs) (hC : L2.ExcC K C) (k : PySem.W.kitOne K (.ref C) (.type "ValueError") = some b) (q : Q (.bl b) H) : rIsV K [x, .ty "ValueError"] H Q :=
  ⟨x, .ty "ValueError", C, fs, .type "ValueError", b, rfl, he, hC, fun u h => by cases h; rfl, k, q⟩
theorem x_fV {f : Str} {te : TE} {σ : L2.St} {H : Hp} {Q : VK} (h : te σ H fun x H1 => ∃ (C : Addr) (fs : List (Str × V)) (v : V), ErV H1 x C fs ∧ L2.ExcC K C ∧ PySem.W.findIn K (.ref C) f = some none ∧ fs.lookup f = some v ∧ Q v H1) : tFV K f te σ H Q := h
/-- a promise that is asked for more serves -/
theorem pe_weak {e : Expr} {t t' : TE} (h : PE X e t) (w : ∀ σ H Q, t' σ H Q → t σ H Q) : PE X e t' := ⟨fun pins s σ H Q I q => h.run pins s σ H Q I (w σ H Q q)⟩
theorem pa_weak {es : List Expr} {t t' : TA} (h : PA X es t) (w : ∀ σ H Q, t' σ H Q → t σ H Q) : PA X es t' := ⟨fun pos pins s σ H Q I q => h.run pos pins s σ H Q I (w σ H Q q)⟩
end
end Fv
set_option maxRecDepth 100000
set_option maxHeartbeats 1000000
namespace Fv
open PySem PySem.Spec PyProof.Rows L2
/-! a thing that is alike itself, dicts of one key among what it holds; walks of a dict's keys -/
theorem units1 {k : Nat} {A : Around} (r : Room k A) : A.units + 1 < cLine := by
  have := r.units
  omega
def Rx (H : Hp) : Nat → V → Prop
  | 0, x => sca x = true
  | n + 1, x => sca x = true ∨ (∃ a xs, x = .ref a ∧ (H a = some (.lst xs) ∨ H a = some (.tup xs)) ∧ xs.length ≤ 1000 ∧ ∀ y ∈ xs, Rx H n y) ∨ ∃ a k v, x = .ref a ∧ H a = some (.dK [(k, v)]) ∧ sca v = true
theorem Rx.sca {H : Hp} {n : Nat} {x : V} (h : Fv.sca x = true) : Rx H n x := by
  cases n with
  | zero => exact h
  | succ n => exact .inl h
theorem Rx.same : ∀ {n : Nat} {H H' : Hp} {x : V}, Same H H' → Rx H n x → Rx H' n x
  | 0, _, _, _, _, h => h
  | n + 1, H, H', x, s, h => by
    rcases h with h | ⟨a, xs, e, h1, hz, h⟩ | ⟨a, k, v, e, h1, h⟩
    · exact .inl h
    · exact .inr (.inl ⟨a, xs, e, h1.imp (s _ _) (s _ _), hz, fun y hy => (h y hy).same s⟩)
    · exact .inr (.inr ⟨a, k, v, e, s _ _ h1, h⟩)
theorem Rx.up : ∀ {n : Nat} {H : Hp} {x : V}, Rx H n x → Rx H (n + 1) x
  | 0, _, _, h => .inl h
  | n + 1, H, x, h => by
    rcases h with h | ⟨a, xs, e, h1, hz, h⟩ | h
    · exact .inl h
    · exact .inr (.inl ⟨a, xs, e, h1, hz, fun y hy => (h y hy).up⟩)
    · exact .inr (.inr h)
theorem Rx.le {n m : Nat} {H : Hp} {x : V} (hm : n ≤ m) (h : Rx H n x) : Rx H m x := by
  induction hm with
  | refl => exact h
  | step _ ih => exact ih.up
theorem Rx.of_al {K : PySem.W.Frag} : ∀ {n : Nat} {H : Hp} {x : V}, Al K H n x x → Rx H n x
  | 0, _, _, h => h.2
  | n + 1, H, x, h => by
    rcases h with h | ⟨a, b, xs, ys, e1, e2, h1, h2, hl, hz, h⟩ | ⟨a, b, xs, ys, e1, e2, h1, h2, hl, hz, h⟩
    · exact .inl h.2
    · rw [e1] at e2
      cases e2
      rw [h1] at h2
      cases h2
      refine .inr (.inl ⟨a, xs, e1, .inl h1, hz, fun y hy => ?_⟩)
      obtain ⟨i, hi, rfl⟩ := List.getElem_of_mem hy
      exact Rx.of_al (h i hi hi)
    · rw [e1] at e2
      cases e2
      rw [h1] at h2
      cases h2
      refine .inr (.inl ⟨a, xs, e1, .inr h1, hz, fun y hy => ?_⟩)
      obtain ⟨i, hi, rfl⟩ := List.getElem_of_mem hy
      exact Rx.of_al (h i hi hi)
theorem Rx.lst {n : Nat} {H : Hp} {a : Addr} {xs : List V} (h : H a = some (.lst xs)) (hz : xs.length ≤ 1000) (q : ∀ y ∈ xs, Rx H n y) : Rx H (n + 1) (.ref a) := .inr (.inl ⟨a, xs, rfl, .inl h, hz, q⟩)
theorem Rx.tup {n : Nat} {H : Hp} {a : Addr} {xs : List V} (h : H a = some (.tup xs)) (hz : xs.length ≤ 1000) (q : ∀ y ∈ xs, Rx H n y) : Rx H (n + 1) (.ref a) := .inr (.inl ⟨a, xs, rfl, .inr h, hz, q⟩)
section
variable {H H' : Hp} {a d D : Addr} {Q : VK} {σ : L2.St} {t : TE} {u : HO} {o : Obj} {kvs : List (Key × V)}
theorem x_lock (h : H d = some u) (mu : Mut (some u)) (q : ∀ od, t σ (upd H d (.frz od u)) fun v H' => H' d = some (.frz od u) ∧ Q v (upd H' d u)) : tLockE t σ H Q := ⟨d, u, h, mu, q⟩
theorem same_unlock {w : HO} (h : H d = some u) (s : Same (upd H d w) H') : Same H (upd H' d u) := fun b o e => by
  by_cases hb : b = d
  · subst hb
    rw [upd_same, ← h, e]
  · rw [upd_ne hb]
    exact s b o (by rw [upd_ne hb]; exact e)
theorem x_din {ty td : TE} (h : ty σ H fun y H1 => td σ H1 fun x H2 => ∃ a o, x = .ref a ∧ DGet H2 a y o ∧ Q (.bl o.isSome) H2) : tDIn ty td σ H Q := h
theorem x_dget {td ty : TE} (h : td σ H fun x H1 => ty σ H1 fun y H2 => ∃ a v, x = .ref a ∧ DGet H2 a y (some v) ∧ Q v H2) : tDGet td ty σ H Q := h
theorem one_val {k : Key} {v : V} : valV [(k, v)] k = some v := by
  unfold valV
  simp
theorem x_keys {td : TE} {R : It → Hp → Prop} (h : td σ H fun x H1 => ∃ d o, x = .ref d ∧ ∃ kvs, H1 d = some (.frz o (.dK kvs)) ∧ R (Itk d o kvs) H1) (w : ∀ Q Q' : VK, (∀ x H, Q x H → Q' x H) → td σ H Q → td σ H Q') : iKeys td σ H R := by
  refine w _ _ (fun x H q => ?_) h
  obtain ⟨d, o, e, kvs, h1, h2⟩ := q
  exact ⟨d, o, e, .inl ⟨kvs, h1, h2⟩⟩
theorem x_keysV {i : Nat} {R : It → Hp → Prop} (h : σ[i]? = some (some (.ref d))) (h1 : H d = some (.frz o (.dK kvs))) (q : R (Itk d o kvs) H) : iKeys (tVar i) σ H R :=
  ⟨.ref d, h, d, o, rfl, .inl ⟨kvs, h1, q⟩⟩
/-- a block over the keys of a dict that it leaves as it is -/
theorem lc_keys {g : TG} {tt : TT} {te : TE} {vs : List Nat} {H1 : Hp} {Qd : Hp → Prop} (Pv : Nat → Hp → Prop) (h0 : Pv 0 (upd H1 D (.lst []))) (hl : ∀ i H, Pv i H → H d = some (.frz o (.dK kvs)))
    (hs : ∀ i k v G, kvs[i]? = some (k, v) → Pv i G → g (kV k) (wipe σ vs) G fun σ2 G2 => wipe σ2 vs = wipe σ vs ∧ tt σ2 G2 fun b G3 => if b = true then te σ2 G3 fun y G4 => ∃ acc, G4 D = some (.lst acc) ∧ acc.length < sizeLine ∧ Pv (i + 1) (upd G4 D (.lst (acc ++ [y]))) else Pv (i + 1) G3)
    (hd : ∀ G, Pv kvs.length G → Qd G) :
    ∃ W : Nat → Nat → Hp → Prop, (∃ m, W 0 m (upd H1 D (.lst []))) ∧ ∀ i m G, W i m G →
      ((Itk d o kvs).stop i G ∧ Qd G) ∨ ((Itk d o kvs).go i G ∧ ∃ Nx : Hp → Prop, (∀ G', Nx G' → ∃ m', m' < m ∧ W (i + 1) m' G') ∧ ∀ x G', (Itk d o kvs).yld i G x G' → g x (wipe σ vs) G' fun σ2 G2 => wipe σ2 vs = wipe σ vs ∧ tt σ2 G2 fun b G3 =>
        if b = true then te σ2 G3 fun y G4 => ∃ acc, G4 D = some (.lst acc) ∧ acc.length < sizeLine ∧ Nx (upd G4 D (.lst (acc ++ [y]))) else Nx G3) := by
  refine ⟨fun i m G => m = kvs.length - i ∧ i ≤ kvs.length ∧ Pv i G, ⟨_, rfl, Nat.zero_le _, h0⟩, ?_⟩
  rintro i m G ⟨rfl, hi, p⟩
  by_cases hlt : i < kvs.length
  · refine .inr ⟨⟨hl i G p, hlt⟩, Pv (i + 1), fun G' p' => ⟨_, by omega, rfl, hlt, p'⟩, ?_⟩
    rintro x G' ⟨rfl, k, v, e, rfl⟩
    exact hs i k v _ e p
  · have e : i = kvs.length := by omega
    subst e
    exact .inl ⟨⟨hl _ G p, Nat.le_refl _⟩, hd G p⟩
end
end Fv
/-! keyed rows, what a block had; nothing of the program here -/
namespace Fv
open PySem PySem.Spec L2
/-- the dict k: x0, k + 1: x1, .. -/
def kdl : Nat → List V → List (Key × V)
  | _, [] => []
  | k, x :: r => (Sum.inl (k : Int), x) :: kdl (k + 1) r
theorem kdl_len : ∀ (k : Nat) (xs : List V), (kdl k xs).length = xs.length
  | _, [] => rfl
  | k, _ :: r => by
    show (kdl (k + 1) r).length + 1 = r.length + 1
    rw [kdl_len]
theorem kdl_get : ∀ (k : Nat) (xs : List V) (i : Nat), (kdl k xs)[i]? = xs[i]?.map fun x => (Sum.inl ((k + i : Nat) : Int), x)
  | _, [], _ => rfl
  | k, x :: r, 0 => rfl
  | k, x :: r, i + 1 => by
    show (kdl (k + 1) r)[i]? = r[i]?.map _
    rw [kdl_get (k + 1) r i, show k + 1 + i = k + (i + 1) by omega]
theorem kdl_at {k : Nat} {xs : List V} {i : Nat} {q : Key} {v : V} (h : (kdl k xs)[i]? = some (q, v)) : q = Sum.inl ((k + i : Nat) : Int) ∧ xs[i]? = some v := by
  rw [kdl_get] at h
  cases e : xs[i]? with
  | none => rw [e] at h; cases h
  | some x => rw [e] at h; cases h; exact ⟨rfl, rfl⟩
theorem kdl_val : ∀ {k : Nat} {xs : List V} {i : Nat} {x : V}, xs[i]? = some x → valV (kdl k xs) (Sum.inl ((k + i : Nat) : Int)) = some x
  | _, [], _, _, h => by cases h
  | k, y :: r, 0, x, h => by
    cases h
    exact valV_pos rfl
  | k, y :: r, i + 1, x, h => by
    show valV ((Sum.inl (k : Int), y) :: kdl (k + 1) r) _ = _
    rw [valV_neg (by
      intro e
      have := Sum.inl.inj e
      omega), show k + (i + 1) = k + 1 + i by omega]
    exact kdl_val h
theorem kdl_no : ∀ {k : Nat} {xs : List V} {b : Int}, (b < k ∨ (k : Int) + xs.length ≤ b) → valV (kdl k xs) (Sum.inl b) = none
  | _, [], _, _ => rfl
  | k, y :: r, b, h => by
    rw [List.length_cons] at h
    show valV ((Sum.inl (k : Int), y) :: kdl (k + 1) r) _ = _
    rw [valV_neg (by
      intro e
      have := Sum.inl.inj e
      omega)]
    exact kdl_no (by omega)
theorem kdl_app : ∀ (k : Nat) (xs ys : List V), kdl k (xs ++ ys) = kdl k xs ++ kdl (k + xs.length) ys
  | _, [], _ => rfl
  | k, x :: r, ys => by
    show _ :: kdl (k + 1) (r ++ ys) = _ :: (kdl (k + 1) r ++ _)
    rw [kdl_app (k + 1) r ys, List.length_cons, show k + 1 + r.length = k + (r.length + 1) by omega]
theorem kdl_snoc {k : Nat} {xs : List V} {b : Int} {v : V} (h : b = ((k + xs.length : Nat) : Int)) : putK (kdl k xs) (Sum.inl b) v = kdl k (xs ++ [v]) := by
  subst h
  rw [putK_new v (kdl_no (.inr (by omega))), kdl_app]
  rfl
theorem kdl_set {k : Nat} {xs : List V} {i : Nat} {b : Int} {v : V} (hi : i < xs.length) (h : b = ((k + i : Nat) : Int)) : putK (kdl k xs) (Sum.inl b) v = kdl k (xs.set i v) := by
  subst h
  have hv := kdl_val (k := k) (List.getElem?_eq_getElem hi)
  unfold putK
  rw [valV_any, hv]
  simp only [Option.isSome_some, if_true]
  refine List.ext_getElem? fun j => ?_
  rw [List.getElem?_map, kdl_get, kdl_get, List.getElem?_set]
  by_cases c : i = j
  · subst c
    rw [List.getElem?_eq_getElem hi]
    simp [hi]
  · rw [if_neg c]
    cases xs[j]? with
    | none => rfl
    | some x =>
      simp only [Option.map_some]
      rw [if_neg (by
        intro e
        have := Sum.inl.inj e
        omega)]
theorem kdl_merge : ∀ (ys : List V) (k : Nat) (xs : List V), mergeK (kdl k xs) (kdl (k + xs.length) ys) = kdl k (xs ++ ys)
  | [], k, xs => by
    rw [List.append_nil]
    rfl
  | y :: r, k, xs => by
    show mergeK (putK (kdl k xs) (Sum.inl ((k + xs.length : Nat) : Int)) y) (kdl (k + xs.length + 1) r) = _
    rw [kdl_snoc rfl, show k + xs.length + 1 = k + (xs ++ [y]).length by rw [List.length_append]; show _ = k + (xs.length + 1); omega, kdl_merge r k (xs ++ [y]), List.append_assoc]
    rfl
theorem kdl_fresh (k : Nat) (ys : List V) : mergeK [] (kdl k ys) = kdl k ys := kdl_merge ys k []
/-! ascending lists -/
theorem asc_ext : ∀ {a b : List Int}, a.Pairwise (· < ·) → b.Pairwise (· < ·) → (∀ k, k ∈ a ↔ k ∈ b) → a = b
  | [], [], _, _, _ => rfl
  | [], y :: b, _, _, h => absurd ((h y).2 List.mem_cons_self) (by simp)
  | x :: a, [], _, _, h => absurd ((h x).1 List.mem_cons_self) (by simp)
  | x :: a, y :: b, ha, hb, h => by
    obtain ⟨a1, a2⟩ := List.pairwise_cons.mp ha
    obtain ⟨b1, b2⟩ := List.pairwise_cons.mp hb
    have e : x = y := by
      rcases List.mem_cons.mp ((h x).1 List.mem_cons_self) with e | e
      · exact e
      · rcases List.mem_cons.mp ((h y).2 List.mem_cons_self) with e2 | e2
        · exact e2.symm
        · have := a1 _ e2
          have := b1 _ e
          omega
    subst e
    rw [asc_ext a2 b2 fun k => ?_]
    constructor
    · intro m
      rcases List.mem_cons.mp ((h k).1 (List.mem_cons_of_mem _ m)) with e | e
      · subst e
        exact absurd (a1 _ m) (by omega)
      · exact e
    · intro m
      rcases List.mem_cons.mp ((h k).2 (List.mem_cons_of_mem _ m)) with e | e
      · subst e
        exact absurd (b1 _ m) (by omega)
      · exact e
def intsN (l : List Nat) : List Int := l.map fun (p : Nat) => (p : Int)
/-- the places of l up to n, once each, ascending -/
def hadL (n : Nat) (l : List Nat) : List Nat := (List.range (n + 1)).filter fun p => decide (p ∈ l)
theorem hadL_mem {n : Nat} {l : List Nat} {p : Nat} : p ∈ hadL n l ↔ p ≤ n ∧ p ∈ l := by
  unfold hadL
  rw [List.mem_filter, List.mem_range, decide_eq_true_iff]
  exact ⟨fun h => ⟨by have := h.1; omega, h.2⟩, fun h => ⟨by have := h.1; omega, h.2⟩⟩
theorem hadL_asc (n : Nat) (l : List Nat) : (hadL n l).Pairwise (· < ·) := List.Pairwise.filter _ List.pairwise_lt_range
theorem hadL_only {n : Nat} {l : List Nat} {ns : List Int} (h : ∀ p ∈ l, p ≤ n) (a : ns.Pairwise (· < ·)) (m : ∀ k : Int, k ∈ ns ↔ decide (k ∈ intsN l) = true) : ns = intsN (hadL n l) := by
  refine asc_ext a ?_ fun k => ?_
  · exact List.Pairwise.map _ (fun a b (c : a < b) => Int.ofNat_lt.mpr c) (hadL_asc n l)
  · rw [m, decide_eq_true_iff]
    unfold intsN
    rw [List.mem_map, List.mem_map]
    constructor
    · rintro ⟨p, hp, rfl⟩
      exact ⟨p, hadL_mem.2 ⟨h p hp, hp⟩, rfl⟩
    · rintro ⟨p, hp, rfl⟩
      exact ⟨p, (hadL_mem.1 hp).2, rfl⟩
theorem hadL_len (n : Nat) (l : List Nat) : (hadL n l).length ≤ n + 1 := by
  have := List.length_filter_le (fun p => decide (p ∈ l)) (List.range (n + 1))
  rw [List.length_range] at this
  exact this
theorem intsN_len (l : List Nat) : (intsN l).length = l.length := List.length_map ..
/-- a move's place goes to its block's list -/
def addT (ls : List (List Nat)) (m : Nat × Nat) : List (List Nat) := ls.set (m.1 - 1) (ls.getD (m.1 - 1) [] ++ [m.2])
def tiesL (hs : List Nat) (ms : List (Nat × Nat)) : List (List Nat) := ms.foldl addT (hs.map fun p => [p])
def hadLs (hs : List Nat) (ms : List (Nat × Nat)) : List (List Nat) := (tiesL hs ms).map (hadL hs.length)
theorem addT_len (ls : List (List Nat)) (m : Nat × Nat) : (addT ls m).length = ls.length := List.length_set ..
theorem foldT_len : ∀ (ms : List (Nat × Nat)) (ls : List (List Nat)), (ms.foldl addT ls).length = ls.length
  | [], _ => rfl
  | m :: r, ls => by
    show (r.foldl addT (addT ls m)).length = _
    rw [foldT_len r, addT_len]
theorem tiesL_len (hs : List Nat) (ms : List (Nat × Nat)) : (tiesL hs ms).length = hs.length := by
  unfold tiesL
  rw [foldT_len, List.length_map]
theorem tiesL_snoc (hs : List Nat) (ms : List (Nat × Nat)) (m : Nat × Nat) : tiesL hs (ms ++ [m]) = addT (tiesL hs ms) m := by
  unfold tiesL
  rw [List.foldl_append]
  rfl
theorem tiesL_take {hs : List Nat} {ms : List (Nat × Nat)} {i : Nat} {m : Nat × Nat} (h : ms[i]? = some m) : tiesL hs (ms.take (i + 1)) = addT (tiesL hs (ms.take i)) m := by
  rw [List.take_add_one, h]
  exact tiesL_snoc ..
/-- each list holds places up to n that aren't its block, and at most k + 1 of them -/
def TieOk (n k : Nat) (ls : List (List Nat)) : Prop := ∀ i l, ls[i]? = some l → 1 ≤ l.length ∧ l.length ≤ k + 1 ∧ ∀ p ∈ l, p ≤ n ∧ p ≠ i + 1
theorem TieOk.add {n k : Nat} {ls : List (List Nat)} {m : Nat × Nat} (h : TieOk n k ls) (b1 : 1 ≤ m.1) (hp : m.2 ≤ n) (hb : m.2 ≠ m.1) : TieOk n (k + 1) (addT ls m) := by
  intro i l e
  unfold addT at e
  rw [List.getElem?_set] at e
  split at e
  · rename_i c
    subst c
    split at e
    · rename_i lt
      have g := List.getElem?_eq_getElem lt
      rw [List.getD_eq_getElem?_getD, g] at e
      cases e
      obtain ⟨q1, q2, q3⟩ := h _ _ g
      rw [Option.getD_some, List.length_append]
      refine ⟨by omega, by show _ + 1 ≤ _; omega, fun p hm => ?_⟩
      rcases List.mem_append.mp hm with hm | hm
      · exact q3 p hm
      · rw [List.mem_singleton.mp hm]
        exact ⟨hp, by omega⟩
    · cases e
  · obtain ⟨q1, q2, q3⟩ := h _ _ e
    exact ⟨q1, by omega, q3⟩
theorem tieOk_base {hs : List Nat} (h1 : ∀ i p, hs[i]? = some p → p ≤ hs.length ∧ p ≠ i + 1) : TieOk hs.length 0 (hs.map fun p => [p]) := by
  intro i l e
  rw [List.getElem?_map] at e
  cases g : hs[i]? with
  | none => rw [g] at e; cases e
  | some p =>
    rw [g] at e
    cases e
    refine ⟨Nat.le_refl _, Nat.le_refl _, fun q hq => ?_⟩
    rw [List.mem_singleton.mp hq]
    exact h1 i p g
theorem tieOk_all {hs : List Nat} {ms : List (Nat × Nat)} (h1 : ∀ i p, hs[i]? = some p → p ≤ hs.length ∧ p ≠ i + 1) (h2 : ∀ m ∈ ms, 1 ≤ m.1 ∧ m.2 ≤ hs.length ∧ m.2 ≠ m.1) : ∀ i, i ≤ ms.length → TieOk hs.length i (tiesL hs (ms.take i))
  | 0, _ => tieOk_base h1
  | i + 1, hi => by
    have e := List.getElem?_eq_getElem (show i < ms.length by omega)
    rw [tiesL_take e]
    obtain ⟨a, b, c⟩ := h2 _ (List.getElem_mem (show i < ms.length by omega))
    exact (tieOk_all h1 h2 i (by omega)).add a b c
/-- what the blocks had: places that fit, ascending, at least one -/
structure KnownOk (n : Nat) (ks : List (List Nat)) : Prop where
  len : ks.length = n
  at_ : ∀ i k, ks[i]? = some k → 1 ≤ k.length ∧ k.Pairwise (· < ·) ∧ ∀ p ∈ k, p ≤ n ∧ p ≠ i + 1
theorem hadLs_len (hs : List Nat) (ms : List (Nat × Nat)) : (hadLs hs ms).length = hs.length := by
  unfold hadLs
  rw [List.length_map, tiesL_len]
theorem hadLs_ok {hs : List Nat} {ms : List (Nat × Nat)} (h1 : ∀ i p, hs[i]? = some p → p ≤ hs.length ∧ p ≠ i + 1) (h2 : ∀ m ∈ ms, 1 ≤ m.1 ∧ m.2 ≤ hs.length ∧ m.2 ≠ m.1) : KnownOk hs.length (hadLs hs ms) := by
  refine ⟨hadLs_len hs ms, fun i k e => ?_⟩
  unfold hadLs at e
  rw [List.getElem?_map] at e
  cases g : (tiesL hs ms)[i]? with
  | none => rw [g] at e; cases e
  | some l =>
    rw [g] at e
    cases e
    have t := tieOk_all h1 h2 ms.length (Nat.le_refl _)
    rw [List.take_length] at t
    obtain ⟨q1, q2, q3⟩ := t i l g
    refine ⟨?_, hadL_asc _ _, fun p hp => ?_⟩
    · match l, q1, q3 with
      | p :: r, _, q3 =>
        have m : p ∈ hadL hs.length (p :: r) := hadL_mem.2 ⟨(q3 p List.mem_cons_self).1, List.mem_cons_self⟩
        exact List.length_pos_of_mem m
    · exact q3 p (hadL_mem.1 hp).2
end Fv
set_option maxRecDepth 100000
set_option maxHeartbeats 2000000
namespace Fv
open PySem PySem.Spec PyProof.Rows L2
/-! dicts: made by a comprehension, compared, walked where they were just made -/
section
variable {X : Cx} {K : PySem.W.Frag}
theorem cr_setLiK {w : World} (e : X.K = K) (e2 : X.w = w) (hc : X.calm = true) : CallR X (.type "set") (rSetLi K w) := by
  subst e e2
  exact cr_setLi hc
theorem cr_sortedSetW {w : World} (e2 : X.w = w) (hc : X.calm = true) : CallR X (.builtin "sorted") (rSortedSet w) := by
  subst e2
  exact cr_sortedSet hc
theorem call_dictPK (e : X.K = K) (hc : X.calm = true) : CallR X (.type "dict") (fun xs H Q => ∃ (a : Addr) (ps : List Addr) (kvs : List (Key × V)), xs = [.ref a] ∧ SqL K H a (ps.map V.ref) ∧ Paired (fun p kv => SqT K H p [kV kv.1, kv.2]) ps kvs ∧
    ∀ p, H p = none → Q (.ref p) (upd H p (.dK (mergeK [] kvs)))) := by
  subst e
  exact call_dictP hc
/-- a dict comprehension over a walk -/
theorem dc_it {J : It} {n : Nat} {G : Hp → Prop} {Y : Nat → Hp → V → Hp → Prop} (w : Walk J n G Y) {g : TG} {tt : TT} {tk tv : TE} {vs : List Nat} {σ : L2.St} {H1 : Hp} {D : Addr} {Qd : Hp → Prop} (Pv : Nat → Hp → Prop) (h0 : Pv 0 (upd H1 D (.dK []))) (hG : ∀ i H, i ≤ n → Pv i H → G H)
    (hs : ∀ i x H H', i < n → Pv i H → Y i H x H' → g x (wipe σ vs) H' fun σ2 H2 => wipe σ2 vs = wipe σ vs ∧ tt σ2 H2 fun b H3 =>
      if b = true then tk σ2 H3 fun y H4 => tv σ2 H4 fun z H5 => ∃ kvs k, y = kV k ∧ H5 D = some (.dK kvs) ∧ kvs.length < sizeLine ∧ Pv (i + 1) (upd H5 D (.dK (putK kvs k z))) else Pv (i + 1) H3) (hd : ∀ H, Pv n H → Qd H) :
    ∃ W : Nat → Nat → Hp → Prop, (∃ m, W 0 m (upd H1 D (.dK []))) ∧ ∀ i m H, W i m H →
      (J.stop i H ∧ Qd H) ∨ (J.go i H ∧ ∃ Nx : Hp → Prop, (∀ H', Nx H' → ∃ m', m' < m ∧ W (i + 1) m' H') ∧ ∀ x H', J.yld i H x H' → g x (wipe σ vs) H' fun σ2 H2 => wipe σ2 vs = wipe σ vs ∧ tt σ2 H2 fun b H3 =>
        if b = true then tk σ2 H3 fun y H4 => tv σ2 H4 fun z H5 => ∃ kvs k, y = kV k ∧ H5 D = some (.dK kvs) ∧ kvs.length < sizeLine ∧ Nx (upd H5 D (.dK (putK kvs k z))) else Nx H3) := by
  refine ⟨fun i m H => m = n - i ∧ i ≤ n ∧ Pv i H, ⟨n, by simp, Nat.zero_le _, h0⟩, ?_⟩
  rintro i m H ⟨rfl, hi, p⟩
  have q := hG i H hi p
  by_cases hlt : i < n
  · refine .inr ⟨w.goes i H hlt q, Pv (i + 1), fun H' p' => ⟨n - (i + 1), by omega, rfl, hlt, p'⟩, fun x H' y => hs i x H H' hlt p (w.yields i H x H' hlt q y)⟩
  · have e : i = n := by omega
    subst e
    exact .inl ⟨w.stops H q, hd H p⟩
/-- a for over a walk -/
theorem lp_it {J : It} {n : Nat} {G : Hp → Prop} {Y : Nat → Hp → V → Hp → Prop} (w : Walk J n G Y) {g : TG} {tb : TS} {nx : L2.St → Hp → Prop} {rt : VK} {σ : L2.St} {H : Hp} (Pv : Nat → L2.St → Hp → Prop) (h0 : Pv 0 σ H) (hG : ∀ i σ H, i ≤ n → Pv i σ H → G H)
    (hs : ∀ i x σ H H', i < n → Pv i σ H → Y i H x H' → g x σ H' fun σ2 H2 => tb { nx := Pv (i + 1), rt := rt, bk := nx, ct := Pv (i + 1) } σ2 H2) (hd : ∀ σ H, Pv n σ H → nx σ H) :
    ∃ W : Nat → Nat → L2.St → Hp → Prop, (∃ m, W 0 m σ H) ∧ ∀ i m σ H, W i m σ H → (J.stop i H ∧ nx σ H) ∨ (J.go i H ∧ ∃ N : L2.St → Hp → Prop, (∀ σ' H', N σ' H' → ∃ m', m' < m ∧ W (i + 1) m' σ' H') ∧ ∀ x H', J.yld i H x H' → g x σ H' fun σ2 H2 => tb { nx := N, rt := rt, bk := nx, ct := N } σ2 H2) := by
  refine ⟨fun i m σ H => m = n - i ∧ i ≤ n ∧ Pv i σ H, ⟨_, rfl, Nat.zero_le _, h0⟩, ?_⟩
  rintro i m σ H ⟨rfl, hi, p⟩
  have q := hG i σ H hi p
  by_cases hlt : i < n
  · exact .inr ⟨w.goes i H hlt q, Pv (i + 1), fun σ' H' p' => ⟨_, by omega, rfl, hlt, p'⟩, fun x H' y => hs i x σ H H' hlt p (w.yields i H x H' hlt q y)⟩
  · have e : i = n := by omega
    subst e
    exact .inl ⟨w.stops H q, hd σ H p⟩
theorem x_dc {wi : TI} {g : TG} {tt : TT} {tk tv : TE} {vs : List Nat} {σ : L2.St} {H : Hp} {Q : VK} (h : wi σ H fun J H1 => ∀ D, H1 D = none → ∃ W : Nat → Nat → Hp → Prop, (∃ m, W 0 m (upd H1 D (.dK []))) ∧ ∀ i m H, W i m H →
    (J.stop i H ∧ Q (.ref D) H) ∨ (J.go i H ∧ ∃ Nx : Hp → Prop, (∀ H', Nx H' → ∃ m', m' < m ∧ W (i + 1) m' H') ∧ ∀ x H', J.yld i H x H' → g x (wipe σ vs) H' fun σ2 H2 => wipe σ2 vs = wipe σ vs ∧ tt σ2 H2 fun b H3 =>
      if b = true then tk σ2 H3 fun y H4 => tv σ2 H4 fun z H5 => ∃ kvs k, y = kV k ∧ H5 D = some (.dK kvs) ∧ kvs.length < sizeLine ∧ Nx (upd H5 D (.dK (putK kvs k z))) else Nx H3)) : tDc wi g tt tk tv vs σ H Q := h
theorem walk_enumT {t : Addr} {k : Int} {xs : List V} : Walk (Itn K t k) xs.length (fun H => SqT K H t xs) (YPair (fun i => some (.int (k + (i : Nat)))) (fun i => xs[i]?)) := by
  refine ⟨fun i _ hi q => ⟨xs, xs[i], q, by simp [hi]⟩, fun _ q => ⟨xs, q, rfl⟩, fun i H v H' _ q y => ?_⟩
  obtain ⟨T, z, h1, h2, h3, h4⟩ := y
  exact ⟨T, .int (k + (i : Nat)), z, h1, h2, h3, rfl, h4 xs q⟩
/-- for k in d, d just made: it stays as it is from here on -/
def iKeysF (td : TE) : TI := fun σ H R => td σ H fun x H1 => ∃ d kvs, x = .ref d ∧ H1 d = some (.dK kvs) ∧ ∀ o, R (Itk d o kvs) (upd H1 d (.frz o (.dK kvs)))
theorem x_keysF {td : TE} {σ : L2.St} {H : Hp} {R : It → Hp → Prop} (h : td σ H fun x H1 => ∃ d kvs, x = .ref d ∧ H1 d = some (.dK kvs) ∧ ∀ o, R (Itk d o kvs) (upd H1 d (.frz o (.dK kvs)))) : iKeysF td σ H R := h
theorem pi_keysF {tg e : Expr} {td : TE} (he : PE X e td) : PI X tg e (iKeysF td) := by
  refine ⟨fun pins s σ H R I h => ?_⟩
  refine thn (he.run pins s σ H _ I h) fun u s1 ⟨x, H1, I1, rx, d, kvs, ex, hd, q⟩ => ?_
  subst ex
  obtain rfl : u = Value.ref d := rx
  obtain ⟨o, I2⟩ := I1.lock hd True.intro
  obtain ⟨hs, hgd, hx, es, ep, vs, hdt, hsz, kv, hm⟩ := I2.frzK upd_same
  refine iter_keys hs hgd hx hdt (pi_one (tk := s1.toks) I2 _ (turn_keys _ hdt) ⟨_, Heap.get?_push_size _ rfl, rfl, ?_⟩ (q o))
  rw [hsz] <;> rfl
def iKeysFT (td : TE) : TI := fun σ H R => td σ H fun x H1 => ∃ d kvs, x = .ref d ∧ H1 d = some (.dT kvs) ∧ ∀ o, R (Itkt d o kvs) (upd H1 d (.frz o (.dT kvs)))
theorem x_keysFT {td : TE} {σ : L2.St} {H : Hp} {R : It → Hp → Prop} (h : td σ H fun x H1 => ∃ d kvs, x = .ref d ∧ H1 d = some (.dT kvs) ∧ ∀ o, R (Itkt d o kvs) (upd H1 d (.frz o (.dT kvs)))) : iKeysFT td σ H R := h
theorem pi_keysFT {tg e : Expr} {td : TE} (he : PE X e td) : PI X tg e (iKeysFT td) := by
  refine ⟨fun pins s σ H R I h => ?_⟩
  refine thn (he.run pins s σ H _ I h) fun u s1 ⟨x, H1, I1, rx, d, kvs, ex, hd, q⟩ => ?_
  subst ex
  obtain rfl : u = Value.ref d := rx
  obtain ⟨o, I2⟩ := I1.lock hd True.intro
  obtain ⟨hs, hgd, hx, es, ep, hdt, hsz, ent⟩ := I2.frzT upd_same
  refine iter_keys hs hgd hx hdt (pi_one (tk := s1.toks) I2 _ (turn_keysT _ hdt) ⟨_, Heap.get?_push_size _ rfl, rfl, ?_⟩ (q o))
  rw [hsz] <;> rfl
theorem units66 {k : Nat} {A : Around} (r : Room k A) : A.units + 66 < cLine := by
  have := r.un
  omega
/-! == and != of dicts of data -/
def PdEq (K : PySem.W.Frag) (H : Hp) (x y : V) : Prop := ∃ d e, Dp K H x d ∧ Dp K H y e ∧ SeqAt.shaped d = true ∧ SeqAt.shaped e = true ∧ PyData.eqv d e = true
theorem hits_pd {pins : List (Addr × Obj)} {σ : L2.St} {H : Hp} {s : Shared} (I : Inv X pins σ H s) {A : Around} (hu : A.in1.units + 64 < cLine) {ls : List (Key × V)} {vb : List (Key × Value)} (rb : KV ls vb) {ks : List (Key × V)} {va : List (Key × Value)} (ra : KV ks va) :
    (∀ p ∈ ks, ∃ z, valV ls p.1 = some z ∧ PdEq X.K H p.2 z) → PySem.W.KeqHits A.in1 s vb va true := by
  unfold KV at ra
  induction ra with
  | nil => intro _; exact .nil
  | @cons p q ps qs h t ih =>
    intro hp
    obtain ⟨h1, h2⟩ := h
    obtain ⟨z, e, d1, d2, g1, g2, s1, s2, ev⟩ := hp p List.mem_cons_self
    have rr : RelO (some z) (valueAt vb p.1) := by rw [← e]; exact rb.val p.1
    obtain ⟨y, hy, ry⟩ := rr.some_of
    obtain ⟨k, v⟩ := q
    have h1' : p.1 = k := h1
    rw [h1'] at hy
    obtain ⟨as, r1⟩ := Dp.reads I d1 _ _ g1 h2
    obtain ⟨bs, r2⟩ := Dp.reads I d2 _ _ g2 ry
    have eq := PySem.W.keq_at (A := A) r1 r2 s1 s2 hu
    rw [ev] at eq
    show PySem.W.KeqHits A.in1 s vb ((k, v) :: qs) (true && true)
    exact .hit hy eq (ih fun p' hm => hp p' (List.mem_cons_of_mem _ hm))
/-- two dicts of the same keys and of equal data -/
def DdEq (K : PySem.W.Frag) (H : Hp) (x y : V) : Prop := ∃ a b ks ls, x = .ref a ∧ y = .ref b ∧ H a = some (.dK ks) ∧ H b = some (.dK ls) ∧ ks.length = ls.length ∧ ∀ p ∈ ks, ∃ z, valV ls p.1 = some z ∧ PdEq K H p.2 z
def rEqDD (K : PySem.W.Frag) : R2 := fun x y H Q => DdEq K H x y ∧ Q (.bl true) H
def rNeDD (K : PySem.W.Frag) : R2 := fun x y H Q => DdEq K H x y ∧ Q (.bl false) H
theorem op_eqDD (e : X.K = K) (hu : X.A.units + 66 < cLine) : OpR X (compareOp .Eq) (rEqDD K) := by
  subst e
  intro pins s σ H x y v u Q I rx ry h
  obtain ⟨⟨a, b, ks, ls, rfl, rfl, ea, eb, hlen, hp⟩, q⟩ := h
  obtain rfl : v = Value.ref a := rx
  obtain rfl : u = Value.ref b := ry
  obtain ⟨_, ya, va, ra, da⟩ := (show ObjOk X.prog X.w H s.heap a (.dK ks) from I.hok a _ ea)
  obtain ⟨_, yb, vb, rb, db⟩ := (show ObjOk X.prog X.w H s.heap b (.dK ls) from I.hok b _ eb)
  have hl : va.length = vb.length := by rw [← ra.length, ← rb.length]; exact hlen
  exact PySem.W.keq_eq (knd := mixKind X.prog X.w) (r := true) ya yb da db (by omega) (fun _ => hits_pd I (by show X.A.units + 1 + 64 < cLine; omega) rb ra hp) (fin_bl I q (by simp [hl]))
theorem op_neDD (e : X.K = K) (hu : X.A.units + 66 < cLine) : OpR X (compareOp .NotEq) (rNeDD K) := by
  subst e
  intro pins s σ H x y v u Q I rx ry h
  obtain ⟨⟨a, b, ks, ls, rfl, rfl, ea, eb, hlen, hp⟩, q⟩ := h
  obtain rfl : v = Value.ref a := rx
  obtain rfl : u = Value.ref b := ry
  obtain ⟨_, ya, va, ra, da⟩ := (show ObjOk X.prog X.w H s.heap a (.dK ks) from I.hok a _ ea)
  obtain ⟨_, yb, vb, rb, db⟩ := (show ObjOk X.prog X.w H s.heap b (.dK ls) from I.hok b _ eb)
  have hl : va.length = vb.length := by rw [← ra.length, ← rb.length]; exact hlen
  exact PySem.W.keq_ne (knd := mixKind X.prog X.w) (r := true) ya yb da db (by omega) (fun _ => hits_pd I (by show X.A.units + 1 + 64 < cLine; omega) rb ra hp) (fin_bl I q (by simp [hl]))
theorem pd_tup {H : Hp} {a b : Addr} {l : List Nat} (h1 : SqT K H a (nats l)) (h2 : SqT K H b (nats l)) : PdEq K H (.ref a) (.ref b) :=
  ⟨.tuple (dn l), .tuple (dn l), .tup h1 (dpAll_nats l), .tup h2 (dpAll_nats l), dn_shaped l, dn_shaped l, by rw [PyData.eqv, dn_eqv, decide_eq_true rfl]⟩
/-! reading and writing keyed rows -/
/-- a heap, the dict at d locked -/
theorem but_frz {H : Hp} {d : Addr} {o : HO} : But d H (upd H d o) := fun b u hb e => by
  rw [upd_ne hb]
  exact e
theorem dgetN {H : Hp} {d : Addr} {k : Nat} {xs : List V} {i : Nat} {x : V} {b : Int} (h : Rd H d (.dK (kdl k xs))) (hx : xs[i]? = some x) (hb : b = ((k + i : Nat) : Int)) : DGet H d (.int b) (some x) := by
  subst hb
  exact .inl ⟨_, Sum.inl _, h, rfl, (kdl_val hx).symm⟩
theorem dputN {H : Hp} {d : Addr} {k : Nat} {xs : List V} {i : Nat} {b : Int} {v : V} (h : H d = some (.dK (kdl k xs))) (hi : i < xs.length) (hz : xs.length ≤ 1000) (hb : b = ((k + i : Nat) : Int)) : DPut H d (.int b) v (upd H d (.dK (kdl k (xs.set i v)))) := by
  refine .inl ⟨_, Sum.inl b, h, rfl, ?_, by rw [kdl_set hi hb]⟩
  rw [kdl_len]
  rw [sizeLine_eq]
  omega
end
end Fv
set_option maxRecDepth 100000
set_option maxHeartbeats 2000000
/-! list(zip(s, t)), s and t tuples of one length: a new list of new pairs -/
namespace RZ
open PySem PySem.W PySem.Calls PyProof.Rows PyProof.V PySem.Spec
open PySem.Sem (wp)
section
variable {prog : Program} {w : World} {A : Around} {E : Value → Shared → Prop} {s : Shared} {z TI TO T i1 i2 l1 l2 : Addr} {f : Bool} {oT : Obj} {k : Nat} {xs ys : Array Value}
theorem zh_next {x y : Value} {Q : Value → Shared → Prop} (D : ZipApart z TI TO i1 i2 l1 l2) (gz : IsZipHeld s.heap z TI TO T f) (gT : s.heap.get? T = some oT) (gI : IsPair s.heap TI (.ref i1) (.ref i2))
    (c1 : s.heap.IsTupleIter i1 l1 k) (c2 : s.heap.IsTupleIter i2 l2 k) (t1 : s.heap.IsTuple l1 xs) (t2 : s.heap.IsTuple l2 ys) (ex : xs[k]? = some x) (ey : ys[k]? = some y)
    (q : ∀ g, IsZipHeld g z TI TO T true → g.IsTupleIter i1 l1 (k + 1) → g.IsTupleIter i2 l2 (k + 1) → IsPair g s.heap.objs.size x y → g.objs.size = s.heap.objs.size + 1 → (∀ c o, c ≠ z → c ≠ i1 → c ≠ i2 → s.heap.get? c = some o → g.get? c = some o) → Q (.ref s.heap.objs.size) { s with heap := g }) :
    wpAny (model prog w) A (Builtin.«zip.__next__» ⟨[.ref z], []⟩) (fun fin s' => ∃ v, fin = .done (.ret v) ∧ Q v s') E s := by
  show wpAny _ _ (field (.ref z) 2 >>= _) _ _ _
  refine wpAny_bind (wpAny_field gz rfl (x := .bool false) rfl ?_)
  show wpAny _ _ (field (.ref z) 3 >>= _) _ _ _
  refine wpAny_bind (wpAny_field gz rfl (x := .ref TI) rfl (wpAny_bind (wpAny_seqItems gI rfl ?_)))
  show wpAny _ _ (Builtin.SmallTypes.ownedTupleIsFree (.ref z) >>= _) _ _ _
  refine wpAny_bind (wpAny_tupleHeld_zip gz gT fun g1 gz1 b1 => ?_)
  simp only [Bool.false_eq_true, if_false]
  refine wpAny_bind ?_
  rw [← Array.forIn_toList]
  simp only [List.forIn_cons, List.forIn_nil]
  refine wpAny_bind (wpAny_bind (wpAny_holding ?_))
  show wpAny _ _ (Builtin.SmallTypes.nextOf (.ref i1) >>= _) _ _ _
  refine wpAny_bind (nextOf_tuple_item (s := { s with heap := g1 }) (c1.extBut b1.extBut D.i1z) (t1.extBut b1.extBut D.l1z) ex fun g2 d1 b2 => wpAny_pure (wpAny_pure ?_))
  refine wpAny_bind (wpAny_bind (wpAny_holding ?_))
  show wpAny _ _ (Builtin.SmallTypes.nextOf (.ref i2) >>= _) _ _ _
  refine wpAny_bind (nextOf_tuple_item (s := { s with heap := g2 }) ((c2.extBut b1.extBut D.i2z).extBut b2.extBut D.i12.symm) ((t2.extBut b1.extBut D.l2z).extBut b2.extBut D.l2i1) ey fun g3 d2 b3 => wpAny_pure (wpAny_pure (wpAny_pure ?_)))
  show wpAny _ _ (newTuple [x, y] >>= _) _ _ _
  refine wpAny_bind (wpAny_newTuple ?_)
  have zs : g3.objs.size = s.heap.objs.size := by rw [b3.1, b2.1, b1.1]
  have gz3 : IsZipHeld g3 z TI TO T true := b3.extBut _ _ D.i2z.symm (b2.extBut _ _ D.i1z.symm gz1)
  have kp : ∀ c o, c ≠ z → c ≠ i1 → c ≠ i2 → s.heap.get? c = some o → g3.get? c = some o := fun c o n1 n2 n3 e => b3.extBut _ _ n3 (b2.extBut _ _ n2 (b1.extBut _ _ n1 e))
  have d13 : g3.IsTupleIter i1 l1 (k + 1) := d1.extBut b3.extBut D.i12
  refine wpAny_pure ⟨_, rfl, ?_⟩
  show Q (.ref g3.objs.size) _
  have pp : IsPair (g3.push { cls := .type "tuple", data := .seq #[x, y] }) g3.objs.size x y := Heap.get?_push_size _ rfl
  have ps : (g3.push { cls := .type "tuple", data := .seq #[x, y] }).objs.size = g3.objs.size + 1 := Heap.size_push ..
  rw [zs] at pp ps ⊢
  exact q _ (Heap.get?_push_of_some _ gz3) (d13.at fun o e => Heap.get?_push_of_some _ e) (d2.at fun o e => Heap.get?_push_of_some _ e) pp ps fun c o n1 n2 n3 e => Heap.get?_push_of_some _ (kp c o n1 n2 n3 e)
theorem zh_last {Q : Fin → Shared → Prop} (hh : A.handled = none) (D : ZipApart z TI TO i1 i2 l1 l2) (gz : IsZipHeld s.heap z TI TO T f) (gT : s.heap.get? T = some oT) (gI : IsPair s.heap TI (.ref i1) (.ref i2))
    (c1 : s.heap.IsTupleIter i1 l1 k) (t1 : s.heap.IsTuple l1 xs) (ex : xs[k]? = none)
    (q : ∀ g e, (∀ c o, c ≠ z → c ≠ i1 → s.heap.get? c = some o → g.get? c = some o) → (∃ o, g.get? e = some o ∧ o.cls = .type "StopIteration") → E (.ref e) { s with heap := g }) :
    wpAny (model prog w) A (Builtin.«zip.__next__» ⟨[.ref z], []⟩) Q E s := by
  show wpAny _ _ (field (.ref z) 2 >>= _) _ _ _
  refine wpAny_bind (wpAny_field gz rfl (x := .bool false) rfl ?_)
  show wpAny _ _ (field (.ref z) 3 >>= _) _ _ _
  refine wpAny_bind (wpAny_field gz rfl (x := .ref TI) rfl (wpAny_bind (wpAny_seqItems gI rfl ?_)))
  show wpAny _ _ (Builtin.SmallTypes.ownedTupleIsFree (.ref z) >>= _) _ _ _
  refine wpAny_bind (wpAny_tupleHeld_zip gz gT fun g1 gz1 b1 => ?_)
  simp only [Bool.false_eq_true, if_false]
  refine wpAny_bind ?_
  rw [← Array.forIn_toList]
  simp only [List.forIn_cons, List.forIn_nil]
  refine wpAny_bind (wpAny_bind (wpAny_holding ?_))
  show wpAny _ _ (Builtin.SmallTypes.nextOf (.ref i1) >>= _) _ _ _
  exact wpAny_bind (nextOf_tuple_end (s := { s with heap := g1 }) hh (c1.extBut b1.extBut D.i1z) (t1.extBut b1.extBut D.l1z) ex fun g2 e b2 he => q g2 e (fun c o n1 n2 x => b2 _ _ n2 (b1.extBut _ _ n1 x)) he)
theorem zh_pyNext {x y : Value} {Q : Option Value → Shared → Prop} (D : ZipApart z TI TO i1 i2 l1 l2) (gz : IsZipHeld s.heap z TI TO T f) (gT : s.heap.get? T = some oT) (gI : IsPair s.heap TI (.ref i1) (.ref i2))
    (c1 : s.heap.IsTupleIter i1 l1 k) (c2 : s.heap.IsTupleIter i2 l2 k) (t1 : s.heap.IsTuple l1 xs) (t2 : s.heap.IsTuple l2 ys) (ex : xs[k]? = some x) (ey : ys[k]? = some y)
    (q : ∀ g, IsZipHeld g z TI TO T true → g.IsTupleIter i1 l1 (k + 1) → g.IsTupleIter i2 l2 (k + 1) → IsPair g s.heap.objs.size x y → g.objs.size = s.heap.objs.size + 1 → (∀ c o, c ≠ z → c ≠ i1 → c ≠ i2 → s.heap.get? c = some o → g.get? c = some o) → Q (some (.ref s.heap.objs.size)) { s with heap := g }) :
    wpAny (model prog w) A (pyNext (.ref z)) Q E s := by
  have ty : s.TypeIs (.ref z) "zip" := ⟨_, gz, rfl⟩
  unfold pyNext
  exact wpAny_bind (wpAny_attempt (wpAny_callSpecial?_slot (name := Str.ofString "__next__") ty PySem.F.slot_zip_next
    (wpAny_call_entry PySem.F.slot_zip_next ty PySem.F.entry_zip_next (zh_next D gz gT gI c1 c2 t1 t2 ex ey fun g a1 a2 a3 a4 a5 a6 => wpAny_pure (q g a1 a2 a3 a4 a5 a6)) (PySem.F.args_zip_next_1 _))))
theorem zh_pyEnd {Q : Option Value → Shared → Prop} (hh : A.handled = none) (D : ZipApart z TI TO i1 i2 l1 l2) (gz : IsZipHeld s.heap z TI TO T f) (gT : s.heap.get? T = some oT) (gI : IsPair s.heap TI (.ref i1) (.ref i2))
    (c1 : s.heap.IsTupleIter i1 l1 k) (t1 : s.heap.IsTuple l1 xs) (ex : xs[k]? = none)
    (q : ∀ g, (∀ c o, c ≠ z → c ≠ i1 → s.heap.get? c = some o → g.get? c = some o) → Q none { s with heap := g }) : wpAny (model prog w) A (pyNext (.ref z)) Q E s := by
  have ty : s.TypeIs (.ref z) "zip" := ⟨_, gz, rfl⟩
  unfold pyNext
  refine wpAny_bind (wpAny_attempt (wpAny_callSpecial?_slot (name := Str.ofString "__next__") ty PySem.F.slot_zip_next
    (wpAny_call_entry PySem.F.slot_zip_next ty PySem.F.entry_zip_next (zh_last hh D gz gT gI c1 t1 ex fun g e hk he => ?_) (PySem.F.args_zip_next_1 _))))
  obtain ⟨o, ho, hc⟩ := he
  exact wpAny_bind (wpAny_isInstance (T := "StopIteration") (b := true) ⟨o, ho, hc⟩ isSubtype_stop (wpAny_pure (q _ hk)))
/-- a zip of two tuples behind i turns: fresh, or its last pair is out -/
def ZSt (h : Heap) (z TI TO i1 i2 l1 l2 S : Addr) (i : Nat) : Prop :=
  IsPair h TI (.ref i1) (.ref i2) ∧ h.IsTupleIter i1 l1 i ∧ h.IsTupleIter i2 l2 i ∧
  ((IsZip h z TI TO .none ∧ ∃ a b, IsPair h TO a b) ∨ ∃ (T : Addr) (f : Bool) (oT : Obj), IsZipHeld h z TI TO T f ∧ h.get? T = some oT ∧ T ≠ z ∧ T ≠ i1 ∧ T ≠ i2 ∧ T ≠ S)
/-- the zip's own cells lie away from the list that grows -/
structure ZAp (z TI TO i1 i2 l1 l2 S : Addr) : Prop where
  D : ZipApart z TI TO i1 i2 l1 l2
  z : z ≠ S
  ti : TI ≠ S
  to : TO ≠ S
  i1 : i1 ≠ S
  i2 : i2 ≠ S
  l1 : l1 ≠ S
  l2 : l2 ≠ S
theorem ZSt.up {h h' : Heap} {S : Addr} {i : Nat} (P : ZAp z TI TO i1 i2 l1 l2 S) (st : ZSt h z TI TO i1 i2 l1 l2 S i) (k : ∀ b o, b ≠ S → h.get? b = some o → h'.get? b = some o) : ZSt h' z TI TO i1 i2 l1 l2 S i := by
  obtain ⟨a, b, c, d⟩ := st
  refine ⟨k _ _ P.ti a, b.at fun o e => k _ _ P.i1 e, c.at fun o e => k _ _ P.i2 e, ?_⟩
  rcases d with ⟨d1, x, y, d2⟩ | ⟨T, f, oT, d1, d2, n1, n2, n3, n4⟩
  · exact .inl ⟨k _ _ P.z d1, x, y, k _ _ P.to d2⟩
  · exact .inr ⟨T, f, oT, k _ _ P.z d1, k _ _ n4 d2, n1, n2, n3, n4⟩
theorem zs_item {S : Addr} {x y : Value} {Q : Option Value → Shared → Prop} (P : ZAp z TI TO i1 i2 l1 l2 S) (st : ZSt s.heap z TI TO i1 i2 l1 l2 S k) (hS : S < s.heap.objs.size) (t1 : s.heap.IsTuple l1 xs) (t2 : s.heap.IsTuple l2 ys) (ex : xs[k]? = some x) (ey : ys[k]? = some y)
    (q : ∀ g, ZSt g z TI TO i1 i2 l1 l2 S (k + 1) → IsPair g s.heap.objs.size x y → g.objs.size = s.heap.objs.size + 1 → (∀ c o, c ≠ z → c ≠ TO → c ≠ i1 → c ≠ i2 → s.heap.get? c = some o → g.get? c = some o) → Q (some (.ref s.heap.objs.size)) { s with heap := g }) :
    wpAny (model prog w) A (pyNext (.ref z)) Q E s := by
  obtain ⟨a, b, c, d⟩ := st
  have nS : s.heap.objs.size ≠ S := Nat.ne_of_gt hS
  have lt : ∀ {b : Addr} {o : Obj}, s.heap.get? b = some o → s.heap.objs.size ≠ b := fun e => Nat.ne_of_gt (Heap.lt_size e)
  have n1 : s.heap.objs.size ≠ i1 := by obtain ⟨o, e, _⟩ := id b; exact lt e
  have n2 : s.heap.objs.size ≠ i2 := by obtain ⟨o, e, _⟩ := id c; exact lt e
  rcases d with ⟨d1, u, v, d2⟩ | ⟨T, f, oT, d1, d2, m1, m2, m3, m4⟩
  · exact pyNext_zipT_item P.D d1 a d2 b c t1 t2 ex ey fun g gz gO e1 e2 pp ps kp => q g ⟨kp _ _ P.D.TIz P.D.TITO P.D.TIi1 P.D.TIi2 a, e1, e2, .inr ⟨_, false, _, gz, pp, lt d1, n1, n2, nS⟩⟩ pp ps kp
  · exact zh_pyNext P.D d1 d2 a b c t1 t2 ex ey fun g gz e1 e2 pp ps kp => q g ⟨kp _ _ P.D.TIz P.D.TIi1 P.D.TIi2 a, e1, e2, .inr ⟨T, true, oT, gz, kp _ _ m1 m2 m3 d2, m1, m2, m3, m4⟩⟩ pp ps fun c o c1 _ c3 c4 => kp c o c1 c3 c4
theorem zs_end {S : Addr} {Q : Option Value → Shared → Prop} (hh : A.handled = none) (P : ZAp z TI TO i1 i2 l1 l2 S) (st : ZSt s.heap z TI TO i1 i2 l1 l2 S k) (t1 : s.heap.IsTuple l1 xs) (t2 : s.heap.IsTuple l2 ys) (ex : xs[k]? = none)
    (q : ∀ g, (∀ c o, c ≠ z → c ≠ TO → c ≠ i1 → c ≠ i2 → s.heap.get? c = some o → g.get? c = some o) → Q none { s with heap := g }) : wpAny (model prog w) A (pyNext (.ref z)) Q E s := by
  obtain ⟨a, b, c, d⟩ := st
  rcases d with ⟨d1, u, v, d2⟩ | ⟨T, f, oT, d1, d2, m1, m2, m3, m4⟩
  · exact pyNext_zipT_end hh P.D d1 a d2 b c t1 t2 (.inl ex) fun g kp => q g kp
  · exact zh_pyEnd hh P.D d1 d2 a b t1 ex fun g kp => q g fun c o c1 _ c3 _ => kp c o c1 c3
/-- the addresses as hold the pairs of xs and ys -/
def PairsAt (xs ys : Array Value) (lo : Addr) (h : Heap) (as : List Addr) : Prop := as.Pairwise (· < ·) ∧ (∀ a ∈ as, lo < a) ∧ ∀ (j : Nat) (a : Addr), as[j]? = some a → ∃ x y, xs[j]? = some x ∧ ys[j]? = some y ∧ IsPair h a x y
end
section
variable {prog : Program} {w : World} {A : Around} {E : Value → Shared → Prop} {s : Shared} {z TI TO i1 i2 l1 l2 S : Addr} {xs ys : Array Value}
theorem zs_loop {R : Result → Shared → Prop} (hh : A.handled = none) (P : ZAp z TI TO i1 i2 l1 l2 S) (hxy : xs.size = ys.size) (hn : xs.size ≤ sizeLine) (res : Value) (lo : Addr) {h0 : Heap} (lz : z ≤ lo) (lT : TO ≤ lo) (l1o : i1 ≤ lo) (l2o : i2 ≤ lo) (lS : S ≤ lo)
    (q : ∀ g tk acc c as, (∀ b o, b ≠ S → b ≠ z → b ≠ TO → b ≠ i1 → b ≠ i2 → h0.get? b = some o → g.get? b = some o) → g.get? S = some { cls := .type "list", dict := none, data := .seq acc c, slots := #[] } → as.length = xs.size → PairsAt xs ys lo g as →
      acc.toList = as.map Value.ref → R (.ok (.ret res)) { s with heap := g, toks := tk }) :
    ∀ (m i : Nat) (h : Heap) (tk c : Nat) (acc : Array Value) (as : List Addr), xs.size - i = m → i ≤ xs.size → ZSt h z TI TO i1 i2 l1 l2 S i → h.IsTuple l1 xs → h.IsTuple l2 ys → (∀ b o, b ≠ S → b ≠ z → b ≠ TO → b ≠ i1 → b ≠ i2 → h0.get? b = some o → h.get? b = some o) →
      h.get? S = some { cls := .type "list", dict := none, data := .seq acc c, slots := #[] } → acc.toList = as.map Value.ref → as.length = i → PairsAt xs ys lo h as → lo < h.objs.size →
      codeAny (model prog w) A (.builtin "list.extend.loop" ⟨[.ref S, .ref z, res], []⟩) R { s with heap := h, toks := tk } := by
  intro m
  induction m with
  | zero =>
    intro i h tk c acc as hm hi st t1 t2 kp eS ea al pa hlo
    refine codeAny_builtin PySem.F.entry_extend_loop ?_
    rw [Around.under_plainId PySem.F.plain_extend_loop _]
    show wpAny _ A.in1 (pyNext (.ref z) >>= _) _ _ _
    refine wpAny_bind (zs_end (s := { s with heap := h, toks := tk }) (A := A.in1) hh P st t1 t2 (Array.getElem?_eq_none (by omega)) fun g k2 => ?_)
    refine wpAny_pure (q g tk acc c as (fun b o n1 n2 n3 n4 n5 e => k2 b o n2 n3 n4 n5 (kp b o n1 n2 n3 n4 n5 e)) (k2 S _ P.z.symm P.to.symm P.i1.symm P.i2.symm eS) (by omega) ⟨pa.1, pa.2.1, fun j a hj => ?_⟩ ea)
    obtain ⟨x, y, e1, e2, e3⟩ := pa.2.2 j a hj
    have hb := pa.2.1 a (List.mem_of_getElem? hj)
    exact ⟨x, y, e1, e2, k2 a _ (Nat.ne_of_gt (Nat.lt_of_le_of_lt lz hb)) (Nat.ne_of_gt (Nat.lt_of_le_of_lt lT hb)) (Nat.ne_of_gt (Nat.lt_of_le_of_lt l1o hb)) (Nat.ne_of_gt (Nat.lt_of_le_of_lt l2o hb)) e3⟩
  | succ m ih =>
    intro i h tk c acc as hm hi st t1 t2 kp eS ea al pa hlo
    have hlt : i < xs.size := by omega
    have hlt2 : i < ys.size := by omega
    have sz : acc.size = i := by rw [← Array.length_toList, ea, List.length_map, al]
    have lSh : S < h.objs.size := Heap.lt_size eS
    refine codeAny_builtin PySem.F.entry_extend_loop ?_
    rw [Around.under_plainId PySem.F.plain_extend_loop _]
    show wpAny _ A.in1 (pyNext (.ref z) >>= _) _ _ _
    refine wpAny_bind (zs_item (s := { s with heap := h, toks := tk }) P st lSh t1 t2 (Array.getElem?_eq_getElem hlt) (Array.getElem?_eq_getElem hlt2) fun g st2 pp ps k2 => ?_)
    dsimp only at pp ps k2 ⊢
    have eS2 := k2 S _ P.z.symm P.to.symm P.i1.symm P.i2.symm eS
    have up : ∀ b o, b ≠ S → g.get? b = some o → (g.update S (Obj.mapSeq (·.push (Value.ref h.objs.size)))).get? b = some o := fun b o hb e => (Heap.get?_update_other _ _ (Ne.symm hb)).trans e
    show wpAny _ A.in1 (updateSeq S (·.push (Value.ref h.objs.size)) >>= _) _ _ _
    refine wpAny_bind (wpAny_updateSeq eS2 rfl (wpAny_pure ⟨plainId_quiet PySem.F.plain_extend_loop _, ih (i + 1) _ tk _ (acc.push (Value.ref h.objs.size)) (as ++ [h.objs.size]) (by omega) hlt (st2.up P up)
      (t1.at fun o e => up l1 o P.l1 (k2 _ o P.D.l1z P.D.l1TO P.D.l1i1 P.D.l1i2 e)) (t2.at fun o e => up l2 o P.l2 (k2 _ o P.D.l2z P.D.l2TO P.D.l2i1 P.D.l2i2 e))
      (fun b o n1 n2 n3 n4 n5 e => up b o n1 (k2 b o n2 n3 n4 n5 (kp b o n1 n2 n3 n4 n5 e))) (Heap.get?_update_self _ eS2 rfl) (by rw [Array.toList_push, ea, List.map_append]; rfl) (by rw [List.length_append, al]; rfl) ⟨?_, ?_, ?_⟩ ?_⟩) (by rw [sz]; omega) (by show (acc.push (Value.ref h.objs.size)).size ≤ sizeLine + 1; rw [Array.size_push, sz]; omega))
    · refine List.pairwise_append.mpr ⟨pa.1, List.pairwise_singleton _ _, fun a ha b hb => ?_⟩
      rw [List.mem_singleton.mp hb]
      obtain ⟨j, hj⟩ := List.getElem?_of_mem ha
      obtain ⟨x, y, _, _, e3⟩ := pa.2.2 j a hj
      exact Heap.lt_size e3
    · intro a ha
      rcases List.mem_append.mp ha with ha | ha
      · exact pa.2.1 a ha
      · rw [List.mem_singleton.mp ha]
        exact hlo
    · intro j b hj
      rcases Nat.lt_trichotomy j as.length with h1 | h1 | h1
      · rw [List.getElem?_append_left h1] at hj
        obtain ⟨x, y, e1, e2, e3⟩ := pa.2.2 j b hj
        have hb := pa.2.1 b (List.mem_of_getElem? hj)
        exact ⟨x, y, e1, e2, up b _ (Nat.ne_of_gt (Nat.lt_of_le_of_lt lS hb)) (k2 b _ (Nat.ne_of_gt (Nat.lt_of_le_of_lt lz hb)) (Nat.ne_of_gt (Nat.lt_of_le_of_lt lT hb)) (Nat.ne_of_gt (Nat.lt_of_le_of_lt l1o hb)) (Nat.ne_of_gt (Nat.lt_of_le_of_lt l2o hb)) e3)⟩
      · subst h1
        have hb : h.objs.size = b := by simpa using hj
        subst hb
        subst al
        exact ⟨_, _, Array.getElem?_eq_getElem hlt, Array.getElem?_eq_getElem hlt2, up _ _ (Nat.ne_of_gt lSh) pp⟩
      · have no : (as ++ [h.objs.size])[j]? = none := List.getElem?_eq_none (by rw [List.length_append, List.length_singleton]; omega)
        rw [no] at hj
        cases hj
    · have e : (g.update S (Obj.mapSeq (·.push (Value.ref h.objs.size)))).get? h.objs.size = _ := up _ _ (Nat.ne_of_gt lSh) pp
      exact Nat.lt_trans hlo (Heap.lt_size e)
end
section
variable {prog : Program} {w : World} {A : Around} {E : Value → Shared → Prop} {s : Shared} {z TI TO i1 i2 l1 l2 : Addr} {xs ys : Array Value}
theorem no_len_zip : typeLookup (.type "zip") "__len__" = pure none := by rw [typeLookup_type, builtinLookup_eq_fast]; kernel_rfl
theorem no_hint_zip : typeLookup (.type "zip") "__length_hint__" = pure none := by rw [typeLookup_type, builtinLookup_eq_fast]; kernel_rfl
theorem zs_hint (ty : s.TypeIs (.ref z) "zip") {Q : Bool → Shared → Prop} (q : Q true s) : wpAny (model prog w) A (Builtin.List.listLengthHint (.ref z)) Q E s := by
  unfold Builtin.List.listLengthHint
  refine wpAny_bind (wpAny_specialOf ty no_len_zip ?_)
  refine wpAny_bind (wpAny_specialOf ty no_hint_zip ?_)
  exact wpAny_pure q
theorem zs_extend {R : Result → Shared → Prop} (hh : A.handled = none) {S : Addr} (P : ZAp z TI TO i1 i2 l1 l2 S) (st : ZSt s.heap z TI TO i1 i2 l1 l2 S 0) (gz : IsZip s.heap z TI TO .none) (t1 : s.heap.IsTuple l1 xs) (t2 : s.heap.IsTuple l2 ys) (hxy : xs.size = ys.size) (hn : xs.size ≤ sizeLine) (res : Value) (c0 : Nat)
    (lo : Addr) (lz : z ≤ lo) (lT : TO ≤ lo) (l1o : i1 ≤ lo) (l2o : i2 ≤ lo) (lS : S ≤ lo) (ll : lo < s.heap.objs.size) (eS : s.heap.get? S = some { cls := .type "list", data := .seq #[] c0 })
    (q : ∀ g tk acc c as, (∀ b o, b ≠ S → b ≠ z → b ≠ TO → b ≠ i1 → b ≠ i2 → s.heap.get? b = some o → g.get? b = some o) → g.get? S = some { cls := .type "list", dict := none, data := .seq acc c, slots := #[] } → as.length = xs.size → PairsAt xs ys lo g as →
      acc.toList = as.map Value.ref → R (.ok (.ret res)) { s with heap := g, toks := tk }) :
    wpAny (model prog w) A.in1 (Builtin.List.listExtendWith (.ref S) (.ref z) res)
      (fun fin s' => match fin with | .done f => R (.ok f) s' | .again c' => c'.quiet = true ∧ codeAny (model prog w) A c' R s') (fun e s' => R (.error e) s') s := by
  have ty : s.TypeIs (.ref z) "zip" := ⟨_, gz, rfl⟩
  have key : ∀ (h : Heap) (c1 tk : Nat), (∀ b o, b ≠ S → s.heap.get? b = some o → h.get? b = some o) → lo < h.objs.size → h.get? S = some { cls := .type "list", data := .seq #[] c1 } →
      codeAny (model prog w) A (.builtin "list.extend.loop" ⟨[.ref S, .ref z, res], []⟩) R { s with heap := h, toks := tk } := fun h c1 tk k lh e =>
    zs_loop hh P hxy hn res lo lz lT l1o l2o lS q xs.size 0 h tk c1 #[] [] (Nat.sub_zero _) (Nat.zero_le _) (st.up P k) (t1.at fun o x => k l1 o P.l1 x) (t2.at fun o x => k l2 o P.l2 x) (fun b o n1 _ _ _ _ x => k b o n1 x) e rfl rfl ⟨List.Pairwise.nil, (fun _ ha => nomatch ha), fun j a hj => by cases hj⟩ lh
  unfold Builtin.List.listExtendWith
  refine wpAny_bind (wpAny_typeOf (T := "zip") ty ?_)
  have e1 : Builtin.List.listSameRef (.ref S) (.ref z) = false := by simp [Builtin.List.listSameRef, P.z.symm]
  have e2 : (Value.type "zip" == Value.type "list") = false := by decide
  have e3 : (Value.type "zip" == Value.type "tuple") = false := by decide
  simp only [e1, e2, e3, Bool.or_false, Bool.false_eq_true, if_false]
  refine wpAny_bind (wpAny_pyIter_zip gz ?_)
  refine wpAny_bind (wpAny_holding (zs_hint ty ?_))
  refine wpAny_ite_split (fun _ => ?_) (fun z => absurd (by rfl) z)
  refine wpAny_bind (wpAny_rule (wpAny_bind ?_))
  show wpAny _ _ (updateSeq S (·.push .none) >>= fun _ => updateSeq S (·.pop)) _ _ _
  refine wpAny_bind (wpAny_updateSeq eS rfl ?_)
  have eS2 := Heap.get?_update_self (Obj.mapSeq (·.push Value.none)) eS rfl
  refine wpAny_updateSeq (hz := by seq_fits) eS2 rfl ?_
  have eS3 := Heap.get?_update_self (Obj.mapSeq (·.pop)) eS2 rfl
  refine wpAny_pure ⟨plainId_quiet PySem.F.plain_extend_loop _, key _ _ _ (fun b o hb e => (Heap.get?_update_other _ _ (Ne.symm hb)).trans ((Heap.get?_update_other _ _ (Ne.symm hb)).trans e)) ?_ eS3⟩
  have sz := fun (g : Heap) (f : Obj → Obj) => (Heap.SameBut.update g S f).1
  show lo < (((s.heap.update S _).update S _).objs.size)
  rw [sz, sz]
  exact ll
theorem zs_call {Q : Value → Shared → Prop} (hh : A.handled = none) (D : ZipApart z TI TO i1 i2 l1 l2) (gz : IsZip s.heap z TI TO .none) (gI : IsPair s.heap TI (.ref i1) (.ref i2)) (gO : ∃ a b, IsPair s.heap TO a b)
    (c1 : s.heap.IsTupleIter i1 l1 0) (c2 : s.heap.IsTupleIter i2 l2 0) (t1 : s.heap.IsTuple l1 xs) (t2 : s.heap.IsTuple l2 ys) (hxy : xs.size = ys.size) (hn : xs.size ≤ sizeLine)
    (q : ∀ g tk acc c as, (∀ b o, b ≠ z → b ≠ TO → b ≠ i1 → b ≠ i2 → s.heap.get? b = some o → g.get? b = some o) → g.get? s.heap.objs.size = some { cls := .type "list", dict := none, data := .seq acc c, slots := #[] } → as.length = xs.size → PairsAt xs ys s.heap.objs.size g as →
      acc.toList = as.map Value.ref → Q (.ref s.heap.objs.size) { s with heap := g, toks := tk }) :
    wpAny (model prog w) A (call (.type "list") [.ref z]) Q E s := by
  refine callType_codes (Q₁ := fun obj s1 => obj = .ref s.heap.objs.size ∧ s1 = { s with heap := s.heap.push { cls := .type "list", data := .seq #[] } }) PySem.F.called_list (PySem.F.typeCall_list_1 _) PySem.F.entry_list_init
    (code_list_new _ ⟨rfl, rfl⟩) fun obj s1 h1 => ?_
  obtain ⟨rfl, rfl⟩ := h1
  have eS : (s.heap.push { cls := .type "list", data := .seq #[] }).get? s.heap.objs.size = some { cls := .type "list", data := .seq #[] } := Heap.get?_push_size _ rfl
  have lt : ∀ {b : Addr} {o : Obj}, s.heap.get? b = some o → b < s.heap.objs.size := fun e => Heap.lt_size e
  have lz := lt gz
  have lI := lt gI
  have lO : TO < s.heap.objs.size := by obtain ⟨a, b, e⟩ := gO; exact lt e
  have m1 : i1 < s.heap.objs.size := by obtain ⟨o, e, _⟩ := id c1; exact lt e
  have m2 : i2 < s.heap.objs.size := by obtain ⟨o, e, _⟩ := id c2; exact lt e
  have n1 : l1 < s.heap.objs.size := by obtain ⟨o, e, _⟩ := id t1; exact lt e
  have n2 : l2 < s.heap.objs.size := by obtain ⟨o, e, _⟩ := id t2; exact lt e
  have P : ZAp z TI TO i1 i2 l1 l2 s.heap.objs.size := ⟨D, Nat.ne_of_lt lz, Nat.ne_of_lt lI, Nat.ne_of_lt lO, Nat.ne_of_lt m1, Nat.ne_of_lt m2, Nat.ne_of_lt n1, Nat.ne_of_lt n2⟩
  refine ⟨⟨_, eS, rfl⟩, PySem.F.args_list_init_2 _ _, ?_⟩
  show wpAny _ _ (do let old ← Builtin.List.listItems (.ref s.heap.objs.size); Builtin.List.listUpdate (.ref s.heap.objs.size) (fun _ => #[]); letGo old.toList.reverse; Builtin.List.listExtendWith (.ref s.heap.objs.size) (.ref z) .none) _ _ _
  refine wpAny_bind ?_
  unfold Builtin.List.listItems
  refine wpAny_bind (wpAny_seqItems eS rfl (wpAny_pure ?_))
  show wpAny _ _ (updateSeq s.heap.objs.size (fun _ => #[]) >>= fun _ => letGo (#[] : Array Value).toList.reverse >>= fun _ => Builtin.List.listExtendWith (.ref s.heap.objs.size) (.ref z) .none) _ _ _
  refine wpAny_bind (wpAny_updateSeq eS rfl ?_)
  have eS2 := Heap.get?_update_self (Obj.mapSeq (fun _ => (#[] : Array Value))) eS rfl
  have k : ∀ b o, s.heap.get? b = some o → ((s.heap.push { cls := .type "list", data := .seq #[] }).update s.heap.objs.size (Obj.mapSeq (fun _ => (#[] : Array Value)))).get? b = some o :=
    fun b o e => (Heap.get?_update_other _ _ (Nat.ne_of_gt (lt e))).trans (Heap.get?_push_of_some _ e)
  refine wpAny_bind (wpAny_letGo ?_)
  refine zs_extend (s := { s with heap := (s.heap.push { cls := .type "list", data := .seq #[] }).update s.heap.objs.size (Obj.mapSeq (fun _ => (#[] : Array Value))) }) (A := A.in1) hh P ⟨k _ _ gI, c1.at fun o e => k _ _ e, c2.at fun o e => k _ _ e, .inl ⟨k _ _ gz, ?_⟩⟩ (k _ _ gz) (t1.at fun o e => k _ _ e) (t2.at fun o e => k _ _ e) hxy hn .none _ s.heap.objs.size (Nat.le_of_lt lz) (Nat.le_of_lt lO) (Nat.le_of_lt m1) (Nat.le_of_lt m2) (Nat.le_refl _) ?_ eS2 fun g tk acc c as kp eg al pa ea => ?_
  · obtain ⟨a, b, e⟩ := gO
    exact ⟨a, b, k _ _ e⟩
  · show s.heap.objs.size < ((s.heap.push { cls := .type "list", data := .seq #[] }).update s.heap.objs.size _).objs.size
    rw [(Heap.SameBut.update ..).1, Heap.size_push]
    exact Nat.lt_succ_self _
  · exact ⟨rfl, q g tk acc c as (fun b o b1 b2 b3 b4 e => kp b o (Nat.ne_of_lt (lt e)) b1 b2 b3 b4 (k _ _ e)) eg al pa ea⟩
end
end RZ
namespace Fv
open PySem PySem.Spec PyProof.Rows L2 RZ
/-- many new objects at once -/
theorem inv_many {X : Cx} {pins : List (Addr × Obj)} {σ : L2.St} {H H' : Hp} {s : Shared} {g : Heap} {tk : Nat} (I : Inv X pins σ H s) (k : ∀ b o, s.heap.get? b = some o → g.get? b = some o) (old : ∀ b, b < s.heap.objs.size → H' b = H b)
    (new : ∀ b o, s.heap.objs.size ≤ b → H' b = some o → ObjOk X.prog X.w H' g b o) : Inv X pins σ H' { s with heap := g, toks := tk } := by
  have lt : ∀ b o, H b = some o → b < s.heap.objs.size := fun b o e => Nat.lt_of_not_le fun z => by rw [I.hok.fresh z] at e; cases e
  have up : ∀ b o, H b = some o → H' b = some o := fun b o e => (old b (lt b o e)).trans e
  refine I.un (t' := tk) ⟨fun b o e _ _ _ => k b o e, fun b o e _ _ _ => ⟨o.slots, k b o e⟩, fun b o e n _ => (old b (Heap.lt_size e)).trans n, fun b o e _ => ⟨o, k b o e⟩, fun b xs e => up b _ e, fun b o u e => up b _ e, fun b ps e => ⟨#[], by rw [up b _ e]; simp⟩⟩ fun b o e => ?_
  rcases Nat.lt_or_ge b s.heap.objs.size with c | c
  · rw [old b c] at e
    exact (I.hok b o e).stay (fun c u _ q => k c u q) (fun c q => up c _ q) fun c xs q => up c _ q
  · exact new b o c e
/-- xs and ys in pairs at as -/
def PrAt (H : Hp) (as : List Addr) (xs ys : List V) : Prop := as.length = xs.length ∧ ∀ (j : Nat) (a : Addr) (x y : V), as[j]? = some a → xs[j]? = some x → ys[j]? = some y → H a = some (.tup [x, y])
def rListZip (K : PySem.W.Frag) (ta : TA) : TE := fun σ H Q => ta σ H fun vs H1 => ∃ a b xs ys, vs = [.ref a, .ref b] ∧ SqT K H1 a xs ∧ SqT K H1 b ys ∧ xs.length = ys.length ∧ xs.length ≤ 1000 ∧ ∀ L as H2, Same H1 H2 → H1 L = none → H2 L = some (.lst (as.map V.ref)) → PrAt H2 as xs ys → Q (.ref L) H2
open Classical in
/-- the new pairs and their list -/
noncomputable def layP (H : Hp) (L : Addr) (as : List Addr) (xs ys : List V) : Hp := fun b => if b = L then some (.lst (as.map V.ref)) else if h : ∃ j : Nat, as[j]? = some b then match xs[h.choose]?, ys[h.choose]? with
  | some x, some y => some (.tup [x, y])
  | _, _ => none else H b
theorem layP_at {H : Hp} {L : Addr} {as : List Addr} {xs ys : List V} {j : Nat} {a : Addr} {x y : V} (w : as.Pairwise (· < ·)) (nL : ∀ a ∈ as, L < a) (ha : as[j]? = some a) (hx : xs[j]? = some x) (hy : ys[j]? = some y) : layP H L as xs ys a = some (.tup [x, y]) := by
  unfold layP
  rw [if_neg (Nat.ne_of_gt (nL a (List.mem_of_getElem? ha)))]
  have h : ∃ j : Nat, as[j]? = some a := ⟨j, ha⟩
  rw [dif_pos h]
  have e : h.choose = j := by
    have c := h.choose_spec
    generalize h.choose = i at c
    obtain ⟨i1, e1⟩ := List.getElem?_eq_some_iff.mp c
    obtain ⟨j1, e2⟩ := List.getElem?_eq_some_iff.mp ha
    rcases Nat.lt_trichotomy i j with z | z | z
    · exact absurd (e1.trans e2.symm) (Nat.ne_of_lt (List.pairwise_iff_getElem.mp w i j i1 j1 z))
    · exact z
    · exact absurd (e2.trans e1.symm) (Nat.ne_of_lt (List.pairwise_iff_getElem.mp w j i j1 i1 z))
  rw [e, hx, hy]
theorem layP_is {H : Hp} {L b : Addr} {as : List Addr} {xs ys : List V} {o : HO} (w : as.Pairwise (· < ·)) (nL : ∀ a ∈ as, L < a) (l : as.length = xs.length) (l2 : xs.length = ys.length) (h : layP H L as xs ys b = some o) :
    (b = L ∧ o = .lst (as.map V.ref)) ∨ (∃ (j : Nat) (x y : V), as[j]? = some b ∧ xs[j]? = some x ∧ ys[j]? = some y ∧ o = .tup [x, y]) ∨ (b ≠ L ∧ b ∉ as ∧ H b = some o) := by
  by_cases e : b = L
  · refine .inl ⟨e, ?_⟩
    unfold layP at h
    rw [if_pos e] at h
    exact (Option.some.inj h).symm
  · by_cases m : b ∈ as
    · obtain ⟨j, hj⟩ := List.getElem?_of_mem m
      have hj2 := (List.getElem?_eq_some_iff.mp hj).1
      have hx := List.getElem?_eq_getElem (l := xs) (i := j) (by omega)
      have hy := List.getElem?_eq_getElem (l := ys) (i := j) (by omega)
      rw [layP_at w nL hj hx hy] at h
      exact .inr (.inl ⟨j, _, _, hj, hx, hy, (Option.some.inj h).symm⟩)
    · unfold layP at h
      rw [if_neg e, dif_neg (fun ⟨j, z⟩ => m (List.mem_of_getElem? z))] at h
      exact .inr (.inr ⟨e, m, h⟩)
theorem vals_refs : ∀ as : List Addr, Vals (as.map V.ref) (as.map Value.ref)
  | [] => .nil
  | a :: l => .cons rfl (vals_refs l)
theorem pe_listZip {X : Cx} {K : PySem.W.Frag} {e e2 : Expr} {ta : TA} {p p2 pos pos2 : Pos} (eK : X.K = K) (hc : X.calm = true) (gl : Gl X "list") (ml : X.mg "list" = none) (gz : Gl X "zip") (mz : X.mg "zip" = none) (ha : PA X [e, e2] ta)
    (na : starEach [Expr.Call (.Name "zip" p2) [e, e2] [] pos2] X.env = (false, eval (Expr.Call (.Name "zip" p2) [e, e2] [] pos2) X.env) :: starEach [] X.env := by rfl)
    (hs : starEach [e, e2] X.env = (false, eval e X.env) :: starEach [e2] X.env := by rfl) (hpl : (backTo pos2 (starEach [e2] X.env)).any (·.1) = false := by rfl) :
    PE X (.Call (.Name "list" p) [.Call (.Name "zip" p2) [e, e2] [] pos2] [] pos) (rListZip K ta) := by
  subst eK
  refine ⟨fun pins s σ H Q I h => ?_⟩
  refine Call_ (ld_blt I gl ml boot_list (PyProof.Rows.callWith_type1 (args_cons (wpAny_mono ?_ (fun v s2 z => args_nil z) fun _ _ z => z) na) na))
  refine Call_ (ld_blt I gz mz PyProof.Rows.boot_zip (PyProof.Rows.callWith_type1 (thn (ha.run pos2 pins s σ H _ I h) fun us s1 ⟨vs, H1, I1, r1, a, b, xs, ys, ev, sa, sb, lxy, l1000, q⟩ => ?_) hs hpl))
  subst ev
  cases r1 with
  | cons r rr =>
    cases rr with
    | cons r' rr =>
      cases rr
      cases r
      cases r'
      obtain ⟨its, rv, p1, _⟩ := I1.tuple sa
      obtain ⟨its2, rv2, p2, _⟩ := I1.tuple sb
      obtain ⟨o1, ho1, _⟩ := id p1
      obtain ⟨o2, ho2, _⟩ := id p2
      have il : its.length = xs.length := rv.length.symm
      have il2 : its2.length = ys.length := rv2.length.symm
      refine call_zipT (show s1.heap.IsTuple a its.toArray from p1) (show s1.heap.IsTuple b its2.toArray from p2) fun h' hz hTI hTO c1 c2 hsz hk => ?_
      refine zs_call (s := { s1 with heap := h' }) (I1.ok.hd hc) (PySem.W.ktu_apart s1.heap.objs.size a b (Heap.lt_size ho1) (Heap.lt_size ho2)) hz hTI ⟨_, _, hTO⟩ c1 c2 (xs := its.toArray) (ys := its2.toArray) (Heap.IsTuple.at (show s1.heap.IsTuple a its.toArray from p1) fun o e => hk _ _ e) (Heap.IsTuple.at (show s1.heap.IsTuple b its2.toArray from p2) fun o e => hk _ _ e) (by rw [List.size_toArray, List.size_toArray]; omega) (by rw [List.size_toArray, il, sizeLine_eq]; omega) fun g tk acc c as kp eg al pa ea => ?_
      have hs1 : s1.heap.objs.size < h'.objs.size := by rw [hsz]; exact Nat.lt_add_of_pos_right (by decide)
      have far : ∀ {b : Addr}, b < s1.heap.objs.size → b ≠ h'.objs.size ∧ b ∉ as := fun lt => ⟨Nat.ne_of_lt (Nat.lt_trans lt hs1), fun z => Nat.lt_irrefl _ (Nat.lt_trans (Nat.lt_trans lt hs1) (pa.2.1 _ z))⟩
      have kk : ∀ b o, s1.heap.get? b = some o → g.get? b = some o := fun b o e => by
        have lt := Heap.lt_size e
        exact kp b o (Nat.ne_of_lt (Nat.lt_of_lt_of_le lt (Nat.le_add_right _ _))) (Nat.ne_of_lt (Nat.lt_of_lt_of_le lt (Nat.le_add_right _ _))) (Nat.ne_of_lt lt) (Nat.ne_of_lt (Nat.lt_of_lt_of_le lt (Nat.le_add_right _ _))) (hk b o e)
      have al' : as.length = xs.length := by rw [al, List.size_toArray, il]
      have I2 : Inv X pins σ (layP H1 h'.objs.size as xs ys) { s1 with heap := g, toks := tk } := by
        refine inv_many I1 kk (fun b lt => ?_) fun b o ge e => ?_
        · unfold layP
          rw [if_neg (far lt).1, dif_neg fun ⟨j, z⟩ => (far lt).2 (List.mem_of_getElem? z)]
        · rcases layP_is pa.1 pa.2.1 al' lxy e with ⟨rfl, rfl⟩ | ⟨j, x, y, hj, hx, hy, rfl⟩ | ⟨_, _, e2⟩
          · refine (show ObjOk X.prog X.w _ _ _ (.lst (as.map V.ref)) from ⟨?_, as.map Value.ref, c, vals_refs as, ?_⟩)
            · rw [List.length_map, al', sizeLine_eq]
              omega
            · have e3 : acc = (as.map Value.ref).toArray := by rw [← ea, Array.toArray_toList]
              rw [← e3]
              exact eg
          · obtain ⟨u, v, eu, ev, pp⟩ := pa.2.2 j b hj
            obtain ⟨u', hu, ru⟩ := rv.get hx
            obtain ⟨v', hv, rw'⟩ := rv2.get hy
            have eu' : u = u' := by
              have e4 : its[j]? = some u := by simpa using eu
              rw [hu] at e4
              exact (Option.some.inj e4).symm
            have ev' : v = v' := by
              have e4 : its2[j]? = some v := by simpa using ev
              rw [hv] at e4
              exact (Option.some.inj e4).symm
            subst eu' ev'
            exact (show ObjOk X.prog X.w _ _ _ (.tup [x, y]) from ⟨by show 2 ≤ sizeLine; decide, [u, v], .cons ru (.cons rw' .nil), ⟨_, pp, rfl, _, rfl⟩⟩)
          · rw [I1.hok.fresh ge] at e2
            cases e2
      have new1 : H1 h'.objs.size = none := I1.hok.fresh (Nat.le_of_lt hs1)
      refine ⟨.ref h'.objs.size, _, I2, rfl, q h'.objs.size as _ (fun b o e => ?_) new1 ?_ ⟨al', fun j a x y h1 h2 h3 => layP_at pa.1 pa.2.1 h1 h2 h3⟩⟩
      · have lt : b < s1.heap.objs.size := Nat.lt_of_not_le fun z => by rw [I1.hok.fresh z] at e; cases e
        unfold layP
        rw [if_neg (far lt).1, dif_neg fun ⟨j, z⟩ => (far lt).2 (List.mem_of_getElem? z)]
        exact e
      · unfold layP
        rw [if_pos rfl]
theorem x_listZip {K : PySem.W.Frag} {σ : L2.St} {H : Hp} {Q : VK} {ta : TA} (h : ta σ H fun vs H1 => ∃ a b xs ys, vs = [.ref a, .ref b] ∧ SqT K H1 a xs ∧ SqT K H1 b ys ∧ xs.length = ys.length ∧ xs.length ≤ 1000 ∧ ∀ L as H2, Same H1 H2 → H1 L = none → H2 L = some (.lst (as.map V.ref)) → PrAt H2 as xs ys → Q (.ref L) H2) : rListZip K ta σ H Q := h
end Fv
set_option maxRecDepth 100000
set_option maxHeartbeats 2000000
/-! the least of a list of pairs; how often a number stands in a list -/
namespace Mp
open PySem PySem.W PySem.SeqAt
open PySem.Sem (wp)
section
variable {prog : Program} {w : World} {A : Around} {R : Result → Shared → Prop} {I : Addr} {fp wr : List Addr} {n : Nat} {P : Nat → Value → Prop} {St : Nat → Heap → Prop} {OK : Heap → Prop} {bt : Nat → Nat → Bool} {S : Addr}
/-- the comparison of items i and j, as long as OK holds -/
def CmpIn (prog : Program) (w : World) (A : Around) (OK : Heap → Prop) (P : Nat → Value → Prop) (bt : Nat → Nat → Bool) : Prop :=
  ∀ i j vi vj (s : Shared) (Q E : Value → Shared → Prop), OK s.heap → P i vi → P j vj → Q (.bool (bt i j)) s → wpAny (model prog w) A (richCompare .Lt vi vj) Q E s
theorem min_go (W : Walks prog w A.in1 I fp wr n P St) (C : CmpIn prog w A.in1 OK P bt) (hSf : S ∉ fp) (st : ∀ h h', OK h → (∀ b o, b ∉ wr → b ≠ S → h.get? b = some o → h'.get? b = some o) → OK h') :
    ∀ (k j : Nat) (s : Shared) (vb : Value) (c : Nat), n - (j + 1) = k → j + 1 ≤ n → OK s.heap → St (j + 1) s.heap → P (argBest bt j) vb → s.heap.get? S = some { cls := .type "list", dict := none, data := .seq #[vb, vb] c, slots := #[] } →
    (∀ v g tk, P (argBest bt (n - 1)) v → (∀ b o, b ∉ wr → b ≠ S → s.heap.get? b = some o → g.get? b = some o) → R (.ok (.ret v)) { s with heap := g, toks := tk }) →
    codeAny (model prog w) A (.builtin "min.loop" ⟨[.ref I, .none, .ref S], []⟩) R s := by
  have hSw : S ∉ wr := fun h => hSf (W.sub _ h)
  have nm : (toString "min" ++ toString ".loop" : String) = "min.loop" := by decide
  intro k
  induction k with
  | zero =>
    intro j s vb c hk hj ok hst pb eS q
    have hin : j + 1 = n := by omega
    refine codeAny_builtin PySem.F.entry_min_loop ?_
    rw [Around.under_plainId PySem.F.plain_min_loop _]
    show wpAny _ A.in1 (seqItems? (.ref S) >>= _) _ _ s
    refine wpAny_bind (wpAny_seqItems eS rfl ?_)
    show wpAny _ A.in1 (tryCatch (pyNext (.ref I)) _ >>= _) _ _ s
    refine wpAny_bind (wpAny_tryCatch (W.done s _ _ (hin ▸ hst) fun g tk kp => ?_))
    have eS2 := kp S _ hSw eS
    show wpAny _ A.in1 (updateSeq S (fun _ => #[]) >>= _) _ _ _
    refine wpAny_bind (wpAny_updateSeq eS2 rfl (wpAny_bind (wpAny_letGo (wpAny_pure ?_))))
    exact q vb _ tk (by rw [← hin]; exact pb) fun b o h1 h2 e => (Heap.get?_update_other _ _ (Ne.symm h2)).trans (kp b o h1 e)
  | succ k ih =>
    intro j s vb c hk hj ok hst pb eS q
    have hlt : j + 1 < n := by omega
    refine codeAny_builtin PySem.F.entry_min_loop ?_
    rw [Around.under_plainId PySem.F.plain_min_loop _]
    show wpAny _ A.in1 (seqItems? (.ref S) >>= _) _ _ s
    refine wpAny_bind (wpAny_seqItems eS rfl ?_)
    show wpAny _ A.in1 (tryCatch (pyNext (.ref I)) _ >>= _) _ _ s
    refine wpAny_bind (wpAny_tryCatch (W.item (j + 1) s _ _ hlt hst fun v g tk pv hst2 kp => ?_))
    have eS2 := kp S _ hSw eS
    have ok2 : OK g := st _ _ ok fun b o h1 _ e => kp b o h1 e
    show wpAny _ A.in1 (tryCatch (holding [v, v] (richCompare .Lt v vb >>= _)) _ >>= _) _ _ _
    refine wpAny_bind (wpAny_tryCatch (wpAny_holding (wpAny_bind (C (j + 1) (argBest bt j) v vb _ _ _ ok2 pv pb ?_))))
    refine wpAny_bind (wpAny_holding (wpAny_truthy_bool (wpAny_bind (wpAny_letGo (wpAny_pure ?_)))))
    cases hb : bt (j + 1) (argBest bt j) with
    | true =>
      simp only [if_true]
      refine wpAny_bind (wpAny_updateSeq eS2 rfl (wpAny_bind (wpAny_letGo ?_)))
      rw [nm]
      have kp2 : ∀ b o, b ≠ S → g.get? b = some o → (g.update S (Obj.mapSeq fun _ => #[v, v])).get? b = some o := fun b o h e => (Heap.get?_update_other _ _ (Ne.symm h)).trans e
      refine wpAny_pure ⟨plainId_quiet PySem.F.plain_min_loop _, ih (j + 1) _ v _ (by omega) hlt (st _ _ ok2 fun b o _ h e => kp2 b o h e) (W.frame _ _ _ hst2 fun b hbf o e => kp2 b o (fun z => hSf (z ▸ hbf)) e) (by simp only [argBest, hb, if_true]; exact pv) (Heap.get?_update_self _ eS2 rfl)
        fun v' g' tk' pv' kp' => ?_⟩
      exact q v' g' tk' pv' fun b o h1 h2 e => kp' b o h1 h2 (kp2 b o h2 (kp b o h1 e))
    | false =>
      simp only [Bool.false_eq_true, if_false]
      refine wpAny_bind (wpAny_letGo ?_)
      rw [nm]
      refine wpAny_pure ⟨plainId_quiet PySem.F.plain_min_loop _, ih (j + 1) _ vb c (by omega) hlt ok2 hst2 (by simp only [argBest, hb, Bool.false_eq_true, if_false]; exact pb) eS2 fun v' g' tk' pv' kp' => ?_⟩
      exact q v' g' tk' pv' fun b o h1 h2 e => kp' b o h1 h2 (kp b o h1 e)
theorem min_start (W : Walks prog w A.in1 I fp wr n P St) (C : CmpIn prog w A.in1 OK P bt) (hSf : S ∉ fp) (st : ∀ h h', OK h → (∀ b o, b ∉ wr → b ≠ S → h.get? b = some o → h'.get? b = some o) → OK h') (hn : 0 < n) {s : Shared} {c : Nat} (ok : OK s.heap) (hst : St 0 s.heap)
    (eS : s.heap.get? S = some { cls := .type "list", dict := none, data := .seq #[] c, slots := #[] })
    (q : ∀ v g tk, P (argBest bt (n - 1)) v → (∀ b o, b ∉ wr → b ≠ S → s.heap.get? b = some o → g.get? b = some o) → R (.ok (.ret v)) { s with heap := g, toks := tk }) :
    codeAny (model prog w) A (.builtin "min.loop" ⟨[.ref I, .none, .ref S], []⟩) R s := by
  have hSw : S ∉ wr := fun h => hSf (W.sub _ h)
  have nm : (toString "min" ++ toString ".loop" : String) = "min.loop" := by decide
  refine codeAny_builtin PySem.F.entry_min_loop ?_
  rw [Around.under_plainId PySem.F.plain_min_loop _]
  show wpAny _ A.in1 (seqItems? (.ref S) >>= _) _ _ s
  refine wpAny_bind (wpAny_seqItems eS rfl ?_)
  show wpAny _ A.in1 (tryCatch (pyNext (.ref I)) _ >>= _) _ _ s
  refine wpAny_bind (wpAny_tryCatch (W.item 0 s _ _ hn hst fun v g tk pv hst2 kp => ?_))
  have eS2 := kp S _ hSw eS
  have ok2 : OK g := st _ _ ok fun b o h1 _ e => kp b o h1 e
  have kp2 : ∀ b o, b ≠ S → g.get? b = some o → (g.update S (Obj.mapSeq fun _ => #[v, v])).get? b = some o := fun b o h e => (Heap.get?_update_other _ _ (Ne.symm h)).trans e
  show wpAny _ A.in1 (updateSeq S (fun _ => #[v, v]) >>= _) _ _ _
  refine wpAny_bind (wpAny_updateSeq eS2 rfl ?_)
  rw [nm]
  refine wpAny_pure ⟨plainId_quiet PySem.F.plain_min_loop _, min_go W C hSf st _ 0 _ v _ rfl hn (st _ _ ok2 fun b o _ h e => kp2 b o h e) (W.frame _ _ _ hst2 fun b hbf o e => kp2 b o (fun z => hSf (z ▸ hbf)) e) pv (Heap.get?_update_self _ eS2 rfl) fun v' g' tk' pv' kp' => ?_⟩
  exact q v' g' tk' pv' fun b o h1 h2 e => kp' b o h1 h2 (kp2 b o h2 (kp b o h1 e))
end
section
variable {prog : Program} {w : World} {A : Around} {E : Value → Shared → Prop} {s : Shared}
/-- min(l), l a list whose items are compared as they stand now -/
theorem min_list {l : Addr} {items : Array Value} {bt : Nat → Nat → Bool} {Q : Value → Shared → Prop} (hh : A.handled = none) (hl : s.heap.IsList l items) (hn : 0 < items.size)
    (C : CmpIn prog w A.in1 (fun h => ∀ b o, s.heap.get? b = some o → h.get? b = some o) (fun i v => items[i]? = some v) bt)
    (q : ∀ v g tk, items[argBest bt (items.size - 1)]? = some v → (∀ b o, s.heap.get? b = some o → g.get? b = some o) → Q v { s with heap := g, toks := tk }) :
    wpAny (model prog w) A (call (.builtin "min") [.ref l]) Q E s := by
  have nm : (toString "min" ++ toString ".loop" : String) = "min.loop" := by decide
  refine call_function_tree PySem.F.kind_min PySem.F.plain_min PySem.F.entry_min (PySem.F.args_min1 _) ?_
  show wpAny _ A.in1 (Builtin.Builtins.bindParams "min" ["key", "default"] 0 ⟨[], []⟩ >>= _) _ _ s
  refine wpAny_bind (wpAny_of_eq (show Builtin.Builtins.bindParams "min" ["key", "default"] 0 ⟨[], []⟩ = pure [none, none] from rfl) (wpAny_bind (wpAny_pure ?_)))
  refine wpAny_bind (wpAny_pyIter_list hl ?_)
  refine wpAny_bind (wpAny_newObj_type ?_)
  have ll : l < s.heap.objs.size := by obtain ⟨o, e, _⟩ := id hl; exact Heap.lt_size e
  have W := Walks.list (prog := prog) (w := w) (A := A.in1) hh s.heap.objs.size l (Nat.ne_of_lt ll) items
  rw [nm]
  have k1 : ∀ b o, s.heap.get? b = some o → (s.heap.push { cls := .type "list_iterator", data := .fields #[.ref l, .int 0 0] }).get? b = some o := fun b o e => Heap.get?_push_of_some _ e
  have z1 : (s.heap.push { cls := .type "list_iterator", data := .fields #[.ref l, .int 0 0] }).objs.size = s.heap.objs.size + 1 := Heap.size_push ..
  have hit : (s.heap.push { cls := .type "list_iterator", data := .fields #[.ref l, .int 0 0] }).IsListIter s.heap.objs.size l 0 := ⟨_, Heap.get?_push_size _ rfl, rfl, rfl⟩
  have nS : ∀ b : Addr, b < s.heap.objs.size → b ≠ (s.heap.push { cls := .type "list_iterator", data := .fields #[.ref l, .int 0 0] }).objs.size := fun b hb => by
    rw [z1]
    exact Nat.ne_of_lt (Nat.lt_of_lt_of_le hb (Nat.le_succ _))
  refine wpAny_pure ⟨plainId_quiet PySem.F.plain_min_loop _, min_start W C ?_ ?_ hn ?_ ?_ (Heap.get?_push_size _ rfl) fun v g tk pv kp => ?_⟩
  · intro hm
    rcases List.mem_cons.mp hm with e | hm
    · rw [z1] at e
      exact Nat.succ_ne_self _ e
    · exact nS l ll (List.mem_singleton.mp hm).symm
  · intro h h' ok kp b o e
    have lb := Heap.lt_size e
    exact kp b o (fun z => Nat.ne_of_lt lb (List.mem_singleton.mp z)) (nS b lb) (ok b o e)
  · exact fun b o e => Heap.get?_push_of_some _ (k1 b o e)
  · exact ⟨hit.at fun o e => Heap.get?_push_of_some _ e, hl.at fun o e => Heap.get?_push_of_some _ (k1 _ o e)⟩
  · refine q v g tk pv fun b o e => ?_
    have lb := Heap.lt_size e
    exact kp b o (fun z => Nat.ne_of_lt lb (List.mem_singleton.mp z)) (nS b lb) (Heap.get?_push_of_some _ (k1 b o e))
end
end Mp
namespace Fv
open PySem PySem.Spec PyProof.Rows L2
/-! list.count(k), a list of whole numbers -/
def isI (k : Int) : Value → Bool
  | .int a _ => a == k
  | _ => false
theorem isI_count {k : Int} : ∀ {us : List Value} {ns : List Int}, Vals (ns.map V.int) us → us.countP (isI k) = ns.count k
  | _, [], .nil => rfl
  | _, a :: c, .cons r t => by
    have ih := isI_count (k := k) (ns := c) t
    obtain ⟨tk, rfl⟩ := r
    rw [List.countP_cons, List.count_cons, ih]
    rfl
theorem isI_eq {A : Around} {s : Shared} {k : Int} {tk : Tok} : ∀ {us : List Value} {ns : List Int}, Vals (ns.map V.int) us → ∀ y ∈ us, SeqAt.EqAt A s y (.int k tk) (isI k y)
  | _, [], .nil => fun y hy => by cases hy
  | _, a :: c, .cons r t => fun y hy => by
    obtain ⟨t0, rfl⟩ := r
    rcases List.mem_cons.mp hy with e | e
    · subst e
      exact SeqAt.EqAt.int_int (A := A) (s := s) a t0 k tk
    · exact isI_eq (ns := c) t y e
def rCntI (K : PySem.W.Frag) : V → List V → Hp → VK → Prop := fun x xs H Q => ∃ (p : Addr) (ns : List Int) (k : Int), x = .ref p ∧ xs = [.int k] ∧ SqL K H p (ns.map V.int) ∧ Q (.int (ns.count k : Nat)) H
theorem mt_lcountI {X : Cx} {K : PySem.W.Frag} (eK : X.K = K) : MtR X "list.count" (rCntI K) := by
  subst eK
  intro pins s σ H x xs v us Q I rx rxs h
  obtain ⟨p, ns, k, rfl, rfl, hs, q⟩ := h
  cases rx
  obtain ⟨u, rfl, ru⟩ := rxs.one
  obtain ⟨tk, rfl⟩ := ru
  obtain ⟨its, rv, ⟨⟨cls, dd, data, sl⟩, n, ho, hc, hdn, hd⟩, hlen⟩ := I.list hs
  simp only at hc hd
  subst hc hd
  refine call_meets PySem.F.slot_list_count ⟨_, ho, rfl⟩ PySem.F.entry_list_count (PySem.F.args_list_count_2 _ _)
    (SeqAt.list_countAt p its.toArray n dd sl (.int k tk) (isI k)) ⟨ho, fun y hy => isI_eq rv y (by simpa using hy), ?_⟩
  have ec : its.toArray.toList.countP (isI k) = ns.count k := by
    have e : its.toArray.toList = its := by simp
    rw [e]
    exact isI_count rv
  refine ⟨.int (ns.count k : Nat), H, I.tok _, ⟨s.toks, ?_⟩, q⟩
  show Value.int ((its.toArray.toList.countP (isI k) : Nat) : Int) s.toks = Value.int ((ns.count k : Nat) : Int) s.toks
  rw [ec]
theorem x_cntI {K : PySem.W.Frag} {H : Hp} {Q : VK} {p : Addr} {l : List Nat} {k : Nat} (h : SqL K H p (nats l)) (q : Q (.int (l.count k : Nat)) H) : rCntI K (.ref p) [.int (k : Nat)] H Q := by
  refine ⟨p, intsN l, k, rfl, rfl, ?_, ?_⟩
  · have e : (intsN l).map V.int = nats l := by
      unfold intsN nats
      rw [List.map_map]
      rfl
    rw [e]
    exact h
  · have e : (intsN l).count (k : Int) = l.count k := by
      unfold intsN
      rw [List.count, List.countP_map]
      refine List.countP_congr fun a _ => ?_
      show (((a : Int) == (k : Int)) = true) ↔ ((a == k) = true)
      rw [beq_iff_eq, beq_iff_eq]
      omega
    rw [e]
    exact q
/-! min of a list of pairs -/
def prD (p : Nat × Nat) : PyData := .tuple [.int (p.1 : Int), .int (p.2 : Int)]
def pLt (a b : Nat × Nat) : Bool := decide (a.1 < b.1 ∨ (a.1 = b.1 ∧ a.2 < b.2))
theorem prD_lt (a b : Nat × Nat) : PySem.W.dataLt (prD a) (prD b) = pLt a b := by
  refine (PySem.W.dataLt_ii _ _ _ _).trans ?_
  unfold pLt
  rw [decide_eq_decide]
  omega
def bOf (ps : List (Nat × Nat)) (i j : Nat) : Bool := pLt (ps.getD i (0, 0)) (ps.getD j (0, 0))
theorem best_le (ps : List (Nat × Nat)) : ∀ k, argBest (bOf ps) k ≤ k ∧ ∀ i, i ≤ k → bOf ps i (argBest (bOf ps) k) = false
  | 0 => ⟨Nat.le_refl _, fun i hi => by
    obtain rfl : i = 0 := by omega
    show pLt _ _ = false
    unfold pLt
    exact decide_eq_false (by
      show ¬ ((ps.getD 0 (0, 0)).1 < (ps.getD 0 (0, 0)).1 ∨ _ ∧ (ps.getD 0 (0, 0)).2 < (ps.getD 0 (0, 0)).2)
      omega)⟩
  | k + 1 => by
    obtain ⟨h1, h2⟩ := best_le ps k
    have u : argBest (bOf ps) (k + 1) = if bOf ps (k + 1) (argBest (bOf ps) k) then k + 1 else argBest (bOf ps) k := rfl
    rw [u]
    by_cases c : bOf ps (k + 1) (argBest (bOf ps) k) = true
    · rw [if_pos c]
      refine ⟨Nat.le_refl _, fun i hi => ?_⟩
      have c' := of_decide_eq_true c
      by_cases e : i = k + 1
      · subst e
        refine decide_eq_false ?_
        omega
      · have := of_decide_eq_false (h2 i (by omega))
        refine decide_eq_false ?_
        omega
    · rw [if_neg c]
      refine ⟨by omega, fun i hi => ?_⟩
      by_cases e : i = k + 1
      · subst e
        simpa using c
      · exact h2 i (by omega)
def rMinP (K : PySem.W.Frag) : List V → Hp → VK → Prop := fun xs H Q => ∃ (l : Addr) (as : List Addr) (ps : List (Nat × Nat)), xs = [.ref l] ∧ SqL K H l (as.map V.ref) ∧ as.length = ps.length ∧ 0 < ps.length ∧ (∀ (i : Nat) a p, as[i]? = some a → ps[i]? = some p → SqT K H a [.int (p.1 : Nat), .int (p.2 : Nat)]) ∧
  ∀ (i : Nat) a p, as[i]? = some a → ps[i]? = some p → (∀ q ∈ ps, pLt q p = false) → Q (.ref a) H
theorem cr_minPK {X : Cx} {K : PySem.W.Frag} (e : X.K = K) (hc : X.calm = true) (hu : X.A.units + 66 < cLine) : CallR X (.builtin "min") (rMinP K) := by
  subst e
  intro pins s σ H vs us Q I r h
  obtain ⟨l, as, ps, rfl, hl, la, pos, at_, q⟩ := h
  rw [Vals.ref1 r]
  obtain ⟨its, rv, p, _⟩ := I.list hl
  have il : its.length = as.length := by rw [← rv.length, List.length_map]
  have item : ∀ (i : Nat) (v : Value), its.toArray[i]? = some v → ∃ a p, as[i]? = some a ∧ ps[i]? = some p ∧ v = .ref a ∧ ps.getD i (0, 0) = p := fun i v e => by
    have e2 : its[i]? = some v := by simpa using e
    have hi := (List.getElem?_eq_some_iff.mp e2).1
    have ha := List.getElem?_eq_getElem (l := as) (i := i) (by omega)
    have hp := List.getElem?_eq_getElem (l := ps) (i := i) (by omega)
    obtain ⟨u, hu, ru⟩ := rv.get (show (as.map V.ref)[i]? = some (.ref as[i]) by rw [List.getElem?_map, ha]; rfl)
    rw [e2] at hu
    cases hu
    exact ⟨_, _, ha, hp, ru, by rw [List.getD_eq_getElem?_getD, hp]; rfl⟩
  have hh : X.A.handled = none := I.ok.hd hc
  refine Mp.min_list (bt := bOf ps) hh p.isList (by rw [List.size_toArray]; omega) (fun i j vi vj s' Q' E' ok e1 e2 q' => ?_) fun v g tk e kp => ?_
  · obtain ⟨a, pa, ha, hp, rfl, g1⟩ := item i vi e1
    obtain ⟨b, pb, hb, hp2, rfl, g2⟩ := item j vj e2
    obtain ⟨h', g', d', tk', os'⟩ := s'
    have I2 : Inv X pins σ H { s with heap := h' } := I.kept (t' := s.toks) ok
    have dpa : Dp X.K H (.ref a) (prD pa) := .tup (at_ i a pa ha hp) (.cons (.int _) (.cons (.int _) .nil))
    have dpb : Dp X.K H (.ref b) (prD pb) := .tup (at_ j b pb hb hp2) (.cons (.int _) (.cons (.int _) .nil))
    obtain ⟨ra, h1⟩ := Dp.reads I2 _ _ _ dpa rfl
    obtain ⟨rb, h2⟩ := Dp.reads I2 _ _ _ dpb rfl
    refine PySem.W.rcLt_alike (prD pa) (prD pb) X.A.in1 ⟨h', g', d', tk', os'⟩ _ _ ra rb h1 h2 (by simp [prD, PySem.W.alike, PySem.W.alikeAll]) (fun z => nomatch z) ?_ _ _ _ _ ?_
    · have e3 : min (prD pa).depth (prD pb).depth ≤ 64 := by
        refine Nat.le_trans (Nat.min_le_left _ _) ?_
        show PyData.depth (.tuple [.int _, .int _]) ≤ 64
        simp [PyData.depth, PyData.depthAll]
      show X.A.units + 1 + _ < cLine
      omega
    · rw [prD_lt]
      have e3 : bOf ps i j = pLt pa pb := by
        unfold bOf
        rw [g1, g2]
      rw [← e3]
      exact q'
  · obtain ⟨a, pp, ha, hp, rfl, g1⟩ := item _ v e
    have bl := best_le ps (its.toArray.size - 1)
    refine ⟨.ref a, H, I.kept (t' := tk) kp, rfl, q _ a pp ha hp fun x hx => ?_⟩
    obtain ⟨j, hj, rfl⟩ := List.getElem_of_mem hx
    have := bl.2 j (by rw [List.size_toArray]; omega)
    have e4 : bOf ps j (argBest (bOf ps) (its.toArray.size - 1)) = pLt (ps.getD j (0, 0)) (ps.getD (argBest (bOf ps) (its.toArray.size - 1)) (0, 0)) := rfl
    rw [e4, g1, List.getD_eq_getElem?_getD, List.getElem?_eq_getElem hj] at this
    exact this
end Fv
set_option maxRecDepth 100000
set_option maxHeartbeats 4000000
namespace L2
open PySem PySem.Spec PyProof.Rows
/-! ### set(t), t a tuple of ints; len(set(t)) -/
section
variable {P : Program} {w : World} {A : Around} {E : Value → Shared → Prop} {s : Shared}
set_option maxHeartbeats 3200000 in
theorem tset_call {l : Addr} {items : Array Value} (ns : List Int) {Q : Value → Shared → Prop} (hh : A.handled = none) (hl : s.heap.IsTuple l items) (hit : IntsAre items.toList ns) (hb : ns.length + 1 < scanBound)
    (h : ∀ (h' : Heap) (tk c : Nat), SetR w h' s.heap.objs.size (fun j => decide (j ∈ ns)) c → c ≤ ns.length → (∀ b o, s.heap.get? b = some o → h'.get? b = some o) → Q (.ref s.heap.objs.size) { s with heap := h', toks := tk }) :
    wpAny (model P w) A (call (.type "set") [.ref l]) Q E s := by
  have hn : items.size = ns.length := by rw [← Array.length_toList]; exact IntsAre.length hit
  obtain ⟨c, tl, hmro⟩ := F.called_set.mro
  have hmade := F.called_set.made
  have hsub := F.called_set.sub
  have h1 := F.called_set.notType
  have h2 := F.called_set.canCreate
  have hct := F.typeCall_set_1 (.ref l)
  refine wpAny_call (codeAny_of_tree ?_)
  show wpAny _ _ (callAny (.type "set") _) _ _ _
  refine wpAny_pure ⟨Code.quiet_builtin _ (by decide +kernel), codeAny_builtin F.entry_type_call ?_⟩
  rw [Around.under_plain (weight_type_call_type "set" [.ref l] []) rfl]
  repeat (any_goals (first | assumption | wp_step))
  generalize ho : ({ cls := .type "set", dict := none, data := .set #[] 0 (.fresh 0 0 (!w.params.followText "set-order")) } : Obj) = ob
  refine codeAny_mono (code_set_led1 (.ref l) (E := E) (Q₁ := fun x t => x = .ref s.heap.objs.size ∧ t = { s with heap := s.heap.push ob }) ⟨rfl, by rw [ho]⟩) fun r t hr => ?_
  cases r with
  | error e => exact hr
  | ok fl =>
    cases fl with
    | ret x =>
      obtain ⟨rfl, rfl⟩ := hr
      have hS : (s.heap.push ob).get? s.heap.objs.size = some ob := Heap.get?_push_size _ (by rw [← ho]; rfl)
      have hT : Shared.TypeIs { s with heap := s.heap.push ob } (.ref s.heap.objs.size) "set" := ⟨_, hS, by rw [← ho]⟩
      have hli := F.called_set.init.lookup
      have hbi := F.called_set.init.bind (.ref s.heap.objs.size)
      repeat (any_goals (first | assumption | wp_step))
      refine codeAny_mono (codeAny_call_builtin (R := wants (fun r t => r = .none ∧ ∃ h' tk c, t = { s with heap := h', toks := tk } ∧ SetR w h' s.heap.objs.size (fun j => decide (j ∈ ns)) c ∧ c ≤ ns.length ∧
          (∀ b o, s.heap.get? b = some o → h'.get? b = some o)) E) F.called_set.init.plain F.entry_set_init (check_set_init_1 hT ?_)) fun r2 t2 hr2 => ?_
      · have hl0 : (s.heap.push ob).IsTuple l items := hl.push _
        obtain ⟨ol, hol, hcl, nl, hdl⟩ := hl
        obtain ⟨ocls, odict, odata, oslots⟩ := ol
        simp only at hcl hdl
        subst hcl hdl
        have hol' : (s.heap.push ob).get? l = some { cls := .type "tuple", dict := odict, data := .seq items nl, slots := oslots } := Heap.get?_push_of_some _ hol
        have e1 := F.sub_tuple_set
        have e2 := F.sub_tuple_frozenset
        have hne : (Value.type "tuple" == Value.type "dict") = false := by decide
        have lt : l < s.heap.objs.size := Heap.lt_size hol
        have sz : (s.heap.push ob).objs.size = s.heap.objs.size + 1 := Heap.size_push ..
        have hneI : l ≠ (s.heap.push ob).objs.size := by rw [sz]; exact Nat.ne_of_lt (Nat.lt_succ_of_lt lt)
        have hSf : s.heap.objs.size ∉ [(s.heap.push ob).objs.size, l] := by
          rw [sz]
          simp only [List.mem_cons, List.not_mem_nil, or_false, not_or]
          exact ⟨Nat.ne_of_lt (Nat.lt_succ_self _), Nat.ne_of_gt lt⟩
        have hh3 : A.in1.in1.in1.handled = none := by simp [hh]
        subst ho
        unfold Builtin.«set.__init__» noKeywords Builtin.Frozenset.updateFrom
        generalize hPI : pyIter = PI
        wp_walk
        subst hPI
        refine wpAny_pyIter_tuple hl0 ?_
        refine wpAny_bind (wpAny_runValue ?_)
        have hv : ∀ (i : Nat) (v : Value), items[i]? = some v → ∃ k t, ns[i]? = some k ∧ v = .int k t := fun i v hv => by
          have hi : i < ns.length := by rw [← hn]; exact (Array.getElem?_eq_some_iff.mp hv).1
          obtain ⟨t, e⟩ := IntsAre.int_at hit i v (by rw [Array.getElem?_toList]; exact hv)
          refine ⟨ns[i], t, List.getElem?_eq_getElem hi, ?_⟩
          rw [e, List.getD_eq_getElem?_getD, List.getElem?_eq_getElem hi] <;> rfl
        refine set_update_ints ((Walks.tuple hh3 _ l hneI items).toS) s.heap.objs.size hSf ns hn hb hv (items.size - 0) 0 _ (by omega) (Nat.zero_le _) ⟨⟨_, Heap.get?_push_size _ rfl, rfl, rfl⟩, hl0.push _⟩ ?hZero ?hRest
        case hZero => exact ⟨0, Nat.le_refl 0, setR_new_at (Heap.get?_push_of_some _ hS)⟩
        case hRest =>
          intro t' c' hm hc' hS'
          obtain ⟨h', g2, d', tk', os'⟩ := t'
          obtain rfl : g2 = s.gens := hm.gens
          obtain rfl : d' = s.drawn := hm.drawn
          obtain rfl : os' = s.os := hm.os
          show wpAny _ _ _ _ _ _
          refine wpAny_pure ?_
          show wpAny _ _ (ret Value.none) _ _ _
          rw [hn] at hc'
          refine wpAny_pure ⟨rfl, h', tk', c', rfl, hS', hc', fun b o e => ?_⟩
          have hb0 : b < s.heap.objs.size := Heap.lt_size e
          refine hm.heap b o ?_ (Heap.get?_push_of_some _ (Heap.get?_push_of_some _ e))
          rw [sz]
          simp only [List.mem_cons, List.not_mem_nil, or_false, not_or]
          exact ⟨Nat.ne_of_lt hb0, Nat.ne_of_lt (Nat.lt_succ_of_lt hb0)⟩
      · cases r2 with
        | error e => exact hr2
        | ok fl2 =>
          cases fl2 with
          | ret r =>
            obtain ⟨rfl, h', tk, c', rfl, hS', hc', hk'⟩ := hr2
            repeat (any_goals (first | assumption | wp_step))
            exact h _ _ _ hS' hc' hk'
          | _ => exact hr2.elim
    | _ => exact hr.elim
set_option maxHeartbeats 3200000 in
theorem tset_callN {l : Addr} {items : Array Value} (ns : List Int) {Q : Value → Shared → Prop} (hh : A.handled = none) (hl : s.heap.IsTuple l items) (hit : IntsAre items.toList ns) (hb : ns.length + 1 < scanBound)
    (h : ∀ (h' : Heap) (tk : Nat), h'.SetOf (intKind P w) s.heap.objs.size (fun k' => (firstMet (fun i => ns.getD i 0) items.size).any (· == k')) (firstMet (fun i => ns.getD i 0) items.size).length → (∀ b o, s.heap.get? b = some o → h'.get? b = some o) → Q (.ref s.heap.objs.size) { s with heap := h', toks := tk }) :
    wpAny (model P w) A (call (.type "set") [.ref l]) Q E s := by
  have hn : items.size = ns.length := by rw [← Array.length_toList]; exact IntsAre.length hit
  obtain ⟨c, tl, hmro⟩ := F.called_set.mro
  have hmade := F.called_set.made
  have hsub := F.called_set.sub
  have h1 := F.called_set.notType
  have h2 := F.called_set.canCreate
  have hct := F.typeCall_set_1 (.ref l)
  refine wpAny_call (codeAny_of_tree ?_)
  show wpAny _ _ (callAny (.type "set") _) _ _ _
  refine wpAny_pure ⟨Code.quiet_builtin _ (by decide +kernel), codeAny_builtin F.entry_type_call ?_⟩
  rw [Around.under_plain (weight_type_call_type "set" [.ref l] []) rfl]
  repeat (any_goals (first | assumption | wp_step))
  refine codeAny_mono (code_set_new_1 (.ref l) (E := E) (Q₁ := fun x t => ∃ (led : Bool) (ob : Obj), ({ cls := .type "set", dict := none, data := .set #[] 0 (.fresh 0 0 led) } : Obj) = ob ∧ x = .ref s.heap.objs.size ∧ t = { s with heap := s.heap.push ob }) fun led => ⟨led, _, rfl, rfl, rfl⟩) fun r t hr => ?_
  cases r with
  | error e => exact hr
  | ok fl =>
    cases fl with
    | ret x =>
      obtain ⟨led, ob, ho, rfl, rfl⟩ := hr
      have hS : (s.heap.push ob).get? s.heap.objs.size = some ob := Heap.get?_push_size _ (by rw [← ho]; rfl)
      have hT : Shared.TypeIs { s with heap := s.heap.push ob } (.ref s.heap.objs.size) "set" := ⟨_, hS, by rw [← ho]⟩
      have hli := F.called_set.init.lookup
      have hbi := F.called_set.init.bind (.ref s.heap.objs.size)
      repeat (any_goals (first | assumption | wp_step))
      refine codeAny_mono (codeAny_call_builtin (R := wants (fun r t => r = .none ∧ ∃ h' tk, t = { s with heap := h', toks := tk } ∧ h'.SetOf (intKind P w) s.heap.objs.size (fun k' => (firstMet (fun i => ns.getD i 0) items.size).any (· == k')) (firstMet (fun i => ns.getD i 0) items.size).length ∧
          (∀ b o, s.heap.get? b = some o → h'.get? b = some o)) E) F.called_set.init.plain F.entry_set_init (check_set_init_1 hT ?_)) fun r2 t2 hr2 => ?_
      · have hl0 : (s.heap.push ob).IsTuple l items := hl.push _
        obtain ⟨ol, hol, hcl, nl, hdl⟩ := hl
        obtain ⟨ocls, odict, odata, oslots⟩ := ol
        simp only at hcl hdl
        subst hcl hdl
        have hol' : (s.heap.push ob).get? l = some { cls := .type "tuple", dict := odict, data := .seq items nl, slots := oslots } := Heap.get?_push_of_some _ hol
        have e1 := F.sub_tuple_set
        have e2 := F.sub_tuple_frozenset
        have hne : (Value.type "tuple" == Value.type "dict") = false := by decide
        have lt : l < s.heap.objs.size := Heap.lt_size hol
        have sz : (s.heap.push ob).objs.size = s.heap.objs.size + 1 := Heap.size_push ..
        have hneI : l ≠ (s.heap.push ob).objs.size := by rw [sz]; exact Nat.ne_of_lt (Nat.lt_succ_of_lt lt)
        have hSf : s.heap.objs.size ∉ [(s.heap.push ob).objs.size, l] := by
          rw [sz]
          simp only [List.mem_cons, List.not_mem_nil, or_false, not_or]
          exact ⟨Nat.ne_of_lt (Nat.lt_succ_self _), Nat.ne_of_gt lt⟩
        have hh3 : A.in1.in1.in1.handled = none := by simp [hh]
        subst ho
        unfold Builtin.«set.__init__» noKeywords Builtin.Frozenset.updateFrom
        generalize hPI : pyIter = PI
        wp_walk
        subst hPI
        refine wpAny_pyIter_tuple hl0 ?_
        refine wpAny_bind (wpAny_runValue ?_)
        have hv : ∀ (i : Nat) (v : Value), items[i]? = some v → ∃ t, v = .int ((fun i => ns.getD i 0) i) t := fun i v hv => IntsAre.int_at hit i v (by rw [Array.getElem?_toList]; exact hv)
        refine codeAny_set_update_loopS ((Walks.tuple hh3 _ l hneI items).toS) s.heap.objs.size hSf (fun i => ns.getD i 0) hv (by rw [hn]; exact hb) (items.size - 0) 0 _ (by omega) (Nat.zero_le _) ⟨⟨_, Heap.get?_push_size _ rfl, rfl, rfl⟩, hl0.push _⟩ ?hZero ?hRest
        case hZero => exact SetOf_congr ((setObjOf_fresh (knd := intKind P w) led).setOf (Heap.get?_push_of_some _ hS) (by unfold scanBound; omega)) (fun _ => rfl) rfl
        case hRest =>
          intro t' hm hS'
          obtain ⟨h', g2, d', tk', os'⟩ := t'
          obtain rfl : g2 = s.gens := hm.gens
          obtain rfl : d' = s.drawn := hm.drawn
          obtain rfl : os' = s.os := hm.os
          show wpAny _ _ _ _ _ _
          refine wpAny_pure ?_
          show wpAny _ _ (ret Value.none) _ _ _
          refine wpAny_pure ⟨rfl, h', tk', rfl, hS', fun b o e => ?_⟩
          have hb0 : b < s.heap.objs.size := Heap.lt_size e
          refine hm.heap b o ?_ (Heap.get?_push_of_some _ (Heap.get?_push_of_some _ e))
          rw [sz]
          simp only [List.mem_cons, List.not_mem_nil, or_false, not_or]
          exact ⟨Nat.ne_of_lt hb0, Nat.ne_of_lt (Nat.lt_succ_of_lt hb0)⟩
      · cases r2 with
        | error e => exact hr2
        | ok fl2 =>
          cases fl2 with
          | ret r =>
            obtain ⟨rfl, h', tk, rfl, hS', hk'⟩ := hr2
            repeat (any_goals (first | assumption | wp_step))
            exact h _ _ hS' hk'
          | _ => exact hr2.elim
    | _ => exact hr.elim
end
section
variable {X : Cx}
/-- set(t), t a tuple of ints: a new set -/
def rSetTi (K : PySem.W.Frag) (w : World) : List V → Hp → VK → Prop := fun xs H Q => ∃ (l : Addr) (ns : List Int), xs = [.ref l] ∧ SqT K H l (ns.map V.int) ∧ ns.length < 200 ∧ ∀ p c, H p = none → c ≤ ns.length → Q (.ref p) (upd H p (SetO w p (fun j => decide (j ∈ ns)) c))
theorem cr_setTiK {K : PySem.W.Frag} {w : World} (e : X.K = K) (e2 : X.w = w) (hc : X.calm = true) : CallR X (.type "set") (rSetTi K w) := by
  subst e e2
  intro pins s σ H vs us Q I r h
  obtain ⟨l, ns, rfl, hl, h60, q⟩ := h
  rw [Vals.ref1 r]
  obtain ⟨its, rv, p, hz⟩ := I.tuple hl
  refine tset_call ns (I.ok.hd hc) (show s.heap.IsTuple l its.toArray from p) (by rw [List.toList_toArray]; exact ints_of_vals rv) (by unfold scanBound; omega) fun h' tk c R hcn k => ?_
  exact ⟨.ref _, _, I.laid (t' := tk) k (Nat.le_refl _) (setO_new R), rfl, q _ _ (I.hok.fresh (Nat.le_refl _)) hcn⟩
/-- len(set(t)), t a tuple of ints -/
def cntD (ns : List Int) : Nat := (firstMet (fun i => ns.getD i 0) ns.length).length
def tLenSetT (K : PySem.W.Frag) (ta : TE) : TE := fun σ H Q => ta σ H fun x H1 => ∃ (l : Addr) (ns : List Int), x = .ref l ∧ SqT K H1 l (ns.map V.int) ∧ ns.length ≤ 4000 ∧ Q (.int (cntD ns : Nat)) H1
theorem pe_lenSetT {K : PySem.W.Frag} {a : Expr} {ta : TE} {p p2 q pos : Pos} (eK : X.K = K) (hc : X.calm = true) (hg : Gl X "len") (hm : X.mg "len" = none) (hg2 : Gl X "set") (hm2 : X.mg "set" = none) (ha : PE X a ta)
    (na : starEach [a] X.env = (false, eval a X.env) :: starEach [] X.env := by rfl) : PE X (.Call (.Name "len" p) [.Call (.Name "set" p2) [a] [] q] [] pos) (tLenSetT K ta) := by
  subst eK
  refine ⟨fun pins s σ H Q I h => ?_⟩
  refine Call_ (ld_blt I hg hm boot_len ?_)
  refine PyProof.Rows.callWith_builtin1 (PyProof.Rows.args_cons ?_ rfl) rfl rfl
  refine Call_ (ld_blt I hg2 hm2 boot_set ?_)
  refine PyProof.Rows.callWith_type1 (PyProof.Rows.args_cons (thn (ha.run pins s σ H _ I h) fun v s1 ⟨x, H1, I1, r1, q1⟩ => PyProof.Rows.args_nil ?_) na) na rfl
  obtain ⟨l, ns, rfl, hq, hl, q1⟩ := q1
  cases r1
  obtain ⟨its, r, pl, hz⟩ := I1.tuple hq
  have hlen : its.toArray.size = ns.length := by rw [List.size_toArray, ← r.length, List.length_map]
  refine tset_callN ns (I1.ok.hd hc) (show s1.heap.IsTuple l its.toArray from pl) (by rw [List.toList_toArray]; exact ints_of_vals r) (by unfold scanBound; omega) fun h' tk hS hk => ?_
  refine PyProof.Rows.args_nil ?_
  rw [hlen] at hS
  have le := firstMet_length_le (fun i => ns.getD i 0) ns.length
  obtain ⟨o, es, ep, t, ho, hex, hd, _, _, _, hf, hn⟩ := hS
  have I2 : Inv X pins σ H1 { s1 with heap := h', toks := tk } := I1.kept hk
  exact call_len_set ho hex hd hf (by rw [hn] <;> omega) ⟨.int (cntD ns : Nat), H1, I2.tok _, ⟨_, by rw [hn]; rfl⟩, q1⟩
theorem cntD_le (ns : List Int) : cntD ns ≤ ns.length := firstMet_length_le (fun i => ns.getD i 0) ns.length
theorem cntD_nodup {ns : List Int} (h : ns.Nodup) : cntD ns = ns.length := by
  unfold cntD
  rw [RZ.firstMet_nodup h ns.length (Nat.le_refl _), List.take_length]
end
end L2
namespace Fv
open PySem PySem.Spec L2
theorem x_lenSetT {K : PySem.W.Frag} {σ : L2.St} {H : Hp} {Q : VK} {ta : TE} (h : ta σ H fun x H1 => ∃ (l : Addr) (ns : List Int), x = .ref l ∧ SqT K H1 l (ns.map V.int) ∧ ns.length ≤ 4000 ∧ Q (.int (cntD ns : Nat)) H1) : tLenSetT K ta σ H Q := h
theorem cr_maxLK {X : Cx} {K : PySem.W.Frag} (e : X.K = K) (hc : X.calm = true) : CallR X (.builtin "max") (rMax K) := by
  subst e
  exact cr_max hc
/-- two for's, the outer one over a walk -/
theorem lc2_it {J : It} {n : Nat} {G : Hp → Prop} {Y : Nat → Hp → V → Hp → Prop} (w : Walk J n G Y) {g : TG} {tt : TT} {vs : List Nat} {σ : L2.St} {H0 : Hp} {Qd : Hp → Prop} {Bd : L2.St → Hp → (Hp → Prop) → Prop} (Pv : Nat → Hp → Prop) (h0 : Pv 0 H0) (hG : ∀ i H, i ≤ n → Pv i H → G H)
    (hs : ∀ i x H H', i < n → Pv i H → Y i H x H' → g x (wipe σ vs) H' fun σ2 H2 => wipe σ2 vs = wipe σ vs ∧ tt σ2 H2 fun b H3 => if b = true then Bd σ2 H3 (Pv (i + 1)) else Pv (i + 1) H3) (hd : ∀ H, Pv n H → Qd H) :
    ∃ W : Nat → Nat → Hp → Prop, (∃ m, W 0 m H0) ∧ ∀ i m H, W i m H →
      (J.stop i H ∧ Qd H) ∨ (J.go i H ∧ ∃ Nx : Hp → Prop, (∀ H', Nx H' → ∃ m', m' < m ∧ W (i + 1) m' H') ∧ ∀ x H', J.yld i H x H' → g x (wipe σ vs) H' fun σ2 H2 => wipe σ2 vs = wipe σ vs ∧ tt σ2 H2 fun b H3 =>
        if b = true then Bd σ2 H3 Nx else Nx H3) := by
  refine ⟨fun i m H => m = n - i ∧ i ≤ n ∧ Pv i H, ⟨n, by simp, Nat.zero_le _, h0⟩, ?_⟩
  rintro i m H ⟨rfl, hi, p⟩
  have q := hG i H hi p
  by_cases hlt : i < n
  · exact .inr ⟨w.goes i H hlt q, Pv (i + 1), fun H' p' => ⟨n - (i + 1), by omega, rfl, hlt, p'⟩, fun x H' y => hs i x H H' hlt p (w.yields i H x H' hlt q y)⟩
  · have e : i = n := by omega
    subst e
    exact .inl ⟨w.stops H q, hd H p⟩
end Fv
set_option maxRecDepth 100000
set_option maxHeartbeats 1000000
/-! enumerate of a list from a number on; the greatest of a list of tuples -/
namespace Fv
open PySem PySem.Spec L2
/-- enumerate of a list from a written number on: each item in a new pair -/
def ItnL (K : PySem.W.Frag) (t : Addr) (k : Int) : It where
  go := fun i H => ∃ (xs : List V) (x : V), SqL K H t xs ∧ xs[i]? = some x
  yld := fun i H v H' => ∃ (T : Addr) (x : V), v = .ref T ∧ H T = none ∧ H' = upd H T (.tup [.int (k + (i : Int)), x]) ∧ ∀ xs, SqL K H t xs → xs[i]? = some x
  stop := fun i H => ∃ xs : List V, SqL K H t xs ∧ xs.length = i
theorem turn_enumLS {P : Program} {w : World} {K : PySem.W.Frag} {elts : List Expr} {kk : Nat} {tpos : Pos} (k : Int) (t e it : Addr) (nt : t ≠ it) (ne : e ≠ it) (ne' : e ≠ t) :
    Turn P w K (.Tuple elts kk tpos) (ItnL K t k) [e, it] e (fun i h => (∃ old, IsEnum h e it (k + (i : Int)) old) ∧ h.IsListIter it t i) where
  mem := List.mem_cons_self
  obj := fun i h st b hb => by
    obtain ⟨⟨old, he⟩, ⟨o, ho, hc, hd⟩⟩ := st
    rcases List.mem_cons.mp hb with rfl | hb
    · exact ⟨_, he, fun v q => nomatch q⟩
    · rw [List.mem_singleton.mp hb]
      exact ⟨o, ho, fun v q => by rw [hd] at q; cases q⟩
  keep := fun i h h' st kp => ⟨st.1.elim fun old he => ⟨old, kp e List.mem_cons_self _ he⟩, st.2.at fun o q => kp it (List.mem_cons_of_mem _ List.mem_cons_self) o q⟩
  item := by
    intro X hP hw hK hc i pins s σ H E I hf st hg
    subst hP hw hK
    obtain ⟨xs, x, hq, hx⟩ := hg
    obtain ⟨its, rv, p, hz⟩ := I.list hq
    obtain ⟨u, hu, ru⟩ := rv.get hx
    have hil : i < its.length := (List.getElem?_eq_some_iff.mp hu).1
    have W := WalksT.enumFrom (prog := X.prog) (w := X.w) (A := X.A) k (Draws.list (prog := X.prog) (w := X.w) (A := X.A.in1) (it := it) (l := t) (show X.A.in1.handled = none from I.ok.hd hc) nt its.toArray) e ne (by simp [ne, ne']) (by simp)
    refine W.item i s _ E (by simpa using hil) ⟨st.1, st.2, p.isList⟩ fun T vals h' tk hP' hT hTup hMid hk => ?_
    refine ⟨_, rfl, W.go elts kk tpos i T _ _ E hMid fun h'' hst' hk' => ?_⟩
    obtain ⟨tk2, y, hy, rfl⟩ := hP'
    have ey : y = u := by
      have e1 : its.toArray[i]? = some u := by simpa using hu
      rw [e1] at hy
      exact (Option.some.inj hy).symm
    subst ey
    have hfp : ∀ b ∈ [e, it], b < s.heap.objs.size := fun b hb => by
      obtain ⟨⟨old, he⟩, ⟨o, ho, _⟩⟩ := st
      rcases List.mem_cons.mp hb with rfl | hb
      · exact Heap.lt_size he
      · rw [List.mem_singleton.mp hb]
        exact Heap.lt_size ho
    have hTn : T ∉ [e, it] := W.apart i T _ hMid
    have hTup2 : h''.IsTuple T #[.int (k + (i : Int)) tk2, y] := by
      obtain ⟨o, e1, c1, n1, d1⟩ := hTup
      exact ⟨o, hk' _ _ hTn e1, c1, n1, d1⟩
    have new : ObjOk X.prog X.w (upd H T (.tup [.int (k + (i : Int)), x])) h'' T (.tup [.int (k + (i : Int)), x]) := by
      obtain ⟨o, e1, c1, n1, d1⟩ := hTup2
      exact ⟨by show 2 ≤ sizeLine; decide, [.int (k + (i : Int)) tk2, y], .cons ⟨_, rfl⟩ (.cons ru .nil), ⟨o, e1, c1, n1, d1⟩⟩
    have I1 : Inv X pins σ (upd H T (.tup [.int (k + (i : Int)), x])) { s with heap := h'', toks := tk } :=
      I.turnedNew (ch := [e, it]) (fun b ob hb q => hk' b ob hb (hk b ob hb q)) hf hT new
    refine ⟨.ref T, _, I1, rfl, ⟨T, x, rfl, I.hok.fresh hT, rfl, fun ys hys => by rw [I.list_inj hys hq]; exact hx⟩, ⟨hst'.1, hst'.2.1⟩, fun b hb => ?_⟩
    have hbT : b ≠ T := fun z => absurd (hfp b hb) (by rw [z]; exact Nat.not_lt.mpr hT)
    rw [upd_ne hbT]
    exact (hf b hb).1
  done := by
    intro X hP hw hK hc i pins s σ H E I hf st hg
    subst hP hw hK
    obtain ⟨xs, hq, hx⟩ := hg
    obtain ⟨its, rv, p, hz⟩ := I.list hq
    have W := WalksT.enumFrom (prog := X.prog) (w := X.w) (A := X.A) k (Draws.list (prog := X.prog) (w := X.w) (A := X.A.in1) (it := it) (l := t) (show X.A.in1.handled = none from I.ok.hd hc) nt its.toArray) e ne (by simp [ne, ne']) (by simp)
    have el : i = its.toArray.size := by
      rw [← hx, Vals.length rv]
      simp
    rw [el] at st
    refine W.done s _ E ⟨st.1, st.2, p.isList⟩ fun h' tk hk => ⟨rfl, ?_⟩
    have nh : ∀ b u, H b = some u → b ∉ [e, it] := fun b u hb z => by
      have q := (hf b z).1
      rw [q] at hb
      cases hb
    refine I.step (g' := s.gens) (d' := s.drawn) (ch := [e, it]) (fun b hb => ⟨(hf b hb).2.2.2.1, (hf b hb).2.1, (hf b hb).2.2.2.2.1, (hf b hb).2.2.2.2.2⟩) (fun b o _ _ hc e _ => hk b o hc e) (fun b o _ _ hc e _ => ⟨o.slots, hk b o hc e⟩)
      (fun _ _ _ _ n => n) (fun b o hc e => ⟨o, hk b o hc e⟩) (fun _ _ q => q) (fun _ _ _ q => q) (fun _ ps q => ⟨#[], by rw [q]; simp⟩) (fun m hm => ?_) (fun b u hb => ?_) I.bare
    · obtain ⟨o, es, ep, ho, r⟩ := hm
      exact ⟨o, es, ep, hk _ o (fun z => (hf _ z).2.1 rfl) ho, r⟩
    · refine (I.hok b u hb).stay (fun c v hc q => hk c v ?_ q) (fun _ q => q) fun _ _ q => q
      rcases hc with z | z
      · rw [z]
        exact nh b u hb
      · exact nh c _ z
  self := fun A i s Q E st h => by
    obtain ⟨⟨old, he⟩, _⟩ := st
    exact wpAny_pyIter_enum he h
/-- enumerate(e, start=k), k written -/
def iEnL (K : PySem.W.Frag) (k : Int) (ta : TA) : TI := fun σ H R => ta σ H fun vs H1 => ∃ (t : Addr) (xs : List V), vs = [.ref t] ∧ SqL K H1 t xs ∧ R (ItnL K t k) H1
theorem pi_enumLS0 {X : Cx} {e : Expr} {ta : TA} {p pos tpos kpos kp : Pos} {elts : List Expr} {kk j : Nat} {k : Int} (hc : X.calm = true) (hg : Gl X "enumerate") (hm : X.mg "enumerate" = none) (h0 : -(2 ^ 63) ≤ k) (h1 : k < 2 ^ 63) (ha : PA X [e] ta)
    (hs : starEach [e] X.env = (false, eval e X.env) :: starEach [] X.env := by rfl) :
    PI X (.Tuple elts kk tpos) (.Call (.Name "enumerate" p) [e] [⟨some "start", .Constant (.int k) j kp, kpos⟩] pos) (iEnL X.K k ta) := by
  refine ⟨fun pins s σ H R I h => ?_⟩
  refine wpAny_Call_Name_kw (ld_blt I hg hm (u := .type "enumerate") (by decide +kernel) ?_)
  refine PySem.W.callWith_of (P := fun _ => True) (by rw [hs]; rfl) (fun h _ => ⟨_, .inr (.inl rfl), PySem.W.Looks.of_pure rfl⟩) (PyProof.Rows.evalArgs_kw2 rfl (thn (ha.run pos pins s σ H _ I h) fun us s1 ⟨vs, H1, I1, r1, t, xs, ev, hq, q⟩ => ?_) hs)
  have hkw : PK X [⟨some "start", .Constant (.int k) j kp, kpos⟩] (tCons (tC (.int k)) tNil) := pk_cons pe_int pk_nil
  refine thn (hkw.run pos pins s1 σ H1 (fun zs H2 => zs = [.int k] ∧ H2 = H1) I1 ⟨rfl, rfl⟩) fun ks s2 ⟨zs, H2, I2, r2, ez, eH⟩ => ⟨True.intro, ?_⟩
  subst ev ez eH
  cases r1 with
  | cons r rr =>
    cases rr
    cases r
    cases r2 with
    | cons rk rrk =>
      cases rrk
      obtain ⟨tk, rfl⟩ := rk
      obtain ⟨its, rv, p', hz⟩ := I2.list hq
      refine enum_begins_start (begins_list t its.toArray) (p'.isList) h0 h1 fun h' he hit hsz hkp => ?_
      refine wpAny_pyIter_enum he ?_
      have I3 : Inv X pins σ H2 { s2 with heap := h' } := I2.kept (t' := s2.toks) hkp
      have ht : t < s2.heap.objs.size := p'.lt
      have hn : ∀ b, s2.heap.objs.size ≤ b → H2 b = none := fun b hb => I2.hok.fresh hb
      refine ⟨s2.heap.objs.size + 1, [s2.heap.objs.size + 1, s2.heap.objs.size], _, _, H2, rfl, I3, turn_enumLS k t (s2.heap.objs.size + 1) s2.heap.objs.size (Nat.ne_of_lt ht) (Nat.succ_ne_self _) (Nat.ne_of_gt (Nat.lt_succ_of_lt ht)),
        ⟨⟨.none, ?_⟩, ⟨_, hit, rfl, rfl⟩⟩, fun b hb => ?_, q⟩
      · rw [show k + ((0 : Nat) : Int) = k by omega]
        exact he
      · have hle : s2.heap.objs.size ≤ b := by
          rcases List.mem_cons.mp hb with rfl | hb
          · exact Nat.le_succ _
          · rw [List.mem_singleton.mp hb]
            exact Nat.le_refl _
        exact I2.fpOk hle (hn b hle)

theorem pi_enumLS {X : Cx} {K : PySem.W.Frag} {e : Expr} {ta : TA} {p pos tpos kpos kp : Pos} {elts : List Expr} {kk j : Nat} {k : Int} (eK : X.K = K) (hc : X.calm = true) (hg : Gl X "enumerate") (hm : X.mg "enumerate" = none) (h0 : -(2 ^ 63) ≤ k) (h1 : k < 2 ^ 63) (ha : PA X [e] ta)
    (hs : starEach [e] X.env = (false, eval e X.env) :: starEach [] X.env := by rfl) :
    PI X (.Tuple elts kk tpos) (.Call (.Name "enumerate" p) [e] [⟨some "start", .Constant (.int k) j kp, kpos⟩] pos) (iEnL K k ta) := by
  subst eK
  exact pi_enumLS0 hc hg hm h0 h1 ha hs
theorem x_enls {K : PySem.W.Frag} {σ : L2.St} {H : Hp} {R : It → Hp → Prop} {k : Int} {ts : TA} (h : ts σ H fun vs H1 => ∃ (t : Addr) (xs : List V), vs = [.ref t] ∧ SqL K H1 t xs ∧ R (ItnL K t k) H1) : iEnL K k ts σ H R := h
theorem walk_enumLS {K : PySem.W.Frag} {t : Addr} {k : Int} {xs : List V} : Walk (ItnL K t k) xs.length (fun H => SqL K H t xs) (YPair (fun i => some (.int (k + (i : Nat)))) (fun i => xs[i]?)) := by
  refine ⟨fun i _ hi q => ⟨xs, xs[i], q, by simp [hi]⟩, fun _ q => ⟨xs, q, rfl⟩, fun i H v H' _ q y => ?_⟩
  obtain ⟨T, z, h1, h2, h3, h4⟩ := y
  exact ⟨T, .int (k + (i : Nat)), z, h1, h2, h3, rfl, h4 xs q⟩
/-! max of a list of tuples of numbers -/
def tD (l : List Nat) : PyData := .tuple (dn l)
theorem alike_dn : ∀ a b : List Nat, PySem.W.alikeAll (dn a) (dn b) = true
  | [], [] => by simp [dn, PySem.W.alikeAll]
  | [], _ :: _ => by simp [dn, PySem.W.alikeAll]
  | _ :: _, [] => by simp [dn, PySem.W.alikeAll]
  | a :: l, b :: m => by
    have ih := alike_dn l m
    show PySem.W.alikeAll (.int a :: dn l) (.int b :: dn m) = true
    rw [PySem.W.alikeAll, ih]
    simp [PySem.W.alike]
theorem alike_tD (a b : List Nat) : PySem.W.alike (tD a) (tD b) = true := by
  show PySem.W.alike (.tuple (dn a)) (.tuple (dn b)) = true
  rw [PySem.W.alike]
  exact alike_dn a b
theorem tD_inj {a b : List Nat} (h : tD a = tD b) : a = b := by
  have h2 : dn a = dn b := PyData.tuple.inj h
  have h3 := dn_eqv a b
  rw [h2, dn_eqv] at h3
  have : decide (b = b) = true := decide_eq_true rfl
  rw [this] at h3
  exact of_decide_eq_true h3.symm
/-- a stands no place beyond g -/
def Pw : List Nat → List Nat → Prop
  | [], [] => True
  | x :: l, y :: m => x ≤ y ∧ Pw l m
  | _, _ => False
theorem lex_pw : ∀ {a g : List Nat}, Pw a g → a ≠ g → PyProof.Rows.lexLt PyProof.Rows.itemOrd (PySem.W.keyToksAll (dn a)) (PySem.W.keyToksAll (dn g)) = true ∧ PyProof.Rows.lexLt PyProof.Rows.itemOrd (PySem.W.keyToksAll (dn g)) (PySem.W.keyToksAll (dn a)) = false
  | [], [], _, h => (h rfl).elim
  | x :: l, y :: m, ⟨h1, h2⟩, h => by
    have al : PySem.W.alike (.int (x : Nat)) (.int (y : Nat)) = true := by simp [PySem.W.alike]
    have al2 : PySem.W.alike (.int (y : Nat)) (.int (x : Nat)) = true := by simp [PySem.W.alike]
    show PyProof.Rows.lexLt PyProof.Rows.itemOrd (PySem.W.keyToksAll (.int (x : Nat) :: dn l)) (PySem.W.keyToksAll (.int (y : Nat) :: dn m)) = true ∧ PyProof.Rows.lexLt PyProof.Rows.itemOrd (PySem.W.keyToksAll (.int (y : Nat) :: dn m)) (PySem.W.keyToksAll (.int (x : Nat) :: dn l)) = false
    by_cases e : x = y
    · subst e
      have ev : PyData.eqv (.int (x : Nat)) (.int (x : Nat)) = true := by simp [PyData.eqv]
      rw [PySem.W.dataLt_all_yes al ev, PySem.W.dataLt_all_yes al ev]
      exact lex_pw h2 fun z => h (by rw [z])
    · have ev : PyData.eqv (.int (x : Nat)) (.int (y : Nat)) = false := by
        simp [PyData.eqv]
        omega
      have ev2 : PyData.eqv (.int (y : Nat)) (.int (x : Nat)) = false := by
        simp [PyData.eqv]
        omega
      rw [PySem.W.dataLt_all_no al ev, PySem.W.dataLt_all_no al2 ev2, PySem.W.dataLt_int, PySem.W.dataLt_int]
      exact ⟨decide_eq_true (by omega), decide_eq_false (by omega)⟩
theorem tD_lt {a g : List Nat} (h : Pw a g) (n : a ≠ g) : PySem.W.dataLt (tD a) (tD g) = true ∧ PySem.W.dataLt (tD g) (tD a) = false := by
  unfold tD
  rw [PySem.W.dataLt_tuple, PySem.W.dataLt_tuple]
  exact lex_pw h n
theorem dataLt_self (g : List Nat) : PySem.W.dataLt (tD g) (tD g) = false := PyProof.Rows.lex_irrefl (O := PyProof.Rows.itemOrd) _
theorem fold_top {g : List Nat} : ∀ (ts : List (List Nat)) (a : List Nat), (∀ u ∈ ts, u = g ∨ Pw u g) → (a = g ∨ Pw a g) → (a = g ∨ g ∈ ts) → (ts.map tD).foldl (fun a y => if PySem.W.dataLt a y then y else a) (tD a) = tD g
  | [], a, _, _, h => by
    rcases h with rfl | h
    · rfl
    · cases h
  | u :: ts, a, h1, h2, h3 => by
    show (ts.map tD).foldl _ (if PySem.W.dataLt (tD a) (tD u) then tD u else tD a) = tD g
    have hu := h1 u List.mem_cons_self
    have h1' : ∀ u ∈ ts, u = g ∨ Pw u g := fun v hv => h1 v (List.mem_cons_of_mem _ hv)
    by_cases ea : a = g
    · subst ea
      have : PySem.W.dataLt (tD a) (tD u) = false := by
        by_cases eu : u = a
        · subst eu
          exact dataLt_self _
        · rcases hu with hu | hu
          · exact (eu hu).elim
          · exact (tD_lt hu eu).2
      rw [this]
      exact fold_top ts a h1' (.inl rfl) (.inl rfl)
    · by_cases eu : u = g
      · subst eu
        rcases h2 with h2 | h2
        · exact (ea h2).elim
        · rw [(tD_lt h2 ea).1]
          exact fold_top ts u h1' (.inl rfl) (.inl rfl)
      · have mg : g ∈ ts := by
          rcases h3 with h3 | h3
          · exact (ea h3).elim
          · rcases List.mem_cons.mp h3 with h3 | h3
            · exact (eu h3.symm).elim
            · exact h3
        cases PySem.W.dataLt (tD a) (tD u) with
        | true => exact fold_top ts u h1' hu (.inr mg)
        | false => exact fold_top ts a h1' h2 (.inr mg)
theorem tDs_depth : ∀ ts : List (List Nat), PyData.depthAll (ts.map tD) ≤ 1
  | [] => by decide
  | a :: l => by
    show max (PyData.depth (.tuple (dn a))) (PyData.depthAll (l.map tD)) ≤ 1
    have := tDs_depth l
    have h : PyData.depth (.tuple (dn a)) = 1 := by
      show PyData.depthAll (dn a) + 1 = 1
      rw [dn_depth]
    omega
theorem dp_tups {K : PySem.W.Frag} {H : Hp} : ∀ {as : List Addr} {ts : List (List Nat)}, as.length = ts.length → (∀ (i : Nat) a t, as[i]? = some a → ts[i]? = some t → SqT K H a (nats t)) → DpAll K H (as.map V.ref) (ts.map tD)
  | [], [], _, _ => .nil
  | _ :: _, [], h, _ => absurd h (by simp)
  | [], _ :: _, h, _ => absurd h (by simp)
  | a :: as, t :: ts, h, hh => .cons (.tup (hh 0 a t rfl rfl) (dpAll_nats t)) (dp_tups (by simpa using h) fun i b u e1 e2 => hh (i + 1) b u e1 e2)
def rMaxT (K : PySem.W.Frag) : List V → Hp → VK → Prop := fun xs H Q => ∃ (l : Addr) (as : List Addr) (ts : List (List Nat)) (g : List Nat), xs = [.ref l] ∧ SqL K H l (as.map V.ref) ∧ as.length = ts.length ∧ (∀ (i : Nat) a t, as[i]? = some a → ts[i]? = some t → SqT K H a (nats t)) ∧ g ∈ ts ∧ (∀ u ∈ ts, u = g ∨ Pw u g) ∧
  ∀ (i : Nat) a, as[i]? = some a → ts[i]? = some g → Q (.ref a) H
theorem cr_maxTK {X : Cx} {K : PySem.W.Frag} (e : X.K = K) (hc : X.calm = true) (hu : X.A.units + 66 < cLine) : CallR X (.builtin "max") (rMaxT K) := by
  subst e
  intro pins s σ H vs us Q I r h
  obtain ⟨l, as, ts, g, rfl, hl, la, at_, mg, top, q⟩ := h
  rw [Vals.ref1 r]
  obtain ⟨its, rv, p, _⟩ := I.list hl
  have hh : X.A.handled = none := I.ok.hd hc
  obtain ⟨bs, ra⟩ := Dp.readsAll I _ _ _ (dp_tups la at_) rv
  match ts, mg with
  | t0 :: ts, mg =>
    have fold : PySem.W.maxD (tD t0) (ts.map tD) = tD g := fold_top ts t0 (fun u hu => top u (List.mem_cons_of_mem _ hu)) (top t0 List.mem_cons_self) (by
      rcases List.mem_cons.mp mg with z | z
      · exact .inl z.symm
      · exact .inr z)
    have dep := tDs_depth (t0 :: ts)
    refine PySem.W.max_list_data (x := tD t0) (xs := ts.map tD) hh p.isList (by simpa using ra) ⟨fun x hx y hy => ?_, fun x hx => ?_⟩ (by show X.A.units + 1 + PyData.depthAll ((t0 :: ts).map tD) < cLine; omega) fun i v h' tk cs hv rd kp => ?_
    · obtain ⟨a, _, rfl⟩ := List.mem_map.mp (show x ∈ (t0 :: ts).map tD from hx)
      obtain ⟨b, _, rfl⟩ := List.mem_map.mp (show y ∈ (t0 :: ts).map tD from hy)
      exact alike_tD a b
    · obtain ⟨a, _, rfl⟩ := List.mem_map.mp (show x ∈ (t0 :: ts).map tD from hx)
      exact fun z => nomatch z
    · have e2 : its[i]? = some v := by simpa using hv
      have hi := (List.getElem?_eq_some_iff.mp e2).1
      have il : its.length = as.length := by rw [← rv.length, List.length_map]
      have ha := List.getElem?_eq_getElem (l := as) (i := i) (by omega)
      have ht := List.getElem?_eq_getElem (l := t0 :: ts) (i := i) (by omega)
      obtain ⟨u, hu2, ru⟩ := rv.get (show (as.map V.ref)[i]? = some (.ref as[i]) by rw [List.getElem?_map, ha]; rfl)
      rw [e2] at hu2
      cases hu2
      obtain rfl : v = .ref as[i] := ru
      rw [fold] at rd
      have I2 : Inv X pins σ H { s with heap := h', toks := tk } := I.kept (t' := tk) kp
      have dpa : Dp X.K H (.ref as[i]) (tD (t0 :: ts)[i]) := .tup (at_ i _ _ ha ht) (dpAll_nats _)
      obtain ⟨ds, r2⟩ := Dp.reads I2 _ _ _ dpa rfl
      have eg := tD_inj (PySem.W.alike_unique _ _ _ _ _ (alike_tD _ _) r2 rd)
      rw [eg] at ht
      exact ⟨.ref as[i], H, I2, rfl, q i _ ha ht⟩
theorem x_maxT {K : PySem.W.Frag} {H : Hp} {Q : VK} {l : Addr} {as : List Addr} {ts : List (List Nat)} {g : List Nat} (hl : SqL K H l (as.map V.ref)) (la : as.length = ts.length) (at_ : ∀ (i : Nat) a t, as[i]? = some a → ts[i]? = some t → SqT K H a (nats t)) (mg : g ∈ ts) (top : ∀ u ∈ ts, u = g ∨ Pw u g)
    (q : ∀ (i : Nat) a, as[i]? = some a → ts[i]? = some g → Q (.ref a) H) : rMaxT K [.ref l] H Q := ⟨l, as, ts, g, rfl, hl, la, at_, mg, top, q⟩
end Fv
set_option maxRecDepth 100000
set_option maxHeartbeats 2000000
/-! sorted(s), s a set of any number of ints; set(l), l a longer list of ints -/
namespace L2
open PySem PySem.Spec PyProof.Rows PySem.F
section
variable {P : Program} {w : World} {A : Around} {E : Value → Shared → Prop} {s : Shared} {a : Addr}
theorem eachInts : ∀ {vs : List Value} {ns : List Int}, IntsAre vs ns → PySem.W.EachIs (fun v (k : Int) => ∃ t, v = Value.int k t) vs ns
  | _, _, .nil => .nil
  | _, _, .cons n t h => .cons ⟨t, rfl⟩ (eachInts h)
theorem intsEach : ∀ {vs : List Value} {ns : List Int}, PySem.W.EachIs (fun v (k : Int) => ∃ t, v = Value.int k t) vs ns → IntsAre vs ns
  | _, _, .nil => .nil
  | _, _, .cons ⟨t, e⟩ h => by
    subst e
    exact .cons _ t (intsEach h)
theorem eachReads {h : Heap} {b : Addr} : ∀ {vs : List Value} {ns : List Int}, IntsAre vs ns → PySem.W.EachIs (fun v (k : Int) => ∃ as, Reads h v (PyData.int k) as ∧ b ∉ as) vs ns
  | _, _, .nil => .nil
  | _, _, .cons n t h => .cons ⟨[], .int n t, fun z => nomatch z⟩ (eachReads h)
theorem sorted_setN {S : Int → Bool} {n : Nat} {Q : Value → Shared → Prop} (R : SetR w s.heap a S n) (hh : A.handled = none) (hu : A.units + 66 < cLine) (h64 : n ≤ 4000)
    (hQ : ∀ s' p (out : Array Value) (c : Nat) (ns : List Int), (∀ b o, s.heap.get? b = some o → s'.heap.get? b = some o) → s'.gens = s.gens → s'.os = s.os → s.heap.objs.size ≤ p →
      s'.heap.get? p = some (seqObj "list" out c) → IntsAre out.toList ns → ns.Pairwise (· < ·) → (∀ k, k ∈ ns ↔ S k = true) → ns.length = n → Q (.ref p) s') :
    wpAny (model P w) A (call (.builtin "sorted") [.ref a]) Q E s := by
  obtain ⟨o, es, ep, t, ho, hex, hd, g, nd, hm, hb, hf, hn, hr, hl⟩ := R
  refine Calls.call_function_entry kind_sorted plain_sorted entry_sorted (args_sorted1 _) ?_
  unfold Builtin.«sorted»
  refine wpAny_bind (m := checkCount "sorted" 1 1 _) (wpAny_pure ?_)
  refine wpAny_bind (collect_set (A := A.in1) hh ⟨o, ho, hex.1, hd⟩ hf hb hr hl fun s1 vs k1 hz g1 o1 pm => ?_)
  have hvl : vs.length = n := by rw [pm.length_eq, List.length_map, Array.length_toList]; exact hn
  have hI : IntsAre vs (vs.map Builtin.Re.reRawOf) := ints_of vs fun v hv => by
    obtain ⟨e, he, q⟩ := List.mem_map.mp (pm.mem_iff.mp hv)
    obtain ⟨k, tk, h1, _⟩ := g e he
    exact ⟨k, tk, by rw [← q]; exact h1⟩
  have pk : (vs.map Builtin.Re.reRawOf).Perm (es.toList.map keyOf) := by
    have q := pm.map Builtin.Re.reRawOf
    rw [List.map_map] at q
    exact q
  refine wpAny_bind (wpAny_newList ?_ (by rw [hvl, sizeLine_eq]; omega))
  have hoL : (s1.heap.push (seqObj "list" vs.toArray 0)).get? s1.heap.objs.size = some (seqObj "list" vs.toArray 0) := Heap.get?_push_size _ rfl
  refine wpAny_bind (wpAny_holding (PySem.W.list_sort_data (s := { s1 with heap := s1.heap.push (seqObj "list" vs.toArray 0) }) (bs := vs.map Builtin.Re.reRawOf) (enc := PyData.int) hoL (eachInts hI) (eachReads hI)
    (PySem.W.AllAlike.of fun b b' => by simp [PySem.W.alike]) (PySem.W.Sortable.others fun b => ⟨nofun, nofun⟩) (by rw [List.length_map, hvl, sizeLine_eq]; omega) (fun b _ => by
      show A.in1.units + 1 + _ < _
      have e : A.in1.units = A.units + 1 := rfl
      simp only [PyData.depth]
      omega) fun out lo eo => ?_))
  obtain ⟨c, hc⟩ := sortedHeap_at (vs := vs) (out := out.toArray) hoL
  have dle : PySem.W.dataLe false (PyData.int : Int → PyData) = fun a b => decide (a ≤ b) := PySem.W.dataLe_int id
  rw [dle] at eo
  generalize hns : (vs.map Builtin.Re.reRawOf).mergeSort (fun a b => decide (a ≤ b)) = ns' at eo
  have a2 : ns'.Perm (vs.map Builtin.Re.reRawOf) := hns ▸ List.mergeSort_perm _ _
  have a3 : ns'.Pairwise (· ≤ ·) := by
    have q := List.pairwise_mergeSort (le := fun a b : Int => decide (a ≤ b)) (by intro a b c; simp; omega) (by intro a b; simp; omega) (vs.map Builtin.Re.reRawOf)
    rw [hns] at q
    exact q.imp fun h => of_decide_eq_true h
  have a1 := intsEach eo
  have pn : ns'.Perm (es.toList.map keyOf) := a2.trans pk
  refine wpAny_pure ⟨_, rfl, hQ { s1 with heap := sortedHeap (s1.heap.push (seqObj "list" vs.toArray 0)) s1.heap.objs.size vs out.toArray } s1.heap.objs.size out.toArray c ns' (fun b u e => ?_) g1 o1 hz hc (by rw [List.toList_toArray]; exact a1) (lt_of_le_nodup ns' a3 (pn.nodup_iff.mpr nd)) (fun k => by rw [pn.mem_iff, ← hm k]) ?_⟩
  · have q := k1 b u e
    have hlt := Heap.lt_size q
    show (sortedHeap (s1.heap.push (seqObj "list" vs.toArray 0)) s1.heap.objs.size vs out.toArray).get? b = some u
    rw [sortedHeap_old (Nat.ne_of_lt hlt) (by rw [size_push']; exact Nat.lt_succ_of_lt hlt)]
    exact Heap.get?_push_of_some _ q
  · rw [pn.length_eq, List.length_map, Array.length_toList]; exact hn
end
section
variable {X : Cx}
/-- sorted(found), up to 4000 members -/
def rSortedSetN (w : World) : List V → Hp → VK → Prop := fun vs H Q => ∃ (a : Addr) (S : Int → Bool) (n : Nat), vs = [V.ref a] ∧ H a = some (SetO w a S n) ∧ n ≤ 4000 ∧
  ∀ (ns : List Int) (p : Addr), ns.Pairwise (· < ·) → (∀ k : Int, k ∈ ns ↔ S k = true) → ns.length = n → H p = none → Q (.ref p) (upd H p (.lst (ns.map V.int)))
theorem cr_sortedSetN {w : World} (e2 : X.w = w) (hc : X.calm = true) (hu : X.A.units + 66 < cLine) : CallR X (.builtin "sorted") (rSortedSetN w) := by
  subst e2
  intro pins s σ H vs us Q I r h
  obtain ⟨a, S, n, rfl, ha, h64, q⟩ := h
  have R := setO_get I ha
  rw [Vals.ref1 r]
  refine sorted_setN R (I.ok.hd hc) hu h64 fun s' p out c ns k g o hp hg hi hs hm hl => ?_
  have hlen : (ns.map V.int).length ≤ sizeLine := by rw [List.length_map, hl, sizeLine_eq]; omega
  have hn : H p = none := I.hok.fresh hp
  have J : Inv X pins σ (upd H p (.lst (ns.map V.int))) { s with heap := s'.heap, gens := s'.gens, drawn := s'.drawn, toks := s'.toks } :=
    I.call (ch := []) (Un.laid k hp hn) (I.hok.laid k hp ⟨hlen, out.toList, c, vals_of_ints hi, hg⟩) (by rw [g]; exact I.bare) (fun _ z => nomatch z)
  have e : s' = { s with heap := s'.heap, gens := s'.gens, drawn := s'.drawn, toks := s'.toks } := by
    cases s'
    cases s
    cases o
    rfl
  rw [e]
  exact ⟨.ref p, _, J, rfl, q ns p hs hm hl hn⟩
/-- set(xs), xs a list of up to 4000 ints -/
def rSetLj (K : PySem.W.Frag) (w : World) : List V → Hp → VK → Prop := fun xs H Q => ∃ (l : Addr) (ns : List Int), xs = [.ref l] ∧ SqL K H l (ns.map V.int) ∧ ns.length < 200 ∧ ∀ p c, H p = none → c ≤ ns.length → Q (.ref p) (upd H p (SetO w p (fun j => decide (j ∈ ns)) c))
theorem cr_setLjK {K : PySem.W.Frag} {w : World} (e : X.K = K) (e2 : X.w = w) (hc : X.calm = true) : CallR X (.type "set") (rSetLj K w) := by
  subst e e2
  intro pins s σ H vs us Q I r h
  obtain ⟨l, ns, rfl, hl, h60, q⟩ := h
  rw [Vals.ref1 r]
  obtain ⟨its, rv, p, hz⟩ := I.list hl
  refine lset_call ns (I.ok.hd hc) p.isList (by rw [List.toList_toArray]; exact ints_of_vals rv) (by unfold scanBound; omega) fun h' tk c R hcn k => ?_
  exact ⟨.ref _, _, I.laid (t' := tk) k (Nat.le_refl _) (setO_new R), rfl, q _ _ (I.hok.fresh (Nat.le_refl _)) hcn⟩
end
end L2
namespace Fv
open PySem PySem.Spec L2
/-- x in d, d a dict -/
def rInDk : R2 := fun x y H Q => ∃ a o, y = .ref a ∧ DGet H a x o ∧ Q (.bl o.isSome) H
theorem op_inDK {X : Cx} (hu : X.A.units + 1 < cLine) : OpR X (compareOp .In) rInDk := by
  intro pins s σ H x y v u Q I rx ry h
  obtain ⟨a, o, rfl, g, q⟩ := h
  cases ry
  exact d_in hu I g rx fun s3 I3 => ⟨.bl o.isSome, H, I3, rfl, q⟩
theorem kdl_none : ∀ {k : Nat} {xs : List V} {j : Nat}, j < k → valV (kdl k xs) (Sum.inl ((j : Nat) : Int)) = none
  | _, [], _, _ => rfl
  | k, x :: r, j, h => by
    show valV ((Sum.inl ((k : Nat) : Int), x) :: kdl (k + 1) r) _ = none
    rw [valV_neg (by intro z; have := Sum.inl.inj z; omega)]
    exact kdl_none (by omega)
theorem dgetN0 {H : Hp} {d : Addr} {xs : List V} (h : Rd H d (.dK (kdl 1 xs))) : DGet H d (.int ((0 : Nat) : Int)) none := .inl ⟨_, Sum.inl _, h, rfl, (kdl_none (by omega)).symm⟩
theorem x_inDT {H : Hp} {Q : VK} {a : Addr} {x v : V} (g : DGet H a x (some v)) (q : Q (.bl true) H) : rInDk x (.ref a) H Q := ⟨a, _, rfl, g, q⟩
theorem x_inDF {H : Hp} {Q : VK} {a : Addr} {x : V} (g : DGet H a x none) (q : Q (.bl false) H) : rInDk x (.ref a) H Q := ⟨a, _, rfl, g, q⟩
theorem x_inD {H : Hp} {Q : VK} {a : Addr} {x : V} {o : Option V} (g : DGet H a x o) (q : Q (.bl o.isSome) H) : rInDk x (.ref a) H Q := ⟨a, o, rfl, g, q⟩
end Fv
/-! words that can stand; nothing of the program here -/
namespace Fv
open PySem PySem.Spec L2
def upOk (us : List (Option Nat)) (b : Nat) (k : List Nat) : Bool := match us[b - 1]? with
  | some (some q) => decide (q ∈ k)
  | _ => true
def colOk (k : List Nat) (p : Nat) : Option Bool → Bool
  | none => true
  | some true => decide (p ∈ k)
  | some false => !decide (k = [p])
def canCols (k : List Nat) : Nat → List (Option Bool) → Bool
  | _, [] => true
  | p, o :: r => colOk k p o && canCols k (p + 1) r
theorem canCols_snoc (k : List Nat) : ∀ (p : Nat) (c : List (Option Bool)) (o : Option Bool), canCols k p (c ++ [o]) = (canCols k p c && colOk k (p + c.length) o)
  | p, [], o => by
    show (colOk k p o && true) = (true && colOk k (p + 0) o)
    simp
  | p, x :: r, o => by
    show (colOk k p x && canCols k (p + 1) (r ++ [o])) = (colOk k p x && canCols k (p + 1) r && colOk k (p + (r.length + 1)) o)
    rw [canCols_snoc, Bool.and_assoc, show p + 1 + r.length = p + (r.length + 1) by omega]
theorem canCols_take {k : List Nat} {c : List (Option Bool)} {i : Nat} {o : Option Bool} (h : c[i]? = some o) : canCols k 0 (c.take (i + 1)) = (canCols k 0 (c.take i) && colOk k i o) := by
  rw [List.take_add_one, h]
  show canCols k 0 (c.take i ++ [o]) = _
  have l : i < c.length := (List.getElem?_eq_some_iff.mp h).1
  rw [canCols_snoc, List.length_take, Nat.zero_add, Nat.min_eq_left (by omega)]
theorem canCols_no {k : List Nat} : ∀ {p : Nat} {c : List (Option Bool)} {i : Nat} {o : Option Bool}, c[i]? = some o → colOk k (p + i) o = false → canCols k p c = false
  | _, [], _, _, h, _ => by cases h
  | p, x :: r, 0, o, h, q => by
    cases h
    show (colOk k p x && _) = false
    rw [show colOk k p x = false from q]
    rfl
  | p, x :: r, i + 1, o, h, q => by
    show (colOk k p x && canCols k (p + 1) r) = false
    rw [canCols_no (p := p + 1) (i := i) h (by rw [show p + 1 + i = p + (i + 1) by omega]; exact q), Bool.and_false]
def canB (us : List (Option Nat)) (ls : List (List (Option Bool))) (b : Nat) (k : List Nat) : Bool := upOk us b k && canCols k 0 (col ls b)
def standsN (us : List (Option Nat)) (ls : List (List (Option Bool))) (ks : List (List Nat)) : List Bool := (List.range ks.length).map fun i => canB us ls (i + 1) (ks.getD i [])
/-- the worths of a list bit -/
def worthL (k : List Nat) (p : Nat) : List Bool := (if p ∈ k then [true] else []) ++ (if ¬ p ∈ k ∨ 1 < k.length then [false] else [])
theorem one_is {k : List Nat} {p : Nat} (h : p ∈ k) (l : ¬ 1 < k.length) : k = [p] := by
  match k, h, l with
  | [x], h, _ => rw [List.mem_singleton.mp h]
  | x :: y :: r, _, l => exact absurd (show 1 < r.length + 1 + 1 by omega) l
theorem colOk_worth {k : List Nat} {p : Nat} (f : Bool) : colOk k p (some f) = decide (f ∈ worthL k p) := by
  unfold worthL
  cases f with
  | true =>
    show decide (p ∈ k) = _
    rw [decide_eq_decide]
    by_cases h : p ∈ k
    · simp [h]
    · simp [h]
  | false =>
    show (!decide (k = [p])) = _
    by_cases h : k = [p]
    · subst h
      simp
    · rw [decide_eq_false h]
      refine (decide_eq_true ?_).symm
      rw [List.mem_append]
      refine .inr ?_
      by_cases c : ¬ p ∈ k ∨ 1 < k.length
      · rw [if_pos c]
        exact List.mem_singleton.mpr rfl
      · have c1 : p ∈ k := Classical.not_not.mp fun z => c (.inl z)
        exact absurd (one_is c1 fun z => c (.inr z)) h
theorem worthL_pos {k : List Nat} {p : Nat} : 1 ≤ (worthL k p).length := by
  unfold worthL
  by_cases h : p ∈ k
  · rw [if_pos h]
    simp
  · simp [h]
/-! how many -/
def manyN : List (List Nat) → Nat
  | [] => 1
  | k :: r => (if 1 < k.length then k.length * 2 ^ k.length else 1) * manyN r
def manyF (k : List Nat) : Nat := if 1 < k.length then k.length * 2 ^ k.length else 1
theorem manyN_snoc : ∀ (l : List (List Nat)) (k : List Nat), manyN (l ++ [k]) = manyN l * manyF k
  | [], k => by
    show manyF k * 1 = 1 * manyF k
    omega
  | x :: r, k => by
    show manyF x * manyN (r ++ [k]) = manyF x * manyN r * manyF k
    rw [manyN_snoc r k, Nat.mul_assoc]
theorem manyN_take {l : List (List Nat)} {i : Nat} {k : List Nat} (h : l[i]? = some k) : manyN (l.take (i + 1)) = manyN (l.take i) * manyF k := by
  rw [List.take_add_one, h]
  exact manyN_snoc _ _
theorem shl_small {k : Nat} (h : k ≤ 41) : k * 2 ^ k < 2 ^ 64 := by
  have h1 : 2 ^ k ≤ 2 ^ 41 := Nat.pow_le_pow_right (by decide) h
  have h2 : k * 2 ^ k ≤ 41 * 2 ^ 41 := Nat.mul_le_mul h h1
  exact Nat.lt_of_le_of_lt h2 (by decide)
/-- the product of f over i, i + 1, .. n of them -/
def prodR (f : Nat → Nat) : Nat → Nat
  | 0 => 1
  | n + 1 => prodR f n * f n
theorem prodR_mul (f g : Nat → Nat) : ∀ n, prodR (fun i => f i * g i) n = prodR f n * prodR g n
  | 0 => rfl
  | n + 1 => by
    show prodR (fun i => f i * g i) n * (f n * g n) = prodR f n * f n * (prodR g n * g n)
    rw [prodR_mul f g n, Nat.mul_assoc, Nat.mul_assoc, Nat.mul_left_comm (prodR g n)]
theorem prodR_one : ∀ n, prodR (fun _ => 1) n = 1
  | 0 => rfl
  | n + 1 => by
    show prodR (fun _ => 1) n * 1 = 1
    rw [prodR_one n]
theorem prodR_congr {f g : Nat → Nat} : ∀ {n : Nat}, (∀ i, i < n → f i = g i) → prodR f n = prodR g n
  | 0, _ => rfl
  | n + 1, h => by
    show prodR f n * f n = prodR g n * g n
    rw [prodR_congr fun i hi => h i (by omega), h n (by omega)]
theorem prodR_swap (f : Nat → Nat → Nat) (m : Nat) : ∀ n, prodR (fun i => prodR (fun j => f i j) m) n = prodR (fun j => prodR (fun i => f i j) n) m
  | 0 => (prodR_one m).symm
  | n + 1 => by
    show prodR (fun i => prodR (fun j => f i j) m) n * prodR (fun j => f n j) m = prodR (fun j => prodR (fun i => f i j) n * f n j) m
    rw [prodR_swap f m n, prodR_mul]
/-- two to the number of those below n that are in k -/
theorem prodR_two (q : Nat → Bool) : ∀ n, prodR (fun p => if q p = true then 2 else 1) n = 2 ^ ((List.range n).filter q).length
  | 0 => rfl
  | n + 1 => by
    show prodR (fun p => if q p = true then 2 else 1) n * (if q n = true then 2 else 1) = _
    rw [prodR_two q n, List.range_succ, List.filter_append, List.length_append]
    by_cases h : q n = true
    · rw [if_pos h, List.filter_cons_of_pos h]
      show _ = 2 ^ (_ + 1)
      rw [Nat.pow_succ]
    · rw [if_neg h, List.filter_cons_of_neg h]
      show _ * 1 = 2 ^ (_ + 0)
      rw [Nat.mul_one, Nat.add_zero]
theorem worth_prod {n : Nat} {k : List Nat} (h1 : 1 ≤ k.length) (a : k.Pairwise (· < ·)) (h : ∀ p ∈ k, p ≤ n) : k.length * prodR (fun p => (worthL k p).length) (n + 1) = if 1 < k.length then k.length * 2 ^ k.length else 1 := by
  by_cases c : 1 < k.length
  · rw [if_pos c, prodR_congr (g := fun p => if decide (p ∈ k) = true then 2 else 1) fun p _ => ?_, prodR_two]
    · have e : (List.range (n + 1)).filter (fun p => decide (p ∈ k)) = hadL n k := rfl
      have l : (hadL n k).length = k.length := by
        have e2 : intsN k = intsN (hadL n k) := hadL_only h (List.Pairwise.map _ (fun a b (c : a < b) => Int.ofNat_lt.mpr c) a) fun z => by rw [decide_eq_true_iff]
        have e3 := congrArg List.length e2
        rw [intsN_len, intsN_len] at e3
        exact e3.symm
      rw [e, l]
    · unfold worthL
      by_cases m : p ∈ k
      · simp [m, c]
      · simp [m]
  · rw [if_neg c, prodR_congr (g := fun _ => 1) fun p _ => ?_, prodR_one]
    · omega
    · unfold worthL
      by_cases m : p ∈ k
      · simp [m, c]
      · simp [m]
theorem manyN_prod : ∀ (ks : List (List Nat)), manyN ks = prodR (fun i => if 1 < (ks.getD i []).length then (ks.getD i []).length * 2 ^ (ks.getD i []).length else 1) ks.length
  | [] => rfl
  | k :: r => by
    have go : ∀ (f : Nat → Nat) (n : Nat), prodR f (n + 1) = f 0 * prodR (fun i => f (i + 1)) n := fun f n => by
      induction n with
      | zero => show 1 * f 0 = f 0 * 1; omega
      | succ n ih =>
        show prodR f (n + 1) * f (n + 1) = f 0 * (prodR (fun i => f (i + 1)) n * f (n + 1))
        rw [ih, Nat.mul_assoc]
    show _ * manyN r = prodR _ (r.length + 1)
    rw [go, manyN_prod r]
    rfl
/-- the law's product -/
def allN (n : Nat) (ks : List (List Nat)) : Nat := prodR (fun i => (ks.getD i []).length) ks.length * prodR (fun p => prodR (fun i => (worthL (ks.getD i []) p).length) ks.length) (n + 1)
theorem allN_many {n : Nat} {ks : List (List Nat)} (h : KnownOk n ks) : allN n ks = manyN ks := by
  unfold allN
  rw [← prodR_swap (fun i p => (worthL (ks.getD i []) p).length) (n + 1), ← prodR_mul, manyN_prod]
  refine prodR_congr fun i hi => ?_
  have g := List.getElem?_eq_getElem hi
  obtain ⟨q1, q2, q3⟩ := h.at_ i _ g
  have e : ks.getD i [] = ks[i] := by rw [List.getD_eq_getElem?_getD, g]; rfl
  rw [e]
  exact worth_prod q1 q2 fun p hp => (q3 p hp).1
end Fv
/-! blocks whose places all come earlier: layer by layer; nothing of the program here -/
namespace Fv
open PySem PySem.Spec L2
/-- all places of block b are in d -/
def allIn (ks : List (List Nat)) (d : List Nat) (b : Nat) : Bool := (ks.getD (b - 1) []).all fun p => decide (p ∈ d)
def readyL (ks : List (List Nat)) (d : List Nat) : List Nat := (List.range' 1 ks.length).filter fun b => !decide (b ∈ d) && allIn ks d b
def itL (ks : List (List Nat)) : Nat → List Nat
  | 0 => [0]
  | t + 1 => itL ks t ++ readyL ks (itL ks t)
theorem readyL_mem {ks : List (List Nat)} {d : List Nat} {b : Nat} : b ∈ readyL ks d ↔ (1 ≤ b ∧ b ≤ ks.length) ∧ b ∉ d ∧ allIn ks d b = true := by
  unfold readyL
  rw [List.mem_filter, List.mem_range', Bool.and_eq_true]
  constructor
  · rintro ⟨⟨i, hi, rfl⟩, h1, h2⟩
    refine ⟨by omega, ?_, h2⟩
    intro m
    rw [decide_eq_true m] at h1
    cases h1
  · rintro ⟨⟨h1, h2⟩, h3, h4⟩
    refine ⟨⟨b - 1, by omega, by omega⟩, ?_, h4⟩
    rw [decide_eq_false h3]
    rfl
theorem itL_le {ks : List (List Nat)} : ∀ {t : Nat} {b : Nat}, b ∈ itL ks t → b ≤ ks.length
  | 0, b, h => by
    rw [List.mem_singleton.mp h]
    omega
  | t + 1, b, h => by
    rcases List.mem_append.mp h with h | h
    · exact itL_le h
    · exact (readyL_mem.1 h).1.2
theorem itL_nodup (ks : List (List Nat)) : ∀ t, (itL ks t).Nodup
  | 0 => by simp [itL]
  | t + 1 => by
    refine List.nodup_append.mpr ⟨itL_nodup ks t, ?_, fun a ha b hb e => ?_⟩
    · exact List.Pairwise.filter _ List.nodup_range'
    · subst e
      exact (readyL_mem.1 hb).2.1 ha
theorem itL_zero (ks : List (List Nat)) : ∀ t, 0 ∈ itL ks t
  | 0 => List.mem_singleton.mpr rfl
  | t + 1 => List.mem_append_left _ (itL_zero ks t)
theorem nd_len : ∀ {l m : List Nat}, l.Nodup → (∀ x ∈ l, x ∈ m) → l.length ≤ m.length
  | [], _, _, _ => Nat.zero_le _
  | a :: l, m, nd, h => by
    obtain ⟨n1, n2⟩ := List.nodup_cons.mp nd
    have ha := h a List.mem_cons_self
    have ih := nd_len (m := m.erase a) n2 fun x hx => (List.mem_erase_of_ne (fun (e : x = a) => n1 (e ▸ hx))).mpr (h x (List.mem_cons_of_mem _ hx))
    rw [List.length_erase_of_mem ha] at ih
    have := List.length_pos_of_mem ha
    show l.length + 1 ≤ m.length
    omega
/-- numbers up to n, each once: at most n + 1 of them -/
theorem nodup_small : ∀ {n : Nat} {l : List Nat}, l.Nodup → (∀ b ∈ l, b ≤ n) → l.length ≤ n + 1 := fun {n l} nd h => by
  have s : l ⊆ List.range (n + 1) := fun b hb => List.mem_range.mpr (by have := h b hb; omega)
  have := nd_len nd s
  rw [List.length_range] at this
  exact this
theorem itL_len (ks : List (List Nat)) (t : Nat) : (itL ks t).length ≤ ks.length + 1 := nodup_small (itL_nodup ks t) fun b hb => itL_le hb
theorem itL_stay {ks : List (List Nat)} {t : Nat} (h : readyL ks (itL ks t) = []) : ∀ j, itL ks (t + j) = itL ks t
  | 0 => rfl
  | j + 1 => by
    show itL ks (t + j) ++ readyL ks (itL ks (t + j)) = _
    rw [itL_stay h j, h, List.append_nil]
/-- as long as something is ready, each layer has one block at least -/
theorem itL_grow {ks : List (List Nat)} : ∀ t, (∀ s, s < t → readyL ks (itL ks s) ≠ []) → t + 1 ≤ (itL ks t).length
  | 0, _ => Nat.le_refl _
  | t + 1, h => by
    have ih := itL_grow t fun s hs => h s (by omega)
    have := List.length_pos_iff.mpr (h t (by omega))
    show t + 1 + 1 ≤ (itL ks t ++ _).length
    rw [List.length_append]
    omega
theorem itL_end (ks : List (List Nat)) : ∃ t, t ≤ ks.length ∧ readyL ks (itL ks t) = [] := by
  refine Classical.byContradiction fun no => ?_
  have := itL_grow (ks := ks) (ks.length + 1) fun s hs e => no ⟨s, by omega, e⟩
  have := itL_len ks (ks.length + 1)
  omega
theorem itL_last {ks : List (List Nat)} {t : Nat} (ht : t ≤ ks.length) (h : readyL ks (itL ks t) = []) : itL ks t = itL ks ks.length := by
  have := itL_stay h (ks.length - t)
  rw [show t + (ks.length - t) = ks.length by omega] at this
  exact this.symm
theorem itL_done (ks : List (List Nat)) : readyL ks (itL ks ks.length) = [] := by
  obtain ⟨t, ht, e⟩ := itL_end ks
  rw [← itL_last ht e]
  exact e
/-- each layer more: t never goes beyond the blocks -/
theorem itL_turns {ks : List (List Nat)} {t : Nat} (h : ∀ s, s < t → readyL ks (itL ks s) ≠ []) : t ≤ ks.length := by
  have := itL_grow t h
  have := itL_len ks t
  omega
/-- no block is left out -/
theorem itL_full {ks : List (List Nat)} (h : ks.length < (itL ks ks.length).length) {b : Nat} (hb : b ≤ ks.length) : b ∈ itL ks ks.length := by
  refine Classical.byContradiction fun no => ?_
  have s : b :: itL ks ks.length ⊆ List.range (ks.length + 1) := fun c hc => by
    rcases List.mem_cons.mp hc with rfl | hc
    · exact List.mem_range.mpr (by omega)
    · exact List.mem_range.mpr (by have := itL_le hc; omega)
  have := nd_len (List.nodup_cons.mpr ⟨no, itL_nodup ks _⟩) s
  rw [List.length_range, List.length_cons] at this
  omega
theorem itL_some {ks : List (List Nat)} (h : ¬ ks.length < (itL ks ks.length).length) : ∃ b, 1 ≤ b ∧ b ≤ ks.length ∧ b ∉ itL ks ks.length := by
  refine Classical.byContradiction fun no => ?_
  have s : List.range (ks.length + 1) ⊆ itL ks ks.length := fun c hc => by
    refine Classical.byContradiction fun nc => no ⟨c, ?_, ?_, nc⟩
    · rcases Nat.eq_zero_or_pos c with e | e
      · subst e
        exact (nc (itL_zero ks _)).elim
      · exact e
    · have := List.mem_range.mp hc
      omega
  have := nd_len List.nodup_range s
  rw [List.length_range] at this
  omega
/-- what is left out has a place that is left out -/
theorem left_out {ks : List (List Nat)} {b : Nat} (h1 : 1 ≤ b) (h2 : b ≤ ks.length) (h3 : b ∉ itL ks ks.length) : ∃ p, p ∈ ks.getD (b - 1) [] ∧ p ∉ itL ks ks.length := by
  refine Classical.byContradiction fun no => ?_
  have : b ∈ readyL ks (itL ks ks.length) := readyL_mem.2 ⟨⟨h1, h2⟩, h3, List.all_eq_true.mpr fun p hp => decide_eq_true (Classical.byContradiction fun n2 => no ⟨p, hp, n2⟩)⟩
  rw [itL_done] at this
  cases this
/-- hung where one's places say, each block comes to the head in as many steps as its layer -/
theorem itL_pick {ks : List (List Nat)} {g : List Nat} (hl : g.length = ks.length) (hg : ∀ i p, g[i]? = some p → p ∈ ks.getD i []) : ∀ t b, b ∈ itL ks t → ∀ s, t ≤ s → upN g s b = 0
  | 0, b, h, s, _ => by
    rw [List.mem_singleton.mp h]
    exact upN_zero g s
  | t + 1, b, h, s, hs => by
    rcases List.mem_append.mp h with h | h
    · exact itL_pick hl hg t b h s (by omega)
    · obtain ⟨⟨b1, b2⟩, _, b3⟩ := readyL_mem.1 h
      obtain ⟨s', rfl⟩ : ∃ s', s = s' + 1 := ⟨s - 1, by omega⟩
      show upN g s' (up g b) = 0
      have hi : b - 1 < g.length := by omega
      have e : up g b = g[b - 1] := by
        unfold up
        rw [if_neg (by omega), List.getD_eq_getElem?_getD, List.getElem?_eq_getElem hi]
        rfl
      rw [e]
      have m := hg (b - 1) _ (List.getElem?_eq_getElem hi)
      exact itL_pick hl hg t _ (of_decide_eq_true (List.all_eq_true.mp b3 _ m)) s' (by omega)
end Fv
/-! a cut anywhere: the places that a vote names were had; nothing of the program here -/
namespace Fv
open PySem PySem.Spec L2
theorem canCols_at {k : List Nat} : ∀ {p : Nat} {c : List (Option Bool)} {i : Nat} {o : Option Bool}, canCols k p c = true → c[i]? = some o → colOk k (p + i) o = true
  | _, [], _, _, _, h => by cases h
  | p, x :: r, 0, o, h, e => by
    cases e
    have h2 : (colOk k p x && canCols k (p + 1) r) = true := h
    rw [Bool.and_eq_true] at h2
    exact h2.1
  | p, x :: r, i + 1, o, h, e => by
    have h2 : (colOk k p x && canCols k (p + 1) r) = true := h
    rw [Bool.and_eq_true] at h2
    have := canCols_at (i := i) h2.2 e
    rw [show p + 1 + i = p + (i + 1) by omega] at this
    exact this
theorem cut_had {n b q : Nat} {us : List (Option Nat)} {ls : List (List (Option Bool))} {k : List Nat} (ok : WdOk n us ls) (can : canB us ls b k = true) (b1 : 1 ≤ b) (b2 : b ≤ n) (up : ∃ p, us[b - 1]? = some (some p)) (bit : (col ls b)[q]? ≠ some none) (hq : q ≤ n) (nq : q ∉ k) :
    ∃ p, p ∈ k ∧ p ≤ n ∧ p ≠ b ∧ costN us ls b p < costN us ls b q := by
  obtain ⟨p, hp⟩ := up
  unfold canB at can
  rw [Bool.and_eq_true] at can
  obtain ⟨c1, c2⟩ := can
  have pk : p ∈ k := by
    unfold upOk at c1
    rw [hp] at c1
    exact of_decide_eq_true c1
  obtain ⟨p1, p2⟩ := ok.uo (b - 1) p hp
  have cl : (col ls b).length = n + 1 := by rw [col_len, ok.ll]
  have npq : p ≠ q := fun e => nq (e ▸ pk)
  refine ⟨p, pk, p1, by omega, ?_⟩
  have uq : up1 us b q = 1 := by
    unfold up1
    rw [hp]
    show (if p = q then 0 else 1) = 1
    rw [if_neg npq]
  have upp : up1 us b p = 0 := by
    unfold up1
    rw [hp]
    show (if p = p then 0 else 1) = 0
    rw [if_pos rfl]
  have hq2 : q < (col ls b).length := by omega
  have hp2 : p < (col ls b).length := by omega
  have eq := List.getElem?_eq_getElem hq2
  have fq : (col ls b)[q]? = some (some false) := by
    cases h : (col ls b)[q] with
    | none => rw [h] at eq; exact (bit eq).elim
    | some f =>
      rw [h] at eq
      cases f with
      | false => exact eq
      | true =>
        have := canCols_at c2 eq
        rw [Nat.zero_add] at this
        exact (nq (of_decide_eq_true this)).elim
  have sq := sumW_at q 0 (col ls b) (Nat.zero_le _) (by omega)
  have sp := sumW_at p 0 (col ls b) (Nat.zero_le _) (by omega)
  rw [Nat.sub_zero, fq] at sq
  rw [Nat.sub_zero] at sp
  unfold costN
  rw [uq, upp]
  have sq2 : sumW q 0 (col ls b) + 0 = trueN (col ls b) + 1 := sq
  have : (if (col ls b)[p]? = some (some false) then 1 else 0) ≤ 1 := by split <;> decide
  omega
/-- the places that a vote names were had -/
theorem vote_had {n b m q : Nat} {us : List (Option Nat)} {ls : List (List (Option Bool))} {k : List Nat} (ok : WdOk n us ls) (can : canB us ls b k = true) (b1 : 1 ≤ b) (b2 : b ≤ n) (up : ∃ p, us[b - 1]? = some (some p)) (bit : ∀ q : Nat, (col ls b)[q]? ≠ some none) (mi : MinIs us ls n b m) (hq : q ∈ plN us ls b m (n + 1)) : q ∈ k := by
  unfold plN at hq
  obtain ⟨h1, h2⟩ := List.mem_filter.mp hq
  rw [Bool.and_eq_true, decide_eq_true_eq, decide_eq_true_eq] at h2
  have hn := List.mem_range.mp h1
  refine Classical.byContradiction fun no => ?_
  obtain ⟨p, _, p1, p2, lt⟩ := cut_had ok can b1 b2 up (bit q) (by omega) no
  have := mi.all p p1 p2
  omega
theorem filter_one (x : Nat) : ∀ k, (List.range k).filter (fun p => decide (p = x)) = if x < k then [x] else []
  | 0 => rfl
  | k + 1 => by
    rw [List.range_succ, List.filter_append, filter_one x k]
    by_cases c : k = x
    · subst c
      rw [if_neg (Nat.lt_irrefl _), if_pos (Nat.lt_succ_self _)]
      simp
    · rw [show [k].filter (fun p => decide (p = x)) = [] by simp [c]]
      by_cases d : x < k
      · rw [if_pos d, if_pos (by omega)]
        rfl
      · rw [if_neg d, if_neg (by omega)]
        rfl
/-- right words: each block's vote is its place alone, at no cost -/
theorem right_votes {hs : List Nat} (t : IsTree hs) {b : Nat} (b1 : 1 ≤ b) (b2 : b ≤ hs.length) : MinIs (rightU hs) (rightL hs) hs.length b 0 ∧ plN (rightU hs) (rightL hs) b 0 (hs.length + 1) = [up hs b] := by
  have hb := upN_le t.le 1 b b2
  have ul : up hs b ≤ hs.length := hb
  have ne : up hs b ≠ b := no_ring t (k := b) (m := 1) b2 (by omega) (Nat.le_refl _)
  have c0 : ∀ p, p ≤ hs.length → (costN (rightU hs) (rightL hs) b p = 0 ↔ up hs b = p) := fun p hp => by
    rw [right_cost t b1 b2 hp]
    by_cases e : up hs b = p
    · rw [if_pos e]
      exact ⟨fun _ => e, fun _ => rfl⟩
    · rw [if_neg e]
      exact ⟨(fun h => by cases h), fun h => (e h).elim⟩
  refine ⟨⟨⟨up hs b, ul, ne, (c0 _ ul).2 rfl⟩, fun p _ _ => Nat.zero_le _⟩, ?_⟩
  unfold plN
  have e : (List.range (hs.length + 1)).filter (fun p => decide (p ≠ b) && decide (costN (rightU hs) (rightL hs) b p = 0)) = (List.range (hs.length + 1)).filter (fun p => decide (p = up hs b)) := by
    refine List.filter_congr fun p hp => ?_
    have hp := List.mem_range.mp hp
    rw [Bool.eq_iff_iff, Bool.and_eq_true, decide_eq_true_eq, decide_eq_true_eq, decide_eq_true_eq, c0 p (by omega)]
    exact ⟨fun h => h.2.symm, fun h => ⟨fun z => ne (by omega), h.symm⟩⟩
  rw [e, filter_one, if_pos (by omega)]
end Fv
/-! rings among what is left out; the places of now were had; nothing of the program here -/
namespace Fv
open PySem PySem.Spec L2
/-- the place of l that is left out, the least -/
def leastOut (d l : List Nat) : Option Nat := (l.filter fun p => !decide (p ∈ d)).head?
structure RingOk (ks : List (List Nat)) (r : List Nat) : Prop where
  pos : 1 ≤ r.length
  nd : r.Nodup
  rng : ∀ b ∈ r, 1 ≤ b ∧ b ≤ ks.length
  tie : ∀ i b, r[i]? = some b → (r.getD ((i + 1) % r.length) 0) ∈ ks.getD (b - 1) []
/-- a way of blocks that are left out, each next one a place of the one before -/
structure WayOk (ks : List (List Nat)) (d w : List Nat) : Prop where
  pos : 1 ≤ w.length
  rng : ∀ b ∈ w, 1 ≤ b ∧ b ≤ ks.length ∧ b ∉ d
  tie : ∀ i b c, w[i]? = some b → w[i + 1]? = some c → c ∈ ks.getD (b - 1) []
theorem WayOk.snoc {ks : List (List Nat)} {d w : List Nat} {l p : Nat} (h : WayOk ks d w) (hl : w[w.length - 1]? = some l) (hp : p ∈ ks.getD (l - 1) []) (p1 : 1 ≤ p) (p2 : p ≤ ks.length) (p3 : p ∉ d) : WayOk ks d (w ++ [p]) := by
  refine ⟨by rw [List.length_append, List.length_singleton]; omega, fun b hb => ?_, fun i b c e1 e2 => ?_⟩
  · rcases List.mem_append.mp hb with hb | hb
    · exact h.rng b hb
    · rw [List.mem_singleton.mp hb]
      exact ⟨p1, p2, p3⟩
  · have hi2 := (List.getElem?_eq_some_iff.mp e2).1
    rw [List.length_append, List.length_singleton] at hi2
    have ws := h.pos
    by_cases c1 : i + 1 < w.length
    · rw [List.getElem?_append_left (by omega)] at e1
      rw [List.getElem?_append_left c1] at e2
      exact h.tie i b c e1 e2
    · have e : i = w.length - 1 := by omega
      rw [List.getElem?_append_left (by omega)] at e1
      rw [List.getElem?_append_right (by omega), show i + 1 - w.length = 0 by omega] at e2
      have e3 : p = c := Option.some.inj e2
      subst e3
      subst e
      rw [hl] at e1
      cases e1
      exact hp
/-- the way closed: from the first place of its last block -/
theorem way_ring {ks : List (List Nat)} {d w : List Nat} {l i : Nat} (h : WayOk ks d (w ++ [l])) (nd : w.Nodup) (hi : w[i]? = some l) : RingOk ks (w.drop i) := by
  have il := (List.getElem?_eq_some_iff.mp hi).1
  have dl : (w.drop i).length = w.length - i := List.length_drop ..
  refine ⟨by omega, (List.drop_sublist i w).nodup nd, fun b hb => ?_, fun j b hb => ?_⟩
  · have := h.rng b (List.mem_append_left _ (List.mem_of_mem_drop hb))
    exact ⟨this.1, this.2.1⟩
  · have hj := (List.getElem?_eq_some_iff.mp hb).1
    rw [List.getElem?_drop] at hb
    by_cases c : j + 1 < (w.drop i).length
    · rw [Nat.mod_eq_of_lt c, show (w.drop i).getD (j + 1) 0 = ((w.drop i)[j + 1]?).getD 0 from List.getD_eq_getElem?_getD .., List.getElem?_drop]
      have lt : i + (j + 1) < w.length := by omega
      refine h.tie (i + j) b _ (by rw [List.getElem?_append_left (by omega)]; exact hb) ?_
      rw [show i + j + 1 = i + (j + 1) by omega, List.getElem?_append_left lt, List.getElem?_eq_getElem lt]
      rfl
    · have e : j + 1 = (w.drop i).length := by omega
      rw [e, Nat.mod_self, show (w.drop i).getD 0 0 = ((w.drop i)[0]?).getD 0 from List.getD_eq_getElem?_getD .., List.getElem?_drop, Nat.add_zero, hi]
      refine h.tie (i + j) b l (by rw [List.getElem?_append_left (by omega)]; exact hb) ?_
      rw [List.getElem?_append_right (by omega), show i + j + 1 - w.length = 0 by omega]
      rfl
theorem way_end {ks : List (List Nat)} {d w : List Nat} (h : WayOk ks d w) (nd : w.Nodup) : w.length ≤ ks.length := by
  have s : ∀ x ∈ w, x ∈ List.range' 1 ks.length := fun x hx => List.mem_range'.mpr ⟨x - 1, by have := h.rng x hx; omega, by have := h.rng x hx; omega⟩
  have := nd_len nd s
  rwa [List.length_range'] at this
/-! the ring's ties laid over places that were had -/
def nxt (r : List Nat) (i : Nat) : Nat := r.getD ((i + 1) % r.length) 0
theorem rot_get {r : List Nat} {i : Nat} (hi : i < r.length) : (r.drop 1 ++ r.take 1)[i]? = some (nxt r i) := by
  unfold nxt
  rw [List.getD_eq_getElem?_getD]
  by_cases c : i + 1 < r.length
  · rw [List.getElem?_append_left (by rw [List.length_drop]; omega), List.getElem?_drop, Nat.mod_eq_of_lt c, show 1 + i = i + 1 by omega, List.getElem?_eq_getElem c]
    rfl
  · have e : i + 1 = r.length := by omega
    rw [List.getElem?_append_right (by rw [List.length_drop]; omega), List.length_drop, show i - (r.length - 1) = 0 by omega, e, Nat.mod_self, List.getElem?_take, if_pos (by decide), List.getElem?_eq_getElem (show 0 < r.length by omega)]
    rfl
theorem rot_len (r : List Nat) (h : 1 ≤ r.length) : (r.drop 1 ++ r.take 1).length = r.length := by
  rw [List.length_append, List.length_drop, List.length_take]
  omega
/-- places that were had -/
def HadIn (ks : List (List Nat)) (us : List Nat) : Prop := us.length = ks.length ∧ ∀ i u, us[i]? = some u → u ∈ ks.getD i []
theorem HadIn.set {ks : List (List Nat)} {us : List Nat} {b p : Nat} (h : HadIn ks us) (hp : p ∈ ks.getD (b - 1) []) : HadIn ks (us.set (b - 1) p) := by
  refine ⟨by rw [List.length_set]; exact h.1, fun i u e => ?_⟩
  rw [List.getElem?_set] at e
  split at e
  · rename_i c
    subst c
    split at e
    · cases e
      exact hp
    · cases e
  · exact h.2 i u e
theorem hadIn_up {ks : List (List Nat)} {us : List Nat} {n : Nat} (ko : KnownOk n ks) (h : HadIn ks us) : ∀ b q, us[b]? = some q → q ≤ us.length ∧ q ≠ b + 1 := fun b q e => by
  have m := h.2 b q e
  have hb : b < ks.length := by
    have := (List.getElem?_eq_some_iff.mp e).1
    rw [h.1] at this
    exact this
  rw [List.getD_eq_getElem?_getD, List.getElem?_eq_getElem hb] at m
  have := (ko.at_ b _ (List.getElem?_eq_getElem hb)).2.2 q m
  rw [h.1, ko.len]
  exact this
/-- behind i ties of the ring -/
def Laid (ks : List (List Nat)) (r us : List Nat) (i : Nat) : Prop := HadIn ks us ∧ ∀ j b, j < i → r[j]? = some b → us[b - 1]? = some (nxt r j)
theorem Laid.step {ks : List (List Nat)} {r us : List Nat} {i b : Nat} (ok : RingOk ks r) (h : Laid ks r us i) (hb : r[i]? = some b) : Laid ks r (us.set (b - 1) (nxt r i)) (i + 1) := by
  obtain ⟨b1, b2⟩ := ok.rng b (List.mem_of_getElem? hb)
  refine ⟨h.1.set (ok.tie i b hb), fun j c hj hc => ?_⟩
  obtain ⟨c1, c2⟩ := ok.rng c (List.mem_of_getElem? hc)
  rw [List.getElem?_set]
  by_cases e : j = i
  · subst e
    rw [hb] at hc
    cases hc
    rw [if_pos rfl, if_pos (by rw [h.1.1]; omega)]
  · have ne : b ≠ c := fun z => by
      subst z
      obtain ⟨i1, e1⟩ := List.getElem?_eq_some_iff.mp hb
      obtain ⟨j1, e2⟩ := List.getElem?_eq_some_iff.mp hc
      exact e ((List.getElem_inj ok.nd).mp (e2.trans e1.symm))
    rw [if_neg (by omega)]
    exact h.2 j c (by omega) hc
end Fv
/-! the layers one behind the other: an order; nothing of the program here -/
namespace Fv
open PySem PySem.Spec L2
theorem itL_pre (ks : List (List Nat)) : ∀ {t m : Nat}, t ≤ m → ∃ r, itL ks m = itL ks t ++ r
  | t, 0, h => by
    obtain rfl : t = 0 := by omega
    exact ⟨[], by rw [List.append_nil]⟩
  | t, m + 1, h => by
    by_cases e : t = m + 1
    · subst e
      exact ⟨[], by rw [List.append_nil]⟩
    · obtain ⟨r, hr⟩ := itL_pre ks (t := t) (m := m) (by omega)
      exact ⟨r ++ readyL ks (itL ks m), by show itL ks m ++ _ = _; rw [hr, List.append_assoc]⟩
theorem itL_layer {ks : List (List Nat)} : ∀ {m b : Nat}, b ∈ itL ks m → b = 0 ∨ ∃ t, t < m ∧ b ∈ readyL ks (itL ks t)
  | 0, b, h => .inl (List.mem_singleton.mp h)
  | m + 1, b, h => by
    rcases List.mem_append.mp h with h | h
    · rcases itL_layer h with h | ⟨t, ht, h⟩
      · exact .inl h
      · exact .inr ⟨t, by omega, h⟩
    · exact .inr ⟨m, by omega, h⟩
/-- each block's places stand ahead of it -/
theorem itL_before {ks : List (List Nat)} {m b p : Nat} (hb : b ∈ itL ks m) (b1 : 1 ≤ b) (hp : p ∈ ks.getD (b - 1) []) : p ∈ itL ks m ∧ (itL ks m).idxOf p < (itL ks m).idxOf b := by
  rcases itL_layer hb with h | ⟨t, ht, h⟩
  · omega
  · obtain ⟨_, nb, al⟩ := readyL_mem.1 h
    have pin : p ∈ itL ks t := of_decide_eq_true (List.all_eq_true.mp al p hp)
    obtain ⟨r, hr⟩ := itL_pre ks (show t ≤ m by omega)
    rw [hr]
    refine ⟨List.mem_append_left _ pin, ?_⟩
    rw [List.idxOf_append, List.idxOf_append, if_pos pin, if_neg nb]
    have := List.idxOf_lt_length_iff.mpr pin
    omega
theorem itL_perm {ks : List (List Nat)} (full : ks.length < (itL ks ks.length).length) : (itL ks ks.length).Perm (List.range (ks.length + 1)) := by
  refine (List.perm_ext_iff_of_nodup (itL_nodup ks _) List.nodup_range).mpr fun b => ?_
  rw [List.mem_range]
  exact ⟨fun h => by have := itL_le h; omega, fun h => itL_full full (by omega)⟩
theorem itL_len_full {ks : List (List Nat)} (full : ks.length < (itL ks ks.length).length) : (itL ks ks.length).length = ks.length + 1 := by
  have := itL_len ks ks.length
  omega
theorem intsN_nodup {l : List Nat} (h : l.Nodup) : (intsN l).Nodup := by
  unfold intsN
  exact List.Pairwise.map _ (fun a b (c : a ≠ b) => fun e => c (by omega)) h
theorem asc_of {l : List Int} (nd : l.Nodup) (w : l.Pairwise (· ≤ ·)) : l.Pairwise (· < ·) := by
  have := List.Pairwise.and w nd
  exact this.imp fun {a b} h => Int.lt_iff_le_and_ne.mpr ⟨h.1, h.2⟩
end Fv
/-! rings of ties, what leads to what, calms: nothing of the program here -/
namespace Fv
open PySem PySem.Spec L2
def Tie (ks : List (List Nat)) (b p : Nat) : Prop := 1 ≤ b ∧ b ≤ ks.length ∧ p ∈ ks.getD (b - 1) []
def Ring (ks : List (List Nat)) : Prop := ∃ S : Nat → Prop, (∃ b, S b) ∧ ∀ b, S b → ∃ p, Tie ks b p ∧ S p
theorem Ring.mono {ks ls : List (List Nat)} (h : ∀ b p, Tie ks b p → Tie ls b p) : Ring ks → Ring ls
  | ⟨S, n, c⟩ => ⟨S, n, fun b hb => let ⟨p, t, hp⟩ := c b hb; ⟨p, h b p t, hp⟩⟩
theorem ring_itL {ks : List (List Nat)} (le : ∀ b p, Tie ks b p → p ≤ ks.length) : Ring ks ↔ (itL ks ks.length).length ≤ ks.length := by
  constructor
  · rintro ⟨S, ⟨b0, h0⟩, c⟩
    refine Classical.byContradiction fun nf => ?_
    have full : ks.length < (itL ks ks.length).length := by omega
    have all : ∀ m b, S b → (itL ks ks.length).idxOf b < m → False := fun m => by
      induction m with
      | zero => intro b _ h; omega
      | succ m ih =>
        intro b hb h
        obtain ⟨p, ⟨b1, b2, hp⟩, sp⟩ := c b hb
        have := (itL_before (itL_full full b2) b1 hp).2
        exact ih p sp (by omega)
    exact all _ b0 h0 (Nat.lt_succ_self _)
  · intro h
    obtain ⟨b, b1, b2, b3⟩ := itL_some (ks := ks) (by omega)
    refine ⟨fun x => 1 ≤ x ∧ x ≤ ks.length ∧ x ∉ itL ks ks.length, ⟨b, b1, b2, b3⟩, fun x ⟨x1, x2, x3⟩ => ?_⟩
    obtain ⟨p, hp, np⟩ := left_out x1 x2 x3
    have t : Tie ks x p := ⟨x1, x2, hp⟩
    refine ⟨p, t, ?_, le x p t, np⟩
    rcases Nat.eq_zero_or_pos p with e | e
    · subst e
      exact (np (itL_zero ks _)).elim
    · exact e
inductive Reach (ks : List (List Nat)) : Nat → Nat → Prop
  | refl (a : Nat) : Reach ks a a
  | step {a b c : Nat} : Tie ks a b → Reach ks b c → Reach ks a c
theorem Reach.snoc {ks : List (List Nat)} {a b c : Nat} (h : Reach ks a b) (t : Tie ks b c) : Reach ks a c := by
  induction h with
  | refl a => exact .step t (.refl _)
  | step u _ ih => exact .step u (ih t)
theorem Reach.mono {ks ls : List (List Nat)} (h : ∀ b p, Tie ks b p → Tie ls b p) {a b : Nat} (r : Reach ks a b) : Reach ls a b := by
  induction r with
  | refl a => exact .refl a
  | step u _ ih => exact .step (h _ _ u) ih
/-- one tie more makes a ring just if its place leads back -/
theorem ring_add {ks ls : List (List Nat)} {x y : Nat} (h : ∀ b p, Tie ls b p ↔ Tie ks b p ∨ (b = x ∧ p = y)) (no : ¬ Ring ks) : Ring ls ↔ Reach ks y x := by
  constructor
  · rintro ⟨S, ⟨b0, h0⟩, c⟩
    refine Classical.byContradiction fun nr => no ?_
    by_cases sy : S y
    · refine ⟨fun z => S z ∧ Reach ks y z, ⟨y, sy, .refl y⟩, fun z ⟨sz, rz⟩ => ?_⟩
      obtain ⟨p, t, sp⟩ := c z sz
      rcases (h z p).1 t with t | ⟨rfl, _⟩
      · exact ⟨p, t, sp, rz.snoc t⟩
      · exact (nr rz).elim
    · refine ⟨S, ⟨b0, h0⟩, fun z sz => ?_⟩
      obtain ⟨p, t, sp⟩ := c z sz
      rcases (h z p).1 t with t | ⟨_, rfl⟩
      · exact ⟨p, t, sp⟩
      · exact (sy sp).elim
  · intro r
    refine ⟨fun z => Reach ks y z ∧ Reach ks z x, ⟨x, r, .refl x⟩, fun z ⟨r1, r2⟩ => ?_⟩
    by_cases e : z = x
    · subst e
      exact ⟨y, (h _ _).2 (.inr ⟨rfl, rfl⟩), .refl y, r⟩
    · cases r2 with
      | refl => exact (e rfl).elim
      | step t r3 => exact ⟨_, (h _ _).2 (.inl t), r1.snoc t, r3⟩
theorem tie_add {ls : List (List Nat)} {m : Nat × Nat} (m1 : 1 ≤ m.1) (m2 : m.1 ≤ ls.length) (b p : Nat) : Tie (addT ls m) b p ↔ Tie ls b p ∨ (b = m.1 ∧ p = m.2) := by
  unfold Tie
  rw [addT_len]
  unfold addT
  rw [List.getD_eq_getElem?_getD, List.getElem?_set, List.getD_eq_getElem?_getD]
  by_cases c : m.1 - 1 = b - 1
  · rw [if_pos c, if_pos (by omega), Option.getD_some, List.mem_append, List.mem_singleton, List.getD_eq_getElem?_getD, c]
    constructor
    · rintro ⟨b1, b2, h | h⟩
      · exact .inl ⟨b1, b2, h⟩
      · exact .inr ⟨by omega, h⟩
    · rintro (⟨b1, b2, h⟩ | ⟨rfl, h⟩)
      · exact ⟨b1, b2, .inl h⟩
      · exact ⟨m1, m2, .inr h⟩
  · rw [if_neg c]
    constructor
    · exact .inl
    · rintro (h | ⟨rfl, h⟩)
      · exact h
      · exact (c rfl).elim
/-! calms: NR a j: no ring from a to j -/
structure Mo (NR : Nat → Nat → Prop) (L : Nat) : Prop where
  mono : ∀ a a' j' j, a ≤ a' → a' ≤ j' → j' ≤ j → j ≤ L → NR a j → NR a' j'
  base : ∀ a, a ≤ L → NR a a
  one : ∀ a, a < L → NR a (a + 1)
def SafeR (NR : Nat → Nat → Prop) (L : Nat) : Nat → List Nat → Prop
  | a, [] => NR a L
  | a, c :: r => NR a c ∧ SafeR NR L c r
def SafeI (NR : Nat → Nat → Prop) (L a : Nat) (cs : List Nat) : Prop := ∀ (i : Nat) x y, (a :: cs)[i]? = some x → (cs ++ [L])[i]? = some y → NR x y
theorem safe_ri {NR : Nat → Nat → Prop} {L : Nat} : ∀ {a : Nat} {cs : List Nat}, SafeR NR L a cs ↔ SafeI NR L a cs
  | a, [] => by
    constructor
    · intro h i x y e1 e2
      cases i with
      | zero =>
        cases e1
        cases e2
        exact h
      | succ i => cases e1
    · intro h
      exact h 0 a L rfl rfl
  | a, c :: r => by
    constructor
    · rintro ⟨h1, h2⟩ i x y e1 e2
      cases i with
      | zero =>
        cases e1
        cases e2
        exact h1
      | succ i => exact safe_ri.1 h2 i x y e1 e2
    · intro h
      exact ⟨h 0 a c rfl rfl, safe_ri.2 fun i x y e1 e2 => h (i + 1) x y e1 e2⟩
def AscB (L : Nat) : Nat → List Nat → Prop
  | a, [] => a ≤ L
  | a, c :: r => a ≤ c ∧ c < L ∧ AscB L c r
theorem AscB.of {L : Nat} : ∀ {a : Nat} {cs : List Nat}, a ≤ L → (∀ x ∈ cs, a ≤ x ∧ x < L) → cs.Pairwise (· < ·) → AscB L a cs
  | _, [], h, _, _ => h
  | a, c :: r, _, h, p => by
    obtain ⟨p1, p2⟩ := List.pairwise_cons.mp p
    have hc := h c List.mem_cons_self
    exact ⟨hc.1, hc.2, AscB.of (by omega) (fun x hx => ⟨Nat.le_of_lt (p1 x hx), (h x (List.mem_cons_of_mem _ hx)).2⟩) p2⟩
theorem AscB.ge {L : Nat} : ∀ {a : Nat} {cs : List Nat}, AscB L a cs → ∀ x ∈ cs, a ≤ x ∧ x < L
  | _, [], _, x, h => nomatch h
  | a, c :: r, ⟨h1, h2, h3⟩, x, h => by
    rcases List.mem_cons.mp h with rfl | h
    · exact ⟨h1, h2⟩
    · have := h3.ge x h
      exact ⟨by omega, this.2⟩
/-- where the stretch of move j begins -/
def begF : Nat → List Nat → Nat → Nat
  | a, [], _ => a
  | a, c :: r, j => if c ≤ j then begF c r j else a
theorem begF_ge {L : Nat} : ∀ {a : Nat} {cs : List Nat} {j : Nat}, AscB L a cs → a ≤ begF a cs j
  | _, [], _, _ => Nat.le_refl _
  | a, c :: r, j, ⟨h1, _, h3⟩ => by
    show a ≤ if c ≤ j then begF c r j else a
    split
    · exact Nat.le_trans h1 (begF_ge h3)
    · exact Nat.le_refl _
theorem begF_le : ∀ {a : Nat} {cs : List Nat} {j : Nat}, a ≤ j → begF a cs j ≤ j
  | _, [], _, h => h
  | a, c :: r, j, h => by
    show (if c ≤ j then begF c r j else a) ≤ j
    split
    · rename_i e
      exact begF_le e
    · exact h
theorem begF_hit {L : Nat} : ∀ {a : Nat} {cs : List Nat} {j : Nat}, AscB L a cs → j ∈ cs → begF a cs j = j
  | _, [], _, _, h => nomatch h
  | a, c :: r, j, ⟨h1, h2, h3⟩, h => by
    show (if c ≤ j then begF c r j else a) = j
    rcases List.mem_cons.mp h with rfl | h
    · rw [if_pos (Nat.le_refl _)]
      exact Nat.le_antisymm (begF_le (Nat.le_refl _)) (begF_ge h3)
    · rw [if_pos (h3.ge j h).1]
      exact begF_hit h3 h
theorem begF_miss : ∀ {a : Nat} {cs : List Nat} {j : Nat}, j + 1 ∉ cs → begF a cs (j + 1) = begF a cs j
  | _, [], _, _ => rfl
  | a, c :: r, j, h => by
    show (if c ≤ j + 1 then begF c r (j + 1) else a) = if c ≤ j then begF c r j else a
    have n1 : c ≠ j + 1 := fun z => h (z ▸ List.mem_cons_self)
    by_cases e : c ≤ j
    · rw [if_pos e, if_pos (by omega), begF_miss fun z => h (List.mem_cons_of_mem _ z)]
    · rw [if_neg e, if_neg (by omega)]
theorem begF_zero {L : Nat} {cs : List Nat} (h : AscB L 0 cs) : begF 0 cs 0 = 0 := Nat.le_antisymm (begF_le (Nat.le_refl _)) (Nat.zero_le _)
theorem safe_beg {NR : Nat → Nat → Prop} {L : Nat} (M : Mo NR L) : ∀ {a : Nat} {cs : List Nat}, AscB L a cs → (SafeR NR L a cs ↔ ∀ j, a ≤ j → j < L → NR (begF a cs j) (j + 1))
  | a, [], h => by
    have h : a ≤ L := h
    constructor
    · intro n j h1 h2
      exact M.mono a a (j + 1) L (Nat.le_refl _) (by omega) (by omega) (Nat.le_refl _) n
    · intro n
      rcases Nat.lt_or_eq_of_le h with e | e
      · have := n (L - 1) (by omega) (by omega)
        rw [show L - 1 + 1 = L by omega] at this
        exact this
      · subst e
        exact M.base _ (Nat.le_refl _)
  | a, c :: r, ⟨h1, h2, h3⟩ => by
    have ih := safe_beg M h3
    constructor
    · rintro ⟨n1, n2⟩ j j1 j2
      show NR (if c ≤ j then begF c r j else a) (j + 1)
      by_cases e : c ≤ j
      · rw [if_pos e]
        exact ih.1 n2 j e j2
      · rw [if_neg e]
        exact M.mono a a (j + 1) c (Nat.le_refl _) (by omega) (by omega) (by omega) n1
    · intro n
      refine ⟨?_, ih.2 fun j j1 j2 => ?_⟩
      · rcases Nat.lt_or_eq_of_le h1 with e | e
        · have := n (c - 1) (by omega) (by omega)
          rw [show begF a (c :: r) (c - 1) = a from if_neg (by omega), show c - 1 + 1 = c by omega] at this
          exact this
        · subst e
          exact M.base _ (by omega)
      · have := n j (by omega) j2
        rw [show begF a (c :: r) j = begF c r j from if_pos j1] at this
        exact this
def lastD : Nat → List Nat → Nat
  | a, [] => a
  | _, c :: r => lastD c r
def Ch (NR : Nat → Nat → Prop) : Nat → List Nat → Prop
  | _, [] => True
  | a, c :: r => NR a c ∧ Ch NR c r
theorem lastD_snoc : ∀ (a : Nat) (cs : List Nat) (j : Nat), lastD a (cs ++ [j]) = j
  | _, [], _ => rfl
  | _, c :: r, j => lastD_snoc c r j
theorem lastD_get : ∀ (a : Nat) (cs : List Nat), (a :: cs)[cs.length]? = some (lastD a cs)
  | _, [] => rfl
  | _, c :: r => lastD_get c r
theorem safe_ch {NR : Nat → Nat → Prop} {L : Nat} : ∀ {a : Nat} {cs : List Nat}, SafeR NR L a cs ↔ Ch NR a cs ∧ NR (lastD a cs) L
  | _, [] => ⟨fun h => ⟨trivial, h⟩, fun h => h.2⟩
  | a, c :: r => by
    have ih := safe_ch (NR := NR) (L := L) (a := c) (cs := r)
    constructor
    · rintro ⟨h1, h2⟩
      exact ⟨⟨h1, (ih.1 h2).1⟩, (ih.1 h2).2⟩
    · rintro ⟨⟨h1, h2⟩, h3⟩
      exact ⟨h1, ih.2 ⟨h2, h3⟩⟩
theorem ch_snoc {NR : Nat → Nat → Prop} {j : Nat} : ∀ {a : Nat} {cs : List Nat}, Ch NR a cs → NR (lastD a cs) j → Ch NR a (cs ++ [j])
  | _, [], _, h => ⟨h, trivial⟩
  | _, _ :: _, ⟨h1, h2⟩, h => ⟨h1, ch_snoc h2 h⟩
/-- a calm just where a move would end a ring -/
def gst (bad : Nat → Nat → Bool) : Nat → Nat × List Nat
  | 0 => (0, [])
  | j + 1 => if bad (gst bad j).1 j then (j, (gst bad j).2 ++ [j]) else gst bad j
structure GInv (NR : Nat → Nat → Prop) (L j : Nat) (s : Nat × List Nat) : Prop where
  last : s.1 = lastD 0 s.2
  ch : Ch NR 0 s.2
  nr : NR s.1 j
  le : s.1 ≤ j
  asc : s.2.Pairwise (· < ·)
  lt : ∀ x ∈ s.2, x < j
  best : ∀ cs, SafeI NR L 0 cs → AscB L 0 cs → ∀ (i : Nat) x, s.2[i]? = some x → ∃ y, cs[i]? = some y ∧ y ≤ x
theorem gst_inv {NR : Nat → Nat → Prop} {L : Nat} (M : Mo NR L) {bad : Nat → Nat → Bool} (hb : ∀ c j, c ≤ j → j < L → NR c j → (bad c j = true ↔ ¬ NR c (j + 1))) : ∀ j, j ≤ L → GInv NR L j (gst bad j)
  | 0, h => ⟨rfl, trivial, M.base 0 h, Nat.le_refl _, .nil, (fun x h => nomatch h), fun cs _ _ i x h => nomatch h⟩
  | j + 1, h => by
    have I := gst_inv M hb j (by omega)
    have b := hb _ j I.le (by omega) I.nr
    show GInv NR L (j + 1) (if bad (gst bad j).1 j then (j, (gst bad j).2 ++ [j]) else gst bad j)
    generalize gst bad j = s at I b
    cases e : bad s.1 j with
    | false =>
      rw [if_neg (by simp)]
      have nr : NR s.1 (j + 1) := Classical.byContradiction fun n => by
        rw [b.2 n] at e
        cases e
      exact ⟨I.last, I.ch, nr, Nat.le_succ_of_le I.le, I.asc, fun x hx => by have := I.lt x hx; omega, I.best⟩
    | true =>
      rw [if_pos rfl]
      have n := b.1 e
      refine ⟨(lastD_snoc 0 s.2 j).symm, ch_snoc I.ch (I.last ▸ I.nr), M.one j (by omega), Nat.le_succ _, ?_, fun x hx => ?_, fun cs sc ac i x hx => ?_⟩
      · refine List.pairwise_append.mpr ⟨I.asc, List.pairwise_singleton _ _, fun x hx y hy => ?_⟩
        rw [List.mem_singleton.mp hy]
        exact I.lt x hx
      · rcases List.mem_append.mp hx with hx | hx
        · have := I.lt x hx
          omega
        · rw [List.mem_singleton.mp hx]
          omega
      · have hx : (s.2 ++ [j])[i]? = some x := hx
        rw [List.getElem?_append] at hx
        split at hx
        · exact I.best cs sc ac i x hx
        · rename_i hi
          have hi2 : i = s.2.length := by
            cases e2 : i - s.2.length with
            | zero => omega
            | succ k => rw [e2] at hx; cases hx
          subst hi2
          rw [Nat.sub_self] at hx
          have hx : j = x := Option.some.inj hx
          subst hx
          obtain ⟨z, hz, zl⟩ : ∃ z, (0 :: cs)[s.2.length]? = some z ∧ z ≤ s.1 := by
            have lg := lastD_get 0 s.2
            rw [← I.last] at lg
            cases e3 : s.2.length with
            | zero => exact ⟨0, rfl, Nat.zero_le _⟩
            | succ k =>
              rw [e3] at lg
              obtain ⟨y, hy, yl⟩ := I.best cs sc ac k _ lg
              exact ⟨y, hy, yl⟩
          have lz := (List.getElem?_eq_some_iff.mp hz).1
          rw [List.length_cons] at lz
          have lej := I.le
          cases e4 : cs[s.2.length]? with
          | none =>
            have := List.getElem?_eq_none_iff.mp e4
            have nr := sc s.2.length z L hz (by
              rw [List.getElem?_append, if_neg (by omega), show s.2.length - cs.length = 0 by omega]
              rfl)
            exact (n (M.mono z s.1 (j + 1) L zl (by omega) h (Nat.le_refl _) nr)).elim
          | some y =>
            refine ⟨y, rfl, Classical.byContradiction fun ny => ?_⟩
            have li := (List.getElem?_eq_some_iff.mp e4).1
            have nr := sc s.2.length z y hz (by rw [List.getElem?_append, if_pos li]; exact e4)
            have yL := (ac.ge y (List.mem_of_getElem? e4)).2
            exact n (M.mono z s.1 (j + 1) y zl (by omega) (by omega) (by omega) nr)
theorem pw_of : ∀ {c g : List Nat}, c.length = g.length → (∀ (i : Nat) x, g[i]? = some x → ∃ y, c[i]? = some y ∧ y ≤ x) → Pw c g
  | [], [], _, _ => trivial
  | [], _ :: _, h, _ => absurd h (by simp)
  | _ :: _, [], h, _ => absurd h (by simp)
  | a :: c, b :: g, h, hh => by
    obtain ⟨y, e, l⟩ := hh 0 b rfl
    cases e
    exact ⟨l, pw_of (by simpa using h) fun i x e => hh (i + 1) x e⟩
theorem len_of {c g : List Nat} (h : ∀ (i : Nat) x, g[i]? = some x → ∃ y, c[i]? = some y ∧ y ≤ x) : g.length ≤ c.length := by
  rcases Nat.eq_zero_or_pos g.length with e | e
  · omega
  · obtain ⟨y, hy, _⟩ := h (g.length - 1) _ (List.getElem?_eq_getElem (by omega))
    have := (List.getElem?_eq_some_iff.mp hy).1
    omega
def lotsN : Nat → List (List Nat)
  | 0 => [[]]
  | k + 1 => lotsN k ++ (lotsN k).map (· ++ [k])
theorem lots_asc : ∀ {k : Nat} {cs : List Nat}, cs ∈ lotsN k → cs.Pairwise (· < ·) ∧ ∀ x ∈ cs, x < k
  | 0, cs, h => by
    rw [List.mem_singleton.mp h]
    exact ⟨.nil, fun x h => nomatch h⟩
  | k + 1, cs, h => by
    rcases List.mem_append.mp h with h | h
    · obtain ⟨h1, h2⟩ := lots_asc h
      exact ⟨h1, fun x hx => by have := h2 x hx; omega⟩
    · obtain ⟨d, hd, rfl⟩ := List.mem_map.mp h
      obtain ⟨h1, h2⟩ := lots_asc hd
      refine ⟨List.pairwise_append.mpr ⟨h1, List.pairwise_singleton _ _, fun x hx y hy => ?_⟩, fun x hx => ?_⟩
      · rw [List.mem_singleton.mp hy]
        exact h2 x hx
      · rcases List.mem_append.mp hx with hx | hx
        · have := h2 x hx
          omega
        · rw [List.mem_singleton.mp hx]
          omega
theorem lots_all : ∀ {k : Nat} {cs : List Nat}, cs.Pairwise (· < ·) → (∀ x ∈ cs, x < k) → cs ∈ lotsN k
  | 0, cs, _, h => by
    cases cs with
    | nil => exact List.mem_singleton.mpr rfl
    | cons a r => exact absurd (h a List.mem_cons_self) (by omega)
  | k + 1, cs, p, h => by
    by_cases m : k ∈ cs
    · rcases List.eq_nil_or_concat cs with rfl | ⟨d, z, rfl⟩
      · cases m
      · rw [List.concat_eq_append] at p h m ⊢
        obtain ⟨p1, _, p3⟩ := List.pairwise_append.mp p
        have hz := h z (List.mem_append_right _ (List.mem_singleton.mpr rfl))
        have ez : z = k := by
          rcases List.mem_append.mp m with m | m
          · have := p3 k m z (List.mem_singleton.mpr rfl)
            omega
          · exact (List.mem_singleton.mp m).symm
        subst ez
        exact List.mem_append_right _ (List.mem_map.mpr ⟨d, lots_all p1 fun x hx => p3 x hx z (List.mem_singleton.mpr rfl), rfl⟩)
    · exact List.mem_append_left _ (lots_all p fun x hx => by
        have := h x hx
        have : x ≠ k := fun e => m (e ▸ hx)
        omega)
theorem lots_len : ∀ k, (lotsN k).length = 2 ^ k
  | 0 => rfl
  | k + 1 => by
    show (lotsN k ++ (lotsN k).map (· ++ [k])).length = _
    rw [List.length_append, List.length_map, lots_len k, Nat.pow_succ]
    omega
end Fv
set_option maxRecDepth 100000
set_option maxHeartbeats 1000000
namespace Fv
open PySem PySem.Spec PyProof.Rows L2
theorem cr_minLK {X : Cx} {K : PySem.W.Frag} (e : X.K = K) (hc : X.calm = true) : CallR X (.builtin "min") (rMin K) := by
  subst e
  exact cr_min hc
/-- rows of numbers, each a tuple -/
def RowV (H : Hp) (v : V) (r : List Nat) : Prop := ∃ t, v = .ref t ∧ H t = some (.tup (nats r))
def RowsV (H : Hp) : List V → List (List Nat) → Prop
  | [], [] => True
  | v :: vs, x :: xs => RowV H v x ∧ RowsV H vs xs
  | [], _ :: _ => False
  | _ :: _, [] => False
theorem RowsV.imp {H H' : Hp} (f : ∀ v x, RowV H v x → RowV H' v x) : ∀ {vs : List V} {xs : List (List Nat)}, RowsV H vs xs → RowsV H' vs xs
  | [], [], _ => True.intro
  | _ :: _, _ :: _, h => ⟨f _ _ h.1, RowsV.imp f h.2⟩
  | [], _ :: _, h => h.elim
  | _ :: _, [], h => h.elim
theorem RowsV.same {H H' : Hp} {vs : List V} {xs : List (List Nat)} (s : Same H H') (h : RowsV H vs xs) : RowsV H' vs xs := h.imp fun _ _ ⟨t, e, k⟩ => ⟨t, e, s _ _ k⟩
theorem RowsV.mut {H : Hp} {vs : List V} {xs : List (List Nat)} {q : Addr} {ys : List V} {o : HO} (hq : H q = some (.lst ys)) (h : RowsV H vs xs) : RowsV (upd H q o) vs xs := h.imp fun _ _ ⟨t, e, k⟩ => ⟨t, e, keepM (fun z => by
  rw [z, hq] at k
  cases k) k⟩
theorem RowsV.app {H : Hp} : ∀ {vs ws : List V} {xs ys : List (List Nat)}, RowsV H vs xs → RowsV H ws ys → RowsV H (vs ++ ws) (xs ++ ys)
  | [], _, [], _, _, h => h
  | _ :: _, _, _ :: _, _, h, k => ⟨h.1, RowsV.app h.2 k⟩
  | [], _, _ :: _, _, h, _ => h.elim
  | _ :: _, _, [], _, h, _ => h.elim
theorem RowsV.len {H : Hp} : ∀ {vs : List V} {xs : List (List Nat)}, RowsV H vs xs → vs.length = xs.length
  | [], [], _ => rfl
  | _ :: _, _ :: _, h => congrArg (· + 1) (RowsV.len h.2)
  | [], _ :: _, h => h.elim
  | _ :: _, [], h => h.elim
theorem RowsV.at {H : Hp} : ∀ {vs : List V} {xs : List (List Nat)} {i : Nat} {v : V}, RowsV H vs xs → vs[i]? = some v → ∃ x, xs[i]? = some x ∧ RowV H v x
  | [], [], _, _, _, h => by cases h
  | _ :: _, x :: _, 0, _, h, e => by
    have e' := Option.some.inj e
    subst e'
    exact ⟨x, rfl, h.1⟩
  | _ :: _, _ :: _, i + 1, _, h, e => RowsV.at (i := i) h.2 e
  | [], _ :: _, _, _, h, _ => h.elim
  | _ :: _, [], _, _, h, _ => h.elim
theorem RowsV.mem {H : Hp} {vs : List V} {xs : List (List Nat)} (h : RowsV H vs xs) {v : V} (hv : v ∈ vs) : ∃ x, x ∈ xs ∧ RowV H v x := by
  obtain ⟨i, hi, e⟩ := List.getElem_of_mem hv
  obtain ⟨x, e2, hx⟩ := h.at (i := i) (v := v) (by rw [List.getElem?_eq_getElem hi, e])
  exact ⟨x, List.mem_of_getElem? e2, hx⟩
end Fv
set_option maxRecDepth 100000
set_option maxHeartbeats 1000000
namespace Fv
open PySem PySem.Spec L2
def top (i : Nat) : Stmt := PySem.Challenge.pw_foldervotes_k38_whole_fewest_calms.main.body.getD i (.Pass ⟨0, 0, 0, 0⟩)
abbrev s_VoteError___str__ : Stmt := inClass (top 1) 0
abbrev s_BadTree___init__ : Stmt := inClass (top 2) 0
abbrev s_NoBlock___init__ : Stmt := inClass (top 3) 0
abbrev s_NoPlace___init__ : Stmt := inClass (top 4) 0
abbrev s_Beneath___init__ : Stmt := inClass (top 5) 0
abbrev s_BadHistory___init__ : Stmt := inClass (top 6) 0
abbrev s_is_within : Stmt := top 8
abbrev s_is_pair : Stmt := top 9
abbrev s_is_ascending : Stmt := top 10
abbrev s_is_lot_within : Stmt := top 11
abbrev s_Tree___init__ : Stmt := inClass (top 14) 0
abbrev s_Tree___eq__ : Stmt := inClass (top 14) 1
abbrev s__comes_to_head : Stmt := top 15
abbrev s_is_block : Stmt := top 16
abbrev s_is_place : Stmt := top 17
abbrev s_place_of : Stmt := top 18
abbrev s_parents : Stmt := top 19
abbrev s_beneath : Stmt := top 20
abbrev s_moved : Stmt := top 21
abbrev s_History___init__ : Stmt := inClass (top 24) 0
abbrev s_History___eq__ : Stmt := inClass (top 24) 1
abbrev s__ties_of : Stmt := top 25
abbrev s_is_calm : Stmt := top 26
abbrev s_fewest_calms : Stmt := top 27
abbrev s__leads_to : Stmt := top 28
abbrev s__law_hand : Stmt := top 30
abbrev s__law_draw : Stmt := top 31
abbrev s__law_tree : Stmt := top 32
abbrev s__law_row : Stmt := top 33
abbrev s__law_is_tree : Stmt := top 34
abbrev s__law_trees : Stmt := top 35
abbrev s__law_beneath : Stmt := top 36
abbrev s__law_put : Stmt := top 37
abbrev s__law_moves : Stmt := top 38
abbrev s__law_had : Stmt := top 39
abbrev s__law_is_round : Stmt := top 40
abbrev s__law_is_safe : Stmt := top 41
abbrev s__law_lots : Stmt := top 42
abbrev s__law_least : Stmt := top 43
abbrev s_law : Stmt := top 44
structure Ad where
  a_VoteError : Addr
  a_BadTree : Addr
  a_NoBlock : Addr
  a_NoPlace : Addr
  a_Beneath : Addr
  a_BadHistory : Addr
  a_Tree : Addr
  a_History : Addr
  t_MOST_BLOCKS : PySem.Tok
  t_MOST_MOVES : PySem.Tok
structure Bl (Z : Ad) (mg : Str → Option Value) : Prop where
  b_ValueError : mg "ValueError" = none
  b_abs : mg "abs" = none
  b_all : mg "all" = none
  b_bool : mg "bool" = none
  b_dict : mg "dict" = none
  b_enumerate : mg "enumerate" = none
  b_int : mg "int" = none
  b_isinstance : mg "isinstance" = none
  b_len : mg "len" = none
  b_list : mg "list" = none
  b_max : mg "max" = none
  b_min : mg "min" = none
  b_range : mg "range" = none
  b_set : mg "set" = none
  b_sorted : mg "sorted" = none
  b_str : mg "str" = none
  b_super : mg "super" = none
  b_tuple : mg "tuple" = none
  b_zip : mg "zip" = none
  k_VoteError : mg "VoteError" = some (.ref Z.a_VoteError)
  k_BadTree : mg "BadTree" = some (.ref Z.a_BadTree)
  k_NoBlock : mg "NoBlock" = some (.ref Z.a_NoBlock)
  k_NoPlace : mg "NoPlace" = some (.ref Z.a_NoPlace)
  k_Beneath : mg "Beneath" = some (.ref Z.a_Beneath)
  k_BadHistory : mg "BadHistory" = some (.ref Z.a_BadHistory)
  k_Tree : mg "Tree" = some (.ref Z.a_Tree)
  k_History : mg "History" = some (.ref Z.a_History)
  c_MOST_BLOCKS : mg "MOST_BLOCKS" = some (.int 40 Z.t_MOST_BLOCKS)
  c_MOST_MOVES : mg "MOST_MOVES" = some (.int 100 Z.t_MOST_MOVES)
end Fv
set_option maxRecDepth 100000
set_option maxHeartbeats 1000000
namespace Fv
open PySem PySem.Spec L2
local macro_rules | `(tactic| walk_at "ne") => `(tactic| first
  | assumption
  | (apply Ne.symm; assumption)
  | exact ne_of_none (by assumption) (by assumption)
  | (apply Ne.symm; exact ne_of_none (by assumption) (by assumption))
  | exact ne_none' (by assumption) (by walk_at "hu")
  | (apply Ne.symm; exact ne_none' (by assumption) (by walk_at "hu")))
local macro_rules | `(tactic| walk_at "hu") => `(tactic| first
  | with_reducible assumption
  | with_reducible exact upd_same
  | ((with_reducible show upd _ _ _ _ = some _); first | with_reducible exact upd_same | (with_reducible exact keepN (by walk_at "hu") (by assumption)) | (with_reducible exact keepM (by walk_at "ne") (by walk_at "hu"))))
local macro_rules | `(tactic| walk_at "hl") => `(tactic| first
  | with_reducible assumption
  | with_reducible exact SqL.of (by assumption)
  | ((with_reducible show SqL _ (upd _ _ _) _ _); first
    | with_reducible exact SqL.of upd_same
    | with_reducible exact keepLN (by walk_at "hl") (by assumption)
    | with_reducible exact keepLM (by walk_at "ne") (by walk_at "hl"))
  | with_reducible exact Same.seq (by assumption) (by walk_at "hl")
  | with_reducible exact But.seq (by assumption) (by walk_at "ne") (by walk_at "hl"))
local macro_rules | `(tactic| walk_at "ht") => `(tactic| first
  | with_reducible assumption
  | with_reducible exact SqT.of (by assumption)
  | ((with_reducible show SqT _ (upd _ _ _) _ _); first
    | with_reducible exact SqT.of upd_same
    | with_reducible exact keepTN (by walk_at "ht") (by assumption)
    | with_reducible exact keepTM (by walk_at "ne") (by walk_at "ht"))
  | with_reducible exact Same.seqT (by assumption) (by walk_at "ht")
  | with_reducible exact But.seqT (by assumption) (by walk_at "ne") (by walk_at "ht"))
local macro_rules | `(tactic| walk_at "sm") => `(tactic| first
  | with_reducible assumption
  | with_reducible exact Same.refl _
  | ((with_reducible show Same _ (upd _ _ _)); first
    | with_reducible exact same_new (by walk_at "sm") (by assumption)
    | with_reducible exact same_mut (by walk_at "sm") (by assumption))
  | ((with_reducible refine same_trans (by assumption) ?_); walk_at "sm"))
local macro_rules | `(tactic| walk_at "bt") => `(tactic| first
  | with_reducible assumption
  | with_reducible exact But.refl _ _
  | with_reducible exact But.of (by assumption)
  | ((with_reducible show But _ _ (upd _ _ _)); first
    | ((with_reducible refine But.mut ?_); walk_at "bt")
    | with_reducible exact But.new (by walk_at "bt") (by assumption)
    | with_reducible exact But.mutF (by walk_at "bt") (by assumption))
  | ((with_reducible refine but_trans (by assumption) ?_); walk_at "bt")
  | ((with_reducible refine but_trans (But.of (by assumption)) ?_); walk_at "bt"))
local macro_rules | `(tactic| walk_at "kn") => `(tactic| first
  | with_reducible assumption
  | exact True.intro
  | with_reducible exact Kn.same (by assumption) (by walk_at "kn")
  | with_reducible exact Kn.same (same_new (Same.refl _) (by assumption)) (by walk_at "kn"))
local macro_rules | `(tactic| walk_at "h1") => `(tactic| first
  | with_reducible refine x_seq ?_
  | with_reducible refine x_next ?_
  | with_reducible refine x_drop ?_
  | with_reducible refine x_ret ?_
  | with_reducible refine x_retN ?_
  | with_reducible refine x_ifs ?_
  | with_reducible refine x_asg ?_
  | with_reducible refine x_gname ?_
  | with_reducible refine x_gsub ?_
  | ((with_reducible show tVar _ _ _ _); with_reducible refine x_var (by with_unfolding_all rfl) ?_)
  | with_reducible refine x_c ?_
  | with_reducible refine x_op ?_
  | with_reducible refine x_un ?_
  | with_reducible refine x_i0 ?_
  | ((with_reducible show rI _ _ (V.int _) (V.int _) _ _); with_reducible refine x_i (by with_unfolding_all (first | assumption | decide | (show (0 : Int) < _; first | assumption | decide | omega) | exact ⟨by first | assumption | decide | omega, by first | assumption | decide | omega⟩ | exact Or.inl ⟨by first | decide | omega, by first | decide | omega⟩ | exact Or.inr ⟨by first | decide | omega, by first | decide | omega⟩)) ?_)
  | with_reducible refine x_u ?_
  | with_reducible refine x_isN0 ?_
  | with_reducible refine x_isN1 ?_
  | with_reducible refine x_isN2 ?_
  | with_reducible refine x_isN3 ?_
  | with_reducible refine x_isN4 ?_
  | with_reducible refine x_notN0 ?_
  | with_reducible refine x_notN1 ?_
  | with_reducible refine x_notN2 ?_
  | with_reducible refine x_notN3 ?_
  | with_reducible refine x_notN4 ?_
  | with_reducible refine x_eqB ?_
  | with_reducible refine x_neB ?_
  | with_reducible refine x_eqS ?_
  | with_reducible refine x_eqI ?_
  | with_reducible refine x_neI ?_
  | ((with_reducible show rEq _ _ _ _); with_reducible refine x_eq (by with_unfolding_all rfl) ?_)
  | ((with_reducible show rNe _ _ _ _); with_reducible refine x_ne (by with_unfolding_all rfl) ?_)
  | ((with_reducible show rIxL _ (V.ref _) (V.int _) _ _); with_reducible refine x_ixL (by walk_at "hl") (by first | assumption | with_unfolding_all exact atI_nat (j := 0) rfl | with_unfolding_all exact atI_nat (j := 1) rfl | with_unfolding_all rfl) ?_)
  | ((with_reducible show rIxT _ (V.ref _) (V.int _) _ _); with_reducible refine x_ixT (by walk_at "ht") (by first | assumption | with_unfolding_all exact atI_nat (j := 0) rfl | with_unfolding_all exact atI_nat (j := 1) rfl | with_unfolding_all rfl) ?_)
  | ((with_reducible show rIx _ (V.ref _) (V.int _) _ _); first
    | with_reducible refine x_ixSL (by walk_at "hl") (by first | assumption | with_unfolding_all exact atI_nat (j := 0) rfl | with_unfolding_all exact atI_nat (j := 1) rfl | with_unfolding_all rfl) ?_
    | with_reducible refine x_ixST (by walk_at "ht") (by first | assumption | with_unfolding_all exact atI_nat (j := 0) rfl | with_unfolding_all exact atI_nat (j := 1) rfl | with_unfolding_all rfl) ?_)
  | ((with_reducible show rSetL (V.ref _) (V.int _) _ _ _); with_reducible refine x_setL (by walk_at "hu") (by first | assumption | with_unfolding_all rfl) ?_)
  | with_reducible refine x_test ?_
  | with_reducible refine x_b ?_
  | with_reducible refine x_isb ?_
  | ((with_reducible show if decide _ = true then _ else _); with_reducible refine x_isdT (by first | with_unfolding_all rfl | with_unfolding_all decide) ?_)
  | ((with_reducible show if decide _ = true then _ else _); with_reducible refine x_isdF (by with_unfolding_all decide) ?_)
  | with_reducible refine x_isi ?_
  | with_reducible refine x_and ?_
  | with_reducible refine x_or ?_
  | with_reducible refine x_not ?_
  | with_reducible refine x_andV ?_
  | with_reducible refine x_orV ?_
  | with_reducible refine x_notV ?_
  | with_reducible refine x_ifx ?_
  | with_reducible refine x_nil ?_
  | with_reducible refine x_cons ?_
  | with_reducible refine x_cb ?_
  | with_reducible refine x_call ?_
  | with_reducible refine x_lst ?_
  | with_reducible refine x_tup ?_
  | with_reducible refine x_sl ?_
  | with_reducible refine x_nopart ?_
  | with_reducible refine x_part ?_
  | ((with_reducible show rSlL _ (V.ref _) _ _ _ _); with_reducible refine x_slL (by walk_at "hl") ?_)
  | with_reducible refine x_listRg1 ?_
  | with_reducible refine x_listRg2 ?_
  | with_reducible refine x_tupRg1 ?_
  | with_reducible refine x_ij ?_
  | ((with_reducible show tyV _ "list" (V.ref _) _ ∧ _); with_reducible refine x_tyL (by walk_at "hl") ?_)
  | with_reducible refine x_bm ?_
  | with_reducible refine x_bm0 ?_
  | with_reducible refine x_fldQ ?_
  | with_reducible refine x_par ?_
  | with_reducible refine x_par2 ?_
  | with_reducible refine x_chain ?_
  | ((with_reducible show tAug _ _ _ _ _ _); with_reducible refine x_aug (by with_unfolding_all rfl) ?_)
  | with_reducible refine x_ipI ?_
  | with_reducible refine x_for ?_
  | with_reducible refine x_while ?_
  | with_reducible refine x_ent ?_
  | with_reducible refine x_enl ?_
  | with_reducible refine x_isBk ?_
  | with_reducible refine x_notBk ?_
  | with_reducible refine x_mko ?_
  | with_reducible refine x_sfld ?_
  | with_reducible refine x_ost ?_
  | ((with_reducible show gTup _ _ _ (V.ref _) _ _ _); with_reducible refine x_gtup (by walk_at "ht") (by with_unfolding_all rfl) ?_)
  | with_reducible refine x_gcons ?_
  | with_reducible refine x_gnil ?_
  | with_reducible refine x_lc ?_
  | with_reducible refine x_lc2 ?_
  | with_reducible refine x_ilist ?_
  | with_reducible refine x_itup ?_
  | with_reducible refine x_rng1 ?_
  | with_reducible refine x_rng2v ?_
  | with_reducible refine x_irngV ?_
  | with_reducible refine x_star ?_
  | with_reducible refine x_rng2 ?_
  | with_reducible refine x_yes ?_
  | ((with_reducible show rLen _ [V.ref _] _ _); with_reducible refine x_lenL (by walk_at "hl") ?_)
  | ((with_reducible show rLen _ [V.ref _] _ _); with_reducible refine x_lenT (by walk_at "ht") ?_)
  | ((with_reducible show rListOf _ [V.ref _] _ _); with_reducible refine x_listL (by walk_at "hl") ?_)
  | ((with_reducible show rListOf _ [V.ref _] _ _); with_reducible refine x_listT (by walk_at "ht") ?_)
  | ((with_reducible show rTupOf _ [V.ref _] _ _); with_reducible refine x_tupL (by walk_at "hl") ?_)
  | ((with_reducible show rTupOf _ [V.ref _] _ _); with_reducible refine x_tupT (by walk_at "ht") ?_)
  | ((with_reducible show List.length _ ≤ sizeLine ∧ _); with_reducible refine And.intro (szLe (by with_unfolding_all (simp only [List.length_cons, List.length_nil]; decide))) ?_)
  | with_reducible refine x_int1 ?_
  | with_reducible refine x_abs ?_
  | with_reducible refine isi_non_int ?_
  | with_reducible refine isi_bl_int ?_
  | with_reducible refine isi_int_int ?_
  | with_reducible refine isi_str_int ?_
  | ((with_reducible show rIsi _ [V.ref _, V.ty "int"] _ _); first | with_reducible refine isi_lst_int (by walk_at "hu") ?_ | with_reducible refine isi_tup_int (by walk_at "hu") ?_ | with_reducible refine isi_dK_int (by walk_at "hu") ?_)
  | with_reducible refine isi_non_bool ?_
  | with_reducible refine isi_bl_bool ?_
  | with_reducible refine isi_int_bool ?_
  | with_reducible refine isi_str_bool ?_
  | ((with_reducible show rIsi _ [V.ref _, V.ty "bool"] _ _); first | with_reducible refine isi_lst_bool (by walk_at "hu") ?_ | with_reducible refine isi_tup_bool (by walk_at "hu") ?_ | with_reducible refine isi_dK_bool (by walk_at "hu") ?_)
  | with_reducible refine isi_non_tuple ?_
  | with_reducible refine isi_bl_tuple ?_
  | with_reducible refine isi_int_tuple ?_
  | with_reducible refine isi_str_tuple ?_
  | ((with_reducible show rIsi _ [V.ref _, V.ty "tuple"] _ _); first | with_reducible refine isi_lst_tuple (by walk_at "hu") ?_ | with_reducible refine isi_tup_tuple (by walk_at "hu") ?_ | with_reducible refine isi_dK_tuple (by walk_at "hu") ?_)
  | with_reducible refine isi_non_list ?_
  | with_reducible refine isi_bl_list ?_
  | with_reducible refine isi_int_list ?_
  | with_reducible refine isi_str_list ?_
  | ((with_reducible show rIsi _ [V.ref _, V.ty "list"] _ _); first | with_reducible refine isi_lst_list (by walk_at "hu") ?_ | with_reducible refine isi_tup_list (by walk_at "hu") ?_ | with_reducible refine isi_dK_list (by walk_at "hu") ?_)
  | with_reducible refine isi_non_dict ?_
  | with_reducible refine isi_bl_dict ?_
  | with_reducible refine isi_int_dict ?_
  | with_reducible refine isi_str_dict ?_
  | ((with_reducible show rIsi _ [V.ref _, V.ty "dict"] _ _); first | with_reducible refine isi_lst_dict (by walk_at "hu") ?_ | with_reducible refine isi_tup_dict (by walk_at "hu") ?_ | with_reducible refine isi_dK_dict (by walk_at "hu") ?_)
  | with_reducible refine isi_non_str ?_
  | with_reducible refine isi_bl_str ?_
  | with_reducible refine isi_int_str ?_
  | with_reducible refine isi_str_str ?_
  | ((with_reducible show rIsi _ [V.ref _, V.ty "str"] _ _); first | with_reducible refine isi_lst_str (by walk_at "hu") ?_ | with_reducible refine isi_tup_str (by walk_at "hu") ?_ | with_reducible refine isi_dK_str (by walk_at "hu") ?_)
  | ((with_reducible show rIsi _ [_, V.ty "int"] _ _); with_reducible refine x_isInt (by walk_at "kn") ?_)
  | ((with_reducible show rIsi _ [_, V.ty "bool"] _ _); with_reducible refine x_isBl (by walk_at "kn") ?_)
  | with_reducible refine x_nF ?_
  | with_reducible refine x_nT ?_
  | with_reducible refine iteT ?_
  | with_reducible refine iteF ?_)
local macro_rules | `(tactic| walk_at "hs") => `(tactic| repeat (walk_at "h1"; try dsimp only [Bool.not_true, Bool.not_false]))
local macro_rules | `(tactic| walk_at "h0") => `(tactic| ((try dsimp only [cxOf, L2.start, List.map_cons, List.map_nil, List.length_cons, List.length_nil, List.replicate, List.cons_append, List.nil_append, Nat.reduceAdd, Nat.reduceSub]); walk_at "hs"))

theorem sc__law_draw : FnScope ["_law_hand_here", "_law_many", "_law_cell", "_law_digit", "_law_number"] ["_law_hand_here", "_law_many"] (defScope s__law_draw) := ⟨rfl, rfl, rfl, by decide +kernel, rfl, by decide +kernel, by decide +kernel⟩
/-- the hand at p: its list, where it is read, what is left of a great number, the mix, how often it was turned; F: what others own, and it does not -/
def PoolAt (H : Hp) (p : Addr) (F : Addr → Prop) : Prop := (∃ (g : Addr) (gs : List Int) (i c m n : Int), H p = some (.lst [.ref g, .int i, .int c, .int m, .int n]) ∧ H g = some (.lst (gs.map V.int)) ∧ 0 ≤ i ∧ g ≠ p ∧ ¬ F g ∧ ¬ F p) ∧ ∀ a, F a → ∃ o, H a = some o
def spDraw : Sp := fun vs H Q _ => ∃ (p : Addr) (m : Int) (F : Addr → Prop), vs = [.ref p, .int m] ∧ PoolAt H p F ∧ 0 < m ∧ m < 1073741824 ∧ ∀ (d : Int) H', 0 ≤ d → d < m → But p H H' → PoolAt H' p F → Q (.int d) H'
theorem prot {H H' : Hp} {p : Addr} {F : Addr → Prop} (b : But p H H') (h : ∀ a, F a → ∃ o, H a = some o) (n : ¬ F p) : ∀ a, F a → ∃ o, H' a = some o := fun a ha => by
  obtain ⟨o, e⟩ := h a ha
  exact ⟨o, b a o (fun z => n (z ▸ ha)) e⟩
section
variable {P : Program} {w : World} {K : PySem.W.Frag} {mg : Str → Option Value} {base : Heap} {Z : Ad}
theorem ok_draw {f : Addr} {fd : FuncData} (F : Fun K "_law_draw" "_law_draw" s__law_draw f fd) (B : Bl Z mg) : FnOk P w K mg base CX0 1 f fd ["_law_hand_here", "_law_many"] spDraw := by
  refine F.ok sc__law_draw (fun vs H Q E h => ?_) (fun cdv A outer s H vs Q E hr h => ?_)
  · obtain ⟨p, m, F, rfl, _⟩ := h
    rfl
  · obtain ⟨p, m, Fo, rfl, ⟨⟨g, gs, i, c, x, n, hp, hg, i0, ng, fg, fp⟩, hF⟩, m0, m1, q⟩ := h
    refine ⟨_, (C8.pss_cut (ps_if (PW.pt (pw_and (pt_cmpR op_eq (pe_ix (ix_listK (K := K) rfl) (pv 0) pe_int (fun _ _ => rfl)) pe_int (nomark _)) (pw_and1 (pt_cmpR op_lt (pe_ix (ix_listK (K := K) rfl) (pv 0) pe_int (fun _ _ => rfl)) (pe_callB (call_lenK (K := K) rfl) (by rfl) B.b_len PySem.boot_len (pa_cons (pe_ix (ix_listK (K := K) rfl) (pv 0) pe_int (fun _ _ => rfl)) pa_nil)) (nomark _))))) (pss_cons (ps_set (i := 2) sc__law_draw.nd rfl (Or.inl rfl) (pe_ix (ix_listK (K := K) rfl) (pe_ix (ix_listK (K := K) rfl) (pv 0) pe_int (fun _ _ => rfl)) (pe_ix (ix_listK (K := K) rfl) (pv 0) pe_int (fun _ _ => rfl)) (fun _ _ => rfl)))
 (pss_cons (ps_asg (pe_op op_add (pe_ix (ix_listK (K := K) rfl) (pv 0) pe_int (fun _ _ => rfl)) pe_int) (pg_sub (pv 0) pe_int set_list))
 (pss_cons (ps_asg (pe_op op_mod (pe_callTy call_int (by rfl) B.b_int (by decide +kernel) (pa_cons (pe_op op_add (pe_op op_add (pe_op op_mul (pe_ix (ix_listK (K := K) rfl) (pv 0) pe_int (fun _ _ => rfl)) pe_int) (pv 2)) pe_int) pa_nil)) pe_int) (pg_sub (pv 0) pe_int set_list))
 (pss_one (ps_if (pt_cmpR op_ge (pv 2) (pe_op op_pow pe_int pe_int) (nomark _)) (pss_one (ps_asg (pv 2) (pg_sub (pv 0) pe_int set_list))) pss_nil))))) pss_nil)
 (pss_cons (ps_if (pt_cmpR op_gt (pe_ix (ix_listK (K := K) rfl) (pv 0) pe_int (fun _ _ => rfl)) pe_int (nomark _)) (pss_cons (ps_set (i := 3) sc__law_draw.nd rfl (Or.inl rfl) (pe_op op_mod (pe_callTy call_int (by rfl) B.b_int (by decide +kernel) (pa_cons (pe_ix (ix_listK (K := K) rfl) (pv 0) pe_int (fun _ _ => rfl)) pa_nil)) (pv 1)))
 (pss_cons (ps_asg (pe_op op_fdiv (pe_ix (ix_listK (K := K) rfl) (pv 0) pe_int (fun _ _ => rfl)) (pv 1)) (pg_sub (pv 0) pe_int set_list))
 (pss_one (ps_ret (pv 3))))) pss_nil)
 (pss_cons (ps_asg (pe_op op_add (pe_ix (ix_listK (K := K) rfl) (pv 0) pe_int (fun _ _ => rfl)) pe_int) (pg_sub (pv 0) pe_int set_list))
 (pss_cons (ps_set (i := 4) sc__law_draw.nd rfl (Or.inl rfl) (pe_op op_mod (pe_callTy call_int (by rfl) B.b_int (by decide +kernel) (pa_cons (pe_op op_mul (pe_callTy call_int (by rfl) B.b_int (by decide +kernel) (pa_cons (pe_op op_add (pe_ix (ix_listK (K := K) rfl) (pv 0) pe_int (fun _ _ => rfl)) (pe_op op_mul pe_int (pe_ix (ix_listK (K := K) rfl) (pv 0) pe_int (fun _ _ => rfl)))) pa_nil)) pe_int) pa_nil)) pe_int))
 (pss_cons (ps_set (i := 4) sc__law_draw.nd rfl (Or.inl rfl) (pe_op op_mod (pe_callTy call_int (by rfl) B.b_int (by decide +kernel) (pa_cons (pe_op op_mul (pv 4) (pe_op op_add (pe_op op_fdiv (pv 4) pe_int) pe_int)) pa_nil)) pe_int))
 (pss_cons (ps_set (i := 4) sc__law_draw.nd rfl (Or.inl rfl) (pe_op op_mod (pe_callTy call_int (by rfl) B.b_int (by decide +kernel) (pa_cons (pe_op op_mul (pv 4) (pe_op op_add (pe_op op_fdiv (pv 4) pe_int) pe_int)) pa_nil)) pe_int))
 (pss_one (ps_ret (pe_op op_mod (pe_callTy call_int (by rfl) B.b_int (by decide +kernel) (pa_cons (pe_op op_fdiv (pv 4) pe_int) pa_nil)) (pv 1)))))))))), ?_⟩
    walk_at "h0"
    refine ⟨fun σ' H' => (∃ z, σ' = [some (.ref p), some (.int m), z, none, none]) ∧ But p H H' ∧ PoolAt H' p Fo, ?_, ?_⟩
    · walk_at "hs"
      refine x_isd (fun c1 => ?_) (fun c1 => ?_)
      · walk_at "hs"
        refine x_isd (fun c2 => ?_) (fun c2 => ?_)
        · obtain ⟨k, rfl⟩ := Int.eq_ofNat_of_zero_le i0
          have hk : k < gs.length := by
            rw [List.length_map] at c2
            omega
          have ag : atI (gs.map V.int) (k : Int) = some (.int gs[k]) := atI_nat (by rw [List.getElem?_map, List.getElem?_eq_getElem hk]; rfl)
          walk_at "hs"
          refine x_isd (fun c3 => ?_) (fun c3 => ?_)
          · walk_at "hs"
            exact ⟨⟨_, rfl⟩, by walk_at "bt", ⟨g, gs, _, _, _, n, upd_same, by walk_at "hu", by omega, ng, fg, fp⟩, prot (by walk_at "bt") hF fp⟩
          · walk_at "hs"
            exact ⟨⟨_, rfl⟩, by walk_at "bt", ⟨g, gs, _, _, _, n, upd_same, by walk_at "hu", by omega, ng, fg, fp⟩, prot (by walk_at "bt") hF fp⟩
        · walk_at "hs"
          exact ⟨⟨_, rfl⟩, But.refl _ _, ⟨g, gs, i, c, x, n, hp, hg, i0, ng, fg, fp⟩, hF⟩
      · walk_at "hs"
        exact ⟨⟨_, rfl⟩, But.refl _ _, ⟨g, gs, i, c, x, n, hp, hg, i0, ng, fg, fp⟩, hF⟩
    · rintro σ' H1 ⟨⟨z, rfl⟩, b1, ⟨g, gs, i, c, x, n, hp, hg, i0, ng, fg, fp⟩, hF⟩
      walk_at "hs"
      refine x_isd (fun c1 => ?_) (fun c1 => ?_)
      · walk_at "hs"
        exact q _ _ (Int.emod_nonneg _ (by omega)) (Int.emod_lt_of_pos _ m0) (by walk_at "bt") ⟨⟨g, gs, _, _, _, n, upd_same, by walk_at "hu", i0, ng, fg, fp⟩, prot (But.mut (But.refl _ _)) hF fp⟩
      · walk_at "hs"
        exact q _ _ (Int.emod_nonneg _ (by omega)) (Int.emod_lt_of_pos _ m0) (by walk_at "bt") ⟨⟨g, gs, _, _, _, _, upd_same, by walk_at "hu", i0, ng, fg, fp⟩, prot (But.mut (But.refl _ _)) hF fp⟩
end
set_option maxRecDepth 100000
set_option maxHeartbeats 1000000
open PySem PySem.Spec L2


theorem sc__law_hand : FnScope ["_law_script", "_law_cells", "_law_cell"] ["_law_script"] (defScope s__law_hand) := ⟨rfl, rfl, rfl, by decide +kernel, rfl, by decide +kernel, by decide +kernel⟩
section
variable {P : Program} {w : World} {K : PySem.W.Frag} {mg : Str → Option Value} {base : Heap} {Z : Ad}

theorem PoolAt.same {H H' : Hp} {p : Addr} {F : Addr → Prop} (s : Same H H') (h : PoolAt H p F) : PoolAt H' p F := by
  obtain ⟨⟨g, gs, i, c, x, n, hp, hg, r⟩, hF⟩ := h
  exact ⟨⟨g, gs, i, c, x, n, s _ _ hp, s _ _ hg, r⟩, fun a ha => by
    obtain ⟨o, e⟩ := hF a ha
    exact ⟨o, s _ _ e⟩⟩
theorem PoolAt.ne {H : Hp} {p q : Addr} {F : Addr → Prop} (h : PoolAt H p F) (hq : H q = none) : q ≠ p := by
  obtain ⟨⟨g, gs, i, c, x, n, hp, _⟩, _⟩ := h
  exact ne_none' hq hp
theorem PoolAt.neF {H : Hp} {p q : Addr} {F : Addr → Prop} (h : PoolAt H p F) (hq : F q) : q ≠ p := by
  obtain ⟨⟨g, gs, i, c, x, n, hp, hg, i0, ng, fg, fp⟩, _⟩ := h
  exact fun e => fp (e ▸ hq)
theorem PoolAt.newH {H : Hp} {p q : Addr} {o : HO} {F : Addr → Prop} (h : PoolAt H p F) (hq : H q = none) : PoolAt (upd H q o) p F := h.same (same_new (Same.refl H) hq)
/-- a new object, owned by another -/
theorem PoolAt.own {H : Hp} {p q : Addr} {o : HO} {F : Addr → Prop} (h : PoolAt H p F) (hq : H q = none) : PoolAt (upd H q o) p (fun a => a = q ∨ F a) := by
  obtain ⟨⟨g, gs, i, c, x, n, hp, hg, i0, ng, fg, fp⟩, hF⟩ := h
  refine ⟨⟨g, gs, i, c, x, n, keepN hp hq, keepN hg hq, i0, ng, fun e => ?_, fun e => ?_⟩, fun a ha => ?_⟩
  · exact e.elim (ne_of_none hg hq) fg
  · exact e.elim (ne_of_none hp hq) fp
  · rcases ha with rfl | ha
    · exact ⟨o, upd_same⟩
    · obtain ⟨u, e⟩ := hF a ha
      exact ⟨u, keepN e hq⟩
theorem PoolAt.mut {H : Hp} {p q : Addr} {o : HO} {F : Addr → Prop} (h : PoolAt H p F) (hq : F q) : PoolAt (upd H q o) p F := by
  obtain ⟨⟨g, gs, i, c, x, n, hp, hg, i0, ng, fg, fp⟩, hF⟩ := h
  refine ⟨⟨g, gs, i, c, x, n, keepM (fun e => fp (e ▸ hq)) hp, keepM (fun e => fg (e ▸ hq)) hg, i0, ng, fg, fp⟩, fun a ha => ?_⟩
  by_cases e : a = q
  · exact ⟨o, by rw [e, upd_same]⟩
  · obtain ⟨u, hu⟩ := hF a ha
    exact ⟨u, keepM e hu⟩
theorem PoolAt.weak {H : Hp} {p : Addr} {F G : Addr → Prop} (h : PoolAt H p F) (w : ∀ a, G a → F a) : PoolAt H p G := by
  obtain ⟨⟨g, gs, i, c, x, n, hp, hg, i0, ng, fg, fp⟩, hF⟩ := h
  exact ⟨⟨g, gs, i, c, x, n, hp, hg, i0, ng, fun e => fg (w _ e), fun e => fp (w _ e)⟩, fun a ha => hF a (w a ha)⟩
def spPool (K : PySem.W.Frag) : Sp := fun vs H Q _ => ∃ (a : Addr) (ns : List Int), vs = [.ref a] ∧ SqL K H a (ns.map V.int) ∧ ns.length ≤ 63 ∧ ∀ p H', Same H H' → H p = none → PoolAt H' p (fun _ => False) → Q (.ref p) H'
theorem ok_hand {f : Addr} {fd : FuncData} (F : Fun K "_law_hand" "_law_hand" s__law_hand f fd) (B : Bl Z mg) : FnOk P w K mg base CX0 1 f fd ["_law_script"] (spPool K) := by
  refine F.ok sc__law_hand (fun vs H Q E h => ?_) (fun cdv A outer s H vs Q E hr h => ?_)
  · obtain ⟨a, ns, rfl, _⟩ := h
    rfl
  · obtain ⟨a, ns, rfl, hS, hl, q⟩ := h
    refine ⟨_, (pss_cons (ps_setLc (i := 1) (own := [("_law_cell", 2)]) rfl sc__law_hand.nd rfl rfl (sw_true rfl rfl rfl (by decide +kernel)) (pi_list (pe_slice (sl_listK (K := K) rfl) (pv 0) po_none (po_some pe_int))) (blkOk_by (N := ["_law_script", "_law_cells", "_law_cell"]) (sc := defScope s__law_hand) (by decide +kernel)) (fun _ _ _ _ _ => (pg_name (i := 2) sc__law_hand.nd rfl (Or.inl rfl))) (fun _ _ _ _ _ => pts_nil) (fun _ _ _ _ _ => (pe_callB call_ab (by rfl) B.b_abs (by decide +kernel) (pa_cons (pe_callTy call_int (by rfl) B.b_int (by decide +kernel) (pa_cons (pv 2) pa_nil)) pa_nil))))
 (pss_one (ps_ret (pe_lst (pa_cons (pv 1) (pa_cons pe_int (pa_cons pe_int (pa_cons (pe_op op_add pe_int (pe_callB (call_lenK (K := K) rfl) (by rfl) B.b_len PySem.boot_len (pa_cons (pv 1) pa_nil))) (pa_cons pe_int pa_nil))))))))), ?_⟩
    walk_at "h0"
    intro c hc
    refine ⟨c, rfl, ⟨_, SqL.of upd_same⟩, fun D hD => ?_⟩
    have hcD : D ≠ c := by walk_at "ne"
    have nD : H D = none := Same.free (H' := upd H c _) (same_new (Same.refl _) hc) hD
    have hsz : (cutV (ns.map V.int) none (some 63)).length ≤ 63 := Nat.le_trans (cutV_length _ _ _) (by rw [List.length_map]; exact hl)
    have hints : ∀ x ∈ cutV (ns.map V.int) none (some 63), ∃ n : Int, x = .int n := fun x hx => by
      obtain ⟨n, _, rfl⟩ := List.mem_map.mp (List.mem_of_mem_drop (List.mem_of_mem_take hx))
      exact ⟨n, rfl⟩
    refine lc_list (K := K) (a := c) (xs := cutV (ns.map V.int) none (some 63)) (fun i H' => ∃ g : List Int, g.length ≤ i ∧ Same H H' ∧ H' c = some (.lst (cutV (ns.map V.int) none (some 63))) ∧ H' D = some (.lst (g.map V.int)))
      ⟨[], Nat.le_refl _, by walk_at "sm", by walk_at "hu", upd_same⟩ (fun i H' _ ⟨_, _, _, e, _⟩ => SqL.of e) ?_ ?_
    · rintro i x H' hx ⟨g, hg, s', ec, eD⟩
      obtain ⟨n, rfl⟩ := hints x (List.mem_of_getElem? hx)
      walk_at "hs"
      refine ⟨rfl, ?_⟩
      walk_at "hs"
      refine ⟨_, eD, szLt (by rw [List.length_map]; have := (List.getElem?_eq_some_iff.mp hx).1; omega), g ++ [if n < 0 then -n else n], by rw [List.length_append]; exact Nat.add_le_add_right hg 1, by walk_at "sm", by walk_at "hu", ?_⟩
      rw [upd_same, List.map_append]
      rfl
    · rintro H1 ⟨g, hg, s1, ec, eD⟩
      walk_at "hs"
      intro p hp
      exact q p _ (by walk_at "sm") (s1.free hp) ⟨⟨D, g, _, _, _, _, upd_same, by walk_at "hu", by decide, by walk_at "ne", fun e => e, fun e => e⟩, fun a e => e.elim⟩
def spAny (K : PySem.W.Frag) : Sp := fun vs H Q _ => ∃ (p t : Addr) (xs : List V) (F : Addr → Prop), vs = [.ref p, .ref t] ∧ PoolAt H p F ∧ SqL K H t xs ∧ t ≠ p ∧ 0 < xs.length ∧ xs.length ≤ 1000 ∧ ∀ x H', x ∈ xs → But p H H' → PoolAt H' p F → Q x H'
abbrev spPick (K : PySem.W.Frag) : Sp := spAny K
end
set_option maxRecDepth 100000
set_option maxHeartbeats 1000000
open PySem PySem.Spec L2


theorem sc_is_within : FnScope ["least", "most", "thing"] ["least", "most", "thing"] (defScope s_is_within) := ⟨rfl, rfl, rfl, by decide +kernel, rfl, by decide +kernel, by decide +kernel⟩
section
variable {P : Program} {w : World} {K : PySem.W.Frag} {mg : Str → Option Value} {base : Heap} {Z : Ad}

def spNum (hi : Nat) : Sp := fun vs H Q _ => ∃ (x : V) (lo hi : Int), vs = [x, .int lo, .int hi] ∧ Kn H x ∧ Q (.bl (numV lo hi x)) H
def spWithin : Sp := fun vs H Q _ => ∃ (x : V) (lo hi : Int), vs = [.int lo, .int hi, x] ∧ Kn H x ∧ Q (.bl (numV lo hi x)) H
theorem ok_within {f : Addr} {fd : FuncData} (F : Fun K "is_within" "is_within" s_is_within f fd) (B : Bl Z mg) : FnOk P w K mg base CX0 1 f fd ["least", "most", "thing"] spWithin := by
  refine F.ok sc_is_within (fun vs H Q E h => ?_) (fun cdv A outer s H vs Q E hr h => ?_)
  · obtain ⟨x, lo, hi, rfl, _⟩ := h
    rfl
  · obtain ⟨x, lo, hi, rfl, hk, q⟩ := h
    refine ⟨_, (pss_cons (ps_if (PW.pt (pw_or (pt_not (pt_val (pe_callB (call_isiK' (K := K) rfl) (by rfl) B.b_isinstance (by decide +kernel) (pa_cons (pv 2) (pa_cons (pe_bltn (v := .ty "int") (by rfl) B.b_int (by decide +kernel) rfl) pa_nil))))) (pw_or1 (pt_val (pe_callB (call_isiK' (K := K) rfl) (by rfl) B.b_isinstance (by decide +kernel) (pa_cons (pv 2) (pa_cons (pe_bltn (v := .ty "bool") (by rfl) B.b_bool (by decide +kernel) rfl) pa_nil))))))) (pss_one (ps_ret pe_bl)) pss_nil)
 (pss_one (ps_ret (pe_chain op_le op_le (pv 0) (pv 2) (pv 1))))), ?_⟩
    walk_at "h0"
    cases x with
    | bl b =>
      walk_at "hs"
      refine iteF ?_
      walk_at "hs"
      exact q
    | int i =>
      refine iteF ?_
      walk_at "hs"
      refine x_isd (fun c => ?_) (fun c => ?_)
      · walk_at "hs"
        have e : numV lo hi (.int i) = decide (i ≤ hi) := numT c
        rw [← e]
        exact q
      · have e : numV lo hi (.int i) = false := numF c
        rw [e] at q
        exact q
    | non => exact iteT (iteT q)
    | str s => exact iteT (iteT q)
    | ref a => exact iteT (iteT q)
    | _ => exact hk.elim
end
set_option maxRecDepth 100000
set_option maxHeartbeats 1000000
open PySem PySem.Spec L2


section
variable {P : Program} {w : World} {K : PySem.W.Frag} {mg : Str → Option Value} {base : Heap} {Z : Ad}
def spMixed (K : PySem.W.Frag) : Sp := fun vs H Q _ => ∃ (p t : Addr) (n : Nat) (F : Addr → Prop), vs = [.ref p, .ref t] ∧ PoolAt H p F ∧ SqL K H t (nats (List.range' 1 n)) ∧ t ≠ p ∧ 1 ≤ n ∧ n ≤ 40 ∧ ∀ (D : Addr) (ms : List Nat) H', ms.Perm (List.range' 1 n) → But p H H' → PoolAt H' p F → H D = none → H' D = some (.lst (nats ms)) → Q (.ref D) H'
def spHung : Sp := fun vs H Q _ => ∃ (p : Addr) (n : Nat) (F : Addr → Prop), vs = [.ref p, .int n] ∧ PoolAt H p F ∧ 1 ≤ n ∧ n ≤ 40 ∧ ∀ (D : Addr) (hs : List Nat) H', IsTree hs → hs.length = n → But p H H' → PoolAt H' p F → H D = none → H' D = some (.tup (nats hs)) → Q (.ref D) H'
end
set_option maxRecDepth 100000
set_option maxHeartbeats 1000000
open PySem PySem.Spec L2


theorem sc__comes_to_head : FnScope ["hung", "block", "place", "steps"] ["hung", "block"] (defScope s__comes_to_head) := ⟨rfl, rfl, rfl, by decide +kernel, rfl, by decide +kernel, by decide +kernel⟩
section
variable {P : Program} {w : World} {K : PySem.W.Frag} {mg : Str → Option Value} {base : Heap} {Z : Ad}

def spComes (K : PySem.W.Frag) : Sp := fun vs H Q _ => ∃ (t : Addr) (hs : List Nat) (k : Nat), vs = [.ref t, .int k] ∧ SqT K H t (nats hs) ∧ (∀ x ∈ hs, x ≤ hs.length) ∧ k ≤ hs.length ∧ Q (.bl (decide (upN hs hs.length k = 0))) H
theorem ok_comes {f : Addr} {fd : FuncData} (F : Fun K "_comes_to_head" "_comes_to_head" s__comes_to_head f fd) (B : Bl Z mg) : FnOk P w K mg base CX0 1 f fd ["hung", "block"] (spComes K) := by
  refine F.ok sc__comes_to_head (fun vs H Q E h => ?_) (fun cdv A outer s H vs Q E hr h => ?_)
  · obtain ⟨t, hs, k, rfl, _⟩ := h
    rfl
  · obtain ⟨t, hs, k, rfl, ht, hle, hk, q⟩ := h
    refine ⟨_, (pss_cons (ps_set (i := 2) sc__comes_to_head.nd rfl (Or.inl rfl) (pv 1))
 (pss_cons (ps_set (i := 3) sc__comes_to_head.nd rfl (Or.inl rfl) pe_int)
 (pss_cons (ps_while PassesOwn.never (PW.pt (pw_and (pt_cmpR op_ne (pv 2) pe_int (nomark _)) (pw_and1 (pt_cmpR op_lt (pv 3) (pe_callB (call_lenK (K := K) rfl) (by rfl) B.b_len PySem.boot_len (pa_cons (pv 0) pa_nil)) (nomark _))))) (pss_cons (ps_set (i := 2) sc__comes_to_head.nd rfl (Or.inl rfl) (pe_ix (ix_tupK (K := K) rfl) (pv 0) (pe_op op_sub (pv 2) pe_int) (fun _ _ => rfl)))
 (pss_one (ps_aug (i := 3) sc__comes_to_head.nd rfl (Or.inl rfl) pe_int ip_add))))
 (pss_one (ps_ret (pe_cmpR op_eq (pv 2) pe_int (nomark _))))))), ?_⟩
    walk_at "h0"
    refine ⟨fun m σ' H' => ∃ st : Nat, st + m = hs.length ∧ σ' = [some (.ref t), some (.int k), some (.int (upN hs st k : Nat)), some (.int st)] ∧ H' = H, ⟨hs.length, 0, Nat.zero_add _, rfl, rfl⟩, ?_⟩
    rintro m σ' H' ⟨st, hst, rfl, rfl⟩
    walk_at "hs"
    refine x_isd (fun c => ?_) (fun c => ?_)
    · walk_at "hs"
      rw [nats_length]
      refine x_isd (fun c2 => ?_) (fun c2 => ?_)
      · have hup := upN_le hle st k hk
        have hat : atI (nats hs) ((upN hs st k : Nat) - 1 : Int) = some (.int (upN hs (st + 1) k : Nat)) := by
          rw [show ((upN hs st k : Nat) - 1 : Int) = ((upN hs st k - 1 : Nat) : Int) by omega]
          refine nats_at ?_
          rw [upN_succ]
          have h1 : upN hs st k - 1 < hs.length := by omega
          rw [List.getElem?_eq_getElem h1]
          have := up_at (hs := hs) (k := upN hs st k) (by omega) (List.getElem?_eq_getElem h1)
          rw [this]
        walk_at "hs"
        refine ⟨fun σ' H2 => σ' = [some (.ref t), some (.int k), some (.int (upN hs (st + 1) k : Nat)), some (.int ((st + 1 : Nat) : Int))] ∧ H2 = H', fun σ' H2 hN => ⟨m - 1, by omega, st + 1, by omega, hN.1, hN.2⟩, ?_⟩
        walk_at "hs"
        exact ⟨rfl, rfl⟩
      · walk_at "hs"
        have e : st = hs.length := by omega
        rw [← e] at q
        have e2 : decide (((upN hs st k : Nat) : Int) = 0) = decide (upN hs st k = 0) := by
          rw [decide_eq_decide]
          omega
        rw [e2]
        exact q
    · walk_at "hs"
      have h0 : upN hs st k = 0 := by omega
      have h1 := upN_more (j := hs.length) h0 (by omega)
      rw [h1] at q
      rw [h0]
      exact q
/-- what the law tells as due -/
def dueV : Due → V
  | .hung => .str "hung"
  | .block k => .int k
  | .ring _ => .non
  | .ok => .non
/-- a value that tells what is due -/
def TellsDue (H : Hp) (v : V) : Due → Prop
  | .hung => v = .str "hung"
  | .block k => v = .int (k : Nat)
  | .ring k => ∃ a, v = .ref a ∧ H a = some (.tup [.str "ring", .int (k : Nat)])
  | .ok => v = .non
/-- what is due for a value: of a tuple by its items, else hung -/
def DueV (H : Hp) (x : V) (d : Due) : Prop := (∃ a xs, x = .ref a ∧ H a = some (.tup xs) ∧ DueIs xs d ∧ ∀ y ∈ xs, Kn H y) ∨ ((∀ a xs, x = .ref a → H a ≠ some (.tup xs)) ∧ Kn H x ∧ d = .hung)
def spDue : Sp := fun vs H Q _ => ∃ (x : V), vs = [x] ∧ ((∃ a xs, x = .ref a ∧ H a = some (.tup xs) ∧ ∀ y ∈ xs, Kn H y) ∨ ((∀ a xs, x = .ref a → H a ≠ some (.tup xs)) ∧ Kn H x)) ∧ ∀ (d : Due) (v : V) H', Same H H' → DueV H x d → TellsDue H' v d → Q v H'
theorem kn_not {x : V} {H : Hp} {Q : VK} (h : ∀ a xs, x = .ref a → H a ≠ some (.tup xs)) (k : Kn H x) (q : Q (.bl false) H) : rIsi K [x, .ty "tuple"] H Q := by
  cases x with
  | non => exact isi_non_tuple q
  | bl b => exact isi_bl_tuple q
  | int b => exact isi_int_tuple q
  | str b => exact isi_str_tuple q
  | ref a =>
    rcases k with ⟨xs, e⟩ | ⟨xs, e⟩ | ⟨xs, e⟩
    · exact isi_lst_tuple e q
    · exact (h a xs rfl e).elim
    · exact isi_dK_tuple e q
  | _ => exact k.elim
end
set_option maxRecDepth 100000
set_option maxHeartbeats 1000000
open PySem PySem.Spec L2


theorem sc_BadTree___init__ : FnScope ["self", "part"] ["self", "part"] (defScope s_BadTree___init__) := ⟨rfl, rfl, rfl, by decide +kernel, rfl, by decide +kernel, by decide +kernel⟩
theorem sc_Tree___init__ : FnScope ["self", "hung", "block", "place"] ["self", "hung"] (defScope s_Tree___init__) := ⟨rfl, rfl, rfl, by decide +kernel, rfl, by decide +kernel, by decide +kernel⟩
section
variable {P : Program} {w : World} {K : PySem.W.Frag} {mg : Str → Option Value} {base : Heap} {Z : Ad}

theorem ok_bad {f : Addr} {fd : FuncData} (F : Fun K "__init__" "BadTree.__init__" s_BadTree___init__ f fd) (X_BadTree : ExcF K Z.a_BadTree f "part") : FnOk P w K mg base CX0 1 f fd ["self", "part"] (spField Z.a_BadTree "part") := by
  refine F.ok sc_BadTree___init__ (fun vs H Q E h => ?_) (fun cdv A outer s H vs Q E hr h => ?_)
  · obtain ⟨a, v, rfl, _⟩ := h
    rfl
  · obtain ⟨a, v, rfl, ha, q⟩ := h
    refine ⟨_, (pss_one (ps_ost (pv 0) (pv 1))), ?_⟩
    walk_at "h0"
    exact ⟨a, _, rfl, X_BadTree.T, X_BadTree.n, .inl ⟨ha, q⟩⟩
def spTree (Z : Ad) : Sp := fun vs H Q E => ∃ (x dx : Addr) (h : V), vs = [.ref x, h] ∧ H x = some (.ins Z.a_Tree dx []) ∧ ((∃ a xs, h = .ref a ∧ H a = some (.tup xs) ∧ ∀ y ∈ xs, Kn H y) ∨ ((∀ a xs, h = .ref a → H a ≠ some (.tup xs)) ∧ Kn H h)) ∧
  (∀ H', DueV H h .ok → But x H H' → H' x = some (.ins Z.a_Tree dx [("hung", h)]) → Q .non H') ∧ (∀ (d : Due) (e : Addr) (v : V) H', d ≠ .ok → DueV H h d → TellsDue H' v d → Same H H' → H' e = some (.xd [("part", v)]) → E (.ref Z.a_BadTree) (some e) H')
theorem ok_tree {f : Addr} {fd : FuncData} (F : Fun K "__init__" "Tree.__init__" s_Tree___init__ f fd) (B : Bl Z mg) (T : Cls K Z.a_Tree) (N : NoAttr K Z.a_Tree "hung") {f_is_within : Addr} {fd_is_within : FuncData} (C_is_within : Cal K mg "is_within" f_is_within fd_is_within ["least", "most", "thing"]) (G_is_within : FnOk P w K mg base CX0 1 f_is_within fd_is_within ["least", "most", "thing"] spWithin) {f__comes_to_head : Addr} {fd__comes_to_head : FuncData} (C__comes_to_head : Cal K mg "_comes_to_head" f__comes_to_head fd__comes_to_head ["hung", "block"]) (G__comes_to_head : FnOk P w K mg base CX0 1 f__comes_to_head fd__comes_to_head ["hung", "block"] (spComes K))
    {f_BadTree___init__ : Addr} {fd_BadTree___init__ : FuncData} (C_BadTree___init__ : CalM K f_BadTree___init__ fd_BadTree___init__ ["self", "part"]) (G_BadTree___init__ : FnOk P w K mg base CX0 1 f_BadTree___init__ fd_BadTree___init__ ["self", "part"] (spField Z.a_BadTree "part")) (X_BadTree : ExcF K Z.a_BadTree f_BadTree___init__ "part") : FnOk P w K mg base (L2.CX P w) 3 f fd ["self", "hung"] (spTree Z) := by
  refine F.okX sc_Tree___init__ (fun vs H Q E h => ?_) (fun cdv A outer s H vs Q E hr h => ?_)
  · obtain ⟨x, dx, h, rfl, _⟩ := h
    rfl
  · obtain ⟨x, dx, hv, rfl, hx, hk, q, qe⟩ := h
    refine ⟨_, (pss_cons (ps_if (PW.pt (pw_or (pt_not (pt_val (pe_callB (call_isiK' (K := K) rfl) (by rfl) B.b_isinstance (by decide +kernel) (pa_cons (pv 1) (pa_cons (pe_bltn (v := .ty "tuple") (by rfl) B.b_tuple (by decide +kernel) rfl) pa_nil))))) (pw_or1 (pt_not (pt_chain op_le op_le pe_int (pe_callB (call_lenK (K := K) rfl) (by rfl) B.b_len PySem.boot_len (pa_cons (pv 1) pa_nil)) (pe_glob (v := .int (40)) rfl B.c_MOST_BLOCKS ⟨_, rfl⟩)))))) (pss_one (ps_raise rfl (takes_of rfl rfl rfl rfl) (pmk_oex X_BadTree.T X_BadTree.i X_BadTree.t G_BadTree___init__ (hr.mono (by first | decide | omega)) C_BadTree___init__.b .nil pass0 (by rfl) B.k_BadTree (pa_cons pe_str pa_nil)))) pss_nil)
 (pss_cons (ps_for (passes_of rfl) rfl (pi_enumTK (K := K) rfl rfl (by rfl) B.b_enumerate (by decide) (by decide) (pa_cons (pv 1) pa_nil)) (pg_tup rfl (pgs_cons (pg_name (i := 2) sc_Tree___init__.nd rfl (Or.inl rfl)) (pgs_cons (pg_name (i := 3) sc_Tree___init__.nd rfl (Or.inl rfl)) pgs_nil))) (pss_one (ps_if (PW.pt (pw_or (pt_not (pt_val (pe_call G_is_within (hr.mono (by first | decide | omega)) (by rfl) C_is_within.g C_is_within.k C_is_within.b .nil pass0 (pa_cons pe_int (pa_cons (pe_callB (call_lenK (K := K) rfl) (by rfl) B.b_len PySem.boot_len (pa_cons (pv 1) pa_nil)) (pa_cons (pv 3) pa_nil)))))) (pw_or1 (pt_cmpR op_eq (pv 3) (pv 2) (nomark _))))) (pss_one (ps_raise rfl (takes_of rfl rfl rfl rfl) (pmk_oex X_BadTree.T X_BadTree.i X_BadTree.t G_BadTree___init__ (hr.mono (by first | decide | omega)) C_BadTree___init__.b .nil pass0 (by rfl) B.k_BadTree (pa_cons (pv 2) pa_nil)))) pss_nil)))
 (pss_cons (ps_for (passes_of rfl) rfl (pi_range2 rfl B.b_range (pa_cons pe_int (pa_cons (pe_op op_add (pe_callB (call_lenK (K := K) rfl) (by rfl) B.b_len PySem.boot_len (pa_cons (pv 1) pa_nil)) pe_int) pa_nil))) (pg_name (i := 2) sc_Tree___init__.nd rfl (Or.inl rfl)) (pss_one (ps_if (pt_not (pt_val (pe_call G__comes_to_head (hr.mono (by first | decide | omega)) (by rfl) C__comes_to_head.g C__comes_to_head.k C__comes_to_head.b .nil pass0 (pa_cons (pv 1) (pa_cons (pv 2) pa_nil))))) (pss_one (ps_raise rfl (takes_of rfl rfl rfl rfl) (pmk_oex X_BadTree.T X_BadTree.i X_BadTree.t G_BadTree___init__ (hr.mono (by first | decide | omega)) C_BadTree___init__.b .nil pass0 (by rfl) B.k_BadTree (pa_cons (pe_tup (pa_cons pe_str (pa_cons (pv 2) pa_nil))) pa_nil)))) pss_nil)))
 (pss_one (ps_fld (pv 0) (pv 1) rfl))))), ?_⟩
    have raised : ∀ (d : Due) (v : V) H1, d ≠ .ok → DueV H hv d → Same H H1 → (∀ H2, Same H1 H2 → TellsDue H2 v d) → [v].length ≤ 1000 ∧ ∀ a, H1 a = none → spField Z.a_BadTree "part" (.ref a :: ([v] ++ [])) (upd H1 a (exo a Z.a_BadTree none)) (fun v H2 => v = .non ∧ ∃ (d : Addr) (fs : List (Str × V)), H2 a = some (exo a Z.a_BadTree (some d)) ∧ H2 d = some (exd d fs) ∧ H1 d = none ∧ E (.ref Z.a_BadTree) (some d) (upd (del H2 a) d (.xd fs))) (fun _ _ _ => False) := fun d v H1 nd hd s1 ht =>
      mk_field fun e H' s2 _ he => qe d e v H' nd hd (ht H' s2) (s1.trans s2) he
    rcases hk with ⟨a, xs, rfl, ha, hk⟩ | ⟨hn, hk⟩
    · have qq : ∀ (d : Due) (v : V) H1, d ≠ .ok → DueIs xs d → Same H H1 → (∀ H2, Same H1 H2 → TellsDue H2 v d) → _ := fun d v H1 nd hd => raised d v H1 nd (.inl ⟨a, xs, rfl, ha, hd, hk⟩)
      have nxa : x ≠ a := fun e => by
        rw [e, ha] at hx
        cases hx
      walk_at "h0"
      refine x_isd (fun c1 => ?_) (fun c1 => ?_)
      · walk_at "hs"
        refine x_isnd (fun c2 => ?_) (fun c2 => ?_)
        · walk_at "hs"
          exact qq .hung _ H (fun e => by cases e) (.hung (by omega)) (Same.refl _) fun _ _ => rfl
        · walk_at "hs"
          refine x_ent1 (.of ha) ?_
          refine lp_enumT (K := K) (xs := xs) (fun i σ' H' => (∃ x2 x3, σ' = [some (.ref x), some (.ref a), x2, x3]) ∧ Same H H' ∧ ∀ j y, j < i → xs[j]? = some y → ¬ badV xs.length j y)
            ⟨⟨_, _, rfl⟩, Same.refl _, fun j y h => absurd h (Nat.not_lt_zero _)⟩ (fun i σ' H' _ h => .of (h.2.1 _ _ ha)) ?_ ?_
          · rintro i xi σ' H' T hxi ⟨⟨x2, x3, rfl⟩, s1, hgood⟩ hT
            have ha1 := s1 _ _ ha
            have kx := (hk _ (List.mem_of_getElem? hxi)).same (same_new (o := .tup [.int (1 + (i : Int)), xi]) s1 hT)
            have hi := (List.getElem?_eq_some_iff.mp hxi).1
            have bad : badV xs.length i xi → _ := fun b => qq (.block (i + 1)) (.int (1 + (i : Int))) (upd H' T (.tup [.int (1 + (i : Int)), xi])) (fun e => by cases e) (.block (by omega) (by omega) hgood hxi b) (same_new s1 hT) (fun _ _ => by
              show V.int (1 + (i : Int)) = V.int ((i + 1 : Nat) : Int)
              congr 1
              omega)
            walk_at "hs"
            refine ⟨_, _, _, rfl, kx, ?_⟩
            walk_at "hs"
            cases hn : numV 0 xs.length xi with
            | false =>
              walk_at "hs"
              exact bad (.inl hn)
            | true =>
              obtain ⟨z, rfl, z0, z1⟩ := num_int hn
              walk_at "hs"
              refine x_isd (fun c => ?_) (fun c => ?_)
              · walk_at "hs"
                exact bad (.inr (by rw [c]; congr 1; omega))
              · walk_at "hs"
                refine ⟨⟨_, _, rfl⟩, same_new s1 hT, fun j y hj hy => ?_⟩
                by_cases e : j = i
                · subst e
                  rw [hxi] at hy
                  cases hy
                  rintro (h | h)
                  · rw [hn] at h
                    cases h
                  · injection h with h
                    exact c (by rw [h]; omega)
                · exact hgood j y (by omega) hy
          · rintro σ' H' ⟨⟨x2, x3, rfl⟩, s1, hgood⟩
            have ha1 := s1 _ _ ha
            have hgood' : ∀ (j : Nat) y, xs[j]? = some y → ¬ badV xs.length j y := fun j y hy => hgood j y (by have := (List.getElem?_eq_some_iff.mp hy).1; omega) hy
            obtain ⟨hs, rfl, hle⟩ := good_nats xs.length fun j y hy => by
              cases hn : numV 0 xs.length y with
              | true => rfl
              | false => exact (hgood' j y hy (.inl hn)).elim
            have hlen := nats_length hs
            rw [hlen] at hle
            walk_at "hs"
            refine ⟨1, ((nats hs).length : Int) + 1, rfl, ⟨by omega, by omega, by omega, by omega⟩, ?_⟩
            refine lp_range (lo := 1) (n := Int.toNat (((nats hs).length : Int) + 1 - 1)) (fun i σ' H2 => (∃ x2 x3, σ' = [some (.ref x), some (.ref a), x2, x3]) ∧ Same H H2 ∧ ∀ j, 1 ≤ j → j < i + 1 → upN hs hs.length j = 0)
              ⟨⟨_, _, rfl⟩, s1, fun j h1 h2 => by omega⟩ ?_ ?_
            · rintro i σ' H2 hi ⟨⟨x2, x3, rfl⟩, s2, hz⟩
              have ha2 := s2 _ _ ha
              walk_at "hs"
              refine ⟨a, hs, i + 1, by rw [show 1 + (i : Int) = ((i + 1 : Nat) : Int) by omega]; rfl, .of ha2, hle, by omega, ?_⟩
              walk_at "hs"
              refine x_isnd (fun c => ?_) (fun c => ?_)
              · walk_at "hs"
                intro p hp
                walk_at "hs"
                refine qq (.ring (i + 1)) _ _ (fun e => by cases e) (.ring (by omega) (by omega) rfl hgood' (fun j h1 h2 => hz j h1 h2) (by omega) (by omega) c) (same_new s2 hp) fun H3 s3 => ⟨p, rfl, ?_⟩
                rw [s3 _ _ upd_same, show (1 + (i : Int)) = ((i + 1 : Nat) : Int) by omega]
              · walk_at "hs"
                refine ⟨⟨_, _, rfl⟩, s2, fun j h1 h2 => ?_⟩
                by_cases e : j = i + 1
                · rw [e]
                  exact c
                · exact hz j h1 (by omega)
            · rintro σ' H2 ⟨⟨x2, x3, rfl⟩, s2, hz⟩
              have hx2 := s2 _ _ hx
              walk_at "hs"
              refine ⟨x, _, dx, _, rfl, hx2, T, N, by decide, ?_⟩
              walk_at "hs"
              refine q _ (.inl ⟨a, nats hs, rfl, ha, .ok ⟨by omega, by omega, hle, fun k hk => by
                by_cases h0 : k = 0
                · rw [h0]
                  exact upN_zero hs _
                · exact hz k (by omega) (by omega)⟩ rfl hgood', hk⟩) (But.mut (.of s2)) upd_same
      · walk_at "hs"
        exact qq .hung _ H (fun e => by cases e) (.hung (by omega)) (Same.refl _) fun _ _ => rfl
    · walk_at "h0"
      refine kn_not hn hk ?_
      walk_at "hs"
      exact raised .hung _ H (fun e => by cases e) (.inr ⟨hn, hk, rfl⟩) (Same.refl _) fun _ _ => rfl
end
set_option maxRecDepth 100000
set_option maxHeartbeats 1000000
open PySem PySem.Spec L2


theorem sc_Tree___eq__ : FnScope ["self", "other"] ["self", "other"] (defScope s_Tree___eq__) := ⟨rfl, rfl, rfl, by decide +kernel, rfl, by decide +kernel, by decide +kernel⟩
section
variable {P : Program} {w : World} {K : PySem.W.Frag} {mg : Str → Option Value} {base : Heap} {Z : Ad}

/-- a tree that has been made -/
def TreeAt (Z : Ad) (H : Hp) (x : Addr) (hs : List Nat) : Prop := ∃ dx t, H x = some (.ins Z.a_Tree dx [("hung", .ref t)]) ∧ H t = some (.tup (nats hs))
theorem TreeAt.same {H H' : Hp} {x : Addr} {hs : List Nat} (s : Same H H') (h : TreeAt Z H x hs) : TreeAt Z H' x hs := by
  obtain ⟨dx, t, h1, h2⟩ := h
  exact ⟨dx, t, s _ _ h1, s _ _ h2⟩
def spEqT (Z : Ad) : Sp := fun vs H Q _ => ∃ (a b : Addr) (hs : List Nat), vs = [.ref a, .ref b] ∧ TreeAt Z H a hs ∧ ((∃ gs, TreeAt Z H b gs ∧ Q (.bl (decide (hs = gs))) H) ∨ ((∃ xs, H b = some (.tup xs)) ∧ Q (.bl false) H))
theorem ok_eqT {f : Addr} {fd : FuncData} (F : Fun K "__eq__" "Tree.__eq__" s_Tree___eq__ f fd) (B : Bl Z mg) (T : IsC K Z.a_Tree) (N : NoAttr K Z.a_Tree "hung") : FnOk P w K mg base CX0 1 f fd ["self", "other"] (spEqT Z) := by
  refine F.ok sc_Tree___eq__ (fun vs H Q E h => ?_) (fun cdv A outer s H vs Q E hr h => ?_)
  · obtain ⟨a, b, hs, rfl, _⟩ := h
    rfl
  · obtain ⟨a, b, hs, rfl, ⟨dx, t, hx, ht⟩, h⟩ := h
    refine ⟨_, (pss_one (ps_ret (pe_and (pe_callB (call_isiK' (K := K) rfl) (by rfl) B.b_isinstance (by decide +kernel) (pa_cons (pv 1) (pa_cons (pe_glob (v := .ref Z.a_Tree) rfl B.k_Tree rfl) pa_nil))) (pe_one (pe_cmpR (op_eqDK (K := K) rfl hr.units) (pe_fldK (K := K) rfl (pv 0) rfl) (pe_fldK (K := K) rfl (pv 1) rfl) (nomark _)))))), ?_⟩
    walk_at "h0"
    rcases h with ⟨gs, ⟨dy, u, hy, hu⟩, q⟩ | ⟨⟨xs, hb⟩, q⟩
    · refine isi_own T hy ?_
      walk_at "hs"
      refine ⟨a, _, dx, _, _, rfl, hx, T.cl, N, rfl, ?_⟩
      walk_at "hs"
      refine ⟨b, _, dy, _, _, rfl, hy, T.cl, N, rfl, ?_⟩
      exact x_eqTup (.of ht) (.of hu) q
    · refine isi_tupOwn T hb ?_
      walk_at "hs"
      exact q
end
set_option maxRecDepth 100000
set_option maxHeartbeats 1000000
open PySem PySem.Spec L2


section
variable {P : Program} {w : World} {K : PySem.W.Frag} {mg : Str → Option Value} {base : Heap} {Z : Ad}

def spOdd : Sp := fun vs H Q _ => ∃ (p : Addr) (n : Nat) (F : Addr → Prop), vs = [.ref p, .int n] ∧ PoolAt H p F ∧ ∀ v H', Kn H' v → v ≠ .ref p → But p H H' → PoolAt H' p F → Q v H'
/-! the law's own call of Tree, caught -/
end
set_option maxRecDepth 100000
set_option maxHeartbeats 1000000
open PySem PySem.Spec L2


section
variable {P : Program} {w : World} {K : PySem.W.Frag} {mg : Str → Option Value} {base : Heap} {Z : Ad}

/-- any tuple of what is known, or another known thing -/
def Thing (H : Hp) (x : V) : Prop := (∃ a xs, x = .ref a ∧ H a = some (.tup xs) ∧ ∀ y ∈ xs, Kn H y) ∨ ((∀ a xs, x = .ref a → H a ≠ some (.tup xs)) ∧ Kn H x)
theorem Thing.same {H H' : Hp} {x : V} (s : Same H H') (h : Thing H x) : Thing H' x := by
  rcases h with ⟨a, xs, rfl, ha, hk⟩ | ⟨hn, hk⟩
  · exact .inl ⟨a, xs, rfl, s _ _ ha, fun y hy => (hk y hy).same s⟩
  · refine .inr ⟨fun a xs e ha => ?_, hk.same s⟩
    subst e
    rcases hk with ⟨ys, e⟩ | ⟨ys, e⟩ | ⟨ys, e⟩
    · have := (s _ _ e).symm.trans ha
      cases this
    · exact hn a ys rfl e
    · have := (s _ _ e).symm.trans ha
      cases this
theorem Thing.back {H H' : Hp} {x : V} {d : Due} (h : Thing H x) (s : Same H H') (hd : DueV H' x d) : DueV H x d := by
  rcases h with ⟨a, xs, rfl, ha, hk⟩ | ⟨hn, hk⟩
  · rcases hd with ⟨b, ys, e, hb, hi, _⟩ | ⟨hn, _, _⟩
    · cases e
      have := (s _ _ ha).symm.trans hb
      cases this
      exact .inl ⟨a, xs, rfl, ha, hi, hk⟩
    · exact (hn a xs rfl (s _ _ ha)).elim
  · rcases hd with ⟨b, ys, rfl, hb, hi, _⟩ | ⟨_, _, e⟩
    · rcases hk with ⟨zs, e⟩ | ⟨zs, e⟩ | ⟨zs, e⟩
      · have := (s _ _ e).symm.trans hb
        cases this
      · exact (hn b zs rfl e).elim
      · have := (s _ _ e).symm.trans hb
        cases this
    · exact .inr ⟨hn, hk, e⟩
def spWord : Sp := fun vs H Q _ => ∃ (x : V), vs = [x] ∧ Thing H x ∧ ∀ (d : Due) (v : V) H', Same H H' → DueV H x d → TellsDue H' v d → Q v H'
structure WordX (K : PySem.W.Frag) (Z : Ad) : Prop where
  e : L2.ExcC K Z.a_BadTree
  f : XfC K Z.a_BadTree
  n : PySem.W.findIn K (.ref Z.a_BadTree) "part" = some none
  k : PySem.W.kitOne K (.ref Z.a_BadTree) (.ref Z.a_VoteError) = some true
  m : PySem.W.exmOne K (.ref Z.a_BadTree) (.ref Z.a_BadTree) = some true
end
set_option maxRecDepth 100000
set_option maxHeartbeats 4000000
open PySem PySem.Spec L2


theorem sc_law : FnScope ["_law_script", "_law_hand_here", "_law_many", "_law_hung", "_law_moves_here", "_law_last", "_law_made", "_law_safe", "_law_lot", "_law_fine", "_law_told", "_law_at", "_law_later"] ["_law_script"] (defScope s_law) := ⟨rfl, rfl, rfl, by decide +kernel, rfl, by decide +kernel, by decide +kernel⟩
section
variable {P : Program} {w : World} {K : PySem.W.Frag} {mg : Str → Option Value} {base : Heap} {Z : Ad}

theorem TellsDue.same {H H' : Hp} {v : V} {d : Due} (s : Same H H') (h : TellsDue H v d) : TellsDue H' v d := by
  cases d with
  | ring k =>
    obtain ⟨a, rfl, ha⟩ := h
    exact ⟨a, rfl, s _ _ ha⟩
  | _ => exact h
theorem TellsDue.al {H : Hp} {v u : V} {d : Due} (h : TellsDue H v d) (h' : TellsDue H u d) : Al K H 1 v u := by
  cases d with
  | ring k =>
    obtain ⟨a, rfl, ha⟩ := h
    obtain ⟨b, rfl, hb⟩ := h'
    exact Al.tups ha hb (by show 2 ≤ 1000; decide) fun z hz => by
      simp only [List.mem_cons, List.not_mem_nil, or_false] at hz
      rcases hz with rfl | rfl <;> rfl
  | hung =>
    cases h
    cases h'
    exact Al.sca rfl
  | block k =>
    cases h
    cases h'
    exact Al.sca rfl
  | ok =>
    cases h
    cases h'
    exact Al.sca rfl
theorem DueV.det {H : Hp} {x : V} {d e : Due} (h : DueV H x d) (h' : DueV H x e) : d = e := by
  rcases h with ⟨a, xs, rfl, ha, hi, _⟩ | ⟨hn, _, rfl⟩
  · rcases h' with ⟨b, ys, e, hb, hj, _⟩ | ⟨hn, _, _⟩
    · cases e
      have := ha.symm.trans hb
      cases this
      exact hi.det hj
    · exact (hn a xs rfl ha).elim
  · rcases h' with ⟨b, ys, rfl, hb, _, _⟩ | ⟨_, _, rfl⟩
    · exact (hn b ys rfl hb).elim
    · rfl
theorem tree_ok {hs : List Nat} (t : IsTree hs) : DueIs (nats hs) .ok := by
  refine .ok t rfl fun j y hy => ?_
  obtain ⟨x, hx, rfl⟩ : ∃ x : Nat, hs[j]? = some x ∧ y = .int x := by
    unfold nats at hy
    rw [List.getElem?_map] at hy
    cases e : hs[j]? with
    | none =>
      rw [e] at hy
      cases hy
    | some x =>
      rw [e] at hy
      exact ⟨x, rfl, (Option.some.inj hy).symm⟩
  have hle := t.le x (List.mem_of_getElem? hx)
  have hj := (List.getElem?_eq_some_iff.mp hx).1
  rw [nats_length]
  rintro (h | h)
  · rw [numT (by omega)] at h
    have := of_decide_eq_false h
    omega
  · injection h with h
    have e : x = j + 1 := by omega
    subst e
    have u : up hs (j + 1) = j + 1 := up_at (by omega) (by rw [Nat.add_sub_cancel]; exact hx)
    have un : ∀ n, upN hs n (j + 1) = j + 1 := fun n => by
      induction n with
      | zero => rfl
      | succ n ih =>
        show upN hs n (up hs (j + 1)) = j + 1
        rw [u]
        exact ih
    have := t.comes (j + 1) (by omega)
    rw [un] at this
    omega
theorem make_tree {H : Hp} {Q : VK} {a : Addr} {hs : List Nat} (t : IsTree hs) (ha : H a = some (.tup (nats hs))) (q : ∀ m H', H m = none → Same H H' → TreeAt Z H' m hs → Q (.ref m) H') :
    ∀ x dx, H x = none → H dx = none → dx ≠ x → spTree Z (.ref x :: ([.ref a] ++ [])) (upd (upd H dx (.own x)) x (.ins Z.a_Tree dx [])) (fun v H2 => v = .non ∧ Q (.ref x) H2) (fun _ _ _ => False) := by
  intro m dm hm hdm ne
  have hm2 : upd H dm (.own m) m = none := by
    rw [upd_ne (Ne.symm ne)]
    exact hm
  have s0 : Same H (upd (upd H dm (.own m)) m (.ins Z.a_Tree dm [])) := same_new (same_new (Same.refl H) hdm) hm2
  have hk : ∀ y ∈ nats hs, Kn H y := fun y hy => by
    obtain ⟨n, _, rfl⟩ := List.mem_map.mp hy
    exact True.intro
  have hx : Thing H (.ref a) := .inl ⟨a, _, rfl, ha, hk⟩
  have due : DueV H (.ref a) .ok := .inl ⟨a, _, rfl, ha, tree_ok t, hk⟩
  refine ⟨m, dm, .ref a, rfl, upd_same, hx.same s0, fun H' hd b1 hm1 => ⟨rfl, ?_⟩, fun d e v H' nd hd ht s1 he => nd ((hx.back s0 hd).det due)⟩
  have s1 : Same H H' := fun b o e => b1 _ _ (ne_of_none e hm) (s0 _ _ e)
  exact q m H' hm s1 ⟨dm, a, hm1, s1 _ _ ha⟩
theorem eq_trees {H : Hp} {Q : VK} {a b : Addr} {hs gs : List Nat} (h1 : TreeAt Z H a hs) (h2 : TreeAt Z H b gs) (q : Q (.bl (decide (hs = gs))) H) : rOwn Z.a_Tree (spEqT Z) (.ref a) (.ref b) H Q := by
  obtain ⟨dx, t, ha, ht⟩ := id h1
  obtain ⟨dy, u, hb, hu⟩ := id h2
  exact ⟨a, b, dx, _, rfl, rfl, ha, .inl ⟨_, _, hb⟩, a, b, hs, rfl, h1, .inl ⟨gs, h2, _, rfl, q⟩⟩
theorem eq_treeTup {H : Hp} {Q : VK} {a b : Addr} {hs : List Nat} {xs : List V} (h1 : TreeAt Z H a hs) (h2 : H b = some (.tup xs)) (q : Q (.bl false) H) : rOwn Z.a_Tree (spEqT Z) (.ref a) (.ref b) H Q := by
  obtain ⟨dx, t, ha, ht⟩ := id h1
  exact ⟨a, b, dx, _, rfl, rfl, ha, .inr ⟨_, h2⟩, a, b, hs, rfl, h1, .inr ⟨⟨_, h2⟩, _, rfl, q⟩⟩
theorem Kn.setL {H : Hp} {L : Addr} {xs ys : List V} {v : V} (hL : H L = some (.lst xs)) (k : Kn H v) : Kn (upd H L (.lst ys)) v := by
  cases v with
  | ref a =>
    by_cases e : a = L
    · subst e
      exact .inl ⟨ys, upd_same⟩
    · rcases k with ⟨z, h⟩ | ⟨z, h⟩ | ⟨z, h⟩
      · exact .inl ⟨z, keepM e h⟩
      · exact .inr (.inl ⟨z, keepM e h⟩)
      · exact .inr (.inr ⟨z, keepM e h⟩)
  | _ => exact k
theorem x_tree {H : Hp} {Q : VK} {a : Addr} {hs : List Nat} {σ : L2.St} {i : Nat} (hv : σ[i]? = some (some (.ref a))) (t : IsTree hs) (ha : H a = some (.tup (nats hs))) (q : ∀ m H', H m = none → Same H H' → TreeAt Z H' m hs → Q (.ref m) H') :
    tMake Z.a_Tree (spTree Z) [] (fun _ _ _ => False) (tCons (tVar i) tNil) σ H Q := ⟨_, hv, make_tree t ha q⟩
theorem PoolAt.lst {H : Hp} {p : Addr} {F : Addr → Prop} (h : PoolAt H p F) : ∃ xs, H p = some (.lst xs) := by
  obtain ⟨⟨g, z, gs, ss, c, n, hp, _⟩, _⟩ := h
  exact ⟨_, hp⟩
theorem Kn.pool {H H' : Hp} {p : Addr} {F : Addr → Prop} {v : V} (hp : PoolAt H' p F) (b : But p H H') (k : Kn H v) : Kn H' v := by
  by_cases e : v = .ref p
  · subst e
    exact .inl hp.lst
  · exact k.but b e
theorem Thing.pool {H H' : Hp} {p : Addr} {F F' : Addr → Prop} {v : V} (hp : PoolAt H p F) (hp' : PoolAt H' p F') (b : But p H H') (k : Thing H v) : Thing H' v := by
  obtain ⟨zs, ep⟩ := hp.lst
  obtain ⟨ws, ep'⟩ := hp'.lst
  rcases k with ⟨a, xs, rfl, ha, hk⟩ | ⟨hn, hk⟩
  · refine .inl ⟨a, xs, rfl, b _ _ (fun e => ?_) ha, fun y hy => (hk y hy).pool hp' b⟩
    subst e
    rw [ha] at ep
    cases ep
  · refine .inr ⟨fun a xs e ha => ?_, hk.pool hp' b⟩
    subst e
    by_cases e : a = p
    · subst e
      rw [ha] at ep'
      cases ep'
    · rcases hk with ⟨ys, h⟩ | ⟨ys, h⟩ | ⟨ys, h⟩
      · have := (b _ _ e h).symm.trans ha
        cases this
      · exact hn a ys rfl h
      · have := (b _ _ e h).symm.trans ha
        cases this
theorem thing_lst {H : Hp} {a : Addr} {xs : List V} (h : H a = some (.lst xs)) : Thing H (.ref a) := by
  refine .inr ⟨fun b ys e hb => ?_, .inl ⟨_, h⟩⟩
  cases e
  rw [h] at hb
  cases hb
theorem thing_dK {H : Hp} {a : Addr} {xs : List (Key × V)} (h : H a = some (.dK xs)) : Thing H (.ref a) := by
  refine .inr ⟨fun b ys e hb => ?_, .inr (.inr ⟨_, h⟩)⟩
  cases e
  rw [h] at hb
  cases hb
theorem thing_nats {H : Hp} {a : Addr} {l : List Nat} (h : H a = some (.tup (nats l))) : Thing H (.ref a) := .inl ⟨a, _, rfl, h, fun y hy => by
  obtain ⟨n, _, rfl⟩ := List.mem_map.mp hy
  exact True.intro⟩
theorem pick_at {H0 H : Hp} {p M : Addr} {items : List V} {F : Addr → Prop} {Q : VK} {E : XK} (hp : PoolAt H0 p F) (s : Same H0 H) (hM : H M = some (.lst items)) (n : M ≠ p) (h0 : 0 < items.length) (h1 : items.length ≤ 1000) (ht : ∀ v ∈ items, Thing H v)
    (q : ∀ v H5, Thing H5 v → But p H0 H5 → PoolAt H5 p F → Q v H5) : spPick K ([.ref p, .ref M] ++ []) H Q E :=
  ⟨p, M, items, F, rfl, hp.same s, .of hM, n, h0, h1, fun v H5 hm b5 p5 => q v H5 ((ht v hm).pool (hp.same s) p5 b5) (fun b o nb e => b5 b o nb (s b o e)) p5⟩
def spLaw (K : PySem.W.Frag) : Sp := fun vs H Q _ => ∃ (a : Addr) (ns : List Int), vs = [.ref a] ∧ SqL K H a (ns.map V.int) ∧ ns.length ≤ 63 ∧ ∀ H', Q (.bl true) H'
end
set_option maxRecDepth 100000
set_option maxHeartbeats 1000000
open PySem PySem.Spec L2


theorem sc_is_block : FnScope ["tree", "thing"] ["tree", "thing"] (defScope s_is_block) := ⟨rfl, rfl, rfl, by decide +kernel, rfl, by decide +kernel, by decide +kernel⟩
theorem sc_is_place : FnScope ["tree", "thing"] ["tree", "thing"] (defScope s_is_place) := ⟨rfl, rfl, rfl, by decide +kernel, rfl, by decide +kernel, by decide +kernel⟩
theorem sc_place_of : FnScope ["tree", "block"] ["tree", "block"] (defScope s_place_of) := ⟨rfl, rfl, rfl, by decide +kernel, rfl, by decide +kernel, by decide +kernel⟩
theorem sc_parents : FnScope ["tree", "block", "above"] ["tree", "block"] (defScope s_parents) := ⟨rfl, rfl, rfl, by decide +kernel, rfl, by decide +kernel, by decide +kernel⟩
section
variable {P : Program} {w : World} {K : PySem.W.Frag} {mg : Str → Option Value} {base : Heap} {Z : Ad}
def spIsB (Z : Ad) (lo : Int) : Sp := fun vs H Q _ => ∃ (x : Addr) (hs : List Nat) (v : V), vs = [.ref x, v] ∧ TreeAt Z H x hs ∧ Kn H v ∧ Q (.bl (numV lo hs.length v)) H
theorem ok_isBlock {f : Addr} {fd : FuncData} (F : Fun K "is_block" "is_block" s_is_block f fd) (B : Bl Z mg) (T : Cls K Z.a_Tree) (N : NoAttr K Z.a_Tree "hung") {f_is_within : Addr} {fd_is_within : FuncData} (C_is_within : Cal K mg "is_within" f_is_within fd_is_within ["least", "most", "thing"]) (G_is_within : FnOk P w K mg base CX0 1 f_is_within fd_is_within ["least", "most", "thing"] spWithin) : FnOk P w K mg base CX0 2 f fd ["tree", "thing"] (spIsB Z 1) := by
  refine F.ok sc_is_block (fun vs H Q E h => ?_) (fun cdv A outer s H vs Q E hr h => ?_)
  · obtain ⟨x, hs, v, rfl, _⟩ := h
    rfl
  · obtain ⟨x, hs, v, rfl, ht, hk, q⟩ := h
    refine ⟨_, (pss_one (ps_ret (pe_call G_is_within (hr.mono (by first | decide | omega)) (by rfl) C_is_within.g C_is_within.k C_is_within.b .nil pass0 (pa_cons pe_int (pa_cons (pe_callB (call_lenK (K := K) rfl) (by rfl) B.b_len PySem.boot_len (pa_cons (pe_fldK (K := K) rfl (pv 0) rfl) pa_nil)) (pa_cons (pv 1) pa_nil)))))), ?_⟩
    walk_at "h0"
    obtain ⟨dx, t, h1, h2⟩ := ht
    have h3 : SqT K H t (nats hs) := .of h2
    refine ⟨x, _, dx, _, _, rfl, h1, T, N, rfl, ?_⟩
    walk_at "hs"
    rw [nats_length]
    exact ⟨v, 1, _, rfl, hk, q⟩
theorem ok_isPlace {f : Addr} {fd : FuncData} (F : Fun K "is_place" "is_place" s_is_place f fd) (B : Bl Z mg) (T : Cls K Z.a_Tree) (N : NoAttr K Z.a_Tree "hung") {f_is_within : Addr} {fd_is_within : FuncData} (C_is_within : Cal K mg "is_within" f_is_within fd_is_within ["least", "most", "thing"]) (G_is_within : FnOk P w K mg base CX0 1 f_is_within fd_is_within ["least", "most", "thing"] spWithin) : FnOk P w K mg base CX0 2 f fd ["tree", "thing"] (spIsB Z 0) := by
  refine F.ok sc_is_place (fun vs H Q E h => ?_) (fun cdv A outer s H vs Q E hr h => ?_)
  · obtain ⟨x, hs, v, rfl, _⟩ := h
    rfl
  · obtain ⟨x, hs, v, rfl, ht, hk, q⟩ := h
    refine ⟨_, (pss_one (ps_ret (pe_call G_is_within (hr.mono (by first | decide | omega)) (by rfl) C_is_within.g C_is_within.k C_is_within.b .nil pass0 (pa_cons pe_int (pa_cons (pe_callB (call_lenK (K := K) rfl) (by rfl) B.b_len PySem.boot_len (pa_cons (pe_fldK (K := K) rfl (pv 0) rfl) pa_nil)) (pa_cons (pv 1) pa_nil)))))), ?_⟩
    walk_at "h0"
    obtain ⟨dx, t, h1, h2⟩ := ht
    have h3 : SqT K H t (nats hs) := .of h2
    refine ⟨x, _, dx, _, _, rfl, h1, T, N, rfl, ?_⟩
    walk_at "hs"
    rw [nats_length]
    exact ⟨v, 0, _, rfl, hk, q⟩
theorem num_nat {lo : Int} {n k : Nat} (h1 : lo ≤ k) (h2 : k ≤ n) : numV lo n (.int k) = true := by
  rw [numT h1]
  exact decide_eq_true (by omega)
def spPlace (Z : Ad) : Sp := fun vs H Q _ => ∃ (x : Addr) (hs : List Nat) (k : Nat), vs = [.ref x, .int k] ∧ TreeAt Z H x hs ∧ 1 ≤ k ∧ k ≤ hs.length ∧ Q (.int (up hs k : Nat)) H
theorem ok_place {f : Addr} {fd : FuncData} (F : Fun K "place_of" "place_of" s_place_of f fd) (B : Bl Z mg) (T : Cls K Z.a_Tree) (N : NoAttr K Z.a_Tree "hung") {f_is_block : Addr} {fd_is_block : FuncData} (C_is_block : Cal K mg "is_block" f_is_block fd_is_block ["tree", "thing"]) (G_is_block : FnOk P w K mg base CX0 2 f_is_block fd_is_block ["tree", "thing"] (spIsB Z 1)) : FnOk P w K mg base CX0 3 f fd ["tree", "block"] (spPlace Z) := by
  refine F.ok sc_place_of (fun vs H Q E h => ?_) (fun cdv A outer s H vs Q E hr h => ?_)
  · obtain ⟨x, hs, k, rfl, _⟩ := h
    rfl
  · obtain ⟨x, hs, k, rfl, ht, h1, h2, q⟩ := h
    refine ⟨_, (pss_cons (ps_if (pt_not (pt_val (pe_call G_is_block (hr.mono (by first | decide | omega)) (by rfl) C_is_block.g C_is_block.k C_is_block.b .nil pass0 (pa_cons (pv 0) (pa_cons (pv 1) pa_nil))))) (pss_one ps_never) pss_nil)
 (pss_one (ps_ret (pe_ix (ix_tupK (K := K) rfl) (pe_fldK (K := K) rfl (pv 0) rfl) (pe_op op_sub (pv 1) pe_int) (fun _ _ => rfl))))), ?_⟩
    walk_at "h0"
    refine ⟨x, hs, _, rfl, ht, True.intro, ?_⟩
    rw [num_nat (by omega) h2]
    have hat : atI (nats hs) ((k : Int) - 1) = some (.int (up hs k : Nat)) := by
      rw [show (k : Int) - 1 = ((k - 1 : Nat) : Int) by omega]
      exact nats_at (up_get h1 h2)
    walk_at "hs"
    obtain ⟨dx, t, e1, e2⟩ := ht
    have e3 : SqT K H t (nats hs) := .of e2
    refine ⟨x, _, dx, _, _, rfl, e1, T, N, rfl, ?_⟩
    walk_at "hs"
    exact q
def spParents (Z : Ad) : Sp := fun vs H Q _ => ∃ (x : Addr) (hs : List Nat) (k : Nat), vs = [.ref x, .int k] ∧ TreeAt Z H x hs ∧ IsTree hs ∧ 1 ≤ k ∧ k ≤ hs.length ∧ ∀ D H', Same H H' → H D = none → H' D = some (.tup (nats (way hs k))) → Q (.ref D) H'
theorem ok_parents {f : Addr} {fd : FuncData} (F : Fun K "parents" "parents" s_parents f fd) (B : Bl Z mg) {f_place_of : Addr} {fd_place_of : FuncData} (C_place_of : Cal K mg "place_of" f_place_of fd_place_of ["tree", "block"]) (G_place_of : FnOk P w K mg base CX0 3 f_place_of fd_place_of ["tree", "block"] (spPlace Z)) : FnOk P w K mg base CX0 4 f fd ["tree", "block"] (spParents Z) := by
  refine F.ok sc_parents (fun vs H Q E h => ?_) (fun cdv A outer s H vs Q E hr h => ?_)
  · obtain ⟨x, hs, k, rfl, _⟩ := h
    rfl
  · obtain ⟨x, hs, k, rfl, ht, it, h1, h2, q⟩ := h
    refine ⟨_, (pss_cons (ps_set (i := 2) sc_parents.nd rfl (Or.inl rfl) (pe_lst (pa_cons (pe_call G_place_of (hr.mono (by first | decide | omega)) (by rfl) C_place_of.g C_place_of.k C_place_of.b .nil pass0 (pa_cons (pv 0) (pa_cons (pv 1) pa_nil))) pa_nil)))
 (pss_cons (ps_while PassesOwn.never (pt_cmpR op_ne (pe_ix (ix_listK (K := K) rfl) (pv 2) (pe_un un_neg pe_int) (fun _ _ => rfl)) pe_int (nomark _)) (pss_one (ps_expr (pe_bmK (K := K) rfl PySem.F.plainAttrs_list PySem.F.slot_list_append PySem.F.type_list_append mt_append (pv 2) (pa_cons (pe_call G_place_of (hr.mono (by first | decide | omega)) (by rfl) C_place_of.g C_place_of.k C_place_of.b .nil pass0 (pa_cons (pv 0) (pa_cons (pe_ix (ix_listK (K := K) rfl) (pv 2) (pe_un un_neg pe_int) (fun _ _ => rfl)) pa_nil))) pa_nil)))))
 (pss_one (ps_ret (pe_callTy (call_tplK (K := K) rfl) (by rfl) B.b_tuple (by decide +kernel) (pa_cons (pv 2) pa_nil)))))), ?_⟩
    walk_at "h0"
    refine ⟨x, hs, k, rfl, ht, h1, h2, ?_⟩
    walk_at "hs"
    intro L hL
    walk_at "hs"
    refine ⟨fun m σ' H' => ∃ n : Nat, n + m = hs.length ∧ 1 ≤ n ∧ σ' = [some (.ref x), some (.int k), some (.ref L)] ∧ Same H H' ∧ (∀ j, j < n → upN hs j k ≠ 0) ∧ H' L = some (.lst (nats ((List.range n).map fun i => upN hs (i + 1) k))), ⟨hs.length - 1, 1, by omega, by omega, rfl, by walk_at "sm", fun j hj => ?_, upd_same⟩, ?_⟩
    · have e : j = 0 := by omega
      subst e
      show k ≠ 0
      omega
    · rintro m σ' H' ⟨n, hn, n1, rfl, s1, hz, eL⟩
      obtain ⟨n, rfl⟩ : ∃ n', n = n' + 1 := ⟨n - 1, by omega⟩
      have el : nats ((List.range (n + 1)).map fun i => upN hs (i + 1) k) = nats ((List.range n).map fun i => upN hs (i + 1) k) ++ [.int (upN hs (n + 1) k : Nat)] := by
        rw [List.range_succ, List.map_append, nats_append]
        rfl
      have hL1 : SqL K H' L (nats ((List.range (n + 1)).map fun i => upN hs (i + 1) k)) := .of eL
      have hat : atI (nats ((List.range (n + 1)).map fun i => upN hs (i + 1) k)) (-1) = some (.int (upN hs (n + 1) k : Nat)) := by
        rw [el]
        exact atI_last _ _
      walk_at "hs"
      refine x_isd (fun c => ?_) (fun c => ?_)
      · have c' : upN hs (n + 1) k ≠ 0 := fun e => c (by rw [e]; rfl)
        have hlt : n + 1 < hs.length := by
          refine Nat.lt_of_not_le fun hle => c' ?_
          exact upN_more (it.comes k h2) hle
        have hup := upN_le it.le (n + 1) k h2
        refine ⟨fun σ' H2 => σ' = [some (.ref x), some (.int k), some (.ref L)] ∧ Same H H2 ∧ H2 L = some (.lst (nats ((List.range (n + 1 + 1)).map fun i => upN hs (i + 1) k))), fun σ' H2 hN => ⟨m - 1, by omega, n + 1 + 1, by omega, by omega, hN.1, hN.2.1, fun j hj => ?_, hN.2.2⟩, ?_⟩
        · by_cases e : j = n + 1
          · rw [e]
            exact c'
          · exact hz j (by omega)
        · walk_at "hs"
          refine ⟨x, hs, upN hs (n + 1) k, rfl, ht.same s1, by omega, hup, ?_⟩
          walk_at "hs"
          refine x_append eL (by rw [nats_length, List.length_map, List.length_range]; exact szLt (by have := it.most; omega)) ?_
          walk_at "hs"
          refine ⟨rfl, by walk_at "sm", ?_⟩
          rw [upd_same, List.range_succ (n := n + 1), List.map_append, nats_append, List.map_cons, List.map_nil, upN_succ hs (n + 1)]
          rfl
      · have c' : upN hs (n + 1) k = 0 := by
          refine Decidable.byContradiction fun e => c fun e' => e ?_
          omega
        walk_at "hs"
        intro D hD
        refine q D _ (by walk_at "sm") (s1.free hD) ?_
        rw [upd_same, way, wayN_eq hs hs.length k (n + 1) hz c' (by omega)]
end
set_option maxRecDepth 100000
set_option maxHeartbeats 1000000
open PySem PySem.Spec L2


theorem sc_beneath : FnScope ["tree", "place", "blocks", "block"] ["tree", "place"] (defScope s_beneath) := ⟨rfl, rfl, rfl, by decide +kernel, rfl, by decide +kernel, by decide +kernel⟩
section
variable {P : Program} {w : World} {K : PySem.W.Frag} {mg : Str → Option Value} {base : Heap} {Z : Ad}
def spUnder (Z : Ad) : Sp := fun vs H Q _ => ∃ (x : Addr) (hs : List Nat) (p : Nat), vs = [.ref x, .int p] ∧ TreeAt Z H x hs ∧ IsTree hs ∧ p ≤ hs.length ∧ ∀ D H', Same H H' → H D = none → H' D = some (.tup (nats (kids hs p))) → Q (.ref D) H'
def spBeneath (Z : Ad) : Sp := fun vs H Q _ => ∃ (x : Addr) (hs : List Nat) (p : Nat), vs = [.ref x, .int p] ∧ TreeAt Z H x hs ∧ IsTree hs ∧ p ≤ hs.length ∧ ∀ D H', Same H H' → H D = none → H' D = some (.tup (nats (below hs p))) → Q (.ref D) H'
theorem ok_beneath {f : Addr} {fd : FuncData} (F : Fun K "beneath" "beneath" s_beneath f fd) (B : Bl Z mg) (T : Cls K Z.a_Tree) (N : NoAttr K Z.a_Tree "hung") {f_is_place : Addr} {fd_is_place : FuncData} (C_is_place : Cal K mg "is_place" f_is_place fd_is_place ["tree", "thing"]) (G_is_place : FnOk P w K mg base CX0 2 f_is_place fd_is_place ["tree", "thing"] (spIsB Z 0))
    {f_parents : Addr} {fd_parents : FuncData} (C_parents : Cal K mg "parents" f_parents fd_parents ["tree", "block"]) (G_parents : FnOk P w K mg base CX0 4 f_parents fd_parents ["tree", "block"] (spParents Z)) : FnOk P w K mg base CX0 5 f fd ["tree", "place"] (spBeneath Z) := by
  refine F.ok sc_beneath (fun vs H Q E h => ?_) (fun cdv A outer s H vs Q E hr h => ?_)
  · obtain ⟨x, hs, p, rfl, _⟩ := h
    rfl
  · obtain ⟨x, hs, p, rfl, ht, it, hp, q⟩ := h
    refine ⟨_, (pss_cons (ps_if (pt_not (pt_val (pe_call G_is_place (hr.mono (by first | decide | omega)) (by rfl) C_is_place.g C_is_place.k C_is_place.b .nil pass0 (pa_cons (pv 0) (pa_cons (pv 1) pa_nil))))) (pss_one ps_never) pss_nil)
 (pss_cons (ps_set (i := 2) sc_beneath.nd rfl (Or.inl rfl) (pe_callTy call_rng2 (by rfl) B.b_range (by decide +kernel) (pa_cons pe_int (pa_cons (pe_op op_add (pe_callB (call_lenK (K := K) rfl) (by rfl) B.b_len PySem.boot_len (pa_cons (pe_fldK (K := K) rfl (pv 0) rfl) pa_nil)) pe_int) pa_nil))))
 (pss_one (ps_ret (pe_callTy (call_tplK (K := K) rfl) (by rfl) B.b_tuple (by decide +kernel) (pa_cons (pe_lc (own := [("block", 3)]) rfl sc_beneath.nd (pi_rngV (pv 2)) (blkOk_by (N := ["tree", "place", "blocks", "block"]) (sc := defScope s_beneath) (by decide +kernel)) (fun _ _ _ _ _ => (pg_name (i := 3) sc_beneath.nd rfl (Or.inl rfl))) (fun _ _ _ _ _ => (pts_one (pt_cmpR (op_inK (K := K) rfl) (pv 1) (pe_call G_parents (hr.mono (by first | decide | omega)) (by rfl) C_parents.g C_parents.k C_parents.b .nil pass0 (pa_cons (pv 0) (pa_cons (pv 3) pa_nil))) (by rfl)))) (fun _ _ _ _ _ => (pv 3))) pa_nil)))))), ?_⟩
    walk_at "h0"
    refine ⟨x, hs, _, rfl, ht, True.intro, ?_⟩
    rw [num_nat (by omega) hp]
    walk_at "hs"
    obtain ⟨dx, t, h1, h2⟩ := id ht
    have h3 : SqT K H t (nats hs) := .of h2
    refine ⟨x, _, dx, _, _, rfl, h1, T, N, rfl, ?_⟩
    walk_at "hs"
    rw [nats_length]
    intro R hR
    walk_at "hs"
    have := it.most
    refine ⟨R, _, _, rfl, upd_same, ⟨by omega, by omega, by omega, by omega⟩, fun D hD => ?_⟩
    have nD : H D = none := Same.free (same_new (Same.refl _) hR) hD
    have en : Int.toNat ((hs.length : Int) + 1 - 1) = hs.length := by omega
    refine lc_range (lo := 1) (n := Int.toNat ((hs.length : Int) + 1 - 1)) (fun i H' => Same H H' ∧ H' D = some (.lst (nats ((List.range' 1 i).filter fun b => decide (p ∈ way hs b)))))
      ⟨same_mut (same_new (Same.refl _) hR) nD, upd_same⟩ ?_ ?_
    · rintro i H' hi ⟨s1, eD⟩
      walk_at "hs"
      refine ⟨rfl, ?_⟩
      walk_at "hs"
      have ec : ((1 : Int) + (i : Int)) = ((i + 1 : Nat) : Int) := by omega
      refine ⟨x, hs, i + 1, by rw [ec]; rfl, ht.same s1, it, by omega, by omega, fun U H2 s2 nU eU => ?_⟩
      have eD2 := s2 _ _ eD
      refine x_inNT (.of eU) ?_
      walk_at "hs"
      refine x_isd (fun c => ?_) (fun c => ?_)
      · walk_at "hs"
        refine ⟨_, eD2, by rw [nats_length]; exact szLt (by have := filter_len (fun b => decide (p ∈ way hs b)) i; omega), same_mut (s1.trans s2) nD, ?_⟩
        rw [upd_same, filter_snoc, if_pos (decide_eq_true c), nats_append, ec]
        rfl
      · refine ⟨s1.trans s2, ?_⟩
        rw [eD2, filter_snoc, if_neg (by rw [decide_eq_true_eq]; exact c), List.append_nil]
    · rintro H' ⟨s1, eD⟩
      rw [en] at eD
      have hL : SqL K H' D _ := .of eD
      walk_at "hs"
      intro U hU
      exact q U _ (by walk_at "sm") (s1.free hU) upd_same
def spWay (K : PySem.W.Frag) : Sp := fun vs H Q _ => ∃ (t : Addr) (hs : List Nat) (k : Nat), vs = [.ref t, .int k] ∧ SqT K H t (nats hs) ∧ (∀ x ∈ hs, x ≤ hs.length) ∧ hs.length ≤ 40 ∧ k ≤ hs.length ∧ ∀ D H', Same H H' → H D = none → H' D = some (.lst (nats (way hs k))) → Q (.ref D) H'
end
set_option maxRecDepth 100000
set_option maxHeartbeats 2000000
open PySem PySem.Spec L2


theorem sc_moved : FnScope ["tree", "block", "place"] ["tree", "block", "place"] (defScope s_moved) := ⟨rfl, rfl, rfl, by decide +kernel, rfl, by decide +kernel, by decide +kernel⟩
section
variable {P : Program} {w : World} {K : PySem.W.Frag} {mg : Str → Option Value} {base : Heap} {Z : Ad}
def spOrd (K : PySem.W.Frag) (Z : Ad) : Sp := fun vs H Q _ => ∃ (x t : Addr) (hs ms : List Nat), vs = [.ref x, .ref t] ∧ TreeAt Z H x hs ∧ IsTree hs ∧ SqT K H t (nats ms) ∧ IsOrd hs.length ms ∧ ∀ H', Same H H' → Q (.bl true) H'
def spCalled (K : PySem.W.Frag) (Z : Ad) : Sp := fun vs H Q _ => ∃ (x t : Addr) (hs ms : List Nat), vs = [.ref x, .ref t] ∧ TreeAt Z H x hs ∧ IsTree hs ∧ SqT K H t (nats ms) ∧ IsOrd hs.length ms ∧ ∀ m H', Same H H' → H m = none → TreeAt Z H' m (call2 hs ms) → Q (.ref m) H'
def spMoved (Z : Ad) : Sp := fun vs H Q E => ∃ (x : Addr) (hs : List Nat) (b p : Nat), vs = [.ref x, .int b, .int p] ∧ TreeAt Z H x hs ∧ IsTree hs ∧ 1 ≤ b ∧ b ≤ hs.length ∧ p ≤ hs.length ∧
  (p ≠ b → b ∉ way hs p → ∀ m H', Same H H' → H m = none → TreeAt Z H' m (put hs b p) → Q (.ref m) H') ∧ ((p = b ∨ b ∈ way hs p) → ∀ H', Same H H' → E (.ref Z.a_Beneath) none H')
theorem ok_moved {f fI : Addr} {fd : FuncData} (F : Fun K "moved" "moved" s_moved f fd) (B : Bl Z mg) (T : Cls K Z.a_Tree) (N : NoAttr K Z.a_Tree "hung") (X_Beneath : SupC P K Z.a_Beneath fI) {f_is_block : Addr} {fd_is_block : FuncData} (C_is_block : Cal K mg "is_block" f_is_block fd_is_block ["tree", "thing"]) (G_is_block : FnOk P w K mg base CX0 2 f_is_block fd_is_block ["tree", "thing"] (spIsB Z 1))
    {f_is_place : Addr} {fd_is_place : FuncData} (C_is_place : Cal K mg "is_place" f_is_place fd_is_place ["tree", "thing"]) (G_is_place : FnOk P w K mg base CX0 2 f_is_place fd_is_place ["tree", "thing"] (spIsB Z 0)) {f_beneath : Addr} {fd_beneath : FuncData} (C_beneath : Cal K mg "beneath" f_beneath fd_beneath ["tree", "place"]) (G_beneath : FnOk P w K mg base CX0 5 f_beneath fd_beneath ["tree", "place"] (spBeneath Z))
    {f_Tree___init__ : Addr} {fd_Tree___init__ : FuncData} (C_Tree___init__ : CalM K f_Tree___init__ fd_Tree___init__ ["self", "hung"]) (G_Tree___init__ : FnOk P w K mg base (L2.CX P w) 3 f_Tree___init__ fd_Tree___init__ ["self", "hung"] (spTree Z)) (M_Tree : Mk K Z.a_Tree f_Tree___init__) : FnOk P w K mg base (L2.CX P w) 6 f fd ["tree", "block", "place"] (spMoved Z) := by
  refine F.okX sc_moved (fun vs H Q E h => ?_) (fun cdv A outer s H vs Q E hr h => ?_)
  · obtain ⟨x, hs, b, p, rfl, _⟩ := h
    rfl
  · obtain ⟨x, hs, b, p, rfl, ht, it, b1, b2, hp, q, qe⟩ := h
    refine ⟨_, (pss_cons (ps_if (pt_not (pt_val (pe_call G_is_block (hr.mono (by first | decide | omega)) (by rfl) C_is_block.g C_is_block.k C_is_block.b .nil pass0 (pa_cons (pv 0) (pa_cons (pv 1) pa_nil))))) (pss_one ps_never) pss_nil)
 (pss_cons (ps_if (pt_not (pt_val (pe_call G_is_place (hr.mono (by first | decide | omega)) (by rfl) C_is_place.g C_is_place.k C_is_place.b .nil pass0 (pa_cons (pv 0) (pa_cons (pv 2) pa_nil))))) (pss_one ps_never) pss_nil)
 (pss_cons (ps_if (PW.pt (pw_or (pt_cmpR op_eq (pv 2) (pv 1) (nomark _)) (pw_or1 (pt_cmpR (op_inK (K := K) rfl) (pv 2) (pe_call G_beneath (hr.mono (by first | decide | omega)) (by rfl) C_beneath.g C_beneath.k C_beneath.b .nil pass0 (pa_cons (pv 0) (pa_cons (pv 1) pa_nil))) (by rfl))))) (pss_one (ps_raise rfl (takes_of rfl rfl rfl rfl) (pmk_sup X_Beneath (hr.mono (by first | decide | omega)) (by rfl) B.k_Beneath B.b_super))) pss_nil)
 (pss_one (ps_ret (pe_make M_Tree G_Tree___init__ (hr.mono (by first | decide | omega)) (by rfl) B.k_Tree C_Tree___init__.b .nil passE (pa_cons (pe_op (op_catAK (K := K) rfl) (pe_op (op_catAK (K := K) rfl) (pe_slice (sl_tupAK (K := K) rfl) (pe_fldK (K := K) rfl (pv 0) rfl) po_none (po_some (pe_op op_sub (pv 1) pe_int))) (pe_tup (pa_cons (pv 2) pa_nil))) (pe_slice (sl_tupAK (K := K) rfl) (pe_fldK (K := K) rfl (pv 0) rfl) (po_some (pv 1)) po_none)) pa_nil))))))), ?_⟩
    walk_at "h0"
    refine ⟨x, hs, _, rfl, ht, True.intro, ?_⟩
    rw [num_nat (by omega) b2]
    walk_at "hs"
    refine ⟨x, hs, _, rfl, ht, True.intro, ?_⟩
    rw [num_nat (by omega) hp]
    walk_at "hs"
    have dz : decide ((p : Int) = (b : Int)) = decide (p = b) := by
      rw [decide_eq_decide]
      omega
    refine x_isd (fun c => ?_) (fun c => ?_)
    · walk_at "hs"
      exact qe (.inl (by omega)) _ (Same.refl _)
    · have c' : p ≠ b := fun e => c (by rw [e])
      walk_at "hs"
      refine ⟨x, hs, b, rfl, ht, it, b2, fun D H1 s1 nD eD => ?_⟩
      refine x_inNT (.of eD) ?_
      walk_at "hs"
      refine x_isd (fun c2 => ?_) (fun c2 => ?_)
      · have c3 := (below_mem hp).mp c2
        walk_at "hs"
        exact qe (.inr c3) _ s1
      · have c3 : b ∉ way hs p := fun h => c2 ((below_mem hp).mpr h)
        walk_at "hs"
        refine x_make ?_
        walk_at "hs"
        have := it.most
        have nl := nats_length hs
        obtain ⟨dx, u, h1, h2⟩ := ht.same s1
        refine ⟨x, _, dx, _, _, rfl, h1, T, N, rfl, ?_⟩
        walk_at "hs"
        refine x_slA h2 fun D2 H2 s2 e2 => ?_
        rw [show ((b : Int) - 1) = ((b - 1 : Nat) : Int) by omega, cut_take] at e2
        walk_at "hs"
        intro p1 n1
        walk_at "hs"
        refine x_catA (keepN e2 n1) upd_same (by rw [List.length_take, List.length_cons, List.length_nil]; omega) fun D3 H3 s3 e3 => ?_
        have s13 : Same H1 H3 := fun a o e => s3 _ _ (keepN (s2 _ _ e) n1)
        walk_at "hs"
        refine ⟨x, _, dx, _, _, rfl, s13 _ _ h1, T, N, rfl, ?_⟩
        walk_at "hs"
        refine x_slA (s13 _ _ h2) fun D4 H4 s4 e4 => ?_
        rw [cut_drop] at e4
        refine x_catA (s4 _ _ e3) e4 (by rw [List.length_append, List.length_take, List.length_drop, List.length_cons, List.length_nil]; omega) fun D5 H5 s5 e5 => ?_
        rw [put_cut b1 b2] at e5
        walk_at "hs"
        refine make_tree (Q := Q) (put_tree it b1 b2 hp c' c3) e5 fun m H6 nm s6 tr => ?_
        have s05 : Same H H5 := fun a o e => s5 _ _ (s4 _ _ (s13 _ _ (s1 _ _ e)))
        exact q c' c3 m H6 (s05.trans s6) (s05.free nm) tr
end
set_option maxRecDepth 100000
set_option maxHeartbeats 1000000
open PySem PySem.Spec L2


theorem sc_is_pair : FnScope ["thing"] ["thing"] (defScope s_is_pair) := ⟨rfl, rfl, rfl, by decide +kernel, rfl, by decide +kernel, by decide +kernel⟩
def tupOf (H : Hp) : V → Option (List V)
  | .ref a => match H a with
    | some (.tup xs) => some xs
    | _ => none
  | _ => none
def isBlB : V → Bool
  | .bl _ => true
  | _ => false
def lenIs (H : Hp) (m : Int) (x : V) : Bool := match tupOf H x with
  | some xs => decide ((xs.length : Int) = m)
  | none => false
/-- a value of a known kind -/
def Kv (Z : Ad) (H : Hp) : V → Prop
  | .non => True
  | .bl _ => True
  | .int _ => True
  | .str _ => True
  | .ref a => (∃ xs, H a = some (.lst xs)) ∨ (∃ xs, H a = some (.tup xs)) ∨ (∃ kvs : List (Key × V), H a = some (.dK kvs)) ∨ ∃ dx fs, H a = some (.ins Z.a_Tree dx fs)
  | _ => False
def KvD (Z : Ad) (H : Hp) : Nat → V → Prop
  | 0, v => Kv Z H v
  | n + 1, v => Kv Z H v ∧ ∀ xs, tupOf H v = some xs → ∀ x ∈ xs, KvD Z H n x
theorem KvD.kv {Z : Ad} {H : Hp} {n : Nat} {v : V} (h : KvD Z H n v) : Kv Z H v := by
  cases n with
  | zero => exact h
  | succ n => exact h.1
theorem Kv.some {Z : Ad} {H : Hp} {a : Addr} (h : Kv Z H (.ref a)) : ∃ o, H a = some o := by
  rcases h with ⟨x, e⟩ | ⟨x, e⟩ | ⟨x, e⟩ | ⟨x, y, e⟩ <;> exact ⟨_, e⟩
theorem tupOf_same {Z : Ad} {H H' : Hp} {v : V} (s : Same H H') (k : Kv Z H v) : tupOf H' v = tupOf H v := by
  cases v with
  | ref a =>
    obtain ⟨o, e⟩ := k.some
    show (match H' a with | some (.tup xs) => some xs | _ => none) = (match H a with | some (.tup xs) => some xs | _ => none)
    rw [s _ _ e, e]
  | _ => rfl
theorem Kv.same {Z : Ad} {H H' : Hp} {v : V} (s : Same H H') (k : Kv Z H v) : Kv Z H' v := by
  cases v with
  | ref a =>
    rcases k with ⟨x, e⟩ | ⟨x, e⟩ | ⟨x, e⟩ | ⟨x, y, e⟩
    · exact .inl ⟨x, s _ _ e⟩
    · exact .inr (.inl ⟨x, s _ _ e⟩)
    · exact .inr (.inr (.inl ⟨x, s _ _ e⟩))
    · exact .inr (.inr (.inr ⟨x, y, s _ _ e⟩))
  | _ => exact k
theorem KvD.same {Z : Ad} {H H' : Hp} (s : Same H H') : ∀ {n : Nat} {v : V}, KvD Z H n v → KvD Z H' n v
  | 0, _, h => Kv.same s h
  | n + 1, v, h => ⟨h.1.same s, fun xs e x hx => by
    rw [tupOf_same s h.1] at e
    exact (h.2 xs e x hx).same s⟩
/-- what is asked of the class of words, for isinstance -/
structure InsK (K : PySem.W.Frag) (Z : Ad) : Prop where
  i : IsC K Z.a_Tree
  k : ∀ T : String, T = "int" ∨ T = "bool" ∨ T = "tuple" ∨ T = "list" → PySem.W.kitOne K (.ref Z.a_Tree) (.type T) = some false
section
variable {P : Program} {w : World} {K : PySem.W.Frag} {mg : Str → Option Value} {base : Heap} {Z : Ad}
theorem isi_insTy {H : Hp} {Q : VK} {a C dx : Addr} {fs : List (Str × V)} {T : String} {b : Bool} (c : IsC K C) (k : PySem.W.kitOne K (.ref C) (.type T) = some b) (h : H a = some (.ins C dx fs)) (q : Q (.bl b) H) : rIsi K [.ref a, .ty T] H Q := ⟨.ref a, .ty T, .ref C, .type T, b, rfl, .ty _, .base (.ins h c.cl c.ha c.hn c.ht c.hm), k, q⟩
theorem kv_tuple {H : Hp} {Q : VK} {x : V} (I : InsK K Z) (k : Kv Z H x) (q : Q (.bl (tupOf H x).isSome) H) : rIsi K [x, .ty "tuple"] H Q := by
  cases x with
  | non => exact isi_non_tuple q
  | bl b => exact isi_bl_tuple q
  | int b => exact isi_int_tuple q
  | str b => exact isi_str_tuple q
  | ref a =>
    have e : tupOf H (.ref a) = match H a with | some (.tup xs) => some xs | _ => none := rfl
    rcases k with ⟨xs, h⟩ | ⟨xs, h⟩ | ⟨xs, h⟩ | ⟨dx, fs, h⟩
    · rw [e, h] at q
      exact isi_lst_tuple h q
    · rw [e, h] at q
      exact isi_tup_tuple h q
    · rw [e, h] at q
      exact isi_dK_tuple h q
    · rw [e, h] at q
      exact isi_insTy I.i (I.k _ (.inr (.inr (.inl rfl)))) h q
  | _ => exact k.elim
def isIntB : V → Bool
  | .int _ => true
  | .bl _ => true
  | _ => false
theorem kv_int {H : Hp} {Q : VK} {x : V} (I : InsK K Z) (k : Kv Z H x) (q : Q (.bl (isIntB x)) H) : rIsi K [x, .ty "int"] H Q := by
  cases x with
  | non => exact isi_non_int q
  | bl b => exact isi_bl_int q
  | int b => exact isi_int_int q
  | str b => exact isi_str_int q
  | ref a =>
    rcases k with ⟨xs, h⟩ | ⟨xs, h⟩ | ⟨xs, h⟩ | ⟨dx, fs, h⟩
    · exact isi_lst_int h q
    · exact isi_tup_int h q
    · exact isi_dK_int h q
    · exact isi_insTy I.i (I.k _ (.inl rfl)) h q
  | _ => exact k.elim
theorem kv_bool {H : Hp} {Q : VK} {x : V} (I : InsK K Z) (k : Kv Z H x) (q : Q (.bl (isBlB x)) H) : rIsi K [x, .ty "bool"] H Q := by
  cases x with
  | non => exact isi_non_bool q
  | bl b => exact isi_bl_bool q
  | int b => exact isi_int_bool q
  | str b => exact isi_str_bool q
  | ref a =>
    rcases k with ⟨xs, h⟩ | ⟨xs, h⟩ | ⟨xs, h⟩ | ⟨dx, fs, h⟩
    · exact isi_lst_bool h q
    · exact isi_tup_bool h q
    · exact isi_dK_bool h q
    · exact isi_insTy I.i (I.k _ (.inr (.inl rfl))) h q
  | _ => exact k.elim
theorem tupOf_ref {H : Hp} {x : V} {xs : List V} (h : tupOf H x = some xs) : ∃ a, x = .ref a ∧ H a = some (.tup xs) := by
  cases x with
  | ref a =>
    have e : (match H a with | some (.tup xs) => some xs | _ => none) = some xs := h
    cases ha : H a with
    | none => rw [ha] at e; cases e
    | some o =>
      rw [ha] at e
      cases o with
      | tup ys =>
        cases e
        exact ⟨a, rfl, ha⟩
      | _ => cases e
  | _ => cases h
def spWithinK (Z : Ad) : Sp := fun vs H Q _ => ∃ (x : V) (lo hi : Int), vs = [.int lo, .int hi, x] ∧ Kv Z H x ∧ Q (.bl (numV lo hi x)) H
theorem ok_withinK {f : Addr} {fd : FuncData} (F : Fun K "is_within" "is_within" s_is_within f fd) (B : Bl Z mg) (I : InsK K Z) : FnOk P w K mg base CX0 1 f fd ["least", "most", "thing"] (spWithinK Z) := by
  refine F.ok sc_is_within (fun vs H Q E h => ?_) (fun cdv A outer s H vs Q E hr h => ?_)
  · obtain ⟨x, lo, hi, rfl, _⟩ := h
    rfl
  · obtain ⟨x, lo, hi, rfl, hk, q⟩ := h
    refine ⟨_, (pss_cons (ps_if (PW.pt (pw_or (pt_not (pt_val (pe_callB (call_isiK' (K := K) rfl) (by rfl) B.b_isinstance (by decide +kernel) (pa_cons (pv 2) (pa_cons (pe_bltn (v := .ty "int") (by rfl) B.b_int (by decide +kernel) rfl) pa_nil))))) (pw_or1 (pt_val (pe_callB (call_isiK' (K := K) rfl) (by rfl) B.b_isinstance (by decide +kernel) (pa_cons (pv 2) (pa_cons (pe_bltn (v := .ty "bool") (by rfl) B.b_bool (by decide +kernel) rfl) pa_nil))))))) (pss_one (ps_ret pe_bl)) pss_nil)
 (pss_one (ps_ret (pe_chain op_le op_le (pv 0) (pv 2) (pv 1))))), ?_⟩
    walk_at "h0"
    refine kv_int I hk ?_
    cases x with
    | bl b =>
      dsimp only [isIntB]
      walk_at "hs"
      exact q
    | int i =>
      dsimp only [isIntB]
      walk_at "hs"
      refine x_isd (fun c => ?_) (fun c => ?_)
      · walk_at "hs"
        have e : numV lo hi (.int i) = decide (i ≤ hi) := numT c
        rw [← e]
        exact q
      · have e : numV lo hi (.int i) = false := numF c
        rw [e] at q
        exact q
    | non =>
      dsimp only [isIntB]
      walk_at "hs"
      exact q
    | str s =>
      dsimp only [isIntB]
      walk_at "hs"
      exact q
    | ref a =>
      dsimp only [isIntB]
      walk_at "hs"
      exact q
    | _ => exact hk.elim
def spWholeK (Z : Ad) : Sp := fun vs H Q _ => ∃ (x : V) (lo hi : Int), vs = [x, .int lo, .int hi] ∧ Kv Z H x ∧ Q (.bl (numV lo hi x)) H
end
theorem lenIs_none {H : Hp} {m : Int} {x : V} (h : tupOf H x = none) : lenIs H m x = false := by
  unfold lenIs
  rw [h]
theorem lenIs_some {H : Hp} {m : Int} {x : V} {xs : List V} (h : tupOf H x = some xs) : lenIs H m x = decide ((xs.length : Int) = m) := by
  unfold lenIs
  rw [h]
/-- all stands but what lists hold -/
def LsB (H H' : Hp) : Prop := ∀ a o, H a = some o → H' a = some o ∨ ∃ xs ys, o = .lst xs ∧ H' a = some (.lst ys)
theorem LsB.of_same {H H' : Hp} (s : Same H H') : LsB H H' := fun a o e => .inl (s _ _ e)
theorem LsB.of_but {H H' : Hp} {p : Addr} {F F' : Addr → Prop} (b : But p H H') (h : PoolAt H p F) (h' : PoolAt H' p F') : LsB H H' := fun a o e => by
  by_cases z : a = p
  · subst z
    obtain ⟨xs, e1⟩ := h.lst
    obtain ⟨ys, e2⟩ := h'.lst
    rw [e1] at e
    exact .inr ⟨xs, ys, (Option.some.inj e).symm, e2⟩
  · exact .inl (b _ _ z e)
theorem LsB.mut {H : Hp} {p : Addr} {xs ys : List V} (h : H p = some (.lst xs)) : LsB H (upd H p (.lst ys)) := fun a o e => by
  by_cases z : a = p
  · subst z
    rw [h] at e
    exact .inr ⟨xs, ys, (Option.some.inj e).symm, upd_same⟩
  · exact .inl (by rw [upd_ne z]; exact e)
theorem tupOf_lsb {Z : Ad} {H H' : Hp} {v : V} (s : LsB H H') (k : Kv Z H v) : tupOf H' v = tupOf H v := by
  cases v with
  | ref a =>
    obtain ⟨o, e⟩ := k.some
    show (match H' a with | some (.tup xs) => some xs | _ => none) = (match H a with | some (.tup xs) => some xs | _ => none)
    rcases s _ _ e with e2 | ⟨xs, ys, rfl, e2⟩
    · rw [e, e2]
    · rw [e, e2]
  | _ => rfl
theorem kv_lsb {Z : Ad} {H H' : Hp} {v : V} (s : LsB H H') (k : Kv Z H v) : Kv Z H' v := by
  cases v with
  | ref a =>
    have go : ∀ o, H a = some o → (∀ xs, o ≠ .lst xs) → H' a = some o := fun o e n => by
      rcases s _ _ e with e2 | ⟨xs, ys, e1, _⟩
      · exact e2
      · exact (n _ e1).elim
    rcases k with ⟨x, e⟩ | ⟨x, e⟩ | ⟨x, e⟩ | ⟨x, y, e⟩
    · rcases s _ _ e with e2 | ⟨xs, ys, _, e2⟩
      · exact .inl ⟨x, e2⟩
      · exact .inl ⟨ys, e2⟩
    · exact .inr (.inl ⟨x, go _ e fun _ z => by cases z⟩)
    · exact .inr (.inr (.inl ⟨x, go _ e fun _ z => by cases z⟩))
    · exact .inr (.inr (.inr ⟨x, y, go _ e fun _ z => by cases z⟩))
  | _ => exact k
theorem kvd_lsb {Z : Ad} {H H' : Hp} (s : LsB H H') : ∀ {n : Nat} {v : V}, KvD Z H n v → KvD Z H' n v
  | 0, _, h => kv_lsb s h
  | n + 1, v, h => ⟨kv_lsb s h.1, fun xs e x hx => by
    rw [tupOf_lsb s h.1] at e
    exact kvd_lsb s (h.2 xs e x hx)⟩
def tupO : HO → Option (List V)
  | .tup xs => some xs
  | _ => none
theorem tupOf_at {H : Hp} {a : Addr} {o : HO} (h : H a = some o) : tupOf H (.ref a) = tupO o := by
  show (match H a with | some (.tup xs) => some xs | _ => none) = _
  rw [h]
  cases o <;> rfl
theorem kvd_tupN {Z : Ad} {H : Hp} {a : Addr} {xs : List V} {n : Nat} (h : H a = some (.tup xs)) (k : ∀ x ∈ xs, KvD Z H n x) : KvD Z H (n + 1) (.ref a) :=
  ⟨.inr (.inl ⟨_, h⟩), fun ys e x hx => by
    rw [tupOf_at h] at e
    cases e
    exact k x hx⟩
theorem kvd_tup {Z : Ad} {H : Hp} {a : Addr} {xs : List V} (h : H a = some (.tup xs)) (k : ∀ x ∈ xs, ∀ n, KvD Z H n x) : ∀ n, KvD Z H n (.ref a)
  | 0 => .inr (.inl ⟨_, h⟩)
  | n + 1 => kvd_tupN h fun x hx => k x hx n
theorem kvd_lst {Z : Ad} {H : Hp} {a : Addr} {xs : List V} (h : H a = some (.lst xs)) : ∀ n, KvD Z H n (.ref a)
  | 0 => .inl ⟨_, h⟩
  | n + 1 => ⟨.inl ⟨_, h⟩, fun ys e x hx => by
    rw [tupOf_at h] at e
    cases e⟩
theorem kvd_dK {Z : Ad} {H : Hp} {a : Addr} {kvs : List (Key × V)} (h : H a = some (.dK kvs)) : ∀ n, KvD Z H n (.ref a)
  | 0 => .inr (.inr (.inl ⟨_, h⟩))
  | n + 1 => ⟨.inr (.inr (.inl ⟨_, h⟩)), fun ys e x hx => by
    rw [tupOf_at h] at e
    cases e⟩
theorem kvd_ins {Z : Ad} {H : Hp} {a dx : Addr} {fs : List (Str × V)} (h : H a = some (.ins Z.a_Tree dx fs)) : ∀ n, KvD Z H n (.ref a)
  | 0 => .inr (.inr (.inr ⟨_, _, h⟩))
  | n + 1 => ⟨.inr (.inr (.inr ⟨_, _, h⟩)), fun ys e x hx => by
    rw [tupOf_at h] at e
    cases e⟩
theorem kvd_sca {Z : Ad} {H : Hp} {v : V} (h : sca v = true) : ∀ n, KvD Z H n v := by
  have k : Kv Z H v := by
    cases v with
    | non => exact trivial
    | bl b => exact trivial
    | int i => exact trivial
    | str s => exact trivial
    | _ => cases h
  have t : tupOf H v = none := by
    cases v with
    | ref a => cases h
    | _ => rfl
  intro n
  cases n with
  | zero => exact k
  | succ n => exact ⟨k, fun xs e x hx => by rw [t] at e; cases e⟩
theorem KvD.down {Z : Ad} {H : Hp} : ∀ {n : Nat} {v : V}, KvD Z H (n + 1) v → KvD Z H n v
  | 0, _, h => h.1
  | n + 1, _, h => ⟨h.1, fun xs e x hx => (h.2 xs e x hx).down⟩
set_option maxRecDepth 100000
set_option maxHeartbeats 2000000
open PySem PySem.Spec L2


section
variable {P : Program} {w : World} {K : PySem.W.Frag} {mg : Str → Option Value} {base : Heap} {Z : Ad}
def spPairK (Z : Ad) : Sp := fun vs H Q _ => ∃ (x : V), vs = [x] ∧ Kv Z H x ∧ Q (.bl (lenIs H 2 x)) H
theorem ok_pairK {f : Addr} {fd : FuncData} (F : Fun K "is_pair" "is_pair" s_is_pair f fd) (B : Bl Z mg) (I : InsK K Z) : FnOk P w K mg base CX0 1 f fd ["thing"] (spPairK Z) := by
  refine F.ok sc_is_pair (fun vs H Q E h => ?_) (fun cdv A outer s H vs Q E hr h => ?_)
  · obtain ⟨x, rfl, _⟩ := h
    rfl
  · obtain ⟨x, rfl, hk, q⟩ := h
    refine ⟨_, (pss_one (ps_ret (pe_and (pe_callB (call_isiK' (K := K) rfl) (by rfl) B.b_isinstance (by decide +kernel) (pa_cons (pv 0) (pa_cons (pe_bltn (v := .ty "tuple") (by rfl) B.b_tuple (by decide +kernel) rfl) pa_nil))) (pe_one (pe_cmpR op_eq (pe_callB (call_lenK (K := K) rfl) (by rfl) B.b_len PySem.boot_len (pa_cons (pv 0) pa_nil)) pe_int (nomark _)))))), ?_⟩
    walk_at "h0"
    refine kv_tuple I hk ?_
    unfold lenIs at q
    cases e : tupOf H x with
    | none =>
      rw [e] at q
      dsimp only [Option.isSome_none]
      walk_at "hs"
      exact q
    | some xs =>
      rw [e] at q
      obtain ⟨a, rfl, ha⟩ := tupOf_ref e
      dsimp only [Option.isSome_some]
      walk_at "hs"
      exact q
def spIsBK (Z : Ad) (lo : Int) : Sp := fun vs H Q _ => ∃ (x : Addr) (hs : List Nat) (v : V), vs = [.ref x, v] ∧ TreeAt Z H x hs ∧ Kv Z H v ∧ Q (.bl (numV lo hs.length v)) H
theorem ok_isBlockK {f : Addr} {fd : FuncData} (F : Fun K "is_block" "is_block" s_is_block f fd) (B : Bl Z mg) (T : Cls K Z.a_Tree) (N : NoAttr K Z.a_Tree "hung") {f_is_within : Addr} {fd_is_within : FuncData} (C_is_within : Cal K mg "is_within" f_is_within fd_is_within ["least", "most", "thing"]) (G_is_within : FnOk P w K mg base CX0 1 f_is_within fd_is_within ["least", "most", "thing"] (spWithinK Z)) : FnOk P w K mg base CX0 2 f fd ["tree", "thing"] (spIsBK Z 1) := by
  refine F.ok sc_is_block (fun vs H Q E h => ?_) (fun cdv A outer s H vs Q E hr h => ?_)
  · obtain ⟨x, hs, v, rfl, _⟩ := h
    rfl
  · obtain ⟨x, hs, v, rfl, ht, hk, q⟩ := h
    refine ⟨_, (pss_one (ps_ret (pe_call G_is_within (hr.mono (by first | decide | omega)) (by rfl) C_is_within.g C_is_within.k C_is_within.b .nil pass0 (pa_cons pe_int (pa_cons (pe_callB (call_lenK (K := K) rfl) (by rfl) B.b_len PySem.boot_len (pa_cons (pe_fldK (K := K) rfl (pv 0) rfl) pa_nil)) (pa_cons (pv 1) pa_nil)))))), ?_⟩
    walk_at "h0"
    obtain ⟨dx, t, h1, h2⟩ := ht
    have h3 : SqT K H t (nats hs) := .of h2
    refine ⟨x, _, dx, _, _, rfl, h1, T, N, rfl, ?_⟩
    walk_at "hs"
    rw [nats_length]
    exact ⟨v, 1, _, rfl, hk, q⟩
theorem ok_isPlaceK {f : Addr} {fd : FuncData} (F : Fun K "is_place" "is_place" s_is_place f fd) (B : Bl Z mg) (T : Cls K Z.a_Tree) (N : NoAttr K Z.a_Tree "hung") {f_is_within : Addr} {fd_is_within : FuncData} (C_is_within : Cal K mg "is_within" f_is_within fd_is_within ["least", "most", "thing"]) (G_is_within : FnOk P w K mg base CX0 1 f_is_within fd_is_within ["least", "most", "thing"] (spWithinK Z)) : FnOk P w K mg base CX0 2 f fd ["tree", "thing"] (spIsBK Z 0) := by
  refine F.ok sc_is_place (fun vs H Q E h => ?_) (fun cdv A outer s H vs Q E hr h => ?_)
  · obtain ⟨x, hs, v, rfl, _⟩ := h
    rfl
  · obtain ⟨x, hs, v, rfl, ht, hk, q⟩ := h
    refine ⟨_, (pss_one (ps_ret (pe_call G_is_within (hr.mono (by first | decide | omega)) (by rfl) C_is_within.g C_is_within.k C_is_within.b .nil pass0 (pa_cons pe_int (pa_cons (pe_callB (call_lenK (K := K) rfl) (by rfl) B.b_len PySem.boot_len (pa_cons (pe_fldK (K := K) rfl (pv 0) rfl) pa_nil)) (pa_cons (pv 1) pa_nil)))))), ?_⟩
    walk_at "h0"
    obtain ⟨dx, t, h1, h2⟩ := ht
    have h3 : SqT K H t (nats hs) := .of h2
    refine ⟨x, _, dx, _, _, rfl, h1, T, N, rfl, ?_⟩
    walk_at "hs"
    rw [nats_length]
    exact ⟨v, 0, _, rfl, hk, q⟩
/-- a move that is let: its block, its place -/
def okMv (hs : List Nat) : V → V → Option (Nat × Nat)
  | .int b, .int p => if 1 ≤ b ∧ b ≤ hs.length ∧ 0 ≤ p ∧ p ≤ hs.length ∧ p ≠ b ∧ b.toNat ∉ way hs p.toNat then some (b.toNat, p.toNat) else none
  | _, _ => none
theorem num_out {lo : Int} {n : Nat} {v : V} (h : numV lo n v = true) : ∃ z : Int, v = .int z ∧ lo ≤ z ∧ z ≤ n := by
  cases v with
  | int z =>
    have h : (decide (lo ≤ z) && decide (z ≤ n)) = true := h
    rw [Bool.and_eq_true, decide_eq_true_eq, decide_eq_true_eq] at h
    exact ⟨z, rfl, h.1, h.2⟩
  | _ => cases h
def spMovedK (Z : Ad) : Sp := fun vs H Q E => ∃ (x : Addr) (hs : List Nat) (b p : V), vs = [.ref x, b, p] ∧ TreeAt Z H x hs ∧ IsTree hs ∧ Kv Z H b ∧ Kv Z H p ∧
  (∀ c d, okMv hs b p = some (c, d) → ∀ m H', Same H H' → H m = none → TreeAt Z H' m (put hs c d) → Q (.ref m) H') ∧ (okMv hs b p = none → ∀ c H', c = Z.a_NoBlock ∨ c = Z.a_NoPlace ∨ c = Z.a_Beneath → Same H H' → E (.ref c) none H')
theorem ok_movedK {f fI fJ fL : Addr} {fd : FuncData} (F : Fun K "moved" "moved" s_moved f fd) (B : Bl Z mg) (T : Cls K Z.a_Tree) (N : NoAttr K Z.a_Tree "hung") (X_NoBlock : SupC P K Z.a_NoBlock fI) (X_NoPlace : SupC P K Z.a_NoPlace fJ) (X_Beneath : SupC P K Z.a_Beneath fL) {f_is_block : Addr} {fd_is_block : FuncData} (C_is_block : Cal K mg "is_block" f_is_block fd_is_block ["tree", "thing"]) (G_is_block : FnOk P w K mg base CX0 2 f_is_block fd_is_block ["tree", "thing"] (spIsBK Z 1))
    {f_is_place : Addr} {fd_is_place : FuncData} (C_is_place : Cal K mg "is_place" f_is_place fd_is_place ["tree", "thing"]) (G_is_place : FnOk P w K mg base CX0 2 f_is_place fd_is_place ["tree", "thing"] (spIsBK Z 0)) {f_beneath : Addr} {fd_beneath : FuncData} (C_beneath : Cal K mg "beneath" f_beneath fd_beneath ["tree", "place"]) (G_beneath : FnOk P w K mg base CX0 5 f_beneath fd_beneath ["tree", "place"] (spBeneath Z))
    {f_Tree___init__ : Addr} {fd_Tree___init__ : FuncData} (C_Tree___init__ : CalM K f_Tree___init__ fd_Tree___init__ ["self", "hung"]) (G_Tree___init__ : FnOk P w K mg base (L2.CX P w) 3 f_Tree___init__ fd_Tree___init__ ["self", "hung"] (spTree Z)) (M_Tree : Mk K Z.a_Tree f_Tree___init__) : FnOk P w K mg base (L2N.CX P w) 6 f fd ["tree", "block", "place"] (spMovedK Z) := by
  refine okN F sc_moved (fun vs H Q E h => ?_) (fun cdv A outer s H vs Q E hr h => ?_)
  · obtain ⟨x, hs, b, p, rfl, _⟩ := h
    rfl
  · obtain ⟨x, hs, b, p, rfl, ht, it, kb, kp, q, qe⟩ := h
    refine ⟨_, (pss_cons (ps_if (pt_not (pt_val (pe_call G_is_block (hr.mono (by first | decide | omega)) (by rfl) C_is_block.g C_is_block.k C_is_block.b .nil pass0 (pa_cons (pv 0) (pa_cons (pv 1) pa_nil))))) (pss_one (L2N.ps_raise rfl (L2N.takes_of rfl rfl rfl rfl) (pmk_supN X_NoBlock (hr.mono (by first | decide | omega)) (by rfl) B.k_NoBlock B.b_super))) pss_nil)
 (pss_cons (ps_if (pt_not (pt_val (pe_call G_is_place (hr.mono (by first | decide | omega)) (by rfl) C_is_place.g C_is_place.k C_is_place.b .nil pass0 (pa_cons (pv 0) (pa_cons (pv 2) pa_nil))))) (pss_one (L2N.ps_raise rfl (L2N.takes_of rfl rfl rfl rfl) (pmk_supN X_NoPlace (hr.mono (by first | decide | omega)) (by rfl) B.k_NoPlace B.b_super))) pss_nil)
 (pss_cons (ps_if (PW.pt (pw_or (pt_cmpR op_eq (pv 2) (pv 1) (nomark _)) (pw_or1 (pt_cmpR (op_inK (K := K) rfl) (pv 2) (pe_call G_beneath (hr.mono (by first | decide | omega)) (by rfl) C_beneath.g C_beneath.k C_beneath.b .nil pass0 (pa_cons (pv 0) (pa_cons (pv 1) pa_nil))) (by rfl))))) (pss_one (L2N.ps_raise rfl (L2N.takes_of rfl rfl rfl rfl) (pmk_supN X_Beneath (hr.mono (by first | decide | omega)) (by rfl) B.k_Beneath B.b_super))) pss_nil)
 (pss_one (ps_ret (pe_make M_Tree G_Tree___init__ (hr.mono (by first | decide | omega)) (by rfl) B.k_Tree C_Tree___init__.b .nil passE (pa_cons (pe_op (op_catAK (K := K) rfl) (pe_op (op_catAK (K := K) rfl) (pe_slice (sl_tupAK (K := K) rfl) (pe_fldK (K := K) rfl (pv 0) rfl) po_none (po_some (pe_op op_sub (pv 1) pe_int))) (pe_tup (pa_cons (pv 2) pa_nil))) (pe_slice (sl_tupAK (K := K) rfl) (pe_fldK (K := K) rfl (pv 0) rfl) (po_some (pv 1)) po_none)) pa_nil))))))), ?_⟩
    walk_at "h0"
    refine ⟨x, hs, _, rfl, ht, kb, ?_⟩
    cases hb : numV 1 hs.length b with
    | false =>
      walk_at "hs"
      refine qe ?_ _ _ (.inl rfl) (Same.refl _)
      cases b with
      | int b =>
        cases p with
        | int p =>
          have : (decide ((1 : Int) ≤ b) && decide (b ≤ hs.length)) = false := hb
          rw [Bool.and_eq_false_iff, decide_eq_false_iff_not, decide_eq_false_iff_not] at this
          exact if_neg (fun h => this.elim (fun z => z h.1) fun z => z h.2.1)
        | _ => rfl
      | _ => rfl
    | true =>
      obtain ⟨b, rfl, b1, b2⟩ := num_out hb
      obtain ⟨b, rfl⟩ := Int.eq_ofNat_of_zero_le (show 0 ≤ b by omega)
      walk_at "hs"
      refine ⟨x, hs, _, rfl, ht, kp, ?_⟩
      cases hp : numV 0 hs.length p with
      | false =>
        walk_at "hs"
        refine qe ?_ _ _ (.inr (.inl rfl)) (Same.refl _)
        cases p with
        | int p =>
          have : (decide ((0 : Int) ≤ p) && decide (p ≤ hs.length)) = false := hp
          rw [Bool.and_eq_false_iff, decide_eq_false_iff_not, decide_eq_false_iff_not] at this
          exact if_neg (fun h => this.elim (fun z => z h.2.2.1) fun z => z h.2.2.2.1)
        | _ => rfl
      | true =>
        obtain ⟨p, rfl, p1, p2⟩ := num_out hp
        obtain ⟨p, rfl⟩ := Int.eq_ofNat_of_zero_le p1
        walk_at "hs"
        refine x_isd (fun c => ?_) (fun c => ?_)
        · walk_at "hs"
          exact qe (if_neg fun h => h.2.2.2.2.1 c) _ _ (.inr (.inr rfl)) (Same.refl _)
        have c' : p ≠ b := fun e => c (by rw [e])
        walk_at "hs"
        refine ⟨x, hs, b, rfl, ht, it, by omega, fun D H1 s1 nD eD => ?_⟩
        refine x_inNT (.of eD) ?_
        walk_at "hs"
        refine x_isd (fun c2 => ?_) (fun c2 => ?_)
        · have c3 := (below_mem (by omega)).mp c2
          walk_at "hs"
          exact qe (if_neg fun h => h.2.2.2.2.2 c3) _ _ (.inr (.inr rfl)) s1
        · have c3 : b ∉ way hs p := fun h => c2 ((below_mem (by omega)).mpr h)
          have ok : okMv hs (.int (b : Int)) (.int (p : Int)) = some (b, p) := if_pos ⟨b1, b2, p1, p2, c, c3⟩
          walk_at "hs"
          refine x_make ?_
          walk_at "hs"
          have := it.most
          have nl := nats_length hs
          obtain ⟨dx, u, h1, h2⟩ := ht.same s1
          refine ⟨x, _, dx, _, _, rfl, h1, T, N, rfl, ?_⟩
          walk_at "hs"
          refine x_slA h2 fun D2 H2 s2 e2 => ?_
          rw [show ((b : Int) - 1) = ((b - 1 : Nat) : Int) by omega, cut_take] at e2
          walk_at "hs"
          intro p1 n1
          walk_at "hs"
          refine x_catA (keepN e2 n1) upd_same (by rw [List.length_take, List.length_cons, List.length_nil]; omega) fun D3 H3 s3 e3 => ?_
          have s13 : Same H1 H3 := fun a o e => s3 _ _ (keepN (s2 _ _ e) n1)
          walk_at "hs"
          refine ⟨x, _, dx, _, _, rfl, s13 _ _ h1, T, N, rfl, ?_⟩
          walk_at "hs"
          refine x_slA (s13 _ _ h2) fun D4 H4 s4 e4 => ?_
          rw [cut_drop] at e4
          refine x_catA (s4 _ _ e3) e4 (by rw [List.length_append, List.length_take, List.length_drop, List.length_cons, List.length_nil]; omega) fun D5 H5 s5 e5 => ?_
          rw [put_cut (by omega) (by omega)] at e5
          walk_at "hs"
          refine make_tree (Q := Q) (put_tree it (by omega) (by omega) (by omega) c' c3) e5 fun m H6 nm s6 tr => ?_
          have s05 : Same H H5 := fun a o e => s5 _ _ (s4 _ _ (s13 _ _ (s1 _ _ e)))
          exact q b p ok m H6 (s05.trans s6) (s05.free nm) tr
end
set_option maxRecDepth 100000
set_option maxHeartbeats 2000000
open PySem PySem.Spec L2


theorem sc_BadHistory___init__ : FnScope ["self", "part"] ["self", "part"] (defScope s_BadHistory___init__) := ⟨rfl, rfl, rfl, by decide +kernel, rfl, by decide +kernel, by decide +kernel⟩
theorem sc_History___init__ : FnScope ["self", "tree", "moves", "last", "at", "move"] ["self", "tree", "moves"] (defScope s_History___init__) := ⟨rfl, rfl, rfl, by decide +kernel, rfl, by decide +kernel, by decide +kernel⟩
theorem putF_len (f : Str) (v : V) : ∀ fs : List (Str × V), (putF f v fs).length ≤ fs.length + 1
  | [] => Nat.le_refl _
  | (g, x) :: r => by
    have ih := putF_len f v r
    unfold putF
    split
    · simp
    · rw [List.length_cons, List.length_cons]
      omega
/-! what is due of moves -/
def stepM (H : Hp) (hs : List Nat) (m : V) : Option (Nat × Nat) := match tupOf H m with
  | some [b, p] => okMv hs b p
  | _ => none
def runs (H : Hp) : List Nat → List V → Option (List Nat)
  | hs, [] => some hs
  | hs, m :: r => match stepM H hs m with
    | none => none
    | some x => runs H (put hs x.1 x.2) r
def badAt (H : Hp) : List Nat → List V → Option Nat
  | _, [] => none
  | hs, m :: r => match stepM H hs m with
    | none => some 0
    | some x => (badAt H (put hs x.1 x.2) r).map (· + 1)
theorem runs_snoc {H : Hp} {m : V} {gs : List Nat} {x : Nat × Nat} (h2 : stepM H gs m = some x) : ∀ {l : List V} {hs : List Nat}, runs H hs l = some gs → runs H hs (l ++ [m]) = some (put gs x.1 x.2)
  | [], hs, h => by
    cases h
    show (match stepM H gs m with | none => none | some x => runs H (put gs x.1 x.2) []) = _
    rw [h2]
    rfl
  | a :: l, hs, h => by
    have h : (match stepM H hs a with | none => none | some x => runs H (put hs x.1 x.2) l) = some gs := h
    show (match stepM H hs a with | none => none | some x => runs H (put hs x.1 x.2) (l ++ [m])) = _
    cases e : stepM H hs a with
    | none => rw [e] at h; cases h
    | some y =>
      rw [e] at h
      exact runs_snoc h2 h
theorem badAt_none {H : Hp} {gs : List Nat} : ∀ {l : List V} {hs : List Nat}, runs H hs l = some gs → badAt H hs l = none
  | [], hs, h => rfl
  | a :: l, hs, h => by
    have h : (match stepM H hs a with | none => none | some x => runs H (put hs x.1 x.2) l) = some gs := h
    show (match stepM H hs a with | none => some 0 | some x => (badAt H (put hs x.1 x.2) l).map (· + 1)) = none
    cases e : stepM H hs a with
    | none => rw [e] at h; cases h
    | some y =>
      rw [e] at h
      show (badAt H (put hs y.1 y.2) l).map (· + 1) = none
      rw [badAt_none h]
      rfl
theorem badAt_some {H : Hp} {gs : List Nat} {m : V} (h2 : stepM H gs m = none) : ∀ {k : Nat} {l : List V} {hs : List Nat}, runs H hs (l.take k) = some gs → l[k]? = some m → badAt H hs l = some k
  | _, [], hs, _, e => by cases e
  | 0, a :: l, hs, h, e => by
    cases h
    cases e
    show (match stepM H gs m with | none => some 0 | some x => (badAt H (put gs x.1 x.2) l).map (· + 1)) = _
    rw [h2]
  | k + 1, a :: l, hs, h, e => by
    have h : (match stepM H hs a with | none => none | some x => runs H (put hs x.1 x.2) (l.take k)) = some gs := h
    show (match stepM H hs a with | none => some 0 | some x => (badAt H (put hs x.1 x.2) l).map (· + 1)) = _
    cases e2 : stepM H hs a with
    | none => rw [e2] at h; cases h
    | some y =>
      rw [e2] at h
      show (badAt H (put hs y.1 y.2) l).map (· + 1) = _
      rw [badAt_some h2 h e]
      rfl
theorem okMv_is {hs : List Nat} {b p : V} {x : Nat × Nat} (h : okMv hs b p = some x) : b = .int (x.1 : Nat) ∧ p = .int (x.2 : Nat) ∧ 1 ≤ x.1 ∧ x.1 ≤ hs.length ∧ x.2 ≤ hs.length ∧ x.2 ≠ x.1 ∧ x.1 ∉ way hs x.2 := by
  cases b with
  | int b => cases p with
    | int p =>
      replace h : (if 1 ≤ b ∧ b ≤ hs.length ∧ 0 ≤ p ∧ p ≤ hs.length ∧ p ≠ b ∧ b.toNat ∉ way hs p.toNat then some (b.toNat, p.toNat) else none) = some x := h
      by_cases c : 1 ≤ b ∧ b ≤ hs.length ∧ 0 ≤ p ∧ p ≤ hs.length ∧ p ≠ b ∧ b.toNat ∉ way hs p.toNat
      · rw [if_pos c] at h
        cases h
        obtain ⟨c1, c2, c3, c4, c5, c6⟩ := c
        refine ⟨?_, ?_, ?_, ?_, ?_, ?_, c6⟩
        · show V.int b = .int (b.toNat : Nat)
          rw [Int.toNat_of_nonneg (by omega)]
        · show V.int p = .int (p.toNat : Nat)
          rw [Int.toNat_of_nonneg c3]
        all_goals (show _; dsimp only; omega)
      · rw [if_neg c] at h
        cases h
    | _ => cases h
  | _ => cases h
theorem step_is {H : Hp} {hs : List Nat} {m : V} {x : Nat × Nat} (h : stepM H hs m = some x) : tupOf H m = some [.int (x.1 : Nat), .int (x.2 : Nat)] ∧ 1 ≤ x.1 ∧ x.1 ≤ hs.length ∧ x.2 ≤ hs.length ∧ x.2 ≠ x.1 ∧ x.1 ∉ way hs x.2 := by
  unfold stepM at h
  cases e : tupOf H m with
  | none => rw [e] at h; cases h
  | some l =>
    rw [e] at h
    match l, h with
    | [b, p], h =>
      obtain ⟨e1, e2, e3⟩ := okMv_is h
      rw [e1, e2]
      exact ⟨rfl, e3⟩
    | [], h => cases h
    | [_], h => cases h
    | _ :: _ :: _ :: _, h => cases h
theorem runs_tree {H : Hp} : ∀ {l : List V} {hs gs : List Nat}, IsTree hs → runs H hs l = some gs → IsTree gs ∧ gs.length = hs.length
  | [], hs, gs, t, h => by
    cases h
    exact ⟨t, rfl⟩
  | a :: l, hs, gs, t, h => by
    have h : (match stepM H hs a with | none => none | some x => runs H (put hs x.1 x.2) l) = some gs := h
    cases e : stepM H hs a with
    | none => rw [e] at h; cases h
    | some y =>
      rw [e] at h
      obtain ⟨_, e1, e2, e3, e4, e5⟩ := step_is e
      obtain ⟨t2, l2⟩ := runs_tree (put_tree t e1 e2 e3 e4 e5) h
      exact ⟨t2, l2.trans (put_len _ _ _)⟩
inductive DH where
  | moves
  | at (k : Nat)
  | ok
def dueH (H : Hp) (hs : List Nat) (mv : V) : DH := match tupOf H mv with
  | none => .moves
  | some xs => if xs.length > 100 then .moves else match badAt H hs xs with
    | some k => .at k
    | none => .ok
def valH : DH → V
  | .moves => .str "moves"
  | .at k => .int (k : Nat)
  | .ok => .str "let"
theorem step_same {Z : Ad} {H H' : Hp} {hs : List Nat} {m : V} (s : Same H H') (k : Kv Z H m) : stepM H' hs m = stepM H hs m := by
  unfold stepM
  rw [tupOf_same s k]
theorem badAt_same {Z : Ad} {H H' : Hp} (s : Same H H') : ∀ {l : List V} {hs : List Nat}, (∀ m ∈ l, Kv Z H m) → badAt H' hs l = badAt H hs l
  | [], hs, _ => rfl
  | a :: l, hs, h => by
    show (match stepM H' hs a with | none => some 0 | some x => (badAt H' (put hs x.1 x.2) l).map (· + 1)) = (match stepM H hs a with | none => some 0 | some x => (badAt H (put hs x.1 x.2) l).map (· + 1))
    rw [step_same s (h a List.mem_cons_self)]
    cases stepM H hs a with
    | none => rfl
    | some y =>
      show (badAt H' (put hs y.1 y.2) l).map (· + 1) = (badAt H (put hs y.1 y.2) l).map (· + 1)
      rw [badAt_same s fun m hm => h m (List.mem_cons_of_mem _ hm)]
theorem runs_same {Z : Ad} {H H' : Hp} (s : Same H H') : ∀ {l : List V} {hs : List Nat}, (∀ m ∈ l, Kv Z H m) → runs H' hs l = runs H hs l
  | [], hs, _ => rfl
  | a :: l, hs, h => by
    show (match stepM H' hs a with | none => none | some x => runs H' (put hs x.1 x.2) l) = (match stepM H hs a with | none => none | some x => runs H (put hs x.1 x.2) l)
    rw [step_same s (h a List.mem_cons_self)]
    cases stepM H hs a with
    | none => rfl
    | some y => exact runs_same s fun m hm => h m (List.mem_cons_of_mem _ hm)
theorem dueH_same {Z : Ad} {H H' : Hp} {hs : List Nat} {mv : V} (s : Same H H') (k : KvD Z H 1 mv) : dueH H' hs mv = dueH H hs mv := by
  unfold dueH
  rw [tupOf_same s k.1]
  cases e : tupOf H mv with
  | none => rfl
  | some xs =>
    show (if xs.length > 100 then DH.moves else match badAt H' hs xs with | some k => .at k | none => .ok) = (if xs.length > 100 then DH.moves else match badAt H hs xs with | some k => .at k | none => .ok)
    rw [badAt_same s fun m hm => k.2 xs e m hm]
theorem due_moves {H : Hp} {hs : List Nat} {mv : V} (h : ∀ xs, tupOf H mv = some xs → xs.length > 100) : dueH H hs mv = .moves := by
  unfold dueH
  cases e : tupOf H mv with
  | none => rfl
  | some xs => exact if_pos (h xs e)
theorem due_at {H : Hp} {hs gs : List Nat} {mv m : V} {xs : List V} {k : Nat} (e : tupOf H mv = some xs) (hl : ¬ xs.length > 100) (h1 : runs H hs (xs.take k) = some gs) (h2 : xs[k]? = some m) (h3 : stepM H gs m = none) : dueH H hs mv = .at k := by
  unfold dueH
  rw [e]
  refine (if_neg hl).trans ?_
  rw [badAt_some h3 h1 h2]
theorem due_ok {H : Hp} {hs gs : List Nat} {mv : V} {xs : List V} (e : tupOf H mv = some xs) (hl : ¬ xs.length > 100) (h1 : runs H hs xs = some gs) : dueH H hs mv = .ok := by
  unfold dueH
  rw [e]
  refine (if_neg hl).trans ?_
  rw [badAt_none h1]
/-- no tree: what isinstance says -/
structure TyAp (K : PySem.W.Frag) (Z : Ad) : Prop where
  k : ∀ T : String, T = "NoneType" ∨ T = "bool" ∨ T = "int" ∨ T = "str" ∨ T = "list" ∨ T = "tuple" ∨ T = "dict" → PySem.W.kitOne K (.type T) (.ref Z.a_Tree) = some false
section
variable {P : Program} {w : World} {K : PySem.W.Frag} {mg : Str → Option Value} {base : Heap} {Z : Ad}
theorem isi_noTree {H : Hp} {Q : VK} {x : V} (T : TyAp K Z) (k : Kn H x) (q : Q (.bl false) H) : rIsi K [x, .ref Z.a_Tree] H Q := by
  have go : ∀ t : String, TyX K H x (.type t) → PySem.W.kitOne K (.type t) (.ref Z.a_Tree) = some false → rIsi K [x, .ref Z.a_Tree] H Q := fun t ty e => ⟨x, .ref Z.a_Tree, .type t, .ref Z.a_Tree, false, rfl, .own Z.a_Tree, ty, e, q⟩
  cases x with
  | non => exact go _ (.base .non) (T.k _ (.inl rfl))
  | bl b => exact go _ (.base (.bl b)) (T.k _ (.inr (.inl rfl)))
  | int b => exact go _ (.base (.int b)) (T.k _ (.inr (.inr (.inl rfl))))
  | str b => exact go _ (.base (.str b)) (T.k _ (.inr (.inr (.inr (.inl rfl)))))
  | ref a =>
    rcases k with ⟨xs, h⟩ | ⟨xs, h⟩ | ⟨xs, h⟩
    · exact go _ (.base (.lst h)) (T.k _ (.inr (.inr (.inr (.inr (.inl rfl))))))
    · exact go _ (.base (.tup h)) (T.k _ (.inr (.inr (.inr (.inr (.inr (.inl rfl)))))))
    · exact go _ (.base (.dK h)) (T.k _ (.inr (.inr (.inr (.inr (.inr (.inr rfl)))))))
  | _ => exact k.elim
theorem ok_badH {f : Addr} {fd : FuncData} (F : Fun K "__init__" "BadHistory.__init__" s_BadHistory___init__ f fd) (X_BadHistory : ExcF K Z.a_BadHistory f "part") : FnOk P w K mg base CX0 1 f fd ["self", "part"] (spField Z.a_BadHistory "part") := by
  refine F.ok sc_BadHistory___init__ (fun vs H Q E h => ?_) (fun cdv A outer s H vs Q E hr h => ?_)
  · obtain ⟨a, v, rfl, _⟩ := h
    rfl
  · obtain ⟨a, v, rfl, ha, q⟩ := h
    refine ⟨_, (pss_one (ps_ost (pv 0) (pv 1))), ?_⟩
    walk_at "h0"
    exact ⟨a, _, rfl, X_BadHistory.T, X_BadHistory.n, .inl ⟨ha, q⟩⟩
theorem ok_badHot {f : Addr} {fd : FuncData} (F : Fun K "__init__" "BadHistory.__init__" s_BadHistory___init__ f fd) (X_BadHistory : ExcF K Z.a_BadHistory f "part") : L2H.FnH P w K mg base CX0 1 f fd ["self", "part"] (spField Z.a_BadHistory "part") := by
  refine okH F sc_BadHistory___init__ (fun vs H Q E h => ?_) (fun cdv A outer s H vs Q E p h => ?_)
  · obtain ⟨a, v, rfl, _⟩ := h
    rfl
  · obtain ⟨a, v, rfl, ha, q⟩ := h
    refine ⟨_, (pss_one (ps_ost (pv 0) (pv 1))), ?_⟩
    walk_at "h0"
    exact ⟨a, _, rfl, X_BadHistory.T, X_BadHistory.n, .inl ⟨ha, q⟩⟩
/-- the errors that a move may raise -/
structure MvX (K : PySem.W.Frag) (Z : Ad) : Prop where
  k : ∀ c, c = Z.a_NoBlock ∨ c = Z.a_NoPlace ∨ c = Z.a_Beneath → PySem.W.exmAny K (.ref c) [.ref Z.a_NoBlock, .ref Z.a_NoPlace, .ref Z.a_Beneath] = some true
/-- the class of histories -/
structure HisC (K : PySem.W.Frag) (Z : Ad) : Prop where
  c : Cls K Z.a_History
  nt : NoAttr K Z.a_History "tree"
  nm : NoAttr K Z.a_History "moves"
def spHist (Z : Ad) : Sp := fun vs H Q E => ∃ (h dh : Addr) (tv mv : V), vs = [.ref h, tv, mv] ∧ H h = some (.ins Z.a_History dh []) ∧ KvD Z H 2 mv ∧
  ((∃ x hs, tv = .ref x ∧ TreeAt Z H x hs ∧ IsTree hs ∧ (dueH H hs mv = .ok → ∀ H', But h H H' → H' h = some (.ins Z.a_History dh [("tree", tv), ("moves", mv)]) → Q .non H') ∧ (∀ e H', dueH H hs mv ≠ .ok → Same H H' → H' e = some (.xd [("part", valH (dueH H hs mv))]) → E (.ref Z.a_BadHistory) (some e) H')) ∨
  (Kn H tv ∧ ∀ e H', Same H H' → H' e = some (.xd [("part", .str "tree")]) → E (.ref Z.a_BadHistory) (some e) H'))
theorem ok_hist {f : Addr} {fd : FuncData} (F : Fun K "__init__" "History.__init__" s_History___init__ f fd) (B : Bl Z mg) (I : InsK K Z) (A0 : TyAp K Z) (MX : MvX K Z) (HC : HisC K Z) {f_is_pair : Addr} {fd_is_pair : FuncData} (C_is_pair : Cal K mg "is_pair" f_is_pair fd_is_pair ["thing"]) (G_is_pair : FnOk P w K mg base CX0 1 f_is_pair fd_is_pair ["thing"] (spPairK Z)) {f_moved : Addr} {fd_moved : FuncData} (C_moved : Cal K mg "moved" f_moved fd_moved ["tree", "block", "place"]) (G_moved : FnOk P w K mg base (L2N.CX P w) 6 f_moved fd_moved ["tree", "block", "place"] (spMovedK Z))
    {f_BadHistory___init__ : Addr} {fd_BadHistory___init__ : FuncData} (C_BadHistory___init__ : CalM K f_BadHistory___init__ fd_BadHistory___init__ ["self", "part"]) (G_BadHistory___init__ : FnOk P w K mg base CX0 1 f_BadHistory___init__ fd_BadHistory___init__ ["self", "part"] (spField Z.a_BadHistory "part")) (G_H : L2H.FnH P w K mg base CX0 1 f_BadHistory___init__ fd_BadHistory___init__ ["self", "part"] (spField Z.a_BadHistory "part")) (X_BadHistory : ExcF K Z.a_BadHistory f_BadHistory___init__ "part") : FnOk P w K mg base (L2.CX P w) 7 f fd ["self", "tree", "moves"] (spHist Z) := by
  refine F.okX sc_History___init__ (fun vs H Q E h => ?_) (fun cdv A outer s H vs Q E hr h => ?_)
  · obtain ⟨h, dh, tv, mv, rfl, _⟩ := h
    rfl
  · obtain ⟨h, dh, tv, mv, rfl, hh, km, hc⟩ := h
    refine ⟨_, (pss_cons (ps_if (pt_not (pt_val (pe_callB (call_isiK' (K := K) rfl) (by rfl) B.b_isinstance (by decide +kernel) (pa_cons (pv 1) (pa_cons (pe_glob (v := .ref Z.a_Tree) rfl B.k_Tree rfl) pa_nil))))) (pss_one (ps_raise rfl (takes_of rfl rfl rfl rfl) (pmk_oex X_BadHistory.T X_BadHistory.i X_BadHistory.t G_BadHistory___init__ (hr.mono (by first | decide | omega)) C_BadHistory___init__.b .nil pass0 (by rfl) B.k_BadHistory (pa_cons pe_str pa_nil)))) pss_nil)
 (pss_cons (ps_if (PW.pt (pw_or (pt_not (pt_val (pe_callB (call_isiK' (K := K) rfl) (by rfl) B.b_isinstance (by decide +kernel) (pa_cons (pv 2) (pa_cons (pe_bltn (v := .ty "tuple") (by rfl) B.b_tuple (by decide +kernel) rfl) pa_nil))))) (pw_or1 (pt_cmpR op_gt (pe_callB (call_lenK (K := K) rfl) (by rfl) B.b_len PySem.boot_len (pa_cons (pv 2) pa_nil)) (pe_glob (v := .int (100)) rfl B.c_MOST_MOVES ⟨_, rfl⟩) (nomark _))))) (pss_one (ps_raise rfl (takes_of rfl rfl rfl rfl) (pmk_oex X_BadHistory.T X_BadHistory.i X_BadHistory.t G_BadHistory___init__ (hr.mono (by first | decide | omega)) C_BadHistory___init__.b .nil pass0 (by rfl) B.k_BadHistory (pa_cons pe_str pa_nil)))) pss_nil)
 (pss_cons (ps_set (i := 3) sc_History___init__.nd rfl (Or.inl rfl) (pv 1))
 (pss_cons (ps_for (passes_of rfl) rfl (pi_enumT0 (K := K) rfl rfl (by rfl) B.b_enumerate (pa_cons (pv 2) pa_nil)) (pg_tup rfl (pgs_cons (pg_name (i := 4) sc_History___init__.nd rfl (Or.inl rfl)) (pgs_cons (pg_name (i := 5) sc_History___init__.nd rfl (Or.inl rfl)) pgs_nil))) (pss_cons (ps_if (pt_not (pt_val (pe_call G_is_pair (hr.mono (by first | decide | omega)) (by rfl) C_is_pair.g C_is_pair.k C_is_pair.b .nil pass0 (pa_cons (pv 5) pa_nil)))) (pss_one (ps_raise rfl (takes_of rfl rfl rfl rfl) (pmk_oex X_BadHistory.T X_BadHistory.i X_BadHistory.t G_BadHistory___init__ (hr.mono (by first | decide | omega)) C_BadHistory___init__.b .nil pass0 (by rfl) B.k_BadHistory (pa_cons (pv 4) pa_nil)))) pss_nil)
 (pss_one (ps_try_tup3 rfl rfl ⟨rfl, by decide, Or.inl B.k_NoBlock⟩ ⟨rfl, by decide, Or.inl B.k_NoPlace⟩ ⟨rfl, by decide, Or.inl B.k_Beneath⟩ (L2H.passesAt_of rfl) (takes_of rfl rfl rfl rfl) (fun W pn xe tk po => (pss_one (ps_set (i := 3) sc_History___init__.nd rfl (Or.inl rfl) (pe_callS (E := WE W) G_moved (hr.mono (by first | decide | omega)) (by rfl) C_moved.g C_moved.k C_moved.b (fun σ => L2N.passAt tk σ) (pa_cons (pv 3) (pa_cons (pe_ix (ix_tupK (K := K) rfl) (pv 5) pe_int (fun _ _ => rfl)) (pa_cons (pe_ix (ix_tupK (K := K) rfl) (pv 5) pe_int (fun _ _ => rfl)) pa_nil))))))) (fun a oe cls d pn hz hf tkS hot => (pss_one (L2H.ps_raiseHN hot tkS (L2H.pmk5_oexH X_BadHistory.T X_BadHistory.i X_BadHistory.t G_H (L2H.roomH_mark (hr.mono (by first | decide | omega)) _) hot C_BadHistory___init__.b pass0 (by rfl) B.k_BadHistory (pa_cons (pv 4) pa_nil)))))))))
 (pss_cons (ps_fld (pv 0) (pv 1) rfl)
 (pss_one (ps_fld (pv 0) (pv 2) rfl))))))), ?_⟩
    walk_at "h0"
    rcases hc with ⟨x, hs, rfl, tr, it, q, qe⟩ | ⟨kt, qe⟩
    · obtain ⟨dx, tt, h1, h2⟩ := id tr
      refine isi_own I.i h1 ?_
      walk_at "hs"
      have raised : ∀ (v : V) (d : DH) H1, dueH H hs mv = d → d ≠ .ok → valH d = v → Same H H1 → [v].length ≤ 1000 ∧ ∀ a, H1 a = none → spField Z.a_BadHistory "part" (.ref a :: ([v] ++ [])) (upd H1 a (exo a Z.a_BadHistory none)) (fun v H2 => v = .non ∧ ∃ (d : Addr) (fs : List (Str × V)), H2 a = some (exo a Z.a_BadHistory (some d)) ∧ H2 d = some (exd d fs) ∧ H1 d = none ∧ E (.ref Z.a_BadHistory) (some d) (upd (del H2 a) d (.xd fs))) (fun _ _ _ => False) := fun v d H1 hd nd hv s1 =>
        mk_field fun e H' s2 _ he => qe e H' (hd ▸ nd) (s1.trans s2) (by rw [hd, hv]; exact he)
      refine kv_tuple I km.kv ?_
      cases em : tupOf H mv with
      | none =>
        dsimp only [Option.isSome_none]
        walk_at "hs"
        exact raised _ .moves H (due_moves fun xs e => by rw [em] at e; cases e) (fun e => by cases e) rfl (Same.refl _)
      | some xs =>
        obtain ⟨tm, rfl, etm⟩ := tupOf_ref em
        have stm : SqT K H tm xs := .of etm
        dsimp only [Option.isSome_some]
        walk_at "hs"
        refine x_isd (fun c => ?_) (fun c => ?_)
        · walk_at "hs"
          exact raised _ .moves H (due_moves fun ys e => by rw [em] at e; cases e; omega) (fun e => by cases e) rfl (Same.refl _)
        have hl : ¬ xs.length > 100 := by omega
        have kx : ∀ m ∈ xs, KvD Z H 1 m := km.2 xs em
        walk_at "hs"
        refine x_ent1 stm ?_
        refine lp_enumT (K := K) (xs := xs) (fun i σ' H' => (∃ xl gs x4 x5, σ' = [some (.ref h), some (.ref x), some (.ref tm), some (.ref xl), x4, x5] ∧ runs H hs (xs.take i) = some gs ∧ TreeAt Z H' xl gs) ∧ Same H H')
          ⟨⟨x, hs, _, _, rfl, rfl, tr⟩, Same.refl _⟩ (fun i σ' H' _ hp => .of (hp.2 _ _ etm)) ?_ ?_
        · rintro i m σ' H1 T hm ⟨⟨xl, gs, x4, x5, rfl, hrun, trl⟩, s1⟩ hT
          have hmem : m ∈ xs := List.mem_of_getElem? hm
          have km1 := (kx m hmem).same s1
          have rt := runs_tree it hrun
          have bad : stepM H gs m = none → dueH H hs (.ref tm) = .at i := fun h3 => due_at em hl hrun hm h3
          have s2 : Same H (upd H1 T (.tup [.int (0 + (i : Int)), m])) := same_new s1 hT
          have km2 : KvD Z (upd H1 T (.tup [.int (0 + (i : Int)), m])) 1 m := (kx m hmem).same s2
          have trl2 := trl.same (same_new (Same.refl _) hT (o := .tup [.int (0 + (i : Int)), m]))
          have st : SqT K (upd H1 T (.tup [.int (0 + (i : Int)), m])) T [.int (0 + (i : Int)), m] := .of upd_same
          have vi : valH (.at i) = .int (0 + (i : Int)) := by rw [Int.zero_add]; rfl
          generalize upd H1 T (.tup [.int (0 + (i : Int)), m]) = H2 at *
          walk_at "hs"
          refine ⟨m, rfl, km2.kv, ?_⟩
          cases hp : lenIs H2 2 m with
          | false =>
            walk_at "hs"
            refine raised _ (.at i) H2 (bad ?_) (fun e => by cases e) vi s2
            have e2 := tupOf_same (Z := Z) s2 (kx m hmem).kv
            unfold stepM
            unfold lenIs at hp
            rw [e2] at hp
            cases e3 : tupOf H m with
            | none => rfl
            | some l =>
              rw [e3] at hp
              match l, hp with
              | [], _ => rfl
              | [_], _ => rfl
              | [_, _], hp => simp at hp
              | _ :: _ :: _ :: _, _ => rfl
          | true =>
            obtain ⟨b, p, em2⟩ : ∃ b p, tupOf H2 m = some [b, p] := by
              unfold lenIs at hp
              cases e3 : tupOf H2 m with
              | none => rw [e3] at hp; cases hp
              | some l =>
                rw [e3] at hp
                match l, hp with
                | [], hp => simp at hp
                | [_], hp => simp at hp
                | [b, p], _ => exact ⟨b, p, rfl⟩
                | _ :: _ :: _ :: _, hp =>
                  have := of_decide_eq_true hp
                  simp only [List.length_cons] at this
                  omega
            obtain ⟨am, rfl, eam⟩ := tupOf_ref em2
            have sam : SqT K H2 am [b, p] := .of eam
            have sm : stepM H gs (.ref am) = okMv gs b p := by
              rw [← step_same (Z := Z) s2 (kx _ hmem).kv]
              unfold stepM
              rw [em2]
            walk_at "hs"
            refine x_callS ?_
            walk_at "hs"
            refine ⟨xl, gs, b, p, rfl, trl2, rt.1, (km2.2 _ em2 b (by simp)), (km2.2 _ em2 p (by simp)), fun c d hok m2 H3 s3 nm tr3 => ?_, fun hno c H3 hc s3 => ⟨MX.k c hc, fun a na => ?_⟩⟩
            · walk_at "hs"
              refine ⟨⟨m2, put gs c d, _, _, rfl, ?_, tr3⟩, s2.trans s3⟩
              rw [List.take_succ, hm]
              exact runs_snoc (x := (c, d)) (sm.trans hok) hrun
            · walk_at "hs"
              exact raised _ (.at i) H3 (bad (sm.trans hno)) (fun e => by cases e) vi (s2.trans s3)
        · rintro σ' H1 ⟨⟨xl, gs, x4, x5, rfl, hrun, trl⟩, s1⟩
          rw [List.take_length] at hrun
          have dok := due_ok em hl hrun
          have hh1 := s1 _ _ hh
          walk_at "hs"
          refine ⟨h, _, dh, [], rfl, hh1, HC.c, HC.nt, by decide, ?_⟩
          walk_at "hs"
          refine ⟨h, _, dh, _, rfl, upd_same, HC.c, HC.nm, Nat.lt_of_le_of_lt (putF_len ..) (by decide), ?_⟩
          walk_at "hs"
          refine q dok _ (((But.of s1).mut).mut) ?_
          rw [upd_same]
          rfl
    · refine isi_noTree A0 kt ?_
      walk_at "hs"
      exact mk_field fun e H' s2 _ he => qe e H' s2 he
end
set_option maxRecDepth 100000
set_option maxHeartbeats 2000000
open PySem PySem.Spec L2


theorem sc_History___eq__ : FnScope ["self", "other"] ["self", "other"] (defScope s_History___eq__) := ⟨rfl, rfl, rfl, by decide +kernel, rfl, by decide +kernel, by decide +kernel⟩
/-! moves that are let, one after the other -/
def okPr (hs : List Nat) (x : Nat × Nat) : Prop := 1 ≤ x.1 ∧ x.1 ≤ hs.length ∧ x.2 ≤ hs.length ∧ x.2 ≠ x.1 ∧ x.1 ∉ way hs x.2
def final (hs : List Nat) (ms : List (Nat × Nat)) : List Nat := ms.foldl (fun h x => put h x.1 x.2) hs
def OkAll (hs : List Nat) (ms : List (Nat × Nat)) : Prop := ∀ i x, ms[i]? = some x → okPr (final hs (ms.take i)) x
theorem final_snoc (hs : List Nat) (ms : List (Nat × Nat)) (x : Nat × Nat) : final hs (ms ++ [x]) = put (final hs ms) x.1 x.2 := by
  unfold final
  rw [List.foldl_append]
  rfl
theorem final_take {hs : List Nat} {ms : List (Nat × Nat)} {i : Nat} {x : Nat × Nat} (h : ms[i]? = some x) : final hs (ms.take (i + 1)) = put (final hs (ms.take i)) x.1 x.2 := by
  rw [List.take_succ, h]
  exact final_snoc _ _ _
theorem final_len (hs : List Nat) : ∀ (ms : List (Nat × Nat)), (final hs ms).length = hs.length := fun ms => by
  unfold final
  induction ms generalizing hs with
  | nil => rfl
  | cons x ms ih =>
    rw [List.foldl_cons, ih, put_len]
theorem OkAll.nil (hs : List Nat) : OkAll hs [] := fun i x h => by cases h
theorem OkAll.snoc {hs : List Nat} {ms : List (Nat × Nat)} {x : Nat × Nat} (h : OkAll hs ms) (k : okPr (final hs ms) x) : OkAll hs (ms ++ [x]) := fun i y e => by
  rcases Nat.lt_or_ge i ms.length with c | c
  · rw [List.getElem?_append_left c] at e
    rw [List.take_append_of_le_length (by omega)]
    exact h i y e
  · rw [List.getElem?_append_right c] at e
    have hi : i - ms.length = 0 := by
      have := (List.getElem?_eq_some_iff.mp e).1
      rw [List.length_singleton] at this
      omega
    rw [hi] at e
    cases e
    have : i = ms.length := by omega
    subst this
    rw [List.take_append_of_le_length (Nat.le_refl _), List.take_length]
    exact k
theorem OkAll.trees {hs : List Nat} {ms : List (Nat × Nat)} (t : IsTree hs) (h : OkAll hs ms) : ∀ i, IsTree (final hs (ms.take i))
  | 0 => t
  | i + 1 => by
    have ih := OkAll.trees t h i
    cases e : ms[i]? with
    | none =>
      have hl := List.getElem?_eq_none_iff.mp e
      rw [List.take_of_length_le (by omega)]
      rw [List.take_of_length_le hl] at ih
      exact ih
    | some x =>
      rw [final_take e]
      obtain ⟨h1, h2, h3, h4, h5⟩ := h i x e
      exact put_tree ih h1 h2 h3 h4 h5
theorem OkAll.tree {hs : List Nat} {ms : List (Nat × Nat)} (t : IsTree hs) (h : OkAll hs ms) : IsTree (final hs ms) := by
  have := h.trees t ms.length
  rwa [List.take_length] at this
theorem step_ok {H : Hp} {hs : List Nat} {v : V} {x : Nat × Nat} (p : PrV H v x) (k : okPr hs x) : stepM H hs v = some x := by
  obtain ⟨t, rfl, ht⟩ := p
  obtain ⟨k1, k2, k3, k4, k5⟩ := k
  unfold stepM
  rw [tupOf_at ht]
  show okMv hs (.int (x.1 : Nat)) (.int (x.2 : Nat)) = some x
  exact if_pos ⟨by omega, by omega, by omega, by omega, fun e => k4 (by omega), k5⟩
theorem runs_ok {H : Hp} {hs : List Nat} {vs : List V} {ms : List (Nat × Nat)} (pv : PrsV H vs ms) (h : OkAll hs ms) : ∀ i, i ≤ vs.length → runs H hs (vs.take i) = some (final hs (ms.take i))
  | 0, _ => rfl
  | i + 1, hi => by
    have hv := List.getElem?_eq_getElem (l := vs) (i := i) (by omega)
    obtain ⟨x, hx, px⟩ := pv.at hv
    rw [List.take_succ, hv, final_take hx]
    exact runs_snoc (step_ok px (h i x hx)) (runs_ok pv h i (by omega))
theorem kvd_prs {Z : Ad} {H : Hp} {u : Addr} {vs : List V} {ms : List (Nat × Nat)} (hu : H u = some (.tup vs)) (pv : PrsV H vs ms) : ∀ n, KvD Z H n (.ref u) := kvd_tup hu fun v hv => by
  obtain ⟨x, t, rfl, ht⟩ := pv.all hv
  exact kvd_tup ht fun y hy => by
    rcases List.mem_cons.mp hy with rfl | hy
    · exact kvd_sca rfl
    · rw [List.mem_singleton.mp hy]
      exact kvd_sca rfl
theorem hist_due {H : Hp} {u : Addr} {hs : List Nat} {vs : List V} {ms : List (Nat × Nat)} (hu : H u = some (.tup vs)) (pv : PrsV H vs ms) (h : OkAll hs ms) (hl : ms.length ≤ 100) : dueH H hs (.ref u) = .ok := by
  have e : tupOf H (.ref u) = some vs := tupOf_at hu
  have r := runs_ok pv h vs.length (Nat.le_refl _)
  rw [List.take_length] at r
  exact due_ok e (by rw [pv.len]; omega) r
/-- a history at x -/
def HistAt (Z : Ad) (H : Hp) (x : Addr) (hs : List Nat) (ms : List (Nat × Nat)) : Prop := ∃ dh t u vs, H x = some (.ins Z.a_History dh [("tree", .ref t), ("moves", .ref u)]) ∧ TreeAt Z H t hs ∧ H u = some (.tup vs) ∧ PrsV H vs ms
theorem HistAt.same {Z : Ad} {H H' : Hp} {x : Addr} {hs : List Nat} {ms : List (Nat × Nat)} (s : Same H H') (h : HistAt Z H x hs ms) : HistAt Z H' x hs ms := by
  obtain ⟨dh, t, u, vs, h1, h2, h3, h4⟩ := h
  exact ⟨dh, t, u, vs, s _ _ h1, h2.same s, s _ _ h3, h4.same s⟩
theorem pdT_shaped (l : List (Nat × Nat)) : SeqAt.shaped (.tuple (pds l)) = true := by
  show (PyData.canLayAll0 (pds l) && decide (PyData.depthAll (pds l) + 1 ≤ 64)) = true
  have := pds_depth l
  rw [pds_lay, decide_eq_true (by omega)]
  rfl
section
variable {P : Program} {w : World} {K : PySem.W.Frag} {mg : Str → Option Value} {base : Heap} {Z : Ad}
theorem x_eqPrs {H : Hp} {Q : VK} {a b : Addr} {vs ws : List V} {ms ns : List (Nat × Nat)} (h1 : H a = some (.tup vs)) (h2 : H b = some (.tup ws)) (p1 : PrsV H vs ms) (p2 : PrsV H ws ns) (q : Q (.bl (decide (ms = ns))) H) : rEqD K (.ref a) (.ref b) H Q := by
  refine ⟨.tuple (pds ms), .tuple (pds ns), .tup (.of h1) p1.dp, .tup (.of h2) p2.dp, pdT_shaped ms, pdT_shaped ns, ?_⟩
  rw [PyData.eqv, pds_eqv]
  exact q
theorem x_nePrs {H : Hp} {Q : VK} {a b : Addr} {vs ws : List V} {ms ns : List (Nat × Nat)} (h1 : H a = some (.tup vs)) (h2 : H b = some (.tup ws)) (p1 : PrsV H vs ms) (p2 : PrsV H ws ns) (q : Q (.bl (!decide (ms = ns))) H) : rNeD K (.ref a) (.ref b) H Q := by
  refine ⟨.tuple (pds ms), .tuple (pds ns), .tup (.of h1) p1.dp, .tup (.of h2) p2.dp, pdT_shaped ms, pdT_shaped ns, ?_⟩
  rw [PyData.eqv, pds_eqv]
  exact q
theorem make_hist {H : Hp} {R : Addr → Hp → Prop} {t u : Addr} {hs : List Nat} {vs : List V} {ms : List (Nat × Nat)} (tr : TreeAt Z H t hs) (it : IsTree hs) (hu : H u = some (.tup vs)) (pv : PrsV H vs ms) (ok : OkAll hs ms) (hl : ms.length ≤ 100) (q : ∀ m H', H m = none → Same H H' → HistAt Z H' m hs ms → R m H') :
    ∀ x dx, H x = none → H dx = none → dx ≠ x → spHist Z (.ref x :: ([.ref t, .ref u] ++ [])) (upd (upd H dx (.own x)) x (.ins Z.a_History dx [])) (fun v H2 => v = .non ∧ R x H2) (fun _ _ _ => False) := by
  intro m dm hm hdm ne
  have hm2 : upd H dm (.own m) m = none := by
    rw [upd_ne (Ne.symm ne)]
    exact hm
  have s0 : Same H (upd (upd H dm (.own m)) m (.ins Z.a_History dm [])) := same_new (same_new (Same.refl H) hdm) hm2
  have du := hist_due (s0 _ _ hu) (pv.same s0) ok hl
  refine ⟨m, dm, _, _, rfl, upd_same, kvd_prs (s0 _ _ hu) (pv.same s0) 2, .inl ⟨t, hs, rfl, tr.same s0, it, fun _ H' b1 e => ⟨rfl, ?_⟩, fun _ _ nd => (nd du).elim⟩⟩
  have s1 : Same H H' := fun b o e => b1 _ _ (ne_of_none e hm) (s0 _ _ e)
  exact q m H' hm s1 ⟨dm, t, u, vs, e, tr.same s1, s1 _ _ hu, pv.same s1⟩
def spEqH (Z : Ad) : Sp := fun vs H Q _ => ∃ (a b : Addr) (hs : List Nat) (ms : List (Nat × Nat)), vs = [.ref a, .ref b] ∧ HistAt Z H a hs ms ∧ ((∃ gs ns, HistAt Z H b gs ns ∧ Q (.bl (decide (hs = gs ∧ ms = ns))) H) ∨ ((∃ xs, H b = some (.tup xs)) ∧ Q (.bl false) H))
theorem ok_eqH {f : Addr} {fd : FuncData} (F : Fun K "__eq__" "History.__eq__" s_History___eq__ f fd) (B : Bl Z mg) (T : IsC K Z.a_History) (HC : HisC K Z) {f_Tree___eq__ : Addr} {fd_Tree___eq__ : FuncData} (C_Tree___eq__ : CalM K f_Tree___eq__ fd_Tree___eq__ ["self", "other"]) (G_Tree___eq__ : FnOk P w K mg base CX0 1 f_Tree___eq__ fd_Tree___eq__ ["self", "other"] (spEqT Z)) (O_Tree : OwnQ K Z.a_Tree f_Tree___eq__) : FnOk P w K mg base CX0 2 f fd ["self", "other"] (spEqH Z) := by
  refine F.ok sc_History___eq__ (fun vs H Q E h => ?_) (fun cdv A outer s H vs Q E hr h => ?_)
  · obtain ⟨a, b, hs, ms, rfl, _⟩ := h
    rfl
  · obtain ⟨a, b, hs, ms, rfl, ⟨dh, t, u, us, h1, h2, h3, h4⟩, h⟩ := h
    refine ⟨_, (pss_cons (ps_if (pt_not (pt_val (pe_callB (call_isiK' (K := K) rfl) (by rfl) B.b_isinstance (by decide +kernel) (pa_cons (pv 1) (pa_cons (pe_glob (v := .ref Z.a_History) rfl B.k_History rfl) pa_nil))))) (pss_one (ps_ret pe_bl)) pss_nil)
 (pss_one (ps_ret (pe_and (pe_cmpR (op_own O_Tree G_Tree___eq__ C_Tree___eq__.b (hr.mono (by first | decide | omega))) (pe_fldK (K := K) rfl (pv 0) rfl) (pe_fldK (K := K) rfl (pv 1) rfl) (nomark _)) (pe_one (pe_cmpR (op_eqDK (K := K) rfl hr.units) (pe_fldK (K := K) rfl (pv 0) rfl) (pe_fldK (K := K) rfl (pv 1) rfl) (nomark _))))))), ?_⟩
    walk_at "h0"
    rcases h with ⟨gs, ns, ⟨dk, t2, u2, ws, g1, g2, g3, g4⟩, q⟩ | ⟨⟨xs, hb⟩, q⟩
    · refine isi_own T g1 ?_
      walk_at "hs"
      refine ⟨a, _, dh, _, _, rfl, h1, HC.c, HC.nt, rfl, ?_⟩
      walk_at "hs"
      refine ⟨b, _, dk, _, _, rfl, g1, HC.c, HC.nt, rfl, ?_⟩
      refine eq_trees h2 g2 ?_
      by_cases c : hs = gs
      · rw [decide_eq_true c]
        walk_at "hs"
        refine ⟨a, _, dh, _, _, rfl, h1, HC.c, HC.nm, rfl, ?_⟩
        walk_at "hs"
        refine ⟨b, _, dk, _, _, rfl, g1, HC.c, HC.nm, rfl, ?_⟩
        refine x_eqPrs h3 g3 h4 g4 ?_
        walk_at "hs"
        rw [show decide (hs = gs ∧ ms = ns) = decide (ms = ns) by rw [decide_eq_decide]; exact ⟨fun h => h.2, fun h => ⟨c, h⟩⟩] at q
        exact q
      · rw [decide_eq_false c]
        walk_at "hs"
        rw [decide_eq_false fun h => c h.1] at q
        exact q
    · refine isi_tupOwn T hb ?_
      walk_at "hs"
      exact q
def spNow (Z : Ad) : Sp := fun vs H Q _ => ∃ (x : Addr) (hs : List Nat) (ms : List (Nat × Nat)), vs = [.ref x] ∧ HistAt Z H x hs ms ∧ IsTree hs ∧ OkAll hs ms ∧ ∀ m H', H m = none → Same H H' → TreeAt Z H' m (final hs ms) → Q (.ref m) H'
end
set_option maxRecDepth 100000
set_option maxHeartbeats 1000000
open PySem PySem.Spec L2


def refs (as : List Addr) : List V := as.map V.ref
theorem refs_length (as : List Addr) : (refs as).length = as.length := List.length_map ..
theorem refs_get {as : List Addr} {i : Nat} {a : Addr} (h : as[i]? = some a) : (refs as)[i]? = some (.ref a) := by
  unfold refs
  rw [List.getElem?_map, h]
  rfl
theorem refs_app (c d : List Addr) : refs (c ++ d) = refs c ++ refs d := List.map_append ..
set_option maxRecDepth 100000
set_option maxHeartbeats 2000000
open PySem PySem.Spec L2


local macro_rules | `(tactic| walk_at "h1") => `(tactic| first
  | with_reducible refine x_dget ?_
  | with_reducible refine x_dc ?_
  | with_reducible refine x_keysF ?_
  | with_reducible refine x_keysFT ?_
  | with_reducible refine x_listZip ?_
  | with_reducible refine x_enls ?_)

theorem sc__ties_of : FnScope ["hung", "block", "place"] ["hung"] (defScope s__ties_of) := ⟨rfl, rfl, rfl, by decide +kernel, rfl, by decide +kernel, by decide +kernel⟩
/-- lists at as -/
def LsAt (H : Hp) (as : List Addr) (ls : List (List Nat)) : Prop := as.length = ls.length ∧ ∀ (i : Nat) (a : Addr) (l : List Nat), as[i]? = some a → ls[i]? = some l → H a = some (.lst (nats l))
theorem LsAt.same {H H' : Hp} {as : List Addr} {ls : List (List Nat)} (s : Same H H') (h : LsAt H as ls) : LsAt H' as ls := ⟨h.1, fun i a l ha hl => s _ _ (h.2 i a l ha hl)⟩
theorem LsAt.but {H H' : Hp} {d : Addr} {as : List Addr} {ls : List (List Nat)} (b : But d H H') (n : ∀ xs, H d ≠ some (.lst xs)) (h : LsAt H as ls) : LsAt H' as ls := ⟨h.1, fun i a l ha hl => b _ _ (fun z => n _ (z ▸ h.2 i a l ha hl)) (h.2 i a l ha hl)⟩
theorem LsAt.get {H : Hp} {as : List Addr} {ls : List (List Nat)} (h : LsAt H as ls) {i : Nat} (hi : i < ls.length) : ∃ a, as[i]? = some a ∧ H a = some (.lst (nats ls[i])) := by
  have h1 : i < as.length := by rw [h.1]; exact hi
  exact ⟨as[i], List.getElem?_eq_getElem h1, h.2 i _ _ (List.getElem?_eq_getElem h1) (List.getElem?_eq_getElem hi)⟩
theorem LsAt.snoc {H : Hp} {as : List Addr} {ls : List (List Nat)} {a : Addr} {l : List Nat} (h : LsAt H as ls) (ha : H a = some (.lst (nats l))) : LsAt H (as ++ [a]) (ls ++ [l]) := by
  refine ⟨by rw [List.length_append, List.length_append, h.1]; rfl, fun i b m hb hm => ?_⟩
  rw [List.getElem?_append] at hb hm
  rw [h.1] at hb
  split at hb
  · rename_i c
    rw [if_pos c] at hm
    exact h.2 i b m hb hm
  · rename_i c
    rw [if_neg c] at hm
    cases e : i - ls.length with
    | zero =>
      rw [e] at hb hm
      cases hb
      cases hm
      exact ha
    | succ j =>
      rw [e] at hb
      cases hb
/-- a dict of blocks, a list for each, all of them different lists -/
def TiesAt (H0 H : Hp) (D : Addr) (ls : List (List Nat)) : Prop := ∃ as : List Addr, as.Nodup ∧ (∀ a ∈ as, H0 a = none) ∧ H D = some (.dK (kdl 1 (refs as))) ∧ LsAt H as ls
/-- tuples at as -/
def TlAt (H : Hp) (as : List Addr) (ls : List (List Nat)) : Prop := as.length = ls.length ∧ ∀ (i : Nat) (a : Addr) (l : List Nat), as[i]? = some a → ls[i]? = some l → H a = some (.tup (nats l))
theorem TlAt.same {H H' : Hp} {as : List Addr} {ls : List (List Nat)} (s : Same H H') (h : TlAt H as ls) : TlAt H' as ls := ⟨h.1, fun i a l ha hl => s _ _ (h.2 i a l ha hl)⟩
theorem TlAt.but {H H' : Hp} {d : Addr} {as : List Addr} {ls : List (List Nat)} (b : But d H H') (n : ∀ xs, H d ≠ some (.tup xs)) (h : TlAt H as ls) : TlAt H' as ls := ⟨h.1, fun i a l ha hl => b _ _ (fun z => n _ (z ▸ h.2 i a l ha hl)) (h.2 i a l ha hl)⟩
theorem TlAt.get {H : Hp} {as : List Addr} {ls : List (List Nat)} (h : TlAt H as ls) {i : Nat} (hi : i < ls.length) : ∃ a, as[i]? = some a ∧ H a = some (.tup (nats ls[i])) := by
  have h1 : i < as.length := by rw [h.1]; exact hi
  exact ⟨as[i], List.getElem?_eq_getElem h1, h.2 i _ _ (List.getElem?_eq_getElem h1) (List.getElem?_eq_getElem hi)⟩
theorem TlAt.snoc {H : Hp} {as : List Addr} {ls : List (List Nat)} {a : Addr} {l : List Nat} (h : TlAt H as ls) (ha : H a = some (.tup (nats l))) : TlAt H (as ++ [a]) (ls ++ [l]) := by
  refine ⟨by rw [List.length_append, List.length_append, h.1]; rfl, fun i b m hb hm => ?_⟩
  rw [List.getElem?_append] at hb hm
  rw [h.1] at hb
  split at hb
  · rename_i c
    rw [if_pos c] at hm
    exact h.2 i b m hb hm
  · rename_i c
    rw [if_neg c] at hm
    cases e : i - ls.length with
    | zero =>
      rw [e] at hb hm
      cases hb
      cases hm
      exact ha
    | succ j =>
      rw [e] at hb
      cases hb
/-- what the blocks had, a tuple for each -/
def KnownAt (H : Hp) (D : Addr) (ks : List (List Nat)) : Prop := ∃ as : List Addr, H D = some (.dK (kdl 1 (refs as))) ∧ TlAt H as ks
theorem KnownAt.same {H H' : Hp} {D : Addr} {ks : List (List Nat)} (s : Same H H') (h : KnownAt H D ks) : KnownAt H' D ks := by
  obtain ⟨as, h1, h2⟩ := h
  exact ⟨as, s _ _ h1, h2.same s⟩
theorem KnownAt.but {H H' : Hp} {D p : Addr} {ks : List (List Nat)} (b : But p H H') (n : ∀ xs, H p ≠ some (.tup xs)) (ne : D ≠ p) (h : KnownAt H D ks) : KnownAt H' D ks := by
  obtain ⟨as, h1, h2⟩ := h
  exact ⟨as, b _ _ ne h1, h2.but b n⟩
theorem refs_snoc (as : List Addr) (a : Addr) : refs as ++ [V.ref a] = refs (as ++ [a]) := by
  rw [refs_app]
  rfl
section
variable {P : Program} {w : World} {K : PySem.W.Frag} {mg : Str → Option Value} {base : Heap} {Z : Ad}
def spTies : Sp := fun vs H Q _ => ∃ (t : Addr) (hs : List Nat), vs = [.ref t] ∧ H t = some (.lst (nats hs)) ∧ hs.length ≤ 40 ∧ ∀ D H', Same H H' → H D = none → TiesAt H H' D (hs.map fun p => [p]) → Q (.ref D) H'
theorem ok_ties {f : Addr} {fd : FuncData} (F : Fun K "_ties_of" "_ties_of" s__ties_of f fd) (B : Bl Z mg) : FnOk P w K mg base CX0 1 f fd ["hung"] spTies := by
  refine F.ok sc__ties_of (fun vs H Q E h => ?_) (fun cdv A outer s H vs Q E hr h => ?_)
  · obtain ⟨t, hs, rfl, _⟩ := h
    rfl
  · obtain ⟨t, hs, rfl, ht, h40, q⟩ := h
    refine ⟨_, (pss_one (ps_ret (pe_dc (own := [("block", 1), ("place", 2)]) rfl sc__ties_of.nd (pi_enumLS (K := K) rfl rfl (by rfl) B.b_enumerate (by decide) (by decide) (pa_cons (pv 0) pa_nil)) (blkOk_by (N := ["hung", "block", "place"]) (sc := defScope s__ties_of) (by decide +kernel)) (fun _ _ _ _ _ => (pg_tupK (K := K) (n := 2) rfl rfl (pgs_cons (pg_name (i := 1) sc__ties_of.nd rfl (Or.inl rfl)) (pgs_cons (pg_name (i := 2) sc__ties_of.nd rfl (Or.inl rfl)) pgs_nil)))) (fun _ _ _ _ _ => pts_nil) (fun _ _ _ _ _ => (pv 1)) (fun _ _ _ _ _ => (pe_lst (pa_cons (pv 2) pa_nil)))))), ?_⟩
    walk_at "h0"
    refine ⟨t, nats hs, rfl, .of ht, fun D hD => ?_⟩
    refine dc_it (walk_enumLS (K := K) (t := t) (k := 1) (xs := nats hs)) (fun i G => Same H G ∧ ∃ as : List Addr, as.length = i ∧ as.Nodup ∧ (∀ a ∈ as, G a ≠ none) ∧ (∀ a ∈ as, H a = none) ∧ G D = some (.dK (kdl 1 (refs as))) ∧ LsAt G as ((hs.take i).map fun p => [p]))
      ⟨same_new (Same.refl _) hD, [], rfl, .nil, (fun a h => nomatch h), (fun a h => nomatch h), upd_same, rfl, fun i a l ha => nomatch ha⟩ (fun i G _ h => .of (h.1 _ _ ht)) ?_ ?_
    · rintro i x G G' hi ⟨s1, as, la, nd, al, fr, eD, ls⟩ ⟨T, x1, x2, rfl, nT, rfl, e1, e2⟩
      cases e1
      rw [nats_length] at hi
      obtain rfl : V.int (hs[i] : Nat) = x2 := Option.some.inj ((nats_get (List.getElem?_eq_getElem hi)).symm.trans e2)
      have s2 : Same G (upd G T (.tup [.int (1 + (i : Nat)), .int (hs[i] : Nat)])) := same_new (Same.refl _) nT
      have eT : upd G T (.tup [.int (1 + (i : Nat)), .int (hs[i] : Nat)]) T = some (.tup [.int (1 + (i : Nat)), .int (hs[i] : Nat)]) := upd_same
      generalize upd G T (.tup [.int (1 + (i : Nat)), .int (hs[i] : Nat)]) = G1 at s2 eT ⊢
      walk_at "hs"
      refine ⟨rfl, ?_⟩
      walk_at "hs"
      intro a na
      have s3 : Same G1 (upd G1 a (.lst [.int (hs[i] : Nat)])) := same_new (Same.refl _) na
      have ea : upd G1 a (.lst [.int (hs[i] : Nat)]) a = some (.lst [.int (hs[i] : Nat)]) := upd_same
      generalize upd G1 a (.lst [.int (hs[i] : Nat)]) = G2 at s3 ea ⊢
      walk_at "hs"
      have s13 := (s1.trans s2).trans s3
      have s23 := s2.trans s3
      have eD2 := s23 _ _ eD
      have b2 : But D G2 (upd G2 D (.dK (putK (kdl 1 (refs as)) (Sum.inl (1 + (i : Nat))) (.ref a)))) := But.mut (But.refl _ _)
      have nl : ∀ xs, G2 D ≠ some (.lst xs) := fun xs z => by rw [eD2] at z; cases z
      have nDa : a ≠ D := fun z => by rw [z, eD2] at ea; cases ea
      refine ⟨_, Sum.inl (1 + (i : Nat)), rfl, eD2, szLt (by rw [kdl_len, refs_length]; omega), same_mut s13 hD, as ++ [a], by rw [List.length_append, la]; rfl, L2.nd_snoc nd (fun m => al a m (s2.free na)), fun b hb => ?_, fun b hb => ?_, ?_, ?_⟩
      · by_cases z : b = D
        · rw [z, upd_same]
          exact nofun
        · rw [upd_ne z]
          rcases List.mem_append.mp hb with hb | hb
          · intro e
            exact al b hb (s23.free e)
          · rw [List.mem_singleton.mp hb, ea]
            exact nofun
      · rcases List.mem_append.mp hb with hb | hb
        · exact fr b hb
        · rw [List.mem_singleton.mp hb]
          exact s1.free (s2.free na)
      · rw [upd_same, kdl_snoc (by rw [refs_length, la]; omega), refs_snoc]
      · rw [List.take_add_one, List.getElem?_eq_getElem hi, List.map_append]
        exact ((ls.same s23).but b2 nl).snoc (l := [hs[i]]) (b2 _ _ nDa ea)
    · rintro G ⟨s1, as, la, nd, al, fr, eD, ls⟩
      rw [nats_length, List.take_length] at ls
      exact q D G s1 hD ⟨as, nd, fr, eD, ls⟩
theorem ints_nats (l : List Nat) : (intsN l).map V.int = nats l := by
  unfold intsN nats
  rw [List.map_map]
  rfl
/-- a list gets one more -/
theorem LsAt.put {H : Hp} {as : List Addr} {ls : List (List Nat)} {i : Nat} {a : Addr} {l : List Nat} (h : LsAt H as ls) (nd : as.Nodup) (ha : as[i]? = some a) : LsAt (upd H a (.lst (nats l))) as (ls.set i l) := by
  refine ⟨by rw [List.length_set]; exact h.1, fun j b m hb hm => ?_⟩
  rw [List.getElem?_set] at hm
  by_cases c : i = j
  · subst c
    rw [ha] at hb
    cases hb
    rw [if_pos rfl] at hm
    split at hm
    · cases hm
      exact upd_same
    · cases hm
  · rw [if_neg c] at hm
    have ne : b ≠ a := fun z => by
      subst z
      obtain ⟨h1, e1⟩ := List.getElem?_eq_some_iff.mp ha
      obtain ⟨h2, e2⟩ := List.getElem?_eq_some_iff.mp hb
      have pw := List.pairwise_iff_getElem.mp nd
      rcases Nat.lt_or_gt_of_ne c with lt | lt
      · exact pw i j h1 h2 lt (e1.trans e2.symm)
      · exact pw j i h2 h1 lt (e2.trans e1.symm)
    rw [upd_ne ne]
    exact h.2 j b m hb hm
/-- moves that name blocks and other places -/
def MvOk (n : Nat) (ms : List (Nat × Nat)) : Prop := ∀ m ∈ ms, 1 ≤ m.1 ∧ m.1 ≤ n ∧ m.2 ≤ n ∧ m.2 ≠ m.1
def HgOk (hs : List Nat) : Prop := ∀ i p, hs[i]? = some p → p ≤ hs.length ∧ p ≠ i + 1
end
set_option maxRecDepth 100000
set_option maxHeartbeats 2000000
open PySem PySem.Spec L2


local macro_rules | `(tactic| walk_at "h1") => `(tactic| first
  | with_reducible refine x_dget ?_
  | with_reducible refine x_dc ?_
  | with_reducible refine x_keysF ?_
  | with_reducible refine x_keysFT ?_
  | with_reducible refine x_listZip ?_
  | with_reducible refine x_enls ?_)

theorem sc__law_had : FnScope ["_law_hung", "_law_moves_here", "_law_found", "_law_block", "_law_place"] ["_law_hung", "_law_moves_here"] (defScope s__law_had) := ⟨rfl, rfl, rfl, by decide +kernel, rfl, by decide +kernel, by decide +kernel⟩
theorem paired_kdl {K : PySem.W.Frag} {H : Hp} : ∀ (k : Nat) (ps : List Addr) (xs : List V), ps.length = xs.length → (∀ (i : Nat) (p : Addr) (x : V), ps[i]? = some p → xs[i]? = some x → SqT K H p [.int ((k + i : Nat) : Int), x]) → Paired (fun p kv => SqT K H p [kV kv.1, kv.2]) ps (kdl k xs)
  | _, [], [], _, _ => .nil
  | _, [], _ :: _, h, _ => nomatch h
  | _, _ :: _, [], h, _ => nomatch h
  | k, p :: ps, x :: xs, h, q => .cons (q 0 p x rfl rfl) (paired_kdl (k + 1) ps xs (Nat.succ.inj h) fun i p' x' h1 h2 => by
      have := q (i + 1) p' x' h1 h2
      rw [show k + (i + 1) = k + 1 + i by omega] at this
      exact this)
/-- pairs at ps: a number from k on, and what stands at as -/
def PsAt (H : Hp) (k : Nat) (ps as : List Addr) : Prop := ps.length = as.length ∧ ∀ (i : Nat) (p a : Addr), ps[i]? = some p → as[i]? = some a → H p = some (.tup [.int ((k + i : Nat) : Int), .ref a])
theorem PsAt.same {H H' : Hp} {k : Nat} {ps as : List Addr} (s : Same H H') (h : PsAt H k ps as) : PsAt H' k ps as := ⟨h.1, fun i p a h1 h2 => s _ _ (h.2 i p a h1 h2)⟩
theorem PsAt.but {H H' : Hp} {d : Addr} {k : Nat} {ps as : List Addr} (b : But d H H') (n : ∀ xs, H d ≠ some (.tup xs)) (h : PsAt H k ps as) : PsAt H' k ps as := ⟨h.1, fun i p a h1 h2 => b _ _ (fun z => n _ (z ▸ h.2 i p a h1 h2)) (h.2 i p a h1 h2)⟩
theorem get_snoc {α : Type} {l : List α} {x y : α} {i : Nat} (h : (l ++ [x])[i]? = some y) : l[i]? = some y ∨ (i = l.length ∧ y = x) := by
  rw [List.getElem?_append] at h
  split at h
  · exact .inl h
  · rename_i c
    refine .inr ?_
    cases e : i - l.length with
    | zero =>
      rw [e] at h
      cases h
      exact ⟨by omega, rfl⟩
    | succ j =>
      rw [e] at h
      cases h
theorem PsAt.snoc {H : Hp} {k : Nat} {ps as : List Addr} {p a : Addr} {n : Int} (h : PsAt H k ps as) (hn : n = ((k + ps.length : Nat) : Int)) (hp : H p = some (.tup [.int n, .ref a])) : PsAt H k (ps ++ [p]) (as ++ [a]) := by
  refine ⟨by rw [List.length_append, List.length_append, h.1]; rfl, fun i q b hq hb => ?_⟩
  rcases get_snoc hq with g | ⟨rfl, rfl⟩
  · rcases get_snoc hb with g2 | ⟨e, rfl⟩
    · exact h.2 i q b g g2
    · have := (List.getElem?_eq_some_iff.mp g).1
      rw [h.1] at this
      omega
  · rcases get_snoc hb with g2 | ⟨e, rfl⟩
    · have := (List.getElem?_eq_some_iff.mp g2).1
      rw [h.1] at this
      omega
    · rw [hp, hn]
theorem PsAt.dict {K : PySem.W.Frag} {H : Hp} {k : Nat} {ps as : List Addr} (h : PsAt H k ps as) : Paired (fun p kv => SqT K H p [kV kv.1, kv.2]) ps (kdl k (refs as)) := by
  refine paired_kdl k ps (refs as) (by rw [refs_length]; exact h.1) fun i p x h1 h2 => ?_
  have hi := (List.getElem?_eq_some_iff.mp h1).1
  rw [h.1] at hi
  have e := refs_get (List.getElem?_eq_getElem hi)
  rw [h2] at e
  cases e
  exact .of (h.2 i p _ h1 (List.getElem?_eq_getElem hi))
theorem refs_set (as : List Addr) (i : Nat) (a : Addr) : (refs as).set i (.ref a) = refs (as.set i a) := by
  unfold refs
  rw [List.map_set]
theorem LsAt.set {H : Hp} {as : List Addr} {ls : List (List Nat)} {i : Nat} {a : Addr} {l : List Nat} (h : LsAt H as ls) (ha : H a = some (.lst (nats l))) : LsAt H (as.set i a) (ls.set i l) := by
  refine ⟨by rw [List.length_set, List.length_set]; exact h.1, fun j b m hb hm => ?_⟩
  rw [List.getElem?_set] at hb hm
  by_cases c : i = j
  · subst c
    rw [if_pos rfl] at hb hm
    split at hb
    · split at hm
      · cases hb
        cases hm
        exact ha
      · cases hm
    · cases hb
  · rw [if_neg c] at hb hm
    exact h.2 j b m hb hm
theorem LsAt.butN {H H' : Hp} {d : Addr} {as : List Addr} {ls : List (List Nat)} (b : But d H H') (n : ∀ a ∈ as, a ≠ d) (h : LsAt H as ls) : LsAt H' as ls := ⟨h.1, fun i a l ha hl => b _ _ (n a (List.mem_of_getElem? ha)) (h.2 i a l ha hl)⟩
section
variable {P : Program} {w : World} {K : PySem.W.Frag} {mg : Str → Option Value} {base : Heap} {Z : Ad}
def spLHad : Sp := fun vs H Q _ => ∃ (t u : Addr) (hs : List Nat) (us : List V) (ms : List (Nat × Nat)), vs = [.ref t, .ref u] ∧ H t = some (.tup (nats hs)) ∧ H u = some (.tup us) ∧ PrsV H us ms ∧ hs.length ≤ 40 ∧ ms.length ≤ 80 ∧ HgOk hs ∧ MvOk hs.length ms ∧ ∀ D H', Same H H' → H D = none → KnownAt H' D (hadLs hs ms) → Q (.ref D) H'
theorem ok_lhad {f : Addr} {fd : FuncData} (F : Fun K "_law_had" "_law_had" s__law_had f fd) (B : Bl Z mg) : FnOk P w K mg base CX0 1 f fd ["_law_hung", "_law_moves_here"] spLHad := by
  refine F.ok sc__law_had (fun vs H Q E h => ?_) (fun cdv A outer s H vs Q E hr h => ?_)
  · obtain ⟨t, u, hs, us, ms, rfl, _⟩ := h
    rfl
  · obtain ⟨t, u, hs, us, ms, rfl, ht, hu, h4, h40, h50, hg, mo, q⟩ := h
    refine ⟨_, (pss_cons (ps_set (i := 2) sc__law_had.nd rfl (Or.inr rfl) (pe_callTy (call_dictPK (K := K) rfl rfl) (by rfl) B.b_dict (by decide +kernel) (pa_cons (pe_lc (own := [("_law_block", 3)]) rfl sc__law_had.nd (pi_range2 rfl B.b_range (pa_cons pe_int (pa_cons (pe_op op_add (pe_callB (call_lenK (K := K) rfl) (by rfl) B.b_len PySem.boot_len (pa_cons (pv 0) pa_nil)) pe_int) pa_nil))) (blkOk_by (N := ["_law_hung", "_law_moves_here", "_law_found", "_law_block", "_law_place"]) (sc := defScope s__law_had) (by decide +kernel)) (fun _ _ _ _ _ => (pg_name (i := 3) sc__law_had.nd rfl (Or.inl rfl))) (fun _ _ _ _ _ => pts_nil) (fun _ _ _ _ _ => (pe_tup (pa_cons (pv 3) (pa_cons (pe_lst (pa_cons (pe_ix (ix_tupK (K := K) rfl) (pv 0) (pe_op op_sub (pv 3) pe_int) (fun _ _ => rfl)) pa_nil)) pa_nil))))) pa_nil)))
 (pss_cons (ps_for PassesOwn.never rfl (pi_tup (pv 1)) (pg_tup rfl (pgs_cons (pg_name (i := 3) sc__law_had.nd rfl (Or.inl rfl)) (pgs_cons (pg_name (i := 4) sc__law_had.nd rfl (Or.inl rfl)) pgs_nil))) (pss_one (ps_asg (pe_op op_cat (pe_dget (units1 hr) (pv 2) (pv 3) (fun _ _ => rfl)) (pe_lst (pa_cons (pv 4) pa_nil))) (pg_sub (pv 2) (pv 3) (set_dict (units1 hr))))))
 (pss_one (ps_ret (pe_callTy (call_dictPK (K := K) rfl rfl) (by rfl) B.b_dict (by decide +kernel) (pa_cons (pe_lc (own := [("_law_block", 3)]) rfl sc__law_had.nd (pi_keysF (pv 2)) (blkOk_by (N := ["_law_hung", "_law_moves_here", "_law_found", "_law_block", "_law_place"]) (sc := defScope s__law_had) (by decide +kernel)) (fun _ _ _ _ _ => (pg_name (i := 3) sc__law_had.nd rfl (Or.inl rfl))) (fun _ _ _ _ _ => pts_nil) (fun _ _ _ _ _ => (pe_tup (pa_cons (pv 3) (pa_cons (pe_callTy (call_tplK (K := K) rfl) (by rfl) B.b_tuple (by decide +kernel) (pa_cons (pe_callB (cr_sortedSetN (w := w) rfl rfl (units66 hr)) (by rfl) B.b_sorted (by decide +kernel) (pa_cons (pe_callTy (cr_setLjK (K := K) (w := w) rfl rfl rfl) (by rfl) B.b_set (by decide +kernel) (pa_cons (pe_dget (units1 hr) (pv 2) (pv 3) (fun _ _ => rfl)) pa_nil)) pa_nil)) pa_nil)) pa_nil))))) pa_nil)))))), ?_⟩
    have st : SqT K H t (nats hs) := .of ht
    walk_at "h0"
    rw [nats_length]
    refine ⟨1, (hs.length : Int) + 1, rfl, ⟨by omega, by omega, by omega, by omega⟩, fun L nL => ?_⟩
    refine lc_range (lo := 1) (n := Int.toNat ((hs.length : Int) + 1 - 1)) (fun i G => Same H G ∧ ∃ ps as : List Addr, ps.length = i ∧ G L = some (.lst (refs ps)) ∧ PsAt G 1 ps as ∧ LsAt G as ((hs.take i).map fun p => [p]) ∧ ∀ a ∈ as, a ≠ L)
      ⟨same_new (Same.refl _) nL, [], [], rfl, upd_same, ⟨rfl, fun i p a h => nomatch h⟩, ⟨rfl, fun i a l h => nomatch h⟩, fun a h => nomatch h⟩ ?_ ?_
    · rintro i G hi ⟨s1, ps, as, lp, eL, pa, ls, ne⟩
      have hi' : i < hs.length := by omega
      have ha := at_pred (nats_get (List.getElem?_eq_getElem hi'))
      have sT : SqT K G t (nats hs) := .of (s1 _ _ ht)
      walk_at "hs"
      refine ⟨rfl, ?_⟩
      walk_at "hs"
      intro a na
      have s2 : Same G (upd G a (.lst [.int (hs[i] : Nat)])) := same_new (Same.refl _) na
      have ea : upd G a (.lst [.int (hs[i] : Nat)]) a = some (.lst [.int (hs[i] : Nat)]) := upd_same
      generalize upd G a (.lst [.int (hs[i] : Nat)]) = G2 at s2 ea ⊢
      walk_at "hs"
      intro T nT
      have s3 : Same G2 (upd G2 T (.tup [.int (1 + (i : Nat)), .ref a])) := same_new (Same.refl _) nT
      have eT : upd G2 T (.tup [.int (1 + (i : Nat)), .ref a]) T = some (.tup [.int (1 + (i : Nat)), .ref a]) := upd_same
      generalize upd G2 T (.tup [.int (1 + (i : Nat)), .ref a]) = G3 at s3 eT ⊢
      walk_at "hs"
      have s23 := s2.trans s3
      have eL3 := s23 _ _ eL
      have b4 : But L G3 (upd G3 L (.lst (refs ps ++ [.ref T]))) := But.mut (But.refl _ _)
      have nt : ∀ xs, G3 L ≠ some (.tup xs) := fun xs z => by rw [eL3] at z; cases z
      have neT : T ≠ L := fun z => by rw [z, eL3] at eT; cases eT
      have neA : a ≠ L := fun z => by rw [z, eL] at na; cases na
      refine ⟨_, eL3, szLt (by rw [refs_length]; omega), same_mut (s1.trans s23) nL, ps ++ [T], as ++ [a], by rw [List.length_append, lp]; rfl, ?_, ?_, ?_, fun b hb => ?_⟩
      · rw [upd_same, refs_snoc]
      · exact ((pa.same s23).but b4 nt).snoc (by omega) (b4 _ _ neT eT)
      · rw [List.take_add_one, List.getElem?_eq_getElem hi', List.map_append]
        exact ((ls.same s23).butN b4 ne).snoc (l := [hs[i]]) (b4 _ _ neA (s3 _ _ ea))
      · rcases List.mem_append.mp hb with hb | hb
        · exact ne b hb
        · rw [List.mem_singleton.mp hb]
          exact neA
    rintro G ⟨s1, ps, as, lp, eL, pa, ls, ne⟩
    have en : Int.toNat ((hs.length : Int) + 1 - 1) = hs.length := by omega
    rw [en, List.take_length] at ls
    walk_at "hs"
    refine ⟨L, ps, _, rfl, .of eL, pa.dict, ?_⟩
    rw [kdl_fresh]
    intro D nD
    have s2 : Same G (upd G D (.dK (kdl 1 (refs as)))) := same_new (Same.refl _) nD
    have eD : upd G D (.dK (kdl 1 (refs as))) D = some (.dK (kdl 1 (refs as))) := upd_same
    generalize upd G D (.dK (kdl 1 (refs as))) = G2 at s2 eD ⊢
    have s12 := s1.trans s2
    have nDH := s1.free nD
    have ls2 := ls.same s2
    clear ne pa eL ls s2 lp
    walk_at "hs"
    refine ⟨u, rfl, ⟨_, SqT.of (s12 _ _ hu)⟩, ?_⟩
    refine lp_tup (K := K) (xs := us) (fun i σ' H' => (∃ x3 x4, σ' = [some (.ref t), some (.ref u), some (.ref D), x3, x4]) ∧ Same H H' ∧ ∃ as, H' D = some (.dK (kdl 1 (refs as))) ∧ LsAt H' as (tiesL hs (ms.take i)))
      ⟨⟨_, _, rfl⟩, s12, as, eD, ls2⟩ (fun i σ' H' _ h => .of (h.2.1 _ _ hu)) ?_ ?_
    · clear eD ls2 s12 s1 nD
      rintro i v σ' Hx hv ⟨⟨x3, x4, rfl⟩, s2, as, eD, ls⟩
      obtain ⟨y, hy, py⟩ := h4.at hv
      obtain ⟨a, rfl, ha⟩ := py.same s2
      have sa : SqT K Hx a [.int (y.1 : Nat), .int (y.2 : Nat)] := .of ha
      obtain ⟨k1, k2, k3, k4⟩ := mo y (List.mem_of_getElem? hy)
      have tl : (tiesL hs (ms.take i)).length = hs.length := tiesL_len ..
      have hi : y.1 - 1 < (tiesL hs (ms.take i)).length := by rw [tl]; omega
      obtain ⟨b, hb, eb⟩ := ls.get hi
      have lt : i < ms.length := (List.getElem?_eq_some_iff.mp hy).1
      have to := tieOk_all hg (fun m hm => ⟨(mo m hm).1, (mo m hm).2.2.1, (mo m hm).2.2.2⟩) i (by omega) _ _ (List.getElem?_eq_getElem hi)
      walk_at "hs"
      refine ⟨D, _, rfl, dgetN (.inl eD) (refs_get hb) (by omega), ?_⟩
      walk_at "hs"
      intro b1 nb1
      have s3 : Same Hx (upd Hx b1 (.lst [.int (y.2 : Nat)])) := same_new (Same.refl _) nb1
      have eb1 : upd Hx b1 (.lst [.int (y.2 : Nat)]) b1 = some (.lst [.int (y.2 : Nat)]) := upd_same
      generalize upd Hx b1 (.lst [.int (y.2 : Nat)]) = G3 at s3 eb1 ⊢
      walk_at "hs"
      refine x_cat (s3 _ _ eb) eb1 (szLe (by rw [nats_length]; show _ + 1 ≤ _; omega)) fun N nN => ?_
      have s4 := s3.trans (same_new (Same.refl _) nN (o := .lst (nats (tiesL hs (ms.take i))[y.1 - 1] ++ [V.int (y.2 : Nat)])))
      have eN := upd_same (H := G3) (a := N) (o := .lst (nats (tiesL hs (ms.take i))[y.1 - 1] ++ [V.int (y.2 : Nat)]))
      generalize upd G3 N (.lst (nats (tiesL hs (ms.take i))[y.1 - 1] ++ [V.int (y.2 : Nat)])) = G4 at s4 eN ⊢
      walk_at "hs"
      have eD4 := s4 _ _ eD
      refine ⟨D, _, rfl, dputN (i := y.1 - 1) eD4 (by rw [refs_length, ls.1]; exact hi) (by rw [refs_length, ls.1, tl]; omega) (by omega), ?_⟩
      walk_at "hs"
      rw [tiesL_take hy, refs_set]
      have b5 : But D G4 (upd G4 D (.dK (kdl 1 (refs (as.set (y.1 - 1) N))))) := But.mut (But.refl _ _)
      have nl : ∀ xs, G4 D ≠ some (.lst xs) := fun xs z => by rw [eD4] at z; cases z
      have neN : N ≠ D := fun z => by rw [z, eD4] at eN; cases eN
      refine ⟨⟨_, _, rfl⟩, same_mut (s2.trans s4) nDH, _, upd_same, ?_⟩
      have e : nats (tiesL hs (ms.take i))[y.1 - 1] ++ [V.int (y.2 : Nat)] = nats ((tiesL hs (ms.take i)).getD (y.1 - 1) [] ++ [y.2]) := by
        rw [List.getD_eq_getElem?_getD, List.getElem?_eq_getElem hi, Option.getD_some, nats_append]
        rfl
      rw [e] at eN
      exact ((ls.same s4).but b5 nl).set (b5 _ _ neN eN)
    · clear eD ls2 s12 s1 nD
      rintro σ' H2 ⟨⟨x3, x4, rfl⟩, s2, as, eD, ls⟩
      have hml : ms.length = us.length := h4.len.symm
      rw [← hml, List.take_length] at ls
      have tl : (tiesL hs ms).length = hs.length := tiesL_len ..
      have ok := tieOk_all hg (fun m hm => ⟨(mo m hm).1, (mo m hm).2.2.1, (mo m hm).2.2.2⟩) ms.length (Nat.le_refl _)
      rw [List.take_length] at ok
      walk_at "hs"
      refine ⟨D, _, rfl, eD, fun o L2 nL2 => ?_⟩
      have b3 : But D H2 (upd H2 D (.frz o (.dK (kdl 1 (refs as))))) := but_frz
      have eF : upd H2 D (.frz o (.dK (kdl 1 (refs as)))) D = some (.frz o (.dK (kdl 1 (refs as)))) := upd_same
      have s3 : Same H (upd H2 D (.frz o (.dK (kdl 1 (refs as))))) := same_mut s2 nDH
      have ls3 := ls.but b3 (fun xs z => by rw [eD] at z; cases z)
      generalize upd H2 D (.frz o (.dK (kdl 1 (refs as)))) = H3 at b3 eF s3 ls3 nL2 ⊢
      refine lc_it (walk_keys (d := D) (o := o) (kvs := kdl 1 (refs as))) (fun i G => Same H3 G ∧ ∃ ps bs : List Addr, ps.length = i ∧ G L2 = some (.lst (refs ps)) ∧ PsAt G 1 ps bs ∧ TlAt G bs (((tiesL hs ms).take i).map (hadL hs.length)))
        ⟨same_new (Same.refl _) nL2, [], [], rfl, upd_same, ⟨rfl, fun i p a h => nomatch h⟩, rfl, fun i a l h => nomatch h⟩ (fun i G _ h => h.1 _ _ eF) ?_ ?_
      · rintro i x5 G G' hi ⟨s4, ps, bs, lb, eB, pa, ts⟩ ⟨rfl, k, v, ek, rfl⟩
        obtain ⟨rfl, ev⟩ := kdl_at ek
        rw [kdl_len, refs_length, ls.1] at hi
        have hi3 : i < (tiesL hs ms).length := hi
        obtain ⟨b, hb, eb⟩ := (ls3.same s4).get hi3
        obtain ⟨l1, l2, l3⟩ := ok i _ (List.getElem?_eq_getElem hi3)
        walk_at "hs"
        refine ⟨rfl, ?_⟩
        walk_at "hs"
        refine ⟨D, _, rfl, dgetN (.inr ⟨o, s4 _ _ eF⟩) (refs_get hb) rfl, ?_⟩
        walk_at "hs"
        refine ⟨b, intsN (tiesL hs ms)[i], rfl, by rw [ints_nats]; exact .of eb, by rw [intsN_len]; omega, fun S c nS hc => ?_⟩
        rw [intsN_len] at hc
        walk_at "hs"
        refine ⟨S, _, c, rfl, upd_same, by omega, fun ns L asc mem ln nL => ?_⟩
        obtain rfl := hadL_only (fun p hp => (l3 p hp).1) asc mem
        rw [ints_nats]
        walk_at "hs"
        intro T nT
        have s5 := (((same_new (Same.refl _) nS).trans (same_new (Same.refl _) nL)).trans (same_new (Same.refl _) nT) : Same G' (upd (upd (upd G' S (SetO w S (fun j => decide (j ∈ intsN (tiesL hs ms)[i])) c)) L (HO.lst (nats (hadL hs.length (tiesL hs ms)[i])))) T (HO.tup (nats (hadL hs.length (tiesL hs ms)[i])))))
        have eT := upd_same (H := upd (upd G' S (SetO w S (fun j => decide (j ∈ intsN (tiesL hs ms)[i])) c)) L (HO.lst (nats (hadL hs.length (tiesL hs ms)[i])))) (a := T) (o := HO.tup (nats (hadL hs.length (tiesL hs ms)[i])))
        generalize upd (upd (upd G' S (SetO w S (fun j => decide (j ∈ intsN (tiesL hs ms)[i])) c)) L (HO.lst (nats (hadL hs.length (tiesL hs ms)[i])))) T (HO.tup (nats (hadL hs.length (tiesL hs ms)[i]))) = G5 at s5 eT ⊢
        walk_at "hs"
        intro U nU
        have s6 : Same G5 (upd G5 U (.tup [kV (Sum.inl ((1 + i : Nat) : Int)), .ref T])) := same_new (Same.refl _) nU
        have eU : upd G5 U (.tup [kV (Sum.inl ((1 + i : Nat) : Int)), .ref T]) U = some (.tup [kV (Sum.inl ((1 + i : Nat) : Int)), .ref T]) := upd_same
        generalize upd G5 U (.tup [kV (Sum.inl ((1 + i : Nat) : Int)), .ref T]) = G6 at s6 eU ⊢
        walk_at "hs"
        have s56 := s5.trans s6
        have eB6 := s56 _ _ eB
        have b7 : But L2 G6 (upd G6 L2 (.lst (refs ps ++ [.ref U]))) := But.mut (But.refl _ _)
        have nt : ∀ xs, G6 L2 ≠ some (.tup xs) := fun xs z => by rw [eB6] at z; cases z
        have nU2 : U ≠ L2 := fun z => by rw [z, eB6] at eU; cases eU
        have eT6 := s6 _ _ eT
        have nT2 : T ≠ L2 := fun z => by rw [z, eB6] at eT6; cases eT6
        refine ⟨_, eB6, szLt (by rw [refs_length]; omega), same_mut (s4.trans s56) nL2, ps ++ [U], bs ++ [T], by rw [List.length_append, lb]; rfl, ?_, ?_, ?_⟩
        · rw [upd_same, refs_snoc]
        · exact ((pa.same s56).but b7 nt).snoc (by rw [lb]) (b7 _ _ nU2 eU)
        · rw [List.take_add_one, List.getElem?_eq_getElem hi3, List.map_append]
          exact ((ts.same s56).but b7 nt).snoc (b7 _ _ nT2 eT6)
      · rintro G ⟨s4, ps, bs, lb, eB, pa, ts⟩
        rw [kdl_len, refs_length, ls.1, List.take_length] at ts
        walk_at "hs"
        refine ⟨L2, ps, _, rfl, .of eB, pa.dict, ?_⟩
        rw [kdl_fresh]
        intro D2 nD2
        have s8 : Same G (upd G D2 (.dK (kdl 1 (refs bs)))) := same_new (Same.refl _) nD2
        exact q D2 _ ((s3.trans s4).trans s8) (s3.free (s4.free nD2)) ⟨bs, upd_same, ts.same s8⟩
end
set_option maxRecDepth 100000
set_option maxHeartbeats 2000000
open PySem PySem.Spec L2


local macro_rules | `(tactic| walk_at "h1") => `(tactic| first
  | with_reducible refine x_dget ?_
  | with_reducible refine x_dc ?_
  | with_reducible refine x_keysF ?_
  | with_reducible refine x_keysFT ?_
  | with_reducible refine x_listZip ?_
  | with_reducible refine x_enls ?_)

theorem sc__law_is_round : FnScope ["_law_known", "_law_done", "_law_turn", "_law_block", "_law_place"] ["_law_known"] (defScope s__law_is_round) := ⟨rfl, rfl, rfl, by decide +kernel, rfl, by decide +kernel, by decide +kernel⟩
theorem kdl_keys : ∀ (k : Nat) (xs : List V), (kdl k xs).map (·.1) = (intsN (List.range' k xs.length)).map Sum.inl
  | _, [] => rfl
  | k, x :: r => by
    show Sum.inl (k : Int) :: (kdl (k + 1) r).map (·.1) = _
    rw [kdl_keys (k + 1) r, List.length_cons, List.range'_succ]
    rfl
theorem sorted_is {l : List Nat} {ys : List Int} (a : l.Pairwise (· < ·)) (h : ys.Perm (intsN l)) (w : ys.Pairwise (· ≤ ·)) : ys = intsN l := by
  refine h.eq_of_pairwise (fun a b _ _ h1 h2 => Int.le_antisymm h1 h2) w ?_
  unfold intsN
  rw [List.pairwise_map]
  exact a.imp fun {x y} hxy => by omega
def bls (l : List Bool) : List V := l.map V.bl
theorem bls_len (l : List Bool) : (bls l).length = l.length := List.length_map ..
theorem KnownAt.get {H : Hp} {D : Addr} {ks : List (List Nat)} (h : KnownAt H D ks) {i : Nat} (hi : i < ks.length) : ∃ bs a, H D = some (.dK (kdl 1 (refs bs))) ∧ (refs bs)[i]? = some (.ref a) ∧ H a = some (.tup (nats ks[i])) := by
  obtain ⟨bs, h1, h2⟩ := h
  obtain ⟨a, ha, e⟩ := h2.get hi
  exact ⟨bs, a, h1, refs_get ha, e⟩
section
variable {P : Program} {w : World} {K : PySem.W.Frag} {mg : Str → Option Value} {base : Heap} {Z : Ad}
def spRound : Sp := fun vs H Q _ => ∃ (D : Addr) (ks : List (List Nat)), vs = [.ref D] ∧ KnownAt H D ks ∧ ks.length ≤ 40 ∧ (∀ k ∈ ks, k.length ≤ 100) ∧ ∀ H', Same H H' → Q (.bl (decide ((itL ks ks.length).length ≤ ks.length))) H'
theorem ok_round {f : Addr} {fd : FuncData} (F : Fun K "_law_is_round" "_law_is_round" s__law_is_round f fd) (B : Bl Z mg) : FnOk P w K mg base CX0 1 f fd ["_law_known"] spRound := by
  refine F.ok sc__law_is_round (fun vs H Q E h => ?_) (fun cdv A outer s H vs Q E hr h => ?_)
  · obtain ⟨D, ks, rfl, _⟩ := h
    rfl
  · obtain ⟨D, ks, rfl, kn, h40, hk, q⟩ := h
    refine ⟨_, (pss_cons (ps_set (i := 1) sc__law_is_round.nd rfl (Or.inr rfl) (pe_lst (pa_cons pe_int pa_nil)))
 (pss_cons (ps_for PassesOwn.never rfl (pi_range1 rfl B.b_range (pa_cons (pe_callB call_lenD (by rfl) B.b_len PySem.boot_len (pa_cons (pv 0) pa_nil)) pa_nil)) (pg_name (i := 2) sc__law_is_round.nd rfl (Or.inl rfl)) (pss_one (ps_set (i := 1) sc__law_is_round.nd rfl (Or.inr rfl) (pe_op op_cat (pv 1) (pe_lc (own := [("_law_block", 3)]) rfl sc__law_is_round.nd (pi_list (pe_callB (call_sortedDI rfl) (by rfl) B.b_sorted (by decide +kernel) (pa_cons (pv 0) pa_nil))) (blkOk_by (N := ["_law_known", "_law_done", "_law_turn", "_law_block", "_law_place"]) (sc := defScope s__law_is_round) (by decide +kernel)) (fun _ _ _ _ _ => (pg_name (i := 3) sc__law_is_round.nd rfl (Or.inl rfl))) (fun _ _ _ _ _ => (pts_one (PW.pt (pw_and (pt_cmpR (op_notInK (K := K) rfl) (pv 3) (pv 1) (by rfl)) (pw_and1 (pt_val (pe_callB (cr_allK (K := K) rfl rfl) (by rfl) B.b_all (by decide +kernel) (pa_cons (pe_lc (own := [("_law_place", 4)]) rfl sc__law_is_round.nd (pi_tupK (K := K) rfl (pe_dget (units1 hr) (pv 0) (pv 3) (fun _ _ => rfl))) (blkOk_nest (N := ["_law_known", "_law_done", "_law_turn", "_law_block", "_law_place"]) (sc := defScope s__law_is_round) (by decide +kernel) rfl) (fun _ _ _ _ _ => (pg_name (i := 4) sc__law_is_round.nd rfl (Or.inl rfl))) (fun _ _ _ _ _ => pts_nil) (fun _ _ _ _ _ => (pe_cmpR (op_inK (K := K) rfl) (pv 4) (pv 1) (by rfl)))) pa_nil)))))))) (fun _ _ _ _ _ => (pv 3)))))))
 (pss_one (ps_ret (pe_cmpR op_le (pe_callB (call_lenK (K := K) rfl) (by rfl) B.b_len PySem.boot_len (pa_cons (pv 1) pa_nil)) (pe_callB call_lenD (by rfl) B.b_len PySem.boot_len (pa_cons (pv 0) pa_nil)) (nomark _)))))), ?_⟩
    obtain ⟨bs, eD, ts⟩ := id kn
    have bl : bs.length = ks.length := ts.1
    have kdn : (kdl 1 (refs bs)).length = ks.length := by rw [kdl_len, refs_length, bl]
    walk_at "h0"
    intro L0 nL0
    have s1 : Same H (upd H L0 (.lst [.int 0])) := same_new (Same.refl _) nL0
    have eL0 : upd H L0 (.lst [.int 0]) L0 = some (.lst [.int 0]) := upd_same
    generalize upd H L0 (.lst [.int 0]) = H1 at s1 eL0 ⊢
    walk_at "hs"
    refine ⟨D, _, rfl, s1 _ _ eD, ?_⟩
    rw [kdn]
    walk_at "hs"
    refine ⟨(ks.length : Nat), rfl, by omega, by omega, ?_⟩
    refine lp_range (lo := 0) (n := Int.toNat (ks.length : Nat)) (fun i σ' H' => (∃ L x2, σ' = [some (.ref D), some (.ref L), x2, none, none] ∧ H' L = some (.lst (nats (itL ks i)))) ∧ Same H H')
      ⟨⟨L0, _, rfl, eL0⟩, s1⟩ ?_ ?_
    · clear eL0 s1 nL0
      rintro i σ' H2 hi ⟨⟨L, x2, rfl, eL⟩, s2⟩
      have dl := itL_len ks i
      walk_at "hs"
      refine ⟨D, _, intsN (List.range' 1 ks.length), rfl, .inl (s2 _ _ eD), by rw [kdl_keys, refs_length, bl], by rw [intsN_len, List.length_range']; omega, fun ys S pm w nS => ?_⟩
      obtain rfl := sorted_is List.pairwise_lt_range' pm w
      rw [ints_nats]
      have s3 : Same H2 (upd H2 S (.lst (nats (List.range' 1 ks.length)))) := same_new (Same.refl _) nS
      have eS : upd H2 S (.lst (nats (List.range' 1 ks.length))) S = some (.lst (nats (List.range' 1 ks.length))) := upd_same
      generalize upd H2 S (.lst (nats (List.range' 1 ks.length))) = H3 at s3 eS ⊢
      have kd3 := kn.same (s2.trans s3)
      have sL3 : SqL K H3 L (nats (itL ks i)) := .of (s3 _ _ eL)
      refine ⟨S, rfl, ⟨_, SqL.of eS⟩, fun R nR => ?_⟩
      refine lc_list (K := K) (xs := nats (List.range' 1 ks.length)) (fun j G => Same H3 G ∧ G R = some (.lst (nats (((List.range' 1 ks.length).take j).filter fun b => !decide (b ∈ itL ks i) && allIn ks (itL ks i) b))))
        ⟨same_new (Same.refl _) nR, upd_same⟩ (fun j G _ h => h.1.seq (.of eS)) ?_ ?_
      · rintro j v G hv ⟨s4, eR⟩
        have hj : j < ks.length := by
          have := (List.getElem?_eq_some_iff.mp hv).1
          rw [nats_length, List.length_range'] at this
          exact this
        have rg : (List.range' 1 ks.length)[j]? = some (1 + j) := by rw [List.getElem?_range' hj, Nat.one_mul]
        obtain rfl : v = .int ((1 + j : Nat) : Int) := Option.some.inj (hv.symm.trans (nats_get rg))
        have sL4 : SqL K G L (nats (itL ks i)) := s4.seq sL3
        obtain ⟨cs, a, eC, ga, ea⟩ := (kd3.same s4).get hj
        have kl := hk _ (List.getElem_mem hj)
        have tk : ((List.range' 1 ks.length).take (j + 1)) = (List.range' 1 ks.length).take j ++ [1 + j] := by
          rw [List.take_add_one, rg]
          rfl
        have fl : (((List.range' 1 ks.length).take j).filter fun b => !decide (b ∈ itL ks i) && allIn ks (itL ks i) b).length ≤ 40 := by
          have h1 := List.length_filter_le (fun b => !decide (b ∈ itL ks i) && allIn ks (itL ks i) b) ((List.range' 1 ks.length).take j)
          rw [List.length_take, List.length_range'] at h1
          omega
        walk_at "hs"
        refine ⟨rfl, ?_⟩
        walk_at "hs"
        refine x_ninNL sL4 ?_
        walk_at "hs"
        refine x_isnd (fun c => ?_) (fun c => ?_)
        · walk_at "hs"
          refine ⟨D, _, rfl, dgetN (.inl eC) ga rfl, a, rfl, ⟨_, SqT.of ea⟩, fun R2 nR2 => ?_⟩
          refine lc_tup (K := K) (xs := nats ks[j]) (fun m G2 => Same G G2 ∧ G2 R2 = some (.lst (bls ((ks[j].take m).map fun p => decide (p ∈ itL ks i))))) ⟨same_new (Same.refl _) nR2, upd_same⟩ (fun m G2 _ h => .of (h.1 _ _ ea)) ?_ ?_
          · rintro m v G2 hv ⟨s5, eR2⟩
            have hm : m < ks[j].length := by
              have := (List.getElem?_eq_some_iff.mp hv).1
              rw [nats_length] at this
              exact this
            obtain rfl : v = .int (ks[j][m] : Nat) := Option.some.inj (hv.symm.trans (nats_get (List.getElem?_eq_getElem hm)))
            have sL5 : SqL K G2 L (nats (itL ks i)) := s5.seq sL4
            walk_at "hs"
            refine ⟨rfl, ?_⟩
            walk_at "hs"
            refine x_inNL sL5 ?_
            refine ⟨_, eR2, szLt (by rw [bls_len, List.length_map, List.length_take]; omega), same_mut s5 nR2, ?_⟩
            rw [upd_same, List.take_add_one, List.getElem?_eq_getElem hm, List.map_append]
            unfold bls
            rw [List.map_append]
            rfl
          · rintro G2 ⟨s5, eR2⟩
            rw [nats_length, List.take_length] at eR2
            walk_at "hs"
            refine ⟨R2, _, rfl, .of eR2, ?_⟩
            have ha : (ks[j].map fun p => decide (p ∈ itL ks i)).all id = allIn ks (itL ks i) (1 + j) := by
              unfold allIn
              rw [show 1 + j - 1 = j by omega, List.getD_eq_getElem?_getD, List.getElem?_eq_getElem hj, List.all_map]
              rfl
            rw [ha]
            walk_at "hs"
            have c' : 1 + j ∉ itL ks i := c
            split
            · rename_i c2
              walk_at "hs"
              refine ⟨_, s5 _ _ eR, szLt (by rw [nats_length]; omega), same_mut (s4.trans s5) nR, ?_⟩
              rw [upd_same, tk, List.filter_append, List.filter_cons_of_pos (by rw [decide_eq_false c', c2]; rfl), nats_append]
              rfl
            · rename_i c2
              refine ⟨s4.trans s5, ?_⟩
              rw [s5 _ _ eR, tk, List.filter_append, List.filter_cons_of_neg (by rw [decide_eq_false c']; simpa using c2)]
              simp
        · refine ⟨s4, ?_⟩
          rw [eR, tk, List.filter_append, List.filter_cons_of_neg (by rw [decide_eq_true (show 1 + j ∈ itL ks i from c)]; exact fun z => nomatch z)]
          simp
      · rintro G ⟨s4, eR⟩
        have eR2 : G R = some (.lst (nats (readyL ks (itL ks i)))) := by
          rw [eR, nats_length, List.take_length]
          rfl
        have dl2 := itL_len ks (i + 1)
        have dl3 : (itL ks i ++ readyL ks (itL ks i)).length ≤ ks.length + 1 := dl2
        rw [List.length_append] at dl3
        refine x_cat (s4 _ _ (s3 _ _ eL)) eR2 (szLe (by rw [nats_length, nats_length]; omega)) fun E hE => ?_
        walk_at "hs"
        refine ⟨⟨E, _, rfl, ?_⟩, (s2.trans (s3.trans s4)).trans (same_new (Same.refl _) hE)⟩
        rw [upd_same, ← nats_append]
        rfl
    · rintro σ' H2 ⟨⟨L, x2, rfl, eL⟩, s2⟩
      rw [Int.toNat_natCast] at eL
      have sL : SqL K H2 L (nats (itL ks ks.length)) := .of eL
      walk_at "hs"
      refine ⟨D, _, rfl, s2 _ _ eD, ?_⟩
      rw [nats_length, kdn]
      walk_at "hs"
      have := q H2 s2
      rw [show decide (((itL ks ks.length).length : Int) ≤ (ks.length : Int)) = decide ((itL ks ks.length).length ≤ ks.length) by rw [decide_eq_decide]; omega]
      exact this
end
set_option maxRecDepth 100000
set_option maxHeartbeats 2000000
open PySem PySem.Spec L2


local macro_rules | `(tactic| walk_at "h1") => `(tactic| first
  | with_reducible refine x_dget ?_
  | with_reducible refine x_dc ?_
  | with_reducible refine x_keysF ?_
  | with_reducible refine x_keysFT ?_
  | with_reducible refine x_listZip ?_
  | with_reducible refine x_enls ?_)

theorem sc_is_ascending : FnScope ["row", "at"] ["row"] (defScope s_is_ascending) := ⟨rfl, rfl, rfl, by decide +kernel, rfl, by decide +kernel, by decide +kernel⟩
theorem sc_is_lot_within : FnScope ["least", "most", "thing", "part"] ["least", "most", "thing"] (defScope s_is_lot_within) := ⟨rfl, rfl, rfl, by decide +kernel, rfl, by decide +kernel, by decide +kernel⟩
theorem sc__leads_to : FnScope ["ties", "place", "block", "reached", "at", "above"] ["ties", "place", "block"] (defScope s__leads_to) := ⟨rfl, rfl, rfl, by decide +kernel, rfl, by decide +kernel, by decide +kernel⟩
theorem rep_all (n : Nat) : (List.replicate n true).all id = true := List.all_eq_true.mpr fun b hb => (List.mem_replicate.mp hb).2
theorem bls_rep (n : Nat) : bls (List.replicate (n + 1) true) = bls (List.replicate n true) ++ [V.bl true] := by
  rw [List.replicate_succ']
  unfold bls
  rw [List.map_append]
  rfl
theorem nats_item {l : List Nat} {i : Nat} {v : V} (h : (nats l)[i]? = some v) : ∃ p, l[i]? = some p ∧ v = .int (p : Nat) := by
  unfold nats at h
  rw [List.getElem?_map] at h
  cases e : l[i]? with
  | none => rw [e] at h; cases h
  | some c => rw [e] at h; exact ⟨c, rfl, (Option.some.inj h).symm⟩
theorem idx_uniq {l : List Nat} (nd : l.Nodup) {i j : Nat} {x : Nat} (h1 : l[i]? = some x) (h2 : l[j]? = some x) : i = j := by
  obtain ⟨a1, e1⟩ := List.getElem?_eq_some_iff.mp h1
  obtain ⟨a2, e2⟩ := List.getElem?_eq_some_iff.mp h2
  have pw := List.pairwise_iff_getElem.mp nd
  rcases Nat.lt_trichotomy i j with c | c | c
  · exact (pw i j a1 a2 c (e1.trans e2.symm)).elim
  · exact c
  · exact (pw j i a2 a1 c (e2.trans e1.symm)).elim
section
variable {P : Program} {w : World} {K : PySem.W.Frag} {mg : Str → Option Value} {base : Heap} {Z : Ad}
def spAsc : Sp := fun vs H Q _ => ∃ (t : Addr) (l : List Nat), vs = [.ref t] ∧ H t = some (.tup (nats l)) ∧ l.length ≤ 200 ∧ l.Pairwise (· < ·) ∧ ∀ H', Same H H' → Q (.bl true) H'
theorem ok_asc {f : Addr} {fd : FuncData} (F : Fun K "is_ascending" "is_ascending" s_is_ascending f fd) (B : Bl Z mg) : FnOk P w K mg base CX0 1 f fd ["row"] spAsc := by
  refine F.ok sc_is_ascending (fun vs H Q E h => ?_) (fun cdv A outer s H vs Q E hr h => ?_)
  · obtain ⟨t, l, rfl, _⟩ := h
    rfl
  · obtain ⟨t, l, rfl, eT, l200, asc, q⟩ := h
    have sT : SqT K H t (nats l) := .of eT
    refine ⟨_, (pss_one (ps_ret (pe_callB (cr_allK (K := K) rfl rfl) (by rfl) B.b_all (by decide +kernel) (pa_cons (pe_lc (own := [("at", 1)]) rfl sc_is_ascending.nd (pi_range1 rfl B.b_range (pa_cons (pe_op op_sub (pe_callB (call_lenK (K := K) rfl) (by rfl) B.b_len PySem.boot_len (pa_cons (pv 0) pa_nil)) pe_int) pa_nil)) (blkOk_by (N := ["row", "at"]) (sc := defScope s_is_ascending) (by decide +kernel)) (fun _ _ _ _ _ => (pg_name (i := 1) sc_is_ascending.nd rfl (Or.inl rfl))) (fun _ _ _ _ _ => pts_nil) (fun _ _ _ _ _ => (pe_cmpR op_lt (pe_ix (ix_tupK (K := K) rfl) (pv 0) (pv 1) (fun _ _ => rfl)) (pe_ix (ix_tupK (K := K) rfl) (pv 0) (pe_op op_add (pv 1) pe_int) (fun _ _ => rfl)) (nomark _)))) pa_nil)))), ?_⟩
    walk_at "h0"
    rw [nats_length]
    refine ⟨(l.length : Int) - 1, rfl, by omega, by omega, fun R nR => ?_⟩
    refine lc_range (lo := 0) (n := Int.toNat ((l.length : Int) - 1)) (fun i G => Same H G ∧ G R = some (.lst (bls (List.replicate i true)))) ⟨same_new (Same.refl _) nR, upd_same⟩ ?_ ?_
    · rintro i G hi ⟨s1, eR⟩
      have h1 : i < l.length := by omega
      have h2 : i + 1 < l.length := by omega
      have a1 : atI (nats l) (0 + (i : Int)) = some (.int (l[i] : Nat)) := by
        rw [Int.zero_add]
        exact atI_nat (nats_get (List.getElem?_eq_getElem h1))
      have a2 : atI (nats l) (0 + (i : Int) + 1) = some (.int (l[i + 1] : Nat)) := by
        rw [show 0 + (i : Int) + 1 = ((i + 1 : Nat) : Int) by omega]
        exact atI_nat (nats_get (List.getElem?_eq_getElem h2))
      have sT1 := s1.seqT sT
      have lt := (List.pairwise_iff_getElem.mp asc) i (i + 1) h1 h2 (by omega)
      walk_at "hs"
      refine ⟨rfl, ?_⟩
      walk_at "hs"
      rw [decide_eq_true (show ((l[i] : Nat) : Int) < (l[i + 1] : Nat) by omega)]
      refine ⟨_, eR, szLt (by rw [bls_len, List.length_replicate]; omega), same_mut s1 nR, ?_⟩
      rw [upd_same, bls_rep]
    · rintro G ⟨s1, eR⟩
      walk_at "hs"
      refine ⟨R, List.replicate _ true, rfl, .of eR, ?_⟩
      rw [rep_all]
      exact q _ s1
def spLot : Sp := fun vs H Q _ => ∃ (m : Int) (t : Addr) (l : List Nat), vs = [.int 0, .int m, .ref t] ∧ H t = some (.tup (nats l)) ∧ l.length ≤ 200 ∧ l.Pairwise (· < ·) ∧ (∀ x ∈ l, (x : Int) ≤ m) ∧ -1000 < m ∧ m < 1000 ∧ ∀ H', Same H H' → Q (.bl true) H'
theorem ok_lot {f : Addr} {fd : FuncData} (F : Fun K "is_lot_within" "is_lot_within" s_is_lot_within f fd) (B : Bl Z mg) {f_is_within : Addr} {fd_is_within : FuncData} (C_is_within : Cal K mg "is_within" f_is_within fd_is_within ["least", "most", "thing"]) (G_is_within : FnOk P w K mg base CX0 1 f_is_within fd_is_within ["least", "most", "thing"] spWithin) {f_is_ascending : Addr} {fd_is_ascending : FuncData} (C_is_ascending : Cal K mg "is_ascending" f_is_ascending fd_is_ascending ["row"]) (G_is_ascending : FnOk P w K mg base CX0 1 f_is_ascending fd_is_ascending ["row"] spAsc) : FnOk P w K mg base CX0 2 f fd ["least", "most", "thing"] spLot := by
  refine F.ok sc_is_lot_within (fun vs H Q E h => ?_) (fun cdv A outer s H vs Q E hr h => ?_)
  · obtain ⟨m, t, l, rfl, _⟩ := h
    rfl
  · obtain ⟨m, t, l, rfl, eT, l200, asc, le, m0, m1, q⟩ := h
    have sT : SqT K H t (nats l) := .of eT
    refine ⟨_, (pss_cons (ps_if (pt_not (pt_val (pe_callB (call_isiK' (K := K) rfl) (by rfl) B.b_isinstance (by decide +kernel) (pa_cons (pv 2) (pa_cons (pe_bltn (v := .ty "tuple") (by rfl) B.b_tuple (by decide +kernel) rfl) pa_nil))))) (pss_one (ps_ret pe_bl)) pss_nil)
 (pss_cons (ps_if (pt_not (pt_val (pe_callB (cr_allK (K := K) rfl rfl) (by rfl) B.b_all (by decide +kernel) (pa_cons (pe_lc (own := [("part", 3)]) rfl sc_is_lot_within.nd (pi_tup (pv 2)) (blkOk_by (N := ["least", "most", "thing", "part"]) (sc := defScope s_is_lot_within) (by decide +kernel)) (fun _ _ _ _ _ => (pg_name (i := 3) sc_is_lot_within.nd rfl (Or.inl rfl))) (fun _ _ _ _ _ => pts_nil) (fun _ _ _ _ _ => (pe_call G_is_within (hr.mono (by first | decide | omega)) (by rfl) C_is_within.g C_is_within.k C_is_within.b .nil pass0 (pa_cons (pv 0) (pa_cons (pv 1) (pa_cons (pv 3) pa_nil)))))) pa_nil)))) (pss_one (ps_ret pe_bl)) pss_nil)
 (pss_one (ps_ret (pe_call G_is_ascending (hr.mono (by first | decide | omega)) (by rfl) C_is_ascending.g C_is_ascending.k C_is_ascending.b .nil pass0 (pa_cons (pv 2) pa_nil)))))), ?_⟩
    walk_at "h0"
    refine ⟨t, rfl, ⟨_, sT⟩, fun R nR => ?_⟩
    refine lc_tup (K := K) (xs := nats l) (fun i G => Same H G ∧ G R = some (.lst (bls (List.replicate i true)))) ⟨same_new (Same.refl _) nR, upd_same⟩ (fun i G _ h => h.1.seqT sT) ?_ ?_
    · rintro i v G hv ⟨s1, eR⟩
      obtain ⟨p, hp, rfl⟩ := nats_item hv
      have hi := (List.getElem?_eq_some_iff.mp hp).1
      have pl := le p (List.mem_of_getElem? hp)
      walk_at "hs"
      refine ⟨rfl, ?_⟩
      walk_at "hs"
      refine ⟨.int (p : Nat), 0, m, rfl, True.intro, ?_⟩
      rw [numT (by omega), decide_eq_true pl]
      refine ⟨_, eR, szLt (by rw [bls_len, List.length_replicate]; omega), same_mut s1 nR, ?_⟩
      rw [upd_same, bls_rep]
    rintro G ⟨s1, eR⟩
    walk_at "hs"
    refine ⟨R, List.replicate _ true, rfl, .of eR, ?_⟩
    rw [rep_all]
    walk_at "hs"
    refine ⟨t, l, rfl, s1 _ _ eT, l200, asc, fun G2 s2 => ?_⟩
    exact q _ (s1.trans s2)
def spLeads : Sp := fun vs H Q _ => ∃ (D : Addr) (as : List Addr) (ls : List (List Nat)) (p b : Nat), vs = [.ref D, .int p, .int b] ∧ H D = some (.dK (kdl 1 (refs as))) ∧ LsAt H as ls ∧ ls.length ≤ 40 ∧ (∀ l ∈ ls, l.length ≤ 200) ∧ (∀ b p, Tie ls b p → p ≤ ls.length) ∧ p ≤ ls.length ∧ ∀ H' (r : Bool), Same H H' → (r = true ↔ Reach ls p b) → Q (.bl r) H'
theorem ok_leads {f : Addr} {fd : FuncData} (F : Fun K "_leads_to" "_leads_to" s__leads_to f fd) (B : Bl Z mg) : FnOk P w K mg base CX0 1 f fd ["ties", "place", "block"] spLeads := by
  refine F.ok sc__leads_to (fun vs H Q E h => ?_) (fun cdv A outer s H vs Q E hr h => ?_)
  · obtain ⟨D, as, ls, p, b, rfl, _⟩ := h
    rfl
  · obtain ⟨D, as, ls, p, b, rfl, eD, la, l40, l200, le, pn, q⟩ := h
    refine ⟨_, (pss_cons (ps_set (i := 3) sc__leads_to.nd rfl (Or.inl rfl) (pe_lst (pa_cons (pv 1) pa_nil)))
 (pss_cons (ps_set (i := 4) sc__leads_to.nd rfl (Or.inl rfl) pe_int)
 (pss_cons (ps_while PassesOwn.never (pt_cmpR op_lt (pv 4) (pe_callB (call_lenK (K := K) rfl) (by rfl) B.b_len PySem.boot_len (pa_cons (pv 3) pa_nil)) (nomark _)) (C8.pss_cut (ps_if (pt_cmpR (op_inDK (units1 hr)) (pe_ix (ix_listK (K := K) rfl) (pv 3) (pv 4) (fun _ _ => rfl)) (pv 0) (by rfl)) (pss_one (ps_for PassesOwn.never rfl (pi_list (pe_dget (units1 hr) (pv 0) (pe_ix (ix_listK (K := K) rfl) (pv 3) (pv 4) (fun _ _ => rfl)) (fun _ _ => rfl))) (pg_name (i := 5) sc__leads_to.nd rfl (Or.inl rfl)) (pss_one (ps_if (pt_cmpR (op_notInK (K := K) rfl) (pv 5) (pv 3) (by rfl)) (pss_one (ps_expr (pe_bmK (K := K) rfl PySem.F.plainAttrs_list PySem.F.slot_list_append PySem.F.type_list_append mt_append (pv 3) (pa_cons (pv 5) pa_nil)))) pss_nil)))) pss_nil)
 (pss_one (ps_aug (i := 4) sc__leads_to.nd rfl (Or.inl rfl) pe_int ip_add))))
 (pss_one (ps_ret (pe_cmpR (op_inK (K := K) rfl) (pv 2) (pv 3) (by rfl))))))), ?_⟩
    walk_at "h0"
    intro R nR
    have s1 : Same H (upd H R (.lst [.int (p : Nat)])) := same_new (Same.refl _) nR
    have eR : upd H R (.lst [.int (p : Nat)]) R = some (.lst [.int (p : Nat)]) := upd_same
    generalize upd H R (.lst [.int (p : Nat)]) = H1 at s1 eR ⊢
    walk_at "hs"
    refine ⟨fun m σ' H' => ∃ (i : Nat) (rs : List Nat) (x5 : Option V), i + m = ls.length + 1 ∧ i ≤ rs.length ∧ σ' = [some (.ref D), some (.int (p : Nat)), some (.int (b : Nat)), some (.ref R), some (.int (i : Nat)), x5] ∧ Same H H' ∧ H' R = some (.lst (nats rs)) ∧ rs.Nodup ∧ p ∈ rs ∧ (∀ x ∈ rs, Reach ls p x ∧ x ≤ ls.length) ∧ ∀ k, k < i → ∀ y, Tie ls (rs.getD k 0) y → y ∈ rs,
      ⟨ls.length + 1, 0, [p], _, by omega, by simp, rfl, s1, eR, by simp, by simp, (fun x hx => by rw [List.mem_singleton.mp hx]; exact ⟨.refl _, pn⟩), fun k h => by omega⟩, ?_⟩
    rintro m σ' H3 ⟨i, rs, x5, im, ir, rfl, s3, eR3, nd, mp, al, cl⟩
    have rl : rs.length ≤ ls.length + 1 := nodup_small nd fun x hx => (al x hx).2
    have sR : SqL K H3 R (nats rs) := .of eR3
    walk_at "hs"
    rw [nats_length]
    refine x_isd (fun c => ?_) (fun c => ?_)
    · have ci : i < rs.length := by omega
      refine ⟨_, fun σ' H' h => h, ?_⟩
      have gi := List.getElem?_eq_getElem ci
      have ai : atI (nats rs) ((i : Nat) : Int) = some (.int (rs[i] : Nat)) := atI_nat (nats_get gi)
      have gd : rs.getD i 0 = rs[i] := by rw [List.getD_eq_getElem?_getD, gi]; rfl
      obtain ⟨ri, rle⟩ := al _ (List.getElem_mem ci)
      refine ⟨fun σ2 H4 => ∃ (rs' : List Nat) (x5 : Option V), σ2 = [some (.ref D), some (.int (p : Nat)), some (.int (b : Nat)), some (.ref R), some (.int (i : Nat)), x5] ∧ Same H H4 ∧ H4 R = some (.lst (nats rs')) ∧ rs'.Nodup ∧ (∃ t, rs' = rs ++ t) ∧ (∀ x ∈ rs', Reach ls p x ∧ x ≤ ls.length) ∧ ∀ y, Tie ls rs[i] y → y ∈ rs', ?_, ?_⟩
      · walk_at "hs"
        by_cases z : rs[i] = 0
        · refine x_inDF ?_ ?_
          · rw [z]
            exact dgetN0 (.inl (s3 _ _ eD))
          · walk_at "hs"
            exact ⟨rs, _, rfl, s3, eR3, nd, ⟨[], by simp⟩, al, fun y t => absurd t.1 (by omega)⟩
        · have hbl : rs[i] - 1 < ls.length := by omega
          obtain ⟨a, ha, ea0⟩ := la.get hbl
          have l2 := l200 _ (List.getElem_mem hbl)
          have g := dgetN (.inl (s3 _ _ eD)) (refs_get ha) (b := ((rs[i] : Nat) : Int)) (by omega)
          have nRa : a ≠ R := ne_of_none ea0 nR
          refine x_inDT g ?_
          walk_at "hs"
          refine ⟨D, _, rfl, g, ?_⟩
          refine ⟨a, rfl, ⟨_, .of (s3 _ _ ea0)⟩, ?_⟩
          refine lp_list (K := K) (xs := nats ls[rs[i] - 1]) (fun j σ2 H4 => ∃ (rs' : List Nat) (x5 : Option V), σ2 = [some (.ref D), some (.int (p : Nat)), some (.int (b : Nat)), some (.ref R), some (.int (i : Nat)), x5] ∧ Same H H4 ∧ H4 R = some (.lst (nats rs')) ∧ rs'.Nodup ∧ (∃ t, rs' = rs ++ t) ∧ (∀ x ∈ rs', Reach ls p x ∧ x ≤ ls.length) ∧ ∀ (k : Nat) y, k < j → ls[rs[i] - 1][k]? = some y → y ∈ rs')
            ⟨rs, _, rfl, s3, eR3, nd, ⟨[], by simp⟩, al, fun k y h => by omega⟩ (fun j σ G _ h => by
              obtain ⟨_, _, _, s4, _⟩ := h
              exact .of (s4 _ _ ea0)) ?_ ?_
          · rintro j v σ2 G hv ⟨rs', x6, rfl, s4, eR4, nd4, ⟨t, et⟩, al4, cl4⟩
            obtain ⟨y, hy, rfl⟩ := nats_item hv
            have ty : Tie ls rs[i] y := ⟨by omega, rle, by rw [List.getD_eq_getElem?_getD, List.getElem?_eq_getElem hbl]; exact List.mem_of_getElem? hy⟩
            have rl4 : rs'.length ≤ ls.length + 1 := nodup_small nd4 fun x hx => (al4 x hx).2
            have sR4 : SqL K G R (nats rs') := .of eR4
            have next : ∀ rs'' : List Nat, (∀ x ∈ rs', x ∈ rs'') → y ∈ rs'' → ∀ (k : Nat) z, k < j + 1 → ls[rs[i] - 1][k]? = some z → z ∈ rs'' := fun rs'' h1 h2 k z hk hz => by
              by_cases e : k = j
              · subst e
                rw [hy] at hz
                cases hz
                exact h2
              · exact h1 z (cl4 k z (by omega) hz)
            walk_at "hs"
            refine x_ninNL sR4 ?_
            refine ⟨_, rfl, ?_⟩
            refine x_isnd (fun n => ?_) (fun m => ?_)
            · walk_at "hs"
              refine x_append eR4 (szLt (by rw [nats_length]; omega)) ?_
              have e : nats rs' ++ [V.int (y : Nat)] = nats (rs' ++ [y]) := by
                rw [nats_append]
                rfl
              rw [e]
              refine ⟨rs' ++ [y], _, rfl, same_mut s4 nR, upd_same, nd_snoc nd4 n, ⟨t ++ [y], by rw [et, List.append_assoc]⟩, fun x hx => ?_, next _ (fun x hx => List.mem_append_left _ hx) (List.mem_append_right _ (List.mem_singleton.mpr rfl))⟩
              rcases List.mem_append.mp hx with hx | hx
              · exact al4 x hx
              · rw [List.mem_singleton.mp hx]
                exact ⟨ri.snoc ty, le _ _ ty⟩
            · walk_at "hs"
              exact ⟨rs', _, rfl, s4, eR4, nd4, ⟨t, et⟩, al4, next _ (fun x hx => hx) m⟩
          · rintro σ2 G ⟨rs', x6, rfl, s4, eR4, nd4, tt, al4, cl4⟩
            refine ⟨rs', _, rfl, s4, eR4, nd4, tt, al4, fun y ty => ?_⟩
            have ty2 := ty.2.2
            rw [List.getD_eq_getElem?_getD, List.getElem?_eq_getElem hbl] at ty2
            obtain ⟨k, hk⟩ := List.getElem?_of_mem (show y ∈ ls[rs[i] - 1] from ty2)
            exact cl4 k y (by rw [nats_length]; exact (List.getElem?_eq_some_iff.mp hk).1) hk
      · rintro σ2 G ⟨rs', x6, rfl, s4, eR4, nd4, ⟨t, et⟩, al4, cl4⟩
        walk_at "hs"
        have lt : rs.length ≤ rs'.length := by rw [et, List.length_append]; omega
        refine ⟨m - 1, by omega, i + 1, rs', _, by omega, by omega, rfl, s4, eR4, nd4, by rw [et]; exact List.mem_append_left _ mp, al4, fun k hk y ty => ?_⟩
        have kr : k < rs.length := by omega
        have gk : rs'.getD k 0 = rs.getD k 0 := by rw [et, List.getD_eq_getElem?_getD, List.getElem?_append, if_pos kr, List.getD_eq_getElem?_getD]
        rw [gk] at ty
        by_cases e : k = i
        · subst e
          rw [gd] at ty
          exact cl4 y ty
        · rw [et]
          exact List.mem_append_left _ (cl k (by omega) y ty)
    · have ei : i = rs.length := by omega
      walk_at "hs"
      refine x_inNL sR ?_
      refine q _ _ s3 ?_
      rw [decide_eq_true_iff]
      constructor
      · exact fun m => (al b m).1
      · intro r
        have cls : ∀ x, x ∈ rs → ∀ y, Tie ls x y → y ∈ rs := fun x hx y ty => by
          obtain ⟨k, hk⟩ := List.getElem?_of_mem hx
          have h1 := (List.getElem?_eq_some_iff.mp hk).1
          exact cl k (by omega) y (by rw [List.getD_eq_getElem?_getD, hk]; exact ty)
        clear cl al eR3 sR 
        have go : ∀ x y, Reach ls x y → x ∈ rs → y ∈ rs := fun x y r => by
          induction r with
          | refl a => exact fun h => h
          | step t _ ih => exact fun h => ih (cls _ h _ t)
        exact go p b r mp
end
set_option maxRecDepth 100000
set_option maxHeartbeats 2000000
open PySem PySem.Spec L2


theorem hgOk_of {hs : List Nat} (t : IsTree hs) : HgOk hs := fun i p e => by
  have hi := (List.getElem?_eq_some_iff.mp e).1
  refine ⟨t.le p (List.mem_of_getElem? e), fun z => ?_⟩
  refine no_ring t (k := i + 1) (m := 1) (by omega) (by omega) (Nat.le_refl _) ?_
  show up hs (i + 1) = i + 1
  unfold up
  rw [if_neg (by omega), Nat.add_sub_cancel, List.getD_eq_getElem?_getD, e]
  exact z
theorem mvOk_of {hs : List Nat} {ms : List (Nat × Nat)} (h : OkAll hs ms) : MvOk hs.length ms := fun m hm => by
  obtain ⟨i, hi, rfl⟩ := List.getElem_of_mem hm
  obtain ⟨a, b, c, d, _⟩ := h i _ (List.getElem?_eq_getElem hi)
  rw [final_len] at b c
  exact ⟨a, b, c, d⟩
/-! the ties of the moves from a to j -/
def tiesAJ (hs : List Nat) (ms : List (Nat × Nat)) (a j : Nat) : List (List Nat) := tiesL (final hs (ms.take a)) ((ms.take j).drop a)
def NRm (hs : List Nat) (ms : List (Nat × Nat)) (a j : Nat) : Prop := ¬ Ring (tiesAJ hs ms a j)
theorem tiesAJ_len (hs : List Nat) (ms : List (Nat × Nat)) (a j : Nat) : (tiesAJ hs ms a j).length = hs.length := (tiesL_len ..).trans (final_len ..)
theorem tiesAJ_self (hs : List Nat) (ms : List (Nat × Nat)) (a : Nat) : tiesAJ hs ms a a = (final hs (ms.take a)).map fun p => [p] := by
  unfold tiesAJ
  rw [List.drop_of_length_le (by rw [List.length_take]; omega)]
  rfl
theorem tiesAJ_step {hs : List Nat} {ms : List (Nat × Nat)} {a j : Nat} {m : Nat × Nat} (h : a ≤ j) (e : ms[j]? = some m) : tiesAJ hs ms a (j + 1) = addT (tiesAJ hs ms a j) m := by
  have hj := (List.getElem?_eq_some_iff.mp e).1
  unfold tiesAJ
  rw [List.take_add_one, e, List.drop_append_of_le_length (by rw [List.length_take]; omega)]
  exact tiesL_snoc ..
theorem tie_self {hs : List Nat} {b p : Nat} : Tie (hs.map fun p => [p]) b p ↔ 1 ≤ b ∧ b ≤ hs.length ∧ hs[b - 1]? = some p := by
  unfold Tie
  rw [List.length_map, List.getD_eq_getElem?_getD, List.getElem?_map]
  constructor
  · rintro ⟨b1, b2, h⟩
    have hb : b - 1 < hs.length := by omega
    rw [List.getElem?_eq_getElem hb] at h ⊢
    rw [List.mem_singleton.mp (show p ∈ [hs[b - 1]] from h)]
    exact ⟨b1, b2, rfl⟩
  · rintro ⟨b1, b2, h⟩
    rw [h]
    exact ⟨b1, b2, List.mem_singleton.mpr rfl⟩
/-- a tie is what a block had at some time of the stretch -/
theorem tie_at {hs : List Nat} {ms : List (Nat × Nat)} (ok : OkAll hs ms) {a : Nat} : ∀ {d : Nat}, a + d ≤ ms.length → ∀ b p, Tie (tiesAJ hs ms a (a + d)) b p ↔ 1 ≤ b ∧ b ≤ hs.length ∧ ∃ k, a ≤ k ∧ k ≤ a + d ∧ (final hs (ms.take k))[b - 1]? = some p
  | 0, _, b, p => by
    rw [Nat.add_zero, tiesAJ_self, tie_self, final_len]
    constructor
    · rintro ⟨b1, b2, h⟩
      exact ⟨b1, b2, a, Nat.le_refl _, Nat.le_refl _, h⟩
    · rintro ⟨b1, b2, k, k1, k2, h⟩
      obtain rfl : k = a := by omega
      exact ⟨b1, b2, h⟩
  | d + 1, hd, b, p => by
    have ih := tie_at ok (d := d) (a := a) (by omega) b p
    have e := List.getElem?_eq_getElem (show a + d < ms.length by omega)
    obtain ⟨m1, m2, m3, m4, m5⟩ := ok _ _ e
    rw [final_len] at m2 m3
    rw [← Nat.add_assoc, tiesAJ_step (by omega) e, tie_add m1 (by rw [tiesAJ_len]; exact m2), ih]
    have fk : (final hs (ms.take (a + d + 1)))[b - 1]? = if ms[a + d].1 - 1 = b - 1 then (if b - 1 < hs.length then some ms[a + d].2 else none) else (final hs (ms.take (a + d)))[b - 1]? := by
      rw [final_take e]
      unfold put
      rw [List.getElem?_set, final_len]
      by_cases c : ms[a + d].1 - 1 = b - 1
      · rw [if_pos c, if_pos c, c]
      · rw [if_neg c, if_neg c]
    constructor
    · rintro (⟨b1, b2, k, k1, k2, h⟩ | ⟨rfl, rfl⟩)
      · exact ⟨b1, b2, k, k1, by omega, h⟩
      · exact ⟨m1, m2, a + d + 1, by omega, Nat.le_refl _, by rw [fk, if_pos rfl, if_pos (by omega)]⟩
    · rintro ⟨b1, b2, k, k1, k2, h⟩
      by_cases z : k = a + d + 1
      · subst z
        rw [fk] at h
        by_cases c : ms[a + d].1 - 1 = b - 1
        · rw [if_pos c, if_pos (by omega)] at h
          exact .inr ⟨by omega, (Option.some.inj h).symm⟩
        · rw [if_neg c] at h
          exact .inl ⟨b1, b2, a + d, by omega, Nat.le_refl _, h⟩
      · exact .inl ⟨b1, b2, k, k1, by omega, h⟩
theorem tie_in {hs : List Nat} {ms : List (Nat × Nat)} (ok : OkAll hs ms) {a j : Nat} (h : a ≤ j) (hj : j ≤ ms.length) (b p : Nat) : Tie (tiesAJ hs ms a j) b p ↔ 1 ≤ b ∧ b ≤ hs.length ∧ ∃ k, a ≤ k ∧ k ≤ j ∧ (final hs (ms.take k))[b - 1]? = some p := by
  have := tie_at ok (a := a) (d := j - a) (by omega) b p
  rw [show a + (j - a) = j by omega] at this
  exact this
theorem tie_le {hs : List Nat} {ms : List (Nat × Nat)} (t : IsTree hs) (ok : OkAll hs ms) {a j : Nat} (h : a ≤ j) (hj : j ≤ ms.length) : ∀ b p, Tie (tiesAJ hs ms a j) b p → p ≤ (tiesAJ hs ms a j).length := fun b p tt => by
  obtain ⟨_, _, k, _, _, e⟩ := (tie_in ok h hj b p).1 tt
  have := (ok.trees t k).le p (List.mem_of_getElem? e)
  rw [final_len] at this
  rw [tiesAJ_len]
  exact this
theorem tree_up {hs : List Nat} {b p : Nat} (h : Tie (hs.map fun p => [p]) b p) : up hs b = p := by
  obtain ⟨b1, b2, e⟩ := tie_self.1 h
  exact up_at (by omega) e
theorem tree_ring {hs : List Nat} (t : IsTree hs) : ¬ Ring (hs.map fun p => [p]) := by
  rintro ⟨S, ⟨b, hb⟩, c⟩
  have all : ∀ n x, S x → S (upN hs n x) := fun n => by
    induction n with
    | zero => exact fun x h => h
    | succ n ih =>
      intro x hx
      obtain ⟨p, tt, sp⟩ := c x hx
      show S (upN hs n (up hs x))
      rw [tree_up tt]
      exact ih p sp
  obtain ⟨p, tt, sp⟩ := c b hb
  have z := all hs.length b hb
  obtain ⟨_, b2, _⟩ := tie_self.1 tt
  rw [t.comes b b2] at z
  obtain ⟨q, tq, _⟩ := c 0 z
  exact absurd tq.1 (by omega)
theorem reach_up {hs : List Nat} {a b : Nat} (r : Reach (hs.map fun p => [p]) a b) : ∃ n, upN hs n a = b := by
  induction r with
  | refl a => exact ⟨0, rfl⟩
  | step t _ ih =>
    obtain ⟨n, e⟩ := ih
    exact ⟨n + 1, by show upN hs n (up hs _) = _; rw [tree_up t]; exact e⟩
theorem okPr_reach {hs : List Nat} (t : IsTree hs) {m : Nat × Nat} (h : okPr hs m) : ¬ Reach (hs.map fun p => [p]) m.2 m.1 := by
  obtain ⟨m1, m2, m3, m4, m5⟩ := h
  intro r
  obtain ⟨n, e⟩ := reach_up r
  refine m5 ?_
  unfold way
  rw [way_mem]
  cases n with
  | zero => exact (m4 e).elim
  | succ n =>
    refine ⟨n, Classical.byContradiction fun h => ?_, fun z => ?_, e⟩
    · have := upN_more (t.comes m.2 m3) (show hs.length ≤ n + 1 by omega)
      omega
    · have := upN_more z (show n ≤ n + 1 by omega)
      omega
theorem ring_next {hs : List Nat} {ms : List (Nat × Nat)} (ok : OkAll hs ms) {a j : Nat} {m : Nat × Nat} (h : a ≤ j) (e : ms[j]? = some m) (no : NRm hs ms a j) : ¬ NRm hs ms a (j + 1) ↔ Reach (tiesAJ hs ms a j) m.2 m.1 := by
  obtain ⟨m1, m2, _⟩ := ok _ _ e
  rw [final_len] at m2
  unfold NRm
  rw [Classical.not_not, tiesAJ_step h e]
  exact ring_add (fun b p => tie_add m1 (by rw [tiesAJ_len]; exact m2) b p) no
theorem mo_ms {hs : List Nat} {ms : List (Nat × Nat)} (t : IsTree hs) (ok : OkAll hs ms) : Mo (NRm hs ms) ms.length where
  mono := fun a a' j' j h1 h2 h3 h4 n r => n (r.mono fun b p tt => by
    obtain ⟨b1, b2, k, k1, k2, e⟩ := (tie_in ok h2 (by omega) b p).1 tt
    exact (tie_in ok (by omega) h4 b p).2 ⟨b1, b2, k, by omega, by omega, e⟩)
  base := fun a _ => by
    unfold NRm
    rw [tiesAJ_self]
    exact tree_ring (ok.trees t a)
  one := fun a ha => Classical.byContradiction fun n => by
    have e := List.getElem?_eq_getElem ha
    have b : NRm hs ms a a := by
      unfold NRm
      rw [tiesAJ_self]
      exact tree_ring (ok.trees t a)
    have r := (ring_next ok (Nat.le_refl a) e b).1 n
    rw [tiesAJ_self] at r
    exact okPr_reach (ok.trees t a) (ok _ _ e) r
open Classical in
noncomputable def badC (hs : List Nat) (ms : List (Nat × Nat)) (c j : Nat) : Bool := decide (¬ NRm hs ms c (j + 1))
theorem badC_iff (hs : List Nat) (ms : List (Nat × Nat)) (c j : Nat) : badC hs ms c j = true ↔ ¬ NRm hs ms c (j + 1) := by
  unfold badC
  exact @decide_eq_true_iff _ (_)
theorem few_inv {hs : List Nat} {ms : List (Nat × Nat)} (t : IsTree hs) (ok : OkAll hs ms) (j : Nat) (h : j ≤ ms.length) : GInv (NRm hs ms) ms.length j (gst (badC hs ms) j) := gst_inv (mo_ms t ok) (fun c j _ _ _ => badC_iff hs ms c j) j h
/-- known of a stretch -/
theorem ring_had {hs : List Nat} {ms : List (Nat × Nat)} (t : IsTree hs) (ok : OkAll hs ms) {a j : Nat} (h : a ≤ j) (hj : j ≤ ms.length) : (itL (hadLs (final hs (ms.take a)) ((ms.take j).drop a)) hs.length).length ≤ hs.length ↔ ¬ NRm hs ms a j := by
  unfold NRm
  rw [Classical.not_not]
  have tl := tie_le t ok h hj
  have same : ∀ b p, Tie (hadLs (final hs (ms.take a)) ((ms.take j).drop a)) b p ↔ Tie (tiesAJ hs ms a j) b p := fun b p => by
    unfold Tie
    rw [hadLs_len, tiesAJ_len, final_len]
    constructor
    · rintro ⟨b1, b2, h⟩
      refine ⟨b1, b2, ?_⟩
      have hb : b - 1 < (tiesAJ hs ms a j).length := by rw [tiesAJ_len]; omega
      unfold hadLs at h
      rw [List.getD_eq_getElem?_getD, List.getElem?_map] at h
      rw [List.getD_eq_getElem?_getD, List.getElem?_eq_getElem hb]
      have e : (tiesL (final hs (ms.take a)) ((ms.take j).drop a))[b - 1]? = some (tiesAJ hs ms a j)[b - 1] := List.getElem?_eq_getElem hb
      rw [e] at h
      exact (hadL_mem.1 h).2
    · rintro ⟨b1, b2, h⟩
      refine ⟨b1, b2, ?_⟩
      have pl := tl b p ⟨b1, by rw [tiesAJ_len]; exact b2, h⟩
      have hb : b - 1 < (tiesAJ hs ms a j).length := by rw [tiesAJ_len]; omega
      rw [List.getD_eq_getElem?_getD, List.getElem?_eq_getElem hb] at h
      unfold hadLs
      rw [List.getD_eq_getElem?_getD, List.getElem?_map]
      have e : (tiesL (final hs (ms.take a)) ((ms.take j).drop a))[b - 1]? = some (tiesAJ hs ms a j)[b - 1] := List.getElem?_eq_getElem hb
      rw [e]
      rw [tiesAJ_len] at pl
      exact hadL_mem.2 ⟨by rw [final_len]; exact pl, h⟩
  have hl : (hadLs (final hs (ms.take a)) ((ms.take j).drop a)).length = hs.length := by rw [hadLs_len, final_len]
  have r := ring_itL (ks := hadLs (final hs (ms.take a)) ((ms.take j).drop a)) fun b p tt => by
    have := tl b p ((same b p).1 tt)
    rw [tiesAJ_len] at this
    rw [hl]
    exact this
  rw [hl] at r
  rw [← r]
  exact ⟨Ring.mono fun b p => (same b p).1, Ring.mono fun b p => (same b p).2⟩
set_option maxRecDepth 100000
set_option maxHeartbeats 4000000
open PySem PySem.Spec L2


local macro_rules | `(tactic| walk_at "h1") => `(tactic| first
  | with_reducible refine x_dget ?_
  | with_reducible refine x_dc ?_
  | with_reducible refine x_keysF ?_
  | with_reducible refine x_keysFT ?_
  | with_reducible refine x_listZip ?_
  | with_reducible refine x_enls ?_)

theorem sc_is_calm : FnScope ["history", "calms", "hung", "ties", "at", "block", "place"] ["history", "calms"] (defScope s_is_calm) := ⟨rfl, rfl, rfl, by decide +kernel, rfl, by decide +kernel, by decide +kernel⟩
theorem sc_fewest_calms : FnScope ["history", "calms", "hung", "ties", "at", "block", "place"] ["history"] (defScope s_fewest_calms) := ⟨rfl, rfl, rfl, by decide +kernel, rfl, by decide +kernel, by decide +kernel⟩
/-- ties in a dict of lists, all of them new, beside the list at A -/
def TieS (H G : Hp) (A D : Addr) (ls : List (List Nat)) : Prop := H D = none ∧ D ≠ A ∧ ∃ as : List Addr, as.Nodup ∧ (∀ a ∈ as, H a = none ∧ a ≠ A) ∧ G D = some (.dK (kdl 1 (refs as))) ∧ LsAt G as ls
theorem TieS.new {H G0 G : Hp} {A D : Addr} {o : HO} {ls : List (List Nat)} (s : Same H G0) (eA : G0 A = some o) (nD : G0 D = none) (ta : TiesAt G0 G D ls) : TieS H G A D ls := by
  obtain ⟨as, nd, fr, eD, l⟩ := ta
  exact ⟨s.free nD, Ne.symm (ne_of_none eA nD), as, nd, fun a ha => ⟨s.free (fr a ha), Ne.symm (ne_of_none eA (fr a ha))⟩, eD, l⟩
theorem TieS.same {H G G' : Hp} {A D : Addr} {ls : List (List Nat)} (s : Same G G') (h : TieS H G A D ls) : TieS H G' A D ls := by
  obtain ⟨n, ne, as, nd, fr, eD, l⟩ := h
  exact ⟨n, ne, as, nd, fr, s _ _ eD, l.same s⟩
theorem TieS.mutA {H G : Hp} {A D : Addr} {xs ys : List V} {ls : List (List Nat)} (h : TieS H G A D ls) : TieS H (upd G A (.lst ys)) A D ls := by
  obtain ⟨n, ne, as, nd, fr, eD, l⟩ := h
  refine ⟨n, ne, as, nd, fr, by rw [upd_ne ne]; exact eD, l.1, fun i a m ha hm => ?_⟩
  rw [upd_ne (fr a (List.mem_of_getElem? ha)).2]
  exact l.2 i a m ha hm
theorem TieS.put {H G : Hp} {A D a : Addr} {ls : List (List Nat)} {i : Nat} {l : List Nat} {as : List Addr} (n : H D = none) (ne : D ≠ A) (nd : as.Nodup) (fr : ∀ a ∈ as, H a = none ∧ a ≠ A) (eD : G D = some (.dK (kdl 1 (refs as)))) (la : LsAt G as ls) (ha : as[i]? = some a) (nDa : D ≠ a) : TieS H (upd G a (.lst (nats l))) A D (ls.set i l) :=
  ⟨n, ne, as, nd, fr, by rw [upd_ne nDa]; exact eD, la.put nd ha⟩
/-- the same, of any addresses that X lets -/
def TieQ (X : Addr → Prop) (G : Hp) (D : Addr) (ls : List (List Nat)) : Prop := X D ∧ ∃ as : List Addr, as.Nodup ∧ (∀ a ∈ as, X a) ∧ G D = some (.dK (kdl 1 (refs as))) ∧ LsAt G as ls
theorem TieQ.new {X : Addr → Prop} {G0 G : Hp} {D : Addr} {ls : List (List Nat)} (h : ∀ a, G0 a = none → X a) (nD : G0 D = none) (ta : TiesAt G0 G D ls) : TieQ X G D ls := by
  obtain ⟨as, nd, fr, eD, l⟩ := ta
  exact ⟨h D nD, as, nd, fun a ha => h a (fr a ha), eD, l⟩
theorem TieQ.same {X : Addr → Prop} {G G' : Hp} {D : Addr} {ls : List (List Nat)} (s : Same G G') (h : TieQ X G D ls) : TieQ X G' D ls := by
  obtain ⟨n, as, nd, fr, eD, l⟩ := h
  exact ⟨n, as, nd, fr, s _ _ eD, l.same s⟩
theorem TieQ.mut {X : Addr → Prop} {G : Hp} {D y : Addr} {o : HO} {ls : List (List Nat)} (h : TieQ X G D ls) (nX : ¬ X y) : TieQ X (upd G y o) D ls := by
  obtain ⟨n, as, nd, fr, eD, l⟩ := h
  have ne : ∀ a, X a → a ≠ y := fun a h z => nX (by rw [← z]; exact h)
  refine ⟨n, as, nd, fr, by rw [upd_ne (ne D n)]; exact eD, l.1, fun i a m ha hm => ?_⟩
  rw [upd_ne (ne a (fr a (List.mem_of_getElem? ha)))]
  exact l.2 i a m ha hm
theorem TieQ.put {X : Addr → Prop} {G : Hp} {D a : Addr} {ls : List (List Nat)} {i : Nat} {l : List Nat} {as : List Addr} (n : X D) (nd : as.Nodup) (fr : ∀ a ∈ as, X a) (eD : G D = some (.dK (kdl 1 (refs as)))) (la : LsAt G as ls) (ha : as[i]? = some a) (nDa : D ≠ a) : TieQ X (upd G a (.lst (nats l))) D (ls.set i l) :=
  ⟨n, as, nd, fr, by rw [upd_ne nDa]; exact eD, la.put nd ha⟩
theorem tiesAJ_small {hs : List Nat} {ms : List (Nat × Nat)} (t : IsTree hs) (ok : OkAll hs ms) (a j : Nat) : ∀ l ∈ tiesAJ hs ms a j, l.length ≤ ms.length + 1 := fun l hl => by
  have tf := ok.trees t a
  have hg := hgOk_of tf
  have mo := mvOk_of ok
  have sub : ∀ m ∈ (ms.take j).drop a, m ∈ ms := fun m hm => List.mem_of_mem_take (List.mem_of_mem_drop hm)
  have to := tieOk_all (hs := final hs (ms.take a)) (ms := (ms.take j).drop a) hg (fun m hm => by
    have := mo m (sub m hm)
    rw [final_len]
    exact ⟨this.1, this.2.2.1, this.2.2.2⟩) _ (Nat.le_refl _)
  rw [List.take_length] at to
  obtain ⟨i, hi⟩ := List.getElem?_of_mem hl
  have h := (to i l hi).2.1
  have : ((ms.take j).drop a).length ≤ ms.length := by rw [List.length_drop, List.length_take]; omega
  omega
section
variable {P : Program} {w : World} {K : PySem.W.Frag} {mg : Str → Option Value} {base : Heap} {Z : Ad}
def spCalm (Z : Ad) : Sp := fun vs H Q _ => ∃ (x t : Addr) (hs : List Nat) (ms : List (Nat × Nat)) (cs : List Nat), vs = [.ref x, .ref t] ∧ HistAt Z H x hs ms ∧ IsTree hs ∧ OkAll hs ms ∧ ms.length ≤ 80 ∧ H t = some (.tup (nats cs)) ∧ cs.Pairwise (· < ·) ∧ (∀ c ∈ cs, c < ms.length) ∧ ∀ H' (r : Bool), Same H H' → (r = true ↔ SafeI (NRm hs ms) ms.length 0 cs) → Q (.bl r) H'
theorem ok_calm {f : Addr} {fd : FuncData} (F : Fun K "is_calm" "is_calm" s_is_calm f fd) (B : Bl Z mg) (HC : HisC K Z) (T : Cls K Z.a_Tree) (N : NoAttr K Z.a_Tree "hung")
    {f_is_lot_within : Addr} {fd_is_lot_within : FuncData} (C_is_lot_within : Cal K mg "is_lot_within" f_is_lot_within fd_is_lot_within ["least", "most", "thing"]) (G_is_lot_within : FnOk P w K mg base CX0 2 f_is_lot_within fd_is_lot_within ["least", "most", "thing"] spLot) {f__ties_of : Addr} {fd__ties_of : FuncData} (C__ties_of : Cal K mg "_ties_of" f__ties_of fd__ties_of ["hung"]) (G__ties_of : FnOk P w K mg base CX0 1 f__ties_of fd__ties_of ["hung"] spTies) {f__leads_to : Addr} {fd__leads_to : FuncData} (C__leads_to : Cal K mg "_leads_to" f__leads_to fd__leads_to ["ties", "place", "block"]) (G__leads_to : FnOk P w K mg base CX0 1 f__leads_to fd__leads_to ["ties", "place", "block"] spLeads) : FnOk P w K mg base CX0 3 f fd ["history", "calms"] (spCalm Z) := by
  refine F.ok sc_is_calm (fun vs H Q E h => ?_) (fun cdv A outer s H vs Q E hr h => ?_)
  · obtain ⟨x, t, hs, ms, cs, rfl, _⟩ := h
    rfl
  · obtain ⟨x, t, hs, ms, cs, rfl, hh, it, ok, l80, eT, asc, lt, q⟩ := h
    obtain ⟨dh, tr, u, vs, h1, ⟨dt, tt, h2, h2'⟩, h3, h4⟩ := id hh
    have M := mo_ms it ok
    have ml : vs.length = ms.length := h4.len
    have ab : AscB ms.length 0 cs := AscB.of (Nat.zero_le _) (fun c hc => ⟨Nat.zero_le _, lt c hc⟩) asc
    have sb := (safe_ri (NR := NRm hs ms) (L := ms.length) (a := 0) (cs := cs)).symm.trans (safe_beg M ab)
    have cl : cs.length ≤ 200 := by
      have := nd_len (m := List.range ms.length) (asc.imp fun h => Nat.ne_of_lt h) fun c hc => List.mem_range.mpr (lt c hc)
      rw [List.length_range] at this
      omega
    have st : SqT K H tt (nats hs) := .of h2'
    have sT : SqT K H t (nats cs) := .of eT
    have h40 := it.most
    refine ⟨_, (pss_cons (ps_if (pt_not (pt_val (pe_call G_is_lot_within (hr.mono (by first | decide | omega)) (by rfl) C_is_lot_within.g C_is_lot_within.k C_is_lot_within.b .nil pass0 (pa_cons pe_int (pa_cons (pe_op op_sub (pe_callB (call_lenK (K := K) rfl) (by rfl) B.b_len PySem.boot_len (pa_cons (pe_fldK (K := K) rfl (pv 0) rfl) pa_nil)) pe_int) (pa_cons (pv 1) pa_nil)))))) (pss_one (ps_ret pe_bl)) pss_nil)
 (pss_cons (ps_set (i := 2) sc_is_calm.nd rfl (Or.inl rfl) (pe_callTy (call_lstK (K := K) rfl) (by rfl) B.b_list (by decide +kernel) (pa_cons (pe_fldK (K := K) rfl (pe_fldK (K := K) rfl (pv 0) rfl) rfl) pa_nil)))
 (pss_cons (ps_set (i := 3) sc_is_calm.nd rfl (Or.inl rfl) (pe_call G__ties_of (hr.mono (by first | decide | omega)) (by rfl) C__ties_of.g C__ties_of.k C__ties_of.b .nil pass0 (pa_cons (pv 2) pa_nil)))
 (pss_cons (ps_for PassesOwn.never rfl (pi_enumT0 (K := K) rfl rfl (by rfl) B.b_enumerate (pa_cons (pe_fldK (K := K) rfl (pv 0) rfl) pa_nil)) (pg_tup rfl (pgs_cons (pg_name (i := 4) sc_is_calm.nd rfl (Or.inl rfl)) (pgs_cons (pg_tup rfl (pgs_cons (pg_name (i := 5) sc_is_calm.nd rfl (Or.inl rfl)) (pgs_cons (pg_name (i := 6) sc_is_calm.nd rfl (Or.inl rfl)) pgs_nil))) pgs_nil))) (C8.pss_cut (ps_if (pt_cmpR (op_inK (K := K) rfl) (pv 4) (pv 1) (by rfl)) (pss_one (ps_set (i := 3) sc_is_calm.nd rfl (Or.inl rfl) (pe_call G__ties_of (hr.mono (by first | decide | omega)) (by rfl) C__ties_of.g C__ties_of.k C__ties_of.b .nil pass0 (pa_cons (pv 2) pa_nil)))) pss_nil)
 (pss_cons (ps_if (pt_val (pe_call G__leads_to (hr.mono (by first | decide | omega)) (by rfl) C__leads_to.g C__leads_to.k C__leads_to.b .nil pass0 (pa_cons (pv 3) (pa_cons (pv 6) (pa_cons (pv 5) pa_nil))))) (pss_one (ps_ret pe_bl)) pss_nil)
 (pss_cons (ps_expr (pe_bmK (K := K) rfl PySem.F.plainAttrs_list PySem.F.slot_list_append PySem.F.type_list_append mt_append (pe_dget (units1 hr) (pv 3) (pv 5) (fun _ _ => rfl)) (pa_cons (pv 6) pa_nil)))
 (pss_one (ps_asg (pv 6) (pg_sub (pv 2) (pe_op op_sub (pv 5) pe_int) set_list)))))))
 (pss_one (ps_ret pe_bl)))))), ?_⟩
    walk_at "h0"
    refine ⟨x, _, dh, _, _, rfl, h1, HC.c, HC.nm, rfl, ?_⟩
    walk_at "hs"
    refine ⟨(vs.length : Int) - 1, t, cs, rfl, eT, cl, asc, (fun c hc => by have := lt c hc; omega), by omega, by omega, fun H1 s1 => ?_⟩
    walk_at "hs"
    refine ⟨x, _, dh, _, _, rfl, s1 _ _ h1, HC.c, HC.nt, rfl, ?_⟩
    walk_at "hs"
    refine ⟨tr, _, dt, _, _, rfl, s1 _ _ h2, T, N, rfl, ?_⟩
    walk_at "hs"
    intro A nA
    have s2 : Same H1 (upd H1 A (.lst (nats hs))) := same_new (Same.refl _) nA
    have eA : upd H1 A (.lst (nats hs)) A = some (.lst (nats hs)) := upd_same
    generalize upd H1 A (.lst (nats hs)) = H2 at s2 eA ⊢
    walk_at "hs"
    refine ⟨A, hs, rfl, eA, h40, fun D0 H3 s3 nD0 ta => ?_⟩
    have nAH := s1.free nA
    have s02 := s1.trans s2
    have s03 := s02.trans s3
    have ts0 := TieS.new s02 eA nD0 ta
    have eA3 := s3 _ _ eA
    clear ta nD0 nA
    walk_at "hs"
    refine ⟨x, _, dh, _, _, rfl, s03 _ _ h1, HC.c, HC.nm, rfl, ?_⟩
    refine ⟨u, _, rfl, .of (s03 _ _ h3), ?_⟩
    refine lp_enumT (K := K) (k := 0) (xs := vs) (fun i σ' G => ∃ c D x4 x5 x6, σ' = [some (.ref x), some (.ref t), some (.ref A), some (.ref D), x4, x5, x6] ∧ Same H G ∧ c ≤ i ∧ (i = 0 ∧ c = 0 ∨ 1 ≤ i ∧ c = begF 0 cs (i - 1)) ∧ NRm hs ms c i ∧ (∀ j, j < i → NRm hs ms (begF 0 cs j) (j + 1)) ∧ G A = some (.lst (nats (final hs (ms.take i)))) ∧ TieS H G A D (tiesAJ hs ms c i))
      ⟨0, D0, _, _, _, rfl, s03, Nat.le_refl _, .inl ⟨rfl, rfl⟩, M.base 0 (Nat.zero_le _), (fun j h => by omega), eA3, by rw [tiesAJ_self]; exact ts0⟩ (fun i σ' G _ h => by
        obtain ⟨_, _, _, _, _, _, s4, _⟩ := h
        exact .of (s4 _ _ h3)) ?_ ?_
    · rintro i v σ' G Tn hv ⟨c, D, x4, x5, x6, rfl, s4, ci, cc, nr, all, eA4, ts⟩ nT
      obtain ⟨y, hy, py⟩ := h4.at hv
      obtain ⟨a, rfl, ha⟩ := py.same s4
      have hi := (List.getElem?_eq_some_iff.mp hy).1
      obtain ⟨k1, k2, k3, k4, k5⟩ := ok i y hy
      rw [final_len] at k2 k3
      have s5 : Same G (upd G Tn (.tup [.int (0 + (i : Nat)), .ref a])) := same_new (Same.refl _) nT
      have eT5 : upd G Tn (.tup [.int (0 + (i : Nat)), .ref a]) Tn = some (.tup [.int (i : Nat), .ref a]) := by rw [upd_same, Int.zero_add]
      generalize upd G Tn (.tup [.int (0 + (i : Nat)), .ref a]) = G5 at s5 eT5 ⊢
      have sTn : SqT K G5 Tn [.int (i : Nat), .ref a] := .of eT5
      have sa : SqT K G5 a [.int (y.1 : Nat), .int (y.2 : Nat)] := .of (s5 _ _ ha)
      have s05 := s4.trans s5
      have sT5 := s05.seqT sT
      have eA5 := s5 _ _ eA4
      have ts5 := ts.same s5
      walk_at "hs"
      refine ⟨fun σ2 G2 => ∃ D, σ2 = [some (.ref x), some (.ref t), some (.ref A), some (.ref D), some (.int (i : Nat)), some (.int (y.1 : Nat)), some (.int (y.2 : Nat))] ∧ Same H G2 ∧ G2 A = some (.lst (nats (final hs (ms.take i)))) ∧ TieS H G2 A D (tiesAJ hs ms (begF 0 cs i) i) ∧ NRm hs ms (begF 0 cs i) i, ?_, ?_⟩
      · walk_at "hs"
        refine x_inNT sT5 ?_
        refine ⟨_, rfl, ?_⟩
        refine x_isd (fun m => ?_) (fun m => ?_)
        · walk_at "hs"
          refine ⟨A, final hs (ms.take i), rfl, eA5, by rw [final_len]; exact h40, fun D2 G2 s6 nD2 ta => ?_⟩
          walk_at "hs"
          have e := begF_hit ab m
          refine ⟨D2, rfl, s05.trans s6, s6 _ _ eA5, ?_, ?_⟩
          · rw [e, tiesAJ_self]
            exact TieS.new s05 eA5 nD2 ta
          · rw [e]
            exact M.base i (by omega)
        · walk_at "hs"
          have e : begF 0 cs i = c := by
            rcases cc with ⟨rfl, rfl⟩ | ⟨h1, rfl⟩
            · exact begF_zero ab
            · have := begF_miss (a := 0) (cs := cs) (j := i - 1) (by rw [show i - 1 + 1 = i by omega]; exact m)
              rw [show i - 1 + 1 = i by omega] at this
              exact this
          rw [e]
          exact ⟨D, rfl, s05, eA5, ts5, nr⟩
      · clear ts5 eA5 sT5 s05 sa sTn eT5 s5 ts eA4 nr cc ci s4
        rintro σ2 G2 ⟨D2, rfl, s6, eA6, ts6, nr⟩
        have cle : begF 0 cs i ≤ i := begF_le (Nat.zero_le _)
        have rn := ring_next ok cle hy nr
        obtain ⟨nD, neD, as, nd, fr, eD, la⟩ := id ts6
        have tl := tiesAJ_len hs ms (begF 0 cs i) i
        have sm := tiesAJ_small it ok (begF 0 cs i) i
        walk_at "hs"
        refine ⟨D2, as, _, y.2, y.1, rfl, eD, la, by omega, (fun l hl => by have := sm l hl; omega), tie_le it ok cle (by omega), by omega, fun G3 r s7 hr => ?_⟩
        cases r with
        | true =>
          walk_at "hs"
          refine q _ false (s6.trans s7) ⟨(fun z => nomatch z), fun sf => ?_⟩
          exact (rn.2 (hr.1 rfl) (sb.1 sf i (Nat.zero_le _) hi)).elim
        | false =>
          have nr2 : NRm hs ms (begF 0 cs i) (i + 1) := Classical.byContradiction fun n => nomatch (hr.2 (rn.1 n))
          have hb : y.1 - 1 < (tiesAJ hs ms (begF 0 cs i) i).length := by omega
          have la7 := la.same s7
          obtain ⟨b, hb2, eb⟩ := la7.get hb
          have eD7 := s7 _ _ eD
          have eA7 := s7 _ _ eA6
          have nDb : D2 ≠ b := fun z => by rw [← z, eD7] at eb; cases eb
          obtain ⟨frb, neb⟩ := fr b (List.mem_of_getElem? hb2)
          have lb := sm _ (List.getElem_mem hb)
          walk_at "hs"
          refine ⟨D2, _, rfl, dgetN (.inl eD7) (refs_get hb2) (by omega), ?_⟩
          walk_at "hs"
          refine ⟨b, _, _, rfl, rfl, eb, szLt (by rw [nats_length]; omega), ?_⟩
          have e : nats (tiesAJ hs ms (begF 0 cs i) i)[y.1 - 1] ++ [V.int (y.2 : Nat)] = nats ((tiesAJ hs ms (begF 0 cs i) i).getD (y.1 - 1) [] ++ [y.2]) := by
            rw [List.getD_eq_getElem?_getD, List.getElem?_eq_getElem hb, Option.getD_some, nats_append]
            rfl
          rw [e]
          have s8 : Same H (upd G3 b (.lst (nats ((tiesAJ hs ms (begF 0 cs i) i).getD (y.1 - 1) [] ++ [y.2])))) := same_mut (s6.trans s7) frb
          have eA8 : upd G3 b (.lst (nats ((tiesAJ hs ms (begF 0 cs i) i).getD (y.1 - 1) [] ++ [y.2]))) A = some (.lst (nats (final hs (ms.take i)))) := by rw [upd_ne (Ne.symm neb)]; exact eA7
          have ts8 := TieS.put nD neD nd fr eD7 la7 hb2 nDb (l := (tiesAJ hs ms (begF 0 cs i) i).getD (y.1 - 1) [] ++ [y.2])
          generalize upd G3 b (.lst (nats ((tiesAJ hs ms (begF 0 cs i) i).getD (y.1 - 1) [] ++ [y.2]))) = G8 at s8 eA8 ts8 ⊢
          walk_at "hs"
          refine x_setL eA8 (j := y.1 - 1) (by
            rw [nats_length, final_len]
            unfold ixN
            rw [if_pos (by omega), if_pos (by omega)]
            congr 1
            omega) ?_
          walk_at "hs"
          refine ⟨begF 0 cs i, D2, _, _, _, rfl, same_mut s8 nAH, by omega, .inr ⟨by omega, rfl⟩, nr2, fun j hj => ?_, ?_, ?_⟩
          · by_cases z : j = i
            · subst z
              exact nr2
            · exact all j (by omega)
          · rw [upd_same, final_take hy]
            unfold nats put
            rw [List.map_set]
            rfl
          · rw [tiesAJ_step cle hy]
            exact TieS.mutA (xs := []) ts8
    · rintro σ' G ⟨c, D, x4, x5, x6, rfl, s4, ci, cc, nr, all, eA4, ts⟩
      walk_at "hs"
      exact q _ true s4 ⟨fun _ => sb.2 fun j _ hj => all j (by omega), fun _ => rfl⟩
def spFew (Z : Ad) : Sp := fun vs H Q _ => ∃ (x : Addr) (hs : List Nat) (ms : List (Nat × Nat)), vs = [.ref x] ∧ HistAt Z H x hs ms ∧ IsTree hs ∧ OkAll hs ms ∧ ms.length ≤ 80 ∧ ∀ H' T, Same H H' → H T = none → H' T = some (.tup (nats (gst (badC hs ms) ms.length).2)) → Q (.ref T) H'
theorem ok_few {f : Addr} {fd : FuncData} (F : Fun K "fewest_calms" "fewest_calms" s_fewest_calms f fd) (B : Bl Z mg) (HC : HisC K Z) (T : Cls K Z.a_Tree) (N : NoAttr K Z.a_Tree "hung")
    {f__ties_of : Addr} {fd__ties_of : FuncData} (C__ties_of : Cal K mg "_ties_of" f__ties_of fd__ties_of ["hung"]) (G__ties_of : FnOk P w K mg base CX0 1 f__ties_of fd__ties_of ["hung"] spTies) {f__leads_to : Addr} {fd__leads_to : FuncData} (C__leads_to : Cal K mg "_leads_to" f__leads_to fd__leads_to ["ties", "place", "block"]) (G__leads_to : FnOk P w K mg base CX0 1 f__leads_to fd__leads_to ["ties", "place", "block"] spLeads) : FnOk P w K mg base CX0 3 f fd ["history"] (spFew Z) := by
  refine F.ok sc_fewest_calms (fun vs H Q E h => ?_) (fun cdv A outer s H vs Q E hr h => ?_)
  · obtain ⟨x, hs, ms, rfl, _⟩ := h
    rfl
  · obtain ⟨x, hs, ms, rfl, hh, it, ok, l80, q⟩ := h
    obtain ⟨dh, tr, u, vs, h1, ⟨dt, tt, h2, h2'⟩, h3, h4⟩ := id hh
    have M := mo_ms it ok
    have ml : vs.length = ms.length := h4.len
    have st : SqT K H tt (nats hs) := .of h2'
    have h40 := it.most
    refine ⟨_, (pss_cons (ps_set (i := 1) sc_fewest_calms.nd rfl (Or.inl rfl) (pe_lst pa_nil))
 (pss_cons (ps_set (i := 2) sc_fewest_calms.nd rfl (Or.inl rfl) (pe_callTy (call_lstK (K := K) rfl) (by rfl) B.b_list (by decide +kernel) (pa_cons (pe_fldK (K := K) rfl (pe_fldK (K := K) rfl (pv 0) rfl) rfl) pa_nil)))
 (pss_cons (ps_set (i := 3) sc_fewest_calms.nd rfl (Or.inl rfl) (pe_call G__ties_of (hr.mono (by first | decide | omega)) (by rfl) C__ties_of.g C__ties_of.k C__ties_of.b .nil pass0 (pa_cons (pv 2) pa_nil)))
 (pss_cons (ps_for PassesOwn.never rfl (pi_enumT0 (K := K) rfl rfl (by rfl) B.b_enumerate (pa_cons (pe_fldK (K := K) rfl (pv 0) rfl) pa_nil)) (pg_tup rfl (pgs_cons (pg_name (i := 4) sc_fewest_calms.nd rfl (Or.inl rfl)) (pgs_cons (pg_tup rfl (pgs_cons (pg_name (i := 5) sc_fewest_calms.nd rfl (Or.inl rfl)) (pgs_cons (pg_name (i := 6) sc_fewest_calms.nd rfl (Or.inl rfl)) pgs_nil))) pgs_nil))) (C8.pss_cut (ps_if (pt_val (pe_call G__leads_to (hr.mono (by first | decide | omega)) (by rfl) C__leads_to.g C__leads_to.k C__leads_to.b .nil pass0 (pa_cons (pv 3) (pa_cons (pv 6) (pa_cons (pv 5) pa_nil))))) (pss_cons (ps_expr (pe_bmK (K := K) rfl PySem.F.plainAttrs_list PySem.F.slot_list_append PySem.F.type_list_append mt_append (pv 1) (pa_cons (pv 4) pa_nil)))
 (pss_one (ps_set (i := 3) sc_fewest_calms.nd rfl (Or.inl rfl) (pe_call G__ties_of (hr.mono (by first | decide | omega)) (by rfl) C__ties_of.g C__ties_of.k C__ties_of.b .nil pass0 (pa_cons (pv 2) pa_nil))))) pss_nil)
 (pss_cons (ps_expr (pe_bmK (K := K) rfl PySem.F.plainAttrs_list PySem.F.slot_list_append PySem.F.type_list_append mt_append (pe_dget (units1 hr) (pv 3) (pv 5) (fun _ _ => rfl)) (pa_cons (pv 6) pa_nil)))
 (pss_one (ps_asg (pv 6) (pg_sub (pv 2) (pe_op op_sub (pv 5) pe_int) set_list))))))
 (pss_one (ps_ret (pe_callTy (call_tplK (K := K) rfl) (by rfl) B.b_tuple (by decide +kernel) (pa_cons (pv 1) pa_nil)))))))), ?_⟩
    walk_at "h0"
    intro C nC
    have s0 : Same H (upd H C (.lst [])) := same_new (Same.refl _) nC
    have eC : upd H C (.lst []) C = some (.lst []) := upd_same
    generalize upd H C (.lst []) = H1 at s0 eC ⊢
    walk_at "hs"
    refine ⟨x, _, dh, _, _, rfl, s0 _ _ h1, HC.c, HC.nt, rfl, ?_⟩
    walk_at "hs"
    refine ⟨tr, _, dt, _, _, rfl, s0 _ _ h2, T, N, rfl, ?_⟩
    have st1 := s0.seqT st
    walk_at "hs"
    intro A nA
    have s2 : Same H1 (upd H1 A (.lst (nats hs))) := same_new (Same.refl _) nA
    have eA : upd H1 A (.lst (nats hs)) A = some (.lst (nats hs)) := upd_same
    generalize upd H1 A (.lst (nats hs)) = H2 at s2 eA ⊢
    walk_at "hs"
    refine ⟨A, hs, rfl, eA, h40, fun D0 H3 s3 nD0 ta => ?_⟩
    have nAH := s0.free nA
    have s02 := s0.trans s2
    have s03 := s02.trans s3
    have nAC : A ≠ C := Ne.symm (ne_of_none eC nA)
    have eA3 := s3 _ _ eA
    have eC2 := s2 _ _ eC
    have eC3 := s3 _ _ eC2
    have news : ∀ {G : Hp} {p q : HO}, Same H G → G A = some p → G C = some q → ∀ a, G a = none → (H a = none ∧ a ≠ A ∧ a ≠ C) := fun s e1 e2 a n => ⟨s.free n, Ne.symm (ne_of_none e1 n), Ne.symm (ne_of_none e2 n)⟩
    have ts0 := TieQ.new (news s02 eA eC2) nD0 ta
    clear ta nD0 nA
    walk_at "hs"
    refine ⟨x, _, dh, _, _, rfl, s03 _ _ h1, HC.c, HC.nm, rfl, ?_⟩
    refine ⟨u, _, rfl, .of (s03 _ _ h3), ?_⟩
    refine lp_enumT (K := K) (k := 0) (xs := vs) (fun i σ' G => ∃ D x4 x5 x6, σ' = [some (.ref x), some (.ref C), some (.ref A), some (.ref D), x4, x5, x6] ∧ Same H G ∧ G A = some (.lst (nats (final hs (ms.take i)))) ∧ G C = some (.lst (nats (gst (badC hs ms) i).2)) ∧ TieQ (fun a => H a = none ∧ a ≠ A ∧ a ≠ C) G D (tiesAJ hs ms (gst (badC hs ms) i).1 i))
      ⟨D0, _, _, _, rfl, s03, eA3, eC3, by
        show TieQ _ H3 D0 (tiesAJ hs ms 0 0)
        rw [tiesAJ_self]
        exact ts0⟩ (fun i σ' G _ h => by
        obtain ⟨_, _, _, _, _, s4, _⟩ := h
        exact .of (s4 _ _ h3)) ?_ ?_
    · rintro i v σ' G Tn hv ⟨D, x4, x5, x6, rfl, s4, eA4, eC4, ts⟩ nT
      obtain ⟨y, hy, py⟩ := h4.at hv
      obtain ⟨a, rfl, ha⟩ := py.same s4
      have hi := (List.getElem?_eq_some_iff.mp hy).1
      obtain ⟨k1, k2, k3, k4, k5⟩ := ok i y hy
      rw [final_len] at k2 k3
      have I := few_inv it ok i (by omega)
      have gs : gst (badC hs ms) (i + 1) = if badC hs ms (gst (badC hs ms) i).1 i then (i, (gst (badC hs ms) i).2 ++ [i]) else gst (badC hs ms) i := rfl
      generalize hg1 : gst (badC hs ms) (i + 1) = g1 at gs
      generalize gst (badC hs ms) i = g at I gs eC4 ts
      have gl : g.2.length ≤ ms.length := by
        have := nd_len (m := List.range i) (I.asc.imp fun h => Nat.ne_of_lt h) fun c hc => List.mem_range.mpr (I.lt c hc)
        rw [List.length_range] at this
        omega
      have s5 : Same G (upd G Tn (.tup [.int (0 + (i : Nat)), .ref a])) := same_new (Same.refl _) nT
      have eT5 : upd G Tn (.tup [.int (0 + (i : Nat)), .ref a]) Tn = some (.tup [.int (i : Nat), .ref a]) := by rw [upd_same, Int.zero_add]
      generalize upd G Tn (.tup [.int (0 + (i : Nat)), .ref a]) = G5 at s5 eT5 ⊢
      have sTn : SqT K G5 Tn [.int (i : Nat), .ref a] := .of eT5
      have sa : SqT K G5 a [.int (y.1 : Nat), .int (y.2 : Nat)] := .of (s5 _ _ ha)
      have s05 := s4.trans s5
      have eA5 := s5 _ _ eA4
      have eC5 := s5 _ _ eC4
      have ts5 := ts.same s5
      have rn := ring_next ok I.le hy I.nr
      walk_at "hs"
      refine ⟨fun σ2 G2 => ∃ D, σ2 = [some (.ref x), some (.ref C), some (.ref A), some (.ref D), some (.int (i : Nat)), some (.int (y.1 : Nat)), some (.int (y.2 : Nat))] ∧ Same H G2 ∧ G2 A = some (.lst (nats (final hs (ms.take i)))) ∧ G2 C = some (.lst (nats g1.2)) ∧ g1.1 ≤ i ∧ TieQ (fun a => H a = none ∧ a ≠ A ∧ a ≠ C) G2 D (tiesAJ hs ms g1.1 i), ?_, ?_⟩
      · obtain ⟨nD, as, nd, fr, eD, la⟩ := id ts5
        have tl := tiesAJ_len hs ms g.1 i
        have sm := tiesAJ_small it ok g.1 i
        walk_at "hs"
        refine ⟨D, as, _, y.2, y.1, rfl, eD, la, by omega, (fun l hl => by have := sm l hl; omega), tie_le it ok I.le (by omega), by omega, fun G3 r s7 hr => ?_⟩
        have hb : r = badC hs ms g.1 i := by rw [Bool.eq_iff_iff, hr, badC_iff, rn]
        rw [← hb] at gs
        have eA7 := s7 _ _ eA5
        have eC7 := s7 _ _ eC5
        have s07 := s05.trans s7
        cases r with
        | true =>
          rw [if_pos rfl] at gs
          subst gs
          walk_at "hs"
          refine x_append eC7 (szLt (by rw [nats_length]; omega)) ?_
          have e : nats g.2 ++ [V.int (i : Nat)] = nats (g.2 ++ [i]) := by
            rw [nats_append]
            rfl
          rw [e]
          have s8 : Same H (upd G3 C (.lst (nats (g.2 ++ [i])))) := same_mut s07 nC
          have eC8 : upd G3 C (.lst (nats (g.2 ++ [i]))) C = some (.lst (nats (g.2 ++ [i]))) := upd_same
          have eA8 : upd G3 C (.lst (nats (g.2 ++ [i]))) A = some (.lst (nats (final hs (ms.take i)))) := by rw [upd_ne nAC]; exact eA7
          generalize upd G3 C (.lst (nats (g.2 ++ [i]))) = G8 at s8 eC8 eA8 ⊢
          walk_at "hs"
          refine ⟨A, final hs (ms.take i), rfl, eA8, by rw [final_len]; exact h40, fun D2 G9 s9 nD2 ta => ?_⟩
          walk_at "hs"
          refine ⟨D2, rfl, s8.trans s9, s9 _ _ eA8, s9 _ _ eC8, Nat.le_refl _, ?_⟩
          show TieQ _ G9 D2 (tiesAJ hs ms i i)
          rw [tiesAJ_self]
          exact TieQ.new (news s8 eA8 eC8) nD2 ta
        | false =>
          rw [if_neg (by simp)] at gs
          subst gs
          walk_at "hs"
          exact ⟨D, rfl, s07, eA7, eC7, I.le, ts5.same s7⟩
      · clear ts5 eA5 eC5 s05 sa sTn eT5 s5 ts eA4 eC4 s4 rn gs I gl
        rintro σ2 G2 ⟨D2, rfl, s6, eA6, eC6, cle, ts6⟩
        obtain ⟨nD, as, nd, fr, eD, la⟩ := id ts6
        have tl := tiesAJ_len hs ms g1.1 i
        have sm := tiesAJ_small it ok g1.1 i
        have hb : y.1 - 1 < (tiesAJ hs ms g1.1 i).length := by omega
        obtain ⟨b, hb2, eb⟩ := la.get hb
        have nDb : D2 ≠ b := fun z => by rw [← z, eD] at eb; cases eb
        obtain ⟨frb, neb, nec⟩ := fr b (List.mem_of_getElem? hb2)
        have lb := sm _ (List.getElem_mem hb)
        walk_at "hs"
        refine ⟨D2, _, rfl, dgetN (.inl eD) (refs_get hb2) (by omega), ?_⟩
        walk_at "hs"
        refine ⟨b, _, _, rfl, rfl, eb, szLt (by rw [nats_length]; omega), ?_⟩
        have e : nats (tiesAJ hs ms g1.1 i)[y.1 - 1] ++ [V.int (y.2 : Nat)] = nats ((tiesAJ hs ms g1.1 i).getD (y.1 - 1) [] ++ [y.2]) := by
          rw [List.getD_eq_getElem?_getD, List.getElem?_eq_getElem hb, Option.getD_some, nats_append]
          rfl
        rw [e]
        have s8 : Same H (upd G2 b (.lst (nats ((tiesAJ hs ms g1.1 i).getD (y.1 - 1) [] ++ [y.2])))) := same_mut s6 frb
        have eA8 : upd G2 b (.lst (nats ((tiesAJ hs ms g1.1 i).getD (y.1 - 1) [] ++ [y.2]))) A = some (.lst (nats (final hs (ms.take i)))) := by rw [upd_ne (Ne.symm neb)]; exact eA6
        have eC8 : upd G2 b (.lst (nats ((tiesAJ hs ms g1.1 i).getD (y.1 - 1) [] ++ [y.2]))) C = some (.lst (nats g1.2)) := by rw [upd_ne (Ne.symm nec)]; exact eC6
        have ts8 := TieQ.put nD nd fr eD la hb2 nDb (l := (tiesAJ hs ms g1.1 i).getD (y.1 - 1) [] ++ [y.2])
        generalize upd G2 b (.lst (nats ((tiesAJ hs ms g1.1 i).getD (y.1 - 1) [] ++ [y.2]))) = G8 at s8 eA8 eC8 ts8 ⊢
        walk_at "hs"
        refine x_setL eA8 (j := y.1 - 1) (by
          rw [nats_length, final_len]
          unfold ixN
          rw [if_pos (by omega), if_pos (by omega)]
          congr 1
          omega) ?_
        walk_at "hs"
        refine ⟨D2, _, _, _, rfl, same_mut s8 nAH, ?_, ?_, ?_⟩
        · rw [upd_same, final_take hy]
          unfold nats put
          rw [List.map_set]
          rfl
        · rw [upd_ne (Ne.symm nAC)]
          exact eC8
        · rw [tiesAJ_step cle hy]
          exact TieQ.mut ts8 fun z => z.2.1 rfl
    · rintro σ' G ⟨D, x4, x5, x6, rfl, s4, eA4, eC4, ts⟩
      rw [ml] at eC4
      have sC : SqL K G C (nats (gst (badC hs ms) ms.length).2) := .of eC4
      walk_at "hs"
      intro Tt nTt
      exact q _ Tt (s4.trans (same_new (Same.refl _) nTt)) (s4.free nTt) upd_same
end
set_option maxRecDepth 100000
set_option maxHeartbeats 2000000
open PySem PySem.Spec L2


theorem sc__law_tree : FnScope ["_law_hand_here", "_law_many", "_law_left", "_law_places", "_law_found", "_law_block"] ["_law_hand_here", "_law_many"] (defScope s__law_tree) := ⟨rfl, rfl, rfl, by decide +kernel, rfl, by decide +kernel, by decide +kernel⟩
theorem sc__law_row : FnScope ["_law_hung", "_law_place", "_law_found", "_law_here"] ["_law_hung", "_law_place"] (defScope s__law_row) := ⟨rfl, rfl, rfl, by decide +kernel, rfl, by decide +kernel, by decide +kernel⟩
theorem sc__law_beneath : FnScope ["_law_hung", "_law_place", "_law_block"] ["_law_hung", "_law_place"] (defScope s__law_beneath) := ⟨rfl, rfl, rfl, by decide +kernel, rfl, by decide +kernel, by decide +kernel⟩
theorem sc__law_put : FnScope ["_law_hung", "_law_block", "_law_place"] ["_law_hung", "_law_block", "_law_place"] (defScope s__law_put) := ⟨rfl, rfl, rfl, by decide +kernel, rfl, by decide +kernel, by decide +kernel⟩
/-- what hangs beneath a block, itself with it -/
def inner (hs : List Nat) (b : Nat) : List Nat := (List.range' 1 hs.length).filter fun c => decide (b ∈ c :: way hs c)
theorem inner_mem {hs : List Nat} {b p : Nat} (hp : p ≤ hs.length) (hb : 1 ≤ b) : p ∈ inner hs b ↔ (p = b ∨ b ∈ way hs p) := by
  unfold inner
  rw [List.mem_filter, List.mem_range'_1, decide_eq_true_eq, List.mem_cons]
  constructor
  · rintro ⟨_, h | h⟩
    · exact .inl h.symm
    · exact .inr h
  · intro h
    refine ⟨⟨?_, by omega⟩, h.imp Eq.symm id⟩
    rcases h with rfl | h
    · exact hb
    · refine Nat.one_le_iff_ne_zero.mpr fun e => ?_
      subst e
      obtain ⟨j, _, nz, _⟩ := (way_mem hs b _ _).mp h
      exact nz (upN_zero hs j)
section
variable {P : Program} {w : World} {K : PySem.W.Frag} {mg : Str → Option Value} {base : Heap} {Z : Ad}
def spHungW : Sp := fun vs H Q _ => ∃ (p : Addr) (n : Nat) (F : Addr → Prop), vs = [.ref p, .int n] ∧ PoolAt H p F ∧ 1 ≤ n ∧ n ≤ 40 ∧ ∀ (D : Addr) (hs : List Nat) H', IsTree hs → hs.length = n → But p H H' → PoolAt H' p F → H' D = some (.tup (nats hs)) → Q (.ref D) H'
theorem ok_wtree {f : Addr} {fd : FuncData} (F : Fun K "_law_tree" "_law_tree" s__law_tree f fd) (B : Bl Z mg) {f__law_draw : Addr} {fd__law_draw : FuncData} (C__law_draw : Cal K mg "_law_draw" f__law_draw fd__law_draw ["_law_hand_here", "_law_many"]) (G__law_draw : FnOk P w K mg base CX0 1 f__law_draw fd__law_draw ["_law_hand_here", "_law_many"] spDraw) : FnOk P w K mg base CX0 2 f fd ["_law_hand_here", "_law_many"] spHungW := by
  refine F.ok sc__law_tree (fun vs H Q E h => ?_) (fun cdv A outer s H vs Q E hr h => ?_)
  · obtain ⟨p, n, Fo, rfl, _⟩ := h
    rfl
  · obtain ⟨p, n, Fo, rfl, hp, n1, n2, q⟩ := h
    refine ⟨_, (pss_cons (ps_set (i := 2) sc__law_tree.nd rfl (Or.inl rfl) (pe_listRg rfl (by rfl) B.b_list (prg_2 (by rfl) B.b_range pe_int (pe_op op_add (pv 1) pe_int))))
 (pss_cons (ps_set (i := 3) sc__law_tree.nd rfl (Or.inl rfl) (pe_lst (pa_cons pe_int pa_nil)))
 (pss_cons (ps_set (i := 4) sc__law_tree.nd rfl (Or.inl rfl) (pe_op op_rep (pe_lst (pa_cons pe_int pa_nil)) (pv 1)))
 (pss_cons (ps_while PassesOwn.never (pt_cmpR op_gt (pe_callB (call_lenK (K := K) rfl) (by rfl) B.b_len PySem.boot_len (pa_cons (pv 2) pa_nil)) pe_int (nomark _)) (pss_cons (ps_set (i := 5) sc__law_tree.nd rfl (Or.inl rfl) (pe_bmK (K := K) rfl PySem.F.plainAttrs_list PySem.F.slot_list_pop PySem.F.type_list_pop mt_popAt (pv 2) (pa_cons (pe_call G__law_draw (hr.mono (by first | decide | omega)) (by rfl) C__law_draw.g C__law_draw.k C__law_draw.b .nil pass0 (pa_cons (pv 0) (pa_cons (pe_callB (call_lenK (K := K) rfl) (by rfl) B.b_len PySem.boot_len (pa_cons (pv 2) pa_nil)) pa_nil))) pa_nil)))
 (pss_cons (ps_asg (pe_ix (ix_listK (K := K) rfl) (pv 3) (pe_call G__law_draw (hr.mono (by first | decide | omega)) (by rfl) C__law_draw.g C__law_draw.k C__law_draw.b .nil pass0 (pa_cons (pv 0) (pa_cons (pe_callB (call_lenK (K := K) rfl) (by rfl) B.b_len PySem.boot_len (pa_cons (pv 3) pa_nil)) pa_nil))) (fun _ _ => rfl)) (pg_sub (pv 4) (pe_op op_sub (pv 5) pe_int) set_list))
 (pss_one (ps_expr (pe_bmK (K := K) rfl PySem.F.plainAttrs_list PySem.F.slot_list_append PySem.F.type_list_append mt_append (pv 3) (pa_cons (pv 5) pa_nil)))))))
 (pss_one (ps_ret (pe_callTy (call_tplK (K := K) rfl) (by rfl) B.b_tuple (by decide +kernel) (pa_cons (pv 4) pa_nil)))))))), ?_⟩
    walk_at "h0"
    refine ⟨⟨by omega, by omega, by omega, by omega, by omega⟩, fun L hL => ?_⟩
    rw [rgV_nats]
    walk_at "hs"
    intro O hO
    walk_at "hs"
    intro l1 hl1
    walk_at "hs"
    refine x_rep1 upd_same (by omega) fun R hR => ?_
    rw [nats_rep]
    walk_at "hs"
    have pL := hp.own (o := .lst (nats (List.range' 1 n))) hL
    have pO := pL.own (o := .lst [.int 0]) hO
    have pl := pO.newH (o := .lst [.int 0]) hl1
    have pR := pl.own (o := .lst (nats (List.replicate n 0))) hR
    have nO : O ≠ L := Ne.symm (ne_of_none upd_same hO)
    have eL0 : upd (upd (upd (upd H L (.lst (nats (List.range' 1 n)))) O (.lst [.int 0])) l1 (.lst [.int 0])) R (.lst (nats (List.replicate n 0))) L = some (.lst (nats (List.range' 1 n))) := keepN (keepN (keepN upd_same hO) hl1) hR
    have eO0 : upd (upd (upd (upd H L (.lst (nats (List.range' 1 n)))) O (.lst [.int 0])) l1 (.lst [.int 0])) R (.lst (nats (List.replicate n 0))) O = some (.lst (nats [0])) := keepN (keepN upd_same hl1) hR
    have RL : R ≠ L := Ne.symm (ne_of_none (keepN (keepN upd_same hO) hl1) hR)
    have RO : R ≠ O := Ne.symm (ne_of_none (keepN upd_same hl1) hR)
    have fL : H L = none := hL
    have fO : H O = none := Same.free (H' := upd H L _) (same_new (Same.refl _) hL) hO
    have fl1 : H l1 = none := Same.free (same_new (same_new (Same.refl _) hL) hO) hl1
    have fR : H R = none := Same.free (same_new (same_new (same_new (Same.refl _) hL) hO) hl1) hR
    have b0 : But p H (upd (upd (upd (upd H L (.lst (nats (List.range' 1 n)))) O (.lst [.int 0])) l1 (.lst [.int 0])) R (.lst (nats (List.replicate n 0)))) := ((((But.refl p H).new hL).new hO).new hl1).new hR
    have eR0 := upd_same (H := upd (upd (upd H L (.lst (nats (List.range' 1 n)))) O (.lst [.int 0])) l1 (.lst [.int 0])) (a := R) (o := .lst (nats (List.replicate n 0)))
    generalize upd (upd (upd (upd H L (.lst (nats (List.range' 1 n)))) O (.lst [.int 0])) l1 (.lst [.int 0])) R (.lst (nats (List.replicate n 0))) = H0 at *
    refine ⟨fun mu σ' H' => (∃ x5, σ' = [some (.ref p), some (.int n), some (.ref L), some (.ref O), some (.ref R), x5]) ∧ ∃ ls ms fs : List Nat, mu = ls.length ∧ (ms ++ ls).Perm (List.range' 1 n) ∧ fs.length = n ∧ But p H H' ∧ PoolAt H' p (fun a => a = R ∨ a = O ∨ a = L ∨ Fo a) ∧ H' L = some (.lst (nats ls)) ∧ H' O = some (.lst (nats (0 :: ms))) ∧ H' R = some (.lst (nats fs)) ∧ ∀ (i' x : Nat), ms[i']? = some x → ∃ j y : Nat, j ≤ i' ∧ (0 :: ms)[j]? = some y ∧ fs[x - 1]? = some y,
      ⟨n, ⟨_, rfl⟩, List.range' 1 n, [], List.replicate n 0, by rw [List.length_range'], List.Perm.refl _, List.length_replicate, b0, pR, eL0, eO0, eR0, fun i' x h => by cases h⟩, ?_⟩
    rintro mu σ' H' ⟨⟨x5, rfl⟩, ls, ms, fs, rfl, hpm, hfs, b2, p2, eL, eO, eR, hd⟩
    have hlen : ms.length + ls.length = n := by rw [← List.length_append, hpm.length_eq, List.length_range']
    have sL : SqL K H' L (nats ls) := .of eL
    walk_at "hs"
    rw [nats_length]
    refine x_isd (fun c => ?_) (fun c => ?_)
    · refine ⟨fun σ' H2 => (∃ x5, σ' = [some (.ref p), some (.int n), some (.ref L), some (.ref O), some (.ref R), x5]) ∧ ∃ ks ms fs : List Nat, ks.length < ls.length ∧ (ms ++ ks).Perm (List.range' 1 n) ∧ fs.length = n ∧ But p H H2 ∧ PoolAt H2 p (fun a => a = R ∨ a = O ∨ a = L ∨ Fo a) ∧ H2 L = some (.lst (nats ks)) ∧ H2 O = some (.lst (nats (0 :: ms))) ∧ H2 R = some (.lst (nats fs)) ∧ ∀ (i' x : Nat), ms[i']? = some x → ∃ j y : Nat, j ≤ i' ∧ (0 :: ms)[j]? = some y ∧ fs[x - 1]? = some y,
        fun σ' H2 hN => ?_, ?_⟩
      · obtain ⟨hσ, ks, ms, fs, h1, h2⟩ := hN
        exact ⟨ks.length, h1, hσ, ks, ms, fs, rfl, h2⟩
      walk_at "hs"
      rw [nats_length]
      refine ⟨p, _, _, rfl, p2, by omega, by omega, fun d H2 d0 d1 b3 p3 => ?_⟩
      obtain ⟨k, rfl⟩ := Int.eq_ofNat_of_zero_le d0
      have hk : k < ls.length := by omega
      have eL2 := b3 _ _ (p2.neF (.inr (.inr (.inl rfl)))) eL
      have eO2 := b3 _ _ (p2.neF (.inr (.inl rfl))) eO
      have eR2 := b3 _ _ (p2.neF (.inl rfl)) eR
      walk_at "hs"
      refine x_popAt eL2 (by omega) (by omega) (ixN_nat (by rw [nats_length]; exact hk)) (nats_get (List.getElem?_eq_getElem hk)) ?_
      have eO3 : upd H2 L (.lst ((nats ls).eraseIdx k)) O = some (.lst (nats (0 :: ms))) := keepM nO eO2
      have eR3 : upd H2 L (.lst ((nats ls).eraseIdx k)) R = some (.lst (nats fs)) := keepM RL eR2
      have p4 := p3.mut (o := .lst ((nats ls).eraseIdx k)) (.inr (.inr (.inl rfl)))
      have b4 : But p H (upd H2 L (.lst ((nats ls).eraseIdx k))) := (b2.trans b3).mutF fL
      have eL3 : upd H2 L (.lst ((nats ls).eraseIdx k)) L = some (.lst (nats (ls.eraseIdx k))) := by rw [upd_same, nats_erase]
      have hxm : 1 ≤ ls[k] ∧ ls[k] ≤ n := by
        have := List.mem_range'_1.mp (hpm.mem_iff.mp (List.mem_append.mpr (.inr (List.getElem_mem hk))))
        omega
      generalize upd H2 L (.lst ((nats ls).eraseIdx k)) = H3 at *
      have nl : (nats (0 :: ms)).length = ms.length + 1 := by rw [nats_length, List.length_cons]
      have sO3 : SqL K H3 O (nats (0 :: ms)) := .of eO3
      walk_at "hs"
      rw [nl]
      refine ⟨p, _, _, rfl, p4, by omega, by omega, fun d2 H5 d20 d21 b6 p6 => ?_⟩
      obtain ⟨k2, rfl⟩ := Int.eq_ofNat_of_zero_le d20
      have k2l : k2 < (0 :: ms).length := by rw [List.length_cons]; omega
      have eO5 := b6 _ _ (p4.neF (.inr (.inl rfl))) eO3
      have eL5 := b6 _ _ (p4.neF (.inr (.inr (.inl rfl)))) eL3
      have eR5 := b6 _ _ (p4.neF (.inl rfl)) eR3
      have sO5 : SqL K H5 O (nats (0 :: ms)) := .of eO5
      have at5 : atI (nats (0 :: ms)) (k2 : Int) = some (.int ((0 :: ms)[k2] : Nat)) := atI_nat (nats_get (List.getElem?_eq_getElem k2l))
      have at6 : ixN (nats fs).length ((ls[k] : Nat) - 1 : Int) = some (ls[k] - 1) := by
        rw [show ((ls[k] : Nat) - 1 : Int) = ((ls[k] - 1 : Nat) : Int) by omega]
        exact ixN_nat (by rw [nats_length]; omega)
      walk_at "hs"
      refine x_append (keepM (Ne.symm RO) eO5) (by rw [nats_length, List.length_cons]; exact szLt (by omega)) ?_
      walk_at "hs"
      have f5 : But p H H5 := b4.trans b6
      refine ⟨⟨_, rfl⟩, ls.eraseIdx k, ms ++ [ls[k]], fs.set (ls[k] - 1) (0 :: ms)[k2], ?_, ?_, by rw [List.length_set]; exact hfs, (f5.mutF fR).mutF fO, (p6.mut (.inl rfl)).mut (.inr (.inl rfl)), ?_, ?_, ?_, fun i' x hx => ?_⟩
      · rw [List.length_eraseIdx_of_lt hk]
        omega
      · rw [List.append_assoc]
        exact ((perm_erase (List.getElem?_eq_getElem hk)).append_left ms).trans hpm
      · rw [upd_ne (Ne.symm nO), upd_ne (Ne.symm RL)]
        exact eL5
      · rw [upd_same, show nats (0 :: (ms ++ [ls[k]])) = nats (0 :: ms) ++ nats [ls[k]] from nats_append (0 :: ms) [ls[k]]]
        rfl
      · rw [upd_ne RO, upd_same, nats_set]
      · rcases Nat.lt_or_ge i' ms.length with h | h
        · rw [List.getElem?_append_left h] at hx
          obtain ⟨j, y, hj, hy, hf⟩ := hd i' x hx
          refine ⟨j, y, hj, by rw [← List.cons_append, List.getElem?_append_left (by rw [List.length_cons]; omega)]; exact hy, ?_⟩
          have hne : ls[k] - 1 ≠ x - 1 := fun e2 => by
            have hxm' := List.mem_range'_1.mp (hpm.mem_iff.mp (List.mem_append.mpr (.inl (List.mem_of_getElem? hx))))
            have nd : (ms ++ ls).Nodup := hpm.nodup_iff.mpr (List.nodup_range' ..)
            have e3 : x = ls[k] := by omega
            exact (List.nodup_append.mp nd).2.2 x (List.mem_of_getElem? hx) ls[k] (List.getElem_mem hk) e3
          rw [List.getElem?_set_ne hne]
          exact hf
        · rw [List.getElem?_append_right h] at hx
          have hk0 : i' - ms.length = 0 := by
            have := (List.getElem?_eq_some_iff.mp hx).1
            rw [List.length_singleton] at this
            omega
          rw [hk0] at hx
          have ex : ls[k] = x := Option.some.inj hx
          subst ex
          rw [List.length_cons] at k2l
          refine ⟨k2, (0 :: ms)[k2], by omega, by rw [← List.cons_append, List.getElem?_append_left (by rw [List.length_cons]; omega)]; exact List.getElem?_eq_getElem _, by rw [List.getElem?_set_self (by omega)]⟩
    · have e : ls = [] := List.length_eq_zero_iff.mp (by omega)
      rw [e, List.append_nil] at hpm
      have htree : IsTree fs := Drawn.tree ⟨ms, by rw [hfs]; exact hpm, hd⟩ (by omega) (by omega)
      have sR : SqL K H' R (nats fs) := .of eR
      walk_at "hs"
      intro D hD
      exact q D fs _ htree hfs (b2.new hD) ((p2.newH hD).weak fun a h => .inr (.inr (.inr h))) upd_same
def spRow (K : PySem.W.Frag) : Sp := fun vs H Q _ => ∃ (t : Addr) (hs : List Nat) (k : Nat), vs = [.ref t, .int k] ∧ H t = some (.tup (nats hs)) ∧ IsTree hs ∧ k ≤ hs.length ∧ ∀ D H', Same H H' → H D = none → H' D = some (.lst (nats (way hs k))) → Q (.ref D) H'
theorem ok_row {f : Addr} {fd : FuncData} (F : Fun K "_law_row" "_law_row" s__law_row f fd) (B : Bl Z mg) : FnOk P w K mg base CX0 1 f fd ["_law_hung", "_law_place"] (spRow K) := by
  refine F.ok sc__law_row (fun vs H Q E h => ?_) (fun cdv A outer s H vs Q E hr h => ?_)
  · obtain ⟨t, hs, k, rfl, _⟩ := h
    rfl
  · obtain ⟨t, hs, k, rfl, ht, it, hk, q⟩ := h
    refine ⟨_, (pss_cons (ps_set (i := 2) sc__law_row.nd rfl (Or.inl rfl) (pe_lst pa_nil))
 (pss_cons (ps_set (i := 3) sc__law_row.nd rfl (Or.inl rfl) (pv 1))
 (pss_cons (ps_while PassesOwn.never (pt_cmpR op_ne (pv 3) pe_int (nomark _)) (pss_cons (ps_set (i := 3) sc__law_row.nd rfl (Or.inl rfl) (pe_ix (ix_tupK (K := K) rfl) (pv 0) (pe_op op_sub (pv 3) pe_int) (fun _ _ => rfl)))
 (pss_one (ps_expr (pe_bmK (K := K) rfl PySem.F.plainAttrs_list PySem.F.slot_list_append PySem.F.type_list_append mt_append (pv 2) (pa_cons (pv 3) pa_nil))))))
 (pss_one (ps_ret (pv 2)))))), ?_⟩
    walk_at "h0"
    intro D hD
    walk_at "hs"
    refine ⟨fun m σ' H' => ∃ n : Nat, n + m = hs.length + 1 ∧ (∀ j, j < n → upN hs j k ≠ 0) ∧ σ' = [some (.ref t), some (.int k), some (.ref D), some (.int (upN hs n k : Nat))] ∧ Same H H' ∧ H' D = some (.lst (nats ((List.range n).map fun i => upN hs (i + 1) k))), ⟨hs.length + 1, 0, by omega, fun j hj => absurd hj (Nat.not_lt_zero _), rfl, same_new (Same.refl _) hD, upd_same⟩, ?_⟩
    rintro m σ' H' ⟨n, hn, hz, rfl, s1, eD⟩
    walk_at "hs"
    refine x_isd (fun c => ?_) (fun c => ?_)
    · have c' : upN hs n k ≠ 0 := fun e => c (by rw [e]; rfl)
      have hlt : n < hs.length := by
        refine Nat.lt_of_not_le fun hle => c' ?_
        exact upN_more (it.comes k hk) hle
      have hup := upN_le it.le n k hk
      have hat : atI (nats hs) ((upN hs n k : Nat) - 1 : Int) = some (.int (upN hs (n + 1) k : Nat)) := by
        rw [show ((upN hs n k : Nat) - 1 : Int) = ((upN hs n k - 1 : Nat) : Int) by omega, upN_succ]
        exact nats_at (up_get (by omega) hup)
      have st : SqT K H' t (nats hs) := .of (s1 _ _ ht)
      refine ⟨fun σ' H2 => σ' = [some (.ref t), some (.int k), some (.ref D), some (.int (upN hs (n + 1) k : Nat))] ∧ Same H H2 ∧ H2 D = some (.lst (nats ((List.range (n + 1)).map fun i => upN hs (i + 1) k))), fun σ' H2 hN => ⟨m - 1, by omega, n + 1, by omega, fun j hj => ?_, hN.1, hN.2.1, hN.2.2⟩, ?_⟩
      · by_cases e : j = n
        · rw [e]
          exact c'
        · exact hz j (by omega)
      · walk_at "hs"
        have := it.most
        refine x_append eD (by rw [nats_length, List.length_map, List.length_range]; exact szLt (by omega)) ?_
        walk_at "hs"
        refine ⟨rfl, same_mut s1 hD, ?_⟩
        rw [upd_same, List.range_succ, List.map_append, nats_append]
        rfl
    · have c' : upN hs n k = 0 := by
        refine Decidable.byContradiction fun e => c fun e' => e ?_
        omega
      have hle : n ≤ hs.length := by
        refine Nat.le_of_not_lt fun h => hz hs.length h (it.comes k hk)
      walk_at "hs"
      refine q D _ s1 hD ?_
      rw [eD, way, wayN_eq hs hs.length k n hz c' hle]
end
set_option maxRecDepth 100000
set_option maxHeartbeats 2000000
open PySem PySem.Spec L2


section
variable {P : Program} {w : World} {K : PySem.W.Frag} {mg : Str → Option Value} {base : Heap} {Z : Ad}
def spInner (K : PySem.W.Frag) : Sp := fun vs H Q _ => ∃ (t : Addr) (hs : List Nat) (b : Nat), vs = [.ref t, .int b] ∧ H t = some (.tup (nats hs)) ∧ IsTree hs ∧ 1 ≤ b ∧ b ≤ hs.length ∧ ∀ D H', Same H H' → H D = none → H' D = some (.lst (nats (inner hs b))) → Q (.ref D) H'
theorem ok_inner {f : Addr} {fd : FuncData} (F : Fun K "_law_beneath" "_law_beneath" s__law_beneath f fd) (B : Bl Z mg) {f__law_row : Addr} {fd__law_row : FuncData} (C__law_row : Cal K mg "_law_row" f__law_row fd__law_row ["_law_hung", "_law_place"]) (G__law_row : FnOk P w K mg base CX0 1 f__law_row fd__law_row ["_law_hung", "_law_place"] (spRow K)) : FnOk P w K mg base CX0 2 f fd ["_law_hung", "_law_place"] (spInner K) := by
  refine F.ok sc__law_beneath (fun vs H Q E h => ?_) (fun cdv A outer s H vs Q E hr h => ?_)
  · obtain ⟨t, hs, b, rfl, _⟩ := h
    rfl
  · obtain ⟨t, hs, b, rfl, ht, it, b1, b2, q⟩ := h
    refine ⟨_, (pss_one (ps_ret (pe_op op_cat (pe_lc (own := [("_law_block", 2)]) rfl sc__law_beneath.nd (pi_range2 rfl B.b_range (pa_cons pe_int (pa_cons (pe_op op_add (pe_callB (call_lenK (K := K) rfl) (by rfl) B.b_len PySem.boot_len (pa_cons (pv 0) pa_nil)) pe_int) pa_nil))) (blkOk_by (N := ["_law_hung", "_law_place", "_law_block"]) (sc := defScope s__law_beneath) (by decide +kernel)) (fun _ _ _ _ _ => (pg_name (i := 2) sc__law_beneath.nd rfl (Or.inl rfl))) (fun _ _ _ _ _ => (pts_one (pt_cmpR (op_inK (K := K) rfl) (pv 1) (pe_op op_cat (pe_lst (pa_cons (pv 2) pa_nil)) (pe_call G__law_row (hr.mono (by first | decide | omega)) (by rfl) C__law_row.g C__law_row.k C__law_row.b .nil pass0 (pa_cons (pv 0) (pa_cons (pv 2) pa_nil)))) (by rfl)))) (fun _ _ _ _ _ => (pv 2))) (pe_op op_rep (pe_lst (pa_cons pe_int pa_nil)) (pe_callTy call_int (by rfl) B.b_int (by decide +kernel) (pa_cons (pe_cmpR op_eq (pv 1) pe_int (nomark _)) pa_nil)))))), ?_⟩
    have h40 := it.most
    have st0 : SqT K H t (nats hs) := .of ht
    walk_at "h0"
    rw [nats_length]
    refine ⟨1, (hs.length : Int) + 1, rfl, ⟨by omega, by omega, by omega, by omega⟩, fun D hD => ?_⟩
    refine lc_range (lo := 1) (n := Int.toNat ((hs.length : Int) + 1 - 1)) (fun i G => Same H G ∧ G D = some (.lst (nats ((List.range' 1 i).filter fun c => decide (b ∈ c :: way hs c))))) ⟨same_new (Same.refl _) hD, upd_same⟩ ?_ ?_
    · rintro i G hi ⟨s1, eD⟩
      have hi' : i < hs.length := by omega
      walk_at "hs"
      refine ⟨rfl, ?_⟩
      have hz : (1 : Int) + (i : Int) = ((i + 1 : Nat) : Int) := by omega
      rw [hz]
      walk_at "hs"
      intro a1 n1
      have s2 : Same G (upd G a1 (.lst [.int ((i + 1 : Nat) : Int)])) := same_new (Same.refl _) n1
      have e1 : upd G a1 (.lst [.int ((i + 1 : Nat) : Int)]) a1 = some (.lst [.int ((i + 1 : Nat) : Int)]) := upd_same
      generalize upd G a1 (.lst [.int ((i + 1 : Nat) : Int)]) = G1 at s2 e1 ⊢
      walk_at "hs"
      refine ⟨t, hs, i + 1, rfl, s2 _ _ (s1 _ _ ht), it, by omega, fun D2 G2 s3 n2 e2 => ?_⟩
      have lw : (way hs (i + 1)).length ≤ 40 := Nat.le_trans (wayN_len _ _ _) h40
      refine x_cat (s3 _ _ e1) e2 (szLe (by rw [nats_length]; show 1 + _ ≤ _; omega)) fun E hE => ?_
      have s4 : Same G (upd G2 E (.lst ([V.int ((i + 1 : Nat) : Int)] ++ nats (way hs (i + 1))))) := (s2.trans s3).trans (same_new (Same.refl _) hE)
      have eE := upd_same (H := G2) (a := E) (o := .lst ([V.int ((i + 1 : Nat) : Int)] ++ nats (way hs (i + 1))))
      generalize upd G2 E _ = G4 at s4 eE ⊢
      have eE' : G4 E = some (.lst (nats ((i + 1) :: way hs (i + 1)))) := eE
      refine x_inNL (.of eE') ?_
      walk_at "hs"
      have hl : ((List.range' 1 i).filter fun c => decide (b ∈ c :: way hs c)).length ≤ i := filter_len _ _
      have sn := filter_snoc (fun c => decide (b ∈ c :: way hs c)) i
      refine x_isd (fun c => ?_) (fun c => ?_)
      · walk_at "hs"
        refine ⟨_, s4 _ _ eD, szLt (by rw [nats_length]; omega), same_mut (s1.trans s4) hD, ?_⟩
        rw [upd_same, sn, if_pos (decide_eq_true c), nats_append]
        rfl
      · refine ⟨s1.trans s4, ?_⟩
        rw [sn, if_neg (by rw [decide_eq_true_eq]; exact c), List.append_nil]
        exact s4 _ _ eD
    · rintro G ⟨s1, eD⟩
      have en : Int.toNat ((hs.length : Int) + 1 - 1) = hs.length := by omega
      rw [en] at eD
      walk_at "hs"
      intro a1 n1
      have s2 : Same G (upd G a1 (.lst [.int 0])) := same_new (Same.refl _) n1
      have e1 : upd G a1 (.lst [.int 0]) a1 = some (.lst [.int 0]) := upd_same
      generalize upd G a1 (.lst [.int 0]) = G1 at s2 e1 ⊢
      walk_at "hs"
      refine .inr ⟨_, rfl, ?_⟩
      have e0 : (if decide ((b : Int) = 0) = true then (1 : Int) else 0) = ((0 : Nat) : Int) := by
        rw [decide_eq_false (by omega)]
        rfl
      rw [e0]
      walk_at "hs"
      refine x_rep1 e1 (by decide) fun R hR => ?_
      walk_at "hs"
      have hl : (inner hs b).length ≤ hs.length := filter_len _ _
      refine x_cat (keepN (s2 _ _ eD) hR) upd_same (szLe (by rw [nats_length]; have : (List.replicate 0 (V.int 0)).length = 0 := rfl; have hl2 : ((List.range' 1 hs.length).filter fun c => decide (b ∈ c :: way hs c)).length ≤ hs.length := filter_len _ _; omega)) fun E hE => ?_
      walk_at "hs"
      have s3 := (s1.trans s2).trans (same_new (Same.refl _) hR (o := .lst (List.replicate 0 (V.int 0))))
      refine q E _ (s3.trans (same_new (Same.refl _) hE)) (s3.free hE) ?_
      rw [upd_same]
      show some (HO.lst (nats _ ++ [])) = _
      rw [List.append_nil]
      rfl
def spPutT : Sp := fun vs H Q _ => ∃ (t : Addr) (hs : List Nat) (b p : Nat), vs = [.ref t, .int b, .int p] ∧ H t = some (.tup (nats hs)) ∧ 1 ≤ b ∧ b ≤ hs.length ∧ hs.length ≤ 40 ∧ ∀ D H', Same H H' → H' D = some (.tup (nats (put hs b p))) → Q (.ref D) H'
theorem ok_putT {f : Addr} {fd : FuncData} (F : Fun K "_law_put" "_law_put" s__law_put f fd) (B : Bl Z mg) : FnOk P w K mg base CX0 1 f fd ["_law_hung", "_law_block", "_law_place"] spPutT := by
  refine F.ok sc__law_put (fun vs H Q E h => ?_) (fun cdv A outer s H vs Q E hr h => ?_)
  · obtain ⟨t, hs, b, p, rfl, _⟩ := h
    rfl
  · obtain ⟨t, hs, b, p, rfl, ht, b1, b2, h40, q⟩ := h
    refine ⟨_, (pss_one (ps_ret (pe_op (op_catAK (K := K) rfl) (pe_op (op_catAK (K := K) rfl) (pe_slice (sl_tupAK (K := K) rfl) (pv 0) po_none (po_some (pe_op op_sub (pv 1) pe_int))) (pe_tup (pa_cons (pv 2) pa_nil))) (pe_slice (sl_tupAK (K := K) rfl) (pv 0) (po_some (pv 1)) po_none)))), ?_⟩
    have nl := nats_length hs
    walk_at "h0"
    refine x_slA ht fun D2 H2 s2 e2 => ?_
    rw [show ((b : Int) - 1) = ((b - 1 : Nat) : Int) by omega, cut_take] at e2
    walk_at "hs"
    intro p1 n1
    walk_at "hs"
    refine x_catA (keepN e2 n1) upd_same (by rw [List.length_take, List.length_cons, List.length_nil]; omega) fun D3 H3 s3 e3 => ?_
    have s13 : Same H H3 := fun a o e => s3 _ _ (keepN (s2 _ _ e) n1)
    walk_at "hs"
    refine x_slA (s13 _ _ ht) fun D4 H4 s4 e4 => ?_
    rw [cut_drop] at e4
    refine x_catA (s4 _ _ e3) e4 (by rw [List.length_append, List.length_take, List.length_drop, List.length_cons, List.length_nil]; omega) fun D5 H5 s5 e5 => ?_
    rw [put_cut b1 b2] at e5
    walk_at "hs"
    exact q D5 H5 ((s13.trans s4).trans s5) e5
end
set_option maxRecDepth 100000
set_option maxHeartbeats 2000000
open PySem PySem.Spec L2


theorem sc__law_moves : FnScope ["_law_hand_here", "_law_hung", "_law_many", "_law_moves_here", "_law_elder", "_law_turn", "_law_block", "_law_inner", "_law_places", "_law_place"] ["_law_hand_here", "_law_hung", "_law_many"] (defScope s__law_moves) := ⟨rfl, rfl, rfl, by decide +kernel, rfl, by decide +kernel, by decide +kernel⟩
theorem PoolAt.notTup {H : Hp} {p : Addr} {F : Addr → Prop} (h : PoolAt H p F) : ∀ xs, H p ≠ some (.tup xs) := fun xs e => by
  obtain ⟨ys, e2⟩ := h.lst
  rw [e] at e2
  cases e2
theorem PrV.but {H H' : Hp} {p : Addr} {v : V} {x : Nat × Nat} (b : But p H H') (n : ∀ xs, H p ≠ some (.tup xs)) (h : PrV H v x) : PrV H' v x := by
  obtain ⟨t, e, ht⟩ := h
  exact ⟨t, e, b _ _ (fun z => n _ (z ▸ ht)) ht⟩
theorem PrsV.but {H H' : Hp} {p : Addr} {vs : List V} {xs : List (Nat × Nat)} (b : But p H H') (n : ∀ xs, H p ≠ some (.tup xs)) (h : PrsV H vs xs) : PrsV H' vs xs := h.imp fun _ _ k => k.but b n
/-- the places to which a block may be moved -/
def frees (hs : List Nat) (b : Nat) : List Nat := (List.range (hs.length + 1)).filter fun p => !decide (p ∈ inner hs b)
theorem zero_free (hs : List Nat) (b : Nat) : 0 ∈ frees hs b := by
  unfold frees
  rw [List.mem_filter, List.mem_range]
  refine ⟨by omega, ?_⟩
  rw [Bool.not_eq_true', decide_eq_false_iff_not]
  unfold inner
  rw [List.mem_filter, List.mem_range'_1]
  exact fun h => absurd h.1.1 (by decide)
theorem frees_ok {hs : List Nat} {b p : Nat} (b1 : 1 ≤ b) (b2 : b ≤ hs.length) (h : p ∈ frees hs b) : okPr hs (b, p) := by
  unfold frees at h
  rw [List.mem_filter, List.mem_range, Bool.not_eq_true', decide_eq_false_iff_not] at h
  have hp : p ≤ hs.length := by omega
  have h2 := fun z => h.2 ((inner_mem hp b1).mpr z)
  exact ⟨b1, b2, hp, fun e => h2 (.inl e), fun e => h2 (.inr e)⟩
theorem frees_len (hs : List Nat) (b : Nat) : (frees hs b).length ≤ hs.length + 1 := by
  unfold frees
  exact Nat.le_trans (List.length_filter_le _ _) (by rw [List.length_range]; exact Nat.le_refl _)
section
variable {P : Program} {w : World} {K : PySem.W.Frag} {mg : Str → Option Value} {base : Heap} {Z : Ad}
def spMovs : Sp := fun vs H Q _ => ∃ (p t : Addr) (hs : List Nat) (k : Int) (F : Addr → Prop), vs = [.ref p, .ref t, .int k] ∧ PoolAt H p F ∧ H t = some (.tup (nats hs)) ∧ IsTree hs ∧ 0 ≤ k ∧ k ≤ 80 ∧
  ∀ (m u g : Addr) (us : List V) (ms : List (Nat × Nat)) H', (ms.length : Int) = k → OkAll hs ms → But p H H' → PoolAt H' p F → H' m = some (.tup [.ref u, .ref g]) → H' u = some (.tup us) → PrsV H' us ms → H' g = some (.tup (nats (final hs ms))) → Q (.ref m) H'
theorem ok_movs {f : Addr} {fd : FuncData} (F : Fun K "_law_moves" "_law_moves" s__law_moves f fd) (B : Bl Z mg) {f__law_draw : Addr} {fd__law_draw : FuncData} (C__law_draw : Cal K mg "_law_draw" f__law_draw fd__law_draw ["_law_hand_here", "_law_many"]) (G__law_draw : FnOk P w K mg base CX0 1 f__law_draw fd__law_draw ["_law_hand_here", "_law_many"] spDraw) {f__law_beneath : Addr} {fd__law_beneath : FuncData} (C__law_beneath : Cal K mg "_law_beneath" f__law_beneath fd__law_beneath ["_law_hung", "_law_place"]) (G__law_beneath : FnOk P w K mg base CX0 2 f__law_beneath fd__law_beneath ["_law_hung", "_law_place"] (spInner K)) {f__law_put : Addr} {fd__law_put : FuncData} (C__law_put : Cal K mg "_law_put" f__law_put fd__law_put ["_law_hung", "_law_block", "_law_place"]) (G__law_put : FnOk P w K mg base CX0 1 f__law_put fd__law_put ["_law_hung", "_law_block", "_law_place"] spPutT) : FnOk P w K mg base CX0 3 f fd ["_law_hand_here", "_law_hung", "_law_many"] spMovs := by
  refine F.ok sc__law_moves (fun vs H Q E h => ?_) (fun cdv A outer s H vs Q E hr h => ?_)
  · obtain ⟨p, t, hs, k, Fo, rfl, _⟩ := h
    rfl
  · obtain ⟨p, t, hs, k, Fo, rfl, hp, ht, it, k0, k1, q⟩ := h
    refine ⟨_, (pss_cons (ps_par (i := 3) (j := 4) (by rfl) sc__law_moves.nd rfl rfl (by decide) rfl rfl (pa_cons (pe_tup pa_nil) (pa_cons (pv 1) pa_nil)) (by rfl))
 (pss_cons (ps_for PassesOwn.never rfl (pi_range1 rfl B.b_range (pa_cons (pv 2) pa_nil)) (pg_name (i := 5) sc__law_moves.nd rfl (Or.inl rfl)) (pss_cons (ps_set (i := 6) sc__law_moves.nd rfl (Or.inl rfl) (pe_op op_add pe_int (pe_call G__law_draw (hr.mono (by first | decide | omega)) (by rfl) C__law_draw.g C__law_draw.k C__law_draw.b .nil pass0 (pa_cons (pv 0) (pa_cons (pe_callB (call_lenK (K := K) rfl) (by rfl) B.b_len PySem.boot_len (pa_cons (pv 1) pa_nil)) pa_nil)))))
 (pss_cons (ps_set (i := 7) sc__law_moves.nd rfl (Or.inr rfl) (pe_call G__law_beneath (hr.mono (by first | decide | omega)) (by rfl) C__law_beneath.g C__law_beneath.k C__law_beneath.b .nil pass0 (pa_cons (pv 1) (pa_cons (pv 6) pa_nil))))
 (pss_cons (ps_setLc (i := 8) (own := [("_law_place", 9)]) rfl sc__law_moves.nd rfl rfl (sw_true rfl rfl rfl (by decide +kernel)) (pi_range1 rfl B.b_range (pa_cons (pe_op op_add (pe_callB (call_lenK (K := K) rfl) (by rfl) B.b_len PySem.boot_len (pa_cons (pv 1) pa_nil)) pe_int) pa_nil)) (blkOk_by (N := ["_law_hand_here", "_law_hung", "_law_many", "_law_moves_here", "_law_elder", "_law_turn", "_law_block", "_law_inner", "_law_places", "_law_place"]) (sc := defScope s__law_moves) (by decide +kernel)) (fun _ _ _ _ _ => (pg_name (i := 9) sc__law_moves.nd rfl (Or.inl rfl))) (fun _ _ _ _ _ => (pts_one (pt_cmpR (op_notInK (K := K) rfl) (pv 9) (pv 7) (by rfl)))) (fun _ _ _ _ _ => (pv 9)))
 (pss_cons (ps_set (i := 9) sc__law_moves.nd rfl (Or.inl rfl) (pe_ix (ix_listK (K := K) rfl) (pv 8) (pe_call G__law_draw (hr.mono (by first | decide | omega)) (by rfl) C__law_draw.g C__law_draw.k C__law_draw.b .nil pass0 (pa_cons (pv 0) (pa_cons (pe_callB (call_lenK (K := K) rfl) (by rfl) B.b_len PySem.boot_len (pa_cons (pv 8) pa_nil)) pa_nil))) (fun _ _ => rfl)))
 (C8.pss_cut (ps_if (PW.pt (pw_and (pt_cmpR op_eq (pe_call G__law_draw (hr.mono (by first | decide | omega)) (by rfl) C__law_draw.g C__law_draw.k C__law_draw.b .nil pass0 (pa_cons (pv 0) (pa_cons pe_int pa_nil))) pe_int (nomark _)) (pw_and1 (pt_cmpR (op_inK (K := K) rfl) (pe_ix (ix_tupK (K := K) rfl) (pv 4) (pe_op op_sub (pv 6) pe_int) (fun _ _ => rfl)) (pv 8) (by rfl))))) (pss_one (ps_set (i := 9) sc__law_moves.nd rfl (Or.inl rfl) (pe_ix (ix_tupK (K := K) rfl) (pv 4) (pe_op op_sub (pv 6) pe_int) (fun _ _ => rfl)))) pss_nil)
 (pss_cons (ps_set (i := 3) sc__law_moves.nd rfl (Or.inl rfl) (pe_op (op_catAK (K := K) rfl) (pv 3) (pe_tup (pa_cons (pe_tup (pa_cons (pv 6) (pa_cons (pv 9) pa_nil))) pa_nil))))
 (pss_one (ps_set (i := 1) sc__law_moves.nd rfl (Or.inl rfl) (pe_call G__law_put (hr.mono (by first | decide | omega)) (by rfl) C__law_put.g C__law_put.k C__law_put.b .nil pass0 (pa_cons (pv 1) (pa_cons (pv 6) (pa_cons (pv 9) pa_nil)))))))))))))
 (pss_one (ps_ret (pe_tup (pa_cons (pv 3) (pa_cons (pv 1) pa_nil))))))), ?_⟩
    have h40 := it.most
    have h1 := it.pos
    walk_at "h0"
    intro U nU
    have s1 : Same H (upd H U (.tup [])) := same_new (Same.refl _) nU
    have eU : upd H U (.tup []) U = some (.tup []) := upd_same
    generalize upd H U (.tup []) = H1 at s1 eU ⊢
    walk_at "hs"
    refine ⟨k, rfl, by omega, by omega, ?_⟩
    refine lp_range (lo := 0) (n := Int.toNat k) (fun i σ' H' => (∃ g u x5 x6 x7 x8 x9, σ' = [some (.ref p), some (.ref g), some (.int k), some (.ref u), some (.ref t), x5, x6, x7, x8, x9] ∧ ∃ us ms, ms.length = i ∧ OkAll hs ms ∧ H' u = some (.tup us) ∧ PrsV H' us ms ∧ H' g = some (.tup (nats (final hs ms)))) ∧ But p H H' ∧ PoolAt H' p Fo ∧ H' t = some (.tup (nats hs)))
      ⟨⟨t, U, _, _, _, _, _, rfl, [], [], rfl, OkAll.nil hs, eU, trivial, s1 _ _ ht⟩, But.of s1, hp.same s1, s1 _ _ ht⟩ ?_ ?_
    · clear eU s1 nU hp ht
      rintro i σ' H2 hi ⟨⟨g, u, x5, x6, x7, x8, x9, rfl, us, ms, lm, ok, eu, pu, eg⟩, b2, p2, et⟩
      have itf := ok.tree it
      have fl := final_len hs ms
      generalize hgs : final hs ms = gs at itf fl eg
      have sg : SqT K H2 g (nats gs) := .of eg
      walk_at "hs"
      rw [nats_length]
      refine ⟨p, _, Fo, rfl, p2, by omega, by omega, fun d H3 d0 d1 b3 p3 => ?_⟩
      obtain ⟨b, hb⟩ : ∃ b : Nat, 1 + d = (b : Int) := ⟨(1 + d).toNat, by omega⟩
      have bb1 : 1 ≤ b := by omega
      have bb2 : b ≤ gs.length := by omega
      have tp : ∀ {a : Addr} {xs : List V}, H2 a = some (.tup xs) → H3 a = some (.tup xs) := fun {a xs} e => b3 _ _ (fun z => p2.notTup _ (z ▸ e)) e
      have eg3 := tp eg
      have eu3 := tp eu
      have et3 := tp et
      have pu3 := pu.but b3 p2.notTup
      walk_at "hs"
      rw [hb]
      refine ⟨g, gs, b, rfl, eg3, itf, bb1, bb2, fun I H4 s4 nI eI => ?_⟩
      have sg4 : SqT K H4 g (nats gs) := .of (s4 _ _ eg3)
      walk_at "hs"
      rw [nats_length]
      refine ⟨(gs.length : Int) + 1, rfl, by omega, by omega, fun D hD => ?_⟩
      have nDp : D ≠ p := (p3.same s4).ne hD
      refine lc_range (lo := 0) (n := Int.toNat ((gs.length : Int) + 1)) (fun j G => Same H4 G ∧ G D = some (.lst (nats ((List.range j).filter fun c => !decide (c ∈ inner gs b))))) ⟨same_new (Same.refl _) hD, upd_same⟩ ?_ ?_
      · rintro j G hj ⟨s5, eD⟩
        rw [Int.zero_add]
        walk_at "hs"
        refine ⟨rfl, ?_⟩
        walk_at "hs"
        refine x_ninNL (.of (s5 _ _ eI)) ?_
        walk_at "hs"
        have hl : ((List.range j).filter fun c => !decide (c ∈ inner gs b)).length ≤ j := Nat.le_trans (List.length_filter_le _ _) (by rw [List.length_range]; exact Nat.le_refl _)
        have sn := range0_snoc (fun c => !decide (c ∈ inner gs b)) j
        cases c : !decide (j ∈ inner gs b) with
        | true =>
          walk_at "hs"
          refine ⟨_, eD, szLt (by rw [nats_length]; omega), same_mut s5 hD, ?_⟩
          rw [upd_same, sn, if_pos c, nats_append]
          rfl
        | false =>
          refine ⟨s5, ?_⟩
          rw [sn, if_neg (by rw [c]; exact Bool.false_ne_true), List.append_nil]
          exact eD
      · rintro G ⟨s5, eD⟩
        have en : Int.toNat ((gs.length : Int) + 1) = gs.length + 1 := by omega
        rw [en] at eD
        have eD : G D = some (.lst (nats (frees gs b))) := eD
        have s25 := s4.trans s5
        have sD : SqL K G D (nats (frees gs b)) := .of eD
        have p5 := p3.same s25
        have fpos : 0 < (frees gs b).length := List.length_pos_of_mem (zero_free gs b)
        have flen := frees_len gs b
        walk_at "hs"
        rw [nats_length]
        refine ⟨p, _, Fo, rfl, p5, by omega, by omega, fun d2 H6 d20 d21 b6 p6 => ?_⟩
        obtain ⟨y, hv, hm⟩ := at_lt (xs := nats (frees gs b)) d20 (by rw [nats_length]; exact d21)
        have eD6 := b6 _ _ nDp eD
        have sD6 : SqL K H6 D (nats (frees gs b)) := .of eD6
        obtain ⟨yn, hyn, rfl⟩ : ∃ yn ∈ frees gs b, y = .int (yn : Nat) := by
          obtain ⟨z, hz, e⟩ := List.mem_map.mp hm
          exact ⟨z, hz, e.symm⟩
        have tp6 : ∀ {a : Addr} {xs : List V}, G a = some (.tup xs) → H6 a = some (.tup xs) := fun {a xs} e => b6 _ _ (fun z => p5.notTup _ (z ▸ e)) e
        have eg6 := tp6 (s25 _ _ eg3)
        have eu6 := tp6 (s25 _ _ eu3)
        have et6 := tp6 (s25 _ _ et3)
        have pu6 := (pu3.same s25).but b6 p5.notTup
        have b06 : But p H H6 := ((b2.trans b3).trans (But.of s25)).trans b6
        clear eg eu et pu eg3 eu3 et3 pu3 sg sg4 eI sD eD s4 s5 s25 b2 b3 b6 p2 p3 p5 tp tp6 nI
        walk_at "hs"
        refine ⟨fun σ' H' => (∃ yn ∈ frees gs b, σ' = [some (.ref p), some (.ref g), some (.int k), some (.ref u), some (.ref t), some (.int (0 + (i : Int))), some (.int (b : Nat)), some (.ref I), some (.ref D), some (.int (yn : Nat))]) ∧ But p H H' ∧ PoolAt H' p Fo ∧ H' t = some (.tup (nats hs)) ∧ H' u = some (.tup us) ∧ PrsV H' us ms ∧ H' g = some (.tup (nats gs)), ?_, ?_⟩
        · walk_at "hs"
          refine ⟨p, 4, Fo, rfl, p6, by decide, by decide, fun d3 H7 d30 d31 b7 p7 => ?_⟩
          have tp7 : ∀ {a : Addr} {xs : List V}, H6 a = some (.tup xs) → H7 a = some (.tup xs) := fun {a xs} e => b7 _ _ (fun z => p6.notTup _ (z ▸ e)) e
          have eg7 := tp7 eg6
          have eu7 := tp7 eu6
          have et7 := tp7 et6
          have pu7 := pu6.but b7 p6.notTup
          have st7 : SqT K H7 t (nats hs) := .of et7
          have aT : atI (nats hs) ((b : Int) - 1) = some (.int (up hs b : Nat)) := by
            rw [show (b : Int) - 1 = ((b - 1 : Nat) : Int) by omega]
            exact nats_at (up_get bb1 (by omega))
          have eD7 : H7 D = some (.lst (nats (frees gs b))) := b7 _ _ nDp eD6
          walk_at "hs"
          refine x_isd (fun c => ?_) (fun c => ?_)
          · walk_at "hs"
            refine x_inNL (.of eD7) ?_
            walk_at "hs"
            refine x_isd (fun c2 => ?_) (fun c2 => ?_)
            · walk_at "hs"
              exact ⟨⟨_, c2, rfl⟩, b06.trans b7, p7, et7, eu7, pu7, eg7⟩
            · walk_at "hs"
              exact ⟨⟨_, hyn, rfl⟩, b06.trans b7, p7, et7, eu7, pu7, eg7⟩
          · walk_at "hs"
            exact ⟨⟨_, hyn, rfl⟩, b06.trans b7, p7, et7, eu7, pu7, eg7⟩
        · clear eg6 eu6 et6 pu6 b06 p6 sD6 eD6 hyn hm hv yn
          rintro σ' H7 ⟨⟨yn, hyn, rfl⟩, b7, p7, et, eu, pu, eg⟩
          have opr := frees_ok bb1 bb2 hyn
          walk_at "hs"
          intro T1 nT1
          have s1 : Same H7 (upd H7 T1 (.tup [.int (b : Nat), .int (yn : Nat)])) := same_new (Same.refl _) nT1
          have eT1 : upd H7 T1 (.tup [.int (b : Nat), .int (yn : Nat)]) T1 = some (.tup [.int (b : Nat), .int (yn : Nat)]) := upd_same
          generalize upd H7 T1 (.tup [.int (b : Nat), .int (yn : Nat)]) = H8 at s1 eT1 ⊢
          walk_at "hs"
          intro T2 nT2
          have s2 : Same H8 (upd H8 T2 (.tup [.ref T1])) := same_new (Same.refl _) nT2
          have eT2 : upd H8 T2 (.tup [.ref T1]) T2 = some (.tup [.ref T1]) := upd_same
          generalize upd H8 T2 (.tup [.ref T1]) = H9 at s2 eT2 ⊢
          have s12 := s1.trans s2
          refine x_catA (s12 _ _ eu) eT2 (by rw [pu.len]; show _ + 1 ≤ _; omega) fun T3 H10 s3 eT3 => ?_
          have s13 := s12.trans s3
          walk_at "hs"
          refine ⟨g, gs, b, yn, rfl, s13 _ _ eg, bb1, bb2, by omega, fun G2 H11 s4 eG2 => ?_⟩
          have s14 := s13.trans s4
          walk_at "hs"
          refine ⟨⟨G2, T3, _, _, _, _, _, rfl, us ++ [.ref T1], ms ++ [(b, yn)], by rw [List.length_append, lm]; rfl, ?_, s4 _ _ eT3, (pu.same s14).app ⟨⟨T1, rfl, s4 _ _ (s3 _ _ (s2 _ _ eT1))⟩, trivial⟩, ?_⟩, b7.trans (But.of s14), p7.same s14, s14 _ _ et⟩
          · exact ok.snoc (by rw [hgs]; exact opr)
          · rw [final_snoc, hgs]
            exact eG2
    · rintro σ' HE ⟨⟨g, u, x5, x6, x7, x8, x9, rfl, us, ms, lm, ok, eu, pu, eg⟩, b2, p2, et⟩
      walk_at "hs"
      intro m nm
      have s1 : Same HE (upd HE m (.tup [.ref u, .ref g])) := same_new (Same.refl _) nm
      have em : upd HE m (.tup [.ref u, .ref g]) m = some (.tup [.ref u, .ref g]) := upd_same
      generalize upd HE m (.tup [.ref u, .ref g]) = G at s1 em ⊢
      exact q m u g us ms G (by omega) ok (b2.trans (But.of s1)) (p2.same s1) em (s1 _ _ eu) (pu.same s1) (s1 _ _ eg)
end
set_option maxRecDepth 100000
set_option maxHeartbeats 4000000
open PySem PySem.Spec L2 RZ


local macro_rules | `(tactic| walk_at "h1") => `(tactic| first
  | with_reducible refine x_dget ?_
  | with_reducible refine x_dc ?_
  | with_reducible refine x_keysF ?_
  | with_reducible refine x_keysFT ?_
  | with_reducible refine x_listZip ?_
  | with_reducible refine x_enls ?_)

theorem sc__law_is_safe : FnScope ["_law_hung", "_law_moves_here", "_law_calms", "_law_begins", "_law_ends", "_law_begin", "_law_end", "_law_here", "_law_block", "_law_place"] ["_law_hung", "_law_moves_here", "_law_calms"] (defScope s__law_is_safe) := ⟨rfl, rfl, rfl, by decide +kernel, rfl, by decide +kernel, by decide +kernel⟩
theorem sc__law_lots : FnScope ["_law_many", "_law_found", "_law_index", "_law_lot"] ["_law_many"] (defScope s__law_lots) := ⟨rfl, rfl, rfl, by decide +kernel, rfl, by decide +kernel, by decide +kernel⟩
theorem sc__law_least : FnScope ["_law_lots_here", "_law_least_here", "_law_lot"] ["_law_lots_here"] (defScope s__law_least) := ⟨rfl, rfl, rfl, by decide +kernel, rfl, by decide +kernel, by decide +kernel⟩
theorem walk_zipT {K : PySem.W.Frag} {a b : Addr} {xs ys : List V} (hxy : xs.length = ys.length) : Walk (ItzT K a b) xs.length (fun H => SqT K H a xs ∧ SqT K H b ys) (YPair (fun i => xs[i]?) (fun i => ys[i]?)) := by
  refine ⟨fun i _ hi q => ⟨xs, ys, xs[i], ys[i], q.1, q.2, List.getElem?_eq_getElem hi, List.getElem?_eq_getElem (by omega)⟩, fun _ q => ⟨xs, ys, q.1, q.2, .inl (Nat.le_refl _)⟩, fun i H v H' _ q y => ?_⟩
  obtain ⟨T, x, z, h1, h2, h3, h4, h5⟩ := y
  exact ⟨T, x, z, h1, h2, h3, h4 xs q.1, h5 ys q.2⟩
theorem PrsV.take {H : Hp} : ∀ {vs : List V} {xs : List (Nat × Nat)} (n : Nat), PrsV H vs xs → PrsV H (vs.take n) (xs.take n)
  | [], [], n, _ => by
    cases n <;> exact True.intro
  | _ :: _, _ :: _, 0, _ => True.intro
  | _ :: _, _ :: _, n + 1, h => ⟨h.1, PrsV.take n h.2⟩
theorem PrsV.drop {H : Hp} : ∀ {vs : List V} {xs : List (Nat × Nat)} (n : Nat), PrsV H vs xs → PrsV H (vs.drop n) (xs.drop n)
  | [], [], n, _ => by
    cases n <;> exact True.intro
  | _ :: _, _ :: _, 0, h => h
  | _ :: _, _ :: _, n + 1, h => PrsV.drop n h.2
theorem cut_to (xs : List V) (n : Nat) : cutV xs none (some (n : Int)) = xs.take n := by
  unfold cutV
  rw [HT.sIx_nat, HT.sIx_none, List.drop_zero, Nat.sub_zero]
  by_cases h : n ≤ xs.length
  · rw [Nat.min_eq_left h]
  · rw [Nat.min_eq_right (by omega), List.take_of_length_le (Nat.le_refl _), List.take_of_length_le (by omega)]
theorem cut_ft (xs : List V) {a b : Nat} (ha : a ≤ b) (hb : b ≤ xs.length) : cutV xs (some (a : Int)) (some (b : Int)) = (xs.take b).drop a := by
  unfold cutV
  rw [HT.sIx_nat, HT.sIx_nat, Nat.min_eq_left hb, Nat.min_eq_left (by omega), List.drop_take]
theorem AscB.pair {L : Nat} : ∀ {a : Nat} {cs : List Nat} {i x y : Nat}, AscB L a cs → (a :: cs)[i]? = some x → (cs ++ [L])[i]? = some y → x ≤ y ∧ y ≤ L
  | a, [], 0, x, y, h, e1, e2 => by
    cases e1
    cases e2
    exact ⟨h, Nat.le_refl _⟩
  | a, [], i + 1, x, y, h, e1, e2 => by cases e1
  | a, c :: r, 0, x, y, h, e1, e2 => by
    cases e1
    cases e2
    exact ⟨h.1, by have := h.2.1; omega⟩
  | a, c :: r, i + 1, x, y, h, e1, e2 => AscB.pair (i := i) h.2.2 e1 e2
theorem TlAt.app {H : Hp} {as bs : List Addr} {ls ms : List (List Nat)} (h : TlAt H as ls) (k : TlAt H bs ms) : TlAt H (as ++ bs) (ls ++ ms) := by
  refine ⟨by rw [List.length_append, List.length_append, h.1, k.1], fun i a l ha hl => ?_⟩
  rw [List.getElem?_append] at ha hl
  rw [h.1] at ha
  split at ha
  · rename_i c
    rw [if_pos c] at hl
    exact h.2 i a l ha hl
  · rename_i c
    rw [if_neg c] at hl
    exact k.2 _ a l ha hl
theorem TlAt.nil (H : Hp) : TlAt H [] [] := ⟨rfl, fun i a l h => nomatch h⟩
section
variable {P : Program} {w : World} {K : PySem.W.Frag} {mg : Str → Option Value} {base : Heap} {Z : Ad}
def spSafe : Sp := fun vs H Q _ => ∃ (t u c : Addr) (hs : List Nat) (us : List V) (ms : List (Nat × Nat)) (cs : List Nat), vs = [.ref t, .ref u, .ref c] ∧ H t = some (.tup (nats hs)) ∧ H u = some (.tup us) ∧ PrsV H us ms ∧ IsTree hs ∧ OkAll hs ms ∧ ms.length ≤ 80 ∧ H c = some (.tup (nats cs)) ∧ cs.Pairwise (· < ·) ∧ (∀ c ∈ cs, c < ms.length) ∧ ∀ H' (r : Bool), Same H H' → (r = true ↔ SafeI (NRm hs ms) ms.length 0 cs) → Q (.bl r) H'
theorem ok_safe {f : Addr} {fd : FuncData} (F : Fun K "_law_is_safe" "_law_is_safe" s__law_is_safe f fd) (B : Bl Z mg) {f__law_put : Addr} {fd__law_put : FuncData} (C__law_put : Cal K mg "_law_put" f__law_put fd__law_put ["_law_hung", "_law_block", "_law_place"]) (G__law_put : FnOk P w K mg base CX0 1 f__law_put fd__law_put ["_law_hung", "_law_block", "_law_place"] spPutT) {f__law_had : Addr} {fd__law_had : FuncData} (C__law_had : Cal K mg "_law_had" f__law_had fd__law_had ["_law_hung", "_law_moves_here"]) (G__law_had : FnOk P w K mg base CX0 1 f__law_had fd__law_had ["_law_hung", "_law_moves_here"] spLHad) {f__law_is_round : Addr} {fd__law_is_round : FuncData} (C__law_is_round : Cal K mg "_law_is_round" f__law_is_round fd__law_is_round ["_law_known"]) (G__law_is_round : FnOk P w K mg base CX0 1 f__law_is_round fd__law_is_round ["_law_known"] spRound) : FnOk P w K mg base CX0 2 f fd ["_law_hung", "_law_moves_here", "_law_calms"] spSafe := by
  refine F.ok sc__law_is_safe (fun vs H Q E h => ?_) (fun cdv A outer s H vs Q E hr h => ?_)
  · obtain ⟨t, u, c, hs, us, ms, cs, rfl, _⟩ := h
    rfl
  · obtain ⟨t, u, c, hs, us, ms, cs, rfl, et, eu, pu, it, ok, l80, ec, asc, lt, q⟩ := h
    have ml : us.length = ms.length := pu.len
    have h40 := it.most
    have ab : AscB ms.length 0 cs := AscB.of (Nat.zero_le _) (fun c hc => ⟨Nat.zero_le _, lt c hc⟩) asc
    have cl : cs.length ≤ 80 := by
      have := nd_len (m := List.range ms.length) (asc.imp fun h => Nat.ne_of_lt h) fun c hc => List.mem_range.mpr (lt c hc)
      rw [List.length_range] at this
      omega
    refine ⟨_, (pss_cons (ps_par (i := 3) (j := 4) (by rfl) sc__law_is_safe.nd rfl rfl (by decide) rfl rfl (pa_cons (pe_op (op_catAK (K := K) rfl) (pe_tup (pa_cons pe_int pa_nil)) (pv 2)) (pa_cons (pe_op (op_catAK (K := K) rfl) (pv 2) (pe_tup (pa_cons (pe_callB (call_lenK (K := K) rfl) (by rfl) B.b_len PySem.boot_len (pa_cons (pv 1) pa_nil)) pa_nil))) pa_nil)) (by rfl))
 (pss_cons (ps_for PassesOwn.never rfl (pi_zipAK (K := K) rfl (by rfl) B.b_zip (pa_cons (pv 3) (pa_cons (pv 4) pa_nil))) (pg_tup rfl (pgs_cons (pg_name (i := 5) sc__law_is_safe.nd rfl (Or.inl rfl)) (pgs_cons (pg_name (i := 6) sc__law_is_safe.nd rfl (Or.inl rfl)) pgs_nil))) (pss_cons (ps_set (i := 7) sc__law_is_safe.nd rfl (Or.inl rfl) (pv 0))
 (pss_cons (ps_for PassesOwn.never rfl (pi_tup (pe_slice (sl_tupAK (K := K) rfl) (pv 1) po_none (po_some (pv 5)))) (pg_tup rfl (pgs_cons (pg_name (i := 8) sc__law_is_safe.nd rfl (Or.inl rfl)) (pgs_cons (pg_name (i := 9) sc__law_is_safe.nd rfl (Or.inl rfl)) pgs_nil))) (pss_one (ps_set (i := 7) sc__law_is_safe.nd rfl (Or.inl rfl) (pe_call G__law_put (hr.mono (by first | decide | omega)) (by rfl) C__law_put.g C__law_put.k C__law_put.b .nil pass0 (pa_cons (pv 7) (pa_cons (pv 8) (pa_cons (pv 9) pa_nil)))))))
 (pss_one (ps_if (pt_val (pe_call G__law_is_round (hr.mono (by first | decide | omega)) (by rfl) C__law_is_round.g C__law_is_round.k C__law_is_round.b .nil pass0 (pa_cons (pe_call G__law_had (hr.mono (by first | decide | omega)) (by rfl) C__law_had.g C__law_had.k C__law_had.b .nil pass0 (pa_cons (pv 7) (pa_cons (pe_slice (sl_tupAK (K := K) rfl) (pv 1) (po_some (pv 5)) (po_some (pv 6))) pa_nil))) pa_nil))) (pss_one (ps_ret pe_bl)) pss_nil)))))
 (pss_one (ps_ret pe_bl)))), ?_⟩
    walk_at "h0"
    intro E0 nE0
    have s0 : Same H (upd H E0 (.tup [.int 0])) := same_new (Same.refl _) nE0
    have eE0 : upd H E0 (.tup [.int 0]) E0 = some (.tup [.int 0]) := upd_same
    generalize upd H E0 (.tup [.int 0]) = H0 at s0 eE0 ⊢
    walk_at "hs"
    refine x_catA eE0 (s0 _ _ ec) (by rw [nats_length]; show 1 + _ ≤ _; omega) fun Bg H1 s1 eBg => ?_
    walk_at "hs"
    intro E1 nE1
    have s2 : Same H1 (upd H1 E1 (.tup [.int us.length])) := same_new (Same.refl _) nE1
    have eE1 : upd H1 E1 (.tup [.int us.length]) E1 = some (.tup [.int us.length]) := upd_same
    generalize upd H1 E1 (.tup [.int us.length]) = H2 at s2 eE1 ⊢
    have sc12 := (s0.trans s1).trans s2
    refine x_catA (sc12 _ _ ec) eE1 (by rw [nats_length]; show _ + 1 ≤ _; omega) fun En H3 s3 eEn => ?_
    have s03 := sc12.trans s3
    have eB : H3 Bg = some (.tup (nats (0 :: cs))) := (s2.trans s3) _ _ eBg
    have eE : H3 En = some (.tup (nats (cs ++ [ms.length]))) := by
      rw [nats_append]
      rw [ml] at eEn
      exact eEn
    clear eEn eBg eE1 eE0 s3 s2 s1 s0 sc12 nE0 nE1
    walk_at "hs"
    refine x_zipA ?_
    walk_at "hs"
    refine ⟨Bg, En, _, _, rfl, .inr ⟨.of eB, .of eE, ?_⟩⟩
    have lxy : (nats (0 :: cs)).length = (nats (cs ++ [ms.length])).length := by rw [nats_length, nats_length, List.length_append]; rfl
    refine lp_it (walk_zipT lxy) (fun i σ' G => (∃ x5 x6 x7 x8 x9, σ' = [some (.ref t), some (.ref u), some (.ref c), some (.ref Bg), some (.ref En), x5, x6, x7, x8, x9]) ∧ Same H3 G ∧ ∀ (j : Nat) x y, j < i → (0 :: cs)[j]? = some x → (cs ++ [ms.length])[j]? = some y → NRm hs ms x y)
      ⟨⟨_, _, _, _, _, rfl⟩, Same.refl _, fun j x y h => by omega⟩ (fun i σ G _ h => ⟨.of (h.2.1 _ _ eB), .of (h.2.1 _ _ eE)⟩) ?_ ?_
    · rintro i v σ' G G' hi ⟨⟨x5, x6, x7, x8, x9, rfl⟩, s4, al⟩ ⟨Tz, xv, yv, rfl, nT, rfl, hx, hy⟩
      obtain ⟨x, ex, rfl⟩ := nats_item hx
      obtain ⟨y, ey, rfl⟩ := nats_item hy
      obtain ⟨xy, yL⟩ := ab.pair ex ey
      have s5 : Same G (upd G Tz (.tup [.int (x : Nat), .int (y : Nat)])) := same_new (Same.refl _) nT
      have sTz : SqT K (upd G Tz (.tup [.int (x : Nat), .int (y : Nat)])) Tz [.int (x : Nat), .int (y : Nat)] := .of upd_same
      generalize upd G Tz (.tup [.int (x : Nat), .int (y : Nat)]) = G5 at s5 sTz ⊢
      have s45 := s4.trans s5
      have s05 := s03.trans s45
      clear hx hy hi s4 s5
      walk_at "hs"
      refine x_slA (s05 _ _ eu) fun Sl G6 s6 eS => ?_
      rw [cut_to] at eS
      have s06 := s05.trans s6
      refine ⟨Sl, rfl, ⟨_, .of eS⟩, ?_⟩
      refine lp_tup (K := K) (xs := us.take x) (fun k σ' G => (∃ Hh x8 x9, σ' = [some (.ref t), some (.ref u), some (.ref c), some (.ref Bg), some (.ref En), some (.int (x : Nat)), some (.int (y : Nat)), some (.ref Hh), x8, x9] ∧ G Hh = some (.tup (nats (final hs (ms.take k))))) ∧ Same G6 G)
        ⟨⟨t, _, _, rfl, s06 _ _ et⟩, Same.refl _⟩ (fun k σ G _ h => .of (h.2 _ _ eS)) ?_ ?_
      · rintro k v σ' G7 hv ⟨⟨Hh, y8, y9, rfl, eH⟩, s7⟩
        have hv2 : us[k]? = some v := by
          rw [List.getElem?_take] at hv
          split at hv
          · exact hv
          · cases hv
        obtain ⟨z, hz, pz⟩ := pu.at hv2
        obtain ⟨a, rfl, ha⟩ := pz.same (s06.trans s7)
        have sa : SqT K G7 a [.int (z.1 : Nat), .int (z.2 : Nat)] := .of ha
        obtain ⟨k1, k2, _⟩ := ok k z hz
        walk_at "hs"
        refine ⟨Hh, final hs (ms.take k), z.1, z.2, rfl, eH, k1, k2, by rw [final_len]; exact h40, fun D G8 s8 eD => ?_⟩
        walk_at "hs"
        exact ⟨⟨D, _, _, rfl, by rw [final_take hz]; exact eD⟩, s7.trans s8⟩
      · rintro σ' G7 ⟨⟨Hh, y8, y9, rfl, eH⟩, s7⟩
        have tl : (us.take x).length = x := by rw [List.length_take]; omega
        rw [tl] at eH
        have s07 := s06.trans s7
        walk_at "hs"
        refine x_slA (s07 _ _ eu) fun S2 G8 s8 eS2 => ?_
        rw [cut_ft us xy (by omega)] at eS2
        have s08 := s07.trans s8
        have pc := ((pu.same s08).take y).drop x
        have mo := mvOk_of ok
        have sub : ∀ m ∈ (ms.take y).drop x, m ∈ ms := fun m hm => List.mem_of_mem_take (List.mem_of_mem_drop hm)
        walk_at "hs"
        refine ⟨Hh, S2, final hs (ms.take x), _, (ms.take y).drop x, rfl, s8 _ _ eH, eS2, pc, by rw [final_len]; exact h40, by rw [List.length_drop, List.length_take]; omega, hgOk_of (ok.trees it x), (fun m hm => by rw [final_len]; exact mo m (sub m hm)), fun D G9 s9 nD kn => ?_⟩
        walk_at "hs"
        refine ⟨D, _, rfl, kn, by rw [hadLs_len, final_len]; exact h40, (fun k hk => by
          unfold hadLs at hk
          obtain ⟨l, _, rfl⟩ := List.mem_map.mp hk
          have := hadL_len (final hs (ms.take x)).length l
          rw [final_len] at this ⊢
          omega), fun G10 s10 => ?_⟩
        rw [hadLs_len, final_len]
        have rh := ring_had it ok xy yL
        have s68 := ((s45.trans s6).trans s7).trans s8
        walk_at "hs"
        refine x_isd (fun h => ?_) (fun h => ?_)
        · walk_at "hs"
          exact q _ false (s08.trans (s9.trans s10)) ⟨(fun z => nomatch z), fun sf => ((rh.1 h) (sf i x y ex ey)).elim⟩
        · walk_at "hs"
          refine ⟨⟨_, _, _, _, _, rfl⟩, s68.trans (s9.trans s10), fun j x' y' hj e1 e2 => ?_⟩
          by_cases z : j = i
          · subst z
            rw [ex] at e1
            rw [ey] at e2
            cases e1
            cases e2
            exact Classical.byContradiction fun n => h (rh.2 n)
          · exact al j x' y' (by omega) e1 e2
    · rintro σ' G ⟨⟨x5, x6, x7, x8, x9, rfl⟩, s4, al⟩
      walk_at "hs"
      refine q _ true (s03.trans s4) ⟨fun _ i x y e1 e2 => al i x y ?_ e1 e2, fun _ => rfl⟩
      have := (List.getElem?_eq_some_iff.mp e1).1
      rw [nats_length]
      exact this
def spLots : Sp := fun vs H Q _ => ∃ (n : Nat), vs = [.int n] ∧ n ≤ 10 ∧ ∀ L rs H', Same H H' → H L = none → H' L = some (.lst (refs rs)) → TlAt H' rs (lotsN n) → Q (.ref L) H'
theorem ok_lots {f : Addr} {fd : FuncData} (F : Fun K "_law_lots" "_law_lots" s__law_lots f fd) (B : Bl Z mg) : FnOk P w K mg base CX0 1 f fd ["_law_many"] spLots := by
  refine F.ok sc__law_lots (fun vs H Q E h => ?_) (fun cdv A outer s H vs Q E hr h => ?_)
  · obtain ⟨n, rfl, _⟩ := h
    rfl
  · obtain ⟨n, rfl, n10, q⟩ := h
    refine ⟨_, (pss_cons (ps_set (i := 1) sc__law_lots.nd rfl (Or.inl rfl) (pe_lst (pa_cons (pe_tup pa_nil) pa_nil)))
 (pss_cons (ps_for PassesOwn.never rfl (pi_range1 rfl B.b_range (pa_cons (pv 0) pa_nil)) (pg_name (i := 2) sc__law_lots.nd rfl (Or.inr rfl)) (pss_one (ps_set (i := 1) sc__law_lots.nd rfl (Or.inl rfl) (pe_op op_cat (pv 1) (pe_lc (own := [("_law_lot", 3)]) rfl sc__law_lots.nd (pi_list (pv 1)) (blkOk_by (N := ["_law_many", "_law_found", "_law_index", "_law_lot"]) (sc := defScope s__law_lots) (by decide +kernel)) (fun _ _ _ _ _ => (pg_name (i := 3) sc__law_lots.nd rfl (Or.inl rfl))) (fun _ _ _ _ _ => pts_nil) (fun _ _ _ _ _ => (pe_op (op_catAK (K := K) rfl) (pv 3) (pe_tup (pa_cons (pv 2) pa_nil)))))))))
 (pss_one (ps_ret (pv 1))))), ?_⟩
    walk_at "h0"
    intro e0 ne0
    have s0 : Same H (upd H e0 (.tup [])) := same_new (Same.refl _) ne0
    have ee0 : upd H e0 (.tup []) e0 = some (.tup []) := upd_same
    generalize upd H e0 (.tup []) = H1 at s0 ee0 ⊢
    walk_at "hs"
    intro L0 nL0
    have s1 : Same H1 (upd H1 L0 (.lst [.ref e0])) := same_new (Same.refl _) nL0
    have eL0 : upd H1 L0 (.lst [.ref e0]) L0 = some (.lst [.ref e0]) := upd_same
    generalize upd H1 L0 (.lst [.ref e0]) = H2 at s1 eL0 ⊢
    walk_at "hs"
    refine ⟨n, rfl, by omega, by omega, ?_⟩
    refine lp_range (lo := 0) (n := Int.toNat n) (fun i σ' G => (∃ L x2 rs, σ' = [some (.int n), some (.ref L), x2, none] ∧ G L = some (.lst (refs rs)) ∧ H L = none ∧ TlAt G rs (lotsN i)) ∧ Same H G)
      ⟨⟨L0, _, [e0], rfl, eL0, s0.free nL0, TlAt.snoc (TlAt.nil _) (l := []) (s1 _ _ ee0)⟩, s0.trans s1⟩ ?_ ?_
    · rintro i σ' G hi ⟨⟨L, x2, rs, rfl, eL, nL, tl⟩, s2⟩
      have ll : (lotsN i).length ≤ 1024 := by
        rw [lots_len]
        exact Nat.le_trans (Nat.pow_le_pow_right (by decide) (show i ≤ 10 by omega)) (by decide)
      have rl := tl.1
      have sL : SqL K G L (refs rs) := .of eL
      walk_at "hs"
      refine ⟨L, rfl, ⟨_, sL⟩, fun R nR => ?_⟩
      refine lc_list (K := K) (xs := refs rs) (fun j G2 => Same G G2 ∧ ∃ ws, G2 R = some (.lst (refs ws)) ∧ TlAt G2 ws (((lotsN i).take j).map (· ++ [i])))
        ⟨same_new (Same.refl _) nR, [], upd_same, TlAt.nil _⟩ (fun j G _ h => h.1.seq sL) ?_ ?_
      · rintro j v G2 hv ⟨s3, ws, eR, tw⟩
        have hj : j < (lotsN i).length := by
          have := (List.getElem?_eq_some_iff.mp hv).1
          rw [refs_length, rl] at this
          exact this
        obtain ⟨a, ha, ea⟩ := (tl.same s3).get hj
        obtain rfl : v = .ref a := Option.some.inj (hv.symm.trans (refs_get ha))
        have la := lots_asc (List.getElem_mem hj)
        have l10 : (lotsN i)[j].length ≤ 10 := by
          have := nd_len (m := List.range i) (la.1.imp fun h => Nat.ne_of_lt h) fun c hc => List.mem_range.mpr (la.2 c hc)
          rw [List.length_range] at this
          omega
        have wl : ws.length ≤ j := by
          rw [tw.1, List.length_map, List.length_take]
          omega
        walk_at "hs"
        refine ⟨rfl, ?_⟩
        walk_at "hs"
        intro p1 np1
        have s4 : Same G2 (upd G2 p1 (.tup [.int (0 + (i : Nat))])) := same_new (Same.refl _) np1
        have ep1 : upd G2 p1 (.tup [.int (0 + (i : Nat))]) p1 = some (.tup [.int (0 + (i : Nat))]) := upd_same
        generalize upd G2 p1 (.tup [.int (0 + (i : Nat))]) = G3 at s4 ep1 ⊢
        refine x_catA (s4 _ _ ea) ep1 (by rw [nats_length]; show _ + 1 ≤ _; omega) fun D G4 s5 eD => ?_
        have eD2 : G4 D = some (.tup (nats ((lotsN i)[j] ++ [i]))) := by
          rw [nats_append]
          rw [Int.zero_add] at eD
          exact eD
        have s45 := s4.trans s5
        have eR4 := s45 _ _ eR
        have b7 : But R G4 (upd G4 R (.lst (refs ws ++ [.ref D]))) := But.mut (But.refl _ _)
        have nt : ∀ xs, G4 R ≠ some (.tup xs) := fun xs z => by rw [eR4] at z; cases z
        refine ⟨_, eR4, szLt (by rw [refs_length]; omega), same_mut (s3.trans s45) nR, ws ++ [D], by rw [upd_same, refs_snoc], ?_⟩
        rw [List.take_add_one, List.getElem?_eq_getElem hj, List.map_append]
        exact ((tw.same s45).but b7 nt).snoc (b7 _ _ (fun z => nt _ (z ▸ eD2)) eD2)
      · rintro G2 ⟨s3, ws, eR, tw⟩
        rw [refs_length, rl, List.take_length] at tw
        have wl := tw.1
        rw [List.length_map] at wl
        refine x_cat (s3 _ _ eL) eR (szLe (by rw [refs_length, refs_length]; omega)) fun N nN => ?_
        have s4 : Same G2 (upd G2 N (.lst (refs rs ++ refs ws))) := same_new (Same.refl _) nN
        have eN : upd G2 N (.lst (refs rs ++ refs ws)) N = some (.lst (refs (rs ++ ws))) := by rw [upd_same, refs_app]
        generalize upd G2 N (.lst (refs rs ++ refs ws)) = G3 at s4 eN ⊢
        walk_at "hs"
        exact ⟨⟨N, _, rs ++ ws, rfl, eN, (s2.trans s3).free nN, (tl.same (s3.trans s4)).app (tw.same s4)⟩, s2.trans (s3.trans s4)⟩
    · rintro σ' G ⟨⟨L, x2, rs, rfl, eL, nL, tl⟩, s2⟩
      rw [show Int.toNat (n : Int) = n by omega] at tl
      walk_at "hs"
      exact q L rs G s2 nL eL tl
def spLeast : Sp := fun vs H Q _ => ∃ (l : Addr) (rs : List Addr) (ts : List (List Nat)) (g : List Nat), vs = [.ref l] ∧ H l = some (.lst (refs rs)) ∧ TlAt H rs ts ∧ ts.length ≤ 2000 ∧ g ∈ ts ∧ (∀ u ∈ ts, u.length ≤ 2000 ∧ g.length ≤ u.length ∧ (u.length = g.length → Pw u g)) ∧ ∀ H' T, Same H H' → H' T = some (.tup (nats g)) → Q (.ref T) H'
theorem ok_least {f : Addr} {fd : FuncData} (F : Fun K "_law_least" "_law_least" s__law_least f fd) (B : Bl Z mg) : FnOk P w K mg base CX0 1 f fd ["_law_lots_here"] spLeast := by
  refine F.ok sc__law_least (fun vs H Q E h => ?_) (fun cdv A outer s H vs Q E hr h => ?_)
  · obtain ⟨l, rs, ts, g, rfl, _⟩ := h
    rfl
  · obtain ⟨l, rs, ts, g, rfl, el, tl, t2, gm, best, q⟩ := h
    have sl : SqL K H l (refs rs) := .of el
    have rl := tl.1
    refine ⟨_, (pss_cons (ps_set (i := 1) sc__law_least.nd rfl (Or.inr rfl) (pe_callB (cr_minLK (K := K) rfl rfl) (by rfl) B.b_min (by decide +kernel) (pa_cons (pe_lc (own := [("_law_lot", 2)]) rfl sc__law_least.nd (pi_list (pv 0)) (blkOk_by (N := ["_law_lots_here", "_law_least_here", "_law_lot"]) (sc := defScope s__law_least) (by decide +kernel)) (fun _ _ _ _ _ => (pg_name (i := 2) sc__law_least.nd rfl (Or.inl rfl))) (fun _ _ _ _ _ => pts_nil) (fun _ _ _ _ _ => (pe_callB (call_lenK (K := K) rfl) (by rfl) B.b_len PySem.boot_len (pa_cons (pv 2) pa_nil)))) pa_nil)))
 (pss_one (ps_ret (pe_callB (cr_maxTK (K := K) rfl rfl (units66 hr)) (by rfl) B.b_max (by decide +kernel) (pa_cons (pe_lc (own := [("_law_lot", 2)]) rfl sc__law_least.nd (pi_list (pv 0)) (blkOk_by (N := ["_law_lots_here", "_law_least_here", "_law_lot"]) (sc := defScope s__law_least) (by decide +kernel)) (fun _ _ _ _ _ => (pg_name (i := 2) sc__law_least.nd rfl (Or.inl rfl))) (fun _ _ _ _ _ => (pts_one (pt_cmpR op_eq (pe_callB (call_lenK (K := K) rfl) (by rfl) B.b_len PySem.boot_len (pa_cons (pv 2) pa_nil)) (pv 1) (nomark _)))) (fun _ _ _ _ _ => (pv 2))) pa_nil))))), ?_⟩
    walk_at "h0"
    refine ⟨l, rfl, ⟨_, sl⟩, fun R nR => ?_⟩
    refine lc_list (K := K) (xs := refs rs) (fun j G => Same H G ∧ G R = some (.lst ((intsN ((ts.take j).map List.length)).map V.int)))
      ⟨same_new (Same.refl _) nR, upd_same⟩ (fun j G _ h => h.1.seq sl) ?_ ?_
    · rintro j v G hv ⟨s1, eR⟩
      have hj : j < ts.length := by
        have := (List.getElem?_eq_some_iff.mp hv).1
        rw [refs_length, rl] at this
        exact this
      obtain ⟨a, ha, ea⟩ := (tl.same s1).get hj
      obtain rfl : v = .ref a := Option.some.inj (hv.symm.trans (refs_get ha))
      have sa : SqT K G a (nats ts[j]) := .of ea
      walk_at "hs"
      refine ⟨rfl, ?_⟩
      walk_at "hs"
      rw [nats_length]
      refine ⟨_, eR, szLt (by rw [List.length_map, intsN_len, List.length_map, List.length_take]; omega), same_mut s1 nR, ?_⟩
      rw [upd_same, List.take_add_one, List.getElem?_eq_getElem hj]
      unfold intsN
      rw [List.map_append, List.map_append, List.map_append]
      rfl
    rintro G ⟨s1, eR⟩
    rw [refs_length, rl, List.take_length] at eR
    walk_at "hs"
    refine ⟨R, intsN (ts.map List.length), rfl, .of eR, by rw [intsN_len, List.length_map]; exact List.length_pos_of_mem gm, fun m hm le => ?_⟩
    have em : m = ((g.length : Nat) : Int) := by
      unfold intsN at hm le
      obtain ⟨y, hy, rfl⟩ := List.mem_map.mp hm
      obtain ⟨u, hu, rfl⟩ := List.mem_map.mp hy
      have h1 := le ((g.length : Nat) : Int) (List.mem_map.mpr ⟨g.length, List.mem_map.mpr ⟨g, gm, rfl⟩, rfl⟩)
      have h2 := (best u hu).2.1
      show ((u.length : Nat) : Int) = _
      have h1 : ((u.length : Nat) : Int) ≤ ((g.length : Nat) : Int) := h1
      omega
    subst em
    have sl1 := s1.seq sl
    have tl1 := tl.same s1
    walk_at "hs"
    refine ⟨l, rfl, ⟨_, sl1⟩, fun R2 nR2 => ?_⟩
    refine lc_list (K := K) (xs := refs rs) (fun j G2 => Same G G2 ∧ ∃ ws, G2 R2 = some (.lst (refs ws)) ∧ TlAt G2 ws ((ts.take j).filter fun u => decide (u.length = g.length)))
      ⟨same_new (Same.refl _) nR2, [], upd_same, TlAt.nil _⟩ (fun j G _ h => h.1.seq sl1) ?_ ?_
    · rintro j v G2 hv ⟨s2, ws, eR2, tw⟩
      have hj : j < ts.length := by
        have := (List.getElem?_eq_some_iff.mp hv).1
        rw [refs_length, rl] at this
        exact this
      obtain ⟨a, ha, ea⟩ := (tl1.same s2).get hj
      obtain rfl : v = .ref a := Option.some.inj (hv.symm.trans (refs_get ha))
      have sa : SqT K G2 a (nats ts[j]) := .of ea
      have wl : ws.length ≤ j := by
        rw [tw.1]
        have := List.length_filter_le (fun u : List Nat => decide (u.length = g.length)) (ts.take j)
        rw [List.length_take] at this
        omega
      have nx : (ts.take (j + 1)).filter (fun u => decide (u.length = g.length)) = (ts.take j).filter (fun u => decide (u.length = g.length)) ++ [ts[j]].filter (fun u => decide (u.length = g.length)) := by
        rw [List.take_add_one, List.getElem?_eq_getElem hj, List.filter_append]
        rfl
      walk_at "hs"
      refine ⟨rfl, ?_⟩
      walk_at "hs"
      rw [nats_length]
      refine x_isd (fun c => ?_) (fun c => ?_)
      · walk_at "hs"
        have b7 : But R2 G2 (upd G2 R2 (.lst (refs ws ++ [.ref a]))) := But.mut (But.refl _ _)
        have nt : ∀ xs, G2 R2 ≠ some (.tup xs) := fun xs z => by rw [eR2] at z; cases z
        refine ⟨_, eR2, szLt (by rw [refs_length]; omega), same_mut s2 nR2, ws ++ [a], by rw [upd_same, refs_snoc], ?_⟩
        rw [nx, List.filter_cons, if_pos (decide_eq_true (by omega))]
        exact (tw.but b7 nt).snoc (b7 _ _ (fun z => nt _ (z ▸ ea)) ea)
      · refine ⟨s2, ws, eR2, ?_⟩
        rw [nx, List.filter_cons, if_neg (by rw [decide_eq_true_iff]; omega), List.filter_nil, List.append_nil]
        exact tw
    · rintro G2 ⟨s2, ws, eR2, tw⟩
      rw [refs_length, rl, List.take_length] at tw
      walk_at "hs"
      refine x_maxT (.of eR2) tw.1 (fun i a t h1 h2 => .of (tw.2 i a t h1 h2)) (List.mem_filter.mpr ⟨gm, decide_eq_true rfl⟩) (fun u hu => ?_) (fun i a h1 h2 => ?_)
      · obtain ⟨m1, m2⟩ := List.mem_filter.mp hu
        exact .inr ((best u m1).2.2 (of_decide_eq_true m2))
      · exact q G2 a (s1.trans s2) (tw.2 i a g h1 h2)
end
set_option maxRecDepth 100000
set_option maxHeartbeats 4000000
open PySem PySem.Spec L2


local macro_rules | `(tactic| walk_at "h1") => `(tactic| first
  | with_reducible refine x_dget ?_
  | with_reducible refine x_dc ?_
  | with_reducible refine x_keysF ?_
  | with_reducible refine x_keysFT ?_
  | with_reducible refine x_listZip ?_
  | with_reducible refine x_enls ?_)

theorem spTree_of {Z : Ad} {H : Hp} {R : Hp → Prop} {a m dm : Addr} {hs : List Nat} (t : IsTree hs) (ha : H a = some (.tup (nats hs))) (hm : H m = none) (hdm : H dm = none) (ne : dm ≠ m) (q : ∀ H', Same H H' → TreeAt Z H' m hs → R H') :
    spTree Z (.ref m :: ([.ref a] ++ [])) (upd (upd H dm (.own m)) m (.ins Z.a_Tree dm [])) (fun v H2 => v = .non ∧ R H2) (fun _ _ _ => False) := by
  have hm2 : upd H dm (.own m) m = none := by
    rw [upd_ne (Ne.symm ne)]
    exact hm
  have s0 : Same H (upd (upd H dm (.own m)) m (.ins Z.a_Tree dm [])) := same_new (same_new (Same.refl H) hdm) hm2
  have hk : ∀ y ∈ nats hs, Kn H y := fun y hy => by
    obtain ⟨n, _, rfl⟩ := List.mem_map.mp hy
    exact True.intro
  have hx : Thing H (.ref a) := .inl ⟨a, _, rfl, ha, hk⟩
  have due : DueV H (.ref a) .ok := .inl ⟨a, _, rfl, ha, tree_ok t, hk⟩
  refine ⟨m, dm, .ref a, rfl, upd_same, hx.same s0, fun H' hd b1 hm1 => ⟨rfl, ?_⟩, fun d e v H' nd hd ht s1 he => nd ((hx.back s0 hd).det due)⟩
  have s1 : Same H H' := fun b o e => b1 _ _ (ne_of_none e hm) (s0 _ _ e)
  exact q H' s1 ⟨dm, a, hm1, s1 _ _ ha⟩
open Classical in
noncomputable def sfB (hs : List Nat) (ms : List (Nat × Nat)) (cs : List Nat) : Bool := decide (SafeI (NRm hs ms) ms.length 0 cs)
theorem sfB_iff (hs : List Nat) (ms : List (Nat × Nat)) (cs : List Nat) : sfB hs ms cs = true ↔ SafeI (NRm hs ms) ms.length 0 cs := by
  unfold sfB
  exact @decide_eq_true_iff _ (_)
theorem few_safe {hs : List Nat} {ms : List (Nat × Nat)} (t : IsTree hs) (ok : OkAll hs ms) : sfB hs ms (gst (badC hs ms) ms.length).2 = true := by
  have I := few_inv t ok ms.length (Nat.le_refl _)
  rw [sfB_iff]
  exact safe_ri.1 (safe_ch.2 ⟨I.ch, by have := I.nr; rw [I.last] at this; exact this⟩)
theorem asc_len {cs : List Nat} {n : Nat} (h : cs.Pairwise (· < ·)) (lt : ∀ c ∈ cs, c < n) : cs.length ≤ n := by
  have := nd_len (m := List.range n) (h.imp fun h => Nat.ne_of_lt h) fun c hc => List.mem_range.mpr (lt c hc)
  rw [List.length_range] at this
  exact this
theorem few_best {hs : List Nat} {ms : List (Nat × Nat)} (t : IsTree hs) (ok : OkAll hs ms) {u : List Nat} (asc : u.Pairwise (· < ·)) (lt : ∀ c ∈ u, c < ms.length) (sf : sfB hs ms u = true) : (gst (badC hs ms) ms.length).2.length ≤ u.length ∧ (u.length = (gst (badC hs ms) ms.length).2.length → Pw u (gst (badC hs ms) ms.length).2) := by
  have I := few_inv t ok ms.length (Nat.le_refl _)
  have b := I.best u ((sfB_iff ..).1 sf) (AscB.of (Nat.zero_le _) (fun c hc => ⟨Nat.zero_le _, lt c hc⟩) asc)
  exact ⟨len_of b, fun e => pw_of e b⟩
section
variable {P : Program} {w : World} {K : PySem.W.Frag} {mg : Str → Option Value} {base : Heap} {Z : Ad}
theorem HistAt.pool {H H' : Hp} {p x : Addr} {F : Addr → Prop} {hs : List Nat} {ms : List (Nat × Nat)} (hp : PoolAt H p F) (b : But p H H') (h : HistAt Z H x hs ms) : HistAt Z H' x hs ms := by
  obtain ⟨dh, t, u, vs, h1, ⟨dt, tt, h2, h2'⟩, h3, h4⟩ := h
  obtain ⟨ls, el⟩ := hp.lst
  have ni : ∀ y C d fs, H y = some (.ins C d fs) → y ≠ p := fun y C d fs e z => by
    rw [z, el] at e
    cases e
  have nt : ∀ y xs, H y = some (.tup xs) → y ≠ p := fun y xs e z => by
    rw [z, el] at e
    cases e
  exact ⟨dh, t, u, vs, b _ _ (ni _ _ _ _ h1) h1, ⟨dt, tt, b _ _ (ni _ _ _ _ h2) h2, b _ _ (nt _ _ h2') h2'⟩, b _ _ (nt _ _ h3) h3, h4.but b hp.notTup⟩
theorem ok_law38 {f : Addr} {fd : FuncData} (F : Fun K "law" "law" s_law f fd) (B : Bl Z mg)
    {f__law_hand : Addr} {fd__law_hand : FuncData} (C__law_hand : Cal K mg "_law_hand" f__law_hand fd__law_hand ["_law_script"]) (G__law_hand : FnOk P w K mg base CX0 1 f__law_hand fd__law_hand ["_law_script"] (spPool K))
    {f__law_draw : Addr} {fd__law_draw : FuncData} (C__law_draw : Cal K mg "_law_draw" f__law_draw fd__law_draw ["_law_hand_here", "_law_many"]) (G__law_draw : FnOk P w K mg base CX0 1 f__law_draw fd__law_draw ["_law_hand_here", "_law_many"] spDraw)
    {f__law_tree : Addr} {fd__law_tree : FuncData} (C__law_tree : Cal K mg "_law_tree" f__law_tree fd__law_tree ["_law_hand_here", "_law_many"]) (G__law_tree : FnOk P w K mg base CX0 2 f__law_tree fd__law_tree ["_law_hand_here", "_law_many"] spHungW)
    {f__law_moves : Addr} {fd__law_moves : FuncData} (C__law_moves : Cal K mg "_law_moves" f__law_moves fd__law_moves ["_law_hand_here", "_law_hung", "_law_many"]) (G__law_moves : FnOk P w K mg base CX0 3 f__law_moves fd__law_moves ["_law_hand_here", "_law_hung", "_law_many"] spMovs)
    {f__law_is_safe : Addr} {fd__law_is_safe : FuncData} (C__law_is_safe : Cal K mg "_law_is_safe" f__law_is_safe fd__law_is_safe ["_law_hung", "_law_moves_here", "_law_calms"]) (G__law_is_safe : FnOk P w K mg base CX0 2 f__law_is_safe fd__law_is_safe ["_law_hung", "_law_moves_here", "_law_calms"] spSafe)
    {f__law_lots : Addr} {fd__law_lots : FuncData} (C__law_lots : Cal K mg "_law_lots" f__law_lots fd__law_lots ["_law_many"]) (G__law_lots : FnOk P w K mg base CX0 1 f__law_lots fd__law_lots ["_law_many"] spLots)
    {f__law_least : Addr} {fd__law_least : FuncData} (C__law_least : Cal K mg "_law_least" f__law_least fd__law_least ["_law_lots_here"]) (G__law_least : FnOk P w K mg base CX0 1 f__law_least fd__law_least ["_law_lots_here"] spLeast)
    {f_is_calm : Addr} {fd_is_calm : FuncData} (C_is_calm : Cal K mg "is_calm" f_is_calm fd_is_calm ["history", "calms"]) (G_is_calm : FnOk P w K mg base CX0 3 f_is_calm fd_is_calm ["history", "calms"] (spCalm Z))
    {f_fewest_calms : Addr} {fd_fewest_calms : FuncData} (C_fewest_calms : Cal K mg "fewest_calms" f_fewest_calms fd_fewest_calms ["history"]) (G_fewest_calms : FnOk P w K mg base CX0 3 f_fewest_calms fd_fewest_calms ["history"] (spFew Z))
    {f_History___init__ : Addr} {fd_History___init__ : FuncData} (C_History___init__ : CalM K f_History___init__ fd_History___init__ ["self", "tree", "moves"]) (G_History___init__ : FnOk P w K mg base (L2.CX P w) 7 f_History___init__ fd_History___init__ ["self", "tree", "moves"] (spHist Z)) (M_History : Mk K Z.a_History f_History___init__)
    {f_Tree___init__ : Addr} {fd_Tree___init__ : FuncData} (C_Tree___init__ : CalM K f_Tree___init__ fd_Tree___init__ ["self", "hung"]) (G_Tree___init__ : FnOk P w K mg base (L2.CX P w) 3 f_Tree___init__ fd_Tree___init__ ["self", "hung"] (spTree Z)) (M_Tree : Mk K Z.a_Tree f_Tree___init__) : FnOk P w K mg base CX0 10 f fd ["_law_script"] (spLaw K) := by
  refine F.ok sc_law (fun vs H Q E h => ?_) (fun cdv A outer s H vs Q E hr h => ?_)
  · obtain ⟨a, ns, rfl, _⟩ := h
    rfl
  · obtain ⟨a, ns, rfl, hS, hl, q⟩ := h
    refine ⟨_, (pss_cons (ps_set (i := 1) sc_law.nd rfl (Or.inl rfl) (pe_call G__law_hand (hr.mono (by first | decide | omega)) (by rfl) C__law_hand.g C__law_hand.k C__law_hand.b .nil pass0 (pa_cons (pv 0) pa_nil)))
 (pss_cons (ps_set (i := 2) sc_law.nd rfl (Or.inl rfl) (pe_op op_add pe_int (pe_call G__law_draw (hr.mono (by first | decide | omega)) (by rfl) C__law_draw.g C__law_draw.k C__law_draw.b .nil pass0 (pa_cons (pv 1) (pa_cons pe_int pa_nil)))))
 (pss_cons (ps_set (i := 3) sc_law.nd rfl (Or.inl rfl) (pe_call G__law_tree (hr.mono (by first | decide | omega)) (by rfl) C__law_tree.g C__law_tree.k C__law_tree.b .nil pass0 (pa_cons (pv 1) (pa_cons (pv 2) pa_nil))))
 (pss_cons (ps_asg (pe_call G__law_moves (hr.mono (by first | decide | omega)) (by rfl) C__law_moves.g C__law_moves.k C__law_moves.b .nil pass0 (pa_cons (pv 1) (pa_cons (pv 3) (pa_cons (pe_call G__law_draw (hr.mono (by first | decide | omega)) (by rfl) C__law_draw.g C__law_draw.k C__law_draw.b .nil pass0 (pa_cons (pv 1) (pa_cons pe_int pa_nil))) pa_nil)))) (pg_tup rfl (pgs_cons (pg_name (i := 4) sc_law.nd rfl (Or.inl rfl)) (pgs_cons (pg_name (i := 5) sc_law.nd rfl (Or.inl rfl)) pgs_nil))))
 (pss_cons (ps_set (i := 6) sc_law.nd rfl (Or.inl rfl) (pe_make M_History G_History___init__ (hr.mono (by first | decide | omega)) (by rfl) B.k_History C_History___init__.b .nil passE (pa_cons (pe_make M_Tree G_Tree___init__ (hr.mono (by first | decide | omega)) (by rfl) B.k_Tree C_Tree___init__.b .nil passE (pa_cons (pv 3) pa_nil)) (pa_cons (pv 4) pa_nil))))
 (pss_cons (ps_set (i := 7) sc_law.nd rfl (Or.inl rfl) (pe_lst pa_nil))
 (pss_cons (ps_for PassesOwn.never rfl (pi_list (pe_call G__law_lots (hr.mono (by first | decide | omega)) (by rfl) C__law_lots.g C__law_lots.k C__law_lots.b .nil pass0 (pa_cons (pe_callB (call_lenK (K := K) rfl) (by rfl) B.b_len PySem.boot_len (pa_cons (pv 4) pa_nil)) pa_nil))) (pg_name (i := 8) sc_law.nd rfl (Or.inl rfl)) (pss_cons (ps_set (i := 9) sc_law.nd rfl (Or.inl rfl) (pe_call G__law_is_safe (hr.mono (by first | decide | omega)) (by rfl) C__law_is_safe.g C__law_is_safe.k C__law_is_safe.b .nil pass0 (pa_cons (pv 3) (pa_cons (pv 4) (pa_cons (pv 8) pa_nil)))))
 (pss_cons (ps_if (PW.pt (pw_or (pt_not (pt_val (pe_callB (call_isiK' (K := K) rfl) (by rfl) B.b_isinstance (by decide +kernel) (pa_cons (pe_call G_is_calm (hr.mono (by first | decide | omega)) (by rfl) C_is_calm.g C_is_calm.k C_is_calm.b .nil pass0 (pa_cons (pv 6) (pa_cons (pv 8) pa_nil))) (pa_cons (pe_bltn (v := .ty "bool") (by rfl) B.b_bool (by decide +kernel) rfl) pa_nil))))) (pw_or1 (pt_cmpR op_ne (pe_call G_is_calm (hr.mono (by first | decide | omega)) (by rfl) C_is_calm.g C_is_calm.k C_is_calm.b .nil pass0 (pa_cons (pv 6) (pa_cons (pv 8) pa_nil))) (pv 9) (nomark _))))) (pss_one (ps_ret pe_bl)) pss_nil)
 (pss_one (ps_if (pt_val (pv 9)) (pss_one (ps_expr (pe_bmK (K := K) rfl PySem.F.plainAttrs_list PySem.F.slot_list_append PySem.F.type_list_append mt_append (pv 7) (pa_cons (pv 8) pa_nil)))) pss_nil)))))
 (pss_cons (ps_if (PW.pt (pw_or (pt_cmpR (op_neDK (K := K) rfl hr.units) (pe_call G_fewest_calms (hr.mono (by first | decide | omega)) (by rfl) C_fewest_calms.g C_fewest_calms.k C_fewest_calms.b .nil pass0 (pa_cons (pv 6) pa_nil)) (pe_call G__law_least (hr.mono (by first | decide | omega)) (by rfl) C__law_least.g C__law_least.k C__law_least.b .nil pass0 (pa_cons (pv 7) pa_nil)) (nomark _)) (pw_or1 (pt_not (pt_val (pe_callB (call_isiK' (K := K) rfl) (by rfl) B.b_isinstance (by decide +kernel) (pa_cons (pe_call G_fewest_calms (hr.mono (by first | decide | omega)) (by rfl) C_fewest_calms.g C_fewest_calms.k C_fewest_calms.b .nil pass0 (pa_cons (pv 6) pa_nil)) (pa_cons (pe_bltn (v := .ty "tuple") (by rfl) B.b_tuple (by decide +kernel) rfl) pa_nil)))))))) (pss_one (ps_ret pe_bl)) pss_nil)
 (pss_cons (ps_if (pt_cmpR op_gt (pe_call G__law_draw (hr.mono (by first | decide | omega)) (by rfl) C__law_draw.g C__law_draw.k C__law_draw.b .nil pass0 (pa_cons (pv 1) (pa_cons pe_int pa_nil))) pe_int (nomark _)) (pss_one (ps_ret pe_bl)) pss_nil)
 (pss_cons (ps_set (i := 3) sc_law.nd rfl (Or.inl rfl) (pe_call G__law_tree (hr.mono (by first | decide | omega)) (by rfl) C__law_tree.g C__law_tree.k C__law_tree.b .nil pass0 (pa_cons (pv 1) (pa_cons pe_int pa_nil))))
 (pss_cons (ps_asg (pe_call G__law_moves (hr.mono (by first | decide | omega)) (by rfl) C__law_moves.g C__law_moves.k C__law_moves.b .nil pass0 (pa_cons (pv 1) (pa_cons (pv 3) (pa_cons (pe_op op_add pe_int (pe_call G__law_draw (hr.mono (by first | decide | omega)) (by rfl) C__law_draw.g C__law_draw.k C__law_draw.b .nil pass0 (pa_cons (pv 1) (pa_cons pe_int pa_nil)))) pa_nil)))) (pg_tup rfl (pgs_cons (pg_name (i := 4) sc_law.nd rfl (Or.inl rfl)) (pgs_cons (pg_name (i := 5) sc_law.nd rfl (Or.inl rfl)) pgs_nil))))
 (pss_cons (ps_set (i := 6) sc_law.nd rfl (Or.inl rfl) (pe_make M_History G_History___init__ (hr.mono (by first | decide | omega)) (by rfl) B.k_History C_History___init__.b .nil passE (pa_cons (pe_make M_Tree G_Tree___init__ (hr.mono (by first | decide | omega)) (by rfl) B.k_Tree C_Tree___init__.b .nil passE (pa_cons (pv 3) pa_nil)) (pa_cons (pv 4) pa_nil))))
 (pss_cons (ps_set (i := 10) sc_law.nd rfl (Or.inl rfl) (pe_call G_fewest_calms (hr.mono (by first | decide | omega)) (by rfl) C_fewest_calms.g C_fewest_calms.k C_fewest_calms.b .nil pass0 (pa_cons (pv 6) pa_nil)))
 (pss_cons (ps_if (PW.pt (pw_or (pt_cmpR op_notBk (pe_call G_is_calm (hr.mono (by first | decide | omega)) (by rfl) C_is_calm.g C_is_calm.k C_is_calm.b .nil pass0 (pa_cons (pv 6) (pa_cons (pv 10) pa_nil))) pe_bl (nomark _)) (pw_or1 (pt_not (pt_val (pe_call G__law_is_safe (hr.mono (by first | decide | omega)) (by rfl) C__law_is_safe.g C__law_is_safe.k C__law_is_safe.b .nil pass0 (pa_cons (pv 3) (pa_cons (pv 4) (pa_cons (pv 10) pa_nil))))))))) (pss_one (ps_ret pe_bl)) pss_nil)
 (pss_cons (ps_if (pt_cmpR op_eq (pe_callB (call_lenK (K := K) rfl) (by rfl) B.b_len PySem.boot_len (pa_cons (pv 10) pa_nil)) pe_int (nomark _)) (pss_one (ps_ret pe_bl)) pss_nil)
 (pss_cons (ps_set (i := 11) sc_law.nd rfl (Or.inl rfl) (pe_call G__law_draw (hr.mono (by first | decide | omega)) (by rfl) C__law_draw.g C__law_draw.k C__law_draw.b .nil pass0 (pa_cons (pv 1) (pa_cons (pe_callB (call_lenK (K := K) rfl) (by rfl) B.b_len PySem.boot_len (pa_cons (pv 10) pa_nil)) pa_nil))))
 (pss_cons (ps_set (i := 12) sc_law.nd rfl (Or.inl rfl) (pe_callTy (call_tplK (K := K) rfl) (by rfl) B.b_tuple (by decide +kernel) (pa_cons (pe_callB (cr_sortedSetN (w := w) rfl rfl (units66 hr)) (by rfl) B.b_sorted (by decide +kernel) (pa_cons (pe_callTy (cr_setTiK (K := K) (w := w) rfl rfl rfl) (by rfl) B.b_set (by decide +kernel) (pa_cons (pe_op (op_catAK (K := K) rfl) (pe_op (op_catAK (K := K) rfl) (pe_slice (sl_tupAK (K := K) rfl) (pv 10) po_none (po_some (pv 11))) (pe_tup (pa_cons (pe_callB (call_min2 rfl) (by rfl) B.b_min (by decide +kernel) (pa_cons (pe_op op_add (pe_ix (ix_tupK (K := K) rfl) (pv 10) (pv 11) (fun _ _ => rfl)) pe_int) (pa_cons (pe_op op_sub (pe_callB (call_lenK (K := K) rfl) (by rfl) B.b_len PySem.boot_len (pa_cons (pv 4) pa_nil)) pe_int) pa_nil))) pa_nil))) (pe_slice (sl_tupAK (K := K) rfl) (pv 10) (po_some (pe_op op_add (pv 11) pe_int)) po_none)) pa_nil)) pa_nil)) pa_nil)))
 (pss_one (ps_ret (pe_or (pe_cmpR (op_eqDK (K := K) rfl hr.units) (pv 12) (pv 10) (nomark _)) (pe_one (pe_cmpR op_eq (pe_call G_is_calm (hr.mono (by first | decide | omega)) (by rfl) C_is_calm.g C_is_calm.k C_is_calm.b .nil pass0 (pa_cons (pv 6) (pa_cons (pv 12) pa_nil))) (pe_call G__law_is_safe (hr.mono (by first | decide | omega)) (by rfl) C__law_is_safe.g C__law_is_safe.k C__law_is_safe.b .nil pass0 (pa_cons (pv 3) (pa_cons (pv 4) (pa_cons (pv 12) pa_nil)))) (nomark _))))))))))))))))))))))), ?_⟩
    walk_at "h0"
    refine ⟨a, ns, rfl, hS, hl, fun p H1 s1 np p1 => ?_⟩
    clear hS hl
    walk_at "hs"
    refine ⟨p, 5, _, rfl, p1, by decide, by decide, fun d H2 d0 d1 b2 p2 => ?_⟩
    obtain ⟨n, hn⟩ : ∃ n : Nat, 2 + d = (n : Int) := ⟨(2 + d).toNat, by omega⟩
    walk_at "hs"
    rw [hn]
    refine ⟨p, n, _, rfl, p2, by omega, by omega, fun D hs H3 it hln b3 p3 eD => ?_⟩
    walk_at "hs"
    refine ⟨p, 8, _, rfl, p3, by decide, by decide, fun k H4 k0 k1 b4 p4 => ?_⟩
    have eD4 := b4 _ _ (fun z => p3.notTup _ (z ▸ eD)) eD
    walk_at "hs"
    refine ⟨p, D, hs, k, _, rfl, p4, eD4, it, by omega, by omega, fun m u g us ms H5 lm ok b5 p5 em eu pu eg => ?_⟩
    have eD5 := b5 _ _ (fun z => p4.notTup _ (z ▸ eD4)) eD4
    have sm : SqT K H5 m [.ref u, .ref g] := .of em
    have l80 : ms.length ≤ 80 := by omega
    have ml : us.length = ms.length := pu.len
    clear p1 np s1 b2 p2 p3 b3 eD p4 b4 eD4 b5 em
    walk_at "hs"
    refine x_make ?_
    walk_at "hs"
    refine x_make ?_
    walk_at "hs"
    intro t1 dm hm hdm hne
    refine spTree_of it eD5 hm hdm hne fun H7 s7 tr1 => ?_
    walk_at "hs"
    refine make_hist tr1 it (s7 _ _ eu) (pu.same s7) ok (by omega) fun h1 H8 nh1 s8 hi1 => ?_
    have s58 := s7.trans s8
    have e_D := s58 _ _ eD5
    have e_u := s58 _ _ eu
    have p_u := pu.same s58
    have p8 := p5.same s58
    clear s7 s8 s58 eD5 eu pu eg p5 sm tr1 hm hdm hne nh1
    walk_at "hs"
    intro S nS
    have s9 : Same H8 (upd H8 S (.lst [])) := same_new (Same.refl _) nS
    have eS : upd H8 S (.lst []) S = some (.lst []) := upd_same
    generalize upd H8 S (.lst []) = H9 at s9 eS ⊢
    walk_at "hs"
    rw [ml]
    refine ⟨ms.length, rfl, by omega, fun L rs H10 s10 nL eL tl => ?_⟩
    have nSL : L ≠ S := Ne.symm (ne_of_none eS nL)
    have eS10 := s10 _ _ eS
    have rl := tl.1
    have ll : (lotsN ms.length).length ≤ 1024 := by
      rw [lots_len]
      exact Nat.le_trans (Nat.pow_le_pow_right (by decide) (show ms.length ≤ 10 by omega)) (by decide)
    have s810 := s9.trans s10
    clear eS s10 nL s9
    refine ⟨L, rfl, ⟨_, .of eL⟩, ?_⟩
    refine lp_list (K := K) (xs := refs rs) (fun i σ' G => (∃ x8 x9, σ' = [some (.ref a), some (.ref p), some (.int n), some (.ref D), some (.ref u), some (.ref g), some (.ref h1), some (.ref S), x8, x9, none, none, none]) ∧ Same H8 G ∧ G L = some (.lst (refs rs)) ∧ TlAt G rs (lotsN ms.length) ∧ ∃ ws, G S = some (.lst (refs ws)) ∧ TlAt G ws (((lotsN ms.length).take i).filter (sfB hs ms)))
      ⟨⟨_, _, rfl⟩, s810, eL, tl, [], eS10, TlAt.nil _⟩ (fun i σ G _ h => .of h.2.2.1) ?_ ?_
    · clear eL tl eS10 s810
      rintro i v σ' G hv ⟨⟨x8, x9, rfl⟩, s1, eL, tl, ws, eS, tw⟩
      have hj : i < (lotsN ms.length).length := by
        have := (List.getElem?_eq_some_iff.mp hv).1
        rw [refs_length, rl] at this
        exact this
      obtain ⟨la, ha, ea⟩ := tl.get hj
      obtain rfl : v = .ref la := Option.some.inj (hv.symm.trans (refs_get ha))
      obtain ⟨asc, lt⟩ := lots_asc (List.getElem_mem hj)
      have wl : ws.length ≤ i := by
        rw [tw.1]
        have := List.length_filter_le (sfB hs ms) ((lotsN ms.length).take i)
        rw [List.length_take] at this
        omega
      have nx : ((lotsN ms.length).take (i + 1)).filter (sfB hs ms) = ((lotsN ms.length).take i).filter (sfB hs ms) ++ [(lotsN ms.length)[i]].filter (sfB hs ms) := by
        rw [List.take_add_one, List.getElem?_eq_getElem hj, List.filter_append]
        rfl
      have sf := sfB_iff hs ms (lotsN ms.length)[i]
      generalize (lotsN ms.length)[i] = cs at ea asc lt nx sf
      walk_at "hs"
      refine ⟨D, u, la, hs, us, ms, cs, rfl, s1 _ _ e_D, s1 _ _ e_u, p_u.same s1, it, ok, l80, ea, asc, lt, fun G2 r s2 hr => ?_⟩
      obtain rfl : r = sfB hs ms cs := by rw [Bool.eq_iff_iff, hr, sf]
      have s12 := s1.trans s2
      walk_at "hs"
      refine ⟨h1, la, hs, ms, cs, rfl, hi1.same s12, it, ok, l80, s2 _ _ ea, asc, lt, fun G3 r s3 hr2 => ?_⟩
      obtain rfl : r = sfB hs ms cs := by rw [Bool.eq_iff_iff, hr2, sf]
      have s13 := s12.trans s3
      walk_at "hs"
      refine ⟨h1, la, hs, ms, cs, rfl, hi1.same s13, it, ok, l80, s3 _ _ (s2 _ _ ea), asc, lt, fun G4 r s4 hr3 => ?_⟩
      obtain rfl : r = sfB hs ms cs := by rw [Bool.eq_iff_iff, hr3, sf]
      have s14 := s13.trans s4
      have s24 := (s2.trans s3).trans s4
      have eL4 := s24 _ _ eL
      have eS4 := s24 _ _ eS
      have tl4 := tl.same s24
      have tw4 := tw.same s24
      have ea4 := s24 _ _ ea
      clear eL eS tl tw ea s1 s2 s3 s4 s12 s13 s24 hr hr2 hr3
      walk_at "hs"
      refine x_isdF (fun z => z rfl) ?_
      walk_at "hs"
      cases e : sfB hs ms cs with
      | true =>
        rw [e] at sf
        walk_at "hs"
        refine x_append eS4 (szLt (by rw [refs_length]; omega)) ?_
        have b7 : But S G4 (upd G4 S (.lst (refs ws ++ [.ref la]))) := But.mut (But.refl _ _)
        have nt : ∀ xs, G4 S ≠ some (.tup xs) := fun xs z => by rw [eS4] at z; cases z
        refine ⟨⟨_, _, rfl⟩, same_mut s14 nS, b7 _ _ nSL eL4, tl4.but b7 nt, ws ++ [la], by rw [upd_same, refs_snoc], ?_⟩
        rw [nx, List.filter_cons, if_pos e, List.filter_nil]
        exact (tw4.but b7 nt).snoc (b7 _ _ (fun z => nt _ (z ▸ ea4)) ea4)
      | false =>
        walk_at "hs"
        refine ⟨⟨_, _, rfl⟩, s14, eL4, tl4, ws, eS4, ?_⟩
        rw [nx, List.filter_cons, if_neg (by rw [e]; simp), List.filter_nil, List.append_nil]
        exact tw4
    · rintro σ' G ⟨⟨x8, x9, rfl⟩, s1, eL1, tl1, ws, eS1, tw⟩
      rw [refs_length, rl, List.take_length] at tw
      have I := few_inv it ok ms.length (Nat.le_refl _)
      have fl : (gst (badC hs ms) ms.length).2.length ≤ ms.length := asc_len I.asc I.lt
      have gm : (gst (badC hs ms) ms.length).2 ∈ (lotsN ms.length).filter (sfB hs ms) := List.mem_filter.mpr ⟨lots_all I.asc I.lt, few_safe it ok⟩
      have bests : ∀ u ∈ (lotsN ms.length).filter (sfB hs ms), u.length ≤ 2000 ∧ (gst (badC hs ms) ms.length).2.length ≤ u.length ∧ (u.length = (gst (badC hs ms) ms.length).2.length → Pw u (gst (badC hs ms) ms.length).2) := fun u hu => by
        obtain ⟨m1, m2⟩ := List.mem_filter.mp hu
        obtain ⟨u1, u2⟩ := lots_asc m1
        have := asc_len u1 u2
        exact ⟨by omega, few_best it ok u1 u2 m2⟩
      have fll : ((lotsN ms.length).filter (sfB hs ms)).length ≤ 2000 := by
        have := List.length_filter_le (sfB hs ms) (lotsN ms.length)
        omega
      generalize (lotsN ms.length).filter (sfB hs ms) = good at tw gm bests fll
      clear eL eL1 tl tl1 eS10 ll rl
      walk_at "hs"
      refine ⟨h1, hs, ms, rfl, hi1.same s1, it, ok, l80, fun G2 T1 s2 _ eT1 => ?_⟩
      walk_at "hs"
      refine ⟨S, ws, good, _, rfl, s2 _ _ eS1, tw.same s2, fll, gm, bests, fun G3 T2 s3 eT2 => ?_⟩
      refine x_neTup (.of (s3 _ _ eT1)) (.of eT2) ?_
      rw [decide_eq_true rfl]
      have s13 := (s1.trans s2).trans s3
      clear eT1 eT2 tw gm bests fll eS1
      walk_at "hs"
      refine ⟨h1, hs, ms, rfl, hi1.same s13, it, ok, l80, fun G4 T3 s4 _ eT3 => ?_⟩
      have p9 := p8.same (s13.trans s4)
      clear hi1 s13 s4 s3 s2 s1 p8 e_D e_u p_u s810
      walk_at "hs"
      clear eT3 I fl
      refine ⟨p, 12, _, rfl, p9, by decide, by decide, fun d2 H5 e0 e1 b5 p10 => ?_⟩
      clear b5 p9
      walk_at "hs"
      refine x_isd (fun c => ?_) (fun c => ?_)
      · walk_at "hs"
        exact q _
      walk_at "hs"
      refine ⟨p, 40, _, rfl, p10, by decide, by decide, fun D2 hs2 H6 it2 hl2 b6 p6 eD2 => ?_⟩
      walk_at "hs"
      refine ⟨p, 30, _, rfl, p6, by decide, by decide, fun k2 H7 k20 k21 b7 p7 => ?_⟩
      have eD7 := b7 _ _ (fun z => p6.notTup _ (z ▸ eD2)) eD2
      walk_at "hs"
      refine ⟨p, D2, hs2, 40 + k2, _, rfl, p7, eD7, it2, by omega, by omega, fun m2 u2 g2 us2 ms2 H11 lm2 ok2 b11 p11 em2 eu2 pu2 eg2 => ?_⟩
      have eD11 := b11 _ _ (fun z => p7.notTup _ (z ▸ eD7)) eD7
      have sm2 : SqT K H11 m2 [.ref u2, .ref g2] := .of em2
      have l82 : ms2.length ≤ 80 := by omega
      have ml2 : us2.length = ms2.length := pu2.len
      clear p10 b6 p6 eD2 b7 p7 eD7 b11 em2
      walk_at "hs"
      refine x_make ?_
      walk_at "hs"
      refine x_make ?_
      walk_at "hs"
      intro t2 dm2 hm2 hdm2 hne2
      refine spTree_of it2 eD11 hm2 hdm2 hne2 fun H12 s12 tr2 => ?_
      walk_at "hs"
      refine make_hist tr2 it2 (s12 _ _ eu2) (pu2.same s12) ok2 (by omega) fun h2 H13 nh2 s13 hi2 => ?_
      have s11 := s12.trans s13
      have e_D := s11 _ _ eD11
      have e_u := s11 _ _ eu2
      have p_u := pu2.same s11
      have p13 := p11.same s11
      clear s12 s13 s11 eD11 eu2 pu2 eg2 p11 sm2 tr2 hm2 hdm2 hne2 nh2
      walk_at "hs"
      refine ⟨h2, hs2, ms2, rfl, hi2, it2, ok2, l82, fun H14 T s14 _ eT => ?_⟩
      have I := few_inv it2 ok2 ms2.length (Nat.le_refl _)
      have sf := (sfB_iff ..).1 (few_safe it2 ok2)
      have asc := I.asc
      have lt := I.lt
      have gl := asc_len asc lt
      clear I
      generalize (gst (badC hs2 ms2) ms2.length).2 = g at eT sf asc lt gl
      walk_at "hs"
      refine ⟨h2, T, hs2, ms2, g, rfl, hi2.same s14, it2, ok2, l82, eT, asc, lt, fun H15 r s15 hr => ?_⟩
      obtain rfl : r = true := hr.2 sf
      have s_ := s14.trans s15
      walk_at "hs"
      refine ⟨some true, true, rfl, rfl, ?_⟩
      rw [decide_eq_true rfl]
      walk_at "hs"
      refine ⟨D2, u2, T, hs2, us2, ms2, g, rfl, s_ _ _ e_D, s_ _ _ e_u, p_u.same s_, it2, ok2, l82, s15 _ _ eT, asc, lt, fun H16 r s16 hr => ?_⟩
      obtain rfl : r = true := hr.2 sf
      have s16' := s_.trans s16
      have eT16 := s16 _ _ (s15 _ _ eT)
      have e_D16 := s16' _ _ e_D
      have e_u16 := s16' _ _ e_u
      have p_u16 := p_u.same s16'
      have p16 := p13.same s16'
      have hi16 := hi2.same s16'
      clear e_D e_u p_u p13 hi2 s14 s15 s16 s16' s_ hr eT
      have sT16 : SqT K H16 T (nats g) := .of eT16
      walk_at "hs"
      rw [nats_length]
      refine x_isd (fun c => ?_) (fun c => ?_)
      · walk_at "hs"
        exact q _
      walk_at "hs"
      rw [nats_length]
      refine ⟨p, (g.length : Nat), _, rfl, p16, by omega, by omega, fun d5 H17 f0 f1 b17 p17 => ?_⟩
      obtain ⟨j, rfl⟩ : ∃ j : Nat, d5 = (j : Int) := ⟨d5.toNat, by omega⟩
      have jl : j < g.length := by omega
      have eT17 := b17 _ _ (fun z => p16.notTup _ (z ▸ eT16)) eT16
      have e_D17 := b17 _ _ (fun z => p16.notTup _ (z ▸ e_D16)) e_D16
      have e_u17 := b17 _ _ (fun z => p16.notTup _ (z ▸ e_u16)) e_u16
      have p_u17 := p_u16.but b17 p16.notTup
      have hi17 := hi16.pool p16 b17
      clear eT16 e_D16 e_u16 p_u16 hi16 sT16 p16 p17 b17
      have sT17 : SqT K H17 T (nats g) := .of eT17
      have aj : atI (nats g) ((j : Nat) : Int) = some (.int (g[j] : Nat)) := atI_nat (nats_get (List.getElem?_eq_getElem jl))
      walk_at "hs"
      refine x_slA eT17 fun A1 H18 s18 e18 => ?_
      rw [cut_to] at e18
      have sT18 := s18.seqT sT17
      walk_at "hs"
      refine ⟨_, _, rfl, ?_⟩
      have gj : g[j] < ms2.length := lt _ (List.getElem_mem jl)
      obtain ⟨mm, em, ml3⟩ : ∃ mm : Nat, (if ((us2.length : Nat) : Int) - 1 < ((g[j] : Nat) : Int) + 1 then ((us2.length : Nat) : Int) - 1 else ((g[j] : Nat) : Int) + 1) = (mm : Nat) ∧ mm < ms2.length := by
        by_cases c2 : ((us2.length : Nat) : Int) - 1 < ((g[j] : Nat) : Int) + 1
        · rw [if_pos c2]
          exact ⟨us2.length - 1, by omega, by omega⟩
        · rw [if_neg c2]
          exact ⟨g[j] + 1, by omega, by omega⟩
      rw [em]
      walk_at "hs"
      intro E1 nE1
      have s19 : Same H18 (upd H18 E1 (.tup [.int (mm : Nat)])) := same_new (Same.refl _) nE1
      have eE1 : upd H18 E1 (.tup [.int (mm : Nat)]) E1 = some (.tup [.int (mm : Nat)]) := upd_same
      generalize upd H18 E1 (.tup [.int (mm : Nat)]) = H19 at s19 eE1 ⊢
      refine x_catA (s19 _ _ e18) eE1 (by rw [List.length_take, nats_length]; show _ + 1 ≤ _; omega) fun A2 H20 s20 e20 => ?_
      have s1720 := (s18.trans s19).trans s20
      have sT20 := s1720.seqT sT17
      walk_at "hs"
      refine x_slA (s1720 _ _ eT17) fun A3 H21 s21 e21 => ?_
      have cf : cutV (nats g) (some ((j : Int) + 1)) none = (nats g).drop (j + 1) := by
        unfold cutV
        rw [show (j : Int) + 1 = ((j + 1 : Nat) : Int) by omega, HT.sIx_nat, HT.sIx_none, nats_length, Nat.min_eq_left (by omega), List.take_of_length_le (by rw [List.length_drop, nats_length]; omega)]
      rw [cf] at e21
      walk_at "hs"
      refine x_catA (s21 _ _ e20) e21 (by rw [List.length_append, List.length_take, List.length_drop, nats_length]; show _ + 1 + _ ≤ _; omega) fun A4 H22 s22 e22 => ?_
      have el : (nats g).take j ++ [V.int (mm : Nat)] ++ (nats g).drop (j + 1) = nats (g.take j ++ [mm] ++ g.drop (j + 1)) := by
        unfold nats
        rw [List.map_append, List.map_append, List.map_take, List.map_drop]
        rfl
      rw [el] at e22
      have l200 : (g.take j ++ [mm] ++ g.drop (j + 1)).length ≤ 100 := by
        rw [List.length_append, List.length_append, List.length_take, List.length_drop]
        show _ + 1 + _ ≤ _
        omega
      have lin : ∀ c ∈ g.take j ++ [mm] ++ g.drop (j + 1), c ≤ ms2.length - 1 := fun c hc => by
        have : c < ms2.length := by
          rcases List.mem_append.mp hc with hc | hc
          · rcases List.mem_append.mp hc with hc | hc
            · exact lt c (List.mem_of_mem_take hc)
            · rw [List.mem_singleton.mp hc]
              exact ml3
          · exact lt c (List.mem_of_mem_drop hc)
        omega
      have s1722 := (s1720.trans s21).trans s22
      generalize g.take j ++ [mm] ++ g.drop (j + 1) = l at e22 l200 lin
      clear el e21 cf e20 eE1 e18 s18 s19 s20 s21 s22 s1720 sT20 sT18 em aj nE1
      walk_at "hs"
      refine ⟨A4, intsN l, rfl, by rw [ints_nats]; exact .of e22, by rw [intsN_len]; omega, fun S2 c2 nS2 hc2 => ?_⟩
      rw [intsN_len] at hc2
      walk_at "hs"
      refine ⟨S2, _, c2, rfl, upd_same, by omega, fun zs L2 zasc zmem zln nL2 => ?_⟩
      obtain rfl := hadL_only lin zasc zmem
      have casc := hadL_asc (ms2.length - 1) l
      have clt : ∀ c ∈ hadL (ms2.length - 1) l, c < ms2.length := fun c hc => by
        have := (hadL_mem.1 hc).1
        omega
      generalize hadL (ms2.length - 1) l = cs at casc clt zasc zmem zln
      rw [ints_nats]
      walk_at "hs"
      intro T4 nT4
      have s1723 := s1722.trans (((same_new (Same.refl _) nS2).trans (same_new (Same.refl _) nL2)).trans (same_new (Same.refl _) nT4) : Same H22 (upd (upd (upd H22 S2 (SetO w S2 (fun j => decide (j ∈ intsN l)) c2)) L2 (HO.lst (nats cs))) T4 (HO.tup (nats cs))))
      have eT4 := upd_same (H := upd (upd H22 S2 (SetO w S2 (fun j => decide (j ∈ intsN l)) c2)) L2 (HO.lst (nats cs))) (a := T4) (o := HO.tup (nats cs))
      generalize upd (upd (upd H22 S2 (SetO w S2 (fun j => decide (j ∈ intsN l)) c2)) L2 (HO.lst (nats cs))) T4 (HO.tup (nats cs)) = H23 at s1723 eT4 ⊢
      have eT23 := s1723 _ _ eT17
      have e_D23 := s1723 _ _ e_D17
      have e_u23 := s1723 _ _ e_u17
      have p_u23 := p_u17.same s1723
      have hi23 := hi17.same s1723
      clear s1722 s1723 e22 e_D17 e_u17 p_u17 hi17 eT17 sT17
      walk_at "hs"
      refine x_eqTup (.of eT4) (.of eT23) ?_
      refine ⟨_, rfl, ?_⟩
      refine x_isd (fun _ => q _) (fun _ => ?_)
      walk_at "hs"
      refine ⟨h2, T4, hs2, ms2, cs, rfl, hi23, it2, ok2, l82, eT4, casc, clt, fun H24 r s24 hr => ?_⟩
      walk_at "hs"
      refine ⟨D2, u2, T4, hs2, us2, ms2, cs, rfl, s24 _ _ e_D23, s24 _ _ e_u23, p_u23.same s24, it2, ok2, l82, s24 _ _ eT4, casc, clt, fun H25 r2 s25 hr2 => ?_⟩
      obtain rfl : r = r2 := by rw [Bool.eq_iff_iff, hr, hr2]
      walk_at "hs"
      rw [decide_eq_true rfl]
      exact q _
end
set_option maxRecDepth 100000
set_option maxHeartbeats 4000000
open PySem PySem.Spec L2 PyProof.Rows
theorem kit_ref {K : PySem.W.Frag} {t : Value} {C : Addr} {b : Bool} (hn : (t == Value.ref C) = false) (h : PySem.W.isClsIn K C = true) (ht : PySem.W.typeIn K (.ref C) = some (.type "type")) (hs : PySem.W.subIn K t (.ref C) = some b) : PySem.W.kitOne K t (.ref C) = some b := by
  have e2 : ((PySem.W.clsIn K C).isSome && PySem.W.typeIn K (.ref C) == some (.type "type")) = true := by
    have h2' : (PySem.W.clsIn K C).isSome = true := h
    rw [h2', ht] <;> rfl
  unfold PySem.W.kitOne
  rw [hn, if_neg Bool.false_ne_true]
  show (if ((PySem.W.clsIn K C).isSome && PySem.W.typeIn K (.ref C) == some (.type "type")) = true then PySem.W.subIn K t (.ref C) else none) = some b
  rw [if_pos e2]
  exact hs
theorem kit_typ {K : PySem.W.Frag} {C : Addr} {T : String} {b : Bool} (hm : PySem.W.kitMeta T = true) (h : PySem.W.subIn K (.ref C) (.type T) = some b) : PySem.W.kitOne K (.ref C) (.type T) = some b := by
  unfold PySem.W.kitOne
  rw [if_neg (by simp)]
  show (if PySem.W.kitMeta T = true then PySem.W.subIn K (.ref C) (.type T) else none) = some b
  rw [if_pos hm]
  exact h
theorem sub_tuple (K : PySem.W.Frag) (C : Addr) : PySem.W.subIn K (.type "tuple") (.ref C) = some false := by
  have e2 : PySem.fastBuiltinMro "tuple" = some [.type "tuple", .type "object"] := by decide +kernel
  show (PySem.fastBuiltinMro "tuple").map (·.contains (Value.ref C)) = some false
  rw [e2]
  rfl
theorem sub_int (K : PySem.W.Frag) (C : Addr) : PySem.W.subIn K (.type "int") (.ref C) = some false := by
  have e2 : PySem.fastBuiltinMro "int" = some [.type "int", .type "object"] := by decide +kernel
  show (PySem.fastBuiltinMro "int").map (·.contains (Value.ref C)) = some false
  rw [e2]
  rfl
theorem sub_bt (K : PySem.W.Frag) (C : Addr) {T : String} {l : List Value} (e2 : PySem.fastBuiltinMro T = some l) (h : l.contains (Value.ref C) = false) : PySem.W.subIn K (.type T) (.ref C) = some false := by
  show (PySem.fastBuiltinMro T).map (·.contains (Value.ref C)) = some false
  rw [e2, Option.map_some, h]
theorem exm3 {K : PySem.W.Frag} {c a b d : Value} {x y z : Bool} (h : PySem.W.exmOne K c a = some x) (h2 : PySem.W.exmOne K c b = some y) (h3 : PySem.W.exmOne K c d = some z) (e : (x || (y || (z || false))) = true) : PySem.W.exmAny K c [a, b, d] = some true := by
  simp only [PySem.W.exmAny, h, h2, h3, e]
theorem all_mk {P : Program} {w : World} {K : PySem.W.Frag} {h : Heap} {mg : Str → Option Value} {fa : Addr} (X : K.In h) (G : h.Ns mainGlobals mg) (hfa : mg "law" = some (.ref fa))
    {c_VoteError : Addr}
    {c_BadTree : Addr}
    {c_NoBlock : Addr}
    {c_NoPlace : Addr}
    {c_Beneath : Addr}
    {c_BadHistory : Addr}
    {c_Tree : Addr}
    {c_History : Addr}
    {t_MOST_BLOCKS : PySem.Tok}
    {t_MOST_MOVES : PySem.Tok}
    {f_BadTree___init__ : Addr} {od_BadTree___init__ an_BadTree___init__ : Option Addr} {sl_BadTree___init__ : Array (Option Value)} {oc_BadTree___init__ kV_BadTree___init__ dc_BadTree___init__ pm_BadTree___init__ cd_BadTree___init__ ct_BadTree___init__ : Value}
    {f_BadHistory___init__ : Addr} {od_BadHistory___init__ an_BadHistory___init__ : Option Addr} {sl_BadHistory___init__ : Array (Option Value)} {oc_BadHistory___init__ kV_BadHistory___init__ dc_BadHistory___init__ pm_BadHistory___init__ cd_BadHistory___init__ ct_BadHistory___init__ : Value}
    {f_is_within : Addr} {od_is_within an_is_within : Option Addr} {sl_is_within : Array (Option Value)} {oc_is_within kV_is_within dc_is_within pm_is_within cd_is_within ct_is_within : Value}
    {f_is_pair : Addr} {od_is_pair an_is_pair : Option Addr} {sl_is_pair : Array (Option Value)} {oc_is_pair kV_is_pair dc_is_pair pm_is_pair cd_is_pair ct_is_pair : Value}
    {f_is_ascending : Addr} {od_is_ascending an_is_ascending : Option Addr} {sl_is_ascending : Array (Option Value)} {oc_is_ascending kV_is_ascending dc_is_ascending pm_is_ascending cd_is_ascending ct_is_ascending : Value}
    {f_is_lot_within : Addr} {od_is_lot_within an_is_lot_within : Option Addr} {sl_is_lot_within : Array (Option Value)} {oc_is_lot_within kV_is_lot_within dc_is_lot_within pm_is_lot_within cd_is_lot_within ct_is_lot_within : Value}
    {f_Tree___init__ : Addr} {od_Tree___init__ an_Tree___init__ : Option Addr} {sl_Tree___init__ : Array (Option Value)} {oc_Tree___init__ kV_Tree___init__ dc_Tree___init__ pm_Tree___init__ cd_Tree___init__ ct_Tree___init__ : Value}
    {f__comes_to_head : Addr} {od__comes_to_head an__comes_to_head : Option Addr} {sl__comes_to_head : Array (Option Value)} {oc__comes_to_head kV__comes_to_head dc__comes_to_head pm__comes_to_head cd__comes_to_head ct__comes_to_head : Value}
    {f_is_block : Addr} {od_is_block an_is_block : Option Addr} {sl_is_block : Array (Option Value)} {oc_is_block kV_is_block dc_is_block pm_is_block cd_is_block ct_is_block : Value}
    {f_is_place : Addr} {od_is_place an_is_place : Option Addr} {sl_is_place : Array (Option Value)} {oc_is_place kV_is_place dc_is_place pm_is_place cd_is_place ct_is_place : Value}
    {f_place_of : Addr} {od_place_of an_place_of : Option Addr} {sl_place_of : Array (Option Value)} {oc_place_of kV_place_of dc_place_of pm_place_of cd_place_of ct_place_of : Value}
    {f_parents : Addr} {od_parents an_parents : Option Addr} {sl_parents : Array (Option Value)} {oc_parents kV_parents dc_parents pm_parents cd_parents ct_parents : Value}
    {f_beneath : Addr} {od_beneath an_beneath : Option Addr} {sl_beneath : Array (Option Value)} {oc_beneath kV_beneath dc_beneath pm_beneath cd_beneath ct_beneath : Value}
    {f_moved : Addr} {od_moved an_moved : Option Addr} {sl_moved : Array (Option Value)} {oc_moved kV_moved dc_moved pm_moved cd_moved ct_moved : Value}
    {f_History___init__ : Addr} {od_History___init__ an_History___init__ : Option Addr} {sl_History___init__ : Array (Option Value)} {oc_History___init__ kV_History___init__ dc_History___init__ pm_History___init__ cd_History___init__ ct_History___init__ : Value}
    {f__ties_of : Addr} {od__ties_of an__ties_of : Option Addr} {sl__ties_of : Array (Option Value)} {oc__ties_of kV__ties_of dc__ties_of pm__ties_of cd__ties_of ct__ties_of : Value}
    {f_is_calm : Addr} {od_is_calm an_is_calm : Option Addr} {sl_is_calm : Array (Option Value)} {oc_is_calm kV_is_calm dc_is_calm pm_is_calm cd_is_calm ct_is_calm : Value}
    {f_fewest_calms : Addr} {od_fewest_calms an_fewest_calms : Option Addr} {sl_fewest_calms : Array (Option Value)} {oc_fewest_calms kV_fewest_calms dc_fewest_calms pm_fewest_calms cd_fewest_calms ct_fewest_calms : Value}
    {f__leads_to : Addr} {od__leads_to an__leads_to : Option Addr} {sl__leads_to : Array (Option Value)} {oc__leads_to kV__leads_to dc__leads_to pm__leads_to cd__leads_to ct__leads_to : Value}
    {f__law_hand : Addr} {od__law_hand an__law_hand : Option Addr} {sl__law_hand : Array (Option Value)} {oc__law_hand kV__law_hand dc__law_hand pm__law_hand cd__law_hand ct__law_hand : Value}
    {f__law_draw : Addr} {od__law_draw an__law_draw : Option Addr} {sl__law_draw : Array (Option Value)} {oc__law_draw kV__law_draw dc__law_draw pm__law_draw cd__law_draw ct__law_draw : Value}
    {f__law_tree : Addr} {od__law_tree an__law_tree : Option Addr} {sl__law_tree : Array (Option Value)} {oc__law_tree kV__law_tree dc__law_tree pm__law_tree cd__law_tree ct__law_tree : Value}
    {f__law_row : Addr} {od__law_row an__law_row : Option Addr} {sl__law_row : Array (Option Value)} {oc__law_row kV__law_row dc__law_row pm__law_row cd__law_row ct__law_row : Value}
    {f__law_beneath : Addr} {od__law_beneath an__law_beneath : Option Addr} {sl__law_beneath : Array (Option Value)} {oc__law_beneath kV__law_beneath dc__law_beneath pm__law_beneath cd__law_beneath ct__law_beneath : Value}
    {f__law_put : Addr} {od__law_put an__law_put : Option Addr} {sl__law_put : Array (Option Value)} {oc__law_put kV__law_put dc__law_put pm__law_put cd__law_put ct__law_put : Value}
    {f__law_moves : Addr} {od__law_moves an__law_moves : Option Addr} {sl__law_moves : Array (Option Value)} {oc__law_moves kV__law_moves dc__law_moves pm__law_moves cd__law_moves ct__law_moves : Value}
    {f__law_had : Addr} {od__law_had an__law_had : Option Addr} {sl__law_had : Array (Option Value)} {oc__law_had kV__law_had dc__law_had pm__law_had cd__law_had ct__law_had : Value}
    {f__law_is_round : Addr} {od__law_is_round an__law_is_round : Option Addr} {sl__law_is_round : Array (Option Value)} {oc__law_is_round kV__law_is_round dc__law_is_round pm__law_is_round cd__law_is_round ct__law_is_round : Value}
    {f__law_is_safe : Addr} {od__law_is_safe an__law_is_safe : Option Addr} {sl__law_is_safe : Array (Option Value)} {oc__law_is_safe kV__law_is_safe dc__law_is_safe pm__law_is_safe cd__law_is_safe ct__law_is_safe : Value}
    {f__law_lots : Addr} {od__law_lots an__law_lots : Option Addr} {sl__law_lots : Array (Option Value)} {oc__law_lots kV__law_lots dc__law_lots pm__law_lots cd__law_lots ct__law_lots : Value}
    {f__law_least : Addr} {od__law_least an__law_least : Option Addr} {sl__law_least : Array (Option Value)} {oc__law_least kV__law_least dc__law_least pm__law_least cd__law_least ct__law_least : Value}
    {f_law : Addr} {od_law an_law : Option Addr} {sl_law : Array (Option Value)} {oc_law kV_law dc_law pm_law cd_law ct_law : Value}
    {nmBadTree qBadTree : Str} {NBadTree : Addr} {bsBadTree bmBadTree : List Value} {snBadTree : List Str} {subBadTree : List Value} {abBadTree : Bool} {colBadTree : Option Bool} {ddBadTree : Option Addr} {m0BadTree m1BadTree m2BadTree m3BadTree m5BadTree : Option Value}
    {nmBadHistory qBadHistory : Str} {NBadHistory : Addr} {bsBadHistory bmBadHistory : List Value} {snBadHistory : List Str} {subBadHistory : List Value} {abBadHistory : Bool} {colBadHistory : Option Bool} {ddBadHistory : Option Addr} {m0BadHistory m1BadHistory m2BadHistory m3BadHistory m5BadHistory : Option Value}
    {nmUNoBlock qUNoBlock : Str} {NUNoBlock : Addr} {bsUNoBlock bmUNoBlock : List Value} {snUNoBlock : List Str} {subUNoBlock : List Value} {abUNoBlock : Bool} {colUNoBlock : Option Bool} {ddUNoBlock : Option Addr} {u0NoBlock u1NoBlock u2NoBlock u3NoBlock u5NoBlock : Option Value} {f_UNoBlock : Addr} {ocUNoBlock : Value} {odUNoBlock anUNoBlock : Option Addr} {kVUNoBlock docUNoBlock pmUNoBlock ctUNoBlock : Value} {cdUNoBlock ccUNoBlock : Addr} {slUNoBlock : Array (Option Value)} {qqUNoBlock : Str} {eNoBlock p0NoBlock p1NoBlock p2NoBlock p3NoBlock p4NoBlock : Pos} {clUNoBlock : Value} {cldUNoBlock : Option Addr} {cslUNoBlock : Array (Option Value)} {cclUNoBlock : Value} {cddUNoBlock : Option Addr} {vsUNoBlock : Array Value} {ccsUNoBlock : Array (Option Value)} {fileUNoBlock : Str} {tfUNoBlock : Tok}
    {nmUNoPlace qUNoPlace : Str} {NUNoPlace : Addr} {bsUNoPlace bmUNoPlace : List Value} {snUNoPlace : List Str} {subUNoPlace : List Value} {abUNoPlace : Bool} {colUNoPlace : Option Bool} {ddUNoPlace : Option Addr} {u0NoPlace u1NoPlace u2NoPlace u3NoPlace u5NoPlace : Option Value} {f_UNoPlace : Addr} {ocUNoPlace : Value} {odUNoPlace anUNoPlace : Option Addr} {kVUNoPlace docUNoPlace pmUNoPlace ctUNoPlace : Value} {cdUNoPlace ccUNoPlace : Addr} {slUNoPlace : Array (Option Value)} {qqUNoPlace : Str} {eNoPlace p0NoPlace p1NoPlace p2NoPlace p3NoPlace p4NoPlace : Pos} {clUNoPlace : Value} {cldUNoPlace : Option Addr} {cslUNoPlace : Array (Option Value)} {cclUNoPlace : Value} {cddUNoPlace : Option Addr} {vsUNoPlace : Array Value} {ccsUNoPlace : Array (Option Value)} {fileUNoPlace : Str} {tfUNoPlace : Tok}
    {nmUBeneath qUBeneath : Str} {NUBeneath : Addr} {bsUBeneath bmUBeneath : List Value} {snUBeneath : List Str} {subUBeneath : List Value} {abUBeneath : Bool} {colUBeneath : Option Bool} {ddUBeneath : Option Addr} {u0Beneath u1Beneath u2Beneath u3Beneath u5Beneath : Option Value} {f_UBeneath : Addr} {ocUBeneath : Value} {odUBeneath anUBeneath : Option Addr} {kVUBeneath docUBeneath pmUBeneath ctUBeneath : Value} {cdUBeneath ccUBeneath : Addr} {slUBeneath : Array (Option Value)} {qqUBeneath : Str} {eBeneath p0Beneath p1Beneath p2Beneath p3Beneath p4Beneath : Pos} {clUBeneath : Value} {cldUBeneath : Option Addr} {cslUBeneath : Array (Option Value)} {cclUBeneath : Value} {cddUBeneath : Option Addr} {vsUBeneath : Array Value} {ccsUBeneath : Array (Option Value)} {fileUBeneath : Str} {tfUBeneath : Tok}
    (n_VoteError : PySem.W.nsIn K mainGlobals "VoteError" = some (some (.ref c_VoteError)))
    (n_BadTree : PySem.W.nsIn K mainGlobals "BadTree" = some (some (.ref c_BadTree)))
    (n_NoBlock : PySem.W.nsIn K mainGlobals "NoBlock" = some (some (.ref c_NoBlock)))
    (n_NoPlace : PySem.W.nsIn K mainGlobals "NoPlace" = some (some (.ref c_NoPlace)))
    (n_Beneath : PySem.W.nsIn K mainGlobals "Beneath" = some (some (.ref c_Beneath)))
    (n_BadHistory : PySem.W.nsIn K mainGlobals "BadHistory" = some (some (.ref c_BadHistory)))
    (n_Tree : PySem.W.nsIn K mainGlobals "Tree" = some (some (.ref c_Tree)))
    (n_History : PySem.W.nsIn K mainGlobals "History" = some (some (.ref c_History)))
    (n_MOST_BLOCKS : PySem.W.nsIn K mainGlobals "MOST_BLOCKS" = some (some (.int 40 t_MOST_BLOCKS)))
    (n_MOST_MOVES : PySem.W.nsIn K mainGlobals "MOST_MOVES" = some (some (.int 100 t_MOST_MOVES)))
    (z_ValueError : PySem.W.nsIn K mainGlobals "ValueError" = some none)
    (z_abs : PySem.W.nsIn K mainGlobals "abs" = some none)
    (z_all : PySem.W.nsIn K mainGlobals "all" = some none)
    (z_bool : PySem.W.nsIn K mainGlobals "bool" = some none)
    (z_dict : PySem.W.nsIn K mainGlobals "dict" = some none)
    (z_enumerate : PySem.W.nsIn K mainGlobals "enumerate" = some none)
    (z_int : PySem.W.nsIn K mainGlobals "int" = some none)
    (z_isinstance : PySem.W.nsIn K mainGlobals "isinstance" = some none)
    (z_len : PySem.W.nsIn K mainGlobals "len" = some none)
    (z_list : PySem.W.nsIn K mainGlobals "list" = some none)
    (z_max : PySem.W.nsIn K mainGlobals "max" = some none)
    (z_min : PySem.W.nsIn K mainGlobals "min" = some none)
    (z_range : PySem.W.nsIn K mainGlobals "range" = some none)
    (z_set : PySem.W.nsIn K mainGlobals "set" = some none)
    (z_sorted : PySem.W.nsIn K mainGlobals "sorted" = some none)
    (z_str : PySem.W.nsIn K mainGlobals "str" = some none)
    (z_super : PySem.W.nsIn K mainGlobals "super" = some none)
    (z_tuple : PySem.W.nsIn K mainGlobals "tuple" = some none)
    (z_zip : PySem.W.nsIn K mainGlobals "zip" = some none)
    (a_BadTree___init__ : PySem.W.findIn K (.ref c_BadTree) "__init__" = some (some (.ref f_BadTree___init__)))
    (i_BadTree___init__ : PySem.W.isFn K (.ref f_BadTree___init__) = true)
    (l_BadTree___init__ : K.lookup f_BadTree___init__ = some ⟨oc_BadTree___init__, od_BadTree___init__, .func (PySem.W.fnOf "__init__" "BadTree.__init__" (defArgs s_BadTree___init__) (defBody s_BadTree___init__) (defScope s_BadTree___init__) .none kV_BadTree___init__ dc_BadTree___init__ pm_BadTree___init__ an_BadTree___init__ cd_BadTree___init__ ct_BadTree___init__), sl_BadTree___init__⟩)
    (c_BadTree___init__ : PySem.W.codeIn K cd_BadTree___init__ "BadTree.__init__" = true)
    (k_BadTree___init__ : PySem.W.keepIn K (.ref f_BadTree___init__) = true)
    (a_BadHistory___init__ : PySem.W.findIn K (.ref c_BadHistory) "__init__" = some (some (.ref f_BadHistory___init__)))
    (i_BadHistory___init__ : PySem.W.isFn K (.ref f_BadHistory___init__) = true)
    (l_BadHistory___init__ : K.lookup f_BadHistory___init__ = some ⟨oc_BadHistory___init__, od_BadHistory___init__, .func (PySem.W.fnOf "__init__" "BadHistory.__init__" (defArgs s_BadHistory___init__) (defBody s_BadHistory___init__) (defScope s_BadHistory___init__) .none kV_BadHistory___init__ dc_BadHistory___init__ pm_BadHistory___init__ an_BadHistory___init__ cd_BadHistory___init__ ct_BadHistory___init__), sl_BadHistory___init__⟩)
    (c_BadHistory___init__ : PySem.W.codeIn K cd_BadHistory___init__ "BadHistory.__init__" = true)
    (k_BadHistory___init__ : PySem.W.keepIn K (.ref f_BadHistory___init__) = true)
    (a_is_within : PySem.W.nsIn K mainGlobals "is_within" = some (some (.ref f_is_within)))
    (l_is_within : K.lookup f_is_within = some ⟨oc_is_within, od_is_within, .func (PySem.W.fnOf "is_within" "is_within" (defArgs s_is_within) (defBody s_is_within) (defScope s_is_within) .none kV_is_within dc_is_within pm_is_within an_is_within cd_is_within ct_is_within), sl_is_within⟩)
    (c_is_within : PySem.W.codeIn K cd_is_within "is_within" = true)
    (k_is_within : PySem.W.keepIn K (.ref f_is_within) = true)
    (a_is_pair : PySem.W.nsIn K mainGlobals "is_pair" = some (some (.ref f_is_pair)))
    (l_is_pair : K.lookup f_is_pair = some ⟨oc_is_pair, od_is_pair, .func (PySem.W.fnOf "is_pair" "is_pair" (defArgs s_is_pair) (defBody s_is_pair) (defScope s_is_pair) .none kV_is_pair dc_is_pair pm_is_pair an_is_pair cd_is_pair ct_is_pair), sl_is_pair⟩)
    (c_is_pair : PySem.W.codeIn K cd_is_pair "is_pair" = true)
    (k_is_pair : PySem.W.keepIn K (.ref f_is_pair) = true)
    (a_is_ascending : PySem.W.nsIn K mainGlobals "is_ascending" = some (some (.ref f_is_ascending)))
    (l_is_ascending : K.lookup f_is_ascending = some ⟨oc_is_ascending, od_is_ascending, .func (PySem.W.fnOf "is_ascending" "is_ascending" (defArgs s_is_ascending) (defBody s_is_ascending) (defScope s_is_ascending) .none kV_is_ascending dc_is_ascending pm_is_ascending an_is_ascending cd_is_ascending ct_is_ascending), sl_is_ascending⟩)
    (c_is_ascending : PySem.W.codeIn K cd_is_ascending "is_ascending" = true)
    (k_is_ascending : PySem.W.keepIn K (.ref f_is_ascending) = true)
    (a_is_lot_within : PySem.W.nsIn K mainGlobals "is_lot_within" = some (some (.ref f_is_lot_within)))
    (l_is_lot_within : K.lookup f_is_lot_within = some ⟨oc_is_lot_within, od_is_lot_within, .func (PySem.W.fnOf "is_lot_within" "is_lot_within" (defArgs s_is_lot_within) (defBody s_is_lot_within) (defScope s_is_lot_within) .none kV_is_lot_within dc_is_lot_within pm_is_lot_within an_is_lot_within cd_is_lot_within ct_is_lot_within), sl_is_lot_within⟩)
    (c_is_lot_within : PySem.W.codeIn K cd_is_lot_within "is_lot_within" = true)
    (k_is_lot_within : PySem.W.keepIn K (.ref f_is_lot_within) = true)
    (a_Tree___init__ : PySem.W.findIn K (.ref c_Tree) "__init__" = some (some (.ref f_Tree___init__)))
    (i_Tree___init__ : PySem.W.isFn K (.ref f_Tree___init__) = true)
    (l_Tree___init__ : K.lookup f_Tree___init__ = some ⟨oc_Tree___init__, od_Tree___init__, .func (PySem.W.fnOf "__init__" "Tree.__init__" (defArgs s_Tree___init__) (defBody s_Tree___init__) (defScope s_Tree___init__) .none kV_Tree___init__ dc_Tree___init__ pm_Tree___init__ an_Tree___init__ cd_Tree___init__ ct_Tree___init__), sl_Tree___init__⟩)
    (c_Tree___init__ : PySem.W.codeIn K cd_Tree___init__ "Tree.__init__" = true)
    (k_Tree___init__ : PySem.W.keepIn K (.ref f_Tree___init__) = true)
    (a__comes_to_head : PySem.W.nsIn K mainGlobals "_comes_to_head" = some (some (.ref f__comes_to_head)))
    (l__comes_to_head : K.lookup f__comes_to_head = some ⟨oc__comes_to_head, od__comes_to_head, .func (PySem.W.fnOf "_comes_to_head" "_comes_to_head" (defArgs s__comes_to_head) (defBody s__comes_to_head) (defScope s__comes_to_head) .none kV__comes_to_head dc__comes_to_head pm__comes_to_head an__comes_to_head cd__comes_to_head ct__comes_to_head), sl__comes_to_head⟩)
    (c__comes_to_head : PySem.W.codeIn K cd__comes_to_head "_comes_to_head" = true)
    (k__comes_to_head : PySem.W.keepIn K (.ref f__comes_to_head) = true)
    (a_is_block : PySem.W.nsIn K mainGlobals "is_block" = some (some (.ref f_is_block)))
    (l_is_block : K.lookup f_is_block = some ⟨oc_is_block, od_is_block, .func (PySem.W.fnOf "is_block" "is_block" (defArgs s_is_block) (defBody s_is_block) (defScope s_is_block) .none kV_is_block dc_is_block pm_is_block an_is_block cd_is_block ct_is_block), sl_is_block⟩)
    (c_is_block : PySem.W.codeIn K cd_is_block "is_block" = true)
    (k_is_block : PySem.W.keepIn K (.ref f_is_block) = true)
    (a_is_place : PySem.W.nsIn K mainGlobals "is_place" = some (some (.ref f_is_place)))
    (l_is_place : K.lookup f_is_place = some ⟨oc_is_place, od_is_place, .func (PySem.W.fnOf "is_place" "is_place" (defArgs s_is_place) (defBody s_is_place) (defScope s_is_place) .none kV_is_place dc_is_place pm_is_place an_is_place cd_is_place ct_is_place), sl_is_place⟩)
    (c_is_place : PySem.W.codeIn K cd_is_place "is_place" = true)
    (k_is_place : PySem.W.keepIn K (.ref f_is_place) = true)
    (a_place_of : PySem.W.nsIn K mainGlobals "place_of" = some (some (.ref f_place_of)))
    (l_place_of : K.lookup f_place_of = some ⟨oc_place_of, od_place_of, .func (PySem.W.fnOf "place_of" "place_of" (defArgs s_place_of) (defBody s_place_of) (defScope s_place_of) .none kV_place_of dc_place_of pm_place_of an_place_of cd_place_of ct_place_of), sl_place_of⟩)
    (c_place_of : PySem.W.codeIn K cd_place_of "place_of" = true)
    (k_place_of : PySem.W.keepIn K (.ref f_place_of) = true)
    (a_parents : PySem.W.nsIn K mainGlobals "parents" = some (some (.ref f_parents)))
    (l_parents : K.lookup f_parents = some ⟨oc_parents, od_parents, .func (PySem.W.fnOf "parents" "parents" (defArgs s_parents) (defBody s_parents) (defScope s_parents) .none kV_parents dc_parents pm_parents an_parents cd_parents ct_parents), sl_parents⟩)
    (c_parents : PySem.W.codeIn K cd_parents "parents" = true)
    (k_parents : PySem.W.keepIn K (.ref f_parents) = true)
    (a_beneath : PySem.W.nsIn K mainGlobals "beneath" = some (some (.ref f_beneath)))
    (l_beneath : K.lookup f_beneath = some ⟨oc_beneath, od_beneath, .func (PySem.W.fnOf "beneath" "beneath" (defArgs s_beneath) (defBody s_beneath) (defScope s_beneath) .none kV_beneath dc_beneath pm_beneath an_beneath cd_beneath ct_beneath), sl_beneath⟩)
    (c_beneath : PySem.W.codeIn K cd_beneath "beneath" = true)
    (k_beneath : PySem.W.keepIn K (.ref f_beneath) = true)
    (a_moved : PySem.W.nsIn K mainGlobals "moved" = some (some (.ref f_moved)))
    (l_moved : K.lookup f_moved = some ⟨oc_moved, od_moved, .func (PySem.W.fnOf "moved" "moved" (defArgs s_moved) (defBody s_moved) (defScope s_moved) .none kV_moved dc_moved pm_moved an_moved cd_moved ct_moved), sl_moved⟩)
    (c_moved : PySem.W.codeIn K cd_moved "moved" = true)
    (k_moved : PySem.W.keepIn K (.ref f_moved) = true)
    (a_History___init__ : PySem.W.findIn K (.ref c_History) "__init__" = some (some (.ref f_History___init__)))
    (i_History___init__ : PySem.W.isFn K (.ref f_History___init__) = true)
    (l_History___init__ : K.lookup f_History___init__ = some ⟨oc_History___init__, od_History___init__, .func (PySem.W.fnOf "__init__" "History.__init__" (defArgs s_History___init__) (defBody s_History___init__) (defScope s_History___init__) .none kV_History___init__ dc_History___init__ pm_History___init__ an_History___init__ cd_History___init__ ct_History___init__), sl_History___init__⟩)
    (c_History___init__ : PySem.W.codeIn K cd_History___init__ "History.__init__" = true)
    (k_History___init__ : PySem.W.keepIn K (.ref f_History___init__) = true)
    (a__ties_of : PySem.W.nsIn K mainGlobals "_ties_of" = some (some (.ref f__ties_of)))
    (l__ties_of : K.lookup f__ties_of = some ⟨oc__ties_of, od__ties_of, .func (PySem.W.fnOf "_ties_of" "_ties_of" (defArgs s__ties_of) (defBody s__ties_of) (defScope s__ties_of) .none kV__ties_of dc__ties_of pm__ties_of an__ties_of cd__ties_of ct__ties_of), sl__ties_of⟩)
    (c__ties_of : PySem.W.codeIn K cd__ties_of "_ties_of" = true)
    (k__ties_of : PySem.W.keepIn K (.ref f__ties_of) = true)
    (a_is_calm : PySem.W.nsIn K mainGlobals "is_calm" = some (some (.ref f_is_calm)))
    (l_is_calm : K.lookup f_is_calm = some ⟨oc_is_calm, od_is_calm, .func (PySem.W.fnOf "is_calm" "is_calm" (defArgs s_is_calm) (defBody s_is_calm) (defScope s_is_calm) .none kV_is_calm dc_is_calm pm_is_calm an_is_calm cd_is_calm ct_is_calm), sl_is_calm⟩)
    (c_is_calm : PySem.W.codeIn K cd_is_calm "is_calm" = true)
    (k_is_calm : PySem.W.keepIn K (.ref f_is_calm) = true)
    (a_fewest_calms : PySem.W.nsIn K mainGlobals "fewest_calms" = some (some (.ref f_fewest_calms)))
    (l_fewest_calms : K.lookup f_fewest_calms = some ⟨oc_fewest_calms, od_fewest_calms, .func (PySem.W.fnOf "fewest_calms" "fewest_calms" (defArgs s_fewest_calms) (defBody s_fewest_calms) (defScope s_fewest_calms) .none kV_fewest_calms dc_fewest_calms pm_fewest_calms an_fewest_calms cd_fewest_calms ct_fewest_calms), sl_fewest_calms⟩)
    (c_fewest_calms : PySem.W.codeIn K cd_fewest_calms "fewest_calms" = true)
    (k_fewest_calms : PySem.W.keepIn K (.ref f_fewest_calms) = true)
    (a__leads_to : PySem.W.nsIn K mainGlobals "_leads_to" = some (some (.ref f__leads_to)))
    (l__leads_to : K.lookup f__leads_to = some ⟨oc__leads_to, od__leads_to, .func (PySem.W.fnOf "_leads_to" "_leads_to" (defArgs s__leads_to) (defBody s__leads_to) (defScope s__leads_to) .none kV__leads_to dc__leads_to pm__leads_to an__leads_to cd__leads_to ct__leads_to), sl__leads_to⟩)
    (c__leads_to : PySem.W.codeIn K cd__leads_to "_leads_to" = true)
    (k__leads_to : PySem.W.keepIn K (.ref f__leads_to) = true)
    (a__law_hand : PySem.W.nsIn K mainGlobals "_law_hand" = some (some (.ref f__law_hand)))
    (l__law_hand : K.lookup f__law_hand = some ⟨oc__law_hand, od__law_hand, .func (PySem.W.fnOf "_law_hand" "_law_hand" (defArgs s__law_hand) (defBody s__law_hand) (defScope s__law_hand) .none kV__law_hand dc__law_hand pm__law_hand an__law_hand cd__law_hand ct__law_hand), sl__law_hand⟩)
    (c__law_hand : PySem.W.codeIn K cd__law_hand "_law_hand" = true)
    (k__law_hand : PySem.W.keepIn K (.ref f__law_hand) = true)
    (a__law_draw : PySem.W.nsIn K mainGlobals "_law_draw" = some (some (.ref f__law_draw)))
    (l__law_draw : K.lookup f__law_draw = some ⟨oc__law_draw, od__law_draw, .func (PySem.W.fnOf "_law_draw" "_law_draw" (defArgs s__law_draw) (defBody s__law_draw) (defScope s__law_draw) .none kV__law_draw dc__law_draw pm__law_draw an__law_draw cd__law_draw ct__law_draw), sl__law_draw⟩)
    (c__law_draw : PySem.W.codeIn K cd__law_draw "_law_draw" = true)
    (k__law_draw : PySem.W.keepIn K (.ref f__law_draw) = true)
    (a__law_tree : PySem.W.nsIn K mainGlobals "_law_tree" = some (some (.ref f__law_tree)))
    (l__law_tree : K.lookup f__law_tree = some ⟨oc__law_tree, od__law_tree, .func (PySem.W.fnOf "_law_tree" "_law_tree" (defArgs s__law_tree) (defBody s__law_tree) (defScope s__law_tree) .none kV__law_tree dc__law_tree pm__law_tree an__law_tree cd__law_tree ct__law_tree), sl__law_tree⟩)
    (c__law_tree : PySem.W.codeIn K cd__law_tree "_law_tree" = true)
    (k__law_tree : PySem.W.keepIn K (.ref f__law_tree) = true)
    (a__law_row : PySem.W.nsIn K mainGlobals "_law_row" = some (some (.ref f__law_row)))
    (l__law_row : K.lookup f__law_row = some ⟨oc__law_row, od__law_row, .func (PySem.W.fnOf "_law_row" "_law_row" (defArgs s__law_row) (defBody s__law_row) (defScope s__law_row) .none kV__law_row dc__law_row pm__law_row an__law_row cd__law_row ct__law_row), sl__law_row⟩)
    (c__law_row : PySem.W.codeIn K cd__law_row "_law_row" = true)
    (k__law_row : PySem.W.keepIn K (.ref f__law_row) = true)
    (a__law_beneath : PySem.W.nsIn K mainGlobals "_law_beneath" = some (some (.ref f__law_beneath)))
    (l__law_beneath : K.lookup f__law_beneath = some ⟨oc__law_beneath, od__law_beneath, .func (PySem.W.fnOf "_law_beneath" "_law_beneath" (defArgs s__law_beneath) (defBody s__law_beneath) (defScope s__law_beneath) .none kV__law_beneath dc__law_beneath pm__law_beneath an__law_beneath cd__law_beneath ct__law_beneath), sl__law_beneath⟩)
    (c__law_beneath : PySem.W.codeIn K cd__law_beneath "_law_beneath" = true)
    (k__law_beneath : PySem.W.keepIn K (.ref f__law_beneath) = true)
    (a__law_put : PySem.W.nsIn K mainGlobals "_law_put" = some (some (.ref f__law_put)))
    (l__law_put : K.lookup f__law_put = some ⟨oc__law_put, od__law_put, .func (PySem.W.fnOf "_law_put" "_law_put" (defArgs s__law_put) (defBody s__law_put) (defScope s__law_put) .none kV__law_put dc__law_put pm__law_put an__law_put cd__law_put ct__law_put), sl__law_put⟩)
    (c__law_put : PySem.W.codeIn K cd__law_put "_law_put" = true)
    (k__law_put : PySem.W.keepIn K (.ref f__law_put) = true)
    (a__law_moves : PySem.W.nsIn K mainGlobals "_law_moves" = some (some (.ref f__law_moves)))
    (l__law_moves : K.lookup f__law_moves = some ⟨oc__law_moves, od__law_moves, .func (PySem.W.fnOf "_law_moves" "_law_moves" (defArgs s__law_moves) (defBody s__law_moves) (defScope s__law_moves) .none kV__law_moves dc__law_moves pm__law_moves an__law_moves cd__law_moves ct__law_moves), sl__law_moves⟩)
    (c__law_moves : PySem.W.codeIn K cd__law_moves "_law_moves" = true)
    (k__law_moves : PySem.W.keepIn K (.ref f__law_moves) = true)
    (a__law_had : PySem.W.nsIn K mainGlobals "_law_had" = some (some (.ref f__law_had)))
    (l__law_had : K.lookup f__law_had = some ⟨oc__law_had, od__law_had, .func (PySem.W.fnOf "_law_had" "_law_had" (defArgs s__law_had) (defBody s__law_had) (defScope s__law_had) .none kV__law_had dc__law_had pm__law_had an__law_had cd__law_had ct__law_had), sl__law_had⟩)
    (c__law_had : PySem.W.codeIn K cd__law_had "_law_had" = true)
    (k__law_had : PySem.W.keepIn K (.ref f__law_had) = true)
    (a__law_is_round : PySem.W.nsIn K mainGlobals "_law_is_round" = some (some (.ref f__law_is_round)))
    (l__law_is_round : K.lookup f__law_is_round = some ⟨oc__law_is_round, od__law_is_round, .func (PySem.W.fnOf "_law_is_round" "_law_is_round" (defArgs s__law_is_round) (defBody s__law_is_round) (defScope s__law_is_round) .none kV__law_is_round dc__law_is_round pm__law_is_round an__law_is_round cd__law_is_round ct__law_is_round), sl__law_is_round⟩)
    (c__law_is_round : PySem.W.codeIn K cd__law_is_round "_law_is_round" = true)
    (k__law_is_round : PySem.W.keepIn K (.ref f__law_is_round) = true)
    (a__law_is_safe : PySem.W.nsIn K mainGlobals "_law_is_safe" = some (some (.ref f__law_is_safe)))
    (l__law_is_safe : K.lookup f__law_is_safe = some ⟨oc__law_is_safe, od__law_is_safe, .func (PySem.W.fnOf "_law_is_safe" "_law_is_safe" (defArgs s__law_is_safe) (defBody s__law_is_safe) (defScope s__law_is_safe) .none kV__law_is_safe dc__law_is_safe pm__law_is_safe an__law_is_safe cd__law_is_safe ct__law_is_safe), sl__law_is_safe⟩)
    (c__law_is_safe : PySem.W.codeIn K cd__law_is_safe "_law_is_safe" = true)
    (k__law_is_safe : PySem.W.keepIn K (.ref f__law_is_safe) = true)
    (a__law_lots : PySem.W.nsIn K mainGlobals "_law_lots" = some (some (.ref f__law_lots)))
    (l__law_lots : K.lookup f__law_lots = some ⟨oc__law_lots, od__law_lots, .func (PySem.W.fnOf "_law_lots" "_law_lots" (defArgs s__law_lots) (defBody s__law_lots) (defScope s__law_lots) .none kV__law_lots dc__law_lots pm__law_lots an__law_lots cd__law_lots ct__law_lots), sl__law_lots⟩)
    (c__law_lots : PySem.W.codeIn K cd__law_lots "_law_lots" = true)
    (k__law_lots : PySem.W.keepIn K (.ref f__law_lots) = true)
    (a__law_least : PySem.W.nsIn K mainGlobals "_law_least" = some (some (.ref f__law_least)))
    (l__law_least : K.lookup f__law_least = some ⟨oc__law_least, od__law_least, .func (PySem.W.fnOf "_law_least" "_law_least" (defArgs s__law_least) (defBody s__law_least) (defScope s__law_least) .none kV__law_least dc__law_least pm__law_least an__law_least cd__law_least ct__law_least), sl__law_least⟩)
    (c__law_least : PySem.W.codeIn K cd__law_least "_law_least" = true)
    (k__law_least : PySem.W.keepIn K (.ref f__law_least) = true)
    (a_law : PySem.W.nsIn K mainGlobals "law" = some (some (.ref f_law)))
    (l_law : K.lookup f_law = some ⟨oc_law, od_law, .func (PySem.W.fnOf "law" "law" (defArgs s_law) (defBody s_law) (defScope s_law) .none kV_law dc_law pm_law an_law cd_law ct_law), sl_law⟩)
    (c_law : PySem.W.codeIn K cd_law "law" = true)
    (k_law : PySem.W.keepIn K (.ref f_law) = true)
    (pgTree : PySem.W.plainGet K c_Tree Str.empty = true)
    (hdTree : PySem.W.hasDictIn K c_Tree = true)
    (poTree : PySem.W.plainOver K c_Tree = true)
    (saTree : PySem.W.findIn K (.ref c_Tree) "__setattr__" = some (some (.builtin "object.__setattr__")))
    (mkTree : PySem.W.makesIn K c_Tree = true)
    (kcTree : PySem.W.keepIn K (.ref c_Tree) = true)
    (noTree_hung : PySem.W.findIn K (.ref c_Tree) "hung" = some none)
    (haTree : PySem.W.findIn K (.ref c_Tree) "__class__" = some (some (.builtin "object.__class__")))
    (hmTree : PySem.W.mroIn K c_Tree (.type "object") = some true)
    (icTree : PySem.W.isClsIn K c_Tree = true)
    (tyTree : PySem.W.typeIn K (.ref c_Tree) = some (.type "type"))
    (spO : PySem.W.specialIn K (.builtin "object.__class__") "__get__" = some (some (.builtin "getset_descriptor.__get__")))
    (tkO : PySem.W.takesIn K (.builtin "object.__class__") = some true)
    (pgHistory : PySem.W.plainGet K c_History Str.empty = true)
    (hdHistory : PySem.W.hasDictIn K c_History = true)
    (poHistory : PySem.W.plainOver K c_History = true)
    (saHistory : PySem.W.findIn K (.ref c_History) "__setattr__" = some (some (.builtin "object.__setattr__")))
    (mkHistory : PySem.W.makesIn K c_History = true)
    (kcHistory : PySem.W.keepIn K (.ref c_History) = true)
    (noHistory_tree : PySem.W.findIn K (.ref c_History) "tree" = some none)
    (noHistory_moves : PySem.W.findIn K (.ref c_History) "moves" = some none)
    (xLBadTree : K.lookup c_BadTree = some (excClassObj nmBadTree qBadTree c_BadTree NBadTree bsBadTree bmBadTree true snBadTree subBadTree abBadTree colBadTree ddBadTree m0BadTree m1BadTree m2BadTree m3BadTree m5BadTree "ValueError.__new__"))
    (rvBadTree : PySem.HandSPX.refsVE bmBadTree = true)
    (saEBadTree : PySem.W.findIn K (.ref c_BadTree) "__setattr__" = some (some (.builtin "object.__setattr__")))
    (exEBadTree : PySem.W.subIn K (.ref c_BadTree) (.type "BaseException") = some true)
    (tyEBadTree : PySem.W.typeIn K (.ref c_BadTree) = some (.type "type"))
    (kcEBadTree : PySem.W.keepIn K (.ref c_BadTree) = true)
    (tiEBadTree : PySem.W.typeIn K (.ref f_BadTree___init__) = some (.type "function"))
    (noEBadTree : PySem.W.findIn K (.ref c_BadTree) "part" = some none)
    (xLBadHistory : K.lookup c_BadHistory = some (excClassObj nmBadHistory qBadHistory c_BadHistory NBadHistory bsBadHistory bmBadHistory true snBadHistory subBadHistory abBadHistory colBadHistory ddBadHistory m0BadHistory m1BadHistory m2BadHistory m3BadHistory m5BadHistory "ValueError.__new__"))
    (rvBadHistory : PySem.HandSPX.refsVE bmBadHistory = true)
    (saEBadHistory : PySem.W.findIn K (.ref c_BadHistory) "__setattr__" = some (some (.builtin "object.__setattr__")))
    (exEBadHistory : PySem.W.subIn K (.ref c_BadHistory) (.type "BaseException") = some true)
    (tyEBadHistory : PySem.W.typeIn K (.ref c_BadHistory) = some (.type "type"))
    (kcEBadHistory : PySem.W.keepIn K (.ref c_BadHistory) = true)
    (tiEBadHistory : PySem.W.typeIn K (.ref f_BadHistory___init__) = some (.type "function"))
    (noEBadHistory : PySem.W.findIn K (.ref c_BadHistory) "part" = some none)
    (xUNoBlock : K.lookup c_NoBlock = some (excClassObj nmUNoBlock qUNoBlock c_NoBlock NUNoBlock bsUNoBlock bmUNoBlock true snUNoBlock subUNoBlock abUNoBlock colUNoBlock ddUNoBlock u0NoBlock u1NoBlock u2NoBlock u3NoBlock u5NoBlock "ValueError.__new__"))
    (rvUNoBlock : PySem.HandSPX.refsVE bmUNoBlock = true)
    (saUNoBlock : PySem.W.findIn K (.ref c_NoBlock) "__setattr__" = some (some (.builtin "object.__setattr__")))
    (exUNoBlock : PySem.W.subIn K (.ref c_NoBlock) (.type "BaseException") = some true)
    (tyUNoBlock : PySem.W.typeIn K (.ref c_NoBlock) = some (.type "type"))
    (kcUNoBlock : PySem.W.keepIn K (.ref c_NoBlock) = true)
    (iUNoBlock : PySem.W.findIn K (.ref c_NoBlock) "__init__" = some (some (.ref f_UNoBlock)))
    (tiUNoBlock : PySem.W.typeIn K (.ref f_UNoBlock) = some (.type "function"))
    (lUNoBlock : K.lookup f_UNoBlock = some ⟨ocUNoBlock, odUNoBlock, .func (PySem.W.ksFn "__init__" qqUNoBlock (siA eNoBlock) (siB p0NoBlock p1NoBlock p2NoBlock p3NoBlock p4NoBlock) siS .none kVUNoBlock docUNoBlock pmUNoBlock anUNoBlock (.ref cdUNoBlock) ctUNoBlock ccUNoBlock), slUNoBlock⟩)
    (cUNoBlock : PySem.W.codeIn K (.ref cdUNoBlock) qqUNoBlock = true)
    (ceUNoBlock : K.lookup ccUNoBlock = some ⟨clUNoBlock, cldUNoBlock, .cell (some (.ref c_NoBlock)), cslUNoBlock⟩)
    (coUNoBlock : K.lookup cdUNoBlock = some ⟨cclUNoBlock, cddUNoBlock, .fields vsUNoBlock, ccsUNoBlock⟩)
    (vsU2NoBlock : vsUNoBlock[2]? = some (.str fileUNoBlock tfUNoBlock))
    (fiUNoBlock : ((P.main.file : Str) == fileUNoBlock) = true)
    (evUNoBlock : SupEv p0NoBlock p1NoBlock p2NoBlock p3NoBlock)
    (upUNoBlock : PySem.W.ks_superIn K c_NoBlock c_NoBlock "__init__" = some (some (.builtin "ValueError.__init__")))
    (meUNoBlock : PySem.W.mroIn K c_NoBlock (.ref c_NoBlock) = some true)
    (veUNoBlock : PySem.W.subIn K (.ref c_NoBlock) (.type "ValueError") = some true)
    (opU : PySem.W.nsIn K cStatics "thirdparty.any" = some none)
    (tpU : (P.main.scope.names.lookup ("super" : Str)).isSome = false)
    (xUNoPlace : K.lookup c_NoPlace = some (excClassObj nmUNoPlace qUNoPlace c_NoPlace NUNoPlace bsUNoPlace bmUNoPlace true snUNoPlace subUNoPlace abUNoPlace colUNoPlace ddUNoPlace u0NoPlace u1NoPlace u2NoPlace u3NoPlace u5NoPlace "ValueError.__new__"))
    (rvUNoPlace : PySem.HandSPX.refsVE bmUNoPlace = true)
    (saUNoPlace : PySem.W.findIn K (.ref c_NoPlace) "__setattr__" = some (some (.builtin "object.__setattr__")))
    (exUNoPlace : PySem.W.subIn K (.ref c_NoPlace) (.type "BaseException") = some true)
    (tyUNoPlace : PySem.W.typeIn K (.ref c_NoPlace) = some (.type "type"))
    (kcUNoPlace : PySem.W.keepIn K (.ref c_NoPlace) = true)
    (iUNoPlace : PySem.W.findIn K (.ref c_NoPlace) "__init__" = some (some (.ref f_UNoPlace)))
    (tiUNoPlace : PySem.W.typeIn K (.ref f_UNoPlace) = some (.type "function"))
    (lUNoPlace : K.lookup f_UNoPlace = some ⟨ocUNoPlace, odUNoPlace, .func (PySem.W.ksFn "__init__" qqUNoPlace (siA eNoPlace) (siB p0NoPlace p1NoPlace p2NoPlace p3NoPlace p4NoPlace) siS .none kVUNoPlace docUNoPlace pmUNoPlace anUNoPlace (.ref cdUNoPlace) ctUNoPlace ccUNoPlace), slUNoPlace⟩)
    (cUNoPlace : PySem.W.codeIn K (.ref cdUNoPlace) qqUNoPlace = true)
    (ceUNoPlace : K.lookup ccUNoPlace = some ⟨clUNoPlace, cldUNoPlace, .cell (some (.ref c_NoPlace)), cslUNoPlace⟩)
    (coUNoPlace : K.lookup cdUNoPlace = some ⟨cclUNoPlace, cddUNoPlace, .fields vsUNoPlace, ccsUNoPlace⟩)
    (vsU2NoPlace : vsUNoPlace[2]? = some (.str fileUNoPlace tfUNoPlace))
    (fiUNoPlace : ((P.main.file : Str) == fileUNoPlace) = true)
    (evUNoPlace : SupEv p0NoPlace p1NoPlace p2NoPlace p3NoPlace)
    (upUNoPlace : PySem.W.ks_superIn K c_NoPlace c_NoPlace "__init__" = some (some (.builtin "ValueError.__init__")))
    (meUNoPlace : PySem.W.mroIn K c_NoPlace (.ref c_NoPlace) = some true)
    (veUNoPlace : PySem.W.subIn K (.ref c_NoPlace) (.type "ValueError") = some true)
    (xUBeneath : K.lookup c_Beneath = some (excClassObj nmUBeneath qUBeneath c_Beneath NUBeneath bsUBeneath bmUBeneath true snUBeneath subUBeneath abUBeneath colUBeneath ddUBeneath u0Beneath u1Beneath u2Beneath u3Beneath u5Beneath "ValueError.__new__"))
    (rvUBeneath : PySem.HandSPX.refsVE bmUBeneath = true)
    (saUBeneath : PySem.W.findIn K (.ref c_Beneath) "__setattr__" = some (some (.builtin "object.__setattr__")))
    (exUBeneath : PySem.W.subIn K (.ref c_Beneath) (.type "BaseException") = some true)
    (tyUBeneath : PySem.W.typeIn K (.ref c_Beneath) = some (.type "type"))
    (kcUBeneath : PySem.W.keepIn K (.ref c_Beneath) = true)
    (iUBeneath : PySem.W.findIn K (.ref c_Beneath) "__init__" = some (some (.ref f_UBeneath)))
    (tiUBeneath : PySem.W.typeIn K (.ref f_UBeneath) = some (.type "function"))
    (lUBeneath : K.lookup f_UBeneath = some ⟨ocUBeneath, odUBeneath, .func (PySem.W.ksFn "__init__" qqUBeneath (siA eBeneath) (siB p0Beneath p1Beneath p2Beneath p3Beneath p4Beneath) siS .none kVUBeneath docUBeneath pmUBeneath anUBeneath (.ref cdUBeneath) ctUBeneath ccUBeneath), slUBeneath⟩)
    (cUBeneath : PySem.W.codeIn K (.ref cdUBeneath) qqUBeneath = true)
    (ceUBeneath : K.lookup ccUBeneath = some ⟨clUBeneath, cldUBeneath, .cell (some (.ref c_Beneath)), cslUBeneath⟩)
    (coUBeneath : K.lookup cdUBeneath = some ⟨cclUBeneath, cddUBeneath, .fields vsUBeneath, ccsUBeneath⟩)
    (vsU2Beneath : vsUBeneath[2]? = some (.str fileUBeneath tfUBeneath))
    (fiUBeneath : ((P.main.file : Str) == fileUBeneath) = true)
    (evUBeneath : SupEv p0Beneath p1Beneath p2Beneath p3Beneath)
    (upUBeneath : PySem.W.ks_superIn K c_Beneath c_Beneath "__init__" = some (some (.builtin "ValueError.__init__")))
    (meUBeneath : PySem.W.mroIn K c_Beneath (.ref c_Beneath) = some true)
    (veUBeneath : PySem.W.subIn K (.ref c_Beneath) (.type "ValueError") = some true)
    (swint : PySem.W.subIn K (.ref c_Tree) (.type "int") = some false)
    (swbool : PySem.W.subIn K (.ref c_Tree) (.type "bool") = some false)
    (swtuple : PySem.W.subIn K (.ref c_Tree) (.type "tuple") = some false)
    (swlist : PySem.W.subIn K (.ref c_Tree) (.type "list") = some false)
    (hdUNoBlock : PySem.W.hasDictIn K c_NoBlock = true)
    (hdUNoPlace : PySem.W.hasDictIn K c_NoPlace = true)
    (hdUBeneath : PySem.W.hasDictIn K c_Beneath = true)
    (suNoBlock_NoBlock : PySem.W.subIn K (.ref c_NoBlock) (.ref c_NoBlock) = some true)
    (suNoBlock_NoPlace : PySem.W.subIn K (.ref c_NoBlock) (.ref c_NoPlace) = some false)
    (suNoBlock_Beneath : PySem.W.subIn K (.ref c_NoBlock) (.ref c_Beneath) = some false)
    (suNoPlace_NoBlock : PySem.W.subIn K (.ref c_NoPlace) (.ref c_NoBlock) = some false)
    (suNoPlace_NoPlace : PySem.W.subIn K (.ref c_NoPlace) (.ref c_NoPlace) = some true)
    (suNoPlace_Beneath : PySem.W.subIn K (.ref c_NoPlace) (.ref c_Beneath) = some false)
    (suBeneath_NoBlock : PySem.W.subIn K (.ref c_Beneath) (.ref c_NoBlock) = some false)
    (suBeneath_NoPlace : PySem.W.subIn K (.ref c_Beneath) (.ref c_NoPlace) = some false)
    (suBeneath_Beneath : PySem.W.subIn K (.ref c_Beneath) (.ref c_Beneath) = some true)
    : ∃ fd : FuncData, (∀ (s : Shared) (v : Value), BindsTo s fd ⟨[v], []⟩ [("_law_script", v)]) ∧ ∀ base : Heap, K.In base → base.Ns mainGlobals mg → FnOk P w K mg base CX0 10 fa fd ["_law_script"] (spLaw K) := by
  have e := hfa.symm.trans (PySem.W.mg_of X G a_law)
  cases e
  have F_BadTree___init__ := fun_mk (st := s_BadTree___init__) l_BadTree___init__ c_BadTree___init__ k_BadTree___init__
  have b_BadTree___init__ := F_BadTree___init__.binds (ps := ["self", "part"]) fun _ _ _ _ _ _ us hl => match us, hl with | [_, _], _ => rfl
  have C_BadTree___init__ := CalM.mk k_BadTree___init__ b_BadTree___init__
  have F_BadHistory___init__ := fun_mk (st := s_BadHistory___init__) l_BadHistory___init__ c_BadHistory___init__ k_BadHistory___init__
  have b_BadHistory___init__ := F_BadHistory___init__.binds (ps := ["self", "part"]) fun _ _ _ _ _ _ us hl => match us, hl with | [_, _], _ => rfl
  have C_BadHistory___init__ := CalM.mk k_BadHistory___init__ b_BadHistory___init__
  have F_is_within := fun_mk (st := s_is_within) l_is_within c_is_within k_is_within
  have b_is_within := F_is_within.binds (ps := ["least", "most", "thing"]) fun _ _ _ _ _ _ us hl => match us, hl with | [_, _, _], _ => rfl
  have C_is_within := Cal.mk (PySem.W.mg_of X G a_is_within) k_is_within b_is_within
  have F_is_pair := fun_mk (st := s_is_pair) l_is_pair c_is_pair k_is_pair
  have b_is_pair := F_is_pair.binds (ps := ["thing"]) fun _ _ _ _ _ _ us hl => match us, hl with | [_], _ => rfl
  have C_is_pair := Cal.mk (PySem.W.mg_of X G a_is_pair) k_is_pair b_is_pair
  have F_is_ascending := fun_mk (st := s_is_ascending) l_is_ascending c_is_ascending k_is_ascending
  have b_is_ascending := F_is_ascending.binds (ps := ["row"]) fun _ _ _ _ _ _ us hl => match us, hl with | [_], _ => rfl
  have C_is_ascending := Cal.mk (PySem.W.mg_of X G a_is_ascending) k_is_ascending b_is_ascending
  have F_is_lot_within := fun_mk (st := s_is_lot_within) l_is_lot_within c_is_lot_within k_is_lot_within
  have b_is_lot_within := F_is_lot_within.binds (ps := ["least", "most", "thing"]) fun _ _ _ _ _ _ us hl => match us, hl with | [_, _, _], _ => rfl
  have C_is_lot_within := Cal.mk (PySem.W.mg_of X G a_is_lot_within) k_is_lot_within b_is_lot_within
  have F_Tree___init__ := fun_mk (st := s_Tree___init__) l_Tree___init__ c_Tree___init__ k_Tree___init__
  have b_Tree___init__ := F_Tree___init__.binds (ps := ["self", "hung"]) fun _ _ _ _ _ _ us hl => match us, hl with | [_, _], _ => rfl
  have C_Tree___init__ := CalM.mk k_Tree___init__ b_Tree___init__
  have F__comes_to_head := fun_mk (st := s__comes_to_head) l__comes_to_head c__comes_to_head k__comes_to_head
  have b__comes_to_head := F__comes_to_head.binds (ps := ["hung", "block"]) fun _ _ _ _ _ _ us hl => match us, hl with | [_, _], _ => rfl
  have C__comes_to_head := Cal.mk (PySem.W.mg_of X G a__comes_to_head) k__comes_to_head b__comes_to_head
  have F_is_block := fun_mk (st := s_is_block) l_is_block c_is_block k_is_block
  have b_is_block := F_is_block.binds (ps := ["tree", "thing"]) fun _ _ _ _ _ _ us hl => match us, hl with | [_, _], _ => rfl
  have C_is_block := Cal.mk (PySem.W.mg_of X G a_is_block) k_is_block b_is_block
  have F_is_place := fun_mk (st := s_is_place) l_is_place c_is_place k_is_place
  have b_is_place := F_is_place.binds (ps := ["tree", "thing"]) fun _ _ _ _ _ _ us hl => match us, hl with | [_, _], _ => rfl
  have C_is_place := Cal.mk (PySem.W.mg_of X G a_is_place) k_is_place b_is_place
  have F_place_of := fun_mk (st := s_place_of) l_place_of c_place_of k_place_of
  have b_place_of := F_place_of.binds (ps := ["tree", "block"]) fun _ _ _ _ _ _ us hl => match us, hl with | [_, _], _ => rfl
  have C_place_of := Cal.mk (PySem.W.mg_of X G a_place_of) k_place_of b_place_of
  have F_parents := fun_mk (st := s_parents) l_parents c_parents k_parents
  have b_parents := F_parents.binds (ps := ["tree", "block"]) fun _ _ _ _ _ _ us hl => match us, hl with | [_, _], _ => rfl
  have C_parents := Cal.mk (PySem.W.mg_of X G a_parents) k_parents b_parents
  have F_beneath := fun_mk (st := s_beneath) l_beneath c_beneath k_beneath
  have b_beneath := F_beneath.binds (ps := ["tree", "place"]) fun _ _ _ _ _ _ us hl => match us, hl with | [_, _], _ => rfl
  have C_beneath := Cal.mk (PySem.W.mg_of X G a_beneath) k_beneath b_beneath
  have F_moved := fun_mk (st := s_moved) l_moved c_moved k_moved
  have b_moved := F_moved.binds (ps := ["tree", "block", "place"]) fun _ _ _ _ _ _ us hl => match us, hl with | [_, _, _], _ => rfl
  have C_moved := Cal.mk (PySem.W.mg_of X G a_moved) k_moved b_moved
  have F_History___init__ := fun_mk (st := s_History___init__) l_History___init__ c_History___init__ k_History___init__
  have b_History___init__ := F_History___init__.binds (ps := ["self", "tree", "moves"]) fun _ _ _ _ _ _ us hl => match us, hl with | [_, _, _], _ => rfl
  have C_History___init__ := CalM.mk k_History___init__ b_History___init__
  have F__ties_of := fun_mk (st := s__ties_of) l__ties_of c__ties_of k__ties_of
  have b__ties_of := F__ties_of.binds (ps := ["hung"]) fun _ _ _ _ _ _ us hl => match us, hl with | [_], _ => rfl
  have C__ties_of := Cal.mk (PySem.W.mg_of X G a__ties_of) k__ties_of b__ties_of
  have F_is_calm := fun_mk (st := s_is_calm) l_is_calm c_is_calm k_is_calm
  have b_is_calm := F_is_calm.binds (ps := ["history", "calms"]) fun _ _ _ _ _ _ us hl => match us, hl with | [_, _], _ => rfl
  have C_is_calm := Cal.mk (PySem.W.mg_of X G a_is_calm) k_is_calm b_is_calm
  have F_fewest_calms := fun_mk (st := s_fewest_calms) l_fewest_calms c_fewest_calms k_fewest_calms
  have b_fewest_calms := F_fewest_calms.binds (ps := ["history"]) fun _ _ _ _ _ _ us hl => match us, hl with | [_], _ => rfl
  have C_fewest_calms := Cal.mk (PySem.W.mg_of X G a_fewest_calms) k_fewest_calms b_fewest_calms
  have F__leads_to := fun_mk (st := s__leads_to) l__leads_to c__leads_to k__leads_to
  have b__leads_to := F__leads_to.binds (ps := ["ties", "place", "block"]) fun _ _ _ _ _ _ us hl => match us, hl with | [_, _, _], _ => rfl
  have C__leads_to := Cal.mk (PySem.W.mg_of X G a__leads_to) k__leads_to b__leads_to
  have F__law_hand := fun_mk (st := s__law_hand) l__law_hand c__law_hand k__law_hand
  have b__law_hand := F__law_hand.binds (ps := ["_law_script"]) fun _ _ _ _ _ _ us hl => match us, hl with | [_], _ => rfl
  have C__law_hand := Cal.mk (PySem.W.mg_of X G a__law_hand) k__law_hand b__law_hand
  have F__law_draw := fun_mk (st := s__law_draw) l__law_draw c__law_draw k__law_draw
  have b__law_draw := F__law_draw.binds (ps := ["_law_hand_here", "_law_many"]) fun _ _ _ _ _ _ us hl => match us, hl with | [_, _], _ => rfl
  have C__law_draw := Cal.mk (PySem.W.mg_of X G a__law_draw) k__law_draw b__law_draw
  have F__law_tree := fun_mk (st := s__law_tree) l__law_tree c__law_tree k__law_tree
  have b__law_tree := F__law_tree.binds (ps := ["_law_hand_here", "_law_many"]) fun _ _ _ _ _ _ us hl => match us, hl with | [_, _], _ => rfl
  have C__law_tree := Cal.mk (PySem.W.mg_of X G a__law_tree) k__law_tree b__law_tree
  have F__law_row := fun_mk (st := s__law_row) l__law_row c__law_row k__law_row
  have b__law_row := F__law_row.binds (ps := ["_law_hung", "_law_place"]) fun _ _ _ _ _ _ us hl => match us, hl with | [_, _], _ => rfl
  have C__law_row := Cal.mk (PySem.W.mg_of X G a__law_row) k__law_row b__law_row
  have F__law_beneath := fun_mk (st := s__law_beneath) l__law_beneath c__law_beneath k__law_beneath
  have b__law_beneath := F__law_beneath.binds (ps := ["_law_hung", "_law_place"]) fun _ _ _ _ _ _ us hl => match us, hl with | [_, _], _ => rfl
  have C__law_beneath := Cal.mk (PySem.W.mg_of X G a__law_beneath) k__law_beneath b__law_beneath
  have F__law_put := fun_mk (st := s__law_put) l__law_put c__law_put k__law_put
  have b__law_put := F__law_put.binds (ps := ["_law_hung", "_law_block", "_law_place"]) fun _ _ _ _ _ _ us hl => match us, hl with | [_, _, _], _ => rfl
  have C__law_put := Cal.mk (PySem.W.mg_of X G a__law_put) k__law_put b__law_put
  have F__law_moves := fun_mk (st := s__law_moves) l__law_moves c__law_moves k__law_moves
  have b__law_moves := F__law_moves.binds (ps := ["_law_hand_here", "_law_hung", "_law_many"]) fun _ _ _ _ _ _ us hl => match us, hl with | [_, _, _], _ => rfl
  have C__law_moves := Cal.mk (PySem.W.mg_of X G a__law_moves) k__law_moves b__law_moves
  have F__law_had := fun_mk (st := s__law_had) l__law_had c__law_had k__law_had
  have b__law_had := F__law_had.binds (ps := ["_law_hung", "_law_moves_here"]) fun _ _ _ _ _ _ us hl => match us, hl with | [_, _], _ => rfl
  have C__law_had := Cal.mk (PySem.W.mg_of X G a__law_had) k__law_had b__law_had
  have F__law_is_round := fun_mk (st := s__law_is_round) l__law_is_round c__law_is_round k__law_is_round
  have b__law_is_round := F__law_is_round.binds (ps := ["_law_known"]) fun _ _ _ _ _ _ us hl => match us, hl with | [_], _ => rfl
  have C__law_is_round := Cal.mk (PySem.W.mg_of X G a__law_is_round) k__law_is_round b__law_is_round
  have F__law_is_safe := fun_mk (st := s__law_is_safe) l__law_is_safe c__law_is_safe k__law_is_safe
  have b__law_is_safe := F__law_is_safe.binds (ps := ["_law_hung", "_law_moves_here", "_law_calms"]) fun _ _ _ _ _ _ us hl => match us, hl with | [_, _, _], _ => rfl
  have C__law_is_safe := Cal.mk (PySem.W.mg_of X G a__law_is_safe) k__law_is_safe b__law_is_safe
  have F__law_lots := fun_mk (st := s__law_lots) l__law_lots c__law_lots k__law_lots
  have b__law_lots := F__law_lots.binds (ps := ["_law_many"]) fun _ _ _ _ _ _ us hl => match us, hl with | [_], _ => rfl
  have C__law_lots := Cal.mk (PySem.W.mg_of X G a__law_lots) k__law_lots b__law_lots
  have F__law_least := fun_mk (st := s__law_least) l__law_least c__law_least k__law_least
  have b__law_least := F__law_least.binds (ps := ["_law_lots_here"]) fun _ _ _ _ _ _ us hl => match us, hl with | [_], _ => rfl
  have C__law_least := Cal.mk (PySem.W.mg_of X G a__law_least) k__law_least b__law_least
  have F_law := fun_mk (st := s_law) l_law c_law k_law
  have b_law := F_law.binds (ps := ["_law_script"]) fun _ _ _ _ _ _ us hl => match us, hl with | [_], _ => rfl
  have C_law := Cal.mk (PySem.W.mg_of X G a_law) k_law b_law
  have B : Bl ⟨c_VoteError, c_BadTree, c_NoBlock, c_NoPlace, c_Beneath, c_BadHistory, c_Tree, c_History, t_MOST_BLOCKS, t_MOST_MOVES⟩ mg := ⟨PySem.W.mg_none_of X G z_ValueError, PySem.W.mg_none_of X G z_abs, PySem.W.mg_none_of X G z_all, PySem.W.mg_none_of X G z_bool, PySem.W.mg_none_of X G z_dict, PySem.W.mg_none_of X G z_enumerate, PySem.W.mg_none_of X G z_int, PySem.W.mg_none_of X G z_isinstance, PySem.W.mg_none_of X G z_len, PySem.W.mg_none_of X G z_list, PySem.W.mg_none_of X G z_max, PySem.W.mg_none_of X G z_min, PySem.W.mg_none_of X G z_range, PySem.W.mg_none_of X G z_set, PySem.W.mg_none_of X G z_sorted, PySem.W.mg_none_of X G z_str, PySem.W.mg_none_of X G z_super, PySem.W.mg_none_of X G z_tuple, PySem.W.mg_none_of X G z_zip, PySem.W.mg_of X G n_VoteError, PySem.W.mg_of X G n_BadTree, PySem.W.mg_of X G n_NoBlock, PySem.W.mg_of X G n_NoPlace, PySem.W.mg_of X G n_Beneath, PySem.W.mg_of X G n_BadHistory, PySem.W.mg_of X G n_Tree, PySem.W.mg_of X G n_History, PySem.W.mg_of X G n_MOST_BLOCKS, PySem.W.mg_of X G n_MOST_MOVES⟩
  have hcTree : Cls K c_Tree := ⟨pgTree, hdTree, poTree, saTree⟩
  have hMTree : Mk K c_Tree f_Tree___init__ := ⟨mkTree, a_Tree___init__, i_Tree___init__, kcTree⟩
  have hITree : IsC K c_Tree := ⟨hcTree, haTree, spO, tkO, hmTree, if_pos (beq_self_eq_true _), kit_ref rfl icTree tyTree (sub_tuple K c_Tree)⟩
  have hcHistory : Cls K c_History := ⟨pgHistory, hdHistory, poHistory, saHistory⟩
  have hMHistory : Mk K c_History f_History___init__ := ⟨mkHistory, a_History___init__, i_History___init__, kcHistory⟩
  have hXBadTree : OexC K c_BadTree := ⟨⟨nmBadTree, qBadTree, NBadTree, bsBadTree, bmBadTree, snBadTree, subBadTree, abBadTree, colBadTree, ddBadTree, m0BadTree, m1BadTree, m2BadTree, m3BadTree, m5BadTree, xLBadTree, rvBadTree⟩, saEBadTree, exEBadTree, tyEBadTree, kcEBadTree⟩
  have hEBadTree : ExcF K c_BadTree f_BadTree___init__ "part" := ⟨hXBadTree, a_BadTree___init__, tiEBadTree, noEBadTree⟩
  have hXBadHistory : OexC K c_BadHistory := ⟨⟨nmBadHistory, qBadHistory, NBadHistory, bsBadHistory, bmBadHistory, snBadHistory, subBadHistory, abBadHistory, colBadHistory, ddBadHistory, m0BadHistory, m1BadHistory, m2BadHistory, m3BadHistory, m5BadHistory, xLBadHistory, rvBadHistory⟩, saEBadHistory, exEBadHistory, tyEBadHistory, kcEBadHistory⟩
  have hEBadHistory : ExcF K c_BadHistory f_BadHistory___init__ "part" := ⟨hXBadHistory, a_BadHistory___init__, tiEBadHistory, noEBadHistory⟩
  have hUNoBlock : SupC P K c_NoBlock f_UNoBlock := ⟨⟨⟨nmUNoBlock, qUNoBlock, NUNoBlock, bsUNoBlock, bmUNoBlock, snUNoBlock, subUNoBlock, abUNoBlock, colUNoBlock, ddUNoBlock, u0NoBlock, u1NoBlock, u2NoBlock, u3NoBlock, u5NoBlock, xUNoBlock, rvUNoBlock⟩, saUNoBlock, exUNoBlock, tyUNoBlock, kcUNoBlock⟩, iUNoBlock, tiUNoBlock, ⟨ocUNoBlock, odUNoBlock, kVUNoBlock, docUNoBlock, pmUNoBlock, anUNoBlock, cdUNoBlock, ctUNoBlock, slUNoBlock, ccUNoBlock, qqUNoBlock, eNoBlock, p0NoBlock, p1NoBlock, p2NoBlock, p3NoBlock, p4NoBlock, lUNoBlock, cUNoBlock, ⟨clUNoBlock, cldUNoBlock, cslUNoBlock, ceUNoBlock⟩, cclUNoBlock, cddUNoBlock, vsUNoBlock, ccsUNoBlock, fileUNoBlock, tfUNoBlock, coUNoBlock, vsU2NoBlock, fiUNoBlock, evUNoBlock⟩, upUNoBlock, meUNoBlock, veUNoBlock, opU, tpU⟩
  have hUNoPlace : SupC P K c_NoPlace f_UNoPlace := ⟨⟨⟨nmUNoPlace, qUNoPlace, NUNoPlace, bsUNoPlace, bmUNoPlace, snUNoPlace, subUNoPlace, abUNoPlace, colUNoPlace, ddUNoPlace, u0NoPlace, u1NoPlace, u2NoPlace, u3NoPlace, u5NoPlace, xUNoPlace, rvUNoPlace⟩, saUNoPlace, exUNoPlace, tyUNoPlace, kcUNoPlace⟩, iUNoPlace, tiUNoPlace, ⟨ocUNoPlace, odUNoPlace, kVUNoPlace, docUNoPlace, pmUNoPlace, anUNoPlace, cdUNoPlace, ctUNoPlace, slUNoPlace, ccUNoPlace, qqUNoPlace, eNoPlace, p0NoPlace, p1NoPlace, p2NoPlace, p3NoPlace, p4NoPlace, lUNoPlace, cUNoPlace, ⟨clUNoPlace, cldUNoPlace, cslUNoPlace, ceUNoPlace⟩, cclUNoPlace, cddUNoPlace, vsUNoPlace, ccsUNoPlace, fileUNoPlace, tfUNoPlace, coUNoPlace, vsU2NoPlace, fiUNoPlace, evUNoPlace⟩, upUNoPlace, meUNoPlace, veUNoPlace, opU, tpU⟩
  have hUBeneath : SupC P K c_Beneath f_UBeneath := ⟨⟨⟨nmUBeneath, qUBeneath, NUBeneath, bsUBeneath, bmUBeneath, snUBeneath, subUBeneath, abUBeneath, colUBeneath, ddUBeneath, u0Beneath, u1Beneath, u2Beneath, u3Beneath, u5Beneath, xUBeneath, rvUBeneath⟩, saUBeneath, exUBeneath, tyUBeneath, kcUBeneath⟩, iUBeneath, tiUBeneath, ⟨ocUBeneath, odUBeneath, kVUBeneath, docUBeneath, pmUBeneath, anUBeneath, cdUBeneath, ctUBeneath, slUBeneath, ccUBeneath, qqUBeneath, eBeneath, p0Beneath, p1Beneath, p2Beneath, p3Beneath, p4Beneath, lUBeneath, cUBeneath, ⟨clUBeneath, cldUBeneath, cslUBeneath, ceUBeneath⟩, cclUBeneath, cddUBeneath, vsUBeneath, ccsUBeneath, fileUBeneath, tfUBeneath, coUBeneath, vsU2Beneath, fiUBeneath, evUBeneath⟩, upUBeneath, meUBeneath, veUBeneath, opU, tpU⟩
  have hS : InsK K ⟨c_VoteError, c_BadTree, c_NoBlock, c_NoPlace, c_Beneath, c_BadHistory, c_Tree, c_History, t_MOST_BLOCKS, t_MOST_MOVES⟩ := ⟨hITree, fun T h => by
    rcases h with rfl | rfl | rfl | rfl
    · exact kit_typ (by decide +kernel) swint
    · exact kit_typ (by decide +kernel) swbool
    · exact kit_typ (by decide +kernel) swtuple
    · exact kit_typ (by decide +kernel) swlist⟩
  have hT : TyAp K ⟨c_VoteError, c_BadTree, c_NoBlock, c_NoPlace, c_Beneath, c_BadHistory, c_Tree, c_History, t_MOST_BLOCKS, t_MOST_MOVES⟩ := ⟨fun T h => by
    rcases h with rfl | rfl | rfl | rfl | rfl | rfl | rfl
    · exact kit_ref rfl icTree tyTree (sub_bt K c_Tree (by decide +kernel : PySem.fastBuiltinMro "NoneType" = some [.type "NoneType", .type "object"]) rfl)
    · exact kit_ref rfl icTree tyTree (sub_bt K c_Tree (by decide +kernel : PySem.fastBuiltinMro "bool" = some [.type "bool", .type "int", .type "object"]) rfl)
    · exact kit_ref rfl icTree tyTree (sub_bt K c_Tree (by decide +kernel : PySem.fastBuiltinMro "int" = some [.type "int", .type "object"]) rfl)
    · exact kit_ref rfl icTree tyTree (sub_bt K c_Tree (by decide +kernel : PySem.fastBuiltinMro "str" = some [.type "str", .type "object"]) rfl)
    · exact kit_ref rfl icTree tyTree (sub_bt K c_Tree (by decide +kernel : PySem.fastBuiltinMro "list" = some [.type "list", .type "object"]) rfl)
    · exact kit_ref rfl icTree tyTree (sub_bt K c_Tree (by decide +kernel : PySem.fastBuiltinMro "tuple" = some [.type "tuple", .type "object"]) rfl)
    · exact kit_ref rfl icTree tyTree (sub_bt K c_Tree (by decide +kernel : PySem.fastBuiltinMro "dict" = some [.type "dict", .type "object"]) rfl)⟩
  have hMX : MvX K ⟨c_VoteError, c_BadTree, c_NoBlock, c_NoPlace, c_Beneath, c_BadHistory, c_Tree, c_History, t_MOST_BLOCKS, t_MOST_MOVES⟩ := ⟨fun c h => by
    rcases h with rfl | rfl | rfl
    · exact exm3 (PySem.W.exm_ref exUNoBlock hdUNoBlock tyUNoBlock suNoBlock_NoBlock) (PySem.W.exm_ref exUNoPlace hdUNoPlace tyUNoPlace suNoBlock_NoPlace) (PySem.W.exm_ref exUBeneath hdUBeneath tyUBeneath suNoBlock_Beneath) rfl
    · exact exm3 (PySem.W.exm_ref exUNoBlock hdUNoBlock tyUNoBlock suNoPlace_NoBlock) (PySem.W.exm_ref exUNoPlace hdUNoPlace tyUNoPlace suNoPlace_NoPlace) (PySem.W.exm_ref exUBeneath hdUBeneath tyUBeneath suNoPlace_Beneath) rfl
    · exact exm3 (PySem.W.exm_ref exUNoBlock hdUNoBlock tyUNoBlock suBeneath_NoBlock) (PySem.W.exm_ref exUNoPlace hdUNoPlace tyUNoPlace suBeneath_NoPlace) (PySem.W.exm_ref exUBeneath hdUBeneath tyUBeneath suBeneath_Beneath) rfl⟩
  have hHC : HisC K ⟨c_VoteError, c_BadTree, c_NoBlock, c_NoPlace, c_Beneath, c_BadHistory, c_Tree, c_History, t_MOST_BLOCKS, t_MOST_MOVES⟩ := ⟨hcHistory, noHistory_tree, noHistory_moves⟩
  refine ⟨PySem.W.fnOf "law" "law" (defArgs s_law) (defBody s_law) (defScope s_law) .none kV_law dc_law pm_law an_law cd_law ct_law, fun s v => .of_eq rfl, fun base _ _ => ?_⟩
  have G_draw := ok_draw (P := P) (w := w) (base := base) F__law_draw B
  have G_hand := ok_hand (P := P) (w := w) (base := base) F__law_hand B
  have G_within := ok_within (P := P) (w := w) (base := base) F_is_within B
  have G_withinK := ok_withinK (P := P) (w := w) (base := base) F_is_within B hS
  have G_comes := ok_comes (P := P) (w := w) (base := base) F__comes_to_head B
  have G_bad := ok_bad (mg := mg) (P := P) (w := w) (base := base) (Z := ⟨c_VoteError, c_BadTree, c_NoBlock, c_NoPlace, c_Beneath, c_BadHistory, c_Tree, c_History, t_MOST_BLOCKS, t_MOST_MOVES⟩) F_BadTree___init__ hEBadTree
  have G_tree := ok_tree F_Tree___init__ B hcTree noTree_hung C_is_within G_within C__comes_to_head G_comes C_BadTree___init__ G_bad hEBadTree
  have G_isb := ok_isBlock F_is_block B hcTree noTree_hung C_is_within G_within
  have G_isp := ok_isPlace F_is_place B hcTree noTree_hung C_is_within G_within
  have G_place := ok_place F_place_of B hcTree noTree_hung C_is_block G_isb
  have G_par := ok_parents F_parents B C_place_of G_place
  have G_ben := ok_beneath F_beneath B hcTree noTree_hung C_is_place G_isp C_parents G_par
  have G_isbK := ok_isBlockK F_is_block B hcTree noTree_hung C_is_within G_withinK
  have G_ispK := ok_isPlaceK F_is_place B hcTree noTree_hung C_is_within G_withinK
  have G_moved := ok_movedK F_moved B hcTree noTree_hung hUNoBlock hUNoPlace hUBeneath C_is_block G_isbK C_is_place G_ispK C_beneath G_ben C_Tree___init__ G_tree hMTree
  have G_pair := ok_pairK (P := P) (w := w) (base := base) F_is_pair B hS
  have G_badH := ok_badH (mg := mg) (P := P) (w := w) (base := base) (Z := ⟨c_VoteError, c_BadTree, c_NoBlock, c_NoPlace, c_Beneath, c_BadHistory, c_Tree, c_History, t_MOST_BLOCKS, t_MOST_MOVES⟩) F_BadHistory___init__ hEBadHistory
  have G_badHot := ok_badHot (mg := mg) (P := P) (w := w) (base := base) (Z := ⟨c_VoteError, c_BadTree, c_NoBlock, c_NoPlace, c_Beneath, c_BadHistory, c_Tree, c_History, t_MOST_BLOCKS, t_MOST_MOVES⟩) F_BadHistory___init__ hEBadHistory
  have G_hist := ok_hist F_History___init__ B hS hT hMX hHC C_is_pair G_pair C_moved G_moved C_BadHistory___init__ G_badH G_badHot hEBadHistory
  have G_wtree := ok_wtree F__law_tree B C__law_draw G_draw
  have G_row := ok_row (P := P) (w := w) (base := base) F__law_row B
  have G_inner := ok_inner F__law_beneath B C__law_row G_row
  have G_put := ok_putT (P := P) (w := w) (base := base) F__law_put B
  have G_movs := ok_movs F__law_moves B C__law_draw G_draw C__law_beneath G_inner C__law_put G_put
  have G_ties := ok_ties (P := P) (w := w) (base := base) F__ties_of B
  have G_lhad := ok_lhad (P := P) (w := w) (base := base) F__law_had B
  have G_round := ok_round (P := P) (w := w) (base := base) F__law_is_round B
  have G_asc := ok_asc (P := P) (w := w) (base := base) F_is_ascending B
  have G_lot := ok_lot F_is_lot_within B C_is_within G_within C_is_ascending G_asc
  have G_leads := ok_leads (P := P) (w := w) (base := base) F__leads_to B
  have G_calm := ok_calm F_is_calm B hHC hcTree noTree_hung C_is_lot_within G_lot C__ties_of G_ties C__leads_to G_leads
  have G_few := ok_few F_fewest_calms B hHC hcTree noTree_hung C__ties_of G_ties C__leads_to G_leads
  have G_safe := ok_safe F__law_is_safe B C__law_put G_put C__law_had G_lhad C__law_is_round G_round
  have G_lots := ok_lots (P := P) (w := w) (base := base) F__law_lots B
  have G_least := ok_least (P := P) (w := w) (base := base) F__law_least B
  exact ok_law38 F_law B C__law_hand G_hand C__law_draw G_draw C__law_tree G_wtree C__law_moves G_movs C__law_is_safe G_safe C__law_lots G_lots C__law_least G_least C_is_calm G_calm C_fewest_calms G_few C_History___init__ G_hist hMHistory C_Tree___init__ G_tree hMTree
end Fv
open PySem PySem.W PyProof.Rows in
set_option maxRecDepth 100000 in
set_option maxHeartbeats 0 in
theorem PySem.Challenge.cw_foldervotes_k38_whole_fewest_calms_holds : PySem.Challenge.rw_foldervotes_k38_whole_fewest_calms.Holds := by
  refine Fv.hd ?_
  k_fill
  refine L2.walk_of (l := PySem.Challenge.rw_foldervotes_k38_whole_fewest_calms) (n := 63) (k := 10) (x := "_law_script") (CX := fun _ => L2.CX0) (sp := fun w => Fv.spLaw _) rfl (by decide) rfl ⟨rfl, by decide, by decide⟩ (fun w h Y => PySem.W.kIn_of Y) ?F (fun _ _ a ns hl _ hS => ⟨a, ns, rfl, hS, hl, fun _ => rfl⟩) (fun _ _ _ _ _ h => h)
  case F =>
   as_aux_lemma =>
    intro w mg fa h KX G hmg
    refine' Fv.all_mk KX G hmg ?n_VoteError ?n_BadTree ?n_NoBlock ?n_NoPlace ?n_Beneath ?n_BadHistory ?n_Tree ?n_History ?n_MOST_BLOCKS ?n_MOST_MOVES ?z_ValueError ?z_abs ?z_all ?z_bool ?z_dict ?z_enumerate ?z_int ?z_isinstance ?z_len ?z_list ?z_max ?z_min ?z_range ?z_set ?z_sorted ?z_str ?z_super ?z_tuple ?z_zip ?a_BadTree___init__ ?i_BadTree___init__ ?l_BadTree___init__ ?c_BadTree___init__ ?k_BadTree___init__ ?a_BadHistory___init__ ?i_BadHistory___init__ ?l_BadHistory___init__ ?c_BadHistory___init__ ?k_BadHistory___init__ ?a_is_within ?l_is_within ?c_is_within ?k_is_within ?a_is_pair ?l_is_pair ?c_is_pair ?k_is_pair ?a_is_ascending ?l_is_ascending ?c_is_ascending ?k_is_ascending ?a_is_lot_within ?l_is_lot_within ?c_is_lot_within ?k_is_lot_within ?a_Tree___init__ ?i_Tree___init__ ?l_Tree___init__ ?c_Tree___init__ ?k_Tree___init__ ?a__comes_to_head ?l__comes_to_head ?c__comes_to_head ?k__comes_to_head ?a_is_block ?l_is_block ?c_is_block ?k_is_block ?a_is_place ?l_is_place ?c_is_place ?k_is_place ?a_place_of ?l_place_of ?c_place_of ?k_place_of ?a_parents ?l_parents ?c_parents ?k_parents ?a_beneath ?l_beneath ?c_beneath ?k_beneath ?a_moved ?l_moved ?c_moved ?k_moved ?a_History___init__ ?i_History___init__ ?l_History___init__ ?c_History___init__ ?k_History___init__ ?a__ties_of ?l__ties_of ?c__ties_of ?k__ties_of ?a_is_calm ?l_is_calm ?c_is_calm ?k_is_calm ?a_fewest_calms ?l_fewest_calms ?c_fewest_calms ?k_fewest_calms ?a__leads_to ?l__leads_to ?c__leads_to ?k__leads_to ?a__law_hand ?l__law_hand ?c__law_hand ?k__law_hand ?a__law_draw ?l__law_draw ?c__law_draw ?k__law_draw ?a__law_tree ?l__law_tree ?c__law_tree ?k__law_tree ?a__law_row ?l__law_row ?c__law_row ?k__law_row ?a__law_beneath ?l__law_beneath ?c__law_beneath ?k__law_beneath ?a__law_put ?l__law_put ?c__law_put ?k__law_put ?a__law_moves ?l__law_moves ?c__law_moves ?k__law_moves ?a__law_had ?l__law_had ?c__law_had ?k__law_had ?a__law_is_round ?l__law_is_round ?c__law_is_round ?k__law_is_round ?a__law_is_safe ?l__law_is_safe ?c__law_is_safe ?k__law_is_safe ?a__law_lots ?l__law_lots ?c__law_lots ?k__law_lots ?a__law_least ?l__law_least ?c__law_least ?k__law_least ?a_law ?l_law ?c_law ?k_law ?pgTree ?hdTree ?poTree ?saTree ?mkTree ?kcTree ?noTree_hung ?haTree ?hmTree ?icTree ?tyTree ?spO ?tkO ?pgHistory ?hdHistory ?poHistory ?saHistory ?mkHistory ?kcHistory ?noHistory_tree ?noHistory_moves ?xLBadTree ?rvBadTree ?saEBadTree ?exEBadTree ?tyEBadTree ?kcEBadTree ?tiEBadTree ?noEBadTree ?xLBadHistory ?rvBadHistory ?saEBadHistory ?exEBadHistory ?tyEBadHistory ?kcEBadHistory ?tiEBadHistory ?noEBadHistory ?xUNoBlock ?rvUNoBlock ?saUNoBlock ?exUNoBlock ?tyUNoBlock ?kcUNoBlock ?iUNoBlock ?tiUNoBlock ?lUNoBlock ?cUNoBlock ?ceUNoBlock ?coUNoBlock ?vsU2NoBlock ?fiUNoBlock ?evUNoBlock ?upUNoBlock ?meUNoBlock ?veUNoBlock ?opU ?tpU ?xUNoPlace ?rvUNoPlace ?saUNoPlace ?exUNoPlace ?tyUNoPlace ?kcUNoPlace ?iUNoPlace ?tiUNoPlace ?lUNoPlace ?cUNoPlace ?ceUNoPlace ?coUNoPlace ?vsU2NoPlace ?fiUNoPlace ?evUNoPlace ?upUNoPlace ?meUNoPlace ?veUNoPlace ?xUBeneath ?rvUBeneath ?saUBeneath ?exUBeneath ?tyUBeneath ?kcUBeneath ?iUBeneath ?tiUBeneath ?lUBeneath ?cUBeneath ?ceUBeneath ?coUBeneath ?vsU2Beneath ?fiUBeneath ?evUBeneath ?upUBeneath ?meUBeneath ?veUBeneath ?swint ?swbool ?swtuple ?swlist ?hdUNoBlock ?hdUNoPlace ?hdUBeneath ?suNoBlock_NoBlock ?suNoBlock_NoPlace ?suNoBlock_Beneath ?suNoPlace_NoBlock ?suNoPlace_NoPlace ?suNoPlace_Beneath ?suBeneath_NoBlock ?suBeneath_NoPlace ?suBeneath_Beneath
    (case n_VoteError => k_is)
    (case n_BadTree => k_is)
    (case n_NoBlock => k_is)
    (case n_NoPlace => k_is)
    (case n_Beneath => k_is)
    (case n_BadHistory => k_is)
    (case n_Tree => k_is)
    (case n_History => k_is)
    (case n_MOST_BLOCKS => k_is)
    (case n_MOST_MOVES => k_is)
    (case z_ValueError => k_is)
    (case z_abs => k_is)
    (case z_all => k_is)
    (case z_bool => k_is)
    (case z_dict => k_is)
    (case z_enumerate => k_is)
    (case z_int => k_is)
    (case z_isinstance => k_is)
    (case z_len => k_is)
    (case z_list => k_is)
    (case z_max => k_is)
    (case z_min => k_is)
    (case z_range => k_is)
    (case z_set => k_is)
    (case z_sorted => k_is)
    (case z_str => k_is)
    (case z_super => k_is)
    (case z_tuple => k_is)
    (case z_zip => k_is)
    (case a_BadTree___init__ => k_is)
    (case i_BadTree___init__ => k_is)
    (case l_BadTree___init__ => k_is)
    (case c_BadTree___init__ => k_is)
    (case k_BadTree___init__ => k_is)
    (case a_BadHistory___init__ => k_is)
    (case i_BadHistory___init__ => k_is)
    (case l_BadHistory___init__ => k_is)
    (case c_BadHistory___init__ => k_is)
    (case k_BadHistory___init__ => k_is)
    (case a_is_within => k_is)
    (case l_is_within => k_is)
    (case c_is_within => k_is)
    (case k_is_within => k_is)
    (case a_is_pair => k_is)
    (case l_is_pair => k_is)
    (case c_is_pair => k_is)
    (case k_is_pair => k_is)
    (case a_is_ascending => k_is)
    (case l_is_ascending => k_is)
    (case c_is_ascending => k_is)
    (case k_is_ascending => k_is)
    (case a_is_lot_within => k_is)
    (case l_is_lot_within => k_is)
    (case c_is_lot_within => k_is)
    (case k_is_lot_within => k_is)
    (case a_Tree___init__ => k_is)
    (case i_Tree___init__ => k_is)
    (case l_Tree___init__ => k_is)
    (case c_Tree___init__ => k_is)
    (case k_Tree___init__ => k_is)
    (case a__comes_to_head => k_is)
    (case l__comes_to_head => k_is)
    (case c__comes_to_head => k_is)
    (case k__comes_to_head => k_is)
    (case a_is_block => k_is)
    (case l_is_block => k_is)
    (case c_is_block => k_is)
    (case k_is_block => k_is)
    (case a_is_place => k_is)
    (case l_is_place => k_is)
    (case c_is_place => k_is)
    (case k_is_place => k_is)
    (case a_place_of => k_is)
    (case l_place_of => k_is)
    (case c_place_of => k_is)
    (case k_place_of => k_is)
    (case a_parents => k_is)
    (case l_parents => k_is)
    (case c_parents => k_is)
    (case k_parents => k_is)
    (case a_beneath => k_is)
    (case l_beneath => k_is)
    (case c_beneath => k_is)
    (case k_beneath => k_is)
    (case a_moved => k_is)
    (case l_moved => k_is)
    (case c_moved => k_is)
    (case k_moved => k_is)
    (case a_History___init__ => k_is)
    (case i_History___init__ => k_is)
    (case l_History___init__ => k_is)
    (case c_History___init__ => k_is)
    (case k_History___init__ => k_is)
    (case a__ties_of => k_is)
    (case l__ties_of => k_is)
    (case c__ties_of => k_is)
    (case k__ties_of => k_is)
    (case a_is_calm => k_is)
    (case l_is_calm => k_is)
    (case c_is_calm => k_is)
    (case k_is_calm => k_is)
    (case a_fewest_calms => k_is)
    (case l_fewest_calms => k_is)
    (case c_fewest_calms => k_is)
    (case k_fewest_calms => k_is)
    (case a__leads_to => k_is)
    (case l__leads_to => k_is)
    (case c__leads_to => k_is)
    (case k__leads_to => k_is)
    (case a__law_hand => k_is)
    (case l__law_hand => k_is)
    (case c__law_hand => k_is)
    (case k__law_hand => k_is)
    (case a__law_draw => k_is)
    (case l__law_draw => k_is)
    (case c__law_draw => k_is)
    (case k__law_draw => k_is)
    (case a__law_tree => k_is)
    (case l__law_tree => k_is)
    (case c__law_tree => k_is)
    (case k__law_tree => k_is)
    (case a__law_row => k_is)
    (case l__law_row => k_is)
    (case c__law_row => k_is)
    (case k__law_row => k_is)
    (case a__law_beneath => k_is)
    (case l__law_beneath => k_is)
    (case c__law_beneath => k_is)
    (case k__law_beneath => k_is)
    (case a__law_put => k_is)
    (case l__law_put => k_is)
    (case c__law_put => k_is)
    (case k__law_put => k_is)
    (case a__law_moves => k_is)
    (case l__law_moves => k_is)
    (case c__law_moves => k_is)
    (case k__law_moves => k_is)
    (case a__law_had => k_is)
    (case l__law_had => k_is)
    (case c__law_had => k_is)
    (case k__law_had => k_is)
    (case a__law_is_round => k_is)
    (case l__law_is_round => k_is)
    (case c__law_is_round => k_is)
    (case k__law_is_round => k_is)
    (case a__law_is_safe => k_is)
    (case l__law_is_safe => k_is)
    (case c__law_is_safe => k_is)
    (case k__law_is_safe => k_is)
    (case a__law_lots => k_is)
    (case l__law_lots => k_is)
    (case c__law_lots => k_is)
    (case k__law_lots => k_is)
    (case a__law_least => k_is)
    (case l__law_least => k_is)
    (case c__law_least => k_is)
    (case k__law_least => k_is)
    (case a_law => k_is)
    (case l_law => k_is)
    (case c_law => k_is)
    (case k_law => k_is)
    (case pgTree => k_is)
    (case hdTree => k_is)
    (case poTree => k_is)
    (case saTree => k_is)
    (case mkTree => k_is)
    (case kcTree => k_is)
    (case noTree_hung => k_is)
    (case haTree => k_is)
    (case hmTree => k_is)
    (case icTree => k_is)
    (case tyTree => k_is)
    (case spO => k_is)
    (case tkO => k_is)
    (case pgHistory => k_is)
    (case hdHistory => k_is)
    (case poHistory => k_is)
    (case saHistory => k_is)
    (case mkHistory => k_is)
    (case kcHistory => k_is)
    (case noHistory_tree => k_is)
    (case noHistory_moves => k_is)
    (case xLBadTree => k_is)
    (case rvBadTree => decide +kernel)
    (case saEBadTree => k_is)
    (case exEBadTree => k_is)
    (case tyEBadTree => k_is)
    (case kcEBadTree => k_is)
    (case tiEBadTree => k_is)
    (case noEBadTree => k_is)
    (case xLBadHistory => k_is)
    (case rvBadHistory => decide +kernel)
    (case saEBadHistory => k_is)
    (case exEBadHistory => k_is)
    (case tyEBadHistory => k_is)
    (case kcEBadHistory => k_is)
    (case tiEBadHistory => k_is)
    (case noEBadHistory => k_is)
    (case xUNoBlock => k_is)
    (case rvUNoBlock => decide +kernel)
    (case saUNoBlock => k_is)
    (case exUNoBlock => k_is)
    (case tyUNoBlock => k_is)
    (case kcUNoBlock => k_is)
    (case iUNoBlock => k_is)
    (case tiUNoBlock => k_is)
    (case lUNoBlock => k_is)
    (case cUNoBlock => k_is)
    (case ceUNoBlock => k_is)
    (case coUNoBlock => k_is)
    (case vsU2NoBlock => rfl)
    (case fiUNoBlock => first | rfl | decide +kernel)
    (case evUNoBlock => exact fun _ _ _ _ _ => ⟨_, rfl⟩)
    (case upUNoBlock => ks_is)
    (case meUNoBlock => k_is)
    (case veUNoBlock => k_is)
    (case opU => k_is)
    (case tpU => first | rfl | decide +kernel)
    (case xUNoPlace => k_is)
    (case rvUNoPlace => decide +kernel)
    (case saUNoPlace => k_is)
    (case exUNoPlace => k_is)
    (case tyUNoPlace => k_is)
    (case kcUNoPlace => k_is)
    (case iUNoPlace => k_is)
    (case tiUNoPlace => k_is)
    (case lUNoPlace => k_is)
    (case cUNoPlace => k_is)
    (case ceUNoPlace => k_is)
    (case coUNoPlace => k_is)
    (case vsU2NoPlace => rfl)
    (case fiUNoPlace => first | rfl | decide +kernel)
    (case evUNoPlace => exact fun _ _ _ _ _ => ⟨_, rfl⟩)
    (case upUNoPlace => ks_is)
    (case meUNoPlace => k_is)
    (case veUNoPlace => k_is)
    (case xUBeneath => k_is)
    (case rvUBeneath => decide +kernel)
    (case saUBeneath => k_is)
    (case exUBeneath => k_is)
    (case tyUBeneath => k_is)
    (case kcUBeneath => k_is)
    (case iUBeneath => k_is)
    (case tiUBeneath => k_is)
    (case lUBeneath => k_is)
    (case cUBeneath => k_is)
    (case ceUBeneath => k_is)
    (case coUBeneath => k_is)
    (case vsU2Beneath => rfl)
    (case fiUBeneath => first | rfl | decide +kernel)
    (case evUBeneath => exact fun _ _ _ _ _ => ⟨_, rfl⟩)
    (case upUBeneath => ks_is)
    (case meUBeneath => k_is)
    (case veUBeneath => k_is)
    (case swint => k_is)
    (case swbool => k_is)
    (case swtuple => k_is)
    (case swlist => k_is)
    (case hdUNoBlock => k_is)
    (case hdUNoPlace => k_is)
    (case hdUBeneath => k_is)
    (case suNoBlock_NoBlock => k_is)
    (case suNoBlock_NoPlace => k_is)
    (case suNoBlock_Beneath => k_is)
    (case suNoPlace_NoBlock => k_is)
    (case suNoPlace_NoPlace => k_is)
    (case suNoPlace_Beneath => k_is)
    (case suBeneath_NoBlock => k_is)
    (case suBeneath_NoPlace => k_is)
    (case suBeneath_Beneath => k_is)
