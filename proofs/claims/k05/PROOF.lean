import PyProof.Rows.All
import Wide.All
import OpenK.AllK
import Wide.FinOn
import HandS.Base
import HandS.Call
import HandS.List
import HandS.Comp
import HandS.Ends
import HandS.Words
import HandS.Codes
import HandS.IsInst
import HandS.Flow
import HandS.Conv
import HandS.Iter
import KE.GoesEnum
import KE.GoesEnumKw
import KE.GoesMore
import HandS.Exc
import HandS.ExcOwn
import HandS.ExcInit
import HandS.TryOnly
import HandS.WordsExc
import KE.KExcIs
import HandS.ExcField
import HandS.ExcIs
import HandS.TupMul
import HandS.Sort
import KE.KExcSuper
import HandS.Small
import PyProof.TupleOfSeq
import HandS.TupAny
import HandS.Star
import PyProof.InstNe
import OpenK.KOwn
import KE.KIndexOf
import HandS.SortRule
import HandS.SetFor
import PyProof.EqKinds
import HandS.Zip
import HandS.Dict
import HandS.Style
import KE.KRevSl
import KE.KEqDict
import HandS.SuiteRaise
import HandS.RaiseFrom
import HandS.ExcInitHot
import KE.KTryMore
import HandS.OwnEq
import HandS.Strs
import PyProof.Rows.SetFrom
import HandS.WordsDict
import HandS.DictComp
import HandS.Finally
import HandS.Walk
import KE.KDictItemsList
import KE.KDictZip
import KE.LtData
import KE.SortData
import PyProof.MinMaxWalk
import PyProof.WalksMore
import KE.DataMinMax
import HandS.HotCalls
import HandS.Lambda
import PySem.Challenge.RW_foldervotes_k05_trees_and_views_refused
import HandS.EndTab
import KE.KNestM
import KE.OsRunLaw
set_option Elab.async false
set_option linter.all false
namespace Fv
section
open PySem PySem.W PyProof.Rows
local macro_rules | `(tactic| k_head) => `(tactic| km_head)
set_option maxRecDepth 100000 in
set_option maxHeartbeats 0 in
open_top hd for PySem.Challenge.rw_foldervotes_k05_trees_and_views_refused
end
end Fv
set_option maxRecDepth 100000
set_option maxHeartbeats 4000000
namespace Fv
open PySem PySem.Spec PyProof.Rows L2
section
variable {K : PySem.W.Frag} {σ : L2.St} {H H' H1 H2 : Hp} {i : Nat} {v x y : V} {Q : VK} {D : Ends} {t u : TS} {te ta tb : TE} {tt tt2 : TT} {a b p q : Addr} {o o' : HO} {xs ys : List V}
theorem x_seq (h : t { D with nx := u D } σ H) : tSeq t u D σ H := h
theorem x_next (h : D.nx σ H) : tNext D σ H := h
theorem x_drop (h : te σ H fun _ H1 => D.nx σ H1) : tDrop te D σ H := h
theorem x_ret (h : te σ H D.rt) : tRet te D σ H := h
theorem x_ifs (h : tt σ H fun b H1 => if b = true then t D σ H1 else u D σ H1) : tIfS tt t u D σ H := h
theorem x_asg {g : TG} (h : te σ H fun x H1 => g x σ H1 D.nx) : tAsg te g D σ H := h
theorem x_gname {R : L2.St → Hp → Prop} (h : R (σ.set i (some v)) H) : gName i v σ H R := h
theorem x_gsub {to ti : TE} {s : TSet} {R : L2.St → Hp → Prop} (h : to σ H fun o H1 => ti σ H1 fun i H2 => s o i v H2 fun H3 => R σ H3) : gSub to ti s v σ H R := h
theorem x_gtup {n : Nat} {g : TGs} {R : L2.St → Hp → Prop} (h : SqT K H a xs) (hl : xs.length = n) (q : g xs σ H R) : gTup K n g (.ref a) σ H R := ⟨a, xs, rfl, h, hl, q⟩
theorem x_gcons {g : TG} {gs : TGs} {R : L2.St → Hp → Prop} (h : g x σ H fun σ' H' => gs xs σ' H' R) : gCons g gs (x :: xs) σ H R := ⟨x, xs, rfl, h⟩
theorem x_gnil {R : L2.St → Hp → Prop} (h : R σ H) : gNil [] σ H R := ⟨rfl, h⟩
theorem x_var (h : σ[i]? = some (some v)) (q : Q v H) : tVar i σ H Q := ⟨v, h, q⟩
theorem x_c (q : Q v H) : tC v σ H Q := q
theorem x_op {r : R2} (h : ta σ H fun x H1 => tb σ H1 fun y H2 => r x y H2 Q) : tOp r ta tb σ H Q := h
theorem x_un {r : V → Hp → VK → Prop} (h : ta σ H fun x H1 => r x H1 Q) : tUn r ta σ H Q := h
theorem x_i0 {g : Int → Int → V} {i j : Int} (q : Q (g i j) H) : rI0 g (.int i) (.int j) H Q := ⟨i, j, rfl, rfl, q⟩
theorem x_i {C : Int → Int → Prop} {g : Int → Int → V} {i j : Int} (c : C i j) (q : Q (g i j) H) : rI C g (.int i) (.int j) H Q := ⟨i, j, rfl, rfl, c, q⟩
theorem x_u {g : Int → V} {i : Int} (q : Q (g i) H) : rU g (.int i) H Q := ⟨i, rfl, q⟩
theorem x_ne (h : scal x y = true) (q : Q (.bl (!decide (x = y))) H) : rNe x y H Q := ⟨h, q⟩
theorem x_eqI {i j : Int} (q : Q (.bl (decide (i = j))) H) : rEq (.int i) (.int j) H Q := ⟨rfl, by
  have e : decide (V.int i = V.int j) = decide (i = j) := by
    rw [Bool.eq_iff_iff]
    simp
  rw [e]
  exact q⟩
theorem x_neI {i j : Int} (q : Q (.bl (decide (i ≠ j))) H) : rNe (.int i) (.int j) H Q := ⟨rfl, by
  have e : (!decide (V.int i = V.int j)) = decide (i ≠ j) := by
    rw [Bool.eq_iff_iff]
    simp
  rw [e]
  exact q⟩
theorem x_ixL {i : Int} (h : SqL K H p xs) (ha : atI xs i = some v) (q : Q v H) : rIxL K (.ref p) (.int i) H Q := ⟨p, xs, i, v, rfl, rfl, h, ha, q⟩
theorem x_ixT {i : Int} (h : SqT K H p xs) (ha : atI xs i = some v) (q : Q v H) : rIxT K (.ref p) (.int i) H Q := ⟨p, xs, i, v, rfl, rfl, h, ha, q⟩
theorem x_setL {i : Int} {j : Nat} {R : Hp → Prop} (h : H p = some (.lst xs)) (hi : ixN xs.length i = some j) (q : R (upd H p (.lst (xs.set j v)))) : rSetL (.ref p) (.int i) v H R := ⟨p, xs, i, j, rfl, rfl, h, hi, q⟩
theorem x_test {R : Bool → Hp → Prop} (h : te σ H fun x H' => ∃ k, x = .bl k ∧ R k H') : tTest te σ H R := h
theorem x_b {R : Bool → Hp → Prop} (h : te σ H fun x H1 => ∃ c, x = .bl c ∧ R c H1) : tB te σ H R := h
theorem x_isb {c : Bool} {R : Bool → Prop} (h : R c) : ∃ k, V.bl c = .bl k ∧ R k := ⟨c, rfl, h⟩
theorem x_isi {c : Int} {R : Int → Prop} (h : R c) : ∃ k, V.int c = .int k ∧ R k := ⟨c, rfl, h⟩
theorem x_and {R : Bool → Hp → Prop} (h : tt σ H fun c H1 => if c = true then tt2 σ H1 R else R false H1) : tAnd tt tt2 σ H R := h
theorem x_or {R : Bool → Hp → Prop} (h : tt σ H fun c H1 => if c = true then R true H1 else tt2 σ H1 R) : tOr tt tt2 σ H R := h
theorem x_not {R : Bool → Hp → Prop} (h : tt σ H fun c H1 => R (!c) H1) : tNot tt σ H R := h
theorem x_andV (h : ta σ H fun x H1 => ∃ c, x = .bl c ∧ if c = true then tb σ H1 Q else Q (.bl false) H1) : tAndV ta tb σ H Q := h
theorem x_notV (h : ta σ H fun x H1 => ∃ c, x = .bl c ∧ Q (.bl (!c)) H1) : tNotV ta σ H Q := h
theorem x_ifx (h : tt σ H fun c H1 => if c = true then ta σ H1 Q else tb σ H1 Q) : tIf tt ta tb σ H Q := h
theorem x_nil {R : List V → Hp → Prop} (q : R [] H) : tNil σ H R := q
theorem x_cons {tr : TA} {R : List V → Hp → Prop} (h : te σ H fun x H1 => tr σ H1 fun xs H2 => R (x :: xs) H2) : tCons te tr σ H R := h
theorem x_cb {r : List V → Hp → VK → Prop} {ts : TA} (h : ts σ H fun vs H1 => r vs H1 Q) : tCB r ts σ H Q := h
theorem x_call {sp : Sp} {dvs : List V} {E : XK} {ts : TA} (h : ts σ H fun vs H1 => sp (vs ++ dvs) H1 Q E) : tCall sp dvs E ts σ H Q := h
theorem x_lst {ts : TA} (h : ts σ H fun xs H1 => xs.length ≤ sizeLine ∧ ∀ p, H1 p = none → Q (.ref p) (upd H1 p (.lst xs))) : tLst ts σ H Q := h
theorem x_tup {ts : TA} (h : ts σ H fun xs H1 => xs.length ≤ sizeLine ∧ ∀ p, H1 p = none → Q (.ref p) (upd H1 p (.tup xs))) : tTup ts σ H Q := h
theorem x_sl {r : V → Option Int → Option Int → Hp → VK → Prop} {tl th : TO} (h : te σ H fun x H1 => tl σ H1 fun l H2 => th σ H2 fun u H3 => r x l u H3 Q) : tSl r te tl th σ H Q := h
theorem x_nopart {R : Option Int → Hp → Prop} (h : R none H) : tNoPart σ H R := h
theorem x_part {R : Option Int → Hp → Prop} (h : te σ H fun x H1 => ∃ i, x = .int i ∧ R (some i) H1) : tPart te σ H R := h
theorem x_slL {lo hi : Option Int} (h : SqL K H a xs) (q : ∀ p, H p = none → Q (.ref p) (upd H p (.lst (cutV xs lo hi)))) : rSlL K (.ref a) lo hi H Q := ⟨a, xs, rfl, h, q⟩
theorem x_bm {T : String} {r : V → List V → Hp → VK → Prop} {ts : TA} (h : te σ H fun x H1 => tyV K T x H1 ∧ ts σ H1 fun xs H2 => r x xs H2 Q) : tBM K T r te ts σ H Q := h
theorem x_append (h : H p = some (.lst xs)) (hl : xs.length < sizeLine) (q : Q .non (upd H p (.lst (xs ++ [v])))) : rAppend (.ref p) [v] H Q := ⟨p, xs, v, rfl, rfl, h, hl, q⟩
theorem x_par {j : Nat} {ts : TA} (h : ts σ H fun vs H1 => ∃ v w, vs = [v, w] ∧ D.nx ((σ.set i (some v)).set j (some w)) H1) : tPar i j ts D σ H := h
theorem x_par2 {R : V → V → Prop} (h : R x y) : ∃ v w, [x, y] = [v, w] ∧ R v w := ⟨x, y, rfl, h⟩
theorem x_chain {r r' : R2} {tc : TE} (h : ta σ H fun x H1 => tb σ H1 fun y H2 => r x y H2 fun z H3 => ∃ k, z = .bl k ∧ (if k = true then tc σ H3 fun w' H4 => r' y w' H4 Q else Q (.bl false) H3)) : tChain r r' ta tb tc σ H Q := h
theorem x_aug {ti : TIp} (h : σ[i]? = some (some x)) (q : te σ H fun y H1 => ti x y H1 fun z H2 => D.nx (σ.set i (some z)) H2) : tAug i te ti D σ H := ⟨x, h, q⟩
theorem x_ipI {f : Int → Int → Int} {i j : Int} (q : Q (.int (f i j)) H) : ipI f (.int i) (.int j) H Q := ⟨i, j, rfl, rfl, q⟩
theorem x_ilist {R : It → Hp → Prop} {tl : TE} (h : tl σ H fun x H1 => ∃ a, x = .ref a ∧ (∃ xs, SqL K H1 a xs) ∧ R (Itl K a) H1) : iList K tl σ H R := h
theorem x_itup {R : It → Hp → Prop} {tl : TE} (h : tl σ H fun x H1 => ∃ a, x = .ref a ∧ (∃ xs, SqT K H1 a xs) ∧ R (Itt K a) H1) : iTup K tl σ H R := h
theorem x_rng1 {R : It → Hp → Prop} {ts : TA} (h : ts σ H fun vs H1 => ∃ j : Int, vs = [.int j] ∧ -(2 ^ 62) ≤ j ∧ j < 2 ^ 62 ∧ R (Itr 0 j.toNat) H1) : iRng1 ts σ H R := h
theorem x_rng2 {R : It → Hp → Prop} {ts : TA} (h : ts σ H fun vs H1 => ∃ i j : Int, vs = [.int i, .int j] ∧ (-(2 ^ 62) ≤ i ∧ i < 2 ^ 62 ∧ -(2 ^ 62) ≤ j ∧ j < 2 ^ 62) ∧ R (Itr i (j - i).toNat) H1) : iRng2 ts σ H R := h
theorem x_yes {R : Bool → Hp → Prop} (h : R true H) : tYes σ H R := h
def rLen (K : PySem.W.Frag) : List V → Hp → VK → Prop := fun xs H Q => ∃ p ys, xs = [.ref p] ∧ (SqL K H p ys ∨ SqT K H p ys) ∧ Q (.int ys.length) H
def rInt : List V → Hp → VK → Prop := fun xs H Q => (∃ i, xs = [.int i] ∧ Q (.int i) H) ∨ ∃ k, xs = [.bl k] ∧ Q (.int (if k then 1 else 0)) H
def rAbs : List V → Hp → VK → Prop := fun xs H Q => ∃ i, xs = [.int i] ∧ Q (.int (if i < 0 then -i else i)) H
def rListOf (K : PySem.W.Frag) : List V → Hp → VK → Prop := fun xs H Q => ∃ p ys, xs = [.ref p] ∧ (SqL K H p ys ∨ SqT K H p ys) ∧ ∀ l, H l = none → Q (.ref l) (upd H l (.lst ys))
def rTupOf (K : PySem.W.Frag) : List V → Hp → VK → Prop := fun xs H Q => ∃ p ys, xs = [.ref p] ∧ ((SqL K H p ys ∧ ∀ l, H l = none → Q (.ref l) (upd H l (.tup ys))) ∨ (SqT K H p ys ∧ Q (.ref p) H))
theorem call_len {X : Cx} : CallR X (.builtin "len") (rLen X.K) := call_len_seq
theorem call_int {X : Cx} : CallR X (.type "int") rInt := call_int1
theorem call_ab {X : Cx} : CallR X (.builtin "abs") rAbs := call_abs
theorem call_lst {X : Cx} : CallR X (.type "list") (rListOf X.K) := call_list_of
theorem call_tpl {X : Cx} : CallR X (.type "tuple") (rTupOf X.K) := call_tuple_of
theorem x_lenL (h : SqL K H p xs) (q : Q (.int xs.length) H) : rLen K [.ref p] H Q := ⟨p, xs, rfl, .inl h, q⟩
theorem x_lenT (h : SqT K H p xs) (q : Q (.int xs.length) H) : rLen K [.ref p] H Q := ⟨p, xs, rfl, .inr h, q⟩
theorem x_int1 {j : Int} (q : Q (.int j) H) : rInt [.int j] H Q := .inl ⟨j, rfl, q⟩
theorem x_abs {j : Int} (q : Q (.int (if j < 0 then -j else j)) H) : rAbs [.int j] H Q := ⟨j, rfl, q⟩
theorem x_listT (h : SqT K H p xs) (q : ∀ l, H l = none → Q (.ref l) (upd H l (.lst xs))) : rListOf K [.ref p] H Q := ⟨p, xs, rfl, .inr h, q⟩
theorem x_tupL (h : SqL K H p xs) (q : ∀ l, H l = none → Q (.ref l) (upd H l (.tup xs))) : rTupOf K [.ref p] H Q := ⟨p, xs, rfl, .inl ⟨h, q⟩⟩
theorem x_isd {c : Prop} [Decidable c] {A B : Prop} (h1 : c → A) (h2 : ¬ c → B) : if decide c = true then A else B := by
  by_cases h : c
  · rw [if_pos (decide_eq_true h)]
    exact h1 h
  · rw [if_neg (by rw [decide_eq_false h]; exact Bool.false_ne_true)]
    exact h2 h
theorem x_isdT {c : Prop} [Decidable c] {A B : Prop} (h : c) (h1 : A) : if decide c = true then A else B := x_isd (fun _ => h1) fun n => (n h).elim
theorem x_isdF {c : Prop} [Decidable c] {A B : Prop} (h : ¬ c) (h1 : B) : if decide c = true then A else B := x_isd (fun n => (h n).elim) fun _ => h1
theorem x_nF {A B : Prop} (h : A) : if (!false) = true then A else B := iteT h
theorem x_nT {A B : Prop} (h : B) : if (!true) = true then A else B := iteF h
theorem lp_range {g : TG} {tb : TS} {nx : L2.St → Hp → Prop} {rt : VK} {σ : L2.St} {H : Hp} {lo : Int} {n : Nat} (Pv : Nat → L2.St → Hp → Prop) (h0 : Pv 0 σ H) (hs : ∀ i σ H, i < n → Pv i σ H → g (.int (lo + i)) σ H fun σ2 H2 => tb { nx := Pv (i + 1), rt := rt, bk := nx, ct := Pv (i + 1) } σ2 H2) (hd : ∀ σ H, Pv n σ H → nx σ H) :
    ∃ W : Nat → Nat → L2.St → Hp → Prop, (∃ m, W 0 m σ H) ∧ ∀ i m σ H, W i m σ H → ((Itr lo n).stop i H ∧ nx σ H) ∨ ((Itr lo n).go i H ∧ ∃ N : L2.St → Hp → Prop, (∀ σ' H', N σ' H' → ∃ m', m' < m ∧ W (i + 1) m' σ' H') ∧ ∀ x H', (Itr lo n).yld i H x H' → g x σ H' fun σ2 H2 => tb { nx := N, rt := rt, bk := nx, ct := N } σ2 H2) :=
  for_range (D := { nx := nx, rt := rt}) Pv h0 hs hd
theorem lp_tup {g : TG} {tb : TS} {nx : L2.St → Hp → Prop} {rt : VK} {σ : L2.St} {H : Hp} {K : PySem.W.Frag} {a : Addr} {xs : List V} (Pv : Nat → L2.St → Hp → Prop) (h0 : Pv 0 σ H) (hl : ∀ i σ H, i ≤ xs.length → Pv i σ H → SqT K H a xs) (hs : ∀ i x σ H, xs[i]? = some x → Pv i σ H → g x σ H fun σ2 H2 => tb { nx := Pv (i + 1), rt := rt, bk := nx, ct := Pv (i + 1) } σ2 H2) (hd : ∀ σ H, Pv xs.length σ H → nx σ H) :
    ∃ W : Nat → Nat → L2.St → Hp → Prop, (∃ m, W 0 m σ H) ∧ ∀ i m σ H, W i m σ H → ((Itt K a).stop i H ∧ nx σ H) ∨ ((Itt K a).go i H ∧ ∃ N : L2.St → Hp → Prop, (∀ σ' H', N σ' H' → ∃ m', m' < m ∧ W (i + 1) m' σ' H') ∧ ∀ x H', (Itt K a).yld i H x H' → g x σ H' fun σ2 H2 => tb { nx := N, rt := rt, bk := nx, ct := N } σ2 H2) :=
  for_tup (D := { nx := nx, rt := rt}) Pv h0 hl hs hd
theorem keepN (h : H a = some o) (hp : H p = none) : upd H p o' a = some o := by
  rw [upd_ne (ne_of_none h hp)]
  exact h
theorem keepM (n : a ≠ p) (h : H a = some o) : upd H p o' a = some o := by
  rw [upd_ne n]
  exact h
theorem keepLM (n : a ≠ p) (h : SqL K H a xs) : SqL K (upd H p o') a xs := by
  rcases h with (h | ⟨u, h⟩) | h
  · exact .inl (.inl (keepM n h))
  · exact .inl (.inr ⟨u, keepM n h⟩)
  · exact .inr h
theorem keepLN (h : SqL K H a xs) (hp : H p = none) : SqL K (upd H p o') a xs := by
  rcases h with (h | ⟨u, h⟩) | h
  · exact .inl (.inl (keepN h hp))
  · exact .inl (.inr ⟨u, keepN h hp⟩)
  · exact .inr h
theorem keepTN (h : SqT K H a xs) (hp : H p = none) : SqT K (upd H p o') a xs := by
  rcases h with (h | ⟨u, h⟩) | h
  · exact .inl (.inl (keepN h hp))
  · exact .inl (.inr ⟨u, keepN h hp⟩)
  · exact .inr h
theorem _root_.L2.Same.seqT {K : PySem.W.Frag} {H H' : Hp} {a : Addr} {xs : List V} (e : Same H H') (h : SqT K H a xs) : SqT K H' a xs := by
  rcases h with (h | ⟨o, h⟩) | h
  · exact .inl (.inl (e _ _ h))
  · exact .inl (.inr ⟨o, e _ _ h⟩)
  · exact .inr h
theorem same_new (s : Same H H1) (hp : H1 p = none) : Same H (upd H1 p o) := fun b u e => keepN (s b u e) hp
theorem same_mut (s : Same H H1) (hp : H p = none) : Same H (upd H1 p o) := fun b u e => keepM (ne_of_none e hp) (s b u e)
def But (p : Addr) (H H' : Hp) : Prop := ∀ b o, b ≠ p → H b = some o → H' b = some o
theorem But.refl (p : Addr) (H : Hp) : But p H H := fun _ _ _ h => h
theorem But.trans (a : But p H H1) (b : But p H1 H2) : But p H H2 := fun c o n h => b c o n (a c o n h)
theorem But.of (s : Same H H1) : But p H H1 := fun b o _ h => s b o h
theorem But.new (s : But p H H1) (hq : H1 q = none) : But p H (upd H1 q o) := fun b u n e => keepN (s b u n e) hq
theorem But.mut (s : But p H H1) : But p H (upd H1 p o) := fun b u n e => keepM n (s b u n e)
theorem But.mutF (s : But p H H1) (hq : H q = none) : But p H (upd H1 q o) := fun b u n e => keepM (ne_of_none e hq) (s b u n e)
theorem But.seq (s : But p H H1) (n : a ≠ p) (h : SqL K H a xs) : SqL K H1 a xs := by
  rcases h with (h | ⟨o, h⟩) | h
  · exact .inl (.inl (s _ _ n h))
  · exact .inl (.inr ⟨o, s _ _ n h⟩)
  · exact .inr h
end
theorem same_trans {H H1 H2 : Hp} (b : Same H1 H2) (a : Same H H1) : Same H H2 := Same.trans a b
theorem ne_none' {H : Hp} {a b : Addr} {o : HO} (h' : H b = none) (h : H a = some o) : b ≠ a := Ne.symm (ne_of_none h h')
theorem cut1 (xs : List V) : cutV xs (some 1) none = xs.drop 1 := by
  unfold cutV
  rw [show HT.sIx xs.length 0 (some 1) = min 1 xs.length from HT.sIx_nat xs.length 0 1, HT.sIx_none]
  cases xs with
  | nil => rfl
  | cons x r =>
    rw [show min 1 (x :: r).length = 1 by
      rw [List.length_cons]
      omega]
    show (List.take ((x :: r).length - 1) r) = r
    rw [List.length_cons, Nat.add_sub_cancel]
    exact List.take_length
theorem at_mod {xs : List V} {z : Int} (h : 0 < xs.length) : ∃ v, atI xs (z % (xs.length : Int)) = some v ∧ v ∈ xs := by
  have h1 : 0 ≤ z % (xs.length : Int) := Int.emod_nonneg _ (by omega)
  have h2 : z % (xs.length : Int) < xs.length := Int.emod_lt_of_pos _ (by omega)
  obtain ⟨j, hj⟩ := Int.eq_ofNat_of_zero_le h1
  have hl : j < xs.length := by omega
  refine ⟨xs[j], ?_, List.getElem_mem hl⟩
  rw [hj]
  exact atI_nat (List.getElem?_eq_getElem hl)
theorem at_lt {xs : List V} {d : Int} (h1 : 0 ≤ d) (h2 : d < xs.length) : ∃ v, atI xs d = some v ∧ v ∈ xs := by
  obtain ⟨j, hj⟩ := Int.eq_ofNat_of_zero_le h1
  have hl : j < xs.length := by omega
  refine ⟨xs[j], ?_, List.getElem_mem hl⟩
  rw [hj]
  exact atI_nat (List.getElem?_eq_getElem hl)
structure Cal (K : PySem.W.Frag) (mg : Str → Option Value) (x : Str) (f : Addr) (fd : FuncData) (ps : List Str) : Prop where
  g : mg x = some (.ref f)
  k : PySem.W.keepIn K (.ref f) = true
  b : Binds K fd ps []
theorem szLe {n : Nat} (h : n ≤ 100000) : n ≤ sizeLine := Nat.le_trans h (by decide)
theorem szLt {n : Nat} (h : n < 100000) : n < sizeLine := Nat.lt_of_lt_of_le h (by decide)
end Fv
set_option maxRecDepth 100000
set_option maxHeartbeats 1000000
namespace Fv
open PySem PySem.Spec L2
def Kn (H : Hp) : V → Prop
  | .non => True
  | .bl _ => True
  | .int _ => True
  | .str _ => True
  | .ref a => (∃ xs, H a = some (.lst xs)) ∨ (∃ xs, H a = some (.tup xs)) ∨ ∃ kvs, H a = some (.dK kvs)
  | _ => False
theorem Kn.same {H H' : Hp} {x : V} (s : Same H H') (h : Kn H x) : Kn H' x := by
  cases x with
  | ref a =>
    rcases h with ⟨xs, h⟩ | ⟨xs, h⟩ | ⟨xs, h⟩
    · exact .inl ⟨xs, s _ _ h⟩
    · exact .inr (.inl ⟨xs, s _ _ h⟩)
    · exact .inr (.inr ⟨xs, s _ _ h⟩)
  | _ => exact h
theorem Kn.but {H H' : Hp} {p : Addr} {x : V} (s : But p H H') (hp : x ≠ .ref p) (h : Kn H x) : Kn H' x := by
  cases x with
  | ref a =>
    have n : a ≠ p := fun e => hp (by rw [e])
    rcases h with ⟨xs, h⟩ | ⟨xs, h⟩ | ⟨xs, h⟩
    · exact .inl ⟨xs, s _ _ n h⟩
    · exact .inr (.inl ⟨xs, s _ _ n h⟩)
    · exact .inr (.inr ⟨xs, s _ _ n h⟩)
  | _ => exact h
def isIntV : V → Bool
  | .int _ => true
  | .bl _ => true
  | _ => false
def isBlV : V → Bool
  | .bl _ => true
  | _ => false
def numV (lo hi : Int) : V → Bool
  | .int i => decide (lo ≤ i) && decide (i ≤ hi)
  | _ => false
theorem numT {lo hi i : Int} (c : lo ≤ i) : numV lo hi (.int i) = decide (i ≤ hi) := by
  show (decide (lo ≤ i) && decide (i ≤ hi)) = _
  rw [decide_eq_true c]
  rfl
theorem numF {lo hi i : Int} (c : ¬ lo ≤ i) : numV lo hi (.int i) = false := by
  show (decide (lo ≤ i) && decide (i ≤ hi)) = _
  rw [decide_eq_false c]
  rfl
section
variable {K : PySem.W.Frag} {σ : L2.St} {H H' H1 H2 : Hp} {i : Nat} {v x y : V} {Q : VK} {a b p q : Addr} {o o' : HO} {xs ys : List V}
theorem x_isK {T : String} {t : String} {b : Bool} (ty : TyX K H x (.type t)) (e : kitB t T = some b) (q : Q (.bl b) H) : rIsi K [x, .ty T] H Q := ⟨x, .ty T, .type t, .type T, b, rfl, .ty T, ty, kit_ty e, q⟩
theorem x_isInt (h : Kn H x) (q : Q (.bl (isIntV x)) H) : rIsi K [x, .ty "int"] H Q := by
  cases x with
  | non => exact x_isK (b := false) (.base .non) (by decide +kernel) q
  | bl b => exact x_isK (b := true) (.base (.bl b)) (by decide +kernel) q
  | int i => exact x_isK (b := true) (.base (.int i)) (by decide +kernel) q
  | str i => exact x_isK (b := false) (.base (.str i)) (by decide +kernel) q
  | byt b => exact h.elim
  | flt b => exact h.elim
  | ty b => exact h.elim
  | ref a =>
    rcases h with ⟨xs, h⟩ | ⟨xs, h⟩ | ⟨xs, h⟩
    · exact x_isK (b := false) (.base (.lst h)) (by decide +kernel) q
    · exact x_isK (b := false) (.base (.tup h)) (by decide +kernel) q
    · exact x_isK (b := false) (.base (.dK h)) (by decide +kernel) q
theorem x_isBl (h : Kn H x) (q : Q (.bl (isBlV x)) H) : rIsi K [x, .ty "bool"] H Q := by
  cases x with
  | non => exact x_isK (b := false) (.base .non) (by decide +kernel) q
  | bl b => exact x_isK (b := true) (.base (.bl b)) (by decide +kernel) q
  | int i => exact x_isK (b := false) (.base (.int i)) (by decide +kernel) q
  | str i => exact x_isK (b := false) (.base (.str i)) (by decide +kernel) q
  | byt b => exact h.elim
  | flt b => exact h.elim
  | ty b => exact h.elim
  | ref a =>
    rcases h with ⟨xs, h⟩ | ⟨xs, h⟩ | ⟨xs, h⟩
    · exact x_isK (b := false) (.base (.lst h)) (by decide +kernel) q
    · exact x_isK (b := false) (.base (.tup h)) (by decide +kernel) q
    · exact x_isK (b := false) (.base (.dK h)) (by decide +kernel) q
theorem x_isiT2 {T1 T2 t : String} {b1 b2 : Bool} (hp : H p = some (.tup [.ty T1, .ty T2])) (ty : TyX K H x (.type t)) (e1 : kitB t T1 = some b1) (e2 : kitB t T2 = some b2) (q : Q (.bl (b1 || b2)) H) : rIsiT K [x, .ref p] H Q := by
  refine ⟨x, p, [.ty T1, .ty T2], .type t, [.type T1, .type T2], b1 || b2, rfl, hp, .cons (.ty _) (.cons (.ty _) .nil), ty, ?_, q⟩
  cases b1 with
  | true => exact kitAny_cons (kit_ty e1) (fun h => nomatch h) (fun _ => rfl)
  | false =>
    refine kitAny_cons (kit_ty e1) (fun _ => ?_) (fun h => nomatch h)
    cases b2 with
    | true => exact kitAny_cons (kit_ty e2) (fun h => nomatch h) (fun _ => rfl)
    | false => exact kitAny_cons (kit_ty e2) (fun _ => kitAny_nil) (fun h => nomatch h)
end
section
variable {K : PySem.W.Frag} {H : Hp} {Q : VK} {a : Addr} {xs : List V}
theorem isi_non_tuple (q : Q (.bl false) H) : rIsi K [.non, .ty "tuple"] H Q := x_isK (b := false) (.base .non) (by decide +kernel) q
theorem isi_non_dict (q : Q (.bl false) H) : rIsi K [.non, .ty "dict"] H Q := x_isK (b := false) (.base .non) (by decide +kernel) q
theorem isi_bl_bool {c : Bool} (q : Q (.bl true) H) : rIsi K [.bl c, .ty "bool"] H Q := x_isK (b := true) (.base (.bl c)) (by decide +kernel) q
theorem isi_bl_tuple {c : Bool} (q : Q (.bl false) H) : rIsi K [.bl c, .ty "tuple"] H Q := x_isK (b := false) (.base (.bl c)) (by decide +kernel) q
theorem isi_bl_dict {c : Bool} (q : Q (.bl false) H) : rIsi K [.bl c, .ty "dict"] H Q := x_isK (b := false) (.base (.bl c)) (by decide +kernel) q
theorem isi_int_bool {j : Int} (q : Q (.bl false) H) : rIsi K [.int j, .ty "bool"] H Q := x_isK (b := false) (.base (.int j)) (by decide +kernel) q
theorem isi_int_tuple {j : Int} (q : Q (.bl false) H) : rIsi K [.int j, .ty "tuple"] H Q := x_isK (b := false) (.base (.int j)) (by decide +kernel) q
theorem isi_int_dict {j : Int} (q : Q (.bl false) H) : rIsi K [.int j, .ty "dict"] H Q := x_isK (b := false) (.base (.int j)) (by decide +kernel) q
theorem isi_str_bool {j : Str} (q : Q (.bl false) H) : rIsi K [.str j, .ty "bool"] H Q := x_isK (b := false) (.base (.str j)) (by decide +kernel) q
theorem isi_str_tuple {j : Str} (q : Q (.bl false) H) : rIsi K [.str j, .ty "tuple"] H Q := x_isK (b := false) (.base (.str j)) (by decide +kernel) q
theorem isi_str_dict {j : Str} (q : Q (.bl false) H) : rIsi K [.str j, .ty "dict"] H Q := x_isK (b := false) (.base (.str j)) (by decide +kernel) q
theorem isi_lst_tuple (h : H a = some (.lst xs)) (q : Q (.bl false) H) : rIsi K [.ref a, .ty "tuple"] H Q := x_isK (b := false) (.base (.lst h)) (by decide +kernel) q
theorem isi_lst_list (h : H a = some (.lst xs)) (q : Q (.bl true) H) : rIsi K [.ref a, .ty "list"] H Q := x_isK (b := true) (.base (.lst h)) (by decide +kernel) q
theorem isi_tup_tuple (h : H a = some (.tup xs)) (q : Q (.bl true) H) : rIsi K [.ref a, .ty "tuple"] H Q := x_isK (b := true) (.base (.tup h)) (by decide +kernel) q
theorem isi_tup_list (h : H a = some (.tup xs)) (q : Q (.bl false) H) : rIsi K [.ref a, .ty "list"] H Q := x_isK (b := false) (.base (.tup h)) (by decide +kernel) q
theorem isi_dK_tuple {kvs : List (Key × V)} (h : H a = some (.dK kvs)) (q : Q (.bl false) H) : rIsi K [.ref a, .ty "tuple"] H Q := x_isK (b := false) (.base (.dK h)) (by decide +kernel) q
end
section
variable {K : PySem.W.Frag} {σ : L2.St} {H H' H1 H2 : Hp} {i : Nat} {v x y : V} {Q : VK} {a b p q : Addr} {o o' : HO} {xs ys : List V}
theorem x_isiTn {T1 T2 t : String} (hp : H p = some (.tup [.ty T1, .ty T2])) (ty : TyX K H x (.type t)) (e1 : kitB t T1 = some false) (e2 : kitB t T2 = some false) (q : Q (.bl false) H) : rIsiT K [x, .ref p] H Q := x_isiT2 hp ty e1 e2 q
theorem x_isiT1 {T1 T2 t : String} (hp : H p = some (.tup [.ty T1, .ty T2])) (ty : TyX K H x (.type t)) (e1 : kitB t T1 = some true) (e2 : kitB t T2 = some false) (q : Q (.bl true) H) : rIsiT K [x, .ref p] H Q := x_isiT2 hp ty e1 e2 q
theorem x_isiTb {T1 T2 t : String} (hp : H p = some (.tup [.ty T1, .ty T2])) (ty : TyX K H x (.type t)) (e1 : kitB t T1 = some false) (e2 : kitB t T2 = some true) (q : Q (.bl true) H) : rIsiT K [x, .ref p] H Q := x_isiT2 hp ty e1 e2 q
def sca : V → Bool
  | .non => true
  | .bl _ => true
  | .int _ => true
  | .str _ => true
  | _ => false
def Al (K : PySem.W.Frag) (H : Hp) : Nat → V → V → Prop
  | 0, x, y => x = y ∧ sca x = true
  | n + 1, x, y => (x = y ∧ sca x = true) ∨
      (∃ (a b : Addr) (xs ys : List V), x = .ref a ∧ y = .ref b ∧ H a = some (.lst xs) ∧ H b = some (.lst ys) ∧ xs.length = ys.length ∧ ys.length ≤ 1000 ∧ ∀ i (h1 : i < xs.length) (h2 : i < ys.length), Al K H n xs[i] ys[i]) ∨
      (∃ (a b : Addr) (xs ys : List V), x = .ref a ∧ y = .ref b ∧ H a = some (.tup xs) ∧ H b = some (.tup ys) ∧ xs.length = ys.length ∧ ys.length ≤ 1000 ∧ ∀ i (h1 : i < xs.length) (h2 : i < ys.length), Al K H n xs[i] ys[i])
theorem Al.same : ∀ {n : Nat} {x y : V}, Same H H' → Al K H n x y → Al K H' n x y
  | 0, _, _, _, h => h
  | n + 1, x, y, s, h => by
    rcases h with h | ⟨a, b, xs, ys, e1, e2, h1, h2, hl, hz, h⟩ | ⟨a, b, xs, ys, e1, e2, h1, h2, hl, hz, h⟩
    · exact .inl h
    · exact .inr (.inl ⟨a, b, xs, ys, e1, e2, s _ _ h1, s _ _ h2, hl, hz, fun i k1 k2 => (h i k1 k2).same s⟩)
    · exact .inr (.inr ⟨a, b, xs, ys, e1, e2, s _ _ h1, s _ _ h2, hl, hz, fun i k1 k2 => (h i k1 k2).same s⟩)
theorem Al.up {n : Nat} (h : Al K H n x y) : Al K H (n + 1) x y := by
  induction n generalizing x y with
  | zero => exact .inl h
  | succ n ih =>
    rcases h with h | ⟨a, b, xs, ys, e1, e2, h1, h2, hl, hz, h⟩ | ⟨a, b, xs, ys, e1, e2, h1, h2, hl, hz, h⟩
    · exact .inl h
    · exact .inr (.inl ⟨a, b, xs, ys, e1, e2, h1, h2, hl, hz, fun i k1 k2 => ih (h i k1 k2)⟩)
    · exact .inr (.inr ⟨a, b, xs, ys, e1, e2, h1, h2, hl, hz, fun i k1 k2 => ih (h i k1 k2)⟩)
theorem Al.sca {n : Nat} (hx : Fv.sca x = true) : Al K H n x x := by
  cases n with
  | zero => exact ⟨rfl, hx⟩
  | succ n => exact .inl ⟨rfl, hx⟩
theorem Al.tups {n : Nat} {zs : List V} (ha : H a = some (.tup zs)) (hb : H b = some (.tup zs)) (hz : zs.length ≤ 1000) (h : ∀ z ∈ zs, Fv.sca z = true) : Al K H (n + 1) (.ref a) (.ref b) :=
  .inr (.inr ⟨a, b, zs, zs, rfl, rfl, ha, hb, rfl, hz, fun i h1 h2 => Al.sca (h _ (List.getElem_mem h1))⟩)
theorem Al.lst1 {n : Nat} (ha : H a = some (.lst [x])) (hb : H b = some (.lst [y])) (h : Al K H n x y) : Al K H (n + 1) (.ref a) (.ref b) :=
  .inr (.inl ⟨a, b, [x], [y], rfl, rfl, ha, hb, rfl, (by show _ + 1 ≤ 1000; simp), fun i h1 h2 => by
    cases i with
    | zero => exact h
    | succ i => exact absurd h1 (by show ¬ i + 1 < 1; omega)⟩)
theorem Al.tup1 {n : Nat} (ha : H a = some (.tup [x])) (hb : H b = some (.tup [y])) (h : Al K H n x y) : Al K H (n + 1) (.ref a) (.ref b) :=
  .inr (.inr ⟨a, b, [x], [y], rfl, rfl, ha, hb, rfl, (by show _ + 1 ≤ 1000; simp), fun i h1 h2 => by
    cases i with
    | zero => exact h
    | succ i => exact absurd h1 (by show ¬ i + 1 < 1; omega)⟩)
end
section
variable {X : Cx} {K : PySem.W.Frag}
theorem ix_listK (e : X.K = K) : IxR X (rIxL K) := by
  subst e
  exact ix_list
theorem ix_tupK (e : X.K = K) : IxR X (rIxT K) := by
  subst e
  exact ix_tup
theorem call_lenK (e : X.K = K) : CallR X (.builtin "len") (rLen K) := by
  subst e
  exact call_len
theorem call_lstK (e : X.K = K) : CallR X (.type "list") (rListOf K) := by
  subst e
  exact call_lst
theorem call_tplK (e : X.K = K) : CallR X (.type "tuple") (rTupOf K) := by
  subst e
  exact call_tpl
theorem call_isiK' (e : X.K = K) : CallR X (.builtin "isinstance") (rIsi K) := by
  subst e
  exact call_isi
theorem call_isiTK (e : X.K = K) : CallR X (.builtin "isinstance") (rIsiT K) := by
  subst e
  exact call_isiT
theorem sl_listK (e : X.K = K) : SlR X (rSlL K) := by
  subst e
  exact sl_list
theorem op_inK (e : X.K = K) : OpR X (compareOp .In) (rIn K false) := by
  subst e
  exact op_in_seq
theorem op_eqDK (e : X.K = K) (hu : X.A.units + 64 < cLine) : OpR X (compareOp .Eq) (rEqD K) := by
  subst e
  exact op_eqD hu
theorem op_neDK (e : X.K = K) (hu : X.A.units + 64 < cLine) : OpR X (compareOp .NotEq) (rNeD K) := by
  subst e
  exact op_neD hu
theorem cr_allK (e : X.K = K) (hc : X.calm = true) : CallR X (.builtin "all") (rAll K) := by
  subst e
  exact cr_all hc
section
variable {o e value : Expr} {f : Str} {pos apos cpos : Pos} {ta to : TE} {es : List Expr} {t : TA} {name : Str} {T id : String} {r : V → List V → Hp → VK → Prop}
theorem pe_fldK (k : X.K = K) (he : PE X e ta) (hb : attributeBase e f X.env (eval e X.env) = eval e X.env) : PE X (.Attribute e f pos) (tFld K ta f) := by
  subst k
  exact pe_fld he hb
theorem pe_bmK (k : X.K = K) (pa : PlainAttrs T) (slot : Slot T name id) (hty : typeOf (.builtin id) = pure (.type "method_descriptor")) (hm : MtR X id r) (ho : PE X o to) (ha : PA X [e] t)
    (h1 : attributeBase o name X.env (eval o X.env) = eval o X.env := by rfl)
    (h2 : ((backTo cpos (starEach [e] X.env)).all (fun x => !x.1) && (backToKw cpos (keywordEach [] X.env)).all (fun x => x.1.isSome) && decide ([e].length + ([] : List Keyword).length + (if ([] : List Keyword).isEmpty then 0 else 1) < 30)) = true := by rfl)
    (h3 : (apos.endLine == cpos.line) = true := by rfl) (h4 : starEach [e] X.env = (false, eval e X.env) :: starEach [] X.env := by rfl) (h5 : (backTo cpos (starEach [] X.env)).any (·.1) = false := by rfl) :
    PE X (.Call (.Attribute o name apos) [e] [] cpos) (tBM K T r to t) := by
  subst k
  exact pe_bm pa slot hty hm ho ha h1 h2 h3 h4 h5
end
end
def rIsNk : R2 := fun x y H Q => y = .non ∧ Q (.bl (decide (x = .non))) H
def rNotNk : R2 := fun x y H Q => y = .non ∧ Q (.bl (!decide (x = .non))) H
section
variable {X : Cx} {K : PySem.W.Frag} {H : Hp} {Q : VK} {x v : V} {p : Addr} {i : Int} {xs : List V}
theorem op_isNk : OpR X (compareOp .Is) rIsNk := op_isN
theorem op_notNk : OpR X (compareOp .IsNot) rNotNk := op_notN
theorem x_isN0 (q : Q (.bl true) H) : rIsNk .non .non H Q := ⟨rfl, q⟩
theorem x_isN1 {b : Bool} (q : Q (.bl false) H) : rIsNk (.bl b) .non H Q := ⟨rfl, q⟩
theorem x_isN2 {b : Int} (q : Q (.bl false) H) : rIsNk (.int b) .non H Q := ⟨rfl, q⟩
theorem x_isN3 {b : Str} (q : Q (.bl false) H) : rIsNk (.str b) .non H Q := ⟨rfl, q⟩
theorem x_notN1 {b : Bool} (q : Q (.bl true) H) : rNotNk (.bl b) .non H Q := ⟨rfl, q⟩
theorem x_notN2 {b : Int} (q : Q (.bl true) H) : rNotNk (.int b) .non H Q := ⟨rfl, q⟩
theorem x_notN3 {b : Str} (q : Q (.bl true) H) : rNotNk (.str b) .non H Q := ⟨rfl, q⟩
theorem ix_seqK (e : X.K = K) : IxR X (rIx K) := by
  subst e
  exact ix_seq
theorem x_ixSL (h : SqL K H p xs) (ha : atI xs i = some v) (q : Q v H) : rIx K (.ref p) (.int i) H Q := .inl (x_ixL h ha q)
theorem x_ixST (h : SqT K H p xs) (ha : atI xs i = some v) (q : Q v H) : rIx K (.ref p) (.int i) H Q := .inr (.inl (x_ixT h ha q))
theorem x_eqB {b c : Bool} (q : Q (.bl (decide (b = c))) H) : rEq (.bl b) (.bl c) H Q := ⟨rfl, by
  have e : decide (V.bl b = V.bl c) = decide (b = c) := by
    rw [Bool.eq_iff_iff]
    simp
  rw [e]
  exact q⟩
theorem x_neB {b c : Bool} (q : Q (.bl (decide (b ≠ c))) H) : rNe (.bl b) (.bl c) H Q := ⟨rfl, by
  have e : (!decide (V.bl b = V.bl c)) = decide (b ≠ c) := by
    rw [Bool.eq_iff_iff]
    simp
  rw [e]
  exact q⟩
theorem x_eqS {b c : Str} (q : Q (.bl (decide (b = c))) H) : rEq (.str b) (.str c) H Q := ⟨rfl, by
  have e : decide (V.str b = V.str c) = decide (b = c) := by
    rw [Bool.eq_iff_iff]
    simp
  rw [e]
  exact q⟩
end
def nats (l : List Nat) : List V := l.map fun (n : Nat) => V.int (Int.ofNat n)
theorem nats_length (l : List Nat) : (nats l).length = l.length := List.length_map ..
theorem nats_get {l : List Nat} {i x : Nat} (h : l[i]? = some x) : (nats l)[i]? = some (.int x) := by
  unfold nats
  rw [List.getElem?_map, h]
  rfl
theorem nats_at {l : List Nat} {i x : Nat} (h : l[i]? = some x) : atI (nats l) (i : Int) = some (.int x) := atI_nat (nats_get h)
theorem nats_append (l m : List Nat) : nats (l ++ m) = nats l ++ nats m := List.map_append ..
theorem nats_set (l : List Nat) (i x : Nat) : (nats l).set i (.int x) = nats (l.set i x) := by
  unfold nats
  rw [List.map_set]
  rfl
theorem nats_erase : ∀ (l : List Nat) (i : Nat), (nats l).eraseIdx i = nats (l.eraseIdx i)
  | [], _ => rfl
  | _ :: _, 0 => rfl
  | a :: l, i + 1 => by
    show V.int a :: (nats l).eraseIdx i = V.int a :: nats (l.eraseIdx i)
    rw [nats_erase l i]
theorem nats_sca {l : List Nat} : ∀ z ∈ nats l, sca z = true := fun z hz => by
  obtain ⟨n, _, rfl⟩ := List.mem_map.mp hz
  rfl
theorem ixN_nat {n k : Nat} (h : k < n) : ixN n (k : Int) = some k := by
  unfold ixN
  rw [if_pos (by omega), if_pos (by omega)]
  rfl
theorem rgV_nats (n : Nat) : rgV 1 ((n : Int) + 1) = nats (List.range' 1 n) := by
  unfold rgV nats
  rw [List.range'_eq_map_range, List.map_map, show ((n : Int) + 1 - 1).toNat = n by omega]
  refine List.map_congr_left fun i _ => ?_
  show V.int (1 + (i : Int)) = V.int ((1 + i : Nat) : Int)
  rw [Int.natCast_add]
  rfl
section
variable {K : PySem.W.Frag} {σ : L2.St} {H : Hp} {Q : VK} {a p : Addr} {xs : List V} {ta tb : TE}
theorem x_listRg2 (h : ta σ H fun x H1 => tb σ H1 fun y H2 => ∃ i j, x = .int i ∧ y = .int j ∧ (RgOk i j ∧ ∀ q, H2 q = none → Q (.ref q) (upd H2 q (.lst (rgV i j))))) : tLstRg (tRg2 ta tb) σ H Q := h
theorem x_tupRg1 (h : ta σ H fun x H1 => ∃ n, x = .int n ∧ (RgOk 0 n ∧ ∀ q, H1 q = none → Q (.ref q) (upd H1 q (.tup (rgV 0 n))))) : tTupRg (tRg1 ta) σ H Q := h
theorem x_ij {i j : Int} {R : Int → Int → Prop} (h : R i j) : ∃ k l, V.int i = .int k ∧ V.int j = .int l ∧ R k l := ⟨i, j, rfl, rfl, h⟩
theorem x_tyL {R : Prop} (h : SqL K H a xs) (q : R) : tyV K "list" (.ref a) H ∧ R := ⟨.inl ⟨rfl, _, h⟩, q⟩
theorem x_popAt {i : Int} {k : Nat} {y : V} (h : H p = some (.lst xs)) (h1 : -(2 ^ 63) ≤ i) (h2 : i < 2 ^ 63) (hi : ixN xs.length i = some k) (hy : xs[k]? = some y) (q : Q y (upd H p (.lst (xs.eraseIdx k)))) : rPopAt (.ref p) [.int i] H Q := ⟨p, xs, i, k, y, rfl, rfl, h, h1, h2, (ixN_seq hi).1, hy, q⟩
end
theorem x_for {wi : TI} {g : TG} {tb : TS} {D : Ends} {σ : L2.St} {H : Hp} (h : wi σ H fun J H1 => ∃ W : Nat → Nat → L2.St → Hp → Prop, (∃ m, W 0 m σ H1) ∧ ∀ i m σ H, W i m σ H →
  (J.stop i H ∧ D.nx σ H) ∨ (J.go i H ∧ ∃ N : L2.St → Hp → Prop, (∀ σ' H', N σ' H' → ∃ m', m' < m ∧ W (i + 1) m' σ' H') ∧ ∀ x H', J.yld i H x H' → g x σ H' fun σ2 H2 => tb { nx := N, rt := D.rt, bk := D.nx, ct := N } σ2 H2)) : tFor wi g tb D σ H := h
theorem x_while {c : TT} {tb : TS} {D : Ends} {σ : L2.St} {H : Hp} (h : ∃ W : Nat → L2.St → Hp → Prop, (∃ m, W m σ H) ∧ ∀ m σ H, W m σ H →
  c σ H fun b H1 => if b = true then ∃ N : L2.St → Hp → Prop, (∀ σ' H', N σ' H' → ∃ m', m' < m ∧ W m' σ' H') ∧ tb { nx := N, rt := D.rt, bk := D.nx, ct := N } σ H1 else D.nx σ H1) : tWhile c tb D σ H := h
theorem x_lc {wi : TI} {g : TG} {tt : TT} {te : TE} {vs : List Nat} {σ : L2.St} {H : Hp} {Q : VK} (h : wi σ H fun J H1 => ∀ D, H1 D = none → ∃ W : Nat → Nat → Hp → Prop, (∃ m, W 0 m (upd H1 D (.lst []))) ∧ ∀ i m H, W i m H →
  (J.stop i H ∧ Q (.ref D) H) ∨ (J.go i H ∧ ∃ Nx : Hp → Prop, (∀ H', Nx H' → ∃ m', m' < m ∧ W (i + 1) m' H') ∧ ∀ x H', J.yld i H x H' → g x (wipe σ vs) H' fun σ2 H2 => wipe σ2 vs = wipe σ vs ∧ tt σ2 H2 fun b H3 =>
    if b = true then te σ2 H3 fun y H4 => ∃ acc, H4 D = some (.lst acc) ∧ acc.length < sizeLine ∧ Nx (upd H4 D (.lst (acc ++ [y]))) else Nx H3)) : tLc wi g tt te vs σ H Q := h
theorem x_lc2 {wi : TI} {g : TG} {tt : TT} {wi1 : TI} {g1 : TG} {tt1 : TT} {te : TE} {vs vs1 : List Nat} {σ : L2.St} {H : Hp} {Q : VK} (h : wi σ H fun J H1 => ∀ D, H1 D = none → ∃ W : Nat → Nat → Hp → Prop, (∃ m, W 0 m (upd H1 D (.lst []))) ∧ ∀ i m H, W i m H →
  (J.stop i H ∧ Q (.ref D) H) ∨ (J.go i H ∧ ∃ Nx : Hp → Prop, (∀ H', Nx H' → ∃ m', m' < m ∧ W (i + 1) m' H') ∧ ∀ x H', J.yld i H x H' → g x (wipe σ vs) H' fun σ2 H2 => wipe σ2 vs = wipe σ vs ∧ tt σ2 H2 fun b H3 =>
    if b = true then wi1 σ2 H3 fun J1 H4 => ∃ W1 : Nat → Nat → Hp → Prop, (∃ m, W1 0 m H4) ∧ ∀ j k H, W1 j k H →
      (J1.stop j H ∧ Nx H) ∨ (J1.go j H ∧ ∃ Nx1 : Hp → Prop, (∀ H', Nx1 H' → ∃ k', k' < k ∧ W1 (j + 1) k' H') ∧ ∀ x H', J1.yld j H x H' → g1 x (wipe σ2 vs1) H' fun σ3 H5 => wipe σ3 vs1 = wipe σ2 vs1 ∧ tt1 σ3 H5 fun b H6 =>
        if b = true then te σ3 H6 fun y H7 => ∃ acc, H7 D = some (.lst acc) ∧ acc.length < sizeLine ∧ Nx1 (upd H7 D (.lst (acc ++ [y]))) else Nx1 H6)
    else Nx H3)) : tLc2 wi g tt wi1 g1 tt1 te vs vs1 σ H Q := h
end Fv
namespace Fv
def up (hs : List Nat) (k : Nat) : Nat := if k = 0 then 0 else hs.getD (k - 1) 0
def upN (hs : List Nat) : Nat → Nat → Nat
  | 0, k => k
  | j + 1, k => upN hs j (up hs k)
structure IsTree (hs : List Nat) : Prop where
  pos : 1 ≤ hs.length
  most : hs.length ≤ 40
  le : ∀ x ∈ hs, x ≤ hs.length
  comes : ∀ k, k ≤ hs.length → upN hs hs.length k = 0
theorem up_zero (hs : List Nat) : up hs 0 = 0 := rfl
theorem upN_zero (hs : List Nat) : ∀ j, upN hs j 0 = 0
  | 0 => rfl
  | j + 1 => by
    show upN hs j (up hs 0) = 0
    rw [up_zero]
    exact upN_zero hs j
theorem upN_add (hs : List Nat) : ∀ i j k, upN hs (i + j) k = upN hs j (upN hs i k)
  | 0, j, k => by
    rw [Nat.zero_add]
    rfl
  | i + 1, j, k => by
    rw [Nat.add_right_comm]
    exact upN_add hs i j (up hs k)
theorem upN_succ (hs : List Nat) (j k : Nat) : upN hs (j + 1) k = up hs (upN hs j k) := upN_add hs j 1 k
theorem upN_more {hs : List Nat} {i j k : Nat} (h : upN hs i k = 0) (hj : i ≤ j) : upN hs j k = 0 := by
  obtain ⟨d, rfl⟩ := Nat.le.dest hj
  rw [upN_add, h]
  exact upN_zero hs d
theorem up_le {hs : List Nat} (h : ∀ x ∈ hs, x ≤ hs.length) (k : Nat) : up hs k ≤ hs.length := by
  unfold up
  split
  · exact Nat.zero_le _
  · rw [List.getD_eq_getElem?_getD]
    cases e : hs[k - 1]? with
    | none => exact Nat.zero_le _
    | some x => exact h x (List.mem_of_getElem? e)
theorem upN_le {hs : List Nat} (h : ∀ x ∈ hs, x ≤ hs.length) : ∀ j k, k ≤ hs.length → upN hs j k ≤ hs.length
  | 0, _, hk => hk
  | j + 1, k, _ => upN_le h j (up hs k) (up_le h k)
theorem up_at {hs : List Nat} {k x : Nat} (hk : k ≠ 0) (h : hs[k - 1]? = some x) : up hs k = x := by
  unfold up
  rw [if_neg hk, List.getD_eq_getElem?_getD, h]
  rfl
def Drawn (hs : List Nat) : Prop := ∃ ms : List Nat, ms.Perm (List.range' 1 hs.length) ∧ ∀ (i x : Nat), ms[i]? = some x → ∃ j y : Nat, j ≤ i ∧ (0 :: ms)[j]? = some y ∧ hs[x - 1]? = some y
theorem Drawn.tree {hs : List Nat} (h : Drawn hs) (h1 : 1 ≤ hs.length) (h2 : hs.length ≤ 40) : IsTree hs := by
  obtain ⟨ms, hp, hd⟩ := h
  have hlen : ms.length = hs.length := by rw [hp.length_eq, List.length_range']
  have mem : ∀ x, x ∈ ms ↔ 1 ≤ x ∧ x < 1 + hs.length := fun x => by rw [hp.mem_iff, List.mem_range'_1]
  have key : ∀ i x, ms[i]? = some x → upN hs (i + 1) x = 0 := by
    intro i
    induction i using Nat.strongRecOn with
    | ind i ih =>
      intro x hx
      obtain ⟨j, y, hj, hy, e⟩ := hd i x hx
      have x1 := (mem x).mp (List.mem_of_getElem? hx)
      show upN hs i (up hs x) = 0
      rw [up_at (by omega) e]
      cases j with
      | zero =>
        have e0 : 0 = y := Option.some.inj hy
        rw [← e0]
        exact upN_zero hs i
      | succ j => exact upN_more (ih j (by omega) y hy) (by omega)
  refine ⟨h1, h2, fun x hx => ?_, fun k hk => ?_⟩
  · obtain ⟨p, hp1, e⟩ := List.getElem_of_mem hx
    have hm := (mem (p + 1)).mpr ⟨by omega, by omega⟩
    obtain ⟨i, hi, e2⟩ := List.getElem_of_mem hm
    obtain ⟨j, y, hj, hy, e3⟩ := hd i (p + 1) (by rw [List.getElem?_eq_getElem hi, e2])
    have e4 : hs[p]? = some y := e3
    rw [List.getElem?_eq_getElem hp1, e] at e4
    cases e4
    cases j with
    | zero =>
      have e0 : 0 = x := Option.some.inj hy
      omega
    | succ j =>
      have := (mem x).mp (List.mem_of_getElem? (show ms[j]? = some x from hy))
      omega
  · by_cases h0 : k = 0
    · rw [h0]
      exact upN_zero hs _
    · obtain ⟨i, hi, e2⟩ := List.getElem_of_mem ((mem k).mpr ⟨by omega, by omega⟩)
      exact upN_more (key i k (by rw [List.getElem?_eq_getElem hi, e2])) (by omega)
theorem perm_erase : ∀ {l : List Nat} {i : Nat} {x : Nat}, l[i]? = some x → (x :: l.eraseIdx i).Perm l
  | [], _, _, h => by simp at h
  | a :: l, 0, x, h => by
    have e : a = x := Option.some.inj h
    rw [e]
    exact List.Perm.refl _
  | a :: l, i + 1, x, h => by
    have ih := perm_erase (l := l) (i := i) (x := x) h
    exact (List.Perm.swap a x _).trans (ih.cons a)
theorem bounded_len : ∀ (n : Nat) (l : List Nat), l.Nodup → (∀ x ∈ l, 1 ≤ x ∧ x ≤ n) → l.length ≤ n
  | 0, l, _, h => by
    cases l with
    | nil => exact Nat.le_refl _
    | cons x r =>
      have := h x List.mem_cons_self
      omega
  | n + 1, l, hn, h => by
    have h1 : (l.erase (n + 1)).length ≤ n := bounded_len n _ (hn.erase _) fun x hx => by
      have hx1 := (List.Nodup.mem_erase_iff hn).mp hx
      have := h x hx1.2
      omega
    by_cases hm : n + 1 ∈ l
    · rw [List.length_erase_of_mem hm] at h1
      omega
    · rw [List.erase_of_not_mem hm] at h1
      omega
theorem comes_by {hs : List Nat} (h : ∀ x ∈ hs, x ≤ hs.length) {j k : Nat} (hk : k ≤ hs.length) (hj : upN hs j k = 0) : upN hs hs.length k = 0 := by
  -- the least such number of steps
  have ex : ∃ d, upN hs d k = 0 ∧ ∀ d', d' < d → upN hs d' k ≠ 0 := by
    induction j using Nat.strongRecOn with
    | ind j ih =>
      by_cases hx : ∃ d, d < j ∧ upN hs d k = 0
      · obtain ⟨d, hd, e⟩ := hx
        exact ih d hd e
      · exact ⟨j, hj, fun d' hd e => hx ⟨d', hd, e⟩⟩
  obtain ⟨d, e, least⟩ := ex
  refine upN_more e ?_
  have hl : ((List.range d).map fun i => upN hs i k).length ≤ hs.length := by
    refine bounded_len hs.length _ ?_ fun x hx => ?_
    · rw [List.nodup_iff_pairwise_ne, List.pairwise_map]
      refine List.Pairwise.imp_of_mem (R := (· < ·)) (fun {a b} ha hb hlt heq => ?_) List.pairwise_lt_range
      rw [List.mem_range] at ha hb
      -- from a equal places one comes to the head as soon from a as from b
      have e1 : upN hs (a + (d - b)) k = 0 := by
        rw [upN_add, heq, ← upN_add, show b + (d - b) = d by omega]
        exact e
      exact least _ (by omega) e1
    · obtain ⟨i, hi, rfl⟩ := List.mem_map.mp hx
      rw [List.mem_range] at hi
      have := least i hi
      have := upN_le h i k hk
      omega
  rw [List.length_map, List.length_range] at hl
  exact hl
end Fv
set_option maxRecDepth 100000
set_option maxHeartbeats 1000000
namespace Fv
open PySem PySem.Spec L2
section
variable {K : PySem.W.Frag} {σ : L2.St} {H : Hp} {Q : VK} {a b p : Addr} {xs ys : List V} {ta tb : TE}
theorem But.freeB {H H1 : Hp} {p q : Addr} (b : But p H H1) (n : q ≠ p) (h : H1 q = none) : H q = none := by
  cases e : H q with
  | none => rfl
  | some o =>
    rw [b q o n e] at h
    cases h
theorem x_cat (h1 : H a = some (.lst xs)) (h2 : H b = some (.lst ys)) (hl : xs.length + ys.length ≤ sizeLine) (q : ∀ p, H p = none → Q (.ref p) (upd H p (.lst (xs ++ ys)))) : rCat (.ref a) (.ref b) H Q := ⟨a, b, xs, ys, rfl, rfl, h1, h2, hl, q⟩
theorem rep_one : ∀ (n : Nat) (v : V), (List.replicate n [v]).flatten = List.replicate n v
  | 0, _ => rfl
  | n + 1, v => by
    rw [List.replicate_succ, List.flatten_cons, rep_one n v, List.replicate_succ]
    rfl
theorem x_rep1 {n : Nat} {v : V} (h1 : H a = some (.lst [v])) (hn : n ≤ 1000) (q : ∀ p, H p = none → Q (.ref p) (upd H p (.lst (List.replicate n v)))) : rRep (.ref a) (.int n) H Q := by
  refine ⟨a, n, [v], rfl, rfl, h1, by omega, by omega, szLe (by show 1 * _ ≤ _; omega), fun p hp => ?_⟩
  rw [show (n : Int).toNat = n from rfl, rep_one]
  exact q p hp
theorem nats_rep (n : Nat) : List.replicate n (V.int 0) = nats (List.replicate n 0) := by
  unfold nats
  rw [List.map_replicate]
  rfl
end
end Fv
set_option maxRecDepth 100000
set_option maxHeartbeats 1000000
namespace Fv
open PySem PySem.Spec L2
def Itn (K : PySem.W.Frag) (t : Addr) (k : Int) : It where
  go := fun i H => ∃ (xs : List V) (x : V), SqT K H t xs ∧ xs[i]? = some x
  yld := fun i H v H' => ∃ (T : Addr) (x : V), v = .ref T ∧ H T = none ∧ H' = upd H T (.tup [.int (k + (i : Int)), x]) ∧ ∀ xs, SqT K H t xs → xs[i]? = some x
  stop := fun i H => ∃ xs : List V, SqT K H t xs ∧ xs.length = i
theorem isTuple_of {h : Heap} {a : Addr} {its : Array Value} (x : PyProof.Rows.IsTup h a its) : h.IsTuple a its := by
  obtain ⟨o, e, c, n, d⟩ := x
  exact ⟨o, e, c, n, d⟩
theorem turn_enumT {P : Program} {w : World} {K : PySem.W.Frag} {elts : List Expr} {kk : Nat} {tpos : Pos} (k : Int) (t e it : Addr) (nt : t ≠ it) (ne : e ≠ it) (ne' : e ≠ t) :
    Turn P w K (.Tuple elts kk tpos) (Itn K t k) [e, it] e (fun i h => (∃ old, IsEnum h e it (k + (i : Int)) old) ∧ h.IsTupleIter it t i) where
  mem := List.mem_cons_self
  obj := fun i h st b hb => by
    obtain ⟨⟨old, he⟩, ⟨o, ho, hc, hd⟩⟩ := st
    rcases List.mem_cons.mp hb with rfl | hb
    · exact ⟨_, he, fun v q => nomatch q⟩
    · rw [List.mem_singleton.mp hb]
      exact ⟨o, ho, fun v q => by rw [hd] at q; cases q⟩
  keep := fun i h h' st kp => ⟨st.1.elim fun old he => ⟨old, kp e List.mem_cons_self _ he⟩, st.2.at fun o q => kp it (List.mem_cons_of_mem _ List.mem_cons_self) o q⟩
  item := by
    intro X hP hw hK hc i pins s σ H E I hf st hg
    subst hP hw hK
    obtain ⟨xs, x, hq, hx⟩ := hg
    obtain ⟨its, rv, p, hz⟩ := I.tuple hq
    obtain ⟨u, hu, ru⟩ := rv.get hx
    have hil : i < its.length := (List.getElem?_eq_some_iff.mp hu).1
    have W := WalksT.enumFrom (prog := X.prog) (w := X.w) (A := X.A) k (Draws.tuple (prog := X.prog) (w := X.w) (A := X.A.in1) (it := it) (t := t) (show X.A.in1.handled = none from I.ok.hd hc) nt its.toArray) e ne (by simp [ne, ne']) (by simp)
    refine W.item i s _ E (by simpa using hil) ⟨st.1, st.2, isTuple_of p⟩ fun T vals h' tk hP' hT hTup hMid hk => ?_
    refine ⟨_, rfl, W.go elts kk tpos i T _ _ E hMid fun h'' hst' hk' => ?_⟩
    obtain ⟨tk2, y, hy, rfl⟩ := hP'
    have ey : y = u := by
      have e1 : its.toArray[i]? = some u := by simpa using hu
      rw [e1] at hy
      exact (Option.some.inj hy).symm
    subst ey
    have hfp : ∀ b ∈ [e, it], b < s.heap.objs.size := fun b hb => by
      obtain ⟨⟨old, he⟩, ⟨o, ho, _⟩⟩ := st
      rcases List.mem_cons.mp hb with rfl | hb
      · exact Heap.lt_size he
      · rw [List.mem_singleton.mp hb]
        exact Heap.lt_size ho
    have hTn : T ∉ [e, it] := W.apart i T _ hMid
    have hTup2 : h''.IsTuple T #[.int (k + (i : Int)) tk2, y] := by
      obtain ⟨o, e1, c1, n1, d1⟩ := hTup
      exact ⟨o, hk' _ _ hTn e1, c1, n1, d1⟩
    have new : ObjOk X.prog X.w (upd H T (.tup [.int (k + (i : Int)), x])) h'' T (.tup [.int (k + (i : Int)), x]) := by
      obtain ⟨o, e1, c1, n1, d1⟩ := hTup2
      exact ⟨by show 2 ≤ sizeLine; decide, [.int (k + (i : Int)) tk2, y], .cons ⟨_, rfl⟩ (.cons ru .nil), ⟨o, e1, c1, n1, d1⟩⟩
    have I1 : Inv X pins σ (upd H T (.tup [.int (k + (i : Int)), x])) { s with heap := h'', toks := tk } :=
      I.turnedNew (ch := [e, it]) (fun b ob hb q => hk' b ob hb (hk b ob hb q)) hf hT new
    refine ⟨.ref T, _, I1, rfl, ⟨T, x, rfl, I.hok.fresh hT, rfl, fun ys hys => by rw [I.tuple_inj hys hq]; exact hx⟩, ⟨hst'.1, hst'.2.1⟩, fun b hb => ?_⟩
    have hbT : b ≠ T := fun z => absurd (hfp b hb) (by rw [z]; exact Nat.not_lt.mpr hT)
    rw [upd_ne hbT]
    exact (hf b hb).1
  done := by
    intro X hP hw hK hc i pins s σ H E I hf st hg
    subst hP hw hK
    obtain ⟨xs, hq, hx⟩ := hg
    obtain ⟨its, rv, p, hz⟩ := I.tuple hq
    have W := WalksT.enumFrom (prog := X.prog) (w := X.w) (A := X.A) k (Draws.tuple (prog := X.prog) (w := X.w) (A := X.A.in1) (it := it) (t := t) (show X.A.in1.handled = none from I.ok.hd hc) nt its.toArray) e ne (by simp [ne, ne']) (by simp)
    have el : i = its.toArray.size := by
      rw [← hx, Vals.length rv]
      simp
    rw [el] at st
    refine W.done s _ E ⟨st.1, st.2, isTuple_of p⟩ fun h' tk hk => ⟨rfl, ?_⟩
    have nh : ∀ b u, H b = some u → b ∉ [e, it] := fun b u hb z => by
      have q := (hf b z).1
      rw [q] at hb
      cases hb
    refine I.step (g' := s.gens) (d' := s.drawn) (ch := [e, it]) (fun b hb => ⟨(hf b hb).2.2.2.1, (hf b hb).2.1, (hf b hb).2.2.2.2.1, (hf b hb).2.2.2.2.2⟩) (fun b o _ _ hc e _ => hk b o hc e) (fun b o _ _ hc e _ => ⟨o.slots, hk b o hc e⟩)
      (fun _ _ _ _ n => n) (fun b o hc e => ⟨o, hk b o hc e⟩) (fun _ _ q => q) (fun _ _ _ q => q) (fun _ ps q => ⟨#[], by rw [q]; simp⟩) (fun m hm => ?_) (fun b u hb => ?_) I.bare
    · obtain ⟨o, es, ep, ho, r⟩ := hm
      exact ⟨o, es, ep, hk _ o (fun z => (hf _ z).2.1 rfl) ho, r⟩
    · refine (I.hok b u hb).stay (fun c v hc q => hk c v ?_ q) (fun _ q => q) fun _ _ q => q
      rcases hc with z | z
      · rw [z]
        exact nh b u hb
      · exact nh c _ z
  self := fun A i s Q E st h => by
    obtain ⟨⟨old, he⟩, _⟩ := st
    exact wpAny_pyIter_enum he h
def iEnT (K : PySem.W.Frag) (k : Int) (ta : TA) : TI := fun σ H R => ta σ H fun vs H1 => ∃ (t : Addr) (xs : List V), vs = [.ref t] ∧ SqT K H1 t xs ∧ R (Itn K t k) H1
theorem pi_enumT {X : Cx} {e : Expr} {ta : TA} {p pos tpos kpos kp : Pos} {elts : List Expr} {kk j : Nat} {k : Int} (hc : X.calm = true) (hg : Gl X "enumerate") (hm : X.mg "enumerate" = none) (h0 : -(2 ^ 63) ≤ k) (h1 : k < 2 ^ 63) (ha : PA X [e] ta)
    (hs : starEach [e] X.env = (false, eval e X.env) :: starEach [] X.env := by rfl) :
    PI X (.Tuple elts kk tpos) (.Call (.Name "enumerate" p) [e] [⟨some "start", .Constant (.int k) j kp, kpos⟩] pos) (iEnT X.K k ta) := by
  refine ⟨fun pins s σ H R I h => ?_⟩
  refine wpAny_Call_Name_kw (ld_blt I hg hm (u := .type "enumerate") (by decide +kernel) ?_)
  refine PySem.W.callWith_of (P := fun _ => True) (by rw [hs]; rfl) (fun h _ => ⟨_, .inr (.inl rfl), PySem.W.Looks.of_pure rfl⟩) (PyProof.Rows.evalArgs_kw2 rfl (thn (ha.run pos pins s σ H _ I h) fun us s1 ⟨vs, H1, I1, r1, t, xs, ev, hq, q⟩ => ?_) hs)
  have hkw : PK X [⟨some "start", .Constant (.int k) j kp, kpos⟩] (tCons (tC (.int k)) tNil) := pk_cons pe_int pk_nil
  refine thn (hkw.run pos pins s1 σ H1 (fun zs H2 => zs = [.int k] ∧ H2 = H1) I1 ⟨rfl, rfl⟩) fun ks s2 ⟨zs, H2, I2, r2, ez, eH⟩ => ⟨True.intro, ?_⟩
  subst ev ez eH
  cases r1 with
  | cons r rr =>
    cases rr
    cases r
    cases r2 with
    | cons rk rrk =>
      cases rrk
      obtain ⟨tk, rfl⟩ := rk
      obtain ⟨its, rv, p', hz⟩ := I2.tuple hq
      refine enum_begins_start (begins_tuple t its.toArray) (isTuple_of p') h0 h1 fun h' he hit hsz hkp => ?_
      refine wpAny_pyIter_enum he ?_
      have I3 : Inv X pins σ H2 { s2 with heap := h' } := I2.kept (t' := s2.toks) hkp
      have ht : t < s2.heap.objs.size := p'.lt
      have hn : ∀ b, s2.heap.objs.size ≤ b → H2 b = none := fun b hb => I2.hok.fresh hb
      refine ⟨s2.heap.objs.size + 1, [s2.heap.objs.size + 1, s2.heap.objs.size], _, _, H2, rfl, I3, turn_enumT k t (s2.heap.objs.size + 1) s2.heap.objs.size (Nat.ne_of_lt ht) (Nat.succ_ne_self _) (Nat.ne_of_gt (Nat.lt_succ_of_lt ht)),
        ⟨⟨.none, ?_⟩, ⟨_, hit, rfl, rfl⟩⟩, fun b hb => ?_, q⟩
      · rw [show k + ((0 : Nat) : Int) = k by omega]
        exact he
      · have hle : s2.heap.objs.size ≤ b := by
          rcases List.mem_cons.mp hb with rfl | hb
          · exact Nat.le_succ _
          · rw [List.mem_singleton.mp hb]
            exact Nat.le_refl _
        exact I2.fpOk hle (hn b hle)
end Fv
set_option maxRecDepth 100000
set_option maxHeartbeats 1000000
namespace Fv
open PySem PySem.Spec L2
theorem lp_enumT {K : PySem.W.Frag} {t : Addr} {k : Int} {xs : List V} {g : TG} {tb : TS} {nx : L2.St → Hp → Prop} {rt : VK} {σ : L2.St} {H : Hp} (Pv : Nat → L2.St → Hp → Prop) (h0 : Pv 0 σ H) (hl : ∀ i σ H, i ≤ xs.length → Pv i σ H → SqT K H t xs)
    (hs : ∀ i x σ H T, xs[i]? = some x → Pv i σ H → H T = none → g (.ref T) σ (upd H T (.tup [.int (k + (i : Int)), x])) fun σ2 H2 => tb { nx := Pv (i + 1), rt := rt, bk := nx, ct := Pv (i + 1) } σ2 H2) (hd : ∀ σ H, Pv xs.length σ H → nx σ H) :
    ∃ W : Nat → Nat → L2.St → Hp → Prop, (∃ m, W 0 m σ H) ∧ ∀ i m σ H, W i m σ H → ((Itn K t k).stop i H ∧ nx σ H) ∨ ((Itn K t k).go i H ∧ ∃ N : L2.St → Hp → Prop, (∀ σ' H', N σ' H' → ∃ m', m' < m ∧ W (i + 1) m' σ' H') ∧ ∀ x H', (Itn K t k).yld i H x H' → g x σ H' fun σ2 H2 => tb { nx := N, rt := rt, bk := nx, ct := N } σ2 H2) := by
  refine ⟨fun i m σ H => m = xs.length - i ∧ i ≤ xs.length ∧ Pv i σ H, ⟨_, rfl, Nat.zero_le _, h0⟩, ?_⟩
  rintro i m σ H ⟨rfl, hi, p⟩
  have q := hl i σ H hi p
  by_cases hlt : i < xs.length
  · refine .inr ⟨⟨xs, xs[i], q, List.getElem?_eq_getElem hlt⟩, Pv (i + 1), fun σ' H' p' => ⟨_, by omega, rfl, hlt, p'⟩, fun x H' y => ?_⟩
    obtain ⟨T, z, rfl, hT, rfl, hz⟩ := y
    exact hs i z σ H T (hz xs q) p hT
  · have e : i = xs.length := by omega
    subst e
    exact .inl ⟨⟨xs, q, rfl⟩, hd σ H p⟩
theorem lc_enumT {K : PySem.W.Frag} {t : Addr} {k : Int} {xs : List V} {g : TG} {tt : TT} {te : TE} {vs : List Nat} {σ : L2.St} {H1 : Hp} {D : Addr} {Qd : Hp → Prop} (Pv : Nat → Hp → Prop) (h0 : Pv 0 (upd H1 D (.lst []))) (hl : ∀ i H, i ≤ xs.length → Pv i H → SqT K H t xs)
    (hs : ∀ i x H T, xs[i]? = some x → Pv i H → H T = none → g (.ref T) (wipe σ vs) (upd H T (.tup [.int (k + (i : Int)), x])) fun σ2 H2 => wipe σ2 vs = wipe σ vs ∧ tt σ2 H2 fun b H3 =>
      if b = true then te σ2 H3 fun y H4 => ∃ acc, H4 D = some (.lst acc) ∧ acc.length < sizeLine ∧ Pv (i + 1) (upd H4 D (.lst (acc ++ [y]))) else Pv (i + 1) H3) (hd : ∀ H, Pv xs.length H → Qd H) :
    ∃ W : Nat → Nat → Hp → Prop, (∃ m, W 0 m (upd H1 D (.lst []))) ∧ ∀ i m H, W i m H → ((Itn K t k).stop i H ∧ Qd H) ∨ ((Itn K t k).go i H ∧ ∃ Nx : Hp → Prop, (∀ H', Nx H' → ∃ m', m' < m ∧ W (i + 1) m' H') ∧ ∀ x H', (Itn K t k).yld i H x H' → g x (wipe σ vs) H' fun σ2 H2 => wipe σ2 vs = wipe σ vs ∧ tt σ2 H2 fun b H3 =>
        if b = true then te σ2 H3 fun y H4 => ∃ acc, H4 D = some (.lst acc) ∧ acc.length < sizeLine ∧ Nx (upd H4 D (.lst (acc ++ [y]))) else Nx H3) := by
  refine ⟨fun i m H => m = xs.length - i ∧ i ≤ xs.length ∧ Pv i H, ⟨_, rfl, Nat.zero_le _, h0⟩, ?_⟩
  rintro i m H ⟨rfl, hi, p⟩
  have q := hl i H hi p
  by_cases hlt : i < xs.length
  · refine .inr ⟨⟨xs, xs[i], q, List.getElem?_eq_getElem hlt⟩, Pv (i + 1), fun H' p' => ⟨_, by omega, rfl, hlt, p'⟩, fun x H' y => ?_⟩
    obtain ⟨T, z, rfl, hT, rfl, hz⟩ := y
    exact hs i z H T (hz xs q) p hT
  · have e : i = xs.length := by omega
    subst e
    exact .inl ⟨⟨xs, q, rfl⟩, hd H p⟩
section
variable {K : PySem.W.Frag} {σ : L2.St} {H : Hp} {Q : VK} {a p : Addr} {xs : List V} {ta tb : TE}
theorem x_ent {R : It → Hp → Prop} {k : Int} {ts : TA} (h : ts σ H fun vs H1 => ∃ (t : Addr) (xs : List V), vs = [.ref t] ∧ SqT K H1 t xs ∧ R (Itn K t k) H1) : iEnT K k ts σ H R := h
theorem x_ent1 {R : Addr → Prop} (h : SqT K H a xs) (q : R a) : ∃ (t : Addr) (ys : List V), [V.ref a] = [.ref t] ∧ SqT K H t ys ∧ R t := ⟨a, xs, rfl, h, q⟩
end
theorem pi_enumTK {X : Cx} {K : PySem.W.Frag} {e : Expr} {ta : TA} {p pos tpos kpos kp : Pos} {elts : List Expr} {kk j : Nat} {k : Int} (eK : X.K = K) (hc : X.calm = true) (hg : Gl X "enumerate") (hm : X.mg "enumerate" = none) (h0 : -(2 ^ 63) ≤ k) (h1 : k < 2 ^ 63) (ha : PA X [e] ta)
    (hs : starEach [e] X.env = (false, eval e X.env) :: starEach [] X.env := by rfl) :
    PI X (.Tuple elts kk tpos) (.Call (.Name "enumerate" p) [e] [⟨some "start", .Constant (.int k) j kp, kpos⟩] pos) (iEnT K k ta) := by
  subst eK
  exact pi_enumT hc hg hm h0 h1 ha hs
theorem x_isnd {c : Prop} [Decidable c] {A B : Prop} (h1 : ¬ c → A) (h2 : c → B) : if (!decide c) = true then A else B := by
  by_cases h : c
  · rw [decide_eq_true h]
    exact iteF (h2 h)
  · rw [decide_eq_false h]
    exact iteT (h1 h)
theorem num_int {lo hi : Int} {x : V} (h : numV lo hi x = true) : ∃ z, x = .int z ∧ lo ≤ z ∧ z ≤ hi := by
  cases x with
  | int i =>
    have h' : (decide (lo ≤ i) && decide (i ≤ hi)) = true := h
    rw [Bool.and_eq_true, decide_eq_true_eq, decide_eq_true_eq] at h'
    exact ⟨i, rfl, h'.1, h'.2⟩
  | _ => cases h
inductive Due where
  | hung
  | block (k : Nat)
  | ring (k : Nat)
  | ok
def badV (n i : Nat) (x : V) : Prop := numV 0 n x = false ∨ x = .int ((i + 1 : Nat) : Int)
inductive DueIs (xs : List V) : Due → Prop where
  | hung : ¬ (1 ≤ xs.length ∧ xs.length ≤ 40) → DueIs xs .hung
  | block {i : Nat} {x : V} : 1 ≤ xs.length → xs.length ≤ 40 → (∀ j y, j < i → xs[j]? = some y → ¬ badV xs.length j y) → xs[i]? = some x → badV xs.length i x → DueIs xs (.block (i + 1))
  | ring {hs : List Nat} {k : Nat} : 1 ≤ xs.length → xs.length ≤ 40 → xs = nats hs → (∀ j y, xs[j]? = some y → ¬ badV xs.length j y) → (∀ j, 1 ≤ j → j < k → upN hs hs.length j = 0) → 1 ≤ k → k ≤ hs.length → upN hs hs.length k ≠ 0 → DueIs xs (.ring k)
  | ok {hs : List Nat} : IsTree hs → xs = nats hs → (∀ j y, xs[j]? = some y → ¬ badV xs.length j y) → DueIs xs .ok
theorem nats_inj : ∀ {l m : List Nat}, nats l = nats m → l = m
  | [], [], _ => rfl
  | [], _ :: _, h => by cases h
  | _ :: _, [], h => by cases h
  | a :: l, b :: m, h => by
    have h' : V.int (Int.ofNat a) :: nats l = V.int (Int.ofNat b) :: nats m := h
    injection h' with h1 h2
    injection h1 with h1
    injection h1 with h1
    rw [h1, nats_inj h2]
theorem DueIs.det {xs : List V} {d e : Due} (h : DueIs xs d) (h' : DueIs xs e) : d = e := by
  cases h with
  | hung n =>
    cases h' with
    | hung _ => rfl
    | block a b _ _ _ => exact (n ⟨a, b⟩).elim
    | ring a b _ _ _ _ _ _ => exact (n ⟨a, b⟩).elim
    | ok t e _ => exact (n ⟨by rw [e, nats_length]; exact t.pos, by rw [e, nats_length]; exact t.most⟩).elim
  | @block i x a b f e1 bd =>
    cases h' with
    | hung n => exact (n ⟨a, b⟩).elim
    | @block j y _ _ f2 e2 bd2 =>
      rcases Nat.lt_trichotomy i j with h | h | h
      · exact (f2 _ _ h e1 bd).elim
      · rw [h]
      · exact (f _ _ h e2 bd2).elim
    | ring _ _ _ f2 _ _ _ _ => exact (f2 _ _ e1 bd).elim
    | ok _ _ f2 => exact (f2 _ _ e1 bd).elim
  | @ring hs k a b e f g k1 k2 nz =>
    cases h' with
    | hung n => exact (n ⟨a, b⟩).elim
    | block _ _ _ e2 bd => exact (f _ _ e2 bd).elim
    | @ring hs2 k' _ _ e2 _ g2 k1' k2' nz2 =>
      have eh := nats_inj (e.symm.trans e2)
      subst eh
      rcases Nat.lt_trichotomy k k' with h | h | h
      · exact (nz (g2 k k1 h)).elim
      · rw [h]
      · exact (nz2 (g k' k1' h)).elim
    | @ok hs2 t e2 _ =>
      have eh := nats_inj (e.symm.trans e2)
      subst eh
      exact (nz (t.comes k k2)).elim
  | @ok hs t e f =>
    cases h' with
    | hung n => exact (n ⟨by rw [e, nats_length]; exact t.pos, by rw [e, nats_length]; exact t.most⟩).elim
    | block _ _ _ e2 bd => exact (f _ _ e2 bd).elim
    | @ring hs2 k' _ _ e2 _ g2 k1' k2' nz2 =>
      have eh := nats_inj (e.symm.trans e2)
      subst eh
      exact (nz2 (t.comes k' k2')).elim
    | ok _ _ _ => rfl
theorem good_nats {xs : List V} (n : Nat) (h : ∀ (j : Nat) y, xs[j]? = some y → numV 0 n y = true) : ∃ hs : List Nat, xs = nats hs ∧ ∀ x ∈ hs, x ≤ n := by
  induction xs with
  | nil => exact ⟨[], rfl, fun _ h => nomatch h⟩
  | cons x r ih =>
    obtain ⟨hs, e, hle⟩ := ih fun j y hy => h (j + 1) y hy
    have hx := h 0 x rfl
    cases x with
    | int i =>
      have hx' : (decide ((0 : Int) ≤ i) && decide (i ≤ (n : Int))) = true := hx
      rw [Bool.and_eq_true, decide_eq_true_eq, decide_eq_true_eq] at hx'
      obtain ⟨m, rfl⟩ := Int.eq_ofNat_of_zero_le hx'.1
      refine ⟨m :: hs, by rw [e]; rfl, fun y hy => ?_⟩
      rcases List.mem_cons.mp hy with rfl | hy
      · omega
      · exact hle y hy
    | _ => cases hx
end Fv
set_option maxRecDepth 100000
set_option maxHeartbeats 1000000
namespace Fv
open PySem PySem.Spec L2
theorem x_mko {C : Addr} {sp : Sp} {dvs : List V} {ta : TA} {σ : L2.St} {H : Hp} {Q : XK} (h : ta σ H fun vs H1 => vs.length ≤ 1000 ∧ ∀ a, H1 a = none → sp (.ref a :: (vs ++ dvs)) (upd H1 a (exo a C none)) (fun v H2 => v = .non ∧ ∃ (d : Addr) (fs : List (Str × V)), H2 a = some (exo a C (some d)) ∧ H2 d = some (exd d fs) ∧ H1 d = none ∧ Q (.ref C) (some d) (upd (del H2 a) d (.xd fs))) (fun _ _ _ => False)) : tMkO C sp dvs ta σ H Q := h
theorem x_ost {K : PySem.W.Frag} {f : Str} {to te : TE} {D : Ends} {σ : L2.St} {H : Hp} (h : te σ H fun y H1 => to σ H1 fun x H2 => ∃ a C : Addr, x = .ref a ∧ OexC K C ∧ PySem.W.findIn K (.ref C) f = some none ∧ ((H2 a = some (exo a C none) ∧ ∀ dx, H2 dx = none → dx ≠ a → D.nx σ (upd (upd H2 dx (exd dx [(f, y)])) a (exo a C (some dx)))) ∨ ∃ (dx : Addr) (fs : List (Str × V)), H2 a = some (exo a C (some dx)) ∧ H2 dx = some (exd dx fs) ∧ fs.length ≤ 900 ∧ D.nx σ (upd H2 dx (exd dx ((f, y) :: fs))))) : tOst K f to te D σ H := h
theorem x_sfld {K : PySem.W.Frag} {ta tv : TE} {f : Str} {D : Ends} {σ : L2.St} {H : Hp} (h : tv σ H fun y H1 => ta σ H1 fun x H2 => ∃ a C dx fs, x = .ref a ∧ H2 a = some (.ins C dx fs) ∧ Cls K C ∧ NoAttr K C f ∧ fs.length < 1000 ∧ D.nx σ (upd H2 a (.ins C dx (putF f y fs)))) : sFld K ta tv f D σ H := h
structure CalM (K : PySem.W.Frag) (f : Addr) (fd : FuncData) (ps : List Str) : Prop where
  k : PySem.W.keepIn K (.ref f) = true
  b : Binds K fd ps []
structure ExcF (K : PySem.W.Frag) (C fI : Addr) (f : Str) : Prop where
  T : OexC K C
  i : PySem.W.findIn K (.ref C) "__init__" = some (some (.ref fI))
  t : PySem.W.typeIn K (.ref fI) = some (.type "function")
  n : PySem.W.findIn K (.ref C) f = some none
def spField (C : Addr) (f : Str) : Sp := fun vs H Q _ => ∃ (a : Addr) (v : V), vs = [.ref a, v] ∧ H a = some (exo a C none) ∧ ∀ dx, H dx = none → dx ≠ a → Q .non (upd (upd H dx (exd dx [(f, v)])) a (exo a C (some dx)))
theorem mk_field {C : Addr} {f : Str} {v : V} {H : Hp} {Q : XK} (h : ∀ d H', Same H H' → H d = none → H' d = some (.xd [(f, v)]) → Q (.ref C) (some d) H') :
    [v].length ≤ 1000 ∧ ∀ a, H a = none → spField C f (.ref a :: ([v] ++ [])) (upd H a (exo a C none)) (fun v H2 => v = .non ∧ ∃ (d : Addr) (fs : List (Str × V)), H2 a = some (exo a C (some d)) ∧ H2 d = some (exd d fs) ∧ H d = none ∧ Q (.ref C) (some d) (upd (del H2 a) d (.xd fs))) (fun _ _ _ => False) := by
  refine ⟨by show 1 ≤ 1000; decide, fun a ha => ⟨a, v, rfl, upd_same, fun dx hd ne => ⟨rfl, dx, [(f, v)], upd_same, ?_, ?_, ?_⟩⟩⟩
  · rw [upd_ne ne, upd_same]
  · rw [upd_ne ne] at hd
    exact hd
  · rw [upd_ne ne] at hd
    refine h dx _ (fun b o e => ?_) hd upd_same
    have nb := ne_of_none e ha
    rw [upd_ne (ne_of_none e hd), del_ne nb, upd_ne nb, upd_ne (ne_of_none e hd), upd_ne nb]
    exact e
end Fv
set_option maxRecDepth 100000
set_option maxHeartbeats 1000000
namespace Fv
open PySem PySem.Spec L2
def dn (l : List Nat) : List PyData := l.map fun (n : Nat) => PyData.int (Int.ofNat n)
theorem dpAll_nats {K : PySem.W.Frag} {H : Hp} : ∀ l : List Nat, DpAll K H (nats l) (dn l)
  | [] => .nil
  | a :: l => .cons (.int _) (dpAll_nats l)
theorem dn_lay : ∀ l : List Nat, PyData.canLayAll0 (dn l) = true
  | [] => rfl
  | a :: l => by
    show (PyData.canLay0 (.int (Int.ofNat a)) && PyData.canLayAll0 (dn l)) = true
    rw [dn_lay l]
    rfl
theorem dn_depth : ∀ l : List Nat, PyData.depthAll (dn l) = 0
  | [] => rfl
  | a :: l => by
    show max (PyData.depth (.int (Int.ofNat a))) (PyData.depthAll (dn l)) = 0
    rw [dn_depth l]
    rfl
theorem dn_shaped (l : List Nat) : SeqAt.shaped (.tuple (dn l)) = true := by
  show (PyData.canLayAll0 (dn l) && decide (PyData.depthAll (dn l) + 1 ≤ 64)) = true
  rw [dn_lay, dn_depth]
  rfl
theorem dn_eqv : ∀ l m : List Nat, PyData.eqvAll (dn l) (dn m) = decide (l = m)
  | [], [] => by simp [dn, PyData.eqvAll]
  | [], _ :: _ => by simp [dn, PyData.eqvAll]
  | _ :: _, [] => by simp [dn, PyData.eqvAll]
  | a :: l, b :: m => by
    show PyData.eqvAll (.int (Int.ofNat a) :: dn l) (.int (Int.ofNat b) :: dn m) = _
    rw [PyData.eqvAll, dn_eqv l m, PyData.eqv, Bool.eq_iff_iff]
    simp
    intro _
    omega
section
variable {K : PySem.W.Frag} {H : Hp} {Q : VK} {a b : Addr} {l m : List Nat}
theorem x_eqTup (h1 : SqT K H a (nats l)) (h2 : SqT K H b (nats m)) (q : Q (.bl (decide (l = m))) H) : rEqD K (.ref a) (.ref b) H Q := by
  refine ⟨.tuple (dn l), .tuple (dn m), .tup h1 (dpAll_nats l), .tup h2 (dpAll_nats m), dn_shaped l, dn_shaped m, ?_⟩
  rw [PyData.eqv, dn_eqv]
  exact q
end
structure OwnQ (K : PySem.W.Frag) (C f : Addr) : Prop where
  s : PySem.W.findIn K (.ref C) "__eq__" = some (some (.ref f))
  fn : PySem.W.isFn K (.ref f) = true
structure IsC (K : PySem.W.Frag) (C : Addr) : Prop where
  cl : Cls K C
  ha : PySem.W.findIn K (.ref C) "__class__" = some (some (.builtin "object.__class__"))
  hn : PySem.W.specialIn K (.builtin "object.__class__") "__get__" = some (some (.builtin "getset_descriptor.__get__"))
  ht : PySem.W.takesIn K (.builtin "object.__class__") = some true
  hm : PySem.W.mroIn K C (.type "object") = some true
  own : PySem.W.kitOne K (.ref C) (.ref C) = some true
  tup : PySem.W.kitOne K (.type "tuple") (.ref C) = some false
section
variable {K : PySem.W.Frag} {H : Hp} {Q : VK} {a C dx : Addr} {fs : List (Str × V)} {xs : List V}
theorem isi_own (c : IsC K C) (h : H a = some (.ins C dx fs)) (q : Q (.bl true) H) : rIsi K [.ref a, .ref C] H Q := ⟨.ref a, .ref C, .ref C, .ref C, true, rfl, .own C, .base (.ins h c.cl c.ha c.hn c.ht c.hm), c.own, q⟩
theorem isi_tupOwn (c : IsC K C) (h : H a = some (.tup xs)) (q : Q (.bl false) H) : rIsi K [.ref a, .ref C] H Q := ⟨.ref a, .ref C, .type "tuple", .ref C, false, rfl, .own C, .base (.tup h), c.tup, q⟩
theorem x_fldQ {te : TE} {f : Str} {σ : L2.St} (h : te σ H fun x H1 => ∃ a C dx fs v, x = .ref a ∧ H1 a = some (.ins C dx fs) ∧ Cls K C ∧ NoAttr K C f ∧ fs.lookup f = some v ∧ Q v H1) : tFld K te f σ H Q := h
end
end Fv
set_option maxRecDepth 100000
set_option maxHeartbeats 1000000
namespace Fv
open PySem PySem.Spec L2 PyProof.Rows
theorem x_make {C : Addr} {sp : Sp} {dvs : List V} {E : XK} {t : TA} {σ : L2.St} {H : Hp} {Q : VK} (h : t σ H fun vs H1 => ∀ x dx, H1 x = none → H1 dx = none → dx ≠ x → sp (.ref x :: (vs ++ dvs)) (upd (upd H1 dx (.own x)) x (.ins C dx [])) (fun v H2 => v = .non ∧ Q (.ref x) H2) E) : tMake C sp dvs E t σ H Q := h
end Fv
set_option maxRecDepth 100000
set_option maxHeartbeats 1000000
namespace Fv
open PySem PySem.Spec L2
section
variable {X : Cx} {K : PySem.W.Frag} {H : Hp} {Q : VK} {a b : Addr} {xs ys : List V} {v : V}
theorem passE {P : Program} {w : World} : Passes (L2.CX P w) X (fun _ _ _ => False) := fun pins σ H s e s' I c => by
  obtain ⟨a, B, H', cls, d, h1, h2, h3, h4, h5, h6, h7, h8⟩ := c
  exact h8.elim
end
end Fv
set_option maxRecDepth 100000
set_option maxHeartbeats 1000000
namespace Fv
open PySem PySem.Spec PyProof.Rows L2
def rRng2 : List V → Hp → VK → Prop := fun vs H Q => ∃ i j, vs = [V.int i, V.int j] ∧ ∀ p, H p = none → Q (.ref p) (upd H p (.rng i j))
theorem call_rng2 {X : Cx} : CallR X (.type "range") rRng2 := cr_range2
def iRngV (te : TE) : TI := fun σ H R => te σ H fun x H1 => ∃ (a : Addr) (lo hi : Int), x = .ref a ∧ H1 a = some (.rng lo hi) ∧ (-(2 ^ 62) ≤ lo ∧ lo < 2 ^ 62 ∧ -(2 ^ 62) ≤ hi ∧ hi < 2 ^ 62) ∧ R (Itr lo (hi - lo).toNat) H1
theorem pi_rngV {X : Cx} {tg e : Expr} {te : TE} (he : PE X e te) : PI X tg e (iRngV te) := by
  refine ⟨fun pins s σ H R I h => thn (he.run pins s σ H _ I h) fun u s1 ⟨x, H1, I1, rx, a, lo, hi, ex, ea, ⟨h1, h2, h3, h4⟩, q⟩ => ?_⟩
  subst ex
  obtain rfl : u = Value.ref a := rx
  obtain ⟨t, u, v, ho⟩ := (show ∃ t u v, s1.heap.get? a = some { cls := .type "range", data := .fields #[.int lo t, .int hi u, .int 1 v] } from I1.hok a _ ea)
  refine wpAny_pyIter_range (a := lo) (b := hi) (c := 1) (t := t) (u := u) (v := v) ho (small_one h1 h2 h3 h4) ?_
  refine ⟨s1.heap.objs.size, [s1.heap.objs.size], _, _, H1, rfl, I1.kept (t' := s1.toks) fun b o e => Heap.get?_push_of_some _ e, turn_range _ lo (hi - lo).toNat, ?_, fun b hb => ?_, q⟩
  · have e1 : lo + ((0 : Nat) : Int) * 1 = lo := by simp
    have e2 : (((hi - lo).toNat : Nat) : Int) - ((0 : Nat) : Int) = Builtin.Range.rangeSize lo hi 1 := by rw [rangeSize_one]; split <;> omega
    show IsRangeIter _ _ (lo + ((0 : Nat) : Int) * 1) ((((hi - lo).toNat : Nat) : Int) - ((0 : Nat) : Int)) 1
    rw [e1, e2]
    exact Heap.get?_push_size _ rfl
  · have e : b = s1.heap.objs.size := by simpa using hb
    subst e
    exact I1.fpOk (Nat.le_refl _) (I1.hok.fresh (Nat.le_refl _))
theorem pg_tupK {X : Cx} {K : PySem.W.Frag} {es : List Expr} {k : Nat} {t : TGs} {n : Nat} {pos : Pos} (eK : X.K = K) (hc : X.calm = true) (h : PGs X es t)
    (hn : (assignEach es X.env).length = n := by rfl) (hst : (assignEach es X.env).findIdx? (·.1) = none := by rfl) : PG X (.Tuple es k pos) (gTup K n t) := by
  subst eK
  exact pg_tup hc h hn hst
section
variable {K : PySem.W.Frag} {σ : L2.St} {H : Hp} {Q : VK} {a p : Addr} {xs : List V} {v : V}
theorem x_rng2v {i j : Int} (q : ∀ p, H p = none → Q (.ref p) (upd H p (.rng i j))) : rRng2 [.int i, .int j] H Q := ⟨i, j, rfl, q⟩
theorem x_irngV {R : It → Hp → Prop} {te : TE} (h : te σ H fun x H1 => ∃ (a : Addr) (lo hi : Int), x = .ref a ∧ H1 a = some (.rng lo hi) ∧ (-(2 ^ 62) ≤ lo ∧ lo < 2 ^ 62 ∧ -(2 ^ 62) ≤ hi ∧ hi < 2 ^ 62) ∧ R (Itr lo (hi - lo).toNat) H1) : iRngV te σ H R := h
theorem atI_last (xs : List V) (v : V) : atI (xs ++ [v]) (-1) = some v := by
  unfold atI ixN
  rw [if_neg (by decide), if_pos (by rw [List.length_append]; show -((xs.length + 1 : Nat) : Int) ≤ -1; omega)]
  show (xs ++ [v])[_]? = _
  have e : ((-1 : Int) + ((xs ++ [v]).length : Nat)).toNat = xs.length := by
    rw [List.length_append]
    show ((-1 : Int) + ((xs.length + 1 : Nat) : Int)).toNat = xs.length
    omega
  first
    | (rw [e]; simp)
    | simp
theorem flat_nats (l : List Nat) : (nats l).all flatV = true := by
  rw [List.all_eq_true]
  intro x hx
  obtain ⟨n, _, rfl⟩ := List.mem_map.mp hx
  rfl
theorem in_nats (k : Nat) : ∀ l : List Nat, inV (.int k) (nats l) = decide (k ∈ l)
  | [] => rfl
  | a :: l => by
    show (eqV (.int a) (.int k) || inV (.int k) (nats l)) = decide (k ∈ a :: l)
    rw [in_nats k l, Bool.eq_iff_iff]
    simp only [Bool.or_eq_true, decide_eq_true_eq, List.mem_cons]
    have e : eqV (.int a) (.int k) = decide ((a : Int) = (k : Int)) := by
      show ((a : Int) == (k : Int)) = _
      rfl
    rw [e, decide_eq_true_eq]
    constructor
    · rintro (h | h)
      · exact .inl (by omega)
      · exact .inr h
    · rintro (h | h)
      · exact .inl (by omega)
      · exact .inr h
theorem x_inNT {k : Nat} {l : List Nat} (h : SqT K H p (nats l)) (q : Q (.bl (decide (k ∈ l))) H) : rIn K false (.int k) (.ref p) H Q := by
  refine ⟨p, _, rfl, .inr h, rfl, flat_nats l, ?_⟩
  show Q (.bl (inV (.int k) (nats l))) H
  rw [in_nats]
  exact q
end
end Fv
set_option maxRecDepth 100000
set_option maxHeartbeats 1000000
namespace Fv
open PySem PySem.Spec PySem.Calls PyProof.Rows
def siA (p : Pos) : Arguments := { posonlyargs := [], args := [{ arg := "self", annotation := none, pos := p }], vararg := none, kwonlyargs := [], kw_defaults := [], kwarg := none, defaults := [] }
def siB (p0 p1 p2 p3 p4 : Pos) : List Stmt := [.Expr (.Call (.Attribute (.Call (.Name "super" p0) [] [] p1) "__init__" p2) [] [] p3) p4]
def siS : Scope := { kind := .function, names := [(PySem.Str.ofString "self", .local), (PySem.Str.ofString "__class__", .free), (PySem.Str.ofString "super", .globalImplicit)], isGenerator := false, isCoroutine := false, more := [] }
def SupEv (p0 p1 p2 p3 : Pos) : Prop := ∀ (q : Str) (L a cc : Addr) (cd : Value), ∃ pl : Sem Bool,
  eval (.Call (.Attribute (.Call (.Name "super" p0) [] [] p1) "__init__" p2) [] [] p3) (PySem.W.ksEnv q siS L a cd cc) = (do
    let o ← attributeBase (.Call (.Name "super" p0) [] [] p1) "__init__" (PySem.W.ksEnv q siS L a cd cc) (eval (.Call (.Name "super" p0) [] [] p1) (PySem.W.ksEnv q siS L a cd cc))
    standAt p2.atName
    let (f, first) ← holding [o] (getMethod o "__init__" pl)
    callWith p3 f first (backTo p3 (starEach [] (PySem.W.ksEnv q siS L a cd cc))) [])
structure SupC (P : Program) (K : PySem.W.Frag) (C fI : Addr) : Prop where
  x : L2.OexC K C
  iC : PySem.W.findIn K (.ref C) "__init__" = some (some (.ref fI))
  tC : PySem.W.typeIn K (.ref fI) = some (.type "function")
  fn : ∃ (oc : Value) (od : Option Addr) (kV doc pm : Value) (an : Option Addr) (cda : Addr) (ct : Value) (osl : Array (Option Value)) (cc : Addr) (q : Str) (p p0 p1 p2 p3 p4 : Pos),
    K.lookup fI = some ⟨oc, od, .func (PySem.W.ksFn "__init__" q (siA p) (siB p0 p1 p2 p3 p4) siS .none kV doc pm an (.ref cda) ct cc), osl⟩ ∧ PySem.W.codeIn K (.ref cda) q = true ∧ (∃ (cl : Value) (cld : Option Addr) (csl : Array (Option Value)), K.lookup cc = some ⟨cl, cld, .cell (some (.ref C)), csl⟩) ∧
    ∃ (ccl : Value) (cdd : Option Addr) (vs : Array Value) (ccs : Array (Option Value)) (file : Str) (tf : Tok), K.lookup cda = some ⟨ccl, cdd, .fields vs, ccs⟩ ∧ vs[2]? = some (.str file tf) ∧ ((P.main.file : Str) == file) = true ∧ SupEv p0 p1 p2 p3
  up : PySem.W.ks_superIn K C C "__init__" = some (some (.builtin "ValueError.__init__"))
  me : PySem.W.mroIn K C (.ref C) = some true
  ve : PySem.W.subIn K (.ref C) (.type "ValueError") = some true
  op : PySem.W.nsIn K cStatics "thirdparty.any" = some none
  tp : (P.main.scope.names.lookup ("super" : Str)).isSome = false
section
variable {P : Program} {w : World} {A : Around} {R : Result → Shared → Prop} {s : Shared} {K : PySem.W.Frag} {C fI : Addr}
theorem sup_init (T : SupC P K C fI) {x t0 : Addr} {mg mb : Str → Option Value} (X : K.In s.heap) (hlim : s.heap.NoLimit) (hg : s.heap.Ns mainGlobals mg) (hms : mg "super" = none) (hb : s.heap.Ns builtinsNs mb) (hbs : mb "super" = some (.type "super"))
    (hx : s.heap.get? x = some (PySem.HandSPX.excO C t0)) (hroom : A.depth < recursionLimit)
    (hq : ∀ h' tk t1, (∀ b o, b ≠ x → s.heap.get? b = some o → h'.get? b = some o) → h'.get? x = some (PySem.HandSPX.excO C t1) → R (.ok (.ret .none)) { s with heap := h', toks := tk }) :
    codeAny (model P w) A (.call (.ref fI) ⟨[.ref x], []⟩) R s := by
  obtain ⟨oc, od, kV, doc, pm, an, cda, ct, osl, cc, q, p, p0, p1, p2, p3, p4, ho, hcd, ⟨cl, cld, csl, hcell⟩, ccl, cdd, vs, ccs, file, tf, hcode, hvs, hfile, hev⟩ := T.fn
  obtain ⟨nm, q', N, bs, bm, sn, sub, ab, col, dd, k0, k1, k2, k3, k5, hC, hbm⟩ := T.x.cls
  have hcl : PySem.W.clsIn K C = some { name := nm, bases := bs, mro := .ref C :: bm, ns := N, qualname := q', hasDict := true, slotNames := sn, subclasses := sub, abstract := ab, collection := col, hasDel := false } := by
    unfold PySem.W.clsIn
    rw [hC] <;> rfl
  refine ks_codeAny_call_defAt (binds := [("self", .ref x)]) hroom (X _ _ ho) rfl hlim (PySem.W.codeRec_of X hcd) rfl (BindsTo.of_eq rfl) (show ∀ x ∈ siS.names, x.2 ≠ NameKind.cell by decide) (fun y hy => ?_) (fun h₁ hns hk₁ => ?_)
  · simp only [List.mem_cons, List.not_mem_nil, or_false] at hy
    subst hy
    rfl
  have X1 : K.In h₁ := X.keeps hk₁
  have hx1 := hk₁ _ _ hx
  have hC1 := X1 _ _ hC
  obtain ⟨hp, g, d, tk, os⟩ := s
  obtain ⟨pl, he⟩ := hev q hp.objs.size fI cc (.ref cda)
  refine ks_wpAt_execs_cons (ks_wpAt_Expr_any (ks_wpAt_MethodCall (pl := pl) ?_ he))
  refine ks_wpAt_super_base rfl rfl rfl rfl (X1 _ _ ho) rfl rfl rfl (X1 _ _ hcode) rfl hvs hfile T.tp ?_
  refine PySem.W.ks_loadName_global rfl rfl (loadGlobal_builtin (hg.keeps hk₁) hms (hb.keeps hk₁) hbs ⟨rfl, ?_⟩)
  refine wpAny_loadName_free rfl rfl rfl ⟨_, X1 _ _ hcell, rfl⟩ ?_
  refine wpAny_loadName_local (v := .ref x) rfl rfl hns rfl ?_
  refine ks_wpAny_isType_cls hC1 rfl ⟨rfl, ?_⟩
  refine ks_wpAny_call_super hC1 rfl hx1 rfl (fun c e => by cases e) (PySem.W.looks_mroIn X1 T.me) (fun h2 hso k2 => ?_)
  have X2 : K.In h2 := X1.keeps k2
  have hx2 := k2 _ _ hx1
  have I2 : PySem.W.InstAt h2 x (PySem.HandSPX.excO C t0) C none := ⟨hx2, rfl, rfl, trivial⟩
  have hup : PySem.W.alongIn K "__init__" (((Value.ref C :: bm).dropWhile (· != Value.ref C)).drop 1) = some (some (.builtin "ValueError.__init__")) := by
    have e := T.up
    unfold PySem.W.ks_superIn at e
    rw [hcl] at e
    exact e
  refine PySem.W.kxs_getMethod PySem.W.kxs_ValueError hso (PySem.W.looks_opaque X2 T.op) (l₀ := .ref C :: bm) ?_ rfl X2 hup (I2.type.andThen (PySem.W.looks_subIn X2 T.ve)) (PySem.W.ks_ne X2 I2 hcl) (by decide) ?_
  · exact fun A Q E s k q => wpAny_bind (PySem.W.looks_clsIn X2 hcl A _ E s k (wpAny_pure q))
  have hu : (h2.push (PySem.W.kxs_mw "ValueError.__init__" x)).get? h2.objs.size = some (PySem.W.kxs_mw "ValueError.__init__" x) := Heap.get?_push_at rfl rfl
  have k3 : ∀ b o, h2.get? b = some o → (h2.push (PySem.W.kxs_mw "ValueError.__init__" x)).get? b = some o := fun b o e => Heap.get?_push_of_some _ e
  refine PySem.W.kxs_callWith (i := "ValueError.__init__") (x := x) rfl (PyProof.Rows.evalArgs_empty ⟨hu, ?_⟩)
  have FB := PySem.F.excBase_ValueError
  have hC3 := k3 _ _ (X2 _ _ hC)
  have hx3 := k3 _ _ hx2
  refine wpAny_call (codeAny_of_tree ?_)
  show wpAny _ _ (callAny (.ref h2.objs.size) ⟨[], []⟩) _ _ _
  unfold callAny
  refine wpAny_bind (wpAny_load hu ?_)
  show wpAny _ _ (if (Value.type "method-wrapper" == Value.type "method" || Value.type "method-wrapper" == Value.type "builtin_function_or_method" || Value.type "method-wrapper" == Value.type "method-wrapper") = true then
    (if (Value.type "method-wrapper" != Value.type "method") = true then (do checkBoundCall "ValueError.__init__" ⟨[.ref x], []⟩; again (.builtin "ValueError.__init__" ⟨[.ref x], []⟩)) else again (.call (.builtin "ValueError.__init__") ⟨[.ref x], []⟩)) else _) _ _ _
  rw [if_pos (by decide), if_pos (by decide)]
  refine wpAny_bind (PySem.W.check_bound_init FB.toExcCallFacts hC3 hx3 rfl (wpAny_pure ⟨PySem.plainId_quiet FB.init.plain _, codeAny_builtin FB.initEntry ?_⟩))
  refine PySem.W.exc_init_tree (cls := .ref C) (t0 := t0) (dv := none) (c2 := .none) (c3 := .none) (b4 := .bool false) hx3 (by rw [sizeLine_eq]; decide) fun h4 k4 hx4 _ => ?_
  show PySem.wpAt _ _ _ (execs [] _) _ _ _
  exact PySem.wpAt_of_wpAny (wpAny_execs_nil (hq h4 _ _ (fun b o nb e => k4 b o nb (k3 _ _ (k2 _ _ (hk₁ _ _ e)))) hx4))
theorem sup_made (T : SupC P K C fI) {mg mb : Str → Option Value} (X : K.In s.heap) (hlim : s.heap.NoLimit) (hg : s.heap.Ns mainGlobals mg) (hms : mg "super" = none) (hb : s.heap.Ns builtinsNs mb) (hbs : mb "super" = some (.type "super")) (hroom : A.depth + 1 < recursionLimit)
    (hq : ∀ h' tk e t1, (∀ b o, s.heap.get? b = some o → h'.get? b = some o) → s.heap.objs.size ≤ e → h'.get? e = some (PySem.HandSPX.excO C t1) → R (.ok (.ret (.ref e))) { s with heap := h', toks := tk }) :
    codeAny (model P w) A (.call (.ref C) ⟨[], []⟩) R s := by
  obtain ⟨nm, q', N, bs, bm, sn, sub, ab, col, dd, k0, k1, k2, k3, k5, hC, hbm⟩ := T.x.cls
  obtain ⟨hp, g, dr, tk, os⟩ := s
  have k : ∀ b o, hp.get? b = some o → ((hp.push (PySem.W.kdv_tup [])).push (PySem.HandSPX.excO C hp.objs.size)).get? b = some o := fun b o e => Heap.get?_push_of_some _ (Heap.get?_push_of_some _ e)
  have hget : ((hp.push (PySem.W.kdv_tup [])).push (PySem.HandSPX.excO C hp.objs.size)).get? (hp.objs.size + 1) = some (PySem.HandSPX.excO C hp.objs.size) := by heap_get
  refine PySem.HandSPX.call_own PySem.F.excBase_ValueError (fun Y => PySem.HandSPX.refsVE_contains Y bm hbm) (X _ _ hC) (PySem.W.looks_findIn X T.iC) (fun self => PySem.W.bind_fn X self T.tC) (by rw [sizeLine_eq]; decide) ?_
  refine sup_init (s := ⟨(hp.push (PySem.W.kdv_tup [])).push (PySem.HandSPX.excO C hp.objs.size), g, dr, tk, os⟩) T (X.keeps k) (hlim.keeps k) (hg.keeps k) hms (hb.keeps k) hbs hget ?_ fun h' tk' t1 k' hx => ?_
  · show A.depth + 1 < recursionLimit
    exact hroom
  · refine ⟨rfl, hq h' tk' (hp.objs.size + 1) t1 (fun b o e => k' b o ?_ (k b o e)) (Nat.le_succ _) hx⟩
    exact Nat.ne_of_lt (Nat.lt_succ_of_lt (Heap.lt_size e))
end
end Fv
namespace Fv
open PySem PySem.Spec PyProof.Rows L2
end Fv
set_option maxRecDepth 100000
set_option maxHeartbeats 1000000
namespace Fv
open PySem PySem.Spec PyProof.Rows L2
def rSortT (K : PySem.W.Frag) : List V → Hp → VK → Prop := fun vs H Q => ∃ (a : Addr) (ns : List Int), vs = [V.ref a] ∧ SqT K H a (ns.map V.int) ∧ ns.length < 64 ∧
  ∀ (zs : List Int) (p : Addr), zs.Perm ns → zs.Pairwise (· ≤ ·) → H p = none → Q (.ref p) (upd H p (.lst (zs.map V.int)))
theorem cr_sortT {X : Cx} {K : PySem.W.Frag} (e : X.K = K) : CallR X (.builtin "sorted") (rSortT K) := by
  subst e
  intro pins s σ H vs us Q I r h
  obtain ⟨a, ns, rfl, hs, h64, q⟩ := h
  obtain ⟨its, rv, pt, hz⟩ := I.tuple hs
  rw [Vals.ref1 r]
  have hi := rv.ints
  have hl : its.length = ns.length := hi.length
  obtain ⟨o, ho, hc, n, hd⟩ := id pt
  refine Calls.call_function_entry kind_sorted plain_sorted entry_sorted (args_sorted1 _) ?_
  unfold Builtin.«sorted»
  refine wpAny_bind (m := checkCount "sorted" 1 1 _) (wpAny_pure (wpAny_bind (wpAny_collect_seq a (.inr rfl) ho hc hd (fun h' k => wpAny_bind (wpAny_newList ?_)) ?_)))
  · have hoL : (h'.push (seqObj "list" its.toArray 0)).get? h'.objs.size = some (seqObj "list" its.toArray 0) := Heap.get?_push_size _ rfl
    have J : Inv X pins σ H { s with heap := h', toks := s.toks } := I.kept (t' := s.toks) k
    show wpAny _ _ _ _ _ { s with heap := h'.push (seqObj "list" its.toArray 0) }
    refine wpAny_bind (wpAny_holding (wpAny_call_entry slot_list_sort ⟨_, hoL, rfl⟩ entry_list_sort (list_sort_tree hoL hi (by rw [hl]; exact h64) fun out zs a1 a2 a3 => ⟨_, rfl, wpAny_pure ⟨_, rfl, ?_⟩⟩) (args_list_sort _)))
    obtain ⟨ep, he⟩ := sortedHeap_at (vs := its) (out := out) hoL
    have hlen : (zs.map V.int).length ≤ sizeLine := by rw [List.length_map, a2.length_eq]; exact szLe (by omega)
    refine ⟨.ref h'.objs.size, upd H h'.objs.size (.lst (zs.map V.int)), J.laid (t' := s.toks) (fun b u e => ?_) (Nat.le_refl _) ⟨hlen, out.toList, ep, vals_of_ints a1, he⟩, rfl, q zs _ a2 a3 (J.hok.fresh (Nat.le_refl _))⟩
    have hb := Heap.lt_size e
    refine (sortedHeap_old (Nat.ne_of_lt hb) (by rw [size_push']; exact Nat.lt_succ_of_lt hb)).trans ?_
    exact Heap.get?_push_of_some _ e
  · rw [List.size_toArray, hl]
    exact szLe (by omega)
end Fv
namespace Fv
def wayN (hs : List Nat) : Nat → Nat → List Nat
  | 0, _ => []
  | n + 1, k => if k = 0 then [] else up hs k :: wayN hs n (up hs k)
def way (hs : List Nat) (k : Nat) : List Nat := wayN hs hs.length k
theorem way_mem (hs : List Nat) (x : Nat) : ∀ n k, x ∈ wayN hs n k ↔ ∃ j, j < n ∧ upN hs j k ≠ 0 ∧ upN hs (j + 1) k = x
  | 0, k => by
    constructor
    · intro h
      cases h
    · rintro ⟨j, h, _⟩
      omega
  | n + 1, k => by
    show x ∈ (if k = 0 then [] else up hs k :: wayN hs n (up hs k)) ↔ _
    by_cases h0 : k = 0
    · rw [if_pos h0]
      constructor
      · intro h
        cases h
      · rintro ⟨j, _, h, _⟩
        rw [h0] at h
        exact (h (upN_zero hs j)).elim
    · rw [if_neg h0, List.mem_cons, way_mem hs x n (up hs k)]
      constructor
      · rintro (rfl | ⟨j, h1, h2, h3⟩)
        · exact ⟨0, by omega, h0, rfl⟩
        · exact ⟨j + 1, by omega, h2, h3⟩
      · rintro ⟨j, h1, h2, h3⟩
        cases j with
        | zero => exact .inl h3.symm
        | succ j => exact .inr ⟨j, by omega, h2, h3⟩
theorem up_get {hs : List Nat} {k : Nat} (h1 : 1 ≤ k) (h2 : k ≤ hs.length) : hs[k - 1]? = some (up hs k) := by
  have h : k - 1 < hs.length := by omega
  rw [List.getElem?_eq_getElem h, up_at (by omega) (List.getElem?_eq_getElem h)]
theorem on_way {hs : List Nat} (t : IsTree hs) {b p : Nat} (hb : 1 ≤ b) (hp : p ≤ hs.length) (n1 : p ≠ b) (n2 : b ∉ way hs p) : ∀ j, upN hs j p ≠ b := by
  intro j e
  cases j with
  | zero => exact n1 e
  | succ j =>
    have nz : upN hs j p ≠ 0 := fun h => by
      rw [upN_succ, h] at e
      have : up hs 0 = 0 := rfl
      omega
    refine n2 ((way_mem hs b _ _).mpr ⟨j, ?_, nz, e⟩)
    refine Nat.lt_of_not_le fun hle => nz ?_
    exact upN_more (t.comes p hp) hle
def put (hs : List Nat) (b p : Nat) : List Nat := hs.set (b - 1) p
theorem put_len (hs : List Nat) (b p : Nat) : (put hs b p).length = hs.length := List.length_set
theorem up_put {hs : List Nat} {b p : Nat} (hb : 1 ≤ b) (hb2 : b ≤ hs.length) (k : Nat) : up (put hs b p) k = if k = b then p else up hs k := by
  unfold up put
  by_cases h0 : k = 0
  · rw [if_pos h0, if_neg (by omega), if_pos h0]
  · rw [if_neg h0, if_neg h0, List.getD_eq_getElem?_getD, List.getElem?_set, List.getD_eq_getElem?_getD]
    by_cases h : k = b
    · subst h
      rw [if_pos rfl, if_pos rfl, if_pos (by omega)]
      rfl
    · rw [if_neg (by omega), if_neg h]
theorem upN_put {hs : List Nat} {b p : Nat} (hb : 1 ≤ b) (hb2 : b ≤ hs.length) {k : Nat} : ∀ j, (∀ i, i < j → upN hs i k ≠ b) → upN (put hs b p) j k = upN hs j k
  | 0, _ => rfl
  | j + 1, h => by
    rw [upN_succ, upN_succ, upN_put hb hb2 j fun i hi => h i (by omega), up_put hb hb2, if_neg (h j (by omega))]
theorem put_tree {hs : List Nat} (t : IsTree hs) {b p : Nat} (hb : 1 ≤ b) (hb2 : b ≤ hs.length) (hp : p ≤ hs.length) (n1 : p ≠ b) (n2 : b ∉ way hs p) : IsTree (put hs b p) := by
  have np := on_way t hb hp n1 n2
  have hle : ∀ x ∈ put hs b p, x ≤ (put hs b p).length := fun x hx => by
    rw [put_len]
    rcases List.mem_or_eq_of_mem_set hx with hx | rfl
    · exact t.le x hx
    · exact hp
  have hpz : upN (put hs b p) hs.length p = 0 := by
    rw [upN_put hb hb2 _ fun i _ => np i]
    exact t.comes p hp
  refine ⟨by rw [put_len]; exact t.pos, by rw [put_len]; exact t.most, hle, fun k hk => ?_⟩
  have hk' : k ≤ hs.length := by rwa [put_len] at hk
  have go : ∀ j, upN hs j k = b → upN (put hs b p) (put hs b p).length k = 0 := by
    intro j
    induction j using Nat.strongRecOn with
    | ind j ih =>
      intro hj
      by_cases hx : ∃ i, i < j ∧ upN hs i k = b
      · obtain ⟨i, hi, e⟩ := hx
        exact ih i hi e
      · have e := upN_put (p := p) hb hb2 (k := k) j fun i hi e => hx ⟨i, hi, e⟩
        refine comes_by (j := j + (1 + hs.length)) hle hk ?_
        rw [upN_add, e, hj, upN_add]
        show upN (put hs b p) hs.length (up (put hs b p) b) = 0
        rw [up_put hb hb2, if_pos rfl]
        exact hpz
  by_cases hx : ∃ j, upN hs j k = b
  · obtain ⟨j, e⟩ := hx
    exact go j e
  · refine comes_by (j := hs.length) hle hk ?_
    rw [upN_put hb hb2 _ fun i _ e => hx ⟨i, e⟩]
    exact t.comes k hk'
def IsOrd (n : Nat) (ms : List Nat) : Prop := ms.Perm (List.range' 1 n)
theorem IsOrd.len {n : Nat} {ms : List Nat} (o : IsOrd n ms) : ms.length = n := by rw [o.length_eq, List.length_range']
theorem IsOrd.mem {n : Nat} {ms : List Nat} (o : IsOrd n ms) {x : Nat} : x ∈ ms ↔ 1 ≤ x ∧ x ≤ n := by
  rw [o.mem_iff, List.mem_range'_1]
  omega
theorem IsOrd.nodup {n : Nat} {ms : List Nat} (o : IsOrd n ms) : ms.Nodup := o.nodup_iff.mpr List.nodup_range'
theorem IsOrd.rg {n k : Nat} {ms : List Nat} (o : IsOrd n ms) (h1 : 1 ≤ k) (h2 : k ≤ n) : 1 ≤ up ms k ∧ up ms k ≤ n := o.mem.mp (List.mem_of_getElem? (up_get h1 (by rw [o.len]; exact h2)))
theorem IsOrd.rg0 {n k : Nat} {ms : List Nat} (o : IsOrd n ms) (h2 : k ≤ n) : up ms k ≤ n := by
  by_cases h : k = 0
  · subst h
    exact Nat.zero_le _
  · exact (o.rg (by omega) h2).2
theorem IsOrd.inj {n k l : Nat} {ms : List Nat} (o : IsOrd n ms) (hk : k ≤ n) (hl : l ≤ n) (e : up ms k = up ms l) : k = l := by
  by_cases hk0 : k = 0
  · subst hk0
    by_cases hl0 : l = 0
    · exact hl0.symm
    · have := (o.rg (k := l) (by omega) hl).1
      rw [← e] at this
      exact absurd this (by show ¬ 1 ≤ 0; omega)
  · by_cases hl0 : l = 0
    · subst hl0
      have := (o.rg (k := k) (by omega) hk).1
      rw [e] at this
      exact absurd this (by show ¬ 1 ≤ 0; omega)
    · have h1 := up_get (hs := ms) (k := k) (by omega) (by rw [o.len]; exact hk)
      have h2 := up_get (hs := ms) (k := l) (by omega) (by rw [o.len]; exact hl)
      rw [e] at h1
      have h3 : k - 1 < ms.length := by rw [o.len]; omega
      have := (List.getElem?_inj h3 o.nodup).mp (h1.trans h2.symm)
      omega
theorem IsOrd.surj {n x : Nat} {ms : List Nat} (o : IsOrd n ms) (h1 : 1 ≤ x) (h2 : x ≤ n) : ∃ k, 1 ≤ k ∧ k ≤ n ∧ up ms k = x := by
  obtain ⟨i, hi, e⟩ := List.getElem_of_mem (o.mem.mpr ⟨h1, h2⟩)
  have := o.len
  exact ⟨i + 1, by omega, by omega, up_at (by omega) (by rw [Nat.add_sub_cancel, List.getElem?_eq_getElem hi, e])⟩
def callN (hs ms : List Nat) : Nat → List Nat
  | 0 => List.replicate hs.length 0
  | i + 1 => (callN hs ms i).set (up ms (i + 1) - 1) (up ms (up hs (i + 1)))
def call2 (hs ms : List Nat) : List Nat := callN hs ms hs.length
theorem callN_len (hs ms : List Nat) : ∀ i, (callN hs ms i).length = hs.length
  | 0 => List.length_replicate
  | i + 1 => by
    show ((callN hs ms i).set _ _).length = _
    rw [List.length_set, callN_len hs ms i]
theorem callN_get {hs ms : List Nat} (o : IsOrd hs.length ms) : ∀ i, i ≤ hs.length → ∀ c, 1 ≤ c → c ≤ i → (callN hs ms i)[up ms c - 1]? = some (up ms (up hs c))
  | 0, _, c, h1, h2 => absurd h2 (by omega)
  | i + 1, hi, c, h1, h2 => by
    show ((callN hs ms i).set (up ms (i + 1) - 1) (up ms (up hs (i + 1))))[up ms c - 1]? = _
    have a := o.rg (k := i + 1) (by omega) hi
    have b := o.rg (k := c) h1 (by omega)
    rw [List.getElem?_set]
    by_cases e : c = i + 1
    · subst e
      rw [if_pos rfl, if_pos (by rw [callN_len]; omega)]
    · have ne : up ms (i + 1) - 1 ≠ up ms c - 1 := fun h => e (o.inj (by omega) hi (by omega))
      rw [if_neg ne]
      exact callN_get o i (by omega) c h1 (by omega)
theorem call2_len (hs ms : List Nat) : (call2 hs ms).length = hs.length := callN_len hs ms _
theorem call2_up {hs ms : List Nat} (o : IsOrd hs.length ms) {c : Nat} (h2 : c ≤ hs.length) : up (call2 hs ms) (up ms c) = up ms (up hs c) := by
  by_cases h0 : c = 0
  · subst h0
    rfl
  · have a := o.rg (k := c) (by omega) h2
    exact up_at (by omega) (callN_get o _ (Nat.le_refl _) c (by omega) h2)
theorem call2_upN {hs ms : List Nat} (t : IsTree hs) (o : IsOrd hs.length ms) {c : Nat} (h2 : c ≤ hs.length) : ∀ j, upN (call2 hs ms) j (up ms c) = up ms (upN hs j c)
  | 0 => rfl
  | j + 1 => by
    rw [upN_succ, upN_succ, call2_upN t o h2 j]
    exact call2_up o (upN_le t.le j c h2)
theorem call2_tree {hs ms : List Nat} (t : IsTree hs) (o : IsOrd hs.length ms) : IsTree (call2 hs ms) := by
  refine ⟨by rw [call2_len]; exact t.pos, by rw [call2_len]; exact t.most, fun x hx => ?_, fun k hk => ?_⟩
  · rw [call2_len]
    obtain ⟨i, hi, e⟩ := List.getElem_of_mem hx
    rw [call2_len] at hi
    obtain ⟨c, c1, c2, ec⟩ := o.surj (x := i + 1) (by omega) (by omega)
    have hu := call2_up o c2
    rw [ec] at hu
    have hg := up_get (hs := call2 hs ms) (k := i + 1) (by omega) (by rw [call2_len]; omega)
    rw [Nat.add_sub_cancel, List.getElem?_eq_getElem (by rw [call2_len]; exact hi), hu] at hg
    rw [← e, Option.some.inj hg]
    exact o.rg0 (up_le t.le c)
  · rw [call2_len] at hk ⊢
    by_cases h0 : k = 0
    · subst h0
      exact upN_zero _ _
    · obtain ⟨c, c1, c2, ec⟩ := o.surj (x := k) (by omega) hk
      rw [← ec, call2_upN t o c2, t.comes c c2]
      rfl
end Fv
set_option maxRecDepth 100000
set_option maxHeartbeats 1000000
namespace Fv
open PySem PySem.Spec L2
section
variable {X : Cx} {K : PySem.W.Frag} {H : Hp} {Q : VK} {σ : L2.St} {a b : Addr} {xs ys : List V} {l m : List Nat}
theorem sl_tupAK (e : X.K = K) : SlR X (rSlA K) := by
  subst e
  exact sl_tupA
theorem op_catAK (e : X.K = K) : OpR X (binaryOp .Add) (rCatA K) := by
  subst e
  exact op_catA
theorem x_slA {lo hi : Option Int} (h : H a = some (.tup xs)) (q : ∀ D H', Same H H' → H' D = some (.tup (cutV xs lo hi)) → Q (.ref D) H') : rSlA K (.ref a) lo hi H Q := by
  refine ⟨a, xs, rfl, .of h, fun hw => ?_, fun _ p hp => q p _ (same_new (Same.refl _) hp) upd_same⟩
  refine q a H (Same.refl _) ?_
  rw [h]
  unfold cutV
  rw [hw.1, hw.2, List.drop_zero, Nat.sub_zero, List.take_length]
theorem x_catA (h1 : H a = some (.tup xs)) (h2 : H b = some (.tup ys)) (hl : xs.length + ys.length ≤ 10000) (q : ∀ D H', Same H H' → H' D = some (.tup (xs ++ ys)) → Q (.ref D) H') : rCatA K (.ref a) (.ref b) H Q := by
  refine ⟨a, b, xs, ys, rfl, rfl, .of h1, .of h2, szLe (by omega), fun e => ?_, fun _ e => ?_, fun _ _ p hp => q p _ (same_new (Same.refl _) hp) upd_same⟩
  · subst e
    exact q b H (Same.refl _) h2
  · subst e
    exact q a H (Same.refl _) (by rw [h1, List.append_nil])
theorem cut_take (xs : List V) (k : Nat) : cutV xs none (some (k : Int)) = xs.take k := by
  unfold cutV
  rw [HT.sIx_none, HT.sIx_nat, List.drop_zero, Nat.sub_zero]
  by_cases h : k ≤ xs.length
  · rw [Nat.min_eq_left h]
  · rw [Nat.min_eq_right (by omega), List.take_length, List.take_of_length_le (by omega)]
theorem cut_drop (xs : List V) (k : Nat) : cutV xs (some (k : Int)) none = xs.drop k := by
  unfold cutV
  rw [HT.sIx_nat, HT.sIx_none]
  by_cases h : k ≤ xs.length
  · rw [Nat.min_eq_left h]
    exact List.take_of_length_le (by rw [List.length_drop]; exact Nat.le_refl _)
  · rw [Nat.min_eq_right (by omega), List.drop_length, List.drop_of_length_le (by omega), List.take_nil]
theorem put_cut {hs : List Nat} {b p : Nat} (h1 : 1 ≤ b) (h2 : b ≤ hs.length) : (nats hs).take (b - 1) ++ [V.int (p : Nat)] ++ (nats hs).drop b = nats (put hs b p) := by
  have e : put hs b p = hs.take (b - 1) ++ p :: hs.drop (b - 1 + 1) := by
    unfold put
    rw [List.set_eq_take_append_cons_drop, if_pos (by omega)]
  rw [e, nats_append, Nat.sub_add_cancel h1, List.append_assoc]
  unfold nats
  rw [List.map_take, List.map_cons, List.map_drop]
  rfl
theorem x_eqLst (h1 : SqL K H a (nats l)) (h2 : SqL K H b (nats m)) (q : Q (.bl (decide (l = m))) H) : rEqD K (.ref a) (.ref b) H Q := by
  refine ⟨.list (dn l), .list (dn m), .lst h1 (dpAll_nats l), .lst h2 (dpAll_nats m), ?_, ?_, ?_⟩
  · have := dn_shaped l
    exact this
  · have := dn_shaped m
    exact this
  · rw [PyData.eqv, dn_eqv]
    exact q
theorem x_inNL {k : Nat} (h : SqL K H a (nats l)) (q : Q (.bl (decide (k ∈ l))) H) : rIn K false (.int k) (.ref a) H Q := by
  refine ⟨a, _, rfl, .inl h, rfl, flat_nats l, ?_⟩
  show Q (.bl (inV (.int k) (nats l))) H
  rw [in_nats]
  exact q
theorem take_snoc {α : Type} {l : List α} {i : Nat} {x : α} (h : l[i]? = some x) : l.take (i + 1) = l.take i ++ [x] := by
  rw [List.take_succ, h]
  rfl
theorem x_star {te : TE} {t : TA} {R : List V → Hp → Prop} (h : te σ H fun x H1 => ∃ p xs, x = V.ref p ∧ (SqT K H1 p xs ∨ SqL K H1 p xs) ∧ t σ H1 fun ys H2 => R (xs ++ ys) H2) : StX.tStar K te t σ H R := h
theorem x_sortT {ns : List Int} (h : SqT K H a (ns.map V.int)) (h64 : ns.length < 64) (q : ∀ (zs : List Int) (p : Addr), zs.Perm ns → zs.Pairwise (· ≤ ·) → H p = none → Q (.ref p) (upd H p (.lst (zs.map V.int)))) : rSortT K [.ref a] H Q := ⟨a, ns, rfl, h, h64, q⟩
theorem sorted_ord {n : Nat} {ms : List Nat} {zs : List Int} (o : IsOrd n ms) (hp : zs.Perm (ms.map fun (k : Nat) => (k : Int))) (hs : zs.Pairwise (· ≤ ·)) : zs.map V.int = nats (List.range' 1 n) := by
  have e : zs = (List.range' 1 n).map fun (k : Nat) => (k : Int) := by
    refine (hp.trans (o.map _)).eq_of_pairwise (fun a b _ _ h1 h2 => Int.le_antisymm h1 h2) hs ?_
    rw [List.pairwise_map]
    refine (List.pairwise_le_range' (s := 1) (n := n)).imp fun {x y} hxy => ?_
    exact Int.ofNat_le.mpr hxy
  rw [e, List.map_map]
  rfl
theorem nats_ints (l : List Nat) : (l.map fun (k : Nat) => (k : Int)).map V.int = nats l := by
  rw [List.map_map]
  rfl
theorem names_at {ms : List Nat} {k : Nat} (h : k ≤ ms.length) : atI (nats (0 :: ms)) (k : Int) = some (.int (up ms k : Nat)) := by
  refine nats_at ?_
  cases k with
  | zero => rfl
  | succ k => exact up_get (hs := ms) (k := k + 1) (by omega) h
end
theorem below_mem {hs : List Nat} {b p : Nat} (hp : p ≤ hs.length) : p ∈ (List.range' 1 hs.length).filter (fun c => decide (b ∈ way hs c)) ↔ b ∈ way hs p := by
  rw [List.mem_filter, List.mem_range'_1, decide_eq_true_eq]
  constructor
  · exact fun h => h.2
  · intro h
    refine ⟨⟨?_, by omega⟩, h⟩
    refine Nat.one_le_iff_ne_zero.mpr fun e => ?_
    subst e
    obtain ⟨j, _, nz, _⟩ := (way_mem hs b _ _).mp h
    exact nz (upN_zero hs j)
end Fv
set_option maxRecDepth 100000
set_option maxHeartbeats 1000000
namespace Fv
open PySem PySem.Spec PyProof.Rows L2
structure OwnN (K : PySem.W.Frag) (C f : Addr) : Prop where
  c : ∃ (nm q : Str) (N : Addr) (bs : List Value) (hd : Bool) (sn : List Str) (sub : List Value) (ab : Bool) (col : Option Bool) (dd : Option Addr) (k0 k1 k2 k3 k5 : Option Value) (newId : String),
    K.lookup C = some (excClassObj nm q C N bs [.type "object"] hd sn sub ab col dd k0 k1 k2 k3 k5 newId) ∧ PySem.W.nsOkIn K N = true ∧ PySem.W.nsIn K N "__eq__" = some (some (.ref f)) ∧ PySem.W.nsIn K N "__ne__" = some none
  t : PySem.W.typeIn K (.ref f) = some (.type "function")
theorem ns_some {K : PySem.W.Frag} {h : Heap} {N : Addr} {m : Str → Option Value} {n : Str} {v : Value} (X : K.In h) (G : h.Ns N m) (e : PySem.W.nsIn K N n = some (some v)) : m n = some v := by
  obtain ⟨o, es, ep, ho, hd, _, hf⟩ := G
  unfold PySem.W.nsIn at e
  split at e
  · rename_i c d es' n' sl q
    have z := X _ _ q
    rw [ho] at z
    cases z
    cases hd
    split at e
    · rename_i en he
      cases e
      rw [← hf]
      unfold nsFind findBy
      rw [← Array.find?_toList, he]
      rfl
    · split at e <;> cases e
  · cases e
def rOwnN (C : Addr) (sp : Sp) : R2 := fun x y H Q => ∃ (a b dx dy : Addr) (fs gs : List (Str × V)), x = .ref a ∧ y = .ref b ∧ H a = some (.ins C dx fs) ∧ H b = some (.ins C dy gs) ∧
  sp [.ref a, .ref b] H (fun v H' => ∃ r, v = .bl r ∧ Q (.bl (!r)) H') (fun _ _ _ => False)
theorem op_ownN {X : Cx} {C f : Addr} {fd : FuncData} {ps : List Str} {sp : Sp} {n : Nat} (O : OwnN X.K C f) (F : FnOk X.prog X.w X.K X.mg X.base CX0 n f fd ps sp) (hb : Binds X.K fd ps []) (hr : Room (n + 1) X.A) : OpR X (compareOp .NotEq) (rOwnN C sp) := by
  intro pins s σ H x y v u Q I rx ry h
  obtain ⟨a, b, dx, dy, fs, gs, rfl, rfl, ha, hB, hsp⟩ := h
  cases rx
  cases ry
  obtain ⟨nm, q, N, bs, hd, sn, sub, ab, col, dd, k0, k1, k2, k3, k5, newId, hC, n1, n2, n3⟩ := O.c
  obtain ⟨mA, J, _⟩ := ins_get I.hok ha
  obtain ⟨od, J, _⟩ := J.look
  obtain ⟨mB, J', _⟩ := ins_get I.hok hB
  obtain ⟨od', J', _⟩ := J'.look
  have KI := I.kIn
  have G : s.heap.Ns N (s.heap.nsMap N) := .of_isNs (PySem.W.isNs_of_in KI n1)
  obtain ⟨of, hof, hoc⟩ : ∃ of, s.heap.get? f = some of ∧ of.cls = .type "function" := by
    have e : (X.K.lookup f).map (·.cls) = some (.type "function") := O.t
    cases z : X.K.lookup f with
    | none =>
      rw [z] at e
      cases e
    | some of =>
      rw [z] at e
      exact ⟨of, KI _ _ z, Option.some.inj e⟩
  have W : s.heap.OwnEqNoNe a C f "object" [.type "object"] :=
    ⟨_, of, nm, q, N, bs, hd, sn, sub, ab, col, dd, k0, k1, k2, k3, k5, newId, s.heap.nsMap N, _, J.at_, J.cls, KI _ _ hC, G, ns_some KI G n2, hof, hoc, PySem.F.cmp_object.mro, PySem.F.cmp_object.eq.lookup, PySem.W.ns_none_of KI G n3⟩
  have hu : X.A.units + 1 < cLine := by have := hr.un; omega
  have hI0 := I.env0
  have r2 : Vals [V.ref a, V.ref b] [Value.ref a, Value.ref b] := .cons rfl (.cons rfl .nil)
  have hl : ([Value.ref a, Value.ref b] ++ []).length = ps.length := by rw [← (r2.append .nil).length]; exact F.len _ _ _ _ hsp
  have hbt := hb s [.ref a, .ref b] I.kIn hl
  have call := F.run X.A.in1 X.stack s H ⟨[.ref a, .ref b], []⟩ _ _ _ _ hr.in1 hI0.in1 hbt (r2.append .nil) hsp
  obtain ⟨hp, g, d, t, os⟩ := s
  refine PySem.richCompare_ne_ownEq PySem.F.cmp_object W J'.at_ J'.cls hu (wpAny_call (codeAny_mono call fun r s' hq => ?_))
  cases r with
  | error e => exact hq.elim
  | ok fl =>
    cases fl with
    | ret u =>
      obtain ⟨z, H', I', rz, r, ez, q⟩ := I.after hq
      subst ez
      cases rz
      exact ⟨_, rfl, .bl (!r), H', I', rfl, q⟩
    | next => exact False.elim hq
    | brk => exact False.elim hq
    | cont => exact False.elim hq
end Fv
set_option maxRecDepth 100000
set_option maxHeartbeats 1000000
namespace Fv
open PySem PySem.Spec PyProof.Rows L2
def rIsT (K : PySem.W.Frag) : List V → Hp → VK → Prop := fun xs H Q => ∃ a ys, xs = [.ref a, .ty "tuple"] ∧ SqT K H a ys ∧ Q (.bl true) H
theorem call_isT {X : Cx} {K : PySem.W.Frag} (e : X.K = K) : CallR X (.builtin "isinstance") (rIsT K) := by
  subst e
  intro pins s σ H xs us Q I r h
  obtain ⟨a, ys, rfl, hq, q⟩ := h
  obtain ⟨u1, u2, rfl, r1, r2⟩ := vals2 r
  cases r1
  cases r2
  obtain ⟨its, r', ⟨o, h1, h2, _⟩, hz⟩ := I.tuple hq
  exact PySem.W.kia_one (K := X.K) (t := .type "tuple") PySem.W.kitx_tuple I.kIn ⟨o, h1, h2⟩ (if_pos (beq_self_eq_true _) : PySem.W.kitOne X.K (.type "tuple") (.type "tuple") = some true) (fun z => nomatch z) fun tk => ⟨.bl true, H, I.tok tk, rfl, q⟩
section
variable {X : Cx} {K : PySem.W.Frag} {o e : Expr} {es : List Expr} {to : TE} {t : TA} {name : Str} {apos cpos : Pos} {id : String} {r : V → List V → Hp → VK → Prop}
end
end Fv
namespace Fv
theorem wayN_eq (hs : List Nat) : ∀ m k n, (∀ j, j < n → upN hs j k ≠ 0) → upN hs n k = 0 → n ≤ m → wayN hs m k = (List.range n).map fun i => upN hs (i + 1) k
  | m, k, 0, _, h, _ => by
    have e : k = 0 := h
    subst e
    cases m with
    | zero => rfl
    | succ m => exact if_pos rfl
  | 0, k, n + 1, _, _, h => absurd h (by omega)
  | m + 1, k, n + 1, hn, h, hm => by
    have k0 : k ≠ 0 := hn 0 (by omega)
    show (if k = 0 then [] else up hs k :: wayN hs m (up hs k)) = _
    rw [if_neg k0, wayN_eq hs m (up hs k) n (fun j hj => hn (j + 1) (by omega)) h (by omega), List.range_succ_eq_map, List.map_cons, List.map_map]
    rfl
theorem wayN_snoc (hs : List Nat) : ∀ i k, wayN hs (i + 1) k = wayN hs i k ++ if upN hs i k = 0 then [] else [upN hs (i + 1) k]
  | 0, k => by
    show (if k = 0 then [] else [up hs k]) = [] ++ _
    rfl
  | i + 1, k => by
    show (if k = 0 then [] else up hs k :: wayN hs (i + 1) (up hs k)) = (if k = 0 then [] else up hs k :: wayN hs i (up hs k)) ++ _
    by_cases h : k = 0
    · subst h
      rw [if_pos rfl, if_pos rfl, upN_zero, if_pos rfl]
      rfl
    · rw [if_neg h, if_neg h, wayN_snoc hs i (up hs k)]
      rfl
theorem range_snoc (n : Nat) : List.range' 1 (n + 1) = List.range' 1 n ++ [1 + n] := by
  rw [List.range'_concat, Nat.one_mul]
def kids (hs : List Nat) (p : Nat) : List Nat := (List.range' 1 hs.length).filter fun b => decide (up hs b = p)
def below (hs : List Nat) (p : Nat) : List Nat := (List.range' 1 hs.length).filter fun b => decide (p ∈ way hs b)
theorem filter_snoc (g : Nat → Bool) (n : Nat) : (List.range' 1 (n + 1)).filter g = (List.range' 1 n).filter g ++ if g (n + 1) = true then [n + 1] else [] := by
  rw [range_snoc, List.filter_append, Nat.add_comm 1 n]
  congr 1
  by_cases h : g (n + 1) = true
  · rw [if_pos h, List.filter_cons_of_pos h]
    rfl
  · rw [if_neg h, List.filter_cons_of_neg h]
    rfl
theorem filter_len (g : Nat → Bool) (n : Nat) : ((List.range' 1 n).filter g).length ≤ n := by
  refine Nat.le_trans (List.length_filter_le _ _) ?_
  rw [List.length_range']
  exact Nat.le_refl _
theorem wayN_nil (hs : List Nat) : ∀ n, wayN hs n 0 = []
  | 0 => rfl
  | n + 1 => if_pos rfl
theorem wayN_cons (hs : List Nat) (n : Nat) {k : Nat} (h : k ≠ 0) : wayN hs (n + 1) k = up hs k :: wayN hs n (up hs k) := if_neg h
theorem wayN_take (hs : List Nat) : ∀ m j k, (wayN hs m k).take j = wayN hs (min j m) k
  | m, 0, k => by
    rw [Nat.zero_min]
    exact List.take_zero
  | 0, j + 1, k => by
    rw [Nat.min_zero]
    rfl
  | m + 1, j + 1, k => by
    rw [show min (j + 1) (m + 1) = min j m + 1 by omega]
    by_cases h : k = 0
    · rw [h, wayN_nil, wayN_nil, List.take_nil]
    · rw [wayN_cons hs m h, wayN_cons hs _ h, List.take_succ_cons, wayN_take hs m j]
theorem wayN_stop {hs : List Nat} : ∀ {n k m}, upN hs n k = 0 → n ≤ m → wayN hs m k = wayN hs n k
  | 0, k, m, h, _ => by
    have e : k = 0 := h
    rw [e, wayN_nil, wayN_nil]
  | n + 1, k, 0, _, h2 => absurd h2 (by omega)
  | n + 1, k, m + 1, h, h2 => by
    by_cases h0 : k = 0
    · rw [h0, wayN_nil, wayN_nil]
    · rw [wayN_cons hs m h0, wayN_cons hs n h0, wayN_stop (n := n) (k := up hs k) (m := m) h (by omega)]
theorem way_take {hs : List Nat} (t : IsTree hs) {k : Nat} (hk : k ≤ hs.length) (d : Nat) : (way hs k).take d = wayN hs d k := by
  unfold way
  rw [wayN_take]
  by_cases h : d ≤ hs.length
  · rw [Nat.min_eq_left h]
  · rw [Nat.min_eq_right (by omega), wayN_stop (n := hs.length) (m := d) (t.comes k hk) (by omega)]
theorem no_ring {hs : List Nat} (t : IsTree hs) {k m : Nat} (hk : k ≤ hs.length) (h0 : k ≠ 0) (hm : 1 ≤ m) : upN hs m k ≠ k := by
  intro e
  have go : ∀ i, upN hs (i * m) k = k := fun i => by
    induction i with
    | zero =>
      rw [Nat.zero_mul]
      rfl
    | succ i ih => rw [Nat.add_mul, Nat.one_mul, upN_add, ih, e]
  have h1 := go hs.length
  have h2 : upN hs (hs.length * m) k = 0 := upN_more (t.comes k hk) (Nat.le_mul_of_pos_right _ hm)
  rw [h2] at h1
  exact h0 h1.symm
def lev (hs : List Nat) (p : Nat) : Nat → List Nat
  | 0 => [p]
  | i + 1 => (lev hs p i).flatMap (kids hs)
def withUp (hs : List Nat) (bs : List Nat) : List (Nat × Nat) := bs.map fun b => (b, up hs b)
def acc (hs : List Nat) (p : Nat) : Nat → List Nat
  | 0 => []
  | i + 1 => acc hs p i ++ lev hs p (i + 1)
theorem kids_mem {hs : List Nat} {b p : Nat} : b ∈ kids hs p ↔ 1 ≤ b ∧ b ≤ hs.length ∧ up hs b = p := by
  unfold kids
  rw [List.mem_filter, List.mem_range'_1, decide_eq_true_eq]
  omega
theorem kids_nodup (hs : List Nat) (p : Nat) : (kids hs p).Nodup := List.Pairwise.filter _ List.nodup_range'
theorem lev_mem {hs : List Nat} {p : Nat} (t : IsTree hs) (hp : p ≤ hs.length) : ∀ i b, b ∈ lev hs p i ↔ b ≤ hs.length ∧ upN hs i b = p ∧ ∀ j, j < i → upN hs j b ≠ 0
  | 0, b => by
    show b ∈ [p] ↔ _
    rw [List.mem_singleton]
    constructor
    · rintro rfl
      exact ⟨hp, rfl, fun j h => absurd h (by omega)⟩
    · exact fun h => h.2.1
  | i + 1, b => by
    show b ∈ (lev hs p i).flatMap (kids hs) ↔ _
    rw [List.mem_flatMap]
    constructor
    · rintro ⟨a, ha, hb⟩
      obtain ⟨b1, b2, rfl⟩ := kids_mem.mp hb
      obtain ⟨_, e, nz⟩ := (lev_mem t hp i _).mp ha
      refine ⟨b2, e, fun j hj => ?_⟩
      cases j with
      | zero =>
        show b ≠ 0
        omega
      | succ j => exact nz j (by omega)
    · rintro ⟨h1, h2, h3⟩
      have b0 : b ≠ 0 := h3 0 (by omega)
      exact ⟨up hs b, (lev_mem t hp i _).mpr ⟨up_le t.le b, h2, fun j hj => h3 (j + 1) (by omega)⟩, kids_mem.mpr ⟨by omega, h1, rfl⟩⟩
theorem lev_nodup {hs : List Nat} {p : Nat} : ∀ i, (lev hs p i).Nodup
  | 0 => List.pairwise_singleton _ _
  | i + 1 => by
    show ((lev hs p i).flatMap (kids hs)).Nodup
    refine List.pairwise_flatMap.mpr ⟨fun a _ => kids_nodup hs a, (lev_nodup i).imp fun {a b} hab x hx y hy e => hab ?_⟩
    subst e
    exact (kids_mem.mp hx).2.2.symm.trans (kids_mem.mp hy).2.2
theorem acc_mem {hs : List Nat} {p : Nat} (t : IsTree hs) (hp : p ≤ hs.length) : ∀ d b, b ∈ acc hs p d ↔ b ≤ hs.length ∧ p ∈ wayN hs d b
  | 0, b => by
    show b ∈ [] ↔ _ ∧ p ∈ []
    simp
  | d + 1, b => by
    show b ∈ acc hs p d ++ lev hs p (d + 1) ↔ _
    rw [List.mem_append, acc_mem t hp d, lev_mem t hp, way_mem, way_mem]
    constructor
    · rintro (⟨h1, j, h2, h3, h4⟩ | ⟨h1, h2, h3⟩)
      · exact ⟨h1, j, by omega, h3, h4⟩
      · exact ⟨h1, d, by omega, h3 d (by omega), h2⟩
    · rintro ⟨h1, j, h2, h3, h4⟩
      by_cases e : j < d
      · exact .inl ⟨h1, j, e, h3, h4⟩
      · have e2 : j = d := by omega
        subst e2
        exact .inr ⟨h1, h4, fun i hi z => h3 (upN_more z (by omega))⟩
theorem acc_nodup {hs : List Nat} {p : Nat} (t : IsTree hs) (hp : p ≤ hs.length) : ∀ d, (acc hs p d).Nodup
  | 0 => List.Pairwise.nil
  | d + 1 => by
    show (acc hs p d ++ lev hs p (d + 1)).Nodup
    refine List.nodup_append.mpr ⟨acc_nodup t hp d, lev_nodup _, fun x hx y hy e => ?_⟩
    subst e
    obtain ⟨h1, hw⟩ := (acc_mem t hp d x).mp hx
    obtain ⟨j, h2, h3, h4⟩ := (way_mem _ _ _ _).mp hw
    obtain ⟨_, e, nz⟩ := (lev_mem t hp _ x).mp hy
    have p0 : p ≠ 0 := by
      rw [← h4]
      exact nz (j + 1) (by omega)
    refine no_ring t (m := d - j) hp p0 (by omega) ?_
    have e2 : upN hs (d + 1) x = upN hs (d - j) (upN hs (j + 1) x) := by
      rw [← upN_add, show j + 1 + (d - j) = d + 1 by omega]
    rw [h4, e] at e2
    exact e2.symm
def near (hs : List Nat) (d p : Nat) : List Nat := (List.range' 1 hs.length).filter fun b => decide (p ∈ wayN hs d b)
def tiesN (hs : List Nat) (d p : Nat) : List (Nat × Nat) := withUp hs (near hs d p)
theorem near_mem {hs : List Nat} {d p b : Nat} : b ∈ near hs d p ↔ b ≤ hs.length ∧ p ∈ wayN hs d b := by
  unfold near
  rw [List.mem_filter, List.mem_range'_1, decide_eq_true_eq]
  constructor
  · rintro ⟨h1, h2⟩
    exact ⟨by omega, h2⟩
  · rintro ⟨h1, h2⟩
    refine ⟨⟨Nat.one_le_iff_ne_zero.mpr fun e => ?_, by omega⟩, h2⟩
    rw [e, wayN_nil] at h2
    cases h2
theorem acc_perm {hs : List Nat} {p : Nat} (t : IsTree hs) (hp : p ≤ hs.length) (d : Nat) : (acc hs p d).Perm (near hs d p) := by
  refine (List.perm_ext_iff_of_nodup (acc_nodup t hp d) (List.Pairwise.filter _ List.nodup_range')).mpr fun b => ?_
  rw [acc_mem t hp]
  exact near_mem.symm
theorem near_len (hs : List Nat) (d p : Nat) : (near hs d p).length ≤ hs.length := filter_len _ _
theorem acc_len {hs : List Nat} {p : Nat} (t : IsTree hs) (hp : p ≤ hs.length) (d : Nat) : (acc hs p d).length ≤ hs.length := by
  rw [(acc_perm t hp d).length_eq]
  exact near_len hs d p
theorem lev_len {hs : List Nat} {p : Nat} (t : IsTree hs) (hp : p ≤ hs.length) (i : Nat) : (lev hs p i).length ≤ hs.length := by
  cases i with
  | zero =>
    show 1 ≤ _
    exact t.pos
  | succ i =>
    have h := acc_len t hp (i + 1)
    have e : acc hs p (i + 1) = acc hs p i ++ lev hs p (i + 1) := rfl
    rw [e, List.length_append] at h
    omega
theorem next_ties (hs : List Nat) (p i : Nat) : ((lev hs p i).flatMap fun a => (kids hs a).map fun b => (b, a)) = withUp hs (lev hs p (i + 1)) := by
  show _ = ((lev hs p i).flatMap (kids hs)).map _
  rw [List.map_flatMap]
  congr 1
  funext a
  refine List.map_congr_left fun b hb => ?_
  rw [(kids_mem.mp hb).2.2]
def ltPr (x y : Nat × Nat) : Prop := x.1 < y.1 ∨ (x.1 = y.1 ∧ x.2 < y.2)
theorem ties_sorted {hs : List Nat} {p d : Nat} {ys : List (Nat × Nat)} (t : IsTree hs) (hp : p ≤ hs.length) (h1 : ys.Perm (withUp hs (acc hs p d))) (h2 : ys.Pairwise fun x y => ¬ ltPr y x) : ys = tiesN hs d p := by
  refine (h1.trans ((acc_perm t hp d).map _)).eq_of_pairwise (le := fun x y => ¬ ltPr y x) (fun a b _ _ k1 k2 => ?_) h2 ?_
  · unfold ltPr at k1 k2
    refine Prod.ext ?_ ?_ <;> omega
  · show ((near hs d p).map fun b => (b, up hs b)).Pairwise _
    unfold near
    rw [List.pairwise_map]
    refine List.Pairwise.filter _ ((List.pairwise_lt_range' (s := 1) (n := hs.length)).imp fun {a b} hab => ?_)
    unfold ltPr
    show ¬ (b < a ∨ _ ∧ _)
    omega
def telD (hs gs : List Nat) (u d p : Nat) : Bool := decide (wayN hs u p = wayN gs u p) && decide (tiesN hs d p = tiesN gs d p)
def unlikeN (hs gs : List Nat) (u d : Nat) : List Nat := (List.range (hs.length + 1)).filter fun p => !telD hs gs u d p
end Fv
set_option maxRecDepth 100000
set_option maxHeartbeats 1000000
namespace Fv
open PySem PySem.Spec PyProof.Rows L2
theorem lc2_list {K : PySem.W.Frag} {a : Addr} {xs : List V} {g : TG} {tt : TT} {vs : List Nat} {σ : L2.St} {H0 : Hp} {Qd : Hp → Prop} {Bd : L2.St → Hp → (Hp → Prop) → Prop} (Pv : Nat → Hp → Prop) (h0 : Pv 0 H0) (hl : ∀ i H, i ≤ xs.length → Pv i H → SqL K H a xs)
    (hs : ∀ i x H, xs[i]? = some x → Pv i H → g x (wipe σ vs) H fun σ2 H2 => wipe σ2 vs = wipe σ vs ∧ tt σ2 H2 fun b H3 => if b = true then Bd σ2 H3 (Pv (i + 1)) else Pv (i + 1) H3) (hd : ∀ H, Pv xs.length H → Qd H) :
    ∃ W : Nat → Nat → Hp → Prop, (∃ m, W 0 m H0) ∧ ∀ i m H, W i m H →
      ((Itl K a).stop i H ∧ Qd H) ∨ ((Itl K a).go i H ∧ ∃ Nx : Hp → Prop, (∀ H', Nx H' → ∃ m', m' < m ∧ W (i + 1) m' H') ∧ ∀ x H', (Itl K a).yld i H x H' → g x (wipe σ vs) H' fun σ2 H2 => wipe σ2 vs = wipe σ vs ∧ tt σ2 H2 fun b H3 =>
        if b = true then Bd σ2 H3 Nx else Nx H3) := by
  refine ⟨fun i m H => m = xs.length - i ∧ i ≤ xs.length ∧ Pv i H, ⟨xs.length, by simp, Nat.zero_le _, h0⟩, ?_⟩
  rintro i m H ⟨rfl, hi, p⟩
  have q := hl i H hi p
  by_cases hlt : i < xs.length
  · refine .inr ⟨⟨xs, xs[i], q, by simp [hlt]⟩, Pv (i + 1), fun H' p' => ⟨xs.length - (i + 1), by omega, rfl, hlt, p'⟩, fun x H' y => ?_⟩
    obtain ⟨e, y⟩ := y
    subst e
    exact hs i x _ (y xs q) p
  · have e : i = xs.length := by omega
    subst e
    exact .inl ⟨⟨xs, q, Nat.le_refl _⟩, hd H p⟩
theorem lc2_tup {K : PySem.W.Frag} {a : Addr} {xs : List V} {g : TG} {tt : TT} {vs : List Nat} {σ : L2.St} {H0 : Hp} {Qd : Hp → Prop} {Bd : L2.St → Hp → (Hp → Prop) → Prop} (Pv : Nat → Hp → Prop) (h0 : Pv 0 H0) (hl : ∀ i H, i ≤ xs.length → Pv i H → SqT K H a xs)
    (hs : ∀ i x H, xs[i]? = some x → Pv i H → g x (wipe σ vs) H fun σ2 H2 => wipe σ2 vs = wipe σ vs ∧ tt σ2 H2 fun b H3 => if b = true then Bd σ2 H3 (Pv (i + 1)) else Pv (i + 1) H3) (hd : ∀ H, Pv xs.length H → Qd H) :
    ∃ W : Nat → Nat → Hp → Prop, (∃ m, W 0 m H0) ∧ ∀ i m H, W i m H →
      ((Itt K a).stop i H ∧ Qd H) ∨ ((Itt K a).go i H ∧ ∃ Nx : Hp → Prop, (∀ H', Nx H' → ∃ m', m' < m ∧ W (i + 1) m' H') ∧ ∀ x H', (Itt K a).yld i H x H' → g x (wipe σ vs) H' fun σ2 H2 => wipe σ2 vs = wipe σ vs ∧ tt σ2 H2 fun b H3 =>
        if b = true then Bd σ2 H3 Nx else Nx H3) := by
  refine ⟨fun i m H => m = xs.length - i ∧ i ≤ xs.length ∧ Pv i H, ⟨xs.length, by simp, Nat.zero_le _, h0⟩, ?_⟩
  rintro i m H ⟨rfl, hi, p⟩
  have q := hl i H hi p
  by_cases hlt : i < xs.length
  · refine .inr ⟨⟨xs, xs[i], q, by simp [hlt]⟩, Pv (i + 1), fun H' p' => ⟨xs.length - (i + 1), by omega, rfl, hlt, p'⟩, fun x H' y => ?_⟩
    obtain ⟨e, y⟩ := y
    subst e
    exact hs i x _ (y xs q) p
  · have e : i = xs.length := by omega
    subst e
    exact .inl ⟨⟨xs, q, Nat.le_refl _⟩, hd H p⟩
def PrV (H : Hp) (v : V) (x : Nat × Nat) : Prop := ∃ t, v = .ref t ∧ H t = some (.tup [.int (x.1 : Nat), .int (x.2 : Nat)])
def PrsV (H : Hp) : List V → List (Nat × Nat) → Prop
  | [], [] => True
  | v :: vs, x :: xs => PrV H v x ∧ PrsV H vs xs
  | [], _ :: _ => False
  | _ :: _, [] => False
theorem PrV.same {H H' : Hp} {v : V} {x : Nat × Nat} (s : Same H H') (h : PrV H v x) : PrV H' v x := by
  obtain ⟨t, e, h⟩ := h
  exact ⟨t, e, s _ _ h⟩
theorem PrV.mut {H : Hp} {v : V} {x : Nat × Nat} {q : Addr} {ys : List V} {o : HO} (hq : H q = some (.lst ys)) (h : PrV H v x) : PrV (upd H q o) v x := by
  obtain ⟨t, e, h⟩ := h
  refine ⟨t, e, keepM (fun z => ?_) h⟩
  rw [z, hq] at h
  cases h
theorem PrsV.imp {H H' : Hp} (f : ∀ v x, PrV H v x → PrV H' v x) : ∀ {vs : List V} {xs : List (Nat × Nat)}, PrsV H vs xs → PrsV H' vs xs
  | [], [], _ => True.intro
  | _ :: _, _ :: _, h => ⟨f _ _ h.1, PrsV.imp f h.2⟩
  | [], _ :: _, h => h.elim
  | _ :: _, [], h => h.elim
theorem PrsV.same {H H' : Hp} {vs : List V} {xs : List (Nat × Nat)} (s : Same H H') (h : PrsV H vs xs) : PrsV H' vs xs := h.imp fun _ _ k => k.same s
theorem PrsV.mut {H : Hp} {vs : List V} {xs : List (Nat × Nat)} {q : Addr} {ys : List V} {o : HO} (hq : H q = some (.lst ys)) (h : PrsV H vs xs) : PrsV (upd H q o) vs xs := h.imp fun _ _ k => k.mut hq
theorem PrsV.app {H : Hp} : ∀ {vs ws : List V} {xs ys : List (Nat × Nat)}, PrsV H vs xs → PrsV H ws ys → PrsV H (vs ++ ws) (xs ++ ys)
  | [], _, [], _, _, h => h
  | _ :: _, _, _ :: _, _, h, k => ⟨h.1, PrsV.app h.2 k⟩
  | [], _, _ :: _, _, h, _ => h.elim
  | _ :: _, _, [], _, h, _ => h.elim
theorem PrsV.len {H : Hp} : ∀ {vs : List V} {xs : List (Nat × Nat)}, PrsV H vs xs → vs.length = xs.length
  | [], [], _ => rfl
  | _ :: _, _ :: _, h => congrArg (· + 1) (PrsV.len h.2)
  | [], _ :: _, h => h.elim
  | _ :: _, [], h => h.elim
theorem PrsV.at {H : Hp} : ∀ {vs : List V} {xs : List (Nat × Nat)} {i : Nat} {v : V}, PrsV H vs xs → vs[i]? = some v → ∃ x, xs[i]? = some x ∧ PrV H v x
  | [], [], _, _, _, h => by cases h
  | _ :: _, x :: _, 0, _, h, e => by
    have e' := Option.some.inj e
    subst e'
    exact ⟨x, rfl, h.1⟩
  | _ :: _, _ :: _, i + 1, _, h, e => PrsV.at (i := i) h.2 e
  | [], _ :: _, _, _, h, _ => h.elim
  | _ :: _, [], _, _, h, _ => h.elim
def keyOf (H : Hp) (v : V) : Int × Int := match v with
  | .ref t => match H t with
    | some (.tup [.int a, .int b]) => (a, b)
    | _ => (0, 0)
  | _ => (0, 0)
def natsOf (H : Hp) (v : V) : Nat × Nat := ((keyOf H v).1.toNat, (keyOf H v).2.toNat)
theorem PrV.key {H : Hp} {v : V} {x : Nat × Nat} (h : PrV H v x) : keyOf H v = ((x.1 : Int), (x.2 : Int)) := by
  obtain ⟨t, rfl, h⟩ := h
  unfold keyOf
  dsimp only
  rw [h]
theorem PrV.nats {H : Hp} {v : V} {x : Nat × Nat} (h : PrV H v x) : natsOf H v = x := by
  unfold natsOf
  rw [h.key]
  rfl
theorem PrsV.nats {H : Hp} : ∀ {vs : List V} {xs : List (Nat × Nat)}, PrsV H vs xs → vs.map (natsOf H) = xs
  | [], [], _ => rfl
  | v :: vs, x :: xs, h => by rw [List.map_cons, h.1.nats, PrsV.nats h.2]
  | [], _ :: _, h => h.elim
  | _ :: _, [], h => h.elim
theorem PrsV.of {H : Hp} : ∀ {vs : List V}, (∀ v ∈ vs, ∃ x, PrV H v x) → PrsV H vs (vs.map (natsOf H))
  | [], _ => True.intro
  | v :: vs, h => by
    obtain ⟨x, hx⟩ := h v List.mem_cons_self
    exact ⟨by rw [hx.nats]; exact hx, PrsV.of fun w hw => h w (List.mem_cons_of_mem _ hw)⟩
theorem PrsV.all {H : Hp} {vs : List V} {xs : List (Nat × Nat)} (h : PrsV H vs xs) {v : V} (hv : v ∈ vs) : ∃ x, PrV H v x := by
  obtain ⟨i, hi, e⟩ := List.getElem_of_mem hv
  obtain ⟨x, _, hx⟩ := h.at (i := i) (v := v) (by rw [List.getElem?_eq_getElem hi, e])
  exact ⟨x, hx⟩
theorem cr_sortedPO' {X : Cx} {K : PySem.W.Frag} (e : X.K = K) : CallR X (.builtin "sorted") (rSortedPO K) := by
  subst e
  exact cr_sortedPO
theorem x_sortP {K : PySem.W.Frag} {H : Hp} {Q : VK} {a : Addr} {hs : List Nat} {d k : Nat} {vs : List V} (t : IsTree hs) (hk : k ≤ hs.length) (h : SqL K H a vs) (hp : PrsV H vs (withUp hs (acc hs k d))) (q : ∀ ys p, PrsV H ys (tiesN hs d k) → H p = none → Q (.ref p) (upd H p (.lst ys))) : rSortedPO K [.ref a] H Q := by
  refine ⟨a, vs, keyOf H, rfl, h, fun v hv => ?_, fun ys p hs1 hs2 hn => ?_⟩
  · obtain ⟨x, hx⟩ := hp.all hv
    obtain ⟨t, e1, e2⟩ := id hx
    refine ⟨t, e1, ?_⟩
    rw [hx.key]
    exact e2
  · have pm := hs2.perm
    have hy : PrsV H ys (ys.map (natsOf H)) := PrsV.of fun v hv => hp.all (pm.mem_iff.mp hv)
    refine q ys p ?_ hn
    have e : ys.map (natsOf H) = tiesN hs d k := by
      refine ties_sorted t hk ?_ ?_
      · rw [← hp.nats]
        exact pm.map _
      · rw [List.pairwise_map]
        refine (List.Pairwise.and_mem.mp hs1).imp fun {x y} hxy => ?_
        obtain ⟨m1, m2, lt⟩ := hxy
        obtain ⟨a1, ha⟩ := hp.all (pm.mem_iff.mp m1)
        obtain ⟨b1, hb⟩ := hp.all (pm.mem_iff.mp m2)
        rw [ha.nats, hb.nats]
        have lt : SrtO.lexB (keyOf H y) (keyOf H x) = false := lt
        rw [ha.key, hb.key] at lt
        unfold ltPr
        intro z
        refine Bool.false_ne_true (lt.symm.trans (SrtO.lexB_iff.mpr ?_))
        show ((b1.1 : Nat) : Int) < ((a1.1 : Nat) : Int) ∨ ((b1.1 : Nat) : Int) = ((a1.1 : Nat) : Int) ∧ ((b1.2 : Nat) : Int) < ((a1.2 : Nat) : Int)
        omega
    rw [← e]
    exact hy
end Fv
set_option maxRecDepth 100000
set_option maxHeartbeats 1000000
namespace Fv
open PySem PySem.Spec PyProof.Rows L2
def pD (x : Nat × Nat) : PyData := .tuple [.int (Int.ofNat x.1), .int (Int.ofNat x.2)]
def pds (ts : List (Nat × Nat)) : List PyData := ts.map pD
theorem pds_lay : ∀ l, PyData.canLayAll0 (pds l) = true
  | [] => rfl
  | a :: l => by
    show (PyData.canLay0 (pD a) && PyData.canLayAll0 (pds l)) = true
    rw [pds_lay l]
    rfl
theorem pds_depth : ∀ l, PyData.depthAll (pds l) ≤ 1
  | [] => Nat.zero_le _
  | a :: l => by
    show max (PyData.depth (pD a)) (PyData.depthAll (pds l)) ≤ 1
    have e : PyData.depth (pD a) = 1 := rfl
    rw [e]
    have := pds_depth l
    omega
theorem pD_eqv (a b : Nat × Nat) : PyData.eqv (pD a) (pD b) = decide (a = b) := by
  show PyData.eqv (.tuple [.int (Int.ofNat a.1), .int (Int.ofNat a.2)]) (.tuple [.int (Int.ofNat b.1), .int (Int.ofNat b.2)]) = _
  obtain ⟨a1, a2⟩ := a
  obtain ⟨b1, b2⟩ := b
  rw [PyData.eqv, PyData.eqvAll, PyData.eqvAll, PyData.eqvAll, PyData.eqv, PyData.eqv, Bool.eq_iff_iff]
  simp
  omega
theorem pds_eqv : ∀ l m, PyData.eqvAll (pds l) (pds m) = decide (l = m)
  | [], [] => by simp [pds, PyData.eqvAll]
  | [], _ :: _ => by simp [pds, PyData.eqvAll]
  | _ :: _, [] => by simp [pds, PyData.eqvAll]
  | a :: l, b :: m => by
    show PyData.eqvAll (pD a :: pds l) (pD b :: pds m) = _
    rw [PyData.eqvAll, pds_eqv l m, pD_eqv, Bool.eq_iff_iff]
    simp
def telPD (r : List Nat) (ts : List (Nat × Nat)) : PyData := .tuple [.tuple (dn r), .tuple (pds ts)]
theorem telPD_shaped (r : List Nat) (ts : List (Nat × Nat)) : SeqAt.shaped (telPD r ts) = true := by
  show (PyData.canLayAll0 [.tuple (dn r), .tuple (pds ts)] && decide (PyData.depthAll [.tuple (dn r), .tuple (pds ts)] + 1 ≤ 64)) = true
  have e1 : PyData.canLayAll0 [.tuple (dn r), .tuple (pds ts)] = true := by
    show (PyData.canLayAll0 (dn r) && (PyData.canLayAll0 (pds ts) && true)) = true
    rw [dn_lay, pds_lay]
    rfl
  have e2 : PyData.depthAll [.tuple (dn r), .tuple (pds ts)] + 1 ≤ 64 := by
    show max (PyData.depthAll (dn r) + 1) (max (PyData.depthAll (pds ts) + 1) 0) + 1 ≤ 64
    have := pds_depth ts
    rw [dn_depth]
    omega
  rw [e1, decide_eq_true e2]
  rfl
theorem telPD_eqv (r r' : List Nat) (ts ts' : List (Nat × Nat)) : PyData.eqv (telPD r ts) (telPD r' ts') = (decide (r = r') && decide (ts = ts')) := by
  show PyData.eqv (.tuple [.tuple (dn r), .tuple (pds ts)]) (.tuple [.tuple (dn r'), .tuple (pds ts')]) = _
  rw [PyData.eqv, PyData.eqvAll, PyData.eqvAll, PyData.eqvAll, PyData.eqv, PyData.eqv, dn_eqv, pds_eqv]
  simp
def TelAt (H : Hp) (v : V) (r : List Nat) (ts : List (Nat × Nat)) : Prop := ∃ (a b c : Addr) (vs : List V), v = .ref a ∧ H a = some (.tup [.ref b, .ref c]) ∧ H b = some (.tup (nats r)) ∧ H c = some (.tup vs) ∧ PrsV H vs ts
theorem TelAt.same {H H' : Hp} {v : V} {r : List Nat} {ts : List (Nat × Nat)} (s : Same H H') (h : TelAt H v r ts) : TelAt H' v r ts := by
  obtain ⟨a, b, c, vs, e, h1, h2, h3, h4⟩ := h
  exact ⟨a, b, c, vs, e, s _ _ h1, s _ _ h2, s _ _ h3, h4.same s⟩
section
variable {K : PySem.W.Frag} {H : Hp} {Q : VK}
theorem PrsV.dp : ∀ {vs : List V} {ts : List (Nat × Nat)}, PrsV H vs ts → DpAll K H vs (pds ts)
  | [], [], _ => .nil
  | v :: vs, x :: xs, h => by
    obtain ⟨t, e, ht⟩ := h.1
    subst e
    exact .cons (.tup (.of ht) (.cons (.int _) (.cons (.int _) .nil))) (PrsV.dp h.2)
  | [], _ :: _, h => h.elim
  | _ :: _, [], h => h.elim
theorem TelAt.dp {v : V} {r : List Nat} {ts : List (Nat × Nat)} (h : TelAt H v r ts) : Dp K H v (telPD r ts) := by
  obtain ⟨a, b, c, vs, e, h1, h2, h3, h4⟩ := h
  subst e
  exact .tup (.of h1) (.cons (.tup (.of h2) (dpAll_nats r)) (.cons (.tup (.of h3) h4.dp) .nil))
theorem x_neTel {x y : V} {r r' : List Nat} {ts ts' : List (Nat × Nat)} (h1 : TelAt H x r ts) (h2 : TelAt H y r' ts') (q : Q (.bl (!(decide (r = r') && decide (ts = ts')))) H) : rNeD K x y H Q := by
  refine ⟨telPD r ts, telPD r' ts', h1.dp, h2.dp, telPD_shaped _ _, telPD_shaped _ _, ?_⟩
  rw [telPD_eqv]
  exact q
end
end Fv
set_option maxRecDepth 100000
set_option maxHeartbeats 1000000
namespace Fv
open PySem PySem.Spec PyProof.Rows L2
def rRng1 : List V → Hp → VK → Prop := fun vs H Q => ∃ j : Int, vs = [V.int j] ∧ ∀ p, H p = none → Q (.ref p) (upd H p (.rng 0 j))
theorem call_rng1 {X : Cx} : CallR X (.type "range") rRng1 := by
  intro pins s σ H vs us Q I r h
  obtain ⟨j, rfl, q⟩ := h
  obtain ⟨u1, rfl, ri⟩ := vals1 r
  obtain ⟨t, rfl⟩ := ri
  refine call_range_1 ⟨.ref s.heap.objs.size, upd H s.heap.objs.size (.rng 0 j), I.laid (fun b o e => Heap.get?_push_of_some _ e) (Nat.le_refl _) ?_, rfl, q _ (I.hok.fresh (Nat.le_refl _))⟩
  exact ⟨_, _, _, Heap.get?_push_size _ rfl⟩
theorem pi_tupK {X : Cx} {K : PySem.W.Frag} {tg e : Expr} {te : TE} (eK : X.K = K) (he : PE X e te) : PI X tg e (iTup K te) := by
  subst eK
  exact pi_tup he
theorem nats_take (l : List Nat) (n : Nat) : (nats l).take n = nats (l.take n) := by
  unfold nats
  rw [List.map_take]
section
variable {K : PySem.W.Frag} {H : Hp} {Q : VK} {l b p : Addr} {xs zs : List V}
theorem x_rngA1 {j : Int} (q : ∀ p, H p = none → Q (.ref p) (upd H p (.rng 0 j))) : rRng1 [.int j] H Q := ⟨j, rfl, q⟩
theorem x_extend (h1 : H l = some (.lst xs)) (h2 : H b = some (.lst zs)) (hz : xs.length + zs.length ≤ 10000) (q : Q .non (upd H l (.lst (xs ++ zs)))) : rExtend (.ref l) [.ref b] H Q := ⟨l, b, xs, zs, rfl, rfl, h1, h2, szLe (by omega), q⟩
theorem range0_snoc (g : Nat → Bool) (n : Nat) : (List.range (n + 1)).filter g = (List.range n).filter g ++ if g n = true then [n] else [] := by
  rw [List.range_succ, List.filter_append]
  congr 1
  by_cases h : g n = true
  · rw [if_pos h, List.filter_cons_of_pos h]
    rfl
  · rw [if_neg h, List.filter_cons_of_neg h]
    rfl
end
end Fv
set_option maxRecDepth 100000
set_option maxHeartbeats 1000000
namespace Fv
open PySem PySem.Spec PyProof.Rows L2
end Fv
set_option maxRecDepth 100000
set_option maxHeartbeats 1000000
namespace Fv
open PySem PySem.Spec PyProof.Rows L2
section
variable {K : PySem.W.Frag} {H : Hp} {Q : VK} {a : Addr} {l : List Nat} {k : Nat}
end
end Fv
namespace Fv
def dist (u d : Nat) : Nat := (if 0 < d then d + 1 else 0) + if 0 < u then 1 else 0
def twin (n d y : Nat) : List Nat := List.range (d + 1) ++ y :: List.replicate (n - d - 2) 0
theorem twin_len {n d y : Nat} (h : d + 2 ≤ n) : (twin n d y).length = n := by
  unfold twin
  rw [List.length_append, List.length_range, List.length_cons, List.length_replicate]
  omega
theorem twin_up {n d y : Nat} (h : d + 2 ≤ n) (k : Nat) : up (twin n d y) k = if k ≤ d + 1 then k - 1 else if k = d + 2 then y else 0 := by
  by_cases h0 : k = 0
  · subst h0
    rw [if_pos (by omega)]
    rfl
  · unfold up
    rw [if_neg h0, List.getD_eq_getElem?_getD]
    unfold twin
    by_cases h1 : k ≤ d + 1
    · rw [if_pos h1, List.getElem?_append_left (by rw [List.length_range]; omega), List.getElem?_range (by omega)]
      rfl
    · rw [if_neg h1, List.getElem?_append_right (by rw [List.length_range]; omega), List.length_range]
      by_cases h2 : k = d + 2
      · subst h2
        rw [if_pos rfl, show d + 2 - 1 - (d + 1) = 0 by omega]
        rfl
      · rw [if_neg h2, show k - 1 - (d + 1) = (k - d - 3) + 1 by omega, List.getElem?_cons_succ, List.getElem?_replicate]
        split <;> rfl
theorem twin_row {n d y : Nat} (h : d + 2 ≤ n) {k : Nat} (hk : k ≤ d + 1) : ∀ j, upN (twin n d y) j k = k - j
  | 0 => rfl
  | j + 1 => by rw [upN_succ, twin_row h hk j, twin_up h, if_pos (by omega)]; omega
theorem twin_last {n d y : Nat} (h : d + 2 ≤ n) (hy : y ≤ d + 1) (j : Nat) : upN (twin n d y) (j + 1) (d + 2) = y - j := by
  show upN (twin n d y) j (up (twin n d y) (d + 2)) = _
  rw [twin_up h, if_neg (by omega), if_pos rfl, twin_row h hy]
theorem twin_rest {n d y k : Nat} (h : d + 2 ≤ n) (hk : d + 2 < k) : up (twin n d y) k = 0 := by
  rw [twin_up h, if_neg (by omega), if_neg (by omega)]
theorem twin_tree {n d y : Nat} (h : d + 2 ≤ n) (hn : n ≤ 40) (hy : y ≤ d + 1) : IsTree (twin n d y) := by
  have hle : ∀ x ∈ twin n d y, x ≤ (twin n d y).length := fun x hx => by
    rw [twin_len h]
    unfold twin at hx
    rcases List.mem_append.mp hx with hx | hx
    · rw [List.mem_range] at hx
      omega
    · rcases List.mem_cons.mp hx with rfl | hx
      · omega
      · rw [(List.mem_replicate.mp hx).2]
        exact Nat.zero_le _
  refine ⟨by rw [twin_len h]; omega, by rw [twin_len h]; exact hn, hle, fun k hk => ?_⟩
  by_cases h1 : k ≤ d + 1
  · exact comes_by (j := k) hle hk (by rw [twin_row h h1]; omega)
  · by_cases h2 : k = d + 2
    · subst h2
      exact comes_by (j := d + 1 + 1) hle hk (by rw [twin_last h hy]; omega)
    · exact comes_by (j := 1) hle hk (twin_rest h (by omega))
end Fv
set_option maxRecDepth 100000
set_option maxHeartbeats 4000000
namespace Fv
open PySem PySem.Spec PyProof.Rows L2
theorem tuple_mulW1 (l : Addr) (items : Array Value) (n : Nat) (dd : Option Addr) (sl : Array (Option Value)) (u : Tok) :
    Meets (Builtin.«tuple.__mul__» ⟨[.ref l, .int 1 u], []⟩) (fun _ R s => s.heap.get? l = some { cls := .type "tuple", dict := dd, data := .seq items n, slots := sl } ∧ R (.ok (.ret (Value.ref l))) s) :=
  .of_wp fun prog w A R s h => by
    obtain ⟨hp, g, d, tk, os⟩ := s
    obtain ⟨hl, h⟩ := h
    have f1 := AutoSeq1.idx_int
    have c1 : (items.isEmpty || (1 : Int) == 1) = true := by rw [Bool.or_eq_true]; exact .inr rfl
    wp_walk using wpAny_loadPart' hl
    repeat (first
      | (refine wpAny_ite_true (decide_eq_true c1) ?_; wp_walk using wpAny_loadPart' hl)
      | (refine wpAny_ite_false (by decide) ?_; wp_walk using wpAny_loadPart' hl))
    exact ⟨_, rfl, h⟩
theorem tuple_mulW0 (l : Addr) (items : Array Value) (n : Nat) (dd : Option Addr) (sl : Array (Option Value)) (x : Int) (u : Tok) (c0 : (decide (x < -(2 ^ 63)) || decide (x ≥ 2 ^ 63)) = false) (c1 : (items.isEmpty || x == 1) = false) (c2 : (decide (x ≤ 0) || items.isEmpty) = true) :
    Meets (Builtin.«tuple.__mul__» ⟨[.ref l, .int x u], []⟩) (fun _ R s => s.heap.get? l = some { cls := .type "tuple", dict := dd, data := .seq items n, slots := sl } ∧
      R (.ok (.ret (Value.ref s.heap.objs.size))) { s with heap := s.heap.push { cls := Value.type "tuple", data := Data.seq #[] }, toks := s.toks }) :=
  .of_wp fun prog w A R s h => by
    obtain ⟨hp, g, d, tk, os⟩ := s
    obtain ⟨hl, h⟩ := h
    have f1 := AutoSeq1.idx_int
    wp_walk using wpAny_loadPart' hl
    repeat (first
      | (refine wpAny_ite_false (decide_eq_false (by rw [c0]; exact Bool.false_ne_true)) ?_; wp_walk using wpAny_loadPart' hl)
      | (refine wpAny_ite_false (decide_eq_false (by rw [c1]; exact Bool.false_ne_true)) ?_; wp_walk using wpAny_loadPart' hl)
      | (refine wpAny_ite_true (decide_eq_true c2) ?_; wp_walk using wpAny_loadPart' hl)
      | (refine wpAny_ite_false (by decide) ?_; wp_walk using wpAny_loadPart' hl))
    exact ⟨_, rfl, h⟩
def rRepA (K : PySem.W.Frag) : R2 := fun x y H Q => ∃ (l : Addr) (k : Int) (xs : List V), x = .ref l ∧ y = .int k ∧ SqT K H l xs ∧ xs ≠ [] ∧ -1000 ≤ k ∧ k ≤ 1000 ∧ xs.length ≤ 1000 ∧ (k = 1 → Q (.ref l) H) ∧ (k ≤ 0 → ∀ p, H p = none → Q (.ref p) (upd H p (.tup []))) ∧ (2 ≤ k → ∀ p, H p = none → Q (.ref p) (upd H p (.tup (List.replicate k.toNat xs).flatten)))
theorem op_repA {X : Cx} : OpR X (binaryOp .Mult) (rRepA X.K) := by
  intro pins s σ H x y v u Q I rx ry h
  obtain ⟨l, k, xs, rfl, rfl, hT, hne, h1, h2, hz, q1, q0, q2⟩ := h
  by_cases hk : 2 ≤ k
  · exact op_repT pins s σ H _ _ v u Q I rx ry ⟨l, k, xs, rfl, rfl, hT, hne, hk, h2, hz, q2 hk⟩
  cases rx
  obtain ⟨t, rfl⟩ := ry
  obtain ⟨its, r, ⟨⟨cls, dd, data, sl⟩, ho, hc, n, hd⟩, hs⟩ := I.tuple hT
  simp only at hc hd
  subst hc hd
  have hle : its.length = xs.length := r.length.symm
  have hn : its ≠ [] := fun e => hne (by
    rw [e] at hle
    exact List.eq_nil_of_length_eq_zero hle.symm)
  have hi : its.toArray.isEmpty = false := by
    cases its with
    | nil => exact absurd rfl hn
    | cons a b => rfl
  by_cases k1 : k = 1
  · subst k1
    exact wpAny_binaryOp_repeat_ref (T := "tuple") (U := "int") (by decide) ⟨_, ho, rfl⟩ (fun s' => typeIs_int s' 1 t) noFill_tuple_mul F.fills_int_mul F.slot_int_rmul repeat_tuple F.slot_int_index.lookup
      (call_meets F.slot_int_rmul (typeIs_int s 1 t) F.entry_int_rmul (F.args_int_rmul_2 _ _) (int_rmul_tuple 1 t l its.toArray n dd sl)
        ⟨ho, rfl, ⟨_, ho, rfl⟩, call_meets F.slot_tuple_mul ⟨_, ho, rfl⟩ F.entry_tuple_mul (F.args_tuple_mul_2 _ _) (tuple_mulW1 l its.toArray n dd sl t) ⟨ho, .ref l, H, I, rfl, q1 rfl⟩⟩)
  · have c0 : (decide (k < -(2 ^ 63)) || decide (k ≥ 2 ^ 63)) = false := by
      rw [decide_eq_false (by omega), decide_eq_false (by omega)] <;> rfl
    have c1 : (its.toArray.isEmpty || k == 1) = false := by
      rw [hi, Bool.false_or]
      exact beq_eq_false_iff_ne.mpr (by omega)
    have c2 : (decide (k ≤ 0) || its.toArray.isEmpty) = true := by
      rw [decide_eq_true (show k ≤ 0 by omega)]
      rfl
    refine wpAny_binaryOp_repeat_ref (T := "tuple") (U := "int") (by decide) ⟨_, ho, rfl⟩ (fun s' => typeIs_int s' k t) noFill_tuple_mul F.fills_int_mul F.slot_int_rmul repeat_tuple F.slot_int_index.lookup
      (call_meets F.slot_int_rmul (typeIs_int s k t) F.entry_int_rmul (F.args_int_rmul_2 _ _) (int_rmul_tuple k t l its.toArray n dd sl)
        ⟨ho, rfl, ⟨_, ho, rfl⟩, call_meets F.slot_tuple_mul ⟨_, ho, rfl⟩ F.entry_tuple_mul (F.args_tuple_mul_2 _ _) (tuple_mulW0 l its.toArray n dd sl k t c0 c1 c2) ⟨ho, ?_⟩⟩)
    refine ⟨.ref s.heap.objs.size, _, I.laid (t' := s.toks) (o := .tup []) (fun b ob q => Heap.get?_push_of_some _ q) (Nat.le_refl _) ?_, rfl, q0 (by omega) _ (I.hok.fresh (Nat.le_refl _))⟩
    exact ⟨Nat.zero_le _, [], .nil, IsTup.new _ _⟩
theorem op_repAK {X : Cx} {K : PySem.W.Frag} (e : X.K = K) : OpR X (binaryOp .Mult) (rRepA K) := by
  subst e
  exact op_repA
section
variable {K : PySem.W.Frag} {H : Hp} {Q : VK} {a : Addr} {v : V}
theorem x_repA1 {k : Int} (h : H a = some (.tup [v])) (h1 : -1000 ≤ k) (h2 : k ≤ 1000) (q : ∀ p H', Same H H' → H' p = some (.tup (List.replicate k.toNat v)) → Q (.ref p) H') : rRepA K (.ref a) (.int k) H Q := by
  refine ⟨a, k, [v], rfl, rfl, .of h, by simp, h1, h2, (by show 1 ≤ 1000; decide), fun e => ?_, fun e p hp => ?_, fun e p hp => ?_⟩
  · subst e
    exact q a H (Same.refl _) h
  · refine q p _ (same_new (Same.refl _) hp) ?_
    rw [upd_same, show k.toNat = 0 by omega]
    rfl
  · refine q p _ (same_new (Same.refl _) hp) ?_
    rw [upd_same, rep_one]
end
end Fv
set_option maxRecDepth 100000
set_option maxHeartbeats 1000000
namespace PySem
open Sem (wp)
section
variable {prog : Program} {w : World} {A : Around} {E : Value → Shared → Prop} {s : Shared}
end
end PySem
namespace Fv
open PySem PySem.Spec L2
end Fv
namespace Fv
open PySem PySem.Spec L2
end Fv
namespace Fv
end Fv
namespace Fv
def col (ls : List (List (Option Bool))) (b : Nat) : List (Option Bool) := ls.map fun r => (r[b - 1]?).getD none
end Fv
namespace Fv
end Fv
set_option maxRecDepth 100000
set_option maxHeartbeats 1000000
namespace Fv
open PySem PySem.Spec PyProof.Rows L2 RZ
end Fv
set_option maxRecDepth 100000
set_option maxHeartbeats 1000000
namespace Fv
open PySem PySem.Spec PyProof.Rows L2
section
variable {P : Program} {w : World} {K : PySem.W.Frag} {mg : Str → Option Value} {base : Heap} {k : Nat} {f : Addr} {fd : FuncData} {ps : List Str} {sp sp' : Sp}
end
def rIsM (K : PySem.W.Frag) (a : Addr) (cls : Value) (d : Option Addr) : List V → Hp → VK → Prop := fun xs H Q => ∃ (D : Addr) (c : V) (cv : Value) (b : Bool), cls = .ref D ∧ d = none ∧ L2.ExcC K D ∧ xs = [.ref a, c] ∧ (∀ u, RelV c u → u = cv) ∧ PySem.W.kitOne K (.ref D) cv = some b ∧ Q (.bl b) H
theorem call_isM {X : Cx} {K : PySem.W.Frag} {a : Addr} {oe : Obj} {cls : Value} {d : Option Addr} {pn : List (Addr × Obj)} (eK : X.K = K) (hz : Zc cls d oe) (hf : ∃ vs, oe.data = .fields vs) : CallR (X.suite a ((a, oe) :: pn)) (.builtin "isinstance") (rIsM K a cls d) := by
  subst eK
  intro pins s σ H xs us Q I r h
  obtain ⟨D, c, cv, b, rfl, rfl, hC, rfl, hcv, e, q⟩ := h
  exact call_isE hC hz hf pins s σ H _ us Q I r ⟨c, cv, b, rfl, hcv, e, q⟩
theorem mt_indexK {X : Cx} {K : PySem.W.Frag} (e : X.K = K) : MtR X "list.index" (rIndex K) := by
  subst e
  exact mt_index
section
variable {K : PySem.W.Frag} {H : Hp} {Q : VK} {a C dx : Addr} {fs : List (Str × V)}
theorem isi_insTuple (c : IsC K C) (nt : PySem.W.kitOne K (.ref C) (.type "tuple") = some false) (h : H a = some (.ins C dx fs)) (q : Q (.bl false) H) : rIsi K [.ref a, .ty "tuple"] H Q :=
  ⟨.ref a, .ty "tuple", .ref C, .type "tuple", false, rfl, .ty "tuple", .base (.ins h c.cl c.ha c.hn c.ht c.hm), nt, q⟩
end
end Fv
set_option maxRecDepth 100000
set_option maxHeartbeats 1000000
namespace Fv
open PySem PySem.Spec L2 PyProof.Rows
section
variable {X : Cx} {CX : CXT} {k : Nat} {f C : Addr} {fd : FuncData} {ps : List Str} {sp : Sp} {dvs : List V} {ds : List Value} {E : L2.St → XK} {x : Str} {p pos : Pos} {e : Expr} {es : List Expr} {t : TA}
end
end Fv
set_option maxRecDepth 100000
set_option maxHeartbeats 1000000
namespace Fv
open PySem PySem.Spec PyProof.Rows L2 RZ
end Fv
set_option maxRecDepth 100000
set_option maxHeartbeats 1000000
namespace Fv
open PySem PySem.Spec PySem.SeqAt PyProof.Rows L2
section
variable {prog : Program} {w : World} {A : Around} {E : Value → Shared → Prop} {s : Shared}
end
section
variable {X : Cx}
end
section
variable {prog : Program} {w : World} {A : Around} {E : Value → Shared → Prop} {s : Shared}
end
section
variable {H : Hp} {Q : VK} {xs : List V} {kvs : List (Key × V)}
end
end Fv
set_option maxRecDepth 100000
set_option maxHeartbeats 2000000
namespace Fv
open PySem PySem.Spec PyProof.Rows L2
section
variable {X : Cx} {x n : Str} {c : Value} {i : Nat} {body suite : List Stmt} {b₀ : Stmt} {np pos pos' : Pos} {tb : WX → TS} {ts : Addr → Value → Option Addr → TS} {hds : List ExceptHandler}
end
section
variable {X : Cx} {x1 x2 x3 : Str} {c1 c2 c3 : Value} {body suite : List Stmt} {b₀ : Stmt} {n1 n2 n3 tpos pos pos' : Pos} {k : Nat} {tb : WX → TS} {ts : Addr → Value → Option Addr → TS} {hds : List ExceptHandler} {Wout : WX}
end
end Fv
set_option maxRecDepth 100000
set_option maxHeartbeats 1000000
namespace Fv
open PySem PySem.Spec PyProof.Rows L2
theorem pmk_supN {X : Cx} {C fI : Addr} {x : Str} {p pos : Pos} (T : SupC X.prog X.K C fI) (hr : Room 1 X.A) (hg : Gl X x) (hm : X.mg x = some (.ref C)) (hs : X.mg "super" = none) (hdb : (x == ("__debug__" : Str)) = false := by decide) :
    L2N.PMk X (.Call (.Name x p) [] [] pos) (fun _ H Q => Q (.ref C) none H) := by
  intro pins s σ H Q I h
  refine wpAny_Call_Name_kw (ld_glob I hg hm ?_ hdb)
  refine PySem.W.callWith_K0 I.kIn T.x.kC ?_
  obtain ⟨mb, hb1, hb2⟩ := I.mod.blt
  have hlim := I.nolimit
  have hgl : s.heap.Ns mainGlobals X.mg := I.mod.glob.keeps I.bk
  have hbl : s.heap.Ns builtinsNs mb := hb1.keeps I.bk
  obtain ⟨hp, g, d, t, os⟩ := s
  refine wpAny_call (sup_made T I.kIn hlim hgl hs hbl ((hb2 "super" (by decide)).trans (by first | rfl | decide +kernel | kernel_rfl)) (by have := hr.dp; omega) fun h' tk' e t1 k ge hx => ?_)
  obtain ⟨G', g1, g2⟩ := restrict h' fun b => decide (b ≠ e)
  have gk : ∀ b, b ≠ e → G'.get? b = h'.get? b := fun b hb => g1 b (decide_eq_true hb)
  have g0 : G'.get? e = none := g2 e (by simp)
  have old : ∀ b o, hp.get? b = some o → G'.get? b = some o := fun b o q => (gk b (Nat.ne_of_lt (Nat.lt_of_lt_of_le (Heap.lt_size q) ge))).trans (k b o q)
  have J : Inv X pins σ H ⟨G', g, d, tk', os⟩ := I.kept (t' := tk') old
  refine ⟨e, _, _, ⟨G', g, d, tk', os⟩, H, .ref C, none, rfl, J, fun b o q => ?_, g0, hx, ⟨rfl, rfl, fun vs hv => by cases hv; rfl⟩, rfl, rfl, I.hok.fresh ge, rfl, I.bare, raises_own T.x.exC T.x.tyC, h⟩
  by_cases hb : b = e
  · have q' : G'.get? b = some o := q
    rw [hb, g0] at q'
    cases q'
  · exact (gk b hb).symm.trans q
theorem passLenN {X : Cx} {W : WX} {n : Nat} (tk : L2N.Takes X W) (hn : X.N.length = n) : Passes (L2N.CX X.prog X.w) X (fun cls d H => ∀ σ : L2.St, σ.length = n → W cls d σ H) := fun pins σ H s e s' I c => by
  refine L2N.passAt tk σ pins H s e s' I ?_
  obtain ⟨a, B, H', cls, d, h1, h2, h3, h4, h5, h6, h7, h8⟩ := c
  exact ⟨a, B, H', cls, d, h1, h2, h3, h4, h5, h6, h7, h8 σ (I.len.trans hn)⟩
section
variable {P : Program} {w : World} {K : PySem.W.Frag} {mg : Str → Option Value} {base : Heap}
theorem okN {x qual : Str} {st : Stmt} {f : Addr} {fd : FuncData} {N ps : List Str} {k : Nat} {sp : Sp} (F : Fun K x qual st f fd) (S : FnScope N ps (defScope st)) (len : ∀ vs H Q E, sp vs H Q E → vs.length = ps.length)
    (hbody : ∀ (cdv : Value) (A : Around) (outer : List Env) (s : Shared) (H : Hp) (vs : List V) (Q : VK) (E : XK), Room k (A.deeper (envOfC qual (defScope st) s.heap.objs.size f cdv)) → sp vs H Q E →
      ∃ t, PSs (cxOf (L2N.CX P w) P w K mg base N qual (defScope st) f cdv A outer s H E) (defBody st) t ∧ t { nx := fun _ H' => Q .non H', rt := Q } (L2.start N vs) H) : FnOk P w K mg base (L2N.CX P w) (k + 1) f fd ps sp := by
  obtain ⟨oc, od, kV, doc, pm, an, cdv, ct, osl, rfl, lk, hcd⟩ := F.ex
  exact fn_of lk hcd S len fun A outer s H vs Q E hr hsp => hbody cdv A outer s H vs Q E hr hsp
end
end Fv
set_option maxRecDepth 100000
set_option maxHeartbeats 1000000
namespace Fv
open PySem PySem.Spec PyProof.Rows L2
end Fv
set_option maxRecDepth 100000
set_option maxHeartbeats 1000000
namespace Fv
open PySem PySem.Spec PySem.SeqAt PyProof.Rows L2
open AutoSeq1 (wpAny_loadPart')
section
variable {prog : Program} {w : World} {A : Around} {R : Result → Shared → Prop}
end
section
variable {X : Cx} {n : Nat} {D : Eqv}
end
end Fv
set_option maxRecDepth 100000
set_option maxHeartbeats 4000000
namespace L2
open PySem PySem.Spec PyProof.Rows
section
variable {P : Program} {w : World} {A : Around} {E : Value → Shared → Prop} {s : Shared}
end
section
variable {X : Cx}
end
end L2
set_option maxRecDepth 100000
set_option maxHeartbeats 1000000
namespace Fv
open PySem PySem.Spec PyProof.Rows L2
section
variable {X : Cx} {K : PySem.W.Frag}
end
end Fv
set_option maxRecDepth 100000
set_option maxHeartbeats 1000000
namespace Fv
open PySem PySem.Spec PyProof.Rows L2
section
variable {H H' : Hp} {a d D : Addr} {Q : VK} {σ : L2.St} {t : TE} {u : HO} {o : Obj} {kvs : List (Key × V)}
end
end Fv
namespace Fv
open PySem PySem.Spec L2
end Fv
set_option maxRecDepth 100000
set_option maxHeartbeats 2000000
namespace Fv
open PySem PySem.Spec PyProof.Rows L2
section
variable {X : Cx} {K : PySem.W.Frag}
end
end Fv
set_option maxRecDepth 100000
set_option maxHeartbeats 2000000
namespace RZ
open PySem PySem.W PySem.Calls PyProof.Rows PyProof.V PySem.Spec
open PySem.Sem (wp)
section
variable {prog : Program} {w : World} {A : Around} {E : Value → Shared → Prop} {s : Shared} {z TI TO T i1 i2 l1 l2 : Addr} {f : Bool} {oT : Obj} {k : Nat} {xs ys : Array Value}
end
section
variable {prog : Program} {w : World} {A : Around} {E : Value → Shared → Prop} {s : Shared} {z TI TO i1 i2 l1 l2 S : Addr} {xs ys : Array Value}
end
section
variable {prog : Program} {w : World} {A : Around} {E : Value → Shared → Prop} {s : Shared} {z TI TO i1 i2 l1 l2 : Addr} {xs ys : Array Value}
end
end RZ
namespace Fv
open PySem PySem.Spec PyProof.Rows L2 RZ
end Fv
set_option maxRecDepth 100000
set_option maxHeartbeats 2000000
namespace Mp
open PySem PySem.W PySem.SeqAt
open PySem.Sem (wp)
section
variable {prog : Program} {w : World} {A : Around} {R : Result → Shared → Prop} {I : Addr} {fp wr : List Addr} {n : Nat} {P : Nat → Value → Prop} {St : Nat → Heap → Prop} {OK : Heap → Prop} {bt : Nat → Nat → Bool} {S : Addr}
end
section
variable {prog : Program} {w : World} {A : Around} {E : Value → Shared → Prop} {s : Shared}
end
end Mp
namespace Fv
open PySem PySem.Spec PyProof.Rows L2
end Fv
set_option maxRecDepth 100000
set_option maxHeartbeats 4000000
namespace L2
open PySem PySem.Spec PyProof.Rows
section
variable {P : Program} {w : World} {A : Around} {E : Value → Shared → Prop} {s : Shared}
end
section
variable {X : Cx}
end
end L2
namespace Fv
open PySem PySem.Spec L2
end Fv
set_option maxRecDepth 100000
set_option maxHeartbeats 1000000
namespace Fv
open PySem PySem.Spec L2
end Fv
set_option maxRecDepth 100000
set_option maxHeartbeats 2000000
namespace L2
open PySem PySem.Spec PyProof.Rows PySem.F
section
variable {P : Program} {w : World} {A : Around} {E : Value → Shared → Prop} {s : Shared} {a : Addr}
end
section
variable {X : Cx}
end
end L2
namespace Fv
open PySem PySem.Spec L2
end Fv
set_option maxRecDepth 100000
set_option maxHeartbeats 2000000
namespace Hc
open PySem PySem.Spec PyProof.Rows HotX
section
variable {prog : Program} {w : World} {A : Around} {E : Value → Shared → Prop} {s : Shared}
theorem list_end_hot {it l x1 : Addr} {i : Nat} {items : Array Value} {Q : Option Value → Shared → Prop} (hot : HotAt A x1 s.heap) (hne : x1 ≠ it) (hit : s.heap.IsListIter it l i) (hl : s.heap.IsList l items) (hx : items[i]? = none)
    (hQ : ∀ h', (∀ b o, b ≠ it → s.heap.get? b = some o → h'.get? b = some o) → Q none { s with heap := h' }) : wpAny (model prog w) A (pyNext (.ref it)) Q E s := by
  obtain ⟨hh, o1, vs1, h1, d1, c1⟩ := hot
  obtain ⟨o, ho, hc, hd⟩ := id hit
  obtain ⟨ol, hol, _, nl, hdl⟩ := hl
  unfold pyNext
  refine wpAny_bind (wpAny_attempt (wpAny_callSpecial?_slot (name := Str.ofString "__next__") hit.typeIs slot_listiter_next (wpAny_call_entry slot_listiter_next hit.typeIs entry_listiter_next ?_ (args_listiter_next _))))
  show wpAny _ _ (field (.ref it) 0 >>= _) _ _ s
  refine wpAny_bind (wpAny_field ho hd (x := .ref l) rfl ?_)
  show wpAny _ _ (if (Value.ref l == Value.none) = true then _ else _) _ _ s
  rw [if_neg (show ¬ ((Value.ref l == Value.none) = true) from Bool.false_ne_true)]
  show wpAny _ _ (field (.ref it) 1 >>= _) _ _ s
  refine wpAny_bind (wpAny_field ho hd (x := .int i 0) rfl ?_)
  show wpAny _ _ (seqItems? (.ref l) >>= _) _ _ s
  refine wpAny_bind (wpAny_seqItems hol hdl ?_)
  simp only [Int.toNat_natCast, hx]
  refine wpAny_bind (wpAny_rule (wpAny_bind (wpAny_setField ho hd (by simp) ?_)))
  show wpAny _ _ (newExc (.type "StopIteration") [] >>= _) _ _ _
  refine wpAny_bind ?_
  simp only [newExc, newTuple]
  refine wpAny_bind (wpAny_newObj_type ?_ (by size_fits))
  refine wpAny_bind (m := firstArgMember _ _) (wpAny_of_eq (a := Value.none) (by first | rfl | (simp only [firstArgMember]; rfl)) ?_)
  refine wpAny_newObj_type ?_ (by size_fits)
  have h2 : (s.heap.update it (Obj.mapFields fun x => x.setIfInBounds 0 Value.none)).get? x1 = some o1 := (Heap.get?_update_other _ _ (Ne.symm hne)).trans h1
  refine raiseNew_hot ⟨hh, o1, vs1, Heap.get?_push_of_some _ (Heap.get?_push_of_some _ h2), d1, c1⟩ (Nat.ne_of_lt (Heap.lt_size (Heap.get?_push_of_some _ h2))) (Heap.get?_push_size _ rfl) rfl (by first | (simp; done) | (simp; omega) | (simp only [Array.size_append]; simp; omega)) ?_
  refine wpAny_bind (wpAny_isInstance (T := "StopIteration") (b := true) ⟨_, Heap.get?_update_self _ (Heap.get?_push_size _ rfl) rfl, rfl⟩ isSubtype_stop ?_)
  refine wpAny_pure (hQ _ fun b o e1 e2 => ?_)
  have h3 : (s.heap.update it (Obj.mapFields fun x => x.setIfInBounds 0 Value.none)).get? b = some o := (Heap.get?_update_other _ _ (Ne.symm e1)).trans e2
  rw [Heap.get?_update_other _ _ (Nat.ne_of_gt (Heap.lt_size (Heap.get?_push_of_some _ h3)))]
  exact Heap.get?_push_of_some _ (Heap.get?_push_of_some _ h3)
end
end Hc
namespace Fv
open PySem PySem.Spec PyProof.Rows L2 L2H
theorem turn_listH {P : Program} {w : World} {K : PySem.W.Frag} {tg : Expr} (a it : Addr) : TurnH P w K tg (Itl K a) [it] it (fun i h => h.IsListIter it a i) where
  mem := List.mem_singleton.mpr rfl
  obj := fun i h st b hb => by
    obtain rfl : b = it := List.mem_singleton.mp hb
    obtain ⟨o, e, c, d⟩ := st
    exact ⟨o, e, fun v z => by rw [d] at z; cases z⟩
  keep := fun i h h' st k => st.at fun o e => k it (List.mem_singleton.mpr rfl) o e
  item := by
    intro X hP hw hK hc i pins s σ H E I hf st hg
    subst hP hw hK
    obtain ⟨xs, x, hq, hx⟩ := hg
    obtain ⟨its, rv, p, hz⟩ := I.list hq
    obtain ⟨u, hu, ru⟩ := rv.get hx
    obtain ⟨f0, f1, f2, f3, f4, f5⟩ := hf it (List.mem_singleton.mpr rfl)
    refine wpAny_pyNext_list_item st p.isList (x := u) (by simpa using hu) fun h' st' sb => ?_
    have I1 : Inv X pins σ H { s with heap := h' } := I.turned (t' := s.toks) (fun b o hb e => (sb.2 b hb).trans e) f0 f1 f3 f4 f5
    obtain ⟨o, e, c, d⟩ := id st'
    exact ⟨u, rfl, go_of (s := { s with heap := h' }) e c d (by decide) ⟨x, H, I1, ru, ⟨rfl, fun ys hy => by rw [I.list_inj hy hq]; exact hx⟩, st', fun b hb => (hf b hb).1⟩⟩
  done := by
    intro X hP hw hK hc i pins s σ H E I hf st hg
    subst hP hw hK
    obtain ⟨xs, hq, hx⟩ := hg
    obtain ⟨its, rv, p, hz⟩ := I.list hq
    obtain ⟨f0, f1, f2, f3, f4, f5⟩ := hf it (List.mem_singleton.mpr rfl)
    obtain ⟨q, ⟨hh, v1, e1, c1⟩, hp⟩ := hc
    have pq := I.pin q (List.mem_append_left _ hp)
    have ne := f5 q (List.mem_append_left _ hp)
    have hl := rv.length
    exact Hc.list_end_hot ⟨hh, q.2, v1, pq.1, e1, c1⟩ ne st p.isList (by simp; omega) fun h' eb => ⟨rfl, I.turned (t' := s.toks) eb f0 f1 f3 f4 f5⟩
  self := fun _ _ _ _ _ st h => wpAny_pyIter_listiter st h
theorem pi_listH {X : Cx} {tg l : Expr} {tl : TE} (hl : PE X l tl) : PIH X tg l (iList X.K tl) := by
  refine ⟨fun pins s σ H R I h => ?_⟩
  refine thn (hl.run pins s σ H _ I h) fun v s1 ⟨x, H1, I1, r1, a, e, ⟨xs, hq⟩, q⟩ => ?_
  subst e
  cases r1
  obtain ⟨its, rv, p, hz⟩ := I1.list hq
  refine wpAny_pyIter_list p.isList ?_
  refine ⟨s1.heap.objs.size, [s1.heap.objs.size], _, _, H1, rfl, I1.kept (t' := s1.toks) fun b o e => Heap.get?_push_of_some _ e, turn_listH a _, ⟨_, Heap.get?_push_size _ rfl, rfl, rfl⟩, fun b hb => ?_, q⟩
  obtain rfl : b = s1.heap.objs.size := List.mem_singleton.mp hb
  exact I1.fpOk (Nat.le_refl _) (I1.hok.fresh (Nat.le_refl _))
abbrev blkH (X : Cx) (s : Shared) (H : Hp) (scope : Scope) (cenv : Env) (fp : List Addr) (p : Addr × Obj) : Cx := { X.blk s H scope cenv fp with pn := [p] }
theorem bear {B : Cx} {σ : L2.St} {H : Hp} {s : Shared} {p : Addr × Obj} (I : Inv B [] σ H s) (h : s.heap.get? p.1 = some p.2 ∧ H p.1 = none ∧ p.1 ≠ B.env.locals ∧ p.1 ∉ B.fs ∧ ∀ v, p.2.data ≠ .cell v) : Inv { B with pn := [p] } [] σ H s where
  ok := ⟨I.ok.mod, I.ok.kind, I.ok.glob, I.ok.blt, I.ok.above, I.ok.inj, I.ok.has, I.ok.cab, I.ok.hd, I.ok.frames, I.ok.stk, I.ok.exf, I.ok.bs, I.ok.bsz, I.ok.noex, I.ok.exfs, I.ok.funs, I.ok.frf⟩
  os := I.os
  bare := I.bare
  base := I.base
  loc := I.loc
  cell := I.cell
  free := I.free
  freeC := I.freeC
  pin := fun q hq => by
    obtain rfl : q = p := by simpa using hq
    exact h
  hok := I.hok
  len := I.len
theorem turnsH {X : Cx} {B : Cx} {elt tg iter : Expr} {ifs : List Expr} {scope : Scope} {pos : Pos} {g : TG} {tt : TT} {te : TE} {vs : List Nat} {σ : L2.St} {fp : List Addr} {it D : Addr} {tn : Nat → Heap → Prop} {J : It} {W : Nat → Nat → Hp → Prop} {Fin : Hp → Prop} {R : Result → Shared → Prop}
    (hx : B.xe = fun _ _ => False) (hex : B.ex = fp) (hot : HotC B) (T : TurnH B.prog B.w B.K tg J fp it tn) (pg : PG B tg g) (pt : PTs B ifs tt) (pe : PE B elt te)
    (hpn : ∀ q ∈ B.pn, ∀ b ∈ fp, q.1 ≠ b)
    (turn : ∀ i m H, W i m H → (J.stop i H ∧ Fin H) ∨ (J.go i H ∧ ∃ Nx : Hp → Prop, (∀ H', Nx H' → ∃ m', m' < m ∧ W (i + 1) m' H') ∧ ∀ x H', J.yld i H x H' → g x (wipe σ vs) H' fun σ2 H2 => wipe σ2 vs = wipe σ vs ∧ tt σ2 H2 fun b H3 => if b = true then te σ2 H3 fun y H4 => ∃ acc, H4 D = some (.lst acc) ∧ acc.length < sizeLine ∧ Nx (upd H4 D (.lst (acc ++ [y]))) else Nx H3))
    (fin : ∀ s' H', Inv B [] (wipe σ vs) H' s' → Fin H' → R (.ok .next) s')
    {m0 : Nat} {s0 : Shared} {H0 : Hp} (I0 : Inv B [] (wipe σ vs) H0 s0) (t0 : tn 0 s0.heap) (n0 : ∀ b ∈ fp, H0 b = none) (w0 : W 0 m0 H0) :
    codeAny (model B.prog B.w) B.A (.compLoop (.ListComp elt [⟨tg, iter, ifs, 0⟩] scope pos) 0 (.ref it) (.ref D) B.env) R s0 := by
  subst hex
  have fok : ∀ {σ' : L2.St} {H' : Hp} {s' : Shared}, Inv B [] σ' H' s' → (∀ b ∈ B.ex, H' b = none) → ∀ b ∈ B.ex, FpOk B [] H' b := fun I' hn b hb =>
    ⟨hn b hb, (I'.ok.exf b hb).1, I'.ok.exfs b hb, .inl hb, fun x c e => (I'.ok.exf b hb).2 x c e, fun q hq => hpn q (by simpa using hq) b hb⟩
  refine compLoop_any (fun m s' => ∃ i H', Inv B [] (wipe σ vs) H' s' ∧ tn i s'.heap ∧ (∀ b ∈ B.ex, H' b = none) ∧ W i m H') ?_ m0 ⟨0, H0, I0, t0, n0, w0⟩
  rintro m s1 ⟨i, H1, I1, t1, n1, w1⟩
  have key : ∀ {α : Type} {t : Sem α} {Q1 Q2 : α → Shared → Prop} {E2 : Value → Shared → Prop} {s : Shared}, wpAny (model B.prog B.w) B.A t Q1 B.xe s → (∀ a s', Q1 a s' → Q2 a s') → wpAny (model B.prog B.w) B.A t Q2 E2 s := fun h q => by
    rw [hx] at h
    exact thnF h q
  rcases turn i m H1 w1 with ⟨stop, f⟩ | ⟨go, Nx, less, step⟩
  · refine thnF (T.done B rfl rfl rfl hot i [] s1 _ H1 (fun _ _ => False) I1 (fok I1 n1) t1 stop) fun r s2 ⟨e, I2⟩ => ?_
    subst e
    exact fin s2 H1 I2 f
  · refine thnF (T.item B rfl rfl rfl hot i [] s1 _ H1 (fun _ _ => False) I1 (fok I1 n1) t1 go) fun r s2 ⟨u, e, h2⟩ => ?_
    subst e
    refine thnF h2 fun _ s3 ⟨x, H3, I3, r3, y3, t3, n3⟩ => ?_
    have I3' := I3.pinned (fok I3 n3) (T.obj _ _ t3)
    have close : ∀ {s' : Shared} {σ' : L2.St} {H' : Hp}, wipe σ' vs = wipe σ vs → Inv B ([] ++ pinsAt B.ex s3.heap) σ' H' s' → Nx H' → ∃ m', m' < m ∧ ∃ i H', Inv B [] (wipe σ vs) H' s' ∧ tn i s'.heap ∧ (∀ b ∈ B.ex, H' b = none) ∧ W i m' H' := fun {s' σ' H'} hw I' nx => by
      obtain ⟨m', lt, w'⟩ := less H' nx
      have held : ∀ b ∈ B.ex, ∀ o, s3.heap.get? b = some o → s'.heap.get? b = some o ∧ H' b = none := fun b hb o e => by
        have z := I'.pin (b, o) (List.mem_append_right _ (List.mem_append_right _ (mem_pinsAt hb e)))
        exact ⟨z.1, z.2.1⟩
      refine ⟨m', lt, i + 1, H', (I'.unpinned (pins := [])).weak (by rw [← hw, wipe_length]) (fun j v e => ?_), T.keep _ _ _ t3 fun b hb o e => (held b hb o e).1, fun b hb => ?_, w'⟩
      · rw [← hw] at e
        exact (wipe_some e).1
      · obtain ⟨o, e, _⟩ := T.obj _ _ t3 b hb
        exact (held b hb o e).2
    refine key (pg.run _ s3 _ H3 x u _ I3' r3 (step x H3 y3)) fun _ s4 ⟨σ4, H4, I4, hw, q4⟩ => ?_
    refine key (pt.run _ s4 σ4 H4 _ I4 q4) fun b s5 ⟨H5, I5, q5⟩ => ?_
    cases b with
    | false =>
      simp only [Bool.false_eq_true, if_false] at q5 ⊢
      exact close hw I5 q5
    | true =>
      simp only [if_true] at q5 ⊢
      refine key (pe.run _ s5 σ4 H5 _ I5 q5) fun z s6 ⟨yv, H6, I6, r6, acc, hD, hz, nx⟩ => ?_
      exact app_ok (X := B) I6 hD hz r6 fun s7 I7 => close hw I7 nx
theorem pe_lcH {X : Cx} {elt tg iter : Expr} {ifs : List Expr} {scope : Scope} {own : List (Str × Nat)} {pos : Pos} {wi : TI} {g : TG} {tt : TT} {te : TE} (hc : HotC X) (hN : X.N.Nodup) (hi : PIH X tg iter wi) (ok : BlkOk X.N X.env.scope scope own)
    (hg : ∀ (s : Shared) (H : Hp) (C : Addr) (cl : List (Str × Addr)) (fp : List Addr) (p : Addr × Obj), PG (blkH X s H scope (compEnvC scope cl C X.env) fp p) tg g) (ht : ∀ (s : Shared) (H : Hp) (C : Addr) (cl : List (Str × Addr)) (fp : List Addr) (p : Addr × Obj), PTs (blkH X s H scope (compEnvC scope cl C X.env) fp p) ifs tt)
    (he : ∀ (s : Shared) (H : Hp) (C : Addr) (cl : List (Str × Addr)) (fp : List Addr) (p : Addr × Obj), PE (blkH X s H scope (compEnvC scope cl C X.env) fp p) elt te) (hs : ∀ x, foldedSetIterable iter X.env x = pure x := by intro _; rfl) :
    PE X (.ListComp elt [⟨tg, iter, ifs, 0⟩] scope pos) (tLc wi g tt te (own.map (·.2))) := by
  refine ⟨fun pins s σ H Q I h => ?_⟩
  obtain ⟨p, hot1, hp⟩ := hc
  rw [eval_ListComp]
  have free : ∀ y ∈ scope.names, y.2 = .free → ∃ c, X.env.cells.lookup y.1 = some c := fun y hy e => by
    rcases ok.free y hy e with k | k
    · exact I.ok.has _ (.inl k)
    · exact I.ok.has _ (.inr k)
  refine wpAny_comprehension_free rfl hs (closure_ok free) ok.kind (fun y hy e => by rw [ok.uniq y hy, e]) (thn (hi.run pins s σ H _ I h) fun xv s1 hx => thn hx fun itv s2 h2 => ?_)
  obtain ⟨it, fp, tn, J, H2, e, I2, T, t2, f2, q⟩ := h2
  subst e
  refine wpAny_newObj_type (newEnv_comp ?_) (by show 0 ≤ sizeLine; decide)
  obtain ⟨W, ⟨m0, w0⟩, turn⟩ := q s2.heap.objs.size (I2.hok.fresh (Nat.le_refl _))
  have hD : s2.heap.objs.size = s2.heap.objs.size := rfl
  generalize hDd : s2.heap.objs.size = D at w0 turn
  have I3 : Inv X pins σ (upd H2 D (.lst [])) { s2 with heap := s2.heap.push { cls := .type "list", data := .seq ([] : List Value).toArray } } := by
    refine I2.laid (t' := s2.toks) (fun b o e => Heap.get?_push_of_some _ e) (Nat.le_of_eq hDd) ⟨Nat.zero_le _, [], 0, .nil, ?_⟩
    rw [← hDd]
    exact Heap.get?_push_size _ rfl
  have sz : ∀ b ∈ fp, b < s2.heap.objs.size := fun b hb => by
    obtain ⟨o, e, _⟩ := T.obj _ _ t2 b hb
    exact Heap.lt_size e
  have lt3 : ∀ b ∈ fp, b < (s2.heap.push { cls := .type "list", data := .seq ([] : List Value).toArray }).objs.size := fun b hb => by
    rw [Heap.size_push]
    exact Nat.lt_succ_of_lt (sz b hb)
  have f3 : ∀ b ∈ fp, FpOk X pins (upd H2 D (.lst [])) b := fun b hb => by
    refine ⟨?_, (f2 b hb).2⟩
    rw [upd_ne (by rw [← hDd]; exact Nat.ne_of_lt (sz b hb))]
    exact (f2 b hb).1
  have t3 : tn 0 (s2.heap.push { cls := .type "list", data := .seq ([] : List Value).toArray }) := T.keep _ _ _ t2 fun b _ o e => Heap.get?_push_of_some _ e
  generalize hs3 : ({ s2 with heap := s2.heap.push { cls := .type "list", data := .seq ([] : List Value).toArray } } : Shared) = s3 at I3
  have lt3 : ∀ b ∈ fp, b < s3.heap.objs.size := fun b hb => by rw [← hs3]; exact lt3 b hb
  have t3 : tn 0 s3.heap := by rw [← hs3]; exact t3
  have I4 := block_start I3 ok hN fun b hb => ⟨f3 b hb, lt3 b hb⟩
  have kp : ∀ b o, s3.heap.get? b = some o → (pushCells (s3.heap.push { cls := .type "dict", data := .dict #[] }) scope.names).get? b = some o := fun b o e => pushCells_keeps _ _ _ _ (Heap.get?_push_of_some _ e)
  have t4 : tn 0 (pushCells (s3.heap.push { cls := .type "dict", data := .dict #[] }) scope.names) := T.keep _ _ _ t3 fun b _ o e => kp b o e
  generalize hH3 : upd H2 D (.lst []) = H3 at I3 I4 f3 w0
  have pp := I3.pin p (List.mem_append_left _ hp)
  have plt := Heap.lt_size pp.1
  have pg := hg s3 H3 s3.heap.objs.size (cellsFrom (s3.heap.objs.size + 1) scope.names (cloFrom X.env.cells scope.names [])) fp p
  have pt := ht s3 H3 s3.heap.objs.size (cellsFrom (s3.heap.objs.size + 1) scope.names (cloFrom X.env.cells scope.names [])) fp p
  have pe := he s3 H3 s3.heap.objs.size (cellsFrom (s3.heap.objs.size + 1) scope.names (cloFrom X.env.cells scope.names [])) fp p
  have I5 := bear (p := p) I4 ⟨kp _ _ pp.1, pp.2.1, Nat.ne_of_lt plt, fun m => by
    have m : p.1 ∈ frs X.stack := m
    rcases I3.ok.stk with e | ⟨e, e2⟩
    · rw [e] at m
      exact pp.2.2.2.1 m
    · rw [e] at m
      have m : p.1 ∈ List.filterMap (·.frame) (X.env :: X.outer) := m
      rw [List.filterMap_cons, e2] at m
      rcases List.mem_cons.mp m with z | z
      · exact pp.2.2.1 z
      · exact pp.2.2.2.1 z, pp.2.2.2.2⟩
  have loop := turnsH (X := X) (B := blkH X s3 H3 scope (compEnvC scope (cellsFrom (s3.heap.objs.size + 1) scope.names (cloFrom X.env.cells scope.names [])) s3.heap.objs.size X.env) fp p) (elt := elt) (tg := tg) (iter := iter) (ifs := ifs) (scope := scope) (pos := pos) (D := D) (Fin := Q (.ref D)) (R := compPost (model X.prog X.w) X.A X.xe none (fun v s' => ∃ x H', Inv X pins σ H' s' ∧ RelV x v ∧ Q x H') (.ref D) s3.heap.objs.size)
    rfl rfl ⟨p, hot1, List.mem_singleton.mpr rfl⟩ T pg pt pe (fun q hq b hb => by
      obtain rfl : q = p := List.mem_singleton.mp hq
      exact (f3 b hb).2.2.2.2.2 q (List.mem_append_left _ hp)) turn (fun s' H' I' fin => ?_) I5 t4 (fun b hb => (f3 b hb).1) w0
  · subst hs3
    exact codeAny_compStart_list loop (T.self X.A 0 _ _ _ t4 loop)
  · have I7 : Inv X pins σ H' s' := I3.call' (ch := fp) I'.os I'.base I'.hok I'.bare fun b hb => ⟨(f3 b hb).2.2.2.1, (f3 b hb).2.1, (f3 b hb).2.2.2.2.1, (f3 b hb).2.2.2.2.2⟩
    have nC : H' s3.heap.objs.size = none := I'.free
    obtain ⟨m, hn, _⟩ := I'.loc
    obtain ⟨f0, f1, f2, f3', f4, f5⟩ := I3.fpOk (Nat.le_refl _) nC
    exact ⟨m, hn, fun h'' sb => ⟨.ref D, H', I7.turned (t' := s'.toks) (fun b o hb e => (sb.2 b hb).trans e) f0 f1 f3' f4 f5, rfl, fin⟩⟩
end Fv
set_option maxRecDepth 100000
set_option maxHeartbeats 2000000
namespace LamN
open PySem PySem.Spec PyProof.Rows L2 LamX
theorem airy {B : Cx} {u : Value → Shared → Prop} {pins : List (Addr × Obj)} {σ : L2.St} {H : Hp} {s : Shared} (I : Inv B pins σ H s) : Inv { B with xe := u } pins σ H s :=
  ⟨⟨I.ok.mod, I.ok.kind, I.ok.glob, I.ok.blt, I.ok.above, I.ok.inj, I.ok.has, I.ok.cab, I.ok.hd, I.ok.frames, I.ok.stk, I.ok.exf, I.ok.bs, I.ok.bsz, I.ok.noex, I.ok.exfs, I.ok.funs, I.ok.frf⟩, I.os, I.bare, I.base, I.loc, I.cell, I.free, I.freeC, I.pin, I.hok, I.len⟩
def cxN (X : Cx) (A : Around) (rest : List Env) (z : Shared) (HZ : Hp) (E : XK) (sl : Scope) (f c : Addr) : Cx :=
  { lamCx X A rest z HZ E sl f c with
    xe := fun u y => wpAny (model X.prog X.w) (A.deeper (lamEnv X sl z.heap.objs.size f c)) (leaving (lamEnv X sl z.heap.objs.size f c) u)
      (fun _ y2 => L2N.CX X.prog X.w rest HZ z E u y2) (fun v y2 => L2N.CX X.prog X.w rest HZ z E v y2) y }
section
variable {X : Cx} {pins : List (Addr × Obj)} {σ : L2.St} {H : Hp} {s : Shared}
theorem acts {CXg : CXT} {Eg : XK} {Ng : List Str} {qg : Str} {sg : Scope} {g f c : Addr} {cdg pm ctv : Value} {ps : Arguments} {e : Expr} {sl : Scope} {k i : Nat} {a : Str} {pn : List (Addr × Obj)} {xe : Value → Shared → Prop} {W : WX} {E : XK} {tb : TE} {p1 p2 : Pos}
    (I : Inv X pins σ H s) (L : LamS X.env.scope sl) (hf : s.heap.get? f = some (PySem.W.kla_obj "<lambda>" (X.env.qual ++ "<lambda>") ps e sl (cloFrom X.env.cells sl.names []) pm c ctv)) (nf : H f = none) (ff : f ∉ frs X.stack)
    (bnd : bindArgs (PySem.W.kla_fn "<lambda>" (X.env.qual ++ "<lambda>") ps e sl (cloFrom X.env.cells sl.names []) pm (.ref c) ctv) ⟨[], []⟩ = pure [])
    (tk : L2N.Takes ((cxOf CXg X.prog X.w X.K X.mg X.base Ng qg sg g cdg X.A X.stack s H Eg).tr pn xe) W) (low : ∀ cls d σ' H', E cls d H' → W cls d σ' H') (room : Room (k + 1) (X.A.deeper (envOfC qg sg s.heap.objs.size g cdg)))
    (bd : ∀ (A : Around) (rest : List Env) (z : Shared) (HZ : Hp), Room k (A.deeper (lamEnv X sl z.heap.objs.size f c)) → PE (cxN X A rest z HZ E sl f c) e tb)
    (at_ : Ng[i]? = some a) (vis : Vis sg a) (d1 : (a == ("__debug__" : Str)) = false := by decide) (d2 : (a == ("__classdict__" : Str)) = false := by decide) :
    PE ((cxOf CXg X.prog X.w X.K X.mg X.base Ng qg sg g cdg X.A X.stack s H Eg).tr pn xe) (.Call (.Name a p1) [] [] p2)
      (fun σZ HZ Q => σZ[i]? = some (some (.ref f)) ∧ HZ c = some (CodeO c (X.env.qual ++ "<lambda>")) ∧ tb σ HZ Q) := by
  refine ⟨fun pz z σZ HZ Q IZ ⟨q1, q2, q3⟩ => wpAny_Call_Name_kw (thn ((pe_var (pos := p1) (i := i) at_ vis d1 d2).run pz z σZ HZ (fun v G => v = .ref f ∧ G = HZ) IZ ⟨.ref f, q1, rfl, rfl⟩) ?_)⟩
  rintro u y ⟨v, G, I1, r1, rfl, rfl⟩
  obtain rfl : u = Value.ref f := r1
  have here := I1.base.keep f _ hf nf ff (fun z => nomatch (show f ∈ ([] : List Addr) from z))
  refine PySem.W.callWith_F0 ⟨_, _, _, _, here⟩ (wpAny_call (codeAny_mono (R := CR (L2N.CX X.prog X.w) (envOfC qg sg s.heap.objs.size g cdg :: X.stack) X.prog X.w G y Q E) ?_ fun r y2 hq => ?_))
  · show codeAny _ _ (.call (.ref f) ⟨[], []⟩) _ _
    obtain ⟨⟨oc, vs, t, b1, b2, b3⟩, _, _⟩ := I1.hok c _ q2
    refine PySem.W.kla_callFunE room.depth here rfl L.co L.gen rfl ⟨c, oc, vs, t, rfl, b1, b2, b3⟩ ?_
    rw [bnd]
    refine wpAny_pure (wpAny_newFunctionEnv (fun n hn => (L.own n hn).2) (fun n hn => absurd hn (by simp)) (fun h1 ns sb => ⟨I1.nolimit.fresh _ sb, ?_⟩) L.kind)
    have J0 := lam_start2 (E := E) (f := f) (c' := c) (tk := y.toks + ([] : List (Str × Value)).length) I L I1.env0 room.hd I1.base ns fun b o e => sb.extBut b o (Nat.ne_of_lt (Heap.lt_size e)) (Heap.get?_push_of_some _ e)
    have J := airy (u := (cxN X (X.A.deeper (envOfC qg sg s.heap.objs.size g cdg)) (envOfC qg sg s.heap.objs.size g cdg :: X.stack) y G E sl f c).xe) J0
    refine PySem.W.kla_codeExpr (wpAny_mono ((bd _ _ y G (room.deeper _)).run [] _ _ G Q J q3) (fun v y3 hq => ?_) fun _ _ hq => hq)
    obtain ⟨w', H', J', rv, q⟩ := hq
    exact ⟨w', H', J'.os, J'.bare, J'.base, J'.hok, rv, q⟩
  · have out := L2N.passes_call tk (fun cls d σ' H' => low cls d σ' H')
    cases r with
    | error v => exact out pz σZ G y v y2 I1 hq
    | ok fl =>
      cases fl with
      | ret v => exact I1.after hq
      | next => exact hq.elim
      | brk => exact hq.elim
      | cont => exact hq.elim
end
def Gives (X : Cx) (Ng : List Str) (x : Str) (sg : Scope) (g : Addr) (cdg : Value) (bg : List Stmt) (a : Str) (q : Str) (TT : (XK → Hp → VK → Prop) → Hp → VK → Prop) : Prop :=
  ∀ (f c : Addr) (s : Shared) (H : Hp) (Q : VK) (tl : XK → Hp → VK → Prop),
    (∀ (W : WX) (pn : List (Addr × Obj)) (xe : Value → Shared → Prop) (E : XK) (p1 p2 : Pos), L2N.Takes ((cxOf C8.CX0 X.prog X.w X.K X.mg X.base Ng x sg g cdg X.A X.stack s H C8.E0).tr pn xe) W → (∀ cls d σ' H', E cls d H' → W cls d σ' H') →
      PE ((cxOf C8.CX0 X.prog X.w X.K X.mg X.base Ng x sg g cdg X.A X.stack s H C8.E0).tr pn xe) (.Call (.Name a p1) [] [] p2) (fun σZ HZ R => σZ[0]? = some (some (.ref f)) ∧ HZ c = some (CodeO c q) ∧ tl E HZ R)) →
    H c = some (CodeO c q) → TT tl H Q →
    ∃ t, PSs (cxOf C8.CX0 X.prog X.w X.K X.mg X.base Ng x sg g cdg X.A X.stack s H C8.E0).nox bg t ∧ t { nx := fun _ G => Q .non G, rt := Q } (L2.start Ng [.ref f]) H
section
variable {X : Cx}
theorem calls {T : List (Addr × Str)} {TT : (XK → Hp → VK → Prop) → Hp → VK → Prop} {x a : Str} {g c P : Addr} {k : Nat} {pg : Arguments} {bg : List Stmt} {sg : Scope} {dV kV doc pm cdv ct oc : Value} {an od : Option Addr} {osl : Array (Option Value)} {Ng : List Str} {ps : Arguments} {e : Expr} {sl : Scope} {t : XK → TE} {p lp pos : Pos}
    (gl : Gl X x) (mgx : X.mg x = some (.ref g)) (kp : PySem.W.keepIn X.K (.ref g) = true)
    (lk : X.K.lookup g = some ⟨oc, od, .func (PySem.W.fnOf x x pg bg sg dV kV doc pm an cdv ct), osl⟩) (cg : PySem.W.codeIn X.K cdv x = true) (bn : L2.Binds X.K (PySem.W.fnOf x x pg bg sg dV kV doc pm an cdv ct) [a] []) (Sg : FnScope Ng [a] sg) (n0 : Ng[0]? = some a) (va : Vis sg a)
    (hG : Gives X Ng x sg g cdv bg a (X.env.qual ++ "<lambda>") TT)
    (TB : TabB X.base X.mg c P) (cod : X.env.code = .ref c) (inT : (P, X.env.qual ++ "<lambda>") ∈ T) (uni : ∀ q ∈ T, q.1 = P → q.2 = X.env.qual ++ "<lambda>") (room : Room (k + 2) X.A) (L : LamS X.env.scope sl) (nod : defaultsOf ps X.env = ([], []))
    (bnd : ∀ (q : Str) (cl : List (Str × Addr)) (pm cv ctv : Value), bindArgs (PySem.W.kla_fn "<lambda>" q ps e sl cl pm cv ctv) ⟨[], []⟩ = pure [])
    (bd : ∀ (A : Around) (rest : List Env) (z : Shared) (HZ : Hp) (E : XK) (f c' : Addr), Room k (A.deeper (lamEnv X sl z.heap.objs.size f c')) → PE (cxN X A rest z HZ E sl f c') e (t E))
    (d0 : (x == ("__debug__" : Str)) = false := by decide) (d1 : (a == ("__debug__" : Str)) = false := by decide) (d2 : (a == ("__classdict__" : Str)) = false := by decide) :
    PE X (.Call (.Name x p) [.Lambda ps e sl lp] [] pos) (tLam T TT t) := by
  refine ⟨fun pins s σ H Q I ⟨hT, h⟩ => wpAny_Call_Name_kw (ld_glob I gl mgx ?_ d0)⟩
  refine PySem.W.callWith_K (h₀ := X.base) I.ok.mod.kin kp ?_ (by rfl) (by rfl)
  show wpAny _ _ (spliced ((false, eval (.Lambda ps e sl lp) X.env) :: backTo pos (starEach [] X.env))) _ _ s
  refine Calls.spliced_cons (lam_make2 I TB cod inT uni hT nod (L.has I.ok) fun f c' pm' ctv G y I1 eN T1 h1 h2 h3 h4 => Calls.spliced_nil ⟨I1.kIn, ?_⟩)
  refine wpAny_call (codeAny_mono (R := CR C8.CX0 X.stack X.prog X.w G y Q C8.E0) (run_ofS (N := Ng) (ps := [a]) (us := [.ref f]) (vs := [.ref f]) lk cg Sg room I1.env0 (bn y [.ref f] I1.kIn rfl) (.cons rfl .nil) rfl fun room' => ?_) fun r y2 hq => ?_)
  · obtain ⟨t', ht', hq'⟩ := hG f c' y G Q (fun E G' R => t E σ G' R) (fun W pn xe E p1 p2 tk low => acts (i := 0) I1 L h1 h2 h3 (bnd _ _ _ _ _) tk low room' (fun A rest z HZ room2 => bd A rest z HZ E f c' room2) n0 va d1 d2) h4 (h G eN T1)
    exact ⟨t', ht'.nox, hq'⟩
  · cases r with
    | error v => exact (show False from hq).elim
    | ok fl =>
      cases fl with
      | ret v => exact I1.after hq
      | next => exact hq.elim
      | brk => exact hq.elim
      | cont => exact hq.elim
end
end LamN
set_option maxRecDepth 100000
set_option maxHeartbeats 1000000
namespace Fv
open PySem PySem.Spec L2
def top (i : Nat) : Stmt := PySem.Challenge.pw_foldervotes_k05_trees_and_views_refused.main.body.getD i (.Pass ⟨0, 0, 0, 0⟩)
abbrev s_BadTree___init__ : Stmt := inClass (top 2) 0
abbrev s_is_within : Stmt := top 11
abbrev s_Tree___init__ : Stmt := inClass (top 14) 0
abbrev s_Tree___eq__ : Stmt := inClass (top 14) 1
abbrev s__comes_to_head : Stmt := top 15
abbrev s_is_block : Stmt := top 16
abbrev s_is_place : Stmt := top 17
abbrev s_place_of : Stmt := top 18
abbrev s_parents : Stmt := top 19
abbrev s_under : Stmt := top 20
abbrev s_beneath : Stmt := top 21
abbrev s_moved : Stmt := top 22
abbrev s_called : Stmt := top 23
abbrev s__is_order : Stmt := top 24
abbrev s_is_view : Stmt := top 27
abbrev s_telling : Stmt := top 28
abbrev s__row_told : Stmt := top 29
abbrev s__ties_told : Stmt := top 30
abbrev s_unlike : Stmt := top 31
abbrev s_distance : Stmt := top 32
abbrev s_twins : Stmt := top 33
abbrev s__law_pool : Stmt := top 35
abbrev s__law_draw : Stmt := top 36
abbrev s__law_pick : Stmt := top 37
abbrev s__law_is : Stmt := top 38
abbrev s__law_deep : Stmt := top 39
abbrev s__law_is_number : Stmt := top 40
abbrev s__law_mixed : Stmt := top 41
abbrev s__law_hung : Stmt := top 42
abbrev s__law_way : Stmt := top 43
abbrev s__law_odd : Stmt := top 44
abbrev s__law_word : Stmt := top 45
abbrev s__law_order_refused : Stmt := top 46
abbrev s__law_views_refused : Stmt := top 47
abbrev s_law : Stmt := top 48
structure Ad where
  a_VoteError : Addr
  a_BadTree : Addr
  a_NoBlock : Addr
  a_NoPlace : Addr
  a_Beneath : Addr
  a_NoOrder : Addr
  a_NoView : Addr
  a_OtherBlocks : Addr
  a_NoNumber : Addr
  a_Tree : Addr
  t_MOST_BLOCKS : PySem.Tok
  t_MOST_STEPS : PySem.Tok
structure Bl (Z : Ad) (mg : Str → Option Value) : Prop where
  b_ValueError : mg "ValueError" = none
  b_abs : mg "abs" = none
  b_all : mg "all" = none
  b_bool : mg "bool" = none
  b_dict : mg "dict" = none
  b_enumerate : mg "enumerate" = none
  b_int : mg "int" = none
  b_isinstance : mg "isinstance" = none
  b_len : mg "len" = none
  b_list : mg "list" = none
  b_range : mg "range" = none
  b_sorted : mg "sorted" = none
  b_str : mg "str" = none
  b_super : mg "super" = none
  b_tuple : mg "tuple" = none
  k_VoteError : mg "VoteError" = some (.ref Z.a_VoteError)
  k_BadTree : mg "BadTree" = some (.ref Z.a_BadTree)
  k_NoBlock : mg "NoBlock" = some (.ref Z.a_NoBlock)
  k_NoPlace : mg "NoPlace" = some (.ref Z.a_NoPlace)
  k_Beneath : mg "Beneath" = some (.ref Z.a_Beneath)
  k_NoOrder : mg "NoOrder" = some (.ref Z.a_NoOrder)
  k_NoView : mg "NoView" = some (.ref Z.a_NoView)
  k_OtherBlocks : mg "OtherBlocks" = some (.ref Z.a_OtherBlocks)
  k_NoNumber : mg "NoNumber" = some (.ref Z.a_NoNumber)
  k_Tree : mg "Tree" = some (.ref Z.a_Tree)
  c_MOST_BLOCKS : mg "MOST_BLOCKS" = some (.int 40 Z.t_MOST_BLOCKS)
  c_MOST_STEPS : mg "MOST_STEPS" = some (.int 4 Z.t_MOST_STEPS)
end Fv
set_option maxRecDepth 100000
set_option maxHeartbeats 1000000
namespace Fv
open PySem PySem.Spec L2
local macro_rules | `(tactic| walk_at "ne") => `(tactic| first
  | assumption
  | (apply Ne.symm; assumption)
  | exact ne_of_none (by assumption) (by assumption)
  | (apply Ne.symm; exact ne_of_none (by assumption) (by assumption))
  | exact ne_none' (by assumption) (by walk_at "hu")
  | (apply Ne.symm; exact ne_none' (by assumption) (by walk_at "hu")))
local macro_rules | `(tactic| walk_at "hu") => `(tactic| first
  | with_reducible assumption
  | with_reducible exact upd_same
  | ((with_reducible show upd _ _ _ _ = some _); first | with_reducible exact upd_same | (with_reducible exact keepN (by walk_at "hu") (by assumption)) | (with_reducible exact keepM (by walk_at "ne") (by walk_at "hu"))))
local macro_rules | `(tactic| walk_at "hl") => `(tactic| first
  | with_reducible assumption
  | with_reducible exact SqL.of (by assumption)
  | ((with_reducible show SqL _ (upd _ _ _) _ _); first
    | with_reducible exact SqL.of upd_same
    | with_reducible exact keepLN (by walk_at "hl") (by assumption)
    | with_reducible exact keepLM (by walk_at "ne") (by walk_at "hl"))
  | with_reducible exact Same.seq (by assumption) (by walk_at "hl")
  | with_reducible exact But.seq (by assumption) (by walk_at "ne") (by walk_at "hl"))
local macro_rules | `(tactic| walk_at "ht") => `(tactic| first
  | with_reducible assumption
  | with_reducible exact SqT.of (by assumption)
  | ((with_reducible show SqT _ (upd _ _ _) _ _); first
    | with_reducible exact SqT.of upd_same
    | with_reducible exact keepTN (by walk_at "ht") (by assumption)
    | with_reducible exact keepTM (by walk_at "ne") (by walk_at "ht"))
  | with_reducible exact Same.seqT (by assumption) (by walk_at "ht")
  | with_reducible exact But.seqT (by assumption) (by walk_at "ne") (by walk_at "ht"))
local macro_rules | `(tactic| walk_at "sm") => `(tactic| first
  | with_reducible assumption
  | with_reducible exact Same.refl _
  | ((with_reducible show Same _ (upd _ _ _)); first
    | with_reducible exact same_new (by walk_at "sm") (by assumption)
    | with_reducible exact same_mut (by walk_at "sm") (by assumption))
  | ((with_reducible refine same_trans (by assumption) ?_); walk_at "sm"))
local macro_rules | `(tactic| walk_at "bt") => `(tactic| first
  | with_reducible assumption
  | with_reducible exact But.refl _ _
  | with_reducible exact But.of (by assumption)
  | ((with_reducible show But _ _ (upd _ _ _)); first
    | ((with_reducible refine But.mut ?_); walk_at "bt")
    | with_reducible exact But.new (by walk_at "bt") (by assumption)
    | with_reducible exact But.mutF (by walk_at "bt") (by assumption))
  | ((with_reducible refine but_trans (by assumption) ?_); walk_at "bt")
  | ((with_reducible refine but_trans (But.of (by assumption)) ?_); walk_at "bt"))
local macro_rules | `(tactic| walk_at "kn") => `(tactic| first
  | with_reducible assumption
  | exact True.intro
  | with_reducible exact Kn.same (by assumption) (by walk_at "kn")
  | with_reducible exact Kn.same (same_new (Same.refl _) (by assumption)) (by walk_at "kn"))
local macro_rules | `(tactic| walk_at "h1") => `(tactic| first
  | with_reducible refine x_seq ?_
  | with_reducible refine x_next ?_
  | with_reducible refine x_drop ?_
  | with_reducible refine x_ret ?_
  | with_reducible refine x_retN ?_
  | with_reducible refine x_ifs ?_
  | with_reducible refine x_asg ?_
  | with_reducible refine x_gname ?_
  | with_reducible refine x_gsub ?_
  | ((with_reducible show tVar _ _ _ _); with_reducible refine x_var (by with_unfolding_all rfl) ?_)
  | with_reducible refine x_c ?_
  | with_reducible refine x_op ?_
  | with_reducible refine x_un ?_
  | with_reducible refine x_i0 ?_
  | ((with_reducible show rI _ _ (V.int _) (V.int _) _ _); with_reducible refine x_i (by with_unfolding_all (first | assumption | decide | (show (0 : Int) < _; first | assumption | decide | omega) | exact ⟨by first | assumption | decide | omega, by first | assumption | decide | omega⟩ | exact Or.inl ⟨by first | decide | omega, by first | decide | omega⟩ | exact Or.inr ⟨by first | decide | omega, by first | decide | omega⟩)) ?_)
  | with_reducible refine x_u ?_
  | with_reducible refine x_isN0 ?_
  | with_reducible refine x_isN1 ?_
  | with_reducible refine x_isN2 ?_
  | with_reducible refine x_isN3 ?_
  | with_reducible refine x_isN4 ?_
  | with_reducible refine x_notN0 ?_
  | with_reducible refine x_notN1 ?_
  | with_reducible refine x_notN2 ?_
  | with_reducible refine x_notN3 ?_
  | with_reducible refine x_notN4 ?_
  | with_reducible refine x_eqB ?_
  | with_reducible refine x_neB ?_
  | with_reducible refine x_eqS ?_
  | with_reducible refine x_eqI ?_
  | with_reducible refine x_neI ?_
  | ((with_reducible show rEq _ _ _ _); with_reducible refine x_eq (by with_unfolding_all rfl) ?_)
  | ((with_reducible show rNe _ _ _ _); with_reducible refine x_ne (by with_unfolding_all rfl) ?_)
  | ((with_reducible show rIxL _ (V.ref _) (V.int _) _ _); with_reducible refine x_ixL (by walk_at "hl") (by first | assumption | with_unfolding_all exact atI_nat (j := 0) rfl | with_unfolding_all exact atI_nat (j := 1) rfl | with_unfolding_all rfl) ?_)
  | ((with_reducible show rIxT _ (V.ref _) (V.int _) _ _); with_reducible refine x_ixT (by walk_at "ht") (by first | assumption | with_unfolding_all exact atI_nat (j := 0) rfl | with_unfolding_all exact atI_nat (j := 1) rfl | with_unfolding_all rfl) ?_)
  | ((with_reducible show rIx _ (V.ref _) (V.int _) _ _); first
    | with_reducible refine x_ixSL (by walk_at "hl") (by first | assumption | with_unfolding_all exact atI_nat (j := 0) rfl | with_unfolding_all exact atI_nat (j := 1) rfl | with_unfolding_all rfl) ?_
    | with_reducible refine x_ixST (by walk_at "ht") (by first | assumption | with_unfolding_all exact atI_nat (j := 0) rfl | with_unfolding_all exact atI_nat (j := 1) rfl | with_unfolding_all rfl) ?_)
  | ((with_reducible show rSetL (V.ref _) (V.int _) _ _ _); with_reducible refine x_setL (by walk_at "hu") (by first | assumption | with_unfolding_all rfl) ?_)
  | with_reducible refine x_test ?_
  | with_reducible refine x_b ?_
  | with_reducible refine x_isb ?_
  | ((with_reducible show if decide _ = true then _ else _); with_reducible refine x_isdT (by first | with_unfolding_all rfl | with_unfolding_all decide) ?_)
  | ((with_reducible show if decide _ = true then _ else _); with_reducible refine x_isdF (by with_unfolding_all decide) ?_)
  | with_reducible refine x_isi ?_
  | with_reducible refine x_and ?_
  | with_reducible refine x_or ?_
  | with_reducible refine x_not ?_
  | with_reducible refine x_andV ?_
  | with_reducible refine x_orV ?_
  | with_reducible refine x_notV ?_
  | with_reducible refine x_ifx ?_
  | with_reducible refine x_nil ?_
  | with_reducible refine x_cons ?_
  | with_reducible refine x_cb ?_
  | with_reducible refine x_call ?_
  | with_reducible refine x_lst ?_
  | with_reducible refine x_tup ?_
  | with_reducible refine x_sl ?_
  | with_reducible refine x_nopart ?_
  | with_reducible refine x_part ?_
  | ((with_reducible show rSlL _ (V.ref _) _ _ _ _); with_reducible refine x_slL (by walk_at "hl") ?_)
  | with_reducible refine x_listRg1 ?_
  | with_reducible refine x_listRg2 ?_
  | with_reducible refine x_tupRg1 ?_
  | with_reducible refine x_ij ?_
  | ((with_reducible show tyV _ "list" (V.ref _) _ ∧ _); with_reducible refine x_tyL (by walk_at "hl") ?_)
  | with_reducible refine x_bm ?_
  | with_reducible refine x_bm0 ?_
  | with_reducible refine x_fldQ ?_
  | with_reducible refine x_par ?_
  | with_reducible refine x_par2 ?_
  | with_reducible refine x_chain ?_
  | ((with_reducible show tAug _ _ _ _ _ _); with_reducible refine x_aug (by with_unfolding_all rfl) ?_)
  | with_reducible refine x_ipI ?_
  | with_reducible refine x_for ?_
  | with_reducible refine x_while ?_
  | with_reducible refine x_ent ?_
  | with_reducible refine x_enl ?_
  | with_reducible refine x_isBk ?_
  | with_reducible refine x_notBk ?_
  | with_reducible refine x_mko ?_
  | with_reducible refine x_sfld ?_
  | with_reducible refine x_ost ?_
  | ((with_reducible show gTup _ _ _ (V.ref _) _ _ _); with_reducible refine x_gtup (by walk_at "ht") (by with_unfolding_all rfl) ?_)
  | with_reducible refine x_gcons ?_
  | with_reducible refine x_gnil ?_
  | with_reducible refine x_lc ?_
  | with_reducible refine x_lc2 ?_
  | with_reducible refine x_ilist ?_
  | with_reducible refine x_itup ?_
  | with_reducible refine x_rng1 ?_
  | with_reducible refine x_rng2v ?_
  | with_reducible refine x_irngV ?_
  | with_reducible refine x_star ?_
  | with_reducible refine x_rng2 ?_
  | with_reducible refine x_yes ?_
  | ((with_reducible show rLen _ [V.ref _] _ _); with_reducible refine x_lenL (by walk_at "hl") ?_)
  | ((with_reducible show rLen _ [V.ref _] _ _); with_reducible refine x_lenT (by walk_at "ht") ?_)
  | ((with_reducible show rListOf _ [V.ref _] _ _); with_reducible refine x_listL (by walk_at "hl") ?_)
  | ((with_reducible show rListOf _ [V.ref _] _ _); with_reducible refine x_listT (by walk_at "ht") ?_)
  | ((with_reducible show rTupOf _ [V.ref _] _ _); with_reducible refine x_tupL (by walk_at "hl") ?_)
  | ((with_reducible show rTupOf _ [V.ref _] _ _); with_reducible refine x_tupT (by walk_at "ht") ?_)
  | ((with_reducible show List.length _ ≤ sizeLine ∧ _); with_reducible refine And.intro (szLe (by with_unfolding_all (simp only [List.length_cons, List.length_nil]; decide))) ?_)
  | with_reducible refine x_int1 ?_
  | with_reducible refine x_abs ?_
  | with_reducible refine isi_non_int ?_
  | with_reducible refine isi_bl_int ?_
  | with_reducible refine isi_int_int ?_
  | with_reducible refine isi_str_int ?_
  | ((with_reducible show rIsi _ [V.ref _, V.ty "int"] _ _); first | with_reducible refine isi_lst_int (by walk_at "hu") ?_ | with_reducible refine isi_tup_int (by walk_at "hu") ?_ | with_reducible refine isi_dK_int (by walk_at "hu") ?_)
  | with_reducible refine isi_non_bool ?_
  | with_reducible refine isi_bl_bool ?_
  | with_reducible refine isi_int_bool ?_
  | with_reducible refine isi_str_bool ?_
  | ((with_reducible show rIsi _ [V.ref _, V.ty "bool"] _ _); first | with_reducible refine isi_lst_bool (by walk_at "hu") ?_ | with_reducible refine isi_tup_bool (by walk_at "hu") ?_ | with_reducible refine isi_dK_bool (by walk_at "hu") ?_)
  | with_reducible refine isi_non_tuple ?_
  | with_reducible refine isi_bl_tuple ?_
  | with_reducible refine isi_int_tuple ?_
  | with_reducible refine isi_str_tuple ?_
  | ((with_reducible show rIsi _ [V.ref _, V.ty "tuple"] _ _); first | with_reducible refine isi_lst_tuple (by walk_at "hu") ?_ | with_reducible refine isi_tup_tuple (by walk_at "hu") ?_ | with_reducible refine isi_dK_tuple (by walk_at "hu") ?_)
  | with_reducible refine isi_non_list ?_
  | with_reducible refine isi_bl_list ?_
  | with_reducible refine isi_int_list ?_
  | with_reducible refine isi_str_list ?_
  | ((with_reducible show rIsi _ [V.ref _, V.ty "list"] _ _); first | with_reducible refine isi_lst_list (by walk_at "hu") ?_ | with_reducible refine isi_tup_list (by walk_at "hu") ?_ | with_reducible refine isi_dK_list (by walk_at "hu") ?_)
  | with_reducible refine isi_non_dict ?_
  | with_reducible refine isi_bl_dict ?_
  | with_reducible refine isi_int_dict ?_
  | with_reducible refine isi_str_dict ?_
  | ((with_reducible show rIsi _ [V.ref _, V.ty "dict"] _ _); first | with_reducible refine isi_lst_dict (by walk_at "hu") ?_ | with_reducible refine isi_tup_dict (by walk_at "hu") ?_ | with_reducible refine isi_dK_dict (by walk_at "hu") ?_)
  | with_reducible refine isi_non_str ?_
  | with_reducible refine isi_bl_str ?_
  | with_reducible refine isi_int_str ?_
  | with_reducible refine isi_str_str ?_
  | ((with_reducible show rIsi _ [V.ref _, V.ty "str"] _ _); first | with_reducible refine isi_lst_str (by walk_at "hu") ?_ | with_reducible refine isi_tup_str (by walk_at "hu") ?_ | with_reducible refine isi_dK_str (by walk_at "hu") ?_)
  | ((with_reducible show rIsi _ [_, V.ty "int"] _ _); with_reducible refine x_isInt (by walk_at "kn") ?_)
  | ((with_reducible show rIsi _ [_, V.ty "bool"] _ _); with_reducible refine x_isBl (by walk_at "kn") ?_)
  | with_reducible refine x_nF ?_
  | with_reducible refine x_nT ?_
  | with_reducible refine iteT ?_
  | with_reducible refine iteF ?_)
local macro_rules | `(tactic| walk_at "hs") => `(tactic| repeat (walk_at "h1"; try dsimp only [Bool.not_true, Bool.not_false]))
local macro_rules | `(tactic| walk_at "h0") => `(tactic| ((try dsimp only [cxOf, L2.start, List.map_cons, List.map_nil, List.length_cons, List.length_nil, List.replicate, List.cons_append, List.nil_append, Nat.reduceAdd, Nat.reduceSub]); walk_at "hs"))

theorem sc__law_draw : FnScope ["_law_pool_here", "_law_many", "_law_digit", "_law_cell", "_law_number"] ["_law_pool_here", "_law_many"] (defScope s__law_draw) := ⟨rfl, rfl, rfl, by decide +kernel, rfl, by decide +kernel, by decide +kernel⟩
def PoolAt (H : Hp) (p : Addr) (F : Addr → Prop) : Prop := (∃ (g s : Addr) (gs ss : List Int) (c n : Int), H p = some (.lst [.ref g, .ref s, .int c, .int n]) ∧ H g = some (.lst (gs.map V.int)) ∧ H s = some (.lst (ss.map V.int)) ∧ g ≠ p ∧ s ≠ p ∧ ¬ F g ∧ ¬ F s ∧ ¬ F p) ∧ ∀ a, F a → ∃ o, H a = some o
def spDraw : Sp := fun vs H Q _ => ∃ (p : Addr) (m : Int) (F : Addr → Prop), vs = [.ref p, .int m] ∧ PoolAt H p F ∧ 0 < m ∧ m < 1073741824 ∧ ∀ (d : Int) H', 0 ≤ d → d < m → But p H H' → PoolAt H' p F → Q (.int d) H'
theorem prot {H H' : Hp} {p : Addr} {F : Addr → Prop} (b : But p H H') (h : ∀ a, F a → ∃ o, H a = some o) (n : ¬ F p) : ∀ a, F a → ∃ o, H' a = some o := fun a ha => by
  obtain ⟨o, e⟩ := h a ha
  exact ⟨o, b a o (fun z => n (z ▸ ha)) e⟩
section
variable {P : Program} {w : World} {K : PySem.W.Frag} {mg : Str → Option Value} {base : Heap} {Z : Ad}
theorem ok_draw {f : Addr} {fd : FuncData} (F : Fun K "_law_draw" "_law_draw" s__law_draw f fd) (B : Bl Z mg) : FnOk P w K mg base CX0 1 f fd ["_law_pool_here", "_law_many"] spDraw := by
  refine F.ok sc__law_draw (fun vs H Q E h => ?_) (fun cdv A outer s H vs Q E hr h => ?_)
  · obtain ⟨p, m, F, rfl, _⟩ := h
    rfl
  · obtain ⟨p, m, Fo, rfl, ⟨⟨g, z, gs, ss, c, n, hp, hg, hz, ng, nz, fg, fz, fp⟩, hF⟩, m0, m1, q⟩ := h
    refine ⟨_, (C8.pss_cut (ps_if (PW.pt (pw_and (pt_cmpR op_le (pe_ix (ix_listK (K := K) rfl) (pv 0) pe_int (fun _ _ => rfl)) pe_int (nomark _)) (pw_and1 (pt_cmpR op_gt (pe_callB (call_lenK (K := K) rfl) (by rfl) B.b_len PySem.boot_len (pa_cons (pe_ix (ix_listK (K := K) rfl) (pv 0) pe_int (fun _ _ => rfl)) pa_nil)) pe_int (nomark _))))) (pss_cons (ps_asg (pe_ix (ix_listK (K := K) rfl) (pe_ix (ix_listK (K := K) rfl) (pv 0) pe_int (fun _ _ => rfl)) pe_int (fun _ _ => rfl)) (pg_sub (pv 0) pe_int set_list))
 (pss_one (ps_asg (pe_slice (sl_listK (K := K) rfl) (pe_ix (ix_listK (K := K) rfl) (pv 0) pe_int (fun _ _ => rfl)) (po_some pe_int) po_none) (pg_sub (pv 0) pe_int set_list)))) pss_nil)
 (pss_cons (ps_if (pt_cmpR op_gt (pe_ix (ix_listK (K := K) rfl) (pv 0) pe_int (fun _ _ => rfl)) pe_int (nomark _)) (pss_cons (ps_set (i := 2) sc__law_draw.nd rfl (Or.inl rfl) (pe_op op_mod (pe_callTy call_int (by rfl) B.b_int (by decide +kernel) (pa_cons (pe_ix (ix_listK (K := K) rfl) (pv 0) pe_int (fun _ _ => rfl)) pa_nil)) (pv 1)))
 (pss_cons (ps_asg (pe_op op_fdiv (pe_ix (ix_listK (K := K) rfl) (pv 0) pe_int (fun _ _ => rfl)) (pv 1)) (pg_sub (pv 0) pe_int set_list))
 (pss_one (ps_ret (pv 2))))) pss_nil)
 (pss_cons (ps_asg (pe_op op_add (pe_ix (ix_listK (K := K) rfl) (pv 0) pe_int (fun _ _ => rfl)) pe_int) (pg_sub (pv 0) pe_int set_list))
 (pss_cons (ps_set (i := 3) sc__law_draw.nd rfl (Or.inl rfl) pe_int)
 (C8.pss_cut (ps_if (pt_cmpR op_gt (pe_callB (call_lenK (K := K) rfl) (by rfl) B.b_len PySem.boot_len (pa_cons (pe_ix (ix_listK (K := K) rfl) (pv 0) pe_int (fun _ _ => rfl)) pa_nil)) pe_int (nomark _)) (pss_one (ps_set (i := 3) sc__law_draw.nd rfl (Or.inl rfl) (pe_ix (ix_listK (K := K) rfl) (pe_ix (ix_listK (K := K) rfl) (pv 0) pe_int (fun _ _ => rfl)) (pe_op op_mod (pe_callTy call_int (by rfl) B.b_int (by decide +kernel) (pa_cons (pe_ix (ix_listK (K := K) rfl) (pv 0) pe_int (fun _ _ => rfl)) pa_nil)) (pe_callB (call_lenK (K := K) rfl) (by rfl) B.b_len PySem.boot_len (pa_cons (pe_ix (ix_listK (K := K) rfl) (pv 0) pe_int (fun _ _ => rfl)) pa_nil))) (fun _ _ => rfl)))) pss_nil)
 (pss_cons (ps_set (i := 4) sc__law_draw.nd rfl (Or.inl rfl) (pe_op op_mod (pe_callTy call_int (by rfl) B.b_int (by decide +kernel) (pa_cons (pe_op op_mul (pe_op op_add (pe_op op_add (pv 3) (pe_op op_mul pe_int (pe_ix (ix_listK (K := K) rfl) (pv 0) pe_int (fun _ _ => rfl)))) pe_int) pe_int) pa_nil)) pe_int))
 (pss_cons (ps_set (i := 4) sc__law_draw.nd rfl (Or.inl rfl) (pe_op op_mod (pe_callTy call_int (by rfl) B.b_int (by decide +kernel) (pa_cons (pe_op op_mul (pv 4) (pe_op op_add (pe_op op_fdiv (pv 4) pe_int) pe_int)) pa_nil)) pe_int))
 (pss_cons (ps_set (i := 4) sc__law_draw.nd rfl (Or.inl rfl) (pe_op op_mod (pe_callTy call_int (by rfl) B.b_int (by decide +kernel) (pa_cons (pe_op op_mul (pv 4) (pe_op op_add (pe_op op_fdiv (pv 4) pe_int) pe_int)) pa_nil)) pe_int))
 (pss_one (ps_ret (pe_op op_mod (pe_callTy call_int (by rfl) B.b_int (by decide +kernel) (pa_cons (pe_op op_fdiv (pv 4) pe_int) pa_nil)) (pv 1)))))))))))), ?_⟩
    walk_at "h0"
    refine ⟨fun σ' H' => σ' = [some (.ref p), some (.int m), none, none, none] ∧ But p H H' ∧ PoolAt H' p Fo, ?_, ?_⟩
    · walk_at "hs"
      refine x_isd (fun c1 => ?_) (fun c1 => ?_)
      · walk_at "hs"
        refine x_isd (fun c2 => ?_) (fun c2 => ?_)
        · cases gs with
          | nil => exact absurd c2 (by decide)
          | cons g0 gs =>
            walk_at "hs"
            intro a ha
            walk_at "hs"
            refine ⟨rfl, by walk_at "bt", ⟨a, z, gs, ss, g0, n, upd_same, ?_, by walk_at "hu", by walk_at "ne", nz, fun fa => ?_, fz, fp⟩, prot (by walk_at "bt") hF fp⟩
            · refine keepM (by walk_at "ne") ?_
              rw [upd_same, cut1]
              rfl
            · obtain ⟨o, e⟩ := hF a fa
              rw [upd_ne (by walk_at "ne"), e] at ha
              cases ha
        · walk_at "hs"
          exact ⟨rfl, But.refl _ _, ⟨g, z, gs, ss, c, n, hp, hg, hz, ng, nz, fg, fz, fp⟩, hF⟩
      · walk_at "hs"
        exact ⟨rfl, But.refl _ _, ⟨g, z, gs, ss, c, n, hp, hg, hz, ng, nz, fg, fz, fp⟩, hF⟩
    · rintro σ' H1 ⟨rfl, b1, ⟨g, z, gs, ss, c, n, hp, hg, hz, ng, nz, fg, fz, fp⟩, hF⟩
      walk_at "hs"
      refine x_isd (fun c1 => ?_) (fun c1 => ?_)
      · walk_at "hs"
        exact q _ _ (Int.emod_nonneg _ (by omega)) (Int.emod_lt_of_pos _ m0) (by walk_at "bt") ⟨⟨g, z, gs, ss, c / m, n, upd_same, by walk_at "hu", by walk_at "hu", ng, nz, fg, fz, fp⟩, prot (But.mut (But.refl _ _)) hF fp⟩
      · walk_at "hs"
        refine ⟨fun σ' H' => ∃ k : Int, σ' = [some (.ref p), some (.int m), none, some (.int k), none] ∧ H' = upd H1 p (.lst [.ref g, .ref z, .int c, .int (n + 1)]), ?_, ?_⟩
        · walk_at "hs"
          refine x_isd (fun c2 => ?_) (fun c2 => ?_)
          · walk_at "hs"
            obtain ⟨v, hv, hm⟩ := at_mod (xs := ss.map V.int) (z := n + 1) (by omega)
            obtain ⟨k, _, rfl⟩ := List.mem_map.mp hm
            walk_at "hs"
            exact ⟨_, rfl, rfl⟩
          · walk_at "hs"
            exact ⟨_, rfl, rfl⟩
        · rintro σ' H2 ⟨k, rfl, rfl⟩
          walk_at "hs"
          exact q _ _ (Int.emod_nonneg _ (by omega)) (Int.emod_lt_of_pos _ m0) (by walk_at "bt") ⟨⟨g, z, gs, ss, c, n + 1, upd_same, by walk_at "hu", by walk_at "hu", ng, nz, fg, fz, fp⟩, prot (But.mut (But.refl _ _)) hF fp⟩
end
set_option maxRecDepth 100000
set_option maxHeartbeats 1000000
open PySem PySem.Spec L2


theorem sc__law_pool : FnScope ["_law_script", "_law_great", "_law_small", "_law_cell"] ["_law_script"] (defScope s__law_pool) := ⟨rfl, rfl, rfl, by decide +kernel, rfl, by decide +kernel, by decide +kernel⟩
theorem sc__law_pick : FnScope ["_law_pool_here", "_law_things"] ["_law_pool_here", "_law_things"] (defScope s__law_pick) := ⟨rfl, rfl, rfl, by decide +kernel, rfl, by decide +kernel, by decide +kernel⟩
section
variable {P : Program} {w : World} {K : PySem.W.Frag} {mg : Str → Option Value} {base : Heap} {Z : Ad}

theorem PoolAt.same {H H' : Hp} {p : Addr} {F : Addr → Prop} (s : Same H H') (h : PoolAt H p F) : PoolAt H' p F := by
  obtain ⟨⟨g, z, gs, ss, c, n, hp, hg, hz, r⟩, hF⟩ := h
  exact ⟨⟨g, z, gs, ss, c, n, s _ _ hp, s _ _ hg, s _ _ hz, r⟩, fun a ha => by
    obtain ⟨o, e⟩ := hF a ha
    exact ⟨o, s _ _ e⟩⟩
theorem PoolAt.ne {H : Hp} {p q : Addr} {F : Addr → Prop} (h : PoolAt H p F) (hq : H q = none) : q ≠ p := by
  obtain ⟨⟨g, z, gs, ss, c, n, hp, _⟩, _⟩ := h
  exact ne_none' hq hp
theorem PoolAt.neF {H : Hp} {p q : Addr} {F : Addr → Prop} (h : PoolAt H p F) (hq : F q) : q ≠ p := by
  obtain ⟨⟨g, z, gs, ss, c, n, hp, hg, hz, ng, nz, fg, fz, fp⟩, _⟩ := h
  exact fun e => fp (e ▸ hq)
theorem PoolAt.newH {H : Hp} {p q : Addr} {o : HO} {F : Addr → Prop} (h : PoolAt H p F) (hq : H q = none) : PoolAt (upd H q o) p F := h.same (same_new (Same.refl H) hq)
theorem PoolAt.own {H : Hp} {p q : Addr} {o : HO} {F : Addr → Prop} (h : PoolAt H p F) (hq : H q = none) : PoolAt (upd H q o) p (fun a => a = q ∨ F a) := by
  obtain ⟨⟨g, z, gs, ss, c, n, hp, hg, hz, ng, nz, fg, fz, fp⟩, hF⟩ := h
  refine ⟨⟨g, z, gs, ss, c, n, keepN hp hq, keepN hg hq, keepN hz hq, ng, nz, fun e => ?_, fun e => ?_, fun e => ?_⟩, fun a ha => ?_⟩
  · exact e.elim (ne_of_none hg hq) fg
  · exact e.elim (ne_of_none hz hq) fz
  · exact e.elim (ne_of_none hp hq) fp
  · rcases ha with rfl | ha
    · exact ⟨o, upd_same⟩
    · obtain ⟨u, e⟩ := hF a ha
      exact ⟨u, keepN e hq⟩
theorem PoolAt.mut {H : Hp} {p q : Addr} {o : HO} {F : Addr → Prop} (h : PoolAt H p F) (hq : F q) : PoolAt (upd H q o) p F := by
  obtain ⟨⟨g, z, gs, ss, c, n, hp, hg, hz, ng, nz, fg, fz, fp⟩, hF⟩ := h
  refine ⟨⟨g, z, gs, ss, c, n, keepM (fun e => fp (e ▸ hq)) hp, keepM (fun e => fg (e ▸ hq)) hg, keepM (fun e => fz (e ▸ hq)) hz, ng, nz, fg, fz, fp⟩, fun a ha => ?_⟩
  by_cases e : a = q
  · exact ⟨o, by rw [e, upd_same]⟩
  · obtain ⟨u, hu⟩ := hF a ha
    exact ⟨u, keepM e hu⟩
theorem PoolAt.weak {H : Hp} {p : Addr} {F G : Addr → Prop} (h : PoolAt H p F) (w : ∀ a, G a → F a) : PoolAt H p G := by
  obtain ⟨⟨g, z, gs, ss, c, n, hp, hg, hz, ng, nz, fg, fz, fp⟩, hF⟩ := h
  exact ⟨⟨g, z, gs, ss, c, n, hp, hg, hz, ng, nz, fun e => fg (w _ e), fun e => fz (w _ e), fun e => fp (w _ e)⟩, fun a ha => hF a (w a ha)⟩
def spPool (K : PySem.W.Frag) : Sp := fun vs H Q _ => ∃ (a : Addr) (ns : List Int), vs = [.ref a] ∧ SqL K H a (ns.map V.int) ∧ ns.length ≤ 63 ∧ ∀ p H', Same H H' → H p = none → PoolAt H' p (fun _ => False) → Q (.ref p) H'
theorem ok_pool {f : Addr} {fd : FuncData} (F : Fun K "_law_pool" "_law_pool" s__law_pool f fd) (B : Bl Z mg) : FnOk P w K mg base CX0 1 f fd ["_law_script"] (spPool K) := by
  refine F.ok sc__law_pool (fun vs H Q E h => ?_) (fun cdv A outer s H vs Q E hr h => ?_)
  · obtain ⟨a, ns, rfl, _⟩ := h
    rfl
  · obtain ⟨a, ns, rfl, hS, hl, q⟩ := h
    refine ⟨_, (pss_cons (ps_setLc (i := 1) (own := [("_law_cell", 3)]) rfl sc__law_pool.nd rfl rfl (sw_true rfl rfl rfl (by decide +kernel)) (pi_list (pe_slice (sl_listK (K := K) rfl) (pv 0) po_none (po_some pe_int))) (blkOk_by (N := ["_law_script", "_law_great", "_law_small", "_law_cell"]) (sc := defScope s__law_pool) (by decide +kernel)) (fun _ _ _ _ _ => (pg_name (i := 3) sc__law_pool.nd rfl (Or.inl rfl))) (fun _ _ _ _ _ => (pts_one (pt_cmpR op_ge (pe_callB call_ab (by rfl) B.b_abs (by decide +kernel) (pa_cons (pv 3) pa_nil)) (pe_op op_pow pe_int pe_int) (nomark _)))) (fun _ _ _ _ _ => (pe_callB call_ab (by rfl) B.b_abs (by decide +kernel) (pa_cons (pv 3) pa_nil))))
 (pss_cons (ps_setLc (i := 2) (own := [("_law_cell", 3)]) rfl sc__law_pool.nd rfl rfl (sw_true rfl rfl rfl (by decide +kernel)) (pi_list (pe_slice (sl_listK (K := K) rfl) (pv 0) po_none (po_some pe_int))) (blkOk_by (N := ["_law_script", "_law_great", "_law_small", "_law_cell"]) (sc := defScope s__law_pool) (by decide +kernel)) (fun _ _ _ _ _ => (pg_name (i := 3) sc__law_pool.nd rfl (Or.inl rfl))) (fun _ _ _ _ _ => (pts_one (pt_cmpR op_lt (pe_callB call_ab (by rfl) B.b_abs (by decide +kernel) (pa_cons (pv 3) pa_nil)) (pe_op op_pow pe_int pe_int) (nomark _)))) (fun _ _ _ _ _ => (pe_op op_mod (pe_callTy call_int (by rfl) B.b_int (by decide +kernel) (pa_cons (pv 3) pa_nil)) pe_int)))
 (pss_one (ps_ret (pe_lst (pa_cons (pv 1) (pa_cons (pv 2) (pa_cons pe_int (pa_cons pe_int pa_nil))))))))), ?_⟩
    have fin : ∀ (p1 p2 : Addr) (g z : List Int) H1, Same H H1 → H p1 = none → H p2 = none → H1 p1 = some (.lst (g.map V.int)) → H1 p2 = some (.lst (z.map V.int)) → ∀ p, H1 p = none → Q (.ref p) (upd H1 p (.lst [.ref p1, .ref p2, .int 0, .int 0])) := fun p1 p2 g z H1 s1 n1 n2 e1 e2 p hp => by
      refine q p _ (by walk_at "sm") (s1.free hp) ⟨⟨p1, p2, g, z, 0, 0, upd_same, by walk_at "hu", by walk_at "hu", by walk_at "ne", by walk_at "ne", fun e => e, fun e => e, fun e => e⟩, fun a e => e.elim⟩
    walk_at "h0"
    intro c hc
    refine ⟨c, rfl, ⟨_, SqL.of upd_same⟩, fun D hD => ?_⟩
    have hcD : D ≠ c := by walk_at "ne"
    have nD : H D = none := Same.free (H' := upd H c _) (same_new (Same.refl _) hc) hD
    have hsz : (cutV (ns.map V.int) none (some 63)).length ≤ 63 := Nat.le_trans (cutV_length _ _ _) (by rw [List.length_map]; exact hl)
    have hints : ∀ x ∈ cutV (ns.map V.int) none (some 63), ∃ n : Int, x = .int n := fun x hx => by
      obtain ⟨n, _, rfl⟩ := List.mem_map.mp (List.mem_of_mem_drop (List.mem_of_mem_take hx))
      exact ⟨n, rfl⟩
    refine lc_list (K := K) (a := c) (xs := cutV (ns.map V.int) none (some 63)) (fun i H' => ∃ g : List Int, g.length ≤ i ∧ Same H H' ∧ H' c = some (.lst (cutV (ns.map V.int) none (some 63))) ∧ H' D = some (.lst (g.map V.int)))
      ⟨[], Nat.le_refl _, by walk_at "sm", by walk_at "hu", upd_same⟩ (fun i H' _ ⟨_, _, _, e, _⟩ => SqL.of e) ?_ ?_
    · rintro i x H' hx ⟨g, hg, s', ec, eD⟩
      obtain ⟨n, rfl⟩ := hints x (List.mem_of_getElem? hx)
      walk_at "hs"
      refine ⟨rfl, ?_⟩
      walk_at "hs"
      refine x_isd (fun c1 => ?_) (fun c1 => ?_)
      · walk_at "hs"
        refine ⟨_, eD, szLt (by rw [List.length_map]; have := (List.getElem?_eq_some_iff.mp hx).1; omega), g ++ [if n < 0 then -n else n], by rw [List.length_append]; exact Nat.add_le_add_right hg 1, by walk_at "sm", by walk_at "hu", ?_⟩
        rw [upd_same, List.map_append]
        rfl
      · exact ⟨g, by omega, s', ec, eD⟩
    · rintro H1 ⟨g, hg, s1, ec, eD⟩
      walk_at "hs"
      intro c2 hc2
      have nc2 : H c2 = none := s1.free hc2
      refine ⟨c2, rfl, ⟨_, SqL.of upd_same⟩, fun D2 hD2 => ?_⟩
      have hcD2 : D2 ≠ c2 := by walk_at "ne"
      have nD2 : H D2 = none := s1.free (Same.free (H' := upd H1 c2 _) (same_new (Same.refl _) hc2) hD2)
      have nDD : D ≠ D2 := Ne.symm (ne_none' hD2 (keepN eD hc2))
      refine lc_list (K := K) (a := c2) (xs := cutV (ns.map V.int) none (some 63)) (fun i H' => ∃ z : List Int, z.length ≤ i ∧ Same H H' ∧ H' c2 = some (.lst (cutV (ns.map V.int) none (some 63))) ∧ H' D2 = some (.lst (z.map V.int)) ∧ H' D = some (.lst (g.map V.int)))
        ⟨[], Nat.le_refl _, same_mut (same_mut s1 nc2) nD2, by walk_at "hu", upd_same, by walk_at "hu"⟩ (fun i H' _ ⟨_, _, _, e, _⟩ => SqL.of e) ?_ ?_
      · rintro i x H' hx ⟨z, hz, s', ec, eD2, eD⟩
        obtain ⟨n, rfl⟩ := hints x (List.mem_of_getElem? hx)
        walk_at "hs"
        refine ⟨rfl, ?_⟩
        walk_at "hs"
        refine x_isd (fun c1 => ?_) (fun c1 => ?_)
        · walk_at "hs"
          refine ⟨_, eD2, szLt (by rw [List.length_map]; have := (List.getElem?_eq_some_iff.mp hx).1; omega), z ++ [n % 1000003], by rw [List.length_append]; exact Nat.add_le_add_right hz 1, by walk_at "sm", by walk_at "hu", ?_, by walk_at "hu"⟩
          rw [upd_same, List.map_append]
          rfl
        · exact ⟨z, by omega, s', ec, eD2, eD⟩
      · rintro H2 ⟨z, hz, s2, ec2, eD2, eD⟩
        walk_at "hs"
        exact fun p hp => fin D D2 g z H2 s2 nD nD2 eD eD2 p hp
def spPick (K : PySem.W.Frag) : Sp := fun vs H Q _ => ∃ (p t : Addr) (xs : List V) (F : Addr → Prop), vs = [.ref p, .ref t] ∧ PoolAt H p F ∧ SqL K H t xs ∧ t ≠ p ∧ 0 < xs.length ∧ xs.length ≤ 1000 ∧ ∀ x H', x ∈ xs → But p H H' → PoolAt H' p F → Q x H'
theorem ok_pick {f : Addr} {fd : FuncData} (F : Fun K "_law_pick" "_law_pick" s__law_pick f fd) (B : Bl Z mg) {f__law_draw : Addr} {fd__law_draw : FuncData} (C__law_draw : Cal K mg "_law_draw" f__law_draw fd__law_draw ["_law_pool_here", "_law_many"]) (G__law_draw : FnOk P w K mg base CX0 1 f__law_draw fd__law_draw ["_law_pool_here", "_law_many"] spDraw) : FnOk P w K mg base CX0 2 f fd ["_law_pool_here", "_law_things"] (spPick K) := by
  refine F.ok sc__law_pick (fun vs H Q E h => ?_) (fun cdv A outer s H vs Q E hr h => ?_)
  · obtain ⟨p, t, xs, Fo, rfl, _⟩ := h
    rfl
  · obtain ⟨p, t, xs, Fo, rfl, hp, ht, nt, h0, h1, q⟩ := h
    refine ⟨_, (pss_one (ps_ret (pe_ix (ix_listK (K := K) rfl) (pv 1) (pe_call G__law_draw (hr.mono (by first | decide | omega)) (by rfl) C__law_draw.g C__law_draw.k C__law_draw.b .nil pass0 (pa_cons (pv 0) (pa_cons (pe_callB (call_lenK (K := K) rfl) (by rfl) B.b_len PySem.boot_len (pa_cons (pv 1) pa_nil)) pa_nil))) (fun _ _ => rfl)))), ?_⟩
    walk_at "h0"
    refine ⟨p, _, Fo, rfl, hp, by omega, by omega, fun d H1 d0 d1 b1 p1 => ?_⟩
    obtain ⟨v, hv, hm⟩ := at_lt (xs := xs) d0 d1
    walk_at "hs"
    exact q _ _ hm b1 p1
end
set_option maxRecDepth 100000
set_option maxHeartbeats 1000000
open PySem PySem.Spec L2


theorem sc__law_is_number : FnScope ["_law_thing", "_law_least", "_law_most"] ["_law_thing", "_law_least", "_law_most"] (defScope s__law_is_number) := ⟨rfl, rfl, rfl, by decide +kernel, rfl, by decide +kernel, by decide +kernel⟩
theorem sc__law_deep : FnScope ["_law_thing", "_law_turn"] [] (defScope s__law_deep) := ⟨rfl, rfl, rfl, by decide +kernel, rfl, by decide +kernel, by decide +kernel⟩
theorem sc__law_is : FnScope ["_law_told", "_law_due", "_law_at", "_law_key"] ["_law_told", "_law_due"] (defScope s__law_is) := ⟨rfl, rfl, rfl, by decide +kernel, rfl, by decide +kernel, by decide +kernel⟩
theorem sc_is_within : FnScope ["least", "most", "thing"] ["least", "most", "thing"] (defScope s_is_within) := ⟨rfl, rfl, rfl, by decide +kernel, rfl, by decide +kernel, by decide +kernel⟩
section
variable {P : Program} {w : World} {K : PySem.W.Frag} {mg : Str → Option Value} {base : Heap} {Z : Ad}

def spNum (hi : Nat) : Sp := fun vs H Q _ => ∃ (x : V) (lo hi : Int), vs = [x, .int lo, .int hi] ∧ Kn H x ∧ Q (.bl (numV lo hi x)) H
theorem ok_number {f : Addr} {fd : FuncData} (F : Fun K "_law_is_number" "_law_is_number" s__law_is_number f fd) (B : Bl Z mg) : FnOk P w K mg base CX0 1 f fd ["_law_thing", "_law_least", "_law_most"] (spNum 0) := by
  refine F.ok sc__law_is_number (fun vs H Q E h => ?_) (fun cdv A outer s H vs Q E hr h => ?_)
  · obtain ⟨x, lo, hi, rfl, _⟩ := h
    rfl
  · obtain ⟨x, lo, hi, rfl, hk, q⟩ := h
    refine ⟨_, (pss_one (ps_ret (pe_and (pe_callB (call_isiK' (K := K) rfl) (by rfl) B.b_isinstance (by decide +kernel) (pa_cons (pv 0) (pa_cons (pe_bltn (v := .ty "int") (by rfl) B.b_int (by decide +kernel) rfl) pa_nil))) (pe_and (pe_not (pe_callB (call_isiK' (K := K) rfl) (by rfl) B.b_isinstance (by decide +kernel) (pa_cons (pv 0) (pa_cons (pe_bltn (v := .ty "bool") (by rfl) B.b_bool (by decide +kernel) rfl) pa_nil)))) (pe_one (pe_chain op_le op_le (pv 1) (pv 0) (pv 2))))))), ?_⟩
    walk_at "h0"
    cases x with
    | bl b =>
      refine iteT ?_
      walk_at "hs"
      exact q
    | int i =>
      refine iteT ?_
      walk_at "hs"
      refine x_isd (fun c => ?_) (fun c => ?_)
      · walk_at "hs"
        show Q (.bl (decide (i ≤ hi))) H
        have e : numV lo hi (.int i) = decide (i ≤ hi) := numT c
        rw [← e]
        exact q
      · have e : numV lo hi (.int i) = false := numF c
        rw [e] at q
        exact q
    | non => exact iteF q
    | str s => exact iteF q
    | ref a => exact iteF q
    | _ => exact hk.elim
def spWithin : Sp := fun vs H Q _ => ∃ (x : V) (lo hi : Int), vs = [.int lo, .int hi, x] ∧ Kn H x ∧ Q (.bl (numV lo hi x)) H
theorem ok_within {f : Addr} {fd : FuncData} (F : Fun K "is_within" "is_within" s_is_within f fd) (B : Bl Z mg) : FnOk P w K mg base CX0 1 f fd ["least", "most", "thing"] spWithin := by
  refine F.ok sc_is_within (fun vs H Q E h => ?_) (fun cdv A outer s H vs Q E hr h => ?_)
  · obtain ⟨x, lo, hi, rfl, _⟩ := h
    rfl
  · obtain ⟨x, lo, hi, rfl, hk, q⟩ := h
    refine ⟨_, (pss_cons (ps_if (PW.pt (pw_or (pt_not (pt_val (pe_callB (call_isiK' (K := K) rfl) (by rfl) B.b_isinstance (by decide +kernel) (pa_cons (pv 2) (pa_cons (pe_bltn (v := .ty "int") (by rfl) B.b_int (by decide +kernel) rfl) pa_nil))))) (pw_or1 (pt_val (pe_callB (call_isiK' (K := K) rfl) (by rfl) B.b_isinstance (by decide +kernel) (pa_cons (pv 2) (pa_cons (pe_bltn (v := .ty "bool") (by rfl) B.b_bool (by decide +kernel) rfl) pa_nil))))))) (pss_one (ps_ret pe_bl)) pss_nil)
 (pss_one (ps_ret (pe_chain op_le op_le (pv 0) (pv 2) (pv 1))))), ?_⟩
    walk_at "h0"
    cases x with
    | bl b =>
      walk_at "hs"
      refine iteF ?_
      walk_at "hs"
      exact q
    | int i =>
      refine iteF ?_
      walk_at "hs"
      refine x_isd (fun c => ?_) (fun c => ?_)
      · walk_at "hs"
        have e : numV lo hi (.int i) = decide (i ≤ hi) := numT c
        rw [← e]
        exact q
      · have e : numV lo hi (.int i) = false := numF c
        rw [e] at q
        exact q
    | non => exact iteT (iteT q)
    | str s => exact iteT (iteT q)
    | ref a => exact iteT (iteT q)
    | _ => exact hk.elim
def spDeep (K : PySem.W.Frag) : Sp := fun vs H Q _ => vs = [] ∧ ∀ (a : Addr) (x : V) H', Same H H' → H a = none → H' a = some (.lst [x]) → Al K H' 33 (.ref a) (.ref a) → Q (.ref a) H'
theorem ok_deep {f : Addr} {fd : FuncData} (F : Fun K "_law_deep" "_law_deep" s__law_deep f fd) (B : Bl Z mg) : FnOk P w K mg base CX0 1 f fd [] (spDeep K) := by
  refine F.ok sc__law_deep (fun vs H Q E h => ?_) (fun cdv A outer s H vs Q E hr h => ?_)
  · obtain ⟨rfl, _⟩ := h
    rfl
  · obtain ⟨rfl, q⟩ := h
    refine ⟨_, (pss_cons (ps_set (i := 0) sc__law_deep.nd rfl (Or.inl rfl) (pe_lst (pa_cons pe_non pa_nil)))
 (pss_cons (ps_for PassesOwn.never rfl (pi_range1 rfl B.b_range (pa_cons pe_int pa_nil)) (pg_name (i := 1) sc__law_deep.nd rfl (Or.inl rfl)) (pss_one (ps_set (i := 0) sc__law_deep.nd rfl (Or.inl rfl) (pe_ifExp (pt_cmpR op_eq (pe_op op_mod (pe_callTy call_int (by rfl) B.b_int (by decide +kernel) (pa_cons (pv 1) pa_nil)) pe_int) pe_int (nomark _)) (pe_tup (pa_cons (pv 0) pa_nil)) (pe_lst (pa_cons (pv 0) pa_nil))))))
 (pss_one (ps_ret (pv 0))))), ?_⟩
    walk_at "h0"
    intro a0 h0
    walk_at "hs"
    refine ⟨32, rfl, by decide, by decide, ?_⟩
    refine lp_range (lo := 0) (n := 32) (fun i σ' H' => ∃ (a : Addr) (x : V) (y : Option V), σ' = [some (.ref a), y] ∧ Same H H' ∧ H a = none ∧ (H' a = some (.lst [x]) ∧ i % 2 = 0 ∨ H' a = some (.tup [x]) ∧ i % 2 = 1) ∧ Al K H' (i + 1) (.ref a) (.ref a))
      ⟨a0, .non, none, rfl, by walk_at "sm", h0, .inl ⟨upd_same, rfl⟩, Al.lst1 upd_same upd_same (Al.sca rfl)⟩ ?_ ?_
    · rintro i σ' H' hi ⟨a, x, y, rfl, s1, na, e1, al⟩
      walk_at "hs"
      refine x_isd (fun c => ?_) (fun c => ?_)
      · walk_at "hs"
        intro b hb
        walk_at "hs"
        exact ⟨b, .ref a, _, rfl, by walk_at "sm", s1.free hb, .inr ⟨upd_same, by omega⟩, Al.tup1 upd_same upd_same (al.same (same_new (Same.refl _) hb))⟩
      · walk_at "hs"
        intro b hb
        walk_at "hs"
        exact ⟨b, .ref a, _, rfl, by walk_at "sm", s1.free hb, .inl ⟨upd_same, by omega⟩, Al.lst1 upd_same upd_same (al.same (same_new (Same.refl _) hb))⟩
    · rintro σ' H' ⟨a, x, y, rfl, s1, na, e1, al⟩
      walk_at "hs"
      rcases e1 with ⟨e1, _⟩ | ⟨_, e2⟩
      · exact q _ _ _ s1 na e1 al
      · exact absurd e2 (by decide)
def spIs (K : PySem.W.Frag) (n : Nat) : Sp := fun vs H Q _ => ∃ (x y : V), vs = [x, y] ∧ Al K H n x y ∧ ∀ H', Same H H' → Q (.bl true) H'
theorem fnF {f : Addr} {fd : FuncData} {ps : List Str} : FnOk P w K mg base CX0 1 f fd ps (fun _ _ _ _ => False) := ⟨fun _ _ _ _ h => h.elim, fun _ _ _ _ _ _ _ _ _ _ _ _ _ h => h.elim⟩
theorem is_sca {f : Addr} {fd : FuncData} (F : Fun K "_law_is" "_law_is" s__law_is f fd) (B : Bl Z mg) {x : V} {cdv : Value} {A : Around} {outer : List Env} {s : Shared} {H : Hp} {Q : VK} {E : XK} {j : Nat} (G__law_is : FnOk P w K mg base CX0 1 f fd ["_law_told", "_law_due"] (fun _ _ _ _ => False)) (C__law_is : Cal K mg "_law_is" f fd ["_law_told", "_law_due"]) (hs : sca x = true) (q : ∀ H', Same H H' → Q (.bl true) H') (hr : Room (j + 1) (A.deeper (PyProof.Rows.envOfC "_law_is" (defScope s__law_is) s.heap.objs.size f cdv))) :
    ∃ t, PSs (cxOf CX0 P w K mg base ["_law_told", "_law_due", "_law_at", "_law_key"] "_law_is" (defScope s__law_is) f cdv A outer s H E).nox (defBody s__law_is) t ∧ t { nx := fun _ H' => Q .non H', rt := Q } (L2.start ["_law_told", "_law_due", "_law_at", "_law_key"] [x, x]) H := by
  refine ⟨_, (pss_cons (ps_if (pt_val (pe_callB (call_isiTK (K := K) rfl) (by rfl) B.b_isinstance (by decide +kernel) (pa_cons (pv 1) (pa_cons (pe_tup (pa_cons (pe_bltn (v := .ty "tuple") (by rfl) B.b_tuple (by decide +kernel) rfl) (pa_cons (pe_bltn (v := .ty "list") (by rfl) B.b_list (by decide +kernel) rfl) pa_nil))) pa_nil)))) (pss_cons (ps_if (PW.pt (pw_or (pt_cmpR op_ne (pe_callB (call_isiK' (K := K) rfl) (by rfl) B.b_isinstance (by decide +kernel) (pa_cons (pv 0) (pa_cons (pe_bltn (v := .ty "tuple") (by rfl) B.b_tuple (by decide +kernel) rfl) pa_nil))) (pe_callB (call_isiK' (K := K) rfl) (by rfl) B.b_isinstance (by decide +kernel) (pa_cons (pv 1) (pa_cons (pe_bltn (v := .ty "tuple") (by rfl) B.b_tuple (by decide +kernel) rfl) pa_nil))) (nomark _)) (pw_or1 (pt_cmpR op_ne (pe_callB (call_isiK' (K := K) rfl) (by rfl) B.b_isinstance (by decide +kernel) (pa_cons (pv 0) (pa_cons (pe_bltn (v := .ty "list") (by rfl) B.b_list (by decide +kernel) rfl) pa_nil))) (pe_callB (call_isiK' (K := K) rfl) (by rfl) B.b_isinstance (by decide +kernel) (pa_cons (pv 1) (pa_cons (pe_bltn (v := .ty "list") (by rfl) B.b_list (by decide +kernel) rfl) pa_nil))) (nomark _))))) (pss_one (ps_ret pe_bl)) pss_nil)
 (pss_one (ps_ret (pe_and (pe_cmpR op_eq (pe_callB (call_lenK (K := K) rfl) (by rfl) B.b_len PySem.boot_len (pa_cons (pv 0) pa_nil)) (pe_callB (call_lenK (K := K) rfl) (by rfl) B.b_len PySem.boot_len (pa_cons (pv 1) pa_nil)) (nomark _)) (pe_one (pe_callB (cr_allK (K := K) rfl rfl) (by rfl) B.b_all (by decide +kernel) (pa_cons (pe_lc (own := [("_law_at", 2)]) rfl sc__law_is.nd (pi_range1 rfl B.b_range (pa_cons (pe_callB (call_lenK (K := K) rfl) (by rfl) B.b_len PySem.boot_len (pa_cons (pv 1) pa_nil)) pa_nil)) (blkOk_by (N := ["_law_told", "_law_due", "_law_at", "_law_key"]) (sc := defScope s__law_is) (by decide +kernel)) (fun _ _ _ _ _ => (pg_name (i := 2) sc__law_is.nd rfl (Or.inl rfl))) (fun _ _ _ _ _ => pts_nil) (fun _ _ _ _ _ => (pe_call G__law_is (hr.mono (by first | decide | omega)) (by rfl) C__law_is.g C__law_is.k C__law_is.b .nil pass0 (pa_cons (pe_ix (ix_seqK (K := K) rfl) (pv 0) (pv 2) (fun _ _ => rfl)) (pa_cons (pe_ix (ix_seqK (K := K) rfl) (pv 1) (pv 2) (fun _ _ => rfl)) pa_nil))))) pa_nil))))))) pss_nil)
 (pss_cons (ps_if (pt_val (pe_callB (call_isiK' (K := K) rfl) (by rfl) B.b_isinstance (by decide +kernel) (pa_cons (pv 1) (pa_cons (pe_bltn (v := .ty "dict") (by rfl) B.b_dict (by decide +kernel) rfl) pa_nil)))) pss_never pss_nil)
 (pss_cons (ps_if (pt_cmpR op_isNk (pv 1) pe_non (nomark _)) (pss_one (ps_ret (pe_cmpR op_isNk (pv 0) pe_non (nomark _)))) pss_nil)
 (pss_one (ps_ret (pe_and (pe_cmpR op_eq (pe_callB (call_isiK' (K := K) rfl) (by rfl) B.b_isinstance (by decide +kernel) (pa_cons (pv 0) (pa_cons (pe_bltn (v := .ty "bool") (by rfl) B.b_bool (by decide +kernel) rfl) pa_nil))) (pe_callB (call_isiK' (K := K) rfl) (by rfl) B.b_isinstance (by decide +kernel) (pa_cons (pv 1) (pa_cons (pe_bltn (v := .ty "bool") (by rfl) B.b_bool (by decide +kernel) rfl) pa_nil))) (nomark _)) (pe_and (pe_cmpR op_notNk (pv 0) pe_non (nomark _)) (pe_one (pe_cmpR op_eq (pv 0) (pv 1) (nomark _)))))))))), ?_⟩
  walk_at "h0"
  intro p hp
  walk_at "hs"
  cases x with
  | non =>
    refine x_isiTn (t := "NoneType") upd_same (.base .non) (by decide +kernel) (by decide +kernel) ?_
    walk_at "hs"
    exact q _ (by walk_at "sm")
  | bl b =>
    refine x_isiTn (t := "bool") upd_same (.base (.bl b)) (by decide +kernel) (by decide +kernel) ?_
    walk_at "hs"
    rw [decide_eq_true rfl]
    exact q _ (by walk_at "sm")
  | int i =>
    refine x_isiTn (t := "int") upd_same (.base (.int i)) (by decide +kernel) (by decide +kernel) ?_
    walk_at "hs"
    rw [decide_eq_true rfl]
    exact q _ (by walk_at "sm")
  | str i =>
    refine x_isiTn (t := "str") upd_same (.base (.str i)) (by decide +kernel) (by decide +kernel) ?_
    walk_at "hs"
    rw [decide_eq_true rfl]
    exact q _ (by walk_at "sm")
  | _ => cases hs
theorem ok_is {f : Addr} {fd : FuncData} (F : Fun K "_law_is" "_law_is" s__law_is f fd) (B : Bl Z mg) (C__law_is : Cal K mg "_law_is" f fd ["_law_told", "_law_due"]) : ∀ n, FnOk P w K mg base CX0 (n + 2) f fd ["_law_told", "_law_due"] (spIs K n)
  | 0 => by
    refine F.ok sc__law_is (fun vs H Q E h => ?_) (fun cdv A outer s H vs Q E hr h => ?_)
    · obtain ⟨x, y, rfl, _⟩ := h
      rfl
    · obtain ⟨x, y, rfl, ⟨rfl, hs⟩, q⟩ := h
      exact is_sca F B fnF C__law_is hs q hr
  | n + 1 => by
    have G__law_is := ok_is F B C__law_is n
    refine F.ok sc__law_is (fun vs H Q E h => ?_) (fun cdv A outer s H vs Q E hr h => ?_)
    · obtain ⟨x, y, rfl, _⟩ := h
      rfl
    · obtain ⟨x, y, rfl, hal, q⟩ := h
      rcases hal with ⟨rfl, hs⟩ | ⟨a, b, xs, ys, rfl, rfl, ha, hb, hl, hsz, hal⟩ | ⟨a, b, xs, ys, rfl, rfl, ha, hb, hl, hsz, hal⟩
      · exact is_sca F B fnF C__law_is hs q hr
      all_goals refine ⟨_, (pss_cons (ps_if (pt_val (pe_callB (call_isiTK (K := K) rfl) (by rfl) B.b_isinstance (by decide +kernel) (pa_cons (pv 1) (pa_cons (pe_tup (pa_cons (pe_bltn (v := .ty "tuple") (by rfl) B.b_tuple (by decide +kernel) rfl) (pa_cons (pe_bltn (v := .ty "list") (by rfl) B.b_list (by decide +kernel) rfl) pa_nil))) pa_nil)))) (pss_cons (ps_if (PW.pt (pw_or (pt_cmpR op_ne (pe_callB (call_isiK' (K := K) rfl) (by rfl) B.b_isinstance (by decide +kernel) (pa_cons (pv 0) (pa_cons (pe_bltn (v := .ty "tuple") (by rfl) B.b_tuple (by decide +kernel) rfl) pa_nil))) (pe_callB (call_isiK' (K := K) rfl) (by rfl) B.b_isinstance (by decide +kernel) (pa_cons (pv 1) (pa_cons (pe_bltn (v := .ty "tuple") (by rfl) B.b_tuple (by decide +kernel) rfl) pa_nil))) (nomark _)) (pw_or1 (pt_cmpR op_ne (pe_callB (call_isiK' (K := K) rfl) (by rfl) B.b_isinstance (by decide +kernel) (pa_cons (pv 0) (pa_cons (pe_bltn (v := .ty "list") (by rfl) B.b_list (by decide +kernel) rfl) pa_nil))) (pe_callB (call_isiK' (K := K) rfl) (by rfl) B.b_isinstance (by decide +kernel) (pa_cons (pv 1) (pa_cons (pe_bltn (v := .ty "list") (by rfl) B.b_list (by decide +kernel) rfl) pa_nil))) (nomark _))))) (pss_one (ps_ret pe_bl)) pss_nil)
 (pss_one (ps_ret (pe_and (pe_cmpR op_eq (pe_callB (call_lenK (K := K) rfl) (by rfl) B.b_len PySem.boot_len (pa_cons (pv 0) pa_nil)) (pe_callB (call_lenK (K := K) rfl) (by rfl) B.b_len PySem.boot_len (pa_cons (pv 1) pa_nil)) (nomark _)) (pe_one (pe_callB (cr_allK (K := K) rfl rfl) (by rfl) B.b_all (by decide +kernel) (pa_cons (pe_lc (own := [("_law_at", 2)]) rfl sc__law_is.nd (pi_range1 rfl B.b_range (pa_cons (pe_callB (call_lenK (K := K) rfl) (by rfl) B.b_len PySem.boot_len (pa_cons (pv 1) pa_nil)) pa_nil)) (blkOk_by (N := ["_law_told", "_law_due", "_law_at", "_law_key"]) (sc := defScope s__law_is) (by decide +kernel)) (fun _ _ _ _ _ => (pg_name (i := 2) sc__law_is.nd rfl (Or.inl rfl))) (fun _ _ _ _ _ => pts_nil) (fun _ _ _ _ _ => (pe_call G__law_is (hr.mono (by first | decide | omega)) (by rfl) C__law_is.g C__law_is.k C__law_is.b .nil pass0 (pa_cons (pe_ix (ix_seqK (K := K) rfl) (pv 0) (pv 2) (fun _ _ => rfl)) (pa_cons (pe_ix (ix_seqK (K := K) rfl) (pv 1) (pv 2) (fun _ _ => rfl)) pa_nil))))) pa_nil))))))) pss_nil)
 (pss_cons (ps_if (pt_val (pe_callB (call_isiK' (K := K) rfl) (by rfl) B.b_isinstance (by decide +kernel) (pa_cons (pv 1) (pa_cons (pe_bltn (v := .ty "dict") (by rfl) B.b_dict (by decide +kernel) rfl) pa_nil)))) pss_never pss_nil)
 (pss_cons (ps_if (pt_cmpR op_isNk (pv 1) pe_non (nomark _)) (pss_one (ps_ret (pe_cmpR op_isNk (pv 0) pe_non (nomark _)))) pss_nil)
 (pss_one (ps_ret (pe_and (pe_cmpR op_eq (pe_callB (call_isiK' (K := K) rfl) (by rfl) B.b_isinstance (by decide +kernel) (pa_cons (pv 0) (pa_cons (pe_bltn (v := .ty "bool") (by rfl) B.b_bool (by decide +kernel) rfl) pa_nil))) (pe_callB (call_isiK' (K := K) rfl) (by rfl) B.b_isinstance (by decide +kernel) (pa_cons (pv 1) (pa_cons (pe_bltn (v := .ty "bool") (by rfl) B.b_bool (by decide +kernel) rfl) pa_nil))) (nomark _)) (pe_and (pe_cmpR op_notNk (pv 0) pe_non (nomark _)) (pe_one (pe_cmpR op_eq (pv 0) (pv 1) (nomark _)))))))))), ?_⟩
      all_goals walk_at "h0"
      all_goals intro p hp
      all_goals walk_at "hs"
      · refine x_isiTb (t := "list") upd_same (.base (.lst (by walk_at "hu"))) (by decide +kernel) (by decide +kernel) ?_
        walk_at "hs"
        refine x_isdT (by omega) ?_
        walk_at "hs"
        refine ⟨(ys.length : Int), rfl, by omega, by have := hsz; omega, fun D hD => ?_⟩
        have nD : H D = none := Same.free (H' := upd H p _) (same_new (Same.refl _) hp) hD
        refine lc_range (lo := 0) (n := Int.toNat ys.length) (fun i H' => Same H H' ∧ H' D = some (.lst ((List.replicate i true).map V.bl)))
          ⟨by walk_at "sm", upd_same⟩ ?_ ?_
        · rintro i H' hi ⟨s1, eD⟩
          have h1 : i < xs.length := by omega
          have h2 : i < ys.length := by omega
          have a1 : atI xs (0 + (i : Int)) = some xs[i] := by
            rw [Int.zero_add]
            exact atI_nat (List.getElem?_eq_getElem h1)
          have a2 : atI ys (0 + (i : Int)) = some ys[i] := by
            rw [Int.zero_add]
            exact atI_nat (List.getElem?_eq_getElem h2)
          have ha' := s1 _ _ ha
          have hb' := s1 _ _ hb
          walk_at "hs"
          refine ⟨rfl, ?_⟩
          walk_at "hs"
          refine ⟨_, _, rfl, (hal i h1 h2).same s1, fun H2 s2 => ?_⟩
          refine ⟨_, s2 _ _ eD, szLt (by rw [List.length_map, List.length_replicate]; have := hsz; omega), by walk_at "sm", ?_⟩
          rw [upd_same, List.replicate_succ', List.map_append]
          rfl
        · rintro H' ⟨s1, eD⟩
          walk_at "hs"
          refine ⟨D, _, rfl, SqL.of eD, ?_⟩
          rw [show (List.replicate (Int.toNat (ys.length : Int)) true).all id = true by simp]
          exact q _ (by walk_at "sm")
      · refine x_isiT1 (t := "tuple") upd_same (.base (.tup (by walk_at "hu"))) (by decide +kernel) (by decide +kernel) ?_
        walk_at "hs"
        refine x_isdT (by omega) ?_
        walk_at "hs"
        refine ⟨(ys.length : Int), rfl, by omega, by have := hsz; omega, fun D hD => ?_⟩
        have nD : H D = none := Same.free (H' := upd H p _) (same_new (Same.refl _) hp) hD
        refine lc_range (lo := 0) (n := Int.toNat ys.length) (fun i H' => Same H H' ∧ H' D = some (.lst ((List.replicate i true).map V.bl)))
          ⟨by walk_at "sm", upd_same⟩ ?_ ?_
        · rintro i H' hi ⟨s1, eD⟩
          have h1 : i < xs.length := by omega
          have h2 : i < ys.length := by omega
          have a1 : atI xs (0 + (i : Int)) = some xs[i] := by
            rw [Int.zero_add]
            exact atI_nat (List.getElem?_eq_getElem h1)
          have a2 : atI ys (0 + (i : Int)) = some ys[i] := by
            rw [Int.zero_add]
            exact atI_nat (List.getElem?_eq_getElem h2)
          have ha' := s1 _ _ ha
          have hb' := s1 _ _ hb
          walk_at "hs"
          refine ⟨rfl, ?_⟩
          walk_at "hs"
          refine ⟨_, _, rfl, (hal i h1 h2).same s1, fun H2 s2 => ?_⟩
          refine ⟨_, s2 _ _ eD, szLt (by rw [List.length_map, List.length_replicate]; have := hsz; omega), by walk_at "sm", ?_⟩
          rw [upd_same, List.replicate_succ', List.map_append]
          rfl
        · rintro H' ⟨s1, eD⟩
          walk_at "hs"
          refine ⟨D, _, rfl, SqL.of eD, ?_⟩
          rw [show (List.replicate (Int.toNat (ys.length : Int)) true).all id = true by simp]
          exact q _ (by walk_at "sm")
end
set_option maxRecDepth 100000
set_option maxHeartbeats 1000000
open PySem PySem.Spec L2


theorem sc__law_mixed : FnScope ["_law_pool_here", "_law_many", "_law_left", "_law_turn"] ["_law_pool_here", "_law_many"] (defScope s__law_mixed) := ⟨rfl, rfl, rfl, by decide +kernel, rfl, by decide +kernel, by decide +kernel⟩
theorem sc__law_hung : FnScope ["_law_pool_here", "_law_many", "_law_kind", "_law_order", "_law_found", "_law_at", "_law_above"] ["_law_pool_here", "_law_many"] (defScope s__law_hung) := ⟨rfl, rfl, rfl, by decide +kernel, rfl, by decide +kernel, by decide +kernel⟩
section
variable {P : Program} {w : World} {K : PySem.W.Frag} {mg : Str → Option Value} {base : Heap} {Z : Ad}

def spMixed : Sp := fun vs H Q _ => ∃ (p : Addr) (n : Nat) (F : Addr → Prop), vs = [.ref p, .int n] ∧ PoolAt H p F ∧ 1 ≤ n ∧ n ≤ 40 ∧ ∀ (D : Addr) (ms : List Nat) H', ms.Perm (List.range' 1 n) → But p H H' → PoolAt H' p F → H D = none → H' D = some (.lst (nats ms)) → Q (.ref D) H'
theorem ok_mixed {f : Addr} {fd : FuncData} (F : Fun K "_law_mixed" "_law_mixed" s__law_mixed f fd) (B : Bl Z mg) {f__law_draw : Addr} {fd__law_draw : FuncData} (C__law_draw : Cal K mg "_law_draw" f__law_draw fd__law_draw ["_law_pool_here", "_law_many"]) (G__law_draw : FnOk P w K mg base CX0 1 f__law_draw fd__law_draw ["_law_pool_here", "_law_many"] spDraw) : FnOk P w K mg base CX0 2 f fd ["_law_pool_here", "_law_many"] spMixed := by
  refine F.ok sc__law_mixed (fun vs H Q E h => ?_) (fun cdv A outer s H vs Q E hr h => ?_)
  · obtain ⟨p, n, Fo, rfl, _⟩ := h
    rfl
  · obtain ⟨p, n, Fo, rfl, hp, n1, n2, q⟩ := h
    refine ⟨_, (pss_cons (ps_set (i := 2) sc__law_mixed.nd rfl (Or.inr rfl) (pe_listRg rfl (by rfl) B.b_list (prg_2 (by rfl) B.b_range pe_int (pe_op op_add (pv 1) pe_int))))
 (pss_one (ps_ret (pe_lc (own := [("_law_turn", 3)]) rfl sc__law_mixed.nd (pi_range1 rfl B.b_range (pa_cons (pv 1) pa_nil)) (blkOk_by (N := ["_law_pool_here", "_law_many", "_law_left", "_law_turn"]) (sc := defScope s__law_mixed) (by decide +kernel)) (fun _ _ _ _ _ => (pg_name (i := 3) sc__law_mixed.nd rfl (Or.inl rfl))) (fun _ _ _ _ _ => pts_nil) (fun _ _ _ _ _ => (pe_bmK (K := K) rfl PySem.F.plainAttrs_list PySem.F.slot_list_pop PySem.F.type_list_pop mt_popAt (pv 2) (pa_cons (pe_call G__law_draw (hr.mono (by first | decide | omega)) (by rfl) C__law_draw.g C__law_draw.k C__law_draw.b .nil pass0 (pa_cons (pv 0) (pa_cons (pe_callB (call_lenK (K := K) rfl) (by rfl) B.b_len PySem.boot_len (pa_cons (pv 2) pa_nil)) pa_nil))) pa_nil))))))), ?_⟩
    walk_at "h0"
    refine ⟨⟨by omega, by omega, by omega, by omega, by omega⟩, fun L hL => ?_⟩
    rw [rgV_nats]
    walk_at "hs"
    refine ⟨n, rfl, by omega, by omega, fun D hD => ?_⟩
    have nD : H D = none := Same.free (H' := upd H L _) (same_new (Same.refl _) hL) hD
    have nLD : L ≠ D := ne_of_none upd_same hD
    refine lc_range (lo := 0) (n := Int.toNat n) (fun i H' => ∃ ls ms : List Nat, (ms ++ ls).Perm (List.range' 1 n) ∧ ms.length = i ∧ But p H H' ∧ PoolAt H' p (fun a => a = D ∨ a = L ∨ Fo a) ∧ H' L = some (.lst (nats ls)) ∧ H' D = some (.lst (nats ms)))
      ⟨List.range' 1 n, [], List.Perm.refl _, rfl, by walk_at "bt", (hp.own hL).own hD, by walk_at "hu", upd_same⟩ ?_ ?_
    · rintro i H' hi ⟨ls, ms, hpm, hm, b1, p1, eL, eD⟩
      have hlen : ms.length + ls.length = n := by rw [← List.length_append, hpm.length_eq, List.length_range']
      walk_at "hs"
      refine ⟨rfl, ?_⟩
      walk_at "hs"
      refine ⟨p, _, _, rfl, p1, by rw [nats_length]; omega, by rw [nats_length]; omega, fun d H2 d0 d1 b2 p2 => ?_⟩
      rw [nats_length] at d1
      obtain ⟨k, rfl⟩ := Int.eq_ofNat_of_zero_le d0
      have hk : k < ls.length := by omega
      have eL2 := b2 _ _ (p1.neF (.inr (.inl rfl))) eL
      have eD2 := b2 _ _ (p1.neF (.inl rfl)) eD
      walk_at "hs"
      refine x_popAt eL2 (by omega) (by omega) (ixN_nat (by rw [nats_length]; exact hk)) (nats_get (List.getElem?_eq_getElem hk)) ?_
      refine ⟨_, keepM (Ne.symm nLD) eD2, szLt (by rw [nats_length]; omega), ls.eraseIdx k, ms ++ [ls[k]], ?_, by rw [List.length_append, hm]; rfl, ?_, (p2.mut (.inr (.inl rfl))).mut (.inl rfl), ?_, ?_⟩
      · rw [List.append_assoc]
        exact ((perm_erase (List.getElem?_eq_getElem hk)).append_left ms).trans hpm
      · exact ((b1.trans b2).mutF hL).mutF nD
      · rw [upd_ne nLD, upd_same, nats_erase]
      · rw [upd_same, nats_append]
        rfl
    · rintro H' ⟨ls, ms, hpm, hm, b1, p1, eL, eD⟩
      have hlen : ms.length + ls.length = n := by rw [← List.length_append, hpm.length_eq, List.length_range']
      have e : ls = [] := List.length_eq_zero_iff.mp (by omega)
      rw [e, List.append_nil] at hpm
      walk_at "hs"
      exact q D ms H' hpm b1 (p1.weak fun a h => .inr (.inr h)) nD eD
def spHung : Sp := fun vs H Q _ => ∃ (p : Addr) (n : Nat) (F : Addr → Prop), vs = [.ref p, .int n] ∧ PoolAt H p F ∧ 1 ≤ n ∧ n ≤ 40 ∧ ∀ (D : Addr) (hs : List Nat) H', IsTree hs → hs.length = n → But p H H' → PoolAt H' p F → H D = none → H' D = some (.tup (nats hs)) → Q (.ref D) H'
theorem ok_hung {f : Addr} {fd : FuncData} (F : Fun K "_law_hung" "_law_hung" s__law_hung f fd) (B : Bl Z mg) {f__law_draw : Addr} {fd__law_draw : FuncData} (C__law_draw : Cal K mg "_law_draw" f__law_draw fd__law_draw ["_law_pool_here", "_law_many"]) (G__law_draw : FnOk P w K mg base CX0 1 f__law_draw fd__law_draw ["_law_pool_here", "_law_many"] spDraw) {f__law_mixed : Addr} {fd__law_mixed : FuncData} (C__law_mixed : Cal K mg "_law_mixed" f__law_mixed fd__law_mixed ["_law_pool_here", "_law_many"]) (G__law_mixed : FnOk P w K mg base CX0 2 f__law_mixed fd__law_mixed ["_law_pool_here", "_law_many"] spMixed) : FnOk P w K mg base CX0 3 f fd ["_law_pool_here", "_law_many"] spHung := by
  refine F.ok sc__law_hung (fun vs H Q E h => ?_) (fun cdv A outer s H vs Q E hr h => ?_)
  · obtain ⟨p, n, Fo, rfl, _⟩ := h
    rfl
  · obtain ⟨p, n, Fo, rfl, hp, n1, n2, q⟩ := h
    refine ⟨_, (pss_cons (ps_set (i := 2) sc__law_hung.nd rfl (Or.inl rfl) (pe_call G__law_draw (hr.mono (by first | decide | omega)) (by rfl) C__law_draw.g C__law_draw.k C__law_draw.b .nil pass0 (pa_cons (pv 0) (pa_cons pe_int pa_nil))))
 (pss_cons (ps_set (i := 3) sc__law_hung.nd rfl (Or.inl rfl) (pe_op op_cat (pe_lst (pa_cons pe_int pa_nil)) (pe_call G__law_mixed (hr.mono (by first | decide | omega)) (by rfl) C__law_mixed.g C__law_mixed.k C__law_mixed.b .nil pass0 (pa_cons (pv 0) (pa_cons (pv 1) pa_nil)))))
 (pss_cons (ps_set (i := 4) sc__law_hung.nd rfl (Or.inl rfl) (pe_op op_rep (pe_lst (pa_cons pe_int pa_nil)) (pv 1)))
 (pss_cons (ps_for PassesOwn.never rfl (pi_range2 rfl B.b_range (pa_cons pe_int (pa_cons (pe_op op_add (pv 1) pe_int) pa_nil))) (pg_name (i := 5) sc__law_hung.nd rfl (Or.inl rfl)) (pss_cons (ps_set (i := 6) sc__law_hung.nd rfl (Or.inl rfl) (pe_call G__law_draw (hr.mono (by first | decide | omega)) (by rfl) C__law_draw.g C__law_draw.k C__law_draw.b .nil pass0 (pa_cons (pv 0) (pa_cons (pv 5) pa_nil))))
 (C8.pss_cut (ps_if (PW.pt (pw_or (pt_cmpR op_eq (pv 2) pe_int (nomark _)) (pw_or1 (PW.pt (pw_and (pt_cmpR op_eq (pv 2) pe_int (nomark _)) (pw_and1 (pt_cmpR op_gt (pe_call G__law_draw (hr.mono (by first | decide | omega)) (by rfl) C__law_draw.g C__law_draw.k C__law_draw.b .nil pass0 (pa_cons (pv 0) (pa_cons pe_int pa_nil))) pe_int (nomark _)))))))) (pss_one (ps_set (i := 6) sc__law_hung.nd rfl (Or.inl rfl) (pe_op op_sub (pv 5) pe_int))) pss_nil)
 (C8.pss_cut (ps_if (PW.pt (pw_and (pt_cmpR op_eq (pv 2) pe_int (nomark _)) (pw_and1 (pt_cmpR op_eq (pe_call G__law_draw (hr.mono (by first | decide | omega)) (by rfl) C__law_draw.g C__law_draw.k C__law_draw.b .nil pass0 (pa_cons (pv 0) (pa_cons pe_int pa_nil))) pe_int (nomark _))))) (pss_one (ps_set (i := 6) sc__law_hung.nd rfl (Or.inl rfl) pe_int)) pss_nil)
 (pss_one (ps_asg (pe_ix (ix_listK (K := K) rfl) (pv 3) (pv 6) (fun _ _ => rfl)) (pg_sub (pv 4) (pe_op op_sub (pe_ix (ix_listK (K := K) rfl) (pv 3) (pv 5) (fun _ _ => rfl)) pe_int) set_list)))))))
 (pss_one (ps_ret (pe_callTy (call_tplK (K := K) rfl) (by rfl) B.b_tuple (by decide +kernel) (pa_cons (pv 4) pa_nil)))))))), ?_⟩
    walk_at "h0"
    refine ⟨p, _, _, rfl, hp, by decide, by decide, fun kd H1 k0 k1 b1 p1 => ?_⟩
    walk_at "hs"
    intro l0 hl0
    walk_at "hs"
    refine ⟨p, n, _, rfl, p1.own hl0, n1, n2, fun O ms H2 hperm b2 p2 nO eO => ?_⟩
    have e0 := b2 _ _ (p2.neF (.inl rfl)) upd_same
    have hlen : ms.length = n := by rw [hperm.length_eq, List.length_range']
    walk_at "hs"
    refine x_cat e0 eO (szLe (by rw [nats_length]; show 1 + _ ≤ _; omega)) fun O2 hO2 => ?_
    walk_at "hs"
    intro l1 hl1
    walk_at "hs"
    refine x_rep1 upd_same (by omega) fun R hR => ?_
    rw [nats_rep]
    walk_at "hs"
    have hR2 : H2 R = none := Same.free (H' := upd (upd H2 O2 _) l1 _) (same_new (same_new (Same.refl _) hO2) hl1) hR
    have b12 : But p H H2 := (b1.trans (But.new (But.refl p H1) hl0)).trans b2
    have nO2 : H O2 = none := b12.freeB (p2.ne hO2) hO2
    have nR : H R = none := b12.freeB (p2.ne hR2) hR2
    have hOR : O2 ≠ R := ne_of_none (keepN upd_same hl1) hR
    refine ⟨1, (n : Int) + 1, rfl, ⟨by omega, by omega, by omega, by omega⟩, ?_⟩
    refine lp_range (lo := 1) (n := Int.toNat ((n : Int) + 1 - 1)) (fun i σ' H' => ∃ (x5 x6 : Option V) (fs : List Nat), σ' = [some (.ref p), some (.int n), some (.int kd), some (.ref O2), some (.ref R), x5, x6] ∧ fs.length = n ∧ But p H H' ∧ PoolAt H' p (fun a => a = R ∨ a = O2 ∨ Fo a) ∧ H' O2 = some (.lst (nats (0 :: ms))) ∧ H' R = some (.lst (nats fs)) ∧ ∀ (i' x : Nat), i' < i → ms[i']? = some x → ∃ j y : Nat, j ≤ i' ∧ (0 :: ms)[j]? = some y ∧ fs[x - 1]? = some y)
      ⟨none, none, List.replicate n 0, rfl, List.length_replicate, ?_, (((p2.weak fun a h => .inr h).own hO2).newH hl1).own hR, keepN (keepN upd_same hl1) hR, upd_same, fun i' x h => absurd h (Nat.not_lt_zero _)⟩ ?_ ?_
    · exact ((((b1.trans (But.new (But.refl p H1) hl0)).trans b2).new hO2).new hl1).new hR
    · rintro i σ' H3 hi ⟨x5, x6, fs, rfl, hfs, b3, p3, eO2, eR, hd⟩
      have hi' : i < ms.length := by omega
      walk_at "hs"
      refine ⟨p, _, _, rfl, p3, by omega, by omega, fun d H4 d0 d1 b4 p4 => ?_⟩
      obtain ⟨dn, rfl⟩ := Int.eq_ofNat_of_zero_le d0
      have eO4 := b4 _ _ (p3.neF (.inr (.inl rfl))) eO2
      have eR4 := b4 _ _ (p3.neF (.inl rfl)) eR
      walk_at "hs"
      refine ⟨fun σ' H' => ∃ ab : Nat, ab ≤ i ∧ σ' = [some (.ref p), some (.int n), some (.int kd), some (.ref O2), some (.ref R), some (.int (1 + (i : Int))), some (.int ab)] ∧ But p H H' ∧ PoolAt H' p (fun a => a = R ∨ a = O2 ∨ Fo a) ∧ H' O2 = some (.lst (nats (0 :: ms))) ∧ H' R = some (.lst (nats fs)), ?_, ?_⟩
      · have no : ∀ H5, But p H4 H5 → PoolAt H5 p (fun a => a = R ∨ a = O2 ∨ Fo a) → ∃ ab : Nat, ab ≤ i ∧ [some (V.ref p), some (V.int n), some (V.int kd), some (V.ref O2), some (V.ref R), some (V.int (1 + (i : Int))), some (V.int dn)] = [some (.ref p), some (.int n), some (.int kd), some (.ref O2), some (.ref R), some (.int (1 + (i : Int))), some (.int ab)] ∧ But p H H5 ∧ PoolAt H5 p (fun a => a = R ∨ a = O2 ∨ Fo a) ∧ H5 O2 = some (.lst (nats (0 :: ms))) ∧ H5 R = some (.lst (nats fs)) := fun H5 b5 p5 =>
          ⟨dn, by omega, rfl, (b3.trans b4).trans b5, p5, b5 _ _ (p4.neF (.inr (.inl rfl))) eO4, b5 _ _ (p4.neF (.inl rfl)) eR4⟩
        have yes : ∀ H5, But p H4 H5 → PoolAt H5 p (fun a => a = R ∨ a = O2 ∨ Fo a) → ∃ ab : Nat, ab ≤ i ∧ [some (V.ref p), some (V.int n), some (V.int kd), some (V.ref O2), some (V.ref R), some (V.int (1 + (i : Int))), some (V.int (1 + (i : Int) - 1))] = [some (.ref p), some (.int n), some (.int kd), some (.ref O2), some (.ref R), some (.int (1 + (i : Int))), some (.int ab)] ∧ But p H H5 ∧ PoolAt H5 p (fun a => a = R ∨ a = O2 ∨ Fo a) ∧ H5 O2 = some (.lst (nats (0 :: ms))) ∧ H5 R = some (.lst (nats fs)) := fun H5 b5 p5 =>
          ⟨i, Nat.le_refl _, by rw [show 1 + (i : Int) - 1 = i by omega], (b3.trans b4).trans b5, p5, b5 _ _ (p4.neF (.inr (.inl rfl))) eO4, b5 _ _ (p4.neF (.inl rfl)) eR4⟩
        walk_at "hs"
        refine x_isd (fun c => ?_) (fun c => ?_)
        · walk_at "hs"
          exact yes H4 (But.refl _ _) p4
        · walk_at "hs"
          refine x_isd (fun c => ?_) (fun c => ?_)
          · walk_at "hs"
            refine ⟨p, _, _, rfl, p4, by decide, by decide, fun d2 H5 d20 d21 b5 p5 => ?_⟩
            walk_at "hs"
            refine x_isd (fun c => ?_) (fun c => ?_)
            · walk_at "hs"
              exact yes H5 b5 p5
            · walk_at "hs"
              exact no H5 b5 p5
          · walk_at "hs"
            exact no H4 (But.refl _ _) p4
      · rintro σ5 H5 ⟨ab, hab, rfl, b5, p5, eO5, eR5⟩
        refine ⟨fun σ' H' => ∃ ab : Nat, ab ≤ i ∧ σ' = [some (.ref p), some (.int n), some (.int kd), some (.ref O2), some (.ref R), some (.int (1 + (i : Int))), some (.int ab)] ∧ But p H H' ∧ PoolAt H' p (fun a => a = R ∨ a = O2 ∨ Fo a) ∧ H' O2 = some (.lst (nats (0 :: ms))) ∧ H' R = some (.lst (nats fs)), ?_, ?_⟩
        · have go : ∀ (ab : Nat) H6, ab ≤ i → But p H5 H6 → PoolAt H6 p (fun a => a = R ∨ a = O2 ∨ Fo a) → ∃ ab' : Nat, ab' ≤ i ∧ [some (V.ref p), some (V.int n), some (V.int kd), some (V.ref O2), some (V.ref R), some (V.int (1 + (i : Int))), some (V.int ab)] = [some (.ref p), some (.int n), some (.int kd), some (.ref O2), some (.ref R), some (.int (1 + (i : Int))), some (.int ab')] ∧ But p H H6 ∧ PoolAt H6 p (fun a => a = R ∨ a = O2 ∨ Fo a) ∧ H6 O2 = some (.lst (nats (0 :: ms))) ∧ H6 R = some (.lst (nats fs)) := fun ab H6 hab b6 p6 =>
            ⟨ab, hab, rfl, b5.trans b6, p6, b6 _ _ (p5.neF (.inr (.inl rfl))) eO5, b6 _ _ (p5.neF (.inl rfl)) eR5⟩
          walk_at "hs"
          refine x_isd (fun c => ?_) (fun c => ?_)
          · walk_at "hs"
            refine ⟨p, _, _, rfl, p5, by decide, by decide, fun d2 H6 d20 d21 b6 p6 => ?_⟩
            walk_at "hs"
            refine x_isd (fun c => ?_) (fun c => ?_)
            · walk_at "hs"
              exact go 0 H6 (Nat.zero_le _) b6 p6
            · walk_at "hs"
              exact go ab H6 hab b6 p6
          · walk_at "hs"
            exact go ab H5 hab (But.refl _ _) p5
        · rintro σ6 H6 ⟨ab, hab, rfl, b6, p6, eO6, eR6⟩
          have ha : ab < (0 :: ms).length := by rw [List.length_cons]; omega
          have hy := List.getElem?_eq_getElem ha
          have hx := List.getElem?_eq_getElem hi'
          have hxm := (List.mem_range'_1.mp (hperm.mem_iff.mp (List.getElem_mem hi')))
          have at1 : atI (nats (0 :: ms)) (ab : Int) = some (.int ((0 :: ms)[ab] : Nat)) := nats_at hy
          have at2 : atI (nats (0 :: ms)) (1 + (i : Int)) = some (.int (ms[i] : Nat)) := by
            have := nats_at (l := 0 :: ms) (i := i + 1) (x := ms[i]) hx
            rw [show 1 + (i : Int) = ((i + 1 : Nat) : Int) by omega]
            exact this
          have at3 : ixN (nats fs).length ((ms[i] : Nat) - 1 : Int) = some (ms[i] - 1) := by
            rw [show ((ms[i] : Nat) - 1 : Int) = ((ms[i] - 1 : Nat) : Int) by omega]
            exact ixN_nat (by rw [nats_length]; omega)
          walk_at "hs"
          refine ⟨_, _, fs.set (ms[i] - 1) (0 :: ms)[ab], rfl, by rw [List.length_set]; exact hfs, b6.mutF nR, p6.mut (.inl rfl), keepM hOR eO6, by rw [upd_same, nats_set], fun i' x hlt hx' => ?_⟩
          by_cases e : i' = i
          · subst e
            rw [hx] at hx'
            cases hx'
            exact ⟨ab, _, hab, hy, by rw [List.getElem?_set_self (by omega)]⟩
          · obtain ⟨j, y, hj, hy', hf⟩ := hd i' x (by omega) hx'
            refine ⟨j, y, hj, hy', ?_⟩
            have hne : ms[i] - 1 ≠ x - 1 := fun e2 => by
              have hi2 := (List.getElem?_eq_some_iff.mp hx').1
              have hxm' := (List.mem_range'_1.mp (hperm.mem_iff.mp (List.mem_of_getElem? hx')))
              have nd : ms.Nodup := hperm.nodup_iff.mpr (List.nodup_range' ..)
              have : ms[i'] = ms[i] := by
                have e3 : ms[i'] = x := (List.getElem?_eq_some_iff.mp hx').2
                omega
              exact e ((List.getElem_inj nd).mp this)
            rw [List.getElem?_set_ne hne]
            exact hf
    · rintro σ' H3 ⟨x5, x6, fs, rfl, hfs, b3, p3, eO2, eR, hd⟩
      have htree : IsTree fs := Drawn.tree ⟨ms, by rw [hfs]; exact hperm, fun i x hx => hd i x (by have := (List.getElem?_eq_some_iff.mp hx).1; omega) hx⟩ (by omega) (by omega)
      walk_at "hs"
      intro D hD
      exact q D fs _ htree hfs (b3.new hD) ((p3.newH hD).weak fun a h => .inr (.inr h)) (b3.freeB (p3.ne hD) hD) upd_same
end
set_option maxRecDepth 100000
set_option maxHeartbeats 1000000
open PySem PySem.Spec L2


theorem sc__comes_to_head : FnScope ["hung", "block", "place", "steps"] ["hung", "block"] (defScope s__comes_to_head) := ⟨rfl, rfl, rfl, by decide +kernel, rfl, by decide +kernel, by decide +kernel⟩
section
variable {P : Program} {w : World} {K : PySem.W.Frag} {mg : Str → Option Value} {base : Heap} {Z : Ad}

def spComes (K : PySem.W.Frag) : Sp := fun vs H Q _ => ∃ (t : Addr) (hs : List Nat) (k : Nat), vs = [.ref t, .int k] ∧ SqT K H t (nats hs) ∧ (∀ x ∈ hs, x ≤ hs.length) ∧ k ≤ hs.length ∧ Q (.bl (decide (upN hs hs.length k = 0))) H
theorem ok_comes {f : Addr} {fd : FuncData} (F : Fun K "_comes_to_head" "_comes_to_head" s__comes_to_head f fd) (B : Bl Z mg) : FnOk P w K mg base CX0 1 f fd ["hung", "block"] (spComes K) := by
  refine F.ok sc__comes_to_head (fun vs H Q E h => ?_) (fun cdv A outer s H vs Q E hr h => ?_)
  · obtain ⟨t, hs, k, rfl, _⟩ := h
    rfl
  · obtain ⟨t, hs, k, rfl, ht, hle, hk, q⟩ := h
    refine ⟨_, (pss_cons (ps_set (i := 2) sc__comes_to_head.nd rfl (Or.inl rfl) (pv 1))
 (pss_cons (ps_set (i := 3) sc__comes_to_head.nd rfl (Or.inl rfl) pe_int)
 (pss_cons (ps_while PassesOwn.never (PW.pt (pw_and (pt_cmpR op_ne (pv 2) pe_int (nomark _)) (pw_and1 (pt_cmpR op_lt (pv 3) (pe_callB (call_lenK (K := K) rfl) (by rfl) B.b_len PySem.boot_len (pa_cons (pv 0) pa_nil)) (nomark _))))) (pss_cons (ps_set (i := 2) sc__comes_to_head.nd rfl (Or.inl rfl) (pe_ix (ix_tupK (K := K) rfl) (pv 0) (pe_op op_sub (pv 2) pe_int) (fun _ _ => rfl)))
 (pss_one (ps_aug (i := 3) sc__comes_to_head.nd rfl (Or.inl rfl) pe_int ip_add))))
 (pss_one (ps_ret (pe_cmpR op_eq (pv 2) pe_int (nomark _))))))), ?_⟩
    walk_at "h0"
    refine ⟨fun m σ' H' => ∃ st : Nat, st + m = hs.length ∧ σ' = [some (.ref t), some (.int k), some (.int (upN hs st k : Nat)), some (.int st)] ∧ H' = H, ⟨hs.length, 0, Nat.zero_add _, rfl, rfl⟩, ?_⟩
    rintro m σ' H' ⟨st, hst, rfl, rfl⟩
    walk_at "hs"
    refine x_isd (fun c => ?_) (fun c => ?_)
    · walk_at "hs"
      rw [nats_length]
      refine x_isd (fun c2 => ?_) (fun c2 => ?_)
      · have hup := upN_le hle st k hk
        have hat : atI (nats hs) ((upN hs st k : Nat) - 1 : Int) = some (.int (upN hs (st + 1) k : Nat)) := by
          rw [show ((upN hs st k : Nat) - 1 : Int) = ((upN hs st k - 1 : Nat) : Int) by omega]
          refine nats_at ?_
          rw [upN_succ]
          have h1 : upN hs st k - 1 < hs.length := by omega
          rw [List.getElem?_eq_getElem h1]
          have := up_at (hs := hs) (k := upN hs st k) (by omega) (List.getElem?_eq_getElem h1)
          rw [this]
        walk_at "hs"
        refine ⟨fun σ' H2 => σ' = [some (.ref t), some (.int k), some (.int (upN hs (st + 1) k : Nat)), some (.int ((st + 1 : Nat) : Int))] ∧ H2 = H', fun σ' H2 hN => ⟨m - 1, by omega, st + 1, by omega, hN.1, hN.2⟩, ?_⟩
        walk_at "hs"
        exact ⟨rfl, rfl⟩
      · walk_at "hs"
        have e : st = hs.length := by omega
        rw [← e] at q
        have e2 : decide (((upN hs st k : Nat) : Int) = 0) = decide (upN hs st k = 0) := by
          rw [decide_eq_decide]
          omega
        rw [e2]
        exact q
    · walk_at "hs"
      have h0 : upN hs st k = 0 := by omega
      have h1 := upN_more (j := hs.length) h0 (by omega)
      rw [h1] at q
      rw [h0]
      exact q
def dueV : Due → V
  | .hung => .str "hung"
  | .block k => .int k
  | .ring _ => .non
  | .ok => .non
def TellsDue (H : Hp) (v : V) : Due → Prop
  | .hung => v = .str "hung"
  | .block k => v = .int (k : Nat)
  | .ring k => ∃ a, v = .ref a ∧ H a = some (.tup [.str "ring", .int (k : Nat)])
  | .ok => v = .non
def DueV (H : Hp) (x : V) (d : Due) : Prop := (∃ a xs, x = .ref a ∧ H a = some (.tup xs) ∧ DueIs xs d ∧ ∀ y ∈ xs, Kn H y) ∨ ((∀ a xs, x = .ref a → H a ≠ some (.tup xs)) ∧ Kn H x ∧ d = .hung)
theorem kn_not {x : V} {H : Hp} {Q : VK} (h : ∀ a xs, x = .ref a → H a ≠ some (.tup xs)) (k : Kn H x) (q : Q (.bl false) H) : rIsi K [x, .ty "tuple"] H Q := by
  cases x with
  | non => exact isi_non_tuple q
  | bl b => exact isi_bl_tuple q
  | int b => exact isi_int_tuple q
  | str b => exact isi_str_tuple q
  | ref a =>
    rcases k with ⟨xs, e⟩ | ⟨xs, e⟩ | ⟨xs, e⟩
    · exact isi_lst_tuple e q
    · exact (h a xs rfl e).elim
    · exact isi_dK_tuple e q
  | _ => exact k.elim
end
set_option maxRecDepth 100000
set_option maxHeartbeats 1000000
open PySem PySem.Spec L2


theorem sc_BadTree___init__ : FnScope ["self", "part"] ["self", "part"] (defScope s_BadTree___init__) := ⟨rfl, rfl, rfl, by decide +kernel, rfl, by decide +kernel, by decide +kernel⟩
theorem sc_Tree___init__ : FnScope ["self", "hung", "block", "place"] ["self", "hung"] (defScope s_Tree___init__) := ⟨rfl, rfl, rfl, by decide +kernel, rfl, by decide +kernel, by decide +kernel⟩
section
variable {P : Program} {w : World} {K : PySem.W.Frag} {mg : Str → Option Value} {base : Heap} {Z : Ad}

theorem ok_bad {f : Addr} {fd : FuncData} (F : Fun K "__init__" "BadTree.__init__" s_BadTree___init__ f fd) (X_BadTree : ExcF K Z.a_BadTree f "part") : FnOk P w K mg base CX0 1 f fd ["self", "part"] (spField Z.a_BadTree "part") := by
  refine F.ok sc_BadTree___init__ (fun vs H Q E h => ?_) (fun cdv A outer s H vs Q E hr h => ?_)
  · obtain ⟨a, v, rfl, _⟩ := h
    rfl
  · obtain ⟨a, v, rfl, ha, q⟩ := h
    refine ⟨_, (pss_one (ps_ost (pv 0) (pv 1))), ?_⟩
    walk_at "h0"
    exact ⟨a, _, rfl, X_BadTree.T, X_BadTree.n, .inl ⟨ha, q⟩⟩
def spTree (Z : Ad) : Sp := fun vs H Q E => ∃ (x dx : Addr) (h : V), vs = [.ref x, h] ∧ H x = some (.ins Z.a_Tree dx []) ∧ ((∃ a xs, h = .ref a ∧ H a = some (.tup xs) ∧ ∀ y ∈ xs, Kn H y) ∨ ((∀ a xs, h = .ref a → H a ≠ some (.tup xs)) ∧ Kn H h)) ∧
  (∀ H', DueV H h .ok → But x H H' → H' x = some (.ins Z.a_Tree dx [("hung", h)]) → Q .non H') ∧ (∀ (d : Due) (e : Addr) (v : V) H', d ≠ .ok → DueV H h d → TellsDue H' v d → Same H H' → H' e = some (.xd [("part", v)]) → E (.ref Z.a_BadTree) (some e) H')
theorem ok_tree {f : Addr} {fd : FuncData} (F : Fun K "__init__" "Tree.__init__" s_Tree___init__ f fd) (B : Bl Z mg) (T : Cls K Z.a_Tree) (N : NoAttr K Z.a_Tree "hung") {f_is_within : Addr} {fd_is_within : FuncData} (C_is_within : Cal K mg "is_within" f_is_within fd_is_within ["least", "most", "thing"]) (G_is_within : FnOk P w K mg base CX0 1 f_is_within fd_is_within ["least", "most", "thing"] spWithin) {f__comes_to_head : Addr} {fd__comes_to_head : FuncData} (C__comes_to_head : Cal K mg "_comes_to_head" f__comes_to_head fd__comes_to_head ["hung", "block"]) (G__comes_to_head : FnOk P w K mg base CX0 1 f__comes_to_head fd__comes_to_head ["hung", "block"] (spComes K))
    {f_BadTree___init__ : Addr} {fd_BadTree___init__ : FuncData} (C_BadTree___init__ : CalM K f_BadTree___init__ fd_BadTree___init__ ["self", "part"]) (G_BadTree___init__ : FnOk P w K mg base CX0 1 f_BadTree___init__ fd_BadTree___init__ ["self", "part"] (spField Z.a_BadTree "part")) (X_BadTree : ExcF K Z.a_BadTree f_BadTree___init__ "part") : FnOk P w K mg base (L2.CX P w) 3 f fd ["self", "hung"] (spTree Z) := by
  refine F.okX sc_Tree___init__ (fun vs H Q E h => ?_) (fun cdv A outer s H vs Q E hr h => ?_)
  · obtain ⟨x, dx, h, rfl, _⟩ := h
    rfl
  · obtain ⟨x, dx, hv, rfl, hx, hk, q, qe⟩ := h
    refine ⟨_, (pss_cons (ps_if (PW.pt (pw_or (pt_not (pt_val (pe_callB (call_isiK' (K := K) rfl) (by rfl) B.b_isinstance (by decide +kernel) (pa_cons (pv 1) (pa_cons (pe_bltn (v := .ty "tuple") (by rfl) B.b_tuple (by decide +kernel) rfl) pa_nil))))) (pw_or1 (pt_not (pt_chain op_le op_le pe_int (pe_callB (call_lenK (K := K) rfl) (by rfl) B.b_len PySem.boot_len (pa_cons (pv 1) pa_nil)) (pe_glob (v := .int (40)) rfl B.c_MOST_BLOCKS ⟨_, rfl⟩)))))) (pss_one (ps_raise rfl (takes_of rfl rfl rfl rfl) (pmk_oex X_BadTree.T X_BadTree.i X_BadTree.t G_BadTree___init__ (hr.mono (by first | decide | omega)) C_BadTree___init__.b .nil pass0 (by rfl) B.k_BadTree (pa_cons pe_str pa_nil)))) pss_nil)
 (pss_cons (ps_for (passes_of rfl) rfl (pi_enumTK (K := K) rfl rfl (by rfl) B.b_enumerate (by decide) (by decide) (pa_cons (pv 1) pa_nil)) (pg_tup rfl (pgs_cons (pg_name (i := 2) sc_Tree___init__.nd rfl (Or.inl rfl)) (pgs_cons (pg_name (i := 3) sc_Tree___init__.nd rfl (Or.inl rfl)) pgs_nil))) (pss_one (ps_if (PW.pt (pw_or (pt_not (pt_val (pe_call G_is_within (hr.mono (by first | decide | omega)) (by rfl) C_is_within.g C_is_within.k C_is_within.b .nil pass0 (pa_cons pe_int (pa_cons (pe_callB (call_lenK (K := K) rfl) (by rfl) B.b_len PySem.boot_len (pa_cons (pv 1) pa_nil)) (pa_cons (pv 3) pa_nil)))))) (pw_or1 (pt_cmpR op_eq (pv 3) (pv 2) (nomark _))))) (pss_one (ps_raise rfl (takes_of rfl rfl rfl rfl) (pmk_oex X_BadTree.T X_BadTree.i X_BadTree.t G_BadTree___init__ (hr.mono (by first | decide | omega)) C_BadTree___init__.b .nil pass0 (by rfl) B.k_BadTree (pa_cons (pv 2) pa_nil)))) pss_nil)))
 (pss_cons (ps_for (passes_of rfl) rfl (pi_range2 rfl B.b_range (pa_cons pe_int (pa_cons (pe_op op_add (pe_callB (call_lenK (K := K) rfl) (by rfl) B.b_len PySem.boot_len (pa_cons (pv 1) pa_nil)) pe_int) pa_nil))) (pg_name (i := 2) sc_Tree___init__.nd rfl (Or.inl rfl)) (pss_one (ps_if (pt_not (pt_val (pe_call G__comes_to_head (hr.mono (by first | decide | omega)) (by rfl) C__comes_to_head.g C__comes_to_head.k C__comes_to_head.b .nil pass0 (pa_cons (pv 1) (pa_cons (pv 2) pa_nil))))) (pss_one (ps_raise rfl (takes_of rfl rfl rfl rfl) (pmk_oex X_BadTree.T X_BadTree.i X_BadTree.t G_BadTree___init__ (hr.mono (by first | decide | omega)) C_BadTree___init__.b .nil pass0 (by rfl) B.k_BadTree (pa_cons (pe_tup (pa_cons pe_str (pa_cons (pv 2) pa_nil))) pa_nil)))) pss_nil)))
 (pss_one (ps_fld (pv 0) (pv 1) rfl))))), ?_⟩
    have raised : ∀ (d : Due) (v : V) H1, d ≠ .ok → DueV H hv d → Same H H1 → (∀ H2, Same H1 H2 → TellsDue H2 v d) → [v].length ≤ 1000 ∧ ∀ a, H1 a = none → spField Z.a_BadTree "part" (.ref a :: ([v] ++ [])) (upd H1 a (exo a Z.a_BadTree none)) (fun v H2 => v = .non ∧ ∃ (d : Addr) (fs : List (Str × V)), H2 a = some (exo a Z.a_BadTree (some d)) ∧ H2 d = some (exd d fs) ∧ H1 d = none ∧ E (.ref Z.a_BadTree) (some d) (upd (del H2 a) d (.xd fs))) (fun _ _ _ => False) := fun d v H1 nd hd s1 ht =>
      mk_field fun e H' s2 _ he => qe d e v H' nd hd (ht H' s2) (s1.trans s2) he
    rcases hk with ⟨a, xs, rfl, ha, hk⟩ | ⟨hn, hk⟩
    · have qq : ∀ (d : Due) (v : V) H1, d ≠ .ok → DueIs xs d → Same H H1 → (∀ H2, Same H1 H2 → TellsDue H2 v d) → _ := fun d v H1 nd hd => raised d v H1 nd (.inl ⟨a, xs, rfl, ha, hd, hk⟩)
      have nxa : x ≠ a := fun e => by
        rw [e, ha] at hx
        cases hx
      walk_at "h0"
      refine x_isd (fun c1 => ?_) (fun c1 => ?_)
      · walk_at "hs"
        refine x_isnd (fun c2 => ?_) (fun c2 => ?_)
        · walk_at "hs"
          exact qq .hung _ H (fun e => by cases e) (.hung (by omega)) (Same.refl _) fun _ _ => rfl
        · walk_at "hs"
          refine x_ent1 (.of ha) ?_
          refine lp_enumT (K := K) (xs := xs) (fun i σ' H' => (∃ x2 x3, σ' = [some (.ref x), some (.ref a), x2, x3]) ∧ Same H H' ∧ ∀ j y, j < i → xs[j]? = some y → ¬ badV xs.length j y)
            ⟨⟨_, _, rfl⟩, Same.refl _, fun j y h => absurd h (Nat.not_lt_zero _)⟩ (fun i σ' H' _ h => .of (h.2.1 _ _ ha)) ?_ ?_
          · rintro i xi σ' H' T hxi ⟨⟨x2, x3, rfl⟩, s1, hgood⟩ hT
            have ha1 := s1 _ _ ha
            have kx := (hk _ (List.mem_of_getElem? hxi)).same (same_new (o := .tup [.int (1 + (i : Int)), xi]) s1 hT)
            have hi := (List.getElem?_eq_some_iff.mp hxi).1
            have bad : badV xs.length i xi → _ := fun b => qq (.block (i + 1)) (.int (1 + (i : Int))) (upd H' T (.tup [.int (1 + (i : Int)), xi])) (fun e => by cases e) (.block (by omega) (by omega) hgood hxi b) (same_new s1 hT) (fun _ _ => by
              show V.int (1 + (i : Int)) = V.int ((i + 1 : Nat) : Int)
              congr 1
              omega)
            walk_at "hs"
            refine ⟨_, _, _, rfl, kx, ?_⟩
            walk_at "hs"
            cases hn : numV 0 xs.length xi with
            | false =>
              walk_at "hs"
              exact bad (.inl hn)
            | true =>
              obtain ⟨z, rfl, z0, z1⟩ := num_int hn
              walk_at "hs"
              refine x_isd (fun c => ?_) (fun c => ?_)
              · walk_at "hs"
                exact bad (.inr (by rw [c]; congr 1; omega))
              · walk_at "hs"
                refine ⟨⟨_, _, rfl⟩, same_new s1 hT, fun j y hj hy => ?_⟩
                by_cases e : j = i
                · subst e
                  rw [hxi] at hy
                  cases hy
                  rintro (h | h)
                  · rw [hn] at h
                    cases h
                  · injection h with h
                    exact c (by rw [h]; omega)
                · exact hgood j y (by omega) hy
          · rintro σ' H' ⟨⟨x2, x3, rfl⟩, s1, hgood⟩
            have ha1 := s1 _ _ ha
            have hgood' : ∀ (j : Nat) y, xs[j]? = some y → ¬ badV xs.length j y := fun j y hy => hgood j y (by have := (List.getElem?_eq_some_iff.mp hy).1; omega) hy
            obtain ⟨hs, rfl, hle⟩ := good_nats xs.length fun j y hy => by
              cases hn : numV 0 xs.length y with
              | true => rfl
              | false => exact (hgood' j y hy (.inl hn)).elim
            have hlen := nats_length hs
            rw [hlen] at hle
            walk_at "hs"
            refine ⟨1, ((nats hs).length : Int) + 1, rfl, ⟨by omega, by omega, by omega, by omega⟩, ?_⟩
            refine lp_range (lo := 1) (n := Int.toNat (((nats hs).length : Int) + 1 - 1)) (fun i σ' H2 => (∃ x2 x3, σ' = [some (.ref x), some (.ref a), x2, x3]) ∧ Same H H2 ∧ ∀ j, 1 ≤ j → j < i + 1 → upN hs hs.length j = 0)
              ⟨⟨_, _, rfl⟩, s1, fun j h1 h2 => by omega⟩ ?_ ?_
            · rintro i σ' H2 hi ⟨⟨x2, x3, rfl⟩, s2, hz⟩
              have ha2 := s2 _ _ ha
              walk_at "hs"
              refine ⟨a, hs, i + 1, by rw [show 1 + (i : Int) = ((i + 1 : Nat) : Int) by omega]; rfl, .of ha2, hle, by omega, ?_⟩
              walk_at "hs"
              refine x_isnd (fun c => ?_) (fun c => ?_)
              · walk_at "hs"
                intro p hp
                walk_at "hs"
                refine qq (.ring (i + 1)) _ _ (fun e => by cases e) (.ring (by omega) (by omega) rfl hgood' (fun j h1 h2 => hz j h1 h2) (by omega) (by omega) c) (same_new s2 hp) fun H3 s3 => ⟨p, rfl, ?_⟩
                rw [s3 _ _ upd_same, show (1 + (i : Int)) = ((i + 1 : Nat) : Int) by omega]
              · walk_at "hs"
                refine ⟨⟨_, _, rfl⟩, s2, fun j h1 h2 => ?_⟩
                by_cases e : j = i + 1
                · rw [e]
                  exact c
                · exact hz j h1 (by omega)
            · rintro σ' H2 ⟨⟨x2, x3, rfl⟩, s2, hz⟩
              have hx2 := s2 _ _ hx
              walk_at "hs"
              refine ⟨x, _, dx, _, rfl, hx2, T, N, by decide, ?_⟩
              walk_at "hs"
              refine q _ (.inl ⟨a, nats hs, rfl, ha, .ok ⟨by omega, by omega, hle, fun k hk => by
                by_cases h0 : k = 0
                · rw [h0]
                  exact upN_zero hs _
                · exact hz k (by omega) (by omega)⟩ rfl hgood', hk⟩) (But.mut (.of s2)) upd_same
      · walk_at "hs"
        exact qq .hung _ H (fun e => by cases e) (.hung (by omega)) (Same.refl _) fun _ _ => rfl
    · walk_at "h0"
      refine kn_not hn hk ?_
      walk_at "hs"
      exact raised .hung _ H (fun e => by cases e) (.inr ⟨hn, hk, rfl⟩) (Same.refl _) fun _ _ => rfl
end
set_option maxRecDepth 100000
set_option maxHeartbeats 1000000
open PySem PySem.Spec L2


theorem sc_Tree___eq__ : FnScope ["self", "other"] ["self", "other"] (defScope s_Tree___eq__) := ⟨rfl, rfl, rfl, by decide +kernel, rfl, by decide +kernel, by decide +kernel⟩
section
variable {P : Program} {w : World} {K : PySem.W.Frag} {mg : Str → Option Value} {base : Heap} {Z : Ad}

def TreeAt (Z : Ad) (H : Hp) (x : Addr) (hs : List Nat) : Prop := ∃ dx t, H x = some (.ins Z.a_Tree dx [("hung", .ref t)]) ∧ H t = some (.tup (nats hs))
theorem TreeAt.same {H H' : Hp} {x : Addr} {hs : List Nat} (s : Same H H') (h : TreeAt Z H x hs) : TreeAt Z H' x hs := by
  obtain ⟨dx, t, h1, h2⟩ := h
  exact ⟨dx, t, s _ _ h1, s _ _ h2⟩
def spEqT (Z : Ad) : Sp := fun vs H Q _ => ∃ (a b : Addr) (hs : List Nat), vs = [.ref a, .ref b] ∧ TreeAt Z H a hs ∧ ((∃ gs, TreeAt Z H b gs ∧ Q (.bl (decide (hs = gs))) H) ∨ ((∃ xs, H b = some (.tup xs)) ∧ Q (.bl false) H))
theorem ok_eqT {f : Addr} {fd : FuncData} (F : Fun K "__eq__" "Tree.__eq__" s_Tree___eq__ f fd) (B : Bl Z mg) (T : IsC K Z.a_Tree) (N : NoAttr K Z.a_Tree "hung") : FnOk P w K mg base CX0 1 f fd ["self", "other"] (spEqT Z) := by
  refine F.ok sc_Tree___eq__ (fun vs H Q E h => ?_) (fun cdv A outer s H vs Q E hr h => ?_)
  · obtain ⟨a, b, hs, rfl, _⟩ := h
    rfl
  · obtain ⟨a, b, hs, rfl, ⟨dx, t, hx, ht⟩, h⟩ := h
    refine ⟨_, (pss_one (ps_ret (pe_and (pe_callB (call_isiK' (K := K) rfl) (by rfl) B.b_isinstance (by decide +kernel) (pa_cons (pv 1) (pa_cons (pe_glob (v := .ref Z.a_Tree) rfl B.k_Tree rfl) pa_nil))) (pe_one (pe_cmpR (op_eqDK (K := K) rfl hr.units) (pe_fldK (K := K) rfl (pv 0) rfl) (pe_fldK (K := K) rfl (pv 1) rfl) (nomark _)))))), ?_⟩
    walk_at "h0"
    rcases h with ⟨gs, ⟨dy, u, hy, hu⟩, q⟩ | ⟨⟨xs, hb⟩, q⟩
    · refine isi_own T hy ?_
      walk_at "hs"
      refine ⟨a, _, dx, _, _, rfl, hx, T.cl, N, rfl, ?_⟩
      walk_at "hs"
      refine ⟨b, _, dy, _, _, rfl, hy, T.cl, N, rfl, ?_⟩
      exact x_eqTup (.of ht) (.of hu) q
    · refine isi_tupOwn T hb ?_
      walk_at "hs"
      exact q
end
set_option maxRecDepth 100000
set_option maxHeartbeats 1000000
open PySem PySem.Spec L2


theorem sc__law_odd : FnScope ["_law_pool_here", "_law_most"] ["_law_pool_here", "_law_most"] (defScope s__law_odd) := ⟨rfl, rfl, rfl, by decide +kernel, rfl, by decide +kernel, by decide +kernel⟩
section
variable {P : Program} {w : World} {K : PySem.W.Frag} {mg : Str → Option Value} {base : Heap} {Z : Ad}

def spOdd : Sp := fun vs H Q _ => ∃ (p : Addr) (n : Nat) (F : Addr → Prop), vs = [.ref p, .int n] ∧ PoolAt H p F ∧ ∀ v H', Kn H' v → v ≠ .ref p → But p H H' → PoolAt H' p F → Q v H'
theorem ok_odd {f : Addr} {fd : FuncData} (F : Fun K "_law_odd" "_law_odd" s__law_odd f fd) (B : Bl Z mg) {f__law_pick : Addr} {fd__law_pick : FuncData} (C__law_pick : Cal K mg "_law_pick" f__law_pick fd__law_pick ["_law_pool_here", "_law_things"]) (G__law_pick : FnOk P w K mg base CX0 2 f__law_pick fd__law_pick ["_law_pool_here", "_law_things"] (spPick K)) {f__law_deep : Addr} {fd__law_deep : FuncData} (C__law_deep : Cal K mg "_law_deep" f__law_deep fd__law_deep []) (G__law_deep : FnOk P w K mg base CX0 1 f__law_deep fd__law_deep [] (spDeep K)) : FnOk P w K mg base CX0 3 f fd ["_law_pool_here", "_law_most"] spOdd := by
  refine F.ok sc__law_odd (fun vs H Q E h => ?_) (fun cdv A outer s H vs Q E hr h => ?_)
  · obtain ⟨p, n, Fo, rfl, _⟩ := h
    rfl
  · obtain ⟨p, n, Fo, rfl, hp, q⟩ := h
    refine ⟨_, (pss_one (ps_ret (pe_call G__law_pick (hr.mono (by first | decide | omega)) (by rfl) C__law_pick.g C__law_pick.k C__law_pick.b .nil pass0 (pa_cons (pv 0) (pa_cons (pe_lst (pa_cons (pe_un un_neg pe_int) (pa_cons (pe_op op_add (pv 1) pe_int) (pa_cons pe_bl (pa_cons pe_bl (pa_cons pe_non (pa_cons pe_str (pa_cons (pe_tup (pa_cons pe_int pa_nil)) (pa_cons (pe_lst (pa_cons pe_int pa_nil)) (pa_cons pe_dnewK (pa_cons (pe_op op_pow pe_int pe_int) (pa_cons (pe_call0 G__law_deep (hr.mono (by first | decide | omega)) (by rfl) C__law_deep.g C__law_deep.k C__law_deep.b .nil pass0) (pa_cons (pv 1) (pa_cons pe_int (pa_cons pe_int pa_nil))))))))))))))) pa_nil))))), ?_⟩
    walk_at "h0"
    intro a1 h1
    walk_at "hs"
    intro a2 h2
    walk_at "hs"
    intro a3 h3
    walk_at "hs"
    have n1 := hp.ne h1
    have p1 := hp.newH (o := .tup [.int 1]) h1
    have n2 := p1.ne h2
    have p2 := p1.newH (o := .lst [.int 1]) h2
    have n3 := p2.ne h3
    have p3 := p2.newH (o := .dK []) h3
    refine ⟨rfl, fun a4 x H4 s4 h4 e4 _ => ?_⟩
    have n4 := p3.ne h4
    have p4 := p3.same s4
    walk_at "hs"
    intro L hL
    walk_at "hs"
    have k1 : H4 a1 = some (.tup [.int 1]) := s4 _ _ (by walk_at "hu")
    have k2 : H4 a2 = some (.lst [.int 1]) := s4 _ _ (by walk_at "hu")
    have k3 : H4 a3 = some (.dK []) := s4 _ _ upd_same
    refine ⟨p, L, _, Fo, rfl, p4.newH hL, SqL.of upd_same, p4.ne hL, by show 0 < 14; decide, by show 14 ≤ 1000; decide, fun v H5 hm b5 p5 => ?_⟩
    have key : Kn (upd H4 L (.lst [.int (-1), .int ((n : Int) + 1), .bl true, .bl false, .non, .str "1", .ref a1, .ref a2, .ref a3, .int (10 ^ Int.toNat 40), .ref a4, .int n, .int 0, .int 1])) v ∧ v ≠ .ref p := by
      simp only [List.mem_cons, List.not_mem_nil, or_false] at hm
      rcases hm with rfl | rfl | rfl | rfl | rfl | rfl | rfl | rfl | rfl | rfl | rfl | rfl | rfl | rfl
      all_goals first
        | exact ⟨True.intro, fun e => nomatch e⟩
        | exact ⟨.inr (.inl ⟨_, keepN k1 hL⟩), fun e => n1 (V.ref.inj e)⟩
        | exact ⟨.inl ⟨_, keepN k2 hL⟩, fun e => n2 (V.ref.inj e)⟩
        | exact ⟨.inr (.inr ⟨_, keepN k3 hL⟩), fun e => n3 (V.ref.inj e)⟩
        | exact ⟨.inl ⟨_, keepN e4 hL⟩, fun e => n4 (V.ref.inj e)⟩
    exact q v H5 (key.1.but b5 key.2) key.2 (((((But.new (But.refl p H) h1).new h2).new h3).trans (.of s4)).new hL |>.trans b5) p5
end
set_option maxRecDepth 100000
set_option maxHeartbeats 1000000
open PySem PySem.Spec L2


section
variable {P : Program} {w : World} {K : PySem.W.Frag} {mg : Str → Option Value} {base : Heap} {Z : Ad}

def Thing (H : Hp) (x : V) : Prop := (∃ a xs, x = .ref a ∧ H a = some (.tup xs) ∧ ∀ y ∈ xs, Kn H y) ∨ ((∀ a xs, x = .ref a → H a ≠ some (.tup xs)) ∧ Kn H x)
theorem Thing.same {H H' : Hp} {x : V} (s : Same H H') (h : Thing H x) : Thing H' x := by
  rcases h with ⟨a, xs, rfl, ha, hk⟩ | ⟨hn, hk⟩
  · exact .inl ⟨a, xs, rfl, s _ _ ha, fun y hy => (hk y hy).same s⟩
  · refine .inr ⟨fun a xs e ha => ?_, hk.same s⟩
    subst e
    rcases hk with ⟨ys, e⟩ | ⟨ys, e⟩ | ⟨ys, e⟩
    · have := (s _ _ e).symm.trans ha
      cases this
    · exact hn a ys rfl e
    · have := (s _ _ e).symm.trans ha
      cases this
theorem Thing.back {H H' : Hp} {x : V} {d : Due} (h : Thing H x) (s : Same H H') (hd : DueV H' x d) : DueV H x d := by
  rcases h with ⟨a, xs, rfl, ha, hk⟩ | ⟨hn, hk⟩
  · rcases hd with ⟨b, ys, e, hb, hi, _⟩ | ⟨hn, _, _⟩
    · cases e
      have := (s _ _ ha).symm.trans hb
      cases this
      exact .inl ⟨a, xs, rfl, ha, hi, hk⟩
    · exact (hn a xs rfl (s _ _ ha)).elim
  · rcases hd with ⟨b, ys, rfl, hb, hi, _⟩ | ⟨_, _, e⟩
    · rcases hk with ⟨zs, e⟩ | ⟨zs, e⟩ | ⟨zs, e⟩
      · have := (s _ _ e).symm.trans hb
        cases this
      · exact (hn b zs rfl e).elim
      · have := (s _ _ e).symm.trans hb
        cases this
    · exact .inr ⟨hn, hk, e⟩
end
set_option maxRecDepth 100000
set_option maxHeartbeats 4000000
open PySem PySem.Spec L2


theorem sc_law : FnScope ["_law_script", "_law_pool_here", "_law_turn", "_law_many", "_law_hung_here", "_law_tree", "_law_block", "_law_place", "_law_is_block", "_law_is_place", "_law_due", "_law_words"] ["_law_script"] (defScope s_law) := ⟨rfl, rfl, rfl, by decide +kernel, rfl, by decide +kernel, by decide +kernel⟩
section
variable {P : Program} {w : World} {K : PySem.W.Frag} {mg : Str → Option Value} {base : Heap} {Z : Ad}

theorem DueV.det {H : Hp} {x : V} {d e : Due} (h : DueV H x d) (h' : DueV H x e) : d = e := by
  rcases h with ⟨a, xs, rfl, ha, hi, _⟩ | ⟨hn, _, rfl⟩
  · rcases h' with ⟨b, ys, e, hb, hj, _⟩ | ⟨hn, _, _⟩
    · cases e
      have := ha.symm.trans hb
      cases this
      exact hi.det hj
    · exact (hn a xs rfl ha).elim
  · rcases h' with ⟨b, ys, rfl, hb, _, _⟩ | ⟨_, _, rfl⟩
    · exact (hn b ys rfl hb).elim
    · rfl
theorem tree_ok {hs : List Nat} (t : IsTree hs) : DueIs (nats hs) .ok := by
  refine .ok t rfl fun j y hy => ?_
  obtain ⟨x, hx, rfl⟩ : ∃ x : Nat, hs[j]? = some x ∧ y = .int x := by
    unfold nats at hy
    rw [List.getElem?_map] at hy
    cases e : hs[j]? with
    | none =>
      rw [e] at hy
      cases hy
    | some x =>
      rw [e] at hy
      exact ⟨x, rfl, (Option.some.inj hy).symm⟩
  have hle := t.le x (List.mem_of_getElem? hx)
  have hj := (List.getElem?_eq_some_iff.mp hx).1
  rw [nats_length]
  rintro (h | h)
  · rw [numT (by omega)] at h
    have := of_decide_eq_false h
    omega
  · injection h with h
    have e : x = j + 1 := by omega
    subst e
    have u : up hs (j + 1) = j + 1 := up_at (by omega) (by rw [Nat.add_sub_cancel]; exact hx)
    have un : ∀ n, upN hs n (j + 1) = j + 1 := fun n => by
      induction n with
      | zero => rfl
      | succ n ih =>
        show upN hs n (up hs (j + 1)) = j + 1
        rw [u]
        exact ih
    have := t.comes (j + 1) (by omega)
    rw [un] at this
    omega
theorem make_tree {H : Hp} {Q : VK} {a : Addr} {hs : List Nat} (t : IsTree hs) (ha : H a = some (.tup (nats hs))) (q : ∀ m H', H m = none → Same H H' → TreeAt Z H' m hs → Q (.ref m) H') :
    ∀ x dx, H x = none → H dx = none → dx ≠ x → spTree Z (.ref x :: ([.ref a] ++ [])) (upd (upd H dx (.own x)) x (.ins Z.a_Tree dx [])) (fun v H2 => v = .non ∧ Q (.ref x) H2) (fun _ _ _ => False) := by
  intro m dm hm hdm ne
  have hm2 : upd H dm (.own m) m = none := by
    rw [upd_ne (Ne.symm ne)]
    exact hm
  have s0 : Same H (upd (upd H dm (.own m)) m (.ins Z.a_Tree dm [])) := same_new (same_new (Same.refl H) hdm) hm2
  have hk : ∀ y ∈ nats hs, Kn H y := fun y hy => by
    obtain ⟨n, _, rfl⟩ := List.mem_map.mp hy
    exact True.intro
  have hx : Thing H (.ref a) := .inl ⟨a, _, rfl, ha, hk⟩
  have due : DueV H (.ref a) .ok := .inl ⟨a, _, rfl, ha, tree_ok t, hk⟩
  refine ⟨m, dm, .ref a, rfl, upd_same, hx.same s0, fun H' hd b1 hm1 => ⟨rfl, ?_⟩, fun d e v H' nd hd ht s1 he => nd ((hx.back s0 hd).det due)⟩
  have s1 : Same H H' := fun b o e => b1 _ _ (ne_of_none e hm) (s0 _ _ e)
  exact q m H' hm s1 ⟨dm, a, hm1, s1 _ _ ha⟩
theorem x_tree {H : Hp} {Q : VK} {a : Addr} {hs : List Nat} {σ : L2.St} {i : Nat} (hv : σ[i]? = some (some (.ref a))) (t : IsTree hs) (ha : H a = some (.tup (nats hs))) (q : ∀ m H', H m = none → Same H H' → TreeAt Z H' m hs → Q (.ref m) H') :
    tMake Z.a_Tree (spTree Z) [] (fun _ _ _ => False) (tCons (tVar i) tNil) σ H Q := ⟨_, hv, make_tree t ha q⟩
theorem PoolAt.lst {H : Hp} {p : Addr} {F : Addr → Prop} (h : PoolAt H p F) : ∃ xs, H p = some (.lst xs) := by
  obtain ⟨⟨g, z, gs, ss, c, n, hp, _⟩, _⟩ := h
  exact ⟨_, hp⟩
end
set_option maxRecDepth 100000
set_option maxHeartbeats 1000000
open PySem PySem.Spec L2


theorem sc_is_block : FnScope ["tree", "thing"] ["tree", "thing"] (defScope s_is_block) := ⟨rfl, rfl, rfl, by decide +kernel, rfl, by decide +kernel, by decide +kernel⟩
theorem sc_is_place : FnScope ["tree", "thing"] ["tree", "thing"] (defScope s_is_place) := ⟨rfl, rfl, rfl, by decide +kernel, rfl, by decide +kernel, by decide +kernel⟩
theorem sc_place_of : FnScope ["tree", "block"] ["tree", "block"] (defScope s_place_of) := ⟨rfl, rfl, rfl, by decide +kernel, rfl, by decide +kernel, by decide +kernel⟩
theorem sc_parents : FnScope ["tree", "block", "above"] ["tree", "block"] (defScope s_parents) := ⟨rfl, rfl, rfl, by decide +kernel, rfl, by decide +kernel, by decide +kernel⟩
section
variable {P : Program} {w : World} {K : PySem.W.Frag} {mg : Str → Option Value} {base : Heap} {Z : Ad}
def spIsB (Z : Ad) (lo : Int) : Sp := fun vs H Q _ => ∃ (x : Addr) (hs : List Nat) (v : V), vs = [.ref x, v] ∧ TreeAt Z H x hs ∧ Kn H v ∧ Q (.bl (numV lo hs.length v)) H
theorem ok_isBlock {f : Addr} {fd : FuncData} (F : Fun K "is_block" "is_block" s_is_block f fd) (B : Bl Z mg) (T : Cls K Z.a_Tree) (N : NoAttr K Z.a_Tree "hung") {f_is_within : Addr} {fd_is_within : FuncData} (C_is_within : Cal K mg "is_within" f_is_within fd_is_within ["least", "most", "thing"]) (G_is_within : FnOk P w K mg base CX0 1 f_is_within fd_is_within ["least", "most", "thing"] spWithin) : FnOk P w K mg base CX0 2 f fd ["tree", "thing"] (spIsB Z 1) := by
  refine F.ok sc_is_block (fun vs H Q E h => ?_) (fun cdv A outer s H vs Q E hr h => ?_)
  · obtain ⟨x, hs, v, rfl, _⟩ := h
    rfl
  · obtain ⟨x, hs, v, rfl, ht, hk, q⟩ := h
    refine ⟨_, (pss_one (ps_ret (pe_call G_is_within (hr.mono (by first | decide | omega)) (by rfl) C_is_within.g C_is_within.k C_is_within.b .nil pass0 (pa_cons pe_int (pa_cons (pe_callB (call_lenK (K := K) rfl) (by rfl) B.b_len PySem.boot_len (pa_cons (pe_fldK (K := K) rfl (pv 0) rfl) pa_nil)) (pa_cons (pv 1) pa_nil)))))), ?_⟩
    walk_at "h0"
    obtain ⟨dx, t, h1, h2⟩ := ht
    have h3 : SqT K H t (nats hs) := .of h2
    refine ⟨x, _, dx, _, _, rfl, h1, T, N, rfl, ?_⟩
    walk_at "hs"
    rw [nats_length]
    exact ⟨v, 1, _, rfl, hk, q⟩
theorem ok_isPlace {f : Addr} {fd : FuncData} (F : Fun K "is_place" "is_place" s_is_place f fd) (B : Bl Z mg) (T : Cls K Z.a_Tree) (N : NoAttr K Z.a_Tree "hung") {f_is_within : Addr} {fd_is_within : FuncData} (C_is_within : Cal K mg "is_within" f_is_within fd_is_within ["least", "most", "thing"]) (G_is_within : FnOk P w K mg base CX0 1 f_is_within fd_is_within ["least", "most", "thing"] spWithin) : FnOk P w K mg base CX0 2 f fd ["tree", "thing"] (spIsB Z 0) := by
  refine F.ok sc_is_place (fun vs H Q E h => ?_) (fun cdv A outer s H vs Q E hr h => ?_)
  · obtain ⟨x, hs, v, rfl, _⟩ := h
    rfl
  · obtain ⟨x, hs, v, rfl, ht, hk, q⟩ := h
    refine ⟨_, (pss_one (ps_ret (pe_call G_is_within (hr.mono (by first | decide | omega)) (by rfl) C_is_within.g C_is_within.k C_is_within.b .nil pass0 (pa_cons pe_int (pa_cons (pe_callB (call_lenK (K := K) rfl) (by rfl) B.b_len PySem.boot_len (pa_cons (pe_fldK (K := K) rfl (pv 0) rfl) pa_nil)) (pa_cons (pv 1) pa_nil)))))), ?_⟩
    walk_at "h0"
    obtain ⟨dx, t, h1, h2⟩ := ht
    have h3 : SqT K H t (nats hs) := .of h2
    refine ⟨x, _, dx, _, _, rfl, h1, T, N, rfl, ?_⟩
    walk_at "hs"
    rw [nats_length]
    exact ⟨v, 0, _, rfl, hk, q⟩
theorem num_nat {lo : Int} {n k : Nat} (h1 : lo ≤ k) (h2 : k ≤ n) : numV lo n (.int k) = true := by
  rw [numT h1]
  exact decide_eq_true (by omega)
def spPlace (Z : Ad) : Sp := fun vs H Q _ => ∃ (x : Addr) (hs : List Nat) (k : Nat), vs = [.ref x, .int k] ∧ TreeAt Z H x hs ∧ 1 ≤ k ∧ k ≤ hs.length ∧ Q (.int (up hs k : Nat)) H
theorem ok_place {f : Addr} {fd : FuncData} (F : Fun K "place_of" "place_of" s_place_of f fd) (B : Bl Z mg) (T : Cls K Z.a_Tree) (N : NoAttr K Z.a_Tree "hung") {f_is_block : Addr} {fd_is_block : FuncData} (C_is_block : Cal K mg "is_block" f_is_block fd_is_block ["tree", "thing"]) (G_is_block : FnOk P w K mg base CX0 2 f_is_block fd_is_block ["tree", "thing"] (spIsB Z 1)) : FnOk P w K mg base CX0 3 f fd ["tree", "block"] (spPlace Z) := by
  refine F.ok sc_place_of (fun vs H Q E h => ?_) (fun cdv A outer s H vs Q E hr h => ?_)
  · obtain ⟨x, hs, k, rfl, _⟩ := h
    rfl
  · obtain ⟨x, hs, k, rfl, ht, h1, h2, q⟩ := h
    refine ⟨_, (pss_cons (ps_if (pt_not (pt_val (pe_call G_is_block (hr.mono (by first | decide | omega)) (by rfl) C_is_block.g C_is_block.k C_is_block.b .nil pass0 (pa_cons (pv 0) (pa_cons (pv 1) pa_nil))))) (pss_one ps_never) pss_nil)
 (pss_one (ps_ret (pe_ix (ix_tupK (K := K) rfl) (pe_fldK (K := K) rfl (pv 0) rfl) (pe_op op_sub (pv 1) pe_int) (fun _ _ => rfl))))), ?_⟩
    walk_at "h0"
    refine ⟨x, hs, _, rfl, ht, True.intro, ?_⟩
    rw [num_nat (by omega) h2]
    have hat : atI (nats hs) ((k : Int) - 1) = some (.int (up hs k : Nat)) := by
      rw [show (k : Int) - 1 = ((k - 1 : Nat) : Int) by omega]
      exact nats_at (up_get h1 h2)
    walk_at "hs"
    obtain ⟨dx, t, e1, e2⟩ := ht
    have e3 : SqT K H t (nats hs) := .of e2
    refine ⟨x, _, dx, _, _, rfl, e1, T, N, rfl, ?_⟩
    walk_at "hs"
    exact q
def spParents (Z : Ad) : Sp := fun vs H Q _ => ∃ (x : Addr) (hs : List Nat) (k : Nat), vs = [.ref x, .int k] ∧ TreeAt Z H x hs ∧ IsTree hs ∧ 1 ≤ k ∧ k ≤ hs.length ∧ ∀ D H', Same H H' → H D = none → H' D = some (.tup (nats (way hs k))) → Q (.ref D) H'
theorem ok_parents {f : Addr} {fd : FuncData} (F : Fun K "parents" "parents" s_parents f fd) (B : Bl Z mg) {f_place_of : Addr} {fd_place_of : FuncData} (C_place_of : Cal K mg "place_of" f_place_of fd_place_of ["tree", "block"]) (G_place_of : FnOk P w K mg base CX0 3 f_place_of fd_place_of ["tree", "block"] (spPlace Z)) : FnOk P w K mg base CX0 4 f fd ["tree", "block"] (spParents Z) := by
  refine F.ok sc_parents (fun vs H Q E h => ?_) (fun cdv A outer s H vs Q E hr h => ?_)
  · obtain ⟨x, hs, k, rfl, _⟩ := h
    rfl
  · obtain ⟨x, hs, k, rfl, ht, it, h1, h2, q⟩ := h
    refine ⟨_, (pss_cons (ps_set (i := 2) sc_parents.nd rfl (Or.inl rfl) (pe_lst (pa_cons (pe_call G_place_of (hr.mono (by first | decide | omega)) (by rfl) C_place_of.g C_place_of.k C_place_of.b .nil pass0 (pa_cons (pv 0) (pa_cons (pv 1) pa_nil))) pa_nil)))
 (pss_cons (ps_while PassesOwn.never (pt_cmpR op_ne (pe_ix (ix_listK (K := K) rfl) (pv 2) (pe_un un_neg pe_int) (fun _ _ => rfl)) pe_int (nomark _)) (pss_one (ps_expr (pe_bmK (K := K) rfl PySem.F.plainAttrs_list PySem.F.slot_list_append PySem.F.type_list_append mt_append (pv 2) (pa_cons (pe_call G_place_of (hr.mono (by first | decide | omega)) (by rfl) C_place_of.g C_place_of.k C_place_of.b .nil pass0 (pa_cons (pv 0) (pa_cons (pe_ix (ix_listK (K := K) rfl) (pv 2) (pe_un un_neg pe_int) (fun _ _ => rfl)) pa_nil))) pa_nil)))))
 (pss_one (ps_ret (pe_callTy (call_tplK (K := K) rfl) (by rfl) B.b_tuple (by decide +kernel) (pa_cons (pv 2) pa_nil)))))), ?_⟩
    walk_at "h0"
    refine ⟨x, hs, k, rfl, ht, h1, h2, ?_⟩
    walk_at "hs"
    intro L hL
    walk_at "hs"
    refine ⟨fun m σ' H' => ∃ n : Nat, n + m = hs.length ∧ 1 ≤ n ∧ σ' = [some (.ref x), some (.int k), some (.ref L)] ∧ Same H H' ∧ (∀ j, j < n → upN hs j k ≠ 0) ∧ H' L = some (.lst (nats ((List.range n).map fun i => upN hs (i + 1) k))), ⟨hs.length - 1, 1, by omega, by omega, rfl, by walk_at "sm", fun j hj => ?_, upd_same⟩, ?_⟩
    · have e : j = 0 := by omega
      subst e
      show k ≠ 0
      omega
    · rintro m σ' H' ⟨n, hn, n1, rfl, s1, hz, eL⟩
      obtain ⟨n, rfl⟩ : ∃ n', n = n' + 1 := ⟨n - 1, by omega⟩
      have el : nats ((List.range (n + 1)).map fun i => upN hs (i + 1) k) = nats ((List.range n).map fun i => upN hs (i + 1) k) ++ [.int (upN hs (n + 1) k : Nat)] := by
        rw [List.range_succ, List.map_append, nats_append]
        rfl
      have hL1 : SqL K H' L (nats ((List.range (n + 1)).map fun i => upN hs (i + 1) k)) := .of eL
      have hat : atI (nats ((List.range (n + 1)).map fun i => upN hs (i + 1) k)) (-1) = some (.int (upN hs (n + 1) k : Nat)) := by
        rw [el]
        exact atI_last _ _
      walk_at "hs"
      refine x_isd (fun c => ?_) (fun c => ?_)
      · have c' : upN hs (n + 1) k ≠ 0 := fun e => c (by rw [e]; rfl)
        have hlt : n + 1 < hs.length := by
          refine Nat.lt_of_not_le fun hle => c' ?_
          exact upN_more (it.comes k h2) hle
        have hup := upN_le it.le (n + 1) k h2
        refine ⟨fun σ' H2 => σ' = [some (.ref x), some (.int k), some (.ref L)] ∧ Same H H2 ∧ H2 L = some (.lst (nats ((List.range (n + 1 + 1)).map fun i => upN hs (i + 1) k))), fun σ' H2 hN => ⟨m - 1, by omega, n + 1 + 1, by omega, by omega, hN.1, hN.2.1, fun j hj => ?_, hN.2.2⟩, ?_⟩
        · by_cases e : j = n + 1
          · rw [e]
            exact c'
          · exact hz j (by omega)
        · walk_at "hs"
          refine ⟨x, hs, upN hs (n + 1) k, rfl, ht.same s1, by omega, hup, ?_⟩
          walk_at "hs"
          refine x_append eL (by rw [nats_length, List.length_map, List.length_range]; exact szLt (by have := it.most; omega)) ?_
          walk_at "hs"
          refine ⟨rfl, by walk_at "sm", ?_⟩
          rw [upd_same, List.range_succ (n := n + 1), List.map_append, nats_append, List.map_cons, List.map_nil, upN_succ hs (n + 1)]
          rfl
      · have c' : upN hs (n + 1) k = 0 := by
          refine Decidable.byContradiction fun e => c fun e' => e ?_
          omega
        walk_at "hs"
        intro D hD
        refine q D _ (by walk_at "sm") (s1.free hD) ?_
        rw [upd_same, way, wayN_eq hs hs.length k (n + 1) hz c' (by omega)]
end
set_option maxRecDepth 100000
set_option maxHeartbeats 1000000
open PySem PySem.Spec L2


theorem sc_under : FnScope ["tree", "place", "block", "at"] ["tree", "place"] (defScope s_under) := ⟨rfl, rfl, rfl, by decide +kernel, rfl, by decide +kernel, by decide +kernel⟩
theorem sc_beneath : FnScope ["tree", "place", "blocks", "block"] ["tree", "place"] (defScope s_beneath) := ⟨rfl, rfl, rfl, by decide +kernel, rfl, by decide +kernel, by decide +kernel⟩
theorem sc__law_way : FnScope ["_law_hung_here", "_law_place", "_law_found", "_law_here", "_law_turn"] ["_law_hung_here", "_law_place"] (defScope s__law_way) := ⟨rfl, rfl, rfl, by decide +kernel, rfl, by decide +kernel, by decide +kernel⟩
section
variable {P : Program} {w : World} {K : PySem.W.Frag} {mg : Str → Option Value} {base : Heap} {Z : Ad}
def spUnder (Z : Ad) : Sp := fun vs H Q _ => ∃ (x : Addr) (hs : List Nat) (p : Nat), vs = [.ref x, .int p] ∧ TreeAt Z H x hs ∧ IsTree hs ∧ p ≤ hs.length ∧ ∀ D H', Same H H' → H D = none → H' D = some (.tup (nats (kids hs p))) → Q (.ref D) H'
theorem ok_under {f : Addr} {fd : FuncData} (F : Fun K "under" "under" s_under f fd) (B : Bl Z mg) (T : Cls K Z.a_Tree) (N : NoAttr K Z.a_Tree "hung") {f_is_place : Addr} {fd_is_place : FuncData} (C_is_place : Cal K mg "is_place" f_is_place fd_is_place ["tree", "thing"]) (G_is_place : FnOk P w K mg base CX0 2 f_is_place fd_is_place ["tree", "thing"] (spIsB Z 0)) : FnOk P w K mg base CX0 3 f fd ["tree", "place"] (spUnder Z) := by
  refine F.ok sc_under (fun vs H Q E h => ?_) (fun cdv A outer s H vs Q E hr h => ?_)
  · obtain ⟨x, hs, p, rfl, _⟩ := h
    rfl
  · obtain ⟨x, hs, p, rfl, ht, it, hp, q⟩ := h
    refine ⟨_, (pss_cons (ps_if (pt_not (pt_val (pe_call G_is_place (hr.mono (by first | decide | omega)) (by rfl) C_is_place.g C_is_place.k C_is_place.b .nil pass0 (pa_cons (pv 0) (pa_cons (pv 1) pa_nil))))) (pss_one ps_never) pss_nil)
 (pss_one (ps_ret (pe_callTy (call_tplK (K := K) rfl) (by rfl) B.b_tuple (by decide +kernel) (pa_cons (pe_lc (own := [("block", 2), ("at", 3)]) rfl sc_under.nd (pi_enumTK (K := K) rfl rfl (by rfl) B.b_enumerate (by decide) (by decide) (pa_cons (pe_fldK (K := K) rfl (pv 0) rfl) pa_nil)) (blkOk_by (N := ["tree", "place", "block", "at"]) (sc := defScope s_under) (by decide +kernel)) (fun _ _ _ _ _ => (pg_tupK (K := K) (n := 2) rfl rfl (pgs_cons (pg_name (i := 2) sc_under.nd rfl (Or.inl rfl)) (pgs_cons (pg_name (i := 3) sc_under.nd rfl (Or.inl rfl)) pgs_nil)))) (fun _ _ _ _ _ => (pts_one (pt_cmpR op_eq (pv 3) (pv 1) (nomark _)))) (fun _ _ _ _ _ => (pv 2))) pa_nil))))), ?_⟩
    walk_at "h0"
    refine ⟨x, hs, _, rfl, ht, True.intro, ?_⟩
    rw [num_nat (by omega) hp]
    walk_at "hs"
    obtain ⟨dx, t, h1, h2⟩ := ht
    refine ⟨x, _, dx, _, _, rfl, h1, T, N, rfl, ?_⟩
    walk_at "hs"
    refine x_ent1 (.of h2) fun D hD => ?_
    refine lc_enumT (K := K) (xs := nats hs) (fun i H' => Same H H' ∧ H' D = some (.lst (nats ((List.range' 1 i).filter fun b => decide (up hs b = p)))))
      ⟨same_new (Same.refl _) hD, upd_same⟩ (fun i H' _ h => .of (h.1 _ _ h2)) ?_ ?_
    · rintro i v H' U hv ⟨s1, eD⟩ hU
      have hi : i < hs.length := by
        have := (List.getElem?_eq_some_iff.mp hv).1
        rwa [nats_length] at this
      have hv2 : v = .int (up hs (i + 1) : Nat) := by
        have e := nats_get (up_get (hs := hs) (k := i + 1) (by omega) (by omega))
        rw [Nat.add_sub_cancel, hv] at e
        exact Option.some.inj e
      subst hv2
      have nDU : D ≠ U := ne_of_none eD hU
      walk_at "hs"
      refine ⟨rfl, ?_⟩
      walk_at "hs"
      have ec : ((1 : Int) + (i : Int)) = ((i + 1 : Nat) : Int) := by omega
      refine x_isd (fun c => ?_) (fun c => ?_)
      · walk_at "hs"
        refine ⟨_, keepN eD hU, by rw [nats_length]; exact szLt (by have := filter_len (fun b => decide (up hs b = p)) i; have := it.most; omega), same_mut (same_new s1 hU) hD, ?_⟩
        rw [upd_same, filter_snoc, if_pos (decide_eq_true (by omega)), nats_append, ec]
        rfl
      · refine ⟨same_new s1 hU, ?_⟩
        rw [keepN eD hU, filter_snoc, if_neg (by rw [decide_eq_true_eq]; omega), List.append_nil]
    · rintro H' ⟨s1, eD⟩
      rw [nats_length] at eD
      have hL : SqL K H' D _ := .of eD
      walk_at "hs"
      intro U hU
      exact q U _ (by walk_at "sm") (s1.free hU) upd_same
def spBeneath (Z : Ad) : Sp := fun vs H Q _ => ∃ (x : Addr) (hs : List Nat) (p : Nat), vs = [.ref x, .int p] ∧ TreeAt Z H x hs ∧ IsTree hs ∧ p ≤ hs.length ∧ ∀ D H', Same H H' → H D = none → H' D = some (.tup (nats (below hs p))) → Q (.ref D) H'
theorem ok_beneath {f : Addr} {fd : FuncData} (F : Fun K "beneath" "beneath" s_beneath f fd) (B : Bl Z mg) (T : Cls K Z.a_Tree) (N : NoAttr K Z.a_Tree "hung") {f_is_place : Addr} {fd_is_place : FuncData} (C_is_place : Cal K mg "is_place" f_is_place fd_is_place ["tree", "thing"]) (G_is_place : FnOk P w K mg base CX0 2 f_is_place fd_is_place ["tree", "thing"] (spIsB Z 0))
    {f_parents : Addr} {fd_parents : FuncData} (C_parents : Cal K mg "parents" f_parents fd_parents ["tree", "block"]) (G_parents : FnOk P w K mg base CX0 4 f_parents fd_parents ["tree", "block"] (spParents Z)) : FnOk P w K mg base CX0 5 f fd ["tree", "place"] (spBeneath Z) := by
  refine F.ok sc_beneath (fun vs H Q E h => ?_) (fun cdv A outer s H vs Q E hr h => ?_)
  · obtain ⟨x, hs, p, rfl, _⟩ := h
    rfl
  · obtain ⟨x, hs, p, rfl, ht, it, hp, q⟩ := h
    refine ⟨_, (pss_cons (ps_if (pt_not (pt_val (pe_call G_is_place (hr.mono (by first | decide | omega)) (by rfl) C_is_place.g C_is_place.k C_is_place.b .nil pass0 (pa_cons (pv 0) (pa_cons (pv 1) pa_nil))))) (pss_one ps_never) pss_nil)
 (pss_cons (ps_set (i := 2) sc_beneath.nd rfl (Or.inl rfl) (pe_callTy call_rng2 (by rfl) B.b_range (by decide +kernel) (pa_cons pe_int (pa_cons (pe_op op_add (pe_callB (call_lenK (K := K) rfl) (by rfl) B.b_len PySem.boot_len (pa_cons (pe_fldK (K := K) rfl (pv 0) rfl) pa_nil)) pe_int) pa_nil))))
 (pss_one (ps_ret (pe_callTy (call_tplK (K := K) rfl) (by rfl) B.b_tuple (by decide +kernel) (pa_cons (pe_lc (own := [("block", 3)]) rfl sc_beneath.nd (pi_rngV (pv 2)) (blkOk_by (N := ["tree", "place", "blocks", "block"]) (sc := defScope s_beneath) (by decide +kernel)) (fun _ _ _ _ _ => (pg_name (i := 3) sc_beneath.nd rfl (Or.inl rfl))) (fun _ _ _ _ _ => (pts_one (pt_cmpR (op_inK (K := K) rfl) (pv 1) (pe_call G_parents (hr.mono (by first | decide | omega)) (by rfl) C_parents.g C_parents.k C_parents.b .nil pass0 (pa_cons (pv 0) (pa_cons (pv 3) pa_nil))) (by rfl)))) (fun _ _ _ _ _ => (pv 3))) pa_nil)))))), ?_⟩
    walk_at "h0"
    refine ⟨x, hs, _, rfl, ht, True.intro, ?_⟩
    rw [num_nat (by omega) hp]
    walk_at "hs"
    obtain ⟨dx, t, h1, h2⟩ := id ht
    have h3 : SqT K H t (nats hs) := .of h2
    refine ⟨x, _, dx, _, _, rfl, h1, T, N, rfl, ?_⟩
    walk_at "hs"
    rw [nats_length]
    intro R hR
    walk_at "hs"
    have := it.most
    refine ⟨R, _, _, rfl, upd_same, ⟨by omega, by omega, by omega, by omega⟩, fun D hD => ?_⟩
    have nD : H D = none := Same.free (same_new (Same.refl _) hR) hD
    have en : Int.toNat ((hs.length : Int) + 1 - 1) = hs.length := by omega
    refine lc_range (lo := 1) (n := Int.toNat ((hs.length : Int) + 1 - 1)) (fun i H' => Same H H' ∧ H' D = some (.lst (nats ((List.range' 1 i).filter fun b => decide (p ∈ way hs b)))))
      ⟨same_mut (same_new (Same.refl _) hR) nD, upd_same⟩ ?_ ?_
    · rintro i H' hi ⟨s1, eD⟩
      walk_at "hs"
      refine ⟨rfl, ?_⟩
      walk_at "hs"
      have ec : ((1 : Int) + (i : Int)) = ((i + 1 : Nat) : Int) := by omega
      refine ⟨x, hs, i + 1, by rw [ec]; rfl, ht.same s1, it, by omega, by omega, fun U H2 s2 nU eU => ?_⟩
      have eD2 := s2 _ _ eD
      refine x_inNT (.of eU) ?_
      walk_at "hs"
      refine x_isd (fun c => ?_) (fun c => ?_)
      · walk_at "hs"
        refine ⟨_, eD2, by rw [nats_length]; exact szLt (by have := filter_len (fun b => decide (p ∈ way hs b)) i; omega), same_mut (s1.trans s2) nD, ?_⟩
        rw [upd_same, filter_snoc, if_pos (decide_eq_true c), nats_append, ec]
        rfl
      · refine ⟨s1.trans s2, ?_⟩
        rw [eD2, filter_snoc, if_neg (by rw [decide_eq_true_eq]; exact c), List.append_nil]
    · rintro H' ⟨s1, eD⟩
      rw [en] at eD
      have hL : SqL K H' D _ := .of eD
      walk_at "hs"
      intro U hU
      exact q U _ (by walk_at "sm") (s1.free hU) upd_same
def spWay (K : PySem.W.Frag) : Sp := fun vs H Q _ => ∃ (t : Addr) (hs : List Nat) (k : Nat), vs = [.ref t, .int k] ∧ SqT K H t (nats hs) ∧ (∀ x ∈ hs, x ≤ hs.length) ∧ hs.length ≤ 40 ∧ k ≤ hs.length ∧ ∀ D H', Same H H' → H D = none → H' D = some (.lst (nats (way hs k))) → Q (.ref D) H'
theorem ok_way {f : Addr} {fd : FuncData} (F : Fun K "_law_way" "_law_way" s__law_way f fd) (B : Bl Z mg) : FnOk P w K mg base CX0 1 f fd ["_law_hung_here", "_law_place"] (spWay K) := by
  refine F.ok sc__law_way (fun vs H Q E h => ?_) (fun cdv A outer s H vs Q E hr h => ?_)
  · obtain ⟨t, hs, k, rfl, _⟩ := h
    rfl
  · obtain ⟨t, hs, k, rfl, ht, hle, h40, hk, q⟩ := h
    refine ⟨_, (pss_cons (ps_set (i := 2) sc__law_way.nd rfl (Or.inl rfl) (pe_lst pa_nil))
 (pss_cons (ps_set (i := 3) sc__law_way.nd rfl (Or.inl rfl) (pv 1))
 (pss_cons (ps_for PassesOwn.never rfl (pi_tup (pv 0)) (pg_name (i := 4) sc__law_way.nd rfl (Or.inl rfl)) (pss_one (ps_if (pt_cmpR op_ne (pv 3) pe_int (nomark _)) (pss_cons (ps_set (i := 3) sc__law_way.nd rfl (Or.inl rfl) (pe_ix (ix_tupK (K := K) rfl) (pv 0) (pe_op op_sub (pv 3) pe_int) (fun _ _ => rfl)))
 (pss_one (ps_expr (pe_bmK (K := K) rfl PySem.F.plainAttrs_list PySem.F.slot_list_append PySem.F.type_list_append mt_append (pv 2) (pa_cons (pv 3) pa_nil))))) pss_nil)))
 (pss_one (ps_ret (pv 2)))))), ?_⟩
    walk_at "h0"
    intro D hD
    walk_at "hs"
    refine ⟨t, rfl, ⟨_, keepTN ht hD⟩, ?_⟩
    refine lp_tup (K := K) (xs := nats hs) (fun i σ' H' => (∃ x4, σ' = [some (.ref t), some (.int k), some (.ref D), some (.int (upN hs i k : Nat)), x4]) ∧ Same H H' ∧ H' D = some (.lst (nats (wayN hs i k))) ∧ (wayN hs i k).length ≤ i)
      ⟨⟨_, rfl⟩, same_new (Same.refl _) hD, upd_same, Nat.le_refl _⟩ (fun i σ' H' _ h => h.2.1.seqT ht) ?_ ?_
    · rintro i v σ' H' hv ⟨⟨x4, rfl⟩, s1, eD, hl⟩
      have hi : i < hs.length := by
        have := (List.getElem?_eq_some_iff.mp hv).1
        rwa [nats_length] at this
      have ht1 := s1.seqT ht
      have sn := wayN_snoc hs i k
      walk_at "hs"
      refine x_isd (fun c => ?_) (fun c => ?_)
      · have c' : upN hs i k ≠ 0 := fun e => c (by rw [e]; rfl)
        rw [if_neg c'] at sn
        have hup := upN_le hle i k hk
        have hat : atI (nats hs) ((upN hs i k : Nat) - 1 : Int) = some (.int (upN hs (i + 1) k : Nat)) := by
          rw [show ((upN hs i k : Nat) - 1 : Int) = ((upN hs i k - 1 : Nat) : Int) by omega, upN_succ]
          exact nats_at (up_get (by omega) hup)
        walk_at "hs"
        refine x_append eD (by rw [nats_length]; exact szLt (by omega)) ?_
        walk_at "hs"
        refine ⟨⟨_, rfl⟩, by walk_at "sm", ?_, ?_⟩
        · rw [upd_same, sn, nats_append]
          rfl
        · rw [sn, List.length_append]
          exact Nat.add_le_add_right hl 1
      · have c' : upN hs i k = 0 := by
          refine Decidable.byContradiction fun e => c fun e' => e ?_
          omega
        rw [if_pos c', List.append_nil] at sn
        walk_at "hs"
        rw [c', sn, upN_succ, c', up_zero]
        exact ⟨⟨_, rfl⟩, s1, eD, by omega⟩
    · rintro σ' H' ⟨⟨x4, rfl⟩, s1, eD, hl⟩
      rw [nats_length] at eD
      walk_at "hs"
      exact q D H' s1 hD eD
end
set_option maxRecDepth 100000
set_option maxHeartbeats 2000000
open PySem PySem.Spec L2


theorem sc__is_order : FnScope ["tree", "thing", "block"] ["tree", "thing"] (defScope s__is_order) := ⟨rfl, rfl, rfl, by decide +kernel, rfl, by decide +kernel, by decide +kernel⟩
theorem sc_called : FnScope ["tree", "order", "names", "hung", "block", "place"] ["tree", "order"] (defScope s_called) := ⟨rfl, rfl, rfl, by decide +kernel, rfl, by decide +kernel, by decide +kernel⟩
theorem sc_moved : FnScope ["tree", "block", "place"] ["tree", "block", "place"] (defScope s_moved) := ⟨rfl, rfl, rfl, by decide +kernel, rfl, by decide +kernel, by decide +kernel⟩
section
variable {P : Program} {w : World} {K : PySem.W.Frag} {mg : Str → Option Value} {base : Heap} {Z : Ad}
def spOrd (K : PySem.W.Frag) (Z : Ad) : Sp := fun vs H Q _ => ∃ (x t : Addr) (hs ms : List Nat), vs = [.ref x, .ref t] ∧ TreeAt Z H x hs ∧ IsTree hs ∧ SqT K H t (nats ms) ∧ IsOrd hs.length ms ∧ ∀ H', Same H H' → Q (.bl true) H'
theorem ok_ord {f : Addr} {fd : FuncData} (F : Fun K "_is_order" "_is_order" s__is_order f fd) (B : Bl Z mg) (T : Cls K Z.a_Tree) (N : NoAttr K Z.a_Tree "hung") {f_is_block : Addr} {fd_is_block : FuncData} (C_is_block : Cal K mg "is_block" f_is_block fd_is_block ["tree", "thing"]) (G_is_block : FnOk P w K mg base CX0 2 f_is_block fd_is_block ["tree", "thing"] (spIsB Z 1)) : FnOk P w K mg base CX0 3 f fd ["tree", "thing"] (spOrd K Z) := by
  refine F.ok sc__is_order (fun vs H Q E h => ?_) (fun cdv A outer s H vs Q E hr h => ?_)
  · obtain ⟨x, t, hs, ms, rfl, _⟩ := h
    rfl
  · obtain ⟨x, t, hs, ms, rfl, ht, it, et, o, q⟩ := h
    refine ⟨_, (pss_cons (ps_if (pt_not (pt_val (pe_callB (call_isT (K := K) rfl) (by rfl) B.b_isinstance (by decide +kernel) (pa_cons (pv 1) (pa_cons (pe_bltn (v := .ty "tuple") (by rfl) B.b_tuple (by decide +kernel) rfl) pa_nil))))) (pss_one (ps_ret pe_bl)) pss_nil)
 (pss_cons (ps_if (pt_not (pt_val (pe_callB (cr_allK (K := K) rfl rfl) (by rfl) B.b_all (by decide +kernel) (pa_cons (pe_lc (own := [("block", 2)]) rfl sc__is_order.nd (pi_tup (pv 1)) (blkOk_by (N := ["tree", "thing", "block"]) (sc := defScope s__is_order) (by decide +kernel)) (fun _ _ _ _ _ => (pg_name (i := 2) sc__is_order.nd rfl (Or.inl rfl))) (fun _ _ _ _ _ => pts_nil) (fun _ _ _ _ _ => (pe_call G_is_block (hr.mono (by first | decide | omega)) (by rfl) C_is_block.g C_is_block.k C_is_block.b .nil pass0 (pa_cons (pv 0) (pa_cons (pv 2) pa_nil))))) pa_nil)))) (pss_one (ps_ret pe_bl)) pss_nil)
 (pss_one (ps_ret (pe_cmpR (op_eqDK (K := K) rfl hr.units) (pe_callB (cr_sortT (K := K) rfl) (by rfl) B.b_sorted (by decide +kernel) (pa_cons (pv 1) pa_nil)) (pe_listRg rfl (by rfl) B.b_list (prg_2 (by rfl) B.b_range pe_int (pe_op op_add (pe_callB (call_lenK (K := K) rfl) (by rfl) B.b_len PySem.boot_len (pa_cons (pe_fldK (K := K) rfl (pv 0) rfl) pa_nil)) pe_int))) (nomark _)))))), ?_⟩
    have hT : SqT K H t (nats ms) := et
    have ol := o.len
    have := it.most
    walk_at "h0"
    refine ⟨t, _, rfl, hT, ?_⟩
    walk_at "hs"
    refine ⟨t, rfl, ⟨_, hT⟩, fun D hD => ?_⟩
    refine lc_tup (K := K) (xs := nats ms) (fun i H' => Same H H' ∧ H' D = some (.lst ((List.replicate i true).map V.bl))) ⟨same_new (Same.refl _) hD, upd_same⟩ (fun i H' _ h => h.1.seqT hT) ?_ ?_
    · rintro i v H' hv ⟨s1, eD⟩
      obtain ⟨k, hk, rfl⟩ : ∃ k : Nat, k ∈ ms ∧ v = .int k := by
        obtain ⟨k, hk, rfl⟩ := List.mem_map.mp (List.mem_of_getElem? hv)
        exact ⟨k, hk, rfl⟩
      have hi := (List.getElem?_eq_some_iff.mp hv).1
      rw [nats_length] at hi
      have rk := o.mem.mp hk
      walk_at "hs"
      refine ⟨rfl, ?_⟩
      walk_at "hs"
      refine ⟨x, hs, _, rfl, ht.same s1, True.intro, ?_⟩
      rw [num_nat (by omega) rk.2]
      refine ⟨_, eD, by rw [List.length_map, List.length_replicate]; exact szLt (by omega), same_mut s1 hD, ?_⟩
      rw [upd_same, List.replicate_succ', List.map_append]
      rfl
    · rintro H' ⟨s1, eD⟩
      walk_at "hs"
      refine ⟨D, _, rfl, .of eD, ?_⟩
      rw [show (List.replicate (nats ms).length true).all id = true by simp]
      walk_at "hs"
      refine x_sortT (ns := ms.map fun (k : Nat) => (k : Int)) (by rw [nats_ints]; exact s1.seqT hT) (by rw [List.length_map]; omega) fun zs p hz hp nz => ?_
      rw [sorted_ord o hz hp]
      walk_at "hs"
      obtain ⟨dx, u, h1, h2⟩ := (ht.same s1).same (same_new (o := .lst (nats (List.range' 1 hs.length))) (Same.refl _) nz)
      have h3 : SqT K (upd H' p (.lst (nats (List.range' 1 hs.length)))) u (nats hs) := .of h2
      refine ⟨x, _, dx, _, _, rfl, h1, T, N, rfl, ?_⟩
      walk_at "hs"
      rw [nats_length]
      refine ⟨⟨by omega, by omega, by omega, by omega, by omega⟩, fun r nr => ?_⟩
      rw [rgV_nats]
      refine x_eqLst (.of (keepN upd_same nr)) (.of upd_same) ?_
      rw [decide_eq_true rfl]
      exact q _ (same_new (same_new s1 nz) nr)
def spCalled (K : PySem.W.Frag) (Z : Ad) : Sp := fun vs H Q _ => ∃ (x t : Addr) (hs ms : List Nat), vs = [.ref x, .ref t] ∧ TreeAt Z H x hs ∧ IsTree hs ∧ SqT K H t (nats ms) ∧ IsOrd hs.length ms ∧ ∀ m H', Same H H' → H m = none → TreeAt Z H' m (call2 hs ms) → Q (.ref m) H'
theorem ok_called {f : Addr} {fd : FuncData} (F : Fun K "called" "called" s_called f fd) (B : Bl Z mg) (T : Cls K Z.a_Tree) (N : NoAttr K Z.a_Tree "hung") {f__is_order : Addr} {fd__is_order : FuncData} (C__is_order : Cal K mg "_is_order" f__is_order fd__is_order ["tree", "thing"]) (G__is_order : FnOk P w K mg base CX0 3 f__is_order fd__is_order ["tree", "thing"] (spOrd K Z))
    {f_Tree___init__ : Addr} {fd_Tree___init__ : FuncData} (C_Tree___init__ : CalM K f_Tree___init__ fd_Tree___init__ ["self", "hung"]) (G_Tree___init__ : FnOk P w K mg base (L2.CX P w) 3 f_Tree___init__ fd_Tree___init__ ["self", "hung"] (spTree Z)) (M_Tree : Mk K Z.a_Tree f_Tree___init__) : FnOk P w K mg base CX0 5 f fd ["tree", "order"] (spCalled K Z) := by
  refine F.ok sc_called (fun vs H Q E h => ?_) (fun cdv A outer s H vs Q E hr h => ?_)
  · obtain ⟨x, t, hs, ms, rfl, _⟩ := h
    rfl
  · obtain ⟨x, t, hs, ms, rfl, ht, it, et, o, q⟩ := h
    refine ⟨_, (pss_cons (ps_if (pt_not (pt_val (pe_call G__is_order (hr.mono (by first | decide | omega)) (by rfl) C__is_order.g C__is_order.k C__is_order.b .nil pass0 (pa_cons (pv 0) (pa_cons (pv 1) pa_nil))))) (pss_one ps_never) pss_nil)
 (pss_cons (ps_set (i := 2) sc_called.nd rfl (Or.inl rfl) (pe_tup (pa_cons pe_int (StX.pa_star (pv 1) pa_nil))))
 (pss_cons (ps_set (i := 3) sc_called.nd rfl (Or.inl rfl) (pe_op op_rep (pe_lst (pa_cons pe_int pa_nil)) (pe_callB (call_lenK (K := K) rfl) (by rfl) B.b_len PySem.boot_len (pa_cons (pv 1) pa_nil))))
 (pss_cons (ps_for PassesOwn.never rfl (pi_enumTK (K := K) rfl rfl (by rfl) B.b_enumerate (by decide) (by decide) (pa_cons (pe_fldK (K := K) rfl (pv 0) rfl) pa_nil)) (pg_tup rfl (pgs_cons (pg_name (i := 4) sc_called.nd rfl (Or.inl rfl)) (pgs_cons (pg_name (i := 5) sc_called.nd rfl (Or.inl rfl)) pgs_nil))) (pss_one (ps_asg (pe_ix (ix_tupK (K := K) rfl) (pv 2) (pv 5) (fun _ _ => rfl)) (pg_sub (pv 3) (pe_op op_sub (pe_ix (ix_tupK (K := K) rfl) (pv 2) (pv 4) (fun _ _ => rfl)) pe_int) set_list))))
 (pss_one (ps_ret (pe_make M_Tree G_Tree___init__ (hr.mono (by first | decide | omega)) (by rfl) B.k_Tree C_Tree___init__.b .nil passE (pa_cons (pe_callTy (call_tplK (K := K) rfl) (by rfl) B.b_tuple (by decide +kernel) (pa_cons (pv 3) pa_nil)) pa_nil)))))))), ?_⟩
    have hT : SqT K H t (nats ms) := et
    have ol := o.len
    walk_at "h0"
    refine ⟨x, t, hs, ms, rfl, ht, it, et, o, fun H1 s1 => ?_⟩
    have ht1 := ht.same s1
    have hT1 : SqT K H1 t (nats ms) := s1.seqT hT
    walk_at "hs"
    refine ⟨t, _, rfl, .inl hT1, ?_⟩
    walk_at "hs"
    rw [List.append_nil]
    have := it.most
    refine ⟨szLe (by rw [List.length_cons, nats_length]; omega), fun D hD => ?_⟩
    walk_at "hs"
    intro L0 hL0
    walk_at "hs"
    rw [nats_length]
    refine x_rep1 upd_same (by omega) fun L hL => ?_
    rw [nats_rep]
    have sL : Same H1 (upd (upd (upd H1 D (.tup (.int 0 :: nats ms))) L0 (.lst [.int 0])) L (.lst (nats (List.replicate ms.length 0)))) := same_new (same_new (same_new (Same.refl _) hD) hL0) hL
    have nL : H1 L = none := Same.free (same_new (same_new (Same.refl _) hD) hL0) hL
    have eDL : (upd (upd (upd H1 D (.tup (.int 0 :: nats ms))) L0 (.lst [.int 0])) L (.lst (nats (List.replicate ms.length 0)))) D = some (.tup (nats (0 :: ms))) := keepN (keepN upd_same hL0) hL
    have nDL : D ≠ L := ne_of_none (keepN upd_same hL0 : upd (upd H1 D (.tup (.int 0 :: nats ms))) L0 (.lst [.int 0]) D = some (.tup (.int 0 :: nats ms))) hL
    walk_at "hs"
    obtain ⟨dx, u, h1, h2⟩ := ht1
    refine ⟨x, _, dx, _, _, rfl, sL _ _ h1, T, N, rfl, ?_⟩
    walk_at "hs"
    refine x_ent1 (.of (sL _ _ h2)) ?_
    refine lp_enumT (K := K) (xs := nats hs) (fun i σ' H' => (∃ x4 x5, σ' = [some (.ref x), some (.ref t), some (.ref D), some (.ref L), x4, x5]) ∧ Same H1 H' ∧ H' D = some (.tup (nats (0 :: ms))) ∧ H' L = some (.lst (nats (callN hs ms i))))
      ⟨⟨_, _, rfl⟩, sL, eDL, by rw [upd_same, ol]; rfl⟩ (fun i σ' H' _ h => .of (h.2.1 _ _ h2)) ?_ ?_
    · rintro i v σ' H' U hv ⟨⟨x4, x5, rfl⟩, s2, eD, eL⟩ hU
      have hi : i < hs.length := by
        have := (List.getElem?_eq_some_iff.mp hv).1
        rwa [nats_length] at this
      have hv2 : v = .int (up hs (i + 1) : Nat) := by
        have e := nats_get (up_get (hs := hs) (k := i + 1) (by omega) (by omega))
        rw [Nat.add_sub_cancel, hv] at e
        exact Option.some.inj e
      subst hv2
      have ec : ((1 : Int) + (i : Int)) = ((i + 1 : Nat) : Int) := by omega
      have hup := up_le it.le (i + 1)
      have rk := o.rg (k := i + 1) (by omega) (by omega)
      have eDU : upd H' U (.tup [.int (1 + (i : Int)), .int (up hs (i + 1) : Nat)]) D = some (.tup (nats (0 :: ms))) := keepN eD hU
      have hDU : SqT K (upd H' U (.tup [.int (1 + (i : Int)), .int (up hs (i + 1) : Nat)])) D (nats (0 :: ms)) := .of eDU
      have eLU : upd H' U (.tup [.int (1 + (i : Int)), .int (up hs (i + 1) : Nat)]) L = some (.lst (nats (callN hs ms i))) := keepN eL hU
      have a1 : atI (nats (0 :: ms)) ((up hs (i + 1) : Nat) : Int) = some (.int (up ms (up hs (i + 1)) : Nat)) := names_at (by omega)
      have a2 : atI (nats (0 :: ms)) ((1 : Int) + (i : Int)) = some (.int (up ms (i + 1) : Nat)) := by
        rw [ec]
        exact names_at (by omega)
      have a3 : ixN (nats (callN hs ms i)).length ((up ms (i + 1) : Nat) - 1 : Int) = some (up ms (i + 1) - 1) := by
        rw [show ((up ms (i + 1) : Nat) - 1 : Int) = ((up ms (i + 1) - 1 : Nat) : Int) by omega]
        exact ixN_nat (by rw [nats_length, callN_len]; omega)
      walk_at "hs"
      refine ⟨⟨_, _, rfl⟩, same_mut (same_new s2 hU) nL, keepM nDL eDU, ?_⟩
      rw [upd_same, nats_set]
      rfl
    · rintro σ' H' ⟨⟨x4, x5, rfl⟩, s2, eD, eL⟩
      rw [nats_length] at eL
      have hL2 : SqL K H' L (nats (call2 hs ms)) := .of eL
      walk_at "hs"
      refine x_make ?_
      walk_at "hs"
      intro V hV
      refine make_tree (Q := Q) (call2_tree it o) upd_same fun m H3 nm s3 tr => ?_
      have s13 : Same H H3 := fun b ob e => s3 _ _ (keepN (s2 _ _ (s1 _ _ e)) hV)
      refine q m H3 s13 (s1.free (s2.free ?_)) tr
      exact Same.free (same_new (Same.refl _) hV) nm
def spMoved (Z : Ad) : Sp := fun vs H Q E => ∃ (x : Addr) (hs : List Nat) (b p : Nat), vs = [.ref x, .int b, .int p] ∧ TreeAt Z H x hs ∧ IsTree hs ∧ 1 ≤ b ∧ b ≤ hs.length ∧ p ≤ hs.length ∧
  (p ≠ b → b ∉ way hs p → ∀ m H', Same H H' → H m = none → TreeAt Z H' m (put hs b p) → Q (.ref m) H') ∧ ((p = b ∨ b ∈ way hs p) → ∀ H', Same H H' → E (.ref Z.a_Beneath) none H')
end
set_option maxRecDepth 100000
set_option maxHeartbeats 1000000
open PySem PySem.Spec L2


theorem sc_is_view : FnScope ["thing", "steps"] ["thing"] (defScope s_is_view) := ⟨rfl, rfl, rfl, by decide +kernel, rfl, by decide +kernel, by decide +kernel⟩
theorem sc__row_told : FnScope ["tree", "up", "place"] ["tree", "up", "place"] (defScope s__row_told) := ⟨rfl, rfl, rfl, by decide +kernel, rfl, by decide +kernel, by decide +kernel⟩
theorem sc__ties_told : FnScope ["tree", "down", "place", "ties", "level", "_", "next_ties", "above", "block", "tie"] ["tree", "down", "place"] (defScope s__ties_told) := ⟨rfl, rfl, rfl, by decide +kernel, rfl, by decide +kernel, by decide +kernel⟩
section
variable {P : Program} {w : World} {K : PySem.W.Frag} {mg : Str → Option Value} {base : Heap} {Z : Ad}
def ViewAt (H : Hp) (v : V) (u d : Nat) : Prop := ∃ a, v = .ref a ∧ H a = some (.tup [.int (u : Nat), .int (d : Nat)]) ∧ u ≤ 4 ∧ d ≤ 4
theorem ViewAt.same {H H' : Hp} {v : V} {u d : Nat} (s : Same H H') (h : ViewAt H v u d) : ViewAt H' v u d := by
  obtain ⟨a, e, h, k⟩ := h
  exact ⟨a, e, s _ _ h, k⟩
def spIsView : Sp := fun vs H Q _ => ∃ (v : V) (u d : Nat), vs = [v] ∧ ViewAt H v u d ∧ ∀ H', Same H H' → Q (.bl true) H'
theorem ok_isView {f : Addr} {fd : FuncData} (F : Fun K "is_view" "is_view" s_is_view f fd) (B : Bl Z mg) {f_is_within : Addr} {fd_is_within : FuncData} (C_is_within : Cal K mg "is_within" f_is_within fd_is_within ["least", "most", "thing"]) (G_is_within : FnOk P w K mg base CX0 1 f_is_within fd_is_within ["least", "most", "thing"] spWithin) : FnOk P w K mg base CX0 2 f fd ["thing"] spIsView := by
  refine F.ok sc_is_view (fun vs H Q E h => ?_) (fun cdv A outer s H vs Q E hr h => ?_)
  · obtain ⟨v, u, d, rfl, _⟩ := h
    rfl
  · obtain ⟨v, u, d, rfl, ⟨a, rfl, ha, hu, hd⟩, q⟩ := h
    refine ⟨_, (pss_cons (ps_if (PW.pt (pw_or (pt_not (pt_val (pe_callB (call_isiK' (K := K) rfl) (by rfl) B.b_isinstance (by decide +kernel) (pa_cons (pv 0) (pa_cons (pe_bltn (v := .ty "tuple") (by rfl) B.b_tuple (by decide +kernel) rfl) pa_nil))))) (pw_or1 (pt_cmpR op_ne (pe_callB (call_lenK (K := K) rfl) (by rfl) B.b_len PySem.boot_len (pa_cons (pv 0) pa_nil)) pe_int (nomark _))))) (pss_one (ps_ret pe_bl)) pss_nil)
 (pss_one (ps_ret (pe_callB (cr_allK (K := K) rfl rfl) (by rfl) B.b_all (by decide +kernel) (pa_cons (pe_lc (own := [("steps", 1)]) rfl sc_is_view.nd (pi_tup (pv 0)) (blkOk_by (N := ["thing", "steps"]) (sc := defScope s_is_view) (by decide +kernel)) (fun _ _ _ _ _ => (pg_name (i := 1) sc_is_view.nd rfl (Or.inl rfl))) (fun _ _ _ _ _ => pts_nil) (fun _ _ _ _ _ => (pe_call G_is_within (hr.mono (by first | decide | omega)) (by rfl) C_is_within.g C_is_within.k C_is_within.b .nil pass0 (pa_cons pe_int (pa_cons (pe_glob (v := .int (4)) rfl B.c_MOST_STEPS ⟨_, rfl⟩) (pa_cons (pv 1) pa_nil)))))) pa_nil))))), ?_⟩
    walk_at "h0"
    refine x_isd (fun c => (c rfl).elim) (fun _ => ?_)
    walk_at "hs"
    have hT : SqT K H a [.int (u : Nat), .int (d : Nat)] := .of ha
    refine ⟨a, rfl, ⟨_, hT⟩, fun D hD => ?_⟩
    refine lc_tup (K := K) (xs := [.int (u : Nat), .int (d : Nat)]) (fun i H' => Same H H' ∧ H' D = some (.lst ((List.replicate i true).map V.bl))) ⟨same_new (Same.refl _) hD, upd_same⟩ (fun i H' _ h => h.1.seqT hT) ?_ ?_
    · rintro i v H' hv ⟨s1, eD⟩
      obtain ⟨k, hk, rfl⟩ : ∃ k : Nat, k ≤ 4 ∧ v = .int k := by
        rcases List.mem_cons.mp (List.mem_of_getElem? hv) with e | e
        · exact ⟨u, hu, e⟩
        · exact ⟨d, hd, List.mem_singleton.mp e⟩
      have hi : i < 2 := (List.getElem?_eq_some_iff.mp hv).1
      walk_at "hs"
      refine ⟨rfl, ?_⟩
      walk_at "hs"
      refine ⟨_, _, _, rfl, True.intro, ?_⟩
      rw [show numV 0 4 (.int (k : Nat)) = true from num_nat (n := 4) (by omega) hk]
      refine ⟨_, eD, by rw [List.length_map, List.length_replicate]; exact szLt (by omega), same_mut s1 hD, ?_⟩
      rw [upd_same, List.replicate_succ', List.map_append]
      rfl
    · rintro H' ⟨s1, eD⟩
      walk_at "hs"
      refine ⟨D, _, rfl, .of eD, ?_⟩
      rw [show (List.replicate ([.int (u : Nat), .int (d : Nat)] : List V).length true).all id = true by simp]
      exact q _ s1
def spRow (Z : Ad) : Sp := fun vs H Q _ => ∃ (x : Addr) (hs : List Nat) (u k : Nat), vs = [.ref x, .int u, .int k] ∧ TreeAt Z H x hs ∧ IsTree hs ∧ k ≤ hs.length ∧ ∀ D H', Same H H' → H' D = some (.tup (nats (wayN hs u k))) → Q (.ref D) H'
theorem ok_row {f : Addr} {fd : FuncData} (F : Fun K "_row_told" "_row_told" s__row_told f fd) (B : Bl Z mg) {f_parents : Addr} {fd_parents : FuncData} (C_parents : Cal K mg "parents" f_parents fd_parents ["tree", "block"]) (G_parents : FnOk P w K mg base CX0 4 f_parents fd_parents ["tree", "block"] (spParents Z)) : FnOk P w K mg base CX0 5 f fd ["tree", "up", "place"] (spRow Z) := by
  refine F.ok sc__row_told (fun vs H Q E h => ?_) (fun cdv A outer s H vs Q E hr h => ?_)
  · obtain ⟨x, hs, u, k, rfl, _⟩ := h
    rfl
  · obtain ⟨x, hs, u, k, rfl, ht, it, hk, q⟩ := h
    refine ⟨_, (pss_cons (ps_if (pt_cmpR op_eq (pv 2) pe_int (nomark _)) (pss_one (ps_ret (pe_tup pa_nil))) pss_nil)
 (pss_one (ps_ret (pe_slice (sl_tupAK (K := K) rfl) (pe_call G_parents (hr.mono (by first | decide | omega)) (by rfl) C_parents.g C_parents.k C_parents.b .nil pass0 (pa_cons (pv 0) (pa_cons (pv 2) pa_nil))) po_none (po_some (pv 1)))))), ?_⟩
    walk_at "h0"
    refine x_isd (fun c => ?_) (fun c => ?_)
    · have e : k = 0 := by omega
      subst e
      walk_at "hs"
      intro D hD
      refine q D _ (same_new (Same.refl _) hD) ?_
      rw [upd_same, wayN_nil]
      rfl
    · walk_at "hs"
      refine ⟨x, hs, k, rfl, ht, it, by omega, hk, fun D H1 s1 nD eD => ?_⟩
      walk_at "hs"
      refine x_slA eD fun D2 H2 s2 e2 => ?_
      rw [cut_take, nats_take, way_take it hk] at e2
      exact q D2 H2 (s1.trans s2) e2
def spTies (Z : Ad) : Sp := fun vs H Q _ => ∃ (x : Addr) (hs : List Nat) (d k : Nat), vs = [.ref x, .int d, .int k] ∧ TreeAt Z H x hs ∧ IsTree hs ∧ d ≤ 4 ∧ k ≤ hs.length ∧ ∀ D H' ys, Same H H' → H' D = some (.tup ys) → PrsV H' ys (tiesN hs d k) → Q (.ref D) H'
theorem ok_ties {f : Addr} {fd : FuncData} (F : Fun K "_ties_told" "_ties_told" s__ties_told f fd) (B : Bl Z mg) {f_under : Addr} {fd_under : FuncData} (C_under : Cal K mg "under" f_under fd_under ["tree", "place"]) (G_under : FnOk P w K mg base CX0 3 f_under fd_under ["tree", "place"] (spUnder Z)) : FnOk P w K mg base CX0 4 f fd ["tree", "down", "place"] (spTies Z) := by
  refine F.ok sc__ties_told (fun vs H Q E h => ?_) (fun cdv A outer s H vs Q E hr h => ?_)
  · obtain ⟨x, hs, d, k, rfl, _⟩ := h
    rfl
  · obtain ⟨x, hs, d, k, rfl, ht, it, hd, hk, q⟩ := h
    have := it.most
    refine ⟨_, (pss_cons (ps_set (i := 3) sc__ties_told.nd rfl (Or.inl rfl) (pe_lst pa_nil))
 (pss_cons (ps_set (i := 4) sc__ties_told.nd rfl (Or.inl rfl) (pe_lst (pa_cons (pv 2) pa_nil)))
 (pss_cons (ps_for PassesOwn.never rfl (pi_range1 rfl B.b_range (pa_cons (pv 1) pa_nil)) (pg_name (i := 5) sc__ties_told.nd rfl (Or.inl rfl)) (pss_cons (ps_setLc2 (i := 6) (own := [("above", 7), ("block", 8)]) (vs1 := [8]) rfl sc__ties_told.nd rfl rfl (sw_true rfl rfl rfl (by decide +kernel)) (pi_list (pv 4)) (blkOk_by (N := ["tree", "down", "place", "ties", "level", "_", "next_ties", "above", "block", "tie"]) (sc := defScope s__ties_told) (by decide +kernel)) (by decide) (fun _ _ _ _ _ => (pg_name (i := 7) sc__ties_told.nd rfl (Or.inl rfl))) (fun _ _ _ _ _ => pts_nil) (fun _ _ _ _ _ => (pi_tupK (K := K) rfl (pe_call G_under (hr.mono (by first | decide | omega)) (by rfl) C_under.g C_under.k C_under.b .nil pass0 (pa_cons (pv 0) (pa_cons (pv 7) pa_nil))))) (fun _ _ _ _ _ => (pg_name (i := 8) sc__ties_told.nd rfl (Or.inl rfl))) (fun _ _ _ _ _ => pts_nil) (fun _ _ _ _ _ => (pe_tup (pa_cons (pv 8) (pa_cons (pv 7) pa_nil)))))
 (pss_cons (ps_expr (pe_bmK (K := K) rfl PySem.F.plainAttrs_list PySem.F.slot_list_extend PySem.F.type_list_extend mt_extend (pv 3) (pa_cons (pv 6) pa_nil)))
 (pss_one (ps_setLc (i := 4) (own := [("tie", 9)]) rfl sc__ties_told.nd rfl rfl (sw_true rfl rfl rfl (by decide +kernel)) (pi_list (pv 6)) (blkOk_by (N := ["tree", "down", "place", "ties", "level", "_", "next_ties", "above", "block", "tie"]) (sc := defScope s__ties_told) (by decide +kernel)) (fun _ _ _ _ _ => (pg_name (i := 9) sc__ties_told.nd rfl (Or.inl rfl))) (fun _ _ _ _ _ => pts_nil) (fun _ _ _ _ _ => (pe_ix (ix_tupK (K := K) rfl) (pv 9) pe_int (fun _ _ => rfl))))))))
 (pss_one (ps_ret (pe_callTy (call_tplK (K := K) rfl) (by rfl) B.b_tuple (by decide +kernel) (pa_cons (pe_callB (cr_sortedPO' (K := K) rfl) (by rfl) B.b_sorted (by decide +kernel) (pa_cons (pv 3) pa_nil)) pa_nil))))))), ?_⟩
    walk_at "h0"
    intro T nT
    walk_at "hs"
    intro L0 nL0
    walk_at "hs"
    refine ⟨_, rfl, by omega, by omega, ?_⟩
    refine lp_range (lo := 0) (n := Int.toNat (d : Int)) (fun i σ' H' => ∃ (L : Addr) (vs : List V), (∃ x5 x6 x7 x8 x9, σ' = [some (.ref x), some (.int d), some (.int k), some (.ref T), some (.ref L), x5, x6, x7, x8, x9]) ∧ Same H H' ∧ H' T = some (.lst vs) ∧ PrsV H' vs (withUp hs (acc hs k i)) ∧ H' L = some (.lst (nats (lev hs k i))))
      ⟨L0, [], ⟨_, _, _, _, _, rfl⟩, same_new (same_new (Same.refl _) nT) nL0, keepN upd_same nL0, True.intro, upd_same⟩ ?_ ?_
    · rintro i σ' H1 hi ⟨L, vs, ⟨x5, x6, x7, x8, x9, rfl⟩, s1, eT, pT, eL⟩
      have ht1 := ht.same s1
      have hL1 : SqL K H1 L (nats (lev hs k i)) := .of eL
      walk_at "hs"
      refine ⟨L, rfl, ⟨_, hL1⟩, fun D nD => ?_⟩
      have nTD : T ≠ D := ne_of_none eT nD
      refine lc2_list (K := K) (xs := nats (lev hs k i)) (fun j H' => Same H1 H' ∧ ∃ ws, H' D = some (.lst ws) ∧ PrsV H' ws (((lev hs k i).take j).flatMap fun a => (kids hs a).map fun b => (b, a)))
        ⟨same_new (Same.refl _) nD, [], upd_same, by rw [List.take_zero]; exact True.intro⟩ (fun j H' _ h => h.1.seq hL1) ?_ ?_
      · rintro j v H2 hv ⟨s2, ws, eD, pD⟩
        obtain ⟨a, ha, rfl⟩ : ∃ a : Nat, (lev hs k i)[j]? = some a ∧ v = .int a := by
          unfold nats at hv
          rw [List.getElem?_map] at hv
          cases e : (lev hs k i)[j]? with
          | none =>
            rw [e] at hv
            cases hv
          | some c =>
            rw [e] at hv
            exact ⟨c, rfl, (Option.some.inj hv).symm⟩
        have ma := (lev_mem it hk i a).mp (List.mem_of_getElem? ha)
        walk_at "hs"
        refine ⟨rfl, ?_⟩
        walk_at "hs"
        refine ⟨x, hs, a, rfl, ht1.same s2, it, ma.1, fun U H3 s3 nU eU => ?_⟩
        have hU3 : SqT K H3 U (nats (kids hs a)) := .of eU
        refine ⟨U, rfl, ⟨_, hU3⟩, ?_⟩
        refine lc2_tup (K := K) (xs := nats (kids hs a)) (fun l H' => Same H1 H' ∧ H' U = some (.tup (nats (kids hs a))) ∧ ∃ ws, H' D = some (.lst ws) ∧ PrsV H' ws ((((lev hs k i).take j).flatMap fun a => (kids hs a).map fun b => (b, a)) ++ ((kids hs a).take l).map fun b => (b, a)))
          ⟨s2.trans s3, eU, ws, s3 _ _ eD, by rw [List.take_zero, List.map_nil, List.append_nil]; exact pD.same s3⟩ (fun l H' _ h => .of h.2.1) ?_ ?_
        · rintro l v H4 hv ⟨s4, eU4, ws4, eD4, pD4⟩
          obtain ⟨b, hb, rfl⟩ : ∃ b : Nat, (kids hs a)[l]? = some b ∧ v = .int b := by
            unfold nats at hv
            rw [List.getElem?_map] at hv
            cases e : (kids hs a)[l]? with
            | none =>
              rw [e] at hv
              cases hv
            | some c =>
              rw [e] at hv
              exact ⟨c, rfl, (Option.some.inj hv).symm⟩
          have nUD : U ≠ D := fun z => by
            rw [z, eD4] at eU4
            cases eU4
          walk_at "hs"
          refine ⟨rfl, ?_⟩
          walk_at "hs"
          intro T2 nT2
          have lb : ws4.length ≤ 2000 := by
            rw [pD4.len, List.length_append, List.length_flatMap]
            have h1 : ((kids hs a).take l).length ≤ 40 := by
              have := filter_len (fun b => decide (up hs b = a)) hs.length
              have := List.length_take_le' l (kids hs a)
              unfold kids at *
              omega
            have h2 : ∀ m : List Nat, ((m.map fun a => ((kids hs a).map fun b => (b, a)).length).sum) ≤ m.length * 40 := fun m => by
              induction m with
              | nil => exact Nat.le_refl _
              | cons z m ih =>
                rw [List.map_cons, List.sum_cons, List.length_map, List.length_cons]
                have : (kids hs z).length ≤ hs.length := filter_len _ _
                omega
            have h3 := h2 ((lev hs k i).take j)
            have h4 := lev_len it hk i
            have h5 := List.length_take_le' j (lev hs k i)
            rw [List.length_map]
            omega
          refine ⟨ws4, keepN eD4 nT2, szLt (by omega), same_mut (same_new s4 nT2) nD, keepM nUD (keepN eU4 nT2), _, upd_same, ?_⟩
          have p5 : PrsV (upd H4 T2 (.tup [.int (b : Nat), .int (a : Nat)])) ws4 _ := pD4.same (same_new (Same.refl _) nT2)
          have p6 := (p5.app (vs := ws4) (ws := [.ref T2]) (ys := [(b, a)]) ⟨⟨T2, rfl, upd_same⟩, True.intro⟩).mut (o := .lst (ws4 ++ [.ref T2])) (keepN eD4 nT2)
          rw [take_snoc hb, List.map_append, ← List.append_assoc]
          exact p6
        · rintro H4 ⟨s4, eU4, ws4, eD4, pD4⟩
          refine ⟨s4, ws4, eD4, ?_⟩
          rw [nats_length, List.take_length] at pD4
          rw [take_snoc ha, List.flatMap_append]
          simpa using pD4
      · rintro H2 ⟨s2, ws, eD, pD⟩
        rw [nats_length, List.take_length, next_ties] at pD
        have eT2 := s2 _ _ eT
        have pT2 := pT.same s2
        have lw : ws.length ≤ 40 := by
          rw [pD.len]
          unfold withUp
          rw [List.length_map]
          have := lev_len it hk (i + 1)
          omega
        have lv : vs.length ≤ 40 := by
          rw [pT.len]
          unfold withUp
          rw [List.length_map]
          have := acc_len it hk i
          omega
        walk_at "hs"
        refine x_extend eT2 eD (by omega) ?_
        have pD3 : PrsV (upd H2 T (.lst (vs ++ ws))) ws (withUp hs (lev hs k (i + 1))) := pD.mut eT2
        have pT3 : PrsV (upd H2 T (.lst (vs ++ ws))) (vs ++ ws) (withUp hs (acc hs k (i + 1))) := by
          have := (pT2.app pD).mut (o := .lst (vs ++ ws)) eT2
          unfold withUp at this ⊢
          rw [← List.map_append] at this
          exact this
        have eD3 : upd H2 T (.lst (vs ++ ws)) D = some (.lst ws) := keepM (Ne.symm nTD) eD
        have s3 : Same H (upd H2 T (.lst (vs ++ ws))) := same_mut (s1.trans s2) nT
        have eT3 : upd H2 T (.lst (vs ++ ws)) T = some (.lst (vs ++ ws)) := upd_same
        generalize upd H2 T (.lst (vs ++ ws)) = H3 at pD3 pT3 eD3 s3 eT3 ⊢
        have hD3 : SqL K H3 D ws := .of eD3
        walk_at "hs"
        refine ⟨D, rfl, ⟨_, hD3⟩, fun M nM => ?_⟩
        refine lc_list (K := K) (a := D) (xs := ws) (fun j H' => Same H3 H' ∧ H' M = some (.lst (nats ((lev hs k (i + 1)).take j)))) ⟨same_new (Same.refl _) nM, upd_same⟩ (fun j H' _ h => h.1.seq hD3) ?_ ?_
        · rintro j v H4 hv ⟨s4, eM⟩
          obtain ⟨y, hy, t, rfl, ht4⟩ := pD3.at hv
          obtain ⟨b, hb, rfl⟩ : ∃ b : Nat, (lev hs k (i + 1))[j]? = some b ∧ y = (b, up hs b) := by
            unfold withUp at hy
            rw [List.getElem?_map] at hy
            cases e : (lev hs k (i + 1))[j]? with
            | none =>
              rw [e] at hy
              cases hy
            | some c =>
              rw [e] at hy
              exact ⟨c, rfl, (Option.some.inj hy).symm⟩
          have ht5 : SqT K H4 t [.int (b : Nat), .int (up hs b : Nat)] := .of (s4 _ _ ht4)
          walk_at "hs"
          refine ⟨rfl, ?_⟩
          walk_at "hs"
          refine ⟨_, eM, by rw [nats_length]; exact szLt (by have := lev_len it hk (i + 1); have := List.length_take_le' j (lev hs k (i + 1)); omega), same_mut s4 nM, ?_⟩
          rw [upd_same, take_snoc hb, nats_append]
          rfl
        · rintro H4 ⟨s4, eM⟩
          have hw : ws.length = (lev hs k (i + 1)).length := by
            rw [pD.len]
            unfold withUp
            rw [List.length_map]
          rw [hw, List.take_length] at eM
          walk_at "hs"
          exact ⟨M, _, ⟨_, _, _, _, _, rfl⟩, s3.trans s4, s4 _ _ eT3, pT3.same s4, eM⟩
    · rintro σ' H1 ⟨L, vs, ⟨x5, x6, x7, x8, x9, rfl⟩, s1, eT, pT, eL⟩
      rw [Int.toNat_natCast] at pT
      have hT1 : SqL K H1 T vs := .of eT
      walk_at "hs"
      refine x_sortP it hk hT1 pT fun ys p hy np => ?_
      walk_at "hs"
      intro U nU
      refine q U _ ys (same_new (same_new s1 np) nU) upd_same ?_
      exact hy.same (same_new (same_new (Same.refl _) np) nU)
end
set_option maxRecDepth 100000
set_option maxHeartbeats 1000000
open PySem PySem.Spec L2


theorem sc_telling : FnScope ["tree", "view", "place", "up", "down"] ["tree", "view", "place"] (defScope s_telling) := ⟨rfl, rfl, rfl, by decide +kernel, rfl, by decide +kernel, by decide +kernel⟩
theorem sc_unlike : FnScope ["tree", "other", "view", "places", "place"] ["tree", "other", "view"] (defScope s_unlike) := ⟨rfl, rfl, rfl, by decide +kernel, rfl, by decide +kernel, by decide +kernel⟩
section
variable {P : Program} {w : World} {K : PySem.W.Frag} {mg : Str → Option Value} {base : Heap} {Z : Ad}
def spTell (Z : Ad) : Sp := fun vs H Q _ => ∃ (x : Addr) (v : V) (hs : List Nat) (u d k : Nat), vs = [.ref x, v, .int k] ∧ TreeAt Z H x hs ∧ IsTree hs ∧ ViewAt H v u d ∧ k ≤ hs.length ∧ ∀ r H', Same H H' → TelAt H' r (wayN hs u k) (tiesN hs d k) → Q r H'
theorem ok_tell {f : Addr} {fd : FuncData} (F : Fun K "telling" "telling" s_telling f fd) (B : Bl Z mg) {f_is_view : Addr} {fd_is_view : FuncData} (C_is_view : Cal K mg "is_view" f_is_view fd_is_view ["thing"]) (G_is_view : FnOk P w K mg base CX0 2 f_is_view fd_is_view ["thing"] spIsView) {f_is_place : Addr} {fd_is_place : FuncData} (C_is_place : Cal K mg "is_place" f_is_place fd_is_place ["tree", "thing"]) (G_is_place : FnOk P w K mg base CX0 2 f_is_place fd_is_place ["tree", "thing"] (spIsB Z 0))
    {f__row_told : Addr} {fd__row_told : FuncData} (C__row_told : Cal K mg "_row_told" f__row_told fd__row_told ["tree", "up", "place"]) (G__row_told : FnOk P w K mg base CX0 5 f__row_told fd__row_told ["tree", "up", "place"] (spRow Z)) {f__ties_told : Addr} {fd__ties_told : FuncData} (C__ties_told : Cal K mg "_ties_told" f__ties_told fd__ties_told ["tree", "down", "place"]) (G__ties_told : FnOk P w K mg base CX0 4 f__ties_told fd__ties_told ["tree", "down", "place"] (spTies Z)) : FnOk P w K mg base CX0 6 f fd ["tree", "view", "place"] (spTell Z) := by
  refine F.ok sc_telling (fun vs H Q E h => ?_) (fun cdv A outer s H vs Q E hr h => ?_)
  · obtain ⟨x, v, hs, u, d, k, rfl, _⟩ := h
    rfl
  · obtain ⟨x, v, hs, u, d, k, rfl, ht, it, hv, hk, q⟩ := h
    refine ⟨_, (pss_cons (ps_if (pt_not (pt_val (pe_call G_is_view (hr.mono (by first | decide | omega)) (by rfl) C_is_view.g C_is_view.k C_is_view.b .nil pass0 (pa_cons (pv 1) pa_nil)))) (pss_one ps_never) pss_nil)
 (pss_cons (ps_if (pt_not (pt_val (pe_call G_is_place (hr.mono (by first | decide | omega)) (by rfl) C_is_place.g C_is_place.k C_is_place.b .nil pass0 (pa_cons (pv 0) (pa_cons (pv 2) pa_nil))))) (pss_one ps_never) pss_nil)
 (pss_cons (ps_asg (pv 1) (pg_tup rfl (pgs_cons (pg_name (i := 3) sc_telling.nd rfl (Or.inl rfl)) (pgs_cons (pg_name (i := 4) sc_telling.nd rfl (Or.inl rfl)) pgs_nil))))
 (pss_one (ps_ret (pe_tup (pa_cons (pe_call G__row_told (hr.mono (by first | decide | omega)) (by rfl) C__row_told.g C__row_told.k C__row_told.b .nil pass0 (pa_cons (pv 0) (pa_cons (pv 3) (pa_cons (pv 2) pa_nil)))) (pa_cons (pe_call G__ties_told (hr.mono (by first | decide | omega)) (by rfl) C__ties_told.g C__ties_told.k C__ties_told.b .nil pass0 (pa_cons (pv 0) (pa_cons (pv 4) (pa_cons (pv 2) pa_nil)))) pa_nil)))))))), ?_⟩
    walk_at "h0"
    refine ⟨v, u, d, rfl, hv, fun H1 s1 => ?_⟩
    have ht1 := ht.same s1
    obtain ⟨a, rfl, ha, hu, hd⟩ := hv.same s1
    walk_at "hs"
    refine ⟨x, hs, _, rfl, ht1, True.intro, ?_⟩
    rw [num_nat (by omega) hk]
    have hT : SqT K H1 a [.int (u : Nat), .int (d : Nat)] := .of ha
    walk_at "hs"
    refine ⟨x, hs, u, k, rfl, ht1, it, hk, fun D H2 s2 e2 => ?_⟩
    walk_at "hs"
    refine ⟨x, hs, d, k, rfl, ht1.same s2, it, hd, hk, fun D2 H3 ys s3 e3 p3 => ?_⟩
    walk_at "hs"
    intro U nU
    have s4 : Same H3 (upd H3 U (.tup [.ref D, .ref D2])) := same_new (Same.refl _) nU
    exact q _ _ (fun b o e => s4 _ _ (s3 _ _ (s2 _ _ (s1 _ _ e)))) ⟨U, D, D2, ys, rfl, upd_same, s4 _ _ (s3 _ _ e2), s4 _ _ e3, p3.same s4⟩
def spUnlike (Z : Ad) : Sp := fun vs H Q _ => ∃ (x y : Addr) (v : V) (hs gs : List Nat) (u d : Nat), vs = [.ref x, .ref y, v] ∧ TreeAt Z H x hs ∧ IsTree hs ∧ TreeAt Z H y gs ∧ IsTree gs ∧ hs.length = gs.length ∧ ViewAt H v u d ∧ ∀ D H', Same H H' → H' D = some (.tup (nats (unlikeN hs gs u d))) → Q (.ref D) H'
theorem ok_unlike {f : Addr} {fd : FuncData} (F : Fun K "unlike" "unlike" s_unlike f fd) (B : Bl Z mg) (I : IsC K Z.a_Tree) (T : Cls K Z.a_Tree) (N : NoAttr K Z.a_Tree "hung") {f_is_view : Addr} {fd_is_view : FuncData} (C_is_view : Cal K mg "is_view" f_is_view fd_is_view ["thing"]) (G_is_view : FnOk P w K mg base CX0 2 f_is_view fd_is_view ["thing"] spIsView)
    {f_telling : Addr} {fd_telling : FuncData} (C_telling : Cal K mg "telling" f_telling fd_telling ["tree", "view", "place"]) (G_telling : FnOk P w K mg base CX0 6 f_telling fd_telling ["tree", "view", "place"] (spTell Z)) : FnOk P w K mg base CX0 7 f fd ["tree", "other", "view"] (spUnlike Z) := by
  refine F.ok sc_unlike (fun vs H Q E h => ?_) (fun cdv A outer s H vs Q E hr h => ?_)
  · obtain ⟨x, y, v, hs, gs, u, d, rfl, _⟩ := h
    rfl
  · obtain ⟨x, y, v, hs, gs, u, d, rfl, hx, ix, hy, iy, hl, hv, q⟩ := h
    refine ⟨_, (pss_cons (ps_if (PW.pt (pw_or (pt_not (pt_val (pe_callB (call_isiK' (K := K) rfl) (by rfl) B.b_isinstance (by decide +kernel) (pa_cons (pv 1) (pa_cons (pe_glob (v := .ref Z.a_Tree) rfl B.k_Tree rfl) pa_nil))))) (pw_or1 (pt_cmpR op_ne (pe_callB (call_lenK (K := K) rfl) (by rfl) B.b_len PySem.boot_len (pa_cons (pe_fldK (K := K) rfl (pv 0) rfl) pa_nil)) (pe_callB (call_lenK (K := K) rfl) (by rfl) B.b_len PySem.boot_len (pa_cons (pe_fldK (K := K) rfl (pv 1) rfl) pa_nil)) (nomark _))))) (pss_one ps_never) pss_nil)
 (pss_cons (ps_if (pt_not (pt_val (pe_call G_is_view (hr.mono (by first | decide | omega)) (by rfl) C_is_view.g C_is_view.k C_is_view.b .nil pass0 (pa_cons (pv 2) pa_nil)))) (pss_one ps_never) pss_nil)
 (pss_cons (ps_set (i := 3) sc_unlike.nd rfl (Or.inl rfl) (pe_callTy call_rng1 (by rfl) B.b_range (by decide +kernel) (pa_cons (pe_op op_add (pe_callB (call_lenK (K := K) rfl) (by rfl) B.b_len PySem.boot_len (pa_cons (pe_fldK (K := K) rfl (pv 0) rfl) pa_nil)) pe_int) pa_nil)))
 (pss_one (ps_ret (pe_callTy (call_tplK (K := K) rfl) (by rfl) B.b_tuple (by decide +kernel) (pa_cons (pe_lc (own := [("place", 4)]) rfl sc_unlike.nd (pi_rngV (pv 3)) (blkOk_by (N := ["tree", "other", "view", "places", "place"]) (sc := defScope s_unlike) (by decide +kernel)) (fun _ _ _ _ _ => (pg_name (i := 4) sc_unlike.nd rfl (Or.inl rfl))) (fun _ _ _ _ _ => (pts_one (pt_cmpR (op_neDK (K := K) rfl hr.units) (pe_call G_telling (hr.mono (by first | decide | omega)) (by rfl) C_telling.g C_telling.k C_telling.b .nil pass0 (pa_cons (pv 0) (pa_cons (pv 2) (pa_cons (pv 4) pa_nil)))) (pe_call G_telling (hr.mono (by first | decide | omega)) (by rfl) C_telling.g C_telling.k C_telling.b .nil pass0 (pa_cons (pv 1) (pa_cons (pv 2) (pa_cons (pv 4) pa_nil)))) (nomark _)))) (fun _ _ _ _ _ => (pv 4))) pa_nil))))))), ?_⟩
    have := ix.most
    walk_at "h0"
    obtain ⟨dx, t, h1, h2⟩ := id hx
    obtain ⟨dy, t', h1', h2'⟩ := id hy
    refine isi_own I h1' ?_
    walk_at "hs"
    refine ⟨x, _, dx, _, _, rfl, h1, T, N, rfl, ?_⟩
    walk_at "hs"
    refine ⟨y, _, dy, _, _, rfl, h1', T, N, rfl, ?_⟩
    walk_at "hs"
    refine x_isd (fun c => (c (by rw [nats_length, nats_length, hl])).elim) (fun _ => ?_)
    walk_at "hs"
    refine ⟨v, u, d, rfl, hv, fun H1 s1 => ?_⟩
    have hx1 := hx.same s1
    have hy1 := hy.same s1
    have hv1 := hv.same s1
    walk_at "hs"
    obtain ⟨dx, t, h1, h2⟩ := id hx1
    refine ⟨x, _, dx, _, _, rfl, h1, T, N, rfl, ?_⟩
    walk_at "hs"
    rw [nats_length]
    refine x_rngA1 fun R hR => ?_
    walk_at "hs"
    refine ⟨R, _, _, rfl, upd_same, ⟨by omega, by omega, by omega, by omega⟩, fun D hD => ?_⟩
    have nD : H1 D = none := Same.free (same_new (Same.refl _) hR) hD
    have en : Int.toNat ((hs.length : Int) + 1 - 0) = hs.length + 1 := by omega
    refine lc_range (lo := 0) (n := Int.toNat ((hs.length : Int) + 1 - 0)) (fun i H' => Same H1 H' ∧ H' D = some (.lst (nats ((List.range i).filter fun p => !telD hs gs u d p))))
      ⟨same_mut (same_new (Same.refl _) hR) nD, upd_same⟩ ?_ ?_
    · rintro i H2 hi ⟨s2, eD⟩
      have ec : ((0 : Int) + (i : Int)) = ((i : Nat) : Int) := by omega
      walk_at "hs"
      refine ⟨rfl, ?_⟩
      walk_at "hs"
      refine ⟨x, v, hs, u, d, i, by rw [ec]; rfl, hx1.same s2, ix, hv1.same s2, by omega, fun r H3 s3 t3 => ?_⟩
      have s23 := s2.trans s3
      walk_at "hs"
      refine ⟨y, v, gs, u, d, i, by rw [ec]; rfl, hy1.same s23, iy, hv1.same s23, by omega, fun r' H4 s4 t4 => ?_⟩
      have s24 := s23.trans s4
      refine x_neTel (t3.same s4) t4 ?_
      have eD4 := s4 _ _ (s3 _ _ eD)
      have lb : ((List.range i).filter fun p => !telD hs gs u d p).length ≤ 41 := by
        have := List.length_filter_le (fun p => !telD hs gs u d p) (List.range i)
        rw [List.length_range] at this
        omega
      have fs := range0_snoc (fun p => !telD hs gs u d p) i
      show ∃ k, V.bl (!telD hs gs u d i) = .bl k ∧ _
      cases ht : telD hs gs u d i with
      | true =>
        walk_at "hs"
        refine ⟨s24, ?_⟩
        rw [eD4, fs, ht]
        simp
      | false =>
        walk_at "hs"
        refine ⟨_, eD4, by rw [nats_length]; exact szLt (by omega), same_mut s24 nD, ?_⟩
        rw [upd_same, fs, ht, ec, nats_append]
        rfl
    · rintro H2 ⟨s2, eD⟩
      rw [en] at eD
      walk_at "hs"
      have hL : SqL K H2 D (nats (unlikeN hs gs u d)) := .of eD
      walk_at "hs"
      intro U nU
      exact q U _ (same_new (s1.trans s2) nU) upd_same
end
set_option maxRecDepth 100000
set_option maxHeartbeats 2000000
open PySem PySem.Spec L2


theorem sc_distance : FnScope ["view", "up", "down", "by_row", "by_ties"] ["view"] (defScope s_distance) := ⟨rfl, rfl, rfl, by decide +kernel, rfl, by decide +kernel, by decide +kernel⟩
theorem sc_twins : FnScope ["view", "blocks", "_", "down", "row", "rest"] ["view", "blocks"] (defScope s_twins) := ⟨rfl, rfl, rfl, by decide +kernel, rfl, by decide +kernel, by decide +kernel⟩
section
variable {P : Program} {w : World} {K : PySem.W.Frag} {mg : Str → Option Value} {base : Heap} {Z : Ad}
def spDist : Sp := fun vs H Q _ => ∃ (v : V) (u d : Nat), vs = [v] ∧ ViewAt H v u d ∧ ∀ H', Same H H' → Q (.int (dist u d : Nat)) H'
theorem ok_dist {f : Addr} {fd : FuncData} (F : Fun K "distance" "distance" s_distance f fd) (B : Bl Z mg) {f_is_view : Addr} {fd_is_view : FuncData} (C_is_view : Cal K mg "is_view" f_is_view fd_is_view ["thing"]) (G_is_view : FnOk P w K mg base CX0 2 f_is_view fd_is_view ["thing"] spIsView) : FnOk P w K mg base CX0 3 f fd ["view"] spDist := by
  refine F.ok sc_distance (fun vs H Q E h => ?_) (fun cdv A outer s H vs Q E hr h => ?_)
  · obtain ⟨v, u, d, rfl, _⟩ := h
    rfl
  · obtain ⟨v, u, d, rfl, hv, q⟩ := h
    refine ⟨_, (pss_cons (ps_if (pt_not (pt_val (pe_call G_is_view (hr.mono (by first | decide | omega)) (by rfl) C_is_view.g C_is_view.k C_is_view.b .nil pass0 (pa_cons (pv 0) pa_nil)))) (pss_one ps_never) pss_nil)
 (pss_cons (ps_asg (pv 0) (pg_tup rfl (pgs_cons (pg_name (i := 1) sc_distance.nd rfl (Or.inl rfl)) (pgs_cons (pg_name (i := 2) sc_distance.nd rfl (Or.inl rfl)) pgs_nil))))
 (pss_cons (ps_set (i := 3) sc_distance.nd rfl (Or.inl rfl) (pe_ifExp (pt_cmpR op_gt (pv 1) pe_int (nomark _)) pe_int pe_int))
 (pss_cons (ps_set (i := 4) sc_distance.nd rfl (Or.inl rfl) (pe_ifExp (pt_cmpR op_gt (pv 2) pe_int (nomark _)) (pe_op op_add (pv 2) pe_int) pe_int))
 (pss_one (ps_ret (pe_op op_add (pv 3) (pv 4)))))))), ?_⟩
    walk_at "h0"
    refine ⟨v, u, d, rfl, hv, fun H1 s1 => ?_⟩
    obtain ⟨a, rfl, ha, hu, hd⟩ := hv.same s1
    have hT : SqT K H1 a [.int (u : Nat), .int (d : Nat)] := .of ha
    have fin : ∀ z : Int, z = ((dist u d : Nat) : Int) → Q (.int z) H1 := fun z e => by
      rw [e]
      exact q _ s1
    walk_at "hs"
    unfold dist at fin
    refine x_isd (fun c => ?_) (fun c => ?_)
    · walk_at "hs"
      refine x_isd (fun c2 => ?_) (fun c2 => ?_)
      · walk_at "hs"
        exact fin _ (by rw [if_pos (by omega), if_pos (by omega)]; omega)
      · walk_at "hs"
        exact fin _ (by rw [if_neg (by omega), if_pos (by omega)]; omega)
    · walk_at "hs"
      refine x_isd (fun c2 => ?_) (fun c2 => ?_)
      · walk_at "hs"
        exact fin _ (by rw [if_pos (by omega), if_neg (by omega)]; omega)
      · walk_at "hs"
        exact fin _ (by rw [if_neg (by omega), if_neg (by omega)]; omega)
theorem rg_nats0 (n : Nat) : rgV 0 (n : Int) = nats (List.range n) := by
  unfold rgV nats
  rw [show ((n : Int) - 0).toNat = n by omega]
  refine List.map_congr_left fun i _ => ?_
  rw [show (0 : Int) + ((i : Nat) : Int) = ((i : Nat) : Int) by omega]
  rfl
theorem make_treeR {H : Hp} {R : Addr → Hp → Prop} {a : Addr} {hs : List Nat} (t : IsTree hs) (ha : H a = some (.tup (nats hs))) (q : ∀ m H', H m = none → Same H H' → TreeAt Z H' m hs → R m H') :
    ∀ x dx, H x = none → H dx = none → dx ≠ x → spTree Z (.ref x :: ([.ref a] ++ [])) (upd (upd H dx (.own x)) x (.ins Z.a_Tree dx [])) (fun v H2 => v = .non ∧ R x H2) (fun _ _ _ => False) := by
  intro m dm hm hdm ne
  exact make_tree (Q := fun v H2 => ∃ y, v = .ref y ∧ R y H2) t ha (fun m H' h1 h2 h3 => ⟨m, rfl, q m H' h1 h2 h3⟩) m dm hm hdm ne |> fun z => by
    obtain ⟨x, dx, h, e, k1, k2, k3, k4⟩ := z
    refine ⟨x, dx, h, e, k1, k2, fun H' hd b1 hm1 => ?_, k4⟩
    obtain ⟨e1, y, e2, e3⟩ := k3 H' hd b1 hm1
    cases e2
    exact ⟨e1, e3⟩
def TwinsAt (Z : Ad) (H : Hp) (v : V) (n d : Nat) : Prop := ∃ D x y, v = .ref D ∧ H D = some (.tup [.ref x, .ref y]) ∧ TreeAt Z H x (twin n d d) ∧ TreeAt Z H y (twin n d (d + 1))
def spTwins (Z : Ad) : Sp := fun vs H Q _ => ∃ (v : V) (u d n : Nat), vs = [v, .int n] ∧ ViewAt H v u d ∧ 1 ≤ n ∧ n ≤ 40 ∧ ∀ r H', Same H H' → (n < d + 2 → r = .non) → (d + 2 ≤ n → TwinsAt Z H' r n d) → Q r H'
theorem ok_twins {f : Addr} {fd : FuncData} (F : Fun K "twins" "twins" s_twins f fd) (B : Bl Z mg) {f_is_view : Addr} {fd_is_view : FuncData} (C_is_view : Cal K mg "is_view" f_is_view fd_is_view ["thing"]) (G_is_view : FnOk P w K mg base CX0 2 f_is_view fd_is_view ["thing"] spIsView) {f_is_within : Addr} {fd_is_within : FuncData} (C_is_within : Cal K mg "is_within" f_is_within fd_is_within ["least", "most", "thing"]) (G_is_within : FnOk P w K mg base CX0 1 f_is_within fd_is_within ["least", "most", "thing"] spWithin)
    {f_Tree___init__ : Addr} {fd_Tree___init__ : FuncData} (C_Tree___init__ : CalM K f_Tree___init__ fd_Tree___init__ ["self", "hung"]) (G_Tree___init__ : FnOk P w K mg base (L2.CX P w) 3 f_Tree___init__ fd_Tree___init__ ["self", "hung"] (spTree Z)) (M_Tree : Mk K Z.a_Tree f_Tree___init__) : FnOk P w K mg base CX0 5 f fd ["view", "blocks"] (spTwins Z) := by
  refine F.ok sc_twins (fun vs H Q E h => ?_) (fun cdv A outer s H vs Q E hr h => ?_)
  · obtain ⟨v, u, d, n, rfl, _⟩ := h
    rfl
  · obtain ⟨v, u, d, n, rfl, hv, n1, n2, q⟩ := h
    refine ⟨_, (pss_cons (ps_if (pt_not (pt_val (pe_call G_is_view (hr.mono (by first | decide | omega)) (by rfl) C_is_view.g C_is_view.k C_is_view.b .nil pass0 (pa_cons (pv 0) pa_nil)))) (pss_one ps_never) pss_nil)
 (pss_cons (ps_if (pt_not (pt_val (pe_call G_is_within (hr.mono (by first | decide | omega)) (by rfl) C_is_within.g C_is_within.k C_is_within.b .nil pass0 (pa_cons pe_int (pa_cons (pe_glob (v := .int (40)) rfl B.c_MOST_BLOCKS ⟨_, rfl⟩) (pa_cons (pv 1) pa_nil)))))) (pss_one ps_never) pss_nil)
 (pss_cons (ps_asg (pv 0) (pg_tup rfl (pgs_cons (pg_name (i := 2) sc_twins.nd rfl (Or.inl rfl)) (pgs_cons (pg_name (i := 3) sc_twins.nd rfl (Or.inl rfl)) pgs_nil))))
 (pss_cons (ps_if (pt_cmpR op_lt (pv 1) (pe_op op_add (pv 3) pe_int) (nomark _)) (pss_one (ps_ret pe_non)) pss_nil)
 (pss_cons (ps_set (i := 4) sc_twins.nd rfl (Or.inl rfl) (pe_tupRg rfl (by rfl) B.b_tuple (prg_1 (by rfl) B.b_range (pe_op op_add (pv 3) pe_int))))
 (pss_cons (ps_set (i := 5) sc_twins.nd rfl (Or.inl rfl) (pe_op (op_repAK (K := K) rfl) (pe_tup (pa_cons pe_int pa_nil)) (pe_op op_sub (pe_op op_sub (pv 1) (pv 3)) pe_int)))
 (pss_one (ps_ret (pe_tup (pa_cons (pe_make M_Tree G_Tree___init__ (hr.mono (by first | decide | omega)) (by rfl) B.k_Tree C_Tree___init__.b .nil passE (pa_cons (pe_tup (StX.pa_star (pv 4) (pa_cons (pv 3) (StX.pa_star (pv 5) pa_nil)))) pa_nil)) (pa_cons (pe_make M_Tree G_Tree___init__ (hr.mono (by first | decide | omega)) (by rfl) B.k_Tree C_Tree___init__.b .nil passE (pa_cons (pe_tup (StX.pa_star (pv 4) (pa_cons (pe_op op_add (pv 3) pe_int) (StX.pa_star (pv 5) pa_nil)))) pa_nil)) pa_nil))))))))))), ?_⟩
    walk_at "h0"
    refine ⟨v, u, d, rfl, hv, fun H1 s1 => ?_⟩
    obtain ⟨a, rfl, ha, hu, hd⟩ := hv.same s1
    have hT : SqT K H1 a [.int (u : Nat), .int (d : Nat)] := .of ha
    walk_at "hs"
    refine ⟨_, _, _, rfl, True.intro, ?_⟩
    rw [show numV 1 40 (.int (n : Nat)) = true from num_nat (n := 40) (by omega) n2]
    walk_at "hs"
    refine x_isd (fun c => ?_) (fun c => ?_)
    · walk_at "hs"
      exact q _ _ s1 (fun _ => rfl) fun h => absurd c (by omega)
    · have hdn : d + 2 ≤ n := by omega
      walk_at "hs"
      refine ⟨⟨by omega, by omega, by omega, by omega, by omega⟩, fun R nR => ?_⟩
      rw [show ((d : Int) + 1) = ((d + 1 : Nat) : Int) by omega, rg_nats0]
      walk_at "hs"
      intro O1 nO1
      walk_at "hs"
      refine x_repA1 upd_same (by omega) (by omega) fun O2 H3 s3 e3 => ?_
      have eR3 : H3 R = some (.tup (nats (List.range (d + 1)))) := s3 _ _ (keepN upd_same nO1)
      have s13 : Same H1 H3 := fun b o e => s3 _ _ (keepN (keepN e nR) nO1)
      have e3' : H3 O2 = some (.tup (nats (List.replicate (n - d - 2) 0))) := by
        rw [e3, show ((n : Int) - (d : Int) - 2).toNat = n - d - 2 by omega, nats_rep]
      have tw : ∀ y : Nat, y ≤ d + 1 → nats (List.range (d + 1)) ++ (V.int (y : Nat) :: (nats (List.replicate (n - d - 2) 0) ++ [])) = nats (twin n d y) := fun y _ => by
        unfold twin
        rw [nats_append, List.append_nil]
        rfl
      walk_at "hs"
      refine x_make ?_
      walk_at "hs"
      refine ⟨R, _, rfl, .inl (.of eR3), ?_⟩
      walk_at "hs"
      refine ⟨O2, _, rfl, .inl (.of e3'), ?_⟩
      walk_at "hs"
      rw [tw d (by omega)]
      refine ⟨szLe (by rw [nats_length, twin_len hdn]; omega), fun V1 nV1 => ?_⟩
      walk_at "hs"
      refine make_treeR (twin_tree hdn n2 (by omega)) upd_same fun t1 H4 nt1 s4 tr1 => ?_
      have s34 : Same H3 H4 := fun b o e => s4 _ _ (keepN e nV1)
      walk_at "hs"
      refine x_make ?_
      walk_at "hs"
      refine ⟨R, _, rfl, .inl (.of (s34 _ _ eR3)), ?_⟩
      walk_at "hs"
      refine ⟨O2, _, rfl, .inl (.of (s34 _ _ e3')), ?_⟩
      walk_at "hs"
      rw [show ((d : Int) + 1) = ((d + 1 : Nat) : Int) by omega, tw (d + 1) (by omega)]
      refine ⟨szLe (by rw [nats_length, twin_len hdn]; omega), fun V2 nV2 => ?_⟩
      walk_at "hs"
      refine make_treeR (twin_tree hdn n2 (by omega)) upd_same fun t2 H5 nt2 s5 tr2 => ?_
      have s45 : Same H4 H5 := fun b o e => s5 _ _ (keepN e nV2)
      walk_at "hs"
      intro D nD
      have s6 : Same H5 (upd H5 D (.tup [.ref t1, .ref t2])) := same_new (Same.refl _) nD
      exact q _ _ (s1.trans (s13.trans (s34.trans (s45.trans s6)))) (fun h => absurd h (by omega)) fun _ => ⟨D, t1, t2, rfl, upd_same, (tr1.same s45).same s6, tr2.same s6⟩
end
set_option maxRecDepth 100000
set_option maxHeartbeats 2000000
open PySem PySem.Spec L2


section
variable {P : Program} {w : World} {K : PySem.W.Frag} {mg : Str → Option Value} {base : Heap} {Z : Ad}
def spPlaceE (Z : Ad) : Sp := fun vs H _ E => ∃ (x : Addr) (hs : List Nat) (v : V), vs = [.ref x, v] ∧ TreeAt Z H x hs ∧ Kn H v ∧ numV 1 hs.length v = false ∧ ∀ H', Same H H' → E (.ref Z.a_NoBlock) none H'
theorem ok_placeE {f fI : Addr} {fd : FuncData} (F : Fun K "place_of" "place_of" s_place_of f fd) (B : Bl Z mg) (T : Cls K Z.a_Tree) (N : NoAttr K Z.a_Tree "hung") (X_NoBlock : SupC P K Z.a_NoBlock fI) {f_is_block : Addr} {fd_is_block : FuncData} (C_is_block : Cal K mg "is_block" f_is_block fd_is_block ["tree", "thing"]) (G_is_block : FnOk P w K mg base CX0 2 f_is_block fd_is_block ["tree", "thing"] (spIsB Z 1)) : FnOk P w K mg base (L2N.CX P w) 3 f fd ["tree", "block"] (spPlaceE Z) := by
  refine okN F sc_place_of (fun vs H Q E h => ?_) (fun cdv A outer s H vs Q E hr h => ?_)
  · obtain ⟨x, hs, v, rfl, _⟩ := h
    rfl
  · obtain ⟨x, hs, v, rfl, ht, hk, hn, qe⟩ := h
    refine ⟨_, (pss_cons (ps_if (pt_not (pt_val (pe_call G_is_block (hr.mono (by first | decide | omega)) (by rfl) C_is_block.g C_is_block.k C_is_block.b .nil pass0 (pa_cons (pv 0) (pa_cons (pv 1) pa_nil))))) (pss_one (L2N.ps_raise rfl (L2N.takes_of rfl rfl rfl rfl) (pmk_supN X_NoBlock (hr.mono (by first | decide | omega)) (by rfl) B.k_NoBlock B.b_super))) pss_nil)
 (pss_one (ps_ret (pe_ix (ix_tupK (K := K) rfl) (pe_fldK (K := K) rfl (pv 0) rfl) (pe_op op_sub (pv 1) pe_int) (fun _ _ => rfl))))), ?_⟩
    walk_at "h0"
    refine ⟨x, hs, _, rfl, ht, hk, ?_⟩
    rw [hn]
    walk_at "hs"
    exact qe _ (Same.refl _)
theorem ok_parentsE {f : Addr} {fd : FuncData} (F : Fun K "parents" "parents" s_parents f fd) (B : Bl Z mg) {f_place_of : Addr} {fd_place_of : FuncData} (C_place_of : Cal K mg "place_of" f_place_of fd_place_of ["tree", "block"]) (G_place_of : FnOk P w K mg base (L2N.CX P w) 3 f_place_of fd_place_of ["tree", "block"] (fun vs H Q E => spPlace Z vs H Q E ∨ spPlaceE Z vs H Q E)) : FnOk P w K mg base (L2N.CX P w) 4 f fd ["tree", "block"] (spPlaceE Z) := by
  refine okN F sc_parents (fun vs H Q E h => ?_) (fun cdv A outer s H vs Q E hr h => ?_)
  · obtain ⟨x, hs, v, rfl, _⟩ := h
    rfl
  · obtain ⟨x, hs, v, rfl, ht, hk, hn, qe⟩ := h
    refine ⟨_, (pss_cons (ps_set (i := 2) sc_parents.nd rfl (Or.inl rfl) (pe_lst (pa_cons (pe_call (E := fun cls d H => ∀ σ : L2.St, σ.length = 3 → E cls d H) G_place_of (hr.mono (by first | decide | omega)) (by rfl) C_place_of.g C_place_of.k C_place_of.b .nil (passLenN (W := fun cls d _ H => E cls d H) (L2N.takes_of rfl rfl rfl rfl) rfl) (pa_cons (pv 0) (pa_cons (pv 1) pa_nil))) pa_nil)))
 (pss_cons (ps_while (passes_of rfl) (pt_cmpR op_ne (pe_ix (ix_listK (K := K) rfl) (pv 2) (pe_un un_neg pe_int) (fun _ _ => rfl)) pe_int (nomark _)) (pss_one (ps_expr (pe_bmK (K := K) rfl PySem.F.plainAttrs_list PySem.F.slot_list_append PySem.F.type_list_append mt_append (pv 2) (pa_cons (pe_call (E := fun cls d H => ∀ σ : L2.St, σ.length = 3 → E cls d H) G_place_of (hr.mono (by first | decide | omega)) (by rfl) C_place_of.g C_place_of.k C_place_of.b .nil (passLenN (W := fun cls d _ H => E cls d H) (L2N.takes_of rfl rfl rfl rfl) rfl) (pa_cons (pv 0) (pa_cons (pe_ix (ix_listK (K := K) rfl) (pv 2) (pe_un un_neg pe_int) (fun _ _ => rfl)) pa_nil))) pa_nil)))))
 (pss_one (ps_ret (pe_callTy (call_tplK (K := K) rfl) (by rfl) B.b_tuple (by decide +kernel) (pa_cons (pv 2) pa_nil)))))), ?_⟩
    walk_at "h0"
    exact .inr ⟨x, hs, v, rfl, ht, hk, hn, fun H' s σ _ => qe H' s⟩
def spUnderE (Z : Ad) : Sp := fun vs H _ E => ∃ (x : Addr) (hs : List Nat) (v : V), vs = [.ref x, v] ∧ TreeAt Z H x hs ∧ Kn H v ∧ numV 0 hs.length v = false ∧ ∀ H', Same H H' → E (.ref Z.a_NoPlace) none H'
theorem ok_underE {f fI : Addr} {fd : FuncData} (F : Fun K "under" "under" s_under f fd) (B : Bl Z mg) (T : Cls K Z.a_Tree) (N : NoAttr K Z.a_Tree "hung") (X_NoPlace : SupC P K Z.a_NoPlace fI) {f_is_place : Addr} {fd_is_place : FuncData} (C_is_place : Cal K mg "is_place" f_is_place fd_is_place ["tree", "thing"]) (G_is_place : FnOk P w K mg base CX0 2 f_is_place fd_is_place ["tree", "thing"] (spIsB Z 0)) : FnOk P w K mg base (L2N.CX P w) 3 f fd ["tree", "place"] (spUnderE Z) := by
  refine okN F sc_under (fun vs H Q E h => ?_) (fun cdv A outer s H vs Q E hr h => ?_)
  · obtain ⟨x, hs, v, rfl, _⟩ := h
    rfl
  · obtain ⟨x, hs, v, rfl, ht, hk, hn, qe⟩ := h
    refine ⟨_, (pss_cons (ps_if (pt_not (pt_val (pe_call G_is_place (hr.mono (by first | decide | omega)) (by rfl) C_is_place.g C_is_place.k C_is_place.b .nil pass0 (pa_cons (pv 0) (pa_cons (pv 1) pa_nil))))) (pss_one (L2N.ps_raise rfl (L2N.takes_of rfl rfl rfl rfl) (pmk_supN X_NoPlace (hr.mono (by first | decide | omega)) (by rfl) B.k_NoPlace B.b_super))) pss_nil)
 (pss_one (ps_ret (pe_callTy (call_tplK (K := K) rfl) (by rfl) B.b_tuple (by decide +kernel) (pa_cons (pe_lc (own := [("block", 2), ("at", 3)]) rfl sc_under.nd (pi_enumTK (K := K) rfl rfl (by rfl) B.b_enumerate (by decide) (by decide) (pa_cons (pe_fldK (K := K) rfl (pv 0) rfl) pa_nil)) (blkOk_by (N := ["tree", "place", "block", "at"]) (sc := defScope s_under) (by decide +kernel)) (fun _ _ _ _ _ => (pg_tupK (K := K) (n := 2) rfl rfl (pgs_cons (pg_name (i := 2) sc_under.nd rfl (Or.inl rfl)) (pgs_cons (pg_name (i := 3) sc_under.nd rfl (Or.inl rfl)) pgs_nil)))) (fun _ _ _ _ _ => (pts_one (pt_cmpR op_eq (pv 3) (pv 1) (nomark _)))) (fun _ _ _ _ _ => (pv 2))) pa_nil))))), ?_⟩
    walk_at "h0"
    refine ⟨x, hs, _, rfl, ht, hk, ?_⟩
    rw [hn]
    walk_at "hs"
    exact qe _ (Same.refl _)
theorem ok_beneathE {f fI : Addr} {fd : FuncData} (F : Fun K "beneath" "beneath" s_beneath f fd) (B : Bl Z mg) (T : Cls K Z.a_Tree) (N : NoAttr K Z.a_Tree "hung") (X_NoPlace : SupC P K Z.a_NoPlace fI) {f_is_place : Addr} {fd_is_place : FuncData} (C_is_place : Cal K mg "is_place" f_is_place fd_is_place ["tree", "thing"]) (G_is_place : FnOk P w K mg base CX0 2 f_is_place fd_is_place ["tree", "thing"] (spIsB Z 0))
    {f_parents : Addr} {fd_parents : FuncData} (C_parents : Cal K mg "parents" f_parents fd_parents ["tree", "block"]) (G_parents : FnOk P w K mg base CX0 4 f_parents fd_parents ["tree", "block"] (spParents Z)) : FnOk P w K mg base (L2N.CX P w) 5 f fd ["tree", "place"] (spUnderE Z) := by
  refine okN F sc_beneath (fun vs H Q E h => ?_) (fun cdv A outer s H vs Q E hr h => ?_)
  · obtain ⟨x, hs, v, rfl, _⟩ := h
    rfl
  · obtain ⟨x, hs, v, rfl, ht, hk, hn, qe⟩ := h
    refine ⟨_, (pss_cons (ps_if (pt_not (pt_val (pe_call G_is_place (hr.mono (by first | decide | omega)) (by rfl) C_is_place.g C_is_place.k C_is_place.b .nil pass0 (pa_cons (pv 0) (pa_cons (pv 1) pa_nil))))) (pss_one (L2N.ps_raise rfl (L2N.takes_of rfl rfl rfl rfl) (pmk_supN X_NoPlace (hr.mono (by first | decide | omega)) (by rfl) B.k_NoPlace B.b_super))) pss_nil)
 (pss_cons (ps_set (i := 2) sc_beneath.nd rfl (Or.inl rfl) (pe_callTy call_rng2 (by rfl) B.b_range (by decide +kernel) (pa_cons pe_int (pa_cons (pe_op op_add (pe_callB (call_lenK (K := K) rfl) (by rfl) B.b_len PySem.boot_len (pa_cons (pe_fldK (K := K) rfl (pv 0) rfl) pa_nil)) pe_int) pa_nil))))
 (pss_one (ps_ret (pe_callTy (call_tplK (K := K) rfl) (by rfl) B.b_tuple (by decide +kernel) (pa_cons (pe_lc (own := [("block", 3)]) rfl sc_beneath.nd (pi_rngV (pv 2)) (blkOk_by (N := ["tree", "place", "blocks", "block"]) (sc := defScope s_beneath) (by decide +kernel)) (fun _ _ _ _ _ => (pg_name (i := 3) sc_beneath.nd rfl (Or.inl rfl))) (fun _ _ _ _ _ => (pts_one (pt_cmpR (op_inK (K := K) rfl) (pv 1) (pe_call G_parents (hr.mono (by first | decide | omega)) (by rfl) C_parents.g C_parents.k C_parents.b .nil pass0 (pa_cons (pv 0) (pa_cons (pv 3) pa_nil))) (by rfl)))) (fun _ _ _ _ _ => (pv 3))) pa_nil)))))), ?_⟩
    walk_at "h0"
    refine ⟨x, hs, _, rfl, ht, hk, ?_⟩
    rw [hn]
    walk_at "hs"
    exact qe _ (Same.refl _)
def spMovedE (Z : Ad) : Sp := fun vs H _ E => ∃ (x : Addr) (hs : List Nat) (b p : V), vs = [.ref x, b, p] ∧ TreeAt Z H x hs ∧ Kn H b ∧ Kn H p ∧
  ((numV 1 hs.length b = false ∧ ∀ H', Same H H' → E (.ref Z.a_NoBlock) none H') ∨ (numV 1 hs.length b = true ∧ numV 0 hs.length p = false ∧ ∀ H', Same H H' → E (.ref Z.a_NoPlace) none H'))
theorem ok_movedE {f fI fJ fL : Addr} {fd : FuncData} (F : Fun K "moved" "moved" s_moved f fd) (B : Bl Z mg) (T : Cls K Z.a_Tree) (N : NoAttr K Z.a_Tree "hung") (X_NoBlock : SupC P K Z.a_NoBlock fI) (X_NoPlace : SupC P K Z.a_NoPlace fJ) (X_Beneath : SupC P K Z.a_Beneath fL) {f_is_block : Addr} {fd_is_block : FuncData} (C_is_block : Cal K mg "is_block" f_is_block fd_is_block ["tree", "thing"]) (G_is_block : FnOk P w K mg base CX0 2 f_is_block fd_is_block ["tree", "thing"] (spIsB Z 1))
    {f_is_place : Addr} {fd_is_place : FuncData} (C_is_place : Cal K mg "is_place" f_is_place fd_is_place ["tree", "thing"]) (G_is_place : FnOk P w K mg base CX0 2 f_is_place fd_is_place ["tree", "thing"] (spIsB Z 0)) {f_beneath : Addr} {fd_beneath : FuncData} (C_beneath : Cal K mg "beneath" f_beneath fd_beneath ["tree", "place"]) (G_beneath : FnOk P w K mg base CX0 5 f_beneath fd_beneath ["tree", "place"] (spBeneath Z))
    {f_Tree___init__ : Addr} {fd_Tree___init__ : FuncData} (C_Tree___init__ : CalM K f_Tree___init__ fd_Tree___init__ ["self", "hung"]) (G_Tree___init__ : FnOk P w K mg base (L2.CX P w) 3 f_Tree___init__ fd_Tree___init__ ["self", "hung"] (spTree Z)) (M_Tree : Mk K Z.a_Tree f_Tree___init__) : FnOk P w K mg base (L2N.CX P w) 6 f fd ["tree", "block", "place"] (spMovedE Z) := by
  refine okN F sc_moved (fun vs H Q E h => ?_) (fun cdv A outer s H vs Q E hr h => ?_)
  · obtain ⟨x, hs, b, p, rfl, _⟩ := h
    rfl
  · obtain ⟨x, hs, b, p, rfl, ht, hb, hp, hh⟩ := h
    refine ⟨_, (pss_cons (ps_if (pt_not (pt_val (pe_call G_is_block (hr.mono (by first | decide | omega)) (by rfl) C_is_block.g C_is_block.k C_is_block.b .nil pass0 (pa_cons (pv 0) (pa_cons (pv 1) pa_nil))))) (pss_one (L2N.ps_raise rfl (L2N.takes_of rfl rfl rfl rfl) (pmk_supN X_NoBlock (hr.mono (by first | decide | omega)) (by rfl) B.k_NoBlock B.b_super))) pss_nil)
 (pss_cons (ps_if (pt_not (pt_val (pe_call G_is_place (hr.mono (by first | decide | omega)) (by rfl) C_is_place.g C_is_place.k C_is_place.b .nil pass0 (pa_cons (pv 0) (pa_cons (pv 2) pa_nil))))) (pss_one (L2N.ps_raise rfl (L2N.takes_of rfl rfl rfl rfl) (pmk_supN X_NoPlace (hr.mono (by first | decide | omega)) (by rfl) B.k_NoPlace B.b_super))) pss_nil)
 (pss_cons (ps_if (PW.pt (pw_or (pt_cmpR op_eq (pv 2) (pv 1) (nomark _)) (pw_or1 (pt_cmpR (op_inK (K := K) rfl) (pv 2) (pe_call G_beneath (hr.mono (by first | decide | omega)) (by rfl) C_beneath.g C_beneath.k C_beneath.b .nil pass0 (pa_cons (pv 0) (pa_cons (pv 1) pa_nil))) (by rfl))))) (pss_one (L2N.ps_raise rfl (L2N.takes_of rfl rfl rfl rfl) (pmk_supN X_Beneath (hr.mono (by first | decide | omega)) (by rfl) B.k_Beneath B.b_super))) pss_nil)
 (pss_one (ps_ret (pe_make M_Tree G_Tree___init__ (hr.mono (by first | decide | omega)) (by rfl) B.k_Tree C_Tree___init__.b .nil passE (pa_cons (pe_op (op_catAK (K := K) rfl) (pe_op (op_catAK (K := K) rfl) (pe_slice (sl_tupAK (K := K) rfl) (pe_fldK (K := K) rfl (pv 0) rfl) po_none (po_some (pe_op op_sub (pv 1) pe_int))) (pe_tup (pa_cons (pv 2) pa_nil))) (pe_slice (sl_tupAK (K := K) rfl) (pe_fldK (K := K) rfl (pv 0) rfl) (po_some (pv 1)) po_none)) pa_nil))))))), ?_⟩
    walk_at "h0"
    refine ⟨x, hs, _, rfl, ht, hb, ?_⟩
    rcases hh with ⟨e1, qe⟩ | ⟨e1, e2, qe⟩
    · rw [e1]
      walk_at "hs"
      exact qe _ (Same.refl _)
    · rw [e1]
      walk_at "hs"
      refine ⟨x, hs, _, rfl, ht, hp, ?_⟩
      rw [e2]
      walk_at "hs"
      exact qe _ (Same.refl _)
def NotTup (Z : Ad) (H : Hp) (v : V) : Prop := (∀ a xs, v = .ref a → H a ≠ some (.tup xs)) ∧ (Kn H v ∨ ∃ x hs, v = .ref x ∧ TreeAt Z H x hs)
theorem notTup_isi {H : Hp} {Q : VK} {v : V} (c : IsC K Z.a_Tree) (nt : PySem.W.kitOne K (.ref Z.a_Tree) (.type "tuple") = some false) (h : NotTup Z H v) (q : Q (.bl false) H) : rIsi K [v, .ty "tuple"] H Q := by
  obtain ⟨hn, hk | ⟨x, hs, rfl, dx, t, h1, _⟩⟩ := h
  · exact kn_not hn hk q
  · exact isi_insTuple c nt h1 q
def BadView (Z : Ad) (H : Hp) (v : V) : Prop := NotTup Z H v ∨ ∃ a xs, v = .ref a ∧ H a = some (.tup xs) ∧ (∀ y ∈ xs, Kn H y) ∧ ¬ (xs.length = 2 ∧ ∀ y ∈ xs, numV 0 4 y = true)
def spIsViewF (Z : Ad) : Sp := fun vs H Q _ => ∃ (v : V), vs = [v] ∧ BadView Z H v ∧ ∀ H', Same H H' → Q (.bl false) H'
theorem ok_isViewF {f : Addr} {fd : FuncData} (F : Fun K "is_view" "is_view" s_is_view f fd) (B : Bl Z mg) (I : IsC K Z.a_Tree) (nt : PySem.W.kitOne K (.ref Z.a_Tree) (.type "tuple") = some false) {f_is_within : Addr} {fd_is_within : FuncData} (C_is_within : Cal K mg "is_within" f_is_within fd_is_within ["least", "most", "thing"]) (G_is_within : FnOk P w K mg base CX0 1 f_is_within fd_is_within ["least", "most", "thing"] spWithin) : FnOk P w K mg base CX0 2 f fd ["thing"] (spIsViewF Z) := by
  refine F.ok sc_is_view (fun vs H Q E h => ?_) (fun cdv A outer s H vs Q E hr h => ?_)
  · obtain ⟨v, rfl, _⟩ := h
    rfl
  · obtain ⟨v, rfl, hv, q⟩ := h
    refine ⟨_, (pss_cons (ps_if (PW.pt (pw_or (pt_not (pt_val (pe_callB (call_isiK' (K := K) rfl) (by rfl) B.b_isinstance (by decide +kernel) (pa_cons (pv 0) (pa_cons (pe_bltn (v := .ty "tuple") (by rfl) B.b_tuple (by decide +kernel) rfl) pa_nil))))) (pw_or1 (pt_cmpR op_ne (pe_callB (call_lenK (K := K) rfl) (by rfl) B.b_len PySem.boot_len (pa_cons (pv 0) pa_nil)) pe_int (nomark _))))) (pss_one (ps_ret pe_bl)) pss_nil)
 (pss_one (ps_ret (pe_callB (cr_allK (K := K) rfl rfl) (by rfl) B.b_all (by decide +kernel) (pa_cons (pe_lc (own := [("steps", 1)]) rfl sc_is_view.nd (pi_tup (pv 0)) (blkOk_by (N := ["thing", "steps"]) (sc := defScope s_is_view) (by decide +kernel)) (fun _ _ _ _ _ => (pg_name (i := 1) sc_is_view.nd rfl (Or.inl rfl))) (fun _ _ _ _ _ => pts_nil) (fun _ _ _ _ _ => (pe_call G_is_within (hr.mono (by first | decide | omega)) (by rfl) C_is_within.g C_is_within.k C_is_within.b .nil pass0 (pa_cons pe_int (pa_cons (pe_glob (v := .int (4)) rfl B.c_MOST_STEPS ⟨_, rfl⟩) (pa_cons (pv 1) pa_nil)))))) pa_nil))))), ?_⟩
    rcases hv with hv | ⟨a, xs, rfl, ha, hk, hb⟩
    · walk_at "h0"
      refine notTup_isi I nt hv ?_
      walk_at "hs"
      exact q _ (Same.refl _)
    · have hT : SqT K H a xs := .of ha
      walk_at "h0"
      refine x_isd (fun c => ?_) (fun c => ?_)
      · walk_at "hs"
        exact q _ (Same.refl _)
      · have l2 : xs.length = 2 := by omega
        walk_at "hs"
        refine ⟨a, rfl, ⟨_, hT⟩, fun D hD => ?_⟩
        refine lc_tup (K := K) (xs := xs) (fun i H' => Same H H' ∧ H' D = some (.lst (((xs.take i).map (numV 0 4)).map V.bl))) ⟨same_new (Same.refl _) hD, upd_same⟩ (fun i H' _ h => h.1.seqT hT) ?_ ?_
        · rintro i v H' hv ⟨s1, eD⟩
          have hi := (List.getElem?_eq_some_iff.mp hv).1
          have kv := (hk v (List.mem_of_getElem? hv)).same s1
          walk_at "hs"
          refine ⟨rfl, ?_⟩
          walk_at "hs"
          refine ⟨_, _, _, rfl, kv, ?_⟩
          refine ⟨_, eD, by rw [List.length_map, List.length_map]; exact szLt (by have := List.length_take_le' i xs; omega), same_mut s1 hD, ?_⟩
          rw [upd_same, take_snoc hv, List.map_append, List.map_append]
          rfl
        · rintro H' ⟨s1, eD⟩
          rw [List.take_length] at eD
          walk_at "hs"
          refine ⟨D, _, rfl, .of eD, ?_⟩
          have e : (xs.map (numV 0 4)).all id = false := by
            refine Bool.eq_false_iff.mpr fun z => hb ⟨l2, fun y hy => ?_⟩
            rw [List.all_eq_true] at z
            exact z _ (List.mem_map.mpr ⟨y, hy, rfl⟩)
          rw [e]
          exact q _ s1
def spTellE (Z : Ad) : Sp := fun vs H _ E => ∃ (x : Addr) (v k : V) (hs : List Nat), vs = [.ref x, v, k] ∧ TreeAt Z H x hs ∧ Kn H k ∧
  ((BadView Z H v ∧ ∀ H', Same H H' → E (.ref Z.a_NoView) none H') ∨ ((∃ u d, ViewAt H v u d) ∧ numV 0 hs.length k = false ∧ ∀ H', Same H H' → E (.ref Z.a_NoPlace) none H'))
abbrev spViewG (Z : Ad) : Sp := fun vs H Q E => spIsView vs H Q E ∨ spIsViewF Z vs H Q E
theorem ok_tellE {f fI fJ : Addr} {fd : FuncData} (F : Fun K "telling" "telling" s_telling f fd) (B : Bl Z mg) (X_NoView : SupC P K Z.a_NoView fI) (X_NoPlace : SupC P K Z.a_NoPlace fJ) {f_is_view : Addr} {fd_is_view : FuncData} (C_is_view : Cal K mg "is_view" f_is_view fd_is_view ["thing"]) (G_is_view : FnOk P w K mg base CX0 2 f_is_view fd_is_view ["thing"] (spViewG Z)) {f_is_place : Addr} {fd_is_place : FuncData} (C_is_place : Cal K mg "is_place" f_is_place fd_is_place ["tree", "thing"]) (G_is_place : FnOk P w K mg base CX0 2 f_is_place fd_is_place ["tree", "thing"] (spIsB Z 0))
    {f__row_told : Addr} {fd__row_told : FuncData} (C__row_told : Cal K mg "_row_told" f__row_told fd__row_told ["tree", "up", "place"]) (G__row_told : FnOk P w K mg base CX0 5 f__row_told fd__row_told ["tree", "up", "place"] (spRow Z)) {f__ties_told : Addr} {fd__ties_told : FuncData} (C__ties_told : Cal K mg "_ties_told" f__ties_told fd__ties_told ["tree", "down", "place"]) (G__ties_told : FnOk P w K mg base CX0 4 f__ties_told fd__ties_told ["tree", "down", "place"] (spTies Z)) : FnOk P w K mg base (L2N.CX P w) 6 f fd ["tree", "view", "place"] (spTellE Z) := by
  refine okN F sc_telling (fun vs H Q E h => ?_) (fun cdv A outer s H vs Q E hr h => ?_)
  · obtain ⟨x, v, k, hs, rfl, _⟩ := h
    rfl
  · obtain ⟨x, v, k, hs, rfl, ht, hk, hh⟩ := h
    refine ⟨_, (pss_cons (ps_if (pt_not (pt_val (pe_call G_is_view (hr.mono (by first | decide | omega)) (by rfl) C_is_view.g C_is_view.k C_is_view.b .nil pass0 (pa_cons (pv 1) pa_nil)))) (pss_one (L2N.ps_raise rfl (L2N.takes_of rfl rfl rfl rfl) (pmk_supN X_NoView (hr.mono (by first | decide | omega)) (by rfl) B.k_NoView B.b_super))) pss_nil)
 (pss_cons (ps_if (pt_not (pt_val (pe_call G_is_place (hr.mono (by first | decide | omega)) (by rfl) C_is_place.g C_is_place.k C_is_place.b .nil pass0 (pa_cons (pv 0) (pa_cons (pv 2) pa_nil))))) (pss_one (L2N.ps_raise rfl (L2N.takes_of rfl rfl rfl rfl) (pmk_supN X_NoPlace (hr.mono (by first | decide | omega)) (by rfl) B.k_NoPlace B.b_super))) pss_nil)
 (pss_cons (ps_asg (pv 1) (pg_tup rfl (pgs_cons (pg_name (i := 3) sc_telling.nd rfl (Or.inl rfl)) (pgs_cons (pg_name (i := 4) sc_telling.nd rfl (Or.inl rfl)) pgs_nil))))
 (pss_one (ps_ret (pe_tup (pa_cons (pe_call G__row_told (hr.mono (by first | decide | omega)) (by rfl) C__row_told.g C__row_told.k C__row_told.b .nil pass0 (pa_cons (pv 0) (pa_cons (pv 3) (pa_cons (pv 2) pa_nil)))) (pa_cons (pe_call G__ties_told (hr.mono (by first | decide | omega)) (by rfl) C__ties_told.g C__ties_told.k C__ties_told.b .nil pass0 (pa_cons (pv 0) (pa_cons (pv 4) (pa_cons (pv 2) pa_nil)))) pa_nil)))))))), ?_⟩
    walk_at "h0"
    rcases hh with ⟨bv, qe⟩ | ⟨⟨u, d, hv⟩, e2, qe⟩
    · refine .inr ⟨v, rfl, bv, fun H1 s1 => ?_⟩
      walk_at "hs"
      exact qe _ s1
    · refine .inl ⟨v, u, d, rfl, hv, fun H1 s1 => ?_⟩
      walk_at "hs"
      refine ⟨x, hs, _, rfl, ht.same s1, hk.same s1, ?_⟩
      rw [e2]
      walk_at "hs"
      exact qe _ s1
def spUnlikeE (Z : Ad) : Sp := fun vs H _ E => ∃ (x y : Addr) (v : V) (hs gs : List Nat), vs = [.ref x, .ref y, v] ∧ TreeAt Z H x hs ∧ TreeAt Z H y gs ∧
  ((hs.length ≠ gs.length ∧ ∀ H', Same H H' → E (.ref Z.a_OtherBlocks) none H') ∨ (hs.length = gs.length ∧ BadView Z H v ∧ ∀ H', Same H H' → E (.ref Z.a_NoView) none H'))
theorem ok_unlikeE {f fI fJ : Addr} {fd : FuncData} (F : Fun K "unlike" "unlike" s_unlike f fd) (B : Bl Z mg) (I : IsC K Z.a_Tree) (T : Cls K Z.a_Tree) (N : NoAttr K Z.a_Tree "hung") (X_OtherBlocks : SupC P K Z.a_OtherBlocks fI) (X_NoView : SupC P K Z.a_NoView fJ) {f_is_view : Addr} {fd_is_view : FuncData} (C_is_view : Cal K mg "is_view" f_is_view fd_is_view ["thing"]) (G_is_view : FnOk P w K mg base CX0 2 f_is_view fd_is_view ["thing"] (spViewG Z))
    {f_telling : Addr} {fd_telling : FuncData} (C_telling : Cal K mg "telling" f_telling fd_telling ["tree", "view", "place"]) (G_telling : FnOk P w K mg base CX0 6 f_telling fd_telling ["tree", "view", "place"] (spTell Z)) : FnOk P w K mg base (L2N.CX P w) 7 f fd ["tree", "other", "view"] (spUnlikeE Z) := by
  refine okN F sc_unlike (fun vs H Q E h => ?_) (fun cdv A outer s H vs Q E hr h => ?_)
  · obtain ⟨x, y, v, hs, gs, rfl, _⟩ := h
    rfl
  · obtain ⟨x, y, v, hs, gs, rfl, hx, hy, hh⟩ := h
    refine ⟨_, (pss_cons (ps_if (PW.pt (pw_or (pt_not (pt_val (pe_callB (call_isiK' (K := K) rfl) (by rfl) B.b_isinstance (by decide +kernel) (pa_cons (pv 1) (pa_cons (pe_glob (v := .ref Z.a_Tree) rfl B.k_Tree rfl) pa_nil))))) (pw_or1 (pt_cmpR op_ne (pe_callB (call_lenK (K := K) rfl) (by rfl) B.b_len PySem.boot_len (pa_cons (pe_fldK (K := K) rfl (pv 0) rfl) pa_nil)) (pe_callB (call_lenK (K := K) rfl) (by rfl) B.b_len PySem.boot_len (pa_cons (pe_fldK (K := K) rfl (pv 1) rfl) pa_nil)) (nomark _))))) (pss_one (L2N.ps_raise rfl (L2N.takes_of rfl rfl rfl rfl) (pmk_supN X_OtherBlocks (hr.mono (by first | decide | omega)) (by rfl) B.k_OtherBlocks B.b_super))) pss_nil)
 (pss_cons (ps_if (pt_not (pt_val (pe_call G_is_view (hr.mono (by first | decide | omega)) (by rfl) C_is_view.g C_is_view.k C_is_view.b .nil pass0 (pa_cons (pv 2) pa_nil)))) (pss_one (L2N.ps_raise rfl (L2N.takes_of rfl rfl rfl rfl) (pmk_supN X_NoView (hr.mono (by first | decide | omega)) (by rfl) B.k_NoView B.b_super))) pss_nil)
 (pss_cons (ps_set (i := 3) sc_unlike.nd rfl (Or.inl rfl) (pe_callTy call_rng1 (by rfl) B.b_range (by decide +kernel) (pa_cons (pe_op op_add (pe_callB (call_lenK (K := K) rfl) (by rfl) B.b_len PySem.boot_len (pa_cons (pe_fldK (K := K) rfl (pv 0) rfl) pa_nil)) pe_int) pa_nil)))
 (pss_one (ps_ret (pe_callTy (call_tplK (K := K) rfl) (by rfl) B.b_tuple (by decide +kernel) (pa_cons (pe_lc (own := [("place", 4)]) rfl sc_unlike.nd (pi_rngV (pv 3)) (blkOk_by (N := ["tree", "other", "view", "places", "place"]) (sc := defScope s_unlike) (by decide +kernel)) (fun _ _ _ _ _ => (pg_name (i := 4) sc_unlike.nd rfl (Or.inl rfl))) (fun _ _ _ _ _ => (pts_one (pt_cmpR (op_neDK (K := K) rfl hr.units) (pe_call G_telling (hr.mono (by first | decide | omega)) (by rfl) C_telling.g C_telling.k C_telling.b .nil pass0 (pa_cons (pv 0) (pa_cons (pv 2) (pa_cons (pv 4) pa_nil)))) (pe_call G_telling (hr.mono (by first | decide | omega)) (by rfl) C_telling.g C_telling.k C_telling.b .nil pass0 (pa_cons (pv 1) (pa_cons (pv 2) (pa_cons (pv 4) pa_nil)))) (nomark _)))) (fun _ _ _ _ _ => (pv 4))) pa_nil))))))), ?_⟩
    walk_at "h0"
    obtain ⟨dx, t, h1, h2⟩ := id hx
    obtain ⟨dy, t', h1', h2'⟩ := id hy
    refine isi_own I h1' ?_
    walk_at "hs"
    refine ⟨x, _, dx, _, _, rfl, h1, T, N, rfl, ?_⟩
    walk_at "hs"
    refine ⟨y, _, dy, _, _, rfl, h1', T, N, rfl, ?_⟩
    walk_at "hs"
    rw [nats_length, nats_length]
    rcases hh with ⟨e1, qe⟩ | ⟨e1, bv, qe⟩
    · refine x_isd (fun _ => ?_) (fun c => (c (by omega)).elim)
      walk_at "hs"
      exact qe _ (Same.refl _)
    · refine x_isd (fun c => (c (by rw [e1])).elim) (fun _ => ?_)
      walk_at "hs"
      refine .inr ⟨v, rfl, bv, fun H1 s1 => ?_⟩
      walk_at "hs"
      exact qe _ s1
def spDistE (Z : Ad) : Sp := fun vs H _ E => ∃ (v : V), vs = [v] ∧ BadView Z H v ∧ ∀ H', Same H H' → E (.ref Z.a_NoView) none H'
theorem ok_distE {f fI : Addr} {fd : FuncData} (F : Fun K "distance" "distance" s_distance f fd) (B : Bl Z mg) (X_NoView : SupC P K Z.a_NoView fI) {f_is_view : Addr} {fd_is_view : FuncData} (C_is_view : Cal K mg "is_view" f_is_view fd_is_view ["thing"]) (G_is_view : FnOk P w K mg base CX0 2 f_is_view fd_is_view ["thing"] (spViewG Z)) : FnOk P w K mg base (L2N.CX P w) 3 f fd ["view"] (spDistE Z) := by
  refine okN F sc_distance (fun vs H Q E h => ?_) (fun cdv A outer s H vs Q E hr h => ?_)
  · obtain ⟨v, rfl, _⟩ := h
    rfl
  · obtain ⟨v, rfl, bv, qe⟩ := h
    refine ⟨_, (pss_cons (ps_if (pt_not (pt_val (pe_call G_is_view (hr.mono (by first | decide | omega)) (by rfl) C_is_view.g C_is_view.k C_is_view.b .nil pass0 (pa_cons (pv 0) pa_nil)))) (pss_one (L2N.ps_raise rfl (L2N.takes_of rfl rfl rfl rfl) (pmk_supN X_NoView (hr.mono (by first | decide | omega)) (by rfl) B.k_NoView B.b_super))) pss_nil)
 (pss_cons (ps_asg (pv 0) (pg_tup rfl (pgs_cons (pg_name (i := 1) sc_distance.nd rfl (Or.inl rfl)) (pgs_cons (pg_name (i := 2) sc_distance.nd rfl (Or.inl rfl)) pgs_nil))))
 (pss_cons (ps_set (i := 3) sc_distance.nd rfl (Or.inl rfl) (pe_ifExp (pt_cmpR op_gt (pv 1) pe_int (nomark _)) pe_int pe_int))
 (pss_cons (ps_set (i := 4) sc_distance.nd rfl (Or.inl rfl) (pe_ifExp (pt_cmpR op_gt (pv 2) pe_int (nomark _)) (pe_op op_add (pv 2) pe_int) pe_int))
 (pss_one (ps_ret (pe_op op_add (pv 3) (pv 4)))))))), ?_⟩
    walk_at "h0"
    refine .inr ⟨v, rfl, bv, fun H1 s1 => ?_⟩
    walk_at "hs"
    exact qe _ s1
def spTwinsE (Z : Ad) : Sp := fun vs H _ E => ∃ (v k : V), vs = [v, k] ∧ Kn H k ∧ ((BadView Z H v ∧ ∀ H', Same H H' → E (.ref Z.a_NoView) none H') ∨ ((∃ u d, ViewAt H v u d) ∧ numV 1 40 k = false ∧ ∀ H', Same H H' → E (.ref Z.a_NoNumber) none H'))
theorem ok_twinsE {f fI fJ : Addr} {fd : FuncData} (F : Fun K "twins" "twins" s_twins f fd) (B : Bl Z mg) (X_NoView : SupC P K Z.a_NoView fI) (X_NoNumber : SupC P K Z.a_NoNumber fJ) {f_is_view : Addr} {fd_is_view : FuncData} (C_is_view : Cal K mg "is_view" f_is_view fd_is_view ["thing"]) (G_is_view : FnOk P w K mg base CX0 2 f_is_view fd_is_view ["thing"] (spViewG Z)) {f_is_within : Addr} {fd_is_within : FuncData} (C_is_within : Cal K mg "is_within" f_is_within fd_is_within ["least", "most", "thing"]) (G_is_within : FnOk P w K mg base CX0 1 f_is_within fd_is_within ["least", "most", "thing"] spWithin)
    {f_Tree___init__ : Addr} {fd_Tree___init__ : FuncData} (C_Tree___init__ : CalM K f_Tree___init__ fd_Tree___init__ ["self", "hung"]) (G_Tree___init__ : FnOk P w K mg base (L2.CX P w) 3 f_Tree___init__ fd_Tree___init__ ["self", "hung"] (spTree Z)) (M_Tree : Mk K Z.a_Tree f_Tree___init__) : FnOk P w K mg base (L2N.CX P w) 5 f fd ["view", "blocks"] (spTwinsE Z) := by
  refine okN F sc_twins (fun vs H Q E h => ?_) (fun cdv A outer s H vs Q E hr h => ?_)
  · obtain ⟨v, k, rfl, _⟩ := h
    rfl
  · obtain ⟨v, k, rfl, hk, hh⟩ := h
    refine ⟨_, (pss_cons (ps_if (pt_not (pt_val (pe_call G_is_view (hr.mono (by first | decide | omega)) (by rfl) C_is_view.g C_is_view.k C_is_view.b .nil pass0 (pa_cons (pv 0) pa_nil)))) (pss_one (L2N.ps_raise rfl (L2N.takes_of rfl rfl rfl rfl) (pmk_supN X_NoView (hr.mono (by first | decide | omega)) (by rfl) B.k_NoView B.b_super))) pss_nil)
 (pss_cons (ps_if (pt_not (pt_val (pe_call G_is_within (hr.mono (by first | decide | omega)) (by rfl) C_is_within.g C_is_within.k C_is_within.b .nil pass0 (pa_cons pe_int (pa_cons (pe_glob (v := .int (40)) rfl B.c_MOST_BLOCKS ⟨_, rfl⟩) (pa_cons (pv 1) pa_nil)))))) (pss_one (L2N.ps_raise rfl (L2N.takes_of rfl rfl rfl rfl) (pmk_supN X_NoNumber (hr.mono (by first | decide | omega)) (by rfl) B.k_NoNumber B.b_super))) pss_nil)
 (pss_cons (ps_asg (pv 0) (pg_tup rfl (pgs_cons (pg_name (i := 2) sc_twins.nd rfl (Or.inl rfl)) (pgs_cons (pg_name (i := 3) sc_twins.nd rfl (Or.inl rfl)) pgs_nil))))
 (pss_cons (ps_if (pt_cmpR op_lt (pv 1) (pe_op op_add (pv 3) pe_int) (nomark _)) (pss_one (ps_ret pe_non)) pss_nil)
 (pss_cons (ps_set (i := 4) sc_twins.nd rfl (Or.inl rfl) (pe_tupRg rfl (by rfl) B.b_tuple (prg_1 (by rfl) B.b_range (pe_op op_add (pv 3) pe_int))))
 (pss_cons (ps_set (i := 5) sc_twins.nd rfl (Or.inl rfl) (pe_op (op_repAK (K := K) rfl) (pe_tup (pa_cons pe_int pa_nil)) (pe_op op_sub (pe_op op_sub (pv 1) (pv 3)) pe_int)))
 (pss_one (ps_ret (pe_tup (pa_cons (pe_make M_Tree G_Tree___init__ (hr.mono (by first | decide | omega)) (by rfl) B.k_Tree C_Tree___init__.b .nil passE (pa_cons (pe_tup (StX.pa_star (pv 4) (pa_cons (pv 3) (StX.pa_star (pv 5) pa_nil)))) pa_nil)) (pa_cons (pe_make M_Tree G_Tree___init__ (hr.mono (by first | decide | omega)) (by rfl) B.k_Tree C_Tree___init__.b .nil passE (pa_cons (pe_tup (StX.pa_star (pv 4) (pa_cons (pe_op op_add (pv 3) pe_int) (StX.pa_star (pv 5) pa_nil)))) pa_nil)) pa_nil))))))))))), ?_⟩
    walk_at "h0"
    rcases hh with ⟨bv, qe⟩ | ⟨⟨u, d, hv⟩, e2, qe⟩
    · refine .inr ⟨v, rfl, bv, fun H1 s1 => ?_⟩
      walk_at "hs"
      exact qe _ s1
    · refine .inl ⟨v, u, d, rfl, hv, fun H1 s1 => ?_⟩
      walk_at "hs"
      refine ⟨_, _, _, rfl, hk.same s1, ?_⟩
      rw [e2]
      walk_at "hs"
      exact qe _ s1
def BadOrd (Z : Ad) (H : Hp) (n : Nat) (v : V) : Prop := NotTup Z H v ∨ ∃ a xs, v = .ref a ∧ H a = some (.tup xs) ∧ (∀ y ∈ xs, Kn H y) ∧ xs.length ≤ 60 ∧ ¬ ∃ ms, xs = nats ms ∧ IsOrd n ms
def spOrdF (Z : Ad) : Sp := fun vs H Q _ => ∃ (x : Addr) (v : V) (hs : List Nat), vs = [.ref x, v] ∧ TreeAt Z H x hs ∧ IsTree hs ∧ BadOrd Z H hs.length v ∧ ∀ H', Same H H' → Q (.bl false) H'
theorem ok_ordF {f : Addr} {fd : FuncData} (F : Fun K "_is_order" "_is_order" s__is_order f fd) (B : Bl Z mg) (I : IsC K Z.a_Tree) (nt : PySem.W.kitOne K (.ref Z.a_Tree) (.type "tuple") = some false) (T : Cls K Z.a_Tree) (N : NoAttr K Z.a_Tree "hung") {f_is_block : Addr} {fd_is_block : FuncData} (C_is_block : Cal K mg "is_block" f_is_block fd_is_block ["tree", "thing"]) (G_is_block : FnOk P w K mg base CX0 2 f_is_block fd_is_block ["tree", "thing"] (spIsB Z 1)) : FnOk P w K mg base CX0 3 f fd ["tree", "thing"] (spOrdF Z) := by
  refine F.ok sc__is_order (fun vs H Q E h => ?_) (fun cdv A outer s H vs Q E hr h => ?_)
  · obtain ⟨x, v, hs, rfl, _⟩ := h
    rfl
  · obtain ⟨x, v, hs, rfl, ht, it, hv, q⟩ := h
    have := it.most
    refine ⟨_, (pss_cons (ps_if (pt_not (pt_val (pe_callB (call_isiK' (K := K) rfl) (by rfl) B.b_isinstance (by decide +kernel) (pa_cons (pv 1) (pa_cons (pe_bltn (v := .ty "tuple") (by rfl) B.b_tuple (by decide +kernel) rfl) pa_nil))))) (pss_one (ps_ret pe_bl)) pss_nil)
 (pss_cons (ps_if (pt_not (pt_val (pe_callB (cr_allK (K := K) rfl rfl) (by rfl) B.b_all (by decide +kernel) (pa_cons (pe_lc (own := [("block", 2)]) rfl sc__is_order.nd (pi_tup (pv 1)) (blkOk_by (N := ["tree", "thing", "block"]) (sc := defScope s__is_order) (by decide +kernel)) (fun _ _ _ _ _ => (pg_name (i := 2) sc__is_order.nd rfl (Or.inl rfl))) (fun _ _ _ _ _ => pts_nil) (fun _ _ _ _ _ => (pe_call G_is_block (hr.mono (by first | decide | omega)) (by rfl) C_is_block.g C_is_block.k C_is_block.b .nil pass0 (pa_cons (pv 0) (pa_cons (pv 2) pa_nil))))) pa_nil)))) (pss_one (ps_ret pe_bl)) pss_nil)
 (pss_one (ps_ret (pe_cmpR (op_eqDK (K := K) rfl hr.units) (pe_callB (cr_sortT (K := K) rfl) (by rfl) B.b_sorted (by decide +kernel) (pa_cons (pv 1) pa_nil)) (pe_listRg rfl (by rfl) B.b_list (prg_2 (by rfl) B.b_range pe_int (pe_op op_add (pe_callB (call_lenK (K := K) rfl) (by rfl) B.b_len PySem.boot_len (pa_cons (pe_fldK (K := K) rfl (pv 0) rfl) pa_nil)) pe_int))) (nomark _)))))), ?_⟩
    rcases hv with hv | ⟨a, xs, rfl, ha, hk, l60, hb⟩
    · walk_at "h0"
      refine notTup_isi I nt hv ?_
      walk_at "hs"
      exact q _ (Same.refl _)
    · have hT : SqT K H a xs := .of ha
      walk_at "h0"
      refine ⟨a, rfl, ⟨_, hT⟩, fun D hD => ?_⟩
      refine lc_tup (K := K) (xs := xs) (fun i H' => Same H H' ∧ H' D = some (.lst (((xs.take i).map (numV 1 hs.length)).map V.bl))) ⟨same_new (Same.refl _) hD, upd_same⟩ (fun i H' _ h => h.1.seqT hT) ?_ ?_
      · rintro i v H' hv ⟨s1, eD⟩
        have hi := (List.getElem?_eq_some_iff.mp hv).1
        have kv := (hk v (List.mem_of_getElem? hv)).same s1
        walk_at "hs"
        refine ⟨rfl, ?_⟩
        walk_at "hs"
        refine ⟨x, hs, _, rfl, ht.same s1, kv, ?_⟩
        refine ⟨_, eD, by rw [List.length_map, List.length_map]; exact szLt (by have := List.length_take_le' i xs; omega), same_mut s1 hD, ?_⟩
        rw [upd_same, take_snoc hv, List.map_append, List.map_append]
        rfl
      · rintro H' ⟨s1, eD⟩
        rw [List.take_length] at eD
        walk_at "hs"
        refine ⟨D, _, rfl, .of eD, ?_⟩
        cases e : (xs.map (numV 1 hs.length)).all id with
        | false =>
          walk_at "hs"
          exact q _ s1
        | true =>
          have good : ∀ y ∈ xs, numV 1 hs.length y = true := fun y hy => by
            rw [List.all_eq_true] at e
            exact e _ (List.mem_map.mpr ⟨y, hy, rfl⟩)
          obtain ⟨ms, rfl, hms⟩ := good_nats (xs := xs) hs.length fun j y hy => by
            obtain ⟨z, rfl, z1, z2⟩ := num_int (good y (List.mem_of_getElem? hy))
            rw [numT (by omega)]
            exact decide_eq_true z2
          have hT2 : SqT K H' a (nats ms) := s1.seqT hT
          rw [nats_length] at l60
          walk_at "hs"
          refine x_sortT (ns := ms.map fun (k : Nat) => (k : Int)) (by rw [nats_ints]; exact hT2) (by rw [List.length_map]; omega) fun zs p hz hp nz => ?_
          obtain ⟨zl, rfl⟩ : ∃ zl : List Nat, zs = zl.map fun (k : Nat) => (k : Int) := by
            refine ⟨zs.map Int.toNat, ?_⟩
            rw [List.map_map]
            have hpos : ∀ z ∈ zs, ((fun (k : Nat) => (k : Int)) ∘ Int.toNat) z = id z := fun z hzm => by
              obtain ⟨k, _, rfl⟩ := List.mem_map.mp (hz.mem_iff.mp hzm)
              rfl
            rw [List.map_congr_left hpos, List.map_id]
          rw [nats_ints]
          have pz : zl.Perm ms := by
            have h2 := hz.map Int.toNat
            rw [List.map_map, List.map_map] at h2
            have idm : ∀ l : List Nat, l.map (Int.toNat ∘ fun (k : Nat) => (k : Int)) = l := fun l => by
              rw [show (Int.toNat ∘ fun (k : Nat) => (k : Int)) = id from funext fun k => Int.toNat_natCast k]
              exact List.map_id l
            rwa [idm, idm] at h2
          walk_at "hs"
          obtain ⟨dx, u, h1, h2⟩ := (ht.same s1).same (same_new (o := .lst (nats zl)) (Same.refl _) nz)
          have h3 : SqT K (upd H' p (.lst (nats zl))) u (nats hs) := .of h2
          refine ⟨x, _, dx, _, _, rfl, h1, T, N, rfl, ?_⟩
          walk_at "hs"
          rw [nats_length]
          refine ⟨⟨by omega, by omega, by omega, by omega, by omega⟩, fun r nr => ?_⟩
          rw [rgV_nats]
          refine x_eqLst (.of (keepN upd_same nr)) (.of upd_same) ?_
          have ne : zl ≠ List.range' 1 hs.length := fun e => hb ⟨ms, rfl, by
            show ms.Perm _
            rw [← e]
            exact pz.symm⟩
          rw [decide_eq_false ne]
          exact q _ (same_new (same_new s1 nz) nr)
def spCalledE (Z : Ad) : Sp := fun vs H _ E => ∃ (x : Addr) (v : V) (hs : List Nat), vs = [.ref x, v] ∧ TreeAt Z H x hs ∧ IsTree hs ∧ BadOrd Z H hs.length v ∧ ∀ H', Same H H' → E (.ref Z.a_NoOrder) none H'
theorem ok_calledE {f fI : Addr} {fd : FuncData} (F : Fun K "called" "called" s_called f fd) (B : Bl Z mg) (T : Cls K Z.a_Tree) (N : NoAttr K Z.a_Tree "hung") (X_NoOrder : SupC P K Z.a_NoOrder fI) {f__is_order : Addr} {fd__is_order : FuncData} (C__is_order : Cal K mg "_is_order" f__is_order fd__is_order ["tree", "thing"]) (G__is_order : FnOk P w K mg base CX0 3 f__is_order fd__is_order ["tree", "thing"] (spOrdF Z))
    {f_Tree___init__ : Addr} {fd_Tree___init__ : FuncData} (C_Tree___init__ : CalM K f_Tree___init__ fd_Tree___init__ ["self", "hung"]) (G_Tree___init__ : FnOk P w K mg base (L2.CX P w) 3 f_Tree___init__ fd_Tree___init__ ["self", "hung"] (spTree Z)) (M_Tree : Mk K Z.a_Tree f_Tree___init__) : FnOk P w K mg base (L2N.CX P w) 5 f fd ["tree", "order"] (spCalledE Z) := by
  refine okN F sc_called (fun vs H Q E h => ?_) (fun cdv A outer s H vs Q E hr h => ?_)
  · obtain ⟨x, v, hs, rfl, _⟩ := h
    rfl
  · obtain ⟨x, v, hs, rfl, ht, it, hv, qe⟩ := h
    refine ⟨_, (pss_cons (ps_if (pt_not (pt_val (pe_call G__is_order (hr.mono (by first | decide | omega)) (by rfl) C__is_order.g C__is_order.k C__is_order.b .nil pass0 (pa_cons (pv 0) (pa_cons (pv 1) pa_nil))))) (pss_one (L2N.ps_raise rfl (L2N.takes_of rfl rfl rfl rfl) (pmk_supN X_NoOrder (hr.mono (by first | decide | omega)) (by rfl) B.k_NoOrder B.b_super))) pss_nil)
 (pss_cons (ps_set (i := 2) sc_called.nd rfl (Or.inl rfl) (pe_tup (pa_cons pe_int (StX.pa_star (pv 1) pa_nil))))
 (pss_cons (ps_set (i := 3) sc_called.nd rfl (Or.inl rfl) (pe_op op_rep (pe_lst (pa_cons pe_int pa_nil)) (pe_callB (call_lenK (K := K) rfl) (by rfl) B.b_len PySem.boot_len (pa_cons (pv 1) pa_nil))))
 (pss_cons (ps_for (passes_of rfl) rfl (pi_enumTK (K := K) rfl rfl (by rfl) B.b_enumerate (by decide) (by decide) (pa_cons (pe_fldK (K := K) rfl (pv 0) rfl) pa_nil)) (pg_tup rfl (pgs_cons (pg_name (i := 4) sc_called.nd rfl (Or.inl rfl)) (pgs_cons (pg_name (i := 5) sc_called.nd rfl (Or.inl rfl)) pgs_nil))) (pss_one (ps_asg (pe_ix (ix_tupK (K := K) rfl) (pv 2) (pv 5) (fun _ _ => rfl)) (pg_sub (pv 3) (pe_op op_sub (pe_ix (ix_tupK (K := K) rfl) (pv 2) (pv 4) (fun _ _ => rfl)) pe_int) set_list))))
 (pss_one (ps_ret (pe_make M_Tree G_Tree___init__ (hr.mono (by first | decide | omega)) (by rfl) B.k_Tree C_Tree___init__.b .nil passE (pa_cons (pe_callTy (call_tplK (K := K) rfl) (by rfl) B.b_tuple (by decide +kernel) (pa_cons (pv 3) pa_nil)) pa_nil)))))))), ?_⟩
    walk_at "h0"
    refine ⟨x, v, hs, rfl, ht, it, hv, fun H1 s1 => ?_⟩
    walk_at "hs"
    exact qe _ s1
end
set_option maxRecDepth 100000
set_option maxHeartbeats 4000000
open PySem PySem.Spec L2


theorem sc__law_word : FnScope ["_law_call", "_law_word_here", "e", "_law_flags", "_law_flag"] ["_law_call"] (defScope s__law_word) := ⟨rfl, rfl, rfl, by decide +kernel, rfl, by decide +kernel, by decide +kernel⟩
theorem takes0N {X : Cx} : L2N.Takes X (fun _ _ _ _ => False) := fun _ _ x => by
  obtain ⟨_, _, _, _, _, _, _, _, _, _, _, _, _, _, _, _, z⟩ := x
  exact z.elim
theorem takes_lenN {X : Cx} {W : WX} {n : Nat} (hn : X.N.length = n) (tk : L2N.Takes X W) : L2N.Takes X (fun cls d σ H => σ.length = n → W cls d σ H) := fun u s' x => by
  obtain ⟨a, B, sI, pins, σ, H, cls, d, e, I, nb, up, sky, na, os, ag, w⟩ := x
  exact tk u s' ⟨a, B, sI, pins, σ, H, cls, d, e, I, nb, up, sky, na, os, ag, w (I.len.trans hn)⟩
theorem ps_actN {X : Cx} {a : Str} {f c' : Addr} {q : Str} {tl : XK → Hp → VK → Prop} {W : WX} {n : Nat} {p1 p2 p3 : Pos} (hn : X.N.length = n) (tk : L2N.Takes X W)
    (act : ∀ (W' : WX) (E : XK), L2N.Takes X W' → (∀ cls d σ' H', E cls d H' → W' cls d σ' H') → PE X (.Call (.Name a p1) [] [] p2) (fun σZ HZ Q => σZ[0]? = some (some (.ref f)) ∧ HZ c' = some (LamX.CodeO c' q) ∧ tl E HZ Q))
    (hs : ∀ e : Expr, e = .Call (.Name a p1) [] [] p2 → swapsWith e none p3.line X.env = pure false) :
    PS X (.Expr (.Call (.Name a p1) [] [] p2) p3) (fun D σ H => ∃ Ech : XK, (∀ cls d σ' H', Ech cls d H' → σ'.length = n → W cls d σ' H') ∧ σ[0]? = some (some (.ref f)) ∧ H c' = some (LamX.CodeO c' q) ∧ tl Ech H (fun _ H' => D.nx σ H')) := by
  refine ⟨fun pins s σ H D I h => ?_⟩
  obtain ⟨Ech, h1, h2, h3, h4⟩ := h
  exact (ps_expr (act _ Ech (takes_lenN hn tk) h1) (hs _ rfl)).run pins s σ H D I ⟨h2, h3, h4⟩
theorem pi_listHK {X : Cx} {K : PySem.W.Frag} {tg l : Expr} {tl : TE} (e : X.K = K) (hl : PE X l tl) : L2H.PIH X tg l (iList K tl) := by
  subst e
  exact pi_listH hl
theorem hot_of {Y : Cx} {a : Addr} {oe : Obj} {cls : Value} {d : Option Addr} (hz : L2N.Zn cls d oe) (hf : ∃ vs, oe.data = .fields vs) (h1 : Y.A.handled = some (.ref a)) (h2 : (a, oe) ∈ Y.pn) : L2H.HotC Y := by
  obtain ⟨vs, dv⟩ := hf
  exact ⟨(a, oe), ⟨h1, vs, dv, hz.2.2 vs dv⟩, h2⟩
def errAt (Z : Ad) : Nat → Addr
  | 0 => Z.a_NoBlock
  | 1 => Z.a_NoPlace
  | 2 => Z.a_Beneath
  | 3 => Z.a_NoOrder
  | 4 => Z.a_NoView
  | 5 => Z.a_OtherBlocks
  | _ => Z.a_NoNumber
def errWord : Nat → Str
  | 0 => "block"
  | 1 => "place"
  | 2 => "beneath"
  | 3 => "order"
  | 4 => "view"
  | 5 => "blocks"
  | _ => "number"
structure ErrK (K : PySem.W.Frag) (Z : Ad) (i : Nat) : Prop where
  e : L2.ExcC K (errAt Z i)
  m : PySem.W.exmOne K (.ref (errAt Z i)) (.ref Z.a_VoteError) = some true
  k : ∀ j, j < 7 → PySem.W.kitOne K (.ref (errAt Z i)) (.ref (errAt Z j)) = some (decide (i = j))
  v : PySem.W.kitOne K (.ref (errAt Z i)) (.type "ValueError") = some true
def TTw (Z : Ad) : (XK → Hp → VK → Prop) → Hp → VK → Prop := fun tl H Q => tl (fun cls d H' => ∃ i, i < 7 ∧ cls = .ref (errAt Z i) ∧ d = none ∧ ∀ H'', Same H' H'' → Q (.str (errWord i)) H'') H (fun _ H' => Q (.str "let") H')
section
variable {Z : Ad}
theorem x_isM {K : PySem.W.Frag} {H : Hp} {Q : VK} {a D C : Addr} {b : Bool} (he : L2.ExcC K D) (hk : PySem.W.kitOne K (.ref D) (.ref C) = some b) (q : Q (.bl b) H) : rIsM K a (.ref D) none [.ref a, .ref C] H Q :=
  ⟨D, .ref C, .ref C, b, rfl, rfl, he, rfl, fun u h => by cases h; rfl, hk, q⟩
theorem x_isMv {K : PySem.W.Frag} {H : Hp} {Q : VK} {a D : Addr} {b : Bool} (he : L2.ExcC K D) (hk : PySem.W.kitOne K (.ref D) (.type "ValueError") = some b) (q : Q (.bl b) H) : rIsM K a (.ref D) none [.ref a, .ty "ValueError"] H Q :=
  ⟨D, .ty "ValueError", .type "ValueError", b, rfl, rfl, he, rfl, fun u h => by cases h; rfl, hk, q⟩
theorem one_flag {i : Nat} (h : i < 7) : (((List.range 7).map fun j => decide (i = j)).filter id).length = 1 := by
  match i, h with
  | 0, _ => rfl
  | 1, _ => rfl
  | 2, _ => rfl
  | 3, _ => rfl
  | 4, _ => rfl
  | 5, _ => rfl
  | 6, _ => rfl
theorem word_gives {X : Cx} {K : PySem.W.Frag} {g : Addr} {cdg : Value} {q : Str} (eK : X.K = K) (B : Bl Z X.mg) (EK : ∀ i, i < 7 → ErrK K Z i) : LamN.Gives X ["_law_call", "_law_word_here", "e", "_law_flags", "_law_flag"] "_law_word" (defScope s__law_word) g cdg (defBody s__law_word) "_law_call" q (TTw Z) := by
  subst eK
  intro f c' s H Q tl act hc h
  refine ⟨_, (pss_cons (ps_set (i := 1) sc__law_word.nd rfl (Or.inl rfl) pe_str)
 (pss_cons (L2N.ps_try_as (i := 2) (Wout := fun _ _ _ _ => False) rfl rfl sc__law_word.nd rfl rfl ⟨rfl, by decide, Or.inl B.k_VoteError⟩ takes0N (fun W pn xe tk _ => (pss_one (ps_actN (n := 5) rfl tk (fun W' E' tk' hE => act W' pn xe E' _ _ tk' hE) (fun _ h => by subst h; rfl)))) (fun a oe cls d pn hz hf => (pss_cons (ps_set (i := 3) sc__law_word.nd rfl (Or.inl rfl) (pe_lst (pa_cons (pe_callB (call_isM (K := X.K) rfl hz.zc hf) (by rfl) B.b_isinstance (by decide +kernel) (pa_cons (pv 2) (pa_cons (pe_glob (v := .ref Z.a_NoBlock) rfl B.k_NoBlock rfl) pa_nil))) (pa_cons (pe_callB (call_isM (K := X.K) rfl hz.zc hf) (by rfl) B.b_isinstance (by decide +kernel) (pa_cons (pv 2) (pa_cons (pe_glob (v := .ref Z.a_NoPlace) rfl B.k_NoPlace rfl) pa_nil))) (pa_cons (pe_callB (call_isM (K := X.K) rfl hz.zc hf) (by rfl) B.b_isinstance (by decide +kernel) (pa_cons (pv 2) (pa_cons (pe_glob (v := .ref Z.a_Beneath) rfl B.k_Beneath rfl) pa_nil))) (pa_cons (pe_callB (call_isM (K := X.K) rfl hz.zc hf) (by rfl) B.b_isinstance (by decide +kernel) (pa_cons (pv 2) (pa_cons (pe_glob (v := .ref Z.a_NoOrder) rfl B.k_NoOrder rfl) pa_nil))) pa_nil))))))
 (pss_cons (ps_set (i := 3) sc__law_word.nd rfl (Or.inl rfl) (pe_op op_cat (pv 3) (pe_lst (pa_cons (pe_callB (call_isM (K := X.K) rfl hz.zc hf) (by rfl) B.b_isinstance (by decide +kernel) (pa_cons (pv 2) (pa_cons (pe_glob (v := .ref Z.a_NoView) rfl B.k_NoView rfl) pa_nil))) (pa_cons (pe_callB (call_isM (K := X.K) rfl hz.zc hf) (by rfl) B.b_isinstance (by decide +kernel) (pa_cons (pv 2) (pa_cons (pe_glob (v := .ref Z.a_OtherBlocks) rfl B.k_OtherBlocks rfl) pa_nil))) (pa_cons (pe_callB (call_isM (K := X.K) rfl hz.zc hf) (by rfl) B.b_isinstance (by decide +kernel) (pa_cons (pv 2) (pa_cons (pe_glob (v := .ref Z.a_NoNumber) rfl B.k_NoNumber rfl) pa_nil))) pa_nil))))))
 (pss_cons (ps_set (i := 1) sc__law_word.nd rfl (Or.inl rfl) pe_str)
 (pss_one (ps_if (PW.pt (pw_and (pt_cmpR op_eq (pe_callB (call_lenK (K := X.K) rfl) (by rfl) B.b_len PySem.boot_len (pa_cons (pe_lcH (own := [("_law_flag", 4)]) (hot_of hz hf (by exact rfl) (by exact List.mem_cons_self)) sc__law_word.nd (pi_listHK (K := X.K) rfl (pv 3)) (blkOk_by (N := ["_law_call", "_law_word_here", "e", "_law_flags", "_law_flag"]) (sc := defScope s__law_word) (by decide +kernel)) (fun _ _ _ _ _ _ => (pg_name (i := 4) sc__law_word.nd rfl (Or.inl rfl))) (fun _ _ _ _ _ _ => (pts_one (pt_val (pv 4)))) (fun _ _ _ _ _ _ => (pv 4)) (fun _ => rfl)) pa_nil)) pe_int (nomark _)) (pw_and1 (pt_val (pe_callB (call_isM (K := X.K) rfl hz.zc hf) (by rfl) B.b_isinstance (by decide +kernel) (pa_cons (pv 2) (pa_cons (pe_bltn (v := .ty "ValueError") (by rfl) B.b_ValueError (by decide +kernel) rfl) pa_nil))))))) (pss_one (ps_set (i := 1) sc__law_word.nd rfl (Or.inl rfl) (pe_ix (ix_listK (K := X.K) rfl) (pe_lst (pa_cons pe_str (pa_cons pe_str (pa_cons pe_str (pa_cons pe_str (pa_cons pe_str (pa_cons pe_str (pa_cons pe_str pa_nil)))))))) (pe_bmK (K := X.K) rfl PySem.F.plainAttrs_list PySem.F.slot_list_index PySem.F.type_list_index (mt_indexK (K := X.K) rfl) (pv 3) (pa_cons pe_bl pa_nil)) (fun _ _ => rfl)))) pss_nil)))))))
 (pss_one (ps_ret (pv 1))))), ?_⟩
  walk_at "h0"
  refine ⟨fun cls d H' => ∃ i, i < 7 ∧ cls = .ref (errAt Z i) ∧ d = none ∧ ∀ H'', Same H' H'' → Q (.str (errWord i)) H'', ?_, rfl, hc, ?_⟩
  · rintro cls d σ' H' ⟨i, hi, rfl, rfl, qq⟩ ln
    obtain ⟨y0, y1, y2, y3, y4, rfl⟩ : ∃ y0 y1 y2 y3 y4, σ' = [y0, y1, y2, y3, y4] := by
      match σ', ln with
      | [y0, y1, y2, y3, y4], _ => exact ⟨y0, y1, y2, y3, y4, rfl⟩
    have E := EK i hi
    refine ⟨true, E.m, fun _ xa na => ?_, fun z => nomatch z⟩
    walk_at "hs"
    refine x_isM (C := Z.a_NoBlock) E.e (E.k 0 (by decide)) ?_
    walk_at "hs"
    refine x_isM (C := Z.a_NoPlace) E.e (E.k 1 (by decide)) ?_
    walk_at "hs"
    refine x_isM (C := Z.a_Beneath) E.e (E.k 2 (by decide)) ?_
    walk_at "hs"
    refine x_isM (C := Z.a_NoOrder) E.e (E.k 3 (by decide)) ?_
    walk_at "hs"
    intro L1 nL1
    have s1 : Same H' (upd H' L1 (.lst [.bl (decide (i = 0)), .bl (decide (i = 1)), .bl (decide (i = 2)), .bl (decide (i = 3))])) := same_new (Same.refl _) nL1
    have eL1 : upd H' L1 (.lst [.bl (decide (i = 0)), .bl (decide (i = 1)), .bl (decide (i = 2)), .bl (decide (i = 3))]) L1 = some (.lst [.bl (decide (i = 0)), .bl (decide (i = 1)), .bl (decide (i = 2)), .bl (decide (i = 3))]) := upd_same
    generalize upd H' L1 (.lst [.bl (decide (i = 0)), .bl (decide (i = 1)), .bl (decide (i = 2)), .bl (decide (i = 3))]) = H1 at s1 eL1 ⊢
    walk_at "hs"
    refine x_isM (C := Z.a_NoView) E.e (E.k 4 (by decide)) ?_
    walk_at "hs"
    refine x_isM (C := Z.a_OtherBlocks) E.e (E.k 5 (by decide)) ?_
    walk_at "hs"
    refine x_isM (C := Z.a_NoNumber) E.e (E.k 6 (by decide)) ?_
    walk_at "hs"
    intro L2 nL2
    have s2 : Same H1 (upd H1 L2 (.lst [.bl (decide (i = 4)), .bl (decide (i = 5)), .bl (decide (i = 6))])) := same_new (Same.refl _) nL2
    have eL2 : upd H1 L2 (.lst [.bl (decide (i = 4)), .bl (decide (i = 5)), .bl (decide (i = 6))]) L2 = some (.lst [.bl (decide (i = 4)), .bl (decide (i = 5)), .bl (decide (i = 6))]) := upd_same
    generalize upd H1 L2 (.lst [.bl (decide (i = 4)), .bl (decide (i = 5)), .bl (decide (i = 6))]) = H2 at s2 eL2 ⊢
    refine x_cat (s2 _ _ eL1) eL2 (szLe (by show 4 + 3 ≤ 100000; decide)) fun L3 nL3 => ?_
    have eS : [V.bl (decide (i = 0)), .bl (decide (i = 1)), .bl (decide (i = 2)), .bl (decide (i = 3))] ++ [V.bl (decide (i = 4)), .bl (decide (i = 5)), .bl (decide (i = 6))] = ((List.range 7).map fun j => decide (i = j)).map V.bl := rfl
    rw [eS]
    have of1 := one_flag hi
    have l7 : ((List.range 7).map fun j => decide (i = j)).length = 7 := rfl
    have gt : ((List.range 7).map fun j => decide (i = j))[i]? = some true := by
      rw [List.getElem?_map, List.getElem?_range hi]
      simp
    have gf : ∀ j, j < i → ((List.range 7).map fun j => decide (i = j))[j]? = some false := fun j hj => by
      rw [List.getElem?_map, List.getElem?_range (by omega)]
      simp
      omega
    generalize ((List.range 7).map fun j => decide (i = j)) = bs at of1 l7 gt gf
    have s3 : Same H2 (upd H2 L3 (.lst (bs.map V.bl))) := same_new (Same.refl _) nL3
    have eL3 : upd H2 L3 (.lst (bs.map V.bl)) L3 = some (.lst (bs.map V.bl)) := upd_same
    generalize upd H2 L3 (.lst (bs.map V.bl)) = H3 at s3 eL3 ⊢
    have sL3 : SqL X.K H3 L3 (bs.map V.bl) := .of eL3
    walk_at "hs"
    refine ⟨L3, rfl, ⟨_, sL3⟩, fun R nR => ?_⟩
    refine lc_list (K := X.K) (xs := bs.map V.bl) (fun j G => Same H3 G ∧ G R = some (.lst (((bs.take j).filter id).map V.bl))) ⟨same_new (Same.refl _) nR, upd_same⟩ (fun j G _ h => h.1.seq sL3) ?_ ?_
    · rintro j v G hv ⟨s4, eR⟩
      rw [List.getElem?_map] at hv
      cases hb : bs[j]? with
      | none => rw [hb] at hv; cases hv
      | some b =>
      rw [hb] at hv
      cases hv
      have lt : ((bs.take j).filter id).length ≤ 7 := Nat.le_trans (List.length_filter_le _ _) (by rw [List.length_take]; omega)
      walk_at "hs"
      refine ⟨rfl, ?_⟩
      walk_at "hs"
      cases b with
      | false =>
        walk_at "hs"
        refine ⟨s4, ?_⟩
        rw [eR, List.take_add_one, hb, List.filter_append]
        simp
      | true =>
        walk_at "hs"
        refine ⟨_, eR, szLt (by rw [List.length_map]; omega), same_mut s4 nR, ?_⟩
        rw [upd_same, List.take_add_one, hb, List.filter_append, List.map_append]
        rfl
    · rintro G ⟨s4, eR⟩
      rw [List.length_map, List.take_length] at eR
      have sR : SqL X.K G R ((bs.filter id).map V.bl) := .of eR
      walk_at "hs"
      rw [List.length_map, of1]
      walk_at "hs"
      refine x_isMv E.e E.v ?_
      walk_at "hs"
      intro WL nWL
      have s5 : Same G (upd G WL (.lst [.str "block", .str "place", .str "beneath", .str "order", .str "view", .str "blocks", .str "number"])) := same_new (Same.refl _) nWL
      have eWL : upd G WL (.lst [.str "block", .str "place", .str "beneath", .str "order", .str "view", .str "blocks", .str "number"]) WL = some (.lst [.str "block", .str "place", .str "beneath", .str "order", .str "view", .str "blocks", .str "number"]) := upd_same
      generalize upd G WL (.lst [.str "block", .str "place", .str "beneath", .str "order", .str "view", .str "blocks", .str "number"]) = G1 at s5 eWL ⊢
      have s45 := s4.trans s5
      have sW : SqL X.K G1 WL [.str "block", .str "place", .str "beneath", .str "order", .str "view", .str "blocks", .str "number"] := .of eWL
      have aw : atI [V.str "block", .str "place", .str "beneath", .str "order", .str "view", .str "blocks", .str "number"] (i : Int) = some (.str (errWord i)) := atI_nat (by
        match i, hi with
        | 0, _ => rfl
        | 1, _ => rfl
        | 2, _ => rfl
        | 3, _ => rfl
        | 4, _ => rfl
        | 5, _ => rfl
        | 6, _ => rfl)
      walk_at "hs"
      refine ⟨L3, bs.map V.bl, .bl true, i, .bl true, rfl, rfl, .of (s45 _ _ eL3), rfl, List.all_eq_true.mpr fun v hv => ?_, by rw [List.getElem?_map, gt]; rfl, rfl, fun m z hm hz => ?_, ?_⟩
      · obtain ⟨b, _, rfl⟩ := List.mem_map.mp hv
        rfl
      · rw [List.getElem?_map, gf m hm] at hz
        cases hz
        rfl
      walk_at "hs"
      exact qq _ ((((s1.trans s2).trans s3).trans s45))
  · have e : ∀ Ech : XK, tl Ech H (fun _ H' => Q (.str "let") H') → tl Ech H (fun _ H' => ∃ v, (List.set (L2.start ["_law_call", "_law_word_here", "e", "_law_flags", "_law_flag"] [V.ref f]) 1 (some (V.str "let")))[1]? = some (some v) ∧ Q v H') := fun Ech hh => by
      have : (fun (_ : V) (H' : Hp) => ∃ v, (List.set (L2.start ["_law_call", "_law_word_here", "e", "_law_flags", "_law_flag"] [V.ref f]) 1 (some (V.str "let")))[1]? = some (some v) ∧ Q v H') = fun _ H' => Q (.str "let") H' := by
        funext _ H'
        exact propext ⟨fun ⟨v, e1, e2⟩ => by cases e1; exact e2, fun h => ⟨_, rfl, h⟩⟩
      rw [this]
      exact hh
    exact e _ h
end
set_option maxRecDepth 100000
set_option maxHeartbeats 4000000
open PySem PySem.Spec L2


theorem FnOk.up {P : Program} {w : World} {K : PySem.W.Frag} {mg : Str → Option Value} {base : Heap} {CX : CXT} {k : Nat} {f : Addr} {fd : FuncData} {ps : List Str} {sp : Sp} (h : FnOk P w K mg base CX0 k f fd ps sp) : FnOk P w K mg base CX k f fd ps sp :=
  ⟨h.len, fun A outer s H args us vs Q E a b c d o => by
    refine codeAny_mono (h.run A outer s H args us vs Q E a b c d o) fun r s' hq => ?_
    cases r with
    | error e => exact (show False from hq).elim
    | ok fl => cases fl <;> exact hq⟩
theorem FnOk.or {P : Program} {w : World} {K : PySem.W.Frag} {mg : Str → Option Value} {base : Heap} {CX : CXT} {k : Nat} {f : Addr} {fd : FuncData} {ps : List Str} {sp sp' : Sp} (h : FnOk P w K mg base CX k f fd ps sp) (h' : FnOk P w K mg base CX k f fd ps sp') : FnOk P w K mg base CX k f fd ps (fun vs H Q E => sp vs H Q E ∨ sp' vs H Q E) :=
  ⟨fun vs H Q E o => o.elim (h.len vs H Q E) (h'.len vs H Q E), fun A outer s H args us vs Q E a b c d o => o.elim (h.run A outer s H args us vs Q E a b c d) (h'.run A outer s H args us vs Q E a b c d)⟩
theorem passLam {X : Cx} {A : Around} {rest : List Env} {z : Shared} {HZ : Hp} {E : XK} {sl : Scope} {f c : Addr} : Passes (L2N.CX X.prog X.w) (LamN.cxN X A rest z HZ E sl f c) E := fun pins σ H s e s' I k => L2N.passes_call (W := fun cls d _ G => E cls d G) (L2N.takes_of rfl rfl rfl rfl) (fun _ _ _ _ h => h) pins σ H s e s' I k
structure FunC (K : PySem.W.Frag) (x : Str) (st : Stmt) (f : Addr) (fd : FuncData) (c : Addr) : Prop where
  ex : ∃ (oc : Value) (od : Option Addr) (kV doc pm : Value) (an : Option Addr) (ct : Value) (osl : Array (Option Value)),
    fd = PySem.W.fnOf x x (defArgs st) (defBody st) (defScope st) .none kV doc pm an (.ref c) ct ∧ K.lookup f = some ⟨oc, od, .func fd, osl⟩ ∧ PySem.W.codeIn K (.ref c) x = true
theorem FunC.ok {P : Program} {w : World} {K : PySem.W.Frag} {mg : Str → Option Value} {base : Heap} {x : Str} {st : Stmt} {f c : Addr} {fd : FuncData} {N ps : List Str} {k : Nat} {sp : Sp} (F : FunC K x st f fd c) (S : FnScope N ps (defScope st)) (len : ∀ vs H Q E, sp vs H Q E → vs.length = ps.length)
    (bd : ∀ (A : Around) (outer : List Env) (s : Shared) (H : Hp) (vs : List V) (Q : VK) (E : XK), Room k (A.deeper (PyProof.Rows.envOfC x (defScope st) s.heap.objs.size f (.ref c))) → sp vs H Q E →
      ∃ t, PSs (cxOf CX0 P w K mg base N x (defScope st) f (.ref c) A outer s H E).nox (defBody st) t ∧ t { nx := fun _ H' => Q .non H', rt := Q } (L2.start N vs) H) : FnOk P w K mg base CX0 (k + 1) f fd ps sp := by
  obtain ⟨oc, od, kV, doc, pm, an, ct, osl, rfl, lk, cd⟩ := F.ex
  refine fn_of lk cd S len fun A outer s H vs Q E hr hsp => ?_
  obtain ⟨t, h, q⟩ := bd A outer s H vs Q E hr hsp
  exact ⟨t, h.nox, q⟩
theorem x_lam {T : List (Addr × Str)} {TT : (XK → Hp → VK → Prop) → Hp → VK → Prop} {t : XK → TE} {σ : L2.St} {H : Hp} {Q : VK} (hT : LamX.Tabs T H) (h : ∀ H1, LamX.ExtN H H1 → LamX.Tabs T H1 → TT (fun E H' Q' => t E σ H' Q') H1 Q) : LamX.tLam T TT t σ H Q := ⟨hT, h⟩
abbrev QL (Q : VK) : VK := fun _ H' => Q (.str "let") H'
abbrev EL (Z : Ad) (Q : VK) : XK := fun cls d H' => ∃ i, i < 7 ∧ cls = .ref (errAt Z i) ∧ d = none ∧ ∀ H'', Same H' H'' → Q (.str (errWord i)) H''
theorem el_of {Z : Ad} {Q : VK} {H : Hp} {i : Nat} (hi : i < 7) (q : ∀ H', Same H H' → Q (.str (errWord i)) H') : ∀ H', Same H H' → EL Z Q (.ref (errAt Z i)) none H' := fun H' s => ⟨i, hi, rfl, rfl, fun H'' s2 => q H'' (s.trans s2)⟩
section
variable {P : Program} {w : World} {K : PySem.W.Frag} {mg : Str → Option Value} {base : Heap} {Z : Ad}
theorem ok_movedB {f fI fJ fL : Addr} {fd : FuncData} (F : Fun K "moved" "moved" s_moved f fd) (B : Bl Z mg) (T : Cls K Z.a_Tree) (N : NoAttr K Z.a_Tree "hung") (X_NoBlock : SupC P K Z.a_NoBlock fJ) (X_NoPlace : SupC P K Z.a_NoPlace fL) (X_Beneath : SupC P K Z.a_Beneath fI) {f_is_block : Addr} {fd_is_block : FuncData} (C_is_block : Cal K mg "is_block" f_is_block fd_is_block ["tree", "thing"]) (G_is_block : FnOk P w K mg base CX0 2 f_is_block fd_is_block ["tree", "thing"] (spIsB Z 1))
    {f_is_place : Addr} {fd_is_place : FuncData} (C_is_place : Cal K mg "is_place" f_is_place fd_is_place ["tree", "thing"]) (G_is_place : FnOk P w K mg base CX0 2 f_is_place fd_is_place ["tree", "thing"] (spIsB Z 0)) {f_beneath : Addr} {fd_beneath : FuncData} (C_beneath : Cal K mg "beneath" f_beneath fd_beneath ["tree", "place"]) (G_beneath : FnOk P w K mg base CX0 5 f_beneath fd_beneath ["tree", "place"] (spBeneath Z))
    {f_Tree___init__ : Addr} {fd_Tree___init__ : FuncData} (C_Tree___init__ : CalM K f_Tree___init__ fd_Tree___init__ ["self", "hung"]) (G_Tree___init__ : FnOk P w K mg base (L2.CX P w) 3 f_Tree___init__ fd_Tree___init__ ["self", "hung"] (spTree Z)) (M_Tree : Mk K Z.a_Tree f_Tree___init__) : FnOk P w K mg base (L2N.CX P w) 6 f fd ["tree", "block", "place"] (spMoved Z) := by
  refine okN F sc_moved (fun vs H Q E h => ?_) (fun cdv A outer s H vs Q E hr h => ?_)
  · obtain ⟨x, hs, b, p, rfl, _⟩ := h
    rfl
  · obtain ⟨x, hs, b, p, rfl, ht, it, b1, b2, hp, q, qe⟩ := h
    refine ⟨_, (pss_cons (ps_if (pt_not (pt_val (pe_call G_is_block (hr.mono (by first | decide | omega)) (by rfl) C_is_block.g C_is_block.k C_is_block.b .nil pass0 (pa_cons (pv 0) (pa_cons (pv 1) pa_nil))))) (pss_one (L2N.ps_raise rfl (L2N.takes_of rfl rfl rfl rfl) (pmk_supN X_NoBlock (hr.mono (by first | decide | omega)) (by rfl) B.k_NoBlock B.b_super))) pss_nil)
 (pss_cons (ps_if (pt_not (pt_val (pe_call G_is_place (hr.mono (by first | decide | omega)) (by rfl) C_is_place.g C_is_place.k C_is_place.b .nil pass0 (pa_cons (pv 0) (pa_cons (pv 2) pa_nil))))) (pss_one (L2N.ps_raise rfl (L2N.takes_of rfl rfl rfl rfl) (pmk_supN X_NoPlace (hr.mono (by first | decide | omega)) (by rfl) B.k_NoPlace B.b_super))) pss_nil)
 (pss_cons (ps_if (PW.pt (pw_or (pt_cmpR op_eq (pv 2) (pv 1) (nomark _)) (pw_or1 (pt_cmpR (op_inK (K := K) rfl) (pv 2) (pe_call G_beneath (hr.mono (by first | decide | omega)) (by rfl) C_beneath.g C_beneath.k C_beneath.b .nil pass0 (pa_cons (pv 0) (pa_cons (pv 1) pa_nil))) (by rfl))))) (pss_one (L2N.ps_raise rfl (L2N.takes_of rfl rfl rfl rfl) (pmk_supN X_Beneath (hr.mono (by first | decide | omega)) (by rfl) B.k_Beneath B.b_super))) pss_nil)
 (pss_one (ps_ret (pe_make M_Tree G_Tree___init__ (hr.mono (by first | decide | omega)) (by rfl) B.k_Tree C_Tree___init__.b .nil passE (pa_cons (pe_op (op_catAK (K := K) rfl) (pe_op (op_catAK (K := K) rfl) (pe_slice (sl_tupAK (K := K) rfl) (pe_fldK (K := K) rfl (pv 0) rfl) po_none (po_some (pe_op op_sub (pv 1) pe_int))) (pe_tup (pa_cons (pv 2) pa_nil))) (pe_slice (sl_tupAK (K := K) rfl) (pe_fldK (K := K) rfl (pv 0) rfl) (po_some (pv 1)) po_none)) pa_nil))))))), ?_⟩
    walk_at "h0"
    refine ⟨x, hs, _, rfl, ht, True.intro, ?_⟩
    rw [num_nat (by omega) b2]
    walk_at "hs"
    refine ⟨x, hs, _, rfl, ht, True.intro, ?_⟩
    rw [num_nat (by omega) hp]
    walk_at "hs"
    have dz : decide ((p : Int) = (b : Int)) = decide (p = b) := by
      rw [decide_eq_decide]
      omega
    refine x_isd (fun c => ?_) (fun c => ?_)
    · walk_at "hs"
      exact qe (.inl (by omega)) _ (Same.refl _)
    · have c' : p ≠ b := fun e => c (by rw [e])
      walk_at "hs"
      refine ⟨x, hs, b, rfl, ht, it, b2, fun D H1 s1 nD eD => ?_⟩
      refine x_inNT (.of eD) ?_
      walk_at "hs"
      refine x_isd (fun c2 => ?_) (fun c2 => ?_)
      · have c3 := (below_mem hp).mp c2
        walk_at "hs"
        exact qe (.inr c3) _ s1
      · have c3 : b ∉ way hs p := fun h => c2 ((below_mem hp).mpr h)
        walk_at "hs"
        refine x_make ?_
        walk_at "hs"
        have := it.most
        have nl := nats_length hs
        obtain ⟨dx, u, h1, h2⟩ := ht.same s1
        refine ⟨x, _, dx, _, _, rfl, h1, T, N, rfl, ?_⟩
        walk_at "hs"
        refine x_slA h2 fun D2 H2 s2 e2 => ?_
        rw [show ((b : Int) - 1) = ((b - 1 : Nat) : Int) by omega, cut_take] at e2
        walk_at "hs"
        intro p1 n1
        walk_at "hs"
        refine x_catA (keepN e2 n1) upd_same (by rw [List.length_take, List.length_cons, List.length_nil]; omega) fun D3 H3 s3 e3 => ?_
        have s13 : Same H1 H3 := fun a o e => s3 _ _ (keepN (s2 _ _ e) n1)
        walk_at "hs"
        refine ⟨x, _, dx, _, _, rfl, s13 _ _ h1, T, N, rfl, ?_⟩
        walk_at "hs"
        refine x_slA (s13 _ _ h2) fun D4 H4 s4 e4 => ?_
        rw [cut_drop] at e4
        refine x_catA (s4 _ _ e3) e4 (by rw [List.length_append, List.length_take, List.length_drop, List.length_cons, List.length_nil]; omega) fun D5 H5 s5 e5 => ?_
        rw [put_cut b1 b2] at e5
        walk_at "hs"
        refine make_tree (Q := Q) (put_tree it b1 b2 hp c' c3) e5 fun m H6 nm s6 tr => ?_
        have s05 : Same H H5 := fun a o e => s5 _ _ (s4 _ _ (s13 _ _ (s1 _ _ e)))
        exact q c' c3 m H6 (s05.trans s6) (s05.free nm) tr
theorem numV_nat {n : Nat} {v : V} {lo : Nat} (h : numV (lo : Nat) n v = true) : ∃ k : Nat, v = .int k ∧ lo ≤ k ∧ k ≤ n := by
  cases v with
  | int z =>
    have h : (decide (((lo : Nat) : Int) ≤ z) && decide (z ≤ n)) = true := h
    rw [Bool.and_eq_true, decide_eq_true_eq, decide_eq_true_eq] at h
    exact ⟨z.toNat, by rw [Int.toNat_of_nonneg (by omega)], by omega, by omega⟩
  | _ => cases h
abbrev spPlaceW (Z : Ad) : Sp := fun vs H Q E => spPlace Z vs H Q E ∨ spPlaceE Z vs H Q E
abbrev spParentsW (Z : Ad) : Sp := fun vs H Q E => spParents Z vs H Q E ∨ spPlaceE Z vs H Q E
abbrev spUnderW (Z : Ad) : Sp := fun vs H Q E => spUnder Z vs H Q E ∨ spUnderE Z vs H Q E
abbrev spBeneathW (Z : Ad) : Sp := fun vs H Q E => spBeneath Z vs H Q E ∨ spUnderE Z vs H Q E
abbrev spMovedW (Z : Ad) : Sp := fun vs H Q E => spMoved Z vs H Q E ∨ spMovedE Z vs H Q E
abbrev spCalledW (K : PySem.W.Frag) (Z : Ad) : Sp := fun vs H Q E => spCalled K Z vs H Q E ∨ spCalledE Z vs H Q E
abbrev spTellW (Z : Ad) : Sp := fun vs H Q E => spTell Z vs H Q E ∨ spTellE Z vs H Q E
abbrev spUnlikeW (Z : Ad) : Sp := fun vs H Q E => spUnlike Z vs H Q E ∨ spUnlikeE Z vs H Q E
abbrev spDistW (Z : Ad) : Sp := fun vs H Q E => spDist vs H Q E ∨ spDistE Z vs H Q E
abbrev spTwinsW (Z : Ad) : Sp := fun vs H Q E => spTwins Z vs H Q E ∨ spTwinsE Z vs H Q E
def wB (n : Nat) (v : V) : Str := if numV 1 n v = true then "let" else "block"
def wP (n : Nat) (v : V) : Str := if numV 0 n v = true then "let" else "place"
section
variable {H : Hp} {Q : VK} {x y : Addr} {hs gs : List Nat} {v b p : V}
theorem wp_place (t : TreeAt Z H x hs) (k : Kn H v) (q : ∀ H', Same H H' → Q (.str (wB hs.length v)) H') : spPlaceW Z [.ref x, v] H (QL Q) (EL Z Q) := by
  unfold wB at q
  cases e : numV 1 hs.length v with
  | true =>
    obtain ⟨m, rfl, m1, m2⟩ := numV_nat (lo := 1) e
    rw [e] at q
    exact .inl ⟨x, hs, m, rfl, t, m1, m2, q H (Same.refl _)⟩
  | false =>
    rw [e] at q
    exact .inr ⟨x, hs, v, rfl, t, k, e, el_of (i := 0) (by decide) q⟩
theorem wp_parents (t : TreeAt Z H x hs) (it : IsTree hs) (k : Kn H v) (q : ∀ H', Same H H' → Q (.str (wB hs.length v)) H') : spParentsW Z [.ref x, v] H (QL Q) (EL Z Q) := by
  unfold wB at q
  cases e : numV 1 hs.length v with
  | true =>
    obtain ⟨m, rfl, m1, m2⟩ := numV_nat (lo := 1) e
    rw [e] at q
    exact .inl ⟨x, hs, m, rfl, t, it, m1, m2, fun D H' s _ _ => q H' s⟩
  | false =>
    rw [e] at q
    exact .inr ⟨x, hs, v, rfl, t, k, e, el_of (i := 0) (by decide) q⟩
theorem wp_under (t : TreeAt Z H x hs) (it : IsTree hs) (k : Kn H v) (q : ∀ H', Same H H' → Q (.str (wP hs.length v)) H') : spUnderW Z [.ref x, v] H (QL Q) (EL Z Q) := by
  unfold wP at q
  cases e : numV 0 hs.length v with
  | true =>
    obtain ⟨m, rfl, m1, m2⟩ := numV_nat (lo := 0) e
    rw [e] at q
    exact .inl ⟨x, hs, m, rfl, t, it, m2, fun D H' s _ _ => q H' s⟩
  | false =>
    rw [e] at q
    exact .inr ⟨x, hs, v, rfl, t, k, e, el_of (i := 1) (by decide) q⟩
theorem wp_beneath (t : TreeAt Z H x hs) (it : IsTree hs) (k : Kn H v) (q : ∀ H', Same H H' → Q (.str (wP hs.length v)) H') : spBeneathW Z [.ref x, v] H (QL Q) (EL Z Q) := by
  unfold wP at q
  cases e : numV 0 hs.length v with
  | true =>
    obtain ⟨m, rfl, m1, m2⟩ := numV_nat (lo := 0) e
    rw [e] at q
    exact .inl ⟨x, hs, m, rfl, t, it, m2, fun D H' s _ _ => q H' s⟩
  | false =>
    rw [e] at q
    exact .inr ⟨x, hs, v, rfl, t, k, e, el_of (i := 1) (by decide) q⟩
def wM (hs : List Nat) (b p : V) : Str := if numV 1 hs.length b = false then "block" else if numV 0 hs.length p = false then "place" else match b, p with
  | .int i, .int j => if j = i ∨ i.toNat ∈ way hs j.toNat then "beneath" else "let"
  | _, _ => "let"
theorem wp_moved (t : TreeAt Z H x hs) (it : IsTree hs) (kb : Kn H b) (kp : Kn H p) (q : ∀ H', Same H H' → Q (.str (wM hs b p)) H') : spMovedW Z [.ref x, b, p] H (QL Q) (EL Z Q) := by
  unfold wM at q
  cases e : numV 1 hs.length b with
  | false =>
    rw [if_pos e] at q
    exact .inr ⟨x, hs, b, p, rfl, t, kb, kp, .inl ⟨e, el_of (i := 0) (by decide) q⟩⟩
  | true =>
    rw [if_neg (by rw [e]; simp)] at q
    cases e2 : numV 0 hs.length p with
    | false =>
      rw [if_pos e2] at q
      exact .inr ⟨x, hs, b, p, rfl, t, kb, kp, .inr ⟨e, e2, el_of (i := 1) (by decide) q⟩⟩
    | true =>
      rw [if_neg (by rw [e2]; simp)] at q
      obtain ⟨i, rfl, i1, i2⟩ := numV_nat (lo := 1) e
      obtain ⟨j, rfl, j1, j2⟩ := numV_nat (lo := 0) e2
      have q : ∀ H', Same H H' → Q (.str (if ((j : Nat) : Int) = ((i : Nat) : Int) ∨ i ∈ way hs j then "beneath" else "let")) H' := q
      refine .inl ⟨x, hs, i, j, rfl, t, it, i1, i2, j2, fun n1 n2 m H' s _ _ => ?_, fun c H' s => ?_⟩
      · have := q H' s
        rw [if_neg (fun z => z.elim (fun z => n1 (by omega)) n2)] at this
        exact this
      · have q2 : ∀ H', Same H H' → Q (.str "beneath") H' := fun H' s => by
          have := q H' s
          rwa [if_pos (c.imp (fun z => by omega) id)] at this
        exact el_of (Z := Z) (i := 2) (by decide) q2 H' s
def OrdW (K : PySem.W.Frag) (Z : Ad) (H : Hp) (n : Nat) (v : V) (r : Bool) : Prop := (r = true ∧ ∃ t ms, v = .ref t ∧ SqT K H t (nats ms) ∧ IsOrd n ms) ∨ (r = false ∧ BadOrd Z H n v)
theorem wp_called {r : Bool} (t : TreeAt Z H x hs) (it : IsTree hs) (o : OrdW K Z H hs.length v r) (q : ∀ H', Same H H' → Q (.str (if r = true then "let" else "order")) H') : spCalledW K Z [.ref x, v] H (QL Q) (EL Z Q) := by
  rcases o with ⟨rfl, a, ms, rfl, s, o⟩ | ⟨rfl, o⟩
  · exact .inl ⟨x, a, hs, ms, rfl, t, it, s, o, fun m H' s _ _ => q H' s⟩
  · exact .inr ⟨x, v, hs, rfl, t, it, o, el_of (i := 3) (by decide) q⟩
def VwW (Z : Ad) (H : Hp) (v : V) (r : Bool) : Prop := (r = true ∧ ∃ u d, ViewAt H v u d) ∨ (r = false ∧ BadView Z H v)
theorem wp_tell {r : Bool} (t : TreeAt Z H x hs) (it : IsTree hs) (o : VwW Z H v r) (k : Kn H p) (q : ∀ H', Same H H' → Q (.str (if r = false then "view" else wP hs.length p)) H') : spTellW Z [.ref x, v, p] H (QL Q) (EL Z Q) := by
  rcases o with ⟨rfl, u, d, o⟩ | ⟨rfl, o⟩
  · have q : ∀ H', Same H H' → Q (.str (wP hs.length p)) H' := q
    unfold wP at q
    cases e : numV 0 hs.length p with
    | true =>
      obtain ⟨m, rfl, m1, m2⟩ := numV_nat (lo := 0) e
      rw [e] at q
      exact .inl ⟨x, v, hs, u, d, m, rfl, t, it, o, m2, fun r H' s _ => q H' s⟩
    | false =>
      rw [e] at q
      exact .inr ⟨x, v, p, hs, rfl, t, k, .inr ⟨⟨u, d, o⟩, e, el_of (i := 1) (by decide) q⟩⟩
  · exact .inr ⟨x, v, p, hs, rfl, t, k, .inl ⟨o, el_of (i := 4) (by decide) q⟩⟩
theorem wp_unlike {r : Bool} (t : TreeAt Z H x hs) (it : IsTree hs) (t2 : TreeAt Z H y gs) (it2 : IsTree gs) (o : VwW Z H v r) (q : ∀ H', Same H H' → Q (.str (if hs.length = gs.length then (if r = true then "let" else "view") else "blocks")) H') : spUnlikeW Z [.ref x, .ref y, v] H (QL Q) (EL Z Q) := by
  by_cases c : hs.length = gs.length
  · rw [if_pos c] at q
    rcases o with ⟨rfl, u, d, o⟩ | ⟨rfl, o⟩
    · exact .inl ⟨x, y, v, hs, gs, u, d, rfl, t, it, t2, it2, c, o, fun D H' s _ => q H' s⟩
    · exact .inr ⟨x, y, v, hs, gs, rfl, t, t2, .inr ⟨c, o, el_of (i := 4) (by decide) q⟩⟩
  · rw [if_neg c] at q
    exact .inr ⟨x, y, v, hs, gs, rfl, t, t2, .inl ⟨c, el_of (i := 5) (by decide) q⟩⟩
theorem wp_dist {r : Bool} (o : VwW Z H v r) (q : ∀ H', Same H H' → Q (.str (if r = true then "let" else "view")) H') : spDistW Z [v] H (QL Q) (EL Z Q) := by
  rcases o with ⟨rfl, u, d, o⟩ | ⟨rfl, o⟩
  · exact .inl ⟨v, u, d, rfl, o, fun H' s => q H' s⟩
  · exact .inr ⟨v, rfl, o, el_of (i := 4) (by decide) q⟩
theorem wp_twins {r : Bool} (o : VwW Z H v r) (k : Kn H p) (q : ∀ H', Same H H' → Q (.str (if r = false then "view" else if numV 1 40 p = true then "let" else "number")) H') : spTwinsW Z [v, p] H (QL Q) (EL Z Q) := by
  rcases o with ⟨rfl, u, d, o⟩ | ⟨rfl, o⟩
  · have q : ∀ H', Same H H' → Q (.str (if numV 1 40 p = true then "let" else "number")) H' := q
    cases e : numV 1 40 p with
    | true =>
      obtain ⟨m, rfl, m1, m2⟩ := numV_nat (lo := 1) (n := 40) e
      rw [e] at q
      exact .inl ⟨v, u, d, m, rfl, o, m1, m2, fun r H' s _ _ => q H' s⟩
    | false =>
      rw [e] at q
      exact .inr ⟨v, p, rfl, k, .inr ⟨⟨u, d, o⟩, e, el_of (i := 6) (by decide) q⟩⟩
  · exact .inr ⟨v, p, rfl, k, .inl ⟨o, el_of (i := 4) (by decide) q⟩⟩
end
end
set_option maxRecDepth 100000
set_option maxHeartbeats 4000000
open PySem PySem.Spec L2 LamX


theorem sc__law_order_refused : FnScope ["_law_pool_here", "_law_tree", "_law_many", "_law_order", "_law_at", "_law_things", "_law_thing", "_law_right", "_law_item"] ["_law_pool_here", "_law_tree", "_law_many"] (defScope s__law_order_refused) := ⟨rfl, rfl, rfl, by decide +kernel, rfl, by decide +kernel, by decide +kernel⟩
def BuN (p : Addr) (H H' : Hp) : Prop := ∀ b o, b ≠ p → H b = some o → (∀ ps, o ≠ .tbl ps) → H' b = some o
theorem BuN.of {p : Addr} {H H' : Hp} (b : But p H H') : BuN p H H' := fun a o n e _ => b a o n e
theorem BuN.ext {p : Addr} {H H' : Hp} (b : ExtN H H') : BuN p H H' := fun a o _ e t => b a o e t
theorem BuN.trans {p : Addr} {H H1 H2 : Hp} (a : BuN p H H1) (b : BuN p H1 H2) : BuN p H H2 := fun c o n e t => b c o n (a c o n e t) t
section
variable {Z : Ad} {K : PySem.W.Frag} {H H' : Hp}
theorem Kn.ext {v : V} (e : ExtN H H') (k : Kn H v) : Kn H' v := by
  cases v with
  | ref a =>
    rcases k with ⟨xs, h⟩ | ⟨xs, h⟩ | ⟨xs, h⟩
    · exact .inl ⟨xs, e _ _ h (fun _ z => by cases z)⟩
    · exact .inr (.inl ⟨xs, e _ _ h (fun _ z => by cases z)⟩)
    · exact .inr (.inr ⟨xs, e _ _ h (fun _ z => by cases z)⟩)
  | _ => exact k
theorem TreeAt.ext {x : Addr} {hs : List Nat} (e : ExtN H H') (t : TreeAt Z H x hs) : TreeAt Z H' x hs := by
  obtain ⟨dx, u, h1, h2⟩ := t
  exact ⟨dx, u, e _ _ h1 (fun _ z => by cases z), e _ _ h2 (fun _ z => by cases z)⟩
theorem sqT_ext {a : Addr} {xs : List V} (e : ExtN H H') (s : SqT K H a xs) : SqT K H' a xs := by
  rcases s with (h | ⟨o, h⟩) | h
  · exact .inl (.inl (e _ _ h (fun _ z => by cases z)))
  · exact .inl (.inr ⟨o, e _ _ h (fun _ z => by cases z)⟩)
  · exact .inr h
theorem NotTup.ext {v : V} (e : ExtN H H') (n : NotTup Z H v) : NotTup Z H' v := by
  obtain ⟨h1, h2⟩ := n
  refine ⟨fun a xs ev ha => ?_, h2.imp (fun k => k.ext e) fun ⟨x, hs, ex, t⟩ => ⟨x, hs, ex, t.ext e⟩⟩
  subst ev
  have key : ∀ o, H a = some o → (∀ ps, o ≠ .tbl ps) → (∀ ys, o ≠ .tup ys) → False := fun o h1 n1 n2 => by
    rw [e _ _ h1 n1] at ha
    exact n2 xs (Option.some.inj ha)
  rcases h2 with (⟨xs, h⟩ | ⟨xs, h⟩ | ⟨xs, h⟩) | ⟨x, hs, ex, t⟩
  · exact key _ h (fun _ z => by cases z) (fun _ z => by cases z)
  · exact h1 a xs rfl h
  · exact key _ h (fun _ z => by cases z) (fun _ z => by cases z)
  · cases ex
    obtain ⟨dx, u, k1, k2⟩ := t
    exact key _ k1 (fun _ z => by cases z) (fun _ z => by cases z)
theorem BadOrd.ext {n : Nat} {v : V} (e : ExtN H H') (b : BadOrd Z H n v) : BadOrd Z H' n v := b.imp (fun n => n.ext e) fun ⟨a, xs, h1, h2, h3, h4⟩ => ⟨a, xs, h1, e _ _ h2 (fun _ z => by cases z), fun y hy => (h3 y hy).ext e, h4⟩
theorem OrdW.ext {n : Nat} {v : V} {r : Bool} (e : ExtN H H') (o : OrdW K Z H n v r) : OrdW K Z H' n v r := o.imp (fun ⟨h, t, ms, h1, h2, h3⟩ => ⟨h, t, ms, h1, sqT_ext e h2, h3⟩) fun ⟨h, b⟩ => ⟨h, b.ext e⟩
theorem PoolAt.ext {p : Addr} (e : ExtN H H') (h : PoolAt H p (fun _ => False)) : PoolAt H' p (fun _ => False) := by
  obtain ⟨⟨g, z, gs, ss, c, n, h1, h2, h3, r⟩, _⟩ := h
  exact ⟨⟨g, z, gs, ss, c, n, e _ _ h1 (fun _ z => by cases z), e _ _ h2 (fun _ z => by cases z), e _ _ h3 (fun _ z => by cases z), r⟩, fun a ha => ha.elim⟩
theorem Tabs.pool {T : List (Addr × Str)} {p : Addr} {F : Addr → Prop} (hp : PoolAt H p F) (b : But p H H') (t : Tabs T H) : Tabs T H' := fun q hq => by
  obtain ⟨ls, el⟩ := hp.lst
  obtain ⟨ps, h1, h2, h3⟩ := t q hq
  refine ⟨ps, b _ _ (fun z => by rw [z, el] at h1; cases h1) h1, h2, fun pos cv hc => ?_⟩
  obtain ⟨c, e1, e2⟩ := h3 pos cv hc
  exact ⟨c, e1, b _ _ (fun z => by rw [z, el] at e2; unfold CodeO at e2; cases e2) e2⟩
end
section
variable {P : Program} {w : World} {K : PySem.W.Frag} {mg : Str → Option Value} {base : Heap} {Z : Ad}
theorem PoolAt.notTup {H : Hp} {p : Addr} {F : Addr → Prop} (h : PoolAt H p F) : ∀ xs, H p ≠ some (.tup xs) := fun xs e => by
  obtain ⟨ls, el⟩ := h.lst
  rw [el] at e
  cases e
def KnP (p : Addr) (H : Hp) (y : V) : Prop := Kn H y ∧ y ≠ .ref p
theorem KnP.same {p : Addr} {H H' : Hp} {y : V} (s : Same H H') (k : KnP p H y) : KnP p H' y := ⟨k.1.same s, k.2⟩
theorem KnP.pool {p : Addr} {H H' : Hp} {y : V} (b : But p H H') (k : KnP p H y) : KnP p H' y := ⟨k.1.but b k.2, k.2⟩
theorem knP_int {p : Addr} {H : Hp} {i : Int} : KnP p H (.int i) := ⟨trivial, fun z => by cases z⟩
theorem TreeAt.pool {Z : Ad} {H H' : Hp} {p x : Addr} {F : Addr → Prop} {hs : List Nat} (hp : PoolAt H p F) (b : But p H H') (t : TreeAt Z H x hs) : TreeAt Z H' x hs := by
  obtain ⟨dx, u, h1, h2⟩ := t
  obtain ⟨ls, el⟩ := hp.lst
  exact ⟨dx, u, b _ _ (fun z => by rw [z, el] at h1; cases h1) h1, b _ _ (fun z => by rw [z, el] at h2; cases h2) h2⟩
def OrP (Z : Ad) (p : Addr) (H : Hp) (v : V) : Prop := v ≠ .ref p ∧ (((∀ a xs, v = .ref a → H a ≠ some (.tup xs)) ∧ (Kn H v ∨ ∃ x hs, v = .ref x ∧ TreeAt Z H x hs)) ∨ ∃ a xs, v = .ref a ∧ H a = some (.tup xs) ∧ (∀ y ∈ xs, KnP p H y) ∧ xs.length ≤ 60)
theorem keep_not {H H' : Hp} {a : Addr} {o : HO} (h : H a = some o) (n : ∀ ys, o ≠ .tup ys) (h' : H' a = some o) : ∀ xs, H' a ≠ some (.tup xs) := fun xs z => by
  rw [h'] at z
  exact n xs (Option.some.inj z)
theorem OrP.move {Z : Ad} {p : Addr} {H H' : Hp} {v : V} (b : But p H H') (tt : ∀ x hs, v = .ref x → TreeAt Z H x hs → TreeAt Z H' x hs) (h : OrP Z p H v) : OrP Z p H' v := by
  obtain ⟨ne, h⟩ := h
  refine ⟨ne, h.imp (fun ⟨h1, h2⟩ => ⟨fun a xs ev => ?_, h2.imp (fun k => k.but b ne) fun ⟨x, hs, e, t⟩ => ⟨x, hs, e, tt x hs e t⟩⟩) fun ⟨a, xs, ev, ea, hk, hl⟩ => ⟨a, xs, ev, b _ _ (fun z => ne (by rw [ev, z])) ea, fun y hy => (hk y hy).pool b, hl⟩⟩
  subst ev
  have na : a ≠ p := fun z => ne (by rw [z])
  rcases h2 with (⟨ys, h⟩ | ⟨ys, h⟩ | ⟨ys, h⟩) | ⟨x, hs, ex, t⟩
  · exact keep_not h (fun _ z => by cases z) (b _ _ na h) xs
  · exact (h1 a ys rfl h).elim
  · exact keep_not h (fun _ z => by cases z) (b _ _ na h) xs
  · cases ex
    obtain ⟨dx, u, k1, k2⟩ := t
    exact keep_not k1 (fun _ z => by cases z) (b _ _ na k1) xs
theorem OrP.same {Z : Ad} {p : Addr} {H H' : Hp} {v : V} (s : Same H H') (h : OrP Z p H v) : OrP Z p H' v := h.move (But.of s) fun x hs _ t => t.same s
theorem OrP.pool {Z : Ad} {p : Addr} {H H' : Hp} {F : Addr → Prop} {v : V} (hp : PoolAt H p F) (b : But p H H') (h : OrP Z p H v) : OrP Z p H' v := h.move b fun x hs _ t => t.pool hp b
theorem orP_sca {Z : Ad} {p : Addr} {H : Hp} {v : V} (k : Kn H v) (n : ∀ a, v ≠ .ref a) : OrP Z p H v := ⟨n p, .inl ⟨fun a xs e => (n a e).elim, .inl k⟩⟩
theorem orP_obj {Z : Ad} {p a : Addr} {H : Hp} {o : HO} (h : H a = some o) (k : Kn H (.ref a)) (n : ∀ ys, o ≠ .tup ys) (ne : a ≠ p) : OrP Z p H (.ref a) := ⟨fun z => ne (V.ref.inj z), .inl ⟨fun b xs e => by cases e; exact keep_not h n h xs, .inl k⟩⟩
theorem orP_tree {Z : Ad} {p x : Addr} {H : Hp} {hs : List Nat} (t : TreeAt Z H x hs) (ne : x ≠ p) : OrP Z p H (.ref x) := ⟨fun z => ne (V.ref.inj z), .inl ⟨fun b xs e => by
  cases e
  obtain ⟨dx, u, k1, k2⟩ := t
  exact keep_not k1 (fun _ z => by cases z) k1 xs, .inr ⟨x, hs, rfl, t⟩⟩⟩
theorem orP_tup {Z : Ad} {p a : Addr} {H : Hp} {xs : List V} (h : H a = some (.tup xs)) (k : ∀ y ∈ xs, KnP p H y) (l : xs.length ≤ 60) (ne : a ≠ p) : OrP Z p H (.ref a) := ⟨fun z => ne (V.ref.inj z), .inr ⟨a, xs, rfl, h, k, l⟩⟩
theorem knP_nats {p : Addr} {H : Hp} {l : List Nat} : ∀ y ∈ nats l, KnP p H y := fun y hy => by
  obtain ⟨k, _, rfl⟩ := List.mem_map.mp hy
  exact knP_int
theorem knP_cut {p : Addr} {H : Hp} {xs : List V} {lo hi : Option Int} (h : ∀ y ∈ xs, KnP p H y) : ∀ y ∈ cutV xs lo hi, KnP p H y := fun y hy => h y (List.mem_of_mem_drop (List.mem_of_mem_take hy))
theorem knP_app {p : Addr} {H : Hp} {xs ys : List V} (h : ∀ y ∈ xs, KnP p H y) (h2 : ∀ y ∈ ys, KnP p H y) : ∀ y ∈ xs ++ ys, KnP p H y := fun y hy => (List.mem_append.mp hy).elim (h y) (h2 y)
theorem knP_one {p : Addr} {H : Hp} {x : V} (h : KnP p H x) : ∀ y ∈ [x], KnP p H y := fun y hy => by
  rw [List.mem_singleton.mp hy]
  exact h
theorem cutl (xs : List V) (lo hi : Option Int) : (cutV xs lo hi).length ≤ xs.length := by
  unfold cutV
  rw [List.length_take, List.length_drop]
  omega
def spOrdRef (Z : Ad) (T : List (Addr × Str)) : Sp := fun vs H Q _ => ∃ (p x : Addr) (n : Nat) (hs : List Nat), vs = [.ref p, .ref x, .int n] ∧ PoolAt H p (fun _ => False) ∧ TreeAt Z H x hs ∧ IsTree hs ∧ hs.length = n ∧ n ≤ 8 ∧ Tabs T H ∧ ∀ H', BuN p H H' → PoolAt H' p (fun _ => False) → Tabs T H' → Q (.bl true) H'
theorem ok_ordRef {T : List (Addr × Str)} {f c PT : Addr} {fd : FuncData} (F : FunC K "_law_order_refused" s__law_order_refused f fd c) (B : Bl Z mg) (I : IsC K Z.a_Tree) (nt : PySem.W.kitOne K (.ref Z.a_Tree) (.type "tuple") = some false) (EK : ∀ i, i < 7 → ErrK K Z i) (TB : TabB base mg c PT)
    (inT : (PT, (PyProof.Rows.envOfC "_law_order_refused" (defScope s__law_order_refused) 0 f (.ref c)).qual ++ "<lambda>") ∈ T) (uni : ∀ q ∈ T, q.1 = PT → q.2 = (PyProof.Rows.envOfC "_law_order_refused" (defScope s__law_order_refused) 0 f (.ref c)).qual ++ "<lambda>")
    {f_w : Addr} {fd_w : FuncData} (Fw : Fun K "_law_word" "_law_word" s__law_word f_w fd_w) (C__law_word : Cal K mg "_law_word" f_w fd_w ["_law_call"])
    {f__law_draw : Addr} {fd__law_draw : FuncData} (C__law_draw : Cal K mg "_law_draw" f__law_draw fd__law_draw ["_law_pool_here", "_law_many"]) (G__law_draw : FnOk P w K mg base CX0 1 f__law_draw fd__law_draw ["_law_pool_here", "_law_many"] spDraw)
    {f__law_mixed : Addr} {fd__law_mixed : FuncData} (C__law_mixed : Cal K mg "_law_mixed" f__law_mixed fd__law_mixed ["_law_pool_here", "_law_many"]) (G__law_mixed : FnOk P w K mg base CX0 2 f__law_mixed fd__law_mixed ["_law_pool_here", "_law_many"] spMixed)
    {f__law_odd : Addr} {fd__law_odd : FuncData} (C__law_odd : Cal K mg "_law_odd" f__law_odd fd__law_odd ["_law_pool_here", "_law_most"]) (G__law_odd : FnOk P w K mg base CX0 3 f__law_odd fd__law_odd ["_law_pool_here", "_law_most"] spOdd)
    {f__law_deep : Addr} {fd__law_deep : FuncData} (C__law_deep : Cal K mg "_law_deep" f__law_deep fd__law_deep []) (G__law_deep : FnOk P w K mg base CX0 1 f__law_deep fd__law_deep [] (spDeep K))
    {f__law_pick : Addr} {fd__law_pick : FuncData} (C__law_pick : Cal K mg "_law_pick" f__law_pick fd__law_pick ["_law_pool_here", "_law_things"]) (G__law_pick : FnOk P w K mg base CX0 2 f__law_pick fd__law_pick ["_law_pool_here", "_law_things"] (spPick K))
    {f__law_is_number : Addr} {fd__law_is_number : FuncData} (C__law_is_number : Cal K mg "_law_is_number" f__law_is_number fd__law_is_number ["_law_thing", "_law_least", "_law_most"]) (G__law_is_number : FnOk P w K mg base CX0 1 f__law_is_number fd__law_is_number ["_law_thing", "_law_least", "_law_most"] (spNum 0))
    {f_called : Addr} {fd_called : FuncData} (C_called : Cal K mg "called" f_called fd_called ["tree", "order"]) (G_called : FnOk P w K mg base (L2N.CX P w) 5 f_called fd_called ["tree", "order"] (spCalledW K Z)) : FnOk P w K mg base CX0 11 f fd ["_law_pool_here", "_law_tree", "_law_many"] (spOrdRef Z T) := by
  obtain ⟨oc, od, kV, doc, pm, an, cdv, ct, osl, rfl, LW, CW⟩ := Fw.ex
  refine F.ok sc__law_order_refused (fun vs H Q E h => ?_) (fun A outer s H vs Q E hr h => ?_)
  · obtain ⟨p, x, n, hs, rfl, _⟩ := h
    rfl
  · obtain ⟨p, x, n, hs, rfl, pp, tr, it, hn, n8, tb, q⟩ := h
    have n1 := it.pos
    refine ⟨_, (pss_cons (ps_set (i := 3) sc__law_order_refused.nd rfl (Or.inl rfl) (pe_callTy (call_tplK (K := K) rfl) (by rfl) B.b_tuple (by decide +kernel) (pa_cons (pe_call G__law_mixed (hr.mono (by first | decide | omega)) (by rfl) C__law_mixed.g C__law_mixed.k C__law_mixed.b .nil pass0 (pa_cons (pv 0) (pa_cons (pv 2) pa_nil))) pa_nil)))
 (pss_cons (ps_set (i := 4) sc__law_order_refused.nd rfl (Or.inl rfl) (pe_call G__law_draw (hr.mono (by first | decide | omega)) (by rfl) C__law_draw.g C__law_draw.k C__law_draw.b .nil pass0 (pa_cons (pv 0) (pa_cons (pv 2) pa_nil))))
 (pss_cons (ps_set (i := 5) sc__law_order_refused.nd rfl (Or.inl rfl) (pe_lst (pa_cons (pe_op (op_catAK (K := K) rfl) (pe_op (op_catAK (K := K) rfl) (pe_slice (sl_tupAK (K := K) rfl) (pv 3) po_none (po_some (pv 4))) (pe_tup (pa_cons (pe_call G__law_odd (hr.mono (by first | decide | omega)) (by rfl) C__law_odd.g C__law_odd.k C__law_odd.b .nil pass0 (pa_cons (pv 0) (pa_cons (pv 2) pa_nil))) pa_nil))) (pe_slice (sl_tupAK (K := K) rfl) (pv 3) (po_some (pe_op op_add (pv 4) pe_int)) po_none)) (pa_cons (pe_op (op_catAK (K := K) rfl) (pe_slice (sl_tupAK (K := K) rfl) (pv 3) po_none (po_some (pv 4))) (pe_slice (sl_tupAK (K := K) rfl) (pv 3) (po_some (pe_op op_add (pv 4) pe_int)) po_none)) (pa_cons (pe_op (op_catAK (K := K) rfl) (pv 3) (pe_slice (sl_tupAK (K := K) rfl) (pv 3) po_none (po_some pe_int))) pa_nil)))))
 (pss_cons (ps_set (i := 5) sc__law_order_refused.nd rfl (Or.inl rfl) (pe_op op_cat (pv 5) (pe_lst (pa_cons (pe_callTy (call_lstK (K := K) rfl) (by rfl) B.b_list (by decide +kernel) (pa_cons (pv 3) pa_nil)) (pa_cons (pe_tup pa_nil) (pa_cons pe_non (pa_cons pe_int (pa_cons pe_str (pa_cons pe_dnewK (pa_cons (pe_call0 G__law_deep (hr.mono (by first | decide | omega)) (by rfl) C__law_deep.g C__law_deep.k C__law_deep.b .nil pass0) (pa_cons (pv 1) (pa_cons (pv 3) (pa_cons (pe_op (op_catAK (K := K) rfl) (pe_tup (pa_cons pe_int pa_nil)) (pv 3)) pa_nil)))))))))))))
 (pss_cons (ps_set (i := 6) sc__law_order_refused.nd rfl (Or.inr rfl) (pe_call G__law_pick (hr.mono (by first | decide | omega)) (by rfl) C__law_pick.g C__law_pick.k C__law_pick.b .nil pass0 (pa_cons (pv 0) (pa_cons (pv 5) pa_nil))))
 (C8.pss_cut (ps_set (i := 7) sc__law_order_refused.nd rfl (Or.inl rfl) (pe_and (pe_callB (call_isiK' (K := K) rfl) (by rfl) B.b_isinstance (by decide +kernel) (pa_cons (pv 6) (pa_cons (pe_bltn (v := .ty "tuple") (by rfl) B.b_tuple (by decide +kernel) rfl) pa_nil))) (pe_and (pe_cmpR op_eq (pe_callB (call_lenK (K := K) rfl) (by rfl) B.b_len PySem.boot_len (pa_cons (pv 6) pa_nil)) (pv 2) (nomark _)) (pe_one (pe_callB (cr_allK (K := K) rfl rfl) (by rfl) B.b_all (by decide +kernel) (pa_cons (pe_lc (own := [("_law_item", 8)]) rfl sc__law_order_refused.nd (pi_tup (pv 6)) (blkOk_by (N := ["_law_pool_here", "_law_tree", "_law_many", "_law_order", "_law_at", "_law_things", "_law_thing", "_law_right", "_law_item"]) (sc := defScope s__law_order_refused) (by decide +kernel)) (fun _ _ _ _ _ => (pg_name (i := 8) sc__law_order_refused.nd rfl (Or.inl rfl))) (fun _ _ _ _ _ => pts_nil) (fun _ _ _ _ _ => (pe_call G__law_is_number (hr.mono (by first | decide | omega)) (by rfl) C__law_is_number.g C__law_is_number.k C__law_is_number.b .nil pass0 (pa_cons (pv 8) (pa_cons pe_int (pa_cons (pv 2) pa_nil)))))) pa_nil))))))
 (C8.pss_cut (ps_if (pt_val (pv 7)) (pss_one (ps_set (i := 7) sc__law_order_refused.nd rfl (Or.inl rfl) (pe_cmpR (op_eqDK (K := K) rfl hr.units) (pe_callB (cr_sortT (K := K) rfl) (by rfl) B.b_sorted (by decide +kernel) (pa_cons (pv 6) pa_nil)) (pe_listRg rfl (by rfl) B.b_list (prg_2 (by rfl) B.b_range pe_int (pe_op op_add (pv 2) pe_int))) (nomark _)))) pss_nil)
 (pss_one (ps_ret (pe_cmpR op_eq (LamN.calls (T := T) (TT := TTw Z) (k := 7) (by rfl) C__law_word.g C__law_word.k LW CW C__law_word.b sc__law_word rfl (Or.inl rfl) (word_gives rfl B EK) TB rfl inT uni (hr.mono (by first | decide | omega)) (LamX.lamS_by (sc := defScope s__law_order_refused) (by decide +kernel)) rfl (fun _ _ _ _ _ => rfl) (fun _ _ _ _ E2 _ _ hr2 => (pe_call (E := E2) G_called (hr2.mono (by first | decide | omega)) (by rfl) C_called.g C_called.k C_called.b .nil passLam (pa_cons (pv 1) (pa_cons (pv 6) pa_nil))))) (pe_ifExp (pt_val (pv 7)) pe_str pe_str) (nomark _))))))))))), ?_⟩
    walk_at "h0"
    have bc : BuN p H H := fun _ _ _ e _ => e
    refine ⟨p, n, _, rfl, pp, by omega, by omega, fun D ms H1 pm b1 p1 nD eD => ?_⟩
    have nDp : D ≠ p := pp.ne nD
    have xp : x ≠ p := fun z => by
      obtain ⟨dx, u, k1, _⟩ := tr
      obtain ⟨ls, el⟩ := pp.lst
      rw [z, el] at k1
      cases k1
    replace tr := tr.pool pp b1
    replace tb := Tabs.pool pp b1 tb
    replace bc := bc.trans (BuN.of b1)
    replace pp := p1
    clear b1 p1
    have ml : ms.length = n := by rw [pm.length_eq, List.length_range']
    have nl : (nats ms).length = n := by rw [nats_length, ml]
    have sD : SqL K H1 D (nats ms) := .of eD
    walk_at "hs"
    intro O nO
    have st : Same H1 (upd H1 O (.tup (nats ms))) := same_new (Same.refl _) nO
    have eO : upd H1 O (.tup (nats ms)) O = some (.tup (nats ms)) := upd_same
    generalize upd H1 O (.tup (nats ms)) = H2 at st eO ⊢
    have Op : O ≠ p := pp.ne nO
    replace tr := tr.same st
    replace tb := tb.ext st
    replace bc := bc.trans (BuN.of (But.of st))
    replace pp := pp.same st
    clear st
    clear sD eD nD
    walk_at "hs"
    refine ⟨p, n, _, rfl, pp, by omega, by omega, fun d H3 d0 d1 b1 p1 => ?_⟩
    replace tr := tr.pool pp b1
    replace tb := Tabs.pool pp b1 tb
    replace bc := bc.trans (BuN.of b1)
    replace eO := b1 _ _ (Op) eO
    replace pp := p1
    clear b1 p1
    walk_at "hs"
    refine x_slA eO fun D1 H4 st e1 => ?_
    replace tr := tr.same st
    replace tb := tb.ext st
    replace bc := bc.trans (BuN.of (But.of st))
    replace pp := pp.same st
    replace eO := st _ _ eO
    clear st
    walk_at "hs"
    refine ⟨p, n, _, rfl, pp, fun v H5 kv nv b1 p1 => ?_⟩
    replace tr := tr.pool pp b1
    replace tb := Tabs.pool pp b1 tb
    replace bc := bc.trans (BuN.of b1)
    replace eO := b1 _ _ (Op) eO
    replace e1 := b1 _ _ (fun z => pp.notTup _ (z ▸ e1)) e1
    replace pp := p1
    clear b1 p1
    have kp : KnP p H5 v := ⟨kv, nv⟩
    clear kv nv
    walk_at "hs"
    intro P1 nP1
    have st : Same H5 (upd H5 P1 (.tup [v])) := same_new (Same.refl _) nP1
    have eP1 : upd H5 P1 (.tup [v]) P1 = some (.tup [v]) := upd_same
    generalize upd H5 P1 (.tup [v]) = H6 at st eP1 ⊢
    have P1p : P1 ≠ p := pp.ne nP1
    replace tr := tr.same st
    replace tb := tb.ext st
    replace bc := bc.trans (BuN.of (But.of st))
    replace pp := pp.same st
    replace eO := st _ _ eO
    replace e1 := st _ _ e1
    replace kp := kp.same st
    clear st
    refine x_catA e1 eP1 (by have := cutl (nats ms) none (some d); have := cutl (nats ms) (some (d + 1)) none; have := cutl (nats ms) none (some 1); (try simp only [List.length_append, List.length_cons, List.length_nil]); omega) fun D2 H7 st e2 => ?_
    replace tr := tr.same st
    replace tb := tb.ext st
    replace bc := bc.trans (BuN.of (But.of st))
    replace pp := pp.same st
    replace eO := st _ _ eO
    replace e1 := st _ _ e1
    replace kp := kp.same st
    replace eP1 := st _ _ eP1
    clear st
    walk_at "hs"
    clear e1 eP1
    refine x_slA eO fun D3 H8 st e3 => ?_
    replace tr := tr.same st
    replace tb := tb.ext st
    replace bc := bc.trans (BuN.of (But.of st))
    replace pp := pp.same st
    replace eO := st _ _ eO
    replace kp := kp.same st
    replace e2 := st _ _ e2
    clear st
    walk_at "hs"
    refine x_catA e2 e3 (by have := cutl (nats ms) none (some d); have := cutl (nats ms) (some (d + 1)) none; have := cutl (nats ms) none (some 1); (try simp only [List.length_append, List.length_cons, List.length_nil]); omega) fun D4 H9 st e4 => ?_
    replace tr := tr.same st
    replace tb := tb.ext st
    replace bc := bc.trans (BuN.of (But.of st))
    replace pp := pp.same st
    replace eO := st _ _ eO
    replace kp := kp.same st
    replace e2 := st _ _ e2
    replace e3 := st _ _ e3
    clear st
    walk_at "hs"
    clear e2 e3
    have g1 : OrP Z p H9 (.ref D4) := orP_tup e4 (knP_app (knP_app (knP_cut knP_nats) (knP_one kp)) (knP_cut knP_nats)) (by have := cutl (nats ms) none (some d); have := cutl (nats ms) (some (d + 1)) none; have := cutl (nats ms) none (some 1); (try simp only [List.length_append, List.length_cons, List.length_nil]); omega) (fun z => pp.notTup _ (z ▸ e4))
    clear e4 kp
    refine x_slA eO fun D5 H10 st e5 => ?_
    replace tr := tr.same st
    replace tb := tb.ext st
    replace bc := bc.trans (BuN.of (But.of st))
    replace pp := pp.same st
    replace eO := st _ _ eO
    replace g1 := OrP.same st g1
    clear st
    walk_at "hs"
    refine x_slA eO fun D6 H11 st e6 => ?_
    replace tr := tr.same st
    replace tb := tb.ext st
    replace bc := bc.trans (BuN.of (But.of st))
    replace pp := pp.same st
    replace eO := st _ _ eO
    replace g1 := OrP.same st g1
    replace e5 := st _ _ e5
    clear st
    walk_at "hs"
    refine x_catA e5 e6 (by have := cutl (nats ms) none (some d); have := cutl (nats ms) (some (d + 1)) none; have := cutl (nats ms) none (some 1); (try simp only [List.length_append, List.length_cons, List.length_nil]); omega) fun D7 H12 st e7 => ?_
    replace tr := tr.same st
    replace tb := tb.ext st
    replace bc := bc.trans (BuN.of (But.of st))
    replace pp := pp.same st
    replace eO := st _ _ eO
    replace g1 := OrP.same st g1
    replace e5 := st _ _ e5
    replace e6 := st _ _ e6
    clear st
    walk_at "hs"
    clear e5 e6
    have g2 : OrP Z p H12 (.ref D7) := orP_tup e7 (knP_app (knP_cut knP_nats) (knP_cut knP_nats)) (by have := cutl (nats ms) none (some d); have := cutl (nats ms) (some (d + 1)) none; have := cutl (nats ms) none (some 1); (try simp only [List.length_append, List.length_cons, List.length_nil]); omega) (fun z => pp.notTup _ (z ▸ e7))
    clear e7
    refine x_slA eO fun D8 H13 st e8 => ?_
    replace tr := tr.same st
    replace tb := tb.ext st
    replace bc := bc.trans (BuN.of (But.of st))
    replace pp := pp.same st
    replace eO := st _ _ eO
    replace g1 := OrP.same st g1
    replace g2 := OrP.same st g2
    clear st
    walk_at "hs"
    refine x_catA eO e8 (by have := cutl (nats ms) none (some d); have := cutl (nats ms) (some (d + 1)) none; have := cutl (nats ms) none (some 1); (try simp only [List.length_append, List.length_cons, List.length_nil]); omega) fun D9 H14 st e9 => ?_
    replace tr := tr.same st
    replace tb := tb.ext st
    replace bc := bc.trans (BuN.of (But.of st))
    replace pp := pp.same st
    replace eO := st _ _ eO
    replace g1 := OrP.same st g1
    replace g2 := OrP.same st g2
    replace e8 := st _ _ e8
    clear st
    walk_at "hs"
    clear e8
    have g3 : OrP Z p H14 (.ref D9) := orP_tup e9 (knP_app knP_nats (knP_cut knP_nats)) (by have := cutl (nats ms) none (some d); have := cutl (nats ms) (some (d + 1)) none; have := cutl (nats ms) none (some 1); (try simp only [List.length_append, List.length_cons, List.length_nil]); omega) (fun z => pp.notTup _ (z ▸ e9))
    clear e9
    intro L1 nL1
    have st : Same H14 (upd H14 L1 (.lst [.ref D4, .ref D7, .ref D9])) := same_new (Same.refl _) nL1
    have eL1 : upd H14 L1 (.lst [.ref D4, .ref D7, .ref D9]) L1 = some (.lst [.ref D4, .ref D7, .ref D9]) := upd_same
    generalize upd H14 L1 (.lst [.ref D4, .ref D7, .ref D9]) = H15 at st eL1 ⊢
    have L1p : L1 ≠ p := pp.ne nL1
    replace tr := tr.same st
    replace tb := tb.ext st
    replace bc := bc.trans (BuN.of (But.of st))
    replace pp := pp.same st
    replace eO := st _ _ eO
    replace g1 := OrP.same st g1
    replace g2 := OrP.same st g2
    replace g3 := OrP.same st g3
    clear st
    have sO : SqT K H15 O (nats ms) := .of eO
    walk_at "hs"
    intro Lo nLo
    have st : Same H15 (upd H15 Lo (.lst (nats ms))) := same_new (Same.refl _) nLo
    have eLo : upd H15 Lo (.lst (nats ms)) Lo = some (.lst (nats ms)) := upd_same
    generalize upd H15 Lo (.lst (nats ms)) = H16 at st eLo ⊢
    have Lop : Lo ≠ p := pp.ne nLo
    replace tr := tr.same st
    replace tb := tb.ext st
    replace bc := bc.trans (BuN.of (But.of st))
    replace pp := pp.same st
    replace eO := st _ _ eO
    replace g1 := OrP.same st g1
    replace g2 := OrP.same st g2
    replace g3 := OrP.same st g3
    replace eL1 := st _ _ eL1
    clear st
    clear sO
    have g4 : OrP Z p H16 (.ref Lo) := orP_obj eLo (.inl ⟨_, eLo⟩) (fun _ z => by cases z) Lop
    clear eLo
    walk_at "hs"
    intro E0 nE0
    have st : Same H16 (upd H16 E0 (.tup [])) := same_new (Same.refl _) nE0
    have eE0 : upd H16 E0 (.tup []) E0 = some (.tup []) := upd_same
    generalize upd H16 E0 (.tup []) = H17 at st eE0 ⊢
    have E0p : E0 ≠ p := pp.ne nE0
    replace tr := tr.same st
    replace tb := tb.ext st
    replace bc := bc.trans (BuN.of (But.of st))
    replace pp := pp.same st
    replace eO := st _ _ eO
    replace g1 := OrP.same st g1
    replace g2 := OrP.same st g2
    replace g3 := OrP.same st g3
    replace eL1 := st _ _ eL1
    replace g4 := OrP.same st g4
    clear st
    have g5 : OrP Z p H17 (.ref E0) := orP_tup eE0 (fun y h => nomatch h) (by decide) E0p
    clear eE0
    walk_at "hs"
    intro Dd nDd
    have st : Same H17 (upd H17 Dd (.dK [])) := same_new (Same.refl _) nDd
    have eDd : upd H17 Dd (.dK []) Dd = some (.dK []) := upd_same
    generalize upd H17 Dd (.dK []) = H18 at st eDd ⊢
    have Ddp : Dd ≠ p := pp.ne nDd
    replace tr := tr.same st
    replace tb := tb.ext st
    replace bc := bc.trans (BuN.of (But.of st))
    replace pp := pp.same st
    replace eO := st _ _ eO
    replace g1 := OrP.same st g1
    replace g2 := OrP.same st g2
    replace g3 := OrP.same st g3
    replace eL1 := st _ _ eL1
    replace g4 := OrP.same st g4
    replace g5 := OrP.same st g5
    clear st
    have g6 : OrP Z p H18 (.ref Dd) := orP_obj eDd (.inr (.inr ⟨_, eDd⟩)) (fun _ z => by cases z) Ddp
    clear eDd
    walk_at "hs"
    refine ⟨rfl, fun da dx H19 st nda eda _ => ?_⟩
    have dap : da ≠ p := pp.ne nda
    replace tr := tr.same st
    replace tb := tb.ext st
    replace bc := bc.trans (BuN.of (But.of st))
    replace pp := pp.same st
    replace eO := st _ _ eO
    replace g1 := OrP.same st g1
    replace g2 := OrP.same st g2
    replace g3 := OrP.same st g3
    replace eL1 := st _ _ eL1
    replace g4 := OrP.same st g4
    replace g5 := OrP.same st g5
    replace g6 := OrP.same st g6
    clear st
    have g7 : OrP Z p H19 (.ref da) := orP_obj eda (.inl ⟨_, eda⟩) (fun _ z => by cases z) dap
    clear eda nda
    have g8 : OrP Z p H19 (.ref x) := orP_tree tr xp
    have g9 : OrP Z p H19 (.ref O) := orP_tup eO knP_nats (by omega) Op
    walk_at "hs"
    intro P0 nP0
    have st : Same H19 (upd H19 P0 (.tup [.int 0])) := same_new (Same.refl _) nP0
    have eP0 : upd H19 P0 (.tup [.int 0]) P0 = some (.tup [.int 0]) := upd_same
    generalize upd H19 P0 (.tup [.int 0]) = H20 at st eP0 ⊢
    have P0p : P0 ≠ p := pp.ne nP0
    replace tr := tr.same st
    replace tb := tb.ext st
    replace bc := bc.trans (BuN.of (But.of st))
    replace pp := pp.same st
    replace eO := st _ _ eO
    replace g1 := OrP.same st g1
    replace g2 := OrP.same st g2
    replace g3 := OrP.same st g3
    replace eL1 := st _ _ eL1
    replace g4 := OrP.same st g4
    replace g5 := OrP.same st g5
    replace g6 := OrP.same st g6
    replace g7 := OrP.same st g7
    replace g8 := OrP.same st g8
    replace g9 := OrP.same st g9
    clear st
    walk_at "hs"
    refine x_catA eP0 eO (by have := cutl (nats ms) none (some d); have := cutl (nats ms) (some (d + 1)) none; have := cutl (nats ms) none (some 1); (try simp only [List.length_append, List.length_cons, List.length_nil]); omega) fun D10 H21 st e10 => ?_
    replace tr := tr.same st
    replace tb := tb.ext st
    replace bc := bc.trans (BuN.of (But.of st))
    replace pp := pp.same st
    replace eO := st _ _ eO
    replace g1 := OrP.same st g1
    replace g2 := OrP.same st g2
    replace g3 := OrP.same st g3
    replace eL1 := st _ _ eL1
    replace g4 := OrP.same st g4
    replace g5 := OrP.same st g5
    replace g6 := OrP.same st g6
    replace g7 := OrP.same st g7
    replace g8 := OrP.same st g8
    replace g9 := OrP.same st g9
    replace eP0 := st _ _ eP0
    clear st
    walk_at "hs"
    clear eP0
    have g10 : OrP Z p H21 (.ref D10) := orP_tup e10 (knP_app (knP_one knP_int) knP_nats) (by have := cutl (nats ms) none (some d); have := cutl (nats ms) (some (d + 1)) none; have := cutl (nats ms) none (some 1); (try simp only [List.length_append, List.length_cons, List.length_nil]); omega) (fun z => pp.notTup _ (z ▸ e10))
    clear e10
    intro L2 nL2
    have st : Same H21 (upd H21 L2 (.lst [V.ref Lo, .ref E0, .non, .int 0, .str "", .ref Dd, .ref da, .ref x, .ref O, .ref D10])) := same_new (Same.refl _) nL2
    have eL2 : upd H21 L2 (.lst [V.ref Lo, .ref E0, .non, .int 0, .str "", .ref Dd, .ref da, .ref x, .ref O, .ref D10]) L2 = some (.lst [V.ref Lo, .ref E0, .non, .int 0, .str "", .ref Dd, .ref da, .ref x, .ref O, .ref D10]) := upd_same
    generalize upd H21 L2 (.lst [V.ref Lo, .ref E0, .non, .int 0, .str "", .ref Dd, .ref da, .ref x, .ref O, .ref D10]) = H22 at st eL2 ⊢
    have L2p : L2 ≠ p := pp.ne nL2
    replace tr := tr.same st
    replace tb := tb.ext st
    replace bc := bc.trans (BuN.of (But.of st))
    replace pp := pp.same st
    replace eO := st _ _ eO
    replace g1 := OrP.same st g1
    replace g2 := OrP.same st g2
    replace g3 := OrP.same st g3
    replace eL1 := st _ _ eL1
    replace g4 := OrP.same st g4
    replace g5 := OrP.same st g5
    replace g6 := OrP.same st g6
    replace g7 := OrP.same st g7
    replace g8 := OrP.same st g8
    replace g9 := OrP.same st g9
    replace g10 := OrP.same st g10
    clear st
    refine x_cat eL1 eL2 (szLe (by show 3 + 10 ≤ 100000; decide)) fun L3 nL3 => ?_
    have L3p : L3 ≠ p := pp.ne nL3
    have st : Same H22 (upd H22 L3 (.lst ([V.ref D4, .ref D7, .ref D9] ++ [V.ref Lo, .ref E0, .non, .int 0, .str "", .ref Dd, .ref da, .ref x, .ref O, .ref D10]))) := same_new (Same.refl _) nL3
    have eL3 : upd H22 L3 (.lst ([V.ref D4, .ref D7, .ref D9] ++ [V.ref Lo, .ref E0, .non, .int 0, .str "", .ref Dd, .ref da, .ref x, .ref O, .ref D10])) L3 = some (.lst ([V.ref D4, .ref D7, .ref D9] ++ [V.ref Lo, .ref E0, .non, .int 0, .str "", .ref Dd, .ref da, .ref x, .ref O, .ref D10])) := upd_same
    generalize upd H22 L3 (.lst ([V.ref D4, .ref D7, .ref D9] ++ [V.ref Lo, .ref E0, .non, .int 0, .str "", .ref Dd, .ref da, .ref x, .ref O, .ref D10])) = H23 at st eL3 ⊢
    replace tr := tr.same st
    replace tb := tb.ext st
    replace bc := bc.trans (BuN.of (But.of st))
    replace pp := pp.same st
    replace eO := st _ _ eO
    replace g1 := OrP.same st g1
    replace g2 := OrP.same st g2
    replace g3 := OrP.same st g3
    replace eL1 := st _ _ eL1
    replace g4 := OrP.same st g4
    replace g5 := OrP.same st g5
    replace g6 := OrP.same st g6
    replace g7 := OrP.same st g7
    replace g8 := OrP.same st g8
    replace g9 := OrP.same st g9
    replace g10 := OrP.same st g10
    replace eL2 := st _ _ eL2
    clear st
    have gl : ∀ v ∈ ([V.ref D4, .ref D7, .ref D9] ++ [V.ref Lo, .ref E0, .non, .int 0, .str "", .ref Dd, .ref da, .ref x, .ref O, .ref D10] : List V), OrP Z p H23 v := fun v hv => by
      rcases List.mem_append.mp hv with hv | hv
      · simp only [List.mem_cons, List.not_mem_nil, or_false] at hv
        rcases hv with rfl | rfl | rfl
        · exact g1
        · exact g2
        · exact g3
      · simp only [List.mem_cons, List.not_mem_nil, or_false] at hv
        rcases hv with rfl | rfl | rfl | rfl | rfl | rfl | rfl | rfl | rfl | rfl
        · exact g4
        · exact g5
        · exact orP_sca trivial (fun a z => by cases z)
        · exact orP_sca trivial (fun a z => by cases z)
        · exact orP_sca trivial (fun a z => by cases z)
        · exact g6
        · exact g7
        · exact g8
        · exact g9
        · exact g10
    clear g1 g2 g3 g4 g5 g6 g7 g8 g9 g10 eL1 eL2
    have l3 : ([V.ref D4, .ref D7, .ref D9] ++ [V.ref Lo, .ref E0, .non, .int 0, .str "", .ref Dd, .ref da, .ref x, .ref O, .ref D10]).length = 13 := rfl
    generalize ([V.ref D4, .ref D7, .ref D9] ++ [V.ref Lo, .ref E0, .non, .int 0, .str "", .ref Dd, .ref da, .ref x, .ref O, .ref D10]) = xs3 at eL3 gl l3
    walk_at "hs"
    refine ⟨p, L3, xs3, _, rfl, pp, .of eL3, L3p, by omega, by omega, fun y G hm b1 p1 => ?_⟩
    have oy := OrP.pool pp b1 (gl y hm)
    clear gl eL3
    replace tr := tr.pool pp b1
    replace tb := Tabs.pool pp b1 tb
    replace bc := bc.trans (BuN.of b1)
    replace eO := b1 _ _ (Op) eO
    replace pp := p1
    clear b1 p1
    clear hm nO d0 d1
    walk_at "hs"
    refine ⟨fun σ' G2 => ∃ r, σ' = [some (.ref p), some (.ref x), some (.int n), some (.ref O), some (.int d), some (.ref L3), some y, some (.bl r), none] ∧ Same G G2 ∧ ((r = false ∧ BadOrd Z G2 n y) ∨ (r = true ∧ ∃ a zs, y = .ref a ∧ G2 a = some (.tup (nats zs)) ∧ zs.length = n ∧ ∀ z ∈ zs, 1 ≤ z ∧ z ≤ n)), ?_, ?_⟩
    · walk_at "hs"
      obtain ⟨ny, ⟨h1, h2⟩ | ⟨a, xs, rfl, ea, hk, hl⟩⟩ := oy
      · refine notTup_isi I nt ⟨h1, h2⟩ ?_
        walk_at "hs"
        exact ⟨false, rfl, Same.refl _, .inl ⟨rfl, .inl ⟨h1, h2⟩⟩⟩
      have sa : SqT K G a xs := .of ea
      have bad : ∀ {G2 : Hp}, Same G G2 → ¬ (∃ zs, xs = nats zs ∧ IsOrd n zs) → BadOrd Z G2 n (.ref a) := fun {G2} s no => .inr ⟨a, xs, rfl, s _ _ ea, fun y hy => ((hk y hy).1).same s, hl, no⟩
      walk_at "hs"
      refine x_isd (fun c => ?_) (fun c => ?_)
      · walk_at "hs"
        refine ⟨a, rfl, ⟨_, sa⟩, fun R nR => ?_⟩
        refine lc_tup (K := K) (xs := xs) (fun i G2 => Same G G2 ∧ G2 R = some (.lst (((xs.take i).map (numV 1 n)).map V.bl))) ⟨same_new (Same.refl _) nR, upd_same⟩ (fun i G2 _ h => h.1.seqT sa) ?_ ?_
        · rintro i v G2 hv ⟨s1, eR⟩
          have kv := (hk v (List.mem_of_getElem? hv)).1.same s1
          walk_at "hs"
          refine ⟨rfl, ?_⟩
          walk_at "hs"
          refine ⟨v, 1, (n : Nat), rfl, kv, ?_⟩
          refine ⟨_, eR, by rw [List.length_map, List.length_map]; exact szLt (by have := List.length_take_le' i xs; omega), same_mut s1 nR, ?_⟩
          rw [upd_same, take_snoc hv, List.map_append, List.map_append]
          rfl
        rintro G2 ⟨s1, eR⟩
        rw [List.take_length] at eR
        walk_at "hs"
        refine ⟨R, _, rfl, .of eR, ?_⟩
        walk_at "hs"
        cases al : (xs.map (numV 1 n)).all id with
        | false =>
          refine ⟨false, rfl, s1, .inl ⟨rfl, bad s1 ?_⟩⟩
          rintro ⟨zs, rfl, o⟩
          have : ((nats zs).map (numV 1 n)).all id = true := List.all_eq_true.mpr fun b hb => by
            obtain ⟨v, hv, rfl⟩ := List.mem_map.mp hb
            obtain ⟨z, hz, rfl⟩ := List.mem_map.mp hv
            have := o.mem.mp hz
            show (decide ((1 : Int) ≤ (z : Nat)) && decide (((z : Nat) : Int) ≤ n)) = true
            rw [decide_eq_true (by omega), decide_eq_true (by omega)]
            rfl
          rw [this] at al
          cases al
        | true =>
          have good : ∀ y ∈ xs, numV 1 n y = true := fun y hy => by
            rw [List.all_eq_true] at al
            exact al _ (List.mem_map.mpr ⟨y, hy, rfl⟩)
          obtain ⟨zs, rfl, hz⟩ : ∃ zs : List Nat, xs = nats zs ∧ ∀ z ∈ zs, 1 ≤ z ∧ z ≤ n := by
            clear bad sa eR al hk hl c ea
            induction xs with
            | nil => exact ⟨[], rfl, fun z h => nomatch h⟩
            | cons v xs ih =>
              obtain ⟨zs, rfl, hz⟩ := ih fun y hy => good y (List.mem_cons_of_mem _ hy)
              obtain ⟨k, rfl, k1, k2⟩ := numV_nat (lo := 1) (good v List.mem_cons_self)
              refine ⟨k :: zs, rfl, fun z h => ?_⟩
              rcases List.mem_cons.mp h with rfl | h
              · exact ⟨k1, k2⟩
              · exact hz z h
          rw [nats_length] at c
          exact ⟨true, rfl, s1, .inr ⟨rfl, a, zs, rfl, s1 _ _ ea, by omega, hz⟩⟩
      · walk_at "hs"
        refine ⟨false, rfl, Same.refl _, .inl ⟨rfl, bad (Same.refl _) ?_⟩⟩
        rintro ⟨zs, rfl, o⟩
        rw [nats_length] at c
        exact c (by have := o.len; omega)
    rintro σ' G2 ⟨r1, rfl, s1, cl⟩
    replace tr := tr.same s1
    replace tb := tb.ext s1
    replace pp := pp.same s1
    replace bc := bc.trans (BuN.of (But.of s1))
    clear s1 oy eO
    refine ⟨fun σ' G3 => ∃ r, σ' = [some (.ref p), some (.ref x), some (.int n), some (.ref O), some (.int d), some (.ref L3), some y, some (.bl r), none] ∧ Same G2 G3 ∧ OrdW K Z G3 n y r, ?_, ?_⟩
    · walk_at "hs"
      rcases cl with ⟨rfl, bo⟩ | ⟨rfl, a, zs, rfl, ea, zl, hz⟩
      · walk_at "hs"
        exact ⟨false, rfl, Same.refl _, .inr ⟨rfl, bo⟩⟩
      · walk_at "hs"
        have sa : SqT K G2 a (nats zs) := .of ea
        refine x_sortT (ns := zs.map fun (k : Nat) => (k : Int)) (by rw [nats_ints]; exact sa) (by rw [List.length_map]; omega) fun ws q0 hz2 hp nz => ?_
        obtain ⟨wl, rfl⟩ : ∃ wl : List Nat, ws = wl.map fun (k : Nat) => (k : Int) := by
          refine ⟨ws.map Int.toNat, ?_⟩
          rw [List.map_map]
          have hpos : ∀ z ∈ ws, ((fun (k : Nat) => (k : Int)) ∘ Int.toNat) z = id z := fun z hzm => by
            obtain ⟨k, _, rfl⟩ := List.mem_map.mp (hz2.mem_iff.mp hzm)
            rfl
          rw [List.map_congr_left hpos, List.map_id]
        rw [nats_ints]
        have idm : ∀ l : List Nat, (l.map fun (k : Nat) => (k : Int)).map Int.toNat = l := fun l => by
          rw [List.map_map, show (Int.toNat ∘ fun (k : Nat) => (k : Int)) = id from funext fun k => Int.toNat_natCast k]
          exact List.map_id l
        have pz : wl.Perm zs := by
          have h2 := hz2.map Int.toNat
          rwa [idm, idm] at h2
        have s1 : Same G2 (upd G2 q0 (.lst (nats wl))) := same_new (Same.refl _) nz
        have e1 : upd G2 q0 (.lst (nats wl)) q0 = some (.lst (nats wl)) := upd_same
        generalize upd G2 q0 (.lst (nats wl)) = G3 at s1 e1 ⊢
        walk_at "hs"
        refine ⟨⟨by omega, by omega, by omega, by omega, by omega⟩, fun q2 nq2 => ?_⟩
        rw [rgV_nats]
        refine x_eqLst (.of (keepN e1 nq2)) (.of upd_same) ?_
        have s2 : Same G3 (upd G3 q2 (.lst (nats (List.range' 1 n)))) := same_new (Same.refl _) nq2
        generalize upd G3 q2 (.lst (nats (List.range' 1 n))) = G4 at s2 ⊢
        have s12 := s1.trans s2
        walk_at "hs"
        refine ⟨decide (wl = List.range' 1 n), rfl, s12, ?_⟩
        by_cases c : wl = List.range' 1 n
        · refine .inl ⟨decide_eq_true c, a, zs, rfl, .of (s12 _ _ ea), ?_⟩
          show zs.Perm _
          rw [← c]
          exact pz.symm
        · refine .inr ⟨decide_eq_false c, .inr ⟨a, _, rfl, s12 _ _ ea, fun y hy => ?_, by rw [nats_length]; omega, ?_⟩⟩
          · obtain ⟨k, _, rfl⟩ := List.mem_map.mp hy
            exact trivial
          · rintro ⟨ms2, e2, o⟩
            have em : zs = ms2 := by
              have := congrArg (List.map fun v => match v with | V.int i => i.toNat | _ => 0) e2
              unfold nats at this
              rw [List.map_map, List.map_map] at this
              have id2 : ∀ l : List Nat, l.map ((fun v => match v with | V.int i => i.toNat | _ => 0) ∘ fun (k : Nat) => V.int (k : Nat)) = l := fun l => (List.map_congr_left fun x _ => rfl).trans (List.map_id l)
              exact (id2 zs).symm.trans (this.trans (id2 ms2))
            subst em
            have so := sorted_ord o hz2 hp
            rw [nats_ints] at so
            have := congrArg (List.map fun v => match v with | V.int i => i.toNat | _ => 0) so
            unfold nats at this
            rw [List.map_map, List.map_map] at this
            have id2 : ∀ l : List Nat, l.map ((fun v => match v with | V.int i => i.toNat | _ => 0) ∘ fun (k : Nat) => V.int (k : Nat)) = l := fun l => (List.map_congr_left fun x _ => rfl).trans (List.map_id l)
            exact c ((id2 wl).symm.trans (this.trans (id2 _)))
    rintro σ' G3 ⟨r, rfl, s3, ow⟩
    replace tr := tr.same s3
    replace tb := tb.ext s3
    replace pp := pp.same s3
    replace bc := bc.trans (BuN.of (But.of s3))
    clear s3 cl
    walk_at "hs"
    refine x_lam tb fun G4 eN T4 => ?_
    have tr4 := tr.ext eN
    have ow4 := ow.ext eN
    unfold TTw
    walk_at "hs"
    refine wp_called (Q := fun u G5 => tIf (tB (tVar 7)) (tC (.str "let")) (tC (.str "order")) [some (.ref p), some (.ref x), some (.int n), some (.ref O), some (.int d), some (.ref L3), some y, some (.bl r), none] G5 fun z G6 => rEq u z G6 Q) tr4 it (hn ▸ ow4) fun G5 s5 => ?_
    have fin : Q (.bl true) G5 := q G5 (bc.trans ((BuN.ext eN).trans (BuN.of (But.of s5)))) ((pp.ext eN).same s5) (T4.ext s5)
    cases r with
    | true =>
      walk_at "hs"
      rw [if_pos rfl, decide_eq_true rfl]
      exact fin
    | false =>
      walk_at "hs"
      rw [if_neg Bool.false_ne_true, decide_eq_true rfl]
      exact fin
end
set_option maxRecDepth 100000
set_option maxHeartbeats 4000000
open PySem PySem.Spec L2 LamX


theorem sc__law_views_refused : FnScope ["_law_pool_here", "_law_tree", "_law_place", "_law_is_place", "_law_item", "_law_things", "_law_view", "_law_right", "_law_due", "_law_other", "_law_words", "_law_number", "_law_one"] ["_law_pool_here", "_law_tree", "_law_place", "_law_is_place"] (defScope s__law_views_refused) := ⟨rfl, rfl, rfl, by decide +kernel, rfl, by decide +kernel, by decide +kernel⟩
theorem up_snoc {hs : List Nat} {k : Nat} (h : k ≤ hs.length) : up (hs ++ [0]) k = up hs k := by
  unfold up
  split
  · rfl
  · rw [List.getD_eq_getElem?_getD, List.getD_eq_getElem?_getD, List.getElem?_append_left (by omega)]
theorem upN_snoc {hs : List Nat} (le : ∀ x ∈ hs, x ≤ hs.length) : ∀ j k, k ≤ hs.length → upN (hs ++ [0]) j k = upN hs j k
  | 0, _, _ => rfl
  | j + 1, k, h => by
    show upN (hs ++ [0]) j (up (hs ++ [0]) k) = upN hs j (up hs k)
    rw [up_snoc h]
    exact upN_snoc le j _ (up_le le k)
theorem IsTree.snoc {hs : List Nat} (t : IsTree hs) (h : hs.length < 40) : IsTree (hs ++ [0]) := by
  have l1 : (hs ++ [0]).length = hs.length + 1 := by rw [List.length_append]; rfl
  refine ⟨by omega, by omega, fun x hx => ?_, fun k hk => ?_⟩
  · rcases List.mem_append.mp hx with h | h
    · have := t.le x h
      omega
    · rw [List.mem_singleton.mp h]
      exact Nat.zero_le _
  · rw [l1] at hk ⊢
    by_cases c : k ≤ hs.length
    · rw [upN_snoc t.le _ _ c]
      exact upN_more (t.comes k c) (by omega)
    · have e : k = hs.length + 1 := by omega
      subst e
      show upN (hs ++ [0]) hs.length (up (hs ++ [0]) (hs.length + 1)) = 0
      have : up (hs ++ [0]) (hs.length + 1) = 0 := by
        unfold up
        rw [if_neg (by omega), List.getD_eq_getElem?_getD, Nat.add_sub_cancel, List.getElem?_append_right (Nat.le_refl _), Nat.sub_self]
        rfl
      rw [this]
      exact upN_zero _ _
theorem ne_treesW {Z : Ad} {H : Hp} {Q : VK} {a b : Addr} {hs gs : List Nat} (h1 : TreeAt Z H a hs) (h2 : TreeAt Z H b gs) (q : Q (.bl (!decide (hs = gs))) H) : rOwnN Z.a_Tree (spEqT Z) (.ref a) (.ref b) H Q := by
  obtain ⟨dx, t, ha, ht⟩ := id h1
  obtain ⟨dy, u, hb, hu⟩ := id h2
  exact ⟨a, b, dx, dy, _, _, rfl, rfl, ha, hb, a, b, hs, rfl, h1, .inl ⟨gs, h2, _, rfl, q⟩⟩
theorem x_neStr2 {K : PySem.W.Frag} {H : Hp} {Q : VK} {a b : Addr} {s t : Str} (os : PyData.strOk s = true) (ot : PyData.strOk t = true) (h1 : SqL K H a [.str s, .str t]) (h2 : SqL K H b [.str s, .str t]) (q : Q (.bl false) H) : rNeD K (.ref a) (.ref b) H Q := by
  have e : PyData.eqv (.list [.str s, .str t]) (.list [.str s, .str t]) = true := by
    simp [PyData.eqv, PyData.eqvAll]
  have sh : SeqAt.shaped (.list [.str s, .str t]) = true := by
    show (PyData.canLayAll0 [.str s, .str t] && decide (PyData.depthAll [.str s, .str t] + 1 ≤ 64)) = true
    simp [PyData.canLayAll0, PyData.canLay0, PyData.depthAll, PyData.depth, os, ot]
  refine ⟨.list [.str s, .str t], .list [.str s, .str t], .lst h1 (.cons (.str _) (.cons (.str _) .nil)), .lst h2 (.cons (.str _) (.cons (.str _) .nil)), sh, sh, ?_⟩
  rw [e]
  exact q
theorem tw {Z : Ad} {H : Hp} {Q : VK} {sp : Sp} {vs : List V} {tl : XK → Hp → VK → Prop} (h : ∀ Q' E', sp vs H Q' E' → tl E' H Q') (g : sp vs H (QL Q) (EL Z Q)) : TTw Z tl H Q := h _ _ g
theorem KnP.bun {p : Addr} {H H' : Hp} {y : V} (b : BuN p H H') (k : KnP p H y) : KnP p H' y := by
  obtain ⟨k, ne⟩ := k
  refine ⟨?_, ne⟩
  cases y with
  | ref a =>
    have na : a ≠ p := fun z => ne (by rw [z])
    rcases k with ⟨xs, h⟩ | ⟨xs, h⟩ | ⟨xs, h⟩
    · exact .inl ⟨xs, b _ _ na h (fun _ z => by cases z)⟩
    · exact .inr (.inl ⟨xs, b _ _ na h (fun _ z => by cases z)⟩)
    · exact .inr (.inr ⟨xs, b _ _ na h (fun _ z => by cases z)⟩)
  | _ => exact k
theorem TreeAt.bun {Z : Ad} {H H' : Hp} {p x : Addr} {F : Addr → Prop} {hs : List Nat} (hp : PoolAt H p F) (b : BuN p H H') (t : TreeAt Z H x hs) : TreeAt Z H' x hs := by
  obtain ⟨dx, u, h1, h2⟩ := t
  obtain ⟨ls, el⟩ := hp.lst
  exact ⟨dx, u, b _ _ (fun z => by rw [z, el] at h1; cases h1) h1 (fun _ z => by cases z), b _ _ (fun z => by rw [z, el] at h2; cases h2) h2 (fun _ z => by cases z)⟩
theorem NotTup.bun {Z : Ad} {H H' : Hp} {p : Addr} {F : Addr → Prop} {v : V} (hp : PoolAt H p F) (b : BuN p H H') (ne : v ≠ .ref p) (n : NotTup Z H v) : NotTup Z H' v := by
  obtain ⟨h1, h2⟩ := n
  refine ⟨fun a xs ev => ?_, h2.imp (fun k => (KnP.bun b ⟨k, ne⟩).1) fun ⟨x, hs, e, t⟩ => ⟨x, hs, e, t.bun hp b⟩⟩
  subst ev
  have na : a ≠ p := fun z => ne (by rw [z])
  rcases h2 with (⟨ys, h⟩ | ⟨ys, h⟩ | ⟨ys, h⟩) | ⟨x, hs, ex, t⟩
  · exact keep_not h (fun _ z => by cases z) (b _ _ na h (fun _ z => by cases z)) xs
  · exact (h1 a ys rfl h).elim
  · exact keep_not h (fun _ z => by cases z) (b _ _ na h (fun _ z => by cases z)) xs
  · cases ex
    obtain ⟨dx, u, k1, k2⟩ := t
    exact keep_not k1 (fun _ z => by cases z) (b _ _ na k1 (fun _ z => by cases z)) xs
theorem OrP.bun {Z : Ad} {p : Addr} {H H' : Hp} {F : Addr → Prop} {v : V} (hp : PoolAt H p F) (b : BuN p H H') (h : OrP Z p H v) : OrP Z p H' v := by
  obtain ⟨ne, h⟩ := h
  exact ⟨ne, h.imp (fun n => NotTup.bun hp b ne n) fun ⟨a, xs, ev, ea, hk, hl⟩ => ⟨a, xs, ev, b _ _ (fun z => ne (by rw [ev, z])) ea (fun _ z => by cases z), fun y hy => (hk y hy).bun b, hl⟩⟩
theorem VwW.bun {Z : Ad} {p : Addr} {H H' : Hp} {F : Addr → Prop} {v : V} {r : Bool} (hp : PoolAt H p F) (b : BuN p H H') (o : OrP Z p H v) (w : VwW Z H v r) : VwW Z H' v r := by
  rcases w with ⟨rfl, u, d, a, rfl, ha, u4, d4⟩ | ⟨rfl, bv⟩
  · exact .inl ⟨rfl, u, d, a, rfl, b _ _ (fun z => hp.notTup _ (z ▸ ha)) ha (fun _ z => by cases z), u4, d4⟩
  · refine .inr ⟨rfl, ?_⟩
    obtain ⟨ne, n | ⟨a, xs, rfl, ea, hk, hl⟩⟩ := o
    · exact .inl (NotTup.bun hp b ne n)
    · have na : a ≠ p := fun z => ne (by rw [z])
      rcases bv with n | ⟨a2, ys, e, ea2, _, no⟩
      · exact (n.1 a xs rfl ea).elim
      · cases e
        rw [ea] at ea2
        cases ea2
        exact .inr ⟨a, xs, rfl, b _ _ na ea (fun _ z => by cases z), fun y hy => ((hk y hy).bun b).1, no⟩
structure StV (Z : Ad) (T : List (Addr × Str)) (p x : Addr) (y pl : V) (hs : List Nat) (r : Bool) (H G : Hp) : Prop where
  bc : BuN p H G
  pp : PoolAt G p (fun _ => False)
  tb : Tabs T G
  tr : TreeAt Z G x hs
  kl : KnP p G pl
  oy : OrP Z p G y
  vw : VwW Z G y r
theorem StV.step {Z : Ad} {T : List (Addr × Str)} {p x : Addr} {y pl : V} {hs : List Nat} {r : Bool} {H G G' : Hp} (s : StV Z T p x y pl hs r H G) (b : BuN p G G') (pp : PoolAt G' p (fun _ => False)) (tb : Tabs T G') : StV Z T p x y pl hs r H G' :=
  ⟨s.bc.trans b, pp, tb, s.tr.bun s.pp b, s.kl.bun b, s.oy.bun s.pp b, s.vw.bun s.pp b s.oy⟩
theorem StV.same {Z : Ad} {T : List (Addr × Str)} {p x : Addr} {y pl : V} {hs : List Nat} {r : Bool} {H G G' : Hp} (s : StV Z T p x y pl hs r H G) (e : Same G G') : StV Z T p x y pl hs r H G' := s.step (BuN.of (But.of e)) (s.pp.same e) (s.tb.ext e)
theorem StV.ext {Z : Ad} {T : List (Addr × Str)} {p x : Addr} {y pl : V} {hs : List Nat} {r : Bool} {H G G' : Hp} (s : StV Z T p x y pl hs r H G) (e : ExtN G G') (tb : Tabs T G') : StV Z T p x y pl hs r H G' := s.step (BuN.ext e) (s.pp.ext e) tb
theorem StV.pool {Z : Ad} {T : List (Addr × Str)} {p x : Addr} {y pl : V} {hs : List Nat} {r : Bool} {H G G' : Hp} (s : StV Z T p x y pl hs r H G) (b : But p G G') (pp : PoolAt G' p (fun _ => False)) : StV Z T p x y pl hs r H G' := s.step (BuN.of b) pp (Tabs.pool s.pp b s.tb)
theorem extN_of {H H' : Hp} (s : Same H H') : ExtN H H' := fun a o h _ => s a o h
theorem extN_trans {H H1 H' : Hp} (s : ExtN H H1) (t : ExtN H1 H') : ExtN H H' := fun a o h z => t a o (s a o h z) z
theorem BuN.updN {p W : Addr} {G G' : Hp} {o : HO} (b : ExtN G G') (n : G W = none) : BuN p G (upd G' W o) := fun a u _ h z => keepM (ne_of_none h n) (b a u h z)
theorem PoolAt.updN {p W : Addr} {G G' : Hp} {o : HO} (pp : PoolAt G p (fun _ => False)) (b : ExtN G G') (n : G W = none) : PoolAt (upd G' W o) p (fun _ => False) := by
  obtain ⟨⟨g, z, gs, ss, c, m, h1, h2, h3, r⟩, _⟩ := pp
  exact ⟨⟨g, z, gs, ss, c, m, keepM (ne_of_none h1 n) (b _ _ h1 (fun _ z => by cases z)), keepM (ne_of_none h2 n) (b _ _ h2 (fun _ z => by cases z)), keepM (ne_of_none h3 n) (b _ _ h3 (fun _ z => by cases z)), r⟩, fun a ha => ha.elim⟩
theorem tabs_updN {T : List (Addr × Str)} {W : Addr} {G : Hp} {o : HO} {ls : List V} (el : G W = some (.lst ls)) (t : Tabs T G) : Tabs T (upd G W o) := fun q hq => by
  obtain ⟨ps, h1, h2, h3⟩ := t q hq
  refine ⟨ps, keepM (fun z => by rw [z, el] at h1; cases h1) h1, h2, fun pos cv hc => ?_⟩
  obtain ⟨c, e1, e2⟩ := h3 pos cv hc
  exact ⟨c, e1, keepM (fun z => by rw [z, el] at e2; unfold CodeO at e2; cases e2) e2⟩
theorem StV.app {Z : Ad} {T : List (Addr × Str)} {p x : Addr} {y pl : V} {hs : List Nat} {r : Bool} {H G G' : Hp} {W : Addr} {o : HO} {ls : List V} (s : StV Z T p x y pl hs r H G) (b : ExtN G G') (n : G W = none) (t : Tabs T G') (e : G' W = some (.lst ls)) : StV Z T p x y pl hs r H (upd G' W o) := s.step (BuN.updN b n) (s.pp.updN b n) (tabs_updN e t)
section
variable {P : Program} {w : World} {K : PySem.W.Frag} {mg : Str → Option Value} {base : Heap} {Z : Ad}
def spVwRef (Z : Ad) (T : List (Addr × Str)) : Sp := fun vs H Q _ => ∃ (p x : Addr) (pl : V) (hs : List Nat), vs = [.ref p, .ref x, pl, .bl (numV 0 hs.length pl)] ∧ PoolAt H p (fun _ => False) ∧ TreeAt Z H x hs ∧ IsTree hs ∧ hs.length ≤ 8 ∧ KnP p H pl ∧ Tabs T H ∧ ∀ H', BuN p H H' → PoolAt H' p (fun _ => False) → Tabs T H' → Q (.bl true) H'
theorem ok_vwRef {T : List (Addr × Str)} {f c PT : Addr} {fd : FuncData} (F : FunC K "_law_views_refused" s__law_views_refused f fd c) (B : Bl Z mg) (I : IsC K Z.a_Tree) (nt : PySem.W.kitOne K (.ref Z.a_Tree) (.type "tuple") = some false) (Tc : Cls K Z.a_Tree) (N : NoAttr K Z.a_Tree "hung") (EK : ∀ i, i < 7 → ErrK K Z i) (TB : TabB base mg c PT)
    (inT : (PT, (PyProof.Rows.envOfC "_law_views_refused" (defScope s__law_views_refused) 0 f (.ref c)).qual ++ "<lambda>") ∈ T) (uni : ∀ q ∈ T, q.1 = PT → q.2 = (PyProof.Rows.envOfC "_law_views_refused" (defScope s__law_views_refused) 0 f (.ref c)).qual ++ "<lambda>")
    {f_w : Addr} {fd_w : FuncData} (Fw : Fun K "_law_word" "_law_word" s__law_word f_w fd_w) (C__law_word : Cal K mg "_law_word" f_w fd_w ["_law_call"])
    {f__law_draw : Addr} {fd__law_draw : FuncData} (C__law_draw : Cal K mg "_law_draw" f__law_draw fd__law_draw ["_law_pool_here", "_law_many"]) (G__law_draw : FnOk P w K mg base CX0 1 f__law_draw fd__law_draw ["_law_pool_here", "_law_many"] spDraw)
    {f__law_odd : Addr} {fd__law_odd : FuncData} (C__law_odd : Cal K mg "_law_odd" f__law_odd fd__law_odd ["_law_pool_here", "_law_most"]) (G__law_odd : FnOk P w K mg base CX0 3 f__law_odd fd__law_odd ["_law_pool_here", "_law_most"] spOdd)
    {f__law_deep : Addr} {fd__law_deep : FuncData} (C__law_deep : Cal K mg "_law_deep" f__law_deep fd__law_deep []) (G__law_deep : FnOk P w K mg base CX0 1 f__law_deep fd__law_deep [] (spDeep K))
    {f__law_pick : Addr} {fd__law_pick : FuncData} (C__law_pick : Cal K mg "_law_pick" f__law_pick fd__law_pick ["_law_pool_here", "_law_things"]) (G__law_pick : FnOk P w K mg base CX0 2 f__law_pick fd__law_pick ["_law_pool_here", "_law_things"] (spPick K))
    {f__law_is_number : Addr} {fd__law_is_number : FuncData} (C__law_is_number : Cal K mg "_law_is_number" f__law_is_number fd__law_is_number ["_law_thing", "_law_least", "_law_most"]) (G__law_is_number : FnOk P w K mg base CX0 1 f__law_is_number fd__law_is_number ["_law_thing", "_law_least", "_law_most"] (spNum 0))
    {f_telling : Addr} {fd_telling : FuncData} (C_telling : Cal K mg "telling" f_telling fd_telling ["tree", "view", "place"]) (G_telling : FnOk P w K mg base (L2N.CX P w) 6 f_telling fd_telling ["tree", "view", "place"] (spTellW Z))
    {f_unlike : Addr} {fd_unlike : FuncData} (C_unlike : Cal K mg "unlike" f_unlike fd_unlike ["tree", "other", "view"]) (G_unlike : FnOk P w K mg base (L2N.CX P w) 7 f_unlike fd_unlike ["tree", "other", "view"] (spUnlikeW Z))
    {f_distance : Addr} {fd_distance : FuncData} (C_distance : Cal K mg "distance" f_distance fd_distance ["view"]) (G_distance : FnOk P w K mg base (L2N.CX P w) 3 f_distance fd_distance ["view"] (spDistW Z))
    {f_twins : Addr} {fd_twins : FuncData} (C_twins : Cal K mg "twins" f_twins fd_twins ["view", "blocks"]) (G_twins : FnOk P w K mg base (L2N.CX P w) 5 f_twins fd_twins ["view", "blocks"] (spTwinsW Z))
    {f_Tree___init__ : Addr} {fd_Tree___init__ : FuncData} (C_Tree___init__ : CalM K f_Tree___init__ fd_Tree___init__ ["self", "hung"]) (G_Tree___init__ : FnOk P w K mg base (L2.CX P w) 3 f_Tree___init__ fd_Tree___init__ ["self", "hung"] (spTree Z)) (M_Tree : Mk K Z.a_Tree f_Tree___init__)
    {f_Tree___eq__ : Addr} {fd_Tree___eq__ : FuncData} (C_Tree___eq__ : CalM K f_Tree___eq__ fd_Tree___eq__ ["self", "other"]) (G_Tree___eq__ : FnOk P w K mg base CX0 1 f_Tree___eq__ fd_Tree___eq__ ["self", "other"] (spEqT Z)) (N_Tree : OwnN K Z.a_Tree f_Tree___eq__) : FnOk P w K mg base CX0 11 f fd ["_law_pool_here", "_law_tree", "_law_place", "_law_is_place"] (spVwRef Z T) := by
  obtain ⟨oc, od, kV, doc, pm, an, cdv, ct, osl, rfl, LW, CW⟩ := Fw.ex
  refine F.ok sc__law_views_refused (fun vs H Q E h => ?_) (fun A outer s H vs Q E hr h => ?_)
  · obtain ⟨p, x, pl, hs, rfl, _⟩ := h
    rfl
  · obtain ⟨p, x, pl, hs, rfl, pp, tr, it, n8, kl, tb, q⟩ := h
    have n1 := it.pos
    refine ⟨_, (pss_cons (ps_set (i := 4) sc__law_views_refused.nd rfl (Or.inl rfl) (pe_call G__law_odd (hr.mono (by first | decide | omega)) (by rfl) C__law_odd.g C__law_odd.k C__law_odd.b .nil pass0 (pa_cons (pv 0) (pa_cons pe_int pa_nil))))
 (pss_cons (ps_set (i := 5) sc__law_views_refused.nd rfl (Or.inl rfl) (pe_lst (pa_cons (pe_tup (pa_cons (pv 4) (pa_cons pe_int pa_nil))) (pa_cons (pe_tup (pa_cons pe_int (pa_cons (pv 4) pa_nil))) (pa_cons (pe_tup (pa_cons pe_int pa_nil)) (pa_cons (pe_tup (pa_cons pe_int (pa_cons pe_int (pa_cons pe_int pa_nil)))) (pa_cons (pe_lst (pa_cons pe_int (pa_cons pe_int pa_nil))) (pa_cons pe_non (pa_cons pe_int (pa_cons pe_str (pa_cons pe_dnewK (pa_cons (pe_call0 G__law_deep (hr.mono (by first | decide | omega)) (by rfl) C__law_deep.g C__law_deep.k C__law_deep.b .nil pass0) (pa_cons (pv 1) (pa_cons (pe_tup (pa_cons pe_int (pa_cons pe_int pa_nil))) (pa_cons (pe_tup (pa_cons pe_int (pa_cons pe_int pa_nil))) pa_nil)))))))))))))))
 (pss_cons (ps_set (i := 6) sc__law_views_refused.nd rfl (Or.inr rfl) (pe_call G__law_pick (hr.mono (by first | decide | omega)) (by rfl) C__law_pick.g C__law_pick.k C__law_pick.b .nil pass0 (pa_cons (pv 0) (pa_cons (pv 5) pa_nil))))
 (C8.pss_cut (ps_set (i := 7) sc__law_views_refused.nd rfl (Or.inl rfl) (pe_and (pe_callB (call_isiK' (K := K) rfl) (by rfl) B.b_isinstance (by decide +kernel) (pa_cons (pv 6) (pa_cons (pe_bltn (v := .ty "tuple") (by rfl) B.b_tuple (by decide +kernel) rfl) pa_nil))) (pe_and (pe_cmpR op_eq (pe_callB (call_lenK (K := K) rfl) (by rfl) B.b_len PySem.boot_len (pa_cons (pv 6) pa_nil)) pe_int (nomark _)) (pe_one (pe_callB (cr_allK (K := K) rfl rfl) (by rfl) B.b_all (by decide +kernel) (pa_cons (pe_lc (own := [("_law_one", 12)]) rfl sc__law_views_refused.nd (pi_tup (pv 6)) (blkOk_by (N := ["_law_pool_here", "_law_tree", "_law_place", "_law_is_place", "_law_item", "_law_things", "_law_view", "_law_right", "_law_due", "_law_other", "_law_words", "_law_number", "_law_one"]) (sc := defScope s__law_views_refused) (by decide +kernel)) (fun _ _ _ _ _ => (pg_name (i := 12) sc__law_views_refused.nd rfl (Or.inl rfl))) (fun _ _ _ _ _ => pts_nil) (fun _ _ _ _ _ => (pe_call G__law_is_number (hr.mono (by first | decide | omega)) (by rfl) C__law_is_number.g C__law_is_number.k C__law_is_number.b .nil pass0 (pa_cons (pv 12) (pa_cons pe_int (pa_cons pe_int pa_nil)))))) pa_nil))))))
 (C8.pss_cut (ps_set (i := 8) sc__law_views_refused.nd rfl (Or.inl rfl) (pe_ifExp (pt_not (pt_val (pv 7))) pe_str (pe_ifExp (pt_val (pv 3)) pe_str pe_str)))
 (C8.pss_cut (ps_if (pt_cmpR op_ne (LamN.calls (T := T) (TT := TTw Z) (k := 7) (by rfl) C__law_word.g C__law_word.k LW CW C__law_word.b sc__law_word rfl (Or.inl rfl) (word_gives rfl B EK) TB rfl inT uni (hr.mono (by first | decide | omega)) (LamX.lamS_by (sc := defScope s__law_views_refused) (by decide +kernel)) rfl (fun _ _ _ _ _ => rfl) (fun _ _ _ _ E2 _ _ hr2 => (pe_call (E := E2) G_telling (hr2.mono (by first | decide | omega)) (by rfl) C_telling.g C_telling.k C_telling.b .nil passLam (pa_cons (pv 1) (pa_cons (pv 6) (pa_cons (pv 2) pa_nil)))))) (pv 8) (nomark _)) (pss_one (ps_ret pe_bl)) pss_nil)
 (C8.pss_cut (ps_set (i := 9) sc__law_views_refused.nd rfl (Or.inr rfl) (pe_ifExp (pt_cmpR op_eq (pe_call G__law_draw (hr.mono (by first | decide | omega)) (by rfl) C__law_draw.g C__law_draw.k C__law_draw.b .nil pass0 (pa_cons (pv 0) (pa_cons pe_int pa_nil))) pe_int (nomark _)) (pe_make M_Tree G_Tree___init__ (hr.mono (by first | decide | omega)) (by rfl) B.k_Tree C_Tree___init__.b .nil passE (pa_cons (pe_op (op_catAK (K := K) rfl) (pe_fldK (K := K) rfl (pv 1) rfl) (pe_tup (pa_cons pe_int pa_nil))) pa_nil)) (pv 1)))
 (C8.pss_cut (ps_set (i := 8) sc__law_views_refused.nd rfl (Or.inl rfl) (pe_ifExp (pt_cmpR (op_ownN N_Tree G_Tree___eq__ C_Tree___eq__.b (hr.mono (by first | decide | omega))) (pv 9) (pv 1) (nomark _)) pe_str (pe_ifExp (pt_val (pv 7)) pe_str pe_str)))
 (pss_cons (ps_set (i := 10) sc__law_views_refused.nd rfl (Or.inl rfl) (pe_lst (pa_cons (LamN.calls (T := T) (TT := TTw Z) (k := 7) (by rfl) C__law_word.g C__law_word.k LW CW C__law_word.b sc__law_word rfl (Or.inl rfl) (word_gives rfl B EK) TB rfl inT uni (hr.mono (by first | decide | omega)) (LamX.lamS_by (sc := defScope s__law_views_refused) (by decide +kernel)) rfl (fun _ _ _ _ _ => rfl) (fun _ _ _ _ E2 _ _ hr2 => (pe_call (E := E2) G_unlike (hr2.mono (by first | decide | omega)) (by rfl) C_unlike.g C_unlike.k C_unlike.b .nil passLam (pa_cons (pv 1) (pa_cons (pv 9) (pa_cons (pv 6) pa_nil)))))) pa_nil)))
 (pss_cons (ps_expr (pe_bmK (K := K) rfl PySem.F.plainAttrs_list PySem.F.slot_list_append PySem.F.type_list_append mt_append (pv 10) (pa_cons (LamN.calls (T := T) (TT := TTw Z) (k := 7) (by rfl) C__law_word.g C__law_word.k LW CW C__law_word.b sc__law_word rfl (Or.inl rfl) (word_gives rfl B EK) TB rfl inT uni (hr.mono (by first | decide | omega)) (LamX.lamS_by (sc := defScope s__law_views_refused) (by decide +kernel)) rfl (fun _ _ _ _ _ => rfl) (fun _ _ _ _ E2 _ _ hr2 => (pe_call (E := E2) G_unlike (hr2.mono (by first | decide | omega)) (by rfl) C_unlike.g C_unlike.k C_unlike.b .nil passLam (pa_cons (pv 9) (pa_cons (pv 1) (pa_cons (pv 6) pa_nil)))))) pa_nil)))
 (pss_cons (ps_if (pt_cmpR (op_neDK (K := K) rfl hr.units) (pv 10) (pe_lst (pa_cons (pv 8) (pa_cons (pv 8) pa_nil))) (nomark _)) (pss_one (ps_ret pe_bl)) pss_nil)
 (C8.pss_cut (ps_if (pt_cmpR op_ne (LamN.calls (T := T) (TT := TTw Z) (k := 7) (by rfl) C__law_word.g C__law_word.k LW CW C__law_word.b sc__law_word rfl (Or.inl rfl) (word_gives rfl B EK) TB rfl inT uni (hr.mono (by first | decide | omega)) (LamX.lamS_by (sc := defScope s__law_views_refused) (by decide +kernel)) rfl (fun _ _ _ _ _ => rfl) (fun _ _ _ _ E2 _ _ hr2 => (pe_call (E := E2) G_distance (hr2.mono (by first | decide | omega)) (by rfl) C_distance.g C_distance.k C_distance.b .nil passLam (pa_cons (pv 6) pa_nil)))) (pe_ifExp (pt_val (pv 7)) pe_str pe_str) (nomark _)) (pss_one (ps_ret pe_bl)) pss_nil)
 (pss_cons (ps_set (i := 11) sc__law_views_refused.nd rfl (Or.inr rfl) (pe_call G__law_pick (hr.mono (by first | decide | omega)) (by rfl) C__law_pick.g C__law_pick.k C__law_pick.b .nil pass0 (pa_cons (pv 0) (pa_cons (pe_lst (pa_cons (pe_call G__law_odd (hr.mono (by first | decide | omega)) (by rfl) C__law_odd.g C__law_odd.k C__law_odd.b .nil pass0 (pa_cons (pv 0) (pa_cons pe_int pa_nil))) (pa_cons pe_int (pa_cons pe_int (pa_cons pe_int (pa_cons pe_int pa_nil)))))) pa_nil))))
 (C8.pss_cut (ps_set (i := 8) sc__law_views_refused.nd rfl (Or.inl rfl) (pe_ifExp (pt_not (pt_val (pv 7))) pe_str (pe_ifExp (pt_val (pe_call G__law_is_number (hr.mono (by first | decide | omega)) (by rfl) C__law_is_number.g C__law_is_number.k C__law_is_number.b .nil pass0 (pa_cons (pv 11) (pa_cons pe_int (pa_cons pe_int pa_nil))))) pe_str pe_str)))
 (pss_one (ps_ret (pe_cmpR op_eq (LamN.calls (T := T) (TT := TTw Z) (k := 7) (by rfl) C__law_word.g C__law_word.k LW CW C__law_word.b sc__law_word rfl (Or.inl rfl) (word_gives rfl B EK) TB rfl inT uni (hr.mono (by first | decide | omega)) (LamX.lamS_by (sc := defScope s__law_views_refused) (by decide +kernel)) rfl (fun _ _ _ _ _ => rfl) (fun _ _ _ _ E2 _ _ hr2 => (pe_call (E := E2) G_twins (hr2.mono (by first | decide | omega)) (by rfl) C_twins.g C_twins.k C_twins.b .nil passLam (pa_cons (pv 6) (pa_cons (pv 11) pa_nil))))) (pv 8) (nomark _)))))))))))))))))), ?_⟩
    walk_at "h0"
    have bc : BuN p H H := fun _ _ _ e _ => e
    have xp : x ≠ p := fun z => by
      obtain ⟨dx, u, k1, _⟩ := tr
      obtain ⟨ls, el⟩ := pp.lst
      rw [z, el] at k1
      cases k1
    refine ⟨p, 4, _, rfl, pp, fun v H1 kv nv b1 p1 => ?_⟩
    replace tr := tr.pool pp b1
    replace kl := kl.pool b1
    replace tb := Tabs.pool pp b1 tb
    replace bc := bc.trans (BuN.of b1)
    replace pp := p1
    clear b1 p1
    have kp : KnP p H1 v := ⟨kv, nv⟩
    clear kv nv
    walk_at "hs"
    intro A1 nA1
    have st : Same H1 (upd H1 A1 (.tup [v, .int 1])) := same_new (Same.refl _) nA1
    have eA1 : upd H1 A1 (.tup [v, .int 1]) A1 = some (.tup [v, .int 1]) := upd_same
    generalize upd H1 A1 (.tup [v, .int 1]) = H2 at st eA1 ⊢
    have A1p : A1 ≠ p := pp.ne nA1
    replace tr := tr.same st
    replace kl := kl.same st
    replace tb := tb.ext st
    replace bc := bc.trans (BuN.of (But.of st))
    replace pp := pp.same st
    replace kp := kp.same st
    clear st
    have g1 : OrP Z p H2 (.ref A1) := orP_tup eA1 (knP_app (knP_one kp) (knP_one knP_int)) (by simp) A1p
    clear eA1
    walk_at "hs"
    intro A2 nA2
    have st : Same H2 (upd H2 A2 (.tup [.int 1, v])) := same_new (Same.refl _) nA2
    have eA2 : upd H2 A2 (.tup [.int 1, v]) A2 = some (.tup [.int 1, v]) := upd_same
    generalize upd H2 A2 (.tup [.int 1, v]) = H3 at st eA2 ⊢
    have A2p : A2 ≠ p := pp.ne nA2
    replace tr := tr.same st
    replace kl := kl.same st
    replace tb := tb.ext st
    replace bc := bc.trans (BuN.of (But.of st))
    replace pp := pp.same st
    replace kp := kp.same st
    replace g1 := OrP.same st g1
    clear st
    have g2 : OrP Z p H3 (.ref A2) := orP_tup eA2 (knP_app (knP_one knP_int) (knP_one kp)) (by simp) A2p
    clear eA2
    walk_at "hs"
    intro A3 nA3
    have st : Same H3 (upd H3 A3 (.tup [.int 1])) := same_new (Same.refl _) nA3
    have eA3 : upd H3 A3 (.tup [.int 1]) A3 = some (.tup [.int 1]) := upd_same
    generalize upd H3 A3 (.tup [.int 1]) = H4 at st eA3 ⊢
    have A3p : A3 ≠ p := pp.ne nA3
    replace tr := tr.same st
    replace kl := kl.same st
    replace tb := tb.ext st
    replace bc := bc.trans (BuN.of (But.of st))
    replace pp := pp.same st
    replace kp := kp.same st
    replace g1 := OrP.same st g1
    replace g2 := OrP.same st g2
    clear st
    have g3 : OrP Z p H4 (.ref A3) := orP_tup eA3 (knP_one knP_int) (by simp) A3p
    clear eA3
    walk_at "hs"
    intro A4 nA4
    have st : Same H4 (upd H4 A4 (.tup [.int 1, .int 2, .int 0])) := same_new (Same.refl _) nA4
    have eA4 : upd H4 A4 (.tup [.int 1, .int 2, .int 0]) A4 = some (.tup [.int 1, .int 2, .int 0]) := upd_same
    generalize upd H4 A4 (.tup [.int 1, .int 2, .int 0]) = H5 at st eA4 ⊢
    have A4p : A4 ≠ p := pp.ne nA4
    replace tr := tr.same st
    replace kl := kl.same st
    replace tb := tb.ext st
    replace bc := bc.trans (BuN.of (But.of st))
    replace pp := pp.same st
    replace kp := kp.same st
    replace g1 := OrP.same st g1
    replace g2 := OrP.same st g2
    replace g3 := OrP.same st g3
    clear st
    have g4 : OrP Z p H5 (.ref A4) := orP_tup eA4 (knP_app (knP_one knP_int) (knP_app (knP_one knP_int) (knP_one knP_int))) (by simp) A4p
    clear eA4
    walk_at "hs"
    intro A5 nA5
    have st : Same H5 (upd H5 A5 (.lst [.int 1, .int 1])) := same_new (Same.refl _) nA5
    have eA5 : upd H5 A5 (.lst [.int 1, .int 1]) A5 = some (.lst [.int 1, .int 1]) := upd_same
    generalize upd H5 A5 (.lst [.int 1, .int 1]) = H6 at st eA5 ⊢
    have A5p : A5 ≠ p := pp.ne nA5
    replace tr := tr.same st
    replace kl := kl.same st
    replace tb := tb.ext st
    replace bc := bc.trans (BuN.of (But.of st))
    replace pp := pp.same st
    replace kp := kp.same st
    replace g1 := OrP.same st g1
    replace g2 := OrP.same st g2
    replace g3 := OrP.same st g3
    replace g4 := OrP.same st g4
    clear st
    have g5 : OrP Z p H6 (.ref A5) := orP_obj eA5 (.inl ⟨_, eA5⟩) (fun _ z => by cases z) A5p
    clear eA5
    walk_at "hs"
    intro Dd nDd
    have st : Same H6 (upd H6 Dd (.dK [])) := same_new (Same.refl _) nDd
    have eDd : upd H6 Dd (.dK []) Dd = some (.dK []) := upd_same
    generalize upd H6 Dd (.dK []) = H7 at st eDd ⊢
    have Ddp : Dd ≠ p := pp.ne nDd
    replace tr := tr.same st
    replace kl := kl.same st
    replace tb := tb.ext st
    replace bc := bc.trans (BuN.of (But.of st))
    replace pp := pp.same st
    replace kp := kp.same st
    replace g1 := OrP.same st g1
    replace g2 := OrP.same st g2
    replace g3 := OrP.same st g3
    replace g4 := OrP.same st g4
    replace g5 := OrP.same st g5
    clear st
    have g6 : OrP Z p H7 (.ref Dd) := orP_obj eDd (.inr (.inr ⟨_, eDd⟩)) (fun _ z => by cases z) Ddp
    clear eDd
    walk_at "hs"
    refine ⟨rfl, fun da dx H8 st nda eda _ => ?_⟩
    have dap : da ≠ p := pp.ne nda
    replace tr := tr.same st
    replace kl := kl.same st
    replace tb := tb.ext st
    replace bc := bc.trans (BuN.of (But.of st))
    replace pp := pp.same st
    replace kp := kp.same st
    replace g1 := OrP.same st g1
    replace g2 := OrP.same st g2
    replace g3 := OrP.same st g3
    replace g4 := OrP.same st g4
    replace g5 := OrP.same st g5
    replace g6 := OrP.same st g6
    clear st
    have g7 : OrP Z p H8 (.ref da) := orP_obj eda (.inl ⟨_, eda⟩) (fun _ z => by cases z) dap
    clear eda nda
    have g8 : OrP Z p H8 (.ref x) := orP_tree tr xp
    walk_at "hs"
    intro A6 nA6
    have st : Same H8 (upd H8 A6 (.tup [.int 4, .int 4])) := same_new (Same.refl _) nA6
    have eA6 : upd H8 A6 (.tup [.int 4, .int 4]) A6 = some (.tup [.int 4, .int 4]) := upd_same
    generalize upd H8 A6 (.tup [.int 4, .int 4]) = H9 at st eA6 ⊢
    have A6p : A6 ≠ p := pp.ne nA6
    replace tr := tr.same st
    replace kl := kl.same st
    replace tb := tb.ext st
    replace bc := bc.trans (BuN.of (But.of st))
    replace pp := pp.same st
    replace kp := kp.same st
    replace g1 := OrP.same st g1
    replace g2 := OrP.same st g2
    replace g3 := OrP.same st g3
    replace g4 := OrP.same st g4
    replace g5 := OrP.same st g5
    replace g6 := OrP.same st g6
    replace g7 := OrP.same st g7
    replace g8 := OrP.same st g8
    clear st
    have g9 : OrP Z p H9 (.ref A6) := orP_tup eA6 (knP_app (knP_one knP_int) (knP_one knP_int)) (by simp) A6p
    clear eA6
    walk_at "hs"
    intro A7 nA7
    have st : Same H9 (upd H9 A7 (.tup [.int 0, .int 0])) := same_new (Same.refl _) nA7
    have eA7 : upd H9 A7 (.tup [.int 0, .int 0]) A7 = some (.tup [.int 0, .int 0]) := upd_same
    generalize upd H9 A7 (.tup [.int 0, .int 0]) = H10 at st eA7 ⊢
    have A7p : A7 ≠ p := pp.ne nA7
    replace tr := tr.same st
    replace kl := kl.same st
    replace tb := tb.ext st
    replace bc := bc.trans (BuN.of (But.of st))
    replace pp := pp.same st
    replace kp := kp.same st
    replace g1 := OrP.same st g1
    replace g2 := OrP.same st g2
    replace g3 := OrP.same st g3
    replace g4 := OrP.same st g4
    replace g5 := OrP.same st g5
    replace g6 := OrP.same st g6
    replace g7 := OrP.same st g7
    replace g8 := OrP.same st g8
    replace g9 := OrP.same st g9
    clear st
    have g10 : OrP Z p H10 (.ref A7) := orP_tup eA7 (knP_app (knP_one knP_int) (knP_one knP_int)) (by simp) A7p
    clear eA7
    walk_at "hs"
    intro L3 nL3
    have st : Same H10 (upd H10 L3 (.lst [V.ref A1, .ref A2, .ref A3, .ref A4, .ref A5, .non, .int 0, .str "11", .ref Dd, .ref da, .ref x, .ref A6, .ref A7])) := same_new (Same.refl _) nL3
    have eL3 : upd H10 L3 (.lst [V.ref A1, .ref A2, .ref A3, .ref A4, .ref A5, .non, .int 0, .str "11", .ref Dd, .ref da, .ref x, .ref A6, .ref A7]) L3 = some (.lst [V.ref A1, .ref A2, .ref A3, .ref A4, .ref A5, .non, .int 0, .str "11", .ref Dd, .ref da, .ref x, .ref A6, .ref A7]) := upd_same
    generalize upd H10 L3 (.lst [V.ref A1, .ref A2, .ref A3, .ref A4, .ref A5, .non, .int 0, .str "11", .ref Dd, .ref da, .ref x, .ref A6, .ref A7]) = H11 at st eL3 ⊢
    have L3p : L3 ≠ p := pp.ne nL3
    replace tr := tr.same st
    replace kl := kl.same st
    replace tb := tb.ext st
    replace bc := bc.trans (BuN.of (But.of st))
    replace pp := pp.same st
    replace kp := kp.same st
    replace g1 := OrP.same st g1
    replace g2 := OrP.same st g2
    replace g3 := OrP.same st g3
    replace g4 := OrP.same st g4
    replace g5 := OrP.same st g5
    replace g6 := OrP.same st g6
    replace g7 := OrP.same st g7
    replace g8 := OrP.same st g8
    replace g9 := OrP.same st g9
    replace g10 := OrP.same st g10
    clear st
    have gl : ∀ v ∈ ([V.ref A1, .ref A2, .ref A3, .ref A4, .ref A5, .non, .int 0, .str "11", .ref Dd, .ref da, .ref x, .ref A6, .ref A7] : List V), OrP Z p H11 v := fun v hv => by
      simp only [List.mem_cons, List.not_mem_nil, or_false] at hv
      rcases hv with rfl | rfl | rfl | rfl | rfl | rfl | rfl | rfl | rfl | rfl | rfl | rfl | rfl
      · exact g1
      · exact g2
      · exact g3
      · exact g4
      · exact g5
      · exact orP_sca trivial (fun a z => by cases z)
      · exact orP_sca trivial (fun a z => by cases z)
      · exact orP_sca trivial (fun a z => by cases z)
      · exact g6
      · exact g7
      · exact g8
      · exact g9
      · exact g10
    clear g1 g2 g3 g4 g5 g6 g7 g8 g9 g10 kp
    have l3 : ([V.ref A1, .ref A2, .ref A3, .ref A4, .ref A5, .non, .int 0, .str "11", .ref Dd, .ref da, .ref x, .ref A6, .ref A7]).length = 13 := rfl
    generalize [V.ref A1, .ref A2, .ref A3, .ref A4, .ref A5, .non, .int 0, .str "11", .ref Dd, .ref da, .ref x, .ref A6, .ref A7] = xs3 at eL3 gl l3
    walk_at "hs"
    refine ⟨p, L3, xs3, _, rfl, pp, .of eL3, L3p, by omega, by omega, fun y G hm b1 p1 => ?_⟩
    have oy := OrP.pool pp b1 (gl y hm)
    clear gl eL3
    replace tr := tr.pool pp b1
    replace kl := kl.pool b1
    replace tb := Tabs.pool pp b1 tb
    replace bc := bc.trans (BuN.of b1)
    replace pp := p1
    clear b1 p1
    clear hm
    walk_at "hs"
    refine ⟨fun σ' G2 => ∃ r, σ' = [some (.ref p), some (.ref x), some pl, some (.bl (numV 0 hs.length pl)), some v, some (.ref L3), some y, some (.bl r), none, none, none, none, none] ∧ Same G G2 ∧ VwW Z G2 y r, ?_, ?_⟩
    · walk_at "hs"
      obtain ⟨ny, ⟨h1, h2⟩ | ⟨a, xs, rfl, ea, hk, hl⟩⟩ := oy
      · refine notTup_isi I nt ⟨h1, h2⟩ ?_
        walk_at "hs"
        exact ⟨false, rfl, Same.refl _, .inr ⟨rfl, .inl ⟨h1, h2⟩⟩⟩
      have sa : SqT K G a xs := .of ea
      have bad : ∀ {G2 : Hp}, Same G G2 → ¬ (xs.length = 2 ∧ ∀ y ∈ xs, numV 0 4 y = true) → BadView Z G2 (.ref a) := fun {G2} s no => .inr ⟨a, xs, rfl, s _ _ ea, fun y hy => ((hk y hy).1).same s, no⟩
      walk_at "hs"
      refine x_isd (fun c => ?_) (fun c => ?_)
      · walk_at "hs"
        refine ⟨a, rfl, ⟨_, sa⟩, fun R nR => ?_⟩
        refine lc_tup (K := K) (xs := xs) (fun i G2 => Same G G2 ∧ G2 R = some (.lst (((xs.take i).map (numV 0 4)).map V.bl))) ⟨same_new (Same.refl _) nR, upd_same⟩ (fun i G2 _ h => h.1.seqT sa) ?_ ?_
        · rintro i v2 G2 hv ⟨s1, eR⟩
          have kv := (hk v2 (List.mem_of_getElem? hv)).1.same s1
          walk_at "hs"
          refine ⟨rfl, ?_⟩
          walk_at "hs"
          refine ⟨v2, 0, 4, rfl, kv, ?_⟩
          refine ⟨_, eR, by rw [List.length_map, List.length_map]; exact szLt (by have := List.length_take_le' i xs; omega), same_mut s1 nR, ?_⟩
          rw [upd_same, take_snoc hv, List.map_append, List.map_append]
          rfl
        rintro G2 ⟨s1, eR⟩
        rw [List.take_length] at eR
        walk_at "hs"
        refine ⟨R, _, rfl, .of eR, ?_⟩
        walk_at "hs"
        cases al : (xs.map (numV 0 4)).all id with
        | false =>
          refine ⟨false, rfl, s1, .inr ⟨rfl, bad s1 fun z => ?_⟩⟩
          have : (xs.map (numV 0 4)).all id = true := List.all_eq_true.mpr fun b hb => by
            obtain ⟨v2, hv, rfl⟩ := List.mem_map.mp hb
            exact z.2 v2 hv
          rw [this] at al
          cases al
        | true =>
          have good : ∀ y ∈ xs, numV 0 4 y = true := fun y hy => by
            rw [List.all_eq_true] at al
            exact al _ (List.mem_map.mpr ⟨y, hy, rfl⟩)
          obtain ⟨v1, v2, rfl⟩ : ∃ v1 v2, xs = [v1, v2] := by
            have c : xs.length = 2 := by omega
            match xs, c with
            | [v1, v2], _ => exact ⟨v1, v2, rfl⟩
          obtain ⟨u, rfl, _, u4⟩ := numV_nat (lo := 0) (n := 4) (good v1 List.mem_cons_self)
          obtain ⟨d, rfl, _, d4⟩ := numV_nat (lo := 0) (n := 4) (good v2 (List.mem_cons_of_mem _ List.mem_cons_self))
          exact ⟨true, rfl, s1, .inl ⟨rfl, u, d, a, rfl, s1 _ _ ea, u4, d4⟩⟩
      · walk_at "hs"
        exact ⟨false, rfl, Same.refl _, .inr ⟨rfl, bad (Same.refl _) fun z => c (by omega)⟩⟩
    rintro σ' G2 ⟨r, rfl, s1, vw⟩
    have st : StV Z T p x y pl hs r H G2 := ⟨bc.trans (BuN.of (But.of s1)), pp.same s1, tb.ext s1, tr.same s1, kl.same s1, oy.same s1, vw⟩
    clear s1 oy tr kl tb pp bc vw
    refine ⟨fun σ' G3 => σ' = [some (.ref p), some (.ref x), some pl, some (.bl (numV 0 hs.length pl)), some v, some (.ref L3), some y, some (.bl r), some (.str (if r = false then "view" else wP hs.length pl)), none, none, none, none] ∧ G3 = G2, ?_, ?_⟩
    · walk_at "hs"
      cases r with
      | false =>
        walk_at "hs"
        exact ⟨rfl, rfl⟩
      | true =>
        walk_at "hs"
        unfold wP
        cases numV 0 hs.length pl with
        | false =>
          walk_at "hs"
          exact ⟨rfl, rfl⟩
        | true =>
          walk_at "hs"
          exact ⟨rfl, rfl⟩
    rintro σ' G3 ⟨rfl, rfl⟩
    refine ⟨fun σ' G4 => σ' = [some (.ref p), some (.ref x), some pl, some (.bl (numV 0 hs.length pl)), some v, some (.ref L3), some y, some (.bl r), some (.str (if r = false then "view" else wP hs.length pl)), none, none, none, none] ∧ StV Z T p x y pl hs r H G4, ?_, ?_⟩
    · walk_at "hs"
      refine x_lam st.tb fun G4 eN T4 => ?_
      have st4 := st.ext eN T4
      refine tw (sp := spTellW Z) (vs := [.ref x, y, pl]) (fun Q' E' h => by (try dsimp only); walk_at "hs"; exact h) (wp_tell st4.tr it st4.vw st4.kl.1 fun G5 s5 => ?_)
      walk_at "hs"
      refine x_isnd (fun c => (c rfl).elim) (fun _ => ?_)
      walk_at "hs"
      exact ⟨rfl, st4.same s5⟩
    clear st
    rintro σ' G4 ⟨rfl, st⟩
    refine ⟨fun σ' G5 => ∃ o gs, σ' = [some (.ref p), some (.ref x), some pl, some (.bl (numV 0 hs.length pl)), some v, some (.ref L3), some y, some (.bl r), some (.str (if r = false then "view" else wP hs.length pl)), some (.ref o), none, none, none] ∧ StV Z T p x y pl hs r H G5 ∧ TreeAt Z G5 o gs ∧ IsTree gs ∧ (gs = hs ∨ gs.length ≠ hs.length), ?_, ?_⟩
    · walk_at "hs"
      refine ⟨p, 2, _, rfl, st.pp, by decide, by decide, fun d G5 d0 d1 b1 p1 => ?_⟩
      have st5 := st.pool b1 p1
      walk_at "hs"
      refine x_isd (fun c => ?_) (fun c => ?_)
      · walk_at "hs"
        refine x_make ?_
        walk_at "hs"
        obtain ⟨dx, u, k1, k2⟩ := id st5.tr
        refine ⟨x, _, dx, _, _, rfl, k1, Tc, N, rfl, ?_⟩
        walk_at "hs"
        intro Z0 nZ0
        have s6 : Same G5 (upd G5 Z0 (.tup [.int 0])) := same_new (Same.refl _) nZ0
        have eZ0 : upd G5 Z0 (.tup [.int 0]) Z0 = some (.tup [.int 0]) := upd_same
        generalize upd G5 Z0 (.tup [.int 0]) = G6 at s6 eZ0 ⊢
        refine x_catA (s6 _ _ k2) eZ0 (by rw [nats_length]; show _ + 1 ≤ _; omega) fun D1 G7 s7 e7 => ?_
        have e7' : G7 D1 = some (.tup (nats (hs ++ [0]))) := by rw [e7, nats_append]; rfl
        walk_at "hs"
        refine make_treeR (it.snoc (by omega)) e7' fun m G8 nm s8 tm => ?_
        walk_at "hs"
        exact ⟨m, hs ++ [0], rfl, st5.same ((s6.trans s7).trans s8), tm, it.snoc (by omega), .inr (by rw [List.length_append]; show _ + 1 ≠ _; omega)⟩
      · walk_at "hs"
        exact ⟨x, hs, rfl, st5, st5.tr, it, .inl rfl⟩
    clear st
    rintro σ' G5 ⟨o, gs, rfl, st, tg, ig, dif⟩
    refine ⟨fun σ' G6 => σ' = [some (.ref p), some (.ref x), some pl, some (.bl (numV 0 hs.length pl)), some v, some (.ref L3), some y, some (.bl r), some (.str (if hs.length = gs.length then (if r = true then "let" else "view") else "blocks")), some (.ref o), none, none, none] ∧ G6 = G5, ?_, ?_⟩
    · walk_at "hs"
      refine ne_treesW tg st.tr ?_
      rcases dif with rfl | ne
      · rw [decide_eq_true rfl, if_pos (c := gs.length = gs.length) rfl]
        walk_at "hs"
        cases r with
        | true =>
          walk_at "hs"
          exact ⟨rfl, rfl⟩
        | false =>
          walk_at "hs"
          exact ⟨rfl, rfl⟩
      · rw [decide_eq_false (fun z => ne (by rw [z])), if_neg (c := hs.length = gs.length) (fun z => ne z.symm)]
        walk_at "hs"
        exact ⟨rfl, rfl⟩
    rintro σ' G6 ⟨rfl, rfl⟩
    have od : PyData.strOk (if hs.length = gs.length then (if r = true then ("let" : Str) else "view") else "blocks") = true := by
      split
      · split <;> decide +kernel
      · decide +kernel
    have eD : ∃ D2 : Str, D2 = (if hs.length = gs.length then (if r = true then ("let" : Str) else "view") else "blocks") := ⟨_, rfl⟩
    obtain ⟨D2, eD⟩ := eD
    have eD3 : (if gs.length = hs.length then (if r = true then ("let" : Str) else "view") else "blocks") = D2 := by
      rw [eD]
      by_cases c : hs.length = gs.length
      · rw [if_pos c, if_pos c.symm]
      · rw [if_neg c, if_neg (fun z => c z.symm)]
    rw [← eD] at od ⊢
    walk_at "hs"
    refine x_lam st.tb fun G7 eN T7 => ?_
    have st7 := st.ext eN T7
    have tg7 := tg.ext eN
    clear st tg
    refine tw (sp := spUnlikeW Z) (vs := [.ref x, .ref o, y]) (fun Q' E' h => by (try dsimp only); walk_at "hs"; exact h) (wp_unlike st7.tr it tg7 ig st7.vw fun G8 s8 => ?_)
    rw [← eD]
    have st8 := st7.same s8
    have tg8 := tg7.same s8
    clear st7 tg7 s8
    walk_at "hs"
    intro W1 nW1
    have s9 : Same G8 (upd G8 W1 (.lst [.str D2])) := same_new (Same.refl _) nW1
    have eW1 : upd G8 W1 (.lst [.str D2]) W1 = some (.lst [.str D2]) := upd_same
    generalize upd G8 W1 (.lst [.str D2]) = G9 at s9 eW1 ⊢
    walk_at "hs"
    have st9 := st8.same s9
    have tg9 := tg8.same s9
    refine x_lam st9.tb fun G10 eN T10 => ?_
    have st10 := st9.ext eN T10
    have tg10 := tg9.ext eN
    have x10 := extN_trans (extN_of s9) eN
    have eW2 := eN _ _ eW1 (fun _ z => by cases z)
    clear st9 tg9 eW1 eN s9
    refine tw (sp := spUnlikeW Z) (vs := [.ref o, .ref x, y]) (fun Q' E' h => by (try dsimp only); walk_at "hs"; exact h) (wp_unlike tg10 ig st10.tr it st10.vw fun G11 s11 => ?_)
    rw [eD3]
    walk_at "hs"
    refine x_append (s11 _ _ eW2) (show 1 < sizeLine by decide) ?_
    have stA := st8.app (o := .lst ([.str D2] ++ [.str D2])) (extN_trans x10 (extN_of s11)) nW1 (st10.same s11).tb (s11 _ _ eW2)
    clear st10 tg10 x10 st8 tg8
    have eWA : upd G11 W1 (.lst ([.str D2] ++ [.str D2])) W1 = some (.lst [.str D2, .str D2]) := upd_same
    clear eW2 s11
    generalize upd G11 W1 (.lst ([.str D2] ++ [.str D2])) = GA at stA eWA ⊢
    walk_at "hs"
    intro W3 nW3
    have s12 : Same GA (upd GA W3 (.lst [.str D2, .str D2])) := same_new (Same.refl _) nW3
    have eW3 : upd GA W3 (.lst [.str D2, .str D2]) W3 = some (.lst [.str D2, .str D2]) := upd_same
    generalize upd GA W3 (.lst [.str D2, .str D2]) = GB at s12 eW3 ⊢
    refine x_neStr2 od od (.of (s12 _ _ eWA)) (.of eW3) ?_
    have stB := stA.same s12
    clear stA eWA eW3 s12 nW3
    walk_at "hs"
    refine ⟨fun σ' G2 => σ' = [some (.ref p), some (.ref x), some pl, some (.bl (numV 0 hs.length pl)), some v, some (.ref L3), some y, some (.bl r), some (.str D2), some (.ref o), some (.ref W1), none, none] ∧ StV Z T p x y pl hs r H G2, ?_, ?_⟩
    · walk_at "hs"
      refine x_lam stB.tb fun G3 eN T3 => ?_
      have st3 := stB.ext eN T3
      refine tw (sp := spDistW Z) (vs := [y]) (fun Q' E' h => by (try dsimp only); walk_at "hs"; exact h) (wp_dist st3.vw fun G5 s5 => ?_)
      have st5 := st3.same s5
      cases r with
      | true =>
        rw [if_pos rfl]
        walk_at "hs"
        exact ⟨rfl, st5⟩
      | false =>
        rw [if_neg Bool.false_ne_true]
        walk_at "hs"
        exact ⟨rfl, st5⟩
    clear stB od eD eD3 ig dif
    rintro σ' G1 ⟨rfl, st⟩
    walk_at "hs"
    refine ⟨p, 40, _, rfl, st.pp, fun v2 G2 kv nv b1 p1 => ?_⟩
    have st2 := st.pool b1 p1
    have kp : KnP p G2 v2 := ⟨kv, nv⟩
    clear st kv nv b1 p1
    walk_at "hs"
    intro L4 nL4
    have s3 : Same G2 (upd G2 L4 (.lst [v2, .int 0, .int 1, .int 40, .int 41])) := same_new (Same.refl _) nL4
    have eL4 : upd G2 L4 (.lst [v2, .int 0, .int 1, .int 40, .int 41]) L4 = some (.lst [v2, .int 0, .int 1, .int 40, .int 41]) := upd_same
    generalize upd G2 L4 (.lst [v2, .int 0, .int 1, .int 40, .int 41]) = G3 at s3 eL4 ⊢
    have st3 := st2.same s3
    have kp3 := kp.same s3
    have L4p : L4 ≠ p := st2.pp.ne nL4
    clear st2 kp s3 nL4
    walk_at "hs"
    refine ⟨p, L4, [v2, .int 0, .int 1, .int 40, .int 41], _, rfl, st3.pp, .of eL4, L4p, (show 0 < 5 by decide), (show 5 ≤ 1000 by decide), fun m G4 hm b1 p1 => ?_⟩
    have km : KnP p G3 m := by
      simp only [List.mem_cons, List.not_mem_nil, or_false] at hm
      rcases hm with rfl | rfl | rfl | rfl | rfl
      · exact kp3
      all_goals exact knP_int
    have st4 := st3.pool b1 p1
    have km4 := km.pool b1
    clear st3 kp3 eL4 hm km b1 p1
    walk_at "hs"
    refine ⟨fun σ' G5 => σ' = [some (.ref p), some (.ref x), some pl, some (.bl (numV 0 hs.length pl)), some v, some (.ref L3), some y, some (.bl r), some (.str (if r = false then "view" else if numV 1 40 m = true then "let" else "number")), some (.ref o), some (.ref W1), some m, none] ∧ G5 = G4, ?_, ?_⟩
    · walk_at "hs"
      cases r with
      | false =>
        walk_at "hs"
        exact ⟨rfl, rfl⟩
      | true =>
        walk_at "hs"
        refine ⟨m, 1, 40, rfl, km4.1, ?_⟩
        cases numV 1 40 m with
        | false =>
          walk_at "hs"
          exact ⟨rfl, rfl⟩
        | true =>
          walk_at "hs"
          exact ⟨rfl, rfl⟩
    rintro σ' G5 ⟨rfl, rfl⟩
    have eD : ∃ D3 : Str, D3 = (if r = false then ("view" : Str) else if numV 1 40 m = true then "let" else "number") := ⟨_, rfl⟩
    obtain ⟨D3, eD⟩ := eD
    rw [← eD]
    walk_at "hs"
    refine x_lam st4.tb fun G6 eN T6 => ?_
    have st6 := st4.ext eN T6
    refine tw (sp := spTwinsW Z) (vs := [y, m]) (fun Q' E' h => by (try dsimp only); walk_at "hs"; exact h) (wp_twins st6.vw (km4.bun (BuN.ext eN)).1 fun G7 s7 => ?_)
    have st7 := st6.same s7
    rw [← eD]
    walk_at "hs"
    rw [decide_eq_true rfl]
    exact q G7 st7.bc st7.pp st7.tb
end
set_option maxRecDepth 100000
set_option maxHeartbeats 4000000
open PySem PySem.Spec L2 LamX


structure StL (Z : Ad) (T : List (Addr × Str)) (p x h : Addr) (b pl : V) (hs : List Nat) (G : Hp) : Prop where
  pp : PoolAt G p (fun _ => False)
  tb : Tabs T G
  tr : TreeAt Z G x hs
  eh : G h = some (.tup (nats hs))
  kb : KnP p G b
  kl : KnP p G pl
theorem tup_pool {H H' : Hp} {p h : Addr} {F : Addr → Prop} {xs : List V} (hp : PoolAt H p F) (b : But p H H') (e : H h = some (.tup xs)) : H' h = some (.tup xs) := b _ _ (fun z => hp.notTup _ (z ▸ e)) e
section
variable {Z : Ad} {T : List (Addr × Str)} {p x h : Addr} {b pl : V} {hs : List Nat} {G G' : Hp}
theorem StL.step (s : StL Z T p x h b pl hs G) (e : BuN p G G') (pp : PoolAt G' p (fun _ => False)) (tb : Tabs T G') : StL Z T p x h b pl hs G' :=
  ⟨pp, tb, s.tr.bun s.pp e, e _ _ (fun z => s.pp.notTup _ (z ▸ s.eh)) s.eh (fun _ z => by cases z), s.kb.bun e, s.kl.bun e⟩
theorem StL.same (s : StL Z T p x h b pl hs G) (e : Same G G') : StL Z T p x h b pl hs G' := s.step (BuN.of (But.of e)) (s.pp.same e) (s.tb.ext e)
theorem StL.ext (s : StL Z T p x h b pl hs G) (e : ExtN G G') (tb : Tabs T G') : StL Z T p x h b pl hs G' := s.step (BuN.ext e) (s.pp.ext e) tb
theorem StL.app {W : Addr} {o : HO} {ls : List V} (s : StL Z T p x h b pl hs G) (e : ExtN G G') (n : G W = none) (t : Tabs T G') (el : G' W = some (.lst ls)) : StL Z T p x h b pl hs (upd G' W o) := s.step (BuN.updN e n) (s.pp.updN e n) (tabs_updN el t)
end
section
variable {P : Program} {w : World} {K : PySem.W.Frag} {mg : Str → Option Value} {base : Heap} {Z : Ad}
def spLawT (K : PySem.W.Frag) (T : List (Addr × Str)) : Sp := fun vs H Q _ => ∃ (a : Addr) (ns : List Int), vs = [.ref a] ∧ SqL K H a (ns.map V.int) ∧ ns.length ≤ 63 ∧ Tabs T H ∧ ∀ H', Q (.bl true) H'
theorem ok_lawR {T : List (Addr × Str)} {f c PT : Addr} {fd : FuncData} (F : FunC K "law" s_law f fd c) (B : Bl Z mg) (Tc : Cls K Z.a_Tree) (N : NoAttr K Z.a_Tree "hung") (EK : ∀ i, i < 7 → ErrK K Z i) (TB : TabB base mg c PT)
    (inT : (PT, (PyProof.Rows.envOfC "law" (defScope s_law) 0 f (.ref c)).qual ++ "<lambda>") ∈ T) (uni : ∀ q ∈ T, q.1 = PT → q.2 = (PyProof.Rows.envOfC "law" (defScope s_law) 0 f (.ref c)).qual ++ "<lambda>")
    {f_w : Addr} {fd_w : FuncData} (Fw : Fun K "_law_word" "_law_word" s__law_word f_w fd_w) (C__law_word : Cal K mg "_law_word" f_w fd_w ["_law_call"])
    {f__law_pool : Addr} {fd__law_pool : FuncData} (C__law_pool : Cal K mg "_law_pool" f__law_pool fd__law_pool ["_law_script"]) (G__law_pool : FnOk P w K mg base CX0 1 f__law_pool fd__law_pool ["_law_script"] (spPool K)) {f__law_draw : Addr} {fd__law_draw : FuncData} (C__law_draw : Cal K mg "_law_draw" f__law_draw fd__law_draw ["_law_pool_here", "_law_many"]) (G__law_draw : FnOk P w K mg base CX0 1 f__law_draw fd__law_draw ["_law_pool_here", "_law_many"] spDraw)
    {f__law_hung : Addr} {fd__law_hung : FuncData} (C__law_hung : Cal K mg "_law_hung" f__law_hung fd__law_hung ["_law_pool_here", "_law_many"]) (G__law_hung : FnOk P w K mg base CX0 3 f__law_hung fd__law_hung ["_law_pool_here", "_law_many"] spHung)
    {f__law_odd : Addr} {fd__law_odd : FuncData} (C__law_odd : Cal K mg "_law_odd" f__law_odd fd__law_odd ["_law_pool_here", "_law_most"]) (G__law_odd : FnOk P w K mg base CX0 3 f__law_odd fd__law_odd ["_law_pool_here", "_law_most"] spOdd)
    {f__law_is_number : Addr} {fd__law_is_number : FuncData} (C__law_is_number : Cal K mg "_law_is_number" f__law_is_number fd__law_is_number ["_law_thing", "_law_least", "_law_most"]) (G__law_is_number : FnOk P w K mg base CX0 1 f__law_is_number fd__law_is_number ["_law_thing", "_law_least", "_law_most"] (spNum 0))
    {f__law_way : Addr} {fd__law_way : FuncData} (C__law_way : Cal K mg "_law_way" f__law_way fd__law_way ["_law_hung_here", "_law_place"]) (G__law_way : FnOk P w K mg base CX0 1 f__law_way fd__law_way ["_law_hung_here", "_law_place"] (spWay K)) {f__law_is : Addr} {fd__law_is : FuncData} (C__law_is : Cal K mg "_law_is" f__law_is fd__law_is ["_law_told", "_law_due"]) (G__law_is : FnOk P w K mg base CX0 4 f__law_is fd__law_is ["_law_told", "_law_due"] (spIs K 2))
    {f_place_of : Addr} {fd_place_of : FuncData} (C_place_of : Cal K mg "place_of" f_place_of fd_place_of ["tree", "block"]) (G_place_of : FnOk P w K mg base (L2N.CX P w) 3 f_place_of fd_place_of ["tree", "block"] (spPlaceW Z))
    {f_parents : Addr} {fd_parents : FuncData} (C_parents : Cal K mg "parents" f_parents fd_parents ["tree", "block"]) (G_parents : FnOk P w K mg base (L2N.CX P w) 4 f_parents fd_parents ["tree", "block"] (spParentsW Z))
    {f_under : Addr} {fd_under : FuncData} (C_under : Cal K mg "under" f_under fd_under ["tree", "place"]) (G_under : FnOk P w K mg base (L2N.CX P w) 3 f_under fd_under ["tree", "place"] (spUnderW Z))
    {f_beneath : Addr} {fd_beneath : FuncData} (C_beneath : Cal K mg "beneath" f_beneath fd_beneath ["tree", "place"]) (G_beneath : FnOk P w K mg base (L2N.CX P w) 5 f_beneath fd_beneath ["tree", "place"] (spBeneathW Z))
    {f_moved : Addr} {fd_moved : FuncData} (C_moved : Cal K mg "moved" f_moved fd_moved ["tree", "block", "place"]) (G_moved : FnOk P w K mg base (L2N.CX P w) 6 f_moved fd_moved ["tree", "block", "place"] (spMovedW Z))
    {f__law_order_refused : Addr} {fd__law_order_refused : FuncData} (C__law_order_refused : Cal K mg "_law_order_refused" f__law_order_refused fd__law_order_refused ["_law_pool_here", "_law_tree", "_law_many"]) (G__law_order_refused : FnOk P w K mg base CX0 11 f__law_order_refused fd__law_order_refused ["_law_pool_here", "_law_tree", "_law_many"] (spOrdRef Z T))
    {f__law_views_refused : Addr} {fd__law_views_refused : FuncData} (C__law_views_refused : Cal K mg "_law_views_refused" f__law_views_refused fd__law_views_refused ["_law_pool_here", "_law_tree", "_law_place", "_law_is_place"]) (G__law_views_refused : FnOk P w K mg base CX0 11 f__law_views_refused fd__law_views_refused ["_law_pool_here", "_law_tree", "_law_place", "_law_is_place"] (spVwRef Z T))
    {f_Tree___init__ : Addr} {fd_Tree___init__ : FuncData} (C_Tree___init__ : CalM K f_Tree___init__ fd_Tree___init__ ["self", "hung"]) (G_Tree___init__ : FnOk P w K mg base (L2.CX P w) 3 f_Tree___init__ fd_Tree___init__ ["self", "hung"] (spTree Z)) (M_Tree : Mk K Z.a_Tree f_Tree___init__) : FnOk P w K mg base CX0 12 f fd ["_law_script"] (spLawT K T) := by
  obtain ⟨oc, od, kV, doc, pm, an, cdv, ct, osl, rfl, LW, CW⟩ := Fw.ex
  refine F.ok sc_law (fun vs H Q E h => ?_) (fun A outer s H vs Q E hr h => ?_)
  · obtain ⟨a, ns, rfl, _⟩ := h
    rfl
  · obtain ⟨a, ns, rfl, hS, hl, tb, q⟩ := h
    refine ⟨_, (pss_cons (ps_set (i := 1) sc_law.nd rfl (Or.inl rfl) (pe_call G__law_pool (hr.mono (by first | decide | omega)) (by rfl) C__law_pool.g C__law_pool.k C__law_pool.b .nil pass0 (pa_cons (pv 0) pa_nil)))
 (pss_cons (ps_for PassesOwn.never rfl (pi_range1 rfl B.b_range (pa_cons pe_int pa_nil)) (pg_name (i := 2) sc_law.nd rfl (Or.inl rfl)) (pss_cons (ps_set (i := 3) sc_law.nd rfl (Or.inl rfl) (pe_op op_add pe_int (pe_call G__law_draw (hr.mono (by first | decide | omega)) (by rfl) C__law_draw.g C__law_draw.k C__law_draw.b .nil pass0 (pa_cons (pv 1) (pa_cons pe_int pa_nil)))))
 (pss_cons (ps_set (i := 4) sc_law.nd rfl (Or.inl rfl) (pe_call G__law_hung (hr.mono (by first | decide | omega)) (by rfl) C__law_hung.g C__law_hung.k C__law_hung.b .nil pass0 (pa_cons (pv 1) (pa_cons (pv 3) pa_nil))))
 (pss_cons (ps_set (i := 5) sc_law.nd rfl (Or.inr rfl) (pe_make M_Tree G_Tree___init__ (hr.mono (by first | decide | omega)) (by rfl) B.k_Tree C_Tree___init__.b .nil passE (pa_cons (pv 4) pa_nil)))
 (pss_cons (ps_asg (pe_tup (pa_cons (pe_call G__law_odd (hr.mono (by first | decide | omega)) (by rfl) C__law_odd.g C__law_odd.k C__law_odd.b .nil pass0 (pa_cons (pv 1) (pa_cons (pv 3) pa_nil))) (pa_cons (pe_call G__law_odd (hr.mono (by first | decide | omega)) (by rfl) C__law_odd.g C__law_odd.k C__law_odd.b .nil pass0 (pa_cons (pv 1) (pa_cons (pv 3) pa_nil))) pa_nil))) (pg_tup rfl (pgs_cons (pg_name (i := 6) sc_law.nd rfl (Or.inr rfl)) (pgs_cons (pg_name (i := 7) sc_law.nd rfl (Or.inr rfl)) pgs_nil))))
 (pss_cons (ps_par (i := 8) (j := 9) (by rfl) sc_law.nd rfl rfl (by decide) rfl rfl (pa_cons (pe_call G__law_is_number (hr.mono (by first | decide | omega)) (by rfl) C__law_is_number.g C__law_is_number.k C__law_is_number.b .nil pass0 (pa_cons (pv 6) (pa_cons pe_int (pa_cons (pv 3) pa_nil)))) (pa_cons (pe_call G__law_is_number (hr.mono (by first | decide | omega)) (by rfl) C__law_is_number.g C__law_is_number.k C__law_is_number.b .nil pass0 (pa_cons (pv 7) (pa_cons pe_int (pa_cons (pv 3) pa_nil)))) pa_nil)) (by rfl))
 (C8.pss_cut (ps_set (i := 10) sc_law.nd rfl (Or.inl rfl) (pe_ifExp (pt_val (pv 8)) pe_str pe_str))
 (pss_cons (ps_set (i := 11) sc_law.nd rfl (Or.inl rfl) (pe_lst (pa_cons (LamN.calls (T := T) (TT := TTw Z) (k := 7) (by rfl) C__law_word.g C__law_word.k LW CW C__law_word.b sc__law_word rfl (Or.inl rfl) (word_gives rfl B EK) TB rfl inT uni (hr.mono (by first | decide | omega)) (LamX.lamS_by (sc := defScope s_law) (by decide +kernel)) rfl (fun _ _ _ _ _ => rfl) (fun _ _ _ _ E2 _ _ hr2 => (pe_call (E := E2) G_place_of (hr2.mono (by first | decide | omega)) (by rfl) C_place_of.g C_place_of.k C_place_of.b .nil passLam (pa_cons (pv 5) (pa_cons (pv 6) pa_nil))))) pa_nil)))
 (pss_cons (ps_expr (pe_bmK (K := K) rfl PySem.F.plainAttrs_list PySem.F.slot_list_append PySem.F.type_list_append mt_append (pv 11) (pa_cons (LamN.calls (T := T) (TT := TTw Z) (k := 7) (by rfl) C__law_word.g C__law_word.k LW CW C__law_word.b sc__law_word rfl (Or.inl rfl) (word_gives rfl B EK) TB rfl inT uni (hr.mono (by first | decide | omega)) (LamX.lamS_by (sc := defScope s_law) (by decide +kernel)) rfl (fun _ _ _ _ _ => rfl) (fun _ _ _ _ E2 _ _ hr2 => (pe_call (E := E2) G_parents (hr2.mono (by first | decide | omega)) (by rfl) C_parents.g C_parents.k C_parents.b .nil passLam (pa_cons (pv 5) (pa_cons (pv 6) pa_nil))))) pa_nil)))
 (pss_cons (ps_if (pt_cmpR (op_neDK (K := K) rfl hr.units) (pv 11) (pe_lst (pa_cons (pv 10) (pa_cons (pv 10) pa_nil))) (nomark _)) (pss_one (ps_ret pe_bl)) pss_nil)
 (C8.pss_cut (ps_set (i := 10) sc_law.nd rfl (Or.inl rfl) (pe_ifExp (pt_val (pv 9)) pe_str pe_str))
 (pss_cons (ps_set (i := 11) sc_law.nd rfl (Or.inl rfl) (pe_lst (pa_cons (LamN.calls (T := T) (TT := TTw Z) (k := 7) (by rfl) C__law_word.g C__law_word.k LW CW C__law_word.b sc__law_word rfl (Or.inl rfl) (word_gives rfl B EK) TB rfl inT uni (hr.mono (by first | decide | omega)) (LamX.lamS_by (sc := defScope s_law) (by decide +kernel)) rfl (fun _ _ _ _ _ => rfl) (fun _ _ _ _ E2 _ _ hr2 => (pe_call (E := E2) G_under (hr2.mono (by first | decide | omega)) (by rfl) C_under.g C_under.k C_under.b .nil passLam (pa_cons (pv 5) (pa_cons (pv 7) pa_nil))))) pa_nil)))
 (pss_cons (ps_expr (pe_bmK (K := K) rfl PySem.F.plainAttrs_list PySem.F.slot_list_append PySem.F.type_list_append mt_append (pv 11) (pa_cons (LamN.calls (T := T) (TT := TTw Z) (k := 7) (by rfl) C__law_word.g C__law_word.k LW CW C__law_word.b sc__law_word rfl (Or.inl rfl) (word_gives rfl B EK) TB rfl inT uni (hr.mono (by first | decide | omega)) (LamX.lamS_by (sc := defScope s_law) (by decide +kernel)) rfl (fun _ _ _ _ _ => rfl) (fun _ _ _ _ E2 _ _ hr2 => (pe_call (E := E2) G_beneath (hr2.mono (by first | decide | omega)) (by rfl) C_beneath.g C_beneath.k C_beneath.b .nil passLam (pa_cons (pv 5) (pa_cons (pv 7) pa_nil))))) pa_nil)))
 (pss_cons (ps_if (pt_cmpR (op_neDK (K := K) rfl hr.units) (pv 11) (pe_lst (pa_cons (pv 10) (pa_cons (pv 10) pa_nil))) (nomark _)) (pss_one (ps_ret pe_bl)) pss_nil)
 (C8.pss_cut (ps_set (i := 10) sc_law.nd rfl (Or.inl rfl) (pe_ifExp (pt_not (pt_val (pv 8))) pe_str (pe_ifExp (pt_val (pv 9)) pe_str pe_str)))
 (C8.pss_cut (ps_if (PW.pt (pw_and (pt_cmpR op_eq (pv 10) pe_str (nomark _)) (pw_and1 (PW.pt (pw_or (pt_cmpR op_eq (pv 7) (pv 6) (nomark _)) (pw_or1 (pt_cmpR (op_inK (K := K) rfl) (pv 6) (pe_call G__law_way (hr.mono (by first | decide | omega)) (by rfl) C__law_way.g C__law_way.k C__law_way.b .nil pass0 (pa_cons (pv 4) (pa_cons (pv 7) pa_nil))) (by rfl)))))))) (pss_one (ps_set (i := 10) sc_law.nd rfl (Or.inl rfl) pe_str)) pss_nil)
 (pss_cons (ps_if (pt_cmpR op_ne (LamN.calls (T := T) (TT := TTw Z) (k := 7) (by rfl) C__law_word.g C__law_word.k LW CW C__law_word.b sc__law_word rfl (Or.inl rfl) (word_gives rfl B EK) TB rfl inT uni (hr.mono (by first | decide | omega)) (LamX.lamS_by (sc := defScope s_law) (by decide +kernel)) rfl (fun _ _ _ _ _ => rfl) (fun _ _ _ _ E2 _ _ hr2 => (pe_call (E := E2) G_moved (hr2.mono (by first | decide | omega)) (by rfl) C_moved.g C_moved.k C_moved.b .nil passLam (pa_cons (pv 5) (pa_cons (pv 6) (pa_cons (pv 7) pa_nil)))))) (pv 10) (nomark _)) (pss_one (ps_ret pe_bl)) pss_nil)
 (pss_cons (ps_if (PW.pt (pw_or (pt_not (pt_val (pe_call G__law_order_refused (hr.mono (by first | decide | omega)) (by rfl) C__law_order_refused.g C__law_order_refused.k C__law_order_refused.b .nil pass0 (pa_cons (pv 1) (pa_cons (pv 5) (pa_cons (pv 3) pa_nil)))))) (pw_or1 (pt_not (pt_val (pe_call G__law_views_refused (hr.mono (by first | decide | omega)) (by rfl) C__law_views_refused.g C__law_views_refused.k C__law_views_refused.b .nil pass0 (pa_cons (pv 1) (pa_cons (pv 5) (pa_cons (pv 7) (pa_cons (pv 9) pa_nil)))))))))) (pss_one (ps_ret pe_bl)) pss_nil)
 (pss_one (ps_if (pt_not (pt_val (pe_call G__law_is (hr.mono (by first | decide | omega)) (by rfl) C__law_is.g C__law_is.k C__law_is.b .nil pass0 (pa_cons (pe_fldK (K := K) rfl (pv 5) rfl) (pa_cons (pv 4) pa_nil))))) (pss_one (ps_ret pe_bl)) pss_nil))))))))))))))))))))
 (pss_one (ps_ret pe_bl)))), ?_⟩
    walk_at "h0"
    refine ⟨a, ns, rfl, hS, hl, fun p H1 b1 np hp1 => ?_⟩
    walk_at "hs"
    have tb1 := tb.ext b1
    refine ⟨5, rfl, by decide, by decide, ?_⟩
    refine lp_range (lo := 0) (n := Int.toNat 5) (fun i σ' H' => (∃ x2 x3 x4 x5 x6 x7 x8 x9 x10 x11, σ' = [some (.ref a), some (.ref p), x2, x3, x4, x5, x6, x7, x8, x9, x10, x11]) ∧ PoolAt H' p (fun _ => False) ∧ Tabs T H') ⟨⟨_, _, _, _, _, _, _, _, _, _, rfl⟩, hp1, tb1⟩ ?_ ?_
    · rintro i σ' H2 hi ⟨⟨x2, x3, x4, x5, x6, x7, x8, x9, x10, x11, rfl⟩, hp2, tb2⟩
      clear tb tb1 hp1 b1 np hS
      walk_at "hs"
      refine ⟨p, 8, _, rfl, hp2, by decide, by decide, fun d H3 d0 d1 b3 hp3 => ?_⟩
      obtain ⟨k, rfl⟩ := Int.eq_ofNat_of_zero_le d0
      have tb3 := Tabs.pool hp2 b3 tb2
      clear b3 hp2 tb2
      walk_at "hs"
      rw [show (1 : Int) + (k : Int) = ((k + 1 : Nat) : Int) by omega]
      have en : ∃ n : Nat, n = k + 1 := ⟨_, rfl⟩
      obtain ⟨n, en⟩ := en
      rw [← en]
      refine ⟨p, n, _, rfl, hp3, by omega, by omega, fun h hs H4 it hlen b4 hp4 nh eh => ?_⟩
      subst hlen
      have tb4 := Tabs.pool hp3 b4 tb3
      clear b4 hp3 tb3 nh
      walk_at "hs"
      refine x_tree rfl it eh fun x H5 nx s5 tr5 => ?_
      have hp5 := hp4.same s5
      have tb5 := tb4.ext s5
      have eh5 := s5 _ _ eh
      clear nx s5 hp4 tb4 eh
      walk_at "hs"
      refine ⟨p, hs.length, _, rfl, hp5, fun b H6 kb nb b6 hp6 => ?_⟩
      have tb6 := Tabs.pool hp5 b6 tb5
      have tr6 := tr5.pool hp5 b6
      have eh6 := tup_pool hp5 b6 eh5
      clear b6 hp5 tb5 tr5 eh5
      walk_at "hs"
      refine ⟨p, hs.length, _, rfl, hp6, fun pl H7 kl nl b7 hp7 => ?_⟩
      have tb7 := Tabs.pool hp6 b7 tb6
      have tr7 := tr6.pool hp6 b7
      have eh7 := tup_pool hp6 b7 eh6
      have kb7 : KnP p H7 b := KnP.pool b7 ⟨kb, nb⟩
      have kl7 : KnP p H7 pl := ⟨kl, nl⟩
      clear b7 hp6 tb6 tr6 eh6 kb nb kl nl
      have st : StL Z T p x h b pl hs H7 := ⟨hp7, tb7, tr7, eh7, kb7, kl7⟩
      clear hp7 tb7 tr7 eh7 kb7 kl7
      walk_at "hs"
      intro A1 nA1
      have s8 : Same H7 (upd H7 A1 (.tup [b, pl])) := same_new (Same.refl _) nA1
      have eA1 : upd H7 A1 (.tup [b, pl]) A1 = some (.tup [b, pl]) := upd_same
      generalize upd H7 A1 (.tup [b, pl]) = H8 at s8 eA1 ⊢
      refine x_gtup (.of eA1) rfl ?_
      replace st := st.same s8
      clear s8 eA1 nA1
      walk_at "hs"
      refine ⟨b, 1, hs.length, rfl, st.kb.1, ?_⟩
      walk_at "hs"
      refine ⟨pl, 0, hs.length, rfl, st.kl.1, ?_⟩
      walk_at "hs"
      refine ⟨fun σ' G => (∃ x2, σ' = [some (.ref a), some (.ref p), x2, some (.int hs.length), some (.ref h), some (.ref x), some b, some pl, some (.bl (numV 1 hs.length b)), some (.bl (numV 0 hs.length pl)), some (.str (if numV 1 hs.length b = true then "let" else "block")), x11]) ∧ G = H8, ?_, ?_⟩
      · walk_at "hs"
        cases numV 1 hs.length b with
        | true =>
          walk_at "hs"
          exact ⟨⟨_, rfl⟩, rfl⟩
        | false =>
          walk_at "hs"
          exact ⟨⟨_, rfl⟩, rfl⟩
      rintro σ' G ⟨⟨y2, rfl⟩, rfl⟩
      have e1 : ∃ D1 : Str, D1 = wB hs.length b := ⟨_, rfl⟩
      obtain ⟨D1, e1⟩ := e1
      have o1 : PyData.strOk D1 = true := by
        rw [e1]
        unfold wB
        split <;> decide +kernel
      rw [show (if numV 1 hs.length b = true then ("let" : Str) else "block") = D1 from e1.symm]
      walk_at "hs"
      refine x_lam st.tb fun J1 eN T1 => ?_
      have st1 := st.ext eN T1
      clear st eN T1
      refine tw (sp := spPlaceW Z) (vs := [.ref x, b]) (fun Q' E' h => by (try dsimp only); walk_at "hs"; exact h) (wp_place st1.tr  st1.kb.1 fun J2 s2 => ?_)
      rw [← e1]
      have st2 := st1.same s2
      clear st1 s2
      walk_at "hs"
      intro W1 nW1
      have s3 : Same J2 (upd J2 W1 (.lst [.str D1])) := same_new (Same.refl _) nW1
      have eW1 : upd J2 W1 (.lst [.str D1]) W1 = some (.lst [.str D1]) := upd_same
      generalize upd J2 W1 (.lst [.str D1]) = J3 at s3 eW1 ⊢
      walk_at "hs"
      have st3 := st2.same s3
      refine x_lam st3.tb fun J4 eN T4 => ?_
      have st4 := st3.ext eN T4
      have x4 := extN_trans (extN_of s3) eN
      have eW4 := eN _ _ eW1 (fun _ z => by cases z)
      clear st3 eW1 eN s3 T4
      refine tw (sp := spParentsW Z) (vs := [.ref x, b]) (fun Q' E' h => by (try dsimp only); walk_at "hs"; exact h) (wp_parents st4.tr it st4.kb.1 fun J5 s5 => ?_)
      rw [← e1]
      walk_at "hs"
      refine x_append (s5 _ _ eW4) (show 1 < sizeLine by decide) ?_
      have stA := st2.app (o := .lst ([.str D1] ++ [.str D1])) (extN_trans x4 (extN_of s5)) nW1 (st4.same s5).tb (s5 _ _ eW4)
      have eWA : upd J5 W1 (.lst ([.str D1] ++ [.str D1])) W1 = some (.lst [.str D1, .str D1]) := upd_same
      clear st2 st4 x4 eW4 s5 nW1
      generalize upd J5 W1 (.lst ([.str D1] ++ [.str D1])) = J6 at stA eWA ⊢
      walk_at "hs"
      intro W3 nW3
      have s6 : Same J6 (upd J6 W3 (.lst [.str D1, .str D1])) := same_new (Same.refl _) nW3
      have eW3 : upd J6 W3 (.lst [.str D1, .str D1]) W3 = some (.lst [.str D1, .str D1]) := upd_same
      generalize upd J6 W3 (.lst [.str D1, .str D1]) = J7 at s6 eW3 ⊢
      refine x_neStr2 o1 o1 (.of (s6 _ _ eWA)) (.of eW3) ?_
      have st := stA.same s6
      clear stA eWA s6 eW3 nW3 W3
      walk_at "hs"
      refine ⟨fun σ' G => σ' = [some (.ref a), some (.ref p), y2, some (.int hs.length), some (.ref h), some (.ref x), some b, some pl, some (.bl (numV 1 hs.length b)), some (.bl (numV 0 hs.length pl)), some (.str (if numV 0 hs.length pl = true then "let" else "place")), some (.ref W1)] ∧ G = J7, ?_, ?_⟩
      · walk_at "hs"
        cases numV 0 hs.length pl with
        | true =>
          walk_at "hs"
          exact ⟨rfl, rfl⟩
        | false =>
          walk_at "hs"
          exact ⟨rfl, rfl⟩
      rintro σ' G ⟨rfl, rfl⟩
      have e2 : ∃ D2 : Str, D2 = wP hs.length pl := ⟨_, rfl⟩
      obtain ⟨D2, e2⟩ := e2
      have o2 : PyData.strOk D2 = true := by
        rw [e2]
        unfold wP
        split <;> decide +kernel
      rw [show (if numV 0 hs.length pl = true then ("let" : Str) else "place") = D2 from e2.symm]
      clear e1 o1
      walk_at "hs"
      refine x_lam st.tb fun J11 eN T1 => ?_
      have st1 := st.ext eN T1
      clear st eN T1
      refine tw (sp := spUnderW Z) (vs := [.ref x, pl]) (fun Q' E' h => by (try dsimp only); walk_at "hs"; exact h) (wp_under st1.tr it st1.kl.1 fun J12 s2 => ?_)
      rw [← e2]
      have st2 := st1.same s2
      clear st1 s2
      walk_at "hs"
      intro W2 nW1
      have s3 : Same J12 (upd J12 W2 (.lst [.str D2])) := same_new (Same.refl _) nW1
      have eW1 : upd J12 W2 (.lst [.str D2]) W2 = some (.lst [.str D2]) := upd_same
      generalize upd J12 W2 (.lst [.str D2]) = J13 at s3 eW1 ⊢
      walk_at "hs"
      have st3 := st2.same s3
      refine x_lam st3.tb fun J14 eN T4 => ?_
      have st4 := st3.ext eN T4
      have x4 := extN_trans (extN_of s3) eN
      have eW4 := eN _ _ eW1 (fun _ z => by cases z)
      clear st3 eW1 eN s3 T4
      refine tw (sp := spBeneathW Z) (vs := [.ref x, pl]) (fun Q' E' h => by (try dsimp only); walk_at "hs"; exact h) (wp_beneath st4.tr it st4.kl.1 fun J15 s5 => ?_)
      rw [← e2]
      walk_at "hs"
      refine x_append (s5 _ _ eW4) (show 1 < sizeLine by decide) ?_
      have stA := st2.app (o := .lst ([.str D2] ++ [.str D2])) (extN_trans x4 (extN_of s5)) nW1 (st4.same s5).tb (s5 _ _ eW4)
      have eWA : upd J15 W2 (.lst ([.str D2] ++ [.str D2])) W2 = some (.lst [.str D2, .str D2]) := upd_same
      clear st2 st4 x4 eW4 s5 nW1
      generalize upd J15 W2 (.lst ([.str D2] ++ [.str D2])) = J16 at stA eWA ⊢
      walk_at "hs"
      intro W3 nW3
      have s6 : Same J16 (upd J16 W3 (.lst [.str D2, .str D2])) := same_new (Same.refl _) nW3
      have eW3 : upd J16 W3 (.lst [.str D2, .str D2]) W3 = some (.lst [.str D2, .str D2]) := upd_same
      generalize upd J16 W3 (.lst [.str D2, .str D2]) = J17 at s6 eW3 ⊢
      refine x_neStr2 o2 o2 (.of (s6 _ _ eWA)) (.of eW3) ?_
      have st := stA.same s6
      clear stA eWA s6 eW3 nW3 W3
      walk_at "hs"
      clear e2 o2
      refine ⟨fun σ' G => σ' = [some (.ref a), some (.ref p), y2, some (.int hs.length), some (.ref h), some (.ref x), some b, some pl, some (.bl (numV 1 hs.length b)), some (.bl (numV 0 hs.length pl)), some (.str (if numV 1 hs.length b = false then "block" else if numV 0 hs.length pl = true then "let" else "place")), some (.ref W2)] ∧ G = J17, ?_, ?_⟩
      · walk_at "hs"
        cases numV 1 hs.length b with
        | false =>
          walk_at "hs"
          exact ⟨rfl, rfl⟩
        | true =>
          walk_at "hs"
          cases numV 0 hs.length pl with
          | true =>
            walk_at "hs"
            exact ⟨rfl, rfl⟩
          | false =>
            walk_at "hs"
            exact ⟨rfl, rfl⟩
      rintro σ' G ⟨rfl, rfl⟩
      refine ⟨fun σ' G2 => σ' = [some (.ref a), some (.ref p), y2, some (.int hs.length), some (.ref h), some (.ref x), some b, some pl, some (.bl (numV 1 hs.length b)), some (.bl (numV 0 hs.length pl)), some (.str (wM hs b pl)), some (.ref W2)] ∧ Same G G2, ?_, ?_⟩
      · unfold wM
        cases eb : numV 1 hs.length b with
        | false =>
          walk_at "hs"
          exact ⟨rfl, Same.refl _⟩
        | true =>
          cases ep : numV 0 hs.length pl with
          | false =>
            walk_at "hs"
            exact ⟨rfl, Same.refl _⟩
          | true =>
            obtain ⟨i2, rfl, i3, i4⟩ := numV_nat (lo := 1) eb
            obtain ⟨j2, rfl, j3, j4⟩ := numV_nat (lo := 0) ep
            walk_at "hs"
            refine x_isd (fun c => ?_) (fun c => ?_)
            · walk_at "hs"
              refine ⟨?_, Same.refl _⟩
              rw [if_pos (c := (j2 : Int) = i2 ∨ (i2 : Int).toNat ∈ way hs (j2 : Int).toNat) (.inl c)]
              rfl
            · walk_at "hs"
              refine ⟨h, hs, j2, rfl, .of st.eh, it.le, it.most, by omega, fun D G2 s10 _ e10 => ?_⟩
              refine x_inNL (.of e10) ?_
              walk_at "hs"
              by_cases m : i2 ∈ way hs j2
              · rw [decide_eq_true m]
                walk_at "hs"
                refine ⟨?_, s10⟩
                rw [if_pos (c := (j2 : Int) = i2 ∨ (i2 : Int).toNat ∈ way hs (j2 : Int).toNat) (.inr m)]
                rfl
              · rw [decide_eq_false m]
                walk_at "hs"
                refine ⟨?_, s10⟩
                rw [if_neg (c := (j2 : Int) = i2 ∨ (i2 : Int).toNat ∈ way hs (j2 : Int).toNat) (fun z => z.elim c m)]
                rfl
      rintro σ' G2 ⟨rfl, sG⟩
      replace st := st.same sG
      clear sG
      have e3 : ∃ D3 : Str, D3 = wM hs b pl := ⟨_, rfl⟩
      obtain ⟨D3, e3⟩ := e3
      rw [← e3]
      walk_at "hs"
      refine x_lam st.tb fun L1 eN T1 => ?_
      have st1 := st.ext eN T1
      clear st eN T1
      refine tw (sp := spMovedW Z) (vs := [.ref x, b, pl]) (fun Q' E' h => by (try dsimp only); walk_at "hs"; exact h) (wp_moved st1.tr it st1.kb.1 st1.kl.1 fun L2 s2 => ?_)
      rw [← e3]
      have st2 := st1.same s2
      clear st1 s2 e3
      walk_at "hs"
      refine x_isnd (fun c => (c rfl).elim) (fun _ => ?_)
      walk_at "hs"
      refine ⟨p, x, hs.length, hs, rfl, st2.pp, st2.tr, it, rfl, by omega, st2.tb, fun L3 bn pp tb => ?_⟩
      have st3 := st2.step bn pp tb
      clear st2 bn pp tb
      walk_at "hs"
      refine ⟨p, x, pl, hs, rfl, st3.pp, st3.tr, it, by omega, st3.kl, st3.tb, fun L4 bn pp tb => ?_⟩
      have st4 := st3.step bn pp tb
      clear st3 bn pp tb
      walk_at "hs"
      obtain ⟨dx, u, k1, k2⟩ := id st4.tr
      refine ⟨x, _, dx, _, _, rfl, k1, Tc, N, rfl, ?_⟩
      walk_at "hs"
      refine ⟨_, _, rfl, (Al.tups k2 st4.eh (by rw [nats_length]; omega) nats_sca).up, fun L5 s5 => ?_⟩
      walk_at "hs"
      exact ⟨⟨_, _, _, _, _, _, _, _, _, _, rfl⟩, (st4.same s5).pp, (st4.same s5).tb⟩
    · rintro σ' H' ⟨⟨x2, x3, x4, x5, x6, x7, x8, x9, x10, x11, rfl⟩, _⟩
      walk_at "hs"
      exact q _
end
set_option maxRecDepth 100000
set_option maxHeartbeats 4000000
open PySem PySem.Spec L2 PyProof.Rows
theorem kit_ref {K : PySem.W.Frag} {t : Value} {C : Addr} {b : Bool} (hn : (t == Value.ref C) = false) (h : PySem.W.isClsIn K C = true) (ht : PySem.W.typeIn K (.ref C) = some (.type "type")) (hs : PySem.W.subIn K t (.ref C) = some b) : PySem.W.kitOne K t (.ref C) = some b := by
  have e2 : ((PySem.W.clsIn K C).isSome && PySem.W.typeIn K (.ref C) == some (.type "type")) = true := by
    have h2' : (PySem.W.clsIn K C).isSome = true := h
    rw [h2', ht] <;> rfl
  unfold PySem.W.kitOne
  rw [hn, if_neg Bool.false_ne_true]
  show (if ((PySem.W.clsIn K C).isSome && PySem.W.typeIn K (.ref C) == some (.type "type")) = true then PySem.W.subIn K t (.ref C) else none) = some b
  rw [if_pos e2]
  exact hs
theorem kit_typ {K : PySem.W.Frag} {C : Addr} {T : String} {b : Bool} (hm : PySem.W.kitMeta T = true) (h : PySem.W.subIn K (.ref C) (.type T) = some b) : PySem.W.kitOne K (.ref C) (.type T) = some b := by
  unfold PySem.W.kitOne
  rw [if_neg (by simp)]
  show (if PySem.W.kitMeta T = true then PySem.W.subIn K (.ref C) (.type T) else none) = some b
  rw [if_pos hm]
  exact h
theorem sub_tuple (K : PySem.W.Frag) (C : Addr) : PySem.W.subIn K (.type "tuple") (.ref C) = some false := by
  have e2 : PySem.fastBuiltinMro "tuple" = some [.type "tuple", .type "object"] := by decide +kernel
  show (PySem.fastBuiltinMro "tuple").map (·.contains (Value.ref C)) = some false
  rw [e2]
  rfl
def LawAt (P : Program) (w : World) (K : PySem.W.Frag) (mg : Str → Option Value) (fa : Addr) (h : Heap) : Prop :=
  ∃ (fd : FuncData) (cs : List (Addr × Addr)) (T : List (Addr × Str)), (∀ p ∈ cs, h.get? p.2 = some { cls := .none, data := .fields #[] }) ∧ (∀ p ∈ cs, K.lookup p.2 = none) ∧ (∀ p ∈ cs, PySem.W.CodeHd h p.1 p.2) ∧ (∀ q ∈ T, ∃ p ∈ cs, q.1 = p.2) ∧
    (∀ (s : Shared) (v : Value), BindsTo s fd ⟨[v], []⟩ [("_law_script", v)]) ∧ ∀ base : Heap, K.In base → base.Ns mainGlobals mg → (∀ p ∈ cs, LamX.TabB base mg p.1 p.2) → FnOk P w K mg base CX0 12 fa fd ["_law_script"] (spLawT K T)
theorem LawAt.s {l : PySem.W.OpenLaw} {w : World} {K : PySem.W.Frag} {mg : Str → Option Value} {fa : Addr} {h : Heap} (x : LawAt l.prog w K mg fa h) : LamX.LawAtS l w K CX0 12 63 "_law_script" mg fa h := by
  obtain ⟨fd, cs, T, h1, h2, h3, h4, h5, h6⟩ := x
  exact ⟨fd, cs, spLawT K T, h1, h2, h3, h5, fun H a ns hl _ hH hS => ⟨a, ns, rfl, hS, hl, fun q hq => by
    obtain ⟨p, hp, z⟩ := h4 q hq
    rw [z]
    exact LamX.TabS.nil (hH p hp), fun _ => rfl⟩, h6⟩
theorem all_mk {P : Program} {w : World} {K : PySem.W.Frag} {h : Heap} {mg : Str → Option Value} {fa : Addr} (X : K.In h) (G : h.Ns mainGlobals mg) (hfa : mg "law" = some (.ref fa))
    {c_VoteError : Addr}
    {c_BadTree : Addr}
    {c_NoBlock : Addr}
    {c_NoPlace : Addr}
    {c_Beneath : Addr}
    {c_NoOrder : Addr}
    {c_NoView : Addr}
    {c_OtherBlocks : Addr}
    {c_NoNumber : Addr}
    {c_Tree : Addr}
    {t_MOST_BLOCKS : PySem.Tok}
    {t_MOST_STEPS : PySem.Tok}
    {f_BadTree___init__ : Addr} {od_BadTree___init__ an_BadTree___init__ : Option Addr} {sl_BadTree___init__ : Array (Option Value)} {oc_BadTree___init__ kV_BadTree___init__ dc_BadTree___init__ pm_BadTree___init__ cd_BadTree___init__ ct_BadTree___init__ : Value}
    {f_is_within : Addr} {od_is_within an_is_within : Option Addr} {sl_is_within : Array (Option Value)} {oc_is_within kV_is_within dc_is_within pm_is_within cd_is_within ct_is_within : Value}
    {f_Tree___init__ : Addr} {od_Tree___init__ an_Tree___init__ : Option Addr} {sl_Tree___init__ : Array (Option Value)} {oc_Tree___init__ kV_Tree___init__ dc_Tree___init__ pm_Tree___init__ cd_Tree___init__ ct_Tree___init__ : Value}
    {f__comes_to_head : Addr} {od__comes_to_head an__comes_to_head : Option Addr} {sl__comes_to_head : Array (Option Value)} {oc__comes_to_head kV__comes_to_head dc__comes_to_head pm__comes_to_head cd__comes_to_head ct__comes_to_head : Value}
    {f_is_block : Addr} {od_is_block an_is_block : Option Addr} {sl_is_block : Array (Option Value)} {oc_is_block kV_is_block dc_is_block pm_is_block cd_is_block ct_is_block : Value}
    {f_is_place : Addr} {od_is_place an_is_place : Option Addr} {sl_is_place : Array (Option Value)} {oc_is_place kV_is_place dc_is_place pm_is_place cd_is_place ct_is_place : Value}
    {f_place_of : Addr} {od_place_of an_place_of : Option Addr} {sl_place_of : Array (Option Value)} {oc_place_of kV_place_of dc_place_of pm_place_of cd_place_of ct_place_of : Value}
    {f_parents : Addr} {od_parents an_parents : Option Addr} {sl_parents : Array (Option Value)} {oc_parents kV_parents dc_parents pm_parents cd_parents ct_parents : Value}
    {f_under : Addr} {od_under an_under : Option Addr} {sl_under : Array (Option Value)} {oc_under kV_under dc_under pm_under cd_under ct_under : Value}
    {f_beneath : Addr} {od_beneath an_beneath : Option Addr} {sl_beneath : Array (Option Value)} {oc_beneath kV_beneath dc_beneath pm_beneath cd_beneath ct_beneath : Value}
    {f_moved : Addr} {od_moved an_moved : Option Addr} {sl_moved : Array (Option Value)} {oc_moved kV_moved dc_moved pm_moved cd_moved ct_moved : Value}
    {f_called : Addr} {od_called an_called : Option Addr} {sl_called : Array (Option Value)} {oc_called kV_called dc_called pm_called cd_called ct_called : Value}
    {f__is_order : Addr} {od__is_order an__is_order : Option Addr} {sl__is_order : Array (Option Value)} {oc__is_order kV__is_order dc__is_order pm__is_order cd__is_order ct__is_order : Value}
    {f_is_view : Addr} {od_is_view an_is_view : Option Addr} {sl_is_view : Array (Option Value)} {oc_is_view kV_is_view dc_is_view pm_is_view cd_is_view ct_is_view : Value}
    {f_telling : Addr} {od_telling an_telling : Option Addr} {sl_telling : Array (Option Value)} {oc_telling kV_telling dc_telling pm_telling cd_telling ct_telling : Value}
    {f__row_told : Addr} {od__row_told an__row_told : Option Addr} {sl__row_told : Array (Option Value)} {oc__row_told kV__row_told dc__row_told pm__row_told cd__row_told ct__row_told : Value}
    {f__ties_told : Addr} {od__ties_told an__ties_told : Option Addr} {sl__ties_told : Array (Option Value)} {oc__ties_told kV__ties_told dc__ties_told pm__ties_told cd__ties_told ct__ties_told : Value}
    {f_unlike : Addr} {od_unlike an_unlike : Option Addr} {sl_unlike : Array (Option Value)} {oc_unlike kV_unlike dc_unlike pm_unlike cd_unlike ct_unlike : Value}
    {f_distance : Addr} {od_distance an_distance : Option Addr} {sl_distance : Array (Option Value)} {oc_distance kV_distance dc_distance pm_distance cd_distance ct_distance : Value}
    {f_twins : Addr} {od_twins an_twins : Option Addr} {sl_twins : Array (Option Value)} {oc_twins kV_twins dc_twins pm_twins cd_twins ct_twins : Value}
    {f__law_pool : Addr} {od__law_pool an__law_pool : Option Addr} {sl__law_pool : Array (Option Value)} {oc__law_pool kV__law_pool dc__law_pool pm__law_pool cd__law_pool ct__law_pool : Value}
    {f__law_draw : Addr} {od__law_draw an__law_draw : Option Addr} {sl__law_draw : Array (Option Value)} {oc__law_draw kV__law_draw dc__law_draw pm__law_draw cd__law_draw ct__law_draw : Value}
    {f__law_pick : Addr} {od__law_pick an__law_pick : Option Addr} {sl__law_pick : Array (Option Value)} {oc__law_pick kV__law_pick dc__law_pick pm__law_pick cd__law_pick ct__law_pick : Value}
    {f__law_is : Addr} {od__law_is an__law_is : Option Addr} {sl__law_is : Array (Option Value)} {oc__law_is kV__law_is dc__law_is pm__law_is cd__law_is ct__law_is : Value}
    {f__law_deep : Addr} {od__law_deep an__law_deep : Option Addr} {sl__law_deep : Array (Option Value)} {oc__law_deep kV__law_deep dc__law_deep pm__law_deep cd__law_deep ct__law_deep : Value}
    {f__law_is_number : Addr} {od__law_is_number an__law_is_number : Option Addr} {sl__law_is_number : Array (Option Value)} {oc__law_is_number kV__law_is_number dc__law_is_number pm__law_is_number cd__law_is_number ct__law_is_number : Value}
    {f__law_mixed : Addr} {od__law_mixed an__law_mixed : Option Addr} {sl__law_mixed : Array (Option Value)} {oc__law_mixed kV__law_mixed dc__law_mixed pm__law_mixed cd__law_mixed ct__law_mixed : Value}
    {f__law_hung : Addr} {od__law_hung an__law_hung : Option Addr} {sl__law_hung : Array (Option Value)} {oc__law_hung kV__law_hung dc__law_hung pm__law_hung cd__law_hung ct__law_hung : Value}
    {f__law_way : Addr} {od__law_way an__law_way : Option Addr} {sl__law_way : Array (Option Value)} {oc__law_way kV__law_way dc__law_way pm__law_way cd__law_way ct__law_way : Value}
    {f__law_odd : Addr} {od__law_odd an__law_odd : Option Addr} {sl__law_odd : Array (Option Value)} {oc__law_odd kV__law_odd dc__law_odd pm__law_odd cd__law_odd ct__law_odd : Value}
    {f__law_word : Addr} {od__law_word an__law_word : Option Addr} {sl__law_word : Array (Option Value)} {oc__law_word kV__law_word dc__law_word pm__law_word cd__law_word ct__law_word : Value}
    {f__law_order_refused : Addr} {od__law_order_refused an__law_order_refused : Option Addr} {sl__law_order_refused : Array (Option Value)} {oc__law_order_refused kV__law_order_refused dc__law_order_refused pm__law_order_refused ct__law_order_refused : Value}
    {f__law_views_refused : Addr} {od__law_views_refused an__law_views_refused : Option Addr} {sl__law_views_refused : Array (Option Value)} {oc__law_views_refused kV__law_views_refused dc__law_views_refused pm__law_views_refused ct__law_views_refused : Value}
    {f_law : Addr} {od_law an_law : Option Addr} {sl_law : Array (Option Value)} {oc_law kV_law dc_law pm_law ct_law : Value}
    {nmBadTree qBadTree : Str} {NBadTree : Addr} {bsBadTree bmBadTree : List Value} {snBadTree : List Str} {subBadTree : List Value} {abBadTree : Bool} {colBadTree : Option Bool} {ddBadTree : Option Addr} {m0BadTree m1BadTree m2BadTree m3BadTree m5BadTree : Option Value}
    {nmUNoBlock qUNoBlock : Str} {NUNoBlock : Addr} {bsUNoBlock bmUNoBlock : List Value} {snUNoBlock : List Str} {subUNoBlock : List Value} {abUNoBlock : Bool} {colUNoBlock : Option Bool} {ddUNoBlock : Option Addr} {u0NoBlock u1NoBlock u2NoBlock u3NoBlock u5NoBlock : Option Value} {f_UNoBlock : Addr} {ocUNoBlock : Value} {odUNoBlock anUNoBlock : Option Addr} {kVUNoBlock docUNoBlock pmUNoBlock ctUNoBlock : Value} {cdUNoBlock ccUNoBlock : Addr} {slUNoBlock : Array (Option Value)} {qqUNoBlock : Str} {eNoBlock p0NoBlock p1NoBlock p2NoBlock p3NoBlock p4NoBlock : Pos} {clUNoBlock : Value} {cldUNoBlock : Option Addr} {cslUNoBlock : Array (Option Value)} {cclUNoBlock : Value} {cddUNoBlock : Option Addr} {vsUNoBlock : Array Value} {ccsUNoBlock : Array (Option Value)} {fileUNoBlock : Str} {tfUNoBlock : Tok}
    {nmUNoPlace qUNoPlace : Str} {NUNoPlace : Addr} {bsUNoPlace bmUNoPlace : List Value} {snUNoPlace : List Str} {subUNoPlace : List Value} {abUNoPlace : Bool} {colUNoPlace : Option Bool} {ddUNoPlace : Option Addr} {u0NoPlace u1NoPlace u2NoPlace u3NoPlace u5NoPlace : Option Value} {f_UNoPlace : Addr} {ocUNoPlace : Value} {odUNoPlace anUNoPlace : Option Addr} {kVUNoPlace docUNoPlace pmUNoPlace ctUNoPlace : Value} {cdUNoPlace ccUNoPlace : Addr} {slUNoPlace : Array (Option Value)} {qqUNoPlace : Str} {eNoPlace p0NoPlace p1NoPlace p2NoPlace p3NoPlace p4NoPlace : Pos} {clUNoPlace : Value} {cldUNoPlace : Option Addr} {cslUNoPlace : Array (Option Value)} {cclUNoPlace : Value} {cddUNoPlace : Option Addr} {vsUNoPlace : Array Value} {ccsUNoPlace : Array (Option Value)} {fileUNoPlace : Str} {tfUNoPlace : Tok}
    {nmUBeneath qUBeneath : Str} {NUBeneath : Addr} {bsUBeneath bmUBeneath : List Value} {snUBeneath : List Str} {subUBeneath : List Value} {abUBeneath : Bool} {colUBeneath : Option Bool} {ddUBeneath : Option Addr} {u0Beneath u1Beneath u2Beneath u3Beneath u5Beneath : Option Value} {f_UBeneath : Addr} {ocUBeneath : Value} {odUBeneath anUBeneath : Option Addr} {kVUBeneath docUBeneath pmUBeneath ctUBeneath : Value} {cdUBeneath ccUBeneath : Addr} {slUBeneath : Array (Option Value)} {qqUBeneath : Str} {eBeneath p0Beneath p1Beneath p2Beneath p3Beneath p4Beneath : Pos} {clUBeneath : Value} {cldUBeneath : Option Addr} {cslUBeneath : Array (Option Value)} {cclUBeneath : Value} {cddUBeneath : Option Addr} {vsUBeneath : Array Value} {ccsUBeneath : Array (Option Value)} {fileUBeneath : Str} {tfUBeneath : Tok}
    {nmUNoOrder qUNoOrder : Str} {NUNoOrder : Addr} {bsUNoOrder bmUNoOrder : List Value} {snUNoOrder : List Str} {subUNoOrder : List Value} {abUNoOrder : Bool} {colUNoOrder : Option Bool} {ddUNoOrder : Option Addr} {u0NoOrder u1NoOrder u2NoOrder u3NoOrder u5NoOrder : Option Value} {f_UNoOrder : Addr} {ocUNoOrder : Value} {odUNoOrder anUNoOrder : Option Addr} {kVUNoOrder docUNoOrder pmUNoOrder ctUNoOrder : Value} {cdUNoOrder ccUNoOrder : Addr} {slUNoOrder : Array (Option Value)} {qqUNoOrder : Str} {eNoOrder p0NoOrder p1NoOrder p2NoOrder p3NoOrder p4NoOrder : Pos} {clUNoOrder : Value} {cldUNoOrder : Option Addr} {cslUNoOrder : Array (Option Value)} {cclUNoOrder : Value} {cddUNoOrder : Option Addr} {vsUNoOrder : Array Value} {ccsUNoOrder : Array (Option Value)} {fileUNoOrder : Str} {tfUNoOrder : Tok}
    {nmUNoView qUNoView : Str} {NUNoView : Addr} {bsUNoView bmUNoView : List Value} {snUNoView : List Str} {subUNoView : List Value} {abUNoView : Bool} {colUNoView : Option Bool} {ddUNoView : Option Addr} {u0NoView u1NoView u2NoView u3NoView u5NoView : Option Value} {f_UNoView : Addr} {ocUNoView : Value} {odUNoView anUNoView : Option Addr} {kVUNoView docUNoView pmUNoView ctUNoView : Value} {cdUNoView ccUNoView : Addr} {slUNoView : Array (Option Value)} {qqUNoView : Str} {eNoView p0NoView p1NoView p2NoView p3NoView p4NoView : Pos} {clUNoView : Value} {cldUNoView : Option Addr} {cslUNoView : Array (Option Value)} {cclUNoView : Value} {cddUNoView : Option Addr} {vsUNoView : Array Value} {ccsUNoView : Array (Option Value)} {fileUNoView : Str} {tfUNoView : Tok}
    {nmUOtherBlocks qUOtherBlocks : Str} {NUOtherBlocks : Addr} {bsUOtherBlocks bmUOtherBlocks : List Value} {snUOtherBlocks : List Str} {subUOtherBlocks : List Value} {abUOtherBlocks : Bool} {colUOtherBlocks : Option Bool} {ddUOtherBlocks : Option Addr} {u0OtherBlocks u1OtherBlocks u2OtherBlocks u3OtherBlocks u5OtherBlocks : Option Value} {f_UOtherBlocks : Addr} {ocUOtherBlocks : Value} {odUOtherBlocks anUOtherBlocks : Option Addr} {kVUOtherBlocks docUOtherBlocks pmUOtherBlocks ctUOtherBlocks : Value} {cdUOtherBlocks ccUOtherBlocks : Addr} {slUOtherBlocks : Array (Option Value)} {qqUOtherBlocks : Str} {eOtherBlocks p0OtherBlocks p1OtherBlocks p2OtherBlocks p3OtherBlocks p4OtherBlocks : Pos} {clUOtherBlocks : Value} {cldUOtherBlocks : Option Addr} {cslUOtherBlocks : Array (Option Value)} {cclUOtherBlocks : Value} {cddUOtherBlocks : Option Addr} {vsUOtherBlocks : Array Value} {ccsUOtherBlocks : Array (Option Value)} {fileUOtherBlocks : Str} {tfUOtherBlocks : Tok}
    {nmUNoNumber qUNoNumber : Str} {NUNoNumber : Addr} {bsUNoNumber bmUNoNumber : List Value} {snUNoNumber : List Str} {subUNoNumber : List Value} {abUNoNumber : Bool} {colUNoNumber : Option Bool} {ddUNoNumber : Option Addr} {u0NoNumber u1NoNumber u2NoNumber u3NoNumber u5NoNumber : Option Value} {f_UNoNumber : Addr} {ocUNoNumber : Value} {odUNoNumber anUNoNumber : Option Addr} {kVUNoNumber docUNoNumber pmUNoNumber ctUNoNumber : Value} {cdUNoNumber ccUNoNumber : Addr} {slUNoNumber : Array (Option Value)} {qqUNoNumber : Str} {eNoNumber p0NoNumber p1NoNumber p2NoNumber p3NoNumber p4NoNumber : Pos} {clUNoNumber : Value} {cldUNoNumber : Option Addr} {cslUNoNumber : Array (Option Value)} {cclUNoNumber : Value} {cddUNoNumber : Option Addr} {vsUNoNumber : Array Value} {ccsUNoNumber : Array (Option Value)} {fileUNoNumber : Str} {tfUNoNumber : Tok}
    {f_Tree___eq__ : Addr} {od_Tree___eq__ an_Tree___eq__ : Option Addr} {sl_Tree___eq__ : Array (Option Value)} {oc_Tree___eq__ kV_Tree___eq__ dc_Tree___eq__ pm_Tree___eq__ cd_Tree___eq__ ct_Tree___eq__ : Value}
    {nmNTree qNTree : Str} {NNTree : Addr} {bsNTree : List Value} {hdNTree : Bool} {snNTree : List Str} {subNTree : List Value} {abNTree : Bool} {colNTree : Option Bool} {ddNTree : Option Addr} {w0Tree w1Tree w2Tree w3Tree w5Tree : Option Value} {newNTree : String}
    {cc_law P_law : Addr} {ccl_law : Value} {ccd_law : Option Addr} {vs_law : Array Value} {ccs_law : Array (Option Value)}
    {cc_ord P_ord : Addr} {ccl_ord : Value} {ccd_ord : Option Addr} {vs_ord : Array Value} {ccs_ord : Array (Option Value)}
    {cc_vw P_vw : Addr} {ccl_vw : Value} {ccd_vw : Option Addr} {vs_vw : Array Value} {ccs_vw : Array (Option Value)}
    (n_VoteError : PySem.W.nsIn K mainGlobals "VoteError" = some (some (.ref c_VoteError)))
    (n_BadTree : PySem.W.nsIn K mainGlobals "BadTree" = some (some (.ref c_BadTree)))
    (n_NoBlock : PySem.W.nsIn K mainGlobals "NoBlock" = some (some (.ref c_NoBlock)))
    (n_NoPlace : PySem.W.nsIn K mainGlobals "NoPlace" = some (some (.ref c_NoPlace)))
    (n_Beneath : PySem.W.nsIn K mainGlobals "Beneath" = some (some (.ref c_Beneath)))
    (n_NoOrder : PySem.W.nsIn K mainGlobals "NoOrder" = some (some (.ref c_NoOrder)))
    (n_NoView : PySem.W.nsIn K mainGlobals "NoView" = some (some (.ref c_NoView)))
    (n_OtherBlocks : PySem.W.nsIn K mainGlobals "OtherBlocks" = some (some (.ref c_OtherBlocks)))
    (n_NoNumber : PySem.W.nsIn K mainGlobals "NoNumber" = some (some (.ref c_NoNumber)))
    (n_Tree : PySem.W.nsIn K mainGlobals "Tree" = some (some (.ref c_Tree)))
    (n_MOST_BLOCKS : PySem.W.nsIn K mainGlobals "MOST_BLOCKS" = some (some (.int 40 t_MOST_BLOCKS)))
    (n_MOST_STEPS : PySem.W.nsIn K mainGlobals "MOST_STEPS" = some (some (.int 4 t_MOST_STEPS)))
    (z_ValueError : PySem.W.nsIn K mainGlobals "ValueError" = some none)
    (z_abs : PySem.W.nsIn K mainGlobals "abs" = some none)
    (z_all : PySem.W.nsIn K mainGlobals "all" = some none)
    (z_bool : PySem.W.nsIn K mainGlobals "bool" = some none)
    (z_dict : PySem.W.nsIn K mainGlobals "dict" = some none)
    (z_enumerate : PySem.W.nsIn K mainGlobals "enumerate" = some none)
    (z_int : PySem.W.nsIn K mainGlobals "int" = some none)
    (z_isinstance : PySem.W.nsIn K mainGlobals "isinstance" = some none)
    (z_len : PySem.W.nsIn K mainGlobals "len" = some none)
    (z_list : PySem.W.nsIn K mainGlobals "list" = some none)
    (z_range : PySem.W.nsIn K mainGlobals "range" = some none)
    (z_sorted : PySem.W.nsIn K mainGlobals "sorted" = some none)
    (z_str : PySem.W.nsIn K mainGlobals "str" = some none)
    (z_super : PySem.W.nsIn K mainGlobals "super" = some none)
    (z_tuple : PySem.W.nsIn K mainGlobals "tuple" = some none)
    (a_BadTree___init__ : PySem.W.findIn K (.ref c_BadTree) "__init__" = some (some (.ref f_BadTree___init__)))
    (i_BadTree___init__ : PySem.W.isFn K (.ref f_BadTree___init__) = true)
    (l_BadTree___init__ : K.lookup f_BadTree___init__ = some ⟨oc_BadTree___init__, od_BadTree___init__, .func (PySem.W.fnOf "__init__" "BadTree.__init__" (defArgs s_BadTree___init__) (defBody s_BadTree___init__) (defScope s_BadTree___init__) .none kV_BadTree___init__ dc_BadTree___init__ pm_BadTree___init__ an_BadTree___init__ cd_BadTree___init__ ct_BadTree___init__), sl_BadTree___init__⟩)
    (c_BadTree___init__ : PySem.W.codeIn K cd_BadTree___init__ "BadTree.__init__" = true)
    (k_BadTree___init__ : PySem.W.keepIn K (.ref f_BadTree___init__) = true)
    (a_is_within : PySem.W.nsIn K mainGlobals "is_within" = some (some (.ref f_is_within)))
    (l_is_within : K.lookup f_is_within = some ⟨oc_is_within, od_is_within, .func (PySem.W.fnOf "is_within" "is_within" (defArgs s_is_within) (defBody s_is_within) (defScope s_is_within) .none kV_is_within dc_is_within pm_is_within an_is_within cd_is_within ct_is_within), sl_is_within⟩)
    (c_is_within : PySem.W.codeIn K cd_is_within "is_within" = true)
    (k_is_within : PySem.W.keepIn K (.ref f_is_within) = true)
    (a_Tree___init__ : PySem.W.findIn K (.ref c_Tree) "__init__" = some (some (.ref f_Tree___init__)))
    (i_Tree___init__ : PySem.W.isFn K (.ref f_Tree___init__) = true)
    (l_Tree___init__ : K.lookup f_Tree___init__ = some ⟨oc_Tree___init__, od_Tree___init__, .func (PySem.W.fnOf "__init__" "Tree.__init__" (defArgs s_Tree___init__) (defBody s_Tree___init__) (defScope s_Tree___init__) .none kV_Tree___init__ dc_Tree___init__ pm_Tree___init__ an_Tree___init__ cd_Tree___init__ ct_Tree___init__), sl_Tree___init__⟩)
    (c_Tree___init__ : PySem.W.codeIn K cd_Tree___init__ "Tree.__init__" = true)
    (k_Tree___init__ : PySem.W.keepIn K (.ref f_Tree___init__) = true)
    (a__comes_to_head : PySem.W.nsIn K mainGlobals "_comes_to_head" = some (some (.ref f__comes_to_head)))
    (l__comes_to_head : K.lookup f__comes_to_head = some ⟨oc__comes_to_head, od__comes_to_head, .func (PySem.W.fnOf "_comes_to_head" "_comes_to_head" (defArgs s__comes_to_head) (defBody s__comes_to_head) (defScope s__comes_to_head) .none kV__comes_to_head dc__comes_to_head pm__comes_to_head an__comes_to_head cd__comes_to_head ct__comes_to_head), sl__comes_to_head⟩)
    (c__comes_to_head : PySem.W.codeIn K cd__comes_to_head "_comes_to_head" = true)
    (k__comes_to_head : PySem.W.keepIn K (.ref f__comes_to_head) = true)
    (a_is_block : PySem.W.nsIn K mainGlobals "is_block" = some (some (.ref f_is_block)))
    (l_is_block : K.lookup f_is_block = some ⟨oc_is_block, od_is_block, .func (PySem.W.fnOf "is_block" "is_block" (defArgs s_is_block) (defBody s_is_block) (defScope s_is_block) .none kV_is_block dc_is_block pm_is_block an_is_block cd_is_block ct_is_block), sl_is_block⟩)
    (c_is_block : PySem.W.codeIn K cd_is_block "is_block" = true)
    (k_is_block : PySem.W.keepIn K (.ref f_is_block) = true)
    (a_is_place : PySem.W.nsIn K mainGlobals "is_place" = some (some (.ref f_is_place)))
    (l_is_place : K.lookup f_is_place = some ⟨oc_is_place, od_is_place, .func (PySem.W.fnOf "is_place" "is_place" (defArgs s_is_place) (defBody s_is_place) (defScope s_is_place) .none kV_is_place dc_is_place pm_is_place an_is_place cd_is_place ct_is_place), sl_is_place⟩)
    (c_is_place : PySem.W.codeIn K cd_is_place "is_place" = true)
    (k_is_place : PySem.W.keepIn K (.ref f_is_place) = true)
    (a_place_of : PySem.W.nsIn K mainGlobals "place_of" = some (some (.ref f_place_of)))
    (l_place_of : K.lookup f_place_of = some ⟨oc_place_of, od_place_of, .func (PySem.W.fnOf "place_of" "place_of" (defArgs s_place_of) (defBody s_place_of) (defScope s_place_of) .none kV_place_of dc_place_of pm_place_of an_place_of cd_place_of ct_place_of), sl_place_of⟩)
    (c_place_of : PySem.W.codeIn K cd_place_of "place_of" = true)
    (k_place_of : PySem.W.keepIn K (.ref f_place_of) = true)
    (a_parents : PySem.W.nsIn K mainGlobals "parents" = some (some (.ref f_parents)))
    (l_parents : K.lookup f_parents = some ⟨oc_parents, od_parents, .func (PySem.W.fnOf "parents" "parents" (defArgs s_parents) (defBody s_parents) (defScope s_parents) .none kV_parents dc_parents pm_parents an_parents cd_parents ct_parents), sl_parents⟩)
    (c_parents : PySem.W.codeIn K cd_parents "parents" = true)
    (k_parents : PySem.W.keepIn K (.ref f_parents) = true)
    (a_under : PySem.W.nsIn K mainGlobals "under" = some (some (.ref f_under)))
    (l_under : K.lookup f_under = some ⟨oc_under, od_under, .func (PySem.W.fnOf "under" "under" (defArgs s_under) (defBody s_under) (defScope s_under) .none kV_under dc_under pm_under an_under cd_under ct_under), sl_under⟩)
    (c_under : PySem.W.codeIn K cd_under "under" = true)
    (k_under : PySem.W.keepIn K (.ref f_under) = true)
    (a_beneath : PySem.W.nsIn K mainGlobals "beneath" = some (some (.ref f_beneath)))
    (l_beneath : K.lookup f_beneath = some ⟨oc_beneath, od_beneath, .func (PySem.W.fnOf "beneath" "beneath" (defArgs s_beneath) (defBody s_beneath) (defScope s_beneath) .none kV_beneath dc_beneath pm_beneath an_beneath cd_beneath ct_beneath), sl_beneath⟩)
    (c_beneath : PySem.W.codeIn K cd_beneath "beneath" = true)
    (k_beneath : PySem.W.keepIn K (.ref f_beneath) = true)
    (a_moved : PySem.W.nsIn K mainGlobals "moved" = some (some (.ref f_moved)))
    (l_moved : K.lookup f_moved = some ⟨oc_moved, od_moved, .func (PySem.W.fnOf "moved" "moved" (defArgs s_moved) (defBody s_moved) (defScope s_moved) .none kV_moved dc_moved pm_moved an_moved cd_moved ct_moved), sl_moved⟩)
    (c_moved : PySem.W.codeIn K cd_moved "moved" = true)
    (k_moved : PySem.W.keepIn K (.ref f_moved) = true)
    (a_called : PySem.W.nsIn K mainGlobals "called" = some (some (.ref f_called)))
    (l_called : K.lookup f_called = some ⟨oc_called, od_called, .func (PySem.W.fnOf "called" "called" (defArgs s_called) (defBody s_called) (defScope s_called) .none kV_called dc_called pm_called an_called cd_called ct_called), sl_called⟩)
    (c_called : PySem.W.codeIn K cd_called "called" = true)
    (k_called : PySem.W.keepIn K (.ref f_called) = true)
    (a__is_order : PySem.W.nsIn K mainGlobals "_is_order" = some (some (.ref f__is_order)))
    (l__is_order : K.lookup f__is_order = some ⟨oc__is_order, od__is_order, .func (PySem.W.fnOf "_is_order" "_is_order" (defArgs s__is_order) (defBody s__is_order) (defScope s__is_order) .none kV__is_order dc__is_order pm__is_order an__is_order cd__is_order ct__is_order), sl__is_order⟩)
    (c__is_order : PySem.W.codeIn K cd__is_order "_is_order" = true)
    (k__is_order : PySem.W.keepIn K (.ref f__is_order) = true)
    (a_is_view : PySem.W.nsIn K mainGlobals "is_view" = some (some (.ref f_is_view)))
    (l_is_view : K.lookup f_is_view = some ⟨oc_is_view, od_is_view, .func (PySem.W.fnOf "is_view" "is_view" (defArgs s_is_view) (defBody s_is_view) (defScope s_is_view) .none kV_is_view dc_is_view pm_is_view an_is_view cd_is_view ct_is_view), sl_is_view⟩)
    (c_is_view : PySem.W.codeIn K cd_is_view "is_view" = true)
    (k_is_view : PySem.W.keepIn K (.ref f_is_view) = true)
    (a_telling : PySem.W.nsIn K mainGlobals "telling" = some (some (.ref f_telling)))
    (l_telling : K.lookup f_telling = some ⟨oc_telling, od_telling, .func (PySem.W.fnOf "telling" "telling" (defArgs s_telling) (defBody s_telling) (defScope s_telling) .none kV_telling dc_telling pm_telling an_telling cd_telling ct_telling), sl_telling⟩)
    (c_telling : PySem.W.codeIn K cd_telling "telling" = true)
    (k_telling : PySem.W.keepIn K (.ref f_telling) = true)
    (a__row_told : PySem.W.nsIn K mainGlobals "_row_told" = some (some (.ref f__row_told)))
    (l__row_told : K.lookup f__row_told = some ⟨oc__row_told, od__row_told, .func (PySem.W.fnOf "_row_told" "_row_told" (defArgs s__row_told) (defBody s__row_told) (defScope s__row_told) .none kV__row_told dc__row_told pm__row_told an__row_told cd__row_told ct__row_told), sl__row_told⟩)
    (c__row_told : PySem.W.codeIn K cd__row_told "_row_told" = true)
    (k__row_told : PySem.W.keepIn K (.ref f__row_told) = true)
    (a__ties_told : PySem.W.nsIn K mainGlobals "_ties_told" = some (some (.ref f__ties_told)))
    (l__ties_told : K.lookup f__ties_told = some ⟨oc__ties_told, od__ties_told, .func (PySem.W.fnOf "_ties_told" "_ties_told" (defArgs s__ties_told) (defBody s__ties_told) (defScope s__ties_told) .none kV__ties_told dc__ties_told pm__ties_told an__ties_told cd__ties_told ct__ties_told), sl__ties_told⟩)
    (c__ties_told : PySem.W.codeIn K cd__ties_told "_ties_told" = true)
    (k__ties_told : PySem.W.keepIn K (.ref f__ties_told) = true)
    (a_unlike : PySem.W.nsIn K mainGlobals "unlike" = some (some (.ref f_unlike)))
    (l_unlike : K.lookup f_unlike = some ⟨oc_unlike, od_unlike, .func (PySem.W.fnOf "unlike" "unlike" (defArgs s_unlike) (defBody s_unlike) (defScope s_unlike) .none kV_unlike dc_unlike pm_unlike an_unlike cd_unlike ct_unlike), sl_unlike⟩)
    (c_unlike : PySem.W.codeIn K cd_unlike "unlike" = true)
    (k_unlike : PySem.W.keepIn K (.ref f_unlike) = true)
    (a_distance : PySem.W.nsIn K mainGlobals "distance" = some (some (.ref f_distance)))
    (l_distance : K.lookup f_distance = some ⟨oc_distance, od_distance, .func (PySem.W.fnOf "distance" "distance" (defArgs s_distance) (defBody s_distance) (defScope s_distance) .none kV_distance dc_distance pm_distance an_distance cd_distance ct_distance), sl_distance⟩)
    (c_distance : PySem.W.codeIn K cd_distance "distance" = true)
    (k_distance : PySem.W.keepIn K (.ref f_distance) = true)
    (a_twins : PySem.W.nsIn K mainGlobals "twins" = some (some (.ref f_twins)))
    (l_twins : K.lookup f_twins = some ⟨oc_twins, od_twins, .func (PySem.W.fnOf "twins" "twins" (defArgs s_twins) (defBody s_twins) (defScope s_twins) .none kV_twins dc_twins pm_twins an_twins cd_twins ct_twins), sl_twins⟩)
    (c_twins : PySem.W.codeIn K cd_twins "twins" = true)
    (k_twins : PySem.W.keepIn K (.ref f_twins) = true)
    (a__law_pool : PySem.W.nsIn K mainGlobals "_law_pool" = some (some (.ref f__law_pool)))
    (l__law_pool : K.lookup f__law_pool = some ⟨oc__law_pool, od__law_pool, .func (PySem.W.fnOf "_law_pool" "_law_pool" (defArgs s__law_pool) (defBody s__law_pool) (defScope s__law_pool) .none kV__law_pool dc__law_pool pm__law_pool an__law_pool cd__law_pool ct__law_pool), sl__law_pool⟩)
    (c__law_pool : PySem.W.codeIn K cd__law_pool "_law_pool" = true)
    (k__law_pool : PySem.W.keepIn K (.ref f__law_pool) = true)
    (a__law_draw : PySem.W.nsIn K mainGlobals "_law_draw" = some (some (.ref f__law_draw)))
    (l__law_draw : K.lookup f__law_draw = some ⟨oc__law_draw, od__law_draw, .func (PySem.W.fnOf "_law_draw" "_law_draw" (defArgs s__law_draw) (defBody s__law_draw) (defScope s__law_draw) .none kV__law_draw dc__law_draw pm__law_draw an__law_draw cd__law_draw ct__law_draw), sl__law_draw⟩)
    (c__law_draw : PySem.W.codeIn K cd__law_draw "_law_draw" = true)
    (k__law_draw : PySem.W.keepIn K (.ref f__law_draw) = true)
    (a__law_pick : PySem.W.nsIn K mainGlobals "_law_pick" = some (some (.ref f__law_pick)))
    (l__law_pick : K.lookup f__law_pick = some ⟨oc__law_pick, od__law_pick, .func (PySem.W.fnOf "_law_pick" "_law_pick" (defArgs s__law_pick) (defBody s__law_pick) (defScope s__law_pick) .none kV__law_pick dc__law_pick pm__law_pick an__law_pick cd__law_pick ct__law_pick), sl__law_pick⟩)
    (c__law_pick : PySem.W.codeIn K cd__law_pick "_law_pick" = true)
    (k__law_pick : PySem.W.keepIn K (.ref f__law_pick) = true)
    (a__law_is : PySem.W.nsIn K mainGlobals "_law_is" = some (some (.ref f__law_is)))
    (l__law_is : K.lookup f__law_is = some ⟨oc__law_is, od__law_is, .func (PySem.W.fnOf "_law_is" "_law_is" (defArgs s__law_is) (defBody s__law_is) (defScope s__law_is) .none kV__law_is dc__law_is pm__law_is an__law_is cd__law_is ct__law_is), sl__law_is⟩)
    (c__law_is : PySem.W.codeIn K cd__law_is "_law_is" = true)
    (k__law_is : PySem.W.keepIn K (.ref f__law_is) = true)
    (a__law_deep : PySem.W.nsIn K mainGlobals "_law_deep" = some (some (.ref f__law_deep)))
    (l__law_deep : K.lookup f__law_deep = some ⟨oc__law_deep, od__law_deep, .func (PySem.W.fnOf "_law_deep" "_law_deep" (defArgs s__law_deep) (defBody s__law_deep) (defScope s__law_deep) .none kV__law_deep dc__law_deep pm__law_deep an__law_deep cd__law_deep ct__law_deep), sl__law_deep⟩)
    (c__law_deep : PySem.W.codeIn K cd__law_deep "_law_deep" = true)
    (k__law_deep : PySem.W.keepIn K (.ref f__law_deep) = true)
    (a__law_is_number : PySem.W.nsIn K mainGlobals "_law_is_number" = some (some (.ref f__law_is_number)))
    (l__law_is_number : K.lookup f__law_is_number = some ⟨oc__law_is_number, od__law_is_number, .func (PySem.W.fnOf "_law_is_number" "_law_is_number" (defArgs s__law_is_number) (defBody s__law_is_number) (defScope s__law_is_number) .none kV__law_is_number dc__law_is_number pm__law_is_number an__law_is_number cd__law_is_number ct__law_is_number), sl__law_is_number⟩)
    (c__law_is_number : PySem.W.codeIn K cd__law_is_number "_law_is_number" = true)
    (k__law_is_number : PySem.W.keepIn K (.ref f__law_is_number) = true)
    (a__law_mixed : PySem.W.nsIn K mainGlobals "_law_mixed" = some (some (.ref f__law_mixed)))
    (l__law_mixed : K.lookup f__law_mixed = some ⟨oc__law_mixed, od__law_mixed, .func (PySem.W.fnOf "_law_mixed" "_law_mixed" (defArgs s__law_mixed) (defBody s__law_mixed) (defScope s__law_mixed) .none kV__law_mixed dc__law_mixed pm__law_mixed an__law_mixed cd__law_mixed ct__law_mixed), sl__law_mixed⟩)
    (c__law_mixed : PySem.W.codeIn K cd__law_mixed "_law_mixed" = true)
    (k__law_mixed : PySem.W.keepIn K (.ref f__law_mixed) = true)
    (a__law_hung : PySem.W.nsIn K mainGlobals "_law_hung" = some (some (.ref f__law_hung)))
    (l__law_hung : K.lookup f__law_hung = some ⟨oc__law_hung, od__law_hung, .func (PySem.W.fnOf "_law_hung" "_law_hung" (defArgs s__law_hung) (defBody s__law_hung) (defScope s__law_hung) .none kV__law_hung dc__law_hung pm__law_hung an__law_hung cd__law_hung ct__law_hung), sl__law_hung⟩)
    (c__law_hung : PySem.W.codeIn K cd__law_hung "_law_hung" = true)
    (k__law_hung : PySem.W.keepIn K (.ref f__law_hung) = true)
    (a__law_way : PySem.W.nsIn K mainGlobals "_law_way" = some (some (.ref f__law_way)))
    (l__law_way : K.lookup f__law_way = some ⟨oc__law_way, od__law_way, .func (PySem.W.fnOf "_law_way" "_law_way" (defArgs s__law_way) (defBody s__law_way) (defScope s__law_way) .none kV__law_way dc__law_way pm__law_way an__law_way cd__law_way ct__law_way), sl__law_way⟩)
    (c__law_way : PySem.W.codeIn K cd__law_way "_law_way" = true)
    (k__law_way : PySem.W.keepIn K (.ref f__law_way) = true)
    (a__law_odd : PySem.W.nsIn K mainGlobals "_law_odd" = some (some (.ref f__law_odd)))
    (l__law_odd : K.lookup f__law_odd = some ⟨oc__law_odd, od__law_odd, .func (PySem.W.fnOf "_law_odd" "_law_odd" (defArgs s__law_odd) (defBody s__law_odd) (defScope s__law_odd) .none kV__law_odd dc__law_odd pm__law_odd an__law_odd cd__law_odd ct__law_odd), sl__law_odd⟩)
    (c__law_odd : PySem.W.codeIn K cd__law_odd "_law_odd" = true)
    (k__law_odd : PySem.W.keepIn K (.ref f__law_odd) = true)
    (a__law_word : PySem.W.nsIn K mainGlobals "_law_word" = some (some (.ref f__law_word)))
    (l__law_word : K.lookup f__law_word = some ⟨oc__law_word, od__law_word, .func (PySem.W.fnOf "_law_word" "_law_word" (defArgs s__law_word) (defBody s__law_word) (defScope s__law_word) .none kV__law_word dc__law_word pm__law_word an__law_word cd__law_word ct__law_word), sl__law_word⟩)
    (c__law_word : PySem.W.codeIn K cd__law_word "_law_word" = true)
    (k__law_word : PySem.W.keepIn K (.ref f__law_word) = true)
    (a__law_order_refused : PySem.W.nsIn K mainGlobals "_law_order_refused" = some (some (.ref f__law_order_refused)))
    (l__law_order_refused : K.lookup f__law_order_refused = some ⟨oc__law_order_refused, od__law_order_refused, .func (PySem.W.fnOf "_law_order_refused" "_law_order_refused" (defArgs s__law_order_refused) (defBody s__law_order_refused) (defScope s__law_order_refused) .none kV__law_order_refused dc__law_order_refused pm__law_order_refused an__law_order_refused (.ref cc_ord) ct__law_order_refused), sl__law_order_refused⟩)
    (c__law_order_refused : PySem.W.codeIn K (.ref cc_ord) "_law_order_refused" = true)
    (k__law_order_refused : PySem.W.keepIn K (.ref f__law_order_refused) = true)
    (a__law_views_refused : PySem.W.nsIn K mainGlobals "_law_views_refused" = some (some (.ref f__law_views_refused)))
    (l__law_views_refused : K.lookup f__law_views_refused = some ⟨oc__law_views_refused, od__law_views_refused, .func (PySem.W.fnOf "_law_views_refused" "_law_views_refused" (defArgs s__law_views_refused) (defBody s__law_views_refused) (defScope s__law_views_refused) .none kV__law_views_refused dc__law_views_refused pm__law_views_refused an__law_views_refused (.ref cc_vw) ct__law_views_refused), sl__law_views_refused⟩)
    (c__law_views_refused : PySem.W.codeIn K (.ref cc_vw) "_law_views_refused" = true)
    (k__law_views_refused : PySem.W.keepIn K (.ref f__law_views_refused) = true)
    (a_law : PySem.W.nsIn K mainGlobals "law" = some (some (.ref f_law)))
    (l_law : K.lookup f_law = some ⟨oc_law, od_law, .func (PySem.W.fnOf "law" "law" (defArgs s_law) (defBody s_law) (defScope s_law) .none kV_law dc_law pm_law an_law (.ref cc_law) ct_law), sl_law⟩)
    (c_law : PySem.W.codeIn K (.ref cc_law) "law" = true)
    (k_law : PySem.W.keepIn K (.ref f_law) = true)
    (pgTree : PySem.W.plainGet K c_Tree Str.empty = true)
    (hdTree : PySem.W.hasDictIn K c_Tree = true)
    (poTree : PySem.W.plainOver K c_Tree = true)
    (saTree : PySem.W.findIn K (.ref c_Tree) "__setattr__" = some (some (.builtin "object.__setattr__")))
    (mkTree : PySem.W.makesIn K c_Tree = true)
    (kcTree : PySem.W.keepIn K (.ref c_Tree) = true)
    (noTree_hung : PySem.W.findIn K (.ref c_Tree) "hung" = some none)
    (haTree : PySem.W.findIn K (.ref c_Tree) "__class__" = some (some (.builtin "object.__class__")))
    (hmTree : PySem.W.mroIn K c_Tree (.type "object") = some true)
    (icTree : PySem.W.isClsIn K c_Tree = true)
    (tyTree : PySem.W.typeIn K (.ref c_Tree) = some (.type "type"))
    (spO : PySem.W.specialIn K (.builtin "object.__class__") "__get__" = some (some (.builtin "getset_descriptor.__get__")))
    (tkO : PySem.W.takesIn K (.builtin "object.__class__") = some true)
    (xLBadTree : K.lookup c_BadTree = some (excClassObj nmBadTree qBadTree c_BadTree NBadTree bsBadTree bmBadTree true snBadTree subBadTree abBadTree colBadTree ddBadTree m0BadTree m1BadTree m2BadTree m3BadTree m5BadTree "ValueError.__new__"))
    (rvBadTree : PySem.HandSPX.refsVE bmBadTree = true)
    (saEBadTree : PySem.W.findIn K (.ref c_BadTree) "__setattr__" = some (some (.builtin "object.__setattr__")))
    (exEBadTree : PySem.W.subIn K (.ref c_BadTree) (.type "BaseException") = some true)
    (tyEBadTree : PySem.W.typeIn K (.ref c_BadTree) = some (.type "type"))
    (kcEBadTree : PySem.W.keepIn K (.ref c_BadTree) = true)
    (tiEBadTree : PySem.W.typeIn K (.ref f_BadTree___init__) = some (.type "function"))
    (noEBadTree : PySem.W.findIn K (.ref c_BadTree) "part" = some none)
    (xUNoBlock : K.lookup c_NoBlock = some (excClassObj nmUNoBlock qUNoBlock c_NoBlock NUNoBlock bsUNoBlock bmUNoBlock true snUNoBlock subUNoBlock abUNoBlock colUNoBlock ddUNoBlock u0NoBlock u1NoBlock u2NoBlock u3NoBlock u5NoBlock "ValueError.__new__"))
    (rvUNoBlock : PySem.HandSPX.refsVE bmUNoBlock = true)
    (saUNoBlock : PySem.W.findIn K (.ref c_NoBlock) "__setattr__" = some (some (.builtin "object.__setattr__")))
    (exUNoBlock : PySem.W.subIn K (.ref c_NoBlock) (.type "BaseException") = some true)
    (tyUNoBlock : PySem.W.typeIn K (.ref c_NoBlock) = some (.type "type"))
    (kcUNoBlock : PySem.W.keepIn K (.ref c_NoBlock) = true)
    (iUNoBlock : PySem.W.findIn K (.ref c_NoBlock) "__init__" = some (some (.ref f_UNoBlock)))
    (tiUNoBlock : PySem.W.typeIn K (.ref f_UNoBlock) = some (.type "function"))
    (lUNoBlock : K.lookup f_UNoBlock = some ⟨ocUNoBlock, odUNoBlock, .func (PySem.W.ksFn "__init__" qqUNoBlock (siA eNoBlock) (siB p0NoBlock p1NoBlock p2NoBlock p3NoBlock p4NoBlock) siS .none kVUNoBlock docUNoBlock pmUNoBlock anUNoBlock (.ref cdUNoBlock) ctUNoBlock ccUNoBlock), slUNoBlock⟩)
    (cUNoBlock : PySem.W.codeIn K (.ref cdUNoBlock) qqUNoBlock = true)
    (ceUNoBlock : K.lookup ccUNoBlock = some ⟨clUNoBlock, cldUNoBlock, .cell (some (.ref c_NoBlock)), cslUNoBlock⟩)
    (coUNoBlock : K.lookup cdUNoBlock = some ⟨cclUNoBlock, cddUNoBlock, .fields vsUNoBlock, ccsUNoBlock⟩)
    (vsU2NoBlock : vsUNoBlock[2]? = some (.str fileUNoBlock tfUNoBlock))
    (fiUNoBlock : ((P.main.file : Str) == fileUNoBlock) = true)
    (evUNoBlock : SupEv p0NoBlock p1NoBlock p2NoBlock p3NoBlock)
    (upUNoBlock : PySem.W.ks_superIn K c_NoBlock c_NoBlock "__init__" = some (some (.builtin "ValueError.__init__")))
    (meUNoBlock : PySem.W.mroIn K c_NoBlock (.ref c_NoBlock) = some true)
    (veUNoBlock : PySem.W.subIn K (.ref c_NoBlock) (.type "ValueError") = some true)
    (opU : PySem.W.nsIn K cStatics "thirdparty.any" = some none)
    (tpU : (P.main.scope.names.lookup ("super" : Str)).isSome = false)
    (xUNoPlace : K.lookup c_NoPlace = some (excClassObj nmUNoPlace qUNoPlace c_NoPlace NUNoPlace bsUNoPlace bmUNoPlace true snUNoPlace subUNoPlace abUNoPlace colUNoPlace ddUNoPlace u0NoPlace u1NoPlace u2NoPlace u3NoPlace u5NoPlace "ValueError.__new__"))
    (rvUNoPlace : PySem.HandSPX.refsVE bmUNoPlace = true)
    (saUNoPlace : PySem.W.findIn K (.ref c_NoPlace) "__setattr__" = some (some (.builtin "object.__setattr__")))
    (exUNoPlace : PySem.W.subIn K (.ref c_NoPlace) (.type "BaseException") = some true)
    (tyUNoPlace : PySem.W.typeIn K (.ref c_NoPlace) = some (.type "type"))
    (kcUNoPlace : PySem.W.keepIn K (.ref c_NoPlace) = true)
    (iUNoPlace : PySem.W.findIn K (.ref c_NoPlace) "__init__" = some (some (.ref f_UNoPlace)))
    (tiUNoPlace : PySem.W.typeIn K (.ref f_UNoPlace) = some (.type "function"))
    (lUNoPlace : K.lookup f_UNoPlace = some ⟨ocUNoPlace, odUNoPlace, .func (PySem.W.ksFn "__init__" qqUNoPlace (siA eNoPlace) (siB p0NoPlace p1NoPlace p2NoPlace p3NoPlace p4NoPlace) siS .none kVUNoPlace docUNoPlace pmUNoPlace anUNoPlace (.ref cdUNoPlace) ctUNoPlace ccUNoPlace), slUNoPlace⟩)
    (cUNoPlace : PySem.W.codeIn K (.ref cdUNoPlace) qqUNoPlace = true)
    (ceUNoPlace : K.lookup ccUNoPlace = some ⟨clUNoPlace, cldUNoPlace, .cell (some (.ref c_NoPlace)), cslUNoPlace⟩)
    (coUNoPlace : K.lookup cdUNoPlace = some ⟨cclUNoPlace, cddUNoPlace, .fields vsUNoPlace, ccsUNoPlace⟩)
    (vsU2NoPlace : vsUNoPlace[2]? = some (.str fileUNoPlace tfUNoPlace))
    (fiUNoPlace : ((P.main.file : Str) == fileUNoPlace) = true)
    (evUNoPlace : SupEv p0NoPlace p1NoPlace p2NoPlace p3NoPlace)
    (upUNoPlace : PySem.W.ks_superIn K c_NoPlace c_NoPlace "__init__" = some (some (.builtin "ValueError.__init__")))
    (meUNoPlace : PySem.W.mroIn K c_NoPlace (.ref c_NoPlace) = some true)
    (veUNoPlace : PySem.W.subIn K (.ref c_NoPlace) (.type "ValueError") = some true)
    (xUBeneath : K.lookup c_Beneath = some (excClassObj nmUBeneath qUBeneath c_Beneath NUBeneath bsUBeneath bmUBeneath true snUBeneath subUBeneath abUBeneath colUBeneath ddUBeneath u0Beneath u1Beneath u2Beneath u3Beneath u5Beneath "ValueError.__new__"))
    (rvUBeneath : PySem.HandSPX.refsVE bmUBeneath = true)
    (saUBeneath : PySem.W.findIn K (.ref c_Beneath) "__setattr__" = some (some (.builtin "object.__setattr__")))
    (exUBeneath : PySem.W.subIn K (.ref c_Beneath) (.type "BaseException") = some true)
    (tyUBeneath : PySem.W.typeIn K (.ref c_Beneath) = some (.type "type"))
    (kcUBeneath : PySem.W.keepIn K (.ref c_Beneath) = true)
    (iUBeneath : PySem.W.findIn K (.ref c_Beneath) "__init__" = some (some (.ref f_UBeneath)))
    (tiUBeneath : PySem.W.typeIn K (.ref f_UBeneath) = some (.type "function"))
    (lUBeneath : K.lookup f_UBeneath = some ⟨ocUBeneath, odUBeneath, .func (PySem.W.ksFn "__init__" qqUBeneath (siA eBeneath) (siB p0Beneath p1Beneath p2Beneath p3Beneath p4Beneath) siS .none kVUBeneath docUBeneath pmUBeneath anUBeneath (.ref cdUBeneath) ctUBeneath ccUBeneath), slUBeneath⟩)
    (cUBeneath : PySem.W.codeIn K (.ref cdUBeneath) qqUBeneath = true)
    (ceUBeneath : K.lookup ccUBeneath = some ⟨clUBeneath, cldUBeneath, .cell (some (.ref c_Beneath)), cslUBeneath⟩)
    (coUBeneath : K.lookup cdUBeneath = some ⟨cclUBeneath, cddUBeneath, .fields vsUBeneath, ccsUBeneath⟩)
    (vsU2Beneath : vsUBeneath[2]? = some (.str fileUBeneath tfUBeneath))
    (fiUBeneath : ((P.main.file : Str) == fileUBeneath) = true)
    (evUBeneath : SupEv p0Beneath p1Beneath p2Beneath p3Beneath)
    (upUBeneath : PySem.W.ks_superIn K c_Beneath c_Beneath "__init__" = some (some (.builtin "ValueError.__init__")))
    (meUBeneath : PySem.W.mroIn K c_Beneath (.ref c_Beneath) = some true)
    (veUBeneath : PySem.W.subIn K (.ref c_Beneath) (.type "ValueError") = some true)
    (xUNoOrder : K.lookup c_NoOrder = some (excClassObj nmUNoOrder qUNoOrder c_NoOrder NUNoOrder bsUNoOrder bmUNoOrder true snUNoOrder subUNoOrder abUNoOrder colUNoOrder ddUNoOrder u0NoOrder u1NoOrder u2NoOrder u3NoOrder u5NoOrder "ValueError.__new__"))
    (rvUNoOrder : PySem.HandSPX.refsVE bmUNoOrder = true)
    (saUNoOrder : PySem.W.findIn K (.ref c_NoOrder) "__setattr__" = some (some (.builtin "object.__setattr__")))
    (exUNoOrder : PySem.W.subIn K (.ref c_NoOrder) (.type "BaseException") = some true)
    (tyUNoOrder : PySem.W.typeIn K (.ref c_NoOrder) = some (.type "type"))
    (kcUNoOrder : PySem.W.keepIn K (.ref c_NoOrder) = true)
    (iUNoOrder : PySem.W.findIn K (.ref c_NoOrder) "__init__" = some (some (.ref f_UNoOrder)))
    (tiUNoOrder : PySem.W.typeIn K (.ref f_UNoOrder) = some (.type "function"))
    (lUNoOrder : K.lookup f_UNoOrder = some ⟨ocUNoOrder, odUNoOrder, .func (PySem.W.ksFn "__init__" qqUNoOrder (siA eNoOrder) (siB p0NoOrder p1NoOrder p2NoOrder p3NoOrder p4NoOrder) siS .none kVUNoOrder docUNoOrder pmUNoOrder anUNoOrder (.ref cdUNoOrder) ctUNoOrder ccUNoOrder), slUNoOrder⟩)
    (cUNoOrder : PySem.W.codeIn K (.ref cdUNoOrder) qqUNoOrder = true)
    (ceUNoOrder : K.lookup ccUNoOrder = some ⟨clUNoOrder, cldUNoOrder, .cell (some (.ref c_NoOrder)), cslUNoOrder⟩)
    (coUNoOrder : K.lookup cdUNoOrder = some ⟨cclUNoOrder, cddUNoOrder, .fields vsUNoOrder, ccsUNoOrder⟩)
    (vsU2NoOrder : vsUNoOrder[2]? = some (.str fileUNoOrder tfUNoOrder))
    (fiUNoOrder : ((P.main.file : Str) == fileUNoOrder) = true)
    (evUNoOrder : SupEv p0NoOrder p1NoOrder p2NoOrder p3NoOrder)
    (upUNoOrder : PySem.W.ks_superIn K c_NoOrder c_NoOrder "__init__" = some (some (.builtin "ValueError.__init__")))
    (meUNoOrder : PySem.W.mroIn K c_NoOrder (.ref c_NoOrder) = some true)
    (veUNoOrder : PySem.W.subIn K (.ref c_NoOrder) (.type "ValueError") = some true)
    (xUNoView : K.lookup c_NoView = some (excClassObj nmUNoView qUNoView c_NoView NUNoView bsUNoView bmUNoView true snUNoView subUNoView abUNoView colUNoView ddUNoView u0NoView u1NoView u2NoView u3NoView u5NoView "ValueError.__new__"))
    (rvUNoView : PySem.HandSPX.refsVE bmUNoView = true)
    (saUNoView : PySem.W.findIn K (.ref c_NoView) "__setattr__" = some (some (.builtin "object.__setattr__")))
    (exUNoView : PySem.W.subIn K (.ref c_NoView) (.type "BaseException") = some true)
    (tyUNoView : PySem.W.typeIn K (.ref c_NoView) = some (.type "type"))
    (kcUNoView : PySem.W.keepIn K (.ref c_NoView) = true)
    (iUNoView : PySem.W.findIn K (.ref c_NoView) "__init__" = some (some (.ref f_UNoView)))
    (tiUNoView : PySem.W.typeIn K (.ref f_UNoView) = some (.type "function"))
    (lUNoView : K.lookup f_UNoView = some ⟨ocUNoView, odUNoView, .func (PySem.W.ksFn "__init__" qqUNoView (siA eNoView) (siB p0NoView p1NoView p2NoView p3NoView p4NoView) siS .none kVUNoView docUNoView pmUNoView anUNoView (.ref cdUNoView) ctUNoView ccUNoView), slUNoView⟩)
    (cUNoView : PySem.W.codeIn K (.ref cdUNoView) qqUNoView = true)
    (ceUNoView : K.lookup ccUNoView = some ⟨clUNoView, cldUNoView, .cell (some (.ref c_NoView)), cslUNoView⟩)
    (coUNoView : K.lookup cdUNoView = some ⟨cclUNoView, cddUNoView, .fields vsUNoView, ccsUNoView⟩)
    (vsU2NoView : vsUNoView[2]? = some (.str fileUNoView tfUNoView))
    (fiUNoView : ((P.main.file : Str) == fileUNoView) = true)
    (evUNoView : SupEv p0NoView p1NoView p2NoView p3NoView)
    (upUNoView : PySem.W.ks_superIn K c_NoView c_NoView "__init__" = some (some (.builtin "ValueError.__init__")))
    (meUNoView : PySem.W.mroIn K c_NoView (.ref c_NoView) = some true)
    (veUNoView : PySem.W.subIn K (.ref c_NoView) (.type "ValueError") = some true)
    (xUOtherBlocks : K.lookup c_OtherBlocks = some (excClassObj nmUOtherBlocks qUOtherBlocks c_OtherBlocks NUOtherBlocks bsUOtherBlocks bmUOtherBlocks true snUOtherBlocks subUOtherBlocks abUOtherBlocks colUOtherBlocks ddUOtherBlocks u0OtherBlocks u1OtherBlocks u2OtherBlocks u3OtherBlocks u5OtherBlocks "ValueError.__new__"))
    (rvUOtherBlocks : PySem.HandSPX.refsVE bmUOtherBlocks = true)
    (saUOtherBlocks : PySem.W.findIn K (.ref c_OtherBlocks) "__setattr__" = some (some (.builtin "object.__setattr__")))
    (exUOtherBlocks : PySem.W.subIn K (.ref c_OtherBlocks) (.type "BaseException") = some true)
    (tyUOtherBlocks : PySem.W.typeIn K (.ref c_OtherBlocks) = some (.type "type"))
    (kcUOtherBlocks : PySem.W.keepIn K (.ref c_OtherBlocks) = true)
    (iUOtherBlocks : PySem.W.findIn K (.ref c_OtherBlocks) "__init__" = some (some (.ref f_UOtherBlocks)))
    (tiUOtherBlocks : PySem.W.typeIn K (.ref f_UOtherBlocks) = some (.type "function"))
    (lUOtherBlocks : K.lookup f_UOtherBlocks = some ⟨ocUOtherBlocks, odUOtherBlocks, .func (PySem.W.ksFn "__init__" qqUOtherBlocks (siA eOtherBlocks) (siB p0OtherBlocks p1OtherBlocks p2OtherBlocks p3OtherBlocks p4OtherBlocks) siS .none kVUOtherBlocks docUOtherBlocks pmUOtherBlocks anUOtherBlocks (.ref cdUOtherBlocks) ctUOtherBlocks ccUOtherBlocks), slUOtherBlocks⟩)
    (cUOtherBlocks : PySem.W.codeIn K (.ref cdUOtherBlocks) qqUOtherBlocks = true)
    (ceUOtherBlocks : K.lookup ccUOtherBlocks = some ⟨clUOtherBlocks, cldUOtherBlocks, .cell (some (.ref c_OtherBlocks)), cslUOtherBlocks⟩)
    (coUOtherBlocks : K.lookup cdUOtherBlocks = some ⟨cclUOtherBlocks, cddUOtherBlocks, .fields vsUOtherBlocks, ccsUOtherBlocks⟩)
    (vsU2OtherBlocks : vsUOtherBlocks[2]? = some (.str fileUOtherBlocks tfUOtherBlocks))
    (fiUOtherBlocks : ((P.main.file : Str) == fileUOtherBlocks) = true)
    (evUOtherBlocks : SupEv p0OtherBlocks p1OtherBlocks p2OtherBlocks p3OtherBlocks)
    (upUOtherBlocks : PySem.W.ks_superIn K c_OtherBlocks c_OtherBlocks "__init__" = some (some (.builtin "ValueError.__init__")))
    (meUOtherBlocks : PySem.W.mroIn K c_OtherBlocks (.ref c_OtherBlocks) = some true)
    (veUOtherBlocks : PySem.W.subIn K (.ref c_OtherBlocks) (.type "ValueError") = some true)
    (xUNoNumber : K.lookup c_NoNumber = some (excClassObj nmUNoNumber qUNoNumber c_NoNumber NUNoNumber bsUNoNumber bmUNoNumber true snUNoNumber subUNoNumber abUNoNumber colUNoNumber ddUNoNumber u0NoNumber u1NoNumber u2NoNumber u3NoNumber u5NoNumber "ValueError.__new__"))
    (rvUNoNumber : PySem.HandSPX.refsVE bmUNoNumber = true)
    (saUNoNumber : PySem.W.findIn K (.ref c_NoNumber) "__setattr__" = some (some (.builtin "object.__setattr__")))
    (exUNoNumber : PySem.W.subIn K (.ref c_NoNumber) (.type "BaseException") = some true)
    (tyUNoNumber : PySem.W.typeIn K (.ref c_NoNumber) = some (.type "type"))
    (kcUNoNumber : PySem.W.keepIn K (.ref c_NoNumber) = true)
    (iUNoNumber : PySem.W.findIn K (.ref c_NoNumber) "__init__" = some (some (.ref f_UNoNumber)))
    (tiUNoNumber : PySem.W.typeIn K (.ref f_UNoNumber) = some (.type "function"))
    (lUNoNumber : K.lookup f_UNoNumber = some ⟨ocUNoNumber, odUNoNumber, .func (PySem.W.ksFn "__init__" qqUNoNumber (siA eNoNumber) (siB p0NoNumber p1NoNumber p2NoNumber p3NoNumber p4NoNumber) siS .none kVUNoNumber docUNoNumber pmUNoNumber anUNoNumber (.ref cdUNoNumber) ctUNoNumber ccUNoNumber), slUNoNumber⟩)
    (cUNoNumber : PySem.W.codeIn K (.ref cdUNoNumber) qqUNoNumber = true)
    (ceUNoNumber : K.lookup ccUNoNumber = some ⟨clUNoNumber, cldUNoNumber, .cell (some (.ref c_NoNumber)), cslUNoNumber⟩)
    (coUNoNumber : K.lookup cdUNoNumber = some ⟨cclUNoNumber, cddUNoNumber, .fields vsUNoNumber, ccsUNoNumber⟩)
    (vsU2NoNumber : vsUNoNumber[2]? = some (.str fileUNoNumber tfUNoNumber))
    (fiUNoNumber : ((P.main.file : Str) == fileUNoNumber) = true)
    (evUNoNumber : SupEv p0NoNumber p1NoNumber p2NoNumber p3NoNumber)
    (upUNoNumber : PySem.W.ks_superIn K c_NoNumber c_NoNumber "__init__" = some (some (.builtin "ValueError.__init__")))
    (meUNoNumber : PySem.W.mroIn K c_NoNumber (.ref c_NoNumber) = some true)
    (veUNoNumber : PySem.W.subIn K (.ref c_NoNumber) (.type "ValueError") = some true)
    (a_Tree___eq__ : PySem.W.findIn K (.ref c_Tree) "__eq__" = some (some (.ref f_Tree___eq__)))
    (i_Tree___eq__ : PySem.W.isFn K (.ref f_Tree___eq__) = true)
    (l_Tree___eq__ : K.lookup f_Tree___eq__ = some ⟨oc_Tree___eq__, od_Tree___eq__, .func (PySem.W.fnOf "__eq__" "Tree.__eq__" (defArgs s_Tree___eq__) (defBody s_Tree___eq__) (defScope s_Tree___eq__) .none kV_Tree___eq__ dc_Tree___eq__ pm_Tree___eq__ an_Tree___eq__ cd_Tree___eq__ ct_Tree___eq__), sl_Tree___eq__⟩)
    (c_Tree___eq__ : PySem.W.codeIn K cd_Tree___eq__ "Tree.__eq__" = true)
    (k_Tree___eq__ : PySem.W.keepIn K (.ref f_Tree___eq__) = true)
    (xNTree : K.lookup c_Tree = some (excClassObj nmNTree qNTree c_Tree NNTree bsNTree [.type "object"] hdNTree snNTree subNTree abNTree colNTree ddNTree w0Tree w1Tree w2Tree w3Tree w5Tree newNTree))
    (okNTree : PySem.W.nsOkIn K NNTree = true)
    (eqNTree : PySem.W.nsIn K NNTree "__eq__" = some (some (.ref f_Tree___eq__)))
    (neNTree : PySem.W.nsIn K NNTree "__ne__" = some none)
    (tqNTree : PySem.W.typeIn K (.ref f_Tree___eq__) = some (.type "function"))
    (swtuple : PySem.W.subIn K (.ref c_Tree) (.type "tuple") = some false)
    (exV : PySem.W.subIn K (.ref c_VoteError) (.type "BaseException") = some true)
    (hdV : PySem.W.hasDictIn K c_VoteError = true)
    (tyV : PySem.W.typeIn K (.ref c_VoteError) = some (.type "type"))
    (gaENoBlock : PySem.W.findIn K (.ref c_NoBlock) "__getattribute__" = some (some (.builtin "BaseException.__getattribute__")))
    (ggENoBlock : PySem.W.findIn K (.ref c_NoBlock) "__getattr__" = some none)
    (hdENoBlock : PySem.W.hasDictIn K c_NoBlock = true)
    (haENoBlock : PySem.W.findIn K (.ref c_NoBlock) "__class__" = some (some (.builtin "object.__class__")))
    (hmENoBlock : PySem.W.mroIn K c_NoBlock (.type "object") = some true)
    (sVNoBlock : PySem.W.subIn K (.ref c_NoBlock) (.ref c_VoteError) = some true)
    (icNoBlock : PySem.W.isClsIn K c_NoBlock = true)
    (gaENoPlace : PySem.W.findIn K (.ref c_NoPlace) "__getattribute__" = some (some (.builtin "BaseException.__getattribute__")))
    (ggENoPlace : PySem.W.findIn K (.ref c_NoPlace) "__getattr__" = some none)
    (hdENoPlace : PySem.W.hasDictIn K c_NoPlace = true)
    (haENoPlace : PySem.W.findIn K (.ref c_NoPlace) "__class__" = some (some (.builtin "object.__class__")))
    (hmENoPlace : PySem.W.mroIn K c_NoPlace (.type "object") = some true)
    (sVNoPlace : PySem.W.subIn K (.ref c_NoPlace) (.ref c_VoteError) = some true)
    (icNoPlace : PySem.W.isClsIn K c_NoPlace = true)
    (gaEBeneath : PySem.W.findIn K (.ref c_Beneath) "__getattribute__" = some (some (.builtin "BaseException.__getattribute__")))
    (ggEBeneath : PySem.W.findIn K (.ref c_Beneath) "__getattr__" = some none)
    (hdEBeneath : PySem.W.hasDictIn K c_Beneath = true)
    (haEBeneath : PySem.W.findIn K (.ref c_Beneath) "__class__" = some (some (.builtin "object.__class__")))
    (hmEBeneath : PySem.W.mroIn K c_Beneath (.type "object") = some true)
    (sVBeneath : PySem.W.subIn K (.ref c_Beneath) (.ref c_VoteError) = some true)
    (icBeneath : PySem.W.isClsIn K c_Beneath = true)
    (gaENoOrder : PySem.W.findIn K (.ref c_NoOrder) "__getattribute__" = some (some (.builtin "BaseException.__getattribute__")))
    (ggENoOrder : PySem.W.findIn K (.ref c_NoOrder) "__getattr__" = some none)
    (hdENoOrder : PySem.W.hasDictIn K c_NoOrder = true)
    (haENoOrder : PySem.W.findIn K (.ref c_NoOrder) "__class__" = some (some (.builtin "object.__class__")))
    (hmENoOrder : PySem.W.mroIn K c_NoOrder (.type "object") = some true)
    (sVNoOrder : PySem.W.subIn K (.ref c_NoOrder) (.ref c_VoteError) = some true)
    (icNoOrder : PySem.W.isClsIn K c_NoOrder = true)
    (gaENoView : PySem.W.findIn K (.ref c_NoView) "__getattribute__" = some (some (.builtin "BaseException.__getattribute__")))
    (ggENoView : PySem.W.findIn K (.ref c_NoView) "__getattr__" = some none)
    (hdENoView : PySem.W.hasDictIn K c_NoView = true)
    (haENoView : PySem.W.findIn K (.ref c_NoView) "__class__" = some (some (.builtin "object.__class__")))
    (hmENoView : PySem.W.mroIn K c_NoView (.type "object") = some true)
    (sVNoView : PySem.W.subIn K (.ref c_NoView) (.ref c_VoteError) = some true)
    (icNoView : PySem.W.isClsIn K c_NoView = true)
    (gaEOtherBlocks : PySem.W.findIn K (.ref c_OtherBlocks) "__getattribute__" = some (some (.builtin "BaseException.__getattribute__")))
    (ggEOtherBlocks : PySem.W.findIn K (.ref c_OtherBlocks) "__getattr__" = some none)
    (hdEOtherBlocks : PySem.W.hasDictIn K c_OtherBlocks = true)
    (haEOtherBlocks : PySem.W.findIn K (.ref c_OtherBlocks) "__class__" = some (some (.builtin "object.__class__")))
    (hmEOtherBlocks : PySem.W.mroIn K c_OtherBlocks (.type "object") = some true)
    (sVOtherBlocks : PySem.W.subIn K (.ref c_OtherBlocks) (.ref c_VoteError) = some true)
    (icOtherBlocks : PySem.W.isClsIn K c_OtherBlocks = true)
    (gaENoNumber : PySem.W.findIn K (.ref c_NoNumber) "__getattribute__" = some (some (.builtin "BaseException.__getattribute__")))
    (ggENoNumber : PySem.W.findIn K (.ref c_NoNumber) "__getattr__" = some none)
    (hdENoNumber : PySem.W.hasDictIn K c_NoNumber = true)
    (haENoNumber : PySem.W.findIn K (.ref c_NoNumber) "__class__" = some (some (.builtin "object.__class__")))
    (hmENoNumber : PySem.W.mroIn K c_NoNumber (.type "object") = some true)
    (sVNoNumber : PySem.W.subIn K (.ref c_NoNumber) (.ref c_VoteError) = some true)
    (icNoNumber : PySem.W.isClsIn K c_NoNumber = true)
    (neNoBlock_NoPlace : (Value.ref c_NoBlock == Value.ref c_NoPlace) = false)
    (suNoBlock_NoPlace : PySem.W.subIn K (.ref c_NoBlock) (.ref c_NoPlace) = some false)
    (neNoBlock_Beneath : (Value.ref c_NoBlock == Value.ref c_Beneath) = false)
    (suNoBlock_Beneath : PySem.W.subIn K (.ref c_NoBlock) (.ref c_Beneath) = some false)
    (neNoBlock_NoOrder : (Value.ref c_NoBlock == Value.ref c_NoOrder) = false)
    (suNoBlock_NoOrder : PySem.W.subIn K (.ref c_NoBlock) (.ref c_NoOrder) = some false)
    (neNoBlock_NoView : (Value.ref c_NoBlock == Value.ref c_NoView) = false)
    (suNoBlock_NoView : PySem.W.subIn K (.ref c_NoBlock) (.ref c_NoView) = some false)
    (neNoBlock_OtherBlocks : (Value.ref c_NoBlock == Value.ref c_OtherBlocks) = false)
    (suNoBlock_OtherBlocks : PySem.W.subIn K (.ref c_NoBlock) (.ref c_OtherBlocks) = some false)
    (neNoBlock_NoNumber : (Value.ref c_NoBlock == Value.ref c_NoNumber) = false)
    (suNoBlock_NoNumber : PySem.W.subIn K (.ref c_NoBlock) (.ref c_NoNumber) = some false)
    (neNoPlace_NoBlock : (Value.ref c_NoPlace == Value.ref c_NoBlock) = false)
    (suNoPlace_NoBlock : PySem.W.subIn K (.ref c_NoPlace) (.ref c_NoBlock) = some false)
    (neNoPlace_Beneath : (Value.ref c_NoPlace == Value.ref c_Beneath) = false)
    (suNoPlace_Beneath : PySem.W.subIn K (.ref c_NoPlace) (.ref c_Beneath) = some false)
    (neNoPlace_NoOrder : (Value.ref c_NoPlace == Value.ref c_NoOrder) = false)
    (suNoPlace_NoOrder : PySem.W.subIn K (.ref c_NoPlace) (.ref c_NoOrder) = some false)
    (neNoPlace_NoView : (Value.ref c_NoPlace == Value.ref c_NoView) = false)
    (suNoPlace_NoView : PySem.W.subIn K (.ref c_NoPlace) (.ref c_NoView) = some false)
    (neNoPlace_OtherBlocks : (Value.ref c_NoPlace == Value.ref c_OtherBlocks) = false)
    (suNoPlace_OtherBlocks : PySem.W.subIn K (.ref c_NoPlace) (.ref c_OtherBlocks) = some false)
    (neNoPlace_NoNumber : (Value.ref c_NoPlace == Value.ref c_NoNumber) = false)
    (suNoPlace_NoNumber : PySem.W.subIn K (.ref c_NoPlace) (.ref c_NoNumber) = some false)
    (neBeneath_NoBlock : (Value.ref c_Beneath == Value.ref c_NoBlock) = false)
    (suBeneath_NoBlock : PySem.W.subIn K (.ref c_Beneath) (.ref c_NoBlock) = some false)
    (neBeneath_NoPlace : (Value.ref c_Beneath == Value.ref c_NoPlace) = false)
    (suBeneath_NoPlace : PySem.W.subIn K (.ref c_Beneath) (.ref c_NoPlace) = some false)
    (neBeneath_NoOrder : (Value.ref c_Beneath == Value.ref c_NoOrder) = false)
    (suBeneath_NoOrder : PySem.W.subIn K (.ref c_Beneath) (.ref c_NoOrder) = some false)
    (neBeneath_NoView : (Value.ref c_Beneath == Value.ref c_NoView) = false)
    (suBeneath_NoView : PySem.W.subIn K (.ref c_Beneath) (.ref c_NoView) = some false)
    (neBeneath_OtherBlocks : (Value.ref c_Beneath == Value.ref c_OtherBlocks) = false)
    (suBeneath_OtherBlocks : PySem.W.subIn K (.ref c_Beneath) (.ref c_OtherBlocks) = some false)
    (neBeneath_NoNumber : (Value.ref c_Beneath == Value.ref c_NoNumber) = false)
    (suBeneath_NoNumber : PySem.W.subIn K (.ref c_Beneath) (.ref c_NoNumber) = some false)
    (neNoOrder_NoBlock : (Value.ref c_NoOrder == Value.ref c_NoBlock) = false)
    (suNoOrder_NoBlock : PySem.W.subIn K (.ref c_NoOrder) (.ref c_NoBlock) = some false)
    (neNoOrder_NoPlace : (Value.ref c_NoOrder == Value.ref c_NoPlace) = false)
    (suNoOrder_NoPlace : PySem.W.subIn K (.ref c_NoOrder) (.ref c_NoPlace) = some false)
    (neNoOrder_Beneath : (Value.ref c_NoOrder == Value.ref c_Beneath) = false)
    (suNoOrder_Beneath : PySem.W.subIn K (.ref c_NoOrder) (.ref c_Beneath) = some false)
    (neNoOrder_NoView : (Value.ref c_NoOrder == Value.ref c_NoView) = false)
    (suNoOrder_NoView : PySem.W.subIn K (.ref c_NoOrder) (.ref c_NoView) = some false)
    (neNoOrder_OtherBlocks : (Value.ref c_NoOrder == Value.ref c_OtherBlocks) = false)
    (suNoOrder_OtherBlocks : PySem.W.subIn K (.ref c_NoOrder) (.ref c_OtherBlocks) = some false)
    (neNoOrder_NoNumber : (Value.ref c_NoOrder == Value.ref c_NoNumber) = false)
    (suNoOrder_NoNumber : PySem.W.subIn K (.ref c_NoOrder) (.ref c_NoNumber) = some false)
    (neNoView_NoBlock : (Value.ref c_NoView == Value.ref c_NoBlock) = false)
    (suNoView_NoBlock : PySem.W.subIn K (.ref c_NoView) (.ref c_NoBlock) = some false)
    (neNoView_NoPlace : (Value.ref c_NoView == Value.ref c_NoPlace) = false)
    (suNoView_NoPlace : PySem.W.subIn K (.ref c_NoView) (.ref c_NoPlace) = some false)
    (neNoView_Beneath : (Value.ref c_NoView == Value.ref c_Beneath) = false)
    (suNoView_Beneath : PySem.W.subIn K (.ref c_NoView) (.ref c_Beneath) = some false)
    (neNoView_NoOrder : (Value.ref c_NoView == Value.ref c_NoOrder) = false)
    (suNoView_NoOrder : PySem.W.subIn K (.ref c_NoView) (.ref c_NoOrder) = some false)
    (neNoView_OtherBlocks : (Value.ref c_NoView == Value.ref c_OtherBlocks) = false)
    (suNoView_OtherBlocks : PySem.W.subIn K (.ref c_NoView) (.ref c_OtherBlocks) = some false)
    (neNoView_NoNumber : (Value.ref c_NoView == Value.ref c_NoNumber) = false)
    (suNoView_NoNumber : PySem.W.subIn K (.ref c_NoView) (.ref c_NoNumber) = some false)
    (neOtherBlocks_NoBlock : (Value.ref c_OtherBlocks == Value.ref c_NoBlock) = false)
    (suOtherBlocks_NoBlock : PySem.W.subIn K (.ref c_OtherBlocks) (.ref c_NoBlock) = some false)
    (neOtherBlocks_NoPlace : (Value.ref c_OtherBlocks == Value.ref c_NoPlace) = false)
    (suOtherBlocks_NoPlace : PySem.W.subIn K (.ref c_OtherBlocks) (.ref c_NoPlace) = some false)
    (neOtherBlocks_Beneath : (Value.ref c_OtherBlocks == Value.ref c_Beneath) = false)
    (suOtherBlocks_Beneath : PySem.W.subIn K (.ref c_OtherBlocks) (.ref c_Beneath) = some false)
    (neOtherBlocks_NoOrder : (Value.ref c_OtherBlocks == Value.ref c_NoOrder) = false)
    (suOtherBlocks_NoOrder : PySem.W.subIn K (.ref c_OtherBlocks) (.ref c_NoOrder) = some false)
    (neOtherBlocks_NoView : (Value.ref c_OtherBlocks == Value.ref c_NoView) = false)
    (suOtherBlocks_NoView : PySem.W.subIn K (.ref c_OtherBlocks) (.ref c_NoView) = some false)
    (neOtherBlocks_NoNumber : (Value.ref c_OtherBlocks == Value.ref c_NoNumber) = false)
    (suOtherBlocks_NoNumber : PySem.W.subIn K (.ref c_OtherBlocks) (.ref c_NoNumber) = some false)
    (neNoNumber_NoBlock : (Value.ref c_NoNumber == Value.ref c_NoBlock) = false)
    (suNoNumber_NoBlock : PySem.W.subIn K (.ref c_NoNumber) (.ref c_NoBlock) = some false)
    (neNoNumber_NoPlace : (Value.ref c_NoNumber == Value.ref c_NoPlace) = false)
    (suNoNumber_NoPlace : PySem.W.subIn K (.ref c_NoNumber) (.ref c_NoPlace) = some false)
    (neNoNumber_Beneath : (Value.ref c_NoNumber == Value.ref c_Beneath) = false)
    (suNoNumber_Beneath : PySem.W.subIn K (.ref c_NoNumber) (.ref c_Beneath) = some false)
    (neNoNumber_NoOrder : (Value.ref c_NoNumber == Value.ref c_NoOrder) = false)
    (suNoNumber_NoOrder : PySem.W.subIn K (.ref c_NoNumber) (.ref c_NoOrder) = some false)
    (neNoNumber_NoView : (Value.ref c_NoNumber == Value.ref c_NoView) = false)
    (suNoNumber_NoView : PySem.W.subIn K (.ref c_NoNumber) (.ref c_NoView) = some false)
    (neNoNumber_OtherBlocks : (Value.ref c_NoNumber == Value.ref c_OtherBlocks) = false)
    (suNoNumber_OtherBlocks : PySem.W.subIn K (.ref c_NoNumber) (.ref c_OtherBlocks) = some false)
    (co_law : K.lookup cc_law = some ⟨ccl_law, ccd_law, .fields vs_law, ccs_law⟩)
    (v11_law : vs_law[11]? = some (.ref P_law))
    (hd_law : PySem.W.codeHdIn K cc_law P_law = true)
    (nt_law : K.lookup P_law = none)
    (tl_law : h.get? P_law = some (PySem.W.tabObj #[]))
    (co_ord : K.lookup cc_ord = some ⟨ccl_ord, ccd_ord, .fields vs_ord, ccs_ord⟩)
    (v11_ord : vs_ord[11]? = some (.ref P_ord))
    (hd_ord : PySem.W.codeHdIn K cc_ord P_ord = true)
    (nt_ord : K.lookup P_ord = none)
    (tl_ord : h.get? P_ord = some (PySem.W.tabObj #[]))
    (co_vw : K.lookup cc_vw = some ⟨ccl_vw, ccd_vw, .fields vs_vw, ccs_vw⟩)
    (v11_vw : vs_vw[11]? = some (.ref P_vw))
    (hd_vw : PySem.W.codeHdIn K cc_vw P_vw = true)
    (nt_vw : K.lookup P_vw = none)
    (tl_vw : h.get? P_vw = some (PySem.W.tabObj #[]))
    (np_law_ord : P_law ≠ P_ord)
    (np_law_vw : P_law ≠ P_vw)
    (np_ord_vw : P_ord ≠ P_vw)
    : LawAt P w K mg fa h := by
  have e := hfa.symm.trans (PySem.W.mg_of X G a_law)
  cases e
  have F_BadTree___init__ := fun_mk (st := s_BadTree___init__) l_BadTree___init__ c_BadTree___init__ k_BadTree___init__
  have b_BadTree___init__ := F_BadTree___init__.binds (ps := ["self", "part"]) fun _ _ _ _ _ _ us hl => match us, hl with | [_, _], _ => rfl
  have C_BadTree___init__ := CalM.mk k_BadTree___init__ b_BadTree___init__
  have F_is_within := fun_mk (st := s_is_within) l_is_within c_is_within k_is_within
  have b_is_within := F_is_within.binds (ps := ["least", "most", "thing"]) fun _ _ _ _ _ _ us hl => match us, hl with | [_, _, _], _ => rfl
  have C_is_within := Cal.mk (PySem.W.mg_of X G a_is_within) k_is_within b_is_within
  have F_Tree___init__ := fun_mk (st := s_Tree___init__) l_Tree___init__ c_Tree___init__ k_Tree___init__
  have b_Tree___init__ := F_Tree___init__.binds (ps := ["self", "hung"]) fun _ _ _ _ _ _ us hl => match us, hl with | [_, _], _ => rfl
  have C_Tree___init__ := CalM.mk k_Tree___init__ b_Tree___init__
  have F__comes_to_head := fun_mk (st := s__comes_to_head) l__comes_to_head c__comes_to_head k__comes_to_head
  have b__comes_to_head := F__comes_to_head.binds (ps := ["hung", "block"]) fun _ _ _ _ _ _ us hl => match us, hl with | [_, _], _ => rfl
  have C__comes_to_head := Cal.mk (PySem.W.mg_of X G a__comes_to_head) k__comes_to_head b__comes_to_head
  have F_is_block := fun_mk (st := s_is_block) l_is_block c_is_block k_is_block
  have b_is_block := F_is_block.binds (ps := ["tree", "thing"]) fun _ _ _ _ _ _ us hl => match us, hl with | [_, _], _ => rfl
  have C_is_block := Cal.mk (PySem.W.mg_of X G a_is_block) k_is_block b_is_block
  have F_is_place := fun_mk (st := s_is_place) l_is_place c_is_place k_is_place
  have b_is_place := F_is_place.binds (ps := ["tree", "thing"]) fun _ _ _ _ _ _ us hl => match us, hl with | [_, _], _ => rfl
  have C_is_place := Cal.mk (PySem.W.mg_of X G a_is_place) k_is_place b_is_place
  have F_place_of := fun_mk (st := s_place_of) l_place_of c_place_of k_place_of
  have b_place_of := F_place_of.binds (ps := ["tree", "block"]) fun _ _ _ _ _ _ us hl => match us, hl with | [_, _], _ => rfl
  have C_place_of := Cal.mk (PySem.W.mg_of X G a_place_of) k_place_of b_place_of
  have F_parents := fun_mk (st := s_parents) l_parents c_parents k_parents
  have b_parents := F_parents.binds (ps := ["tree", "block"]) fun _ _ _ _ _ _ us hl => match us, hl with | [_, _], _ => rfl
  have C_parents := Cal.mk (PySem.W.mg_of X G a_parents) k_parents b_parents
  have F_under := fun_mk (st := s_under) l_under c_under k_under
  have b_under := F_under.binds (ps := ["tree", "place"]) fun _ _ _ _ _ _ us hl => match us, hl with | [_, _], _ => rfl
  have C_under := Cal.mk (PySem.W.mg_of X G a_under) k_under b_under
  have F_beneath := fun_mk (st := s_beneath) l_beneath c_beneath k_beneath
  have b_beneath := F_beneath.binds (ps := ["tree", "place"]) fun _ _ _ _ _ _ us hl => match us, hl with | [_, _], _ => rfl
  have C_beneath := Cal.mk (PySem.W.mg_of X G a_beneath) k_beneath b_beneath
  have F_moved := fun_mk (st := s_moved) l_moved c_moved k_moved
  have b_moved := F_moved.binds (ps := ["tree", "block", "place"]) fun _ _ _ _ _ _ us hl => match us, hl with | [_, _, _], _ => rfl
  have C_moved := Cal.mk (PySem.W.mg_of X G a_moved) k_moved b_moved
  have F_called := fun_mk (st := s_called) l_called c_called k_called
  have b_called := F_called.binds (ps := ["tree", "order"]) fun _ _ _ _ _ _ us hl => match us, hl with | [_, _], _ => rfl
  have C_called := Cal.mk (PySem.W.mg_of X G a_called) k_called b_called
  have F__is_order := fun_mk (st := s__is_order) l__is_order c__is_order k__is_order
  have b__is_order := F__is_order.binds (ps := ["tree", "thing"]) fun _ _ _ _ _ _ us hl => match us, hl with | [_, _], _ => rfl
  have C__is_order := Cal.mk (PySem.W.mg_of X G a__is_order) k__is_order b__is_order
  have F_is_view := fun_mk (st := s_is_view) l_is_view c_is_view k_is_view
  have b_is_view := F_is_view.binds (ps := ["thing"]) fun _ _ _ _ _ _ us hl => match us, hl with | [_], _ => rfl
  have C_is_view := Cal.mk (PySem.W.mg_of X G a_is_view) k_is_view b_is_view
  have F_telling := fun_mk (st := s_telling) l_telling c_telling k_telling
  have b_telling := F_telling.binds (ps := ["tree", "view", "place"]) fun _ _ _ _ _ _ us hl => match us, hl with | [_, _, _], _ => rfl
  have C_telling := Cal.mk (PySem.W.mg_of X G a_telling) k_telling b_telling
  have F__row_told := fun_mk (st := s__row_told) l__row_told c__row_told k__row_told
  have b__row_told := F__row_told.binds (ps := ["tree", "up", "place"]) fun _ _ _ _ _ _ us hl => match us, hl with | [_, _, _], _ => rfl
  have C__row_told := Cal.mk (PySem.W.mg_of X G a__row_told) k__row_told b__row_told
  have F__ties_told := fun_mk (st := s__ties_told) l__ties_told c__ties_told k__ties_told
  have b__ties_told := F__ties_told.binds (ps := ["tree", "down", "place"]) fun _ _ _ _ _ _ us hl => match us, hl with | [_, _, _], _ => rfl
  have C__ties_told := Cal.mk (PySem.W.mg_of X G a__ties_told) k__ties_told b__ties_told
  have F_unlike := fun_mk (st := s_unlike) l_unlike c_unlike k_unlike
  have b_unlike := F_unlike.binds (ps := ["tree", "other", "view"]) fun _ _ _ _ _ _ us hl => match us, hl with | [_, _, _], _ => rfl
  have C_unlike := Cal.mk (PySem.W.mg_of X G a_unlike) k_unlike b_unlike
  have F_distance := fun_mk (st := s_distance) l_distance c_distance k_distance
  have b_distance := F_distance.binds (ps := ["view"]) fun _ _ _ _ _ _ us hl => match us, hl with | [_], _ => rfl
  have C_distance := Cal.mk (PySem.W.mg_of X G a_distance) k_distance b_distance
  have F_twins := fun_mk (st := s_twins) l_twins c_twins k_twins
  have b_twins := F_twins.binds (ps := ["view", "blocks"]) fun _ _ _ _ _ _ us hl => match us, hl with | [_, _], _ => rfl
  have C_twins := Cal.mk (PySem.W.mg_of X G a_twins) k_twins b_twins
  have F__law_pool := fun_mk (st := s__law_pool) l__law_pool c__law_pool k__law_pool
  have b__law_pool := F__law_pool.binds (ps := ["_law_script"]) fun _ _ _ _ _ _ us hl => match us, hl with | [_], _ => rfl
  have C__law_pool := Cal.mk (PySem.W.mg_of X G a__law_pool) k__law_pool b__law_pool
  have F__law_draw := fun_mk (st := s__law_draw) l__law_draw c__law_draw k__law_draw
  have b__law_draw := F__law_draw.binds (ps := ["_law_pool_here", "_law_many"]) fun _ _ _ _ _ _ us hl => match us, hl with | [_, _], _ => rfl
  have C__law_draw := Cal.mk (PySem.W.mg_of X G a__law_draw) k__law_draw b__law_draw
  have F__law_pick := fun_mk (st := s__law_pick) l__law_pick c__law_pick k__law_pick
  have b__law_pick := F__law_pick.binds (ps := ["_law_pool_here", "_law_things"]) fun _ _ _ _ _ _ us hl => match us, hl with | [_, _], _ => rfl
  have C__law_pick := Cal.mk (PySem.W.mg_of X G a__law_pick) k__law_pick b__law_pick
  have F__law_is := fun_mk (st := s__law_is) l__law_is c__law_is k__law_is
  have b__law_is := F__law_is.binds (ps := ["_law_told", "_law_due"]) fun _ _ _ _ _ _ us hl => match us, hl with | [_, _], _ => rfl
  have C__law_is := Cal.mk (PySem.W.mg_of X G a__law_is) k__law_is b__law_is
  have F__law_deep := fun_mk (st := s__law_deep) l__law_deep c__law_deep k__law_deep
  have b__law_deep := F__law_deep.binds (ps := []) fun _ _ _ _ _ _ us hl => match us, hl with | [], _ => rfl
  have C__law_deep := Cal.mk (PySem.W.mg_of X G a__law_deep) k__law_deep b__law_deep
  have F__law_is_number := fun_mk (st := s__law_is_number) l__law_is_number c__law_is_number k__law_is_number
  have b__law_is_number := F__law_is_number.binds (ps := ["_law_thing", "_law_least", "_law_most"]) fun _ _ _ _ _ _ us hl => match us, hl with | [_, _, _], _ => rfl
  have C__law_is_number := Cal.mk (PySem.W.mg_of X G a__law_is_number) k__law_is_number b__law_is_number
  have F__law_mixed := fun_mk (st := s__law_mixed) l__law_mixed c__law_mixed k__law_mixed
  have b__law_mixed := F__law_mixed.binds (ps := ["_law_pool_here", "_law_many"]) fun _ _ _ _ _ _ us hl => match us, hl with | [_, _], _ => rfl
  have C__law_mixed := Cal.mk (PySem.W.mg_of X G a__law_mixed) k__law_mixed b__law_mixed
  have F__law_hung := fun_mk (st := s__law_hung) l__law_hung c__law_hung k__law_hung
  have b__law_hung := F__law_hung.binds (ps := ["_law_pool_here", "_law_many"]) fun _ _ _ _ _ _ us hl => match us, hl with | [_, _], _ => rfl
  have C__law_hung := Cal.mk (PySem.W.mg_of X G a__law_hung) k__law_hung b__law_hung
  have F__law_way := fun_mk (st := s__law_way) l__law_way c__law_way k__law_way
  have b__law_way := F__law_way.binds (ps := ["_law_hung_here", "_law_place"]) fun _ _ _ _ _ _ us hl => match us, hl with | [_, _], _ => rfl
  have C__law_way := Cal.mk (PySem.W.mg_of X G a__law_way) k__law_way b__law_way
  have F__law_odd := fun_mk (st := s__law_odd) l__law_odd c__law_odd k__law_odd
  have b__law_odd := F__law_odd.binds (ps := ["_law_pool_here", "_law_most"]) fun _ _ _ _ _ _ us hl => match us, hl with | [_, _], _ => rfl
  have C__law_odd := Cal.mk (PySem.W.mg_of X G a__law_odd) k__law_odd b__law_odd
  have F__law_word := fun_mk (st := s__law_word) l__law_word c__law_word k__law_word
  have b__law_word := F__law_word.binds (ps := ["_law_call"]) fun _ _ _ _ _ _ us hl => match us, hl with | [_], _ => rfl
  have C__law_word := Cal.mk (PySem.W.mg_of X G a__law_word) k__law_word b__law_word
  have F__law_order_refused := fun_mk (st := s__law_order_refused) l__law_order_refused c__law_order_refused k__law_order_refused
  have b__law_order_refused := F__law_order_refused.binds (ps := ["_law_pool_here", "_law_tree", "_law_many"]) fun _ _ _ _ _ _ us hl => match us, hl with | [_, _, _], _ => rfl
  have C__law_order_refused := Cal.mk (PySem.W.mg_of X G a__law_order_refused) k__law_order_refused b__law_order_refused
  have F__law_views_refused := fun_mk (st := s__law_views_refused) l__law_views_refused c__law_views_refused k__law_views_refused
  have b__law_views_refused := F__law_views_refused.binds (ps := ["_law_pool_here", "_law_tree", "_law_place", "_law_is_place"]) fun _ _ _ _ _ _ us hl => match us, hl with | [_, _, _, _], _ => rfl
  have C__law_views_refused := Cal.mk (PySem.W.mg_of X G a__law_views_refused) k__law_views_refused b__law_views_refused
  have F_law := fun_mk (st := s_law) l_law c_law k_law
  have b_law := F_law.binds (ps := ["_law_script"]) fun _ _ _ _ _ _ us hl => match us, hl with | [_], _ => rfl
  have C_law := Cal.mk (PySem.W.mg_of X G a_law) k_law b_law
  have F_Tree___eq__ := fun_mk (st := s_Tree___eq__) l_Tree___eq__ c_Tree___eq__ k_Tree___eq__
  have b_Tree___eq__ := F_Tree___eq__.binds (ps := ["self", "other"]) fun _ _ _ _ _ _ us hl => match us, hl with | [_, _], _ => rfl
  have C_Tree___eq__ := CalM.mk k_Tree___eq__ b_Tree___eq__
  have B : Bl ⟨c_VoteError, c_BadTree, c_NoBlock, c_NoPlace, c_Beneath, c_NoOrder, c_NoView, c_OtherBlocks, c_NoNumber, c_Tree, t_MOST_BLOCKS, t_MOST_STEPS⟩ mg := ⟨PySem.W.mg_none_of X G z_ValueError, PySem.W.mg_none_of X G z_abs, PySem.W.mg_none_of X G z_all, PySem.W.mg_none_of X G z_bool, PySem.W.mg_none_of X G z_dict, PySem.W.mg_none_of X G z_enumerate, PySem.W.mg_none_of X G z_int, PySem.W.mg_none_of X G z_isinstance, PySem.W.mg_none_of X G z_len, PySem.W.mg_none_of X G z_list, PySem.W.mg_none_of X G z_range, PySem.W.mg_none_of X G z_sorted, PySem.W.mg_none_of X G z_str, PySem.W.mg_none_of X G z_super, PySem.W.mg_none_of X G z_tuple, PySem.W.mg_of X G n_VoteError, PySem.W.mg_of X G n_BadTree, PySem.W.mg_of X G n_NoBlock, PySem.W.mg_of X G n_NoPlace, PySem.W.mg_of X G n_Beneath, PySem.W.mg_of X G n_NoOrder, PySem.W.mg_of X G n_NoView, PySem.W.mg_of X G n_OtherBlocks, PySem.W.mg_of X G n_NoNumber, PySem.W.mg_of X G n_Tree, PySem.W.mg_of X G n_MOST_BLOCKS, PySem.W.mg_of X G n_MOST_STEPS⟩
  have hcTree : Cls K c_Tree := ⟨pgTree, hdTree, poTree, saTree⟩
  have hMTree : Mk K c_Tree f_Tree___init__ := ⟨mkTree, a_Tree___init__, i_Tree___init__, kcTree⟩
  have hITree : IsC K c_Tree := ⟨hcTree, haTree, spO, tkO, hmTree, if_pos (beq_self_eq_true _), kit_ref rfl icTree tyTree (sub_tuple K c_Tree)⟩
  have hXBadTree : OexC K c_BadTree := ⟨⟨nmBadTree, qBadTree, NBadTree, bsBadTree, bmBadTree, snBadTree, subBadTree, abBadTree, colBadTree, ddBadTree, m0BadTree, m1BadTree, m2BadTree, m3BadTree, m5BadTree, xLBadTree, rvBadTree⟩, saEBadTree, exEBadTree, tyEBadTree, kcEBadTree⟩
  have hEBadTree : ExcF K c_BadTree f_BadTree___init__ "part" := ⟨hXBadTree, a_BadTree___init__, tiEBadTree, noEBadTree⟩
  have hUNoBlock : SupC P K c_NoBlock f_UNoBlock := ⟨⟨⟨nmUNoBlock, qUNoBlock, NUNoBlock, bsUNoBlock, bmUNoBlock, snUNoBlock, subUNoBlock, abUNoBlock, colUNoBlock, ddUNoBlock, u0NoBlock, u1NoBlock, u2NoBlock, u3NoBlock, u5NoBlock, xUNoBlock, rvUNoBlock⟩, saUNoBlock, exUNoBlock, tyUNoBlock, kcUNoBlock⟩, iUNoBlock, tiUNoBlock, ⟨ocUNoBlock, odUNoBlock, kVUNoBlock, docUNoBlock, pmUNoBlock, anUNoBlock, cdUNoBlock, ctUNoBlock, slUNoBlock, ccUNoBlock, qqUNoBlock, eNoBlock, p0NoBlock, p1NoBlock, p2NoBlock, p3NoBlock, p4NoBlock, lUNoBlock, cUNoBlock, ⟨clUNoBlock, cldUNoBlock, cslUNoBlock, ceUNoBlock⟩, cclUNoBlock, cddUNoBlock, vsUNoBlock, ccsUNoBlock, fileUNoBlock, tfUNoBlock, coUNoBlock, vsU2NoBlock, fiUNoBlock, evUNoBlock⟩, upUNoBlock, meUNoBlock, veUNoBlock, opU, tpU⟩
  have hUNoPlace : SupC P K c_NoPlace f_UNoPlace := ⟨⟨⟨nmUNoPlace, qUNoPlace, NUNoPlace, bsUNoPlace, bmUNoPlace, snUNoPlace, subUNoPlace, abUNoPlace, colUNoPlace, ddUNoPlace, u0NoPlace, u1NoPlace, u2NoPlace, u3NoPlace, u5NoPlace, xUNoPlace, rvUNoPlace⟩, saUNoPlace, exUNoPlace, tyUNoPlace, kcUNoPlace⟩, iUNoPlace, tiUNoPlace, ⟨ocUNoPlace, odUNoPlace, kVUNoPlace, docUNoPlace, pmUNoPlace, anUNoPlace, cdUNoPlace, ctUNoPlace, slUNoPlace, ccUNoPlace, qqUNoPlace, eNoPlace, p0NoPlace, p1NoPlace, p2NoPlace, p3NoPlace, p4NoPlace, lUNoPlace, cUNoPlace, ⟨clUNoPlace, cldUNoPlace, cslUNoPlace, ceUNoPlace⟩, cclUNoPlace, cddUNoPlace, vsUNoPlace, ccsUNoPlace, fileUNoPlace, tfUNoPlace, coUNoPlace, vsU2NoPlace, fiUNoPlace, evUNoPlace⟩, upUNoPlace, meUNoPlace, veUNoPlace, opU, tpU⟩
  have hUBeneath : SupC P K c_Beneath f_UBeneath := ⟨⟨⟨nmUBeneath, qUBeneath, NUBeneath, bsUBeneath, bmUBeneath, snUBeneath, subUBeneath, abUBeneath, colUBeneath, ddUBeneath, u0Beneath, u1Beneath, u2Beneath, u3Beneath, u5Beneath, xUBeneath, rvUBeneath⟩, saUBeneath, exUBeneath, tyUBeneath, kcUBeneath⟩, iUBeneath, tiUBeneath, ⟨ocUBeneath, odUBeneath, kVUBeneath, docUBeneath, pmUBeneath, anUBeneath, cdUBeneath, ctUBeneath, slUBeneath, ccUBeneath, qqUBeneath, eBeneath, p0Beneath, p1Beneath, p2Beneath, p3Beneath, p4Beneath, lUBeneath, cUBeneath, ⟨clUBeneath, cldUBeneath, cslUBeneath, ceUBeneath⟩, cclUBeneath, cddUBeneath, vsUBeneath, ccsUBeneath, fileUBeneath, tfUBeneath, coUBeneath, vsU2Beneath, fiUBeneath, evUBeneath⟩, upUBeneath, meUBeneath, veUBeneath, opU, tpU⟩
  have hUNoOrder : SupC P K c_NoOrder f_UNoOrder := ⟨⟨⟨nmUNoOrder, qUNoOrder, NUNoOrder, bsUNoOrder, bmUNoOrder, snUNoOrder, subUNoOrder, abUNoOrder, colUNoOrder, ddUNoOrder, u0NoOrder, u1NoOrder, u2NoOrder, u3NoOrder, u5NoOrder, xUNoOrder, rvUNoOrder⟩, saUNoOrder, exUNoOrder, tyUNoOrder, kcUNoOrder⟩, iUNoOrder, tiUNoOrder, ⟨ocUNoOrder, odUNoOrder, kVUNoOrder, docUNoOrder, pmUNoOrder, anUNoOrder, cdUNoOrder, ctUNoOrder, slUNoOrder, ccUNoOrder, qqUNoOrder, eNoOrder, p0NoOrder, p1NoOrder, p2NoOrder, p3NoOrder, p4NoOrder, lUNoOrder, cUNoOrder, ⟨clUNoOrder, cldUNoOrder, cslUNoOrder, ceUNoOrder⟩, cclUNoOrder, cddUNoOrder, vsUNoOrder, ccsUNoOrder, fileUNoOrder, tfUNoOrder, coUNoOrder, vsU2NoOrder, fiUNoOrder, evUNoOrder⟩, upUNoOrder, meUNoOrder, veUNoOrder, opU, tpU⟩
  have hUNoView : SupC P K c_NoView f_UNoView := ⟨⟨⟨nmUNoView, qUNoView, NUNoView, bsUNoView, bmUNoView, snUNoView, subUNoView, abUNoView, colUNoView, ddUNoView, u0NoView, u1NoView, u2NoView, u3NoView, u5NoView, xUNoView, rvUNoView⟩, saUNoView, exUNoView, tyUNoView, kcUNoView⟩, iUNoView, tiUNoView, ⟨ocUNoView, odUNoView, kVUNoView, docUNoView, pmUNoView, anUNoView, cdUNoView, ctUNoView, slUNoView, ccUNoView, qqUNoView, eNoView, p0NoView, p1NoView, p2NoView, p3NoView, p4NoView, lUNoView, cUNoView, ⟨clUNoView, cldUNoView, cslUNoView, ceUNoView⟩, cclUNoView, cddUNoView, vsUNoView, ccsUNoView, fileUNoView, tfUNoView, coUNoView, vsU2NoView, fiUNoView, evUNoView⟩, upUNoView, meUNoView, veUNoView, opU, tpU⟩
  have hUOtherBlocks : SupC P K c_OtherBlocks f_UOtherBlocks := ⟨⟨⟨nmUOtherBlocks, qUOtherBlocks, NUOtherBlocks, bsUOtherBlocks, bmUOtherBlocks, snUOtherBlocks, subUOtherBlocks, abUOtherBlocks, colUOtherBlocks, ddUOtherBlocks, u0OtherBlocks, u1OtherBlocks, u2OtherBlocks, u3OtherBlocks, u5OtherBlocks, xUOtherBlocks, rvUOtherBlocks⟩, saUOtherBlocks, exUOtherBlocks, tyUOtherBlocks, kcUOtherBlocks⟩, iUOtherBlocks, tiUOtherBlocks, ⟨ocUOtherBlocks, odUOtherBlocks, kVUOtherBlocks, docUOtherBlocks, pmUOtherBlocks, anUOtherBlocks, cdUOtherBlocks, ctUOtherBlocks, slUOtherBlocks, ccUOtherBlocks, qqUOtherBlocks, eOtherBlocks, p0OtherBlocks, p1OtherBlocks, p2OtherBlocks, p3OtherBlocks, p4OtherBlocks, lUOtherBlocks, cUOtherBlocks, ⟨clUOtherBlocks, cldUOtherBlocks, cslUOtherBlocks, ceUOtherBlocks⟩, cclUOtherBlocks, cddUOtherBlocks, vsUOtherBlocks, ccsUOtherBlocks, fileUOtherBlocks, tfUOtherBlocks, coUOtherBlocks, vsU2OtherBlocks, fiUOtherBlocks, evUOtherBlocks⟩, upUOtherBlocks, meUOtherBlocks, veUOtherBlocks, opU, tpU⟩
  have hUNoNumber : SupC P K c_NoNumber f_UNoNumber := ⟨⟨⟨nmUNoNumber, qUNoNumber, NUNoNumber, bsUNoNumber, bmUNoNumber, snUNoNumber, subUNoNumber, abUNoNumber, colUNoNumber, ddUNoNumber, u0NoNumber, u1NoNumber, u2NoNumber, u3NoNumber, u5NoNumber, xUNoNumber, rvUNoNumber⟩, saUNoNumber, exUNoNumber, tyUNoNumber, kcUNoNumber⟩, iUNoNumber, tiUNoNumber, ⟨ocUNoNumber, odUNoNumber, kVUNoNumber, docUNoNumber, pmUNoNumber, anUNoNumber, cdUNoNumber, ctUNoNumber, slUNoNumber, ccUNoNumber, qqUNoNumber, eNoNumber, p0NoNumber, p1NoNumber, p2NoNumber, p3NoNumber, p4NoNumber, lUNoNumber, cUNoNumber, ⟨clUNoNumber, cldUNoNumber, cslUNoNumber, ceUNoNumber⟩, cclUNoNumber, cddUNoNumber, vsUNoNumber, ccsUNoNumber, fileUNoNumber, tfUNoNumber, coUNoNumber, vsU2NoNumber, fiUNoNumber, evUNoNumber⟩, upUNoNumber, meUNoNumber, veUNoNumber, opU, tpU⟩
  have hNTree : OwnN K c_Tree f_Tree___eq__ := ⟨⟨nmNTree, qNTree, NNTree, bsNTree, hdNTree, snNTree, subNTree, abNTree, colNTree, ddNTree, w0Tree, w1Tree, w2Tree, w3Tree, w5Tree, newNTree, xNTree, okNTree, eqNTree, neNTree⟩, tqNTree⟩
  have hOTree : OwnQ K c_Tree f_Tree___eq__ := ⟨a_Tree___eq__, i_Tree___eq__⟩
  have hnt : PySem.W.kitOne K (.ref c_Tree) (.type "tuple") = some false := kit_typ (by decide +kernel) swtuple
  have hEK : ∀ i, i < 7 → ErrK K ⟨c_VoteError, c_BadTree, c_NoBlock, c_NoPlace, c_Beneath, c_NoOrder, c_NoView, c_OtherBlocks, c_NoNumber, c_Tree, t_MOST_BLOCKS, t_MOST_STEPS⟩ i := fun i hi => by
    match i, hi with
    | 0, _ =>
      refine ⟨⟨gaENoBlock, ggENoBlock, exUNoBlock, hdENoBlock, haENoBlock, spO, tkO, hmENoBlock⟩, PySem.W.exm_ref exV hdV tyV sVNoBlock, fun j hj => ?_, kit_typ (by decide +kernel) veUNoBlock⟩
      match j, hj with
      | 0, _ => exact if_pos (beq_self_eq_true _)
      | 1, _ => exact kit_ref neNoBlock_NoPlace icNoPlace tyUNoPlace suNoBlock_NoPlace
      | 2, _ => exact kit_ref neNoBlock_Beneath icBeneath tyUBeneath suNoBlock_Beneath
      | 3, _ => exact kit_ref neNoBlock_NoOrder icNoOrder tyUNoOrder suNoBlock_NoOrder
      | 4, _ => exact kit_ref neNoBlock_NoView icNoView tyUNoView suNoBlock_NoView
      | 5, _ => exact kit_ref neNoBlock_OtherBlocks icOtherBlocks tyUOtherBlocks suNoBlock_OtherBlocks
      | 6, _ => exact kit_ref neNoBlock_NoNumber icNoNumber tyUNoNumber suNoBlock_NoNumber
    | 1, _ =>
      refine ⟨⟨gaENoPlace, ggENoPlace, exUNoPlace, hdENoPlace, haENoPlace, spO, tkO, hmENoPlace⟩, PySem.W.exm_ref exV hdV tyV sVNoPlace, fun j hj => ?_, kit_typ (by decide +kernel) veUNoPlace⟩
      match j, hj with
      | 0, _ => exact kit_ref neNoPlace_NoBlock icNoBlock tyUNoBlock suNoPlace_NoBlock
      | 1, _ => exact if_pos (beq_self_eq_true _)
      | 2, _ => exact kit_ref neNoPlace_Beneath icBeneath tyUBeneath suNoPlace_Beneath
      | 3, _ => exact kit_ref neNoPlace_NoOrder icNoOrder tyUNoOrder suNoPlace_NoOrder
      | 4, _ => exact kit_ref neNoPlace_NoView icNoView tyUNoView suNoPlace_NoView
      | 5, _ => exact kit_ref neNoPlace_OtherBlocks icOtherBlocks tyUOtherBlocks suNoPlace_OtherBlocks
      | 6, _ => exact kit_ref neNoPlace_NoNumber icNoNumber tyUNoNumber suNoPlace_NoNumber
    | 2, _ =>
      refine ⟨⟨gaEBeneath, ggEBeneath, exUBeneath, hdEBeneath, haEBeneath, spO, tkO, hmEBeneath⟩, PySem.W.exm_ref exV hdV tyV sVBeneath, fun j hj => ?_, kit_typ (by decide +kernel) veUBeneath⟩
      match j, hj with
      | 0, _ => exact kit_ref neBeneath_NoBlock icNoBlock tyUNoBlock suBeneath_NoBlock
      | 1, _ => exact kit_ref neBeneath_NoPlace icNoPlace tyUNoPlace suBeneath_NoPlace
      | 2, _ => exact if_pos (beq_self_eq_true _)
      | 3, _ => exact kit_ref neBeneath_NoOrder icNoOrder tyUNoOrder suBeneath_NoOrder
      | 4, _ => exact kit_ref neBeneath_NoView icNoView tyUNoView suBeneath_NoView
      | 5, _ => exact kit_ref neBeneath_OtherBlocks icOtherBlocks tyUOtherBlocks suBeneath_OtherBlocks
      | 6, _ => exact kit_ref neBeneath_NoNumber icNoNumber tyUNoNumber suBeneath_NoNumber
    | 3, _ =>
      refine ⟨⟨gaENoOrder, ggENoOrder, exUNoOrder, hdENoOrder, haENoOrder, spO, tkO, hmENoOrder⟩, PySem.W.exm_ref exV hdV tyV sVNoOrder, fun j hj => ?_, kit_typ (by decide +kernel) veUNoOrder⟩
      match j, hj with
      | 0, _ => exact kit_ref neNoOrder_NoBlock icNoBlock tyUNoBlock suNoOrder_NoBlock
      | 1, _ => exact kit_ref neNoOrder_NoPlace icNoPlace tyUNoPlace suNoOrder_NoPlace
      | 2, _ => exact kit_ref neNoOrder_Beneath icBeneath tyUBeneath suNoOrder_Beneath
      | 3, _ => exact if_pos (beq_self_eq_true _)
      | 4, _ => exact kit_ref neNoOrder_NoView icNoView tyUNoView suNoOrder_NoView
      | 5, _ => exact kit_ref neNoOrder_OtherBlocks icOtherBlocks tyUOtherBlocks suNoOrder_OtherBlocks
      | 6, _ => exact kit_ref neNoOrder_NoNumber icNoNumber tyUNoNumber suNoOrder_NoNumber
    | 4, _ =>
      refine ⟨⟨gaENoView, ggENoView, exUNoView, hdENoView, haENoView, spO, tkO, hmENoView⟩, PySem.W.exm_ref exV hdV tyV sVNoView, fun j hj => ?_, kit_typ (by decide +kernel) veUNoView⟩
      match j, hj with
      | 0, _ => exact kit_ref neNoView_NoBlock icNoBlock tyUNoBlock suNoView_NoBlock
      | 1, _ => exact kit_ref neNoView_NoPlace icNoPlace tyUNoPlace suNoView_NoPlace
      | 2, _ => exact kit_ref neNoView_Beneath icBeneath tyUBeneath suNoView_Beneath
      | 3, _ => exact kit_ref neNoView_NoOrder icNoOrder tyUNoOrder suNoView_NoOrder
      | 4, _ => exact if_pos (beq_self_eq_true _)
      | 5, _ => exact kit_ref neNoView_OtherBlocks icOtherBlocks tyUOtherBlocks suNoView_OtherBlocks
      | 6, _ => exact kit_ref neNoView_NoNumber icNoNumber tyUNoNumber suNoView_NoNumber
    | 5, _ =>
      refine ⟨⟨gaEOtherBlocks, ggEOtherBlocks, exUOtherBlocks, hdEOtherBlocks, haEOtherBlocks, spO, tkO, hmEOtherBlocks⟩, PySem.W.exm_ref exV hdV tyV sVOtherBlocks, fun j hj => ?_, kit_typ (by decide +kernel) veUOtherBlocks⟩
      match j, hj with
      | 0, _ => exact kit_ref neOtherBlocks_NoBlock icNoBlock tyUNoBlock suOtherBlocks_NoBlock
      | 1, _ => exact kit_ref neOtherBlocks_NoPlace icNoPlace tyUNoPlace suOtherBlocks_NoPlace
      | 2, _ => exact kit_ref neOtherBlocks_Beneath icBeneath tyUBeneath suOtherBlocks_Beneath
      | 3, _ => exact kit_ref neOtherBlocks_NoOrder icNoOrder tyUNoOrder suOtherBlocks_NoOrder
      | 4, _ => exact kit_ref neOtherBlocks_NoView icNoView tyUNoView suOtherBlocks_NoView
      | 5, _ => exact if_pos (beq_self_eq_true _)
      | 6, _ => exact kit_ref neOtherBlocks_NoNumber icNoNumber tyUNoNumber suOtherBlocks_NoNumber
    | 6, _ =>
      refine ⟨⟨gaENoNumber, ggENoNumber, exUNoNumber, hdENoNumber, haENoNumber, spO, tkO, hmENoNumber⟩, PySem.W.exm_ref exV hdV tyV sVNoNumber, fun j hj => ?_, kit_typ (by decide +kernel) veUNoNumber⟩
      match j, hj with
      | 0, _ => exact kit_ref neNoNumber_NoBlock icNoBlock tyUNoBlock suNoNumber_NoBlock
      | 1, _ => exact kit_ref neNoNumber_NoPlace icNoPlace tyUNoPlace suNoNumber_NoPlace
      | 2, _ => exact kit_ref neNoNumber_Beneath icBeneath tyUBeneath suNoNumber_Beneath
      | 3, _ => exact kit_ref neNoNumber_NoOrder icNoOrder tyUNoOrder suNoNumber_NoOrder
      | 4, _ => exact kit_ref neNoNumber_NoView icNoView tyUNoView suNoNumber_NoView
      | 5, _ => exact kit_ref neNoNumber_OtherBlocks icOtherBlocks tyUOtherBlocks suNoNumber_OtherBlocks
      | 6, _ => exact if_pos (beq_self_eq_true _)
  have FC_law : FunC K "law" s_law fa _ cc_law := ⟨_, _, _, _, _, _, _, _, rfl, l_law, c_law⟩
  have FC_ord : FunC K "_law_order_refused" s__law_order_refused f__law_order_refused _ cc_ord := ⟨_, _, _, _, _, _, _, _, rfl, l__law_order_refused, c__law_order_refused⟩
  have FC_vw : FunC K "_law_views_refused" s__law_views_refused f__law_views_refused _ cc_vw := ⟨_, _, _, _, _, _, _, _, rfl, l__law_views_refused, c__law_views_refused⟩
  have eT : ∃ T : List (Addr × Str), T = [(P_law, (PyProof.Rows.envOfC "law" (defScope s_law) 0 fa (.ref cc_law)).qual ++ "<lambda>"), (P_ord, (PyProof.Rows.envOfC "_law_order_refused" (defScope s__law_order_refused) 0 f__law_order_refused (.ref cc_ord)).qual ++ "<lambda>"), (P_vw, (PyProof.Rows.envOfC "_law_views_refused" (defScope s__law_views_refused) 0 f__law_views_refused (.ref cc_vw)).qual ++ "<lambda>")] := ⟨_, rfl⟩
  obtain ⟨T, eT⟩ := eT
  have in_law : (P_law, (PyProof.Rows.envOfC "law" (defScope s_law) 0 fa (.ref cc_law)).qual ++ "<lambda>") ∈ T := by
    rw [eT]
    simp
  have un_law : ∀ q ∈ T, q.1 = P_law → q.2 = (PyProof.Rows.envOfC "law" (defScope s_law) 0 fa (.ref cc_law)).qual ++ "<lambda>" := fun q hq z => by
    rw [eT] at hq
    simp only [List.mem_cons, List.not_mem_nil, or_false] at hq
    rcases hq with rfl | rfl | rfl
    · rfl
    · exact (np_law_ord z.symm).elim
    · exact (np_law_vw z.symm).elim
  have in_ord : (P_ord, (PyProof.Rows.envOfC "_law_order_refused" (defScope s__law_order_refused) 0 f__law_order_refused (.ref cc_ord)).qual ++ "<lambda>") ∈ T := by
    rw [eT]
    simp
  have un_ord : ∀ q ∈ T, q.1 = P_ord → q.2 = (PyProof.Rows.envOfC "_law_order_refused" (defScope s__law_order_refused) 0 f__law_order_refused (.ref cc_ord)).qual ++ "<lambda>" := fun q hq z => by
    rw [eT] at hq
    simp only [List.mem_cons, List.not_mem_nil, or_false] at hq
    rcases hq with rfl | rfl | rfl
    · exact (np_law_ord z).elim
    · rfl
    · exact (np_ord_vw z.symm).elim
  have in_vw : (P_vw, (PyProof.Rows.envOfC "_law_views_refused" (defScope s__law_views_refused) 0 f__law_views_refused (.ref cc_vw)).qual ++ "<lambda>") ∈ T := by
    rw [eT]
    simp
  have un_vw : ∀ q ∈ T, q.1 = P_vw → q.2 = (PyProof.Rows.envOfC "_law_views_refused" (defScope s__law_views_refused) 0 f__law_views_refused (.ref cc_vw)).qual ++ "<lambda>" := fun q hq z => by
    rw [eT] at hq
    simp only [List.mem_cons, List.not_mem_nil, or_false] at hq
    rcases hq with rfl | rfl | rfl
    · exact (np_law_vw z).elim
    · exact (np_ord_vw z).elim
    · rfl
  refine ⟨PySem.W.fnOf "law" "law" (defArgs s_law) (defBody s_law) (defScope s_law) .none kV_law dc_law pm_law an_law (.ref cc_law) ct_law, [(cc_law, P_law), (cc_ord, P_ord), (cc_vw, P_vw)], T, fun q hq => ?_, fun q hq => ?_, fun q hq => ?_, fun q hq => ?_, fun s v => .of_eq rfl, fun base _ _ hTB => ?_⟩
  · simp only [List.mem_cons, List.not_mem_nil, or_false] at hq
    rcases hq with rfl | rfl | rfl
    · exact tl_law
    · exact tl_ord
    · exact tl_vw
  · simp only [List.mem_cons, List.not_mem_nil, or_false] at hq
    rcases hq with rfl | rfl | rfl
    · exact nt_law
    · exact nt_ord
    · exact nt_vw
  · simp only [List.mem_cons, List.not_mem_nil, or_false] at hq
    rcases hq with rfl | rfl | rfl
    · exact PySem.W.codeHd_of_K X hd_law
    · exact PySem.W.codeHd_of_K X hd_ord
    · exact PySem.W.codeHd_of_K X hd_vw
  · rw [eT] at hq
    simp only [List.mem_cons, List.not_mem_nil, or_false] at hq
    rcases hq with rfl | rfl | rfl
    · exact ⟨_, .head _, rfl⟩
    · exact ⟨_, .tail _ (.head _), rfl⟩
    · exact ⟨_, .tail _ (.tail _ (.head _)), rfl⟩
  have G_draw := ok_draw (P := P) (w := w) (base := base) F__law_draw B
  have G_mixed := ok_mixed F__law_mixed B C__law_draw G_draw
  have G_hung := ok_hung F__law_hung B C__law_draw G_draw C__law_mixed G_mixed
  have G_within := ok_within (P := P) (w := w) (base := base) F_is_within B
  have G_comes := ok_comes (P := P) (w := w) (base := base) F__comes_to_head B
  have G_bad := ok_bad (mg := mg) (P := P) (w := w) (base := base) (Z := ⟨c_VoteError, c_BadTree, c_NoBlock, c_NoPlace, c_Beneath, c_NoOrder, c_NoView, c_OtherBlocks, c_NoNumber, c_Tree, t_MOST_BLOCKS, t_MOST_STEPS⟩) F_BadTree___init__ hEBadTree
  have G_tree := ok_tree F_Tree___init__ B hcTree noTree_hung C_is_within G_within C__comes_to_head G_comes C_BadTree___init__ G_bad hEBadTree
  have G_eq := ok_eqT (P := P) (w := w) (base := base) F_Tree___eq__ B hITree noTree_hung
  have G_is2 := ok_is (P := P) (w := w) (base := base) F__law_is B C__law_is 2
  have G_isb := ok_isBlock F_is_block B hcTree noTree_hung C_is_within G_within
  have G_isp := ok_isPlace F_is_place B hcTree noTree_hung C_is_within G_within
  have G_place := ok_place F_place_of B hcTree noTree_hung C_is_block G_isb
  have G_placeW := FnOk.or (FnOk.up G_place) (ok_placeE F_place_of B hcTree noTree_hung hUNoBlock C_is_block G_isb)
  have G_par := ok_parents F_parents B C_place_of G_place
  have G_parW := FnOk.or (FnOk.up G_par) (ok_parentsE F_parents B C_place_of G_placeW)
  have G_under := ok_under F_under B hcTree noTree_hung C_is_place G_isp
  have G_underW := FnOk.or (FnOk.up G_under) (ok_underE F_under B hcTree noTree_hung hUNoPlace C_is_place G_isp)
  have G_ben := ok_beneath F_beneath B hcTree noTree_hung C_is_place G_isp C_parents G_par
  have G_benW := FnOk.or (FnOk.up G_ben) (ok_beneathE F_beneath B hcTree noTree_hung hUNoPlace C_is_place G_isp C_parents G_par)
  have G_movW := FnOk.or (ok_movedB F_moved B hcTree noTree_hung hUNoBlock hUNoPlace hUBeneath C_is_block G_isb C_is_place G_isp C_beneath G_ben C_Tree___init__ G_tree hMTree) (ok_movedE F_moved B hcTree noTree_hung hUNoBlock hUNoPlace hUBeneath C_is_block G_isb C_is_place G_isp C_beneath G_ben C_Tree___init__ G_tree hMTree)
  have G_ord := ok_ord F__is_order B hcTree noTree_hung C_is_block G_isb
  have G_called := ok_called F_called B hcTree noTree_hung C__is_order G_ord C_Tree___init__ G_tree hMTree
  have G_ordF := ok_ordF F__is_order B hITree hnt hcTree noTree_hung C_is_block G_isb
  have G_calledW := FnOk.or (FnOk.up G_called) (ok_calledE F_called B hcTree noTree_hung hUNoOrder C__is_order G_ordF C_Tree___init__ G_tree hMTree)
  have G_isv := ok_isView F_is_view B C_is_within G_within
  have G_isvG := FnOk.or G_isv (ok_isViewF F_is_view B hITree hnt C_is_within G_within)
  have G_row := ok_row F__row_told B C_parents G_par
  have G_ties := ok_ties F__ties_told B C_under G_under
  have G_tell := ok_tell F_telling B C_is_view G_isv C_is_place G_isp C__row_told G_row C__ties_told G_ties
  have G_tellW := FnOk.or (FnOk.up G_tell) (ok_tellE F_telling B hUNoView hUNoPlace C_is_view G_isvG C_is_place G_isp C__row_told G_row C__ties_told G_ties)
  have G_unlike := ok_unlike F_unlike B hITree hcTree noTree_hung C_is_view G_isv C_telling G_tell
  have G_unlikeW := FnOk.or (FnOk.up G_unlike) (ok_unlikeE F_unlike B hITree hcTree noTree_hung hUOtherBlocks hUNoView C_is_view G_isvG C_telling G_tell)
  have G_distW := FnOk.or (FnOk.up (ok_dist F_distance B C_is_view G_isv)) (ok_distE F_distance B hUNoView C_is_view G_isvG)
  have G_twinsW := FnOk.or (FnOk.up (ok_twins F_twins B C_is_view G_isv C_is_within G_within C_Tree___init__ G_tree hMTree)) (ok_twinsE F_twins B hUNoView hUNoNumber C_is_view G_isvG C_is_within G_within C_Tree___init__ G_tree hMTree)
  have G_number := ok_number (P := P) (w := w) (base := base) F__law_is_number B
  have G_deep := ok_deep (P := P) (w := w) (base := base) F__law_deep B
  have G_pick := ok_pick F__law_pick B C__law_draw G_draw
  have G_odd := ok_odd F__law_odd B C__law_pick G_pick C__law_deep G_deep
  have G_way := ok_way (P := P) (w := w) (base := base) F__law_way B
  have G_pool := ok_pool (P := P) (w := w) (base := base) F__law_pool B
  have G_ordR := ok_ordRef (T := T) FC_ord B hITree hnt hEK (hTB (cc_ord, P_ord) (.tail _ (.head _))) in_ord un_ord F__law_word C__law_word C__law_draw G_draw C__law_mixed G_mixed C__law_odd G_odd C__law_deep G_deep C__law_pick G_pick C__law_is_number G_number C_called G_calledW
  have G_vwR := ok_vwRef (T := T) FC_vw B hITree hnt hcTree noTree_hung hEK (hTB (cc_vw, P_vw) (.tail _ (.tail _ (.head _)))) in_vw un_vw F__law_word C__law_word C__law_draw G_draw C__law_odd G_odd C__law_deep G_deep C__law_pick G_pick C__law_is_number G_number C_telling G_tellW C_unlike G_unlikeW C_distance G_distW C_twins G_twinsW C_Tree___init__ G_tree hMTree C_Tree___eq__ G_eq hNTree
  exact ok_lawR (T := T) FC_law B hcTree noTree_hung hEK (hTB (cc_law, P_law) (.head _)) in_law un_law F__law_word C__law_word C__law_pool G_pool C__law_draw G_draw C__law_hung G_hung C__law_odd G_odd C__law_is_number G_number C__law_way G_way C__law_is G_is2 C_place_of G_placeW C_parents G_parW C_under G_underW C_beneath G_benW C_moved G_movW C__law_order_refused G_ordR C__law_views_refused G_vwR C_Tree___init__ G_tree hMTree
end Fv
open PySem PySem.W PyProof.Rows in
set_option maxRecDepth 100000 in
set_option maxHeartbeats 0 in
theorem PySem.Challenge.cw_foldervotes_k05_trees_and_views_refused_holds : PySem.Challenge.rw_foldervotes_k05_trees_and_views_refused.Holds := by
  refine Fv.hd ?_
  k_fill
  refine LamX.walk_ofTs (l := PySem.Challenge.rw_foldervotes_k05_trees_and_views_refused) (n := 63) (k := 12) (x := "_law_script") (CX := fun _ => L2.CX0) rfl (by decide) rfl ⟨rfl, by decide, by decide⟩ (fun w h Y => PySem.W.km_in_of Y) ?F (fun _ _ _ _ _ h => h)
  case F =>
   as_aux_lemma =>
    intro w mg fa h Y KX G hmg
    refine Fv.LawAt.s ?_
    refine' Fv.all_mk KX G hmg ?n_VoteError ?n_BadTree ?n_NoBlock ?n_NoPlace ?n_Beneath ?n_NoOrder ?n_NoView ?n_OtherBlocks ?n_NoNumber ?n_Tree ?n_MOST_BLOCKS ?n_MOST_STEPS ?z_ValueError ?z_abs ?z_all ?z_bool ?z_dict ?z_enumerate ?z_int ?z_isinstance ?z_len ?z_list ?z_range ?z_sorted ?z_str ?z_super ?z_tuple ?a_BadTree___init__ ?i_BadTree___init__ ?l_BadTree___init__ ?c_BadTree___init__ ?k_BadTree___init__ ?a_is_within ?l_is_within ?c_is_within ?k_is_within ?a_Tree___init__ ?i_Tree___init__ ?l_Tree___init__ ?c_Tree___init__ ?k_Tree___init__ ?a__comes_to_head ?l__comes_to_head ?c__comes_to_head ?k__comes_to_head ?a_is_block ?l_is_block ?c_is_block ?k_is_block ?a_is_place ?l_is_place ?c_is_place ?k_is_place ?a_place_of ?l_place_of ?c_place_of ?k_place_of ?a_parents ?l_parents ?c_parents ?k_parents ?a_under ?l_under ?c_under ?k_under ?a_beneath ?l_beneath ?c_beneath ?k_beneath ?a_moved ?l_moved ?c_moved ?k_moved ?a_called ?l_called ?c_called ?k_called ?a__is_order ?l__is_order ?c__is_order ?k__is_order ?a_is_view ?l_is_view ?c_is_view ?k_is_view ?a_telling ?l_telling ?c_telling ?k_telling ?a__row_told ?l__row_told ?c__row_told ?k__row_told ?a__ties_told ?l__ties_told ?c__ties_told ?k__ties_told ?a_unlike ?l_unlike ?c_unlike ?k_unlike ?a_distance ?l_distance ?c_distance ?k_distance ?a_twins ?l_twins ?c_twins ?k_twins ?a__law_pool ?l__law_pool ?c__law_pool ?k__law_pool ?a__law_draw ?l__law_draw ?c__law_draw ?k__law_draw ?a__law_pick ?l__law_pick ?c__law_pick ?k__law_pick ?a__law_is ?l__law_is ?c__law_is ?k__law_is ?a__law_deep ?l__law_deep ?c__law_deep ?k__law_deep ?a__law_is_number ?l__law_is_number ?c__law_is_number ?k__law_is_number ?a__law_mixed ?l__law_mixed ?c__law_mixed ?k__law_mixed ?a__law_hung ?l__law_hung ?c__law_hung ?k__law_hung ?a__law_way ?l__law_way ?c__law_way ?k__law_way ?a__law_odd ?l__law_odd ?c__law_odd ?k__law_odd ?a__law_word ?l__law_word ?c__law_word ?k__law_word ?a__law_order_refused ?l__law_order_refused ?c__law_order_refused ?k__law_order_refused ?a__law_views_refused ?l__law_views_refused ?c__law_views_refused ?k__law_views_refused ?a_law ?l_law ?c_law ?k_law ?pgTree ?hdTree ?poTree ?saTree ?mkTree ?kcTree ?noTree_hung ?haTree ?hmTree ?icTree ?tyTree ?spO ?tkO ?xLBadTree ?rvBadTree ?saEBadTree ?exEBadTree ?tyEBadTree ?kcEBadTree ?tiEBadTree ?noEBadTree ?xUNoBlock ?rvUNoBlock ?saUNoBlock ?exUNoBlock ?tyUNoBlock ?kcUNoBlock ?iUNoBlock ?tiUNoBlock ?lUNoBlock ?cUNoBlock ?ceUNoBlock ?coUNoBlock ?vsU2NoBlock ?fiUNoBlock ?evUNoBlock ?upUNoBlock ?meUNoBlock ?veUNoBlock ?opU ?tpU ?xUNoPlace ?rvUNoPlace ?saUNoPlace ?exUNoPlace ?tyUNoPlace ?kcUNoPlace ?iUNoPlace ?tiUNoPlace ?lUNoPlace ?cUNoPlace ?ceUNoPlace ?coUNoPlace ?vsU2NoPlace ?fiUNoPlace ?evUNoPlace ?upUNoPlace ?meUNoPlace ?veUNoPlace ?xUBeneath ?rvUBeneath ?saUBeneath ?exUBeneath ?tyUBeneath ?kcUBeneath ?iUBeneath ?tiUBeneath ?lUBeneath ?cUBeneath ?ceUBeneath ?coUBeneath ?vsU2Beneath ?fiUBeneath ?evUBeneath ?upUBeneath ?meUBeneath ?veUBeneath ?xUNoOrder ?rvUNoOrder ?saUNoOrder ?exUNoOrder ?tyUNoOrder ?kcUNoOrder ?iUNoOrder ?tiUNoOrder ?lUNoOrder ?cUNoOrder ?ceUNoOrder ?coUNoOrder ?vsU2NoOrder ?fiUNoOrder ?evUNoOrder ?upUNoOrder ?meUNoOrder ?veUNoOrder ?xUNoView ?rvUNoView ?saUNoView ?exUNoView ?tyUNoView ?kcUNoView ?iUNoView ?tiUNoView ?lUNoView ?cUNoView ?ceUNoView ?coUNoView ?vsU2NoView ?fiUNoView ?evUNoView ?upUNoView ?meUNoView ?veUNoView ?xUOtherBlocks ?rvUOtherBlocks ?saUOtherBlocks ?exUOtherBlocks ?tyUOtherBlocks ?kcUOtherBlocks ?iUOtherBlocks ?tiUOtherBlocks ?lUOtherBlocks ?cUOtherBlocks ?ceUOtherBlocks ?coUOtherBlocks ?vsU2OtherBlocks ?fiUOtherBlocks ?evUOtherBlocks ?upUOtherBlocks ?meUOtherBlocks ?veUOtherBlocks ?xUNoNumber ?rvUNoNumber ?saUNoNumber ?exUNoNumber ?tyUNoNumber ?kcUNoNumber ?iUNoNumber ?tiUNoNumber ?lUNoNumber ?cUNoNumber ?ceUNoNumber ?coUNoNumber ?vsU2NoNumber ?fiUNoNumber ?evUNoNumber ?upUNoNumber ?meUNoNumber ?veUNoNumber ?a_Tree___eq__ ?i_Tree___eq__ ?l_Tree___eq__ ?c_Tree___eq__ ?k_Tree___eq__ ?xNTree ?okNTree ?eqNTree ?neNTree ?tqNTree ?swtuple ?exV ?hdV ?tyV ?gaENoBlock ?ggENoBlock ?hdENoBlock ?haENoBlock ?hmENoBlock ?sVNoBlock ?icNoBlock ?gaENoPlace ?ggENoPlace ?hdENoPlace ?haENoPlace ?hmENoPlace ?sVNoPlace ?icNoPlace ?gaEBeneath ?ggEBeneath ?hdEBeneath ?haEBeneath ?hmEBeneath ?sVBeneath ?icBeneath ?gaENoOrder ?ggENoOrder ?hdENoOrder ?haENoOrder ?hmENoOrder ?sVNoOrder ?icNoOrder ?gaENoView ?ggENoView ?hdENoView ?haENoView ?hmENoView ?sVNoView ?icNoView ?gaEOtherBlocks ?ggEOtherBlocks ?hdEOtherBlocks ?haEOtherBlocks ?hmEOtherBlocks ?sVOtherBlocks ?icOtherBlocks ?gaENoNumber ?ggENoNumber ?hdENoNumber ?haENoNumber ?hmENoNumber ?sVNoNumber ?icNoNumber ?neNoBlock_NoPlace ?suNoBlock_NoPlace ?neNoBlock_Beneath ?suNoBlock_Beneath ?neNoBlock_NoOrder ?suNoBlock_NoOrder ?neNoBlock_NoView ?suNoBlock_NoView ?neNoBlock_OtherBlocks ?suNoBlock_OtherBlocks ?neNoBlock_NoNumber ?suNoBlock_NoNumber ?neNoPlace_NoBlock ?suNoPlace_NoBlock ?neNoPlace_Beneath ?suNoPlace_Beneath ?neNoPlace_NoOrder ?suNoPlace_NoOrder ?neNoPlace_NoView ?suNoPlace_NoView ?neNoPlace_OtherBlocks ?suNoPlace_OtherBlocks ?neNoPlace_NoNumber ?suNoPlace_NoNumber ?neBeneath_NoBlock ?suBeneath_NoBlock ?neBeneath_NoPlace ?suBeneath_NoPlace ?neBeneath_NoOrder ?suBeneath_NoOrder ?neBeneath_NoView ?suBeneath_NoView ?neBeneath_OtherBlocks ?suBeneath_OtherBlocks ?neBeneath_NoNumber ?suBeneath_NoNumber ?neNoOrder_NoBlock ?suNoOrder_NoBlock ?neNoOrder_NoPlace ?suNoOrder_NoPlace ?neNoOrder_Beneath ?suNoOrder_Beneath ?neNoOrder_NoView ?suNoOrder_NoView ?neNoOrder_OtherBlocks ?suNoOrder_OtherBlocks ?neNoOrder_NoNumber ?suNoOrder_NoNumber ?neNoView_NoBlock ?suNoView_NoBlock ?neNoView_NoPlace ?suNoView_NoPlace ?neNoView_Beneath ?suNoView_Beneath ?neNoView_NoOrder ?suNoView_NoOrder ?neNoView_OtherBlocks ?suNoView_OtherBlocks ?neNoView_NoNumber ?suNoView_NoNumber ?neOtherBlocks_NoBlock ?suOtherBlocks_NoBlock ?neOtherBlocks_NoPlace ?suOtherBlocks_NoPlace ?neOtherBlocks_Beneath ?suOtherBlocks_Beneath ?neOtherBlocks_NoOrder ?suOtherBlocks_NoOrder ?neOtherBlocks_NoView ?suOtherBlocks_NoView ?neOtherBlocks_NoNumber ?suOtherBlocks_NoNumber ?neNoNumber_NoBlock ?suNoNumber_NoBlock ?neNoNumber_NoPlace ?suNoNumber_NoPlace ?neNoNumber_Beneath ?suNoNumber_Beneath ?neNoNumber_NoOrder ?suNoNumber_NoOrder ?neNoNumber_NoView ?suNoNumber_NoView ?neNoNumber_OtherBlocks ?suNoNumber_OtherBlocks ?co_law ?v11_law ?hd_law ?nt_law ?tl_law ?co_ord ?v11_ord ?hd_ord ?nt_ord ?tl_ord ?co_vw ?v11_vw ?hd_vw ?nt_vw ?tl_vw ?np_law_ord ?np_law_vw ?np_ord_vw
    (case n_VoteError => k_is)
    (case n_BadTree => k_is)
    (case n_NoBlock => k_is)
    (case n_NoPlace => k_is)
    (case n_Beneath => k_is)
    (case n_NoOrder => k_is)
    (case n_NoView => k_is)
    (case n_OtherBlocks => k_is)
    (case n_NoNumber => k_is)
    (case n_Tree => k_is)
    (case n_MOST_BLOCKS => k_is)
    (case n_MOST_STEPS => k_is)
    (case z_ValueError => k_is)
    (case z_abs => k_is)
    (case z_all => k_is)
    (case z_bool => k_is)
    (case z_dict => k_is)
    (case z_enumerate => k_is)
    (case z_int => k_is)
    (case z_isinstance => k_is)
    (case z_len => k_is)
    (case z_list => k_is)
    (case z_range => k_is)
    (case z_sorted => k_is)
    (case z_str => k_is)
    (case z_super => k_is)
    (case z_tuple => k_is)
    (case a_BadTree___init__ => k_is)
    (case i_BadTree___init__ => k_is)
    (case l_BadTree___init__ => k_is)
    (case c_BadTree___init__ => k_is)
    (case k_BadTree___init__ => k_is)
    (case a_is_within => k_is)
    (case l_is_within => k_is)
    (case c_is_within => k_is)
    (case k_is_within => k_is)
    (case a_Tree___init__ => k_is)
    (case i_Tree___init__ => k_is)
    (case l_Tree___init__ => k_is)
    (case c_Tree___init__ => k_is)
    (case k_Tree___init__ => k_is)
    (case a__comes_to_head => k_is)
    (case l__comes_to_head => k_is)
    (case c__comes_to_head => k_is)
    (case k__comes_to_head => k_is)
    (case a_is_block => k_is)
    (case l_is_block => k_is)
    (case c_is_block => k_is)
    (case k_is_block => k_is)
    (case a_is_place => k_is)
    (case l_is_place => k_is)
    (case c_is_place => k_is)
    (case k_is_place => k_is)
    (case a_place_of => k_is)
    (case l_place_of => k_is)
    (case c_place_of => k_is)
    (case k_place_of => k_is)
    (case a_parents => k_is)
    (case l_parents => k_is)
    (case c_parents => k_is)
    (case k_parents => k_is)
    (case a_under => k_is)
    (case l_under => k_is)
    (case c_under => k_is)
    (case k_under => k_is)
    (case a_beneath => k_is)
    (case l_beneath => k_is)
    (case c_beneath => k_is)
    (case k_beneath => k_is)
    (case a_moved => k_is)
    (case l_moved => k_is)
    (case c_moved => k_is)
    (case k_moved => k_is)
    (case a_called => k_is)
    (case l_called => k_is)
    (case c_called => k_is)
    (case k_called => k_is)
    (case a__is_order => k_is)
    (case l__is_order => k_is)
    (case c__is_order => k_is)
    (case k__is_order => k_is)
    (case a_is_view => k_is)
    (case l_is_view => k_is)
    (case c_is_view => k_is)
    (case k_is_view => k_is)
    (case a_telling => k_is)
    (case l_telling => k_is)
    (case c_telling => k_is)
    (case k_telling => k_is)
    (case a__row_told => k_is)
    (case l__row_told => k_is)
    (case c__row_told => k_is)
    (case k__row_told => k_is)
    (case a__ties_told => k_is)
    (case l__ties_told => k_is)
    (case c__ties_told => k_is)
    (case k__ties_told => k_is)
    (case a_unlike => k_is)
    (case l_unlike => k_is)
    (case c_unlike => k_is)
    (case k_unlike => k_is)
    (case a_distance => k_is)
    (case l_distance => k_is)
    (case c_distance => k_is)
    (case k_distance => k_is)
    (case a_twins => k_is)
    (case l_twins => k_is)
    (case c_twins => k_is)
    (case k_twins => k_is)
    (case a__law_pool => k_is)
    (case l__law_pool => k_is)
    (case c__law_pool => k_is)
    (case k__law_pool => k_is)
    (case a__law_draw => k_is)
    (case l__law_draw => k_is)
    (case c__law_draw => k_is)
    (case k__law_draw => k_is)
    (case a__law_pick => k_is)
    (case l__law_pick => k_is)
    (case c__law_pick => k_is)
    (case k__law_pick => k_is)
    (case a__law_is => k_is)
    (case l__law_is => k_is)
    (case c__law_is => k_is)
    (case k__law_is => k_is)
    (case a__law_deep => k_is)
    (case l__law_deep => k_is)
    (case c__law_deep => k_is)
    (case k__law_deep => k_is)
    (case a__law_is_number => k_is)
    (case l__law_is_number => k_is)
    (case c__law_is_number => k_is)
    (case k__law_is_number => k_is)
    (case a__law_mixed => k_is)
    (case l__law_mixed => k_is)
    (case c__law_mixed => k_is)
    (case k__law_mixed => k_is)
    (case a__law_hung => k_is)
    (case l__law_hung => k_is)
    (case c__law_hung => k_is)
    (case k__law_hung => k_is)
    (case a__law_way => k_is)
    (case l__law_way => k_is)
    (case c__law_way => k_is)
    (case k__law_way => k_is)
    (case a__law_odd => k_is)
    (case l__law_odd => k_is)
    (case c__law_odd => k_is)
    (case k__law_odd => k_is)
    (case a__law_word => k_is)
    (case l__law_word => k_is)
    (case c__law_word => k_is)
    (case k__law_word => k_is)
    (case a__law_order_refused => k_is)
    (case l__law_order_refused => k_is)
    (case c__law_order_refused => k_is)
    (case k__law_order_refused => k_is)
    (case a__law_views_refused => k_is)
    (case l__law_views_refused => k_is)
    (case c__law_views_refused => k_is)
    (case k__law_views_refused => k_is)
    (case a_law => k_is)
    (case l_law => k_is)
    (case c_law => k_is)
    (case k_law => k_is)
    (case pgTree => k_is)
    (case hdTree => k_is)
    (case poTree => k_is)
    (case saTree => k_is)
    (case mkTree => k_is)
    (case kcTree => k_is)
    (case noTree_hung => k_is)
    (case haTree => k_is)
    (case hmTree => k_is)
    (case icTree => k_is)
    (case tyTree => k_is)
    (case spO => k_is)
    (case tkO => k_is)
    (case xLBadTree => k_is)
    (case rvBadTree => decide +kernel)
    (case saEBadTree => k_is)
    (case exEBadTree => k_is)
    (case tyEBadTree => k_is)
    (case kcEBadTree => k_is)
    (case tiEBadTree => k_is)
    (case noEBadTree => k_is)
    (case xUNoBlock => k_is)
    (case rvUNoBlock => decide +kernel)
    (case saUNoBlock => k_is)
    (case exUNoBlock => k_is)
    (case tyUNoBlock => k_is)
    (case kcUNoBlock => k_is)
    (case iUNoBlock => k_is)
    (case tiUNoBlock => k_is)
    (case lUNoBlock => k_is)
    (case cUNoBlock => k_is)
    (case ceUNoBlock => k_is)
    (case coUNoBlock => k_is)
    (case vsU2NoBlock => rfl)
    (case fiUNoBlock => first | rfl | decide +kernel)
    (case evUNoBlock => exact fun _ _ _ _ _ => ⟨_, rfl⟩)
    (case upUNoBlock => ks_is)
    (case meUNoBlock => k_is)
    (case veUNoBlock => k_is)
    (case opU => k_is)
    (case tpU => first | rfl | decide +kernel)
    (case xUNoPlace => k_is)
    (case rvUNoPlace => decide +kernel)
    (case saUNoPlace => k_is)
    (case exUNoPlace => k_is)
    (case tyUNoPlace => k_is)
    (case kcUNoPlace => k_is)
    (case iUNoPlace => k_is)
    (case tiUNoPlace => k_is)
    (case lUNoPlace => k_is)
    (case cUNoPlace => k_is)
    (case ceUNoPlace => k_is)
    (case coUNoPlace => k_is)
    (case vsU2NoPlace => rfl)
    (case fiUNoPlace => first | rfl | decide +kernel)
    (case evUNoPlace => exact fun _ _ _ _ _ => ⟨_, rfl⟩)
    (case upUNoPlace => ks_is)
    (case meUNoPlace => k_is)
    (case veUNoPlace => k_is)
    (case xUBeneath => k_is)
    (case rvUBeneath => decide +kernel)
    (case saUBeneath => k_is)
    (case exUBeneath => k_is)
    (case tyUBeneath => k_is)
    (case kcUBeneath => k_is)
    (case iUBeneath => k_is)
    (case tiUBeneath => k_is)
    (case lUBeneath => k_is)
    (case cUBeneath => k_is)
    (case ceUBeneath => k_is)
    (case coUBeneath => k_is)
    (case vsU2Beneath => rfl)
    (case fiUBeneath => first | rfl | decide +kernel)
    (case evUBeneath => exact fun _ _ _ _ _ => ⟨_, rfl⟩)
    (case upUBeneath => ks_is)
    (case meUBeneath => k_is)
    (case veUBeneath => k_is)
    (case xUNoOrder => k_is)
    (case rvUNoOrder => decide +kernel)
    (case saUNoOrder => k_is)
    (case exUNoOrder => k_is)
    (case tyUNoOrder => k_is)
    (case kcUNoOrder => k_is)
    (case iUNoOrder => k_is)
    (case tiUNoOrder => k_is)
    (case lUNoOrder => k_is)
    (case cUNoOrder => k_is)
    (case ceUNoOrder => k_is)
    (case coUNoOrder => k_is)
    (case vsU2NoOrder => rfl)
    (case fiUNoOrder => first | rfl | decide +kernel)
    (case evUNoOrder => exact fun _ _ _ _ _ => ⟨_, rfl⟩)
    (case upUNoOrder => ks_is)
    (case meUNoOrder => k_is)
    (case veUNoOrder => k_is)
    (case xUNoView => k_is)
    (case rvUNoView => decide +kernel)
    (case saUNoView => k_is)
    (case exUNoView => k_is)
    (case tyUNoView => k_is)
    (case kcUNoView => k_is)
    (case iUNoView => k_is)
    (case tiUNoView => k_is)
    (case lUNoView => k_is)
    (case cUNoView => k_is)
    (case ceUNoView => k_is)
    (case coUNoView => k_is)
    (case vsU2NoView => rfl)
    (case fiUNoView => first | rfl | decide +kernel)
    (case evUNoView => exact fun _ _ _ _ _ => ⟨_, rfl⟩)
    (case upUNoView => ks_is)
    (case meUNoView => k_is)
    (case veUNoView => k_is)
    (case xUOtherBlocks => k_is)
    (case rvUOtherBlocks => decide +kernel)
    (case saUOtherBlocks => k_is)
    (case exUOtherBlocks => k_is)
    (case tyUOtherBlocks => k_is)
    (case kcUOtherBlocks => k_is)
    (case iUOtherBlocks => k_is)
    (case tiUOtherBlocks => k_is)
    (case lUOtherBlocks => k_is)
    (case cUOtherBlocks => k_is)
    (case ceUOtherBlocks => k_is)
    (case coUOtherBlocks => k_is)
    (case vsU2OtherBlocks => rfl)
    (case fiUOtherBlocks => first | rfl | decide +kernel)
    (case evUOtherBlocks => exact fun _ _ _ _ _ => ⟨_, rfl⟩)
    (case upUOtherBlocks => ks_is)
    (case meUOtherBlocks => k_is)
    (case veUOtherBlocks => k_is)
    (case xUNoNumber => k_is)
    (case rvUNoNumber => decide +kernel)
    (case saUNoNumber => k_is)
    (case exUNoNumber => k_is)
    (case tyUNoNumber => k_is)
    (case kcUNoNumber => k_is)
    (case iUNoNumber => k_is)
    (case tiUNoNumber => k_is)
    (case lUNoNumber => k_is)
    (case cUNoNumber => k_is)
    (case ceUNoNumber => k_is)
    (case coUNoNumber => k_is)
    (case vsU2NoNumber => rfl)
    (case fiUNoNumber => first | rfl | decide +kernel)
    (case evUNoNumber => exact fun _ _ _ _ _ => ⟨_, rfl⟩)
    (case upUNoNumber => ks_is)
    (case meUNoNumber => k_is)
    (case veUNoNumber => k_is)
    (case a_Tree___eq__ => k_is)
    (case i_Tree___eq__ => k_is)
    (case l_Tree___eq__ => k_is)
    (case c_Tree___eq__ => k_is)
    (case k_Tree___eq__ => k_is)
    (case xNTree => k_is)
    (case okNTree => first | rfl | decide +kernel | kernel_rfl)
    (case eqNTree => k_is)
    (case neNTree => k_is)
    (case tqNTree => k_is)
    (case swtuple => k_is)
    (case exV => k_is)
    (case hdV => k_is)
    (case tyV => k_is)
    (case gaENoBlock => k_is)
    (case ggENoBlock => k_is)
    (case hdENoBlock => k_is)
    (case haENoBlock => k_is)
    (case hmENoBlock => k_is)
    (case sVNoBlock => k_is)
    (case icNoBlock => k_is)
    (case gaENoPlace => k_is)
    (case ggENoPlace => k_is)
    (case hdENoPlace => k_is)
    (case haENoPlace => k_is)
    (case hmENoPlace => k_is)
    (case sVNoPlace => k_is)
    (case icNoPlace => k_is)
    (case gaEBeneath => k_is)
    (case ggEBeneath => k_is)
    (case hdEBeneath => k_is)
    (case haEBeneath => k_is)
    (case hmEBeneath => k_is)
    (case sVBeneath => k_is)
    (case icBeneath => k_is)
    (case gaENoOrder => k_is)
    (case ggENoOrder => k_is)
    (case hdENoOrder => k_is)
    (case haENoOrder => k_is)
    (case hmENoOrder => k_is)
    (case sVNoOrder => k_is)
    (case icNoOrder => k_is)
    (case gaENoView => k_is)
    (case ggENoView => k_is)
    (case hdENoView => k_is)
    (case haENoView => k_is)
    (case hmENoView => k_is)
    (case sVNoView => k_is)
    (case icNoView => k_is)
    (case gaEOtherBlocks => k_is)
    (case ggEOtherBlocks => k_is)
    (case hdEOtherBlocks => k_is)
    (case haEOtherBlocks => k_is)
    (case hmEOtherBlocks => k_is)
    (case sVOtherBlocks => k_is)
    (case icOtherBlocks => k_is)
    (case gaENoNumber => k_is)
    (case ggENoNumber => k_is)
    (case hdENoNumber => k_is)
    (case haENoNumber => k_is)
    (case hmENoNumber => k_is)
    (case sVNoNumber => k_is)
    (case icNoNumber => k_is)
    (case neNoBlock_NoPlace => first | rfl | decide +kernel)
    (case suNoBlock_NoPlace => k_is)
    (case neNoBlock_Beneath => first | rfl | decide +kernel)
    (case suNoBlock_Beneath => k_is)
    (case neNoBlock_NoOrder => first | rfl | decide +kernel)
    (case suNoBlock_NoOrder => k_is)
    (case neNoBlock_NoView => first | rfl | decide +kernel)
    (case suNoBlock_NoView => k_is)
    (case neNoBlock_OtherBlocks => first | rfl | decide +kernel)
    (case suNoBlock_OtherBlocks => k_is)
    (case neNoBlock_NoNumber => first | rfl | decide +kernel)
    (case suNoBlock_NoNumber => k_is)
    (case neNoPlace_NoBlock => first | rfl | decide +kernel)
    (case suNoPlace_NoBlock => k_is)
    (case neNoPlace_Beneath => first | rfl | decide +kernel)
    (case suNoPlace_Beneath => k_is)
    (case neNoPlace_NoOrder => first | rfl | decide +kernel)
    (case suNoPlace_NoOrder => k_is)
    (case neNoPlace_NoView => first | rfl | decide +kernel)
    (case suNoPlace_NoView => k_is)
    (case neNoPlace_OtherBlocks => first | rfl | decide +kernel)
    (case suNoPlace_OtherBlocks => k_is)
    (case neNoPlace_NoNumber => first | rfl | decide +kernel)
    (case suNoPlace_NoNumber => k_is)
    (case neBeneath_NoBlock => first | rfl | decide +kernel)
    (case suBeneath_NoBlock => k_is)
    (case neBeneath_NoPlace => first | rfl | decide +kernel)
    (case suBeneath_NoPlace => k_is)
    (case neBeneath_NoOrder => first | rfl | decide +kernel)
    (case suBeneath_NoOrder => k_is)
    (case neBeneath_NoView => first | rfl | decide +kernel)
    (case suBeneath_NoView => k_is)
    (case neBeneath_OtherBlocks => first | rfl | decide +kernel)
    (case suBeneath_OtherBlocks => k_is)
    (case neBeneath_NoNumber => first | rfl | decide +kernel)
    (case suBeneath_NoNumber => k_is)
    (case neNoOrder_NoBlock => first | rfl | decide +kernel)
    (case suNoOrder_NoBlock => k_is)
    (case neNoOrder_NoPlace => first | rfl | decide +kernel)
    (case suNoOrder_NoPlace => k_is)
    (case neNoOrder_Beneath => first | rfl | decide +kernel)
    (case suNoOrder_Beneath => k_is)
    (case neNoOrder_NoView => first | rfl | decide +kernel)
    (case suNoOrder_NoView => k_is)
    (case neNoOrder_OtherBlocks => first | rfl | decide +kernel)
    (case suNoOrder_OtherBlocks => k_is)
    (case neNoOrder_NoNumber => first | rfl | decide +kernel)
    (case suNoOrder_NoNumber => k_is)
    (case neNoView_NoBlock => first | rfl | decide +kernel)
    (case suNoView_NoBlock => k_is)
    (case neNoView_NoPlace => first | rfl | decide +kernel)
    (case suNoView_NoPlace => k_is)
    (case neNoView_Beneath => first | rfl | decide +kernel)
    (case suNoView_Beneath => k_is)
    (case neNoView_NoOrder => first | rfl | decide +kernel)
    (case suNoView_NoOrder => k_is)
    (case neNoView_OtherBlocks => first | rfl | decide +kernel)
    (case suNoView_OtherBlocks => k_is)
    (case neNoView_NoNumber => first | rfl | decide +kernel)
    (case suNoView_NoNumber => k_is)
    (case neOtherBlocks_NoBlock => first | rfl | decide +kernel)
    (case suOtherBlocks_NoBlock => k_is)
    (case neOtherBlocks_NoPlace => first | rfl | decide +kernel)
    (case suOtherBlocks_NoPlace => k_is)
    (case neOtherBlocks_Beneath => first | rfl | decide +kernel)
    (case suOtherBlocks_Beneath => k_is)
    (case neOtherBlocks_NoOrder => first | rfl | decide +kernel)
    (case suOtherBlocks_NoOrder => k_is)
    (case neOtherBlocks_NoView => first | rfl | decide +kernel)
    (case suOtherBlocks_NoView => k_is)
    (case neOtherBlocks_NoNumber => first | rfl | decide +kernel)
    (case suOtherBlocks_NoNumber => k_is)
    (case neNoNumber_NoBlock => first | rfl | decide +kernel)
    (case suNoNumber_NoBlock => k_is)
    (case neNoNumber_NoPlace => first | rfl | decide +kernel)
    (case suNoNumber_NoPlace => k_is)
    (case neNoNumber_Beneath => first | rfl | decide +kernel)
    (case suNoNumber_Beneath => k_is)
    (case neNoNumber_NoOrder => first | rfl | decide +kernel)
    (case suNoNumber_NoOrder => k_is)
    (case neNoNumber_NoView => first | rfl | decide +kernel)
    (case suNoNumber_NoView => k_is)
    (case neNoNumber_OtherBlocks => first | rfl | decide +kernel)
    (case suNoNumber_OtherBlocks => k_is)
    (case co_law => k_is)
    (case v11_law => rfl)
    (case hd_law => first | rfl | kernel_rfl | decide +kernel)
    (case nt_law => first | rfl | kernel_rfl | k_is)
    (case tl_law => exact PySem.W.km_tabs_of Y _ (by k_mem))
    (case co_ord => k_is)
    (case v11_ord => rfl)
    (case hd_ord => first | rfl | kernel_rfl | decide +kernel)
    (case nt_ord => first | rfl | kernel_rfl | k_is)
    (case tl_ord => exact PySem.W.km_tabs_of Y _ (by k_mem))
    (case co_vw => k_is)
    (case v11_vw => rfl)
    (case hd_vw => first | rfl | kernel_rfl | decide +kernel)
    (case nt_vw => first | rfl | kernel_rfl | k_is)
    (case tl_vw => exact PySem.W.km_tabs_of Y _ (by k_mem))
    (case np_law_ord => decide)
    (case np_law_vw => decide)
    (case np_ord_vw => decide)
